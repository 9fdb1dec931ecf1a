import PyProof.Rows.All
import Wide.All
import OpenK.AllK
import Wide.FinOn
import Open.SpecLaws
import KE.OsGo
import HandS.ForSpec
import HandS.ForMost
import HandS.Flow
import HandS.Walk
import HandS.FStr
import HandS.CallLocal
import HandS.More
import HandS.WrittenGet
import PySem.Challenge.RW_keptrecords_s01_answers
/-! Plain facts of the specification: what letting go, settling and a day leave as it was. -/
namespace Kr
open Kp01
/-- the records' part that keeping looks at -/
structure Alike (r q : Record) : Prop where
  person : r.person = q.person
  kind : r.kind = q.kind
  made : r.made = q.made
  used : r.used = q.used
  of_ : r.of_ = q.of_
theorem Alike.refl (r : Record) : Alike r r := ⟨rfl, rfl, rfl, rfl, rfl⟩
theorem Alike.trans {r q t : Record} (a : Alike r q) (b : Alike q t) : Alike r t := ⟨a.1.trans b.1, a.2.trans b.2, a.3.trans b.3, a.4.trans b.4, a.5.trans b.5⟩
theorem Alike.symm {r q : Record} (a : Alike r q) : Alike q r := ⟨a.1.symm, a.2.symm, a.3.symm, a.4.symm, a.5.symm⟩
/-- all but the day and the records is the same -/
structure SameRest (s t : House) : Prop where
  people : s.people = t.people
  grounds : s.grounds = t.grounds
  stores : s.stores = t.stores
  holds : s.holds = t.holds
theorem SameRest.refl (s : House) : SameRest s s := ⟨rfl, rfl, rfl, rfl⟩
theorem SameRest.trans {s t u : House} (a : SameRest s t) (b : SameRest t u) : SameRest s u := ⟨a.1.trans b.1, a.2.trans b.2, a.3.trans b.3, a.4.trans b.4⟩
theorem SameRest.symm {s t : House} (a : SameRest s t) : SameRest t s := ⟨a.1.symm, a.2.symm, a.3.symm, a.4.symm⟩
theorem SameRest.personOf {s t : House} (a : SameRest s t) (n : Bytes) : personOf s n = personOf t n := by unfold Kp01.personOf; rw [a.people]
theorem SameRest.storeOf {s t : House} (a : SameRest s t) (n : Bytes) : storeOf s n = storeOf t n := by unfold Kp01.storeOf; rw [a.stores]
/-- whether the record of a number is there -/
def there (s : House) (k : Nat) : Bool := match s.records[k]? with
  | some q => q.letGo.isNone
  | none => false
theorem whole_eq (s : House) (r : Record) : whole s r = r.of_.all (there s) := rfl
theorem whole_congr {s t : House} {r q : Record} (e : r.of_ = q.of_) (h : ∀ k ∈ r.of_, there s k = there t k) : whole s r = whole t q := by
  rw [whole_eq, whole_eq, ← e]
  apply Bool.eq_iff_iff.mpr
  rw [List.all_eq_true, List.all_eq_true]
  constructor
  · intro z k hk; rw [← h k hk]; exact z k hk
  · intro z k hk; rw [h k hk]; exact z k hk
theorem eventDay_congr {p : Person} {r q : Record} (a : Alike r q) (e : Event) : eventDay p r e = eventDay p q e := by
  cases e
  · show some r.made = some q.made; rw [a.made]
  · show some r.used = some q.used; rw [a.used]
  · rfl
theorem gives_congr {s t : House} {p : Person} {r q : Record} {d : Nat} {g : Ground} (a : Alike r q) (h : ∀ k ∈ r.of_, there s k = there t k) : gives s p r d g = gives t p q d g := by
  unfold gives
  rw [eventDay_congr a, a.kind, whole_congr a.of_ h]
theorem given_congr {s t : House} {r q : Record} {d : Nat} (e : SameRest s t) (a : Alike r q) (h : ∀ k ∈ r.of_, there s k = there t k) : given s r d = given t q d := by
  unfold given
  rw [e.personOf, a.person, e.grounds]
  cases Kp01.personOf t q.person with
  | none => rfl
  | some p => exact List.filter_congr fun g _ => gives_congr a h
theorem heldBy_congr {s t : House} {r q : Record} (e : SameRest s t) (a : Alike r q) : heldBy s r = heldBy t q := by
  unfold heldBy
  rw [e.holds, a.person, a.kind]
theorem keeps_congr {s t : House} {r q : Record} {d : Nat} (e : SameRest s t) (a : Alike r q) (h : ∀ k ∈ r.of_, there s k = there t k) : keeps s r d = keeps t q d := by
  unfold keeps
  rw [given_congr e a h, heldBy_congr e a]
/-- a record let go -/
def goneRec (s : House) (d : Nat) (r : Record) : Record := { r with letGo := some d, copies := r.copies.map (leaves s d) }
theorem goneRec_alike (s : House) (d : Nat) (r : Record) : Alike r (goneRec s d r) := ⟨rfl, rfl, rfl, rfl, rfl⟩
theorem leaves_congr {s t : House} (e : SameRest s t) (d : Nat) : leaves s d = leaves t d := by
  funext c
  unfold leaves
  rw [e.storeOf]
/-- one record's turn -/
def letOne (d : Nat) (s : House) (i : Nat) : House := match s.records[i]? with
  | none => s
  | some r => if r.letGo.isSome = true ∨ keeps s r d = true then s else { s with records := s.records.set i (goneRec s d r) }
theorem letGoFrom_succ (d k : Nat) (s : House) : letGoFrom d (k + 1) s = letGoFrom d k (letOne d s (s.records.length - (k + 1))) := rfl
theorem letOne_rest (d : Nat) (s : House) (i : Nat) : SameRest s (letOne d s i) ∧ (letOne d s i).day = s.day ∧ (letOne d s i).records.length = s.records.length := by
  unfold letOne
  cases e : s.records[i]? with
  | none => exact ⟨.refl s, rfl, rfl⟩
  | some r =>
    show SameRest s (if _ then _ else _) ∧ (if _ then _ else _ : House).day = _ ∧ (if _ then _ else _ : House).records.length = _
    split
    · exact ⟨.refl s, rfl, rfl⟩
    · exact ⟨⟨rfl, rfl, rfl, rfl⟩, rfl, List.length_set⟩
/-- what one turn does to the record at j -/
theorem letOne_at (d : Nat) (s : House) (i j : Nat) : (letOne d s i).records[j]? = if j = i then (s.records[i]?).map (fun r => if r.letGo.isSome = true ∨ keeps s r d = true then r else goneRec s d r) else s.records[j]? := by
  unfold letOne
  cases e : s.records[i]? with
  | none =>
    show s.records[j]? = _
    split
    · next h => subst h; rw [e]; rfl
    · rfl
  | some r =>
    show (if _ then _ else _ : House).records[j]? = _
    have hi : i < s.records.length := (List.getElem?_eq_some_iff.mp e).1
    by_cases c : r.letGo.isSome = true ∨ keeps s r d = true
    · rw [if_pos c]
      split
      · next h => subst h; rw [e]; show some r = some (if _ then _ else _); rw [if_pos c]
      · rfl
    · rw [if_neg c]
      show (s.records.set i (goneRec s d r))[j]? = _
      rw [List.getElem?_set]
      by_cases h : i = j
      · subst h
        rw [if_pos rfl, if_pos rfl, if_pos hi]
        show _ = some (if _ then _ else _)
        rw [if_neg c]
      · rw [if_neg h, if_neg (fun z => h z.symm)]
/-- turns of the records from number i on, n of them -/
def letRun (d : Nat) : Nat → Nat → House → House
  | _, 0, s => s
  | i, n + 1, s => letRun d (i + 1) n (letOne d s i)
theorem letGoFrom_run (d : Nat) : ∀ (k i : Nat) (s : House), i + k = s.records.length → letGoFrom d k s = letRun d i k s
  | 0, _, _, _ => rfl
  | k + 1, i, s, h => by
    rw [letGoFrom_succ]
    have e : s.records.length - (k + 1) = i := by omega
    rw [e]
    exact letGoFrom_run d k (i + 1) (letOne d s i) (by rw [(letOne_rest d s i).2.2]; omega)
theorem lets_run (s : House) : lets s = letRun s.day 0 s.records.length s := letGoFrom_run s.day s.records.length 0 s (by omega)
theorem letRun_snoc (d : Nat) : ∀ (n i : Nat) (s : House), letRun d i (n + 1) s = letOne d (letRun d i n s) (i + n)
  | 0, _, _ => rfl
  | n + 1, i, s => by
    show letRun d (i + 1) (n + 1) (letOne d s i) = _
    rw [letRun_snoc d n (i + 1) (letOne d s i)]
    have e : i + 1 + n = i + (n + 1) := by omega
    rw [e]
    rfl
theorem letRun_rest (d : Nat) : ∀ (n : Nat) (s : House), SameRest s (letRun d 0 n s) ∧ (letRun d 0 n s).day = s.day ∧ (letRun d 0 n s).records.length = s.records.length
  | 0, s => ⟨.refl s, rfl, rfl⟩
  | n + 1, s => by
    rw [letRun_snoc]
    obtain ⟨a, b, c⟩ := letRun_rest d n s
    obtain ⟨a', b', c'⟩ := letOne_rest d (letRun d 0 n s) (0 + n)
    exact ⟨a.trans a', b'.trans b, c'.trans c⟩
/-- records from number n on have not had their turn -/
theorem letRun_later (d : Nat) : ∀ (n : Nat) (s : House) (j : Nat), n ≤ j → (letRun d 0 n s).records[j]? = s.records[j]?
  | 0, _, _, _ => rfl
  | n + 1, s, j, h => by
    rw [letRun_snoc, letOne_at, if_neg (by omega)]
    exact letRun_later d n s j (by omega)
/-- records below number n have had it -/
theorem letRun_done (d : Nat) : ∀ (n m : Nat) (s : House) (j : Nat), j < n → n ≤ m → (letRun d 0 m s).records[j]? = (letRun d 0 n s).records[j]?
  | n, m, s, j, hj, hm => by
    induction m with
    | zero => omega
    | succ m ih =>
      by_cases e : n = m + 1
      · rw [e]
      · rw [letRun_snoc, letOne_at, if_neg (by omega)]
        exact ih (by omega)
/-- what a turn makes of its record -/
def turned (s : House) (d : Nat) (r : Record) : Record := if r.letGo.isSome = true ∨ keeps s r d = true then r else goneRec s d r
theorem letRun_at (d : Nat) {s : House} {m j : Nat} {r : Record} (hj : j < m) (e : s.records[j]? = some r) : (letRun d 0 m s).records[j]? = some (turned (letRun d 0 j s) d r) := by
  rw [letRun_done d (j + 1) m s j (by omega) (by omega), letRun_snoc, letOne_at, if_pos (by omega), Nat.zero_add, letRun_later d j s j (Nat.le_refl _), e]
  rfl
theorem turned_alike (s : House) (d : Nat) (r : Record) : Alike r (turned s d r) := by
  unfold turned
  split
  · exact .refl r
  · exact goneRec_alike s d r
theorem letRun_alike (d : Nat) {s : House} {m j : Nat} {r : Record} (e : s.records[j]? = some r) : ∃ q, (letRun d 0 m s).records[j]? = some q ∧ Alike r q := by
  by_cases h : j < m
  · exact ⟨_, letRun_at d h e, turned_alike _ _ _⟩
  · exact ⟨r, by rw [letRun_later d m s j (by omega)]; exact e, .refl r⟩
end Kr

namespace Kr
open Kp01
/-- records of which one was made have lower numbers -/
def Below (s : House) : Prop := ∀ (i : Nat) (r : Record), s.records[i]? = some r → ∀ k ∈ r.of_, k < i
/-- all that is there may be kept -/
def Kept (s : House) : Prop := ∀ (i : Nat) (r : Record), s.records[i]? = some r → r.letGo = none → keeps s r s.day = true
theorem there_of {s t : House} {k : Nat} (h : s.records[k]? = t.records[k]?) : there s k = there t k := by unfold there; rw [h]
theorem alike_list {s t : House} (hl : t.records.length = s.records.length) (h : ∀ (j : Nat) (r : Record), s.records[j]? = some r → ∃ q, t.records[j]? = some q ∧ Alike r q) {j : Nat} {q : Record} (e : t.records[j]? = some q) :
    ∃ r, s.records[j]? = some r ∧ Alike r q := by
  have hj : j < s.records.length := by rw [← hl]; exact (List.getElem?_eq_some_iff.mp e).1
  obtain ⟨q', e', a⟩ := h j _ (List.getElem?_eq_getElem hj)
  rw [e] at e'
  cases e'
  exact ⟨_, List.getElem?_eq_getElem hj, a⟩
theorem Below.alike {s t : House} (b : Below s) (hl : t.records.length = s.records.length) (h : ∀ (j : Nat) (r : Record), s.records[j]? = some r → ∃ q, t.records[j]? = some q ∧ Alike r q) : Below t := by
  intro i q e k hk
  obtain ⟨r, er, a⟩ := alike_list hl h e
  rw [← a.of_] at hk
  exact b i r er k hk
theorem Below.run {s : House} (b : Below s) (d m : Nat) : Below (letRun d 0 m s) := b.alike (letRun_rest d m s).2.2 fun _ _ e => letRun_alike d e
/-- what letting go leaves there may be kept -/
theorem keeps_run {s : House} (b : Below s) (d : Nat) {m j : Nat} {r : Record} (hj : j ≤ m) (e : s.records[j]? = some r) {q : Record} (a : Alike r q) : keeps (letRun d 0 m s) q d = keeps (letRun d 0 j s) r d := by
  refine keeps_congr ((letRun_rest d m s).1.symm.trans (letRun_rest d j s).1) a.symm fun k hk => there_of ?_
  rw [← a.of_] at hk
  exact letRun_done d j m s k (b j r e k hk) hj
theorem lets_kept {s : House} (b : Below s) {j : Nat} {q : Record} (e : (lets s).records[j]? = some q) (hq : q.letGo = none) : keeps (lets s) q s.day = true := by
  rw [lets_run] at e ⊢
  obtain ⟨r, er, a⟩ := alike_list (letRun_rest s.day s.records.length s).2.2 (fun _ _ e => letRun_alike s.day e) e
  have hj : j < s.records.length := (List.getElem?_eq_some_iff.mp er).1
  rw [keeps_run b s.day (Nat.le_of_lt hj) er a]
  rw [letRun_at s.day hj er] at e
  have e' := Option.some.inj e
  unfold turned at e'
  split at e'
  · next h =>
    subst e'
    rcases h with h | h
    · rw [hq] at h; cases h
    · exact h
  · subst e'; cases hq
theorem lets_rest (s : House) : SameRest s (lets s) ∧ (lets s).day = s.day ∧ (lets s).records.length = s.records.length := by
  rw [lets_run]; exact letRun_rest s.day s.records.length s
def settledRec (s : House) (d : Nat) (r : Record) : Record := { r with copies := r.copies.map (settled s d) }
theorem settles_at (s : House) (j : Nat) : (settles s).records[j]? = (s.records[j]?).map (settledRec s s.day) := by
  show (s.records.map _)[j]? = _
  rw [List.getElem?_map]
  rfl
theorem settles_rest (s : House) : SameRest s (settles s) ∧ (settles s).day = s.day ∧ (settles s).records.length = s.records.length := ⟨⟨rfl, rfl, rfl, rfl⟩, rfl, List.length_map ..⟩
theorem settles_there (s : House) (k : Nat) : there (settles s) k = there s k := by
  unfold there
  rw [settles_at]
  cases s.records[k]? <;> rfl
theorem today_rest (s : House) : SameRest s (today s) ∧ (today s).day = s.day ∧ (today s).records.length = s.records.length := by
  obtain ⟨a, b, c⟩ := lets_rest s
  obtain ⟨a', b', c'⟩ := settles_rest (lets s)
  exact ⟨a.trans a', b'.trans b, c'.trans c⟩
theorem today_kept {s : House} (b : Below s) : Kept (today s) := by
  intro j q e hq
  show keeps (settles (lets s)) q _ = true
  have e' : (settles (lets s)).records[j]? = some q := e
  rw [settles_at] at e'
  cases er : (lets s).records[j]? with
  | none => rw [er] at e'; cases e'
  | some r =>
    rw [er] at e'
    have e2 : settledRec (lets s) (lets s).day r = q := Option.some.inj e'
    subst e2
    have hk := lets_kept b er hq
    rw [(today_rest s).2.1]
    rw [← hk]
    exact keeps_congr (settles_rest (lets s)).1.symm ⟨rfl, rfl, rfl, rfl, rfl⟩ fun k _ => settles_there (lets s) k
/-- what today makes of a record -/
theorem today_at {s : House} {j : Nat} {r : Record} (e : s.records[j]? = some r) : (today s).records[j]? = some (settledRec (lets s) s.day (turned (letRun s.day 0 j s) s.day r)) := by
  have hj : j < s.records.length := (List.getElem?_eq_some_iff.mp e).1
  have e1 : (lets s).records[j]? = some (turned (letRun s.day 0 j s) s.day r) := by rw [lets_run]; exact letRun_at s.day hj e
  show (settles (lets s)).records[j]? = _
  rw [settles_at, e1, (lets_rest s).2.1]
  rfl
theorem today_alike {s : House} {j : Nat} {r : Record} (e : s.records[j]? = some r) : ∃ q, (today s).records[j]? = some q ∧ Alike r q := by
  refine ⟨_, today_at e, ?_⟩
  exact (turned_alike _ _ _).trans ⟨rfl, rfl, rfl, rfl, rfl⟩
theorem Below.today {s : House} (b : Below s) : Below (today s) := b.alike (today_rest s).2.2 fun _ _ e => today_alike e
end Kr

set_option linter.all false
namespace Kr
open Kp01
/-! ### when records would be let go: the program reckons it, the specification lets days pass -/
def isLaw (g : Ground) : Bool := match g.sort with
  | .law => true
  | _ => false
/-- the ground is for the record and has all that it needs, whatever the day -/
def stands (s : House) (p : Person) (r : Record) (g : Ground) : Bool := g.kind == r.kind && match g.sort with
    | .law => true
    | .consent w => p.consents.contains w && whole s r
    | .need => !p.objects && whole s r
def daysEnd (p : Person) (r : Record) (g : Ground) : Option Nat := (eventDay p r g.event).map (· + g.days)
theorem gives_eq (s : House) (p : Person) (r : Record) (d : Nat) (g : Ground) : gives s p r d g = (stands s p r g && match daysEnd p r g with
    | none => true
    | some e => decide (d < e)) := by
  unfold gives stands daysEnd
  cases eventDay p r g.event <;> cases g.sort <;> simp [Bool.and_assoc, Bool.and_comm, Bool.and_left_comm]
def minEnds (e : Nat → Nat) : List Nat → Nat → Nat
  | [], x => x
  | k :: l, x => minEnds e l (min x (e k))
def groundEnd (p : Person) (r : Record) (e : Nat → Nat) (far : Nat) (g : Ground) : Nat :=
  let x := (daysEnd p r g).getD far
  min (if isLaw g then x else minEnds e r.of_ x) far
def maxEnds (s : House) (p : Person) (r : Record) (e : Nat → Nat) (far : Nat) : List Ground → Nat → Nat
  | [], x => x
  | g :: l, x => maxEnds s p r e far l (if stands s p r g then max x (groundEnd p r e far g) else x)
def recordEnd (s : House) (r : Record) (e : Nat → Nat) (far : Nat) : Nat := match r.letGo with
  | some d => d
  | none => if (heldBy s r).isEmpty = false then far else match personOf s r.person with
    | none => s.day
    | some p => maxEnds s p r e far s.grounds s.day
def endsFrom (s : House) (far : Nat) : List Record → List Nat → List Nat
  | [], acc => acc
  | r :: l, acc => endsFrom s far l (acc ++ [recordEnd s r (fun k => acc.getD k 0) far])
def ends (s : House) (far : Nat) : List Nat := endsFrom s far s.records []
theorem lt_minEnds (e : Nat → Nat) (d : Nat) : ∀ (l : List Nat) (x : Nat), d < minEnds e l x ↔ d < x ∧ ∀ k ∈ l, d < e k
  | [], x => by simp [minEnds]
  | k :: l, x => by
    show d < minEnds e l (min x (e k)) ↔ _
    rw [lt_minEnds e d l, Nat.lt_min]
    simp [and_assoc]
theorem lt_groundEnd (p : Person) (r : Record) (e : Nat → Nat) {far d : Nat} (hd : d < far) (g : Ground) : d < groundEnd p r e far g ↔ (match daysEnd p r g with
    | none => True
    | some x => d < x) ∧ (isLaw g = false → ∀ k ∈ r.of_, d < e k) := by
  unfold groundEnd
  have hx : d < (daysEnd p r g).getD far ↔ (match daysEnd p r g with
    | none => True
    | some x => d < x) := by
    cases daysEnd p r g with
    | none => simp [hd]
    | some x => rfl
  cases hl : isLaw g with
  | true => simp [Nat.lt_min, hx, hd]
  | false => simp [Nat.lt_min, lt_minEnds, hx, hd]
theorem lt_maxEnds (s : House) (p : Person) (r : Record) (e : Nat → Nat) (far d : Nat) : ∀ (l : List Ground) (x : Nat), d < maxEnds s p r e far l x ↔ d < x ∨ ∃ g ∈ l, stands s p r g = true ∧ d < groundEnd p r e far g
  | [], x => by simp [maxEnds]
  | g :: l, x => by
    show d < maxEnds s p r e far l _ ↔ _
    rw [lt_maxEnds s p r e far d l]
    cases h : stands s p r g with
    | true =>
      have hm : ∀ y, d < max x y ↔ d < x ∨ d < y := by intro y; omega
      simp [h, hm, or_assoc]
    | false => simp [h]
theorem minEnds_congr {e f : Nat → Nat} : ∀ {l : List Nat} (x : Nat), (∀ k ∈ l, e k = f k) → minEnds e l x = minEnds f l x
  | [], _, _ => rfl
  | k :: l, x, h => by
    show minEnds e l (min x (e k)) = minEnds f l (min x (f k))
    rw [h k (List.mem_cons_self ..)]
    exact minEnds_congr _ fun k hk => h k (List.mem_cons_of_mem _ hk)
theorem groundEnd_congr {p : Person} {r : Record} {e f : Nat → Nat} {far : Nat} (g : Ground) (h : ∀ k ∈ r.of_, e k = f k) : groundEnd p r e far g = groundEnd p r f far g := by
  unfold groundEnd
  dsimp only
  rw [minEnds_congr _ h]
theorem maxEnds_congr {s : House} {p : Person} {r : Record} {e f : Nat → Nat} {far : Nat} (h : ∀ k ∈ r.of_, e k = f k) : ∀ (l : List Ground) (x : Nat), maxEnds s p r e far l x = maxEnds s p r f far l x
  | [], _ => rfl
  | g :: l, x => by
    show maxEnds s p r e far l _ = maxEnds s p r f far l _
    rw [groundEnd_congr g h]
    exact maxEnds_congr h l _
theorem recordEnd_congr {s : House} {r : Record} {e f : Nat → Nat} {far : Nat} (h : ∀ k ∈ r.of_, e k = f k) : recordEnd s r e far = recordEnd s r f far := by
  unfold recordEnd
  cases r.letGo with
  | some d => rfl
  | none =>
    cases personOf s r.person with
    | none => rfl
    | some p =>
      show (if _ then far else maxEnds s p r e far s.grounds s.day) = (if _ then far else maxEnds s p r f far s.grounds s.day)
      rw [maxEnds_congr h]
theorem endsFrom_spec (s : House) (far : Nat) : ∀ (l : List Record) (acc : List Nat), ∃ more, endsFrom s far l acc = acc ++ more ∧ more.length = l.length ∧ ∀ (j : Nat) (r : Record), l[j]? = some r → more[j]? = some (recordEnd s r (fun k => (acc ++ more.take j).getD k 0) far)
  | [], acc => ⟨[], by simp [endsFrom], rfl, fun j r h => by simp at h⟩
  | r :: l, acc => by
    obtain ⟨more, h1, h2, h3⟩ := endsFrom_spec s far l (acc ++ [recordEnd s r (fun k => acc.getD k 0) far])
    refine ⟨recordEnd s r (fun k => acc.getD k 0) far :: more, ?_, by simp [h2], fun j q h => ?_⟩
    · show endsFrom s far l _ = _
      rw [h1, List.append_assoc]
      rfl
    · cases j with
      | zero =>
        have e : r = q := Option.some.inj h
        subst e
        simp
      | succ j =>
        have := h3 j q h
        simpa [List.append_assoc] using this
/-- one line for each record: its end by the ends of those below -/
theorem ends_at {s : House} (b : Below s) (far : Nat) : (ends s far).length = s.records.length ∧ ∀ (j : Nat) (r : Record), s.records[j]? = some r → (ends s far)[j]? = some (recordEnd s r (fun k => (ends s far).getD k 0) far) := by
  obtain ⟨more, h1, h2, h3⟩ := endsFrom_spec s far s.records []
  have e : ends s far = more := h1
  rw [e]
  refine ⟨h2, fun j r h => ?_⟩
  rw [h3 j r h]
  congr 1
  refine recordEnd_congr fun k hk => ?_
  have hkj := b j r h k hk
  show ([] ++ more.take j).getD k 0 = more.getD k 0
  rw [List.nil_append, List.getD_eq_getElem?_getD, List.getD_eq_getElem?_getD, List.getElem?_take_of_lt hkj]
def endAt (s : House) (far k : Nat) : Nat := (ends s far).getD k 0
theorem endAt_eq {s : House} (b : Below s) {far j : Nat} {r : Record} (h : s.records[j]? = some r) : endAt s far j = recordEnd s r (endAt s far) far := by
  have e := (ends_at b far).2 j r h
  unfold endAt
  rw [List.getD_eq_getElem?_getD, e]
  rfl
theorem isEmpty_filter {α : Type} {p : α → Bool} {l : List α} : (l.filter p).isEmpty = false ↔ ∃ x ∈ l, p x = true := by
  rw [← Bool.not_eq_true, List.isEmpty_iff, List.filter_eq_nil_iff]
  simp
/-- keeping, in the words of ends: t is s some days later -/
theorem keeps_end {s t : House} (b : Below s) (e : SameRest s t) {j : Nat} {r q : Record} (h : s.records[j]? = some r) (hg : r.letGo = none) (a : Alike r q) {d far : Nat} (hd : s.day ≤ d) (hf : d < far)
    (hp : (personOf s r.person).isSome = true)
    (hk : ∀ k ∈ r.of_, there t k = (there s k && decide (d < endAt s far k))) : keeps t q d = decide (d < endAt s far j) := by
  rw [endAt_eq b h]
  apply Bool.eq_iff_iff.mpr
  rw [decide_eq_true_iff]
  unfold recordEnd keeps
  rw [hg, ← heldBy_congr e a]
  cases hh : (heldBy s r).isEmpty with
  | false => simp [hf]
  | true =>
    obtain ⟨p, ep⟩ := Option.isSome_iff_exists.mp hp
    have eg : given t q d = t.grounds.filter (gives t p q d) := by
      unfold given
      rw [← e.personOf, ← a.person, ep]
    rw [eg, ep]
    have ne : ¬ (true = false) := by simp
    show ((!(t.grounds.filter (gives t p q d)).isEmpty || !true) = true) ↔ d < (if true = false then far else maxEnds s p r (endAt s far) far s.grounds s.day)
    rw [if_neg ne, lt_maxEnds, ← e.grounds]
    have hle : ¬ d < s.day := by omega
    have key : ∀ g : Ground, gives t p q d g = true ↔ stands s p r g = true ∧ d < groundEnd p r (endAt s far) far g := by
      intro g
      rw [lt_groundEnd p r _ hf, gives_eq]
      have e1 : daysEnd p q g = daysEnd p r g := by unfold daysEnd; rw [eventDay_congr a]
      rw [e1]
      have e2 : (stands t p q g = true ↔ stands s p r g = true ∧ (isLaw g = false → ∀ k ∈ r.of_, d < endAt s far k)) := by
        have hw : whole t q = true ↔ whole s r = true ∧ ∀ k ∈ r.of_, d < endAt s far k := by
          rw [whole_eq, whole_eq, List.all_eq_true, List.all_eq_true, ← a.of_]
          constructor
          · intro z
            refine ⟨fun k hk' => ?_, fun k hk' => ?_⟩
            · have := z k hk'; rw [hk k hk', Bool.and_eq_true] at this; exact this.1
            · have := z k hk'; rw [hk k hk', Bool.and_eq_true, decide_eq_true_iff] at this; exact this.2
          · intro ⟨z1, z2⟩ k hk'
            rw [hk k hk', z1 k hk', Bool.true_and, decide_eq_true_iff]
            exact z2 k hk'
        unfold stands isLaw
        rw [a.kind]
        cases g.sort with
        | law => simp
        | consent w => simp [hw, and_assoc]
        | need => simp [hw, and_assoc]
      rw [Bool.and_eq_true, e2]
      cases daysEnd p r g with
      | none => simp
      | some x => simp [and_assoc, and_comm, and_left_comm]
    constructor
    · intro z
      have z' : (s.grounds.filter (gives t p q d)).isEmpty = false := by simpa using z
      obtain ⟨g, hg1, hg2⟩ := isEmpty_filter.mp z'
      exact .inr ⟨g, hg1, (key g).mp hg2⟩
    · rintro (z | ⟨g, hg1, hg2⟩)
      · exact absurd z hle
      · have z' : (s.grounds.filter (gives t p q d)).isEmpty = false := isEmpty_filter.mpr ⟨g, hg1, (key g).mpr hg2⟩
        rw [z']
        rfl
end Kr

set_option linter.all false
namespace Kr
open Kp01
/-- each record's person is one -/
def Owned (s : House) : Prop := ∀ (i : Nat) (r : Record), s.records[i]? = some r → (personOf s r.person).isSome = true
theorem days_snoc : ∀ (n : Nat) (s : House), days (n + 1) s = nextDay (days n s)
  | 0, _ => rfl
  | n + 1, s => by
    show days (n + 1) (nextDay s) = _
    rw [days_snoc n (nextDay s)]
    rfl
/-- when it goes, as of a later day -/
def goneBy (s : House) (far : Nat) (d j : Nat) (r : Record) : Option Nat := match r.letGo with
  | some x => some x
  | none => if endAt s far j ≤ d then some (endAt s far j) else none
theorem endAt_later {s : House} (b : Below s) (k : Kept s) (o : Owned s) {far : Nat} (hf : s.day < far) : ∀ (j : Nat) (r : Record), s.records[j]? = some r → r.letGo = none → s.day < endAt s far j := by
  intro j
  induction j using Nat.strongRecOn with
  | _ j ih =>
    intro r h hg
    have z := keeps_end (t := s) b (.refl s) h hg (.refl r) (d := s.day) (far := far) (Nat.le_refl _) hf (o j r h) (fun i hi => by
      have hlt := b j r h i hi
      unfold there
      cases e : s.records[i]? with
      | none => rfl
      | some q =>
        show q.letGo.isNone = (q.letGo.isNone && _)
        cases hq : q.letGo with
        | some x => rfl
        | none => rw [decide_eq_true (ih i hlt q e hq)]; rfl)
    rw [k j r h hg] at z
    exact of_decide_eq_true z.symm
structure Later (s : House) (n : Nat) (t : House) : Prop where
  rest : SameRest s t
  day : t.day = s.day + n
  len : t.records.length = s.records.length
  at_ : ∀ (j : Nat) (r : Record), s.records[j]? = some r → ∃ q, t.records[j]? = some q ∧ Alike r q ∧ q.letGo = goneBy s (s.day + 401) (s.day + n) j r
theorem Later.below {s t : House} {n : Nat} (L : Later s n t) (b : Below s) : Below t := b.alike L.len fun j r h => let ⟨q, e, a, _⟩ := L.at_ j r h; ⟨q, e, a⟩
theorem later_next {s t : House} {n : Nat} (b : Below s) (k : Kept s) (o : Owned s) (L : Later s n t) (hn : n + 1 ≤ 400) : Later s (n + 1) (nextDay t) := by
  have hu : nextDay t = today { t with day := t.day + 1 } := rfl
  rw [hu]
  generalize hU : ({ t with day := t.day + 1 } : House) = u
  have ur : SameRest t u := by subst hU; exact ⟨rfl, rfl, rfl, rfl⟩
  have ud : u.day = s.day + (n + 1) := by subst hU; show t.day + 1 = _; rw [L.day]; omega
  have ue : u.records = t.records := by subst hU; rfl
  have hbt := L.below b
  have hbu : Below u := by intro i r h; rw [ue] at h; exact hbt i r h
  obtain ⟨tr, td, tl⟩ := today_rest u
  -- each record's turn
  have turn : ∀ (j : Nat) (r : Record), s.records[j]? = some r → ∃ q, u.records[j]? = some q ∧ Alike r q ∧ (turned (letRun u.day 0 j u) u.day q).letGo = goneBy s (s.day + 401) (s.day + (n + 1)) j r := by
    intro j
    induction j using Nat.strongRecOn with
    | _ j ih =>
      intro r h
      obtain ⟨q, eq, a, hq⟩ := L.at_ j r h
      refine ⟨q, by rw [ue]; exact eq, a, ?_⟩
      unfold goneBy at hq ⊢
      cases hg : r.letGo with
      | some x =>
        rw [hg] at hq
        have hq : q.letGo = some x := hq
        unfold turned
        rw [if_pos (.inl (by rw [hq]; rfl))]
        exact hq
      | none =>
        rw [hg] at hq
        have hq : q.letGo = if endAt s (s.day + 401) j ≤ s.day + n then some (endAt s (s.day + 401) j) else none := hq
        show _ = if endAt s (s.day + 401) j ≤ s.day + (n + 1) then some (endAt s (s.day + 401) j) else none
        by_cases c : endAt s (s.day + 401) j ≤ s.day + n
        · rw [if_pos c] at hq
          unfold turned
          rw [if_pos (.inl (by rw [hq]; rfl)), if_pos (by omega)]
          exact hq
        · rw [if_neg c] at hq
          have hrun := letRun_rest u.day j u
          have z := keeps_end (t := letRun u.day 0 j u) b ((L.rest.trans ur).trans hrun.1) h hg a (d := u.day) (far := s.day + 401) (by omega) (by omega) (o j r h) (fun i hi => by
            have hlt := b j r h i hi
            unfold there
            cases e : s.records[i]? with
            | none =>
              have e1 : (letRun u.day 0 j u).records[i]? = none := by
                rw [List.getElem?_eq_none_iff] at e ⊢
                rw [hrun.2.2, ue, L.len]; exact e
              rw [e1]; rfl
            | some q0 =>
              obtain ⟨q', e1, _, e3⟩ := ih i hlt q0 e
              rw [letRun_at u.day hlt e1]
              show (turned (letRun u.day 0 i u) u.day q').letGo.isNone = (q0.letGo.isNone && _)
              rw [e3]
              unfold goneBy
              cases q0.letGo with
              | some x => rfl
              | none =>
                show (if _ then _ else _ : Option Nat).isNone = _
                by_cases c2 : endAt s (s.day + 401) i ≤ s.day + (n + 1)
                · rw [if_pos c2, decide_eq_false (by omega)]; rfl
                · rw [if_neg c2, decide_eq_true (by omega)]; rfl)
          unfold turned
          rw [z]
          by_cases c2 : u.day < endAt s (s.day + 401) j
          · rw [if_pos (.inr (decide_eq_true c2)), if_neg (by omega)]
            exact hq
          · rw [if_neg (by rw [hq, decide_eq_false c2]; simp), if_pos (by omega)]
            show some u.day = _
            congr 1
            omega
  refine ⟨(L.rest.trans ur).trans tr, by rw [td, ud], by rw [tl, ue, L.len], fun j r h => ?_⟩
  obtain ⟨q, e1, a, e2⟩ := turn j r h
  refine ⟨_, today_at e1, a.trans ((turned_alike _ _ _).trans ⟨rfl, rfl, rfl, rfl, rfl⟩), ?_⟩
  exact e2
theorem later_days {s : House} (b : Below s) (k : Kept s) (o : Owned s) : ∀ n, n ≤ 400 → Later s n (days n s)
  | 0, _ => ⟨.refl s, rfl, rfl, fun j r h => ⟨r, h, .refl r, by
      unfold goneBy
      cases hg : r.letGo with
      | some x => rfl
      | none =>
        have := endAt_later b k o (far := s.day + 401) (by omega) j r h hg
        show none = if _ then _ else _
        rw [if_neg (by omega)]⟩⟩
  | n + 1, hn => by
    rw [days_snoc]
    exact later_next b k o (later_days b k o n (by omega)) hn
/-- till: what the program reckons is what the days bring -/
theorem goes_end {s : House} (b : Below s) (k : Kept s) (o : Owned s) {j : Nat} {r : Record} (h : s.records[j]? = some r) (hg : r.letGo = none) :
    goesFrom 401 s j = if endAt s (s.day + 401) j = s.day + 401 then none else some (endAt s (s.day + 401) j) := by
  have hle : endAt s (s.day + 401) j ≤ s.day + 401 := by
    have z := keeps_end (t := s) b (.refl s) h hg (.refl r) (d := s.day) (far := s.day + 401) (Nat.le_refl _) (by omega) (o j r h)
    rw [endAt_eq b h]
    unfold recordEnd
    rw [hg]
    show (if _ then _ else _) ≤ _
    split
    · exact Nat.le_refl _
    · cases personOf s r.person with
      | none => show s.day ≤ _; omega
      | some p =>
        show maxEnds s p r _ _ s.grounds s.day ≤ _
        apply Nat.le_of_not_lt
        intro z2
        rcases (lt_maxEnds s p r _ _ _ _ _).mp z2 with z3 | ⟨g, _, _, z3⟩
        · omega
        · unfold groundEnd at z3
          dsimp only at z3
          omega
  have key : ∀ n m, m + n = 401 → s.day + m ≤ endAt s (s.day + 401) j → goesFrom n (days m s) j = if endAt s (s.day + 401) j = s.day + 401 then none else some (endAt s (s.day + 401) j) := by
    intro n
    induction n with
    | zero =>
      intro m hm he
      show none = _
      rw [if_pos (by omega)]
    | succ n ih =>
      intro m hm he
      obtain ⟨q, e1, _, e2⟩ := (later_days b k o m (by omega)).at_ j r h
      show (match (days m s).records[j]? with
        | none => none
        | some r => match r.letGo with
          | some d => some d
          | none => goesFrom n (nextDay (days m s)) j) = _
      rw [e1]
      show (match q.letGo with
          | some d => some d
          | none => goesFrom n (nextDay (days m s)) j) = _
      rw [e2]
      unfold goneBy
      rw [hg]
      show (match (if endAt s (s.day + 401) j ≤ s.day + m then some (endAt s (s.day + 401) j) else none) with
          | some d => some d
          | none => goesFrom n (nextDay (days m s)) j) = _
      by_cases c : endAt s (s.day + 401) j ≤ s.day + m
      · rw [if_pos c, if_neg (by omega)]
      · rw [if_neg c]
        show goesFrom n (nextDay (days m s)) j = _
        rw [← days_snoc]
        exact ih (m + 1) (by omega) (by omega)
  have h0 := endAt_later b k o (far := s.day + 401) (by omega) j r h hg
  exact key 401 0 (by omega) (by omega)
end Kr

set_option Elab.async false
set_option linter.all false
set_option maxRecDepth 100000
set_option maxHeartbeats 2000000
/-! ### How a house lies in the heap -/
namespace Kr
open PySem PySem.Spec PyProof.Rows L2
abbrev Bytes := Kp01.Bytes
/-- bytes as a text -/
def txt (b : Bytes) : Str := ⟨b.toArray⟩
theorem txt_inj {a b : Bytes} (h : txt a = txt b) : a = b := by
  have e : TL.tl (txt a) = TL.tl (txt b) := by rw [h]
  exact e
theorem tl_txt (b : Bytes) : TL.tl (txt b) = b := rfl
theorem txt_len (b : Bytes) : (txt b).length = b.length := by rw [TL.len_tl]; rfl
theorem txt_ascii (s : String) : txt (Kp01.ascii s) = Str.ofString s := TL.ext_tl (by rw [TL.tl_ofString]; rfl)
theorem txt_app (a b : Bytes) : txt a ++ txt b = txt (a ++ b) := TL.ext_tl (by rw [TL.tl_append]; rfl)
/-- the classes' places, and those of the constants that are objects -/
structure Cs where
  House : Addr
  Person : Addr
  Ground : Addr
  Store : Addr
  Copy : Addr
  Record : Addr
  Hold : Addr
  a_NOT_NAMES : Addr
  a_EVENTS : Addr
  a_READERS : Addr
  rdr : Nat → Addr
  cmd : Nat → Addr
def nHouse : List Str := ["today", "main", "people", "grounds", "stores", "records", "holds"]
def nPerson : List Str := ["name", "consents", "objects", "ended"]
def nGround : List Str := ["name", "kind", "basis", "purpose", "span", "event"]
def nStore : List Str := ["name", "way", "turn", "hears"]
def nCopy : List Str := ["store", "state", "day"]
def nRecord : List Str := ["number", "person", "kind", "made", "used", "sources", "gone_on", "copies"]
def nHold : List Str := ["name", "person", "kind"]
/-! fields by a list of names -/
def fsOf (ns : List Str) (vs : List V) : List (Str × V) := ns.zip vs
def ixOf : List Str → Str → Option Nat
  | [], _ => none
  | a :: r, k => if k = a then some 0 else (ixOf r k).map (· + 1)
theorem look : ∀ {ns : List Str} {vs : List V} {k : Str} {i : Nat} {v : V}, ixOf ns k = some i → vs[i]? = some v → (fsOf ns vs).lookup k = some v
  | [], _, _, _, _, h, _ => by cases h
  | _ :: _, [], _, _, _, _, h => by simp at h
  | a :: r, x :: vs, k, i, v, h, hv => by
    unfold ixOf at h
    show List.lookup k ((a, x) :: fsOf r vs) = some v
    by_cases e : k = a
    · rw [if_pos e] at h
      cases h
      have e' : (k == a) = true := by rw [e]; exact beq_self_eq_true a
      simp only [List.lookup, e']
      simpa using hv
    · rw [if_neg e] at h
      have e' : (k == a) = false := beq_eq_false_iff_ne.mpr e
      simp only [List.lookup, e']
      cases hr : ixOf r k with
      | none => rw [hr] at h; cases h
      | some j =>
        rw [hr] at h
        cases h
        exact look hr (by simpa using hv)
theorem put_set : ∀ {ns : List Str} {vs : List V} {k : Str} {i : Nat} {v : V}, ixOf ns k = some i → i < vs.length → putF k v (fsOf ns vs) = fsOf ns (vs.set i v)
  | [], _, _, _, _, h, _ => by cases h
  | _ :: _, [], _, _, _, _, h => by simp at h
  | a :: r, x :: vs, k, i, v, h, hi => by
    unfold ixOf at h
    show (if a = k then (a, v) :: fsOf r vs else (a, x) :: putF k v (fsOf r vs)) = _
    by_cases e : k = a
    · rw [if_pos e] at h
      cases h
      rw [if_pos e.symm]
      rfl
    · rw [if_neg e] at h
      rw [if_neg (fun z => e z.symm)]
      cases hr : ixOf r k with
      | none => rw [hr] at h; cases h
      | some j =>
        rw [hr] at h
        cases h
        show (a, x) :: putF k v (fsOf r vs) = (a, x) :: fsOf r (vs.set j v)
        rw [put_set hr (by simpa using hi)]
theorem put_next : ∀ {ns : List Str} {vs : List V} {k : Str} {i : Nat} {v : V}, ixOf ns k = some i → vs.length = i → putF k v (fsOf ns vs) = fsOf ns (vs ++ [v])
  | [], _, _, _, _, h, _ => by cases h
  | a :: r, [], k, i, v, h, hi => by
    unfold ixOf at h
    have hi : 0 = i := hi
    subst hi
    by_cases e : k = a
    · subst e
      show [(k, v)] = (k, v) :: r.zip []
      rw [List.zip_nil_right]
    · rw [if_neg e] at h
      cases hr : ixOf r k with
      | none => rw [hr] at h; cases h
      | some j => rw [hr] at h; cases h
  | a :: r, x :: vs, k, i, v, h, hi => by
    unfold ixOf at h
    show (if a = k then (a, v) :: fsOf r vs else (a, x) :: putF k v (fsOf r vs)) = _
    by_cases e : k = a
    · rw [if_pos e] at h
      cases h
      simp at hi
    · rw [if_neg e] at h
      rw [if_neg (fun z => e z.symm)]
      cases hr : ixOf r k with
      | none => rw [hr] at h; cases h
      | some j =>
        rw [hr] at h
        cases h
        show (a, x) :: putF k v (fsOf r vs) = (a, x) :: fsOf r (vs ++ [v])
        rw [put_next hr (by simpa using hi)]
theorem fs_len (ns : List Str) (vs : List V) (h : vs.length < 1000) : (fsOf ns vs).length < 1000 := by
  unfold fsOf
  rw [List.length_zip]
  omega
/-! ### what is written by the top -/
def NoAll (K : PySem.W.Frag) (C : Addr) (ns : List Str) : Prop := ∀ f ∈ ns, NoAttr K C f
def GV (mg : Str → Option Value) (x : Str) (v : V) : Prop := ∃ u, mg x = some u ∧ RelV v u
theorem pe_gv {X : Cx} {x : Str} {v : V} {pos : Pos} (hg : Gl X x) (h : GV X.mg x v) (hd : (x == ("__debug__" : Str)) = false := by decide) : PE X (.Name x pos) (tC v) := by
  obtain ⟨u, e, r⟩ := h
  exact pe_glob hg e r hd
/-- the readers' slots and defs; the commands' defs, in the order of the table -/
def rdrSlots : List Str := ["NAME", "NAME-OR-ANY", "EVENT", "SPAN", "DAYS", "RECORD", "RECORDS"]
def rdrNames : List Str := ["read_name", "read_name_or_any", "read_event", "read_span", "read_days", "read_record", "read_records"]
def cmdNames : List Str := ["add_person", "give_consent", "withdraw_consent", "raise_objection", "end_matter", "forget_person", "add_law_ground", "add_need_ground", "add_purpose_ground", "void_ground", "add_rolled_store", "add_other_house", "make_deaf", "make_hearing",
  "put_record", "make_record", "copy_record", "use_record", "add_hold", "free_hold", "put_back", "pass_days", "tell_person", "tell_why", "tell_till", "tell_proof", "tell_due", "tell_asks"]
def rdrIx (x : Str) : List Str → Nat → Option Nat
  | [], _ => none
  | y :: r, i => if x = y then some i else rdrIx x r (i + 1)
structure ClsAt (K : PySem.W.Frag) (C : Addr) (ns : List Str) : Prop where
  cl : Cls K C
  no : NoAll K C ns
structure TopTxt (K : PySem.W.Frag) (w : World) (mg : Str → Option Value) (c : Cs) : Prop where
  House : ClsAt K c.House nHouse
  Person : ClsAt K c.Person nPerson
  Ground : ClsAt K c.Ground nGround
  Store : ClsAt K c.Store nStore
  Copy : ClsAt K c.Copy nCopy
  Record : ClsAt K c.Record nRecord
  Hold : ClsAt K c.Hold nHold
  m_House : mg "House" = some (.ref c.House)
  m_Person : mg "Person" = some (.ref c.Person)
  m_Ground : mg "Ground" = some (.ref c.Ground)
  m_Store : mg "Store" = some (.ref c.Store)
  m_Copy : mg "Copy" = some (.ref c.Copy)
  m_Record : mg "Record" = some (.ref c.Record)
  m_Hold : mg "Hold" = some (.ref c.Hold)
  b_len : mg "len" = none
  b_str : mg "str" = none
  b_ord : mg "ord" = none
  b_int : mg "int" = none
  b_min : mg "min" = none
  b_max : mg "max" = none
  b_range : mg "range" = none
  b_zip : mg "zip" = none
  b_enumerate : mg "enumerate" = none
  g_MOST_GROUNDS : GV mg "MOST_GROUNDS" (.int 8)
  g_MOST_HOLDS : GV mg "MOST_HOLDS" (.int 4)
  g_MOST_PEOPLE : GV mg "MOST_PEOPLE" (.int 4)
  g_MOST_CONSENTS : GV mg "MOST_CONSENTS" (.int 4)
  g_DAYS_AHEAD : GV mg "DAYS_AHEAD" (.int 400)
  g_MOST_RECORDS : GV mg "MOST_RECORDS" (.int 16)
  g_MOST_BYTES : GV mg "MOST_BYTES" (.int 80)
  g_LOWEST_BYTE : GV mg "LOWEST_BYTE" (.int 32)
  g_HIGHEST_BYTE : GV mg "HIGHEST_BYTE" (.int 126)
  g_LETTERS : GV mg "LETTERS" (.str "abcdefghijklmnopqrstuvwxyz")
  g_SIGNS : GV mg "SIGNS" (.str " ,0123456789abcdefghijklmnopqrstuvwxyz")
  g_OTHER_SIGN : GV mg "OTHER_SIGN" (.str "?")
  g_NOT_NAMES : GV mg "NOT_NAMES" (.ref c.a_NOT_NAMES)
  s_NOT_NAMES : ∀ H, SqT K H c.a_NOT_NAMES [.str "any", .str "main"]
  g_EVENTS : GV mg "EVENTS" (.ref c.a_EVENTS)
  s_EVENTS : ∀ H, SqT K H c.a_EVENTS [.str "made", .str "used", .str "ended"]
  g_READERS : GV mg "READERS" (.ref c.a_READERS)
  g_MOST_STORES : GV mg "MOST_STORES" (.int 4)
  rd : ∃ es n, K.lookup c.a_READERS = some ⟨.type "dict", none, .dict es n, #[]⟩ ∧ PySem.W.KeysLit w.params es.toList ∧ (c.a_READERS == sysModules) = false ∧ ∀ x : Str, findBy Value.isStrOf es x = (rdrIx x rdrSlots 0).map fun i => .ref (c.rdr i)
  m_rdr : ∀ (i : Nat) (x : Str), rdrNames[i]? = some x → mg x = some (.ref (c.rdr i))
  n_rdr : ∀ i j, i < 7 → j < 7 → c.rdr i = c.rdr j → i = j
  m_cmd : ∀ (i : Nat) (x : Str), cmdNames[i]? = some x → mg x = some (.ref (c.cmd i))
  n_cmd : ∀ i j, i < 28 → j < 28 → c.cmd i = c.cmd j → i = j
/-- a def that is called by its name -/
structure Def (P : Program) (w : World) (K : PySem.W.Frag) (mg : Str → Option Value) (base : Heap) (x : Str) (k : Nat) (ps : List Str) (sp : Sp) : Prop where
  ex : ∃ (f : Addr) (fd : FuncData), FnOk P w K mg base CX0 k f fd ps sp ∧ mg x = some (.ref f) ∧ PySem.W.keepIn K (.ref f) = true ∧ Binds K fd ps []
/-- a def of the top, as it stands -/
structure FunAt (K : PySem.W.Frag) (mg : Str → Option Value) (x : Str) (st : Stmt) : Prop where
  ex : ∃ (f : Addr) (fd : FuncData), Fun K x x st f fd ∧ mg x = some (.ref f)
/-- a class that is made by its name -/
structure MadeBy (P : Program) (w : World) (K : PySem.W.Frag) (mg : Str → Option Value) (base : Heap) (C : Addr) (k : Nat) (ps : List Str) (sp : Sp) : Prop where
  ex : ∃ (f : Addr) (fd : FuncData), Mk K C f ∧ FnOk P w K mg base CX0 k f fd ps sp ∧ Binds K fd ps []
structure InitAt (K : PySem.W.Frag) (C : Addr) (q : Str) (st : Stmt) : Prop where
  ex : ∃ (f : Addr) (fd : FuncData), Mk K C f ∧ Fun K "__init__" q st f fd
def topS (i : Nat) : Stmt := PySem.Challenge.pw_keptrecords_s01_answers.main.body.getD i (.Pass ⟨0, 0, 0, 0⟩)
/-! readings' short words -/
abbrev rLt : R2 := rI0 fun i j => .bl (decide (i < j))
abbrev rLe : R2 := rI0 fun i j => .bl (decide (i ≤ j))
abbrev rGt : R2 := rI0 fun i j => .bl (decide (j < i))
abbrev rGe : R2 := rI0 fun i j => .bl (decide (j ≤ i))
abbrev rAddI : R2 := rI0 fun i j => .int (i + j)
abbrev rAddS : R2 := fun x y H Q => ∃ i j, x = .str i ∧ y = .str j ∧ i.length + j.length ≤ sizeLine ∧ Q (.str (i ++ j)) H
abbrev rNegI : V → Hp → VK → Prop := rU fun i => .int (-i)
abbrev rInS : R2 := fun x y H Q => ∃ (c : Nat) (z : Str), x = .str ⟨#[c]⟩ ∧ y = .str z ∧ Q (.bl (decide (c ∈ z.cps.toList))) H
abbrev rNotInS : R2 := fun x y H Q => ∃ (c : Nat) (z : Str), x = .str ⟨#[c]⟩ ∧ y = .str z ∧ Q (.bl (!decide (c ∈ z.cps.toList))) H
abbrev RC := List V → Hp → VK → Prop
abbrev rLenD : RC := fun xs H Q => ∃ a kvs, xs = [V.ref a] ∧ H a = some (.dK kvs) ∧ Q (.int kvs.length) H
abbrev rLenS : RC := fun xs H Q => ∃ z, xs = [.str z] ∧ z.length ≤ sizeLine ∧ Q (.int z.length) H
abbrev rLenL (K : PySem.W.Frag) : RC := fun xs H Q => ∃ p ys, xs = [.ref p] ∧ (SqL K H p ys ∨ SqT K H p ys) ∧ Q (.int ys.length) H
abbrev rStrI : RC := fun xs H Q => ∃ i, xs = [.int i] ∧ i.natAbs.log2 < 1920 ∧ Q (.str (toString i)) H
abbrev rIntS : RC := fun xs H Q => ∃ a n, xs = [.str a] ∧ PySem.intText? a = some n ∧ a.length ≤ 640 ∧ Q (.int n) H
abbrev rOrd : RC := fun xs H Q => ∃ x, xs = [.str x] ∧ x.length = 1 ∧ Q (.int (x.cps.getD 0 0 : Nat)) H
abbrev rMin2 : RC := fun xs H Q => ∃ i j, xs = [.int i, .int j] ∧ Q (.int (if j < i then j else i)) H
abbrev rMax2 : RC := fun xs H Q => ∃ i j, xs = [.int i, .int j] ∧ Q (.int (if j > i then j else i)) H
abbrev RM := V → List V → Hp → VK → Prop
abbrev rJoin (K : PySem.W.Frag) : RM := fun x xs H Q => ∃ a p, ∃ ys : List Str, x = .str a ∧ xs = [.ref p] ∧ (SqL K H p (ys.map V.str) ∨ SqT K H p (ys.map V.str)) ∧
      (ys.map (·.length)).sum + ys.length * a.length ≤ 16777216 ∧ Q (.str (_root_.PySem.Txt.join a ys)) H
abbrev rSplit : RM := fun x xs H Q => ∃ a b, x = .str a ∧ xs = [.str b] ∧ (b.length == 0) = false ∧ a.length + 2 ≤ sizeLine ∧ rNewStrs (_root_.PySem.Txt.split a b) H Q
abbrev rIsdigit : RM := fun x xs H Q => ∃ a, x = .str a ∧ xs = [] ∧ True ∧ Q (.bl (_root_.PySem.Txt.isdigit a)) H
abbrev rStarts : RM := fun x xs H Q => ∃ a b, x = .str a ∧ xs = [.str b] ∧ Q (.bl (_root_.PySem.Txt.startswith a b)) H
abbrev tTru (K : PySem.W.Frag) (ta : TE) : TT := fun σ H Q => ta σ H fun x H' => ∃ k, TruV K x H' k ∧ Q k H'
abbrev tJd (ts : List TE) : TE := fun σ H Q => tJs ts Str.empty σ H fun out H1 => Q (.str out) H1
/-- a field that is read -/
def Fd (K : PySem.W.Frag) (H : Hp) (x : V) (f : Str) (v : V) : Prop := ∃ a C dx fs, x = .ref a ∧ H a = some (.ins C dx fs) ∧ Cls K C ∧ NoAttr K C f ∧ fs.lookup f = some v
theorem fdq {K : PySem.W.Frag} {H : Hp} {x : V} {f : Str} {v : V} {Q : VK} (h : Fd K H x f v) (q : Q v H) : ∃ a C dx fs v, x = .ref a ∧ H a = some (.ins C dx fs) ∧ Cls K C ∧ NoAttr K C f ∧ fs.lookup f = some v ∧ Q v H := by
  obtain ⟨a, C, dx, fs, h1, h2, h3, h4, h5⟩ := h
  exact ⟨a, C, dx, fs, v, h1, h2, h3, h4, h5, q⟩
theorem Fd.same {K : PySem.W.Frag} {H H' : Hp} {x : V} {f : Str} {v : V} (h : Fd K H x f v) (e : Same H H') : Fd K H' x f v := by
  obtain ⟨a, C, dx, fs, h1, h2, h3⟩ := h
  exact ⟨a, C, dx, fs, h1, e _ _ h2, h3⟩
/-- an instance by its names and values -/
def Ob (H : Hp) (a C : Addr) (ns : List Str) (vs : List V) : Prop := ∃ dx, H a = some (.ins C dx (fsOf ns vs))
theorem Ob.same {H H' : Hp} {a C : Addr} {ns : List Str} {vs : List V} (h : Ob H a C ns vs) (e : Same H H') : Ob H' a C ns vs := by
  obtain ⟨dx, h⟩ := h
  exact ⟨dx, e _ _ h⟩
theorem Ob.fd {K : PySem.W.Frag} {H : Hp} {a C : Addr} {ns : List Str} {vs : List V} {f : Str} {v : V} (h : Ob H a C ns vs) (c : ClsAt K C ns) (i : Nat) (hn : ixOf ns f = some i) (hm : f ∈ ns) (hv : vs[i]? = some v) : Fd K H (.ref a) f v := by
  obtain ⟨dx, h⟩ := h
  exact ⟨a, C, dx, _, rfl, h, c.cl, c.no f hm, look hn hv⟩
end Kr

set_option Elab.async false
set_option linter.all false
set_option maxRecDepth 100000
set_option maxHeartbeats 2000000
namespace Kr
open PySem PySem.Spec PyProof.Rows L2
/-- what stands for what: each thing of a house has a tag, and a place in the heap -/
inductive Tag where
  | house
  | people
  | grounds
  | stores
  | holds
  | records
  | person (n : Kp01.Bytes)
  | consents (n : Kp01.Bytes)
  | ground (n : Kp01.Bytes)
  | store (n : Kp01.Bytes)
  | hold (n : Kp01.Bytes)
  | record (i : Nat)
  | sources (i : Nat)
  | copies (i : Nat)
  | copy (i : Nat) (n : Kp01.Bytes)
  deriving DecidableEq
inductive Cell where
  | ins (C : Addr) (ns : List Str) (vs : List V)
  | raw (o : HO)
def Cell.At (H : Hp) (a : Addr) : Cell → Prop
  | .ins C ns vs => Ob H a C ns vs
  | .raw o => H a = some o
theorem Cell.At.same {H H' : Hp} {a : Addr} {cl : Cell} (h : cl.At H a) (e : Same H H') : cl.At H' a := by
  cases cl with
  | ins C ns vs => exact Ob.same h e
  | raw o => exact e _ _ h
theorem Cell.At.some {H : Hp} {a : Addr} {cl : Cell} (h : cl.At H a) : ∃ o, H a = some o := by
  cases cl with
  | ins C ns vs => obtain ⟨dx, h⟩ := h; exact ⟨_, h⟩
  | raw o => exact ⟨_, h⟩
theorem Cell.At.upd_ne {H : Hp} {a b : Addr} {o : HO} {cl : Cell} (h : cl.At H a) (n : a ≠ b) : cl.At (upd H b o) a := by
  cases cl with
  | ins C ns vs => obtain ⟨dx, h⟩ := h; exact ⟨dx, by rw [L2.upd_ne n]; exact h⟩
  | raw u => show upd H b o a = _; rw [L2.upd_ne n]; exact h
def optV : Option Nat → V
  | none => .non
  | some d => .int d
def storeVals : Kp01.Store → List V
  | .roll n d => [.str (txt n), .str "roll", .int d, .bl true]
  | .other n h => [.str (txt n), .str "other", .int 0, .bl h]
def mainVals : List V := [.str "main", .str "main", .int 0, .bl true]
def stText : Kp01.State_ → Str
  | .there => "there"
  | .going _ => "going"
  | .asked _ => "asked"
  | .gone _ => "gone"
def stDay : Kp01.State_ → Option Nat
  | .there => none
  | .going d => some d
  | .asked d => some d
  | .gone d => some d
def basisText : Kp01.Basis → Str
  | .law => "law"
  | .consent _ => "for"
  | .need => "need"
def purposeV : Kp01.Basis → V
  | .consent w => .str (txt w)
  | _ => .non
def eventText : Kp01.Event → Str
  | .made => "made"
  | .used => "used"
  | .ended => "ended"
def groundOf (s : Kp01.House) (n : Bytes) : Option Kp01.Ground := s.grounds.find? fun g => g.name == n
def holdOf (s : Kp01.House) (n : Bytes) : Option Kp01.Hold := s.holds.find? fun g => g.name == n
def copyOf (r : Kp01.Record) (n : Bytes) : Option Kp01.Copy := r.copies.find? fun k => k.store == n
def houseVals (L : Tag → Addr) (day : Nat) : List V := [.int day, .ref (L (.store Kp01.MAIN)), .ref (L .people), .ref (L .grounds), .ref (L .stores), .ref (L .records), .ref (L .holds)]
def personVals (L : Tag → Addr) (n : Bytes) (p : Kp01.Person) : List V := [.str (txt p.name), .ref (L (.consents n)), .bl p.objects, optV p.ended]
def groundVals (g : Kp01.Ground) : List V := [.str (txt g.name), .str (txt g.kind), .str (basisText g.sort), purposeV g.sort, .int g.days, .str (eventText g.event)]
def holdVals (L : Tag → Addr) (h : Kp01.Hold) : List V := [.str (txt h.name), .ref (L (.person h.person)), .str (txt (h.kind.getD (Kp01.ascii "any")))]
def recordVals (L : Tag → Addr) (i : Nat) (r : Kp01.Record) : List V := [.int i, .ref (L (.person r.person)), .str (txt r.kind), .int r.made, .int r.used, .ref (L (.sources i)), optV r.letGo, .ref (L (.copies i))]
def copyVals (L : Tag → Addr) (k : Kp01.Copy) : List V := [.ref (L (.store k.store)), .str (stText k.st), optV (stDay k.st)]
/-- a dict by names -/
def byName {α : Type} (nm : α → Bytes) (g : Bytes → V) (l : List α) : List (Key × V) := l.map fun a => (.inr (txt (nm a)), g (nm a))
def cell (c : Cs) (L : Tag → Addr) (s : Kp01.House) : Tag → Option Cell
  | .house => some (.ins c.House nHouse (houseVals L s.day))
  | .people => some (.raw (.dK (byName (·.name) (fun n => .ref (L (.person n))) s.people)))
  | .grounds => some (.raw (.dK (byName (·.name) (fun n => .ref (L (.ground n))) s.grounds)))
  | .stores => some (.raw (.dK (byName Kp01.storeName (fun n => .ref (L (.store n))) s.stores)))
  | .holds => some (.raw (.dK (byName (·.name) (fun n => .ref (L (.hold n))) s.holds)))
  | .records => some (.raw (.lst ((List.range s.records.length).map fun i => .ref (L (.record i)))))
  | .person n => (Kp01.personOf s n).map fun p => .ins c.Person nPerson (personVals L n p)
  | .consents n => (Kp01.personOf s n).map fun p => .raw (.dK (byName id (fun _ => .bl true) p.consents))
  | .ground n => (groundOf s n).map fun g => .ins c.Ground nGround (groundVals g)
  | .store n => if n = Kp01.MAIN then some (.ins c.Store nStore mainVals) else (Kp01.storeOf s n).map fun x => .ins c.Store nStore (storeVals x)
  | .hold n => (holdOf s n).map fun h => .ins c.Hold nHold (holdVals L h)
  | .record i => (s.records[i]?).map fun r => .ins c.Record nRecord (recordVals L i r)
  | .sources i => (s.records[i]?).map fun r => .raw (.lst (r.of_.map fun k => .ref (L (.record k))))
  | .copies i => (s.records[i]?).map fun r => .raw (.lst (r.copies.map fun k => .ref (L (.copy i k.store))))
  | .copy i n => (s.records[i]?).bind fun r => (copyOf r n).map fun k => .ins c.Copy nCopy (copyVals L k)
/-- the house s lies in the heap H by L; what F tells of stands there too, apart from it; the tags of X are left open -/
structure Rep (c : Cs) (X : List Tag) (F : Hp) (s : Kp01.House) (L : Tag → Addr) (H : Hp) : Prop where
  at_ : ∀ t cl, t ∉ X → cell c L s t = some cl → cl.At H (L t)
  live : ∀ t, (cell c L s t).isSome = true → ∃ o, H (L t) = some o
  inj : ∀ t u, (cell c L s t).isSome = true → (cell c L s u).isSome = true → L t = L u → t = u
  keep : ∀ b o, F b = some o → H b = some o
  out : ∀ t, (cell c L s t).isSome = true → F (L t) = none
section
variable {c : Cs} {X Y : List Tag} {F : Hp} {s s' : Kp01.House} {L L' : Tag → Addr} {H H' : Hp}
theorem Rep.same (R : Rep c X F s L H) (e : Same H H') : Rep c X F s L H' :=
  ⟨fun t cl ht h => (R.at_ t cl ht h).same e, fun t h => let ⟨o, q⟩ := R.live t h; ⟨o, e _ _ q⟩, R.inj, fun b o h => e _ _ (R.keep b o h), R.out⟩
theorem Rep.sub (R : Rep c X F s L H) (e : ∀ t, t ∈ X → t ∈ Y) : Rep c Y F s L H :=
  ⟨fun t cl ht h => R.at_ t cl (fun z => ht (e t z)) h, R.live, R.inj, R.keep, R.out⟩
/-- less is told of what is apart -/
theorem Rep.less (R : Rep c X F s L H) {F' : Hp} (e : ∀ b o, F' b = some o → F b = some o) : Rep c X F' s L H :=
  ⟨R.at_, R.live, R.inj, fun b o h => R.keep b o (e b o h), fun t h => by
    cases q : F' (L t) with
    | none => rfl
    | some o => have z := e _ _ q; rw [R.out t h] at z; cases z⟩
/-- what is apart is told more of -/
theorem Rep.more (R : Rep c X F s L H) {p : Addr} {o : HO} (hp : H p = some o) (hn : ∀ t, (cell c L s t).isSome = true → L t ≠ p) : Rep c X (upd F p o) s L H :=
  ⟨R.at_, R.live, R.inj, fun b u h => by
    by_cases e : b = p
    · subst e; rw [upd_same] at h; cases h; exact hp
    · rw [upd_ne e] at h; exact R.keep b u h, fun t h => by rw [upd_ne (hn t h)]; exact R.out t h⟩
theorem Rep.free (R : Rep c X F s L H) {p : Addr} (hp : H p = none) : ∀ t, (cell c L s t).isSome = true → L t ≠ p := fun t h => by
  obtain ⟨o, e⟩ := R.live t h
  exact ne_of_none e hp
/-- a new thing, apart -/
theorem Rep.new (R : Rep c X F s L H) {p : Addr} {o : HO} (hp : H p = none) : Rep c X (upd F p o) s L (upd H p o) := by
  have e : Same H (upd H p o) := fun b u h => by rw [upd_ne (ne_of_none h hp)]; exact h
  exact (R.same e).more upd_same (R.free hp)
/-- a thing apart is changed -/
theorem Rep.apart (R : Rep c X F s L H) {p : Addr} {o u : HO} (hp : F p = some u) : Rep c X (upd F p o) s L (upd H p o) := by
  have hn : ∀ t, (cell c L s t).isSome = true → L t ≠ p := fun t h e => by
    have q := R.out t h
    rw [e, hp] at q
    cases q
  refine ⟨fun t cl ht h => (R.at_ t cl ht h).upd_ne (hn t (by rw [h]; rfl)), fun t h => ?_, R.inj, fun b x h => ?_, fun t h => ?_⟩
  · rw [upd_ne (hn t h)]; exact R.live t h
  · by_cases e : b = p
    · subst e; rw [upd_same] at h ⊢; exact h
    · rw [upd_ne e] at h ⊢; exact R.keep b x h
  · rw [upd_ne (hn t h)]; exact R.out t h
/-- one thing of the house is changed -/
theorem Rep.set (R : Rep c X F s L H) (t : Tag) {o : HO} (hs : ∀ u, u ≠ t → cell c L s' u = cell c L s u) (hl : (cell c L s t).isSome = true) {cl : Cell} (hc : cell c L s' t = some cl) (ho : cl.At (upd H (L t) o) (L t)) : Rep c X F s' L (upd H (L t) o) := by
  have some_of : ∀ u, (cell c L s' u).isSome = true → (cell c L s u).isSome = true := fun u h => by
    by_cases e : u = t
    · subst e; exact hl
    · rw [hs u e] at h; exact h
  refine ⟨fun u cl' hu h => ?_, fun u h => ?_, fun u v h h' e => R.inj u v (some_of u h) (some_of v h') e, fun b x h => ?_, fun u h => R.out u (some_of u h)⟩
  · by_cases e : u = t
    · subst e; rw [hc] at h; cases h; exact ho
    · rw [hs u e] at h
      exact (R.at_ u cl' hu h).upd_ne fun z => e (R.inj u t (by rw [h]; rfl) hl z)
  · by_cases e : L u = L t
    · rw [e]; exact ⟨o, upd_same⟩
    · rw [upd_ne e]; exact R.live u (some_of u h)
  · have hb : b ≠ L t := fun z => by rw [z, R.out t hl] at h; cases h
    rw [upd_ne hb]; exact R.keep b x h
/-- a thing of the house is left open (locked, or about to be changed) -/
theorem Rep.lock (R : Rep c X F s L H) (t : Tag) {o : HO} (hl : (cell c L s t).isSome = true) : Rep c (t :: X) F s L (upd H (L t) o) := by
  refine ⟨fun u cl' hu h => ?_, fun u h => ?_, R.inj, fun b x h => ?_, R.out⟩
  · have e : u ≠ t := fun z => hu (by rw [z]; exact List.mem_cons_self ..)
    exact (R.at_ u cl' (fun z => hu (List.mem_cons_of_mem _ z)) h).upd_ne fun z => e (R.inj u t (by rw [h]; rfl) hl z)
  · by_cases e : L u = L t
    · rw [e]; exact ⟨o, upd_same⟩
    · rw [upd_ne e]; exact R.live u h
  · have hb : b ≠ L t := fun z => by rw [z, R.out t hl] at h; cases h
    rw [upd_ne hb]; exact R.keep b x h
/-- an open thing is filled -/
theorem Rep.fill (R : Rep c (t :: X) F s L H) {o : HO} {cl : Cell} (hc : cell c L s t = some cl) (ho : cl.At (upd H (L t) o) (L t)) : Rep c X F s L (upd H (L t) o) := by
  have hl : (cell c L s t).isSome = true := by rw [hc]; rfl
  refine ⟨fun u cl' hu h => ?_, fun u h => ?_, R.inj, fun b x h => ?_, R.out⟩
  · by_cases e : u = t
    · subst e; rw [hc] at h; cases h; exact ho
    · exact (R.at_ u cl' (fun z => by rcases List.mem_cons.mp z with z | z; exact e z; exact hu z) h).upd_ne fun z => e (R.inj u t (by rw [h]; rfl) hl z)
  · by_cases e : L u = L t
    · rw [e]; exact ⟨o, upd_same⟩
    · rw [upd_ne e]; exact R.live u h
  · have hb : b ≠ L t := fun z => by rw [z, R.out t hl] at h; cases h
    rw [upd_ne hb]; exact R.keep b x h
/-- another house in the same places: N are new tags, that lie apart till now; Y are left open -/
theorem Rep.link {F0 : Hp} (R : Rep c X F0 s L H) (N : List Tag) (hL : ∀ u, u ∉ N → L' u = L u) (hcell : ∀ u cl, u ∉ N → u ∉ Y → cell c L' s' u = some cl → cell c L s u = some cl)
    (hiso : ∀ u, u ∉ N → (cell c L' s' u).isSome = true → (cell c L s u).isSome = true)
    (hnew : ∀ u ∈ N, ∀ cl, cell c L' s' u = some cl → cl.At H (L' u)) (hN : ∀ u ∈ N, ∃ o, F0 (L' u) = some o) (hinj : ∀ t u, t ∈ N → u ∈ N → L' t = L' u → t = u)
    (hF : ∀ b o, F b = some o → F0 b = some o) (hFN : ∀ u ∈ N, F (L' u) = none) (hXY : ∀ t, t ∈ X → t ∈ Y) : Rep c Y F s' L' H := by
  have apart : ∀ t u, t ∉ N → u ∈ N → (cell c L' s' t).isSome = true → L' t ≠ L' u := fun t u ht hu h e => by
    obtain ⟨o, q⟩ := hN u hu
    rw [← e, hL t ht, R.out t (hiso t ht h)] at q
    cases q
  refine ⟨fun u cl hu h => ?_, fun u h => ?_, fun t u h h' e => ?_, fun b o h => R.keep b o (hF b o h), fun t h => ?_⟩
  · by_cases m : u ∈ N
    · exact hnew u m cl h
    · rw [hL u m]
      exact R.at_ u cl (fun z => hu (hXY u z)) (hcell u cl m hu h)
  · by_cases m : u ∈ N
    · obtain ⟨o, q⟩ := hN u m
      exact ⟨o, R.keep _ _ q⟩
    · rw [hL u m]
      exact R.live u (hiso u m h)
  · by_cases m : t ∈ N
    · by_cases m' : u ∈ N
      · exact hinj t u m m' e
      · exact absurd e.symm (apart u t m' m h')
    · by_cases m' : u ∈ N
      · exact absurd e (apart t u m m' h)
      · rw [hL t m, hL u m'] at e
        exact R.inj t u (hiso t m h) (hiso u m' h') e
  · by_cases m : t ∈ N
    · exact hFN t m
    · rw [hL t m]
      cases q : F (L t) with
      | none => rfl
      | some o => have z := hF _ _ q; rw [R.out t (hiso t m h)] at z; cases z
/-- nothing is new -/
theorem Rep.fewer (R : Rep c X F s L H) (hcell : ∀ u cl, u ∉ Y → cell c L s' u = some cl → cell c L s u = some cl) (hiso : ∀ u, (cell c L s' u).isSome = true → (cell c L s u).isSome = true) (hXY : ∀ t, t ∈ X → t ∈ Y) : Rep c Y F s' L H :=
  R.link [] (fun _ _ => rfl) (fun u cl _ hy h => hcell u cl hy h) (fun u _ h => hiso u h) (fun _ h => by cases h) (fun _ h => by cases h) (fun _ _ h => by cases h) (fun _ _ h => h) (fun _ h => by cases h) hXY
end
end Kr

set_option Elab.async false
set_option linter.all false
set_option maxRecDepth 100000
set_option maxHeartbeats 2000000
namespace Kr
open PySem PySem.Spec PyProof.Rows L2
/-! ### dicts by names -/
section
variable {α : Type} {nm : α → Bytes} {g : Bytes → V}
theorem byName_val (n : Bytes) : ∀ (l : List α), valV (byName nm g l) (.inr (txt n)) = (l.find? fun a => nm a == n).map fun _ => g n
  | [] => rfl
  | a :: r => by
    show valV ((.inr (txt (nm a)), g (nm a)) :: byName nm g r) _ = _
    by_cases e : nm a = n
    · rw [valV_pos (show (Sum.inr (txt (nm a)) : Key) = Sum.inr (txt n) by rw [e]), List.find?_cons_of_pos (by simp [e])]
      show some (g (nm a)) = some (g n)
      rw [e]
    · rw [valV_neg (show ¬ (Sum.inr (txt (nm a)) : Key) = Sum.inr (txt n) from fun z => e (txt_inj (Sum.inr.inj z))), List.find?_cons_of_neg (by simp [e])]
      exact byName_val n r
theorem byName_drop (n : Bytes) : ∀ (l : List α), dropK (byName nm g l) (.inr (txt n)) = byName nm g (l.filter fun a => nm a != n)
  | [] => rfl
  | a :: r => by
    show dropK ((.inr (txt (nm a)), g (nm a)) :: byName nm g r) _ = _
    by_cases e : nm a = n
    · rw [dropK_pos (show (Sum.inr (txt (nm a)) : Key) = Sum.inr (txt n) by rw [e]), List.filter_cons_of_neg (by simp [e])]
      exact byName_drop n r
    · rw [dropK_neg (show ¬ (Sum.inr (txt (nm a)) : Key) = Sum.inr (txt n) from fun z => e (txt_inj (Sum.inr.inj z))), List.filter_cons_of_pos (by simp [e]), byName_drop n r]
      rfl
theorem byName_put {n : Bytes} {l : List α} {a : α} (h : (l.find? fun a => nm a == n) = none) (e : nm a = n) : putK (byName nm g l) (.inr (txt n)) (g n) = byName nm g (l ++ [a]) := by
  rw [putK_new _ (by rw [byName_val, h]; rfl)]
  unfold byName
  rw [List.map_append, ← e]
  rfl
theorem byName_len (l : List α) : (byName nm g l).length = l.length := List.length_map ..
theorem byName_at {l : List α} {i : Nat} {k : Key} {x : V} (h : (byName nm g l)[i]? = some (k, x)) : ∃ a, l[i]? = some a ∧ x = g (nm a) := by
  unfold byName at h
  rw [List.getElem?_map] at h
  cases e : l[i]? with
  | none => rw [e] at h; cases h
  | some a => rw [e] at h; cases h; exact ⟨a, rfl, rfl⟩
end
theorem cell_main (c : Cs) (L : Tag → Addr) (s : Kp01.House) : cell c L s (.store Kp01.MAIN) = some (.ins c.Store nStore mainVals) := by
  show (if Kp01.MAIN = Kp01.MAIN then some (Cell.ins c.Store nStore mainVals) else (Kp01.storeOf s Kp01.MAIN).map fun x => .ins c.Store nStore (storeVals x)) = _
  rw [if_pos rfl]
theorem cell_store (c : Cs) (L : Tag → Addr) (s : Kp01.House) {n : Bytes} (h : n ≠ Kp01.MAIN) : cell c L s (.store n) = (Kp01.storeOf s n).map fun x => .ins c.Store nStore (storeVals x) := by
  show (if n = Kp01.MAIN then some (Cell.ins c.Store nStore mainVals) else (Kp01.storeOf s n).map fun x => .ins c.Store nStore (storeVals x)) = _
  rw [if_neg h]
/-! ### what a Rep tells, thing by thing -/
section
variable {c : Cs} {X : List Tag} {F : Hp} {s : Kp01.House} {L : Tag → Addr} {H : Hp} {n : Bytes} {i : Nat}
theorem Rep.house (R : Rep c X F s L H) (h : Tag.house ∉ X) : Ob H (L .house) c.House nHouse (houseVals L s.day) := R.at_ .house _ h rfl
theorem Rep.person (R : Rep c X F s L H) {p : Kp01.Person} (e : Kp01.personOf s n = some p) (h : Tag.person n ∉ X) : Ob H (L (.person n)) c.Person nPerson (personVals L n p) := R.at_ (.person n) (.ins c.Person nPerson (personVals L n p)) h (by show (Kp01.personOf s n).map _ = _; rw [e]; rfl)
theorem Rep.consents (R : Rep c X F s L H) {p : Kp01.Person} (e : Kp01.personOf s n = some p) (h : Tag.consents n ∉ X) : H (L (.consents n)) = some (.dK (byName id (fun _ => .bl true) p.consents)) := R.at_ (.consents n) (.raw (.dK (byName id (fun _ => .bl true) p.consents))) h (by show (Kp01.personOf s n).map _ = _; rw [e]; rfl)
theorem Rep.ground (R : Rep c X F s L H) {g : Kp01.Ground} (e : groundOf s n = some g) (h : Tag.ground n ∉ X) : Ob H (L (.ground n)) c.Ground nGround (groundVals g) := R.at_ (.ground n) (.ins c.Ground nGround (groundVals g)) h (by show (groundOf s n).map _ = _; rw [e]; rfl)
theorem Rep.hold (R : Rep c X F s L H) {g : Kp01.Hold} (e : holdOf s n = some g) (h : Tag.hold n ∉ X) : Ob H (L (.hold n)) c.Hold nHold (holdVals L g) := R.at_ (.hold n) (.ins c.Hold nHold (holdVals L g)) h (by show (holdOf s n).map _ = _; rw [e]; rfl)
theorem Rep.record (R : Rep c X F s L H) {r : Kp01.Record} (e : s.records[i]? = some r) (h : Tag.record i ∉ X) : Ob H (L (.record i)) c.Record nRecord (recordVals L i r) := R.at_ (.record i) (.ins c.Record nRecord (recordVals L i r)) h (by show (s.records[i]?).map _ = _; rw [e]; rfl)
theorem Rep.sources (R : Rep c X F s L H) {r : Kp01.Record} (e : s.records[i]? = some r) (h : Tag.sources i ∉ X) : H (L (.sources i)) = some (.lst (r.of_.map fun k => .ref (L (.record k)))) := R.at_ (.sources i) (.raw (.lst (r.of_.map fun k => .ref (L (.record k))))) h (by show (s.records[i]?).map _ = _; rw [e]; rfl)
theorem Rep.copies (R : Rep c X F s L H) {r : Kp01.Record} (e : s.records[i]? = some r) (h : Tag.copies i ∉ X) : H (L (.copies i)) = some (.lst (r.copies.map fun k => .ref (L (.copy i k.store)))) := R.at_ (.copies i) (.raw (.lst (r.copies.map fun (k : Kp01.Copy) => .ref (L (.copy i k.store))))) h (by show (s.records[i]?).map _ = _; rw [e]; rfl)
theorem Rep.copy (R : Rep c X F s L H) {r : Kp01.Record} {k : Kp01.Copy} (e : s.records[i]? = some r) (ek : copyOf r n = some k) (h : Tag.copy i n ∉ X) : Ob H (L (.copy i n)) c.Copy nCopy (copyVals L k) := R.at_ (.copy i n) (.ins c.Copy nCopy (copyVals L k)) h (by show (s.records[i]?).bind _ = _; rw [e]; show (copyOf r n).map _ = _; rw [ek]; rfl)
theorem Rep.storeM (R : Rep c X F s L H) (h : Tag.store Kp01.MAIN ∉ X) : Ob H (L (.store Kp01.MAIN)) c.Store nStore mainVals := R.at_ (.store Kp01.MAIN) (.ins c.Store nStore mainVals) h (cell_main c L s)
theorem Rep.store (R : Rep c X F s L H) {x : Kp01.Store} (hn : n ≠ Kp01.MAIN) (e : Kp01.storeOf s n = some x) (h : Tag.store n ∉ X) : Ob H (L (.store n)) c.Store nStore (storeVals x) := R.at_ (.store n) (.ins c.Store nStore (storeVals x)) h (by rw [cell_store c L s hn, e]; rfl)
theorem Rep.people (R : Rep c X F s L H) (h : Tag.people ∉ X) : H (L .people) = some (.dK (byName (·.name) (fun n => .ref (L (.person n))) s.people)) := R.at_ .people _ h rfl
theorem Rep.grounds (R : Rep c X F s L H) (h : Tag.grounds ∉ X) : H (L .grounds) = some (.dK (byName (·.name) (fun n => .ref (L (.ground n))) s.grounds)) := R.at_ .grounds _ h rfl
theorem Rep.stores (R : Rep c X F s L H) (h : Tag.stores ∉ X) : H (L .stores) = some (.dK (byName Kp01.storeName (fun n => .ref (L (.store n))) s.stores)) := R.at_ .stores _ h rfl
theorem Rep.holds (R : Rep c X F s L H) (h : Tag.holds ∉ X) : H (L .holds) = some (.dK (byName (·.name) (fun n => .ref (L (.hold n))) s.holds)) := R.at_ .holds _ h rfl
theorem Rep.records (R : Rep c X F s L H) (h : Tag.records ∉ X) : H (L .records) = some (.lst ((List.range s.records.length).map fun i => .ref (L (.record i)))) := R.at_ .records _ h rfl
end
/-- the tags that a walk over grounds or holds has locked, and the list of records -/
abbrev XR : List Tag := [.records, .grounds, .holds]
abbrev X1 : List Tag := [.records]
theorem unlock_same {H H' : Hp} {d : Addr} {u : HO} {od : Obj} (hd : H d = some u) (e : Same (upd H d (.frz od u)) H') : Same H (upd H' d u) := fun b o h => by
  by_cases z : b = d
  · subst z; rw [hd] at h; cases h; exact upd_same
  · rw [upd_ne z]; exact e b o (by rw [upd_ne z]; exact h)
theorem range_at {f : Nat → V} {m i : Nat} {x : V} (h : ((List.range m).map f)[i]? = some x) : i < m ∧ x = f i := by
  rw [List.getElem?_map] at h
  by_cases hi : i < m
  · rw [List.getElem?_range hi] at h
    exact ⟨hi, (Option.some.inj h).symm⟩
  · rw [List.getElem?_eq_none (by rw [List.length_range]; omega)] at h
    cases h
theorem map_at {α : Type} {f : α → V} {l : List α} {i : Nat} {x : V} (h : (l.map f)[i]? = some x) : ∃ a, l[i]? = some a ∧ x = f a := by
  rw [List.getElem?_map] at h
  cases e : l[i]? with
  | none => rw [e] at h; cases h
  | some a => rw [e] at h; exact ⟨a, rfl, (Option.some.inj h).symm⟩
theorem if_true_of {b : Bool} {A B : Prop} (hc : b = true) (h : A) : if b = true then A else B := by
  rw [if_pos hc]; exact h
theorem if_false_of {b : Bool} {A B : Prop} (hc : b = false) (h : B) : if b = true then A else B := by
  rw [hc, if_neg Bool.false_ne_true]; exact h
/-! ### what holds of a house -/
structure Ok (s : Kp01.House) : Prop where
  below : Below s
  owned : Owned s
  npeople : (s.people.map (·.name)).Nodup
  ngrounds : (s.grounds.map (·.name)).Nodup
  nstores : (s.stores.map Kp01.storeName).Nodup
  nholds : (s.holds.map (·.name)).Nodup
  noMain : ∀ x ∈ s.stores, Kp01.storeName x ≠ Kp01.MAIN
  hperson : ∀ h ∈ s.holds, (Kp01.personOf s h.person).isSome = true
  hkind : ∀ h ∈ s.holds, h.kind ≠ some (Kp01.ascii "any")
  ncopies : ∀ (i : Nat) (r : Kp01.Record), s.records[i]? = some r → (r.copies.map (·.store)).Nodup
  cstores : ∀ (i : Nat) (r : Kp01.Record), s.records[i]? = some r → ∀ k ∈ r.copies, k.store = Kp01.MAIN ∨ (Kp01.storeOf s k.store).isSome = true
  cthere : ∀ (i : Nat) (r : Kp01.Record), s.records[i]? = some r → r.letGo = none → ∀ k ∈ r.copies, k.st = .there
  casked : ∀ (i : Nat) (r : Kp01.Record), s.records[i]? = some r → ∀ k ∈ r.copies, ∀ d, k.st = .asked d → ∃ m b, Kp01.storeOf s k.store = some (.other m b)
theorem find_mem {α : Type} {nm : α → Bytes} : ∀ {l : List α} {a : α}, (l.map nm).Nodup → a ∈ l → (l.find? fun x => nm x == nm a) = some a
  | [], _, _, h => by cases h
  | b :: r, a, hn, h => by
    rw [List.map_cons, List.nodup_cons] at hn
    rcases List.mem_cons.mp h with e | e
    · subst e; rw [List.find?_cons_of_pos (by simp)]
    · have ne : nm b ≠ nm a := fun z => hn.1 (by rw [z]; exact List.mem_map_of_mem e)
      rw [List.find?_cons_of_neg (by simp [ne])]
      exact find_mem hn.2 e
theorem storeOf_main {s : Kp01.House} (o : Ok s) : Kp01.storeOf s Kp01.MAIN = none := by
  unfold Kp01.storeOf
  rw [List.find?_eq_none]
  intro x hx
  simpa using o.noMain x hx
end Kr

set_option Elab.async false
set_option linter.all false
set_option maxRecDepth 100000
set_option maxHeartbeats 2000000
/-! ### The promise of each def, in the specification's words -/
namespace Kr
open PySem PySem.Spec PyProof.Rows L2
abbrev PR1 := V → Hp → VK → Prop
abbrev PR2 := V → V → Hp → VK → Prop
abbrev PR3 := V → V → V → Hp → VK → Prop
abbrev PR4 := V → V → V → V → Hp → VK → Prop
abbrev PR5 := V → V → V → V → V → Hp → VK → Prop
abbrev PR6 := V → V → V → V → V → V → Hp → VK → Prop
abbrev PR7 := V → V → V → V → V → V → V → Hp → VK → Prop
def sp0 (f : Hp → VK → Prop) : Sp := fun vs H Q _ => match vs with
  | [] => f H Q
  | _ => False
def sp1 (f : PR1) : Sp := fun vs H Q _ => match vs with
  | [a] => f a H Q
  | _ => False
def sp2 (f : PR2) : Sp := fun vs H Q _ => match vs with
  | [a, b] => f a b H Q
  | _ => False
def sp3 (f : PR3) : Sp := fun vs H Q _ => match vs with
  | [a, b, d] => f a b d H Q
  | _ => False
def sp4 (f : PR4) : Sp := fun vs H Q _ => match vs with
  | [a, b, d, e] => f a b d e H Q
  | _ => False
def sp6 (f : PR6) : Sp := fun vs H Q _ => match vs with
  | [a, b, d, e, g, h] => f a b d e g h H Q
  | _ => False
def sp7 (f : PR7) : Sp := fun vs H Q _ => match vs with
  | [a, b, d, e, g, h, i] => f a b d e g h i H Q
  | _ => False
theorem sp0_of {f : Hp → VK → Prop} {vs : List V} {H : Hp} {Q : VK} {E : XK} (h : sp0 f vs H Q E) : vs = [] ∧ f H Q := by
  match vs, h with
  | [], h => exact ⟨rfl, h⟩
theorem sp1_of {f : PR1} {vs : List V} {H : Hp} {Q : VK} {E : XK} (h : sp1 f vs H Q E) : ∃ a, vs = [a] ∧ f a H Q := by
  match vs, h with
  | [a], h => exact ⟨a, rfl, h⟩
theorem sp2_of {f : PR2} {vs : List V} {H : Hp} {Q : VK} {E : XK} (h : sp2 f vs H Q E) : ∃ a b, vs = [a, b] ∧ f a b H Q := by
  match vs, h with
  | [a, b], h => exact ⟨a, b, rfl, h⟩
theorem sp3_of {f : PR3} {vs : List V} {H : Hp} {Q : VK} {E : XK} (h : sp3 f vs H Q E) : ∃ a b d, vs = [a, b, d] ∧ f a b d H Q := by
  match vs, h with
  | [a, b, d], h => exact ⟨a, b, d, rfl, h⟩
theorem sp4_of {f : PR4} {vs : List V} {H : Hp} {Q : VK} {E : XK} (h : sp4 f vs H Q E) : ∃ a b d e, vs = [a, b, d, e] ∧ f a b d e H Q := by
  match vs, h with
  | [a, b, d, e], h => exact ⟨a, b, d, e, rfl, h⟩
theorem sp6_of {f : PR6} {vs : List V} {H : Hp} {Q : VK} {E : XK} (h : sp6 f vs H Q E) : ∃ a b d e g i, vs = [a, b, d, e, g, i] ∧ f a b d e g i H Q := by
  match vs, h with
  | [a, b, d, e, g, i], h => exact ⟨a, b, d, e, g, i, rfl, h⟩
theorem sp7_of {f : PR7} {vs : List V} {H : Hp} {Q : VK} {E : XK} (h : sp7 f vs H Q E) : ∃ a b d e g i j, vs = [a, b, d, e, g, i, j] ∧ f a b d e g i j H Q := by
  match vs, h with
  | [a, b, d, e, g, i, j], h => exact ⟨a, b, d, e, g, i, j, rfl, h⟩
section
variable (K : PySem.W.Frag) (c : Cs)
/-! keeping -/
def pr_days_end : PR2 := fun g r H Q => ∃ F s L n i g' r' p, g = .ref (L (.ground n)) ∧ r = .ref (L (.record i)) ∧ Rep c XR F s L H ∧ groundOf s n = some g' ∧ s.records[i]? = some r' ∧ Kp01.personOf s r'.person = some p ∧ Q (optV (daysEnd p r' g')) H
def pr_is_there : PR1 := fun r H Q => ∃ F s L i r', r = .ref (L (.record i)) ∧ Rep c XR F s L H ∧ s.records[i]? = some r' ∧ Q (.bl r'.letGo.isNone) H
def pr_sources_there : PR1 := fun r H Q => ∃ F s L i r', r = .ref (L (.record i)) ∧ Rep c XR F s L H ∧ Below s ∧ s.records[i]? = some r' ∧ Q (.bl (Kp01.whole s r')) H
def pr_stands_for : PR2 := fun g r H Q => ∃ F s L n i g' r' p, g = .ref (L (.ground n)) ∧ r = .ref (L (.record i)) ∧ Rep c XR F s L H ∧ Below s ∧ groundOf s n = some g' ∧ s.records[i]? = some r' ∧ Kp01.personOf s r'.person = some p ∧ Q (.bl (stands s p r' g')) H
def pr_gives : PR3 := fun h g r H Q => ∃ F s L n i g' r' p, h = .ref (L .house) ∧ g = .ref (L (.ground n)) ∧ r = .ref (L (.record i)) ∧ Rep c XR F s L H ∧ Below s ∧ groundOf s n = some g' ∧ s.records[i]? = some r' ∧ Kp01.personOf s r'.person = some p ∧ Q (.bl (Kp01.gives s p r' s.day g')) H
def holdOn (h : Kp01.Hold) (r : Kp01.Record) : Bool := h.person == r.person && match h.kind with
  | none => true
  | some k => k == r.kind
def pr_is_hold_of : PR2 := fun h r H Q => ∃ F s L n i h' r', h = .ref (L (.hold n)) ∧ r = .ref (L (.record i)) ∧ Rep c XR F s L H ∧ holdOf s n = some h' ∧ s.records[i]? = some r' ∧ (Kp01.personOf s h'.person).isSome = true ∧ (Kp01.personOf s r'.person).isSome = true ∧ h'.kind ≠ some (Kp01.ascii "any") ∧
  ∀ H', Same H H' → Q (.bl (holdOn h' r')) H'
def pr_is_held : PR2 := fun h r H Q => ∃ F s L i r', h = .ref (L .house) ∧ r = .ref (L (.record i)) ∧ Rep c X1 F s L H ∧ Ok s ∧ s.records[i]? = some r' ∧ ∀ H', Same H H' → Q (.bl (!(Kp01.heldBy s r').isEmpty)) H'
def pr_may_be_kept : PR2 := fun h r H Q => ∃ F s L i r', h = .ref (L .house) ∧ r = .ref (L (.record i)) ∧ Rep c X1 F s L H ∧ Ok s ∧ s.records[i]? = some r' ∧ ∀ H', Same H H' → Q (.bl (Kp01.keeps s r' s.day)) H'
def pr_set_copy : PR3 := fun k st d H Q => ∃ a dx v0 v1 v2, k = .ref a ∧ H a = some (.ins c.Copy dx (fsOf nCopy [v0, v1, v2])) ∧ Q .non (upd H a (.ins c.Copy dx (fsOf nCopy [v0, st, d])))
def withRec (s : Kp01.House) (i : Nat) (r : Kp01.Record) : Kp01.House := { s with records := s.records.set i r }
def pr_let_go : PR2 := fun h r H Q => ∃ F s L i r', h = .ref (L .house) ∧ r = .ref (L (.record i)) ∧ Rep c [] F s L H ∧ Ok s ∧ s.records[i]? = some r' ∧ ∀ H', Rep c [] F (withRec s i (goneRec s s.day r')) L H' → Q .non H'
/-- whether a copy is settled now -/
def now (s : Kp01.House) (k : Kp01.Copy) : Bool := match k.st with
  | .going t => decide (t ≤ s.day)
  | .asked _ => (match Kp01.storeOf s k.store with
    | some (.other _ b) => b
    | _ => false)
  | _ => false
def pr_is_settled_today : PR2 := fun h k H Q => ∃ F s L i n r' k', h = .ref (L .house) ∧ k = .ref (L (.copy i n)) ∧ Rep c [] F s L H ∧ s.records[i]? = some r' ∧ copyOf r' n = some k' ∧ (∀ d, k'.st = .asked d → n ≠ Kp01.MAIN ∧ ∃ m b, Kp01.storeOf s n = some (.other m b)) ∧ Q (.bl (now s k')) H
def pr_settle_copies : PR2 := fun h r H Q => ∃ F s L i r', h = .ref (L .house) ∧ r = .ref (L (.record i)) ∧ Rep c [] F s L H ∧ Ok s ∧ s.records[i]? = some r' ∧ r'.letGo.isSome = true ∧ ∀ H', Rep c [] F (withRec s i (settledRec s s.day r')) L H' → Q .non H'
def pr_all_goes : PR1 := fun h H Q => ∃ F s L, h = .ref (L .house) ∧ Rep c [] F s L H ∧ Ok s ∧ ∀ H', Rep c [] F (Kp01.today s) L H' → Q .non H'
def pr_pass_day : PR1 := fun h H Q => ∃ F s L, h = .ref (L .house) ∧ Rep c [] F s L H ∧ Ok s ∧ ∀ H', Rep c [] F (Kp01.nextDay s) L H' → Q .non H'
/-! a house, with all that holds of it and bounds of its sizes -/
structure Size (s : Kp01.House) : Prop where
  day : s.day ≤ 1000000
  people : s.people.length ≤ 4
  grounds : s.grounds.length ≤ 8
  stores : s.stores.length ≤ 4
  records : s.records.length ≤ 16
  holds : s.holds.length ≤ 4
  pname : ∀ p ∈ s.people, p.name.length ≤ 8 ∧ p.consents.length ≤ 4 ∧ p.consents.Nodup
  gname : ∀ g ∈ s.grounds, g.name.length ≤ 8 ∧ g.kind.length ≤ 8 ∧ ∀ v, g.sort = .consent v → v.length ≤ 8
  sname : ∀ x ∈ s.stores, (Kp01.storeName x).length ≤ 8 ∧ ∀ n d, x = .roll n d → d ≤ 400
  hname : ∀ h ∈ s.holds, h.name.length ≤ 8
  recs : ∀ (i : Nat) (r : Kp01.Record), s.records[i]? = some r → r.kind.length ≤ 8 ∧ (∀ d, r.letGo = some d → d ≤ s.day) ∧ ∀ k ∈ r.copies, ∀ d, stDay k.st = some d → d ≤ s.day + 400
structure Good (s : Kp01.House) : Prop where
  ok : Ok s
  kept : Kept s
  size : Size s
/-- a command's promise: rel tells which commands its things stand for -/
def cmdPr (rel : Kp01.Cmd → List V → Hp → Prop) : PR2 := fun h t H Q => ∃ F s L a vals cmd, h = .ref (L .house) ∧ t = .ref a ∧ Rep c [] F s L H ∧ Good s ∧ F a = some (.lst vals) ∧ rel cmd vals F ∧
  ∀ H' L', Rep c [] F (Kp01.does s cmd).1 L' H' → L' .house = L .house → Q (.str (txt (Kp01.does s cmd).2)) H'
abbrev isN (n : Bytes) : Prop := Kp01.isName n = true
def rel1 (f : Bytes → Kp01.Cmd) : Kp01.Cmd → List V → Hp → Prop := fun cmd vals _ => ∃ n, cmd = f n ∧ vals = [.str (txt n)] ∧ isN n
def rel2 (f : Bytes → Bytes → Kp01.Cmd) : Kp01.Cmd → List V → Hp → Prop := fun cmd vals _ => ∃ n m, cmd = f n m ∧ vals = [.str (txt n), .str (txt m)] ∧ isN n ∧ isN m
def relI (hi : Nat) (f : Nat → Kp01.Cmd) : Kp01.Cmd → List V → Hp → Prop := fun cmd vals _ => ∃ i, cmd = f i ∧ vals = [.int (i : Nat)] ∧ i ≤ hi
def pr_add_person := cmdPr c (rel1 .person)
def pr_give_consent := cmdPr c (rel2 .consent)
def pr_withdraw_consent := cmdPr c (rel2 .withdraw)
def pr_raise_objection := cmdPr c (rel1 .object)
def pr_end_matter := cmdPr c (rel1 .ended)
def pr_forget_person := cmdPr c (rel1 .forget)
def relG (b : Kp01.Basis) : Kp01.Cmd → List V → Hp → Prop := fun cmd vals _ => ∃ n k d e, cmd = .ground ⟨n, k, b, d, e⟩ ∧ vals = [.str (txt n), .str (txt k), .int (d : Nat), .str (eventText e)] ∧ isN n ∧ isN k ∧ d ≤ 4000
def relGF : Kp01.Cmd → List V → Hp → Prop := fun cmd vals _ => ∃ n k v d e, cmd = .ground ⟨n, k, .consent v, d, e⟩ ∧ vals = [.str (txt n), .str (txt k), .str (txt v), .int (d : Nat), .str (eventText e)] ∧ isN n ∧ isN k ∧ isN v ∧ d ≤ 4000
def pr_add_law_ground := cmdPr c (relG .law)
def pr_add_need_ground := cmdPr c (relG .need)
def pr_add_purpose_ground := cmdPr c relGF
/-- what a def does with a thing that was made for it, apart: o at p -/
def newPr (o : Addr → HO) (cmd : Kp01.Cmd) (p : Addr) (F : Hp) (s : Kp01.House) (L : Tag → Addr) (H : Hp) (Q : VK) : Prop := (∃ dx, Rep c [] (upd F p (o dx)) s L H) ∧ F p = none ∧ Good s ∧
  ∀ H' L', Rep c [] F (Kp01.does s cmd).1 L' H' → L' .house = L .house → Q (.str (txt (Kp01.does s cmd).2)) H'
def pr_add_ground : PR2 := fun h g H Q => ∃ F s L p g', h = .ref (L .house) ∧ g = .ref p ∧ g'.name.length ≤ 8 ∧ newPr c (fun dx => .ins c.Ground dx (fsOf nGround (groundVals g'))) (.ground g') p F s L H Q
def pr_void_ground := cmdPr c (rel1 .void)
def relHold : Kp01.Cmd → List V → Hp → Prop := fun cmd vals _ => ∃ n p k, cmd = .hold ⟨n, p, k⟩ ∧ vals = [.str (txt n), .str (txt p), .str (txt (k.getD (Kp01.ascii "any")))] ∧ isN n ∧ isN p ∧ ∀ x, k = some x → isN x
def pr_add_hold := cmdPr c relHold
def pr_free_hold := cmdPr c (rel1 .free)
/-! stores -/
def pr_add_store : PR2 := fun h x H Q => ∃ F s L p x', h = .ref (L .house) ∧ x = .ref p ∧ Kp01.storeName x' ≠ Kp01.MAIN ∧ newPr c (fun dx => .ins c.Store dx (fsOf nStore (storeVals x'))) (.store x') p F s L H Q
def relRoll : Kp01.Cmd → List V → Hp → Prop := fun cmd vals _ => ∃ n d, cmd = .store (.roll n d) ∧ vals = [.str (txt n), .int (d : Nat)] ∧ isN n ∧ d ≤ 400
def pr_add_rolled_store := cmdPr c relRoll
def pr_add_other_house := cmdPr c (rel1 fun n => .store (.other n true))
def wayOf : Kp01.Store → Str
  | .roll _ _ => "roll"
  | .other _ _ => "other"
def pr_store_of_way : PR3 := fun h n w H Q => ∃ F s L n' w', h = .ref (L .house) ∧ n = .str (txt n') ∧ w = .str w' ∧ Rep c [] F s L H ∧ Ok s ∧ Q (match Kp01.storeOf s n' with
  | none => .non
  | some x => if wayOf x = w' then .ref (L (.store n')) else .non) H
def pr_set_hearing : PR3 := fun h n b H Q => ∃ F s L n' b', h = .ref (L .house) ∧ n = .str (txt n') ∧ b = .bl b' ∧ Rep c [] F s L H ∧ Good s ∧
  ∀ H' L', Rep c [] F (Kp01.does s (.hears n' b')).1 L' H' → L' .house = L .house → Q (.str (txt (Kp01.does s (.hears n' b')).2)) H'
def pr_make_deaf := cmdPr c (rel1 fun n => .hears n false)
def pr_make_hearing := cmdPr c (rel1 fun n => .hears n true)
def liesIn (r : Kp01.Record) (n : Bytes) : Bool := r.copies.any fun k => k.store == n && !Kp01.isGone k.st
def pr_lies_in : PR2 := fun r x H Q => ∃ F s L i r' n x', r = .ref (L (.record i)) ∧ x = .ref (L (.store n)) ∧ Rep c [] F s L H ∧ Ok s ∧ s.records[i]? = some r' ∧ Kp01.storeOf s n = some x' ∧ Q (.bl (liesIn r' n)) H
def pr_put_back := cmdPr c (rel1 .back)
/-! records -/
def refusal (s : Kp01.House) (i : Nat) : V := match s.records[i]? with
  | none => .str "no record"
  | some r => if r.letGo.isSome = true then .str "no gone" else .non
def pr_record_refusal : PR2 := fun h i H Q => ∃ F s L i', h = .ref (L .house) ∧ i = .int (i' : Nat) ∧ Rep c [] F s L H ∧ Q (refusal s i') H
def newRec (s : Kp01.House) (n k : Bytes) (l : List Nat) : Kp01.Record := ⟨n, k, s.day, s.day, l, none, [⟨Kp01.MAIN, .there⟩]⟩
def pr_add_record : PR4 := fun h p k q H Q => ∃ F s L n k' l a p', h = .ref (L .house) ∧ p = .ref (L (.person n)) ∧ k = .str (txt k') ∧ q = .ref a ∧ Rep c [] (upd F a (.lst (l.map fun j => .ref (L (.record j))))) s L H ∧ F a = none ∧ Good s ∧ isN k' ∧ Kp01.personOf s n = some p' ∧
  (∀ j ∈ l, there s j = true) ∧ ∀ H' L', Rep c [] F (Kp01.put_ s (newRec s n k' l)).1 L' H' → L' .house = L .house → Q (.str (txt (Kp01.put_ s (newRec s n k' l)).2)) H'
def pr_put_record := cmdPr c (rel2 .put)
def relMake : Kp01.Cmd → List V → Hp → Prop := fun cmd vals F => ∃ n k l a, cmd = .make n k l ∧ vals = [.str (txt n), .str (txt k), .ref a] ∧ isN n ∧ isN k ∧ l.length ≤ 4 ∧ F a = some (.lst (l.map fun (j : Nat) => .int j))
def pr_make_record := cmdPr c relMake
def relCopy : Kp01.Cmd → List V → Hp → Prop := fun cmd vals _ => ∃ i n, cmd = .copy i n ∧ vals = [.int (i : Nat), .str (txt n)] ∧ isN n
def pr_copy_record := cmdPr c relCopy
def pr_use_record := cmdPr c (relI 99 .use)
def pr_pass_days := cmdPr c (relI 400 .tick)
/-! forecast -/
def natsV (l : List Nat) : List V := l.map fun (n : Nat) => .int n
def pr_ground_end : PR4 := fun g r e b H Q => ∃ F s L n i g' r' p a es far, g = .ref (L (.ground n)) ∧ r = .ref (L (.record i)) ∧ e = .ref a ∧ b = .int (far : Nat) ∧ Rep c XR F s L H ∧ groundOf s n = some g' ∧ s.records[i]? = some r' ∧ Kp01.personOf s r'.person = some p ∧
  H a = some (.lst (natsV es)) ∧ (∀ k ∈ r'.of_, k < es.length ∧ k < s.records.length) ∧ Q (.int (groundEnd p r' (fun k => es.getD k 0) far g' : Nat)) H
def pr_record_end : PR4 := fun h r e b H Q => ∃ F s L i r' a es far, h = .ref (L .house) ∧ r = .ref (L (.record i)) ∧ e = .ref a ∧ b = .int (far : Nat) ∧ Rep c [] F s L H ∧ Ok s ∧ s.records[i]? = some r' ∧
  F a = some (.lst (natsV es)) ∧ i ≤ es.length ∧ ∀ H', Same H H' → Q (.int (recordEnd s r' (fun k => es.getD k 0) far : Nat)) H'
def endV (far e : Nat) : V := if e = far then .non else .int e
def pr_days_of_going : PR1 := fun h H Q => ∃ F s L, h = .ref (L .house) ∧ Rep c [] F s L H ∧ Ok s ∧ s.records.length ≤ 16 ∧ ∀ H' p, Same H H' → H p = none → H' p = some (.lst ((ends s (s.day + 401)).map (endV (s.day + 401)))) → Q (.ref p) H'
/-! words -/
def intsV (l : List Int) : List V := l.map V.int
def isTextB (l : List Int) : Bool := decide (l.length ≤ 80) && l.all fun z => decide (32 ≤ z) && decide (z ≤ 126)
def pr_is_text : PR1 := fun a H Q => ∃ p zs, a = .ref p ∧ SqL K H p (intsV zs) ∧ Q (.bl (isTextB zs)) H
def signs : List Nat := [32, 44, 48, 49, 50, 51, 52, 53, 54, 55, 56, 57, 97, 98, 99, 100, 101, 102, 103, 104, 105, 106, 107, 108, 109, 110, 111, 112, 113, 114, 115, 116, 117, 118, 119, 120, 121, 122]
def signOf (z : Nat) : Nat := if z ∈ signs then z else 63
def strsV (l : List Bytes) : List V := l.map fun b => .str (txt b)
def pr_words_of : PR1 := fun a H Q => ∃ p ts, a = .ref p ∧ SqL K H p (natsV ts) ∧ ts.length ≤ 80 ∧ ∀ H' q, Same H H' → H q = none → H' q = some (.lst (strsV (Kp01.parted 32 (ts.map signOf)))) → Q (.ref q) H'
def pr_codes_of : PR1 := fun a H Q => ∃ b, a = .str (txt b) ∧ b.length ≤ 1000000 ∧ ∀ H' q, Same H H' → H q = none → H' q = some (.lst (natsV b)) → Q (.ref q) H'
def pr_listed : PR1 := fun a H Q => ∃ p rows, a = .ref p ∧ H p = some (.lst (strsV rows)) ∧ rows.length ≤ 200 ∧ (∀ r ∈ rows, r.length ≤ 200) ∧ ∀ H', Same H H' → Q (.str (txt (Kp01.joined 10 (Kp01.decimal rows.length :: rows)))) H'
def nameV (w : Bytes) : V := if Kp01.isName w = true then .str (txt w) else .non
def pr_read_name : PR1 := fun a H Q => ∃ w, a = .str (txt w) ∧ w.length ≤ 80 ∧ Q (nameV w) H
def pr_read_name_or_any : PR1 := fun a H Q => ∃ w, a = .str (txt w) ∧ w.length ≤ 80 ∧ Q (if w = Kp01.ascii "any" then .str (txt w) else nameV w) H
def eventV (w : Bytes) : V := match Kp01.event? w with
  | some e => .str (eventText e)
  | none => .non
def pr_read_event : PR1 := fun a H Q => ∃ w, a = .str (txt w) ∧ Q (eventV w) H
def numV (lo hi : Nat) (w : Bytes) : V := match Kp01.num? lo hi w with
  | some n => .int n
  | none => .non
def clean (w : Bytes) : Prop := ∀ x ∈ w, x ∈ signs ∨ x = 63
def pr_read_number : PR3 := fun a l h H Q => ∃ w lo hi, a = .str (txt w) ∧ l = .int (lo : Nat) ∧ h = .int (hi : Nat) ∧ w.length ≤ 80 ∧ clean w ∧ Q (numV lo hi w) H
def pr_read_span : PR1 := fun a H Q => ∃ w, a = .str (txt w) ∧ w.length ≤ 80 ∧ clean w ∧ Q (numV 0 4000 w) H
def pr_read_days : PR1 := fun a H Q => ∃ w, a = .str (txt w) ∧ w.length ≤ 80 ∧ clean w ∧ Q (numV 1 400 w) H
def pr_read_record : PR1 := fun a H Q => ∃ w, a = .str (txt w) ∧ w.length ≤ 80 ∧ clean w ∧ Q (numV 0 99 w) H
def pr_read_records : PR1 := fun a H Q => ∃ w, a = .str (txt w) ∧ w.length ≤ 80 ∧ clean w ∧ match Kp01.records? w with
  | none => ∀ H', Same H H' → Q .non H'
  | some l => ∀ H' q, Same H H' → H q = none → H' q = some (.lst (natsV l)) → Q (.ref q) H'
/-- what a word may tell -/
inductive Th where
  | s (b : Str)
  | n (k : Nat)
  | l (ks : List Nat)
def rdName (w : Bytes) : Option Th := if Kp01.isName w = true then some (.s (txt w)) else none
def rdAny (w : Bytes) : Option Th := if w = Kp01.ascii "any" then some (.s (txt w)) else rdName w
def rdEvent (w : Bytes) : Option Th := (Kp01.event? w).map fun e => .s (eventText e)
def rdNum (lo hi : Nat) (w : Bytes) : Option Th := (Kp01.num? lo hi w).map .n
def rdRecs (w : Bytes) : Option Th := (Kp01.records? w).map .l
def readerOf (slot : Bytes) : Option (Bytes → Option Th) :=
  if slot = Kp01.ascii "NAME" then some rdName else if slot = Kp01.ascii "NAME-OR-ANY" then some rdAny else if slot = Kp01.ascii "EVENT" then some rdEvent
  else if slot = Kp01.ascii "SPAN" then some (rdNum 0 4000) else if slot = Kp01.ascii "DAYS" then some (rdNum 1 400) else if slot = Kp01.ascii "RECORD" then some (rdNum 0 99) else if slot = Kp01.ascii "RECORDS" then some rdRecs else none
def fits : List Bytes → List Bytes → Option (List Th)
  | [], [] => some []
  | x :: xs, w :: ws => match readerOf x with
    | some rd => match rd w with
      | none => none
      | some t => (fits xs ws).map (t :: ·)
    | none => if x = w then fits xs ws else none
  | _, _ => none
/-- the values of things; lists lie apart from what was there -/
inductive ThV (H0 H : Hp) : List Th → List V → Prop where
  | nil : ThV H0 H [] []
  | s {b : Str} {ts : List Th} {vs : List V} (r : ThV H0 H ts vs) : ThV H0 H (.s b :: ts) (.str b :: vs)
  | n {k : Nat} {ts : List Th} {vs : List V} (r : ThV H0 H ts vs) : ThV H0 H (.n k :: ts) (.int k :: vs)
  | l {ks : List Nat} {a : Addr} {ts : List Th} {vs : List V} (h0 : H0 a = none) (h : H a = some (.lst (natsV ks))) (r : ThV H0 H ts vs) : ThV H0 H (.l ks :: ts) (.ref a :: vs)
def pr_things_told : PR2 := fun f ws H Q => ∃ fm p words, f = .str (txt fm) ∧ ws = .ref p ∧ fm.length ≤ 60 ∧ H p = some (.lst (strsV words)) ∧ words.length ≤ 100 ∧ (∀ w ∈ words, w.length ≤ 80 ∧ clean w) ∧
  match fits (Kp01.parted 32 fm) words with
  | none => ∀ H', Same H H' → Q .non H'
  | some ts => ∀ H' q vals, Same H H' → H q = none → H' q = some (.lst vals) → ThV H H' ts vals → (∀ a, V.ref a ∈ vals → a ≠ q) → Q (.ref q) H'
/-! questions -/
def pr_copy_row : PR1 := fun k H Q => ∃ F s L i n r' k', k = .ref (L (.copy i n)) ∧ Rep c [] F s L H ∧ Good s ∧ s.records[i]? = some r' ∧ copyOf r' n = some k' ∧ Q (.str (txt (Kp01.told (Kp01.copyLine k')))) H
def groundLine (g : Kp01.Ground) : Bytes := Kp01.told (g.name :: Kp01.sortText g.sort)
def pr_ground_row : PR1 := fun g H Q => ∃ F s L n g', g = .ref (L (.ground n)) ∧ Rep c XR F s L H ∧ Size s ∧ groundOf s n = some g' ∧ Q (.str (txt (groundLine g'))) H
def pr_tell_person := cmdPr c (rel1 .tell)
def pr_tell_why := cmdPr c (relI 99 .why)
def pr_tell_till := cmdPr c (relI 99 .till)
def pr_tell_proof := cmdPr c (relI 99 .proof)
def pr_tell_due := cmdPr c (relI 400 .due)
def pr_tell_asks := cmdPr c (fun cmd vals _ => cmd = .asks ∧ vals = [])
/-! the whole -/
def pr_answer_to : PR2 := fun h ws H Q => ∃ F s L a words, h = .ref (L .house) ∧ ws = .ref a ∧ Rep c [] F s L H ∧ Good s ∧ F a = some (.lst (strsV words)) ∧ words.length ≤ 100 ∧ (∀ w ∈ words, w.length ≤ 80 ∧ clean w) ∧
  ∀ H' L', Rep c [] F (match Kp01.cmd? words with
    | none => s
    | some cmd => (Kp01.does s cmd).1) L' H' → L' .house = L .house → Q (.str (txt (match Kp01.cmd? words with
    | none => Kp01.no "form"
    | some cmd => (Kp01.does s cmd).2))) H'
def saidOf (s : Kp01.House) (zs : List Int) : Kp01.House × List Int := if isTextB zs = true then ((Kp01.said s (zs.map Int.toNat)).1, ((Kp01.said s (zs.map Int.toNat)).2.length : Int) :: (Kp01.said s (zs.map Int.toNat)).2.map fun (x : Nat) => (x : Int)) else (s, [-1])
def pr_say : PR2 := fun h ws H Q => ∃ F s L a zs, h = .ref (L .house) ∧ ws = .ref a ∧ Rep c [] F s L H ∧ Good s ∧ F a = some (.lst (intsV zs)) ∧ (saidOf s zs).2.length ≤ 1000000 ∧
  ∀ H' L' q, Rep c [] (upd F q (.lst (intsV (saidOf s zs).2))) (saidOf s zs).1 L' H' → F q = none → L' .house = L .house → Q (.ref q) H'
def pr_answers : PR1 := fun a H Q => ∃ p ns, a = .ref p ∧ SqL K H p (intsV ns) ∧ PyKp01.answers_asked ns = true ∧ ∀ H' q, H' q = some (.lst (intsV (PyKp01.answers ns))) → Q (.ref q) H'
/-! the classes' making: the new thing at p -/
def mkPr (C : Addr) (ns : List Str) (vs : List V) (p : V) (H : Hp) (Q : VK) : Prop := ∃ a dx, p = .ref a ∧ H a = some (.ins C dx []) ∧ Q .non (upd H a (.ins C dx (fsOf ns vs)))
def prI_Person : PR2 := fun p n H Q => ∃ a dx, p = .ref a ∧ H a = some (.ins c.Person dx []) ∧ ∀ d, H d = none → ∀ H', (∀ b o, H b = some o → b ≠ a → H' b = some o) → H' d = some (.dK []) → H' a = some (.ins c.Person dx (fsOf nPerson [n, .ref d, .bl false, .non])) → Q .non H'
def prI_Ground : PR7 := fun p n k b u d e H Q => mkPr c.Ground nGround [n, k, b, u, d, e] p H Q
def prI_Store : PR4 := fun p n w t H Q => mkPr c.Store nStore [n, w, t, .bl true] p H Q
def prI_Copy : PR2 := fun p x H Q => mkPr c.Copy nCopy [x, .str "there", .non] p H Q
def prI_Hold : PR4 := fun p n q k H Q => mkPr c.Hold nHold [n, q, k] p H Q
def prI_Record : PR6 := fun p n q k l h H Q => ∃ a dx F s L, p = .ref a ∧ H a = some (.ins c.Record dx []) ∧ h = .ref (L .house) ∧ Rep c [] F s L H ∧ F a = some (.ins c.Record dx []) ∧
  ∀ H' e ex d, H e = none → H d = none → e ≠ d → (∀ b o, H b = some o → b ≠ a → H' b = some o) → H' e = some (.ins c.Copy ex (fsOf nCopy [.ref (L (.store Kp01.MAIN)), .str "there", .non])) → H' d = some (.lst [.ref e]) →
    H' a = some (.ins c.Record dx (fsOf nRecord [n, q, k, .int s.day, .int s.day, l, .non, .ref d])) → Q .non H'
def prI_House : PR1 := fun p H Q => ∃ a dx, p = .ref a ∧ H a = some (.ins c.House dx []) ∧ ∀ H' F L, (∀ b o, H b = some o → b ≠ a → F b = some o) → Rep c [] F Kp01.start L H' → L .house = a → Q .non H'
end
end Kr

set_option Elab.async false
set_option linter.all false
set_option maxRecDepth 100000
set_option maxHeartbeats 2000000
/-! ### Three rules that the layer lacks: a new dict locked for its walk; get of a written dict; a long display -/
namespace Kr
open PySem PySem.Spec PyProof.Rows L2
/-- what a dict's expression gives is locked from then on -/
def tFreeze (t : TE) : TE := fun σ H Q => t σ H fun v H1 => ∃ d u, v = .ref d ∧ H1 d = some u ∧ Mut (some u) ∧ ∀ od, Q v (upd H1 d (.frz od u))
theorem pe_freeze {X : Cx} {e : Expr} {t : TE} (h : PE X e t) : PE X e (tFreeze t) := by
  refine ⟨fun pins s σ H Q I hw => ?_⟩
  refine thn (h.run pins s σ H _ I hw) fun u s1 ⟨x, H1, I1, r, d, o, ex, hd, mu, q⟩ => ?_
  obtain ⟨od, I2⟩ := I1.lock hd mu
  exact ⟨x, _, I2, r, q od⟩
/-- a written dict with text keys: what it gives -/
def KTab (K : PySem.W.Frag) (w : World) (a : Addr) (f : Str → Option Value) : Prop := ∃ es n, K.lookup a = some ⟨.type "dict", none, .dict es n, #[]⟩ ∧ PySem.W.KeysLit w.params es.toList ∧ (a == sysModules) = false ∧ ∀ x : Str, findBy Value.isStrOf es x = f x
def tKGet (K : PySem.W.Frag) (w : World) (td ty : TE) : TE := fun σ H Q => td σ H fun x H1 => ∃ a f, x = .ref a ∧ KTab K w a f ∧ ty σ H1 fun y H2 => ∃ z o, y = .str z ∧ RelO o (f z) ∧ Q (o.getD .non) H2
theorem pe_kget {X : Cx} {o e : Expr} {apos cpos : Pos} {td ty : TE} (ho : PE X o td) (he : PE X e ty) (m : M1 X o "get" apos e cpos) : PE X (.Call (.Attribute o "get" apos) [e] [] cpos) (tKGet X.K X.w td ty) := by
  refine ⟨fun pins s σ H Q I h => ?_⟩
  refine wpAny_Call_method m.base m.few m.line PySem.F.plainAttrs_dict PySem.F.slot_dict_get PySem.F.type_dict_get (thn (ho.run pins s σ H _ I h) fun u s1 ⟨x, H1, I1, rx, a, f, ex, ⟨es, n, hl, hk, low, hf⟩, q1⟩ => ?_)
  subst ex
  obtain rfl : u = Value.ref a := rx
  have hm1 := PySem.W.mapOf_K (prog := X.prog) (w := X.w) I1.kIn hl hk
  refine ⟨hm1.typeIs, fun b q => ?_, ?_⟩
  · cases q
    exact ⟨_, I1.kIn _ _ hl, rfl⟩
  rw [m.trees]
  refine Calls.callWith_builtin rfl (Calls.evalArgs_plain (Calls.spliced_cons (thn (he.run pins s1 σ H1 _ I1 q1) fun iv s2 ⟨y, H2, I2, ry, z, ov, ey, ro, q2⟩ => Calls.spliced_nil ?_)))
  subst ey
  obtain ⟨t, rfl⟩ := (show ∃ t, iv = Value.str z t from ry)
  have hm := PySem.W.mapOf_K (prog := X.prog) (w := X.w) I2.kIn hl hk
  refine call_meetsIn PySem.F.slot_dict_get hm.typeIs PySem.F.entry_dict_get (PySem.F.args_dict_get_2 _ _) (meets_dict_get (strKind X.prog X.w) a (strKind_is X.prog X.w z t) low) ⟨_, hm, ?_⟩
  refine ⟨ov.getD .non, H2, I2.tok _, ?_, q2⟩
  rw [hf z]
  cases ov with
  | none =>
    cases hz : f z with
    | none => rfl
    | some v => rw [hz] at ro; exact ro.elim
  | some v =>
    cases hz : f z with
    | none => rw [hz] at ro; exact ro.elim
    | some v' => rw [hz] at ro; exact ro
end Kr

set_option Elab.async false
set_option linter.all false
set_option maxRecDepth 100000
set_option maxHeartbeats 2000000
/-! ### fields read, stored, and laid one behind another -/
namespace Kr
open PySem PySem.Spec PyProof.Rows L2
/-- a field is read: what follows is asked of its value -/
theorem fq {K : PySem.W.Frag} {H : Hp} {x : V} {f : Str} {v : V} {P : V → Prop} (h : Fd K H x f v) (q : P v) : ∃ a C dx fs v, x = .ref a ∧ H a = some (.ins C dx fs) ∧ Cls K C ∧ NoAttr K C f ∧ fs.lookup f = some v ∧ P v := by
  obtain ⟨a, C, dx, fs, h1, h2, h3, h4, h5⟩ := h
  exact ⟨a, C, dx, fs, v, h1, h2, h3, h4, h5, q⟩
theorem st_of {K : PySem.W.Frag} {H : Hp} {a C : Addr} {ns : List Str} {vs : List V} {f : Str} {y : V} {P : Hp → Prop} (o : Ob H a C ns vs) (c : ClsAt K C ns) (i : Nat) (hn : ixOf ns f = some i) (hm : f ∈ ns) (hi : i < vs.length) (hl : vs.length < 1000)
    (h : ∀ dx, H a = some (.ins C dx (fsOf ns vs)) → P (upd H a (.ins C dx (fsOf ns (vs.set i y))))) : ∃ a' C' dx fs, V.ref a = .ref a' ∧ H a' = some (.ins C' dx fs) ∧ Cls K C' ∧ NoAttr K C' f ∧ fs.length < 1000 ∧ P (upd H a' (.ins C' dx (putF f y fs))) := by
  obtain ⟨dx, e⟩ := o
  refine ⟨a, C, dx, _, rfl, e, c.cl, c.no f hm, fs_len _ _ hl, ?_⟩
  rw [put_set hn hi]
  exact h dx e
theorem sn_of {K : PySem.W.Frag} {H : Hp} {a C dx : Addr} {ns : List Str} {vs : List V} {f : Str} {y : V} {P : Hp → Prop} (o : H a = some (.ins C dx (fsOf ns vs))) (c : ClsAt K C ns) (i : Nat) (hn : ixOf ns f = some i) (hm : f ∈ ns) (hi : vs.length = i) (hl : vs.length < 1000)
    (h : P (upd H a (.ins C dx (fsOf ns (vs ++ [y]))))) : ∃ a' C' dx fs, V.ref a = .ref a' ∧ H a' = some (.ins C' dx fs) ∧ Cls K C' ∧ NoAttr K C' f ∧ fs.length < 1000 ∧ P (upd H a' (.ins C' dx (putF f y fs))) := by
  refine ⟨a, C, dx, _, rfl, o, c.cl, c.no f hm, fs_len _ _ hl, ?_⟩
  rw [put_next hn hi]
  exact h
section
variable {K : PySem.W.Frag} {w : World} {mg : Str → Option Value} {c : Cs} {H : Hp} {a dx : Addr} {vs : List V} {v y : V} {P : Hp → Prop}
theorem fd_House_today (T : TopTxt K w mg c) (o : Ob H a c.House nHouse vs) (hv : vs[0]? = some v := by rfl) : Fd K H (.ref a) "today" v := o.fd T.House 0 (by decide +kernel) (by decide +kernel) hv
theorem st_House_today (T : TopTxt K w mg c) (o : Ob H a c.House nHouse vs) (hl : vs.length = 7) (h : ∀ dx, H a = some (.ins c.House dx (fsOf nHouse vs)) → P (upd H a (.ins c.House dx (fsOf nHouse (vs.set 0 y))))) : ∃ a' C' dx fs, V.ref a = .ref a' ∧ H a' = some (.ins C' dx fs) ∧ Cls K C' ∧ NoAttr K C' "today" ∧ fs.length < 1000 ∧ P (upd H a' (.ins C' dx (putF "today" y fs))) := st_of o T.House 0 (by decide +kernel) (by decide +kernel) (by omega) (by omega) h
theorem sn_House_today (T : TopTxt K w mg c) (o : H a = some (.ins c.House dx (fsOf nHouse vs))) (hl : vs.length = 0) (h : P (upd H a (.ins c.House dx (fsOf nHouse (vs ++ [y]))))) : ∃ a' C' dx fs, V.ref a = .ref a' ∧ H a' = some (.ins C' dx fs) ∧ Cls K C' ∧ NoAttr K C' "today" ∧ fs.length < 1000 ∧ P (upd H a' (.ins C' dx (putF "today" y fs))) := sn_of o T.House 0 (by decide +kernel) (by decide +kernel) hl (by omega) h
theorem fd_House_main (T : TopTxt K w mg c) (o : Ob H a c.House nHouse vs) (hv : vs[1]? = some v := by rfl) : Fd K H (.ref a) "main" v := o.fd T.House 1 (by decide +kernel) (by decide +kernel) hv
theorem st_House_main (T : TopTxt K w mg c) (o : Ob H a c.House nHouse vs) (hl : vs.length = 7) (h : ∀ dx, H a = some (.ins c.House dx (fsOf nHouse vs)) → P (upd H a (.ins c.House dx (fsOf nHouse (vs.set 1 y))))) : ∃ a' C' dx fs, V.ref a = .ref a' ∧ H a' = some (.ins C' dx fs) ∧ Cls K C' ∧ NoAttr K C' "main" ∧ fs.length < 1000 ∧ P (upd H a' (.ins C' dx (putF "main" y fs))) := st_of o T.House 1 (by decide +kernel) (by decide +kernel) (by omega) (by omega) h
theorem sn_House_main (T : TopTxt K w mg c) (o : H a = some (.ins c.House dx (fsOf nHouse vs))) (hl : vs.length = 1) (h : P (upd H a (.ins c.House dx (fsOf nHouse (vs ++ [y]))))) : ∃ a' C' dx fs, V.ref a = .ref a' ∧ H a' = some (.ins C' dx fs) ∧ Cls K C' ∧ NoAttr K C' "main" ∧ fs.length < 1000 ∧ P (upd H a' (.ins C' dx (putF "main" y fs))) := sn_of o T.House 1 (by decide +kernel) (by decide +kernel) hl (by omega) h
theorem fd_House_people (T : TopTxt K w mg c) (o : Ob H a c.House nHouse vs) (hv : vs[2]? = some v := by rfl) : Fd K H (.ref a) "people" v := o.fd T.House 2 (by decide +kernel) (by decide +kernel) hv
theorem st_House_people (T : TopTxt K w mg c) (o : Ob H a c.House nHouse vs) (hl : vs.length = 7) (h : ∀ dx, H a = some (.ins c.House dx (fsOf nHouse vs)) → P (upd H a (.ins c.House dx (fsOf nHouse (vs.set 2 y))))) : ∃ a' C' dx fs, V.ref a = .ref a' ∧ H a' = some (.ins C' dx fs) ∧ Cls K C' ∧ NoAttr K C' "people" ∧ fs.length < 1000 ∧ P (upd H a' (.ins C' dx (putF "people" y fs))) := st_of o T.House 2 (by decide +kernel) (by decide +kernel) (by omega) (by omega) h
theorem sn_House_people (T : TopTxt K w mg c) (o : H a = some (.ins c.House dx (fsOf nHouse vs))) (hl : vs.length = 2) (h : P (upd H a (.ins c.House dx (fsOf nHouse (vs ++ [y]))))) : ∃ a' C' dx fs, V.ref a = .ref a' ∧ H a' = some (.ins C' dx fs) ∧ Cls K C' ∧ NoAttr K C' "people" ∧ fs.length < 1000 ∧ P (upd H a' (.ins C' dx (putF "people" y fs))) := sn_of o T.House 2 (by decide +kernel) (by decide +kernel) hl (by omega) h
theorem fd_House_grounds (T : TopTxt K w mg c) (o : Ob H a c.House nHouse vs) (hv : vs[3]? = some v := by rfl) : Fd K H (.ref a) "grounds" v := o.fd T.House 3 (by decide +kernel) (by decide +kernel) hv
theorem st_House_grounds (T : TopTxt K w mg c) (o : Ob H a c.House nHouse vs) (hl : vs.length = 7) (h : ∀ dx, H a = some (.ins c.House dx (fsOf nHouse vs)) → P (upd H a (.ins c.House dx (fsOf nHouse (vs.set 3 y))))) : ∃ a' C' dx fs, V.ref a = .ref a' ∧ H a' = some (.ins C' dx fs) ∧ Cls K C' ∧ NoAttr K C' "grounds" ∧ fs.length < 1000 ∧ P (upd H a' (.ins C' dx (putF "grounds" y fs))) := st_of o T.House 3 (by decide +kernel) (by decide +kernel) (by omega) (by omega) h
theorem sn_House_grounds (T : TopTxt K w mg c) (o : H a = some (.ins c.House dx (fsOf nHouse vs))) (hl : vs.length = 3) (h : P (upd H a (.ins c.House dx (fsOf nHouse (vs ++ [y]))))) : ∃ a' C' dx fs, V.ref a = .ref a' ∧ H a' = some (.ins C' dx fs) ∧ Cls K C' ∧ NoAttr K C' "grounds" ∧ fs.length < 1000 ∧ P (upd H a' (.ins C' dx (putF "grounds" y fs))) := sn_of o T.House 3 (by decide +kernel) (by decide +kernel) hl (by omega) h
theorem fd_House_stores (T : TopTxt K w mg c) (o : Ob H a c.House nHouse vs) (hv : vs[4]? = some v := by rfl) : Fd K H (.ref a) "stores" v := o.fd T.House 4 (by decide +kernel) (by decide +kernel) hv
theorem st_House_stores (T : TopTxt K w mg c) (o : Ob H a c.House nHouse vs) (hl : vs.length = 7) (h : ∀ dx, H a = some (.ins c.House dx (fsOf nHouse vs)) → P (upd H a (.ins c.House dx (fsOf nHouse (vs.set 4 y))))) : ∃ a' C' dx fs, V.ref a = .ref a' ∧ H a' = some (.ins C' dx fs) ∧ Cls K C' ∧ NoAttr K C' "stores" ∧ fs.length < 1000 ∧ P (upd H a' (.ins C' dx (putF "stores" y fs))) := st_of o T.House 4 (by decide +kernel) (by decide +kernel) (by omega) (by omega) h
theorem sn_House_stores (T : TopTxt K w mg c) (o : H a = some (.ins c.House dx (fsOf nHouse vs))) (hl : vs.length = 4) (h : P (upd H a (.ins c.House dx (fsOf nHouse (vs ++ [y]))))) : ∃ a' C' dx fs, V.ref a = .ref a' ∧ H a' = some (.ins C' dx fs) ∧ Cls K C' ∧ NoAttr K C' "stores" ∧ fs.length < 1000 ∧ P (upd H a' (.ins C' dx (putF "stores" y fs))) := sn_of o T.House 4 (by decide +kernel) (by decide +kernel) hl (by omega) h
theorem fd_House_records (T : TopTxt K w mg c) (o : Ob H a c.House nHouse vs) (hv : vs[5]? = some v := by rfl) : Fd K H (.ref a) "records" v := o.fd T.House 5 (by decide +kernel) (by decide +kernel) hv
theorem st_House_records (T : TopTxt K w mg c) (o : Ob H a c.House nHouse vs) (hl : vs.length = 7) (h : ∀ dx, H a = some (.ins c.House dx (fsOf nHouse vs)) → P (upd H a (.ins c.House dx (fsOf nHouse (vs.set 5 y))))) : ∃ a' C' dx fs, V.ref a = .ref a' ∧ H a' = some (.ins C' dx fs) ∧ Cls K C' ∧ NoAttr K C' "records" ∧ fs.length < 1000 ∧ P (upd H a' (.ins C' dx (putF "records" y fs))) := st_of o T.House 5 (by decide +kernel) (by decide +kernel) (by omega) (by omega) h
theorem sn_House_records (T : TopTxt K w mg c) (o : H a = some (.ins c.House dx (fsOf nHouse vs))) (hl : vs.length = 5) (h : P (upd H a (.ins c.House dx (fsOf nHouse (vs ++ [y]))))) : ∃ a' C' dx fs, V.ref a = .ref a' ∧ H a' = some (.ins C' dx fs) ∧ Cls K C' ∧ NoAttr K C' "records" ∧ fs.length < 1000 ∧ P (upd H a' (.ins C' dx (putF "records" y fs))) := sn_of o T.House 5 (by decide +kernel) (by decide +kernel) hl (by omega) h
theorem fd_House_holds (T : TopTxt K w mg c) (o : Ob H a c.House nHouse vs) (hv : vs[6]? = some v := by rfl) : Fd K H (.ref a) "holds" v := o.fd T.House 6 (by decide +kernel) (by decide +kernel) hv
theorem st_House_holds (T : TopTxt K w mg c) (o : Ob H a c.House nHouse vs) (hl : vs.length = 7) (h : ∀ dx, H a = some (.ins c.House dx (fsOf nHouse vs)) → P (upd H a (.ins c.House dx (fsOf nHouse (vs.set 6 y))))) : ∃ a' C' dx fs, V.ref a = .ref a' ∧ H a' = some (.ins C' dx fs) ∧ Cls K C' ∧ NoAttr K C' "holds" ∧ fs.length < 1000 ∧ P (upd H a' (.ins C' dx (putF "holds" y fs))) := st_of o T.House 6 (by decide +kernel) (by decide +kernel) (by omega) (by omega) h
theorem sn_House_holds (T : TopTxt K w mg c) (o : H a = some (.ins c.House dx (fsOf nHouse vs))) (hl : vs.length = 6) (h : P (upd H a (.ins c.House dx (fsOf nHouse (vs ++ [y]))))) : ∃ a' C' dx fs, V.ref a = .ref a' ∧ H a' = some (.ins C' dx fs) ∧ Cls K C' ∧ NoAttr K C' "holds" ∧ fs.length < 1000 ∧ P (upd H a' (.ins C' dx (putF "holds" y fs))) := sn_of o T.House 6 (by decide +kernel) (by decide +kernel) hl (by omega) h
theorem fd_Person_name (T : TopTxt K w mg c) (o : Ob H a c.Person nPerson vs) (hv : vs[0]? = some v := by rfl) : Fd K H (.ref a) "name" v := o.fd T.Person 0 (by decide +kernel) (by decide +kernel) hv
theorem st_Person_name (T : TopTxt K w mg c) (o : Ob H a c.Person nPerson vs) (hl : vs.length = 4) (h : ∀ dx, H a = some (.ins c.Person dx (fsOf nPerson vs)) → P (upd H a (.ins c.Person dx (fsOf nPerson (vs.set 0 y))))) : ∃ a' C' dx fs, V.ref a = .ref a' ∧ H a' = some (.ins C' dx fs) ∧ Cls K C' ∧ NoAttr K C' "name" ∧ fs.length < 1000 ∧ P (upd H a' (.ins C' dx (putF "name" y fs))) := st_of o T.Person 0 (by decide +kernel) (by decide +kernel) (by omega) (by omega) h
theorem sn_Person_name (T : TopTxt K w mg c) (o : H a = some (.ins c.Person dx (fsOf nPerson vs))) (hl : vs.length = 0) (h : P (upd H a (.ins c.Person dx (fsOf nPerson (vs ++ [y]))))) : ∃ a' C' dx fs, V.ref a = .ref a' ∧ H a' = some (.ins C' dx fs) ∧ Cls K C' ∧ NoAttr K C' "name" ∧ fs.length < 1000 ∧ P (upd H a' (.ins C' dx (putF "name" y fs))) := sn_of o T.Person 0 (by decide +kernel) (by decide +kernel) hl (by omega) h
theorem fd_Person_consents (T : TopTxt K w mg c) (o : Ob H a c.Person nPerson vs) (hv : vs[1]? = some v := by rfl) : Fd K H (.ref a) "consents" v := o.fd T.Person 1 (by decide +kernel) (by decide +kernel) hv
theorem st_Person_consents (T : TopTxt K w mg c) (o : Ob H a c.Person nPerson vs) (hl : vs.length = 4) (h : ∀ dx, H a = some (.ins c.Person dx (fsOf nPerson vs)) → P (upd H a (.ins c.Person dx (fsOf nPerson (vs.set 1 y))))) : ∃ a' C' dx fs, V.ref a = .ref a' ∧ H a' = some (.ins C' dx fs) ∧ Cls K C' ∧ NoAttr K C' "consents" ∧ fs.length < 1000 ∧ P (upd H a' (.ins C' dx (putF "consents" y fs))) := st_of o T.Person 1 (by decide +kernel) (by decide +kernel) (by omega) (by omega) h
theorem sn_Person_consents (T : TopTxt K w mg c) (o : H a = some (.ins c.Person dx (fsOf nPerson vs))) (hl : vs.length = 1) (h : P (upd H a (.ins c.Person dx (fsOf nPerson (vs ++ [y]))))) : ∃ a' C' dx fs, V.ref a = .ref a' ∧ H a' = some (.ins C' dx fs) ∧ Cls K C' ∧ NoAttr K C' "consents" ∧ fs.length < 1000 ∧ P (upd H a' (.ins C' dx (putF "consents" y fs))) := sn_of o T.Person 1 (by decide +kernel) (by decide +kernel) hl (by omega) h
theorem fd_Person_objects (T : TopTxt K w mg c) (o : Ob H a c.Person nPerson vs) (hv : vs[2]? = some v := by rfl) : Fd K H (.ref a) "objects" v := o.fd T.Person 2 (by decide +kernel) (by decide +kernel) hv
theorem st_Person_objects (T : TopTxt K w mg c) (o : Ob H a c.Person nPerson vs) (hl : vs.length = 4) (h : ∀ dx, H a = some (.ins c.Person dx (fsOf nPerson vs)) → P (upd H a (.ins c.Person dx (fsOf nPerson (vs.set 2 y))))) : ∃ a' C' dx fs, V.ref a = .ref a' ∧ H a' = some (.ins C' dx fs) ∧ Cls K C' ∧ NoAttr K C' "objects" ∧ fs.length < 1000 ∧ P (upd H a' (.ins C' dx (putF "objects" y fs))) := st_of o T.Person 2 (by decide +kernel) (by decide +kernel) (by omega) (by omega) h
theorem sn_Person_objects (T : TopTxt K w mg c) (o : H a = some (.ins c.Person dx (fsOf nPerson vs))) (hl : vs.length = 2) (h : P (upd H a (.ins c.Person dx (fsOf nPerson (vs ++ [y]))))) : ∃ a' C' dx fs, V.ref a = .ref a' ∧ H a' = some (.ins C' dx fs) ∧ Cls K C' ∧ NoAttr K C' "objects" ∧ fs.length < 1000 ∧ P (upd H a' (.ins C' dx (putF "objects" y fs))) := sn_of o T.Person 2 (by decide +kernel) (by decide +kernel) hl (by omega) h
theorem fd_Person_ended (T : TopTxt K w mg c) (o : Ob H a c.Person nPerson vs) (hv : vs[3]? = some v := by rfl) : Fd K H (.ref a) "ended" v := o.fd T.Person 3 (by decide +kernel) (by decide +kernel) hv
theorem st_Person_ended (T : TopTxt K w mg c) (o : Ob H a c.Person nPerson vs) (hl : vs.length = 4) (h : ∀ dx, H a = some (.ins c.Person dx (fsOf nPerson vs)) → P (upd H a (.ins c.Person dx (fsOf nPerson (vs.set 3 y))))) : ∃ a' C' dx fs, V.ref a = .ref a' ∧ H a' = some (.ins C' dx fs) ∧ Cls K C' ∧ NoAttr K C' "ended" ∧ fs.length < 1000 ∧ P (upd H a' (.ins C' dx (putF "ended" y fs))) := st_of o T.Person 3 (by decide +kernel) (by decide +kernel) (by omega) (by omega) h
theorem sn_Person_ended (T : TopTxt K w mg c) (o : H a = some (.ins c.Person dx (fsOf nPerson vs))) (hl : vs.length = 3) (h : P (upd H a (.ins c.Person dx (fsOf nPerson (vs ++ [y]))))) : ∃ a' C' dx fs, V.ref a = .ref a' ∧ H a' = some (.ins C' dx fs) ∧ Cls K C' ∧ NoAttr K C' "ended" ∧ fs.length < 1000 ∧ P (upd H a' (.ins C' dx (putF "ended" y fs))) := sn_of o T.Person 3 (by decide +kernel) (by decide +kernel) hl (by omega) h
theorem fd_Ground_name (T : TopTxt K w mg c) (o : Ob H a c.Ground nGround vs) (hv : vs[0]? = some v := by rfl) : Fd K H (.ref a) "name" v := o.fd T.Ground 0 (by decide +kernel) (by decide +kernel) hv
theorem st_Ground_name (T : TopTxt K w mg c) (o : Ob H a c.Ground nGround vs) (hl : vs.length = 6) (h : ∀ dx, H a = some (.ins c.Ground dx (fsOf nGround vs)) → P (upd H a (.ins c.Ground dx (fsOf nGround (vs.set 0 y))))) : ∃ a' C' dx fs, V.ref a = .ref a' ∧ H a' = some (.ins C' dx fs) ∧ Cls K C' ∧ NoAttr K C' "name" ∧ fs.length < 1000 ∧ P (upd H a' (.ins C' dx (putF "name" y fs))) := st_of o T.Ground 0 (by decide +kernel) (by decide +kernel) (by omega) (by omega) h
theorem sn_Ground_name (T : TopTxt K w mg c) (o : H a = some (.ins c.Ground dx (fsOf nGround vs))) (hl : vs.length = 0) (h : P (upd H a (.ins c.Ground dx (fsOf nGround (vs ++ [y]))))) : ∃ a' C' dx fs, V.ref a = .ref a' ∧ H a' = some (.ins C' dx fs) ∧ Cls K C' ∧ NoAttr K C' "name" ∧ fs.length < 1000 ∧ P (upd H a' (.ins C' dx (putF "name" y fs))) := sn_of o T.Ground 0 (by decide +kernel) (by decide +kernel) hl (by omega) h
theorem fd_Ground_kind (T : TopTxt K w mg c) (o : Ob H a c.Ground nGround vs) (hv : vs[1]? = some v := by rfl) : Fd K H (.ref a) "kind" v := o.fd T.Ground 1 (by decide +kernel) (by decide +kernel) hv
theorem st_Ground_kind (T : TopTxt K w mg c) (o : Ob H a c.Ground nGround vs) (hl : vs.length = 6) (h : ∀ dx, H a = some (.ins c.Ground dx (fsOf nGround vs)) → P (upd H a (.ins c.Ground dx (fsOf nGround (vs.set 1 y))))) : ∃ a' C' dx fs, V.ref a = .ref a' ∧ H a' = some (.ins C' dx fs) ∧ Cls K C' ∧ NoAttr K C' "kind" ∧ fs.length < 1000 ∧ P (upd H a' (.ins C' dx (putF "kind" y fs))) := st_of o T.Ground 1 (by decide +kernel) (by decide +kernel) (by omega) (by omega) h
theorem sn_Ground_kind (T : TopTxt K w mg c) (o : H a = some (.ins c.Ground dx (fsOf nGround vs))) (hl : vs.length = 1) (h : P (upd H a (.ins c.Ground dx (fsOf nGround (vs ++ [y]))))) : ∃ a' C' dx fs, V.ref a = .ref a' ∧ H a' = some (.ins C' dx fs) ∧ Cls K C' ∧ NoAttr K C' "kind" ∧ fs.length < 1000 ∧ P (upd H a' (.ins C' dx (putF "kind" y fs))) := sn_of o T.Ground 1 (by decide +kernel) (by decide +kernel) hl (by omega) h
theorem fd_Ground_basis (T : TopTxt K w mg c) (o : Ob H a c.Ground nGround vs) (hv : vs[2]? = some v := by rfl) : Fd K H (.ref a) "basis" v := o.fd T.Ground 2 (by decide +kernel) (by decide +kernel) hv
theorem st_Ground_basis (T : TopTxt K w mg c) (o : Ob H a c.Ground nGround vs) (hl : vs.length = 6) (h : ∀ dx, H a = some (.ins c.Ground dx (fsOf nGround vs)) → P (upd H a (.ins c.Ground dx (fsOf nGround (vs.set 2 y))))) : ∃ a' C' dx fs, V.ref a = .ref a' ∧ H a' = some (.ins C' dx fs) ∧ Cls K C' ∧ NoAttr K C' "basis" ∧ fs.length < 1000 ∧ P (upd H a' (.ins C' dx (putF "basis" y fs))) := st_of o T.Ground 2 (by decide +kernel) (by decide +kernel) (by omega) (by omega) h
theorem sn_Ground_basis (T : TopTxt K w mg c) (o : H a = some (.ins c.Ground dx (fsOf nGround vs))) (hl : vs.length = 2) (h : P (upd H a (.ins c.Ground dx (fsOf nGround (vs ++ [y]))))) : ∃ a' C' dx fs, V.ref a = .ref a' ∧ H a' = some (.ins C' dx fs) ∧ Cls K C' ∧ NoAttr K C' "basis" ∧ fs.length < 1000 ∧ P (upd H a' (.ins C' dx (putF "basis" y fs))) := sn_of o T.Ground 2 (by decide +kernel) (by decide +kernel) hl (by omega) h
theorem fd_Ground_purpose (T : TopTxt K w mg c) (o : Ob H a c.Ground nGround vs) (hv : vs[3]? = some v := by rfl) : Fd K H (.ref a) "purpose" v := o.fd T.Ground 3 (by decide +kernel) (by decide +kernel) hv
theorem st_Ground_purpose (T : TopTxt K w mg c) (o : Ob H a c.Ground nGround vs) (hl : vs.length = 6) (h : ∀ dx, H a = some (.ins c.Ground dx (fsOf nGround vs)) → P (upd H a (.ins c.Ground dx (fsOf nGround (vs.set 3 y))))) : ∃ a' C' dx fs, V.ref a = .ref a' ∧ H a' = some (.ins C' dx fs) ∧ Cls K C' ∧ NoAttr K C' "purpose" ∧ fs.length < 1000 ∧ P (upd H a' (.ins C' dx (putF "purpose" y fs))) := st_of o T.Ground 3 (by decide +kernel) (by decide +kernel) (by omega) (by omega) h
theorem sn_Ground_purpose (T : TopTxt K w mg c) (o : H a = some (.ins c.Ground dx (fsOf nGround vs))) (hl : vs.length = 3) (h : P (upd H a (.ins c.Ground dx (fsOf nGround (vs ++ [y]))))) : ∃ a' C' dx fs, V.ref a = .ref a' ∧ H a' = some (.ins C' dx fs) ∧ Cls K C' ∧ NoAttr K C' "purpose" ∧ fs.length < 1000 ∧ P (upd H a' (.ins C' dx (putF "purpose" y fs))) := sn_of o T.Ground 3 (by decide +kernel) (by decide +kernel) hl (by omega) h
theorem fd_Ground_span (T : TopTxt K w mg c) (o : Ob H a c.Ground nGround vs) (hv : vs[4]? = some v := by rfl) : Fd K H (.ref a) "span" v := o.fd T.Ground 4 (by decide +kernel) (by decide +kernel) hv
theorem st_Ground_span (T : TopTxt K w mg c) (o : Ob H a c.Ground nGround vs) (hl : vs.length = 6) (h : ∀ dx, H a = some (.ins c.Ground dx (fsOf nGround vs)) → P (upd H a (.ins c.Ground dx (fsOf nGround (vs.set 4 y))))) : ∃ a' C' dx fs, V.ref a = .ref a' ∧ H a' = some (.ins C' dx fs) ∧ Cls K C' ∧ NoAttr K C' "span" ∧ fs.length < 1000 ∧ P (upd H a' (.ins C' dx (putF "span" y fs))) := st_of o T.Ground 4 (by decide +kernel) (by decide +kernel) (by omega) (by omega) h
theorem sn_Ground_span (T : TopTxt K w mg c) (o : H a = some (.ins c.Ground dx (fsOf nGround vs))) (hl : vs.length = 4) (h : P (upd H a (.ins c.Ground dx (fsOf nGround (vs ++ [y]))))) : ∃ a' C' dx fs, V.ref a = .ref a' ∧ H a' = some (.ins C' dx fs) ∧ Cls K C' ∧ NoAttr K C' "span" ∧ fs.length < 1000 ∧ P (upd H a' (.ins C' dx (putF "span" y fs))) := sn_of o T.Ground 4 (by decide +kernel) (by decide +kernel) hl (by omega) h
theorem fd_Ground_event (T : TopTxt K w mg c) (o : Ob H a c.Ground nGround vs) (hv : vs[5]? = some v := by rfl) : Fd K H (.ref a) "event" v := o.fd T.Ground 5 (by decide +kernel) (by decide +kernel) hv
theorem st_Ground_event (T : TopTxt K w mg c) (o : Ob H a c.Ground nGround vs) (hl : vs.length = 6) (h : ∀ dx, H a = some (.ins c.Ground dx (fsOf nGround vs)) → P (upd H a (.ins c.Ground dx (fsOf nGround (vs.set 5 y))))) : ∃ a' C' dx fs, V.ref a = .ref a' ∧ H a' = some (.ins C' dx fs) ∧ Cls K C' ∧ NoAttr K C' "event" ∧ fs.length < 1000 ∧ P (upd H a' (.ins C' dx (putF "event" y fs))) := st_of o T.Ground 5 (by decide +kernel) (by decide +kernel) (by omega) (by omega) h
theorem sn_Ground_event (T : TopTxt K w mg c) (o : H a = some (.ins c.Ground dx (fsOf nGround vs))) (hl : vs.length = 5) (h : P (upd H a (.ins c.Ground dx (fsOf nGround (vs ++ [y]))))) : ∃ a' C' dx fs, V.ref a = .ref a' ∧ H a' = some (.ins C' dx fs) ∧ Cls K C' ∧ NoAttr K C' "event" ∧ fs.length < 1000 ∧ P (upd H a' (.ins C' dx (putF "event" y fs))) := sn_of o T.Ground 5 (by decide +kernel) (by decide +kernel) hl (by omega) h
theorem fd_Store_name (T : TopTxt K w mg c) (o : Ob H a c.Store nStore vs) (hv : vs[0]? = some v := by rfl) : Fd K H (.ref a) "name" v := o.fd T.Store 0 (by decide +kernel) (by decide +kernel) hv
theorem st_Store_name (T : TopTxt K w mg c) (o : Ob H a c.Store nStore vs) (hl : vs.length = 4) (h : ∀ dx, H a = some (.ins c.Store dx (fsOf nStore vs)) → P (upd H a (.ins c.Store dx (fsOf nStore (vs.set 0 y))))) : ∃ a' C' dx fs, V.ref a = .ref a' ∧ H a' = some (.ins C' dx fs) ∧ Cls K C' ∧ NoAttr K C' "name" ∧ fs.length < 1000 ∧ P (upd H a' (.ins C' dx (putF "name" y fs))) := st_of o T.Store 0 (by decide +kernel) (by decide +kernel) (by omega) (by omega) h
theorem sn_Store_name (T : TopTxt K w mg c) (o : H a = some (.ins c.Store dx (fsOf nStore vs))) (hl : vs.length = 0) (h : P (upd H a (.ins c.Store dx (fsOf nStore (vs ++ [y]))))) : ∃ a' C' dx fs, V.ref a = .ref a' ∧ H a' = some (.ins C' dx fs) ∧ Cls K C' ∧ NoAttr K C' "name" ∧ fs.length < 1000 ∧ P (upd H a' (.ins C' dx (putF "name" y fs))) := sn_of o T.Store 0 (by decide +kernel) (by decide +kernel) hl (by omega) h
theorem fd_Store_way (T : TopTxt K w mg c) (o : Ob H a c.Store nStore vs) (hv : vs[1]? = some v := by rfl) : Fd K H (.ref a) "way" v := o.fd T.Store 1 (by decide +kernel) (by decide +kernel) hv
theorem st_Store_way (T : TopTxt K w mg c) (o : Ob H a c.Store nStore vs) (hl : vs.length = 4) (h : ∀ dx, H a = some (.ins c.Store dx (fsOf nStore vs)) → P (upd H a (.ins c.Store dx (fsOf nStore (vs.set 1 y))))) : ∃ a' C' dx fs, V.ref a = .ref a' ∧ H a' = some (.ins C' dx fs) ∧ Cls K C' ∧ NoAttr K C' "way" ∧ fs.length < 1000 ∧ P (upd H a' (.ins C' dx (putF "way" y fs))) := st_of o T.Store 1 (by decide +kernel) (by decide +kernel) (by omega) (by omega) h
theorem sn_Store_way (T : TopTxt K w mg c) (o : H a = some (.ins c.Store dx (fsOf nStore vs))) (hl : vs.length = 1) (h : P (upd H a (.ins c.Store dx (fsOf nStore (vs ++ [y]))))) : ∃ a' C' dx fs, V.ref a = .ref a' ∧ H a' = some (.ins C' dx fs) ∧ Cls K C' ∧ NoAttr K C' "way" ∧ fs.length < 1000 ∧ P (upd H a' (.ins C' dx (putF "way" y fs))) := sn_of o T.Store 1 (by decide +kernel) (by decide +kernel) hl (by omega) h
theorem fd_Store_turn (T : TopTxt K w mg c) (o : Ob H a c.Store nStore vs) (hv : vs[2]? = some v := by rfl) : Fd K H (.ref a) "turn" v := o.fd T.Store 2 (by decide +kernel) (by decide +kernel) hv
theorem st_Store_turn (T : TopTxt K w mg c) (o : Ob H a c.Store nStore vs) (hl : vs.length = 4) (h : ∀ dx, H a = some (.ins c.Store dx (fsOf nStore vs)) → P (upd H a (.ins c.Store dx (fsOf nStore (vs.set 2 y))))) : ∃ a' C' dx fs, V.ref a = .ref a' ∧ H a' = some (.ins C' dx fs) ∧ Cls K C' ∧ NoAttr K C' "turn" ∧ fs.length < 1000 ∧ P (upd H a' (.ins C' dx (putF "turn" y fs))) := st_of o T.Store 2 (by decide +kernel) (by decide +kernel) (by omega) (by omega) h
theorem sn_Store_turn (T : TopTxt K w mg c) (o : H a = some (.ins c.Store dx (fsOf nStore vs))) (hl : vs.length = 2) (h : P (upd H a (.ins c.Store dx (fsOf nStore (vs ++ [y]))))) : ∃ a' C' dx fs, V.ref a = .ref a' ∧ H a' = some (.ins C' dx fs) ∧ Cls K C' ∧ NoAttr K C' "turn" ∧ fs.length < 1000 ∧ P (upd H a' (.ins C' dx (putF "turn" y fs))) := sn_of o T.Store 2 (by decide +kernel) (by decide +kernel) hl (by omega) h
theorem fd_Store_hears (T : TopTxt K w mg c) (o : Ob H a c.Store nStore vs) (hv : vs[3]? = some v := by rfl) : Fd K H (.ref a) "hears" v := o.fd T.Store 3 (by decide +kernel) (by decide +kernel) hv
theorem st_Store_hears (T : TopTxt K w mg c) (o : Ob H a c.Store nStore vs) (hl : vs.length = 4) (h : ∀ dx, H a = some (.ins c.Store dx (fsOf nStore vs)) → P (upd H a (.ins c.Store dx (fsOf nStore (vs.set 3 y))))) : ∃ a' C' dx fs, V.ref a = .ref a' ∧ H a' = some (.ins C' dx fs) ∧ Cls K C' ∧ NoAttr K C' "hears" ∧ fs.length < 1000 ∧ P (upd H a' (.ins C' dx (putF "hears" y fs))) := st_of o T.Store 3 (by decide +kernel) (by decide +kernel) (by omega) (by omega) h
theorem sn_Store_hears (T : TopTxt K w mg c) (o : H a = some (.ins c.Store dx (fsOf nStore vs))) (hl : vs.length = 3) (h : P (upd H a (.ins c.Store dx (fsOf nStore (vs ++ [y]))))) : ∃ a' C' dx fs, V.ref a = .ref a' ∧ H a' = some (.ins C' dx fs) ∧ Cls K C' ∧ NoAttr K C' "hears" ∧ fs.length < 1000 ∧ P (upd H a' (.ins C' dx (putF "hears" y fs))) := sn_of o T.Store 3 (by decide +kernel) (by decide +kernel) hl (by omega) h
theorem fd_Copy_store (T : TopTxt K w mg c) (o : Ob H a c.Copy nCopy vs) (hv : vs[0]? = some v := by rfl) : Fd K H (.ref a) "store" v := o.fd T.Copy 0 (by decide +kernel) (by decide +kernel) hv
theorem st_Copy_store (T : TopTxt K w mg c) (o : Ob H a c.Copy nCopy vs) (hl : vs.length = 3) (h : ∀ dx, H a = some (.ins c.Copy dx (fsOf nCopy vs)) → P (upd H a (.ins c.Copy dx (fsOf nCopy (vs.set 0 y))))) : ∃ a' C' dx fs, V.ref a = .ref a' ∧ H a' = some (.ins C' dx fs) ∧ Cls K C' ∧ NoAttr K C' "store" ∧ fs.length < 1000 ∧ P (upd H a' (.ins C' dx (putF "store" y fs))) := st_of o T.Copy 0 (by decide +kernel) (by decide +kernel) (by omega) (by omega) h
theorem sn_Copy_store (T : TopTxt K w mg c) (o : H a = some (.ins c.Copy dx (fsOf nCopy vs))) (hl : vs.length = 0) (h : P (upd H a (.ins c.Copy dx (fsOf nCopy (vs ++ [y]))))) : ∃ a' C' dx fs, V.ref a = .ref a' ∧ H a' = some (.ins C' dx fs) ∧ Cls K C' ∧ NoAttr K C' "store" ∧ fs.length < 1000 ∧ P (upd H a' (.ins C' dx (putF "store" y fs))) := sn_of o T.Copy 0 (by decide +kernel) (by decide +kernel) hl (by omega) h
theorem fd_Copy_state (T : TopTxt K w mg c) (o : Ob H a c.Copy nCopy vs) (hv : vs[1]? = some v := by rfl) : Fd K H (.ref a) "state" v := o.fd T.Copy 1 (by decide +kernel) (by decide +kernel) hv
theorem st_Copy_state (T : TopTxt K w mg c) (o : Ob H a c.Copy nCopy vs) (hl : vs.length = 3) (h : ∀ dx, H a = some (.ins c.Copy dx (fsOf nCopy vs)) → P (upd H a (.ins c.Copy dx (fsOf nCopy (vs.set 1 y))))) : ∃ a' C' dx fs, V.ref a = .ref a' ∧ H a' = some (.ins C' dx fs) ∧ Cls K C' ∧ NoAttr K C' "state" ∧ fs.length < 1000 ∧ P (upd H a' (.ins C' dx (putF "state" y fs))) := st_of o T.Copy 1 (by decide +kernel) (by decide +kernel) (by omega) (by omega) h
theorem sn_Copy_state (T : TopTxt K w mg c) (o : H a = some (.ins c.Copy dx (fsOf nCopy vs))) (hl : vs.length = 1) (h : P (upd H a (.ins c.Copy dx (fsOf nCopy (vs ++ [y]))))) : ∃ a' C' dx fs, V.ref a = .ref a' ∧ H a' = some (.ins C' dx fs) ∧ Cls K C' ∧ NoAttr K C' "state" ∧ fs.length < 1000 ∧ P (upd H a' (.ins C' dx (putF "state" y fs))) := sn_of o T.Copy 1 (by decide +kernel) (by decide +kernel) hl (by omega) h
theorem fd_Copy_day (T : TopTxt K w mg c) (o : Ob H a c.Copy nCopy vs) (hv : vs[2]? = some v := by rfl) : Fd K H (.ref a) "day" v := o.fd T.Copy 2 (by decide +kernel) (by decide +kernel) hv
theorem st_Copy_day (T : TopTxt K w mg c) (o : Ob H a c.Copy nCopy vs) (hl : vs.length = 3) (h : ∀ dx, H a = some (.ins c.Copy dx (fsOf nCopy vs)) → P (upd H a (.ins c.Copy dx (fsOf nCopy (vs.set 2 y))))) : ∃ a' C' dx fs, V.ref a = .ref a' ∧ H a' = some (.ins C' dx fs) ∧ Cls K C' ∧ NoAttr K C' "day" ∧ fs.length < 1000 ∧ P (upd H a' (.ins C' dx (putF "day" y fs))) := st_of o T.Copy 2 (by decide +kernel) (by decide +kernel) (by omega) (by omega) h
theorem sn_Copy_day (T : TopTxt K w mg c) (o : H a = some (.ins c.Copy dx (fsOf nCopy vs))) (hl : vs.length = 2) (h : P (upd H a (.ins c.Copy dx (fsOf nCopy (vs ++ [y]))))) : ∃ a' C' dx fs, V.ref a = .ref a' ∧ H a' = some (.ins C' dx fs) ∧ Cls K C' ∧ NoAttr K C' "day" ∧ fs.length < 1000 ∧ P (upd H a' (.ins C' dx (putF "day" y fs))) := sn_of o T.Copy 2 (by decide +kernel) (by decide +kernel) hl (by omega) h
theorem fd_Record_number (T : TopTxt K w mg c) (o : Ob H a c.Record nRecord vs) (hv : vs[0]? = some v := by rfl) : Fd K H (.ref a) "number" v := o.fd T.Record 0 (by decide +kernel) (by decide +kernel) hv
theorem st_Record_number (T : TopTxt K w mg c) (o : Ob H a c.Record nRecord vs) (hl : vs.length = 8) (h : ∀ dx, H a = some (.ins c.Record dx (fsOf nRecord vs)) → P (upd H a (.ins c.Record dx (fsOf nRecord (vs.set 0 y))))) : ∃ a' C' dx fs, V.ref a = .ref a' ∧ H a' = some (.ins C' dx fs) ∧ Cls K C' ∧ NoAttr K C' "number" ∧ fs.length < 1000 ∧ P (upd H a' (.ins C' dx (putF "number" y fs))) := st_of o T.Record 0 (by decide +kernel) (by decide +kernel) (by omega) (by omega) h
theorem sn_Record_number (T : TopTxt K w mg c) (o : H a = some (.ins c.Record dx (fsOf nRecord vs))) (hl : vs.length = 0) (h : P (upd H a (.ins c.Record dx (fsOf nRecord (vs ++ [y]))))) : ∃ a' C' dx fs, V.ref a = .ref a' ∧ H a' = some (.ins C' dx fs) ∧ Cls K C' ∧ NoAttr K C' "number" ∧ fs.length < 1000 ∧ P (upd H a' (.ins C' dx (putF "number" y fs))) := sn_of o T.Record 0 (by decide +kernel) (by decide +kernel) hl (by omega) h
theorem fd_Record_person (T : TopTxt K w mg c) (o : Ob H a c.Record nRecord vs) (hv : vs[1]? = some v := by rfl) : Fd K H (.ref a) "person" v := o.fd T.Record 1 (by decide +kernel) (by decide +kernel) hv
theorem st_Record_person (T : TopTxt K w mg c) (o : Ob H a c.Record nRecord vs) (hl : vs.length = 8) (h : ∀ dx, H a = some (.ins c.Record dx (fsOf nRecord vs)) → P (upd H a (.ins c.Record dx (fsOf nRecord (vs.set 1 y))))) : ∃ a' C' dx fs, V.ref a = .ref a' ∧ H a' = some (.ins C' dx fs) ∧ Cls K C' ∧ NoAttr K C' "person" ∧ fs.length < 1000 ∧ P (upd H a' (.ins C' dx (putF "person" y fs))) := st_of o T.Record 1 (by decide +kernel) (by decide +kernel) (by omega) (by omega) h
theorem sn_Record_person (T : TopTxt K w mg c) (o : H a = some (.ins c.Record dx (fsOf nRecord vs))) (hl : vs.length = 1) (h : P (upd H a (.ins c.Record dx (fsOf nRecord (vs ++ [y]))))) : ∃ a' C' dx fs, V.ref a = .ref a' ∧ H a' = some (.ins C' dx fs) ∧ Cls K C' ∧ NoAttr K C' "person" ∧ fs.length < 1000 ∧ P (upd H a' (.ins C' dx (putF "person" y fs))) := sn_of o T.Record 1 (by decide +kernel) (by decide +kernel) hl (by omega) h
theorem fd_Record_kind (T : TopTxt K w mg c) (o : Ob H a c.Record nRecord vs) (hv : vs[2]? = some v := by rfl) : Fd K H (.ref a) "kind" v := o.fd T.Record 2 (by decide +kernel) (by decide +kernel) hv
theorem st_Record_kind (T : TopTxt K w mg c) (o : Ob H a c.Record nRecord vs) (hl : vs.length = 8) (h : ∀ dx, H a = some (.ins c.Record dx (fsOf nRecord vs)) → P (upd H a (.ins c.Record dx (fsOf nRecord (vs.set 2 y))))) : ∃ a' C' dx fs, V.ref a = .ref a' ∧ H a' = some (.ins C' dx fs) ∧ Cls K C' ∧ NoAttr K C' "kind" ∧ fs.length < 1000 ∧ P (upd H a' (.ins C' dx (putF "kind" y fs))) := st_of o T.Record 2 (by decide +kernel) (by decide +kernel) (by omega) (by omega) h
theorem sn_Record_kind (T : TopTxt K w mg c) (o : H a = some (.ins c.Record dx (fsOf nRecord vs))) (hl : vs.length = 2) (h : P (upd H a (.ins c.Record dx (fsOf nRecord (vs ++ [y]))))) : ∃ a' C' dx fs, V.ref a = .ref a' ∧ H a' = some (.ins C' dx fs) ∧ Cls K C' ∧ NoAttr K C' "kind" ∧ fs.length < 1000 ∧ P (upd H a' (.ins C' dx (putF "kind" y fs))) := sn_of o T.Record 2 (by decide +kernel) (by decide +kernel) hl (by omega) h
theorem fd_Record_made (T : TopTxt K w mg c) (o : Ob H a c.Record nRecord vs) (hv : vs[3]? = some v := by rfl) : Fd K H (.ref a) "made" v := o.fd T.Record 3 (by decide +kernel) (by decide +kernel) hv
theorem st_Record_made (T : TopTxt K w mg c) (o : Ob H a c.Record nRecord vs) (hl : vs.length = 8) (h : ∀ dx, H a = some (.ins c.Record dx (fsOf nRecord vs)) → P (upd H a (.ins c.Record dx (fsOf nRecord (vs.set 3 y))))) : ∃ a' C' dx fs, V.ref a = .ref a' ∧ H a' = some (.ins C' dx fs) ∧ Cls K C' ∧ NoAttr K C' "made" ∧ fs.length < 1000 ∧ P (upd H a' (.ins C' dx (putF "made" y fs))) := st_of o T.Record 3 (by decide +kernel) (by decide +kernel) (by omega) (by omega) h
theorem sn_Record_made (T : TopTxt K w mg c) (o : H a = some (.ins c.Record dx (fsOf nRecord vs))) (hl : vs.length = 3) (h : P (upd H a (.ins c.Record dx (fsOf nRecord (vs ++ [y]))))) : ∃ a' C' dx fs, V.ref a = .ref a' ∧ H a' = some (.ins C' dx fs) ∧ Cls K C' ∧ NoAttr K C' "made" ∧ fs.length < 1000 ∧ P (upd H a' (.ins C' dx (putF "made" y fs))) := sn_of o T.Record 3 (by decide +kernel) (by decide +kernel) hl (by omega) h
theorem fd_Record_used (T : TopTxt K w mg c) (o : Ob H a c.Record nRecord vs) (hv : vs[4]? = some v := by rfl) : Fd K H (.ref a) "used" v := o.fd T.Record 4 (by decide +kernel) (by decide +kernel) hv
theorem st_Record_used (T : TopTxt K w mg c) (o : Ob H a c.Record nRecord vs) (hl : vs.length = 8) (h : ∀ dx, H a = some (.ins c.Record dx (fsOf nRecord vs)) → P (upd H a (.ins c.Record dx (fsOf nRecord (vs.set 4 y))))) : ∃ a' C' dx fs, V.ref a = .ref a' ∧ H a' = some (.ins C' dx fs) ∧ Cls K C' ∧ NoAttr K C' "used" ∧ fs.length < 1000 ∧ P (upd H a' (.ins C' dx (putF "used" y fs))) := st_of o T.Record 4 (by decide +kernel) (by decide +kernel) (by omega) (by omega) h
theorem sn_Record_used (T : TopTxt K w mg c) (o : H a = some (.ins c.Record dx (fsOf nRecord vs))) (hl : vs.length = 4) (h : P (upd H a (.ins c.Record dx (fsOf nRecord (vs ++ [y]))))) : ∃ a' C' dx fs, V.ref a = .ref a' ∧ H a' = some (.ins C' dx fs) ∧ Cls K C' ∧ NoAttr K C' "used" ∧ fs.length < 1000 ∧ P (upd H a' (.ins C' dx (putF "used" y fs))) := sn_of o T.Record 4 (by decide +kernel) (by decide +kernel) hl (by omega) h
theorem fd_Record_sources (T : TopTxt K w mg c) (o : Ob H a c.Record nRecord vs) (hv : vs[5]? = some v := by rfl) : Fd K H (.ref a) "sources" v := o.fd T.Record 5 (by decide +kernel) (by decide +kernel) hv
theorem st_Record_sources (T : TopTxt K w mg c) (o : Ob H a c.Record nRecord vs) (hl : vs.length = 8) (h : ∀ dx, H a = some (.ins c.Record dx (fsOf nRecord vs)) → P (upd H a (.ins c.Record dx (fsOf nRecord (vs.set 5 y))))) : ∃ a' C' dx fs, V.ref a = .ref a' ∧ H a' = some (.ins C' dx fs) ∧ Cls K C' ∧ NoAttr K C' "sources" ∧ fs.length < 1000 ∧ P (upd H a' (.ins C' dx (putF "sources" y fs))) := st_of o T.Record 5 (by decide +kernel) (by decide +kernel) (by omega) (by omega) h
theorem sn_Record_sources (T : TopTxt K w mg c) (o : H a = some (.ins c.Record dx (fsOf nRecord vs))) (hl : vs.length = 5) (h : P (upd H a (.ins c.Record dx (fsOf nRecord (vs ++ [y]))))) : ∃ a' C' dx fs, V.ref a = .ref a' ∧ H a' = some (.ins C' dx fs) ∧ Cls K C' ∧ NoAttr K C' "sources" ∧ fs.length < 1000 ∧ P (upd H a' (.ins C' dx (putF "sources" y fs))) := sn_of o T.Record 5 (by decide +kernel) (by decide +kernel) hl (by omega) h
theorem fd_Record_gone_on (T : TopTxt K w mg c) (o : Ob H a c.Record nRecord vs) (hv : vs[6]? = some v := by rfl) : Fd K H (.ref a) "gone_on" v := o.fd T.Record 6 (by decide +kernel) (by decide +kernel) hv
theorem st_Record_gone_on (T : TopTxt K w mg c) (o : Ob H a c.Record nRecord vs) (hl : vs.length = 8) (h : ∀ dx, H a = some (.ins c.Record dx (fsOf nRecord vs)) → P (upd H a (.ins c.Record dx (fsOf nRecord (vs.set 6 y))))) : ∃ a' C' dx fs, V.ref a = .ref a' ∧ H a' = some (.ins C' dx fs) ∧ Cls K C' ∧ NoAttr K C' "gone_on" ∧ fs.length < 1000 ∧ P (upd H a' (.ins C' dx (putF "gone_on" y fs))) := st_of o T.Record 6 (by decide +kernel) (by decide +kernel) (by omega) (by omega) h
theorem sn_Record_gone_on (T : TopTxt K w mg c) (o : H a = some (.ins c.Record dx (fsOf nRecord vs))) (hl : vs.length = 6) (h : P (upd H a (.ins c.Record dx (fsOf nRecord (vs ++ [y]))))) : ∃ a' C' dx fs, V.ref a = .ref a' ∧ H a' = some (.ins C' dx fs) ∧ Cls K C' ∧ NoAttr K C' "gone_on" ∧ fs.length < 1000 ∧ P (upd H a' (.ins C' dx (putF "gone_on" y fs))) := sn_of o T.Record 6 (by decide +kernel) (by decide +kernel) hl (by omega) h
theorem fd_Record_copies (T : TopTxt K w mg c) (o : Ob H a c.Record nRecord vs) (hv : vs[7]? = some v := by rfl) : Fd K H (.ref a) "copies" v := o.fd T.Record 7 (by decide +kernel) (by decide +kernel) hv
theorem st_Record_copies (T : TopTxt K w mg c) (o : Ob H a c.Record nRecord vs) (hl : vs.length = 8) (h : ∀ dx, H a = some (.ins c.Record dx (fsOf nRecord vs)) → P (upd H a (.ins c.Record dx (fsOf nRecord (vs.set 7 y))))) : ∃ a' C' dx fs, V.ref a = .ref a' ∧ H a' = some (.ins C' dx fs) ∧ Cls K C' ∧ NoAttr K C' "copies" ∧ fs.length < 1000 ∧ P (upd H a' (.ins C' dx (putF "copies" y fs))) := st_of o T.Record 7 (by decide +kernel) (by decide +kernel) (by omega) (by omega) h
theorem sn_Record_copies (T : TopTxt K w mg c) (o : H a = some (.ins c.Record dx (fsOf nRecord vs))) (hl : vs.length = 7) (h : P (upd H a (.ins c.Record dx (fsOf nRecord (vs ++ [y]))))) : ∃ a' C' dx fs, V.ref a = .ref a' ∧ H a' = some (.ins C' dx fs) ∧ Cls K C' ∧ NoAttr K C' "copies" ∧ fs.length < 1000 ∧ P (upd H a' (.ins C' dx (putF "copies" y fs))) := sn_of o T.Record 7 (by decide +kernel) (by decide +kernel) hl (by omega) h
theorem fd_Hold_name (T : TopTxt K w mg c) (o : Ob H a c.Hold nHold vs) (hv : vs[0]? = some v := by rfl) : Fd K H (.ref a) "name" v := o.fd T.Hold 0 (by decide +kernel) (by decide +kernel) hv
theorem st_Hold_name (T : TopTxt K w mg c) (o : Ob H a c.Hold nHold vs) (hl : vs.length = 3) (h : ∀ dx, H a = some (.ins c.Hold dx (fsOf nHold vs)) → P (upd H a (.ins c.Hold dx (fsOf nHold (vs.set 0 y))))) : ∃ a' C' dx fs, V.ref a = .ref a' ∧ H a' = some (.ins C' dx fs) ∧ Cls K C' ∧ NoAttr K C' "name" ∧ fs.length < 1000 ∧ P (upd H a' (.ins C' dx (putF "name" y fs))) := st_of o T.Hold 0 (by decide +kernel) (by decide +kernel) (by omega) (by omega) h
theorem sn_Hold_name (T : TopTxt K w mg c) (o : H a = some (.ins c.Hold dx (fsOf nHold vs))) (hl : vs.length = 0) (h : P (upd H a (.ins c.Hold dx (fsOf nHold (vs ++ [y]))))) : ∃ a' C' dx fs, V.ref a = .ref a' ∧ H a' = some (.ins C' dx fs) ∧ Cls K C' ∧ NoAttr K C' "name" ∧ fs.length < 1000 ∧ P (upd H a' (.ins C' dx (putF "name" y fs))) := sn_of o T.Hold 0 (by decide +kernel) (by decide +kernel) hl (by omega) h
theorem fd_Hold_person (T : TopTxt K w mg c) (o : Ob H a c.Hold nHold vs) (hv : vs[1]? = some v := by rfl) : Fd K H (.ref a) "person" v := o.fd T.Hold 1 (by decide +kernel) (by decide +kernel) hv
theorem st_Hold_person (T : TopTxt K w mg c) (o : Ob H a c.Hold nHold vs) (hl : vs.length = 3) (h : ∀ dx, H a = some (.ins c.Hold dx (fsOf nHold vs)) → P (upd H a (.ins c.Hold dx (fsOf nHold (vs.set 1 y))))) : ∃ a' C' dx fs, V.ref a = .ref a' ∧ H a' = some (.ins C' dx fs) ∧ Cls K C' ∧ NoAttr K C' "person" ∧ fs.length < 1000 ∧ P (upd H a' (.ins C' dx (putF "person" y fs))) := st_of o T.Hold 1 (by decide +kernel) (by decide +kernel) (by omega) (by omega) h
theorem sn_Hold_person (T : TopTxt K w mg c) (o : H a = some (.ins c.Hold dx (fsOf nHold vs))) (hl : vs.length = 1) (h : P (upd H a (.ins c.Hold dx (fsOf nHold (vs ++ [y]))))) : ∃ a' C' dx fs, V.ref a = .ref a' ∧ H a' = some (.ins C' dx fs) ∧ Cls K C' ∧ NoAttr K C' "person" ∧ fs.length < 1000 ∧ P (upd H a' (.ins C' dx (putF "person" y fs))) := sn_of o T.Hold 1 (by decide +kernel) (by decide +kernel) hl (by omega) h
theorem fd_Hold_kind (T : TopTxt K w mg c) (o : Ob H a c.Hold nHold vs) (hv : vs[2]? = some v := by rfl) : Fd K H (.ref a) "kind" v := o.fd T.Hold 2 (by decide +kernel) (by decide +kernel) hv
theorem st_Hold_kind (T : TopTxt K w mg c) (o : Ob H a c.Hold nHold vs) (hl : vs.length = 3) (h : ∀ dx, H a = some (.ins c.Hold dx (fsOf nHold vs)) → P (upd H a (.ins c.Hold dx (fsOf nHold (vs.set 2 y))))) : ∃ a' C' dx fs, V.ref a = .ref a' ∧ H a' = some (.ins C' dx fs) ∧ Cls K C' ∧ NoAttr K C' "kind" ∧ fs.length < 1000 ∧ P (upd H a' (.ins C' dx (putF "kind" y fs))) := st_of o T.Hold 2 (by decide +kernel) (by decide +kernel) (by omega) (by omega) h
theorem sn_Hold_kind (T : TopTxt K w mg c) (o : H a = some (.ins c.Hold dx (fsOf nHold vs))) (hl : vs.length = 2) (h : P (upd H a (.ins c.Hold dx (fsOf nHold (vs ++ [y]))))) : ∃ a' C' dx fs, V.ref a = .ref a' ∧ H a' = some (.ins C' dx fs) ∧ Cls K C' ∧ NoAttr K C' "kind" ∧ fs.length < 1000 ∧ P (upd H a' (.ins C' dx (putF "kind" y fs))) := sn_of o T.Hold 2 (by decide +kernel) (by decide +kernel) hl (by omega) h
end
end Kr

set_option Elab.async false
set_option linter.all false
set_option maxRecDepth 100000
set_option maxHeartbeats 4000000
namespace Kr
open PySem PySem.Spec PyProof.Rows L2
abbrev s_days_end : Stmt := topS 1
theorem sc_days_end : FnScope ["ground", "record"] ["ground", "record"] (defScope s_days_end) := ⟨rfl, rfl, rfl, by decide +kernel, rfl, by decide +kernel, by decide +kernel⟩
abbrev sp_days_end (K : PySem.W.Frag) (c : Cs) : Sp := (sp2 (pr_days_end c))
def t_days_end (K : PySem.W.Frag) (c : Cs) : TS := (tSeq (tIfS (tTest (tOp rEq (tFld K (tVar 0) "event") (tC (.str "made")))) (tRet (tOp rAddI (tFld K (tVar 1) "made") (tFld K (tVar 0) "span"))) tNext) (tSeq (tIfS (tTest (tOp rEq (tFld K (tVar 0) "event") (tC (.str "used")))) (tRet (tOp rAddI (tFld K (tVar 1) "used") (tFld K (tVar 0) "span"))) tNext) (tSeq (tIfS (tB (tIsN (tFld K (tFld K (tVar 1) "person") "ended"))) (tRet (tC .non)) tNext) (tRet (tOp rAddI (tFld K (tFld K (tVar 1) "person") "ended") (tFld K (tVar 0) "span"))))))
theorem ok_days_end {P : Program} {w : World} {K : PySem.W.Frag} {mg : Str → Option Value} {base : Heap} {c : Cs} (T : TopTxt K w mg c) (F : FunAt K mg "days_end" s_days_end) (pure : ∀ a b H Q, pr_days_end c a b H Q → t_days_end K c { nx := fun _ H' => Q .non H', rt := Q } (start ["ground", "record"] [a, b]) H) : Def P w K mg base "days_end" 1 ["ground", "record"] (sp_days_end K c) := by
  obtain ⟨f, fd, F0, mf⟩ := F.ex
  have b0 := F0.binds (ps := ["ground", "record"]) fun _ _ _ _ _ _ us hl => match us, hl with | [_, _], _ => rfl
  refine ⟨⟨f, fd, F0.ok (k := 0) sc_days_end (fun vs H Q E h => ?len) (fun cdv A outer s H vs Q E hr h => ⟨t_days_end K c, ?term, ?pu⟩), mf, F0.kp, b0⟩⟩
  case len => obtain ⟨a, b, rfl, h⟩ := sp2_of h; rfl
  case term => have hu := hu_of hr; exact (pss_cons (ps_if (pt_cmpR op_eq (pe_fld (pv 0) rfl) pe_str (nomark _)) (pss_one (ps_ret (pe_op op_add (pe_fld (pv 1) rfl) (pe_fld (pv 0) rfl)))) pss_nil) (pss_cons (ps_if (pt_cmpR op_eq (pe_fld (pv 0) rfl) pe_str (nomark _)) (pss_one (ps_ret (pe_op op_add (pe_fld (pv 1) rfl) (pe_fld (pv 0) rfl)))) pss_nil) (pss_cons (ps_if (pt_cmp (pc_isN (pe_fld (pe_fld (pv 1) rfl) rfl))) (pss_one (ps_ret pe_non)) pss_nil) (pss_one (ps_ret (pe_op op_add (pe_fld (pe_fld (pv 1) rfl) rfl) (pe_fld (pv 0) rfl)))))))
  case pu => obtain ⟨a, b, rfl, h⟩ := sp2_of h; exact pure a b H Q h
abbrev s_is_there : Stmt := topS 2
theorem sc_is_there : FnScope ["record"] ["record"] (defScope s_is_there) := ⟨rfl, rfl, rfl, by decide +kernel, rfl, by decide +kernel, by decide +kernel⟩
abbrev sp_is_there (K : PySem.W.Frag) (c : Cs) : Sp := (sp1 (pr_is_there c))
def t_is_there (K : PySem.W.Frag) (c : Cs) : TS := (tRet (tIsN (tFld K (tVar 0) "gone_on")))
theorem ok_is_there {P : Program} {w : World} {K : PySem.W.Frag} {mg : Str → Option Value} {base : Heap} {c : Cs} (T : TopTxt K w mg c) (F : FunAt K mg "is_there" s_is_there) (pure : ∀ a H Q, pr_is_there c a H Q → t_is_there K c { nx := fun _ H' => Q .non H', rt := Q } (start ["record"] [a]) H) : Def P w K mg base "is_there" 1 ["record"] (sp_is_there K c) := by
  obtain ⟨f, fd, F0, mf⟩ := F.ex
  have b0 := F0.binds (ps := ["record"]) fun _ _ _ _ _ _ us hl => match us, hl with | [_], _ => rfl
  refine ⟨⟨f, fd, F0.ok (k := 0) sc_is_there (fun vs H Q E h => ?len) (fun cdv A outer s H vs Q E hr h => ⟨t_is_there K c, ?term, ?pu⟩), mf, F0.kp, b0⟩⟩
  case len => obtain ⟨a, rfl, h⟩ := sp1_of h; rfl
  case term => have hu := hu_of hr; exact (pss_one (ps_ret (pe_cmp (pc_isN (pe_fld (pv 0) rfl)))))
  case pu => obtain ⟨a, rfl, h⟩ := sp1_of h; exact pure a H Q h
abbrev s_sources_there : Stmt := topS 3
theorem sc_sources_there : FnScope ["record", "source"] ["record"] (defScope s_sources_there) := ⟨rfl, rfl, rfl, by decide +kernel, rfl, by decide +kernel, by decide +kernel⟩
abbrev sp_sources_there (K : PySem.W.Frag) (c : Cs) : Sp := (sp1 (pr_sources_there c))
def t_sources_there (K : PySem.W.Frag) (c : Cs) : TS := (tSeq (tFor (iList K (tFld K (tVar 0) "sources")) (gName 1) (tIfS (tNot (tB (tCall (sp_is_there K c) [] E0 (tCons (tVar 1) tNil)))) (tRet (tC (.bl false))) tNext)) (tRet (tC (.bl true))))
theorem ok_sources_there {P : Program} {w : World} {K : PySem.W.Frag} {mg : Str → Option Value} {base : Heap} {c : Cs} (T : TopTxt K w mg c) (F : FunAt K mg "sources_there" s_sources_there) (D_is_there : Def P w K mg base "is_there" 1 ["record"] (sp_is_there K c)) (pure : ∀ a H Q, pr_sources_there c a H Q → t_sources_there K c { nx := fun _ H' => Q .non H', rt := Q } (start ["record", "source"] [a]) H) : Def P w K mg base "sources_there" 2 ["record"] (sp_sources_there K c) := by
  obtain ⟨f, fd, F0, mf⟩ := F.ex
  obtain ⟨f_is_there, fd_is_there, G_is_there, m_is_there, k_is_there, b_is_there⟩ := D_is_there.ex
  have b0 := F0.binds (ps := ["record"]) fun _ _ _ _ _ _ us hl => match us, hl with | [_], _ => rfl
  refine ⟨⟨f, fd, F0.ok (k := 1) sc_sources_there (fun vs H Q E h => ?len) (fun cdv A outer s H vs Q E hr h => ⟨t_sources_there K c, ?term, ?pu⟩), mf, F0.kp, b0⟩⟩
  case len => obtain ⟨a, rfl, h⟩ := sp1_of h; rfl
  case term => have hu := hu_of hr; exact (pss_cons (ps_for PassesOwn.never rfl (pi_list (pe_fld (pv 0) rfl)) (pg_name (i := 1) sc_sources_there.nd rfl (Or.inl rfl)) (pss_one (ps_if (pt_not (pt_val (pe_call G_is_there (hr.mono (by decide)) rfl m_is_there k_is_there b_is_there .nil pass0 (pa_cons (pv 1) pa_nil)))) (pss_one (ps_ret pe_bl)) pss_nil))) (pss_one (ps_ret pe_bl)))
  case pu => obtain ⟨a, rfl, h⟩ := sp1_of h; exact pure a H Q h
abbrev s_stands_for : Stmt := topS 4
theorem sc_stands_for : FnScope ["ground", "record"] ["ground", "record"] (defScope s_stands_for) := ⟨rfl, rfl, rfl, by decide +kernel, rfl, by decide +kernel, by decide +kernel⟩
abbrev sp_stands_for (K : PySem.W.Frag) (c : Cs) : Sp := (sp2 (pr_stands_for c))
def t_stands_for (K : PySem.W.Frag) (c : Cs) : TS := (tSeq (tIfS (tTest (tOp rNe (tFld K (tVar 0) "kind") (tFld K (tVar 1) "kind"))) (tRet (tC (.bl false))) tNext) (tSeq (tIfS (tTest (tOp rEq (tFld K (tVar 0) "basis") (tC (.str "law")))) (tRet (tC (.bl true))) tNext) (tSeq (tIfS (tAnd (tTest (tOp rEq (tFld K (tVar 0) "basis") (tC (.str "for")))) (tB (tDNotIn (tFld K (tVar 0) "purpose") (tFld K (tFld K (tVar 1) "person") "consents")))) (tRet (tC (.bl false))) tNext) (tSeq (tIfS (tAnd (tTest (tOp rEq (tFld K (tVar 0) "basis") (tC (.str "need")))) (tB (tFld K (tFld K (tVar 1) "person") "objects"))) (tRet (tC (.bl false))) tNext) (tRet (tCall (sp_sources_there K c) [] E0 (tCons (tVar 1) tNil)))))))
theorem ok_stands_for {P : Program} {w : World} {K : PySem.W.Frag} {mg : Str → Option Value} {base : Heap} {c : Cs} (T : TopTxt K w mg c) (F : FunAt K mg "stands_for" s_stands_for) (D_sources_there : Def P w K mg base "sources_there" 2 ["record"] (sp_sources_there K c)) (pure : ∀ a b H Q, pr_stands_for c a b H Q → t_stands_for K c { nx := fun _ H' => Q .non H', rt := Q } (start ["ground", "record"] [a, b]) H) : Def P w K mg base "stands_for" 3 ["ground", "record"] (sp_stands_for K c) := by
  obtain ⟨f, fd, F0, mf⟩ := F.ex
  obtain ⟨f_sources_there, fd_sources_there, G_sources_there, m_sources_there, k_sources_there, b_sources_there⟩ := D_sources_there.ex
  have b0 := F0.binds (ps := ["ground", "record"]) fun _ _ _ _ _ _ us hl => match us, hl with | [_, _], _ => rfl
  refine ⟨⟨f, fd, F0.ok (k := 2) sc_stands_for (fun vs H Q E h => ?len) (fun cdv A outer s H vs Q E hr h => ⟨t_stands_for K c, ?term, ?pu⟩), mf, F0.kp, b0⟩⟩
  case len => obtain ⟨a, b, rfl, h⟩ := sp2_of h; rfl
  case term => have hu := hu_of hr; exact (pss_cons (ps_if (pt_cmpR op_ne (pe_fld (pv 0) rfl) (pe_fld (pv 1) rfl) (nomark _)) (pss_one (ps_ret pe_bl)) pss_nil) (pss_cons (ps_if (pt_cmpR op_eq (pe_fld (pv 0) rfl) pe_str (nomark _)) (pss_one (ps_ret pe_bl)) pss_nil) (pss_cons (ps_if (PW.pt (pw_and (pt_cmpR op_eq (pe_fld (pv 0) rfl) pe_str (nomark _)) (pw_and1 (pt_cmp (pc_dnotin hu (pe_fld (pv 0) rfl) (pe_fld (pe_fld (pv 1) rfl) rfl)))))) (pss_one (ps_ret pe_bl)) pss_nil) (pss_cons (ps_if (PW.pt (pw_and (pt_cmpR op_eq (pe_fld (pv 0) rfl) pe_str (nomark _)) (pw_and1 (pt_val (pe_fld (pe_fld (pv 1) rfl) rfl))))) (pss_one (ps_ret pe_bl)) pss_nil) (pss_one (ps_ret (pe_call G_sources_there (hr.mono (by decide)) rfl m_sources_there k_sources_there b_sources_there .nil pass0 (pa_cons (pv 1) pa_nil))))))))
  case pu => obtain ⟨a, b, rfl, h⟩ := sp2_of h; exact pure a b H Q h
abbrev s_gives : Stmt := topS 5
theorem sc_gives : FnScope ["house", "ground", "record", "end"] ["house", "ground", "record"] (defScope s_gives) := ⟨rfl, rfl, rfl, by decide +kernel, rfl, by decide +kernel, by decide +kernel⟩
abbrev sp_gives (K : PySem.W.Frag) (c : Cs) : Sp := (sp3 (pr_gives c))
def t_gives (K : PySem.W.Frag) (c : Cs) : TS := (tSeq (tIfS (tNot (tB (tCall (sp_stands_for K c) [] E0 (tCons (tVar 1) (tCons (tVar 2) tNil))))) (tRet (tC (.bl false))) tNext) (tSeq (tAsg (tCall (sp_days_end K c) [] E0 (tCons (tVar 1) (tCons (tVar 2) tNil))) (gName 3)) (tRet (tOrV (tIsN (tVar 3)) (tOp rLt (tFld K (tVar 0) "today") (tVar 3))))))
theorem ok_gives {P : Program} {w : World} {K : PySem.W.Frag} {mg : Str → Option Value} {base : Heap} {c : Cs} (T : TopTxt K w mg c) (F : FunAt K mg "gives" s_gives) (D_days_end : Def P w K mg base "days_end" 1 ["ground", "record"] (sp_days_end K c)) (D_stands_for : Def P w K mg base "stands_for" 3 ["ground", "record"] (sp_stands_for K c)) (pure : ∀ a b d H Q, pr_gives c a b d H Q → t_gives K c { nx := fun _ H' => Q .non H', rt := Q } (start ["house", "ground", "record", "end"] [a, b, d]) H) : Def P w K mg base "gives" 4 ["house", "ground", "record"] (sp_gives K c) := by
  obtain ⟨f, fd, F0, mf⟩ := F.ex
  obtain ⟨f_days_end, fd_days_end, G_days_end, m_days_end, k_days_end, b_days_end⟩ := D_days_end.ex
  obtain ⟨f_stands_for, fd_stands_for, G_stands_for, m_stands_for, k_stands_for, b_stands_for⟩ := D_stands_for.ex
  have b0 := F0.binds (ps := ["house", "ground", "record"]) fun _ _ _ _ _ _ us hl => match us, hl with | [_, _, _], _ => rfl
  refine ⟨⟨f, fd, F0.ok (k := 3) sc_gives (fun vs H Q E h => ?len) (fun cdv A outer s H vs Q E hr h => ⟨t_gives K c, ?term, ?pu⟩), mf, F0.kp, b0⟩⟩
  case len => obtain ⟨a, b, d, rfl, h⟩ := sp3_of h; rfl
  case term => have hu := hu_of hr; exact (pss_cons (ps_if (pt_not (pt_val (pe_call G_stands_for (hr.mono (by decide)) rfl m_stands_for k_stands_for b_stands_for .nil pass0 (pa_cons (pv 1) (pa_cons (pv 2) pa_nil))))) (pss_one (ps_ret pe_bl)) pss_nil) (pss_cons (ps_set (i := 3) sc_gives.nd rfl (Or.inl rfl) (pe_call G_days_end (hr.mono (by decide)) rfl m_days_end k_days_end b_days_end .nil pass0 (pa_cons (pv 1) (pa_cons (pv 2) pa_nil)))) (pss_one (ps_ret (pe_or (pe_cmp (pc_isN (pv 3))) (pe_one (pe_cmpR op_lt (pe_fld (pv 0) rfl) (pv 3) (nomark _))))))))
  case pu => obtain ⟨a, b, d, rfl, h⟩ := sp3_of h; exact pure a b d H Q h
abbrev s_is_hold_of : Stmt := topS 6
theorem sc_is_hold_of : FnScope ["hold", "record"] ["hold", "record"] (defScope s_is_hold_of) := ⟨rfl, rfl, rfl, by decide +kernel, rfl, by decide +kernel, by decide +kernel⟩
abbrev sp_is_hold_of (K : PySem.W.Frag) (c : Cs) : Sp := (sp2 (pr_is_hold_of c))
def t_is_hold_of (K : PySem.W.Frag) (c : Cs) : TS := (tRet (tAndV (tOp rEq (tFld K (tFld K (tVar 0) "person") "name") (tFld K (tFld K (tVar 1) "person") "name")) (tOp (rIn K false) (tFld K (tVar 0) "kind") (tTup (tCons (tC (.str "any")) (tCons (tFld K (tVar 1) "kind") tNil))))))
theorem ok_is_hold_of {P : Program} {w : World} {K : PySem.W.Frag} {mg : Str → Option Value} {base : Heap} {c : Cs} (T : TopTxt K w mg c) (F : FunAt K mg "is_hold_of" s_is_hold_of) (pure : ∀ a b H Q, pr_is_hold_of c a b H Q → t_is_hold_of K c { nx := fun _ H' => Q .non H', rt := Q } (start ["hold", "record"] [a, b]) H) : Def P w K mg base "is_hold_of" 1 ["hold", "record"] (sp_is_hold_of K c) := by
  obtain ⟨f, fd, F0, mf⟩ := F.ex
  have b0 := F0.binds (ps := ["hold", "record"]) fun _ _ _ _ _ _ us hl => match us, hl with | [_, _], _ => rfl
  refine ⟨⟨f, fd, F0.ok (k := 0) sc_is_hold_of (fun vs H Q E h => ?len) (fun cdv A outer s H vs Q E hr h => ⟨t_is_hold_of K c, ?term, ?pu⟩), mf, F0.kp, b0⟩⟩
  case len => obtain ⟨a, b, rfl, h⟩ := sp2_of h; rfl
  case term => have hu := hu_of hr; exact (pss_one (ps_ret (pe_and (pe_cmpR op_eq (pe_fld (pe_fld (pv 0) rfl) rfl) (pe_fld (pe_fld (pv 1) rfl) rfl) (nomark _)) (pe_one (pe_cmpR op_in_seq (pe_fld (pv 0) rfl) (pe_tup (pa_cons pe_str (pa_cons (pe_fld (pv 1) rfl) pa_nil))) rfl)))))
  case pu => obtain ⟨a, b, rfl, h⟩ := sp2_of h; exact pure a b H Q h
abbrev s_is_held : Stmt := topS 7
theorem sc_is_held : FnScope ["house", "record", "hold"] ["house", "record"] (defScope s_is_held) := ⟨rfl, rfl, rfl, by decide +kernel, rfl, by decide +kernel, by decide +kernel⟩
abbrev sp_is_held (K : PySem.W.Frag) (c : Cs) : Sp := (sp2 (pr_is_held c))
def t_is_held (K : PySem.W.Frag) (c : Cs) : TS := (tSeq (tLock (tFor (iVals (tFld K (tVar 0) "holds")) (gName 2) (tIfS (tB (tCall (sp_is_hold_of K c) [] E0 (tCons (tVar 2) (tCons (tVar 1) tNil)))) (tRet (tC (.bl true))) tNext))) (tRet (tC (.bl false))))
theorem ok_is_held {P : Program} {w : World} {K : PySem.W.Frag} {mg : Str → Option Value} {base : Heap} {c : Cs} (T : TopTxt K w mg c) (F : FunAt K mg "is_held" s_is_held) (D_is_hold_of : Def P w K mg base "is_hold_of" 1 ["hold", "record"] (sp_is_hold_of K c)) (pure : ∀ a b H Q, pr_is_held c a b H Q → t_is_held K c { nx := fun _ H' => Q .non H', rt := Q } (start ["house", "record", "hold"] [a, b]) H) : Def P w K mg base "is_held" 2 ["house", "record"] (sp_is_held K c) := by
  obtain ⟨f, fd, F0, mf⟩ := F.ex
  obtain ⟨f_is_hold_of, fd_is_hold_of, G_is_hold_of, m_is_hold_of, k_is_hold_of, b_is_hold_of⟩ := D_is_hold_of.ex
  have b0 := F0.binds (ps := ["house", "record"]) fun _ _ _ _ _ _ us hl => match us, hl with | [_, _], _ => rfl
  refine ⟨⟨f, fd, F0.ok (k := 1) sc_is_held (fun vs H Q E h => ?len) (fun cdv A outer s H vs Q E hr h => ⟨t_is_held K c, ?term, ?pu⟩), mf, F0.kp, b0⟩⟩
  case len => obtain ⟨a, b, rfl, h⟩ := sp2_of h; rfl
  case term => have hu := hu_of hr; exact (pss_cons (ps_lock (ps_for PassesOwn.never rfl (pi_values (pe_fld (pv 0) rfl)) (pg_name (i := 2) sc_is_held.nd rfl (Or.inl rfl)) (pss_one (ps_if (pt_val (pe_call G_is_hold_of (hr.mono (by decide)) rfl m_is_hold_of k_is_hold_of b_is_hold_of .nil pass0 (pa_cons (pv 2) (pa_cons (pv 1) pa_nil)))) (pss_one (ps_ret pe_bl)) pss_nil)))) (pss_one (ps_ret pe_bl)))
  case pu => obtain ⟨a, b, rfl, h⟩ := sp2_of h; exact pure a b H Q h
end Kr

set_option Elab.async false
set_option linter.all false
set_option maxRecDepth 100000
set_option maxHeartbeats 4000000
namespace Kr
open PySem PySem.Spec PyProof.Rows L2
abbrev s_may_be_kept : Stmt := topS 8
theorem sc_may_be_kept : FnScope ["house", "record", "ground"] ["house", "record"] (defScope s_may_be_kept) := ⟨rfl, rfl, rfl, by decide +kernel, rfl, by decide +kernel, by decide +kernel⟩
abbrev sp_may_be_kept (K : PySem.W.Frag) (c : Cs) : Sp := (sp2 (pr_may_be_kept c))
def t_may_be_kept (K : PySem.W.Frag) (c : Cs) : TS := (tSeq (tLock (tFor (iVals (tFld K (tVar 0) "grounds")) (gName 2) (tIfS (tB (tCall (sp_gives K c) [] E0 (tCons (tVar 0) (tCons (tVar 2) (tCons (tVar 1) tNil))))) (tRet (tC (.bl true))) tNext))) (tRet (tCall (sp_is_held K c) [] E0 (tCons (tVar 0) (tCons (tVar 1) tNil)))))
theorem ok_may_be_kept {P : Program} {w : World} {K : PySem.W.Frag} {mg : Str → Option Value} {base : Heap} {c : Cs} (T : TopTxt K w mg c) (F : FunAt K mg "may_be_kept" s_may_be_kept) (D_is_held : Def P w K mg base "is_held" 2 ["house", "record"] (sp_is_held K c)) (D_gives : Def P w K mg base "gives" 4 ["house", "ground", "record"] (sp_gives K c)) (pure : ∀ a b H Q, pr_may_be_kept c a b H Q → t_may_be_kept K c { nx := fun _ H' => Q .non H', rt := Q } (start ["house", "record", "ground"] [a, b]) H) : Def P w K mg base "may_be_kept" 5 ["house", "record"] (sp_may_be_kept K c) := by
  obtain ⟨f, fd, F0, mf⟩ := F.ex
  obtain ⟨f_is_held, fd_is_held, G_is_held, m_is_held, k_is_held, b_is_held⟩ := D_is_held.ex
  obtain ⟨f_gives, fd_gives, G_gives, m_gives, k_gives, b_gives⟩ := D_gives.ex
  have b0 := F0.binds (ps := ["house", "record"]) fun _ _ _ _ _ _ us hl => match us, hl with | [_, _], _ => rfl
  refine ⟨⟨f, fd, F0.ok (k := 4) sc_may_be_kept (fun vs H Q E h => ?len) (fun cdv A outer s H vs Q E hr h => ⟨t_may_be_kept K c, ?term, ?pu⟩), mf, F0.kp, b0⟩⟩
  case len => obtain ⟨a, b, rfl, h⟩ := sp2_of h; rfl
  case term => have hu := hu_of hr; exact (pss_cons (ps_lock (ps_for PassesOwn.never rfl (pi_values (pe_fld (pv 0) rfl)) (pg_name (i := 2) sc_may_be_kept.nd rfl (Or.inl rfl)) (pss_one (ps_if (pt_val (pe_call G_gives (hr.mono (by decide)) rfl m_gives k_gives b_gives .nil pass0 (pa_cons (pv 0) (pa_cons (pv 2) (pa_cons (pv 1) pa_nil))))) (pss_one (ps_ret pe_bl)) pss_nil)))) (pss_one (ps_ret (pe_call G_is_held (hr.mono (by decide)) rfl m_is_held k_is_held b_is_held .nil pass0 (pa_cons (pv 0) (pa_cons (pv 1) pa_nil))))))
  case pu => obtain ⟨a, b, rfl, h⟩ := sp2_of h; exact pure a b H Q h
abbrev s_set_copy : Stmt := topS 9
theorem sc_set_copy : FnScope ["kept", "state", "day"] ["kept", "state", "day"] (defScope s_set_copy) := ⟨rfl, rfl, rfl, by decide +kernel, rfl, by decide +kernel, by decide +kernel⟩
abbrev sp_set_copy (K : PySem.W.Frag) (c : Cs) : Sp := (sp3 (pr_set_copy c))
def t_set_copy (K : PySem.W.Frag) (c : Cs) : TS := (tSeq (sFld K (tVar 0) (tVar 1) "state") (sFld K (tVar 0) (tVar 2) "day"))
theorem ok_set_copy {P : Program} {w : World} {K : PySem.W.Frag} {mg : Str → Option Value} {base : Heap} {c : Cs} (T : TopTxt K w mg c) (F : FunAt K mg "set_copy" s_set_copy) (pure : ∀ a b d H Q, pr_set_copy c a b d H Q → t_set_copy K c { nx := fun _ H' => Q .non H', rt := Q } (start ["kept", "state", "day"] [a, b, d]) H) : Def P w K mg base "set_copy" 1 ["kept", "state", "day"] (sp_set_copy K c) := by
  obtain ⟨f, fd, F0, mf⟩ := F.ex
  have b0 := F0.binds (ps := ["kept", "state", "day"]) fun _ _ _ _ _ _ us hl => match us, hl with | [_, _, _], _ => rfl
  refine ⟨⟨f, fd, F0.ok (k := 0) sc_set_copy (fun vs H Q E h => ?len) (fun cdv A outer s H vs Q E hr h => ⟨t_set_copy K c, ?term, ?pu⟩), mf, F0.kp, b0⟩⟩
  case len => obtain ⟨a, b, d, rfl, h⟩ := sp3_of h; rfl
  case term => have hu := hu_of hr; exact (pss_cons (ps_fld (pv 0) (pv 1) rfl) (pss_one (ps_fld (pv 0) (pv 2) rfl)))
  case pu => obtain ⟨a, b, d, rfl, h⟩ := sp3_of h; exact pure a b d H Q h
abbrev s_let_go : Stmt := topS 10
theorem sc_let_go : FnScope ["house", "record", "today", "kept"] ["house", "record"] (defScope s_let_go) := ⟨rfl, rfl, rfl, by decide +kernel, rfl, by decide +kernel, by decide +kernel⟩
abbrev sp_let_go (K : PySem.W.Frag) (c : Cs) : Sp := (sp2 (pr_let_go c))
def t_let_go (K : PySem.W.Frag) (c : Cs) : TS := (tSeq (tAsg (tFld K (tVar 0) "today") (gName 2)) (tSeq (sFld K (tVar 1) (tVar 2) "gone_on") (tFor (iList K (tFld K (tVar 1) "copies")) (gName 3) (tIfS (tTest (tOp rEq (tFld K (tFld K (tVar 3) "store") "way") (tC (.str "main")))) (tDrop (tCall (sp_set_copy K c) [] E0 (tCons (tVar 3) (tCons (tC (.str "gone")) (tCons (tVar 2) tNil))))) (tIfS (tTest (tOp rEq (tFld K (tFld K (tVar 3) "store") "way") (tC (.str "roll")))) (tDrop (tCall (sp_set_copy K c) [] E0 (tCons (tVar 3) (tCons (tC (.str "going")) (tCons (tOp rAddI (tVar 2) (tFld K (tFld K (tVar 3) "store") "turn")) tNil))))) (tDrop (tCall (sp_set_copy K c) [] E0 (tCons (tVar 3) (tCons (tC (.str "asked")) (tCons (tVar 2) tNil))))))))))
theorem ok_let_go {P : Program} {w : World} {K : PySem.W.Frag} {mg : Str → Option Value} {base : Heap} {c : Cs} (T : TopTxt K w mg c) (F : FunAt K mg "let_go" s_let_go) (D_set_copy : Def P w K mg base "set_copy" 1 ["kept", "state", "day"] (sp_set_copy K c)) (pure : ∀ a b H Q, pr_let_go c a b H Q → t_let_go K c { nx := fun _ H' => Q .non H', rt := Q } (start ["house", "record", "today", "kept"] [a, b]) H) : Def P w K mg base "let_go" 2 ["house", "record"] (sp_let_go K c) := by
  obtain ⟨f, fd, F0, mf⟩ := F.ex
  obtain ⟨f_set_copy, fd_set_copy, G_set_copy, m_set_copy, k_set_copy, b_set_copy⟩ := D_set_copy.ex
  have b0 := F0.binds (ps := ["house", "record"]) fun _ _ _ _ _ _ us hl => match us, hl with | [_, _], _ => rfl
  refine ⟨⟨f, fd, F0.ok (k := 1) sc_let_go (fun vs H Q E h => ?len) (fun cdv A outer s H vs Q E hr h => ⟨t_let_go K c, ?term, ?pu⟩), mf, F0.kp, b0⟩⟩
  case len => obtain ⟨a, b, rfl, h⟩ := sp2_of h; rfl
  case term => have hu := hu_of hr; exact (pss_cons (ps_set (i := 2) sc_let_go.nd rfl (Or.inl rfl) (pe_fld (pv 0) rfl)) (pss_cons (ps_fld (pv 1) (pv 2) rfl) (pss_one (ps_for PassesOwn.never rfl (pi_list (pe_fld (pv 1) rfl)) (pg_name (i := 3) sc_let_go.nd rfl (Or.inl rfl)) (pss_one (ps_if (pt_cmpR op_eq (pe_fld (pe_fld (pv 3) rfl) rfl) pe_str (nomark _)) (pss_one (ps_expr (pe_call G_set_copy (hr.mono (by decide)) rfl m_set_copy k_set_copy b_set_copy .nil pass0 (pa_cons (pv 3) (pa_cons pe_str (pa_cons (pv 2) pa_nil)))))) (pss_one (ps_if (pt_cmpR op_eq (pe_fld (pe_fld (pv 3) rfl) rfl) pe_str (nomark _)) (pss_one (ps_expr (pe_call G_set_copy (hr.mono (by decide)) rfl m_set_copy k_set_copy b_set_copy .nil pass0 (pa_cons (pv 3) (pa_cons pe_str (pa_cons (pe_op op_add (pv 2) (pe_fld (pe_fld (pv 3) rfl) rfl)) pa_nil)))))) (pss_one (ps_expr (pe_call G_set_copy (hr.mono (by decide)) rfl m_set_copy k_set_copy b_set_copy .nil pass0 (pa_cons (pv 3) (pa_cons pe_str (pa_cons (pv 2) pa_nil))))))))))))))
  case pu => obtain ⟨a, b, rfl, h⟩ := sp2_of h; exact pure a b H Q h
abbrev s_is_settled_today : Stmt := topS 11
theorem sc_is_settled_today : FnScope ["house", "kept"] ["house", "kept"] (defScope s_is_settled_today) := ⟨rfl, rfl, rfl, by decide +kernel, rfl, by decide +kernel, by decide +kernel⟩
abbrev sp_is_settled_today (K : PySem.W.Frag) (c : Cs) : Sp := (sp2 (pr_is_settled_today c))
def t_is_settled_today (K : PySem.W.Frag) (c : Cs) : TS := (tSeq (tIfS (tTest (tOp rEq (tFld K (tVar 1) "state") (tC (.str "going")))) (tRet (tOp rLe (tFld K (tVar 1) "day") (tFld K (tVar 0) "today"))) tNext) (tRet (tAndV (tOp rEq (tFld K (tVar 1) "state") (tC (.str "asked"))) (tFld K (tFld K (tVar 1) "store") "hears"))))
theorem ok_is_settled_today {P : Program} {w : World} {K : PySem.W.Frag} {mg : Str → Option Value} {base : Heap} {c : Cs} (T : TopTxt K w mg c) (F : FunAt K mg "is_settled_today" s_is_settled_today) (pure : ∀ a b H Q, pr_is_settled_today c a b H Q → t_is_settled_today K c { nx := fun _ H' => Q .non H', rt := Q } (start ["house", "kept"] [a, b]) H) : Def P w K mg base "is_settled_today" 1 ["house", "kept"] (sp_is_settled_today K c) := by
  obtain ⟨f, fd, F0, mf⟩ := F.ex
  have b0 := F0.binds (ps := ["house", "kept"]) fun _ _ _ _ _ _ us hl => match us, hl with | [_, _], _ => rfl
  refine ⟨⟨f, fd, F0.ok (k := 0) sc_is_settled_today (fun vs H Q E h => ?len) (fun cdv A outer s H vs Q E hr h => ⟨t_is_settled_today K c, ?term, ?pu⟩), mf, F0.kp, b0⟩⟩
  case len => obtain ⟨a, b, rfl, h⟩ := sp2_of h; rfl
  case term => have hu := hu_of hr; exact (pss_cons (ps_if (pt_cmpR op_eq (pe_fld (pv 1) rfl) pe_str (nomark _)) (pss_one (ps_ret (pe_cmpR op_le (pe_fld (pv 1) rfl) (pe_fld (pv 0) rfl) (nomark _)))) pss_nil) (pss_one (ps_ret (pe_and (pe_cmpR op_eq (pe_fld (pv 1) rfl) pe_str (nomark _)) (pe_one (pe_fld (pe_fld (pv 1) rfl) rfl))))))
  case pu => obtain ⟨a, b, rfl, h⟩ := sp2_of h; exact pure a b H Q h
abbrev s_settle_copies : Stmt := topS 12
theorem sc_settle_copies : FnScope ["house", "record", "kept"] ["house", "record"] (defScope s_settle_copies) := ⟨rfl, rfl, rfl, by decide +kernel, rfl, by decide +kernel, by decide +kernel⟩
abbrev sp_settle_copies (K : PySem.W.Frag) (c : Cs) : Sp := (sp2 (pr_settle_copies c))
def t_settle_copies (K : PySem.W.Frag) (c : Cs) : TS := (tFor (iList K (tFld K (tVar 1) "copies")) (gName 2) (tIfS (tB (tCall (sp_is_settled_today K c) [] E0 (tCons (tVar 0) (tCons (tVar 2) tNil)))) (tDrop (tCall (sp_set_copy K c) [] E0 (tCons (tVar 2) (tCons (tC (.str "gone")) (tCons (tFld K (tVar 0) "today") tNil))))) tNext))
theorem ok_settle_copies {P : Program} {w : World} {K : PySem.W.Frag} {mg : Str → Option Value} {base : Heap} {c : Cs} (T : TopTxt K w mg c) (F : FunAt K mg "settle_copies" s_settle_copies) (D_is_settled_today : Def P w K mg base "is_settled_today" 1 ["house", "kept"] (sp_is_settled_today K c)) (D_set_copy : Def P w K mg base "set_copy" 1 ["kept", "state", "day"] (sp_set_copy K c)) (pure : ∀ a b H Q, pr_settle_copies c a b H Q → t_settle_copies K c { nx := fun _ H' => Q .non H', rt := Q } (start ["house", "record", "kept"] [a, b]) H) : Def P w K mg base "settle_copies" 2 ["house", "record"] (sp_settle_copies K c) := by
  obtain ⟨f, fd, F0, mf⟩ := F.ex
  obtain ⟨f_is_settled_today, fd_is_settled_today, G_is_settled_today, m_is_settled_today, k_is_settled_today, b_is_settled_today⟩ := D_is_settled_today.ex
  obtain ⟨f_set_copy, fd_set_copy, G_set_copy, m_set_copy, k_set_copy, b_set_copy⟩ := D_set_copy.ex
  have b0 := F0.binds (ps := ["house", "record"]) fun _ _ _ _ _ _ us hl => match us, hl with | [_, _], _ => rfl
  refine ⟨⟨f, fd, F0.ok (k := 1) sc_settle_copies (fun vs H Q E h => ?len) (fun cdv A outer s H vs Q E hr h => ⟨t_settle_copies K c, ?term, ?pu⟩), mf, F0.kp, b0⟩⟩
  case len => obtain ⟨a, b, rfl, h⟩ := sp2_of h; rfl
  case term => have hu := hu_of hr; exact (pss_one (ps_for PassesOwn.never rfl (pi_list (pe_fld (pv 1) rfl)) (pg_name (i := 2) sc_settle_copies.nd rfl (Or.inl rfl)) (pss_one (ps_if (pt_val (pe_call G_is_settled_today (hr.mono (by decide)) rfl m_is_settled_today k_is_settled_today b_is_settled_today .nil pass0 (pa_cons (pv 0) (pa_cons (pv 2) pa_nil)))) (pss_one (ps_expr (pe_call G_set_copy (hr.mono (by decide)) rfl m_set_copy k_set_copy b_set_copy .nil pass0 (pa_cons (pv 2) (pa_cons pe_str (pa_cons (pe_fld (pv 0) rfl) pa_nil)))))) pss_nil))))
  case pu => obtain ⟨a, b, rfl, h⟩ := sp2_of h; exact pure a b H Q h
abbrev s_all_goes : Stmt := topS 13
theorem sc_all_goes : FnScope ["house", "record"] ["house"] (defScope s_all_goes) := ⟨rfl, rfl, rfl, by decide +kernel, rfl, by decide +kernel, by decide +kernel⟩
abbrev sp_all_goes (K : PySem.W.Frag) (c : Cs) : Sp := (sp1 (pr_all_goes c))
def t_all_goes (K : PySem.W.Frag) (c : Cs) : TS := (tSeq (tFor (iList K (tFld K (tVar 0) "records")) (gName 1) (tIfS (tAnd (tB (tCall (sp_is_there K c) [] E0 (tCons (tVar 1) tNil))) (tNot (tB (tCall (sp_may_be_kept K c) [] E0 (tCons (tVar 0) (tCons (tVar 1) tNil)))))) (tDrop (tCall (sp_let_go K c) [] E0 (tCons (tVar 0) (tCons (tVar 1) tNil)))) tNext)) (tFor (iList K (tFld K (tVar 0) "records")) (gName 1) (tIfS (tNot (tB (tCall (sp_is_there K c) [] E0 (tCons (tVar 1) tNil)))) (tDrop (tCall (sp_settle_copies K c) [] E0 (tCons (tVar 0) (tCons (tVar 1) tNil)))) tNext)))
theorem ok_all_goes {P : Program} {w : World} {K : PySem.W.Frag} {mg : Str → Option Value} {base : Heap} {c : Cs} (T : TopTxt K w mg c) (F : FunAt K mg "all_goes" s_all_goes) (D_is_there : Def P w K mg base "is_there" 1 ["record"] (sp_is_there K c)) (D_settle_copies : Def P w K mg base "settle_copies" 2 ["house", "record"] (sp_settle_copies K c)) (D_may_be_kept : Def P w K mg base "may_be_kept" 5 ["house", "record"] (sp_may_be_kept K c)) (D_let_go : Def P w K mg base "let_go" 2 ["house", "record"] (sp_let_go K c)) (pure : ∀ a H Q, pr_all_goes c a H Q → t_all_goes K c { nx := fun _ H' => Q .non H', rt := Q } (start ["house", "record"] [a]) H) : Def P w K mg base "all_goes" 6 ["house"] (sp_all_goes K c) := by
  obtain ⟨f, fd, F0, mf⟩ := F.ex
  obtain ⟨f_is_there, fd_is_there, G_is_there, m_is_there, k_is_there, b_is_there⟩ := D_is_there.ex
  obtain ⟨f_settle_copies, fd_settle_copies, G_settle_copies, m_settle_copies, k_settle_copies, b_settle_copies⟩ := D_settle_copies.ex
  obtain ⟨f_may_be_kept, fd_may_be_kept, G_may_be_kept, m_may_be_kept, k_may_be_kept, b_may_be_kept⟩ := D_may_be_kept.ex
  obtain ⟨f_let_go, fd_let_go, G_let_go, m_let_go, k_let_go, b_let_go⟩ := D_let_go.ex
  have b0 := F0.binds (ps := ["house"]) fun _ _ _ _ _ _ us hl => match us, hl with | [_], _ => rfl
  refine ⟨⟨f, fd, F0.ok (k := 5) sc_all_goes (fun vs H Q E h => ?len) (fun cdv A outer s H vs Q E hr h => ⟨t_all_goes K c, ?term, ?pu⟩), mf, F0.kp, b0⟩⟩
  case len => obtain ⟨a, rfl, h⟩ := sp1_of h; rfl
  case term => have hu := hu_of hr; exact (pss_cons (ps_for PassesOwn.never rfl (pi_list (pe_fld (pv 0) rfl)) (pg_name (i := 1) sc_all_goes.nd rfl (Or.inl rfl)) (pss_one (ps_if (PW.pt (pw_and (pt_val (pe_call G_is_there (hr.mono (by decide)) rfl m_is_there k_is_there b_is_there .nil pass0 (pa_cons (pv 1) pa_nil))) (pw_and1 (pt_not (pt_val (pe_call G_may_be_kept (hr.mono (by decide)) rfl m_may_be_kept k_may_be_kept b_may_be_kept .nil pass0 (pa_cons (pv 0) (pa_cons (pv 1) pa_nil)))))))) (pss_one (ps_expr (pe_call G_let_go (hr.mono (by decide)) rfl m_let_go k_let_go b_let_go .nil pass0 (pa_cons (pv 0) (pa_cons (pv 1) pa_nil))))) pss_nil))) (pss_one (ps_for PassesOwn.never rfl (pi_list (pe_fld (pv 0) rfl)) (pg_name (i := 1) sc_all_goes.nd rfl (Or.inl rfl)) (pss_one (ps_if (pt_not (pt_val (pe_call G_is_there (hr.mono (by decide)) rfl m_is_there k_is_there b_is_there .nil pass0 (pa_cons (pv 1) pa_nil)))) (pss_one (ps_expr (pe_call G_settle_copies (hr.mono (by decide)) rfl m_settle_copies k_settle_copies b_settle_copies .nil pass0 (pa_cons (pv 0) (pa_cons (pv 1) pa_nil))))) pss_nil)))))
  case pu => obtain ⟨a, rfl, h⟩ := sp1_of h; exact pure a H Q h
abbrev s_pass_day : Stmt := topS 14
theorem sc_pass_day : FnScope ["house"] ["house"] (defScope s_pass_day) := ⟨rfl, rfl, rfl, by decide +kernel, rfl, by decide +kernel, by decide +kernel⟩
abbrev sp_pass_day (K : PySem.W.Frag) (c : Cs) : Sp := (sp1 (pr_pass_day c))
def t_pass_day (K : PySem.W.Frag) (c : Cs) : TS := (tSeq (sFldAug K (tVar 0) (tC (.int 1)) rAdd "today") (tDrop (tCall (sp_all_goes K c) [] E0 (tCons (tVar 0) tNil))))
theorem ok_pass_day {P : Program} {w : World} {K : PySem.W.Frag} {mg : Str → Option Value} {base : Heap} {c : Cs} (T : TopTxt K w mg c) (F : FunAt K mg "pass_day" s_pass_day) (D_all_goes : Def P w K mg base "all_goes" 6 ["house"] (sp_all_goes K c)) (pure : ∀ a H Q, pr_pass_day c a H Q → t_pass_day K c { nx := fun _ H' => Q .non H', rt := Q } (start ["house"] [a]) H) : Def P w K mg base "pass_day" 7 ["house"] (sp_pass_day K c) := by
  obtain ⟨f, fd, F0, mf⟩ := F.ex
  obtain ⟨f_all_goes, fd_all_goes, G_all_goes, m_all_goes, k_all_goes, b_all_goes⟩ := D_all_goes.ex
  have b0 := F0.binds (ps := ["house"]) fun _ _ _ _ _ _ us hl => match us, hl with | [_], _ => rfl
  refine ⟨⟨f, fd, F0.ok (k := 6) sc_pass_day (fun vs H Q E h => ?len) (fun cdv A outer s H vs Q E hr h => ⟨t_pass_day K c, ?term, ?pu⟩), mf, F0.kp, b0⟩⟩
  case len => obtain ⟨a, rfl, h⟩ := sp1_of h; rfl
  case term => have hu := hu_of hr; exact (pss_cons (ps_fldaug (pv 0) pe_int in_add) (pss_one (ps_expr (pe_call G_all_goes (hr.mono (by decide)) rfl m_all_goes k_all_goes b_all_goes .nil pass0 (pa_cons (pv 0) pa_nil)))))
  case pu => obtain ⟨a, rfl, h⟩ := sp1_of h; exact pure a H Q h
abbrev s_add_ground : Stmt := topS 26
theorem sc_add_ground : FnScope ["house", "ground"] ["house", "ground"] (defScope s_add_ground) := ⟨rfl, rfl, rfl, by decide +kernel, rfl, by decide +kernel, by decide +kernel⟩
abbrev sp_add_ground (K : PySem.W.Frag) (c : Cs) : Sp := (sp2 (pr_add_ground c))
def t_add_ground (K : PySem.W.Frag) (c : Cs) : TS := (tSeq (tIfS (tB (tDIn (tFld K (tVar 1) "name") (tFld K (tVar 0) "grounds"))) (tRet (tC (.str "no name"))) tNext) (tSeq (tIfS (tTest (tOp rGe (tCB rLenD (tCons (tFld K (tVar 0) "grounds") tNil)) (tC (.int 8)))) (tRet (tC (.str "no many"))) tNext) (tSeq (sDPut (tFld K (tVar 0) "grounds") (tFld K (tVar 1) "name") (tVar 1)) (tSeq (tDrop (tCall (sp_all_goes K c) [] E0 (tCons (tVar 0) tNil))) (tRet (tC (.str "ok")))))))
theorem ok_add_ground {P : Program} {w : World} {K : PySem.W.Frag} {mg : Str → Option Value} {base : Heap} {c : Cs} (T : TopTxt K w mg c) (F : FunAt K mg "add_ground" s_add_ground) (D_all_goes : Def P w K mg base "all_goes" 6 ["house"] (sp_all_goes K c)) (pure : ∀ a b H Q, pr_add_ground c a b H Q → t_add_ground K c { nx := fun _ H' => Q .non H', rt := Q } (start ["house", "ground"] [a, b]) H) : Def P w K mg base "add_ground" 7 ["house", "ground"] (sp_add_ground K c) := by
  obtain ⟨f, fd, F0, mf⟩ := F.ex
  obtain ⟨f_all_goes, fd_all_goes, G_all_goes, m_all_goes, k_all_goes, b_all_goes⟩ := D_all_goes.ex
  have b0 := F0.binds (ps := ["house", "ground"]) fun _ _ _ _ _ _ us hl => match us, hl with | [_, _], _ => rfl
  refine ⟨⟨f, fd, F0.ok (k := 6) sc_add_ground (fun vs H Q E h => ?len) (fun cdv A outer s H vs Q E hr h => ⟨t_add_ground K c, ?term, ?pu⟩), mf, F0.kp, b0⟩⟩
  case len => obtain ⟨a, b, rfl, h⟩ := sp2_of h; rfl
  case term => have hu := hu_of hr; exact (pss_cons (ps_if (pt_cmp (pc_din hu (pe_fld (pv 1) rfl) (pe_fld (pv 0) rfl))) (pss_one (ps_ret pe_str)) pss_nil) (pss_cons (ps_if (pt_cmpR op_ge (pe_callB call_lenD rfl T.b_len PySem.boot_len (pa_cons (pe_fld (pv 0) rfl) pa_nil)) (pe_gv rfl T.g_MOST_GROUNDS) (nomark _)) (pss_one (ps_ret pe_str)) pss_nil) (pss_cons (ps_dput hu (pe_fld (pv 0) rfl) (pe_fld (pv 1) rfl) (pv 1) rfl) (pss_cons (ps_expr (pe_call G_all_goes (hr.mono (by decide)) rfl m_all_goes k_all_goes b_all_goes .nil pass0 (pa_cons (pv 0) pa_nil))) (pss_one (ps_ret pe_str))))))
  case pu => obtain ⟨a, b, rfl, h⟩ := sp2_of h; exact pure a b H Q h
abbrev s_init_Ground : Stmt := inClass (topS 18) 0
theorem sc_init_Ground : FnScope ["self", "name", "kind", "basis", "purpose", "span", "event"] ["self", "name", "kind", "basis", "purpose", "span", "event"] (defScope s_init_Ground) := ⟨rfl, rfl, rfl, by decide +kernel, rfl, by decide +kernel, by decide +kernel⟩
abbrev spI_Ground (K : PySem.W.Frag) (c : Cs) : Sp := (sp7 (prI_Ground c))
def t_init_Ground (K : PySem.W.Frag) (c : Cs) : TS := (tSeq (sFld K (tVar 0) (tVar 1) "name") (tSeq (sFld K (tVar 0) (tVar 2) "kind") (tSeq (sFld K (tVar 0) (tVar 3) "basis") (tSeq (sFld K (tVar 0) (tVar 4) "purpose") (tSeq (sFld K (tVar 0) (tVar 5) "span") (sFld K (tVar 0) (tVar 6) "event"))))))
theorem ok_init_Ground {P : Program} {w : World} {K : PySem.W.Frag} {mg : Str → Option Value} {base : Heap} {c : Cs} (T : TopTxt K w mg c) (F : InitAt K c.Ground "Ground.__init__" s_init_Ground) (pure : ∀ a b d e g i j H Q, prI_Ground c a b d e g i j H Q → t_init_Ground K c { nx := fun _ H' => Q .non H', rt := Q } (start ["self", "name", "kind", "basis", "purpose", "span", "event"] [a, b, d, e, g, i, j]) H) : MadeBy P w K mg base c.Ground 1 ["self", "name", "kind", "basis", "purpose", "span", "event"] (spI_Ground K c) := by
  obtain ⟨f, fd, M0, F0⟩ := F.ex
  have b0 := F0.binds (ps := ["self", "name", "kind", "basis", "purpose", "span", "event"]) fun _ _ _ _ _ _ us hl => match us, hl with | [_, _, _, _, _, _, _], _ => rfl
  refine ⟨⟨f, fd, M0, F0.ok (k := 0) sc_init_Ground (fun vs H Q E h => ?len) (fun cdv A outer s H vs Q E hr h => ⟨t_init_Ground K c, ?term, ?pu⟩), b0⟩⟩
  case len => obtain ⟨a, b, d, e, g, i, j, rfl, h⟩ := sp7_of h; rfl
  case term => have hu := hu_of hr; exact (pss_cons (ps_fld (pv 0) (pv 1) rfl) (pss_cons (ps_fld (pv 0) (pv 2) rfl) (pss_cons (ps_fld (pv 0) (pv 3) rfl) (pss_cons (ps_fld (pv 0) (pv 4) rfl) (pss_cons (ps_fld (pv 0) (pv 5) rfl) (pss_one (ps_fld (pv 0) (pv 6) rfl)))))))
  case pu => obtain ⟨a, b, d, e, g, i, j, rfl, h⟩ := sp7_of h; exact pure a b d e g i j H Q h
abbrev s_add_law_ground : Stmt := topS 27
theorem sc_add_law_ground : FnScope ["house", "things"] ["house", "things"] (defScope s_add_law_ground) := ⟨rfl, rfl, rfl, by decide +kernel, rfl, by decide +kernel, by decide +kernel⟩
abbrev sp_add_law_ground (K : PySem.W.Frag) (c : Cs) : Sp := (sp2 (pr_add_law_ground c))
def t_add_law_ground (K : PySem.W.Frag) (c : Cs) : TS := (tRet (tCall (sp_add_ground K c) [] E0 (tCons (tVar 0) (tCons (tMake c.Ground (spI_Ground K c) [] E0 (tCons (tOp (rIxL K) (tVar 1) (tC (.int 0))) (tCons (tOp (rIxL K) (tVar 1) (tC (.int 1))) (tCons (tC (.str "law")) (tCons (tC .non) (tCons (tOp (rIxL K) (tVar 1) (tC (.int 2))) (tCons (tOp (rIxL K) (tVar 1) (tC (.int 3))) tNil))))))) tNil))))
theorem ok_add_law_ground {P : Program} {w : World} {K : PySem.W.Frag} {mg : Str → Option Value} {base : Heap} {c : Cs} (T : TopTxt K w mg c) (F : FunAt K mg "add_law_ground" s_add_law_ground) (D_add_ground : Def P w K mg base "add_ground" 7 ["house", "ground"] (sp_add_ground K c)) (DI_Ground : MadeBy P w K mg base c.Ground 1 ["self", "name", "kind", "basis", "purpose", "span", "event"] (spI_Ground K c)) (pure : ∀ a b H Q, pr_add_law_ground c a b H Q → t_add_law_ground K c { nx := fun _ H' => Q .non H', rt := Q } (start ["house", "things"] [a, b]) H) : Def P w K mg base "add_law_ground" 8 ["house", "things"] (sp_add_law_ground K c) := by
  obtain ⟨f, fd, F0, mf⟩ := F.ex
  obtain ⟨f_add_ground, fd_add_ground, G_add_ground, m_add_ground, k_add_ground, b_add_ground⟩ := D_add_ground.ex
  obtain ⟨fI_Ground, fdI_Ground, M_Ground, GI_Ground, bI_Ground⟩ := DI_Ground.ex
  have b0 := F0.binds (ps := ["house", "things"]) fun _ _ _ _ _ _ us hl => match us, hl with | [_, _], _ => rfl
  refine ⟨⟨f, fd, F0.ok (k := 7) sc_add_law_ground (fun vs H Q E h => ?len) (fun cdv A outer s H vs Q E hr h => ⟨t_add_law_ground K c, ?term, ?pu⟩), mf, F0.kp, b0⟩⟩
  case len => obtain ⟨a, b, rfl, h⟩ := sp2_of h; rfl
  case term => have hu := hu_of hr; exact (pss_one (ps_ret (pe_call G_add_ground (hr.mono (by decide)) rfl m_add_ground k_add_ground b_add_ground .nil pass0 (pa_cons (pv 0) (pa_cons (pe_make M_Ground GI_Ground (hr.mono (by decide)) rfl T.m_Ground bI_Ground .nil pass0 (pa_cons (pe_ix ix_list (pv 1) pe_int (fun _ _ => rfl)) (pa_cons (pe_ix ix_list (pv 1) pe_int (fun _ _ => rfl)) (pa_cons pe_str (pa_cons pe_non (pa_cons (pe_ix ix_list (pv 1) pe_int (fun _ _ => rfl)) (pa_cons (pe_ix ix_list (pv 1) pe_int (fun _ _ => rfl)) pa_nil))))))) pa_nil)))))
  case pu => obtain ⟨a, b, rfl, h⟩ := sp2_of h; exact pure a b H Q h
abbrev s_add_need_ground : Stmt := topS 28
theorem sc_add_need_ground : FnScope ["house", "things"] ["house", "things"] (defScope s_add_need_ground) := ⟨rfl, rfl, rfl, by decide +kernel, rfl, by decide +kernel, by decide +kernel⟩
abbrev sp_add_need_ground (K : PySem.W.Frag) (c : Cs) : Sp := (sp2 (pr_add_need_ground c))
def t_add_need_ground (K : PySem.W.Frag) (c : Cs) : TS := (tRet (tCall (sp_add_ground K c) [] E0 (tCons (tVar 0) (tCons (tMake c.Ground (spI_Ground K c) [] E0 (tCons (tOp (rIxL K) (tVar 1) (tC (.int 0))) (tCons (tOp (rIxL K) (tVar 1) (tC (.int 1))) (tCons (tC (.str "need")) (tCons (tC .non) (tCons (tOp (rIxL K) (tVar 1) (tC (.int 2))) (tCons (tOp (rIxL K) (tVar 1) (tC (.int 3))) tNil))))))) tNil))))
theorem ok_add_need_ground {P : Program} {w : World} {K : PySem.W.Frag} {mg : Str → Option Value} {base : Heap} {c : Cs} (T : TopTxt K w mg c) (F : FunAt K mg "add_need_ground" s_add_need_ground) (D_add_ground : Def P w K mg base "add_ground" 7 ["house", "ground"] (sp_add_ground K c)) (DI_Ground : MadeBy P w K mg base c.Ground 1 ["self", "name", "kind", "basis", "purpose", "span", "event"] (spI_Ground K c)) (pure : ∀ a b H Q, pr_add_need_ground c a b H Q → t_add_need_ground K c { nx := fun _ H' => Q .non H', rt := Q } (start ["house", "things"] [a, b]) H) : Def P w K mg base "add_need_ground" 8 ["house", "things"] (sp_add_need_ground K c) := by
  obtain ⟨f, fd, F0, mf⟩ := F.ex
  obtain ⟨f_add_ground, fd_add_ground, G_add_ground, m_add_ground, k_add_ground, b_add_ground⟩ := D_add_ground.ex
  obtain ⟨fI_Ground, fdI_Ground, M_Ground, GI_Ground, bI_Ground⟩ := DI_Ground.ex
  have b0 := F0.binds (ps := ["house", "things"]) fun _ _ _ _ _ _ us hl => match us, hl with | [_, _], _ => rfl
  refine ⟨⟨f, fd, F0.ok (k := 7) sc_add_need_ground (fun vs H Q E h => ?len) (fun cdv A outer s H vs Q E hr h => ⟨t_add_need_ground K c, ?term, ?pu⟩), mf, F0.kp, b0⟩⟩
  case len => obtain ⟨a, b, rfl, h⟩ := sp2_of h; rfl
  case term => have hu := hu_of hr; exact (pss_one (ps_ret (pe_call G_add_ground (hr.mono (by decide)) rfl m_add_ground k_add_ground b_add_ground .nil pass0 (pa_cons (pv 0) (pa_cons (pe_make M_Ground GI_Ground (hr.mono (by decide)) rfl T.m_Ground bI_Ground .nil pass0 (pa_cons (pe_ix ix_list (pv 1) pe_int (fun _ _ => rfl)) (pa_cons (pe_ix ix_list (pv 1) pe_int (fun _ _ => rfl)) (pa_cons pe_str (pa_cons pe_non (pa_cons (pe_ix ix_list (pv 1) pe_int (fun _ _ => rfl)) (pa_cons (pe_ix ix_list (pv 1) pe_int (fun _ _ => rfl)) pa_nil))))))) pa_nil)))))
  case pu => obtain ⟨a, b, rfl, h⟩ := sp2_of h; exact pure a b H Q h
abbrev s_add_purpose_ground : Stmt := topS 29
theorem sc_add_purpose_ground : FnScope ["house", "things"] ["house", "things"] (defScope s_add_purpose_ground) := ⟨rfl, rfl, rfl, by decide +kernel, rfl, by decide +kernel, by decide +kernel⟩
abbrev sp_add_purpose_ground (K : PySem.W.Frag) (c : Cs) : Sp := (sp2 (pr_add_purpose_ground c))
def t_add_purpose_ground (K : PySem.W.Frag) (c : Cs) : TS := (tRet (tCall (sp_add_ground K c) [] E0 (tCons (tVar 0) (tCons (tMake c.Ground (spI_Ground K c) [] E0 (tCons (tOp (rIxL K) (tVar 1) (tC (.int 0))) (tCons (tOp (rIxL K) (tVar 1) (tC (.int 1))) (tCons (tC (.str "for")) (tCons (tOp (rIxL K) (tVar 1) (tC (.int 2))) (tCons (tOp (rIxL K) (tVar 1) (tC (.int 3))) (tCons (tOp (rIxL K) (tVar 1) (tC (.int 4))) tNil))))))) tNil))))
theorem ok_add_purpose_ground {P : Program} {w : World} {K : PySem.W.Frag} {mg : Str → Option Value} {base : Heap} {c : Cs} (T : TopTxt K w mg c) (F : FunAt K mg "add_purpose_ground" s_add_purpose_ground) (D_add_ground : Def P w K mg base "add_ground" 7 ["house", "ground"] (sp_add_ground K c)) (DI_Ground : MadeBy P w K mg base c.Ground 1 ["self", "name", "kind", "basis", "purpose", "span", "event"] (spI_Ground K c)) (pure : ∀ a b H Q, pr_add_purpose_ground c a b H Q → t_add_purpose_ground K c { nx := fun _ H' => Q .non H', rt := Q } (start ["house", "things"] [a, b]) H) : Def P w K mg base "add_purpose_ground" 8 ["house", "things"] (sp_add_purpose_ground K c) := by
  obtain ⟨f, fd, F0, mf⟩ := F.ex
  obtain ⟨f_add_ground, fd_add_ground, G_add_ground, m_add_ground, k_add_ground, b_add_ground⟩ := D_add_ground.ex
  obtain ⟨fI_Ground, fdI_Ground, M_Ground, GI_Ground, bI_Ground⟩ := DI_Ground.ex
  have b0 := F0.binds (ps := ["house", "things"]) fun _ _ _ _ _ _ us hl => match us, hl with | [_, _], _ => rfl
  refine ⟨⟨f, fd, F0.ok (k := 7) sc_add_purpose_ground (fun vs H Q E h => ?len) (fun cdv A outer s H vs Q E hr h => ⟨t_add_purpose_ground K c, ?term, ?pu⟩), mf, F0.kp, b0⟩⟩
  case len => obtain ⟨a, b, rfl, h⟩ := sp2_of h; rfl
  case term => have hu := hu_of hr; exact (pss_one (ps_ret (pe_call G_add_ground (hr.mono (by decide)) rfl m_add_ground k_add_ground b_add_ground .nil pass0 (pa_cons (pv 0) (pa_cons (pe_make M_Ground GI_Ground (hr.mono (by decide)) rfl T.m_Ground bI_Ground .nil pass0 (pa_cons (pe_ix ix_list (pv 1) pe_int (fun _ _ => rfl)) (pa_cons (pe_ix ix_list (pv 1) pe_int (fun _ _ => rfl)) (pa_cons pe_str (pa_cons (pe_ix ix_list (pv 1) pe_int (fun _ _ => rfl)) (pa_cons (pe_ix ix_list (pv 1) pe_int (fun _ _ => rfl)) (pa_cons (pe_ix ix_list (pv 1) pe_int (fun _ _ => rfl)) pa_nil))))))) pa_nil)))))
  case pu => obtain ⟨a, b, rfl, h⟩ := sp2_of h; exact pure a b H Q h
abbrev s_void_ground : Stmt := topS 30
theorem sc_void_ground : FnScope ["house", "things", "name"] ["house", "things"] (defScope s_void_ground) := ⟨rfl, rfl, rfl, by decide +kernel, rfl, by decide +kernel, by decide +kernel⟩
abbrev sp_void_ground (K : PySem.W.Frag) (c : Cs) : Sp := (sp2 (pr_void_ground c))
def t_void_ground (K : PySem.W.Frag) (c : Cs) : TS := (tSeq (tAsg (tOp (rIxL K) (tVar 1) (tC (.int 0))) (gName 2)) (tSeq (tIfS (tB (tDNotIn (tVar 2) (tFld K (tVar 0) "grounds"))) (tRet (tC (.str "no name"))) tNext) (tSeq (tDrop (tDPop1 (tFld K (tVar 0) "grounds") (tVar 2))) (tSeq (tDrop (tCall (sp_all_goes K c) [] E0 (tCons (tVar 0) tNil))) (tRet (tC (.str "ok")))))))
theorem ok_void_ground {P : Program} {w : World} {K : PySem.W.Frag} {mg : Str → Option Value} {base : Heap} {c : Cs} (T : TopTxt K w mg c) (F : FunAt K mg "void_ground" s_void_ground) (D_all_goes : Def P w K mg base "all_goes" 6 ["house"] (sp_all_goes K c)) (pure : ∀ a b H Q, pr_void_ground c a b H Q → t_void_ground K c { nx := fun _ H' => Q .non H', rt := Q } (start ["house", "things", "name"] [a, b]) H) : Def P w K mg base "void_ground" 7 ["house", "things"] (sp_void_ground K c) := by
  obtain ⟨f, fd, F0, mf⟩ := F.ex
  obtain ⟨f_all_goes, fd_all_goes, G_all_goes, m_all_goes, k_all_goes, b_all_goes⟩ := D_all_goes.ex
  have b0 := F0.binds (ps := ["house", "things"]) fun _ _ _ _ _ _ us hl => match us, hl with | [_, _], _ => rfl
  refine ⟨⟨f, fd, F0.ok (k := 6) sc_void_ground (fun vs H Q E h => ?len) (fun cdv A outer s H vs Q E hr h => ⟨t_void_ground K c, ?term, ?pu⟩), mf, F0.kp, b0⟩⟩
  case len => obtain ⟨a, b, rfl, h⟩ := sp2_of h; rfl
  case term => have hu := hu_of hr; exact (pss_cons (ps_set (i := 2) sc_void_ground.nd rfl (Or.inl rfl) (pe_ix ix_list (pv 1) pe_int (fun _ _ => rfl))) (pss_cons (ps_if (pt_cmp (pc_dnotin hu (pv 2) (pe_fld (pv 0) rfl))) (pss_one (ps_ret pe_str)) pss_nil) (pss_cons (ps_expr (pe_dpop1 (pe_fld (pv 0) rfl) (pv 2) ⟨rfl, rfl, rfl, rfl⟩)) (pss_cons (ps_expr (pe_call G_all_goes (hr.mono (by decide)) rfl m_all_goes k_all_goes b_all_goes .nil pass0 (pa_cons (pv 0) pa_nil))) (pss_one (ps_ret pe_str))))))
  case pu => obtain ⟨a, b, rfl, h⟩ := sp2_of h; exact pure a b H Q h
abbrev s_init_Hold : Stmt := inClass (topS 22) 0
theorem sc_init_Hold : FnScope ["self", "name", "person", "kind"] ["self", "name", "person", "kind"] (defScope s_init_Hold) := ⟨rfl, rfl, rfl, by decide +kernel, rfl, by decide +kernel, by decide +kernel⟩
abbrev spI_Hold (K : PySem.W.Frag) (c : Cs) : Sp := (sp4 (prI_Hold c))
def t_init_Hold (K : PySem.W.Frag) (c : Cs) : TS := (tSeq (sFld K (tVar 0) (tVar 1) "name") (tSeq (sFld K (tVar 0) (tVar 2) "person") (sFld K (tVar 0) (tVar 3) "kind")))
theorem ok_init_Hold {P : Program} {w : World} {K : PySem.W.Frag} {mg : Str → Option Value} {base : Heap} {c : Cs} (T : TopTxt K w mg c) (F : InitAt K c.Hold "Hold.__init__" s_init_Hold) (pure : ∀ a b d e H Q, prI_Hold c a b d e H Q → t_init_Hold K c { nx := fun _ H' => Q .non H', rt := Q } (start ["self", "name", "person", "kind"] [a, b, d, e]) H) : MadeBy P w K mg base c.Hold 1 ["self", "name", "person", "kind"] (spI_Hold K c) := by
  obtain ⟨f, fd, M0, F0⟩ := F.ex
  have b0 := F0.binds (ps := ["self", "name", "person", "kind"]) fun _ _ _ _ _ _ us hl => match us, hl with | [_, _, _, _], _ => rfl
  refine ⟨⟨f, fd, M0, F0.ok (k := 0) sc_init_Hold (fun vs H Q E h => ?len) (fun cdv A outer s H vs Q E hr h => ⟨t_init_Hold K c, ?term, ?pu⟩), b0⟩⟩
  case len => obtain ⟨a, b, d, e, rfl, h⟩ := sp4_of h; rfl
  case term => have hu := hu_of hr; exact (pss_cons (ps_fld (pv 0) (pv 1) rfl) (pss_cons (ps_fld (pv 0) (pv 2) rfl) (pss_one (ps_fld (pv 0) (pv 3) rfl))))
  case pu => obtain ⟨a, b, d, e, rfl, h⟩ := sp4_of h; exact pure a b d e H Q h
abbrev s_add_hold : Stmt := topS 31
theorem sc_add_hold : FnScope ["house", "things", "name", "person"] ["house", "things"] (defScope s_add_hold) := ⟨rfl, rfl, rfl, by decide +kernel, rfl, by decide +kernel, by decide +kernel⟩
abbrev sp_add_hold (K : PySem.W.Frag) (c : Cs) : Sp := (sp2 (pr_add_hold c))
def t_add_hold (K : PySem.W.Frag) (c : Cs) : TS := (tSeq (tAsg (tOp (rIxL K) (tVar 1) (tC (.int 0))) (gName 2)) (tSeq (tAsg (tDGet1 (tFld K (tVar 0) "people") (tOp (rIxL K) (tVar 1) (tC (.int 1)))) (gName 3)) (tSeq (tIfS (tB (tDIn (tVar 2) (tFld K (tVar 0) "holds"))) (tRet (tC (.str "no name"))) tNext) (tSeq (tIfS (tB (tIsN (tVar 3))) (tRet (tC (.str "no person"))) tNext) (tSeq (tIfS (tTest (tOp rGe (tCB rLenD (tCons (tFld K (tVar 0) "holds") tNil)) (tC (.int 4)))) (tRet (tC (.str "no many"))) tNext) (tSeq (sDPut (tFld K (tVar 0) "holds") (tVar 2) (tMake c.Hold (spI_Hold K c) [] E0 (tCons (tVar 2) (tCons (tVar 3) (tCons (tOp (rIxL K) (tVar 1) (tC (.int 2))) tNil))))) (tRet (tC (.str "ok")))))))))
theorem ok_add_hold {P : Program} {w : World} {K : PySem.W.Frag} {mg : Str → Option Value} {base : Heap} {c : Cs} (T : TopTxt K w mg c) (F : FunAt K mg "add_hold" s_add_hold) (DI_Hold : MadeBy P w K mg base c.Hold 1 ["self", "name", "person", "kind"] (spI_Hold K c)) (pure : ∀ a b H Q, pr_add_hold c a b H Q → t_add_hold K c { nx := fun _ H' => Q .non H', rt := Q } (start ["house", "things", "name", "person"] [a, b]) H) : Def P w K mg base "add_hold" 3 ["house", "things"] (sp_add_hold K c) := by
  obtain ⟨f, fd, F0, mf⟩ := F.ex
  obtain ⟨fI_Hold, fdI_Hold, M_Hold, GI_Hold, bI_Hold⟩ := DI_Hold.ex
  have b0 := F0.binds (ps := ["house", "things"]) fun _ _ _ _ _ _ us hl => match us, hl with | [_, _], _ => rfl
  refine ⟨⟨f, fd, F0.ok (k := 2) sc_add_hold (fun vs H Q E h => ?len) (fun cdv A outer s H vs Q E hr h => ⟨t_add_hold K c, ?term, ?pu⟩), mf, F0.kp, b0⟩⟩
  case len => obtain ⟨a, b, rfl, h⟩ := sp2_of h; rfl
  case term => have hu := hu_of hr; exact (pss_cons (ps_set (i := 2) sc_add_hold.nd rfl (Or.inl rfl) (pe_ix ix_list (pv 1) pe_int (fun _ _ => rfl))) (pss_cons (ps_set (i := 3) sc_add_hold.nd rfl (Or.inl rfl) (pe_dget1 hu (pe_fld (pv 0) rfl) (pe_ix ix_list (pv 1) pe_int (fun _ _ => rfl)) ⟨rfl, rfl, rfl, rfl⟩)) (pss_cons (ps_if (pt_cmp (pc_din hu (pv 2) (pe_fld (pv 0) rfl))) (pss_one (ps_ret pe_str)) pss_nil) (pss_cons (ps_if (pt_cmp (pc_isN (pv 3))) (pss_one (ps_ret pe_str)) pss_nil) (pss_cons (ps_if (pt_cmpR op_ge (pe_callB call_lenD rfl T.b_len PySem.boot_len (pa_cons (pe_fld (pv 0) rfl) pa_nil)) (pe_gv rfl T.g_MOST_HOLDS) (nomark _)) (pss_one (ps_ret pe_str)) pss_nil) (pss_cons (ps_dput hu (pe_fld (pv 0) rfl) (pv 2) (pe_make M_Hold GI_Hold (hr.mono (by decide)) rfl T.m_Hold bI_Hold .nil pass0 (pa_cons (pv 2) (pa_cons (pv 3) (pa_cons (pe_ix ix_list (pv 1) pe_int (fun _ _ => rfl)) pa_nil)))) rfl) (pss_one (ps_ret pe_str))))))))
  case pu => obtain ⟨a, b, rfl, h⟩ := sp2_of h; exact pure a b H Q h
abbrev s_free_hold : Stmt := topS 32
theorem sc_free_hold : FnScope ["house", "things", "name"] ["house", "things"] (defScope s_free_hold) := ⟨rfl, rfl, rfl, by decide +kernel, rfl, by decide +kernel, by decide +kernel⟩
abbrev sp_free_hold (K : PySem.W.Frag) (c : Cs) : Sp := (sp2 (pr_free_hold c))
def t_free_hold (K : PySem.W.Frag) (c : Cs) : TS := (tSeq (tAsg (tOp (rIxL K) (tVar 1) (tC (.int 0))) (gName 2)) (tSeq (tIfS (tB (tDNotIn (tVar 2) (tFld K (tVar 0) "holds"))) (tRet (tC (.str "no name"))) tNext) (tSeq (tDrop (tDPop1 (tFld K (tVar 0) "holds") (tVar 2))) (tSeq (tDrop (tCall (sp_all_goes K c) [] E0 (tCons (tVar 0) tNil))) (tRet (tC (.str "ok")))))))
theorem ok_free_hold {P : Program} {w : World} {K : PySem.W.Frag} {mg : Str → Option Value} {base : Heap} {c : Cs} (T : TopTxt K w mg c) (F : FunAt K mg "free_hold" s_free_hold) (D_all_goes : Def P w K mg base "all_goes" 6 ["house"] (sp_all_goes K c)) (pure : ∀ a b H Q, pr_free_hold c a b H Q → t_free_hold K c { nx := fun _ H' => Q .non H', rt := Q } (start ["house", "things", "name"] [a, b]) H) : Def P w K mg base "free_hold" 7 ["house", "things"] (sp_free_hold K c) := by
  obtain ⟨f, fd, F0, mf⟩ := F.ex
  obtain ⟨f_all_goes, fd_all_goes, G_all_goes, m_all_goes, k_all_goes, b_all_goes⟩ := D_all_goes.ex
  have b0 := F0.binds (ps := ["house", "things"]) fun _ _ _ _ _ _ us hl => match us, hl with | [_, _], _ => rfl
  refine ⟨⟨f, fd, F0.ok (k := 6) sc_free_hold (fun vs H Q E h => ?len) (fun cdv A outer s H vs Q E hr h => ⟨t_free_hold K c, ?term, ?pu⟩), mf, F0.kp, b0⟩⟩
  case len => obtain ⟨a, b, rfl, h⟩ := sp2_of h; rfl
  case term => have hu := hu_of hr; exact (pss_cons (ps_set (i := 2) sc_free_hold.nd rfl (Or.inl rfl) (pe_ix ix_list (pv 1) pe_int (fun _ _ => rfl))) (pss_cons (ps_if (pt_cmp (pc_dnotin hu (pv 2) (pe_fld (pv 0) rfl))) (pss_one (ps_ret pe_str)) pss_nil) (pss_cons (ps_expr (pe_dpop1 (pe_fld (pv 0) rfl) (pv 2) ⟨rfl, rfl, rfl, rfl⟩)) (pss_cons (ps_expr (pe_call G_all_goes (hr.mono (by decide)) rfl m_all_goes k_all_goes b_all_goes .nil pass0 (pa_cons (pv 0) pa_nil))) (pss_one (ps_ret pe_str))))))
  case pu => obtain ⟨a, b, rfl, h⟩ := sp2_of h; exact pure a b H Q h
abbrev s_init_Person : Stmt := inClass (topS 17) 0
theorem sc_init_Person : FnScope ["self", "name"] ["self", "name"] (defScope s_init_Person) := ⟨rfl, rfl, rfl, by decide +kernel, rfl, by decide +kernel, by decide +kernel⟩
abbrev spI_Person (K : PySem.W.Frag) (c : Cs) : Sp := (sp2 (prI_Person c))
def t_init_Person (K : PySem.W.Frag) (c : Cs) : TS := (tSeq (sFld K (tVar 0) (tVar 1) "name") (tSeq (sFld K (tVar 0) tDNewK "consents") (tSeq (sFld K (tVar 0) (tC (.bl false)) "objects") (sFld K (tVar 0) (tC .non) "ended"))))
theorem ok_init_Person {P : Program} {w : World} {K : PySem.W.Frag} {mg : Str → Option Value} {base : Heap} {c : Cs} (T : TopTxt K w mg c) (F : InitAt K c.Person "Person.__init__" s_init_Person) (pure : ∀ a b H Q, prI_Person c a b H Q → t_init_Person K c { nx := fun _ H' => Q .non H', rt := Q } (start ["self", "name"] [a, b]) H) : MadeBy P w K mg base c.Person 1 ["self", "name"] (spI_Person K c) := by
  obtain ⟨f, fd, M0, F0⟩ := F.ex
  have b0 := F0.binds (ps := ["self", "name"]) fun _ _ _ _ _ _ us hl => match us, hl with | [_, _], _ => rfl
  refine ⟨⟨f, fd, M0, F0.ok (k := 0) sc_init_Person (fun vs H Q E h => ?len) (fun cdv A outer s H vs Q E hr h => ⟨t_init_Person K c, ?term, ?pu⟩), b0⟩⟩
  case len => obtain ⟨a, b, rfl, h⟩ := sp2_of h; rfl
  case term => have hu := hu_of hr; exact (pss_cons (ps_fld (pv 0) (pv 1) rfl) (pss_cons (ps_fld (pv 0) pe_dnewK rfl) (pss_cons (ps_fld (pv 0) pe_bl rfl) (pss_one (ps_fld (pv 0) pe_non rfl)))))
  case pu => obtain ⟨a, b, rfl, h⟩ := sp2_of h; exact pure a b H Q h
abbrev s_add_person : Stmt := topS 36
theorem sc_add_person : FnScope ["house", "things", "name"] ["house", "things"] (defScope s_add_person) := ⟨rfl, rfl, rfl, by decide +kernel, rfl, by decide +kernel, by decide +kernel⟩
abbrev sp_add_person (K : PySem.W.Frag) (c : Cs) : Sp := (sp2 (pr_add_person c))
def t_add_person (K : PySem.W.Frag) (c : Cs) : TS := (tSeq (tAsg (tOp (rIxL K) (tVar 1) (tC (.int 0))) (gName 2)) (tSeq (tIfS (tB (tDIn (tVar 2) (tFld K (tVar 0) "people"))) (tRet (tC (.str "no name"))) tNext) (tSeq (tIfS (tTest (tOp rGe (tCB rLenD (tCons (tFld K (tVar 0) "people") tNil)) (tC (.int 4)))) (tRet (tC (.str "no many"))) tNext) (tSeq (sDPut (tFld K (tVar 0) "people") (tVar 2) (tMake c.Person (spI_Person K c) [] E0 (tCons (tVar 2) tNil))) (tRet (tC (.str "ok")))))))
theorem ok_add_person {P : Program} {w : World} {K : PySem.W.Frag} {mg : Str → Option Value} {base : Heap} {c : Cs} (T : TopTxt K w mg c) (F : FunAt K mg "add_person" s_add_person) (DI_Person : MadeBy P w K mg base c.Person 1 ["self", "name"] (spI_Person K c)) (pure : ∀ a b H Q, pr_add_person c a b H Q → t_add_person K c { nx := fun _ H' => Q .non H', rt := Q } (start ["house", "things", "name"] [a, b]) H) : Def P w K mg base "add_person" 3 ["house", "things"] (sp_add_person K c) := by
  obtain ⟨f, fd, F0, mf⟩ := F.ex
  obtain ⟨fI_Person, fdI_Person, M_Person, GI_Person, bI_Person⟩ := DI_Person.ex
  have b0 := F0.binds (ps := ["house", "things"]) fun _ _ _ _ _ _ us hl => match us, hl with | [_, _], _ => rfl
  refine ⟨⟨f, fd, F0.ok (k := 2) sc_add_person (fun vs H Q E h => ?len) (fun cdv A outer s H vs Q E hr h => ⟨t_add_person K c, ?term, ?pu⟩), mf, F0.kp, b0⟩⟩
  case len => obtain ⟨a, b, rfl, h⟩ := sp2_of h; rfl
  case term => have hu := hu_of hr; exact (pss_cons (ps_set (i := 2) sc_add_person.nd rfl (Or.inl rfl) (pe_ix ix_list (pv 1) pe_int (fun _ _ => rfl))) (pss_cons (ps_if (pt_cmp (pc_din hu (pv 2) (pe_fld (pv 0) rfl))) (pss_one (ps_ret pe_str)) pss_nil) (pss_cons (ps_if (pt_cmpR op_ge (pe_callB call_lenD rfl T.b_len PySem.boot_len (pa_cons (pe_fld (pv 0) rfl) pa_nil)) (pe_gv rfl T.g_MOST_PEOPLE) (nomark _)) (pss_one (ps_ret pe_str)) pss_nil) (pss_cons (ps_dput hu (pe_fld (pv 0) rfl) (pv 2) (pe_make M_Person GI_Person (hr.mono (by decide)) rfl T.m_Person bI_Person .nil pass0 (pa_cons (pv 2) pa_nil)) rfl) (pss_one (ps_ret pe_str))))))
  case pu => obtain ⟨a, b, rfl, h⟩ := sp2_of h; exact pure a b H Q h
abbrev s_give_consent : Stmt := topS 37
theorem sc_give_consent : FnScope ["house", "things", "person", "purpose"] ["house", "things"] (defScope s_give_consent) := ⟨rfl, rfl, rfl, by decide +kernel, rfl, by decide +kernel, by decide +kernel⟩
abbrev sp_give_consent (K : PySem.W.Frag) (c : Cs) : Sp := (sp2 (pr_give_consent c))
def t_give_consent (K : PySem.W.Frag) (c : Cs) : TS := (tSeq (tAsg (tDGet1 (tFld K (tVar 0) "people") (tOp (rIxL K) (tVar 1) (tC (.int 0)))) (gName 2)) (tSeq (tAsg (tOp (rIxL K) (tVar 1) (tC (.int 1))) (gName 3)) (tSeq (tIfS (tB (tIsN (tVar 2))) (tRet (tC (.str "no person"))) tNext) (tSeq (tIfS (tB (tDIn (tVar 3) (tFld K (tVar 2) "consents"))) (tRet (tC (.str "no change"))) tNext) (tSeq (tIfS (tTest (tOp rGe (tCB rLenD (tCons (tFld K (tVar 2) "consents") tNil)) (tC (.int 4)))) (tRet (tC (.str "no many"))) tNext) (tSeq (sDPut (tFld K (tVar 2) "consents") (tVar 3) (tC (.bl true))) (tSeq (tDrop (tCall (sp_all_goes K c) [] E0 (tCons (tVar 0) tNil))) (tRet (tC (.str "ok"))))))))))
theorem ok_give_consent {P : Program} {w : World} {K : PySem.W.Frag} {mg : Str → Option Value} {base : Heap} {c : Cs} (T : TopTxt K w mg c) (F : FunAt K mg "give_consent" s_give_consent) (D_all_goes : Def P w K mg base "all_goes" 6 ["house"] (sp_all_goes K c)) (pure : ∀ a b H Q, pr_give_consent c a b H Q → t_give_consent K c { nx := fun _ H' => Q .non H', rt := Q } (start ["house", "things", "person", "purpose"] [a, b]) H) : Def P w K mg base "give_consent" 7 ["house", "things"] (sp_give_consent K c) := by
  obtain ⟨f, fd, F0, mf⟩ := F.ex
  obtain ⟨f_all_goes, fd_all_goes, G_all_goes, m_all_goes, k_all_goes, b_all_goes⟩ := D_all_goes.ex
  have b0 := F0.binds (ps := ["house", "things"]) fun _ _ _ _ _ _ us hl => match us, hl with | [_, _], _ => rfl
  refine ⟨⟨f, fd, F0.ok (k := 6) sc_give_consent (fun vs H Q E h => ?len) (fun cdv A outer s H vs Q E hr h => ⟨t_give_consent K c, ?term, ?pu⟩), mf, F0.kp, b0⟩⟩
  case len => obtain ⟨a, b, rfl, h⟩ := sp2_of h; rfl
  case term => have hu := hu_of hr; exact (pss_cons (ps_set (i := 2) sc_give_consent.nd rfl (Or.inl rfl) (pe_dget1 hu (pe_fld (pv 0) rfl) (pe_ix ix_list (pv 1) pe_int (fun _ _ => rfl)) ⟨rfl, rfl, rfl, rfl⟩)) (pss_cons (ps_set (i := 3) sc_give_consent.nd rfl (Or.inl rfl) (pe_ix ix_list (pv 1) pe_int (fun _ _ => rfl))) (pss_cons (ps_if (pt_cmp (pc_isN (pv 2))) (pss_one (ps_ret pe_str)) pss_nil) (pss_cons (ps_if (pt_cmp (pc_din hu (pv 3) (pe_fld (pv 2) rfl))) (pss_one (ps_ret pe_str)) pss_nil) (pss_cons (ps_if (pt_cmpR op_ge (pe_callB call_lenD rfl T.b_len PySem.boot_len (pa_cons (pe_fld (pv 2) rfl) pa_nil)) (pe_gv rfl T.g_MOST_CONSENTS) (nomark _)) (pss_one (ps_ret pe_str)) pss_nil) (pss_cons (ps_dput hu (pe_fld (pv 2) rfl) (pv 3) pe_bl rfl) (pss_cons (ps_expr (pe_call G_all_goes (hr.mono (by decide)) rfl m_all_goes k_all_goes b_all_goes .nil pass0 (pa_cons (pv 0) pa_nil))) (pss_one (ps_ret pe_str)))))))))
  case pu => obtain ⟨a, b, rfl, h⟩ := sp2_of h; exact pure a b H Q h
abbrev s_withdraw_consent : Stmt := topS 38
theorem sc_withdraw_consent : FnScope ["house", "things", "person", "purpose"] ["house", "things"] (defScope s_withdraw_consent) := ⟨rfl, rfl, rfl, by decide +kernel, rfl, by decide +kernel, by decide +kernel⟩
abbrev sp_withdraw_consent (K : PySem.W.Frag) (c : Cs) : Sp := (sp2 (pr_withdraw_consent c))
def t_withdraw_consent (K : PySem.W.Frag) (c : Cs) : TS := (tSeq (tAsg (tDGet1 (tFld K (tVar 0) "people") (tOp (rIxL K) (tVar 1) (tC (.int 0)))) (gName 2)) (tSeq (tAsg (tOp (rIxL K) (tVar 1) (tC (.int 1))) (gName 3)) (tSeq (tIfS (tB (tIsN (tVar 2))) (tRet (tC (.str "no person"))) tNext) (tSeq (tIfS (tB (tDNotIn (tVar 3) (tFld K (tVar 2) "consents"))) (tRet (tC (.str "no change"))) tNext) (tSeq (tDrop (tDPop1 (tFld K (tVar 2) "consents") (tVar 3))) (tSeq (tDrop (tCall (sp_all_goes K c) [] E0 (tCons (tVar 0) tNil))) (tRet (tC (.str "ok")))))))))
theorem ok_withdraw_consent {P : Program} {w : World} {K : PySem.W.Frag} {mg : Str → Option Value} {base : Heap} {c : Cs} (T : TopTxt K w mg c) (F : FunAt K mg "withdraw_consent" s_withdraw_consent) (D_all_goes : Def P w K mg base "all_goes" 6 ["house"] (sp_all_goes K c)) (pure : ∀ a b H Q, pr_withdraw_consent c a b H Q → t_withdraw_consent K c { nx := fun _ H' => Q .non H', rt := Q } (start ["house", "things", "person", "purpose"] [a, b]) H) : Def P w K mg base "withdraw_consent" 7 ["house", "things"] (sp_withdraw_consent K c) := by
  obtain ⟨f, fd, F0, mf⟩ := F.ex
  obtain ⟨f_all_goes, fd_all_goes, G_all_goes, m_all_goes, k_all_goes, b_all_goes⟩ := D_all_goes.ex
  have b0 := F0.binds (ps := ["house", "things"]) fun _ _ _ _ _ _ us hl => match us, hl with | [_, _], _ => rfl
  refine ⟨⟨f, fd, F0.ok (k := 6) sc_withdraw_consent (fun vs H Q E h => ?len) (fun cdv A outer s H vs Q E hr h => ⟨t_withdraw_consent K c, ?term, ?pu⟩), mf, F0.kp, b0⟩⟩
  case len => obtain ⟨a, b, rfl, h⟩ := sp2_of h; rfl
  case term => have hu := hu_of hr; exact (pss_cons (ps_set (i := 2) sc_withdraw_consent.nd rfl (Or.inl rfl) (pe_dget1 hu (pe_fld (pv 0) rfl) (pe_ix ix_list (pv 1) pe_int (fun _ _ => rfl)) ⟨rfl, rfl, rfl, rfl⟩)) (pss_cons (ps_set (i := 3) sc_withdraw_consent.nd rfl (Or.inl rfl) (pe_ix ix_list (pv 1) pe_int (fun _ _ => rfl))) (pss_cons (ps_if (pt_cmp (pc_isN (pv 2))) (pss_one (ps_ret pe_str)) pss_nil) (pss_cons (ps_if (pt_cmp (pc_dnotin hu (pv 3) (pe_fld (pv 2) rfl))) (pss_one (ps_ret pe_str)) pss_nil) (pss_cons (ps_expr (pe_dpop1 (pe_fld (pv 2) rfl) (pv 3) ⟨rfl, rfl, rfl, rfl⟩)) (pss_cons (ps_expr (pe_call G_all_goes (hr.mono (by decide)) rfl m_all_goes k_all_goes b_all_goes .nil pass0 (pa_cons (pv 0) pa_nil))) (pss_one (ps_ret pe_str))))))))
  case pu => obtain ⟨a, b, rfl, h⟩ := sp2_of h; exact pure a b H Q h
abbrev s_raise_objection : Stmt := topS 39
theorem sc_raise_objection : FnScope ["house", "things", "person"] ["house", "things"] (defScope s_raise_objection) := ⟨rfl, rfl, rfl, by decide +kernel, rfl, by decide +kernel, by decide +kernel⟩
abbrev sp_raise_objection (K : PySem.W.Frag) (c : Cs) : Sp := (sp2 (pr_raise_objection c))
def t_raise_objection (K : PySem.W.Frag) (c : Cs) : TS := (tSeq (tAsg (tDGet1 (tFld K (tVar 0) "people") (tOp (rIxL K) (tVar 1) (tC (.int 0)))) (gName 2)) (tSeq (tIfS (tB (tIsN (tVar 2))) (tRet (tC (.str "no person"))) tNext) (tSeq (tIfS (tB (tFld K (tVar 2) "objects")) (tRet (tC (.str "no change"))) tNext) (tSeq (sFld K (tVar 2) (tC (.bl true)) "objects") (tSeq (tDrop (tCall (sp_all_goes K c) [] E0 (tCons (tVar 0) tNil))) (tRet (tC (.str "ok"))))))))
theorem ok_raise_objection {P : Program} {w : World} {K : PySem.W.Frag} {mg : Str → Option Value} {base : Heap} {c : Cs} (T : TopTxt K w mg c) (F : FunAt K mg "raise_objection" s_raise_objection) (D_all_goes : Def P w K mg base "all_goes" 6 ["house"] (sp_all_goes K c)) (pure : ∀ a b H Q, pr_raise_objection c a b H Q → t_raise_objection K c { nx := fun _ H' => Q .non H', rt := Q } (start ["house", "things", "person"] [a, b]) H) : Def P w K mg base "raise_objection" 7 ["house", "things"] (sp_raise_objection K c) := by
  obtain ⟨f, fd, F0, mf⟩ := F.ex
  obtain ⟨f_all_goes, fd_all_goes, G_all_goes, m_all_goes, k_all_goes, b_all_goes⟩ := D_all_goes.ex
  have b0 := F0.binds (ps := ["house", "things"]) fun _ _ _ _ _ _ us hl => match us, hl with | [_, _], _ => rfl
  refine ⟨⟨f, fd, F0.ok (k := 6) sc_raise_objection (fun vs H Q E h => ?len) (fun cdv A outer s H vs Q E hr h => ⟨t_raise_objection K c, ?term, ?pu⟩), mf, F0.kp, b0⟩⟩
  case len => obtain ⟨a, b, rfl, h⟩ := sp2_of h; rfl
  case term => have hu := hu_of hr; exact (pss_cons (ps_set (i := 2) sc_raise_objection.nd rfl (Or.inl rfl) (pe_dget1 hu (pe_fld (pv 0) rfl) (pe_ix ix_list (pv 1) pe_int (fun _ _ => rfl)) ⟨rfl, rfl, rfl, rfl⟩)) (pss_cons (ps_if (pt_cmp (pc_isN (pv 2))) (pss_one (ps_ret pe_str)) pss_nil) (pss_cons (ps_if (pt_val (pe_fld (pv 2) rfl)) (pss_one (ps_ret pe_str)) pss_nil) (pss_cons (ps_fld (pv 2) pe_bl rfl) (pss_cons (ps_expr (pe_call G_all_goes (hr.mono (by decide)) rfl m_all_goes k_all_goes b_all_goes .nil pass0 (pa_cons (pv 0) pa_nil))) (pss_one (ps_ret pe_str)))))))
  case pu => obtain ⟨a, b, rfl, h⟩ := sp2_of h; exact pure a b H Q h
abbrev s_end_matter : Stmt := topS 40
theorem sc_end_matter : FnScope ["house", "things", "person"] ["house", "things"] (defScope s_end_matter) := ⟨rfl, rfl, rfl, by decide +kernel, rfl, by decide +kernel, by decide +kernel⟩
abbrev sp_end_matter (K : PySem.W.Frag) (c : Cs) : Sp := (sp2 (pr_end_matter c))
def t_end_matter (K : PySem.W.Frag) (c : Cs) : TS := (tSeq (tAsg (tDGet1 (tFld K (tVar 0) "people") (tOp (rIxL K) (tVar 1) (tC (.int 0)))) (gName 2)) (tSeq (tIfS (tB (tIsN (tVar 2))) (tRet (tC (.str "no person"))) tNext) (tSeq (tIfS (tB (tNotN (tFld K (tVar 2) "ended"))) (tRet (tC (.str "no change"))) tNext) (tSeq (sFld K (tVar 2) (tFld K (tVar 0) "today") "ended") (tSeq (tDrop (tCall (sp_all_goes K c) [] E0 (tCons (tVar 0) tNil))) (tRet (tC (.str "ok"))))))))
theorem ok_end_matter {P : Program} {w : World} {K : PySem.W.Frag} {mg : Str → Option Value} {base : Heap} {c : Cs} (T : TopTxt K w mg c) (F : FunAt K mg "end_matter" s_end_matter) (D_all_goes : Def P w K mg base "all_goes" 6 ["house"] (sp_all_goes K c)) (pure : ∀ a b H Q, pr_end_matter c a b H Q → t_end_matter K c { nx := fun _ H' => Q .non H', rt := Q } (start ["house", "things", "person"] [a, b]) H) : Def P w K mg base "end_matter" 7 ["house", "things"] (sp_end_matter K c) := by
  obtain ⟨f, fd, F0, mf⟩ := F.ex
  obtain ⟨f_all_goes, fd_all_goes, G_all_goes, m_all_goes, k_all_goes, b_all_goes⟩ := D_all_goes.ex
  have b0 := F0.binds (ps := ["house", "things"]) fun _ _ _ _ _ _ us hl => match us, hl with | [_, _], _ => rfl
  refine ⟨⟨f, fd, F0.ok (k := 6) sc_end_matter (fun vs H Q E h => ?len) (fun cdv A outer s H vs Q E hr h => ⟨t_end_matter K c, ?term, ?pu⟩), mf, F0.kp, b0⟩⟩
  case len => obtain ⟨a, b, rfl, h⟩ := sp2_of h; rfl
  case term => have hu := hu_of hr; exact (pss_cons (ps_set (i := 2) sc_end_matter.nd rfl (Or.inl rfl) (pe_dget1 hu (pe_fld (pv 0) rfl) (pe_ix ix_list (pv 1) pe_int (fun _ _ => rfl)) ⟨rfl, rfl, rfl, rfl⟩)) (pss_cons (ps_if (pt_cmp (pc_isN (pv 2))) (pss_one (ps_ret pe_str)) pss_nil) (pss_cons (ps_if (pt_cmp (pc_notN (pe_fld (pv 2) rfl))) (pss_one (ps_ret pe_str)) pss_nil) (pss_cons (ps_fld (pv 2) (pe_fld (pv 0) rfl) rfl) (pss_cons (ps_expr (pe_call G_all_goes (hr.mono (by decide)) rfl m_all_goes k_all_goes b_all_goes .nil pass0 (pa_cons (pv 0) pa_nil))) (pss_one (ps_ret pe_str)))))))
  case pu => obtain ⟨a, b, rfl, h⟩ := sp2_of h; exact pure a b H Q h
abbrev s_forget_person : Stmt := topS 41
theorem sc_forget_person : FnScope ["house", "things", "person"] ["house", "things"] (defScope s_forget_person) := ⟨rfl, rfl, rfl, by decide +kernel, rfl, by decide +kernel, by decide +kernel⟩
abbrev sp_forget_person (K : PySem.W.Frag) (c : Cs) : Sp := (sp2 (pr_forget_person c))
def t_forget_person (K : PySem.W.Frag) (c : Cs) : TS := (tSeq (tAsg (tDGet1 (tFld K (tVar 0) "people") (tOp (rIxL K) (tVar 1) (tC (.int 0)))) (gName 2)) (tSeq (tIfS (tB (tIsN (tVar 2))) (tRet (tC (.str "no person"))) tNext) (tSeq (sFld K (tVar 2) tDNewK "consents") (tSeq (sFld K (tVar 2) (tC (.bl true)) "objects") (tSeq (tDrop (tCall (sp_all_goes K c) [] E0 (tCons (tVar 0) tNil))) (tRet (tC (.str "ok"))))))))
theorem ok_forget_person {P : Program} {w : World} {K : PySem.W.Frag} {mg : Str → Option Value} {base : Heap} {c : Cs} (T : TopTxt K w mg c) (F : FunAt K mg "forget_person" s_forget_person) (D_all_goes : Def P w K mg base "all_goes" 6 ["house"] (sp_all_goes K c)) (pure : ∀ a b H Q, pr_forget_person c a b H Q → t_forget_person K c { nx := fun _ H' => Q .non H', rt := Q } (start ["house", "things", "person"] [a, b]) H) : Def P w K mg base "forget_person" 7 ["house", "things"] (sp_forget_person K c) := by
  obtain ⟨f, fd, F0, mf⟩ := F.ex
  obtain ⟨f_all_goes, fd_all_goes, G_all_goes, m_all_goes, k_all_goes, b_all_goes⟩ := D_all_goes.ex
  have b0 := F0.binds (ps := ["house", "things"]) fun _ _ _ _ _ _ us hl => match us, hl with | [_, _], _ => rfl
  refine ⟨⟨f, fd, F0.ok (k := 6) sc_forget_person (fun vs H Q E h => ?len) (fun cdv A outer s H vs Q E hr h => ⟨t_forget_person K c, ?term, ?pu⟩), mf, F0.kp, b0⟩⟩
  case len => obtain ⟨a, b, rfl, h⟩ := sp2_of h; rfl
  case term => have hu := hu_of hr; exact (pss_cons (ps_set (i := 2) sc_forget_person.nd rfl (Or.inl rfl) (pe_dget1 hu (pe_fld (pv 0) rfl) (pe_ix ix_list (pv 1) pe_int (fun _ _ => rfl)) ⟨rfl, rfl, rfl, rfl⟩)) (pss_cons (ps_if (pt_cmp (pc_isN (pv 2))) (pss_one (ps_ret pe_str)) pss_nil) (pss_cons (ps_fld (pv 2) pe_dnewK rfl) (pss_cons (ps_fld (pv 2) pe_bl rfl) (pss_cons (ps_expr (pe_call G_all_goes (hr.mono (by decide)) rfl m_all_goes k_all_goes b_all_goes .nil pass0 (pa_cons (pv 0) pa_nil))) (pss_one (ps_ret pe_str)))))))
  case pu => obtain ⟨a, b, rfl, h⟩ := sp2_of h; exact pure a b H Q h
end Kr

set_option Elab.async false
set_option linter.all false
set_option maxRecDepth 100000
set_option maxHeartbeats 2000000
namespace Kr
open PySem PySem.Spec PyProof.Rows L2
section
variable {K : PySem.W.Frag} {w : World} {mg : Str → Option Value} {c : Cs}
abbrev D0 (Q : VK) : Ends := { nx := fun _ H' => Q .non H', rt := Q }
theorem optV_add (e d : Nat) : (V.int ((e : Int) + (d : Int))) = optV (some (e + d)) := by
  show V.int _ = V.int _
  rw [Int.natCast_add]
theorem pure_days_end (T : TopTxt K w mg c) : ∀ a b H Q, pr_days_end c a b H Q → t_days_end K c (D0 Q) (start ["ground", "record"] [a, b]) H := by
  rintro _ _ H Q ⟨F, s, L, n, i, g, r, p, rfl, rfl, R, eg, er, ep, q⟩
  have og := R.ground eg (by simp)
  have ob := R.record er (by simp)
  have op := R.person ep (by simp)
  refine ⟨_, rfl, fq (fd_Ground_event T og) ⟨rfl, _, rfl, ?_⟩⟩
  unfold daysEnd at q
  cases hev : g.event with
  | made =>
    rw [hev] at q
    refine if_true_of (by decide +kernel) ?_
    refine ⟨_, rfl, fq (fd_Record_made T ob) ⟨_, rfl, fq (fd_Ground_span T og) ⟨_, _, rfl, rfl, ?_⟩⟩⟩
    show Q (V.int ((r.made : Int) + (g.days : Int))) H
    rw [optV_add]
    exact q
  | used =>
    rw [hev] at q
    refine if_false_of (by decide +kernel) ?_
    refine ⟨_, rfl, fq (fd_Ground_event T og) ⟨rfl, _, rfl, ?_⟩⟩
    rw [hev]
    refine if_true_of (by decide +kernel) ?_
    refine ⟨_, rfl, fq (fd_Record_used T ob) ⟨_, rfl, fq (fd_Ground_span T og) ⟨_, _, rfl, rfl, ?_⟩⟩⟩
    show Q (V.int ((r.used : Int) + (g.days : Int))) H
    rw [optV_add]
    exact q
  | ended =>
    rw [hev] at q
    refine if_false_of (by decide +kernel) ?_
    refine ⟨_, rfl, fq (fd_Ground_event T og) ⟨rfl, _, rfl, ?_⟩⟩
    rw [hev]
    refine if_false_of (by decide +kernel) ?_
    refine ⟨_, rfl, fq (fd_Record_person T ob) (fq (fd_Person_ended T op) ⟨_, rfl, ?_⟩)⟩
    cases he : p.ended with
    | none =>
      refine if_true_of (by simp [optV]) ?_
      have q' : Q (optV ((p.ended).map (· + g.days))) H := q
      rw [he] at q'
      exact q'
    | some e =>
      refine if_false_of (by simp [optV]) ?_
      refine ⟨_, rfl, fq (fd_Record_person T ob) (fq (fd_Person_ended T op) ⟨_, rfl, fq (fd_Ground_span T og) ?_⟩)⟩
      rw [he]
      refine ⟨_, _, rfl, rfl, ?_⟩
      have q' : Q (optV ((p.ended).map (· + g.days))) H := q
      rw [he] at q'
      show Q (V.int ((e : Int) + (g.days : Int))) H
      rw [optV_add]
      exact q'
theorem optV_none (o : Option Nat) : decide (optV o = V.non) = o.isNone := by cases o <;> simp [optV]
theorem pure_is_there (T : TopTxt K w mg c) : ∀ a H Q, pr_is_there c a H Q → t_is_there K c (D0 Q) (start ["record"] [a]) H := by
  rintro _ H Q ⟨F, s, L, i, r, rfl, R, er, q⟩
  refine ⟨_, rfl, fq (fd_Record_gone_on T (R.record er (by simp))) ?_⟩
  show Q (V.bl (decide (optV r.letGo = V.non))) H
  rw [optV_none]
  exact q
theorem pure_sources_there (T : TopTxt K w mg c) : ∀ a H Q, pr_sources_there c a H Q → t_sources_there K c (D0 Q) (start ["record", "source"] [a]) H := by
  rintro _ H Q ⟨F, s, L, i, r, rfl, R, b, er, q⟩
  have hs := R.sources er (by simp)
  refine ⟨_, rfl, fq (fd_Record_sources T (R.record er (by simp))) ⟨_, rfl, ⟨_, SqL.of hs⟩, for_list (K := K) (xs := r.of_.map fun k => V.ref (L (.record k))) (fun j σ H' => H' = H ∧ (∃ v, σ = [some (.ref (L (.record i))), v]) ∧ (r.of_.take j).all (there s) = true) ⟨rfl, ⟨none, rfl⟩, rfl⟩ (fun j σ H' _ h => by rw [h.1]; exact SqL.of hs) ?_ ?_⟩⟩
  · rintro j x σ H' hx ⟨rfl, ⟨v, rfl⟩, ha⟩
    obtain ⟨k, hk, rfl⟩ := map_at hx
    have hm : k ∈ r.of_ := List.mem_of_getElem? hk
    have hlt : k < s.records.length := Nat.lt_of_lt_of_le (b i r er k hm) (Nat.le_of_lt (List.getElem?_eq_some_iff.mp er).1)
    have ek : s.records[k]? = some s.records[k] := List.getElem?_eq_getElem hlt
    refine ⟨_, rfl, F, s, L, k, _, rfl, R, ek, _, rfl, ?_⟩
    have et : there s k = (s.records[k]).letGo.isNone := by unfold there; rw [ek]
    rw [← et]
    cases ht : there s k with
    | true =>
      refine if_false_of rfl ?_
      refine ⟨rfl, ⟨_, rfl⟩, ?_⟩
      rw [List.take_succ, hk, List.all_append, ha]
      simp [ht]
    | false =>
      refine if_true_of rfl ?_
      have e : Kp01.whole s r = false := by
        rw [whole_eq]
        cases hw : r.of_.all (there s) with
        | false => rfl
        | true => rw [List.all_eq_true.mp hw k hm] at ht; cases ht
      rw [e] at q
      exact q
  · rintro σ H' ⟨rfl, ⟨v, rfl⟩, ha⟩
    rw [List.length_map, List.take_length] at ha
    rw [whole_eq, ha] at q
    exact q
theorem str_ne_of {a b : Str} (h : a ≠ b) : V.str a ≠ V.str b := fun e => h (V.str.inj e)
theorem dec_txt (a b : Bytes) : decide (V.str (txt a) = V.str (txt b)) = (a == b) := by
  by_cases e : a = b
  · subst e; simp
  · rw [decide_eq_false (str_ne_of fun z => e (txt_inj z)), beq_eq_false_iff_ne.mpr e]
theorem consent_get (p : Kp01.Person) (w : Bytes) : (valV (byName id (fun _ => V.bl true) p.consents) (.inr (txt w))).isSome = p.consents.contains w := by
  rw [byName_val]
  cases h : p.consents.find? fun a => id a == w with
  | none =>
    rw [List.find?_eq_none] at h
    symm
    show p.consents.contains w = false
    rw [List.contains_eq_any_beq, List.any_eq_false]
    intro x hx z
    exact h x hx (by simpa using (eq_of_beq z).symm)
  | some a =>
    symm
    have h1 := List.find?_some h
    have h2 := List.mem_of_find?_eq_some h
    have e : a = w := by simpa using h1
    subst e
    simpa using h2
theorem pure_stands_for (T : TopTxt K w mg c) : ∀ a b H Q, pr_stands_for c a b H Q → t_stands_for K c (D0 Q) (start ["ground", "record"] [a, b]) H := by
  rintro _ _ H Q ⟨F, s, L, n, i, g, r, p, rfl, rfl, R, bl, eg, er, ep, q⟩
  have og := R.ground eg (by simp)
  have ob := R.record er (by simp)
  have op := R.person ep (by simp)
  unfold stands at q
  refine ⟨_, rfl, fq (fd_Ground_kind T og) ⟨_, rfl, fq (fd_Record_kind T ob) ⟨rfl, _, rfl, ?_⟩⟩⟩
  rw [dec_txt]
  cases hk : g.kind == r.kind with
  | false =>
    rw [hk] at q
    exact if_true_of rfl q
  | true =>
    rw [hk] at q
    refine if_false_of rfl ?_
    refine ⟨_, rfl, fq (fd_Ground_basis T og) ⟨rfl, _, rfl, ?_⟩⟩
    have src : ∀ Q', Q' (V.bl (Kp01.whole s r)) H → pr_sources_there c (.ref (L (.record i))) H Q' := fun Q' h => ⟨F, s, L, i, r, rfl, R, bl, er, h⟩
    cases hs : g.sort with
    | law =>
      rw [hs] at q
      exact if_true_of (by decide +kernel) q
    | consent v =>
      rw [hs] at q
      replace q : Q (V.bl (p.consents.contains v && Kp01.whole s r)) H := q
      refine if_false_of (show decide (V.str ("for" : Str) = V.str ("law" : Str)) = false by decide +kernel) ?_
      refine ⟨_, rfl, fq (fd_Ground_basis T og) ⟨rfl, _, rfl, ?_⟩⟩
      rw [hs]
      refine if_true_of (show decide (V.str ("for" : Str) = V.str ("for" : Str)) = true by decide +kernel) ?_
      have dg : DGet H (L (.consents r.person)) (purposeV g.sort) (valV (byName id (fun _ => V.bl true) p.consents) (.inr (txt v))) := by
        rw [hs]
        exact DGet.k (k := .inr (txt v)) (R.consents ep (by simp))
      refine ⟨_, rfl, fq (fd_Ground_purpose T og) ⟨_, rfl, fq (fd_Record_person T ob) (fq (fd_Person_consents T op) ⟨_, _, rfl, dg, _, rfl, ?_⟩)⟩⟩
      rw [consent_get]
      cases hc : p.consents.contains v with
      | false =>
        rw [hc] at q
        exact if_true_of rfl q
      | true =>
        rw [hc] at q
        refine if_false_of rfl ?_
        refine ⟨_, rfl, fq (fd_Ground_basis T og) ⟨rfl, _, rfl, ?_⟩⟩
        rw [hs]
        refine if_false_of (show decide (V.str ("for" : Str) = V.str ("need" : Str)) = false by decide +kernel) ?_
        refine if_false_of rfl ?_
        exact ⟨_, rfl, src _ q⟩
    | need =>
      rw [hs] at q
      replace q : Q (V.bl (!p.objects && Kp01.whole s r)) H := q
      refine if_false_of (by decide +kernel) ?_
      refine ⟨_, rfl, fq (fd_Ground_basis T og) ⟨rfl, _, rfl, ?_⟩⟩
      rw [hs]
      refine if_false_of (by decide +kernel) ?_
      refine if_false_of rfl ?_
      refine ⟨_, rfl, fq (fd_Ground_basis T og) ⟨rfl, _, rfl, ?_⟩⟩
      rw [hs]
      refine if_true_of (by decide +kernel) ?_
      refine ⟨_, rfl, fq (fd_Record_person T ob) (fq (fd_Person_objects T op) ⟨_, rfl, ?_⟩)⟩
      cases ho : p.objects with
      | true =>
        rw [ho] at q
        exact if_true_of rfl q
      | false =>
        rw [ho] at q
        refine if_false_of rfl ?_
        exact ⟨_, rfl, src _ q⟩
theorem pure_gives (T : TopTxt K w mg c) : ∀ a b d H Q, pr_gives c a b d H Q → t_gives K c (D0 Q) (start ["house", "ground", "record", "end"] [a, b, d]) H := by
  rintro _ _ _ H Q ⟨F, s, L, n, i, g, r, p, rfl, rfl, rfl, R, bl, eg, er, ep, q⟩
  rw [gives_eq] at q
  refine ⟨_, rfl, _, rfl, F, s, L, n, i, g, r, p, rfl, rfl, R, bl, eg, er, ep, _, rfl, ?_⟩
  cases hs : stands s p r g with
  | false =>
    rw [hs] at q
    exact if_true_of rfl q
  | true =>
    rw [hs] at q
    refine if_false_of rfl ?_
    refine ⟨_, rfl, _, rfl, F, s, L, n, i, g, r, p, rfl, rfl, R, eg, er, ep, ?_⟩
    refine ⟨_, rfl, _, rfl, ?_⟩
    cases hd : daysEnd p r g with
    | none =>
      rw [hd] at q
      exact if_true_of (by simp [optV]) q
    | some e =>
      rw [hd] at q
      refine if_false_of (by simp [optV]) ?_
      refine ⟨_, rfl, fq (fd_House_today T (R.house (by simp))) ⟨_, rfl, _, _, rfl, rfl, ?_⟩⟩
      have e1 : decide ((s.day : Int) < (e : Int)) = decide (s.day < e) := by
        apply decide_eq_decide.mpr; omega
      show Q (V.bl (decide ((s.day : Int) < (e : Int)))) H
      rw [e1]
      exact q
theorem holdOn_eq (h : Kp01.Hold) (r : Kp01.Record) (hk : h.kind ≠ some (Kp01.ascii "any")) : holdOn h r = (h.person == r.person && inV (.str (txt (h.kind.getD (Kp01.ascii "any")))) [.str "any", .str (txt r.kind)]) := by
  unfold holdOn
  congr 1
  have hin : ∀ x a b : Str, inV (.str x) [.str a, .str b] = (decide (a = x) || decide (b = x)) := fun x a b => by
    have h1 : ∀ a x : Str, (a == x) = decide (a = x) := fun a x => by
      by_cases e : a = x
      · subst e; simp
      · rw [decide_eq_false e]; exact beq_eq_false_iff_ne.mpr e
    simp [inV, eqV, h1]
  rw [hin]
  cases e : h.kind with
  | none =>
    have e2 : (Str.ofString "any") = txt (Kp01.ascii "any") := (txt_ascii "any").symm
    show true = (decide (Str.ofString "any" = txt (Kp01.ascii "any")) || _)
    rw [e2]
    simp
  | some k =>
    have ne : k ≠ Kp01.ascii "any" := fun z => hk (by rw [e, z])
    show (k == r.kind) = (decide (Str.ofString "any" = txt k) || decide (txt r.kind = txt k))
    rw [← txt_ascii "any", decide_eq_false (fun z => ne (txt_inj z).symm), Bool.false_or]
    by_cases z : k = r.kind
    · subst z; simp
    · rw [beq_eq_false_iff_ne.mpr z, decide_eq_false (fun y => z (txt_inj y).symm)]
end
end Kr

set_option Elab.async false
set_option linter.all false
set_option maxRecDepth 100000
set_option maxHeartbeats 2000000
namespace Kr
open PySem PySem.Spec PyProof.Rows L2
section
variable {K : PySem.W.Frag} {w : World} {mg : Str → Option Value} {c : Cs}
theorem same_new {H : Hp} {p : Addr} {o : HO} (hp : H p = none) : Same H (upd H p o) := fun b u h => by rw [upd_ne (ne_of_none h hp)]; exact h
theorem pure_is_hold_of (T : TopTxt K w mg c) : ∀ a b H Q, pr_is_hold_of c a b H Q → t_is_hold_of K c (D0 Q) (start ["hold", "record"] [a, b]) H := by
  rintro _ _ H Q ⟨F, s, L, n, i, h, r, rfl, rfl, R, eh, er, ph, pr, hk, q⟩
  obtain ⟨p1, e1⟩ := Option.isSome_iff_exists.mp ph
  obtain ⟨p2, e2⟩ := Option.isSome_iff_exists.mp pr
  have n1 : p1.name = h.person := by simpa using List.find?_some e1
  have n2 : p2.name = r.person := by simpa using List.find?_some e2
  have oh := R.hold eh (by simp)
  have ob := R.record er (by simp)
  have o1 := R.person e1 (by simp)
  have o2 := R.person e2 (by simp)
  refine ⟨_, rfl, fq (fd_Hold_person T oh) (fq (fd_Person_name T o1) ⟨_, rfl, fq (fd_Record_person T ob) (fq (fd_Person_name T o2) ⟨rfl, _, rfl, ?_⟩)⟩)⟩
  rw [dec_txt, n1, n2]
  have q' := holdOn_eq h r hk
  cases hp : h.person == r.person with
  | false =>
    rw [hp] at q'
    rw [q'] at q
    exact if_false_of rfl (q H (Same.refl H))
  | true =>
    rw [hp] at q'
    rw [q'] at q
    refine if_true_of rfl ?_
    refine ⟨_, rfl, fq (fd_Hold_kind T oh) ⟨_, rfl, fq (fd_Record_kind T ob) ⟨by show 2 ≤ sizeLine; decide, fun p hp => ⟨p, _, rfl, .inr (.inl (.inl upd_same)), rfl, rfl, ?_⟩⟩⟩⟩
    exact q _ (same_new hp)
theorem filter_take {α : Type} {f : α → Bool} {l : List α} (h : (l.take l.length).all (fun x => !f x) = true) : (!(l.filter f).isEmpty) = false := by
  rw [List.take_length, List.all_eq_true] at h
  have e : l.filter f = [] := List.filter_eq_nil_iff.mpr fun x hx => by simpa using h x hx
  rw [e]; rfl
theorem filter_hit {α : Type} {f : α → Bool} {l : List α} {i : Nat} {x : α} (h : l[i]? = some x) (hf : f x = true) : (!(l.filter f).isEmpty) = true := by
  have m : x ∈ l.filter f := List.mem_filter.mpr ⟨List.mem_of_getElem? h, hf⟩
  cases e : l.filter f with
  | nil => rw [e] at m; cases m
  | cons _ _ => rfl
theorem take_all {α : Type} {f : α → Bool} {l : List α} {i : Nat} {x : α} (h : l[i]? = some x) (ha : (l.take i).all f = true) (hx : f x = true) : (l.take (i + 1)).all f = true := by
  rw [List.take_succ, h, List.all_append, ha]
  simp [hx]
theorem pure_is_held (T : TopTxt K w mg c) : ∀ a b H Q, pr_is_held c a b H Q → t_is_held K c (D0 Q) (start ["house", "record", "hold"] [a, b]) H := by
  rintro _ _ H Q ⟨F, s, L, i, r, rfl, rfl, R, o, er, q⟩
  have hd := R.holds (by simp)
  refine ⟨L .holds, _, hd, trivial, fun od => ?_⟩
  have R1 := R.lock (o := .frz od (.dK (byName (·.name) (fun n => .ref (L (.hold n))) s.holds))) .holds rfl
  refine ⟨_, rfl, fq (fd_House_holds T (R1.house (by simp))) ⟨_, _, _, rfl, upd_same, ?_⟩⟩
  refine for_it walk_values (fun j σ H' => Same (upd H (L .holds) (.frz od (.dK (byName (·.name) (fun n => .ref (L (.hold n))) s.holds)))) H' ∧ (∃ v, σ = [some (.ref (L .house)), some (.ref (L (.record i))), v]) ∧ (s.holds.take j).all (fun h => !holdOn h r) = true)
    ⟨Same.refl _, ⟨none, rfl⟩, rfl⟩ (fun j σ H' _ h => h.1 _ _ upd_same) ?_ ?_
  · rintro j x σ H' H'' hj ⟨e, ⟨v, rfl⟩, ha⟩ ⟨rfl, k, hx⟩
    obtain ⟨h, hh, rfl⟩ := byName_at hx
    have hm : h ∈ s.holds := List.mem_of_getElem? hh
    have eh : holdOf s h.name = some h := find_mem (nm := fun (x : Kp01.Hold) => x.name) o.nholds hm
    refine ⟨_, rfl, _, rfl, F, s, L, h.name, i, h, r, rfl, rfl, (R1.same e).sub (by simp), eh, er, o.hperson h hm, o.owned i r er, o.hkind h hm, fun H2 e2 => ⟨_, rfl, ?_⟩⟩
    cases hb : holdOn h r with
    | true =>
      refine if_true_of rfl ⟨(e.trans e2) _ _ upd_same, ?_⟩
      have z := q (upd H2 (L .holds) (.dK (byName (·.name) (fun n => .ref (L (.hold n))) s.holds))) (unlock_same hd (e.trans e2))
      have y : (!(Kp01.heldBy s r).isEmpty) = true := filter_hit (f := fun h => holdOn h r) hh hb
      rw [y] at z
      exact z
    | false =>
      refine if_false_of rfl ⟨e.trans e2, ⟨_, rfl⟩, ?_⟩
      exact take_all hh ha (by rw [hb]; rfl)
  · rintro σ H' ⟨e, ⟨v, rfl⟩, ha⟩
    refine ⟨e _ _ upd_same, ?_⟩
    have z := q (upd H' (L .holds) (.dK (byName (·.name) (fun n => .ref (L (.hold n))) s.holds))) (unlock_same hd e)
    rw [byName_len] at ha
    have y : (!(Kp01.heldBy s r).isEmpty) = false := filter_take (f := fun h => holdOn h r) ha
    rw [y] at z
    exact z
theorem pure_may_be_kept (T : TopTxt K w mg c) : ∀ a b H Q, pr_may_be_kept c a b H Q → t_may_be_kept K c (D0 Q) (start ["house", "record", "ground"] [a, b]) H := by
  rintro _ _ H Q ⟨F, s, L, i, r, rfl, rfl, R, o, er, q⟩
  have hd := R.grounds (by simp)
  obtain ⟨p, ep⟩ := Option.isSome_iff_exists.mp (o.owned i r er)
  have eg : Kp01.given s r s.day = s.grounds.filter (Kp01.gives s p r s.day) := by unfold Kp01.given; rw [ep]
  unfold Kp01.keeps at q
  rw [eg] at q
  refine ⟨L .grounds, _, hd, trivial, fun od => ?_⟩
  have R1 := R.lock (o := .frz od (.dK (byName (·.name) (fun n => .ref (L (.ground n))) s.grounds))) .grounds rfl
  refine ⟨_, rfl, fq (fd_House_grounds T (R1.house (by simp))) ⟨_, _, _, rfl, upd_same, ?_⟩⟩
  refine for_it walk_values (fun j σ H' => Same (upd H (L .grounds) (.frz od (.dK (byName (·.name) (fun n => .ref (L (.ground n))) s.grounds)))) H' ∧ (∃ v, σ = [some (.ref (L .house)), some (.ref (L (.record i))), v]) ∧ (s.grounds.take j).all (fun g => !Kp01.gives s p r s.day g) = true)
    ⟨Same.refl _, ⟨none, rfl⟩, rfl⟩ (fun j σ H' _ h => h.1 _ _ upd_same) ?_ ?_
  · rintro j x σ H' H'' hj ⟨e, ⟨v, rfl⟩, ha⟩ ⟨rfl, k, hx⟩
    obtain ⟨g, hh, rfl⟩ := byName_at hx
    have hm : g ∈ s.grounds := List.mem_of_getElem? hh
    have eh : groundOf s g.name = some g := find_mem (nm := fun (x : Kp01.Ground) => x.name) o.ngrounds hm
    refine ⟨_, rfl, _, rfl, _, rfl, F, s, L, g.name, i, g, r, p, rfl, rfl, rfl, (R1.same e).sub (by simp), o.below, eh, er, ep, _, rfl, ?_⟩
    cases hb : Kp01.gives s p r s.day g with
    | true =>
      refine if_true_of rfl ⟨e _ _ upd_same, ?_⟩
      have z := q (upd H'' (L .grounds) (.dK (byName (·.name) (fun n => .ref (L (.ground n))) s.grounds))) (unlock_same hd e)
      rw [filter_hit (f := Kp01.gives s p r s.day) hh hb] at z
      exact z
    | false =>
      refine if_false_of rfl ⟨e, ⟨_, rfl⟩, ?_⟩
      exact take_all hh ha (by rw [hb]; rfl)
  · rintro σ H' ⟨e, ⟨v, rfl⟩, ha⟩
    refine ⟨e _ _ upd_same, ?_⟩
    have e2 := unlock_same hd e
    rw [byName_len] at ha
    rw [filter_take (f := Kp01.gives s p r s.day) ha] at q
    exact ⟨_, rfl, _, rfl, F, s, L, i, r, rfl, rfl, R.same e2, o, er, fun H2 e3 => q H2 (e2.trans e3)⟩
theorem pure_set_copy (T : TopTxt K w mg c) : ∀ a b d H Q, pr_set_copy c a b d H Q → t_set_copy K c (D0 Q) (start ["kept", "state", "day"] [a, b, d]) H := by
  rintro _ st d H Q ⟨a, dx, v0, v1, v2, rfl, e, q⟩
  refine ⟨_, rfl, _, rfl, st_Copy_state T ⟨dx, e⟩ rfl fun dx' e' => ?_⟩
  rw [e] at e'
  cases e'
  refine ⟨_, rfl, _, rfl, st_Copy_day T ⟨dx, upd_same⟩ rfl fun dx' e' => ?_⟩
  rw [upd_same] at e'
  cases e'
  rw [upd_upd]
  exact q
end
end Kr

set_option Elab.async false
set_option linter.all false
set_option maxRecDepth 100000
set_option maxHeartbeats 2000000
namespace Kr
open PySem PySem.Spec PyProof.Rows L2
/-! ### one record of a house changed -/
section
variable {c : Cs} {X : List Tag} {F : Hp} {s : Kp01.House} {L : Tag → Addr} {H : Hp} {i : Nat} {r r1 r2 : Kp01.Record}
theorem withRec_self (h : s.records[i]? = some r) : withRec s i r = s := by
  unfold withRec
  have e : s.records.set i r = s.records := by
    apply List.ext_getElem?
    intro j
    rw [List.getElem?_set]
    by_cases z : i = j
    · subst z; rw [if_pos rfl, if_pos (List.getElem?_eq_some_iff.mp h).1, h]
    · rw [if_neg z]
  rw [e]
theorem withRec_twice : withRec (withRec s i r1) i r2 = withRec s i r2 := by
  unfold withRec
  simp only [List.set_set]
theorem withRec_at (hi : i < s.records.length) : (withRec s i r).records[i]? = some r := by
  show (s.records.set i r)[i]? = _
  rw [List.getElem?_set, if_pos rfl, if_pos hi]
theorem withRec_ne {j : Nat} (hj : j ≠ i) : (withRec s i r).records[j]? = s.records[j]? := by
  show (s.records.set i r)[j]? = _
  rw [List.getElem?_set, if_neg (fun z => hj z.symm)]
theorem withRec_len : (withRec s i r).records.length = s.records.length := List.length_set
theorem copies_map (L : Tag → Addr) (i : Nat) (l : List Kp01.Copy) : (l.map fun k => V.ref (L (.copy i k.store))) = (l.map (·.store)).map fun n => V.ref (L (.copy i n)) := by
  rw [List.map_map]; rfl
/-- which things may differ when one record is another -/
theorem cell_with (hi : i < s.records.length) (u : Tag) (h1 : u = .record i → recordVals L i r2 = recordVals L i r1) (h2 : u = .sources i → r2.of_ = r1.of_) (h3 : u = .copies i → r2.copies.map (·.store) = r1.copies.map (·.store))
    (h4 : ∀ n, u = .copy i n → copyOf r2 n = copyOf r1 n) : cell c L (withRec s i r2) u = cell c L (withRec s i r1) u := by
  cases u with
  | records =>
    show some (Cell.raw (.lst ((List.range (withRec s i r2).records.length).map _))) = some (Cell.raw (.lst ((List.range (withRec s i r1).records.length).map _)))
    rw [withRec_len, withRec_len]
  | record j =>
    show ((withRec s i r2).records[j]?).map _ = ((withRec s i r1).records[j]?).map _
    by_cases e : j = i
    · subst e
      rw [withRec_at hi, withRec_at hi]
      show some (Cell.ins _ _ (recordVals L j r2)) = some (Cell.ins _ _ (recordVals L j r1))
      rw [h1 rfl]
    · rw [withRec_ne e, withRec_ne e]
  | sources j =>
    show ((withRec s i r2).records[j]?).map _ = ((withRec s i r1).records[j]?).map _
    by_cases e : j = i
    · subst e
      rw [withRec_at hi, withRec_at hi]
      show some (Cell.raw (.lst (r2.of_.map _))) = some (Cell.raw (.lst (r1.of_.map _)))
      rw [h2 rfl]
    · rw [withRec_ne e, withRec_ne e]
  | copies j =>
    show ((withRec s i r2).records[j]?).map _ = ((withRec s i r1).records[j]?).map _
    by_cases e : j = i
    · subst e
      rw [withRec_at hi, withRec_at hi]
      show some (Cell.raw (.lst (r2.copies.map fun k => V.ref (L (.copy j k.store))))) = some (Cell.raw (.lst (r1.copies.map fun k => V.ref (L (.copy j k.store)))))
      rw [copies_map, copies_map, h3 rfl]
    · rw [withRec_ne e, withRec_ne e]
  | copy j n =>
    show ((withRec s i r2).records[j]?).bind _ = ((withRec s i r1).records[j]?).bind _
    by_cases e : j = i
    · subst e
      rw [withRec_at hi, withRec_at hi]
      show (copyOf r2 n).map _ = (copyOf r1 n).map _
      rw [h4 n rfl]
    · rw [withRec_ne e, withRec_ne e]
  | house => rfl
  | people => rfl
  | grounds => rfl
  | stores => rfl
  | holds => rfl
  | person n => rfl
  | consents n => rfl
  | ground n => rfl
  | store n => rfl
  | hold n => rfl
/-- the first j copies by f -/
def part (f : Kp01.Copy → Kp01.Copy) (j : Nat) (r : Kp01.Record) : Kp01.Record := { r with copies := (r.copies.take j).map f ++ r.copies.drop j }
variable {f : Kp01.Copy → Kp01.Copy} {j : Nat} {k : Kp01.Copy}
theorem part_zero : part f 0 r = r := by
  unfold part
  simp
theorem part_all : part f r.copies.length r = { r with copies := r.copies.map f } := by
  unfold part
  simp
theorem part_now (h : r.copies[j]? = some k) : (part f j r).copies = (r.copies.take j).map f ++ k :: r.copies.drop (j + 1) := by
  show (r.copies.take j).map f ++ r.copies.drop j = _
  have hj := (List.getElem?_eq_some_iff.mp h).1
  rw [List.drop_eq_getElem_cons hj, (List.getElem?_eq_some_iff.mp h).2]
theorem part_next (h : r.copies[j]? = some k) : (part f (j + 1) r).copies = (r.copies.take j).map f ++ f k :: r.copies.drop (j + 1) := by
  show (r.copies.take (j + 1)).map f ++ r.copies.drop (j + 1) = _
  rw [List.take_succ, h]
  simp
theorem part_skip (h : r.copies[j]? = some k) (e : f k = k) : part f (j + 1) r = part f j r := by
  have e2 : (part f (j + 1) r).copies = (part f j r).copies := by rw [part_next h, part_now h, e]
  unfold part at e2 ⊢
  dsimp only at e2
  rw [e2]
theorem part_stores (hf : ∀ x, (f x).store = x.store) : (part f j r).copies.map (·.store) = r.copies.map (·.store) := by
  show ((r.copies.take j).map f ++ r.copies.drop j).map (·.store) = _
  rw [List.map_append, List.map_map]
  have e : (fun x : Kp01.Copy => x.store) ∘ f = fun x => x.store := by funext x; exact hf x
  rw [e, ← List.map_append, List.take_append_drop]
theorem part_first (hf : ∀ x, (f x).store = x.store) (nd : (r.copies.map (·.store)).Nodup) (h : r.copies[j]? = some k) : ((r.copies.take j).map f).find? (fun x => x.store == k.store) = none := by
  rw [List.find?_eq_none]
  intro x hx
  obtain ⟨y, hy, rfl⟩ := List.mem_map.mp hx
  rw [hf y]
  intro z
  have z : y.store = k.store := by simpa using z
  obtain ⟨a, ha, ea⟩ := List.mem_iff_getElem.mp hy
  rw [List.getElem_take] at ea
  rw [List.length_take] at ha
  have hj := (List.getElem?_eq_some_iff.mp h)
  obtain ⟨hj1, hj2⟩ := hj
  have h1 : (r.copies.map (·.store))[a]? = some k.store := by
    rw [List.getElem?_map, List.getElem?_eq_getElem (by omega), ea]
    show some y.store = _
    rw [z]
  have h2 : (r.copies.map (·.store))[j]? = some k.store := by
    rw [List.getElem?_map, h]; rfl
  have := nd_ix nd h1 h2
  omega
theorem part_copy_now (hf : ∀ x, (f x).store = x.store) (nd : (r.copies.map (·.store)).Nodup) (h : r.copies[j]? = some k) : copyOf (part f j r) k.store = some k := by
  unfold copyOf
  rw [part_now h, List.find?_append, part_first hf nd h, List.find?_cons_of_pos (by simp)]
  rfl
theorem part_copy_next (hf : ∀ x, (f x).store = x.store) (nd : (r.copies.map (·.store)).Nodup) (h : r.copies[j]? = some k) : copyOf (part f (j + 1) r) k.store = some (f k) := by
  unfold copyOf
  rw [part_next h, List.find?_append, part_first hf nd h, List.find?_cons_of_pos (by simp [hf])]
  rfl
theorem part_copy_other (hf : ∀ x, (f x).store = x.store) (h : r.copies[j]? = some k) {n : Bytes} (hn : n ≠ k.store) : copyOf (part f (j + 1) r) n = copyOf (part f j r) n := by
  unfold copyOf
  rw [part_next h, part_now h, List.find?_append, List.find?_append, List.find?_cons_of_neg (by simp [hf, hn.symm]), List.find?_cons_of_neg (by simp [hn.symm])]
/-- one copy more is as f says -/
theorem Rep.step (R : Rep c X F (withRec s i (part f j r)) L H) (hi : i < s.records.length) (hf : ∀ x, (f x).store = x.store) (nd : (r.copies.map (·.store)).Nodup) (h : r.copies[j]? = some k) {dx : Addr} :
    Rep c X F (withRec s i (part f (j + 1) r)) L (upd H (L (.copy i k.store)) (.ins c.Copy dx (fsOf nCopy (copyVals L (f k))))) := by
  refine R.set (.copy i k.store) (fun u hu => cell_with hi u (fun _ => rfl) (fun _ => rfl) (fun _ => by rw [part_stores hf, part_stores hf]) fun n e => ?_) ?_ (cl := .ins c.Copy nCopy (copyVals L (f k))) ?_ ⟨dx, upd_same⟩
  · refine part_copy_other hf h fun z => hu ?_
    rw [e, z]
  · show (((withRec s i (part f j r)).records[i]?).bind _).isSome = true
    rw [withRec_at hi]
    show ((copyOf (part f j r) k.store).map _).isSome = true
    rw [part_copy_now hf nd h]
    rfl
  · show ((withRec s i (part f (j + 1) r)).records[i]?).bind _ = _
    rw [withRec_at hi]
    show (copyOf (part f (j + 1) r) k.store).map _ = _
    rw [part_copy_next hf nd h]
    rfl
theorem Rep.copyNow (R : Rep c X F (withRec s i (part f j r)) L H) (hi : i < s.records.length) (hf : ∀ x, (f x).store = x.store) (nd : (r.copies.map (·.store)).Nodup) (h : r.copies[j]? = some k) (hX : Tag.copy i k.store ∉ X) :
    Ob H (L (.copy i k.store)) c.Copy nCopy (copyVals L k) := R.copy (withRec_at hi) (part_copy_now hf nd h) hX
theorem part_list (hf : ∀ x, (f x).store = x.store) : ((part f j r).copies.map fun k => V.ref (L (.copy i k.store))) = r.copies.map fun k => V.ref (L (.copy i k.store)) := by
  rw [copies_map, copies_map, part_stores hf]
/-- what is asked of another record in one's place, so that all still holds -/
theorem Ok.withRec (o : Ok s) (h : s.records[i]? = some r) {r' : Kp01.Record} (e1 : r'.person = r.person) (e2 : r'.of_ = r.of_) (e3 : r'.copies.map (·.store) = r.copies.map (·.store)) (e4 : r'.letGo = none → ∀ k ∈ r'.copies, k.st = .there)
    (e5 : ∀ k ∈ r'.copies, ∀ d, k.st = .asked d → ∃ m b, Kp01.storeOf s k.store = some (.other m b)) : Ok (withRec s i r') := by
  have hi := (List.getElem?_eq_some_iff.mp h).1
  have pick : ∀ (j : Nat) (q : Kp01.Record), (Kr.withRec s i r').records[j]? = some q → (j = i ∧ q = r') ∨ s.records[j]? = some q := fun j q e => by
    by_cases z : j = i
    · subst z; rw [withRec_at hi] at e; exact .inl ⟨rfl, (Option.some.inj e).symm⟩
    · rw [withRec_ne z] at e; exact .inr e
  refine ⟨fun j q e => ?_, fun j q e => ?_, o.npeople, o.ngrounds, o.nstores, o.nholds, o.noMain, o.hperson, o.hkind, fun j q e => ?_, fun j q e => ?_, fun j q e => ?_, fun j q e => ?_⟩
  · rcases pick j q e with ⟨rfl, rfl⟩ | e
    · rw [e2]; exact o.below _ r h
    · exact o.below j q e
  · rcases pick j q e with ⟨rfl, rfl⟩ | e
    · rw [e1]; exact o.owned _ r h
    · exact o.owned j q e
  · rcases pick j q e with ⟨rfl, rfl⟩ | e
    · rw [e3]; exact o.ncopies _ r h
    · exact o.ncopies j q e
  · rcases pick j q e with ⟨rfl, rfl⟩ | e
    · intro k hk
      have m : k.store ∈ r.copies.map (·.store) := by rw [← e3]; exact List.mem_map_of_mem hk
      obtain ⟨k', hk', ek⟩ := List.mem_map.mp m
      rw [← ek]
      exact o.cstores _ r h k' hk'
    · exact o.cstores j q e
  · rcases pick j q e with ⟨rfl, rfl⟩ | e
    · exact e4
    · exact o.cthere j q e
  · rcases pick j q e with ⟨rfl, rfl⟩ | e
    · exact e5
    · exact o.casked j q e
theorem leaves_store (s : Kp01.House) (d : Nat) (x : Kp01.Copy) : (Kp01.leaves s d x).store = x.store := by
  unfold Kp01.leaves
  cases Kp01.storeOf s x.store with
  | none => rfl
  | some y => cases y <;> rfl
theorem leaves_asked {s : Kp01.House} {d e : Nat} {x : Kp01.Copy} (h : (Kp01.leaves s d x).st = .asked e) : ∃ m b, Kp01.storeOf s (Kp01.leaves s d x).store = some (.other m b) := by
  rw [leaves_store]
  unfold Kp01.leaves at h
  cases hs : Kp01.storeOf s x.store with
  | none => rw [hs] at h; cases h
  | some y =>
    rw [hs] at h
    cases y with
    | roll n t => cases h
    | other n b => exact ⟨n, b, rfl⟩
theorem settled_eq (s : Kp01.House) (x : Kp01.Copy) : Kp01.settled s s.day x = if now s x = true then { x with st := .gone s.day } else x := by
  unfold Kp01.settled now
  cases x.st with
  | there => rfl
  | gone d => rfl
  | going t =>
    by_cases h : t ≤ s.day
    · simp [h]
    · simp [h]
  | asked d =>
    dsimp only
    cases Kp01.storeOf s x.store with
    | none => rfl
    | some y =>
      cases y with
      | roll n t => rfl
      | other n b => cases b <;> rfl
theorem settled_store (s : Kp01.House) (x : Kp01.Copy) : (Kp01.settled s s.day x).store = x.store := by
  rw [settled_eq]; split <;> rfl
theorem Ok.goneRec (o : Ok s) (h : s.records[i]? = some r) : Ok (Kr.withRec s i (Kr.goneRec s s.day r)) := by
  refine o.withRec h rfl rfl ?_ (fun z => by cases z) ?_
  · show (r.copies.map _).map _ = _
    rw [List.map_map]
    exact List.map_congr_left fun x _ => leaves_store s s.day x
  · intro k hk d e
    obtain ⟨x, _, rfl⟩ := List.mem_map.mp hk
    exact leaves_asked e
theorem Ok.settledRec (o : Ok s) (h : s.records[i]? = some r) (hg : r.letGo.isSome = true) : Ok (Kr.withRec s i (Kr.settledRec s s.day r)) := by
  refine o.withRec h rfl rfl ?_ (fun z => ?_) ?_
  · show (r.copies.map _).map _ = _
    rw [List.map_map]
    exact List.map_congr_left fun x _ => settled_store s x
  · have z : r.letGo = none := z
    rw [z] at hg; cases hg
  · intro k hk d e
    obtain ⟨x, hx, rfl⟩ := List.mem_map.mp hk
    rw [settled_store]
    rw [settled_eq] at e
    split at e
    · cases e
    · exact o.casked i r h x hx d e
end
end Kr

set_option Elab.async false
set_option linter.all false
set_option maxRecDepth 100000
set_option maxHeartbeats 2000000
namespace Kr
open PySem PySem.Spec PyProof.Rows L2
section
variable {K : PySem.W.Frag} {w : World} {mg : Str → Option Value} {c : Cs}
theorem pure_let_go (T : TopTxt K w mg c) : ∀ a b H Q, pr_let_go c a b H Q → t_let_go K c (D0 Q) (start ["house", "record", "today", "kept"] [a, b]) H := by
  rintro _ _ H Q ⟨F, s, L, i, r, rfl, rfl, R, o, er, q⟩
  have hi := (List.getElem?_eq_some_iff.mp er).1
  have nd := o.ncopies i r er
  have hf := leaves_store s s.day
  refine ⟨_, rfl, fq (fd_House_today T (R.house (by simp))) ?_⟩
  refine ⟨_, rfl, _, rfl, st_Record_gone_on T (R.record er (by simp)) rfl fun dx e => ?_⟩
  -- gone_on is stored
  have R1 : Rep c [] F (withRec s i (part (Kp01.leaves s s.day) 0 { r with letGo := some s.day })) L (upd H (L (.record i)) (.ins c.Record dx (fsOf nRecord ((recordVals L i r).set 6 (.int s.day))))) := by
    rw [part_zero]
    have R0 : Rep c [] F (withRec s i r) L H := by rw [withRec_self er]; exact R
    refine R0.set (.record i) (fun u hu => cell_with hi u (fun z => absurd z hu) (fun _ => rfl) (fun _ => rfl) (fun _ _ => rfl)) ?_ (cl := .ins c.Record nRecord (recordVals L i { r with letGo := some s.day })) ?_ ⟨dx, upd_same⟩
    · show (((withRec s i r).records[i]?).map _).isSome = true
      rw [withRec_at hi]; rfl
    · show ((withRec s i _).records[i]?).map _ = _
      rw [withRec_at hi]; rfl
  have hc := R1.copies (withRec_at hi) (by simp)
  refine ⟨_, rfl, fq (fd_Record_copies T (R1.record (withRec_at hi) (by simp))) ⟨_, rfl, ⟨_, SqL.of hc⟩, for_list (K := K) (xs := r.copies.map fun k => V.ref (L (.copy i k.store)))
    (fun j σ H' => Rep c [] F (withRec s i (part (Kp01.leaves s s.day) j { r with letGo := some s.day })) L H' ∧ ∃ v, σ = [some (.ref (L .house)), some (.ref (L (.record i))), some (.int s.day), v])
    ⟨R1, none, rfl⟩ (fun j σ H' _ h => ?_) ?_ ?_⟩⟩
  · have z := h.1.copies (withRec_at hi) (by simp)
    rw [part_list (L := L) (i := i) hf] at z
    exact SqL.of z
  · rintro j x σ H' hx ⟨R2, v, rfl⟩
    obtain ⟨k, hk, rfl⟩ := map_at hx
    have hm : k ∈ r.copies := List.mem_of_getElem? hk
    have ok := R2.copyNow (r := { r with letGo := some s.day }) hi hf nd hk (by simp)
    have done : ∀ (dx : Addr), Rep c [] F (withRec s i (part (Kp01.leaves s s.day) (j + 1) { r with letGo := some s.day })) L (upd H' (L (.copy i k.store)) (.ins c.Copy dx (fsOf nCopy (copyVals L (Kp01.leaves s s.day k))))) := fun dx => R2.step (r := { r with letGo := some s.day }) hi hf nd hk
    obtain ⟨dk, ek⟩ := ok
    have ok : Ob H' (L (.copy i k.store)) c.Copy nCopy (copyVals L k) := ⟨dk, ek⟩
    rcases o.cstores i r er k hm with em | es
    · -- the main store
      have om : Ob H' (L (.store k.store)) c.Store nStore mainVals := by rw [em]; exact R2.storeM (by simp)
      refine ⟨_, rfl, fq (fd_Copy_store T ok) (fq (fd_Store_way T om) ⟨rfl, _, rfl, ?_⟩)⟩
      refine if_true_of (by decide +kernel) ?_
      refine ⟨_, rfl, _, rfl, _, dk, _, _, _, rfl, ek, ?_⟩
      refine ⟨?_, _, rfl⟩
      have z := done dk
      have el : Kp01.leaves s s.day k = { k with st := .gone s.day } := by
        unfold Kp01.leaves; rw [em, storeOf_main o]
      rw [el] at z
      exact z
    · obtain ⟨x, ex⟩ := Option.isSome_iff_exists.mp es
      have hn : k.store ≠ Kp01.MAIN := fun z => by rw [z, storeOf_main o] at ex; cases ex
      have os : Ob H' (L (.store k.store)) c.Store nStore (storeVals x) := R2.store (s := withRec s i _) hn ex (by simp)
      refine ⟨_, rfl, fq (fd_Copy_store T ok) ?_⟩
      cases x with
      | roll m t =>
        refine fq (fd_Store_way T os) ⟨rfl, _, rfl, ?_⟩
        refine if_false_of (by decide +kernel) ?_
        refine ⟨_, rfl, fq (fd_Copy_store T ok) (fq (fd_Store_way T os) ⟨rfl, _, rfl, ?_⟩)⟩
        refine if_true_of (by decide +kernel) ?_
        refine ⟨_, rfl, _, rfl, _, rfl, fq (fd_Copy_store T ok) (fq (fd_Store_turn T os) ⟨_, _, rfl, rfl, ?_⟩)⟩
        refine ⟨_, dk, _, _, _, rfl, ek, ?_⟩
        refine ⟨?_, _, rfl⟩
        have z := done dk
        have el : Kp01.leaves s s.day k = { k with st := .going (s.day + t) } := by
          unfold Kp01.leaves; rw [ex]
        rw [el] at z
        show Rep c [] F _ L (upd H' _ (.ins c.Copy dk (fsOf nCopy [_, _, V.int ((s.day : Int) + (t : Int))])))
        rw [optV_add]
        exact z
      | other m b =>
        refine fq (fd_Store_way T os) ⟨rfl, _, rfl, ?_⟩
        refine if_false_of (by decide +kernel) ?_
        refine ⟨_, rfl, fq (fd_Copy_store T ok) (fq (fd_Store_way T os) ⟨rfl, _, rfl, ?_⟩)⟩
        refine if_false_of (by decide +kernel) ?_
        refine ⟨_, rfl, _, rfl, _, dk, _, _, _, rfl, ek, ?_⟩
        refine ⟨?_, _, rfl⟩
        have z := done dk
        have el : Kp01.leaves s s.day k = { k with st := .asked s.day } := by
          unfold Kp01.leaves; rw [ex]
        rw [el] at z
        exact z
  · rintro σ H' ⟨R2, v, rfl⟩
    rw [List.length_map] at R2
    refine q H' ?_
    have e : part (Kp01.leaves s s.day) r.copies.length { r with letGo := some s.day } = goneRec s s.day r := part_all (r := { r with letGo := some s.day })
    rw [e] at R2
    exact R2
theorem pure_is_settled_today (T : TopTxt K w mg c) : ∀ a b H Q, pr_is_settled_today c a b H Q → t_is_settled_today K c (D0 Q) (start ["house", "kept"] [a, b]) H := by
  rintro _ _ H Q ⟨F, s, L, i, n, r, k, rfl, rfl, R, er, ek, ha, q⟩
  have ok := R.copy er ek (by simp)
  have nk : k.store = n := by simpa using List.find?_some ek
  refine ⟨_, rfl, fq (fd_Copy_state T ok) ⟨rfl, _, rfl, ?_⟩⟩
  unfold now at q
  cases hs : k.st with
  | going t =>
    rw [hs] at q
    replace q : Q (V.bl (decide (t ≤ s.day))) H := q
    refine if_true_of (show decide (V.str ("going" : Str) = V.str ("going" : Str)) = true by decide +kernel) ?_
    refine ⟨_, rfl, fq (fd_Copy_day T ok) ⟨_, rfl, fq (fd_House_today T (R.house (by simp))) ?_⟩⟩
    rw [hs]
    refine ⟨_, _, rfl, rfl, ?_⟩
    have e1 : decide ((t : Int) ≤ (s.day : Int)) = decide (t ≤ s.day) := by apply decide_eq_decide.mpr; omega
    show Q (V.bl (decide ((t : Int) ≤ (s.day : Int)))) H
    rw [e1]
    exact q
  | there =>
    rw [hs] at q
    refine if_false_of (by decide +kernel) ?_
    refine ⟨_, rfl, fq (fd_Copy_state T ok) ⟨rfl, _, rfl, ?_⟩⟩
    rw [hs]
    exact if_false_of (by decide +kernel) q
  | gone t =>
    rw [hs] at q
    refine if_false_of (show decide (V.str ("gone" : Str) = V.str ("going" : Str)) = false by decide +kernel) ?_
    refine ⟨_, rfl, fq (fd_Copy_state T ok) ⟨rfl, _, rfl, ?_⟩⟩
    rw [hs]
    exact if_false_of (show decide (V.str ("gone" : Str) = V.str ("asked" : Str)) = false by decide +kernel) q
  | asked t =>
    rw [hs] at q
    obtain ⟨hn, m, b, e⟩ := ha t hs
    rw [nk] at q
    replace q : Q (V.bl (match Kp01.storeOf s n with
      | some (.other _ b) => b
      | _ => false)) H := q
    rw [e] at q
    have os : Ob H (L (.store k.store)) c.Store nStore (storeVals (.other m b)) := by rw [nk]; exact R.store hn e (by simp)
    refine if_false_of (show decide (V.str ("asked" : Str) = V.str ("going" : Str)) = false by decide +kernel) ?_
    refine ⟨_, rfl, fq (fd_Copy_state T ok) ⟨rfl, _, rfl, ?_⟩⟩
    rw [hs]
    refine if_true_of (show decide (V.str ("asked" : Str) = V.str ("asked" : Str)) = true by decide +kernel) ?_
    exact ⟨_, rfl, fq (fd_Copy_store T ok) (fq (fd_Store_hears T os) q)⟩
theorem pure_settle_copies (T : TopTxt K w mg c) : ∀ a b H Q, pr_settle_copies c a b H Q → t_settle_copies K c (D0 Q) (start ["house", "record", "kept"] [a, b]) H := by
  rintro _ _ H Q ⟨F, s, L, i, r, rfl, rfl, R, o, er, hg, q⟩
  have hi := (List.getElem?_eq_some_iff.mp er).1
  have nd := o.ncopies i r er
  have hf := settled_store s
  have R1 : Rep c [] F (withRec s i (part (Kp01.settled s s.day) 0 r)) L H := by rw [part_zero, withRec_self er]; exact R
  have hc := R1.copies (withRec_at hi) (by simp)
  refine ⟨_, rfl, fq (fd_Record_copies T (R1.record (withRec_at hi) (by simp))) ⟨_, rfl, ⟨_, SqL.of hc⟩, for_list (K := K) (xs := r.copies.map fun k => V.ref (L (.copy i k.store)))
    (fun j σ H' => Rep c [] F (withRec s i (part (Kp01.settled s s.day) j r)) L H' ∧ ∃ v, σ = [some (.ref (L .house)), some (.ref (L (.record i))), v])
    ⟨R1, none, rfl⟩ (fun j σ H' _ h => ?_) ?_ ?_⟩⟩
  · have z := h.1.copies (withRec_at hi) (by simp)
    rw [part_list (L := L) (i := i) hf] at z
    exact SqL.of z
  · rintro j x σ H' hx ⟨R2, v, rfl⟩
    obtain ⟨k, hk, rfl⟩ := map_at hx
    have hm : k ∈ r.copies := List.mem_of_getElem? hk
    obtain ⟨dk, ek⟩ := R2.copyNow hi hf nd hk (by simp)
    refine ⟨_, rfl, _, rfl, F, withRec s i (part (Kp01.settled s s.day) j r), L, i, k.store, _, k, rfl, rfl, R2, withRec_at hi, part_copy_now hf nd hk, fun d hd => ?_, _, rfl, ?_⟩
    · obtain ⟨m, b, e⟩ := o.casked i r er k hm d hd
      exact ⟨(fun z => by rw [z, storeOf_main o] at e; cases e), m, b, e⟩
    have en : now (withRec s i (part (Kp01.settled s s.day) j r)) k = now s k := rfl
    have es := settled_eq s k
    rw [en]
    cases hb : now s k with
    | true =>
      rw [hb, if_pos rfl] at es
      refine if_true_of rfl ?_
      refine ⟨_, rfl, _, rfl, fq (fd_House_today T (R2.house (by simp))) ⟨_, dk, _, _, _, rfl, ek, ?_⟩⟩
      refine ⟨?_, _, rfl⟩
      have z := R2.step (dx := dk) hi hf nd hk
      rw [es] at z
      exact z
    | false =>
      rw [hb, if_neg (by simp)] at es
      refine if_false_of rfl ⟨?_, _, rfl⟩
      rw [part_skip hk es]
      exact R2
  · rintro σ H' ⟨R2, v, rfl⟩
    rw [List.length_map] at R2
    refine q H' ?_
    rw [part_all] at R2
    exact R2
theorem Ok.letOne {s : Kp01.House} (o : Ok s) (i : Nat) : Ok (letOne s.day s i) := by
  unfold Kr.letOne
  cases e : s.records[i]? with
  | none => exact o
  | some r =>
    show Ok (if _ then _ else _)
    split
    · exact o
    · exact o.goneRec e
theorem Ok.run {s : Kp01.House} (o : Ok s) : ∀ n, Ok (letRun s.day 0 n s)
  | 0 => o
  | n + 1 => by
    rw [letRun_snoc]
    have z := (o.run n).letOne (0 + n)
    rw [(letRun_rest s.day n s).2.1] at z
    exact z
/-- the first n records settled -/
def setRun (s : Kp01.House) : Nat → Kp01.House
  | 0 => s
  | n + 1 => match (setRun s n).records[n]? with
    | none => setRun s n
    | some r => if r.letGo.isNone = true then setRun s n else withRec (setRun s n) n (settledRec (setRun s n) (setRun s n).day r)
theorem setRun_rest (s : Kp01.House) : ∀ n, SameRest s (setRun s n) ∧ (setRun s n).day = s.day ∧ (setRun s n).records.length = s.records.length
  | 0 => ⟨.refl s, rfl, rfl⟩
  | n + 1 => by
    obtain ⟨a, b, d⟩ := setRun_rest s n
    unfold setRun
    cases e : (setRun s n).records[n]? with
    | none => exact ⟨a, b, d⟩
    | some r =>
      show SameRest s (if _ then _ else _) ∧ (if _ then _ else _ : Kp01.House).day = _ ∧ (if _ then _ else _ : Kp01.House).records.length = _
      split
      · exact ⟨a, b, d⟩
      · exact ⟨a.trans ⟨rfl, rfl, rfl, rfl⟩, b, by rw [withRec_len]; exact d⟩
theorem setRun_ok {s : Kp01.House} (o : Ok s) : ∀ n, Ok (setRun s n)
  | 0 => o
  | n + 1 => by
    unfold setRun
    cases e : (setRun s n).records[n]? with
    | none => exact setRun_ok o n
    | some r =>
      show Ok (if _ then _ else _)
      split
      · exact setRun_ok o n
      · next h => exact (setRun_ok o n).settledRec e (by cases hr : r.letGo <;> simp_all)
theorem settled_congr {s t : Kp01.House} (e : SameRest s t) (d : Nat) : Kp01.settled s d = Kp01.settled t d := by
  funext x
  unfold Kp01.settled
  rw [e.storeOf]
theorem settledRec_there {s : Kp01.House} {d : Nat} {r : Kp01.Record} (h : ∀ k ∈ r.copies, k.st = .there) : settledRec s d r = r := by
  unfold settledRec
  have e : r.copies.map (Kp01.settled s d) = r.copies := by
    rw [List.map_congr_left (g := id)]
    · simp
    · intro k hk
      unfold Kp01.settled
      rw [h k hk]
      rfl
  rw [e]
theorem setRun_at {s : Kp01.House} (o : Ok s) : ∀ (n j : Nat), (setRun s n).records[j]? = if j < n then (s.records[j]?).map (settledRec s s.day) else s.records[j]?
  | 0, j => by rw [if_neg (by omega)]; rfl
  | n + 1, j => by
    have ih := setRun_at o n
    have en : (setRun s n).records[n]? = s.records[n]? := by rw [ih n, if_neg (by omega)]
    obtain ⟨a, b, d⟩ := setRun_rest s n
    unfold setRun
    rw [en]
    cases e : s.records[n]? with
    | none =>
      show (setRun s n).records[j]? = _
      rw [ih j]
      by_cases z : j = n
      · subst z; rw [if_neg (by omega), if_pos (by omega), e]; rfl
      · by_cases y : j < n
        · rw [if_pos y, if_pos (by omega)]
        · rw [if_neg y, if_neg (by omega)]
    | some r =>
      show (if _ then _ else _ : Kp01.House).records[j]? = _
      have hn : n < (setRun s n).records.length := by rw [d]; exact (List.getElem?_eq_some_iff.mp e).1
      by_cases hr : r.letGo.isNone = true
      · rw [if_pos hr, ih j]
        by_cases z : j = n
        · subst z
          rw [if_neg (by omega), if_pos (by omega), e]
          show some r = some (settledRec s s.day r)
          rw [settledRec_there (o.cthere _ r e (by simpa using hr))]
        · by_cases y : j < n
          · rw [if_pos y, if_pos (by omega)]
          · rw [if_neg y, if_neg (by omega)]
      · rw [if_neg hr]
        by_cases z : j = n
        · subst z
          rw [withRec_at hn, if_pos (by omega), e]
          show some (settledRec _ _ r) = some (settledRec s s.day r)
          unfold settledRec
          rw [b, settled_congr a]
        · rw [withRec_ne z, ih j]
          by_cases y : j < n
          · rw [if_pos y, if_pos (by omega)]
          · rw [if_neg y, if_neg (by omega)]
theorem setRun_all {s : Kp01.House} (o : Ok s) : setRun s s.records.length = Kp01.settles s := by
  obtain ⟨a, b, d⟩ := setRun_rest s s.records.length
  have e : (setRun s s.records.length).records = (Kp01.settles s).records := by
    apply List.ext_getElem?
    intro j
    rw [setRun_at o, settles_at]
    split
    · rfl
    · next h => rw [List.getElem?_eq_none (by omega)]; rfl
  obtain ⟨a', b', d'⟩ := settles_rest s
  generalize setRun s s.records.length = x at *
  generalize Kp01.settles s = y at *
  have a2 := a.symm.trans a'
  cases x; cases y
  obtain ⟨h1, h2, h3, h4⟩ := a2
  dsimp only at *
  subst h1 h2 h3 h4 e
  rw [b, b']
theorem pure_all_goes (T : TopTxt K w mg c) : ∀ a H Q, pr_all_goes c a H Q → t_all_goes K c (D0 Q) (start ["house", "record"] [a]) H := by
  rintro _ H Q ⟨F, s, L, rfl, R, o, q⟩
  have hl := R.records (by simp)
  refine ⟨_, rfl, fq (fd_House_records T (R.house (by simp))) ⟨_, rfl, ⟨_, SqL.of hl⟩, for_list (K := K) (xs := (List.range s.records.length).map fun i => V.ref (L (.record i)))
    (fun j σ H' => Rep c [] F (letRun s.day 0 j s) L H' ∧ ∃ v, σ = [some (.ref (L .house)), v]) ⟨R, none, rfl⟩ (fun j σ H' _ h => ?_) ?_ ?_⟩⟩
  · have z := h.1.records (by simp)
    rw [(letRun_rest s.day j s).2.2] at z
    exact SqL.of z
  · rintro j x σ H' hx ⟨R2, v, rfl⟩
    obtain ⟨hj, rfl⟩ := range_at hx
    have ed := (letRun_rest s.day j s).2.1
    have er : s.records[j]? = some s.records[j] := List.getElem?_eq_getElem hj
    generalize s.records[j] = r at er
    have er2 : (letRun s.day 0 j s).records[j]? = some r := by rw [letRun_later s.day j s j (Nat.le_refl _)]; exact er
    have on := o.run j
    have step : letRun s.day 0 (j + 1) s = letOne (letRun s.day 0 j s).day (letRun s.day 0 j s) j := by rw [ed, letRun_snoc, Nat.zero_add]
    rw [step]
    unfold letOne
    rw [er2]
    refine ⟨_, rfl, F, _, L, j, r, rfl, R2.sub (by simp), er2, _, rfl, ?_⟩
    cases hg : r.letGo with
    | some d =>
      refine if_false_of rfl (if_false_of rfl ⟨?_, _, rfl⟩)
      show Rep c [] F (if r.letGo.isSome = true ∨ _ then _ else _) L _
      rw [if_pos (.inl (by rw [hg]; rfl))]
      exact R2
    | none =>
      refine if_true_of rfl ?_
      refine ⟨_, rfl, _, rfl, F, _, L, j, r, rfl, rfl, R2.sub (by simp), on, er2, fun H2 e2 => ⟨_, rfl, ?_⟩⟩
      cases hk : Kp01.keeps (letRun s.day 0 j s) r (letRun s.day 0 j s).day with
      | true =>
        refine if_false_of rfl ⟨?_, _, rfl⟩
        show Rep c [] F (if _ ∨ _ then _ else _) L _
        rw [if_pos (.inr hk)]
        exact R2.same e2
      | false =>
        refine if_true_of rfl ?_
        refine ⟨_, rfl, _, rfl, F, _, L, j, r, rfl, rfl, R2.same e2, on, er2, fun H3 R3 => ⟨?_, _, rfl⟩⟩
        show Rep c [] F (if r.letGo.isSome = true ∨ _ then _ else _) L _
        rw [if_neg (by rw [hg, hk]; simp)]
        exact R3
  · rintro σ H' ⟨R2, v, rfl⟩
    rw [List.length_map, List.length_range, ← lets_run] at R2
    have o2 : Ok (Kp01.lets s) := by rw [lets_run]; exact o.run _
    have hl2 := R2.records (by simp)
    refine ⟨_, rfl, fq (fd_House_records T (R2.house (by simp))) ⟨_, rfl, ⟨_, SqL.of hl2⟩, for_list (K := K) (xs := (List.range (Kp01.lets s).records.length).map fun i => V.ref (L (.record i)))
      (fun j σ H' => Rep c [] F (setRun (Kp01.lets s) j) L H' ∧ ∃ v, σ = [some (.ref (L .house)), v]) ⟨R2, v, rfl⟩ (fun j σ H' _ h => ?_) ?_ ?_⟩⟩
    · have z := h.1.records (by simp)
      rw [(setRun_rest (Kp01.lets s) j).2.2] at z
      exact SqL.of z
    · rintro j x σ H2 hx ⟨R3, v, rfl⟩
      obtain ⟨hj, rfl⟩ := range_at hx
      have er : (setRun (Kp01.lets s) j).records[j]? = some (Kp01.lets s).records[j] := by rw [setRun_at o2, if_neg (by omega)]; exact List.getElem?_eq_getElem hj
      generalize (Kp01.lets s).records[j] = r at er
      refine ⟨_, rfl, F, _, L, j, r, rfl, R3.sub (by simp), er, _, rfl, ?_⟩
      have step : setRun (Kp01.lets s) (j + 1) = if r.letGo.isNone = true then setRun (Kp01.lets s) j else withRec (setRun (Kp01.lets s) j) j (settledRec (setRun (Kp01.lets s) j) (setRun (Kp01.lets s) j).day r) := by
        conv => lhs; unfold setRun
        rw [er]
      rw [step]
      cases hg : r.letGo with
      | none =>
        refine if_false_of rfl ⟨?_, _, rfl⟩
        rw [if_pos (show Option.isNone (none : Option Nat) = true from rfl)]
        exact R3
      | some d =>
        refine if_true_of rfl ?_
        refine ⟨_, rfl, _, rfl, F, _, L, j, r, rfl, rfl, R3, setRun_ok o2 j, er, by rw [hg]; rfl, fun H3 R4 => ⟨?_, _, rfl⟩⟩
        rw [if_neg (by simp)]
        exact R4
    · rintro σ H2 ⟨R3, v, rfl⟩
      rw [List.length_map, List.length_range, setRun_all o2] at R3
      exact q H2 R3
theorem pure_pass_day (T : TopTxt K w mg c) : ∀ a H Q, pr_pass_day c a H Q → t_pass_day K c (D0 Q) (start ["house"] [a]) H := by
  rintro _ H Q ⟨F, s, L, rfl, R, o, q⟩
  obtain ⟨dx, e⟩ := R.house (by simp)
  refine ⟨_, rfl, L .house, c.House, dx, _, _, rfl, e, T.House.cl, T.House.no "today" (by decide +kernel), look (i := 0) (by decide +kernel) rfl, ?_⟩
  refine ⟨_, _, rfl, rfl, dx, _, e, fs_len _ _ (by show 7 < 1000; decide), ?_⟩
  rw [put_set (i := 0) (by decide +kernel) (by show 0 < 7; decide)]
  have R1 : Rep c [] F { s with day := s.day + 1 } L (upd H (L .house) (.ins c.House dx (fsOf nHouse (houseVals L (s.day + 1))))) := by
    refine R.set .house (fun u hu => ?_) rfl (cl := .ins c.House nHouse (houseVals L (s.day + 1))) rfl ⟨dx, upd_same⟩
    cases u <;> first | rfl | exact absurd rfl hu
  have o1 : Ok { s with day := s.day + 1 } := ⟨o.below, o.owned, o.npeople, o.ngrounds, o.nstores, o.nholds, o.noMain, o.hperson, o.hkind, o.ncopies, o.cstores, o.cthere, o.casked⟩
  have ev : (houseVals L s.day).set 0 (.int ((s.day : Int) + 1)) = houseVals L (s.day + 1) := by
    show V.int ((s.day : Int) + 1) :: _ = V.int (((s.day + 1 : Nat)) : Int) :: _
    rw [Int.natCast_add]; rfl
  rw [ev]
  exact ⟨_, rfl, F, _, L, rfl, R1, o1, q⟩
end
end Kr

set_option Elab.async false
set_option linter.all false
set_option maxRecDepth 100000
set_option maxHeartbeats 2000000
namespace Kr
open PySem PySem.Spec PyProof.Rows L2
/-! ### how houses change, and what of it lies in the heap -/
section
variable {c : Cs} {X : List Tag} {F : Hp} {s : Kp01.House} {L L' : Tag → Addr} {H : Hp} {n : Bytes}
theorem live_person (h : (Kp01.personOf s n).isSome = true) : (cell c L s (.person n)).isSome = true := by
  show ((Kp01.personOf s n).map _).isSome = true
  rw [Option.isSome_map]; exact h
theorem live_consents (h : (Kp01.personOf s n).isSome = true) : (cell c L s (.consents n)).isSome = true := by
  show ((Kp01.personOf s n).map _).isSome = true
  rw [Option.isSome_map]; exact h
theorem live_record {i : Nat} (h : i < s.records.length) : (cell c L s (.record i)).isSome = true ∧ (cell c L s (.sources i)).isSome = true ∧ (cell c L s (.copies i)).isSome = true := by
  have e := List.getElem?_eq_getElem h
  refine ⟨?_, ?_, ?_⟩
  · show ((s.records[i]?).map _).isSome = true; rw [e]; rfl
  · show ((s.records[i]?).map _).isSome = true; rw [e]; rfl
  · show ((s.records[i]?).map _).isSome = true; rw [e]; rfl
theorem live_store (h : n = Kp01.MAIN ∨ (Kp01.storeOf s n).isSome = true) : (cell c L s (.store n)).isSome = true := by
  by_cases e : n = Kp01.MAIN
  · subst e; rw [cell_main]; rfl
  · rw [cell_store c L s e, Option.isSome_map]
    rcases h with h | h
    · exact absurd h e
    · exact h
theorem mem_find {α : Type} {nm : α → Bytes} {l : List α} {a : α} (h : a ∈ l) : (l.find? fun x => nm x == nm a).isSome = true := by
  rw [List.find?_isSome]
  exact ⟨a, h, by simp⟩
/-- a house's contents lean on the places of its own things alone -/
theorem cell_live (o : Ok s) (h : ∀ t, (cell c L s t).isSome = true → L' t = L t) (u : Tag) : cell c L' s u = cell c L s u := by
  cases u with
  | house =>
    show some (Cell.ins c.House nHouse (houseVals L' s.day)) = some (Cell.ins c.House nHouse (houseVals L s.day))
    unfold houseVals
    rw [h (.store Kp01.MAIN) (live_store (.inl rfl)), h .people rfl, h .grounds rfl, h .stores rfl, h .records rfl, h .holds rfl]
  | people =>
    show some (Cell.raw (.dK (byName _ _ s.people))) = some (Cell.raw (.dK (byName _ _ s.people)))
    congr 3
    unfold byName
    refine List.map_congr_left fun p hp => ?_
    dsimp only
    rw [h (.person p.name) (live_person (mem_find (nm := fun (x : Kp01.Person) => x.name) hp))]
  | grounds =>
    show some (Cell.raw (.dK (byName _ _ s.grounds))) = some (Cell.raw (.dK (byName _ _ s.grounds)))
    congr 3
    unfold byName
    refine List.map_congr_left fun g hg => ?_
    have z : (cell c L s (.ground g.name)).isSome = true := by
      show ((groundOf s g.name).map _).isSome = true
      rw [Option.isSome_map]; exact mem_find (nm := fun (x : Kp01.Ground) => x.name) hg
    dsimp only
    rw [h (.ground g.name) z]
  | stores =>
    show some (Cell.raw (.dK (byName _ _ s.stores))) = some (Cell.raw (.dK (byName _ _ s.stores)))
    congr 3
    unfold byName
    refine List.map_congr_left fun x hx => ?_
    dsimp only
    rw [h (.store (Kp01.storeName x)) (live_store (.inr (mem_find (nm := Kp01.storeName) hx)))]
  | holds =>
    show some (Cell.raw (.dK (byName _ _ s.holds))) = some (Cell.raw (.dK (byName _ _ s.holds)))
    congr 3
    unfold byName
    refine List.map_congr_left fun g hg => ?_
    have z : (cell c L s (.hold g.name)).isSome = true := by
      show ((holdOf s g.name).map _).isSome = true
      rw [Option.isSome_map]; exact mem_find (nm := fun (x : Kp01.Hold) => x.name) hg
    dsimp only
    rw [h (.hold g.name) z]
  | records =>
    show some (Cell.raw (.lst ((List.range s.records.length).map _))) = some (Cell.raw (.lst ((List.range s.records.length).map _)))
    congr 3
    refine List.map_congr_left fun i hi => ?_
    rw [h (.record i) (live_record (List.mem_range.mp hi)).1]
  | person n =>
    show (Kp01.personOf s n).map _ = (Kp01.personOf s n).map _
    cases e : Kp01.personOf s n with
    | none => rfl
    | some p =>
      show some (Cell.ins _ _ (personVals L' n p)) = some (Cell.ins _ _ (personVals L n p))
      unfold personVals
      rw [h (.consents n) (live_consents (by rw [e]; rfl))]
  | consents n => rfl
  | ground n => rfl
  | store n => rfl
  | hold n =>
    show (holdOf s n).map _ = (holdOf s n).map _
    cases e : holdOf s n with
    | none => rfl
    | some g =>
      show some (Cell.ins _ _ (holdVals L' g)) = some (Cell.ins _ _ (holdVals L g))
      unfold holdVals
      rw [h (.person g.person) (live_person (o.hperson g (List.mem_of_find?_eq_some e)))]
  | record i =>
    show (s.records[i]?).map _ = (s.records[i]?).map _
    cases e : s.records[i]? with
    | none => rfl
    | some r =>
      show some (Cell.ins _ _ (recordVals L' i r)) = some (Cell.ins _ _ (recordVals L i r))
      unfold recordVals
      have hi := live_record (c := c) (L := L) (List.getElem?_eq_some_iff.mp e).1
      rw [h (.person r.person) (live_person (o.owned i r e)), h _ hi.2.1, h _ hi.2.2]
  | sources i =>
    show (s.records[i]?).map _ = (s.records[i]?).map _
    cases e : s.records[i]? with
    | none => rfl
    | some r =>
      show some (Cell.raw (.lst (r.of_.map _))) = some (Cell.raw (.lst (r.of_.map _)))
      congr 3
      refine List.map_congr_left fun k hk => ?_
      have hi := (List.getElem?_eq_some_iff.mp e).1
      have hk := o.below i r e k hk
      rw [h _ (live_record (c := c) (L := L) (show k < s.records.length by omega)).1]
  | copies i =>
    show (s.records[i]?).map _ = (s.records[i]?).map _
    cases e : s.records[i]? with
    | none => rfl
    | some r =>
      show some (Cell.raw (.lst (r.copies.map fun k => V.ref (L' (.copy i k.store))))) = some (Cell.raw (.lst (r.copies.map fun k => V.ref (L (.copy i k.store)))))
      congr 3
      refine List.map_congr_left fun k hk => ?_
      have z : (cell c L s (.copy i k.store)).isSome = true := by
        show ((s.records[i]?).bind _).isSome = true
        rw [e]
        show ((copyOf r k.store).map _).isSome = true
        rw [Option.isSome_map]; exact mem_find (nm := fun (x : Kp01.Copy) => x.store) hk
      rw [h _ z]
  | copy i n =>
    show (s.records[i]?).bind _ = (s.records[i]?).bind _
    cases e : s.records[i]? with
    | none => rfl
    | some r =>
      show (copyOf r n).map _ = (copyOf r n).map _
      cases ek : copyOf r n with
      | none => rfl
      | some k =>
        show some (Cell.ins _ _ (copyVals L' k)) = some (Cell.ins _ _ (copyVals L k))
        unfold copyVals
        rw [h (.store k.store) (live_store (o.cstores i r e k (List.mem_of_find?_eq_some ek)))]
/-- another place for one tag -/
def setL (L : Tag → Addr) (t : Tag) (a : Addr) : Tag → Addr := fun u => if u = t then a else L u
theorem setL_same {t : Tag} {a : Addr} : setL L t a t = a := if_pos rfl
theorem setL_ne {t u : Tag} {a : Addr} (h : u ≠ t) : setL L t a u = L u := if_neg h
/-! a person's changes -/
theorem personOf_name {p : Kp01.Person} (h : Kp01.personOf s n = some p) : p.name = n := by simpa using List.find?_some h
theorem personOf_with {p p' : Kp01.Person} (h : Kp01.personOf s n = some p) (e : p'.name = n) (m : Bytes) : Kp01.personOf (Kp01.withPerson s p') m = if m = n then some p' else Kp01.personOf s m := by
  have key : ∀ l : List Kp01.Person, (l.find? fun x => x.name == n).isSome = true → (l.map fun x => if x.name = p'.name then p' else x).find? (fun x => x.name == m) = if m = n then some p' else l.find? fun x => x.name == m := by
    intro l
    induction l with
    | nil => intro z; cases z
    | cons a r ih =>
      intro z
      rw [List.map_cons]
      by_cases ha : a.name = n
      · rw [if_pos (by rw [ha, e])]
        by_cases hm : m = n
        · rw [if_pos hm, List.find?_cons_of_pos (by simp [e, hm])]
        · rw [if_neg hm, List.find?_cons_of_neg (by simp [e]; exact fun z => hm z.symm), List.find?_cons_of_neg (by simp [ha]; exact fun z => hm z.symm)]
          by_cases hr : (r.find? fun x => x.name == n).isSome = true
          · rw [ih hr, if_neg hm]
          · have hn : ∀ x ∈ r, ¬ x.name = n := fun x hx z => hr (by rw [List.find?_isSome]; exact ⟨x, hx, by simp [z]⟩)
            have z2 : ∀ x ∈ r, (if x.name = p'.name then p' else x) = x := fun x hx => if_neg (by rw [e]; exact hn x hx)
            rw [List.map_congr_left z2]
            simp
      · rw [if_neg (by rw [e]; exact ha)]
        rw [List.find?_cons_of_neg (by simp [ha])] at z
        by_cases hm : a.name = m
        · rw [List.find?_cons_of_pos (by simp [hm]), List.find?_cons_of_pos (by simp [hm]), if_neg (fun z => ha (by rw [hm, z]))]
        · rw [List.find?_cons_of_neg (by simp [hm]), List.find?_cons_of_neg (by simp [hm])]
          exact ih z
  exact key s.people (by unfold Kp01.personOf at h; rw [h]; rfl)
theorem with_names {p' : Kp01.Person} : (Kp01.withPerson s p').people.map (·.name) = s.people.map (·.name) := by
  show (s.people.map _).map _ = _
  rw [List.map_map]
  refine List.map_congr_left fun x _ => ?_
  show (if x.name = p'.name then p' else x).name = x.name
  split
  · next e => exact e.symm
  · rfl
theorem byName_names {α : Type} {nm : α → Bytes} {g : Bytes → V} (l : List α) : byName nm g l = (l.map nm).map fun n => (.inr (txt n), g n) := by
  unfold byName; rw [List.map_map]; rfl
theorem cell_withPerson {p p' : Kp01.Person} (h : Kp01.personOf s n = some p) (e : p'.name = n) (u : Tag) (h1 : u = .person n → personVals L n p' = personVals L n p) (h2 : u = .consents n → p'.consents = p.consents) : cell c L (Kp01.withPerson s p') u = cell c L s u := by
  have pw := personOf_with h e
  cases u with
  | people =>
    show some (Cell.raw (.dK (byName _ _ (Kp01.withPerson s p').people))) = some (Cell.raw (.dK (byName _ _ s.people)))
    rw [byName_names, byName_names, with_names]
  | person m =>
    show (Kp01.personOf (Kp01.withPerson s p') m).map _ = (Kp01.personOf s m).map _
    rw [pw]
    by_cases z : m = n
    · subst z
      rw [if_pos rfl, h]
      show some (Cell.ins _ _ (personVals L m p')) = some (Cell.ins _ _ (personVals L m p))
      rw [h1 rfl]
    · rw [if_neg z]
  | consents m =>
    show (Kp01.personOf (Kp01.withPerson s p') m).map _ = (Kp01.personOf s m).map _
    rw [pw]
    by_cases z : m = n
    · subst z
      rw [if_pos rfl, h]
      show some (Cell.raw (.dK (byName _ _ p'.consents))) = some (Cell.raw (.dK (byName _ _ p.consents)))
      rw [h2 rfl]
    · rw [if_neg z]
  | _ => rfl
theorem cell_with_person {p p' : Kp01.Person} (h : Kp01.personOf s n = some p) (e : p'.name = n) : cell c L (Kp01.withPerson s p') (.person n) = some (.ins c.Person nPerson (personVals L n p')) := by
  show (Kp01.personOf (Kp01.withPerson s p') n).map _ = _
  rw [personOf_with h e, if_pos rfl]; rfl
theorem cell_with_consents {p p' : Kp01.Person} (h : Kp01.personOf s n = some p) (e : p'.name = n) : cell c L (Kp01.withPerson s p') (.consents n) = some (.raw (.dK (byName id (fun _ => .bl true) p'.consents))) := by
  show (Kp01.personOf (Kp01.withPerson s p') n).map _ = _
  rw [personOf_with h e, if_pos rfl]; rfl
theorem Ok.withPerson (o : Ok s) {p p' : Kp01.Person} (h : Kp01.personOf s n = some p) (e : p'.name = n) : Ok (Kp01.withPerson s p') := by
  have pw : ∀ m, (Kp01.personOf s m).isSome = true → (Kp01.personOf (Kp01.withPerson s p') m).isSome = true := fun m z => by
    rw [personOf_with h e]; split
    · rfl
    · exact z
  exact ⟨o.below, fun i r er => pw _ (o.owned i r er), by rw [with_names]; exact o.npeople, o.ngrounds, o.nstores, o.nholds, o.noMain, fun g hg => pw _ (o.hperson g hg), o.hkind, o.ncopies, o.cstores, o.cthere, o.casked⟩
/-! new and dropped things -/
theorem find_snoc {α : Type} {nm : α → Bytes} {l : List α} {a : α} (m : Bytes) : ((l ++ [a]).find? fun x => nm x == m) = if (l.find? fun x => nm x == m).isSome = true then l.find? fun x => nm x == m else if nm a = m then some a else none := by
  rw [List.find?_append]
  cases e : l.find? fun x => nm x == m with
  | some x => rfl
  | none =>
    rw [Option.none_or]
    by_cases z : nm a = m
    · rw [List.find?_cons_of_pos (by simp [z])]; simp [z]
    · rw [List.find?_cons_of_neg (by simp [z])]; simp [z]
theorem find_drop {α : Type} {nm : α → Bytes} {l : List α} (m : Bytes) : ((l.filter fun x => nm x != n).find? fun x => nm x == m) = if m = n then none else l.find? fun x => nm x == m := by
  induction l with
  | nil => simp
  | cons a r ih =>
    by_cases ha : nm a = n
    · rw [List.filter_cons_of_neg (by simp [ha]), ih]
      by_cases z : m = n
      · rw [if_pos z, if_pos z]
      · rw [if_neg z, if_neg z, List.find?_cons_of_neg (by simp [ha]; exact fun y => z y.symm)]
    · rw [List.filter_cons_of_pos (by simp [ha])]
      by_cases hm : nm a = m
      · rw [List.find?_cons_of_pos (by simp [hm]), List.find?_cons_of_pos (by simp [hm]), if_neg (fun y => ha (by rw [hm, y]))]
      · rw [List.find?_cons_of_neg (by simp [hm]), List.find?_cons_of_neg (by simp [hm]), ih]
theorem nodup_snoc {l : List Bytes} {a : Bytes} (h : l.Nodup) (ha : a ∉ l) : (l ++ [a]).Nodup := nd_snoc h ha
theorem not_mem_of_find {α : Type} {nm : α → Bytes} {l : List α} {m : Bytes} (h : (l.find? fun x => nm x == m) = none) : m ∉ l.map nm := by
  intro z
  obtain ⟨a, ha, e⟩ := List.mem_map.mp z
  rw [List.find?_eq_none] at h
  exact h a ha (by simp [e])
theorem map_snoc {α β : Type} {f : α → β} {l : List α} {a : α} : (l ++ [a]).map f = l.map f ++ [f a] := by simp
end
end Kr

set_option Elab.async false
set_option linter.all false
set_option maxRecDepth 100000
set_option maxHeartbeats 2000000
namespace Kr
open PySem PySem.Spec PyProof.Rows L2
section
variable {K : PySem.W.Frag} {w : World} {mg : Str → Option Value} {c : Cs} {X : List Tag} {F : Hp} {s : Kp01.House} {L L' : Tag → Addr} {H : Hp} {n : Bytes}
/-! ### the ends of commands -/
theorem fin {cmd : Kp01.Cmd} {Q : VK} {s' : Kp01.House} {ans : Bytes} {H' : Hp} {x : Str} (q : ∀ H' L', Rep c [] F (Kp01.does s cmd).1 L' H' → L' .house = L .house → Q (.str (txt (Kp01.does s cmd).2)) H')
    (ed : Kp01.does s cmd = (s', ans)) (hx : txt ans = x) (R : Rep c [] F s' L' H') (hL : L' .house = L .house) : Q (.str x) H' := by
  have z := q H' L'
  rw [ed] at z
  rw [← hx]
  exact z R hL
theorem no_txt {w x : String} (h : "no " ++ w = x) : txt (Kp01.no w) = Str.ofString x := by
  rw [← h]; exact txt_ascii _
theorem ok_txt : txt Kp01.ok = Str.ofString "ok" := txt_ascii "ok"
/-- things[i] -/
theorem thing {K : PySem.W.Frag} {H : Hp} {a : Addr} {vals : List V} {i : Int} {v : V} {P : V → Prop} (ha : H a = some (.lst vals)) (hi : atI vals i = some v) (q : P v) : ∃ p xs j u, V.ref a = .ref p ∧ V.int i = .int j ∧ SqL K H p xs ∧ atI xs j = some u ∧ P u :=
  ⟨a, vals, i, v, rfl, rfl, SqL.of ha, hi, q⟩
theorem people_get (n : Bytes) : valV (byName (·.name) (fun n => V.ref (L (.person n))) s.people) (.inr (txt n)) = (Kp01.personOf s n).map fun _ => .ref (L (.person n)) := byName_val n s.people
theorem grounds_get (n : Bytes) : valV (byName (·.name) (fun n => V.ref (L (.ground n))) s.grounds) (.inr (txt n)) = (groundOf s n).map fun _ => .ref (L (.ground n)) := byName_val n s.grounds
theorem stores_get (n : Bytes) : valV (byName Kp01.storeName (fun n => V.ref (L (.store n))) s.stores) (.inr (txt n)) = (Kp01.storeOf s n).map fun _ => .ref (L (.store n)) := byName_val n s.stores
theorem holds_get (n : Bytes) : valV (byName (·.name) (fun n => V.ref (L (.hold n))) s.holds) (.inr (txt n)) = (holdOf s n).map fun _ => .ref (L (.hold n)) := byName_val n s.holds
theorem any_find {α : Type} {nm : α → Bytes} {l : List α} {m : Bytes} : (l.any fun x => nm x == m) = (l.find? fun x => nm x == m).isSome := by
  rw [Bool.eq_iff_iff, List.any_eq_true, List.find?_isSome]
/-! ### new things are linked -/
theorem Ok.addPerson (o : Ok s) (h : Kp01.personOf s n = none) : Ok { s with people := s.people ++ [⟨n, [], false, none⟩] } := by
  have pw : ∀ m, (Kp01.personOf s m).isSome = true → (Kp01.personOf { s with people := s.people ++ [⟨n, [], false, none⟩] } m).isSome = true := fun m z => by
    show ((s.people ++ [_]).find? _).isSome = true
    rw [find_snoc (nm := fun (x : Kp01.Person) => x.name)]
    have z' : (s.people.find? fun x => x.name == m).isSome = true := z
    rw [if_pos z']; exact z'
  refine ⟨o.below, fun i r er => pw _ (o.owned i r er), ?_, o.ngrounds, o.nstores, o.nholds, o.noMain, fun g hg => pw _ (o.hperson g hg), o.hkind, o.ncopies, o.cstores, o.cthere, o.casked⟩
  show ((s.people ++ [_]).map _).Nodup
  rw [map_snoc]
  exact nodup_snoc o.npeople (not_mem_of_find h)
/-- the places, with some new ones -/
def newL (L : Tag → Addr) (N : List (Tag × Addr)) : Tag → Addr := fun t => match N.find? fun x => x.1 = t with
  | some x => x.2
  | none => L t
theorem newL_in {N : List (Tag × Addr)} {t : Tag} {a : Addr} (nd : (N.map (·.1)).Nodup) (h : (t, a) ∈ N) : newL L N t = a := by
  unfold newL
  have e : (N.find? fun x => x.1 = t) = some (t, a) := by
    induction N with
    | nil => cases h
    | cons x r ih =>
      rw [List.map_cons, List.nodup_cons] at nd
      rcases List.mem_cons.mp h with z | z
      · rw [← z, List.find?_cons_of_pos (by simp)]
      · have ne : x.1 ≠ t := fun y => nd.1 (by rw [y]; exact List.mem_map.mpr ⟨(t, a), z, rfl⟩)
        rw [List.find?_cons_of_neg (by simp [ne])]
        exact ih nd.2 z
  rw [e]
theorem newL_out {N : List (Tag × Addr)} {t : Tag} (h : t ∉ N.map (·.1)) : newL L N t = L t := by
  unfold newL
  have e : (N.find? fun x => x.1 = t) = none := by
    rw [List.find?_eq_none]
    intro x hx z
    have z : x.1 = t := by simpa using z
    exact h (by rw [← z]; exact List.mem_map_of_mem hx)
  rw [e]
/-- THE RULE for new things: N, which lay apart, are of the house from now on; the thing that tells of them (D) is still open -/
theorem Rep.grow {F0 : Hp} {s' : Kp01.House} (o : Ok s) (R : Rep c [] F0 s L H) (N : List (Tag × Addr)) (D : Tag) (nd : (N.map (·.1)).Nodup) (nd2 : (N.map (·.2)).Nodup) (hdead : ∀ t ∈ N.map (·.1), (cell c L s t).isSome = false)
    (hcell : ∀ u, u ∉ N.map (·.1) → u ≠ D → cell c (newL L N) s' u = cell c (newL L N) s u) (hD : (cell c L s D).isSome = true)
    (hnew : ∀ t a, (t, a) ∈ N → ∀ cl, cell c (newL L N) s' t = some cl → cl.At H a) (hF0 : ∀ x ∈ N, ∃ u, F0 x.2 = some u) (hF : ∀ b u, F b = some u → F0 b = some u) (hFN : ∀ x ∈ N, F x.2 = none) :
    Rep c [D] F s' (newL L N) H ∧ ∀ u, cell c (newL L N) s u = cell c L s u := by
  have agree : ∀ t, (cell c L s t).isSome = true → newL L N t = L t := fun t ht => newL_out fun z => by rw [hdead t z] at ht; cases ht
  have same := cell_live (c := c) o agree
  have pick : ∀ t, t ∈ N.map (·.1) → ∃ a, (t, a) ∈ N ∧ newL L N t = a := fun t ht => by
    obtain ⟨⟨t', a⟩, hx, rfl⟩ := List.mem_map.mp ht
    exact ⟨a, hx, newL_in nd hx⟩
  refine ⟨?_, same⟩
  refine R.link (Y := [D]) (N.map (·.1)) (fun u hu => newL_out hu) (fun u cl hu hy hc => ?_) (fun u hu hc => ?_) (fun u hu cl hc => ?_) (fun u hu => ?_) (fun t u ht hu e => ?_) hF (fun u hu => ?_) (fun t ht => by cases ht)
  · rw [hcell u hu (fun z => hy (by rw [z]; simp)), same] at hc; exact hc
  · by_cases z : u = D
    · rw [z]; exact hD
    · rw [hcell u hu z, same] at hc; exact hc
  · obtain ⟨a, ha, e⟩ := pick u hu
    rw [e]; exact hnew u a ha cl hc
  · obtain ⟨a, ha, e⟩ := pick u hu
    rw [e]; exact hF0 _ ha
  · obtain ⟨a, ha, ea⟩ := pick t ht
    obtain ⟨b, hb, eb⟩ := pick u hu
    rw [ea, eb] at e
    subst e
    obtain ⟨i, hi, ei⟩ := List.mem_iff_getElem.mp ha
    obtain ⟨j, hj, ej⟩ := List.mem_iff_getElem.mp hb
    have h1 : (N.map (·.2))[i]? = some a := by rw [List.getElem?_map, List.getElem?_eq_getElem hi, ei]; rfl
    have h2 : (N.map (·.2))[j]? = some a := by rw [List.getElem?_map, List.getElem?_eq_getElem hj, ej]; rfl
    have := nd_ix nd2 h1 h2
    subst this
    rw [ei] at ej
    exact (Prod.mk.inj ej).1
  · obtain ⟨a, ha, e⟩ := pick u hu
    rw [e]; exact hFN _ ha
theorem F_less {a : Addr} {o : HO} (ha : F a = none) : ∀ b u, F b = some u → upd F a o b = some u := fun b u hb => by
  rw [upd_ne (fun z => by rw [z, ha] at hb; cases hb)]; exact hb
theorem some_ite {α : Type} {x : α} {y : Option α} : (if (some x).isSome = true then some x else y) = some x := if_pos rfl
theorem find_new {α : Type} {nm : α → Bytes} {l : List α} {a : α} (h : (l.find? fun x => nm x == nm a) = none) (m : Bytes) : ((l ++ [a]).find? fun x => nm x == m) = if m = nm a then some a else l.find? fun x => nm x == m := by
  rw [find_snoc]
  by_cases z : m = nm a
  · subst z; rw [h, if_neg (by simp), if_pos rfl]
  · rw [if_neg z]
    cases e : l.find? fun x => nm x == m with
    | none => rw [if_neg (by simp), if_neg (fun y => z y.symm)]
    | some x => exact some_ite
/-- a dict by names, told by other places that agree, with a new name -/
theorem byName_grow {α : Type} {nm : α → Bytes} {l : List α} {x : α} {f g : Bytes → V} {a : V} (h : (l.find? fun y => nm y == nm x) = none) (hfg : ∀ y ∈ l, g (nm y) = f (nm y)) (ha : g (nm x) = a) : byName nm g (l ++ [x]) = putK (byName nm f l) (.inr (txt (nm x))) a := by
  have e : byName nm f l = byName nm g l := by
    unfold byName
    exact List.map_congr_left fun y hy => by rw [hfg y hy]
  rw [e, ← ha, byName_put h rfl]
theorem Rep.addPerson {a d dx : Addr} (o : Ok s) (h : Kp01.personOf s n = none) (R : Rep c [] (upd (upd F d (.dK [])) a (.ins c.Person dx (fsOf nPerson [.str (txt n), .ref d, .bl false, .non]))) s L H) (hd : F d = none) (ha : F a = none) (hne : d ≠ a) :
    ∃ L', Rep c [] F { s with people := s.people ++ [⟨n, [], false, none⟩] } L' (upd H (L .people) (.dK (putK (byName (·.name) (fun n => .ref (L (.person n))) s.people) (.inr (txt n)) (.ref a)))) ∧ L' .house = L .house := by
  have hp : ∀ m, Kp01.personOf { s with people := s.people ++ [⟨n, [], false, none⟩] } m = if m = n then some ⟨n, [], false, none⟩ else Kp01.personOf s m := fun m => find_new (nm := fun (x : Kp01.Person) => x.name) (a := ⟨n, [], false, none⟩) h m
  obtain ⟨N, hN⟩ : ∃ N : List (Tag × Addr), N = [(.person n, a), (.consents n, d)] := ⟨_, rfl⟩
  have nd : (N.map (·.1)).Nodup := by subst hN; simp
  have nd2 : (N.map (·.2)).Nodup := by subst hN; simp; exact fun z => hne z.symm
  have m1 : (Tag.person n, a) ∈ N := by subst hN; simp
  have m2 : (Tag.consents n, d) ∈ N := by subst hN; simp
  have all : ∀ x ∈ N, x = (.person n, a) ∨ x = (.consents n, d) := by subst hN; simp
  have names : ∀ t, t ∈ N.map (·.1) ↔ t = .person n ∨ t = .consents n := by subst hN; simp
  have hout : newL L N .house = L .house := newL_out (by rw [names]; simp)
  have hout2 : newL L N .people = L .people := newL_out (by rw [names]; simp)
  clear hN
  have hnew : ∀ t b, (t, b) ∈ N → ∀ cl, cell c (newL L N) { s with people := s.people ++ [⟨n, [], false, none⟩] } t = some cl → cl.At H b := fun t b hb cl hc => by
    rcases all _ hb with e | e
    · cases e
      have hc : (Kp01.personOf _ n).map _ = some cl := hc
      rw [hp, if_pos rfl] at hc
      cases hc
      refine ⟨dx, R.keep _ _ ?_⟩
      rw [upd_same]
      unfold personVals
      rw [newL_in nd m2]
      rfl
    · cases e
      have hc : (Kp01.personOf _ n).map _ = some cl := hc
      rw [hp, if_pos rfl] at hc
      cases hc
      refine R.keep _ _ ?_
      rw [upd_ne hne, upd_same]
      rfl
  obtain ⟨R1, same⟩ := R.grow (F := F) (s' := { s with people := s.people ++ [⟨n, [], false, none⟩] }) o N .people nd nd2
    (fun t ht => by
      rcases (names t).mp ht with rfl | rfl
      · show ((Kp01.personOf s n).map _).isSome = false; rw [h]; rfl
      · show ((Kp01.personOf s n).map _).isSome = false; rw [h]; rfl)
    (fun u hu hy => by
      rw [names] at hu
      cases u with
      | person m => show (Kp01.personOf _ m).map _ = (Kp01.personOf s m).map _; rw [hp, if_neg (fun z => hu (by rw [z]; simp))]
      | consents m => show (Kp01.personOf _ m).map _ = (Kp01.personOf s m).map _; rw [hp, if_neg (fun z => hu (by rw [z]; simp))]
      | people => exact absurd rfl hy
      | _ => rfl) rfl hnew
    (fun x hx => by
      rcases all x hx with rfl | rfl
      · exact ⟨_, upd_same⟩
      · exact ⟨_, by rw [upd_ne hne]; exact upd_same⟩)
    (fun b u hb => F_less (by rw [upd_ne hne.symm]; exact ha) b u (F_less hd b u hb))
    (fun x hx => by
      rcases all x hx with rfl | rfl
      · exact ha
      · exact hd)
  refine ⟨newL L N, ?_, hout⟩
  have z := R1.fill (t := .people) (X := []) (o := .dK (byName (fun (x : Kp01.Person) => x.name) (fun m => .ref (newL L N (.person m))) (s.people ++ [⟨n, [], false, none⟩]))) rfl (show _ = _ from upd_same)
  have e2 : byName (fun (x : Kp01.Person) => x.name) (fun m => V.ref (newL L N (.person m))) (s.people ++ [⟨n, [], false, none⟩]) = putK (byName (·.name) (fun n => .ref (L (.person n))) s.people) (.inr (txt n)) (.ref a) :=
    byName_grow (x := (⟨n, [], false, none⟩ : Kp01.Person)) (f := fun m => .ref (L (.person m))) (a := .ref a) h (fun y hy => by
      show V.ref (newL L N (.person y.name)) = V.ref (L (.person y.name))
      have ne : y.name ≠ n := fun e => by
        rw [Kp01.personOf, List.find?_eq_none] at h
        exact h y hy (by simp [e])
      rw [newL_out (by rw [names]; simp [ne])]) (by show V.ref (newL L N (.person n)) = V.ref a; rw [newL_in nd m1])
  rw [e2, hout2] at z
  exact z
end
end Kr

set_option Elab.async false
set_option linter.all false
set_option maxRecDepth 100000
set_option maxHeartbeats 2000000
namespace Kr
open PySem PySem.Spec PyProof.Rows L2
section
variable {K : PySem.W.Frag} {w : World} {mg : Str → Option Value} {c : Cs} {X : List Tag} {F : Hp} {s : Kp01.House} {L L' : Tag → Addr} {H : Hp} {n : Bytes}
theorem Ok.addGround (o : Ok s) {x : Kp01.Ground} (h : groundOf s (Kp01.Ground.name x) = none) : Ok { s with grounds := s.grounds ++ [x] } := by
  refine ⟨o.below, o.owned, o.npeople, ?_, o.nstores, o.nholds, o.noMain, o.hperson, o.hkind, o.ncopies, o.cstores, o.cthere, o.casked⟩
  show ((s.grounds ++ [_]).map _).Nodup
  rw [map_snoc]
  exact nodup_snoc o.ngrounds (not_mem_of_find h)
theorem Rep.addGround {a dx : Addr} {x : Kp01.Ground} (o : Ok s) (h : groundOf s (Kp01.Ground.name x) = none) (R : Rep c [] (upd F a (.ins c.Ground dx (fsOf nGround (groundVals x)))) s L H) (ha : F a = none) :
    ∃ L', Rep c [] F { s with grounds := s.grounds ++ [x] } L' (upd H (L .grounds) (.dK (putK (byName (fun (x : Kp01.Ground) => x.name) (fun n => .ref (L (.ground n))) s.grounds) (.inr (txt (Kp01.Ground.name x))) (.ref a)))) ∧ L' .house = L .house := by
  have hp : ∀ m, groundOf { s with grounds := s.grounds ++ [x] } m = if m = Kp01.Ground.name x then some x else groundOf s m := fun m => find_new (nm := (fun (x : Kp01.Ground) => x.name)) (a := x) h m
  obtain ⟨N, hN⟩ : ∃ N : List (Tag × Addr), N = [(.ground (Kp01.Ground.name x), a)] := ⟨_, rfl⟩
  have nd : (N.map (·.1)).Nodup := by subst hN; simp
  have nd2 : (N.map (·.2)).Nodup := by subst hN; simp
  have m1 : (Tag.ground (Kp01.Ground.name x), a) ∈ N := by subst hN; simp
  have all : ∀ y ∈ N, y = (.ground (Kp01.Ground.name x), a) := by subst hN; simp
  have names : ∀ t, t ∈ N.map (·.1) ↔ t = .ground (Kp01.Ground.name x) := by subst hN; simp
  have hout : newL L N .house = L .house := newL_out (by rw [names]; simp)
  have hout2 : newL L N .grounds = L .grounds := newL_out (by rw [names]; simp)
  clear hN
  have hnew : ∀ t b, (t, b) ∈ N → ∀ cl, cell c (newL L N) { s with grounds := s.grounds ++ [x] } t = some cl → cl.At H b := fun t b hb cl hc => by
    cases all _ hb
    have hc : (groundOf _ _).map _ = some cl := hc
    rw [hp, if_pos rfl] at hc
    cases hc
    refine ⟨dx, R.keep _ _ ?_⟩
    rw [upd_same]
    
  obtain ⟨R1, same⟩ := R.grow (F := F) (s' := { s with grounds := s.grounds ++ [x] }) o N .grounds nd nd2
    (fun t ht => by
      rw [(names t).mp ht]
      show ((groundOf s (Kp01.Ground.name x)).map _).isSome = false; rw [h]; rfl)
    (fun u hu hy => by
      rw [names] at hu
      cases u with
      | ground m => show (groundOf _ m).map _ = (groundOf s m).map _; rw [hp, if_neg (fun z => hu (by rw [z]))]
      | grounds => exact absurd rfl hy
      | _ => rfl) rfl hnew
    (fun y hy => by rw [all y hy]; exact ⟨_, upd_same⟩)
    (fun b u hb => F_less ha b u hb)
    (fun y hy => by rw [all y hy]; exact ha)
  refine ⟨newL L N, ?_, hout⟩
  have z := R1.fill (t := .grounds) (X := []) (o := .dK (byName (fun (x : Kp01.Ground) => x.name) (fun m => .ref (newL L N (.ground m))) (s.grounds ++ [x]))) rfl (show _ = _ from upd_same)
  have e2 : byName (fun (x : Kp01.Ground) => x.name) (fun m => V.ref (newL L N (.ground m))) (s.grounds ++ [x]) = putK (byName (fun (x : Kp01.Ground) => x.name) (fun n => .ref (L (.ground n))) s.grounds) (.inr (txt (Kp01.Ground.name x))) (.ref a) :=
    byName_grow (nm := (fun (x : Kp01.Ground) => x.name)) (x := x) (f := fun m => .ref (L (.ground m))) (a := .ref a) h (fun y hy => by
      show V.ref (newL L N (.ground (Kp01.Ground.name y))) = V.ref (L (.ground (Kp01.Ground.name y)))
      have ne : Kp01.Ground.name y ≠ Kp01.Ground.name x := fun e => by
        rw [groundOf, List.find?_eq_none] at h
        exact h y hy (by simp [e])
      rw [newL_out (by rw [names]; simp [ne])]) (by show V.ref (newL L N (.ground (Kp01.Ground.name x))) = V.ref a; rw [newL_in nd m1])
  rw [e2, hout2] at z
  exact z
theorem Ok.addStore (o : Ok s) {x : Kp01.Store} (h : Kp01.storeOf s (Kp01.storeName x) = none) (hm : Kp01.storeName x ≠ Kp01.MAIN) : Ok { s with stores := s.stores ++ [x] } := by
  have so : ∀ m, (Kp01.storeOf s m).isSome = true → Kp01.storeOf { s with stores := s.stores ++ [x] } m = Kp01.storeOf s m := fun m z => by
    have e := find_new (nm := Kp01.storeName) (a := x) h m
    have e : Kp01.storeOf { s with stores := s.stores ++ [x] } m = if m = Kp01.storeName x then some x else Kp01.storeOf s m := e
    rw [e, if_neg (fun y => by rw [y, h] at z; cases z)]
  refine ⟨o.below, o.owned, o.npeople, o.ngrounds, ?_, o.nholds, fun y hy => ?_, o.hperson, o.hkind, o.ncopies, fun i r er k hk => ?_, o.cthere, fun i r er k hk d hd => ?_⟩
  · show ((s.stores ++ [_]).map _).Nodup
    rw [map_snoc]
    exact nodup_snoc o.nstores (not_mem_of_find h)
  · rcases List.mem_append.mp hy with hy | hy
    · exact o.noMain y hy
    · rw [List.mem_singleton.mp hy]; exact hm
  · rcases o.cstores i r er k hk with z | z
    · exact .inl z
    · exact .inr (by rw [so _ z]; exact z)
  · obtain ⟨m, b, e⟩ := o.casked i r er k hk d hd
    exact ⟨m, b, by rw [so _ (by rw [e]; rfl)]; exact e⟩
theorem Rep.addStore {a dx : Addr} {x : Kp01.Store} (o : Ok s) (h : Kp01.storeOf s (Kp01.storeName x) = none) (hm : Kp01.storeName x ≠ Kp01.MAIN) (R : Rep c [] (upd F a (.ins c.Store dx (fsOf nStore (storeVals x)))) s L H) (ha : F a = none) :
    ∃ L', Rep c [] F { s with stores := s.stores ++ [x] } L' (upd H (L .stores) (.dK (putK (byName Kp01.storeName (fun n => .ref (L (.store n))) s.stores) (.inr (txt (Kp01.storeName x))) (.ref a)))) ∧ L' .house = L .house := by
  have hp : ∀ m, Kp01.storeOf { s with stores := s.stores ++ [x] } m = if m = Kp01.storeName x then some x else Kp01.storeOf s m := fun m => find_new (nm := Kp01.storeName) (a := x) h m
  obtain ⟨N, hN⟩ : ∃ N : List (Tag × Addr), N = [(.store (Kp01.storeName x), a)] := ⟨_, rfl⟩
  have nd : (N.map (·.1)).Nodup := by subst hN; simp
  have nd2 : (N.map (·.2)).Nodup := by subst hN; simp
  have m1 : (Tag.store (Kp01.storeName x), a) ∈ N := by subst hN; simp
  have all : ∀ y ∈ N, y = (.store (Kp01.storeName x), a) := by subst hN; simp
  have names : ∀ t, t ∈ N.map (·.1) ↔ t = .store (Kp01.storeName x) := by subst hN; simp
  have hout : newL L N .house = L .house := newL_out (by rw [names]; simp)
  have hout2 : newL L N .stores = L .stores := newL_out (by rw [names]; simp)
  clear hN
  have hnew : ∀ t b, (t, b) ∈ N → ∀ cl, cell c (newL L N) { s with stores := s.stores ++ [x] } t = some cl → cl.At H b := fun t b hb cl hc => by
    cases all _ hb
    rw [cell_store _ _ _ hm] at hc
    rw [hp, if_pos rfl] at hc
    cases hc
    refine ⟨dx, R.keep _ _ ?_⟩
    rw [upd_same]
    
  obtain ⟨R1, same⟩ := R.grow (F := F) (s' := { s with stores := s.stores ++ [x] }) o N .stores nd nd2
    (fun t ht => by
      rw [(names t).mp ht]
      rw [cell_store _ _ _ hm, h]; rfl)
    (fun u hu hy => by
      rw [names] at hu
      cases u with
      | store m =>
        by_cases z : m = Kp01.MAIN
        · subst z; rw [cell_main, cell_main]
        · rw [cell_store _ _ _ z, cell_store _ _ _ z, hp, if_neg (fun z => hu (by rw [z]))]
      | stores => exact absurd rfl hy
      | _ => rfl) rfl hnew
    (fun y hy => by rw [all y hy]; exact ⟨_, upd_same⟩)
    (fun b u hb => F_less ha b u hb)
    (fun y hy => by rw [all y hy]; exact ha)
  refine ⟨newL L N, ?_, hout⟩
  have z := R1.fill (t := .stores) (X := []) (o := .dK (byName Kp01.storeName (fun m => .ref (newL L N (.store m))) (s.stores ++ [x]))) rfl (show _ = _ from upd_same)
  have e2 : byName Kp01.storeName (fun m => V.ref (newL L N (.store m))) (s.stores ++ [x]) = putK (byName Kp01.storeName (fun n => .ref (L (.store n))) s.stores) (.inr (txt (Kp01.storeName x))) (.ref a) :=
    byName_grow (nm := Kp01.storeName) (x := x) (f := fun m => .ref (L (.store m))) (a := .ref a) h (fun y hy => by
      show V.ref (newL L N (.store (Kp01.storeName y))) = V.ref (L (.store (Kp01.storeName y)))
      have ne : Kp01.storeName y ≠ Kp01.storeName x := fun e => by
        rw [Kp01.storeOf, List.find?_eq_none] at h
        exact h y hy (by simp [e])
      rw [newL_out (by rw [names]; simp [ne])]) (by show V.ref (newL L N (.store (Kp01.storeName x))) = V.ref a; rw [newL_in nd m1])
  rw [e2, hout2] at z
  exact z
theorem Ok.addHold (o : Ok s) {x : Kp01.Hold} (h : holdOf s (Kp01.Hold.name x) = none) (hq : (Kp01.personOf s x.person).isSome = true) (hk : x.kind ≠ some (Kp01.ascii "any")) : Ok { s with holds := s.holds ++ [x] } := by
  refine ⟨o.below, o.owned, o.npeople, o.ngrounds, o.nstores, ?_, o.noMain, fun y hy => ?_, fun y hy => ?_, o.ncopies, o.cstores, o.cthere, o.casked⟩
  · show ((s.holds ++ [_]).map _).Nodup
    rw [map_snoc]
    exact nodup_snoc o.nholds (not_mem_of_find h)
  · rcases List.mem_append.mp hy with hy | hy
    · exact o.hperson y hy
    · rw [List.mem_singleton.mp hy]; exact hq
  · rcases List.mem_append.mp hy with hy | hy
    · exact o.hkind y hy
    · rw [List.mem_singleton.mp hy]; exact hk
theorem Rep.addHold {a dx : Addr} {x : Kp01.Hold} (o : Ok s) (h : holdOf s (Kp01.Hold.name x) = none) (R : Rep c [] (upd F a (.ins c.Hold dx (fsOf nHold (holdVals L x)))) s L H) (ha : F a = none) :
    ∃ L', Rep c [] F { s with holds := s.holds ++ [x] } L' (upd H (L .holds) (.dK (putK (byName (fun (x : Kp01.Hold) => x.name) (fun n => .ref (L (.hold n))) s.holds) (.inr (txt (Kp01.Hold.name x))) (.ref a)))) ∧ L' .house = L .house := by
  have hp : ∀ m, holdOf { s with holds := s.holds ++ [x] } m = if m = Kp01.Hold.name x then some x else holdOf s m := fun m => find_new (nm := (fun (x : Kp01.Hold) => x.name)) (a := x) h m
  obtain ⟨N, hN⟩ : ∃ N : List (Tag × Addr), N = [(.hold (Kp01.Hold.name x), a)] := ⟨_, rfl⟩
  have nd : (N.map (·.1)).Nodup := by subst hN; simp
  have nd2 : (N.map (·.2)).Nodup := by subst hN; simp
  have m1 : (Tag.hold (Kp01.Hold.name x), a) ∈ N := by subst hN; simp
  have all : ∀ y ∈ N, y = (.hold (Kp01.Hold.name x), a) := by subst hN; simp
  have names : ∀ t, t ∈ N.map (·.1) ↔ t = .hold (Kp01.Hold.name x) := by subst hN; simp
  have hout : newL L N .house = L .house := newL_out (by rw [names]; simp)
  have hout2 : newL L N .holds = L .holds := newL_out (by rw [names]; simp)
  clear hN
  have hnew : ∀ t b, (t, b) ∈ N → ∀ cl, cell c (newL L N) { s with holds := s.holds ++ [x] } t = some cl → cl.At H b := fun t b hb cl hc => by
    cases all _ hb
    have hc : (holdOf _ _).map _ = some cl := hc
    rw [hp, if_pos rfl] at hc
    cases hc
    refine ⟨dx, R.keep _ _ ?_⟩
    rw [upd_same]
    unfold holdVals
    rw [newL_out (by rw [names]; simp)]
    
  obtain ⟨R1, same⟩ := R.grow (F := F) (s' := { s with holds := s.holds ++ [x] }) o N .holds nd nd2
    (fun t ht => by
      rw [(names t).mp ht]
      show ((holdOf s (Kp01.Hold.name x)).map _).isSome = false; rw [h]; rfl)
    (fun u hu hy => by
      rw [names] at hu
      cases u with
      | hold m => show (holdOf _ m).map _ = (holdOf s m).map _; rw [hp, if_neg (fun z => hu (by rw [z]))]
      | holds => exact absurd rfl hy
      | _ => rfl) rfl hnew
    (fun y hy => by rw [all y hy]; exact ⟨_, upd_same⟩)
    (fun b u hb => F_less ha b u hb)
    (fun y hy => by rw [all y hy]; exact ha)
  refine ⟨newL L N, ?_, hout⟩
  have z := R1.fill (t := .holds) (X := []) (o := .dK (byName (fun (x : Kp01.Hold) => x.name) (fun m => .ref (newL L N (.hold m))) (s.holds ++ [x]))) rfl (show _ = _ from upd_same)
  have e2 : byName (fun (x : Kp01.Hold) => x.name) (fun m => V.ref (newL L N (.hold m))) (s.holds ++ [x]) = putK (byName (fun (x : Kp01.Hold) => x.name) (fun n => .ref (L (.hold n))) s.holds) (.inr (txt (Kp01.Hold.name x))) (.ref a) :=
    byName_grow (nm := (fun (x : Kp01.Hold) => x.name)) (x := x) (f := fun m => .ref (L (.hold m))) (a := .ref a) h (fun y hy => by
      show V.ref (newL L N (.hold (Kp01.Hold.name y))) = V.ref (L (.hold (Kp01.Hold.name y)))
      have ne : Kp01.Hold.name y ≠ Kp01.Hold.name x := fun e => by
        rw [holdOf, List.find?_eq_none] at h
        exact h y hy (by simp [e])
      rw [newL_out (by rw [names]; simp [ne])]) (by show V.ref (newL L N (.hold (Kp01.Hold.name x))) = V.ref a; rw [newL_in nd m1])
  rw [e2, hout2] at z
  exact z
end
end Kr

set_option Elab.async false
set_option linter.all false
set_option maxRecDepth 100000
set_option maxHeartbeats 2000000
namespace Kr
open PySem PySem.Spec PyProof.Rows L2
section
variable {K : PySem.W.Frag} {w : World} {mg : Str → Option Value} {c : Cs} {X : List Tag} {F : Hp} {s : Kp01.House} {L L' : Tag → Addr} {H : Hp} {n : Bytes}
/-! ### things dropped -/
theorem Ok.dropGround (o : Ok s) : Ok { s with grounds := s.grounds.filter fun x => x.name != n } :=
  ⟨o.below, o.owned, o.npeople, o.ngrounds.sublist (List.filter_sublist.map _), o.nstores, o.nholds, o.noMain, o.hperson, o.hkind, o.ncopies, o.cstores, o.cthere, o.casked⟩
theorem Rep.dropGround (R : Rep c [] F s L H) : Rep c [] F { s with grounds := s.grounds.filter fun x => x.name != n } L (upd H (L .grounds) (.dK (dropK (byName (·.name) (fun n => .ref (L (.ground n))) s.grounds) (.inr (txt n))))) := by
  have hp : ∀ m, groundOf { s with grounds := s.grounds.filter fun x => x.name != n } m = if m = n then none else groundOf s m := fun m => find_drop (nm := fun (x : Kp01.Ground) => x.name) m
  have key : ∀ u cl, u ∉ [Tag.grounds] → cell c L { s with grounds := s.grounds.filter fun x => x.name != n } u = some cl → cell c L s u = some cl := fun u cl hu hc => by
    cases u with
    | ground m =>
      have hc : (groundOf _ m).map _ = some cl := hc
      rw [hp] at hc
      split at hc
      · cases hc
      · exact hc
    | grounds => exact absurd (by simp) hu
    | _ => exact hc
  have R1 : Rep c [.grounds] F { s with grounds := s.grounds.filter fun x => x.name != n } L H := R.fewer key (fun u hc => by
    by_cases z : u = .grounds
    · subst z; rfl
    · obtain ⟨cl, e⟩ := Option.isSome_iff_exists.mp hc
      rw [key u cl (by simpa using z) e]; rfl) (fun t ht => by cases ht)
  have z := R1.fill (t := .grounds) (X := []) (o := .dK (byName (fun (x : Kp01.Ground) => x.name) (fun m => .ref (L (.ground m))) (s.grounds.filter fun x => x.name != n))) rfl (show _ = _ from upd_same)
  rw [← byName_drop] at z
  exact z
theorem Ok.dropHold (o : Ok s) : Ok { s with holds := s.holds.filter fun x => x.name != n } :=
  ⟨o.below, o.owned, o.npeople, o.ngrounds, o.nstores, o.nholds.sublist (List.filter_sublist.map _), o.noMain, fun h hh => o.hperson h (List.mem_filter.mp hh).1, fun h hh => o.hkind h (List.mem_filter.mp hh).1, o.ncopies, o.cstores, o.cthere, o.casked⟩
theorem Rep.dropHold (R : Rep c [] F s L H) : Rep c [] F { s with holds := s.holds.filter fun x => x.name != n } L (upd H (L .holds) (.dK (dropK (byName (·.name) (fun n => .ref (L (.hold n))) s.holds) (.inr (txt n))))) := by
  have hp : ∀ m, holdOf { s with holds := s.holds.filter fun x => x.name != n } m = if m = n then none else holdOf s m := fun m => find_drop (nm := fun (x : Kp01.Hold) => x.name) m
  have key : ∀ u cl, u ∉ [Tag.holds] → cell c L { s with holds := s.holds.filter fun x => x.name != n } u = some cl → cell c L s u = some cl := fun u cl hu hc => by
    cases u with
    | hold m =>
      have hc : (holdOf _ m).map _ = some cl := hc
      rw [hp] at hc
      split at hc
      · cases hc
      · exact hc
    | holds => exact absurd (by simp) hu
    | _ => exact hc
  have R1 : Rep c [.holds] F { s with holds := s.holds.filter fun x => x.name != n } L H := R.fewer key (fun u hc => by
    by_cases z : u = .holds
    · subst z; rfl
    · obtain ⟨cl, e⟩ := Option.isSome_iff_exists.mp hc
      rw [key u cl (by simpa using z) e]; rfl) (fun t ht => by cases ht)
  have z := R1.fill (t := .holds) (X := []) (o := .dK (byName (fun (x : Kp01.Hold) => x.name) (fun m => .ref (L (.hold m))) (s.holds.filter fun x => x.name != n))) rfl (show _ = _ from upd_same)
  rw [← byName_drop] at z
  exact z
/-! ### another house hears, or not -/
def heard (s : Kp01.House) (n : Bytes) (b : Bool) : Kp01.House := { s with stores := s.stores.map fun x => if Kp01.storeName x = n then .other n b else x }
theorem heard_names {b : Bool} : (heard s n b).stores.map Kp01.storeName = s.stores.map Kp01.storeName := by
  show (s.stores.map _).map _ = _
  rw [List.map_map]
  refine List.map_congr_left fun x _ => ?_
  show Kp01.storeName (if Kp01.storeName x = n then .other n b else x) = Kp01.storeName x
  split
  · next e => exact e.symm
  · rfl
theorem heard_at {b : Bool} (m : Bytes) : Kp01.storeOf (heard s n b) m = if m = n then (Kp01.storeOf s m).map fun _ => .other n b else Kp01.storeOf s m := by
  unfold Kp01.storeOf
  show (s.stores.map fun x => if Kp01.storeName x = n then .other n b else x).find? _ = _
  induction s.stores with
  | nil => simp
  | cons a r ih =>
    rw [List.map_cons]
    by_cases ha : Kp01.storeName a = n
    · rw [if_pos ha]
      by_cases hm : m = n
      · rw [if_pos hm, List.find?_cons_of_pos (by subst hm; simp [Kp01.storeName]), List.find?_cons_of_pos (by simp [ha, hm])]; rfl
      · have hm' : ¬ n = m := fun z => hm z.symm
        rw [if_neg hm, List.find?_cons_of_neg (by simp [Kp01.storeName, hm']), List.find?_cons_of_neg (by simp [ha, hm']), ih, if_neg hm]
    · rw [if_neg ha]
      by_cases hm : Kp01.storeName a = m
      · rw [List.find?_cons_of_pos (by simp [hm]), List.find?_cons_of_pos (by simp [hm]), if_neg (fun z => ha (by rw [hm, z]))]
      · rw [List.find?_cons_of_neg (by simp [hm]), List.find?_cons_of_neg (by simp [hm]), ih]
theorem Ok.heard {b : Bool} {m : Bytes} {b0 : Bool} (o : Ok s) (h : Kp01.storeOf s n = some (.other m b0)) : Ok (heard s n b) := by
  refine ⟨o.below, o.owned, o.npeople, o.ngrounds, by rw [heard_names]; exact o.nstores, o.nholds, fun x hx => ?_, o.hperson, o.hkind, o.ncopies, fun i r er k hk => ?_, o.cthere, fun i r er k hk d hd => ?_⟩
  · have e : Kp01.storeName x ∈ s.stores.map Kp01.storeName := by rw [← heard_names (n := n) (b := b)]; exact List.mem_map_of_mem hx
    obtain ⟨y, hy, e⟩ := List.mem_map.mp e
    rw [← e]; exact o.noMain y hy
  · rcases o.cstores i r er k hk with z | z
    · exact .inl z
    · refine .inr ?_
      rw [heard_at]; split
      · rw [Option.isSome_map]; exact z
      · exact z
  · obtain ⟨m', b', e⟩ := o.casked i r er k hk d hd
    rw [heard_at]
    split
    · rw [e]; exact ⟨_, _, rfl⟩
    · exact ⟨m', b', e⟩
theorem Rep.heard {b b0 : Bool} {m : Bytes} {dx : Addr} (o : Ok s) (h : Kp01.storeOf s n = some (.other m b0)) (R : Rep c [] F s L H) : Rep c [] F (Kr.heard s n b) L (upd H (L (.store n)) (.ins c.Store dx (fsOf nStore (storeVals (.other n b))))) := by
  have hn : n ≠ Kp01.MAIN := fun z => by rw [z, storeOf_main o] at h; cases h
  refine R.set (.store n) (fun u hu => ?_) (live_store (.inr (by rw [h]; rfl))) (cl := .ins c.Store nStore (storeVals (.other n b))) (by rw [cell_store _ _ _ hn, heard_at, if_pos rfl, h]; rfl) ⟨dx, upd_same⟩
  cases u with
  | store m =>
    by_cases z : m = Kp01.MAIN
    · subst z; rw [cell_main, cell_main]
    · rw [cell_store _ _ _ z, cell_store _ _ _ z, heard_at, if_neg (fun y => hu (by rw [y]))]
  | stores =>
    show some (Cell.raw (.dK (byName _ _ (Kr.heard s n b).stores))) = some (Cell.raw (.dK (byName _ _ s.stores)))
    rw [byName_names, byName_names, heard_names]
  | _ => rfl
/-! ### a new record -/
theorem newRec_at {r : Kp01.Record} (j : Nat) : ({ s with records := s.records ++ [r] } : Kp01.House).records[j]? = if j = s.records.length then some r else s.records[j]? := by
  show (s.records ++ [r])[j]? = _
  by_cases z : j = s.records.length
  · subst z; simp
  · rw [if_neg z]
    by_cases y : j < s.records.length
    · rw [List.getElem?_append_left y]
    · rw [List.getElem?_eq_none (by simp; omega), List.getElem?_eq_none (by omega)]
theorem Ok.addRecord {k : Bytes} {l : List Nat} (o : Ok s) (hp : (Kp01.personOf s n).isSome = true) (hl : ∀ j ∈ l, j < s.records.length) : Ok { s with records := s.records ++ [newRec s n k l] } := by
  have pick : ∀ (j : Nat) (q : Kp01.Record), ({ s with records := s.records ++ [newRec s n k l] } : Kp01.House).records[j]? = some q → (j = s.records.length ∧ q = newRec s n k l) ∨ s.records[j]? = some q := fun j q e => by
    rw [newRec_at] at e
    split at e
    · next z => exact .inl ⟨z, (Option.some.inj e).symm⟩
    · exact .inr e
  refine ⟨fun j q e => ?_, fun j q e => ?_, o.npeople, o.ngrounds, o.nstores, o.nholds, o.noMain, o.hperson, o.hkind, fun j q e => ?_, fun j q e => ?_, fun j q e => ?_, fun j q e => ?_⟩
  · rcases pick j q e with ⟨rfl, rfl⟩ | e
    · exact hl
    · exact o.below j q e
  · rcases pick j q e with ⟨rfl, rfl⟩ | e
    · exact hp
    · exact o.owned j q e
  · rcases pick j q e with ⟨rfl, rfl⟩ | e
    · simp [newRec]
    · exact o.ncopies j q e
  · rcases pick j q e with ⟨rfl, rfl⟩ | e
    · intro x hx; exact .inl (by simp [newRec] at hx; rw [hx])
    · exact o.cstores j q e
  · rcases pick j q e with ⟨rfl, rfl⟩ | e
    · intro _ x hx; simp [newRec] at hx; rw [hx]
    · exact o.cthere j q e
  · rcases pick j q e with ⟨rfl, rfl⟩ | e
    · intro x hx d hd; simp [newRec] at hx; rw [hx] at hd; cases hd
    · exact o.casked j q e
theorem Rep.addRecord {k : Bytes} {l : List Nat} {a dx q d e ex : Addr} {F0 : Hp} (o : Ok s) (R : Rep c [] F0 s L H) (hF : ∀ b u, F b = some u → F0 b = some u) (hp : (Kp01.personOf s n).isSome = true) (hl : ∀ j ∈ l, j < s.records.length)
    (h1 : F0 a = some (.ins c.Record dx (fsOf nRecord [.int s.records.length, .ref (L (.person n)), .str (txt k), .int s.day, .int s.day, .ref q, .non, .ref d]))) (h2 : F0 q = some (.lst (l.map fun j => .ref (L (.record j))))) (h3 : F0 d = some (.lst [.ref e]))
    (h4 : F0 e = some (.ins c.Copy ex (fsOf nCopy [.ref (L (.store Kp01.MAIN)), .str "there", .non]))) (f1 : F a = none) (f2 : F q = none) (f3 : F d = none) (f4 : F e = none) (hqd : q ≠ d) (hae : a ≠ e) :
    ∃ L', Rep c [.records] F { s with records := s.records ++ [newRec s n k l] } L' H ∧ L' .house = L .house ∧ L' .records = L .records ∧ L' (.record s.records.length) = a ∧ ∀ j, j < s.records.length → L' (.record j) = L (.record j) := by
  have hp' : ∀ j, ({ s with records := s.records ++ [newRec s n k l] } : Kp01.House).records[j]? = if j = s.records.length then some (newRec s n k l) else s.records[j]? := fun j => newRec_at j
  obtain ⟨N, hN⟩ : ∃ N : List (Tag × Addr), N = [(.record s.records.length, a), (.sources s.records.length, q), (.copies s.records.length, d), (.copy s.records.length Kp01.MAIN, e)] := ⟨_, rfl⟩
  have nd : (N.map (·.1)).Nodup := by subst hN; simp
  have naq : a ≠ q := fun z => by rw [z, h2] at h1; cases h1
  have nad : a ≠ d := fun z => by rw [z, h3] at h1; cases h1
  have nqe : q ≠ e := fun z => by rw [z, h4] at h2; cases h2
  have nde : d ≠ e := fun z => by rw [z, h4] at h3; cases h3
  have nd2 : (N.map (·.2)).Nodup := by subst hN; simp [naq, nad, hae, hqd, nqe, nde]
  have m1 : (Tag.record s.records.length, a) ∈ N := by subst hN; simp
  have m2 : (Tag.sources s.records.length, q) ∈ N := by subst hN; simp
  have m3 : (Tag.copies s.records.length, d) ∈ N := by subst hN; simp
  have m4 : (Tag.copy s.records.length Kp01.MAIN, e) ∈ N := by subst hN; simp
  have all : ∀ x ∈ N, x = (.record s.records.length, a) ∨ x = (.sources s.records.length, q) ∨ x = (.copies s.records.length, d) ∨ x = (.copy s.records.length Kp01.MAIN, e) := by subst hN; simp
  have names : ∀ t, t ∈ N.map (·.1) ↔ t = .record s.records.length ∨ t = .sources s.records.length ∨ t = .copies s.records.length ∨ t = .copy s.records.length Kp01.MAIN := by subst hN; simp
  clear hN
  have en : s.records[s.records.length]? = none := by simp
  have hrec : ∀ j, j < s.records.length → newL L N (.record j) = L (.record j) := fun j hj => newL_out (by rw [names]; simp; omega)
  have hnew : ∀ t b, (t, b) ∈ N → ∀ cl, cell c (newL L N) { s with records := s.records ++ [newRec s n k l] } t = some cl → cl.At H b := fun t b hb cl hc => by
    rcases all _ hb with z | z | z | z
    · cases z
      have hc : (_ : Option Kp01.Record).map _ = some cl := hc
      rw [hp', if_pos rfl] at hc
      cases hc
      refine ⟨dx, R.keep _ _ ?_⟩
      rw [h1]
      unfold recordVals
      rw [newL_in nd m2, newL_in nd m3, newL_out (t := .person _) (by rw [names]; simp)]
      rfl
    · cases z
      have hc : (_ : Option Kp01.Record).map _ = some cl := hc
      rw [hp', if_pos rfl] at hc
      cases hc
      refine R.keep _ _ ?_
      rw [h2]
      congr 2
      exact List.map_congr_left fun j hj => by rw [hrec j (hl j hj)]
    · cases z
      have hc : (_ : Option Kp01.Record).map _ = some cl := hc
      rw [hp', if_pos rfl] at hc
      cases hc
      refine R.keep _ _ ?_
      rw [h3]
      show some (HO.lst [V.ref e]) = some (HO.lst [V.ref (newL L N (.copy s.records.length Kp01.MAIN))])
      rw [newL_in nd m4]
    · cases z
      have hc : (_ : Option Kp01.Record).bind _ = some cl := hc
      rw [hp', if_pos rfl, Option.bind_some] at hc
      have ec : copyOf (newRec s n k l) Kp01.MAIN = some ⟨Kp01.MAIN, .there⟩ := rfl
      rw [ec] at hc
      cases hc
      refine ⟨ex, R.keep _ _ ?_⟩
      rw [h4]
      unfold copyVals
      rw [newL_out (by rw [names]; simp)]
      rfl
  obtain ⟨R1, same⟩ := R.grow (F := F) (s' := { s with records := s.records ++ [newRec s n k l] }) o N .records nd nd2
    (fun t ht => by
      rcases (names t).mp ht with rfl | rfl | rfl | rfl
      · show ((s.records[s.records.length]?).map _).isSome = false; rw [en]; rfl
      · show ((s.records[s.records.length]?).map _).isSome = false; rw [en]; rfl
      · show ((s.records[s.records.length]?).map _).isSome = false; rw [en]; rfl
      · show ((s.records[s.records.length]?).bind _).isSome = false; rw [en]; rfl)
    (fun u hu hy => by
      rw [names] at hu
      cases u with
      | record j => show (_ : Option Kp01.Record).map _ = (s.records[j]?).map _; rw [hp', if_neg (fun z => hu (by rw [z]; simp))]
      | sources j => show (_ : Option Kp01.Record).map _ = (s.records[j]?).map _; rw [hp', if_neg (fun z => hu (by rw [z]; simp))]
      | copies j => show (_ : Option Kp01.Record).map _ = (s.records[j]?).map _; rw [hp', if_neg (fun z => hu (by rw [z]; simp))]
      | copy j m =>
        show (_ : Option Kp01.Record).bind _ = (s.records[j]?).bind _
        rw [hp']
        by_cases z : j = s.records.length
        · subst z
          rw [if_pos rfl, en]
          show (copyOf (newRec s n k l) m).map _ = none
          have ym : m ≠ Kp01.MAIN := fun y => hu (by rw [y]; simp)
          have ec : copyOf (newRec s n k l) m = none := by
            unfold copyOf
            rw [List.find?_eq_none]
            intro x hx
            simp [newRec] at hx
            rw [hx]
            simp
            exact fun y => ym y.symm
          rw [ec]; rfl
        · rw [if_neg z]
      | records => exact absurd rfl hy
      | _ => rfl) rfl hnew
    (fun x hx => by
      rcases all x hx with rfl | rfl | rfl | rfl
      · exact ⟨_, h1⟩
      · exact ⟨_, h2⟩
      · exact ⟨_, h3⟩
      · exact ⟨_, h4⟩)
    hF
    (fun x hx => by
      rcases all x hx with rfl | rfl | rfl | rfl
      · exact f1
      · exact f2
      · exact f3
      · exact f4)
  exact ⟨newL L N, R1, newL_out (by rw [names]; simp), newL_out (by rw [names]; simp), newL_in nd m1, hrec⟩
/-! ### a new copy -/
theorem Rep.addCopy {i : Nat} {r : Kp01.Record} {e ex : Addr} (o : Ok s) (er : s.records[i]? = some r) (hn : copyOf r n = none) (hs : (Kp01.storeOf s n).isSome = true) (R : Rep c [] (upd F e (.ins c.Copy ex (fsOf nCopy [.ref (L (.store n)), .str "there", .non]))) s L H) (he : F e = none) :
    ∃ L', Rep c [] F (withRec s i { r with copies := r.copies ++ [⟨n, .there⟩] }) L' (upd H (L (.copies i)) (.lst ((r.copies.map fun k => V.ref (L (.copy i k.store))) ++ [.ref e]))) ∧ L' .house = L .house := by
  have hi := (List.getElem?_eq_some_iff.mp er).1
  obtain ⟨N, hN⟩ : ∃ N : List (Tag × Addr), N = [(.copy i n, e)] := ⟨_, rfl⟩
  have nd : (N.map (·.1)).Nodup := by subst hN; simp
  have nd2 : (N.map (·.2)).Nodup := by subst hN; simp
  have m1 : (Tag.copy i n, e) ∈ N := by subst hN; simp
  have all : ∀ y ∈ N, y = (.copy i n, e) := by subst hN; simp
  have names : ∀ t, t ∈ N.map (·.1) ↔ t = .copy i n := by subst hN; simp
  clear hN
  have cn : ∀ m, copyOf { r with copies := r.copies ++ [⟨n, .there⟩] } m = if m = n then some ⟨n, .there⟩ else copyOf r m := fun m => find_new (nm := fun (x : Kp01.Copy) => x.store) (a := ⟨n, .there⟩) hn m
  have self : withRec s i r = s := withRec_self er
  have hnew : ∀ t b, (t, b) ∈ N → ∀ cl, cell c (newL L N) (withRec s i { r with copies := r.copies ++ [⟨n, .there⟩] }) t = some cl → cl.At H b := fun t b hb cl hc => by
    cases all _ hb
    have hc : ((withRec s i _).records[i]?).bind _ = some cl := hc
    rw [withRec_at hi] at hc
    have hc : (copyOf { r with copies := r.copies ++ [⟨n, .there⟩] } n).map _ = some cl := hc
    rw [cn, if_pos rfl] at hc
    cases hc
    refine ⟨ex, R.keep _ _ ?_⟩
    rw [upd_same]
    unfold copyVals
    rw [newL_out (by rw [names]; simp)]
    rfl
  obtain ⟨R1, same⟩ := R.grow (F := F) (s' := withRec s i { r with copies := r.copies ++ [⟨n, .there⟩] }) o N (.copies i) nd nd2
    (fun t ht => by
      rw [(names t).mp ht]
      show ((s.records[i]?).bind _).isSome = false
      rw [er]
      show ((copyOf r n).map _).isSome = false
      rw [hn]; rfl)
    (fun u hu hy => by
      rw [names] at hu
      have z := cell_with (c := c) (L := newL L N) (r1 := r) (r2 := { r with copies := r.copies ++ [⟨n, .there⟩] }) hi u (fun _ => rfl) (fun _ => rfl) (fun y => absurd y hy) (fun m y => by rw [cn, if_neg (fun x => hu (by rw [y, x]))])
      rw [self] at z
      exact z) (live_record hi).2.2 hnew
    (fun y hy => by rw [all y hy]; exact ⟨_, upd_same⟩)
    (fun b u hb => F_less he b u hb)
    (fun y hy => by rw [all y hy]; exact he)
  refine ⟨newL L N, ?_, newL_out (by rw [names]; simp)⟩
  have z := R1.fill (t := .copies i) (X := []) (o := .lst ((r.copies.map fun k => V.ref (L (.copy i k.store))) ++ [.ref e])) (cl := .raw (.lst ((r.copies.map fun k => V.ref (L (.copy i k.store))) ++ [.ref e]))) (by
    show ((withRec s i _).records[i]?).map _ = _
    rw [withRec_at hi]
    show some (Cell.raw (.lst ((r.copies ++ [(⟨n, .there⟩ : Kp01.Copy)]).map fun (k : Kp01.Copy) => V.ref (newL L N (.copy i k.store))))) = _
    rw [map_snoc]
    congr 4
    · refine List.map_congr_left fun k hk => ?_
      have ne : k.store ≠ n := fun y => by
        unfold copyOf at hn
        rw [List.find?_eq_none] at hn
        exact hn k hk (by simp [y])
      rw [newL_out (by rw [names]; simp [ne])]
    · show [V.ref (newL L N (.copy i n))] = _
      rw [newL_in nd m1]) (show _ = _ from upd_same)
  rw [newL_out (by rw [names]; simp)] at z
  exact z
/-! ### somebody consents to nothing any more -/
theorem Rep.noConsents {p : Kp01.Person} {d dx : Addr} (h : Kp01.personOf s n = some p) (R : Rep c [] (upd F d (.dK [])) s L H) (hd : F d = none) : Rep c [] F (Kp01.withPerson s { p with consents := [] }) (setL L (.consents n) d) (upd H (L (.person n)) (.ins c.Person dx (fsOf nPerson ((personVals L n p).set 1 (.ref d))))) := by
  have e : ({ p with consents := [] } : Kp01.Person).name = n := by show p.name = n; exact personOf_name h
  have hcell : ∀ u, u ≠ .consents n → u ≠ .person n → cell c (setL L (.consents n) d) (Kp01.withPerson s { p with consents := [] }) u = cell c L s u := fun u h1 h2 => by
    rw [cell_withPerson h e u (fun z => absurd z h2) (fun z => absurd z h1)]
    cases u with
    | person m =>
      show (Kp01.personOf s m).map _ = (Kp01.personOf s m).map _
      cases Kp01.personOf s m with
      | none => rfl
      | some q =>
        show some (Cell.ins _ _ (personVals _ m q)) = some (Cell.ins _ _ (personVals L m q))
        unfold personVals
        rw [setL_ne (fun z => h2 (by cases z; rfl))]
    | _ => rfl
  have R1 : Rep c [.person n] F (Kp01.withPerson s { p with consents := [] }) (setL L (.consents n) d) H := by
    refine R.link (Y := [.person n]) [.consents n] (fun u hu => setL_ne (by simpa using hu)) (fun u cl hu hy hc => ?_) (fun u hu hc => ?_) (fun u hu cl hc => ?_) (fun u hu => ?_) (fun t u ht hu _ => ?_) (fun b u hb => F_less hd b u hb) (fun u hu => ?_) (fun t ht => by cases ht)
    · rw [hcell u (by simpa using hu) (by simpa using hy)] at hc; exact hc
    · by_cases z : u = .person n
      · subst z; exact live_person (by rw [h]; rfl)
      · rw [hcell u (by simpa using hu) z] at hc; exact hc
    · rw [List.mem_singleton.mp hu] at hc ⊢
      rw [cell_with_consents h e] at hc
      cases hc
      show H _ = _
      rw [setL_same]
      exact R.keep _ _ upd_same
    · rw [List.mem_singleton.mp hu, setL_same]; exact ⟨_, upd_same⟩
    · rw [List.mem_singleton.mp ht, List.mem_singleton.mp hu]
    · rw [List.mem_singleton.mp hu, setL_same]; exact hd
  have z := R1.fill (t := .person n) (X := []) (o := .ins c.Person dx (fsOf nPerson ((personVals L n p).set 1 (.ref d)))) (cell_with_person h e) ⟨dx, by
    rw [upd_same]
    unfold personVals
    rw [setL_same]
    rfl⟩
  rw [setL_ne (by simp)] at z
  exact z
end
end Kr

set_option Elab.async false
set_option linter.all false
set_option maxRecDepth 100000
set_option maxHeartbeats 4000000
namespace Kr
open PySem PySem.Spec PyProof.Rows L2
abbrev s_ground_end : Stmt := topS 44
theorem sc_ground_end : FnScope ["ground", "record", "ends", "beyond", "end", "source"] ["ground", "record", "ends", "beyond"] (defScope s_ground_end) := ⟨rfl, rfl, rfl, by decide +kernel, rfl, by decide +kernel, by decide +kernel⟩
abbrev sp_ground_end (K : PySem.W.Frag) (c : Cs) : Sp := (sp4 (pr_ground_end c))
def t_ground_end (K : PySem.W.Frag) (c : Cs) : TS := (tSeq (tAsg (tCall (sp_days_end K c) [] E0 (tCons (tVar 0) (tCons (tVar 1) tNil))) (gName 4)) (tSeq (tIfS (tB (tIsN (tVar 4))) (tAsg (tVar 3) (gName 4)) tNext) (tSeq (tIfS (tTest (tOp rNe (tFld K (tVar 0) "basis") (tC (.str "law")))) (tFor (iList K (tFld K (tVar 1) "sources")) (gName 5) (tAsg (tCB rMin2 (tCons (tVar 4) (tCons (tOp (rIxL K) (tVar 2) (tFld K (tVar 5) "number")) tNil))) (gName 4))) tNext) (tRet (tCB rMin2 (tCons (tVar 4) (tCons (tVar 3) tNil)))))))
theorem ok_ground_end {P : Program} {w : World} {K : PySem.W.Frag} {mg : Str → Option Value} {base : Heap} {c : Cs} (T : TopTxt K w mg c) (F : FunAt K mg "ground_end" s_ground_end) (D_days_end : Def P w K mg base "days_end" 1 ["ground", "record"] (sp_days_end K c)) (pure : ∀ a b d e H Q, pr_ground_end c a b d e H Q → t_ground_end K c { nx := fun _ H' => Q .non H', rt := Q } (start ["ground", "record", "ends", "beyond", "end", "source"] [a, b, d, e]) H) : Def P w K mg base "ground_end" 2 ["ground", "record", "ends", "beyond"] (sp_ground_end K c) := by
  obtain ⟨f, fd, F0, mf⟩ := F.ex
  obtain ⟨f_days_end, fd_days_end, G_days_end, m_days_end, k_days_end, b_days_end⟩ := D_days_end.ex
  have b0 := F0.binds (ps := ["ground", "record", "ends", "beyond"]) fun _ _ _ _ _ _ us hl => match us, hl with | [_, _, _, _], _ => rfl
  refine ⟨⟨f, fd, F0.ok (k := 1) sc_ground_end (fun vs H Q E h => ?len) (fun cdv A outer s H vs Q E hr h => ⟨t_ground_end K c, ?term, ?pu⟩), mf, F0.kp, b0⟩⟩
  case len => obtain ⟨a, b, d, e, rfl, h⟩ := sp4_of h; rfl
  case term => have hu := hu_of hr; exact (pss_cons (ps_set (i := 4) sc_ground_end.nd rfl (Or.inl rfl) (pe_call G_days_end (hr.mono (by decide)) rfl m_days_end k_days_end b_days_end .nil pass0 (pa_cons (pv 0) (pa_cons (pv 1) pa_nil)))) (pss_cons (ps_if (pt_cmp (pc_isN (pv 4))) (pss_one (ps_set (i := 4) sc_ground_end.nd rfl (Or.inl rfl) (pv 3))) pss_nil) (pss_cons (ps_if (pt_cmpR op_ne (pe_fld (pv 0) rfl) pe_str (nomark _)) (pss_one (ps_for PassesOwn.never rfl (pi_list (pe_fld (pv 1) rfl)) (pg_name (i := 5) sc_ground_end.nd rfl (Or.inl rfl)) (pss_one (ps_set (i := 4) sc_ground_end.nd rfl (Or.inl rfl) (pe_callB (call_min2 rfl) rfl T.b_min (by decide +kernel) (pa_cons (pv 4) (pa_cons (pe_ix ix_list (pv 2) (pe_fld (pv 5) rfl) (fun _ _ => rfl)) pa_nil))))))) pss_nil) (pss_one (ps_ret (pe_callB (call_min2 rfl) rfl T.b_min (by decide +kernel) (pa_cons (pv 4) (pa_cons (pv 3) pa_nil))))))))
  case pu => obtain ⟨a, b, d, e, rfl, h⟩ := sp4_of h; exact pure a b d e H Q h
abbrev s_record_end : Stmt := topS 45
theorem sc_record_end : FnScope ["house", "record", "ends", "beyond", "end", "ground"] ["house", "record", "ends", "beyond"] (defScope s_record_end) := ⟨rfl, rfl, rfl, by decide +kernel, rfl, by decide +kernel, by decide +kernel⟩
abbrev sp_record_end (K : PySem.W.Frag) (c : Cs) : Sp := (sp4 (pr_record_end c))
def t_record_end (K : PySem.W.Frag) (c : Cs) : TS := (tSeq (tIfS (tNot (tB (tCall (sp_is_there K c) [] E0 (tCons (tVar 1) tNil)))) (tRet (tFld K (tVar 1) "gone_on")) tNext) (tSeq (tIfS (tB (tCall (sp_is_held K c) [] E0 (tCons (tVar 0) (tCons (tVar 1) tNil)))) (tRet (tVar 3)) tNext) (tSeq (tAsg (tFld K (tVar 0) "today") (gName 4)) (tSeq (tLock (tFor (iVals (tFld K (tVar 0) "grounds")) (gName 5) (tIfS (tB (tCall (sp_stands_for K c) [] E0 (tCons (tVar 5) (tCons (tVar 1) tNil)))) (tAsg (tCB rMax2 (tCons (tVar 4) (tCons (tCall (sp_ground_end K c) [] E0 (tCons (tVar 5) (tCons (tVar 1) (tCons (tVar 2) (tCons (tVar 3) tNil))))) tNil))) (gName 4)) tNext))) (tRet (tVar 4))))))
theorem ok_record_end {P : Program} {w : World} {K : PySem.W.Frag} {mg : Str → Option Value} {base : Heap} {c : Cs} (T : TopTxt K w mg c) (F : FunAt K mg "record_end" s_record_end) (D_stands_for : Def P w K mg base "stands_for" 3 ["ground", "record"] (sp_stands_for K c)) (D_ground_end : Def P w K mg base "ground_end" 2 ["ground", "record", "ends", "beyond"] (sp_ground_end K c)) (D_is_held : Def P w K mg base "is_held" 2 ["house", "record"] (sp_is_held K c)) (D_is_there : Def P w K mg base "is_there" 1 ["record"] (sp_is_there K c)) (pure : ∀ a b d e H Q, pr_record_end c a b d e H Q → t_record_end K c { nx := fun _ H' => Q .non H', rt := Q } (start ["house", "record", "ends", "beyond", "end", "ground"] [a, b, d, e]) H) : Def P w K mg base "record_end" 4 ["house", "record", "ends", "beyond"] (sp_record_end K c) := by
  obtain ⟨f, fd, F0, mf⟩ := F.ex
  obtain ⟨f_stands_for, fd_stands_for, G_stands_for, m_stands_for, k_stands_for, b_stands_for⟩ := D_stands_for.ex
  obtain ⟨f_ground_end, fd_ground_end, G_ground_end, m_ground_end, k_ground_end, b_ground_end⟩ := D_ground_end.ex
  obtain ⟨f_is_held, fd_is_held, G_is_held, m_is_held, k_is_held, b_is_held⟩ := D_is_held.ex
  obtain ⟨f_is_there, fd_is_there, G_is_there, m_is_there, k_is_there, b_is_there⟩ := D_is_there.ex
  have b0 := F0.binds (ps := ["house", "record", "ends", "beyond"]) fun _ _ _ _ _ _ us hl => match us, hl with | [_, _, _, _], _ => rfl
  refine ⟨⟨f, fd, F0.ok (k := 3) sc_record_end (fun vs H Q E h => ?len) (fun cdv A outer s H vs Q E hr h => ⟨t_record_end K c, ?term, ?pu⟩), mf, F0.kp, b0⟩⟩
  case len => obtain ⟨a, b, d, e, rfl, h⟩ := sp4_of h; rfl
  case term => have hu := hu_of hr; exact (pss_cons (ps_if (pt_not (pt_val (pe_call G_is_there (hr.mono (by decide)) rfl m_is_there k_is_there b_is_there .nil pass0 (pa_cons (pv 1) pa_nil)))) (pss_one (ps_ret (pe_fld (pv 1) rfl))) pss_nil) (pss_cons (ps_if (pt_val (pe_call G_is_held (hr.mono (by decide)) rfl m_is_held k_is_held b_is_held .nil pass0 (pa_cons (pv 0) (pa_cons (pv 1) pa_nil)))) (pss_one (ps_ret (pv 3))) pss_nil) (pss_cons (ps_set (i := 4) sc_record_end.nd rfl (Or.inl rfl) (pe_fld (pv 0) rfl)) (pss_cons (ps_lock (ps_for PassesOwn.never rfl (pi_values (pe_fld (pv 0) rfl)) (pg_name (i := 5) sc_record_end.nd rfl (Or.inl rfl)) (pss_one (ps_if (pt_val (pe_call G_stands_for (hr.mono (by decide)) rfl m_stands_for k_stands_for b_stands_for .nil pass0 (pa_cons (pv 5) (pa_cons (pv 1) pa_nil)))) (pss_one (ps_set (i := 4) sc_record_end.nd rfl (Or.inl rfl) (pe_callB (call_max2 rfl) rfl T.b_max (by decide +kernel) (pa_cons (pv 4) (pa_cons (pe_call G_ground_end (hr.mono (by decide)) rfl m_ground_end k_ground_end b_ground_end .nil pass0 (pa_cons (pv 5) (pa_cons (pv 1) (pa_cons (pv 2) (pa_cons (pv 3) pa_nil))))) pa_nil))))) pss_nil)))) (pss_one (ps_ret (pv 4)))))))
  case pu => obtain ⟨a, b, d, e, rfl, h⟩ := sp4_of h; exact pure a b d e H Q h
abbrev s_days_of_going : Stmt := topS 46
theorem sc_days_of_going : FnScope ["house", "beyond", "ends", "record", "end"] ["house"] (defScope s_days_of_going) := ⟨rfl, rfl, rfl, by decide +kernel, rfl, by decide +kernel, by decide +kernel⟩
abbrev sp_days_of_going (K : PySem.W.Frag) (c : Cs) : Sp := (sp1 (pr_days_of_going c))
def t_days_of_going (K : PySem.W.Frag) (c : Cs) : TS := (tSeq (tAsg (tOp rAddI (tOp rAddI (tFld K (tVar 0) "today") (tC (.int 400))) (tC (.int 1))) (gName 1)) (tSeq (tAsg (tLst tNil) (gName 2)) (tSeq (tFor (iList K (tFld K (tVar 0) "records")) (gName 3) (tDrop (tBM K "list" rAppend (tVar 2) (tCons (tCall (sp_record_end K c) [] E0 (tCons (tVar 0) (tCons (tVar 3) (tCons (tVar 2) (tCons (tVar 1) tNil))))) tNil)))) (tRet (tLc (iList K (tVar 2)) (gName 4) tYes (tIf (tTest (tOp rEq (tVar 4) (tVar 1))) (tC .non) (tVar 4)) [4])))))
theorem ok_days_of_going {P : Program} {w : World} {K : PySem.W.Frag} {mg : Str → Option Value} {base : Heap} {c : Cs} (T : TopTxt K w mg c) (F : FunAt K mg "days_of_going" s_days_of_going) (D_record_end : Def P w K mg base "record_end" 4 ["house", "record", "ends", "beyond"] (sp_record_end K c)) (pure : ∀ a H Q, pr_days_of_going c a H Q → t_days_of_going K c { nx := fun _ H' => Q .non H', rt := Q } (start ["house", "beyond", "ends", "record", "end"] [a]) H) : Def P w K mg base "days_of_going" 5 ["house"] (sp_days_of_going K c) := by
  obtain ⟨f, fd, F0, mf⟩ := F.ex
  obtain ⟨f_record_end, fd_record_end, G_record_end, m_record_end, k_record_end, b_record_end⟩ := D_record_end.ex
  have b0 := F0.binds (ps := ["house"]) fun _ _ _ _ _ _ us hl => match us, hl with | [_], _ => rfl
  refine ⟨⟨f, fd, F0.ok (k := 4) sc_days_of_going (fun vs H Q E h => ?len) (fun cdv A outer s H vs Q E hr h => ⟨t_days_of_going K c, ?term, ?pu⟩), mf, F0.kp, b0⟩⟩
  case len => obtain ⟨a, rfl, h⟩ := sp1_of h; rfl
  case term => have hu := hu_of hr; exact (pss_cons (ps_set (i := 1) sc_days_of_going.nd rfl (Or.inr rfl) (pe_op op_add (pe_op op_add (pe_fld (pv 0) rfl) (pe_gv rfl T.g_DAYS_AHEAD)) pe_int)) (pss_cons (ps_set (i := 2) sc_days_of_going.nd rfl (Or.inl rfl) (pe_lst pa_nil)) (pss_cons (ps_for PassesOwn.never rfl (pi_list (pe_fld (pv 0) rfl)) (pg_name (i := 3) sc_days_of_going.nd rfl (Or.inl rfl)) (pss_one (ps_expr (pe_bm PySem.F.plainAttrs_list PySem.F.slot_list_append PySem.F.type_list_append mt_append (pv 2) (pa_cons (pe_call G_record_end (hr.mono (by decide)) rfl m_record_end k_record_end b_record_end .nil pass0 (pa_cons (pv 0) (pa_cons (pv 3) (pa_cons (pv 2) (pa_cons (pv 1) pa_nil))))) pa_nil))))) (pss_one (ps_ret (pe_lc (own := [("end", 4)]) (g := gName 4) (tt := tYes) rfl sc_days_of_going.nd (pi_list (pv 2)) (blkOk_by (N := ["house", "beyond", "ends", "record", "end"]) (sc := defScope s_days_of_going) (by decide +kernel)) (fun _ _ _ _ _ => pg_name (i := 4) sc_days_of_going.nd rfl (Or.inl rfl)) (fun _ _ _ _ _ => pts_nil) (fun _ _ _ _ _ => (pe_ifExp (pt_cmpR op_eq (pv 4) (pv 1) (nomark _)) pe_non (pv 4)))))))))
  case pu => obtain ⟨a, rfl, h⟩ := sp1_of h; exact pure a H Q h
abbrev s_record_refusal : Stmt := topS 49
theorem sc_record_refusal : FnScope ["house", "number"] ["house", "number"] (defScope s_record_refusal) := ⟨rfl, rfl, rfl, by decide +kernel, rfl, by decide +kernel, by decide +kernel⟩
abbrev sp_record_refusal (K : PySem.W.Frag) (c : Cs) : Sp := (sp2 (pr_record_refusal c))
def t_record_refusal (K : PySem.W.Frag) (c : Cs) : TS := (tSeq (tIfS (tTest (tOp rGe (tVar 1) (tCB (rLenL K) (tCons (tFld K (tVar 0) "records") tNil)))) (tRet (tC (.str "no record"))) tNext) (tSeq (tIfS (tNot (tB (tCall (sp_is_there K c) [] E0 (tCons (tOp (rIxL K) (tFld K (tVar 0) "records") (tVar 1)) tNil)))) (tRet (tC (.str "no gone"))) tNext) (tRet (tC .non))))
theorem ok_record_refusal {P : Program} {w : World} {K : PySem.W.Frag} {mg : Str → Option Value} {base : Heap} {c : Cs} (T : TopTxt K w mg c) (F : FunAt K mg "record_refusal" s_record_refusal) (D_is_there : Def P w K mg base "is_there" 1 ["record"] (sp_is_there K c)) (pure : ∀ a b H Q, pr_record_refusal c a b H Q → t_record_refusal K c { nx := fun _ H' => Q .non H', rt := Q } (start ["house", "number"] [a, b]) H) : Def P w K mg base "record_refusal" 2 ["house", "number"] (sp_record_refusal K c) := by
  obtain ⟨f, fd, F0, mf⟩ := F.ex
  obtain ⟨f_is_there, fd_is_there, G_is_there, m_is_there, k_is_there, b_is_there⟩ := D_is_there.ex
  have b0 := F0.binds (ps := ["house", "number"]) fun _ _ _ _ _ _ us hl => match us, hl with | [_, _], _ => rfl
  refine ⟨⟨f, fd, F0.ok (k := 1) sc_record_refusal (fun vs H Q E h => ?len) (fun cdv A outer s H vs Q E hr h => ⟨t_record_refusal K c, ?term, ?pu⟩), mf, F0.kp, b0⟩⟩
  case len => obtain ⟨a, b, rfl, h⟩ := sp2_of h; rfl
  case term => have hu := hu_of hr; exact (pss_cons (ps_if (pt_cmpR op_ge (pv 1) (pe_callB call_len_seq rfl T.b_len PySem.boot_len (pa_cons (pe_fld (pv 0) rfl) pa_nil)) (nomark _)) (pss_one (ps_ret pe_str)) pss_nil) (pss_cons (ps_if (pt_not (pt_val (pe_call G_is_there (hr.mono (by decide)) rfl m_is_there k_is_there b_is_there .nil pass0 (pa_cons (pe_ix ix_list (pe_fld (pv 0) rfl) (pv 1) (fun _ _ => rfl)) pa_nil)))) (pss_one (ps_ret pe_str)) pss_nil) (pss_one (ps_ret pe_non))))
  case pu => obtain ⟨a, b, rfl, h⟩ := sp2_of h; exact pure a b H Q h
abbrev s_init_Store : Stmt := inClass (topS 19) 0
theorem sc_init_Store : FnScope ["self", "name", "way", "turn"] ["self", "name", "way", "turn"] (defScope s_init_Store) := ⟨rfl, rfl, rfl, by decide +kernel, rfl, by decide +kernel, by decide +kernel⟩
abbrev spI_Store (K : PySem.W.Frag) (c : Cs) : Sp := (sp4 (prI_Store c))
def t_init_Store (K : PySem.W.Frag) (c : Cs) : TS := (tSeq (sFld K (tVar 0) (tVar 1) "name") (tSeq (sFld K (tVar 0) (tVar 2) "way") (tSeq (sFld K (tVar 0) (tVar 3) "turn") (sFld K (tVar 0) (tC (.bl true)) "hears"))))
theorem ok_init_Store {P : Program} {w : World} {K : PySem.W.Frag} {mg : Str → Option Value} {base : Heap} {c : Cs} (T : TopTxt K w mg c) (F : InitAt K c.Store "Store.__init__" s_init_Store) (pure : ∀ a b d e H Q, prI_Store c a b d e H Q → t_init_Store K c { nx := fun _ H' => Q .non H', rt := Q } (start ["self", "name", "way", "turn"] [a, b, d, e]) H) : MadeBy P w K mg base c.Store 1 ["self", "name", "way", "turn"] (spI_Store K c) := by
  obtain ⟨f, fd, M0, F0⟩ := F.ex
  have b0 := F0.binds (ps := ["self", "name", "way", "turn"]) fun _ _ _ _ _ _ us hl => match us, hl with | [_, _, _, _], _ => rfl
  refine ⟨⟨f, fd, M0, F0.ok (k := 0) sc_init_Store (fun vs H Q E h => ?len) (fun cdv A outer s H vs Q E hr h => ⟨t_init_Store K c, ?term, ?pu⟩), b0⟩⟩
  case len => obtain ⟨a, b, d, e, rfl, h⟩ := sp4_of h; rfl
  case term => have hu := hu_of hr; exact (pss_cons (ps_fld (pv 0) (pv 1) rfl) (pss_cons (ps_fld (pv 0) (pv 2) rfl) (pss_cons (ps_fld (pv 0) (pv 3) rfl) (pss_one (ps_fld (pv 0) pe_bl rfl)))))
  case pu => obtain ⟨a, b, d, e, rfl, h⟩ := sp4_of h; exact pure a b d e H Q h
abbrev s_init_Copy : Stmt := inClass (topS 20) 0
theorem sc_init_Copy : FnScope ["self", "store"] ["self", "store"] (defScope s_init_Copy) := ⟨rfl, rfl, rfl, by decide +kernel, rfl, by decide +kernel, by decide +kernel⟩
abbrev spI_Copy (K : PySem.W.Frag) (c : Cs) : Sp := (sp2 (prI_Copy c))
def t_init_Copy (K : PySem.W.Frag) (c : Cs) : TS := (tSeq (sFld K (tVar 0) (tVar 1) "store") (tSeq (sFld K (tVar 0) (tC (.str "there")) "state") (sFld K (tVar 0) (tC .non) "day")))
theorem ok_init_Copy {P : Program} {w : World} {K : PySem.W.Frag} {mg : Str → Option Value} {base : Heap} {c : Cs} (T : TopTxt K w mg c) (F : InitAt K c.Copy "Copy.__init__" s_init_Copy) (pure : ∀ a b H Q, prI_Copy c a b H Q → t_init_Copy K c { nx := fun _ H' => Q .non H', rt := Q } (start ["self", "store"] [a, b]) H) : MadeBy P w K mg base c.Copy 1 ["self", "store"] (spI_Copy K c) := by
  obtain ⟨f, fd, M0, F0⟩ := F.ex
  have b0 := F0.binds (ps := ["self", "store"]) fun _ _ _ _ _ _ us hl => match us, hl with | [_, _], _ => rfl
  refine ⟨⟨f, fd, M0, F0.ok (k := 0) sc_init_Copy (fun vs H Q E h => ?len) (fun cdv A outer s H vs Q E hr h => ⟨t_init_Copy K c, ?term, ?pu⟩), b0⟩⟩
  case len => obtain ⟨a, b, rfl, h⟩ := sp2_of h; rfl
  case term => have hu := hu_of hr; exact (pss_cons (ps_fld (pv 0) (pv 1) rfl) (pss_cons (ps_fld (pv 0) pe_str rfl) (pss_one (ps_fld (pv 0) pe_non rfl))))
  case pu => obtain ⟨a, b, rfl, h⟩ := sp2_of h; exact pure a b H Q h
abbrev s_init_Record : Stmt := inClass (topS 21) 0
theorem sc_init_Record : FnScope ["self", "number", "person", "kind", "sources", "house"] ["self", "number", "person", "kind", "sources", "house"] (defScope s_init_Record) := ⟨rfl, rfl, rfl, by decide +kernel, rfl, by decide +kernel, by decide +kernel⟩
abbrev spI_Record (K : PySem.W.Frag) (c : Cs) : Sp := (sp6 (prI_Record c))
def t_init_Record (K : PySem.W.Frag) (c : Cs) : TS := (tSeq (sFld K (tVar 0) (tVar 1) "number") (tSeq (sFld K (tVar 0) (tVar 2) "person") (tSeq (sFld K (tVar 0) (tVar 3) "kind") (tSeq (sFld K (tVar 0) (tFld K (tVar 5) "today") "made") (tSeq (sFld K (tVar 0) (tFld K (tVar 5) "today") "used") (tSeq (sFld K (tVar 0) (tVar 4) "sources") (tSeq (sFld K (tVar 0) (tC .non) "gone_on") (sFld K (tVar 0) (tLst (tCons (tMake c.Copy (spI_Copy K c) [] E0 (tCons (tFld K (tVar 5) "main") tNil)) tNil)) "copies"))))))))
theorem ok_init_Record {P : Program} {w : World} {K : PySem.W.Frag} {mg : Str → Option Value} {base : Heap} {c : Cs} (T : TopTxt K w mg c) (F : InitAt K c.Record "Record.__init__" s_init_Record) (DI_Copy : MadeBy P w K mg base c.Copy 1 ["self", "store"] (spI_Copy K c)) (pure : ∀ a b d e g i H Q, prI_Record c a b d e g i H Q → t_init_Record K c { nx := fun _ H' => Q .non H', rt := Q } (start ["self", "number", "person", "kind", "sources", "house"] [a, b, d, e, g, i]) H) : MadeBy P w K mg base c.Record 3 ["self", "number", "person", "kind", "sources", "house"] (spI_Record K c) := by
  obtain ⟨f, fd, M0, F0⟩ := F.ex
  obtain ⟨fI_Copy, fdI_Copy, M_Copy, GI_Copy, bI_Copy⟩ := DI_Copy.ex
  have b0 := F0.binds (ps := ["self", "number", "person", "kind", "sources", "house"]) fun _ _ _ _ _ _ us hl => match us, hl with | [_, _, _, _, _, _], _ => rfl
  refine ⟨⟨f, fd, M0, F0.ok (k := 2) sc_init_Record (fun vs H Q E h => ?len) (fun cdv A outer s H vs Q E hr h => ⟨t_init_Record K c, ?term, ?pu⟩), b0⟩⟩
  case len => obtain ⟨a, b, d, e, g, i, rfl, h⟩ := sp6_of h; rfl
  case term => have hu := hu_of hr; exact (pss_cons (ps_fld (pv 0) (pv 1) rfl) (pss_cons (ps_fld (pv 0) (pv 2) rfl) (pss_cons (ps_fld (pv 0) (pv 3) rfl) (pss_cons (ps_fld (pv 0) (pe_fld (pv 5) rfl) rfl) (pss_cons (ps_fld (pv 0) (pe_fld (pv 5) rfl) rfl) (pss_cons (ps_fld (pv 0) (pv 4) rfl) (pss_cons (ps_fld (pv 0) pe_non rfl) (pss_one (ps_fld (pv 0) (pe_lst (pa_cons (pe_make M_Copy GI_Copy (hr.mono (by decide)) rfl T.m_Copy bI_Copy .nil pass0 (pa_cons (pe_fld (pv 5) rfl) pa_nil)) pa_nil)) rfl)))))))))
  case pu => obtain ⟨a, b, d, e, g, i, rfl, h⟩ := sp6_of h; exact pure a b d e g i H Q h
abbrev s_init_House : Stmt := inClass (topS 16) 0
theorem sc_init_House : FnScope ["self"] ["self"] (defScope s_init_House) := ⟨rfl, rfl, rfl, by decide +kernel, rfl, by decide +kernel, by decide +kernel⟩
abbrev spI_House (K : PySem.W.Frag) (c : Cs) : Sp := (sp1 (prI_House c))
def t_init_House (K : PySem.W.Frag) (c : Cs) : TS := (tSeq (sFld K (tVar 0) (tC (.int 0)) "today") (tSeq (sFld K (tVar 0) (tMake c.Store (spI_Store K c) [] E0 (tCons (tC (.str "main")) (tCons (tC (.str "main")) (tCons (tC (.int 0)) tNil)))) "main") (tSeq (sFld K (tVar 0) tDNewK "people") (tSeq (sFld K (tVar 0) tDNewK "grounds") (tSeq (sFld K (tVar 0) tDNewK "stores") (tSeq (sFld K (tVar 0) (tLst tNil) "records") (sFld K (tVar 0) tDNewK "holds")))))))
theorem ok_init_House {P : Program} {w : World} {K : PySem.W.Frag} {mg : Str → Option Value} {base : Heap} {c : Cs} (T : TopTxt K w mg c) (F : InitAt K c.House "House.__init__" s_init_House) (DI_Store : MadeBy P w K mg base c.Store 1 ["self", "name", "way", "turn"] (spI_Store K c)) (pure : ∀ a H Q, prI_House c a H Q → t_init_House K c { nx := fun _ H' => Q .non H', rt := Q } (start ["self"] [a]) H) : MadeBy P w K mg base c.House 3 ["self"] (spI_House K c) := by
  obtain ⟨f, fd, M0, F0⟩ := F.ex
  obtain ⟨fI_Store, fdI_Store, M_Store, GI_Store, bI_Store⟩ := DI_Store.ex
  have b0 := F0.binds (ps := ["self"]) fun _ _ _ _ _ _ us hl => match us, hl with | [_], _ => rfl
  refine ⟨⟨f, fd, M0, F0.ok (k := 2) sc_init_House (fun vs H Q E h => ?len) (fun cdv A outer s H vs Q E hr h => ⟨t_init_House K c, ?term, ?pu⟩), b0⟩⟩
  case len => obtain ⟨a, rfl, h⟩ := sp1_of h; rfl
  case term => have hu := hu_of hr; exact (pss_cons (ps_fld (pv 0) pe_int rfl) (pss_cons (ps_fld (pv 0) (pe_make M_Store GI_Store (hr.mono (by decide)) rfl T.m_Store bI_Store .nil pass0 (pa_cons pe_str (pa_cons pe_str (pa_cons pe_int pa_nil)))) rfl) (pss_cons (ps_fld (pv 0) pe_dnewK rfl) (pss_cons (ps_fld (pv 0) pe_dnewK rfl) (pss_cons (ps_fld (pv 0) pe_dnewK rfl) (pss_cons (ps_fld (pv 0) (pe_lst pa_nil) rfl) (pss_one (ps_fld (pv 0) pe_dnewK rfl))))))))
  case pu => obtain ⟨a, rfl, h⟩ := sp1_of h; exact pure a H Q h
abbrev s_add_record : Stmt := topS 50
theorem sc_add_record : FnScope ["house", "person", "kind", "sources", "number", "record"] ["house", "person", "kind", "sources"] (defScope s_add_record) := ⟨rfl, rfl, rfl, by decide +kernel, rfl, by decide +kernel, by decide +kernel⟩
abbrev sp_add_record (K : PySem.W.Frag) (c : Cs) : Sp := (sp4 (pr_add_record c))
def t_add_record (K : PySem.W.Frag) (c : Cs) : TS := (tSeq (tAsg (tCB (rLenL K) (tCons (tFld K (tVar 0) "records") tNil)) (gName 4)) (tSeq (tAsg (tMake c.Record (spI_Record K c) [] E0 (tCons (tVar 4) (tCons (tVar 1) (tCons (tVar 2) (tCons (tVar 3) (tCons (tVar 0) tNil)))))) (gName 5)) (tSeq (tIfS (tNot (tB (tCall (sp_may_be_kept K c) [] E0 (tCons (tVar 0) (tCons (tVar 5) tNil))))) (tRet (tC (.str "no ground"))) tNext) (tSeq (tIfS (tTest (tOp rGe (tVar 4) (tC (.int 16)))) (tRet (tC (.str "no many"))) tNext) (tSeq (tDrop (tBM K "list" rAppend (tFld K (tVar 0) "records") (tCons (tVar 5) tNil))) (tSeq (tDrop (tCall (sp_all_goes K c) [] E0 (tCons (tVar 0) tNil))) (tRet (tJd [(tC (.str "ok ")), (tFmt (tVar 4))]))))))))
theorem ok_add_record {P : Program} {w : World} {K : PySem.W.Frag} {mg : Str → Option Value} {base : Heap} {c : Cs} (T : TopTxt K w mg c) (F : FunAt K mg "add_record" s_add_record) (D_all_goes : Def P w K mg base "all_goes" 6 ["house"] (sp_all_goes K c)) (D_may_be_kept : Def P w K mg base "may_be_kept" 5 ["house", "record"] (sp_may_be_kept K c)) (DI_Record : MadeBy P w K mg base c.Record 3 ["self", "number", "person", "kind", "sources", "house"] (spI_Record K c)) (pure : ∀ a b d e H Q, pr_add_record c a b d e H Q → t_add_record K c { nx := fun _ H' => Q .non H', rt := Q } (start ["house", "person", "kind", "sources", "number", "record"] [a, b, d, e]) H) : Def P w K mg base "add_record" 7 ["house", "person", "kind", "sources"] (sp_add_record K c) := by
  obtain ⟨f, fd, F0, mf⟩ := F.ex
  obtain ⟨f_all_goes, fd_all_goes, G_all_goes, m_all_goes, k_all_goes, b_all_goes⟩ := D_all_goes.ex
  obtain ⟨f_may_be_kept, fd_may_be_kept, G_may_be_kept, m_may_be_kept, k_may_be_kept, b_may_be_kept⟩ := D_may_be_kept.ex
  obtain ⟨fI_Record, fdI_Record, M_Record, GI_Record, bI_Record⟩ := DI_Record.ex
  have b0 := F0.binds (ps := ["house", "person", "kind", "sources"]) fun _ _ _ _ _ _ us hl => match us, hl with | [_, _, _, _], _ => rfl
  refine ⟨⟨f, fd, F0.ok (k := 6) sc_add_record (fun vs H Q E h => ?len) (fun cdv A outer s H vs Q E hr h => ⟨t_add_record K c, ?term, ?pu⟩), mf, F0.kp, b0⟩⟩
  case len => obtain ⟨a, b, d, e, rfl, h⟩ := sp4_of h; rfl
  case term => have hu := hu_of hr; exact (pss_cons (ps_set (i := 4) sc_add_record.nd rfl (Or.inl rfl) (pe_callB call_len_seq rfl T.b_len PySem.boot_len (pa_cons (pe_fld (pv 0) rfl) pa_nil))) (pss_cons (ps_set (i := 5) sc_add_record.nd rfl (Or.inl rfl) (pe_make M_Record GI_Record (hr.mono (by decide)) rfl T.m_Record bI_Record .nil pass0 (pa_cons (pv 4) (pa_cons (pv 1) (pa_cons (pv 2) (pa_cons (pv 3) (pa_cons (pv 0) pa_nil))))))) (pss_cons (ps_if (pt_not (pt_val (pe_call G_may_be_kept (hr.mono (by decide)) rfl m_may_be_kept k_may_be_kept b_may_be_kept .nil pass0 (pa_cons (pv 0) (pa_cons (pv 5) pa_nil))))) (pss_one (ps_ret pe_str)) pss_nil) (pss_cons (ps_if (pt_cmpR op_ge (pv 4) (pe_gv rfl T.g_MOST_RECORDS) (nomark _)) (pss_one (ps_ret pe_str)) pss_nil) (pss_cons (ps_expr (pe_bm PySem.F.plainAttrs_list PySem.F.slot_list_append PySem.F.type_list_append mt_append (pe_fld (pv 0) rfl) (pa_cons (pv 5) pa_nil))) (pss_cons (ps_expr (pe_call G_all_goes (hr.mono (by decide)) rfl m_all_goes k_all_goes b_all_goes .nil pass0 (pa_cons (pv 0) pa_nil))) (pss_one (ps_ret (pe_joined (.cons pe_str (.cons (pe_fmt (pv 4)) .nil)))))))))))
  case pu => obtain ⟨a, b, d, e, rfl, h⟩ := sp4_of h; exact pure a b d e H Q h
abbrev s_put_record : Stmt := topS 51
theorem sc_put_record : FnScope ["house", "things", "person"] ["house", "things"] (defScope s_put_record) := ⟨rfl, rfl, rfl, by decide +kernel, rfl, by decide +kernel, by decide +kernel⟩
abbrev sp_put_record (K : PySem.W.Frag) (c : Cs) : Sp := (sp2 (pr_put_record c))
def t_put_record (K : PySem.W.Frag) (c : Cs) : TS := (tSeq (tAsg (tDGet1 (tFld K (tVar 0) "people") (tOp (rIxL K) (tVar 1) (tC (.int 0)))) (gName 2)) (tSeq (tIfS (tB (tIsN (tVar 2))) (tRet (tC (.str "no person"))) tNext) (tRet (tCall (sp_add_record K c) [] E0 (tCons (tVar 0) (tCons (tVar 2) (tCons (tOp (rIxL K) (tVar 1) (tC (.int 1))) (tCons (tLst tNil) tNil))))))))
theorem ok_put_record {P : Program} {w : World} {K : PySem.W.Frag} {mg : Str → Option Value} {base : Heap} {c : Cs} (T : TopTxt K w mg c) (F : FunAt K mg "put_record" s_put_record) (D_add_record : Def P w K mg base "add_record" 7 ["house", "person", "kind", "sources"] (sp_add_record K c)) (pure : ∀ a b H Q, pr_put_record c a b H Q → t_put_record K c { nx := fun _ H' => Q .non H', rt := Q } (start ["house", "things", "person"] [a, b]) H) : Def P w K mg base "put_record" 8 ["house", "things"] (sp_put_record K c) := by
  obtain ⟨f, fd, F0, mf⟩ := F.ex
  obtain ⟨f_add_record, fd_add_record, G_add_record, m_add_record, k_add_record, b_add_record⟩ := D_add_record.ex
  have b0 := F0.binds (ps := ["house", "things"]) fun _ _ _ _ _ _ us hl => match us, hl with | [_, _], _ => rfl
  refine ⟨⟨f, fd, F0.ok (k := 7) sc_put_record (fun vs H Q E h => ?len) (fun cdv A outer s H vs Q E hr h => ⟨t_put_record K c, ?term, ?pu⟩), mf, F0.kp, b0⟩⟩
  case len => obtain ⟨a, b, rfl, h⟩ := sp2_of h; rfl
  case term => have hu := hu_of hr; exact (pss_cons (ps_set (i := 2) sc_put_record.nd rfl (Or.inl rfl) (pe_dget1 hu (pe_fld (pv 0) rfl) (pe_ix ix_list (pv 1) pe_int (fun _ _ => rfl)) ⟨rfl, rfl, rfl, rfl⟩)) (pss_cons (ps_if (pt_cmp (pc_isN (pv 2))) (pss_one (ps_ret pe_str)) pss_nil) (pss_one (ps_ret (pe_call G_add_record (hr.mono (by decide)) rfl m_add_record k_add_record b_add_record .nil pass0 (pa_cons (pv 0) (pa_cons (pv 2) (pa_cons (pe_ix ix_list (pv 1) pe_int (fun _ _ => rfl)) (pa_cons (pe_lst pa_nil) pa_nil)))))))))
  case pu => obtain ⟨a, b, rfl, h⟩ := sp2_of h; exact pure a b H Q h
abbrev s_make_record : Stmt := topS 52
theorem sc_make_record : FnScope ["house", "things", "person", "numbers", "number"] ["house", "things"] (defScope s_make_record) := ⟨rfl, rfl, rfl, by decide +kernel, rfl, by decide +kernel, by decide +kernel⟩
abbrev sp_make_record (K : PySem.W.Frag) (c : Cs) : Sp := (sp2 (pr_make_record c))
def t_make_record (K : PySem.W.Frag) (c : Cs) : TS := (tSeq (tAsg (tDGet1 (tFld K (tVar 0) "people") (tOp (rIxL K) (tVar 1) (tC (.int 0)))) (gName 2)) (tSeq (tAsg (tOp (rIxL K) (tVar 1) (tC (.int 2))) (gName 3)) (tSeq (tIfS (tB (tIsN (tVar 2))) (tRet (tC (.str "no person"))) tNext) (tSeq (tFor (iList K (tVar 3)) (gName 4) (tIfS (tB (tNotN (tCall (sp_record_refusal K c) [] E0 (tCons (tVar 0) (tCons (tVar 4) tNil))))) (tRet (tC (.str "no record"))) tNext)) (tRet (tCall (sp_add_record K c) [] E0 (tCons (tVar 0) (tCons (tVar 2) (tCons (tOp (rIxL K) (tVar 1) (tC (.int 1))) (tCons (tLc (iList K (tVar 3)) (gName 4) tYes (tOp (rIxL K) (tFld K (tVar 0) "records") (tVar 4)) [4]) tNil))))))))))
theorem ok_make_record {P : Program} {w : World} {K : PySem.W.Frag} {mg : Str → Option Value} {base : Heap} {c : Cs} (T : TopTxt K w mg c) (F : FunAt K mg "make_record" s_make_record) (D_add_record : Def P w K mg base "add_record" 7 ["house", "person", "kind", "sources"] (sp_add_record K c)) (D_record_refusal : Def P w K mg base "record_refusal" 2 ["house", "number"] (sp_record_refusal K c)) (pure : ∀ a b H Q, pr_make_record c a b H Q → t_make_record K c { nx := fun _ H' => Q .non H', rt := Q } (start ["house", "things", "person", "numbers", "number"] [a, b]) H) : Def P w K mg base "make_record" 8 ["house", "things"] (sp_make_record K c) := by
  obtain ⟨f, fd, F0, mf⟩ := F.ex
  obtain ⟨f_add_record, fd_add_record, G_add_record, m_add_record, k_add_record, b_add_record⟩ := D_add_record.ex
  obtain ⟨f_record_refusal, fd_record_refusal, G_record_refusal, m_record_refusal, k_record_refusal, b_record_refusal⟩ := D_record_refusal.ex
  have b0 := F0.binds (ps := ["house", "things"]) fun _ _ _ _ _ _ us hl => match us, hl with | [_, _], _ => rfl
  refine ⟨⟨f, fd, F0.ok (k := 7) sc_make_record (fun vs H Q E h => ?len) (fun cdv A outer s H vs Q E hr h => ⟨t_make_record K c, ?term, ?pu⟩), mf, F0.kp, b0⟩⟩
  case len => obtain ⟨a, b, rfl, h⟩ := sp2_of h; rfl
  case term => have hu := hu_of hr; exact (pss_cons (ps_set (i := 2) sc_make_record.nd rfl (Or.inl rfl) (pe_dget1 hu (pe_fld (pv 0) rfl) (pe_ix ix_list (pv 1) pe_int (fun _ _ => rfl)) ⟨rfl, rfl, rfl, rfl⟩)) (pss_cons (ps_set (i := 3) sc_make_record.nd rfl (Or.inl rfl) (pe_ix ix_list (pv 1) pe_int (fun _ _ => rfl))) (pss_cons (ps_if (pt_cmp (pc_isN (pv 2))) (pss_one (ps_ret pe_str)) pss_nil) (pss_cons (ps_for PassesOwn.never rfl (pi_list (pv 3)) (pg_name (i := 4) sc_make_record.nd rfl (Or.inl rfl)) (pss_one (ps_if (pt_cmp (pc_notN (pe_call G_record_refusal (hr.mono (by decide)) rfl m_record_refusal k_record_refusal b_record_refusal .nil pass0 (pa_cons (pv 0) (pa_cons (pv 4) pa_nil))))) (pss_one (ps_ret pe_str)) pss_nil))) (pss_one (ps_ret (pe_call G_add_record (hr.mono (by decide)) rfl m_add_record k_add_record b_add_record .nil pass0 (pa_cons (pv 0) (pa_cons (pv 2) (pa_cons (pe_ix ix_list (pv 1) pe_int (fun _ _ => rfl)) (pa_cons (pe_lc (own := [("number", 4)]) (g := gName 4) (tt := tYes) rfl sc_make_record.nd (pi_list (pv 3)) (blkOk_by (N := ["house", "things", "person", "numbers", "number"]) (sc := defScope s_make_record) (by decide +kernel)) (fun _ _ _ _ _ => pg_name (i := 4) sc_make_record.nd rfl (Or.inl rfl)) (fun _ _ _ _ _ => pts_nil) (fun _ _ _ _ _ => (pe_ix ix_list (pe_fld (pv 0) rfl) (pv 4) (fun _ _ => rfl)))) pa_nil)))))))))))
  case pu => obtain ⟨a, b, rfl, h⟩ := sp2_of h; exact pure a b H Q h
abbrev s_copy_record : Stmt := topS 53
theorem sc_copy_record : FnScope ["house", "things", "refusal", "record", "store", "kept"] ["house", "things"] (defScope s_copy_record) := ⟨rfl, rfl, rfl, by decide +kernel, rfl, by decide +kernel, by decide +kernel⟩
abbrev sp_copy_record (K : PySem.W.Frag) (c : Cs) : Sp := (sp2 (pr_copy_record c))
def t_copy_record (K : PySem.W.Frag) (c : Cs) : TS := (tSeq (tAsg (tCall (sp_record_refusal K c) [] E0 (tCons (tVar 0) (tCons (tOp (rIxL K) (tVar 1) (tC (.int 0))) tNil))) (gName 2)) (tSeq (tIfS (tB (tNotN (tVar 2))) (tRet (tVar 2)) tNext) (tSeq (tAsg (tOp (rIxL K) (tFld K (tVar 0) "records") (tOp (rIxL K) (tVar 1) (tC (.int 0)))) (gName 3)) (tSeq (tAsg (tDGet1 (tFld K (tVar 0) "stores") (tOp (rIxL K) (tVar 1) (tC (.int 1)))) (gName 4)) (tSeq (tIfS (tB (tIsN (tVar 4))) (tRet (tC (.str "no store"))) tNext) (tSeq (tIfS (tTest (tOp (rIn K false) (tFld K (tVar 4) "name") (tLc (iList K (tFld K (tVar 3) "copies")) (gName 5) tYes (tFld K (tFld K (tVar 5) "store") "name") [5]))) (tRet (tC (.str "no change"))) tNext) (tSeq (tDrop (tBM K "list" rAppend (tFld K (tVar 3) "copies") (tCons (tMake c.Copy (spI_Copy K c) [] E0 (tCons (tVar 4) tNil)) tNil))) (tRet (tC (.str "ok"))))))))))
theorem ok_copy_record {P : Program} {w : World} {K : PySem.W.Frag} {mg : Str → Option Value} {base : Heap} {c : Cs} (T : TopTxt K w mg c) (F : FunAt K mg "copy_record" s_copy_record) (D_record_refusal : Def P w K mg base "record_refusal" 2 ["house", "number"] (sp_record_refusal K c)) (DI_Copy : MadeBy P w K mg base c.Copy 1 ["self", "store"] (spI_Copy K c)) (pure : ∀ a b H Q, pr_copy_record c a b H Q → t_copy_record K c { nx := fun _ H' => Q .non H', rt := Q } (start ["house", "things", "refusal", "record", "store", "kept"] [a, b]) H) : Def P w K mg base "copy_record" 3 ["house", "things"] (sp_copy_record K c) := by
  obtain ⟨f, fd, F0, mf⟩ := F.ex
  obtain ⟨f_record_refusal, fd_record_refusal, G_record_refusal, m_record_refusal, k_record_refusal, b_record_refusal⟩ := D_record_refusal.ex
  obtain ⟨fI_Copy, fdI_Copy, M_Copy, GI_Copy, bI_Copy⟩ := DI_Copy.ex
  have b0 := F0.binds (ps := ["house", "things"]) fun _ _ _ _ _ _ us hl => match us, hl with | [_, _], _ => rfl
  refine ⟨⟨f, fd, F0.ok (k := 2) sc_copy_record (fun vs H Q E h => ?len) (fun cdv A outer s H vs Q E hr h => ⟨t_copy_record K c, ?term, ?pu⟩), mf, F0.kp, b0⟩⟩
  case len => obtain ⟨a, b, rfl, h⟩ := sp2_of h; rfl
  case term => have hu := hu_of hr; exact (pss_cons (ps_set (i := 2) sc_copy_record.nd rfl (Or.inl rfl) (pe_call G_record_refusal (hr.mono (by decide)) rfl m_record_refusal k_record_refusal b_record_refusal .nil pass0 (pa_cons (pv 0) (pa_cons (pe_ix ix_list (pv 1) pe_int (fun _ _ => rfl)) pa_nil)))) (pss_cons (ps_if (pt_cmp (pc_notN (pv 2))) (pss_one (ps_ret (pv 2))) pss_nil) (pss_cons (ps_set (i := 3) sc_copy_record.nd rfl (Or.inl rfl) (pe_ix ix_list (pe_fld (pv 0) rfl) (pe_ix ix_list (pv 1) pe_int (fun _ _ => rfl)) (fun _ _ => rfl))) (pss_cons (ps_set (i := 4) sc_copy_record.nd rfl (Or.inl rfl) (pe_dget1 hu (pe_fld (pv 0) rfl) (pe_ix ix_list (pv 1) pe_int (fun _ _ => rfl)) ⟨rfl, rfl, rfl, rfl⟩)) (pss_cons (ps_if (pt_cmp (pc_isN (pv 4))) (pss_one (ps_ret pe_str)) pss_nil) (pss_cons (ps_if (pt_cmpR op_in_seq (pe_fld (pv 4) rfl) (pe_lc (own := [("kept", 5)]) (g := gName 5) (tt := tYes) rfl sc_copy_record.nd (pi_list (pe_fld (pv 3) rfl)) (blkOk_by (N := ["house", "things", "refusal", "record", "store", "kept"]) (sc := defScope s_copy_record) (by decide +kernel)) (fun _ _ _ _ _ => pg_name (i := 5) sc_copy_record.nd rfl (Or.inl rfl)) (fun _ _ _ _ _ => pts_nil) (fun _ _ _ _ _ => (pe_fld (pe_fld (pv 5) rfl) rfl))) rfl) (pss_one (ps_ret pe_str)) pss_nil) (pss_cons (ps_expr (pe_bm PySem.F.plainAttrs_list PySem.F.slot_list_append PySem.F.type_list_append mt_append (pe_fld (pv 3) rfl) (pa_cons (pe_make M_Copy GI_Copy (hr.mono (by decide)) rfl T.m_Copy bI_Copy .nil pass0 (pa_cons (pv 4) pa_nil)) pa_nil))) (pss_one (ps_ret pe_str)))))))))
  case pu => obtain ⟨a, b, rfl, h⟩ := sp2_of h; exact pure a b H Q h
abbrev s_use_record : Stmt := topS 54
theorem sc_use_record : FnScope ["house", "things", "refusal"] ["house", "things"] (defScope s_use_record) := ⟨rfl, rfl, rfl, by decide +kernel, rfl, by decide +kernel, by decide +kernel⟩
abbrev sp_use_record (K : PySem.W.Frag) (c : Cs) : Sp := (sp2 (pr_use_record c))
def t_use_record (K : PySem.W.Frag) (c : Cs) : TS := (tSeq (tAsg (tCall (sp_record_refusal K c) [] E0 (tCons (tVar 0) (tCons (tOp (rIxL K) (tVar 1) (tC (.int 0))) tNil))) (gName 2)) (tSeq (tIfS (tB (tNotN (tVar 2))) (tRet (tVar 2)) tNext) (tSeq (sFld K (tOp (rIxL K) (tFld K (tVar 0) "records") (tOp (rIxL K) (tVar 1) (tC (.int 0)))) (tFld K (tVar 0) "today") "used") (tSeq (tDrop (tCall (sp_all_goes K c) [] E0 (tCons (tVar 0) tNil))) (tRet (tC (.str "ok")))))))
theorem ok_use_record {P : Program} {w : World} {K : PySem.W.Frag} {mg : Str → Option Value} {base : Heap} {c : Cs} (T : TopTxt K w mg c) (F : FunAt K mg "use_record" s_use_record) (D_all_goes : Def P w K mg base "all_goes" 6 ["house"] (sp_all_goes K c)) (D_record_refusal : Def P w K mg base "record_refusal" 2 ["house", "number"] (sp_record_refusal K c)) (pure : ∀ a b H Q, pr_use_record c a b H Q → t_use_record K c { nx := fun _ H' => Q .non H', rt := Q } (start ["house", "things", "refusal"] [a, b]) H) : Def P w K mg base "use_record" 7 ["house", "things"] (sp_use_record K c) := by
  obtain ⟨f, fd, F0, mf⟩ := F.ex
  obtain ⟨f_all_goes, fd_all_goes, G_all_goes, m_all_goes, k_all_goes, b_all_goes⟩ := D_all_goes.ex
  obtain ⟨f_record_refusal, fd_record_refusal, G_record_refusal, m_record_refusal, k_record_refusal, b_record_refusal⟩ := D_record_refusal.ex
  have b0 := F0.binds (ps := ["house", "things"]) fun _ _ _ _ _ _ us hl => match us, hl with | [_, _], _ => rfl
  refine ⟨⟨f, fd, F0.ok (k := 6) sc_use_record (fun vs H Q E h => ?len) (fun cdv A outer s H vs Q E hr h => ⟨t_use_record K c, ?term, ?pu⟩), mf, F0.kp, b0⟩⟩
  case len => obtain ⟨a, b, rfl, h⟩ := sp2_of h; rfl
  case term => have hu := hu_of hr; exact (pss_cons (ps_set (i := 2) sc_use_record.nd rfl (Or.inl rfl) (pe_call G_record_refusal (hr.mono (by decide)) rfl m_record_refusal k_record_refusal b_record_refusal .nil pass0 (pa_cons (pv 0) (pa_cons (pe_ix ix_list (pv 1) pe_int (fun _ _ => rfl)) pa_nil)))) (pss_cons (ps_if (pt_cmp (pc_notN (pv 2))) (pss_one (ps_ret (pv 2))) pss_nil) (pss_cons (ps_fld (pe_ix ix_list (pe_fld (pv 0) rfl) (pe_ix ix_list (pv 1) pe_int (fun _ _ => rfl)) (fun _ _ => rfl)) (pe_fld (pv 0) rfl) rfl) (pss_cons (ps_expr (pe_call G_all_goes (hr.mono (by decide)) rfl m_all_goes k_all_goes b_all_goes .nil pass0 (pa_cons (pv 0) pa_nil))) (pss_one (ps_ret pe_str))))))
  case pu => obtain ⟨a, b, rfl, h⟩ := sp2_of h; exact pure a b H Q h
abbrev s_pass_days : Stmt := topS 55
theorem sc_pass_days : FnScope ["house", "things", "passed"] ["house", "things"] (defScope s_pass_days) := ⟨rfl, rfl, rfl, by decide +kernel, rfl, by decide +kernel, by decide +kernel⟩
abbrev sp_pass_days (K : PySem.W.Frag) (c : Cs) : Sp := (sp2 (pr_pass_days c))
def t_pass_days (K : PySem.W.Frag) (c : Cs) : TS := (tSeq (tFor (iRng1 (tCons (tOp (rIxL K) (tVar 1) (tC (.int 0))) tNil)) (gName 2) (tDrop (tCall (sp_pass_day K c) [] E0 (tCons (tVar 0) tNil)))) (tRet (tOp rAddS (tC (.str "ok ")) (tCB rStrI (tCons (tFld K (tVar 0) "today") tNil)))))
theorem ok_pass_days {P : Program} {w : World} {K : PySem.W.Frag} {mg : Str → Option Value} {base : Heap} {c : Cs} (T : TopTxt K w mg c) (F : FunAt K mg "pass_days" s_pass_days) (D_pass_day : Def P w K mg base "pass_day" 7 ["house"] (sp_pass_day K c)) (pure : ∀ a b H Q, pr_pass_days c a b H Q → t_pass_days K c { nx := fun _ H' => Q .non H', rt := Q } (start ["house", "things", "passed"] [a, b]) H) : Def P w K mg base "pass_days" 8 ["house", "things"] (sp_pass_days K c) := by
  obtain ⟨f, fd, F0, mf⟩ := F.ex
  obtain ⟨f_pass_day, fd_pass_day, G_pass_day, m_pass_day, k_pass_day, b_pass_day⟩ := D_pass_day.ex
  have b0 := F0.binds (ps := ["house", "things"]) fun _ _ _ _ _ _ us hl => match us, hl with | [_, _], _ => rfl
  refine ⟨⟨f, fd, F0.ok (k := 7) sc_pass_days (fun vs H Q E h => ?len) (fun cdv A outer s H vs Q E hr h => ⟨t_pass_days K c, ?term, ?pu⟩), mf, F0.kp, b0⟩⟩
  case len => obtain ⟨a, b, rfl, h⟩ := sp2_of h; rfl
  case term => have hu := hu_of hr; exact (pss_cons (ps_for PassesOwn.never rfl (pi_range1 rfl T.b_range (pa_cons (pe_ix ix_list (pv 1) pe_int (fun _ _ => rfl)) pa_nil)) (pg_name (i := 2) sc_pass_days.nd rfl (Or.inl rfl)) (pss_one (ps_expr (pe_call G_pass_day (hr.mono (by decide)) rfl m_pass_day k_pass_day b_pass_day .nil pass0 (pa_cons (pv 0) pa_nil))))) (pss_one (ps_ret (pe_op op_add_str pe_str (pe_callTy call_str_int rfl T.b_str (by decide +kernel) (pa_cons (pe_fld (pv 0) rfl) pa_nil))))))
  case pu => obtain ⟨a, b, rfl, h⟩ := sp2_of h; exact pure a b H Q h
end Kr

set_option Elab.async false
set_option linter.all false
set_option maxRecDepth 100000
set_option maxHeartbeats 2000000
namespace Kr
open PySem PySem.Spec PyProof.Rows L2
section
variable {K : PySem.W.Frag} {w : World} {mg : Str → Option Value} {c : Cs}
theorem Rep.Fnone {X : List Tag} {F : Hp} {s : Kp01.House} {L : Tag → Addr} {H : Hp} {p : Addr} (R : Rep c X F s L H) (h : H p = none) : F p = none := by
  cases e : F p with
  | none => rfl
  | some o => have z := R.keep _ _ e; rw [h] at z; cases z
theorem Rep.make {X : List Tag} {F : Hp} {s : Kp01.House} {L : Tag → Addr} {H : Hp} {x dx C : Addr} {o : HO} (R : Rep c X F s L H) (nx : H x = none) (nd : H dx = none) (ne : dx ≠ x) : Rep c X (upd F x o) s L (upd (upd (upd H dx (.own x)) x (.ins C dx [])) x o) := by
  rw [upd_upd]
  have R1 := R.new (o := .own x) nd
  have R2 := R1.new (p := x) (o := o) (by rw [upd_ne ne.symm]; exact nx)
  refine R2.less fun b u hb => ?_
  by_cases z : b = x
  · subst z; rw [upd_same] at hb ⊢; exact hb
  · rw [upd_ne z] at hb ⊢
    rw [upd_ne (fun y => by rw [y, R.Fnone nd] at hb; cases hb)]; exact hb
/-! ### the makers -/
theorem pure_init_Ground (T : TopTxt K w mg c) : ∀ a b d e g i j H Q, prI_Ground c a b d e g i j H Q → t_init_Ground K c (D0 Q) (start ["self", "name", "kind", "basis", "purpose", "span", "event"] [a, b, d, e, g, i, j]) H := by
  rintro _ v1 v2 v3 v4 v5 v6 H Q ⟨a, dx, rfl, h, q⟩
  refine ⟨_, rfl, _, rfl, sn_Ground_name T (vs := []) h rfl ?_⟩
  refine ⟨_, rfl, _, rfl, sn_Ground_kind T (vs := [v1]) upd_same rfl ?_⟩
  refine ⟨_, rfl, _, rfl, sn_Ground_basis T (vs := [v1, v2]) upd_same rfl ?_⟩
  refine ⟨_, rfl, _, rfl, sn_Ground_purpose T (vs := [v1, v2, v3]) upd_same rfl ?_⟩
  refine ⟨_, rfl, _, rfl, sn_Ground_span T (vs := [v1, v2, v3, v4]) upd_same rfl ?_⟩
  refine ⟨_, rfl, _, rfl, sn_Ground_event T (vs := [v1, v2, v3, v4, v5]) upd_same rfl ?_⟩
  rw [upd_upd, upd_upd, upd_upd, upd_upd, upd_upd]
  exact q
theorem pure_init_Store (T : TopTxt K w mg c) : ∀ a b d e H Q, prI_Store c a b d e H Q → t_init_Store K c (D0 Q) (start ["self", "name", "way", "turn"] [a, b, d, e]) H := by
  rintro _ v1 v2 v3 H Q ⟨a, dx, rfl, h, q⟩
  refine ⟨_, rfl, _, rfl, sn_Store_name T (vs := []) h rfl ?_⟩
  refine ⟨_, rfl, _, rfl, sn_Store_way T (vs := [v1]) upd_same rfl ?_⟩
  refine ⟨_, rfl, _, rfl, sn_Store_turn T (vs := [v1, v2]) upd_same rfl ?_⟩
  refine ⟨_, rfl, sn_Store_hears T (vs := [v1, v2, v3]) upd_same rfl ?_⟩
  rw [upd_upd, upd_upd, upd_upd]
  exact q
theorem pure_init_Copy (T : TopTxt K w mg c) : ∀ a b H Q, prI_Copy c a b H Q → t_init_Copy K c (D0 Q) (start ["self", "store"] [a, b]) H := by
  rintro _ v1 H Q ⟨a, dx, rfl, h, q⟩
  refine ⟨_, rfl, _, rfl, sn_Copy_store T (vs := []) h rfl ?_⟩
  refine ⟨_, rfl, sn_Copy_state T (vs := [v1]) upd_same rfl ?_⟩
  refine ⟨_, rfl, sn_Copy_day T (vs := [v1, .str "there"]) upd_same rfl ?_⟩
  rw [upd_upd, upd_upd]
  exact q
theorem pure_init_Hold (T : TopTxt K w mg c) : ∀ a b d e H Q, prI_Hold c a b d e H Q → t_init_Hold K c (D0 Q) (start ["self", "name", "person", "kind"] [a, b, d, e]) H := by
  rintro _ v1 v2 v3 H Q ⟨a, dx, rfl, h, q⟩
  refine ⟨_, rfl, _, rfl, sn_Hold_name T (vs := []) h rfl ?_⟩
  refine ⟨_, rfl, _, rfl, sn_Hold_person T (vs := [v1]) upd_same rfl ?_⟩
  refine ⟨_, rfl, _, rfl, sn_Hold_kind T (vs := [v1, v2]) upd_same rfl ?_⟩
  rw [upd_upd, upd_upd]
  exact q
theorem pure_init_Person (T : TopTxt K w mg c) : ∀ a b H Q, prI_Person c a b H Q → t_init_Person K c (D0 Q) (start ["self", "name"] [a, b]) H := by
  rintro _ v1 H Q ⟨a, dx, rfl, h, q⟩
  refine ⟨_, rfl, _, rfl, sn_Person_name T (vs := []) h rfl ?_⟩
  intro d hd
  have da : d ≠ a := fun z => by rw [z, upd_same] at hd; cases hd
  rw [upd_ne da] at hd
  refine ⟨_, rfl, sn_Person_consents T (vs := [v1]) (dx := dx) (by rw [upd_ne da.symm, upd_same]; rfl) rfl ?_⟩
  refine ⟨_, rfl, sn_Person_objects T (vs := [v1, .ref d]) upd_same rfl ?_⟩
  refine ⟨_, rfl, sn_Person_ended T (vs := [v1, .ref d, .bl false]) upd_same rfl ?_⟩
  rw [upd_upd, upd_upd]
  refine q d hd _ (fun b o hb hne => ?_) (by rw [upd_ne da, upd_same]) upd_same
  rw [upd_ne hne, upd_ne (ne_of_none hb hd), upd_ne hne]; exact hb
/-! ### people -/
theorem slot_ok {H : Hp} {L : Tag → Addr} {s : Kp01.House} {n : Bytes} (hd : H (L .people) = some (.dK (byName (·.name) (fun n => .ref (L (.person n))) s.people))) : DGet H (L .people) (.str (txt n)) ((Kp01.personOf s n).map fun _ => .ref (L (.person n))) := by
  rw [← people_get]
  exact DGet.k (k := .inr (txt n)) hd
theorem isD_of {H : Hp} {a : Addr} {kvs : List (Key × V)} (h : H a = some (.dK kvs)) : IsD H a := .inl ⟨kvs, .inl h⟩
theorem dec_len (k n : Nat) : decide ((k : Int) ≤ (n : Int)) = decide (k ≤ n) := by apply decide_eq_decide.mpr; omega
theorem len_lt {n m : Nat} (h : n ≤ m) (hm : m < sizeLine) : n < sizeLine := Nat.lt_of_le_of_lt h hm
theorem pure_add_person (T : TopTxt K w mg c) : ∀ a b H Q, pr_add_person c a b H Q → t_add_person K c (D0 Q) (start ["house", "things", "name"] [a, b]) H := by
  rintro _ _ H Q ⟨F, s, L, a, vals, cmd, rfl, rfl, R, g, fa, ⟨n, rfl, rfl, hn⟩, q⟩
  have ha := R.keep _ _ fa
  have hd := R.people (by simp)
  have oh := R.house (by simp)
  refine ⟨_, rfl, thing ha rfl ?_⟩
  refine ⟨_, rfl, _, rfl, fq (fd_House_people T oh) ⟨_, _, rfl, slot_ok hd, _, rfl, ?_⟩⟩
  have e0 : Kp01.does s (.person n) = if (Kp01.personOf s n).isSome = true then (s, Kp01.no "name") else if 4 ≤ s.people.length then (s, Kp01.no "many") else ({ s with people := s.people ++ [⟨n, [], false, none⟩] }, Kp01.ok) := rfl
  cases hp : Kp01.personOf s n with
  | some p =>
    refine if_true_of rfl ?_
    exact fin q (by rw [e0, hp]; rfl) (no_txt rfl) R rfl
  | none =>
    rw [hp] at e0
    rw [if_neg (by simp)] at e0
    refine if_false_of rfl ?_
    refine ⟨_, rfl, fq (fd_House_people T oh) ⟨_, _, rfl, hd, _, _, rfl, rfl, _, rfl, ?_⟩⟩
    rw [byName_len]
    show if decide (((4 : Nat) : Int) ≤ (s.people.length : Int)) = true then _ else _
    rw [dec_len]
    by_cases hl : 4 ≤ s.people.length
    · rw [if_pos hl] at e0
      exact if_true_of (decide_eq_true hl) (fin q e0 (no_txt rfl) R rfl)
    · rw [if_neg hl] at e0
      refine if_false_of (decide_eq_false hl) ?_
      refine ⟨_, rfl, ?_⟩
      intro x dx nx ndx ne
      refine ⟨x, dx, rfl, upd_same, fun d hd0 H2 hk h1 h2 => ⟨rfl, ?_⟩⟩
      have dx' : d ≠ x := fun z => by rw [z, upd_same] at hd0; cases hd0
      rw [upd_ne dx'] at hd0
      have ddx : d ≠ dx := fun z => by rw [z, upd_same] at hd0; cases hd0
      rw [upd_ne ddx] at hd0
      have sm : Same H H2 := Same.made nx ndx hk
      have R2 := (R.same sm).more (p := d) h1 (R.free hd0)
      have R3 := R2.more (p := x) h2 (R.free nx)
      have hd2 := (R.same sm).people (by simp)
      obtain ⟨L', R4, hL⟩ := R3.addPerson g.ok hp (R.Fnone hd0) (R.Fnone nx) dx'
      refine ⟨_, rfl, fq (fd_House_people T ((R.same sm).house (by simp))) ⟨_, rfl, _, _, rfl, DPut.k (k := .inr (txt n)) hd2 (by rw [byName_len]; exact len_lt g.size.people (by decide)), ?_⟩⟩
      exact fin q e0 ok_txt R4 hL
theorem tail_ok (T : TopTxt K w mg c) {F : Hp} {s s1 : Kp01.House} {L L1 : Tag → Addr} {H1 : Hp} {cmd : Kp01.Cmd} {Q : VK} {x : V} (q : ∀ H' L', Rep c [] F (Kp01.does s cmd).1 L' H' → L' .house = L .house → Q (.str (txt (Kp01.does s cmd).2)) H')
    (ed : Kp01.does s cmd = (Kp01.today s1, Kp01.ok)) (R : Rep c [] F s1 L1 H1) (o : Ok s1) (hL : L1 .house = L .house) (hx : x = .ref (L .house)) : pr_all_goes c x H1 (fun _ H' => Q (.str "ok") H') :=
  ⟨F, s1, L1, by rw [hx, hL], R, o, fun H' R' => fin q ed ok_txt R' hL⟩
theorem pure_give_consent (T : TopTxt K w mg c) : ∀ a b H Q, pr_give_consent c a b H Q → t_give_consent K c (D0 Q) (start ["house", "things", "person", "purpose"] [a, b]) H := by
  rintro _ _ H Q ⟨F, s, L, a, vals, cmd, rfl, rfl, R, g, fa, ⟨n, v, rfl, rfl, hn, hv⟩, q⟩
  have ha := R.keep _ _ fa
  have hd := R.people (by simp)
  have oh := R.house (by simp)
  refine ⟨_, rfl, fq (fd_House_people T oh) ⟨_, rfl, isD_of hd, _, rfl, thing ha rfl ⟨_, slot_ok hd, ?_⟩⟩⟩
  refine ⟨_, rfl, thing ha rfl ?_⟩
  refine ⟨_, rfl, _, rfl, ?_⟩
  have e0 : Kp01.does s (.consent n v) = Kp01.onPerson s n fun p => if p.consents.contains v = true then (s, Kp01.no "change") else if 4 ≤ p.consents.length then (s, Kp01.no "many") else (Kp01.today (Kp01.withPerson s { p with consents := p.consents ++ [v] }), Kp01.ok) := rfl
  unfold Kp01.onPerson at e0
  cases hp : Kp01.personOf s n with
  | none =>
    rw [hp] at e0
    exact if_true_of rfl (fin q e0 (no_txt rfl) R rfl)
  | some p =>
    rw [hp] at e0
    replace e0 : Kp01.does s (.consent n v) = if p.consents.contains v = true then (s, Kp01.no "change") else if 4 ≤ p.consents.length then (s, Kp01.no "many") else (Kp01.today (Kp01.withPerson s { p with consents := p.consents ++ [v] }), Kp01.ok) := e0
    have op := R.person hp (by simp)
    have hc := R.consents hp (by simp)
    have dg : DGet H (L (.consents n)) (.str (txt v)) (valV (byName id (fun _ => V.bl true) p.consents) (.inr (txt v))) := DGet.k (k := .inr (txt v)) hc
    refine if_false_of rfl ?_
    refine ⟨_, rfl, _, rfl, fq (fd_Person_consents T op) ⟨_, _, rfl, dg, _, rfl, ?_⟩⟩
    rw [consent_get]
    cases hv2 : p.consents.contains v with
    | true =>
      rw [if_pos hv2] at e0
      exact if_true_of rfl (fin q e0 (no_txt rfl) R rfl)
    | false =>
      rw [if_neg (by rw [hv2]; simp)] at e0
      refine if_false_of rfl ?_
      refine ⟨_, rfl, fq (fd_Person_consents T op) ⟨_, _, rfl, hc, _, _, rfl, rfl, _, rfl, ?_⟩⟩
      rw [byName_len]
      show if decide (((4 : Nat) : Int) ≤ (p.consents.length : Int)) = true then _ else _
      rw [dec_len]
      by_cases hl : 4 ≤ p.consents.length
      · rw [if_pos hl] at e0
        exact if_true_of (decide_eq_true hl) (fin q e0 (no_txt rfl) R rfl)
      · rw [if_neg hl] at e0
        refine if_false_of (decide_eq_false hl) ?_
        have en : ({ p with consents := p.consents ++ [v] } : Kp01.Person).name = n := personOf_name (p := p) hp
        refine ⟨_, rfl, fq (fd_Person_consents T op) ⟨_, rfl, _, _, rfl, DPut.k (k := .inr (txt v)) hc (by rw [byName_len]; exact len_lt (m := 4) (by omega) (by decide)), ?_⟩⟩
        have nf : (p.consents.find? fun a => id a == v) = none := by
          rw [List.find?_eq_none]
          intro x hx z
          have z : x = v := by simpa using z
          rw [z] at hx
          have : p.consents.contains v = true := by simpa using hx
          rw [hv2] at this; cases this
        rw [byName_put (nm := id) (g := fun _ => V.bl true) (a := v) nf rfl]
        refine ⟨_, rfl, tail_ok T q e0 (R.set (.consents n) (fun u hu => cell_withPerson hp en u (fun _ => rfl) (fun z => absurd z hu)) (live_consents (by rw [hp]; rfl)) (cell_with_consents hp en) (show _ = _ from upd_same)) (g.ok.withPerson hp en) rfl rfl⟩
theorem pure_withdraw_consent (T : TopTxt K w mg c) : ∀ a b H Q, pr_withdraw_consent c a b H Q → t_withdraw_consent K c (D0 Q) (start ["house", "things", "person", "purpose"] [a, b]) H := by
  rintro _ _ H Q ⟨F, s, L, a, vals, cmd, rfl, rfl, R, g, fa, ⟨n, v, rfl, rfl, hn, hv⟩, q⟩
  have ha := R.keep _ _ fa
  have hd := R.people (by simp)
  have oh := R.house (by simp)
  refine ⟨_, rfl, fq (fd_House_people T oh) ⟨_, rfl, isD_of hd, _, rfl, thing ha rfl ⟨_, slot_ok hd, ?_⟩⟩⟩
  refine ⟨_, rfl, thing ha rfl ?_⟩
  refine ⟨_, rfl, _, rfl, ?_⟩
  have e0 : Kp01.does s (.withdraw n v) = Kp01.onPerson s n fun p => if p.consents.contains v = false then (s, Kp01.no "change") else (Kp01.today (Kp01.withPerson s { p with consents := p.consents.filter fun x => x != v }), Kp01.ok) := rfl
  unfold Kp01.onPerson at e0
  cases hp : Kp01.personOf s n with
  | none =>
    rw [hp] at e0
    exact if_true_of rfl (fin q e0 (no_txt rfl) R rfl)
  | some p =>
    rw [hp] at e0
    replace e0 : Kp01.does s (.withdraw n v) = if p.consents.contains v = false then (s, Kp01.no "change") else (Kp01.today (Kp01.withPerson s { p with consents := p.consents.filter fun x => x != v }), Kp01.ok) := e0
    have op := R.person hp (by simp)
    have hc := R.consents hp (by simp)
    have dg : DGet H (L (.consents n)) (.str (txt v)) (valV (byName id (fun _ => V.bl true) p.consents) (.inr (txt v))) := DGet.k (k := .inr (txt v)) hc
    refine if_false_of rfl ?_
    refine ⟨_, rfl, _, rfl, fq (fd_Person_consents T op) ⟨_, _, rfl, dg, _, rfl, ?_⟩⟩
    have cg := consent_get p v
    rw [cg]
    cases hv2 : p.consents.contains v with
    | false =>
      rw [if_pos hv2] at e0
      exact if_true_of rfl (fin q e0 (no_txt rfl) R rfl)
    | true =>
      rw [if_neg (by rw [hv2]; simp)] at e0
      refine if_false_of rfl ?_
      have en : ({ p with consents := p.consents.filter fun x => x != v } : Kp01.Person).name = n := personOf_name (p := p) hp
      rw [hv2] at cg
      obtain ⟨vv, ev⟩ := Option.isSome_iff_exists.mp cg
      refine ⟨_, rfl, fq (fd_Person_consents T op) ⟨_, rfl, isD_of hc, _, rfl, _, .inr (txt v), _, hc, rfl, ev, ?_⟩⟩
      rw [byName_drop (nm := id)]
      refine ⟨_, rfl, tail_ok T q e0 (R.set (.consents n) (fun u hu => cell_withPerson hp en u (fun _ => rfl) (fun z => absurd z hu)) (live_consents (by rw [hp]; rfl)) (cell_with_consents hp en) (show _ = _ from upd_same)) (g.ok.withPerson hp en) rfl rfl⟩
theorem pure_raise_objection (T : TopTxt K w mg c) : ∀ a b H Q, pr_raise_objection c a b H Q → t_raise_objection K c (D0 Q) (start ["house", "things", "person"] [a, b]) H := by
  rintro _ _ H Q ⟨F, s, L, a, vals, cmd, rfl, rfl, R, g, fa, ⟨n, rfl, rfl, hn⟩, q⟩
  have ha := R.keep _ _ fa
  have hd := R.people (by simp)
  have oh := R.house (by simp)
  refine ⟨_, rfl, fq (fd_House_people T oh) ⟨_, rfl, isD_of hd, _, rfl, thing ha rfl ⟨_, slot_ok hd, ?_⟩⟩⟩
  refine ⟨_, rfl, _, rfl, ?_⟩
  have e0 : Kp01.does s (.object n) = Kp01.onPerson s n fun p => if p.objects = true then (s, Kp01.no "change") else (Kp01.today (Kp01.withPerson s { p with objects := true }), Kp01.ok) := rfl
  unfold Kp01.onPerson at e0
  cases hp : Kp01.personOf s n with
  | none =>
    rw [hp] at e0
    exact if_true_of rfl (fin q e0 (no_txt rfl) R rfl)
  | some p =>
    rw [hp] at e0
    replace e0 : Kp01.does s (.object n) = if p.objects = true then (s, Kp01.no "change") else (Kp01.today (Kp01.withPerson s { p with objects := true }), Kp01.ok) := e0
    have op := R.person hp (by simp)
    refine if_false_of rfl ?_
    refine ⟨_, rfl, fq (fd_Person_objects T op) ⟨_, rfl, ?_⟩⟩
    cases ho : p.objects with
    | true =>
      rw [if_pos ho] at e0
      exact if_true_of rfl (fin q e0 (no_txt rfl) R rfl)
    | false =>
      rw [if_neg (by rw [ho]; simp)] at e0
      refine if_false_of rfl ?_
      have en : ({ p with objects := true } : Kp01.Person).name = n := personOf_name (p := p) hp
      refine ⟨_, rfl, st_Person_objects T op rfl fun dx _ => ?_⟩
      refine ⟨_, rfl, tail_ok T q e0 (R.set (.person n) (fun u hu => cell_withPerson hp en u (fun z => absurd z hu) (fun _ => rfl)) (live_person (by rw [hp]; rfl)) (cell_with_person hp en) ⟨dx, upd_same⟩) (g.ok.withPerson hp en) rfl rfl⟩
theorem pure_end_matter (T : TopTxt K w mg c) : ∀ a b H Q, pr_end_matter c a b H Q → t_end_matter K c (D0 Q) (start ["house", "things", "person"] [a, b]) H := by
  rintro _ _ H Q ⟨F, s, L, a, vals, cmd, rfl, rfl, R, g, fa, ⟨n, rfl, rfl, hn⟩, q⟩
  have ha := R.keep _ _ fa
  have hd := R.people (by simp)
  have oh := R.house (by simp)
  refine ⟨_, rfl, fq (fd_House_people T oh) ⟨_, rfl, isD_of hd, _, rfl, thing ha rfl ⟨_, slot_ok hd, ?_⟩⟩⟩
  refine ⟨_, rfl, _, rfl, ?_⟩
  have e0 : Kp01.does s (.ended n) = Kp01.onPerson s n fun p => if p.ended.isSome = true then (s, Kp01.no "change") else (Kp01.today (Kp01.withPerson s { p with ended := some s.day }), Kp01.ok) := rfl
  unfold Kp01.onPerson at e0
  cases hp : Kp01.personOf s n with
  | none =>
    rw [hp] at e0
    exact if_true_of rfl (fin q e0 (no_txt rfl) R rfl)
  | some p =>
    rw [hp] at e0
    replace e0 : Kp01.does s (.ended n) = if p.ended.isSome = true then (s, Kp01.no "change") else (Kp01.today (Kp01.withPerson s { p with ended := some s.day }), Kp01.ok) := e0
    have op := R.person hp (by simp)
    refine if_false_of rfl ?_
    refine ⟨_, rfl, fq (fd_Person_ended T op) ⟨_, rfl, ?_⟩⟩
    rw [optV_none]
    cases ho : p.ended with
    | some d =>
      rw [if_pos (by rw [ho]; rfl)] at e0
      exact if_true_of rfl (fin q e0 (no_txt rfl) R rfl)
    | none =>
      rw [if_neg (by rw [ho]; simp)] at e0
      refine if_false_of rfl ?_
      have en : ({ p with ended := some s.day } : Kp01.Person).name = n := personOf_name (p := p) hp
      refine ⟨_, rfl, fq (fd_House_today T oh) ⟨_, rfl, st_Person_ended T op rfl fun dx _ => ?_⟩⟩
      refine ⟨_, rfl, tail_ok T q e0 (R.set (.person n) (fun u hu => cell_withPerson hp en u (fun z => absurd z hu) (fun _ => rfl)) (live_person (by rw [hp]; rfl)) (cell_with_person hp en) ⟨dx, upd_same⟩) (g.ok.withPerson hp en) rfl rfl⟩
theorem with_twice {s : Kp01.House} {p q : Kp01.Person} (e : p.name = q.name) : Kp01.withPerson (Kp01.withPerson s p) q = Kp01.withPerson s q := by
  unfold Kp01.withPerson
  simp only [List.map_map]
  congr 1
  refine List.map_congr_left fun x _ => ?_
  show (if (if x.name = p.name then p else x).name = q.name then q else (if x.name = p.name then p else x)) = if x.name = q.name then q else x
  by_cases z : x.name = p.name
  · rw [if_pos z, if_pos e, if_pos (z.trans e)]
  · rw [if_neg z]
theorem pure_forget_person (T : TopTxt K w mg c) : ∀ a b H Q, pr_forget_person c a b H Q → t_forget_person K c (D0 Q) (start ["house", "things", "person"] [a, b]) H := by
  rintro _ _ H Q ⟨F, s, L, a, vals, cmd, rfl, rfl, R, g, fa, ⟨n, rfl, rfl, hn⟩, q⟩
  have ha := R.keep _ _ fa
  have hd := R.people (by simp)
  have oh := R.house (by simp)
  refine ⟨_, rfl, fq (fd_House_people T oh) ⟨_, rfl, isD_of hd, _, rfl, thing ha rfl ⟨_, slot_ok hd, ?_⟩⟩⟩
  refine ⟨_, rfl, _, rfl, ?_⟩
  have e0 : Kp01.does s (.forget n) = Kp01.onPerson s n fun p => (Kp01.today (Kp01.withPerson s { p with consents := [], objects := true }), Kp01.ok) := rfl
  unfold Kp01.onPerson at e0
  cases hp : Kp01.personOf s n with
  | none =>
    rw [hp] at e0
    exact if_true_of rfl (fin q e0 (no_txt rfl) R rfl)
  | some p =>
    rw [hp] at e0
    replace e0 : Kp01.does s (.forget n) = (Kp01.today (Kp01.withPerson s { p with consents := [], objects := true }), Kp01.ok) := e0
    refine if_false_of rfl ?_
    intro d hd0
    have R1 := R.new (o := .dK []) hd0
    have op := R1.person hp (by simp)
    refine ⟨_, rfl, st_Person_consents T op rfl fun dx _ => ?_⟩
    have e1 : ({ p with consents := [] } : Kp01.Person).name = n := personOf_name (p := p) hp
    have R2 := Rep.noConsents (dx := dx) hp R1 (R.Fnone hd0)
    have hp2 : Kp01.personOf (Kp01.withPerson s { p with consents := [] }) n = some { p with consents := [] } := by rw [personOf_with hp e1, if_pos rfl]
    have op2 := R2.person hp2 (by simp)
    rw [setL_ne (by simp)] at op2
    refine ⟨_, rfl, st_Person_objects T op2 rfl fun dx2 _ => ?_⟩
    have e2 : ({ p with consents := [], objects := true } : Kp01.Person).name = n := personOf_name (p := p) hp
    have R3 := R2.set (s' := Kp01.withPerson (Kp01.withPerson s { p with consents := [] }) { p with consents := [], objects := true }) (.person n) (fun u hu => cell_withPerson hp2 e2 u (fun z => absurd z hu) (fun _ => rfl)) (live_person (by rw [hp2]; rfl)) (cell_with_person hp2 e2) (o := .ins c.Person dx2 (fsOf nPerson (personVals (setL L (.consents n) d) n { p with consents := [], objects := true }))) ⟨dx2, upd_same⟩
    rw [with_twice (p := { p with consents := [] }) (q := { p with consents := [], objects := true }) rfl, setL_ne (by simp)] at R3
    refine ⟨_, rfl, tail_ok T q e0 R3 (g.ok.withPerson hp e2) (setL_ne (by simp)) rfl⟩
end
end Kr

set_option Elab.async false
set_option linter.all false
set_option maxRecDepth 100000
set_option maxHeartbeats 4000000
namespace Kr
open PySem PySem.Spec PyProof.Rows L2
abbrev s_is_text : Stmt := topS 65
theorem sc_is_text : FnScope ["codes", "code"] ["codes"] (defScope s_is_text) := ⟨rfl, rfl, rfl, by decide +kernel, rfl, by decide +kernel, by decide +kernel⟩
abbrev sp_is_text (K : PySem.W.Frag) (c : Cs) : Sp := (sp1 (pr_is_text K))
def t_is_text (K : PySem.W.Frag) (c : Cs) : TS := (tSeq (tIfS (tTest (tOp rGt (tCB (rLenL K) (tCons (tVar 0) tNil)) (tC (.int 80)))) (tRet (tC (.bl false))) tNext) (tSeq (tFor (iList K (tVar 0)) (gName 1) (tIfS (tOr (tTest (tOp rLt (tVar 1) (tC (.int 32)))) (tTest (tOp rGt (tVar 1) (tC (.int 126))))) (tRet (tC (.bl false))) tNext)) (tRet (tC (.bl true)))))
theorem ok_is_text {P : Program} {w : World} {K : PySem.W.Frag} {mg : Str → Option Value} {base : Heap} {c : Cs} (T : TopTxt K w mg c) (F : FunAt K mg "is_text" s_is_text) (pure : ∀ a H Q, pr_is_text K a H Q → t_is_text K c { nx := fun _ H' => Q .non H', rt := Q } (start ["codes", "code"] [a]) H) : Def P w K mg base "is_text" 1 ["codes"] (sp_is_text K c) := by
  obtain ⟨f, fd, F0, mf⟩ := F.ex
  have b0 := F0.binds (ps := ["codes"]) fun _ _ _ _ _ _ us hl => match us, hl with | [_], _ => rfl
  refine ⟨⟨f, fd, F0.ok (k := 0) sc_is_text (fun vs H Q E h => ?len) (fun cdv A outer s H vs Q E hr h => ⟨t_is_text K c, ?term, ?pu⟩), mf, F0.kp, b0⟩⟩
  case len => obtain ⟨a, rfl, h⟩ := sp1_of h; rfl
  case term => have hu := hu_of hr; exact (pss_cons (ps_if (pt_cmpR op_gt (pe_callB call_len_seq rfl T.b_len PySem.boot_len (pa_cons (pv 0) pa_nil)) (pe_gv rfl T.g_MOST_BYTES) (nomark _)) (pss_one (ps_ret pe_bl)) pss_nil) (pss_cons (ps_for PassesOwn.never rfl (pi_list (pv 0)) (pg_name (i := 1) sc_is_text.nd rfl (Or.inl rfl)) (pss_one (ps_if (PW.pt (pw_or (pt_cmpR op_lt (pv 1) (pe_gv rfl T.g_LOWEST_BYTE) (nomark _)) (pw_or1 (pt_cmpR op_gt (pv 1) (pe_gv rfl T.g_HIGHEST_BYTE) (nomark _))))) (pss_one (ps_ret pe_bl)) pss_nil))) (pss_one (ps_ret pe_bl))))
  case pu => obtain ⟨a, rfl, h⟩ := sp1_of h; exact pure a H Q h
abbrev s_words_of : Stmt := topS 66
theorem sc_words_of : FnScope ["codes", "known", "sign", "code"] ["codes"] (defScope s_words_of) := ⟨rfl, rfl, rfl, by decide +kernel, rfl, by decide +kernel, by decide +kernel⟩
abbrev sp_words_of (K : PySem.W.Frag) (c : Cs) : Sp := (sp1 (pr_words_of K))
def t_words_of (K : PySem.W.Frag) (c : Cs) : TS := (tSeq (tAsg tDNewK (gName 1)) (tSeq (tFor (iStr (tC (.str " ,0123456789abcdefghijklmnopqrstuvwxyz"))) (gName 2) (sDPut (tVar 1) (tCB rOrd (tCons (tVar 2) tNil)) (tVar 2))) (tRet (tM1 rSplit (tM1 (rJoin K) (tC (.str "")) (tLc (iList K (tVar 0)) (gName 3) tYes (tDGet2 (tVar 1) (tVar 3) (tC (.str "?"))) [3])) (tC (.str " "))))))
theorem ok_words_of {P : Program} {w : World} {K : PySem.W.Frag} {mg : Str → Option Value} {base : Heap} {c : Cs} (T : TopTxt K w mg c) (F : FunAt K mg "words_of" s_words_of) (pure : ∀ a H Q, pr_words_of K a H Q → t_words_of K c { nx := fun _ H' => Q .non H', rt := Q } (start ["codes", "known", "sign", "code"] [a]) H) : Def P w K mg base "words_of" 1 ["codes"] (sp_words_of K c) := by
  obtain ⟨f, fd, F0, mf⟩ := F.ex
  have b0 := F0.binds (ps := ["codes"]) fun _ _ _ _ _ _ us hl => match us, hl with | [_], _ => rfl
  refine ⟨⟨f, fd, F0.ok (k := 0) sc_words_of (fun vs H Q E h => ?len) (fun cdv A outer s H vs Q E hr h => ⟨t_words_of K c, ?term, ?pu⟩), mf, F0.kp, b0⟩⟩
  case len => obtain ⟨a, rfl, h⟩ := sp1_of h; rfl
  case term => have hu := hu_of hr; exact (pss_cons (ps_set (i := 1) sc_words_of.nd rfl (Or.inr rfl) pe_dnewK) (pss_cons (ps_for PassesOwn.never rfl (pi_str (pe_gv rfl T.g_SIGNS)) (pg_name (i := 2) sc_words_of.nd rfl (Or.inl rfl)) (pss_one (ps_dput hu (pv 1) (pe_callB call_ord rfl T.b_ord (by decide +kernel) (pa_cons (pv 2) pa_nil)) (pv 2) rfl))) (pss_one (ps_ret (pe_split (pe_join pe_str (pe_lc (own := [("code", 3)]) (g := gName 3) (tt := tYes) rfl sc_words_of.nd (pi_list (pv 0)) (blkOk_by (N := ["codes", "known", "sign", "code"]) (sc := defScope s_words_of) (by decide +kernel)) (fun _ _ _ _ _ => pg_name (i := 3) sc_words_of.nd rfl (Or.inl rfl)) (fun _ _ _ _ _ => pts_nil) (fun _ _ _ _ _ => (pe_dget2 hu (pv 1) (pv 3) (pe_gv rfl T.g_OTHER_SIGN) ⟨rfl, rfl, rfl, rfl⟩)))) pe_str)))))
  case pu => obtain ⟨a, rfl, h⟩ := sp1_of h; exact pure a H Q h
abbrev s_codes_of : Stmt := topS 67
theorem sc_codes_of : FnScope ["text", "sign"] ["text"] (defScope s_codes_of) := ⟨rfl, rfl, rfl, by decide +kernel, rfl, by decide +kernel, by decide +kernel⟩
abbrev sp_codes_of (K : PySem.W.Frag) (c : Cs) : Sp := (sp1 pr_codes_of)
def t_codes_of (K : PySem.W.Frag) (c : Cs) : TS := (tRet (tLc (iStr (tVar 0)) (gName 1) tYes (tCB rOrd (tCons (tVar 1) tNil)) [1]))
theorem ok_codes_of {P : Program} {w : World} {K : PySem.W.Frag} {mg : Str → Option Value} {base : Heap} {c : Cs} (T : TopTxt K w mg c) (F : FunAt K mg "codes_of" s_codes_of) (pure : ∀ a H Q, pr_codes_of a H Q → t_codes_of K c { nx := fun _ H' => Q .non H', rt := Q } (start ["text", "sign"] [a]) H) : Def P w K mg base "codes_of" 1 ["text"] (sp_codes_of K c) := by
  obtain ⟨f, fd, F0, mf⟩ := F.ex
  have b0 := F0.binds (ps := ["text"]) fun _ _ _ _ _ _ us hl => match us, hl with | [_], _ => rfl
  refine ⟨⟨f, fd, F0.ok (k := 0) sc_codes_of (fun vs H Q E h => ?len) (fun cdv A outer s H vs Q E hr h => ⟨t_codes_of K c, ?term, ?pu⟩), mf, F0.kp, b0⟩⟩
  case len => obtain ⟨a, rfl, h⟩ := sp1_of h; rfl
  case term => have hu := hu_of hr; exact (pss_one (ps_ret (pe_lc (own := [("sign", 1)]) (g := gName 1) (tt := tYes) rfl sc_codes_of.nd (pi_str (pv 0)) (blkOk_by (N := ["text", "sign"]) (sc := defScope s_codes_of) (by decide +kernel)) (fun _ _ _ _ _ => pg_name (i := 1) sc_codes_of.nd rfl (Or.inl rfl)) (fun _ _ _ _ _ => pts_nil) (fun _ _ _ _ _ => (pe_callB call_ord rfl T.b_ord (by decide +kernel) (pa_cons (pv 1) pa_nil))))))
  case pu => obtain ⟨a, rfl, h⟩ := sp1_of h; exact pure a H Q h
abbrev s_listed : Stmt := topS 68
theorem sc_listed : FnScope ["rows"] ["rows"] (defScope s_listed) := ⟨rfl, rfl, rfl, by decide +kernel, rfl, by decide +kernel, by decide +kernel⟩
abbrev sp_listed (K : PySem.W.Frag) (c : Cs) : Sp := (sp1 pr_listed)
def t_listed (K : PySem.W.Frag) (c : Cs) : TS := (tRet (tM1 (rJoin K) (tC (.str "\n")) (tOp rCat (tLst (tCons (tCB rStrI (tCons (tCB (rLenL K) (tCons (tVar 0) tNil)) tNil)) tNil)) (tVar 0))))
theorem ok_listed {P : Program} {w : World} {K : PySem.W.Frag} {mg : Str → Option Value} {base : Heap} {c : Cs} (T : TopTxt K w mg c) (F : FunAt K mg "listed" s_listed) (pure : ∀ a H Q, pr_listed a H Q → t_listed K c { nx := fun _ H' => Q .non H', rt := Q } (start ["rows"] [a]) H) : Def P w K mg base "listed" 1 ["rows"] (sp_listed K c) := by
  obtain ⟨f, fd, F0, mf⟩ := F.ex
  have b0 := F0.binds (ps := ["rows"]) fun _ _ _ _ _ _ us hl => match us, hl with | [_], _ => rfl
  refine ⟨⟨f, fd, F0.ok (k := 0) sc_listed (fun vs H Q E h => ?len) (fun cdv A outer s H vs Q E hr h => ⟨t_listed K c, ?term, ?pu⟩), mf, F0.kp, b0⟩⟩
  case len => obtain ⟨a, rfl, h⟩ := sp1_of h; rfl
  case term => have hu := hu_of hr; exact (pss_one (ps_ret (pe_join pe_str (pe_op op_cat (pe_lst (pa_cons (pe_callTy call_str_int rfl T.b_str (by decide +kernel) (pa_cons (pe_callB call_len_seq rfl T.b_len PySem.boot_len (pa_cons (pv 0) pa_nil)) pa_nil)) pa_nil)) (pv 0)))))
  case pu => obtain ⟨a, rfl, h⟩ := sp1_of h; exact pure a H Q h
abbrev s_read_name : Stmt := topS 69
theorem sc_read_name : FnScope ["word", "sign"] ["word"] (defScope s_read_name) := ⟨rfl, rfl, rfl, by decide +kernel, rfl, by decide +kernel, by decide +kernel⟩
abbrev sp_read_name (K : PySem.W.Frag) (c : Cs) : Sp := (sp1 pr_read_name)
def t_read_name (K : PySem.W.Frag) (c : Cs) : TS := (tSeq (tIfS (tOr (tNot (tTest (tChain rLe rLe (tC (.int 1)) (tCB rLenS (tCons (tVar 0) tNil)) (tC (.int 8))))) (tTest (tOp (rIn K false) (tVar 0) (tC (.ref c.a_NOT_NAMES))))) (tRet (tC .non)) tNext) (tSeq (tFor (iStr (tVar 0)) (gName 1) (tIfS (tTest (tOp rNotInS (tVar 1) (tC (.str "abcdefghijklmnopqrstuvwxyz")))) (tRet (tC .non)) tNext)) (tRet (tVar 0))))
theorem ok_read_name {P : Program} {w : World} {K : PySem.W.Frag} {mg : Str → Option Value} {base : Heap} {c : Cs} (T : TopTxt K w mg c) (F : FunAt K mg "read_name" s_read_name) (pure : ∀ a H Q, pr_read_name a H Q → t_read_name K c { nx := fun _ H' => Q .non H', rt := Q } (start ["word", "sign"] [a]) H) : Def P w K mg base "read_name" 1 ["word"] (sp_read_name K c) := by
  obtain ⟨f, fd, F0, mf⟩ := F.ex
  have b0 := F0.binds (ps := ["word"]) fun _ _ _ _ _ _ us hl => match us, hl with | [_], _ => rfl
  refine ⟨⟨f, fd, F0.ok (k := 0) sc_read_name (fun vs H Q E h => ?len) (fun cdv A outer s H vs Q E hr h => ⟨t_read_name K c, ?term, ?pu⟩), mf, F0.kp, b0⟩⟩
  case len => obtain ⟨a, rfl, h⟩ := sp1_of h; rfl
  case term => have hu := hu_of hr; exact (pss_cons (ps_if (PW.pt (pw_or (pt_not (pt_chain op_le op_le pe_int (pe_callB call_len_str rfl T.b_len PySem.boot_len (pa_cons (pv 0) pa_nil)) pe_int)) (pw_or1 (pt_cmpR op_in_seq (pv 0) (pe_gv rfl T.g_NOT_NAMES) rfl)))) (pss_one (ps_ret pe_non)) pss_nil) (pss_cons (ps_for PassesOwn.never rfl (pi_str (pv 0)) (pg_name (i := 1) sc_read_name.nd rfl (Or.inl rfl)) (pss_one (ps_if (pt_cmpR op_notIn_sign (pv 1) (pe_gv rfl T.g_LETTERS) rfl) (pss_one (ps_ret pe_non)) pss_nil))) (pss_one (ps_ret (pv 0)))))
  case pu => obtain ⟨a, rfl, h⟩ := sp1_of h; exact pure a H Q h
abbrev s_read_name_or_any : Stmt := topS 70
theorem sc_read_name_or_any : FnScope ["word"] ["word"] (defScope s_read_name_or_any) := ⟨rfl, rfl, rfl, by decide +kernel, rfl, by decide +kernel, by decide +kernel⟩
abbrev sp_read_name_or_any (K : PySem.W.Frag) (c : Cs) : Sp := (sp1 pr_read_name_or_any)
def t_read_name_or_any (K : PySem.W.Frag) (c : Cs) : TS := (tSeq (tIfS (tTest (tOp rEq (tVar 0) (tC (.str "any")))) (tRet (tVar 0)) tNext) (tRet (tCall (sp_read_name K c) [] E0 (tCons (tVar 0) tNil))))
theorem ok_read_name_or_any {P : Program} {w : World} {K : PySem.W.Frag} {mg : Str → Option Value} {base : Heap} {c : Cs} (T : TopTxt K w mg c) (F : FunAt K mg "read_name_or_any" s_read_name_or_any) (D_read_name : Def P w K mg base "read_name" 1 ["word"] (sp_read_name K c)) (pure : ∀ a H Q, pr_read_name_or_any a H Q → t_read_name_or_any K c { nx := fun _ H' => Q .non H', rt := Q } (start ["word"] [a]) H) : Def P w K mg base "read_name_or_any" 2 ["word"] (sp_read_name_or_any K c) := by
  obtain ⟨f, fd, F0, mf⟩ := F.ex
  obtain ⟨f_read_name, fd_read_name, G_read_name, m_read_name, k_read_name, b_read_name⟩ := D_read_name.ex
  have b0 := F0.binds (ps := ["word"]) fun _ _ _ _ _ _ us hl => match us, hl with | [_], _ => rfl
  refine ⟨⟨f, fd, F0.ok (k := 1) sc_read_name_or_any (fun vs H Q E h => ?len) (fun cdv A outer s H vs Q E hr h => ⟨t_read_name_or_any K c, ?term, ?pu⟩), mf, F0.kp, b0⟩⟩
  case len => obtain ⟨a, rfl, h⟩ := sp1_of h; rfl
  case term => have hu := hu_of hr; exact (pss_cons (ps_if (pt_cmpR op_eq (pv 0) pe_str (nomark _)) (pss_one (ps_ret (pv 0))) pss_nil) (pss_one (ps_ret (pe_call G_read_name (hr.mono (by decide)) rfl m_read_name k_read_name b_read_name .nil pass0 (pa_cons (pv 0) pa_nil)))))
  case pu => obtain ⟨a, rfl, h⟩ := sp1_of h; exact pure a H Q h
abbrev s_read_event : Stmt := topS 71
theorem sc_read_event : FnScope ["word"] ["word"] (defScope s_read_event) := ⟨rfl, rfl, rfl, by decide +kernel, rfl, by decide +kernel, by decide +kernel⟩
abbrev sp_read_event (K : PySem.W.Frag) (c : Cs) : Sp := (sp1 pr_read_event)
def t_read_event (K : PySem.W.Frag) (c : Cs) : TS := (tSeq (tIfS (tTest (tOp (rIn K false) (tVar 0) (tC (.ref c.a_EVENTS)))) (tRet (tVar 0)) tNext) (tRet (tC .non)))
theorem ok_read_event {P : Program} {w : World} {K : PySem.W.Frag} {mg : Str → Option Value} {base : Heap} {c : Cs} (T : TopTxt K w mg c) (F : FunAt K mg "read_event" s_read_event) (pure : ∀ a H Q, pr_read_event a H Q → t_read_event K c { nx := fun _ H' => Q .non H', rt := Q } (start ["word"] [a]) H) : Def P w K mg base "read_event" 1 ["word"] (sp_read_event K c) := by
  obtain ⟨f, fd, F0, mf⟩ := F.ex
  have b0 := F0.binds (ps := ["word"]) fun _ _ _ _ _ _ us hl => match us, hl with | [_], _ => rfl
  refine ⟨⟨f, fd, F0.ok (k := 0) sc_read_event (fun vs H Q E h => ?len) (fun cdv A outer s H vs Q E hr h => ⟨t_read_event K c, ?term, ?pu⟩), mf, F0.kp, b0⟩⟩
  case len => obtain ⟨a, rfl, h⟩ := sp1_of h; rfl
  case term => have hu := hu_of hr; exact (pss_cons (ps_if (pt_cmpR op_in_seq (pv 0) (pe_gv rfl T.g_EVENTS) rfl) (pss_one (ps_ret (pv 0))) pss_nil) (pss_one (ps_ret pe_non)))
  case pu => obtain ⟨a, rfl, h⟩ := sp1_of h; exact pure a H Q h
abbrev s_read_number : Stmt := topS 72
theorem sc_read_number : FnScope ["word", "lowest", "highest", "number"] ["word", "lowest", "highest"] (defScope s_read_number) := ⟨rfl, rfl, rfl, by decide +kernel, rfl, by decide +kernel, by decide +kernel⟩
abbrev sp_read_number (K : PySem.W.Frag) (c : Cs) : Sp := (sp3 pr_read_number)
def t_read_number (K : PySem.W.Frag) (c : Cs) : TS := (tSeq (tIfS (tOr (tNot (tB (tM0 rIsdigit (tVar 0)))) (tTest (tOp rGt (tCB rLenS (tCons (tVar 0) tNil)) (tC (.int 4))))) (tRet (tC .non)) tNext) (tSeq (tIfS (tAnd (tTest (tOp rGt (tCB rLenS (tCons (tVar 0) tNil)) (tC (.int 1)))) (tB (tM1 rStarts (tVar 0) (tC (.str "0"))))) (tRet (tC .non)) tNext) (tSeq (tAsg (tCB rIntS (tCons (tVar 0) tNil)) (gName 3)) (tSeq (tIfS (tTest (tChain rLe rLe (tVar 1) (tVar 3) (tVar 2))) (tRet (tVar 3)) tNext) (tRet (tC .non))))))
theorem ok_read_number {P : Program} {w : World} {K : PySem.W.Frag} {mg : Str → Option Value} {base : Heap} {c : Cs} (T : TopTxt K w mg c) (F : FunAt K mg "read_number" s_read_number) (pure : ∀ a b d H Q, pr_read_number a b d H Q → t_read_number K c { nx := fun _ H' => Q .non H', rt := Q } (start ["word", "lowest", "highest", "number"] [a, b, d]) H) : Def P w K mg base "read_number" 1 ["word", "lowest", "highest"] (sp_read_number K c) := by
  obtain ⟨f, fd, F0, mf⟩ := F.ex
  have b0 := F0.binds (ps := ["word", "lowest", "highest"]) fun _ _ _ _ _ _ us hl => match us, hl with | [_, _, _], _ => rfl
  refine ⟨⟨f, fd, F0.ok (k := 0) sc_read_number (fun vs H Q E h => ?len) (fun cdv A outer s H vs Q E hr h => ⟨t_read_number K c, ?term, ?pu⟩), mf, F0.kp, b0⟩⟩
  case len => obtain ⟨a, b, d, rfl, h⟩ := sp3_of h; rfl
  case term => have hu := hu_of hr; exact (pss_cons (ps_if (PW.pt (pw_or (pt_not (pt_val (pe_m0 PySem.F.slot_str_isdigit PySem.F.type_str_isdigit mt_isdigit (pv 0)))) (pw_or1 (pt_cmpR op_gt (pe_callB call_len_str rfl T.b_len PySem.boot_len (pa_cons (pv 0) pa_nil)) pe_int (nomark _))))) (pss_one (ps_ret pe_non)) pss_nil) (pss_cons (ps_if (PW.pt (pw_and (pt_cmpR op_gt (pe_callB call_len_str rfl T.b_len PySem.boot_len (pa_cons (pv 0) pa_nil)) pe_int (nomark _)) (pw_and1 (pt_val (pe_m1 PySem.F.slot_str_startswith PySem.F.type_str_startswith mt_startswith (pv 0) pe_str))))) (pss_one (ps_ret pe_non)) pss_nil) (pss_cons (ps_set (i := 3) sc_read_number.nd rfl (Or.inl rfl) (pe_callTy call_int_str rfl T.b_int (by decide +kernel) (pa_cons (pv 0) pa_nil))) (pss_cons (ps_if (pt_chain op_le op_le (pv 1) (pv 3) (pv 2)) (pss_one (ps_ret (pv 3))) pss_nil) (pss_one (ps_ret pe_non))))))
  case pu => obtain ⟨a, b, d, rfl, h⟩ := sp3_of h; exact pure a b d H Q h
abbrev s_read_span : Stmt := topS 73
theorem sc_read_span : FnScope ["word"] ["word"] (defScope s_read_span) := ⟨rfl, rfl, rfl, by decide +kernel, rfl, by decide +kernel, by decide +kernel⟩
abbrev sp_read_span (K : PySem.W.Frag) (c : Cs) : Sp := (sp1 pr_read_span)
def t_read_span (K : PySem.W.Frag) (c : Cs) : TS := (tRet (tCall (sp_read_number K c) [] E0 (tCons (tVar 0) (tCons (tC (.int 0)) (tCons (tC (.int 4000)) tNil)))))
theorem ok_read_span {P : Program} {w : World} {K : PySem.W.Frag} {mg : Str → Option Value} {base : Heap} {c : Cs} (T : TopTxt K w mg c) (F : FunAt K mg "read_span" s_read_span) (D_read_number : Def P w K mg base "read_number" 1 ["word", "lowest", "highest"] (sp_read_number K c)) (pure : ∀ a H Q, pr_read_span a H Q → t_read_span K c { nx := fun _ H' => Q .non H', rt := Q } (start ["word"] [a]) H) : Def P w K mg base "read_span" 2 ["word"] (sp_read_span K c) := by
  obtain ⟨f, fd, F0, mf⟩ := F.ex
  obtain ⟨f_read_number, fd_read_number, G_read_number, m_read_number, k_read_number, b_read_number⟩ := D_read_number.ex
  have b0 := F0.binds (ps := ["word"]) fun _ _ _ _ _ _ us hl => match us, hl with | [_], _ => rfl
  refine ⟨⟨f, fd, F0.ok (k := 1) sc_read_span (fun vs H Q E h => ?len) (fun cdv A outer s H vs Q E hr h => ⟨t_read_span K c, ?term, ?pu⟩), mf, F0.kp, b0⟩⟩
  case len => obtain ⟨a, rfl, h⟩ := sp1_of h; rfl
  case term => have hu := hu_of hr; exact (pss_one (ps_ret (pe_call G_read_number (hr.mono (by decide)) rfl m_read_number k_read_number b_read_number .nil pass0 (pa_cons (pv 0) (pa_cons pe_int (pa_cons pe_int pa_nil))))))
  case pu => obtain ⟨a, rfl, h⟩ := sp1_of h; exact pure a H Q h
abbrev s_read_days : Stmt := topS 74
theorem sc_read_days : FnScope ["word"] ["word"] (defScope s_read_days) := ⟨rfl, rfl, rfl, by decide +kernel, rfl, by decide +kernel, by decide +kernel⟩
abbrev sp_read_days (K : PySem.W.Frag) (c : Cs) : Sp := (sp1 pr_read_days)
def t_read_days (K : PySem.W.Frag) (c : Cs) : TS := (tRet (tCall (sp_read_number K c) [] E0 (tCons (tVar 0) (tCons (tC (.int 1)) (tCons (tC (.int 400)) tNil)))))
theorem ok_read_days {P : Program} {w : World} {K : PySem.W.Frag} {mg : Str → Option Value} {base : Heap} {c : Cs} (T : TopTxt K w mg c) (F : FunAt K mg "read_days" s_read_days) (D_read_number : Def P w K mg base "read_number" 1 ["word", "lowest", "highest"] (sp_read_number K c)) (pure : ∀ a H Q, pr_read_days a H Q → t_read_days K c { nx := fun _ H' => Q .non H', rt := Q } (start ["word"] [a]) H) : Def P w K mg base "read_days" 2 ["word"] (sp_read_days K c) := by
  obtain ⟨f, fd, F0, mf⟩ := F.ex
  obtain ⟨f_read_number, fd_read_number, G_read_number, m_read_number, k_read_number, b_read_number⟩ := D_read_number.ex
  have b0 := F0.binds (ps := ["word"]) fun _ _ _ _ _ _ us hl => match us, hl with | [_], _ => rfl
  refine ⟨⟨f, fd, F0.ok (k := 1) sc_read_days (fun vs H Q E h => ?len) (fun cdv A outer s H vs Q E hr h => ⟨t_read_days K c, ?term, ?pu⟩), mf, F0.kp, b0⟩⟩
  case len => obtain ⟨a, rfl, h⟩ := sp1_of h; rfl
  case term => have hu := hu_of hr; exact (pss_one (ps_ret (pe_call G_read_number (hr.mono (by decide)) rfl m_read_number k_read_number b_read_number .nil pass0 (pa_cons (pv 0) (pa_cons pe_int (pa_cons pe_int pa_nil))))))
  case pu => obtain ⟨a, rfl, h⟩ := sp1_of h; exact pure a H Q h
abbrev s_read_record : Stmt := topS 75
theorem sc_read_record : FnScope ["word"] ["word"] (defScope s_read_record) := ⟨rfl, rfl, rfl, by decide +kernel, rfl, by decide +kernel, by decide +kernel⟩
abbrev sp_read_record (K : PySem.W.Frag) (c : Cs) : Sp := (sp1 pr_read_record)
def t_read_record (K : PySem.W.Frag) (c : Cs) : TS := (tRet (tCall (sp_read_number K c) [] E0 (tCons (tVar 0) (tCons (tC (.int 0)) (tCons (tC (.int 99)) tNil)))))
theorem ok_read_record {P : Program} {w : World} {K : PySem.W.Frag} {mg : Str → Option Value} {base : Heap} {c : Cs} (T : TopTxt K w mg c) (F : FunAt K mg "read_record" s_read_record) (D_read_number : Def P w K mg base "read_number" 1 ["word", "lowest", "highest"] (sp_read_number K c)) (pure : ∀ a H Q, pr_read_record a H Q → t_read_record K c { nx := fun _ H' => Q .non H', rt := Q } (start ["word"] [a]) H) : Def P w K mg base "read_record" 2 ["word"] (sp_read_record K c) := by
  obtain ⟨f, fd, F0, mf⟩ := F.ex
  obtain ⟨f_read_number, fd_read_number, G_read_number, m_read_number, k_read_number, b_read_number⟩ := D_read_number.ex
  have b0 := F0.binds (ps := ["word"]) fun _ _ _ _ _ _ us hl => match us, hl with | [_], _ => rfl
  refine ⟨⟨f, fd, F0.ok (k := 1) sc_read_record (fun vs H Q E h => ?len) (fun cdv A outer s H vs Q E hr h => ⟨t_read_record K c, ?term, ?pu⟩), mf, F0.kp, b0⟩⟩
  case len => obtain ⟨a, rfl, h⟩ := sp1_of h; rfl
  case term => have hu := hu_of hr; exact (pss_one (ps_ret (pe_call G_read_number (hr.mono (by decide)) rfl m_read_number k_read_number b_read_number .nil pass0 (pa_cons (pv 0) (pa_cons pe_int (pa_cons pe_int pa_nil))))))
  case pu => obtain ⟨a, rfl, h⟩ := sp1_of h; exact pure a H Q h
abbrev s_read_records : Stmt := topS 76
theorem sc_read_records : FnScope ["word", "numbers", "part", "number"] ["word"] (defScope s_read_records) := ⟨rfl, rfl, rfl, by decide +kernel, rfl, by decide +kernel, by decide +kernel⟩
abbrev sp_read_records (K : PySem.W.Frag) (c : Cs) : Sp := (sp1 pr_read_records)
def t_read_records (K : PySem.W.Frag) (c : Cs) : TS := (tSeq (tAsg (tLst tNil) (gName 1)) (tSeq (tFor (iList K (tM1 rSplit (tVar 0) (tC (.str ",")))) (gName 2) (tSeq (tAsg (tCall (sp_read_record K c) [] E0 (tCons (tVar 2) tNil)) (gName 3)) (tSeq (tIfS (tB (tIsN (tVar 3))) (tRet (tC .non)) tNext) (tSeq (tIfS (tAnd (tTru K (tVar 1)) (tTest (tOp rLe (tVar 3) (tOp (rIxL K) (tVar 1) (tUn rNegI (tC (.int 1))))))) (tRet (tC .non)) tNext) (tDrop (tBM K "list" rAppend (tVar 1) (tCons (tVar 3) tNil))))))) (tSeq (tIfS (tTest (tOp rGt (tCB (rLenL K) (tCons (tVar 1) tNil)) (tC (.int 4)))) (tRet (tC .non)) tNext) (tRet (tVar 1)))))
theorem ok_read_records {P : Program} {w : World} {K : PySem.W.Frag} {mg : Str → Option Value} {base : Heap} {c : Cs} (T : TopTxt K w mg c) (F : FunAt K mg "read_records" s_read_records) (D_read_record : Def P w K mg base "read_record" 2 ["word"] (sp_read_record K c)) (pure : ∀ a H Q, pr_read_records a H Q → t_read_records K c { nx := fun _ H' => Q .non H', rt := Q } (start ["word", "numbers", "part", "number"] [a]) H) : Def P w K mg base "read_records" 3 ["word"] (sp_read_records K c) := by
  obtain ⟨f, fd, F0, mf⟩ := F.ex
  obtain ⟨f_read_record, fd_read_record, G_read_record, m_read_record, k_read_record, b_read_record⟩ := D_read_record.ex
  have b0 := F0.binds (ps := ["word"]) fun _ _ _ _ _ _ us hl => match us, hl with | [_], _ => rfl
  refine ⟨⟨f, fd, F0.ok (k := 2) sc_read_records (fun vs H Q E h => ?len) (fun cdv A outer s H vs Q E hr h => ⟨t_read_records K c, ?term, ?pu⟩), mf, F0.kp, b0⟩⟩
  case len => obtain ⟨a, rfl, h⟩ := sp1_of h; rfl
  case term => have hu := hu_of hr; exact (pss_cons (ps_set (i := 1) sc_read_records.nd rfl (Or.inl rfl) (pe_lst pa_nil)) (pss_cons (ps_for PassesOwn.never rfl (pi_list (pe_split (pv 0) pe_str)) (pg_name (i := 2) sc_read_records.nd rfl (Or.inl rfl)) (pss_cons (ps_set (i := 3) sc_read_records.nd rfl (Or.inl rfl) (pe_call G_read_record (hr.mono (by decide)) rfl m_read_record k_read_record b_read_record .nil pass0 (pa_cons (pv 2) pa_nil))) (pss_cons (ps_if (pt_cmp (pc_isN (pv 3))) (pss_one (ps_ret pe_non)) pss_nil) (pss_cons (ps_if (PW.pt (pw_and (pt_truth (pv 1) (by intro _; rfl)) (pw_and1 (pt_cmpR op_le (pv 3) (pe_ix ix_list (pv 1) (pe_un un_neg pe_int) (fun _ _ => rfl)) (nomark _))))) (pss_one (ps_ret pe_non)) pss_nil) (pss_one (ps_expr (pe_bm PySem.F.plainAttrs_list PySem.F.slot_list_append PySem.F.type_list_append mt_append (pv 1) (pa_cons (pv 3) pa_nil)))))))) (pss_cons (ps_if (pt_cmpR op_gt (pe_callB call_len_seq rfl T.b_len PySem.boot_len (pa_cons (pv 1) pa_nil)) pe_int (nomark _)) (pss_one (ps_ret pe_non)) pss_nil) (pss_one (ps_ret (pv 1))))))
  case pu => obtain ⟨a, rfl, h⟩ := sp1_of h; exact pure a H Q h
abbrev s_add_store : Stmt := topS 90
theorem sc_add_store : FnScope ["house", "store"] ["house", "store"] (defScope s_add_store) := ⟨rfl, rfl, rfl, by decide +kernel, rfl, by decide +kernel, by decide +kernel⟩
abbrev sp_add_store (K : PySem.W.Frag) (c : Cs) : Sp := (sp2 (pr_add_store c))
def t_add_store (K : PySem.W.Frag) (c : Cs) : TS := (tSeq (tIfS (tB (tDIn (tFld K (tVar 1) "name") (tFld K (tVar 0) "stores"))) (tRet (tC (.str "no name"))) tNext) (tSeq (tIfS (tTest (tOp rGe (tCB rLenD (tCons (tFld K (tVar 0) "stores") tNil)) (tC (.int 4)))) (tRet (tC (.str "no many"))) tNext) (tSeq (sDPut (tFld K (tVar 0) "stores") (tFld K (tVar 1) "name") (tVar 1)) (tRet (tC (.str "ok"))))))
theorem ok_add_store {P : Program} {w : World} {K : PySem.W.Frag} {mg : Str → Option Value} {base : Heap} {c : Cs} (T : TopTxt K w mg c) (F : FunAt K mg "add_store" s_add_store) (pure : ∀ a b H Q, pr_add_store c a b H Q → t_add_store K c { nx := fun _ H' => Q .non H', rt := Q } (start ["house", "store"] [a, b]) H) : Def P w K mg base "add_store" 1 ["house", "store"] (sp_add_store K c) := by
  obtain ⟨f, fd, F0, mf⟩ := F.ex
  have b0 := F0.binds (ps := ["house", "store"]) fun _ _ _ _ _ _ us hl => match us, hl with | [_, _], _ => rfl
  refine ⟨⟨f, fd, F0.ok (k := 0) sc_add_store (fun vs H Q E h => ?len) (fun cdv A outer s H vs Q E hr h => ⟨t_add_store K c, ?term, ?pu⟩), mf, F0.kp, b0⟩⟩
  case len => obtain ⟨a, b, rfl, h⟩ := sp2_of h; rfl
  case term => have hu := hu_of hr; exact (pss_cons (ps_if (pt_cmp (pc_din hu (pe_fld (pv 1) rfl) (pe_fld (pv 0) rfl))) (pss_one (ps_ret pe_str)) pss_nil) (pss_cons (ps_if (pt_cmpR op_ge (pe_callB call_lenD rfl T.b_len PySem.boot_len (pa_cons (pe_fld (pv 0) rfl) pa_nil)) (pe_gv rfl T.g_MOST_STORES) (nomark _)) (pss_one (ps_ret pe_str)) pss_nil) (pss_cons (ps_dput hu (pe_fld (pv 0) rfl) (pe_fld (pv 1) rfl) (pv 1) rfl) (pss_one (ps_ret pe_str)))))
  case pu => obtain ⟨a, b, rfl, h⟩ := sp2_of h; exact pure a b H Q h
abbrev s_add_rolled_store : Stmt := topS 91
theorem sc_add_rolled_store : FnScope ["house", "things"] ["house", "things"] (defScope s_add_rolled_store) := ⟨rfl, rfl, rfl, by decide +kernel, rfl, by decide +kernel, by decide +kernel⟩
abbrev sp_add_rolled_store (K : PySem.W.Frag) (c : Cs) : Sp := (sp2 (pr_add_rolled_store c))
def t_add_rolled_store (K : PySem.W.Frag) (c : Cs) : TS := (tRet (tCall (sp_add_store K c) [] E0 (tCons (tVar 0) (tCons (tMake c.Store (spI_Store K c) [] E0 (tCons (tOp (rIxL K) (tVar 1) (tC (.int 0))) (tCons (tC (.str "roll")) (tCons (tOp (rIxL K) (tVar 1) (tC (.int 1))) tNil)))) tNil))))
theorem ok_add_rolled_store {P : Program} {w : World} {K : PySem.W.Frag} {mg : Str → Option Value} {base : Heap} {c : Cs} (T : TopTxt K w mg c) (F : FunAt K mg "add_rolled_store" s_add_rolled_store) (D_add_store : Def P w K mg base "add_store" 1 ["house", "store"] (sp_add_store K c)) (DI_Store : MadeBy P w K mg base c.Store 1 ["self", "name", "way", "turn"] (spI_Store K c)) (pure : ∀ a b H Q, pr_add_rolled_store c a b H Q → t_add_rolled_store K c { nx := fun _ H' => Q .non H', rt := Q } (start ["house", "things"] [a, b]) H) : Def P w K mg base "add_rolled_store" 3 ["house", "things"] (sp_add_rolled_store K c) := by
  obtain ⟨f, fd, F0, mf⟩ := F.ex
  obtain ⟨f_add_store, fd_add_store, G_add_store, m_add_store, k_add_store, b_add_store⟩ := D_add_store.ex
  obtain ⟨fI_Store, fdI_Store, M_Store, GI_Store, bI_Store⟩ := DI_Store.ex
  have b0 := F0.binds (ps := ["house", "things"]) fun _ _ _ _ _ _ us hl => match us, hl with | [_, _], _ => rfl
  refine ⟨⟨f, fd, F0.ok (k := 2) sc_add_rolled_store (fun vs H Q E h => ?len) (fun cdv A outer s H vs Q E hr h => ⟨t_add_rolled_store K c, ?term, ?pu⟩), mf, F0.kp, b0⟩⟩
  case len => obtain ⟨a, b, rfl, h⟩ := sp2_of h; rfl
  case term => have hu := hu_of hr; exact (pss_one (ps_ret (pe_call G_add_store (hr.mono (by decide)) rfl m_add_store k_add_store b_add_store .nil pass0 (pa_cons (pv 0) (pa_cons (pe_make M_Store GI_Store (hr.mono (by decide)) rfl T.m_Store bI_Store .nil pass0 (pa_cons (pe_ix ix_list (pv 1) pe_int (fun _ _ => rfl)) (pa_cons pe_str (pa_cons (pe_ix ix_list (pv 1) pe_int (fun _ _ => rfl)) pa_nil)))) pa_nil)))))
  case pu => obtain ⟨a, b, rfl, h⟩ := sp2_of h; exact pure a b H Q h
abbrev s_add_other_house : Stmt := topS 92
theorem sc_add_other_house : FnScope ["house", "things"] ["house", "things"] (defScope s_add_other_house) := ⟨rfl, rfl, rfl, by decide +kernel, rfl, by decide +kernel, by decide +kernel⟩
abbrev sp_add_other_house (K : PySem.W.Frag) (c : Cs) : Sp := (sp2 (pr_add_other_house c))
def t_add_other_house (K : PySem.W.Frag) (c : Cs) : TS := (tRet (tCall (sp_add_store K c) [] E0 (tCons (tVar 0) (tCons (tMake c.Store (spI_Store K c) [] E0 (tCons (tOp (rIxL K) (tVar 1) (tC (.int 0))) (tCons (tC (.str "other")) (tCons (tC (.int 0)) tNil)))) tNil))))
theorem ok_add_other_house {P : Program} {w : World} {K : PySem.W.Frag} {mg : Str → Option Value} {base : Heap} {c : Cs} (T : TopTxt K w mg c) (F : FunAt K mg "add_other_house" s_add_other_house) (D_add_store : Def P w K mg base "add_store" 1 ["house", "store"] (sp_add_store K c)) (DI_Store : MadeBy P w K mg base c.Store 1 ["self", "name", "way", "turn"] (spI_Store K c)) (pure : ∀ a b H Q, pr_add_other_house c a b H Q → t_add_other_house K c { nx := fun _ H' => Q .non H', rt := Q } (start ["house", "things"] [a, b]) H) : Def P w K mg base "add_other_house" 3 ["house", "things"] (sp_add_other_house K c) := by
  obtain ⟨f, fd, F0, mf⟩ := F.ex
  obtain ⟨f_add_store, fd_add_store, G_add_store, m_add_store, k_add_store, b_add_store⟩ := D_add_store.ex
  obtain ⟨fI_Store, fdI_Store, M_Store, GI_Store, bI_Store⟩ := DI_Store.ex
  have b0 := F0.binds (ps := ["house", "things"]) fun _ _ _ _ _ _ us hl => match us, hl with | [_, _], _ => rfl
  refine ⟨⟨f, fd, F0.ok (k := 2) sc_add_other_house (fun vs H Q E h => ?len) (fun cdv A outer s H vs Q E hr h => ⟨t_add_other_house K c, ?term, ?pu⟩), mf, F0.kp, b0⟩⟩
  case len => obtain ⟨a, b, rfl, h⟩ := sp2_of h; rfl
  case term => have hu := hu_of hr; exact (pss_one (ps_ret (pe_call G_add_store (hr.mono (by decide)) rfl m_add_store k_add_store b_add_store .nil pass0 (pa_cons (pv 0) (pa_cons (pe_make M_Store GI_Store (hr.mono (by decide)) rfl T.m_Store bI_Store .nil pass0 (pa_cons (pe_ix ix_list (pv 1) pe_int (fun _ _ => rfl)) (pa_cons pe_str (pa_cons pe_int pa_nil)))) pa_nil)))))
  case pu => obtain ⟨a, b, rfl, h⟩ := sp2_of h; exact pure a b H Q h
abbrev s_store_of_way : Stmt := topS 93
theorem sc_store_of_way : FnScope ["house", "name", "way", "store"] ["house", "name", "way"] (defScope s_store_of_way) := ⟨rfl, rfl, rfl, by decide +kernel, rfl, by decide +kernel, by decide +kernel⟩
abbrev sp_store_of_way (K : PySem.W.Frag) (c : Cs) : Sp := (sp3 (pr_store_of_way c))
def t_store_of_way (K : PySem.W.Frag) (c : Cs) : TS := (tSeq (tAsg (tDGet1 (tFld K (tVar 0) "stores") (tVar 1)) (gName 3)) (tSeq (tIfS (tOr (tB (tIsN (tVar 3))) (tTest (tOp rNe (tFld K (tVar 3) "way") (tVar 2)))) (tRet (tC .non)) tNext) (tRet (tVar 3))))
theorem ok_store_of_way {P : Program} {w : World} {K : PySem.W.Frag} {mg : Str → Option Value} {base : Heap} {c : Cs} (T : TopTxt K w mg c) (F : FunAt K mg "store_of_way" s_store_of_way) (pure : ∀ a b d H Q, pr_store_of_way c a b d H Q → t_store_of_way K c { nx := fun _ H' => Q .non H', rt := Q } (start ["house", "name", "way", "store"] [a, b, d]) H) : Def P w K mg base "store_of_way" 1 ["house", "name", "way"] (sp_store_of_way K c) := by
  obtain ⟨f, fd, F0, mf⟩ := F.ex
  have b0 := F0.binds (ps := ["house", "name", "way"]) fun _ _ _ _ _ _ us hl => match us, hl with | [_, _, _], _ => rfl
  refine ⟨⟨f, fd, F0.ok (k := 0) sc_store_of_way (fun vs H Q E h => ?len) (fun cdv A outer s H vs Q E hr h => ⟨t_store_of_way K c, ?term, ?pu⟩), mf, F0.kp, b0⟩⟩
  case len => obtain ⟨a, b, d, rfl, h⟩ := sp3_of h; rfl
  case term => have hu := hu_of hr; exact (pss_cons (ps_set (i := 3) sc_store_of_way.nd rfl (Or.inl rfl) (pe_dget1 hu (pe_fld (pv 0) rfl) (pv 1) ⟨rfl, rfl, rfl, rfl⟩)) (pss_cons (ps_if (PW.pt (pw_or (pt_cmp (pc_isN (pv 3))) (pw_or1 (pt_cmpR op_ne (pe_fld (pv 3) rfl) (pv 2) (nomark _))))) (pss_one (ps_ret pe_non)) pss_nil) (pss_one (ps_ret (pv 3)))))
  case pu => obtain ⟨a, b, d, rfl, h⟩ := sp3_of h; exact pure a b d H Q h
abbrev s_set_hearing : Stmt := topS 94
theorem sc_set_hearing : FnScope ["house", "name", "hears", "store"] ["house", "name", "hears"] (defScope s_set_hearing) := ⟨rfl, rfl, rfl, by decide +kernel, rfl, by decide +kernel, by decide +kernel⟩
abbrev sp_set_hearing (K : PySem.W.Frag) (c : Cs) : Sp := (sp3 (pr_set_hearing c))
def t_set_hearing (K : PySem.W.Frag) (c : Cs) : TS := (tSeq (tAsg (tCall (sp_store_of_way K c) [] E0 (tCons (tVar 0) (tCons (tVar 1) (tCons (tC (.str "other")) tNil)))) (gName 3)) (tSeq (tIfS (tB (tIsN (tVar 3))) (tRet (tC (.str "no store"))) tNext) (tSeq (sFld K (tVar 3) (tVar 2) "hears") (tSeq (tDrop (tCall (sp_all_goes K c) [] E0 (tCons (tVar 0) tNil))) (tRet (tC (.str "ok")))))))
theorem ok_set_hearing {P : Program} {w : World} {K : PySem.W.Frag} {mg : Str → Option Value} {base : Heap} {c : Cs} (T : TopTxt K w mg c) (F : FunAt K mg "set_hearing" s_set_hearing) (D_all_goes : Def P w K mg base "all_goes" 6 ["house"] (sp_all_goes K c)) (D_store_of_way : Def P w K mg base "store_of_way" 1 ["house", "name", "way"] (sp_store_of_way K c)) (pure : ∀ a b d H Q, pr_set_hearing c a b d H Q → t_set_hearing K c { nx := fun _ H' => Q .non H', rt := Q } (start ["house", "name", "hears", "store"] [a, b, d]) H) : Def P w K mg base "set_hearing" 7 ["house", "name", "hears"] (sp_set_hearing K c) := by
  obtain ⟨f, fd, F0, mf⟩ := F.ex
  obtain ⟨f_all_goes, fd_all_goes, G_all_goes, m_all_goes, k_all_goes, b_all_goes⟩ := D_all_goes.ex
  obtain ⟨f_store_of_way, fd_store_of_way, G_store_of_way, m_store_of_way, k_store_of_way, b_store_of_way⟩ := D_store_of_way.ex
  have b0 := F0.binds (ps := ["house", "name", "hears"]) fun _ _ _ _ _ _ us hl => match us, hl with | [_, _, _], _ => rfl
  refine ⟨⟨f, fd, F0.ok (k := 6) sc_set_hearing (fun vs H Q E h => ?len) (fun cdv A outer s H vs Q E hr h => ⟨t_set_hearing K c, ?term, ?pu⟩), mf, F0.kp, b0⟩⟩
  case len => obtain ⟨a, b, d, rfl, h⟩ := sp3_of h; rfl
  case term => have hu := hu_of hr; exact (pss_cons (ps_set (i := 3) sc_set_hearing.nd rfl (Or.inl rfl) (pe_call G_store_of_way (hr.mono (by decide)) rfl m_store_of_way k_store_of_way b_store_of_way .nil pass0 (pa_cons (pv 0) (pa_cons (pv 1) (pa_cons pe_str pa_nil))))) (pss_cons (ps_if (pt_cmp (pc_isN (pv 3))) (pss_one (ps_ret pe_str)) pss_nil) (pss_cons (ps_fld (pv 3) (pv 2) rfl) (pss_cons (ps_expr (pe_call G_all_goes (hr.mono (by decide)) rfl m_all_goes k_all_goes b_all_goes .nil pass0 (pa_cons (pv 0) pa_nil))) (pss_one (ps_ret pe_str))))))
  case pu => obtain ⟨a, b, d, rfl, h⟩ := sp3_of h; exact pure a b d H Q h
abbrev s_make_deaf : Stmt := topS 95
theorem sc_make_deaf : FnScope ["house", "things"] ["house", "things"] (defScope s_make_deaf) := ⟨rfl, rfl, rfl, by decide +kernel, rfl, by decide +kernel, by decide +kernel⟩
abbrev sp_make_deaf (K : PySem.W.Frag) (c : Cs) : Sp := (sp2 (pr_make_deaf c))
def t_make_deaf (K : PySem.W.Frag) (c : Cs) : TS := (tRet (tCall (sp_set_hearing K c) [] E0 (tCons (tVar 0) (tCons (tOp (rIxL K) (tVar 1) (tC (.int 0))) (tCons (tC (.bl false)) tNil)))))
theorem ok_make_deaf {P : Program} {w : World} {K : PySem.W.Frag} {mg : Str → Option Value} {base : Heap} {c : Cs} (T : TopTxt K w mg c) (F : FunAt K mg "make_deaf" s_make_deaf) (D_set_hearing : Def P w K mg base "set_hearing" 7 ["house", "name", "hears"] (sp_set_hearing K c)) (pure : ∀ a b H Q, pr_make_deaf c a b H Q → t_make_deaf K c { nx := fun _ H' => Q .non H', rt := Q } (start ["house", "things"] [a, b]) H) : Def P w K mg base "make_deaf" 8 ["house", "things"] (sp_make_deaf K c) := by
  obtain ⟨f, fd, F0, mf⟩ := F.ex
  obtain ⟨f_set_hearing, fd_set_hearing, G_set_hearing, m_set_hearing, k_set_hearing, b_set_hearing⟩ := D_set_hearing.ex
  have b0 := F0.binds (ps := ["house", "things"]) fun _ _ _ _ _ _ us hl => match us, hl with | [_, _], _ => rfl
  refine ⟨⟨f, fd, F0.ok (k := 7) sc_make_deaf (fun vs H Q E h => ?len) (fun cdv A outer s H vs Q E hr h => ⟨t_make_deaf K c, ?term, ?pu⟩), mf, F0.kp, b0⟩⟩
  case len => obtain ⟨a, b, rfl, h⟩ := sp2_of h; rfl
  case term => have hu := hu_of hr; exact (pss_one (ps_ret (pe_call G_set_hearing (hr.mono (by decide)) rfl m_set_hearing k_set_hearing b_set_hearing .nil pass0 (pa_cons (pv 0) (pa_cons (pe_ix ix_list (pv 1) pe_int (fun _ _ => rfl)) (pa_cons pe_bl pa_nil))))))
  case pu => obtain ⟨a, b, rfl, h⟩ := sp2_of h; exact pure a b H Q h
abbrev s_make_hearing : Stmt := topS 96
theorem sc_make_hearing : FnScope ["house", "things"] ["house", "things"] (defScope s_make_hearing) := ⟨rfl, rfl, rfl, by decide +kernel, rfl, by decide +kernel, by decide +kernel⟩
abbrev sp_make_hearing (K : PySem.W.Frag) (c : Cs) : Sp := (sp2 (pr_make_hearing c))
def t_make_hearing (K : PySem.W.Frag) (c : Cs) : TS := (tRet (tCall (sp_set_hearing K c) [] E0 (tCons (tVar 0) (tCons (tOp (rIxL K) (tVar 1) (tC (.int 0))) (tCons (tC (.bl true)) tNil)))))
theorem ok_make_hearing {P : Program} {w : World} {K : PySem.W.Frag} {mg : Str → Option Value} {base : Heap} {c : Cs} (T : TopTxt K w mg c) (F : FunAt K mg "make_hearing" s_make_hearing) (D_set_hearing : Def P w K mg base "set_hearing" 7 ["house", "name", "hears"] (sp_set_hearing K c)) (pure : ∀ a b H Q, pr_make_hearing c a b H Q → t_make_hearing K c { nx := fun _ H' => Q .non H', rt := Q } (start ["house", "things"] [a, b]) H) : Def P w K mg base "make_hearing" 8 ["house", "things"] (sp_make_hearing K c) := by
  obtain ⟨f, fd, F0, mf⟩ := F.ex
  obtain ⟨f_set_hearing, fd_set_hearing, G_set_hearing, m_set_hearing, k_set_hearing, b_set_hearing⟩ := D_set_hearing.ex
  have b0 := F0.binds (ps := ["house", "things"]) fun _ _ _ _ _ _ us hl => match us, hl with | [_, _], _ => rfl
  refine ⟨⟨f, fd, F0.ok (k := 7) sc_make_hearing (fun vs H Q E h => ?len) (fun cdv A outer s H vs Q E hr h => ⟨t_make_hearing K c, ?term, ?pu⟩), mf, F0.kp, b0⟩⟩
  case len => obtain ⟨a, b, rfl, h⟩ := sp2_of h; rfl
  case term => have hu := hu_of hr; exact (pss_one (ps_ret (pe_call G_set_hearing (hr.mono (by decide)) rfl m_set_hearing k_set_hearing b_set_hearing .nil pass0 (pa_cons (pv 0) (pa_cons (pe_ix ix_list (pv 1) pe_int (fun _ _ => rfl)) (pa_cons pe_bl pa_nil))))))
  case pu => obtain ⟨a, b, rfl, h⟩ := sp2_of h; exact pure a b H Q h
abbrev s_lies_in : Stmt := topS 97
theorem sc_lies_in : FnScope ["record", "store", "kept"] ["record", "store"] (defScope s_lies_in) := ⟨rfl, rfl, rfl, by decide +kernel, rfl, by decide +kernel, by decide +kernel⟩
abbrev sp_lies_in (K : PySem.W.Frag) (c : Cs) : Sp := (sp2 (pr_lies_in c))
def t_lies_in (K : PySem.W.Frag) (c : Cs) : TS := (tSeq (tFor (iList K (tFld K (tVar 0) "copies")) (gName 2) (tIfS (tTest (tOp rEq (tFld K (tFld K (tVar 2) "store") "name") (tFld K (tVar 1) "name"))) (tRet (tOp rNe (tFld K (tVar 2) "state") (tC (.str "gone")))) tNext)) (tRet (tC (.bl false))))
theorem ok_lies_in {P : Program} {w : World} {K : PySem.W.Frag} {mg : Str → Option Value} {base : Heap} {c : Cs} (T : TopTxt K w mg c) (F : FunAt K mg "lies_in" s_lies_in) (pure : ∀ a b H Q, pr_lies_in c a b H Q → t_lies_in K c { nx := fun _ H' => Q .non H', rt := Q } (start ["record", "store", "kept"] [a, b]) H) : Def P w K mg base "lies_in" 1 ["record", "store"] (sp_lies_in K c) := by
  obtain ⟨f, fd, F0, mf⟩ := F.ex
  have b0 := F0.binds (ps := ["record", "store"]) fun _ _ _ _ _ _ us hl => match us, hl with | [_, _], _ => rfl
  refine ⟨⟨f, fd, F0.ok (k := 0) sc_lies_in (fun vs H Q E h => ?len) (fun cdv A outer s H vs Q E hr h => ⟨t_lies_in K c, ?term, ?pu⟩), mf, F0.kp, b0⟩⟩
  case len => obtain ⟨a, b, rfl, h⟩ := sp2_of h; rfl
  case term => have hu := hu_of hr; exact (pss_cons (ps_for PassesOwn.never rfl (pi_list (pe_fld (pv 0) rfl)) (pg_name (i := 2) sc_lies_in.nd rfl (Or.inl rfl)) (pss_one (ps_if (pt_cmpR op_eq (pe_fld (pe_fld (pv 2) rfl) rfl) (pe_fld (pv 1) rfl) (nomark _)) (pss_one (ps_ret (pe_cmpR op_ne (pe_fld (pv 2) rfl) pe_str (nomark _)))) pss_nil))) (pss_one (ps_ret pe_bl)))
  case pu => obtain ⟨a, b, rfl, h⟩ := sp2_of h; exact pure a b H Q h
abbrev s_put_back : Stmt := topS 98
theorem sc_put_back : FnScope ["house", "things", "store", "back", "lost", "away", "record"] ["house", "things"] (defScope s_put_back) := ⟨rfl, rfl, rfl, by decide +kernel, rfl, by decide +kernel, by decide +kernel⟩
abbrev sp_put_back (K : PySem.W.Frag) (c : Cs) : Sp := (sp2 (pr_put_back c))
def t_put_back (K : PySem.W.Frag) (c : Cs) : TS := (tSeq (tAsg (tCall (sp_store_of_way K c) [] E0 (tCons (tVar 0) (tCons (tOp (rIxL K) (tVar 1) (tC (.int 0))) (tCons (tC (.str "roll")) tNil)))) (gName 2)) (tSeq (tIfS (tB (tIsN (tVar 2))) (tRet (tC (.str "no store"))) tNext) (tSeq (tAsg (tLc (iList K (tFld K (tVar 0) "records")) (gName 6) (tAnd (tB (tCall (sp_is_there K c) [] E0 (tCons (tVar 6) tNil))) (tB (tCall (sp_lies_in K c) [] E0 (tCons (tVar 6) (tCons (tVar 2) tNil))))) (tVar 6) [6]) (gName 3)) (tSeq (tAsg (tLc (iList K (tFld K (tVar 0) "records")) (gName 6) (tAnd (tB (tCall (sp_is_there K c) [] E0 (tCons (tVar 6) tNil))) (tNot (tB (tCall (sp_lies_in K c) [] E0 (tCons (tVar 6) (tCons (tVar 2) tNil)))))) (tVar 6) [6]) (gName 4)) (tSeq (tAsg (tLc (iList K (tFld K (tVar 0) "records")) (gName 6) (tAnd (tNot (tB (tCall (sp_is_there K c) [] E0 (tCons (tVar 6) tNil)))) (tB (tCall (sp_lies_in K c) [] E0 (tCons (tVar 6) (tCons (tVar 2) tNil))))) (tVar 6) [6]) (gName 5)) (tSeq (tFor (iList K (tVar 4)) (gName 6) (tDrop (tCall (sp_let_go K c) [] E0 (tCons (tVar 0) (tCons (tVar 6) tNil))))) (tSeq (tDrop (tCall (sp_all_goes K c) [] E0 (tCons (tVar 0) tNil))) (tRet (tM1 (rJoin K) (tC (.str " ")) (tLst (tCons (tC (.str "ok")) (tCons (tCB rStrI (tCons (tCB (rLenL K) (tCons (tVar 3) tNil)) tNil)) (tCons (tCB rStrI (tCons (tCB (rLenL K) (tCons (tVar 4) tNil)) tNil)) (tCons (tCB rStrI (tCons (tCB (rLenL K) (tCons (tVar 5) tNil)) tNil)) tNil))))))))))))))
theorem ok_put_back {P : Program} {w : World} {K : PySem.W.Frag} {mg : Str → Option Value} {base : Heap} {c : Cs} (T : TopTxt K w mg c) (F : FunAt K mg "put_back" s_put_back) (D_all_goes : Def P w K mg base "all_goes" 6 ["house"] (sp_all_goes K c)) (D_let_go : Def P w K mg base "let_go" 2 ["house", "record"] (sp_let_go K c)) (D_is_there : Def P w K mg base "is_there" 1 ["record"] (sp_is_there K c)) (D_lies_in : Def P w K mg base "lies_in" 1 ["record", "store"] (sp_lies_in K c)) (D_store_of_way : Def P w K mg base "store_of_way" 1 ["house", "name", "way"] (sp_store_of_way K c)) (pure : ∀ a b H Q, pr_put_back c a b H Q → t_put_back K c { nx := fun _ H' => Q .non H', rt := Q } (start ["house", "things", "store", "back", "lost", "away", "record"] [a, b]) H) : Def P w K mg base "put_back" 7 ["house", "things"] (sp_put_back K c) := by
  obtain ⟨f, fd, F0, mf⟩ := F.ex
  obtain ⟨f_all_goes, fd_all_goes, G_all_goes, m_all_goes, k_all_goes, b_all_goes⟩ := D_all_goes.ex
  obtain ⟨f_let_go, fd_let_go, G_let_go, m_let_go, k_let_go, b_let_go⟩ := D_let_go.ex
  obtain ⟨f_is_there, fd_is_there, G_is_there, m_is_there, k_is_there, b_is_there⟩ := D_is_there.ex
  obtain ⟨f_lies_in, fd_lies_in, G_lies_in, m_lies_in, k_lies_in, b_lies_in⟩ := D_lies_in.ex
  obtain ⟨f_store_of_way, fd_store_of_way, G_store_of_way, m_store_of_way, k_store_of_way, b_store_of_way⟩ := D_store_of_way.ex
  have b0 := F0.binds (ps := ["house", "things"]) fun _ _ _ _ _ _ us hl => match us, hl with | [_, _], _ => rfl
  refine ⟨⟨f, fd, F0.ok (k := 6) sc_put_back (fun vs H Q E h => ?len) (fun cdv A outer s H vs Q E hr h => ⟨t_put_back K c, ?term, ?pu⟩), mf, F0.kp, b0⟩⟩
  case len => obtain ⟨a, b, rfl, h⟩ := sp2_of h; rfl
  case term => have hu := hu_of hr; exact (pss_cons (ps_set (i := 2) sc_put_back.nd rfl (Or.inr rfl) (pe_call G_store_of_way (hr.mono (by decide)) rfl m_store_of_way k_store_of_way b_store_of_way .nil pass0 (pa_cons (pv 0) (pa_cons (pe_ix ix_list (pv 1) pe_int (fun _ _ => rfl)) (pa_cons pe_str pa_nil))))) (pss_cons (ps_if (pt_cmp (pc_isN (pv 2))) (pss_one (ps_ret pe_str)) pss_nil) (pss_cons (ps_setLc (i := 3) (own := [("record", 6)]) (g := gName 6) (tt := (tAnd (tB (tCall (sp_is_there K c) [] E0 (tCons (tVar 6) tNil))) (tB (tCall (sp_lies_in K c) [] E0 (tCons (tVar 6) (tCons (tVar 2) tNil)))))) rfl sc_put_back.nd rfl rfl (sw_true rfl rfl rfl (by decide +kernel)) (pi_list (pe_fld (pv 0) rfl)) (blkOk_by (N := ["house", "things", "store", "back", "lost", "away", "record"]) (sc := defScope s_put_back) (by decide +kernel)) (fun _ _ _ _ _ => pg_name (i := 6) sc_put_back.nd rfl (Or.inl rfl)) (fun _ _ _ _ _ => (pts_one (PW.pt (pw_and (pt_val (pe_call G_is_there (hr.mono (by decide)) rfl m_is_there k_is_there b_is_there .nil pass0 (pa_cons (pv 6) pa_nil))) (pw_and1 (pt_val (pe_call G_lies_in (hr.mono (by decide)) rfl m_lies_in k_lies_in b_lies_in .nil pass0 (pa_cons (pv 6) (pa_cons (pv 2) pa_nil))))))))) (fun _ _ _ _ _ => (pv 6))) (pss_cons (ps_setLc (i := 4) (own := [("record", 6)]) (g := gName 6) (tt := (tAnd (tB (tCall (sp_is_there K c) [] E0 (tCons (tVar 6) tNil))) (tNot (tB (tCall (sp_lies_in K c) [] E0 (tCons (tVar 6) (tCons (tVar 2) tNil))))))) rfl sc_put_back.nd rfl rfl (sw_true rfl rfl rfl (by decide +kernel)) (pi_list (pe_fld (pv 0) rfl)) (blkOk_by (N := ["house", "things", "store", "back", "lost", "away", "record"]) (sc := defScope s_put_back) (by decide +kernel)) (fun _ _ _ _ _ => pg_name (i := 6) sc_put_back.nd rfl (Or.inl rfl)) (fun _ _ _ _ _ => (pts_one (PW.pt (pw_and (pt_val (pe_call G_is_there (hr.mono (by decide)) rfl m_is_there k_is_there b_is_there .nil pass0 (pa_cons (pv 6) pa_nil))) (pw_and1 (pt_not (pt_val (pe_call G_lies_in (hr.mono (by decide)) rfl m_lies_in k_lies_in b_lies_in .nil pass0 (pa_cons (pv 6) (pa_cons (pv 2) pa_nil)))))))))) (fun _ _ _ _ _ => (pv 6))) (pss_cons (ps_setLc (i := 5) (own := [("record", 6)]) (g := gName 6) (tt := (tAnd (tNot (tB (tCall (sp_is_there K c) [] E0 (tCons (tVar 6) tNil)))) (tB (tCall (sp_lies_in K c) [] E0 (tCons (tVar 6) (tCons (tVar 2) tNil)))))) rfl sc_put_back.nd rfl rfl (sw_true rfl rfl rfl (by decide +kernel)) (pi_list (pe_fld (pv 0) rfl)) (blkOk_by (N := ["house", "things", "store", "back", "lost", "away", "record"]) (sc := defScope s_put_back) (by decide +kernel)) (fun _ _ _ _ _ => pg_name (i := 6) sc_put_back.nd rfl (Or.inl rfl)) (fun _ _ _ _ _ => (pts_one (PW.pt (pw_and (pt_not (pt_val (pe_call G_is_there (hr.mono (by decide)) rfl m_is_there k_is_there b_is_there .nil pass0 (pa_cons (pv 6) pa_nil)))) (pw_and1 (pt_val (pe_call G_lies_in (hr.mono (by decide)) rfl m_lies_in k_lies_in b_lies_in .nil pass0 (pa_cons (pv 6) (pa_cons (pv 2) pa_nil))))))))) (fun _ _ _ _ _ => (pv 6))) (pss_cons (ps_for PassesOwn.never rfl (pi_list (pv 4)) (pg_name (i := 6) sc_put_back.nd rfl (Or.inl rfl)) (pss_one (ps_expr (pe_call G_let_go (hr.mono (by decide)) rfl m_let_go k_let_go b_let_go .nil pass0 (pa_cons (pv 0) (pa_cons (pv 6) pa_nil)))))) (pss_cons (ps_expr (pe_call G_all_goes (hr.mono (by decide)) rfl m_all_goes k_all_goes b_all_goes .nil pass0 (pa_cons (pv 0) pa_nil))) (pss_one (ps_ret (pe_join pe_str (pe_lst (pa_cons pe_str (pa_cons (pe_callTy call_str_int rfl T.b_str (by decide +kernel) (pa_cons (pe_callB call_len_seq rfl T.b_len PySem.boot_len (pa_cons (pv 3) pa_nil)) pa_nil)) (pa_cons (pe_callTy call_str_int rfl T.b_str (by decide +kernel) (pa_cons (pe_callB call_len_seq rfl T.b_len PySem.boot_len (pa_cons (pv 4) pa_nil)) pa_nil)) (pa_cons (pe_callTy call_str_int rfl T.b_str (by decide +kernel) (pa_cons (pe_callB call_len_seq rfl T.b_len PySem.boot_len (pa_cons (pv 5) pa_nil)) pa_nil)) pa_nil)))))))))))))))
  case pu => obtain ⟨a, b, rfl, h⟩ := sp2_of h; exact pure a b H Q h
end Kr

set_option Elab.async false
set_option linter.all false
set_option maxRecDepth 100000
set_option maxHeartbeats 2000000
namespace Kr
open PySem PySem.Spec PyProof.Rows L2
section
variable {K : PySem.W.Frag} {w : World} {mg : Str → Option Value} {c : Cs}
theorem ground_get {H : Hp} {L : Tag → Addr} {s : Kp01.House} {n : Bytes} (hd : H (L .grounds) = some (.dK (byName (·.name) (fun n => .ref (L (.ground n))) s.grounds))) : DGet H (L .grounds) (.str (txt n)) ((groundOf s n).map fun _ => .ref (L (.ground n))) := by
  rw [← grounds_get]
  exact DGet.k (k := .inr (txt n)) hd
theorem hold_get {H : Hp} {L : Tag → Addr} {s : Kp01.House} {n : Bytes} (hd : H (L .holds) = some (.dK (byName (·.name) (fun n => .ref (L (.hold n))) s.holds))) : DGet H (L .holds) (.str (txt n)) ((holdOf s n).map fun _ => .ref (L (.hold n))) := by
  rw [← holds_get]
  exact DGet.k (k := .inr (txt n)) hd
theorem store_get {H : Hp} {L : Tag → Addr} {s : Kp01.House} {n : Bytes} (hd : H (L .stores) = some (.dK (byName Kp01.storeName (fun n => .ref (L (.store n))) s.stores))) : DGet H (L .stores) (.str (txt n)) ((Kp01.storeOf s n).map fun _ => .ref (L (.store n))) := by
  rw [← stores_get]
  exact DGet.k (k := .inr (txt n)) hd
theorem pure_add_ground (T : TopTxt K w mg c) : ∀ a b H Q, pr_add_ground c a b H Q → t_add_ground K c (D0 Q) (start ["house", "ground"] [a, b]) H := by
  rintro _ _ H Q ⟨F, s, L, p, x, rfl, rfl, hx, ⟨dx, R⟩, fp, g, q⟩
  have hd := R.grounds (by simp)
  have oh := R.house (by simp)
  have og : Ob H p c.Ground nGround (groundVals x) := ⟨dx, R.keep _ _ upd_same⟩
  have R0 : Rep c [] F s L H := R.less (F_less fp)
  have e0 : Kp01.does s (.ground x) = if s.grounds.any (fun y => y.name == x.name) = true then (s, Kp01.no "name") else if 8 ≤ s.grounds.length then (s, Kp01.no "many") else (Kp01.today { s with grounds := s.grounds ++ [x] }, Kp01.ok) := rfl
  rw [any_find (nm := fun (y : Kp01.Ground) => y.name)] at e0
  refine ⟨_, rfl, fq (fd_Ground_name T og) ⟨_, rfl, fq (fd_House_grounds T oh) ⟨_, _, rfl, ground_get hd, _, rfl, ?_⟩⟩⟩
  cases hp : groundOf s x.name with
  | some y =>
    have hp' : (s.grounds.find? fun y => y.name == x.name) = some y := hp
    rw [hp', if_pos (by simp)] at e0
    exact if_true_of rfl (fin q e0 (no_txt rfl) R0 rfl)
  | none =>
    have hp' : (s.grounds.find? fun y => y.name == x.name) = none := hp
    rw [hp', if_neg (by simp)] at e0
    refine if_false_of rfl ?_
    refine ⟨_, rfl, fq (fd_House_grounds T oh) ⟨_, _, rfl, hd, _, _, rfl, rfl, _, rfl, ?_⟩⟩
    rw [byName_len]
    show if decide (((8 : Nat) : Int) ≤ (s.grounds.length : Int)) = true then _ else _
    rw [dec_len]
    by_cases hl : 8 ≤ s.grounds.length
    · rw [if_pos hl] at e0
      exact if_true_of (decide_eq_true hl) (fin q e0 (no_txt rfl) R0 rfl)
    · rw [if_neg hl] at e0
      refine if_false_of (decide_eq_false hl) ?_
      obtain ⟨L', R4, hL⟩ := Rep.addGround g.ok hp R fp
      refine ⟨_, rfl, _, rfl, fq (fd_House_grounds T oh) ⟨_, rfl, fq (fd_Ground_name T og) ⟨_, _, rfl, DPut.k (k := .inr (txt x.name)) hd (by rw [byName_len]; exact len_lt g.size.grounds (by decide)), ?_⟩⟩⟩
      exact ⟨_, rfl, tail_ok T q e0 R4 (g.ok.addGround hp) hL rfl⟩
theorem pure_add_law_ground (T : TopTxt K w mg c) : ∀ a b H Q, pr_add_law_ground c a b H Q → t_add_law_ground K c (D0 Q) (start ["house", "things"] [a, b]) H := by
  rintro _ _ H Q ⟨F, s, L, a, vals, cmd, rfl, rfl, R, g, fa, ⟨n, k, d, e, rfl, rfl, hn, hk, hd⟩, q⟩
  have ha := R.keep _ _ fa
  refine ⟨_, rfl, _, rfl, thing ha rfl ⟨_, rfl, thing ha rfl ⟨_, rfl, thing ha rfl ⟨_, rfl, thing ha rfl ?_⟩⟩⟩⟩
  intro x dx nx ndx ne
  refine ⟨x, dx, rfl, upd_same, rfl, ?_⟩
  refine ⟨F, s, L, x, ⟨n, k, .law, d, e⟩, rfl, rfl, ?_, ⟨dx, R.make nx ndx ne⟩, R.Fnone nx, g, q⟩
  unfold isN Kp01.isName at hn
  simp only [Bool.and_eq_true, decide_eq_true_eq] at hn
  exact hn.2.1
theorem pure_add_need_ground (T : TopTxt K w mg c) : ∀ a b H Q, pr_add_need_ground c a b H Q → t_add_need_ground K c (D0 Q) (start ["house", "things"] [a, b]) H := by
  rintro _ _ H Q ⟨F, s, L, a, vals, cmd, rfl, rfl, R, g, fa, ⟨n, k, d, e, rfl, rfl, hn, hk, hd⟩, q⟩
  have ha := R.keep _ _ fa
  refine ⟨_, rfl, _, rfl, thing ha rfl ⟨_, rfl, thing ha rfl ⟨_, rfl, thing ha rfl ⟨_, rfl, thing ha rfl ?_⟩⟩⟩⟩
  intro x dx nx ndx ne
  refine ⟨x, dx, rfl, upd_same, rfl, ?_⟩
  refine ⟨F, s, L, x, ⟨n, k, .need, d, e⟩, rfl, rfl, ?_, ⟨dx, R.make nx ndx ne⟩, R.Fnone nx, g, q⟩
  unfold isN Kp01.isName at hn
  simp only [Bool.and_eq_true, decide_eq_true_eq] at hn
  exact hn.2.1
theorem pure_add_purpose_ground (T : TopTxt K w mg c) : ∀ a b H Q, pr_add_purpose_ground c a b H Q → t_add_purpose_ground K c (D0 Q) (start ["house", "things"] [a, b]) H := by
  rintro _ _ H Q ⟨F, s, L, a, vals, cmd, rfl, rfl, R, g, fa, ⟨n, k, v, d, e, rfl, rfl, hn, hk, hv, hd⟩, q⟩
  have ha := R.keep _ _ fa
  refine ⟨_, rfl, _, rfl, thing ha rfl ⟨_, rfl, thing ha rfl ⟨_, rfl, thing ha rfl ⟨_, rfl, thing ha rfl ⟨_, rfl, thing ha rfl ?_⟩⟩⟩⟩⟩
  intro x dx nx ndx ne
  refine ⟨x, dx, rfl, upd_same, rfl, ?_⟩
  refine ⟨F, s, L, x, ⟨n, k, .consent v, d, e⟩, rfl, rfl, ?_, ⟨dx, R.make nx ndx ne⟩, R.Fnone nx, g, q⟩
  unfold isN Kp01.isName at hn
  simp only [Bool.and_eq_true, decide_eq_true_eq] at hn
  exact hn.2.1
theorem pure_void_ground (T : TopTxt K w mg c) : ∀ a b H Q, pr_void_ground c a b H Q → t_void_ground K c (D0 Q) (start ["house", "things", "name"] [a, b]) H := by
  rintro _ _ H Q ⟨F, s, L, a, vals, cmd, rfl, rfl, R, g, fa, ⟨n, rfl, rfl, hn⟩, q⟩
  have ha := R.keep _ _ fa
  have hd := R.grounds (by simp)
  have oh := R.house (by simp)
  have e0 : Kp01.does s (.void n) = if s.grounds.any (fun y => y.name == n) = false then (s, Kp01.no "name") else (Kp01.today { s with grounds := s.grounds.filter fun x => x.name != n }, Kp01.ok) := rfl
  rw [any_find (nm := fun (y : Kp01.Ground) => y.name)] at e0
  refine ⟨_, rfl, thing ha rfl ?_⟩
  refine ⟨_, rfl, _, rfl, fq (fd_House_grounds T oh) ⟨_, _, rfl, ground_get hd, _, rfl, ?_⟩⟩
  cases hp : groundOf s n with
  | none =>
    have hp' : (s.grounds.find? fun y => y.name == n) = none := hp
    rw [hp', if_pos (by simp)] at e0
    exact if_true_of rfl (fin q e0 (no_txt rfl) R rfl)
  | some y =>
    have hp' : (s.grounds.find? fun y => y.name == n) = some y := hp
    rw [hp', if_neg (by simp)] at e0
    refine if_false_of rfl ?_
    refine ⟨_, rfl, fq (fd_House_grounds T oh) ⟨_, rfl, isD_of hd, _, rfl, _, .inr (txt n), .ref (L (.ground n)), hd, rfl, by rw [grounds_get, hp]; rfl, ?_⟩⟩
    exact ⟨_, rfl, tail_ok T q e0 R.dropGround g.ok.dropGround rfl rfl⟩
theorem pure_free_hold (T : TopTxt K w mg c) : ∀ a b H Q, pr_free_hold c a b H Q → t_free_hold K c (D0 Q) (start ["house", "things", "name"] [a, b]) H := by
  rintro _ _ H Q ⟨F, s, L, a, vals, cmd, rfl, rfl, R, g, fa, ⟨n, rfl, rfl, hn⟩, q⟩
  have ha := R.keep _ _ fa
  have hd := R.holds (by simp)
  have oh := R.house (by simp)
  have e0 : Kp01.does s (.free n) = if s.holds.any (fun y => y.name == n) = false then (s, Kp01.no "name") else (Kp01.today { s with holds := s.holds.filter fun x => x.name != n }, Kp01.ok) := rfl
  rw [any_find (nm := fun (y : Kp01.Hold) => y.name)] at e0
  refine ⟨_, rfl, thing ha rfl ?_⟩
  refine ⟨_, rfl, _, rfl, fq (fd_House_holds T oh) ⟨_, _, rfl, hold_get hd, _, rfl, ?_⟩⟩
  cases hp : holdOf s n with
  | none =>
    have hp' : (s.holds.find? fun y => y.name == n) = none := hp
    rw [hp', if_pos (by simp)] at e0
    exact if_true_of rfl (fin q e0 (no_txt rfl) R rfl)
  | some y =>
    have hp' : (s.holds.find? fun y => y.name == n) = some y := hp
    rw [hp', if_neg (by simp)] at e0
    refine if_false_of rfl ?_
    refine ⟨_, rfl, fq (fd_House_holds T oh) ⟨_, rfl, isD_of hd, _, rfl, _, .inr (txt n), .ref (L (.hold n)), hd, rfl, by rw [holds_get, hp]; rfl, ?_⟩⟩
    exact ⟨_, rfl, tail_ok T q e0 R.dropHold g.ok.dropHold rfl rfl⟩
theorem not_any {x : Bytes} (h : isN x) : x ≠ Kp01.ascii "any" := fun z => by
  unfold isN Kp01.isName at h
  simp only [Bool.and_eq_true, bne_iff_ne] at h
  exact h.2.2.2.1 z
theorem not_main {x : Bytes} (h : isN x) : x ≠ Kp01.MAIN := fun z => by
  unfold isN Kp01.isName at h
  simp only [Bool.and_eq_true, bne_iff_ne] at h
  exact h.2.2.2.2 z
theorem pure_add_hold (T : TopTxt K w mg c) : ∀ a b H Q, pr_add_hold c a b H Q → t_add_hold K c (D0 Q) (start ["house", "things", "name", "person"] [a, b]) H := by
  rintro _ _ H Q ⟨F, s, L, a, vals, cmd, rfl, rfl, R, g, fa, ⟨n, p, k, rfl, rfl, hn, hp0, hk⟩, q⟩
  have ha := R.keep _ _ fa
  have hd := R.holds (by simp)
  have hdp := R.people (by simp)
  have oh := R.house (by simp)
  have e0 : Kp01.does s (.hold ⟨n, p, k⟩) = if s.holds.any (fun y => y.name == n) = true then (s, Kp01.no "name") else if (Kp01.personOf s p).isNone = true then (s, Kp01.no "person") else if 4 ≤ s.holds.length then (s, Kp01.no "many") else ({ s with holds := s.holds ++ [⟨n, p, k⟩] }, Kp01.ok) := rfl
  rw [any_find (nm := fun (y : Kp01.Hold) => y.name)] at e0
  refine ⟨_, rfl, thing ha rfl ?_⟩
  refine ⟨_, rfl, fq (fd_House_people T oh) ⟨_, rfl, isD_of hdp, _, rfl, thing ha rfl ⟨_, slot_ok hdp, ?_⟩⟩⟩
  refine ⟨_, rfl, _, rfl, fq (fd_House_holds T oh) ⟨_, _, rfl, hold_get hd, _, rfl, ?_⟩⟩
  cases hh : holdOf s n with
  | some y =>
    have hh' : (s.holds.find? fun y => y.name == n) = some y := hh
    rw [hh', if_pos (by simp)] at e0
    exact if_true_of rfl (fin q e0 (no_txt rfl) R rfl)
  | none =>
    have hh' : (s.holds.find? fun y => y.name == n) = none := hh
    rw [hh', if_neg (by simp)] at e0
    refine if_false_of rfl ?_
    refine ⟨_, rfl, _, rfl, ?_⟩
    cases hp : Kp01.personOf s p with
    | none =>
      rw [hp, if_pos (by simp)] at e0
      exact if_true_of rfl (fin q e0 (no_txt rfl) R rfl)
    | some pp =>
      rw [hp, if_neg (by simp)] at e0
      refine if_false_of rfl ?_
      refine ⟨_, rfl, fq (fd_House_holds T oh) ⟨_, _, rfl, hd, _, _, rfl, rfl, _, rfl, ?_⟩⟩
      rw [byName_len]
      show if decide (((4 : Nat) : Int) ≤ (s.holds.length : Int)) = true then _ else _
      rw [dec_len]
      by_cases hl : 4 ≤ s.holds.length
      · rw [if_pos hl] at e0
        exact if_true_of (decide_eq_true hl) (fin q e0 (no_txt rfl) R rfl)
      · rw [if_neg hl] at e0
        refine if_false_of (decide_eq_false hl) ?_
        refine ⟨_, rfl, _, rfl, _, rfl, thing ha rfl ?_⟩
        intro x dx nx ndx ne
        refine ⟨x, dx, rfl, upd_same, rfl, ?_⟩
        have R2 := R.make (C := c.Hold) (o := .ins c.Hold dx (fsOf nHold (holdVals L ⟨n, p, k⟩))) nx ndx ne
        have hd2 := R2.holds (by simp)
        obtain ⟨L', R4, hL⟩ := Rep.addHold (x := ⟨n, p, k⟩) g.ok hh R2 (R.Fnone nx)
        refine ⟨_, rfl, fq (fd_House_holds T (R2.house (by simp))) ⟨_, rfl, _, _, rfl, DPut.k (k := .inr (txt n)) hd2 (by rw [byName_len]; exact len_lt g.size.holds (by decide)), ?_⟩⟩
        exact fin q e0 ok_txt R4 hL
/-! ### stores -/
theorem pure_add_store (T : TopTxt K w mg c) : ∀ a b H Q, pr_add_store c a b H Q → t_add_store K c (D0 Q) (start ["house", "store"] [a, b]) H := by
  rintro _ _ H Q ⟨F, s, L, p, x, rfl, rfl, hx, ⟨dx, R⟩, fp, g, q⟩
  have hd := R.stores (by simp)
  have oh := R.house (by simp)
  have og : Ob H p c.Store nStore (storeVals x) := ⟨dx, R.keep _ _ upd_same⟩
  have ev : (storeVals x)[0]? = some (.str (txt (Kp01.storeName x))) := by cases x <;> rfl
  have R0 : Rep c [] F s L H := R.less (F_less fp)
  have e0 : Kp01.does s (.store x) = if (Kp01.storeOf s (Kp01.storeName x)).isSome = true then (s, Kp01.no "name") else if 4 ≤ s.stores.length then (s, Kp01.no "many") else ({ s with stores := s.stores ++ [x] }, Kp01.ok) := rfl
  refine ⟨_, rfl, fq (fd_Store_name T og ev) ⟨_, rfl, fq (fd_House_stores T oh) ⟨_, _, rfl, store_get hd, _, rfl, ?_⟩⟩⟩
  cases hp : Kp01.storeOf s (Kp01.storeName x) with
  | some y =>
    rw [hp, if_pos (by simp)] at e0
    exact if_true_of rfl (fin q e0 (no_txt rfl) R0 rfl)
  | none =>
    rw [hp, if_neg (by simp)] at e0
    refine if_false_of rfl ?_
    refine ⟨_, rfl, fq (fd_House_stores T oh) ⟨_, _, rfl, hd, _, _, rfl, rfl, _, rfl, ?_⟩⟩
    rw [byName_len]
    show if decide (((4 : Nat) : Int) ≤ (s.stores.length : Int)) = true then _ else _
    rw [dec_len]
    by_cases hl : 4 ≤ s.stores.length
    · rw [if_pos hl] at e0
      exact if_true_of (decide_eq_true hl) (fin q e0 (no_txt rfl) R0 rfl)
    · rw [if_neg hl] at e0
      refine if_false_of (decide_eq_false hl) ?_
      obtain ⟨L', R4, hL⟩ := Rep.addStore g.ok hp hx R fp
      refine ⟨_, rfl, _, rfl, fq (fd_House_stores T oh) ⟨_, rfl, fq (fd_Store_name T og ev) ⟨_, _, rfl, DPut.k (k := .inr (txt (Kp01.storeName x))) hd (by rw [byName_len]; exact len_lt g.size.stores (by decide)), ?_⟩⟩⟩
      exact fin q e0 ok_txt R4 hL
theorem pure_add_rolled_store (T : TopTxt K w mg c) : ∀ a b H Q, pr_add_rolled_store c a b H Q → t_add_rolled_store K c (D0 Q) (start ["house", "things"] [a, b]) H := by
  rintro _ _ H Q ⟨F, s, L, a, vals, cmd, rfl, rfl, R, g, fa, ⟨n, d, rfl, rfl, hn, hd⟩, q⟩
  have ha := R.keep _ _ fa
  refine ⟨_, rfl, _, rfl, thing ha rfl ⟨_, rfl, thing ha rfl ?_⟩⟩
  intro x dx nx ndx ne
  refine ⟨x, dx, rfl, upd_same, rfl, ?_⟩
  exact ⟨F, s, L, x, .roll n d, rfl, rfl, not_main hn, ⟨dx, R.make nx ndx ne⟩, R.Fnone nx, g, q⟩
theorem pure_add_other_house (T : TopTxt K w mg c) : ∀ a b H Q, pr_add_other_house c a b H Q → t_add_other_house K c (D0 Q) (start ["house", "things"] [a, b]) H := by
  rintro _ _ H Q ⟨F, s, L, a, vals, cmd, rfl, rfl, R, g, fa, ⟨n, rfl, rfl, hn⟩, q⟩
  have ha := R.keep _ _ fa
  refine ⟨_, rfl, _, rfl, thing ha rfl ?_⟩
  intro x dx nx ndx ne
  refine ⟨x, dx, rfl, upd_same, rfl, ?_⟩
  exact ⟨F, s, L, x, .other n true, rfl, rfl, not_main hn, ⟨dx, R.make nx ndx ne⟩, R.Fnone nx, g, q⟩
theorem pure_store_of_way (T : TopTxt K w mg c) : ∀ a b d H Q, pr_store_of_way c a b d H Q → t_store_of_way K c (D0 Q) (start ["house", "name", "way", "store"] [a, b, d]) H := by
  rintro _ _ _ H Q ⟨F, s, L, n, wy, rfl, rfl, rfl, R, o, q⟩
  have hd := R.stores (by simp)
  have oh := R.house (by simp)
  refine ⟨_, rfl, fq (fd_House_stores T oh) ⟨_, rfl, isD_of hd, _, rfl, _, store_get hd, ?_⟩⟩
  refine ⟨_, rfl, _, rfl, ?_⟩
  cases hs : Kp01.storeOf s n with
  | none =>
    rw [hs] at q
    exact if_true_of rfl (if_true_of rfl q)
  | some x =>
    rw [hs] at q
    replace q : Q (if wayOf x = wy then .ref (L (.store n)) else .non) H := q
    have hn : n ≠ Kp01.MAIN := fun z => by rw [z, storeOf_main o] at hs; cases hs
    have os := R.store hn hs (by simp)
    have ev : (storeVals x)[1]? = some (.str (wayOf x)) := by cases x <;> rfl
    refine if_false_of rfl ?_
    refine ⟨_, rfl, fq (fd_Store_way T os ev) ⟨_, rfl, rfl, _, rfl, ?_⟩⟩
    by_cases hw : wayOf x = wy
    · rw [if_pos hw] at q
      refine if_false_of (by rw [hw]; simp) ?_
      exact ⟨_, rfl, q⟩
    · rw [if_neg hw] at q
      exact if_true_of (by rw [decide_eq_false (str_ne_of hw)]; rfl) q
theorem pure_set_hearing (T : TopTxt K w mg c) : ∀ a b d H Q, pr_set_hearing c a b d H Q → t_set_hearing K c (D0 Q) (start ["house", "name", "hears", "store"] [a, b, d]) H := by
  rintro _ _ _ H Q ⟨F, s, L, n, b, rfl, rfl, rfl, R, g, q⟩
  have e0 : Kp01.does s (.hears n b) = match Kp01.storeOf s n with
    | some (.other _ _) => (Kp01.today (heard s n b), Kp01.ok)
    | _ => (s, Kp01.no "store") := rfl
  refine ⟨_, rfl, _, rfl, F, s, L, n, "other", rfl, rfl, rfl, R, g.ok, ?_⟩
  cases hs : Kp01.storeOf s n with
  | none =>
    rw [hs] at e0
    refine ⟨_, rfl, _, rfl, ?_⟩
    exact if_true_of rfl (fin q e0 (no_txt rfl) R rfl)
  | some x =>
    rw [hs] at e0
    cases x with
    | roll m t =>
      have e : (if wayOf (.roll m t) = ("other" : Str) then V.ref (L (.store n)) else .non) = .non := if_neg (show ¬ ("roll" : Str) = ("other" : Str) by decide +kernel)
      dsimp only
      rw [e]
      refine ⟨_, rfl, _, rfl, ?_⟩
      exact if_true_of rfl (fin q e0 (no_txt rfl) R rfl)
    | other m b0 =>
      have e : (if wayOf (.other m b0) = ("other" : Str) then V.ref (L (.store n)) else .non) = .ref (L (.store n)) := if_pos rfl
      dsimp only
      rw [e]
      refine ⟨_, rfl, _, rfl, ?_⟩
      refine if_false_of rfl ?_
      have hn : n ≠ Kp01.MAIN := fun z => by rw [z, storeOf_main g.ok] at hs; cases hs
      have nm : m = n := by simpa [Kp01.storeName] using List.find?_some hs
      have os := R.store hn hs (by simp)
      refine ⟨_, rfl, _, rfl, st_Store_hears T os rfl fun dx _ => ?_⟩
      have R1 := Rep.heard (b := b) (dx := dx) g.ok hs R
      rw [← nm] at R1 ⊢
      refine ⟨_, rfl, tail_ok T (s1 := heard s m b) q ?_ R1 (by rw [nm]; exact g.ok.heard hs) rfl rfl⟩
      rw [nm]; exact e0
theorem pure_make_deaf (T : TopTxt K w mg c) : ∀ a b H Q, pr_make_deaf c a b H Q → t_make_deaf K c (D0 Q) (start ["house", "things"] [a, b]) H := by
  rintro _ _ H Q ⟨F, s, L, a, vals, cmd, rfl, rfl, R, g, fa, ⟨n, rfl, rfl, hn⟩, q⟩
  exact ⟨_, rfl, _, rfl, thing (R.keep _ _ fa) rfl ⟨F, s, L, n, false, rfl, rfl, rfl, R, g, q⟩⟩
theorem pure_make_hearing (T : TopTxt K w mg c) : ∀ a b H Q, pr_make_hearing c a b H Q → t_make_hearing K c (D0 Q) (start ["house", "things"] [a, b]) H := by
  rintro _ _ H Q ⟨F, s, L, a, vals, cmd, rfl, rfl, R, g, fa, ⟨n, rfl, rfl, hn⟩, q⟩
  exact ⟨_, rfl, _, rfl, thing (R.keep _ _ fa) rfl ⟨F, s, L, n, true, rfl, rfl, rfl, R, g, q⟩⟩
end
end Kr

set_option Elab.async false
set_option linter.all false
set_option maxRecDepth 100000
set_option maxHeartbeats 2000000
namespace Kr
open PySem PySem.Spec PyProof.Rows L2
section
variable {K : PySem.W.Frag} {w : World} {mg : Str → Option Value} {c : Cs}
/-! ### numbers as texts -/
theorem str_num (n : Nat) : Str.ofString (toString ((n : Nat) : Int)) = txt (Kp01.decimal n) := TL.ext_tl (by rw [TL.tl_num]; rfl)
theorem log_small {n : Nat} (h : n < 2 ^ 64) : ((n : Int)).natAbs.log2 < 1920 := by
  rw [Int.natAbs_natCast]
  by_cases z : n = 0
  · subst z; decide
  · rw [Nat.log2_lt z]
    exact Nat.lt_of_lt_of_le h (Nat.pow_le_pow_right (by decide) (by decide))
theorem dec_short {n : Nat} (h : n < 10 ^ 9) : (Kp01.decimal n).length ≤ 9 := TL.numL_len (by decide) h
theorem told2 (a b : Bytes) : Kp01.told [a, b] = a ++ 32 :: b := rfl
theorem pure_init_Record (T : TopTxt K w mg c) : ∀ a b d e g i H Q, prI_Record c a b d e g i H Q → t_init_Record K c (D0 Q) (start ["self", "number", "person", "kind", "sources", "house"] [a, b, d, e, g, i]) H := by
  rintro _ v1 v2 v3 v4 _ H Q ⟨a, dx, F, s, L, rfl, h, rfl, R, fa, q⟩
  have ha : ∀ b o, H b = some o → b ≠ a → ∀ u, upd H a u b = some o := fun b o hb hne u => by rw [upd_ne hne]; exact hb
  refine ⟨_, rfl, _, rfl, sn_Record_number T (vs := []) h rfl ?_⟩
  refine ⟨_, rfl, _, rfl, sn_Record_person T (vs := [v1]) upd_same rfl ?_⟩
  refine ⟨_, rfl, _, rfl, sn_Record_kind T (vs := [v1, v2]) upd_same rfl ?_⟩
  rw [upd_upd, upd_upd]
  have R3 := R.apart (o := .ins c.Record dx (fsOf nRecord ([v1, v2] ++ [v3]))) fa
  refine ⟨_, rfl, fq (fd_House_today T (R3.house (by simp))) ⟨_, rfl, sn_Record_made T (vs := [v1, v2, v3]) upd_same rfl ?_⟩⟩
  rw [upd_upd]
  have R4 := R.apart (o := .ins c.Record dx (fsOf nRecord ([v1, v2, v3] ++ [.int s.day]))) fa
  refine ⟨_, rfl, fq (fd_House_today T (R4.house (by simp))) ⟨_, rfl, sn_Record_used T (vs := [v1, v2, v3, .int s.day]) upd_same rfl ?_⟩⟩
  refine ⟨_, rfl, _, rfl, sn_Record_sources T (vs := [v1, v2, v3, .int s.day, .int s.day]) upd_same rfl ?_⟩
  refine ⟨_, rfl, sn_Record_gone_on T (vs := [v1, v2, v3, .int s.day, .int s.day, v4]) upd_same rfl ?_⟩
  rw [upd_upd, upd_upd, upd_upd]
  have R7 := R.apart (o := .ins c.Record dx (fsOf nRecord ([v1, v2, v3, .int s.day, .int s.day, v4] ++ [.non]))) fa
  refine ⟨_, rfl, fq (fd_House_main T (R7.house (by simp))) ?_⟩
  intro e ex ne nex nee
  have ea : e ≠ a := fun z => by rw [z, upd_same] at ne; cases ne
  have exa : ex ≠ a := fun z => by rw [z, upd_same] at nex; cases nex
  rw [upd_ne ea] at ne
  rw [upd_ne exa] at nex
  refine ⟨e, ex, rfl, upd_same, rfl, ?_⟩
  refine ⟨by show 1 ≤ sizeLine; decide, fun d nd => ?_⟩
  rw [upd_upd] at nd ⊢
  have de : d ≠ e := fun z => by rw [z, upd_same] at nd; cases nd
  rw [upd_ne de] at nd
  have dex : d ≠ ex := fun z => by rw [z, upd_same] at nd; cases nd
  rw [upd_ne dex] at nd
  have da : d ≠ a := fun z => by rw [z, upd_same] at nd; cases nd
  rw [upd_ne da] at nd
  refine ⟨_, rfl, sn_Record_copies T (vs := [v1, v2, v3, .int s.day, .int s.day, v4, .non]) (dx := dx) (by rw [upd_ne da.symm, upd_ne ea.symm, upd_ne exa.symm, upd_same]; rfl) rfl ?_⟩
  refine q _ e ex d ne nd de.symm (fun b o hb hne => ?_) (by rw [upd_ne ea, upd_ne de.symm, upd_same]) (by rw [upd_ne da, upd_same]) upd_same
  rw [upd_ne hne, upd_ne (ne_of_none hb nd), upd_ne (ne_of_none hb ne), upd_ne (ne_of_none hb nex), upd_ne hne]; exact hb
theorem at_records {K : PySem.W.Frag} {H : Hp} {L : Tag → Addr} {m i : Nat} {P : V → Prop} (hl : H (L .records) = some (.lst ((List.range m).map fun i => V.ref (L (.record i))))) (hi : i < m) (q : P (.ref (L (.record i)))) :
    ∃ p xs j u, V.ref (L .records) = .ref p ∧ V.int (i : Nat) = .int j ∧ SqL K H p xs ∧ atI xs j = some u ∧ P u :=
  thing hl (atI_nat (by rw [List.getElem?_map, List.getElem?_range hi]; rfl)) q
theorem pure_record_refusal (T : TopTxt K w mg c) : ∀ a b H Q, pr_record_refusal c a b H Q → t_record_refusal K c (D0 Q) (start ["house", "number"] [a, b]) H := by
  rintro _ _ H Q ⟨F, s, L, i, rfl, rfl, R, q⟩
  have hl := R.records (by simp)
  have oh := R.house (by simp)
  refine ⟨_, rfl, _, rfl, fq (fd_House_records T oh) ⟨_, _, rfl, .inl (SqL.of hl), _, _, rfl, rfl, _, rfl, ?_⟩⟩
  rw [List.length_map, List.length_range]
  show if decide ((s.records.length : Int) ≤ (i : Int)) = true then _ else _
  rw [dec_len]
  unfold refusal at q
  by_cases hi : s.records.length ≤ i
  · rw [List.getElem?_eq_none hi] at q
    exact if_true_of (decide_eq_true hi) q
  · have hi' : i < s.records.length := by omega
    rw [List.getElem?_eq_getElem hi'] at q
    refine if_false_of (decide_eq_false hi) ?_
    refine ⟨_, rfl, fq (fd_House_records T oh) ⟨_, rfl, at_records hl hi' ?_⟩⟩
    refine ⟨F, s, L, i, _, rfl, R.sub (by simp), List.getElem?_eq_getElem hi', _, rfl, ?_⟩
    cases hg : (s.records[i]).letGo with
    | none =>
      replace q : Q (if (s.records[i]).letGo.isSome = true then .str "no gone" else .non) H := q
      rw [hg] at q
      exact if_false_of rfl q
    | some d =>
      replace q : Q (if (s.records[i]).letGo.isSome = true then .str "no gone" else .non) H := q
      rw [hg] at q
      exact if_true_of rfl q
theorem range_snoc {f : Nat → V} {m : Nat} : (List.range (m + 1)).map f = (List.range m).map f ++ [f m] := by
  rw [List.range_succ, List.map_append]; rfl
theorem str_app (a b : Str) : TL.tl (a ++ b) = TL.tl a ++ TL.tl b := TL.tl_append a b
theorem ok_num (n : Nat) : Str.empty ++ Str.ofString "ok " ++ Str.ofString (toString ((n : Nat) : Int)) = txt (Kp01.told [Kp01.ok, Kp01.decimal n]) := by
  rw [str_num]
  apply TL.ext_tl
  rw [TL.tl_append, TL.tl_append, TL.tl_ofString]
  rfl
theorem ok_num2 (n : Nat) : Str.ofString "ok " ++ Str.ofString (toString ((n : Nat) : Int)) = txt (Kp01.told [Kp01.ok, Kp01.decimal n]) := by
  rw [str_num]
  apply TL.ext_tl
  rw [TL.tl_append, TL.tl_ofString]
  rfl
theorem num_len {n : Nat} (h : n < 10 ^ 9) : (Str.ofString (toString ((n : Nat) : Int))).length ≤ 9 := by
  rw [str_num, txt_len]; exact dec_short h
theorem ty_list {K : PySem.W.Frag} {H : Hp} {p : Addr} {xs : List V} (h : H p = some (.lst xs)) : tyV K "list" (.ref p) H := Or.inl ⟨rfl, _, Or.inl (Or.inl h)⟩
theorem line_big : 1000000 ≤ sizeLine := by decide
theorem pure_add_record (T : TopTxt K w mg c) : ∀ a b d e H Q, pr_add_record c a b d e H Q → t_add_record K c (D0 Q) (start ["house", "person", "kind", "sources", "number", "record"] [a, b, d, e]) H := by
  rintro _ _ _ _ H Q ⟨F, s, L, n, k, l, qa, p, rfl, rfl, rfl, rfl, R, fq0, g, hk, hp, hl, q⟩
  have hrl := R.records (by simp)
  have oh := R.house (by simp)
  have R0 : Rep c [] F s L H := R.less (F_less fq0)
  have hl' : ∀ j ∈ l, j < s.records.length := fun j hj => by
    have z := hl j hj
    unfold there at z
    cases e : s.records[j]? with
    | none => rw [e] at z; cases z
    | some r => exact (List.getElem?_eq_some_iff.mp e).1
  have hps : (Kp01.personOf s n).isSome = true := by rw [hp]; rfl
  refine ⟨_, rfl, fq (fd_House_records T oh) ⟨_, _, rfl, .inl (SqL.of hrl), ?_⟩⟩
  rw [List.length_map, List.length_range]
  refine ⟨_, rfl, _, rfl, _, rfl, _, rfl, _, rfl, ?_⟩
  intro x dx nx ndx ne
  have Rm := R.make (C := c.Record) (o := .ins c.Record dx []) nx ndx ne
  rw [upd_upd] at Rm
  refine ⟨x, dx, _, s, L, rfl, upd_same, rfl, Rm, upd_same, fun H2 e ex d ne1 nd1 hed hfr he hd hx => ⟨rfl, ?_⟩⟩
  have xe : e ≠ x := fun z => by rw [z, upd_same] at ne1; cases ne1
  have xd : d ≠ x := fun z => by rw [z, upd_same] at nd1; cases nd1
  rw [upd_ne xe] at ne1
  rw [upd_ne xd] at nd1
  have dxe : e ≠ dx := fun z => by rw [z, upd_same] at ne1; cases ne1
  have dxd : d ≠ dx := fun z => by rw [z, upd_same] at nd1; cases nd1
  rw [upd_ne dxe] at ne1
  rw [upd_ne dxd] at nd1
  have sm : Same H H2 := Same.made nx ndx hfr
  have R2 := ((((R.same sm).more (p := e) he (R.free ne1)).more (p := d) hd (R.free nd1)).more (p := x) hx (R.free nx))
  have qae : qa ≠ e := ne_of_none (R.keep _ _ upd_same) ne1
  have qad : qa ≠ d := ne_of_none (R.keep _ _ upd_same) nd1
  have qax : qa ≠ x := ne_of_none (R.keep _ _ upd_same) nx
  obtain ⟨L', R3, hL, hLr, hLx, hLo⟩ := Rep.addRecord (F := F) (n := n) (k := k) (l := l) g.ok R2 (fun b u hb => by
      have z1 : b ≠ x := fun z => by rw [z, R0.Fnone nx] at hb; cases hb
      have z2 : b ≠ d := fun z => by rw [z, R0.Fnone nd1] at hb; cases hb
      have z3 : b ≠ e := fun z => by rw [z, R0.Fnone ne1] at hb; cases hb
      rw [upd_ne z1, upd_ne z2, upd_ne z3]
      exact F_less fq0 b u hb) hps hl' upd_same (by rw [upd_ne qax, upd_ne qad, upd_ne qae, upd_same]) (by rw [upd_ne xd, upd_same]) (by rw [upd_ne xe, upd_ne hed, upd_same]) (R0.Fnone nx) fq0 (R0.Fnone nd1) (R0.Fnone ne1) qad xe.symm
  have o1 : Ok { s with records := s.records ++ [newRec s n k l] } := g.ok.addRecord hps hl'
  have er : ({ s with records := s.records ++ [newRec s n k l] } : Kp01.House).records[s.records.length]? = some (newRec s n k l) := by rw [newRec_at, if_pos rfl]
  have e0 : Kp01.put_ s (newRec s n k l) = if Kp01.keeps { s with records := s.records ++ [newRec s n k l] } (newRec s n k l) s.day = false then (s, Kp01.no "ground") else if 16 ≤ s.records.length then (s, Kp01.no "many") else (Kp01.today { s with records := s.records ++ [newRec s n k l] }, Kp01.told [Kp01.ok, Kp01.decimal s.records.length]) := rfl
  have fin' : ∀ {s' : Kp01.House} {ans : Bytes} {H' : Hp} {L1 : Tag → Addr} {x : Str}, Kp01.put_ s (newRec s n k l) = (s', ans) → txt ans = x → Rep c [] F s' L1 H' → L1 .house = L .house → Q (.str x) H' := fun {s' ans H' L1 x} ed hx R hL => by
    have z := q H' L1
    rw [ed] at z
    rw [← hx]
    exact z R hL
  refine ⟨_, rfl, _, rfl, F, _, L', s.records.length, _, by rw [hL], by rw [hLx], R3, o1, er, fun H3 sm3 => ⟨_, rfl, ?_⟩⟩
  show if (!Kp01.keeps { s with records := s.records ++ [newRec s n k l] } (newRec s n k l) s.day) = true then _ else _
  cases hkp : Kp01.keeps { s with records := s.records ++ [newRec s n k l] } (newRec s n k l) s.day with
  | false =>
    rw [if_pos hkp] at e0
    exact if_true_of rfl (fin' e0 (no_txt rfl) (R0.same (sm.trans sm3)) rfl)
  | true =>
    rw [if_neg (by rw [hkp]; simp)] at e0
    refine if_false_of rfl ?_
    refine ⟨_, rfl, _, _, rfl, rfl, _, rfl, ?_⟩
    show if decide (((16 : Nat) : Int) ≤ (s.records.length : Int)) = true then _ else _
    rw [dec_len]
    by_cases hm : 16 ≤ s.records.length
    · rw [if_pos hm] at e0
      exact if_true_of (decide_eq_true hm) (fin' e0 (no_txt rfl) (R0.same (sm.trans sm3)) rfl)
    · rw [if_neg hm] at e0
      refine if_false_of (decide_eq_false hm) ?_
      have Rn := R0.same (sm.trans sm3)
      have hr3 := Rn.records (by simp)
      refine ⟨_, rfl, fq (fd_House_records T (Rn.house (by simp))) ⟨ty_list hr3, _, rfl, _, _, _, rfl, rfl, hr3, by rw [List.length_map, List.length_range]; exact len_lt (m := 16) (by omega) (by decide), ?_⟩⟩
      have R4 := (R3.same sm3).fill (t := .records) (X := []) (o := .lst ((List.range s.records.length).map (fun i => V.ref (L (.record i))) ++ [.ref x])) (cl := .raw (.lst ((List.range s.records.length).map (fun i => V.ref (L (.record i))) ++ [.ref x]))) (by
        show some (Cell.raw (.lst ((List.range (s.records ++ [newRec s n k l]).length).map fun i => V.ref (L' (.record i))))) = _
        rw [List.length_append, List.length_singleton, range_snoc, hLx]
        congr 4
        exact List.map_congr_left fun i hi => by rw [hLo i (List.mem_range.mp hi)]) (show _ = _ from upd_same)
      rw [hLr] at R4
      refine ⟨_, rfl, F, _, L', by rw [hL], R4, o1, fun H5 R5 => ?_⟩
      have hn9 : s.records.length < 10 ^ 9 := by omega
      refine ⟨_, rfl, ?_, _, rfl, .inr ⟨_, rfl, log_small (by omega), _, rfl, ?_, ?_⟩⟩
      · exact Nat.le_trans (by decide) line_big
      · refine Nat.le_trans ?_ line_big
        rw [TL.len_tl, TL.tl_append, List.length_append, ← TL.len_tl, ← TL.len_tl]
        have z1 := num_len hn9
        have z2 : (Str.empty ++ Str.ofString "ok ").length = 3 := by decide +kernel
        omega
      · exact fin' e0 (ok_num _).symm R5 hL
theorem pure_put_record (T : TopTxt K w mg c) : ∀ a b H Q, pr_put_record c a b H Q → t_put_record K c (D0 Q) (start ["house", "things", "person"] [a, b]) H := by
  rintro _ _ H Q ⟨F, s, L, a, vals, cmd, rfl, rfl, R, g, fa, ⟨n, k, rfl, rfl, hn, hk⟩, q⟩
  have ha := R.keep _ _ fa
  have hd := R.people (by simp)
  have oh := R.house (by simp)
  refine ⟨_, rfl, fq (fd_House_people T oh) ⟨_, rfl, isD_of hd, _, rfl, thing ha rfl ⟨_, slot_ok hd, ?_⟩⟩⟩
  refine ⟨_, rfl, _, rfl, ?_⟩
  have e0 : Kp01.does s (.put n k) = Kp01.onPerson s n fun _ => Kp01.put_ s (newRec s n k []) := rfl
  unfold Kp01.onPerson at e0
  cases hp : Kp01.personOf s n with
  | none =>
    rw [hp] at e0
    exact if_true_of rfl (fin q e0 (no_txt rfl) R rfl)
  | some p =>
    rw [hp] at e0
    replace e0 : Kp01.does s (.put n k) = Kp01.put_ s (newRec s n k []) := e0
    rw [e0] at q
    refine if_false_of rfl ?_
    refine ⟨_, rfl, _, rfl, _, rfl, thing ha rfl ⟨by show 0 ≤ sizeLine; exact Nat.zero_le _, fun x nx => ?_⟩⟩
    exact ⟨F, s, L, n, k, [], x, p, rfl, rfl, rfl, rfl, R.new nx, R.Fnone nx, g, hk, hp, (fun j hj => by cases hj), q⟩
theorem refusal_there (s : Kp01.House) (i : Nat) : (!decide (refusal s i = V.non)) = !there s i := by
  unfold refusal there
  cases s.records[i]? with
  | none => rfl
  | some r => cases hg : r.letGo <;> simp [hg]
theorem pure_make_record (T : TopTxt K w mg c) : ∀ a b H Q, pr_make_record c a b H Q → t_make_record K c (D0 Q) (start ["house", "things", "person", "numbers", "number"] [a, b]) H := by
  rintro _ _ H Q ⟨F, s, L, a, vals, cmd, rfl, rfl, R, g, fa, ⟨n, k, l, la, rfl, rfl, hn, hk, hl4, fl⟩, q⟩
  have ha := R.keep _ _ fa
  have hla := R.keep _ _ fl
  have hd := R.people (by simp)
  have oh := R.house (by simp)
  refine ⟨_, rfl, fq (fd_House_people T oh) ⟨_, rfl, isD_of hd, _, rfl, thing ha rfl ⟨_, slot_ok hd, ?_⟩⟩⟩
  refine ⟨_, rfl, thing ha rfl ?_⟩
  refine ⟨_, rfl, _, rfl, ?_⟩
  have e0 : Kp01.does s (.make n k l) = Kp01.onPerson s n fun _ => if (l.all (there s)) = false then (s, Kp01.no "record") else Kp01.put_ s (newRec s n k l) := rfl
  unfold Kp01.onPerson at e0
  cases hp : Kp01.personOf s n with
  | none =>
    rw [hp] at e0
    exact if_true_of rfl (fin q e0 (no_txt rfl) R rfl)
  | some p =>
    rw [hp] at e0
    replace e0 : Kp01.does s (.make n k l) = if (l.all (there s)) = false then (s, Kp01.no "record") else Kp01.put_ s (newRec s n k l) := e0
    refine if_false_of rfl ?_
    refine ⟨_, rfl, _, rfl, ⟨_, SqL.of hla⟩, for_list (K := K) (xs := l.map fun (j : Nat) => V.int j) (fun i σ H' => H' = H ∧ (∃ v, σ = [some (.ref (L .house)), some (.ref a), some (.ref (L (.person n))), some (.ref la), v]) ∧ (l.take i).all (there s) = true)
      ⟨rfl, ⟨none, rfl⟩, rfl⟩ (fun i σ H' _ h => by rw [h.1]; exact SqL.of hla) ?_ ?_⟩
    · rintro i x σ H' hx ⟨rfl, ⟨v, rfl⟩, hall⟩
      obtain ⟨j, hj, rfl⟩ := map_at hx
      refine ⟨_, rfl, _, rfl, F, s, L, j, rfl, rfl, R, _, rfl, ?_⟩
      rw [refusal_there]
      cases ht : there s j with
      | true => exact if_false_of rfl ⟨rfl, ⟨_, rfl⟩, take_all hj hall ht⟩
      | false =>
        have hf : l.all (there s) = false := by
          cases z : l.all (there s) with
          | false => rfl
          | true => rw [List.all_eq_true.mp z j (List.mem_of_getElem? hj)] at ht; cases ht
        rw [if_pos hf] at e0
        exact if_true_of rfl (fin q e0 (no_txt rfl) R rfl)
    · rintro σ H' ⟨rfl, ⟨v, rfl⟩, hall⟩
      rw [List.length_map, List.take_length] at hall
      rw [if_neg (by rw [hall]; simp)] at e0
      rw [e0] at q
      have hth := List.all_eq_true.mp hall
      have hlt : ∀ j ∈ l, j < s.records.length := fun j hj => by
        have z := hth j hj
        unfold there at z
        cases e : s.records[j]? with
        | none => rw [e] at z; cases z
        | some r => exact (List.getElem?_eq_some_iff.mp e).1
      refine ⟨_, rfl, _, rfl, _, rfl, thing ha rfl ⟨_, rfl, _, rfl, ⟨_, SqL.of hla⟩, fun D nD => ?_⟩⟩
      refine lc_list (K := K) (xs := l.map fun (j : Nat) => V.int j) (fun i H1 => H1 = upd H' D (.lst ((l.take i).map fun j => .ref (L (.record j))))) rfl (fun i H1 _ h => by rw [h, ]; exact SqL.of (by rw [upd_ne (ne_of_none hla nD)]; exact hla)) ?_ ?_
      · rintro i x H1 hx rfl
        obtain ⟨j, hj, rfl⟩ := map_at hx
        have R1 := R.new (o := .lst ((l.take i).map fun j => V.ref (L (.record j)))) nD
        refine ⟨rfl, ?_⟩
        refine ⟨_, rfl, fq (fd_House_records T (R1.house (by simp))) ⟨_, rfl, at_records (R1.records (by simp)) (hlt j (List.mem_of_getElem? hj)) ⟨_, upd_same, ?_, ?_⟩⟩⟩
        · rw [List.length_map, List.length_take]
          have hlen : l.length ≤ sizeLine := Nat.le_trans hl4 (by decide)
          have := (List.getElem?_eq_some_iff.mp hj).1
          omega
        · rw [upd_upd, List.take_succ, hj]
          simp
      · rintro H1 rfl
        rw [List.length_map, List.take_length]
        exact ⟨F, s, L, n, k, l, D, p, rfl, rfl, rfl, rfl, R.new nD, R.Fnone nD, g, hk, hp, hth, q⟩
theorem nodup_le {l m : List Bytes} (h : l.Nodup) (hs : ∀ x ∈ l, x ∈ m) : l.length ≤ m.length := by
  induction l generalizing m with
  | nil => exact Nat.zero_le _
  | cons a r ih =>
    rw [List.nodup_cons] at h
    have ha : a ∈ m := hs a (List.mem_cons_self ..)
    have z := ih (m := m.erase a) h.2 (fun x hx => by
      have ne : x ≠ a := fun e => h.1 (by rw [← e]; exact hx)
      exact (List.mem_erase_of_ne ne).mpr (hs x (List.mem_cons_of_mem _ hx)))
    rw [List.length_erase_of_mem ha] at z
    have : 0 < m.length := List.length_pos_of_mem ha
    rw [List.length_cons]
    omega
theorem copies_len {s : Kp01.House} (g : Good s) {i : Nat} {r : Kp01.Record} (e : s.records[i]? = some r) : r.copies.length ≤ 5 := by
  have z := nodup_le (l := r.copies.map (·.store)) (m := Kp01.MAIN :: s.stores.map Kp01.storeName) (g.ok.ncopies i r e) (fun x hx => by
    obtain ⟨k, hk, rfl⟩ := List.mem_map.mp hx
    rcases g.ok.cstores i r e k hk with z | z
    · rw [z]; exact List.mem_cons_self ..
    · obtain ⟨y, ey⟩ := Option.isSome_iff_exists.mp z
      have ny : Kp01.storeName y = k.store := by simpa using List.find?_some ey
      exact List.mem_cons_of_mem _ (List.mem_map.mpr ⟨y, List.mem_of_find?_eq_some ey, ny⟩))
  rw [List.length_map, List.length_cons, List.length_map] at z
  have := g.size.stores
  omega
theorem in_names (n : Bytes) : ∀ l : List Bytes, inV (.str (txt n)) (strsV l) = l.any (· == n)
  | [] => rfl
  | a :: r => by
    have e : eqV (.str (txt a)) (.str (txt n)) = (a == n) := by
      show (txt a == txt n) = (a == n)
      by_cases z : a = n
      · subst z; simp
      · rw [beq_eq_false_iff_ne.mpr z]; exact beq_eq_false_iff_ne.mpr fun y => z (txt_inj y)
    show (eqV (.str (txt a)) (.str (txt n)) || inV (.str (txt n)) (strsV r)) = _
    rw [e, in_names n r]; rfl
theorem flat_strs (l : List Bytes) : (strsV l).all flatV = true := by
  unfold strsV
  rw [List.all_map, List.all_eq_true]
  intro x _; rfl
theorem onRec_none {s : Kp01.House} {i : Nat} (h : s.records[i]? = none) (f : Kp01.Record → Kp01.House × Bytes) : Kp01.onRecord s i f = (s, Kp01.no "record") := by unfold Kp01.onRecord; rw [h]
theorem onRec_gone {s : Kp01.House} {i : Nat} {r : Kp01.Record} {d : Nat} (h : s.records[i]? = some r) (hg : r.letGo = some d) (f : Kp01.Record → Kp01.House × Bytes) : Kp01.onRecord s i f = (s, Kp01.no "gone") := by
  unfold Kp01.onRecord; rw [h]; show (if r.letGo.isSome = true then _ else _) = _; rw [if_pos (by rw [hg]; rfl)]
theorem onRec_there {s : Kp01.House} {i : Nat} {r : Kp01.Record} (h : s.records[i]? = some r) (hg : r.letGo = none) (f : Kp01.Record → Kp01.House × Bytes) : Kp01.onRecord s i f = f r := by
  unfold Kp01.onRecord; rw [h]; show (if r.letGo.isSome = true then _ else _) = _; rw [if_neg (by rw [hg]; simp)]
/-- the answer where the record is not to be had; or it is there -/
theorem refusal_cases (s : Kp01.House) (i : Nat) : (refusal s i = .str "no record" ∧ s.records[i]? = none) ∨ (∃ r d, refusal s i = .str "no gone" ∧ s.records[i]? = some r ∧ r.letGo = some d) ∨ ∃ r, refusal s i = .non ∧ s.records[i]? = some r ∧ r.letGo = none := by
  unfold refusal
  cases h : s.records[i]? with
  | none => exact .inl ⟨rfl, rfl⟩
  | some r =>
    cases hg : r.letGo with
    | some d => exact .inr (.inl ⟨r, d, by simp [hg], rfl, hg⟩)
    | none => exact .inr (.inr ⟨r, by simp [hg], rfl, hg⟩)
theorem pure_copy_record (T : TopTxt K w mg c) : ∀ a b H Q, pr_copy_record c a b H Q → t_copy_record K c (D0 Q) (start ["house", "things", "refusal", "record", "store", "kept"] [a, b]) H := by
  rintro _ _ H Q ⟨F, s, L, a, vals, cmd, rfl, rfl, R, g, fa, ⟨i, n, rfl, rfl, hn⟩, q⟩
  have ha := R.keep _ _ fa
  have hl := R.records (by simp)
  have oh := R.house (by simp)
  have e0 : Kp01.does s (.copy i n) = Kp01.onRecord s i fun r => if (Kp01.storeOf s n).isNone = true then (s, Kp01.no "store") else if r.copies.any (fun k => k.store == n) = true then (s, Kp01.no "change") else (withRec s i { r with copies := r.copies ++ [⟨n, .there⟩] }, Kp01.ok) := rfl
  refine ⟨_, rfl, _, rfl, thing ha rfl ⟨F, s, L, i, rfl, rfl, R, ?_⟩⟩
  rcases refusal_cases s i with ⟨e1, e2⟩ | ⟨r, d, e1, e2, e3⟩ | ⟨r, e1, e2, e3⟩
  · rw [e1]
    rw [onRec_none e2] at e0
    refine ⟨_, rfl, _, rfl, if_true_of rfl ⟨_, rfl, fin q e0 (no_txt rfl) R rfl⟩⟩
  · rw [e1]
    rw [onRec_gone e2 e3] at e0
    refine ⟨_, rfl, _, rfl, if_true_of rfl ⟨_, rfl, fin q e0 (no_txt rfl) R rfl⟩⟩
  · rw [e1]
    rw [onRec_there e2 e3] at e0
    have hi := (List.getElem?_eq_some_iff.mp e2).1
    refine ⟨_, rfl, _, rfl, if_false_of rfl ?_⟩
    refine ⟨_, rfl, fq (fd_House_records T oh) ⟨_, rfl, thing ha rfl (at_records hl hi ?_)⟩⟩
    refine ⟨_, rfl, fq (fd_House_stores T oh) ⟨_, rfl, isD_of (R.stores (by simp)), _, rfl, thing ha rfl ⟨_, store_get (R.stores (by simp)), ?_⟩⟩⟩
    refine ⟨_, rfl, _, rfl, ?_⟩
    cases hs : Kp01.storeOf s n with
    | none =>
      rw [hs, if_pos (by simp)] at e0
      exact if_true_of rfl (fin q e0 (no_txt rfl) R rfl)
    | some x =>
      rw [hs, if_neg (by simp)] at e0
      refine if_false_of rfl ?_
      have hm : n ≠ Kp01.MAIN := not_main hn
      have os := R.store hm hs (by simp)
      have nx : Kp01.storeName x = n := by simpa using List.find?_some hs
      have ev : (storeVals x)[0]? = some (.str (txt n)) := by rw [← nx]; cases x <;> rfl
      have hc := R.copies e2 (by simp)
      have orr := R.record e2 (by simp)
      refine ⟨_, rfl, fq (fd_Store_name T os ev) ⟨_, rfl, fq (fd_Record_copies T orr) ⟨_, rfl, ⟨_, SqL.of hc⟩, fun D nD => ?_⟩⟩⟩
      have R1 : ∀ o, Rep c [] (upd F D o) s L (upd H D o) := fun o => R.new nD
      refine lc_list (K := K) (xs := r.copies.map fun k => V.ref (L (.copy i k.store))) (fun j H1 => H1 = upd H D (.lst (strsV ((r.copies.take j).map (·.store))))) rfl (fun j H1 _ h => by rw [h]; exact SqL.of (by rw [upd_ne (ne_of_none hc nD)]; exact hc)) ?_ ?_
      · rintro j y H1 hy rfl
        obtain ⟨k, hk, rfl⟩ := map_at hy
        have hmem : k ∈ r.copies := List.mem_of_getElem? hk
        have Rj := R1 (.lst (strsV ((r.copies.take j).map (·.store))))
        have ek : copyOf r k.store = some k := find_mem (nm := fun (x : Kp01.Copy) => x.store) (g.ok.ncopies i r e2) hmem
        have ok := Rj.copy e2 ek (by simp)
        have onm : Fd K (upd H D (.lst (strsV ((r.copies.take j).map (·.store))))) (.ref (L (.store k.store))) "name" (.str (txt k.store)) := by
          rcases g.ok.cstores i r e2 k hmem with em | es
          · have om := Rj.storeM (by simp)
            rw [em]
            have z := fd_Store_name T om
            have e9 : (Str.ofString "main") = txt Kp01.MAIN := (txt_ascii "main").symm
            rw [e9] at z
            exact z
          · obtain ⟨y, ey⟩ := Option.isSome_iff_exists.mp es
            have hn2 : k.store ≠ Kp01.MAIN := fun z => by rw [z, storeOf_main g.ok] at ey; cases ey
            have ny : Kp01.storeName y = k.store := by simpa using List.find?_some ey
            exact fd_Store_name T (Rj.store hn2 ey (by simp)) (by rw [← ny]; cases y <;> rfl)
        refine ⟨rfl, ?_⟩
        refine ⟨_, rfl, fq (fd_Copy_store T ok) (fq onm ⟨_, upd_same, ?_, ?_⟩)⟩
        · unfold strsV
          rw [List.length_map, List.length_map, List.length_take]
          have hlen : r.copies.length ≤ sizeLine := Nat.le_trans (copies_len g e2) (by decide)
          have := (List.getElem?_eq_some_iff.mp hk).1
          omega
        · rw [upd_upd, List.take_succ, hk]
          simp [strsV]
      · rintro H1 rfl
        rw [List.length_map, List.take_length]
        refine ⟨D, _, rfl, .inl (SqL.of upd_same), rfl, flat_strs _, _, rfl, ?_⟩
        show if inV (.str (txt n)) (strsV (r.copies.map (·.store))) = true then _ else _
        rw [in_names, List.any_map]
        have ea : (r.copies.any ((fun x => x == n) ∘ fun x => x.store)) = r.copies.any fun k => k.store == n := rfl
        rw [ea]
        cases hb : r.copies.any fun k => k.store == n with
        | true =>
          rw [if_pos hb] at e0
          refine if_true_of rfl ?_
          exact fin q e0 (no_txt rfl) ((R1 _).less (F_less (R.Fnone nD))) rfl
        | false =>
          rw [if_neg (by rw [hb]; simp)] at e0
          refine if_false_of rfl ?_
          have Rd := (R1 (.lst (strsV (r.copies.map (·.store))))).less (F_less (R.Fnone nD))
          have ord := Rd.record e2 (by simp)
          have hcd := Rd.copies e2 (by simp)
          have hfn : copyOf r n = none := by
            have z := any_find (nm := fun (x : Kp01.Copy) => x.store) (l := r.copies) (m := n)
            rw [hb] at z
            unfold copyOf
            cases y : r.copies.find? fun k => k.store == n with
            | none => rfl
            | some k => rw [y] at z; cases z
          refine ⟨_, rfl, fq (fd_Record_copies T ord) ⟨ty_list hcd, _, rfl, ?_⟩⟩
          intro e ex ne nex nee
          refine ⟨e, ex, rfl, upd_same, rfl, ?_⟩
          have Rm := Rd.make (C := c.Copy) (o := .ins c.Copy ex (fsOf nCopy [.ref (L (.store n)), .str "there", .non])) ne nex nee
          have hcm := Rm.copies e2 (by simp)
          obtain ⟨L', R4, hL⟩ := Rep.addCopy g.ok e2 hfn (by rw [hs]; rfl) Rm (Rd.Fnone ne)
          refine ⟨_, _, _, rfl, rfl, hcm, ?_, ?_⟩
          · rw [List.length_map]
            have hlen : r.copies.length < sizeLine := Nat.lt_of_le_of_lt (copies_len g e2) (by decide)
            exact hlen
          · exact fin q e0 ok_txt R4 hL
theorem pure_use_record (T : TopTxt K w mg c) : ∀ a b H Q, pr_use_record c a b H Q → t_use_record K c (D0 Q) (start ["house", "things", "refusal"] [a, b]) H := by
  rintro _ _ H Q ⟨F, s, L, a, vals, cmd, rfl, rfl, R, g, fa, ⟨i, rfl, rfl, hi99⟩, q⟩
  have ha := R.keep _ _ fa
  have hl := R.records (by simp)
  have oh := R.house (by simp)
  have e0 : Kp01.does s (.use i) = Kp01.onRecord s i fun r => (Kp01.today (withRec s i { r with used := s.day }), Kp01.ok) := rfl
  refine ⟨_, rfl, _, rfl, thing ha rfl ⟨F, s, L, i, rfl, rfl, R, ?_⟩⟩
  rcases refusal_cases s i with ⟨e1, e2⟩ | ⟨r, d, e1, e2, e3⟩ | ⟨r, e1, e2, e3⟩
  · rw [e1]
    rw [onRec_none e2] at e0
    refine ⟨_, rfl, _, rfl, if_true_of rfl ⟨_, rfl, fin q e0 (no_txt rfl) R rfl⟩⟩
  · rw [e1]
    rw [onRec_gone e2 e3] at e0
    refine ⟨_, rfl, _, rfl, if_true_of rfl ⟨_, rfl, fin q e0 (no_txt rfl) R rfl⟩⟩
  · rw [e1]
    rw [onRec_there e2 e3] at e0
    have hi := (List.getElem?_eq_some_iff.mp e2).1
    refine ⟨_, rfl, _, rfl, if_false_of rfl ?_⟩
    refine ⟨_, rfl, fq (fd_House_today T oh) ⟨_, rfl, fq (fd_House_records T oh) ⟨_, rfl, thing ha rfl (at_records hl hi (st_Record_used T (R.record e2 (by simp)) rfl fun dx _ => ?_))⟩⟩⟩
    have R0 : Rep c [] F (withRec s i r) L H := by rw [withRec_self e2]; exact R
    have R1 := R0.set (s' := withRec s i { r with used := s.day }) (.record i) (fun u hu => cell_with hi u (fun z => absurd z hu) (fun _ => rfl) (fun _ => rfl) (fun _ _ => rfl)) (live_record (by rw [withRec_len]; exact hi)).1 (cl := .ins c.Record nRecord (recordVals L i { r with used := s.day })) (by
      show ((withRec s i _).records[i]?).map _ = _
      rw [withRec_at hi]; rfl) (o := .ins c.Record dx (fsOf nRecord (recordVals L i { r with used := s.day }))) ⟨dx, upd_same⟩
    refine ⟨_, rfl, tail_ok T q e0 R1 (g.ok.withRec e2 rfl rfl rfl (fun z k hk => g.ok.cthere i r e2 e3 k hk) (fun k hk d hd => g.ok.casked i r e2 k hk d hd)) rfl rfl⟩
theorem Ok.today {s : Kp01.House} (o : Ok s) : Ok (Kp01.today s) := by
  have o2 : Ok (Kp01.lets s) := by rw [lets_run]; exact o.run _
  show Ok (Kp01.settles (Kp01.lets s))
  rw [← setRun_all o2]
  exact setRun_ok o2 _
theorem Ok.later {s : Kp01.House} (o : Ok s) : Ok { s with day := s.day + 1 } := ⟨o.below, o.owned, o.npeople, o.ngrounds, o.nstores, o.nholds, o.noMain, o.hperson, o.hkind, o.ncopies, o.cstores, o.cthere, o.casked⟩
theorem Ok.days {s : Kp01.House} (o : Ok s) : ∀ n, Ok (Kp01.days n s)
  | 0 => o
  | n + 1 => by
    rw [days_snoc]
    exact (Ok.days o n).later.today
theorem days_day (s : Kp01.House) : ∀ n, (Kp01.days n s).day = s.day + n
  | 0 => rfl
  | n + 1 => by
    rw [days_snoc]
    show (Kp01.today _).day = _
    rw [(today_rest _).2.1]
    show (Kp01.days n s).day + 1 = _
    rw [days_day s n]; omega
theorem pure_pass_days (T : TopTxt K w mg c) : ∀ a b H Q, pr_pass_days c a b H Q → t_pass_days K c (D0 Q) (start ["house", "things", "passed"] [a, b]) H := by
  rintro _ _ H Q ⟨F, s, L, a, vals, cmd, rfl, rfl, R, g, fa, ⟨n, rfl, rfl, hn⟩, q⟩
  have ha := R.keep _ _ fa
  have e0 : Kp01.does s (.tick n) = (Kp01.days n s, Kp01.told [Kp01.ok, Kp01.decimal (s.day + n)]) := rfl
  refine ⟨_, rfl, thing ha rfl ⟨_, rfl, by omega, by omega, for_range (n := n) (fun i σ H' => Rep c [] F (Kp01.days i s) L H' ∧ ∃ v, σ = [some (.ref (L .house)), some (.ref a), v]) ⟨R, none, rfl⟩ ?_ ?_⟩⟩
  · rintro i σ H' hi ⟨R1, v, rfl⟩
    refine ⟨_, rfl, F, _, L, rfl, R1, g.ok.days i, fun H2 R2 => ⟨?_, _, rfl⟩⟩
    rw [days_snoc]; exact R2
  · rintro σ H' ⟨R1, v, rfl⟩
    refine ⟨_, rfl, fq (fd_House_today T (R1.house (by simp))) ⟨_, rfl, ?_, _, _, rfl, rfl, ?_, ?_⟩⟩
    · rw [days_day]; exact log_small (by have := g.size.day; omega)
    · rw [days_day]
      have z1 := num_len (n := s.day + n) (by have := g.size.day; omega)
      have z2 : (Str.ofString "ok ").length = 3 := by decide +kernel
      refine Nat.le_trans ?_ line_big
      omega
    · refine fin q e0 ?_ R1 rfl
      rw [days_day]
      exact (ok_num2 _).symm
end
end Kr

set_option Elab.async false
set_option linter.all false
set_option maxRecDepth 100000
set_option maxHeartbeats 4000000
namespace Kr
open PySem PySem.Spec PyProof.Rows L2
abbrev s_copy_row : Stmt := topS 80
theorem sc_copy_row : FnScope ["kept", "row"] ["kept"] (defScope s_copy_row) := ⟨rfl, rfl, rfl, by decide +kernel, rfl, by decide +kernel, by decide +kernel⟩
abbrev sp_copy_row (K : PySem.W.Frag) (c : Cs) : Sp := (sp1 (pr_copy_row c))
def t_copy_row (K : PySem.W.Frag) (c : Cs) : TS := (tSeq (tAsg (tOp rAddS (tOp rAddS (tFld K (tFld K (tVar 0) "store") "name") (tC (.str " "))) (tFld K (tVar 0) "state")) (gName 1)) (tSeq (tIfS (tB (tIsN (tFld K (tVar 0) "day"))) (tRet (tVar 1)) tNext) (tRet (tOp rAddS (tOp rAddS (tVar 1) (tC (.str " "))) (tCB rStrI (tCons (tFld K (tVar 0) "day") tNil))))))
theorem ok_copy_row {P : Program} {w : World} {K : PySem.W.Frag} {mg : Str → Option Value} {base : Heap} {c : Cs} (T : TopTxt K w mg c) (F : FunAt K mg "copy_row" s_copy_row) (pure : ∀ a H Q, pr_copy_row c a H Q → t_copy_row K c { nx := fun _ H' => Q .non H', rt := Q } (start ["kept", "row"] [a]) H) : Def P w K mg base "copy_row" 1 ["kept"] (sp_copy_row K c) := by
  obtain ⟨f, fd, F0, mf⟩ := F.ex
  have b0 := F0.binds (ps := ["kept"]) fun _ _ _ _ _ _ us hl => match us, hl with | [_], _ => rfl
  refine ⟨⟨f, fd, F0.ok (k := 0) sc_copy_row (fun vs H Q E h => ?len) (fun cdv A outer s H vs Q E hr h => ⟨t_copy_row K c, ?term, ?pu⟩), mf, F0.kp, b0⟩⟩
  case len => obtain ⟨a, rfl, h⟩ := sp1_of h; rfl
  case term => have hu := hu_of hr; exact (pss_cons (ps_set (i := 1) sc_copy_row.nd rfl (Or.inl rfl) (pe_op op_add_str (pe_op op_add_str (pe_fld (pe_fld (pv 0) rfl) rfl) pe_str) (pe_fld (pv 0) rfl))) (pss_cons (ps_if (pt_cmp (pc_isN (pe_fld (pv 0) rfl))) (pss_one (ps_ret (pv 1))) pss_nil) (pss_one (ps_ret (pe_op op_add_str (pe_op op_add_str (pv 1) pe_str) (pe_callTy call_str_int rfl T.b_str (by decide +kernel) (pa_cons (pe_fld (pv 0) rfl) pa_nil)))))))
  case pu => obtain ⟨a, rfl, h⟩ := sp1_of h; exact pure a H Q h
abbrev s_ground_row : Stmt := topS 81
theorem sc_ground_row : FnScope ["ground", "row"] ["ground"] (defScope s_ground_row) := ⟨rfl, rfl, rfl, by decide +kernel, rfl, by decide +kernel, by decide +kernel⟩
abbrev sp_ground_row (K : PySem.W.Frag) (c : Cs) : Sp := (sp1 (pr_ground_row c))
def t_ground_row (K : PySem.W.Frag) (c : Cs) : TS := (tSeq (tAsg (tOp rAddS (tOp rAddS (tFld K (tVar 0) "name") (tC (.str " "))) (tFld K (tVar 0) "basis")) (gName 1)) (tSeq (tIfS (tTest (tOp rEq (tFld K (tVar 0) "basis") (tC (.str "for")))) (tRet (tOp rAddS (tOp rAddS (tVar 1) (tC (.str " "))) (tFld K (tVar 0) "purpose"))) tNext) (tRet (tVar 1))))
theorem ok_ground_row {P : Program} {w : World} {K : PySem.W.Frag} {mg : Str → Option Value} {base : Heap} {c : Cs} (T : TopTxt K w mg c) (F : FunAt K mg "ground_row" s_ground_row) (pure : ∀ a H Q, pr_ground_row c a H Q → t_ground_row K c { nx := fun _ H' => Q .non H', rt := Q } (start ["ground", "row"] [a]) H) : Def P w K mg base "ground_row" 1 ["ground"] (sp_ground_row K c) := by
  obtain ⟨f, fd, F0, mf⟩ := F.ex
  have b0 := F0.binds (ps := ["ground"]) fun _ _ _ _ _ _ us hl => match us, hl with | [_], _ => rfl
  refine ⟨⟨f, fd, F0.ok (k := 0) sc_ground_row (fun vs H Q E h => ?len) (fun cdv A outer s H vs Q E hr h => ⟨t_ground_row K c, ?term, ?pu⟩), mf, F0.kp, b0⟩⟩
  case len => obtain ⟨a, rfl, h⟩ := sp1_of h; rfl
  case term => have hu := hu_of hr; exact (pss_cons (ps_set (i := 1) sc_ground_row.nd rfl (Or.inl rfl) (pe_op op_add_str (pe_op op_add_str (pe_fld (pv 0) rfl) pe_str) (pe_fld (pv 0) rfl))) (pss_cons (ps_if (pt_cmpR op_eq (pe_fld (pv 0) rfl) pe_str (nomark _)) (pss_one (ps_ret (pe_op op_add_str (pe_op op_add_str (pv 1) pe_str) (pe_fld (pv 0) rfl)))) pss_nil) (pss_one (ps_ret (pv 1)))))
  case pu => obtain ⟨a, rfl, h⟩ := sp1_of h; exact pure a H Q h
abbrev s_tell_person : Stmt := topS 82
theorem sc_tell_person : FnScope ["house", "things", "name", "rows", "record", "start", "kept"] ["house", "things"] (defScope s_tell_person) := ⟨rfl, rfl, rfl, by decide +kernel, rfl, by decide +kernel, by decide +kernel⟩
abbrev sp_tell_person (K : PySem.W.Frag) (c : Cs) : Sp := (sp2 (pr_tell_person c))
def t_tell_person (K : PySem.W.Frag) (c : Cs) : TS := (tSeq (tAsg (tOp (rIxL K) (tVar 1) (tC (.int 0))) (gName 2)) (tSeq (tIfS (tB (tDNotIn (tVar 2) (tFld K (tVar 0) "people"))) (tRet (tC (.str "no person"))) tNext) (tSeq (tAsg (tLst tNil) (gName 3)) (tSeq (tFor (iList K (tFld K (tVar 0) "records")) (gName 4) (tIfS (tTest (tOp rEq (tFld K (tFld K (tVar 4) "person") "name") (tVar 2))) (tSeq (tAsg (tOp rAddS (tOp rAddS (tOp rAddS (tCB rStrI (tCons (tFld K (tVar 4) "number") tNil)) (tC (.str " "))) (tFld K (tVar 4) "kind")) (tC (.str " "))) (gName 5)) (tDrop (tBM K "list" rExtend (tVar 3) (tCons (tLc (iList K (tFld K (tVar 4) "copies")) (gName 6) (tTest (tOp rNe (tFld K (tVar 6) "state") (tC (.str "gone")))) (tOp rAddS (tVar 5) (tCall (sp_copy_row K c) [] E0 (tCons (tVar 6) tNil))) [6]) tNil)))) tNext)) (tRet (tCall (sp_listed K c) [] E0 (tCons (tVar 3) tNil)))))))
theorem ok_tell_person {P : Program} {w : World} {K : PySem.W.Frag} {mg : Str → Option Value} {base : Heap} {c : Cs} (T : TopTxt K w mg c) (F : FunAt K mg "tell_person" s_tell_person) (D_listed : Def P w K mg base "listed" 1 ["rows"] (sp_listed K c)) (D_copy_row : Def P w K mg base "copy_row" 1 ["kept"] (sp_copy_row K c)) (pure : ∀ a b H Q, pr_tell_person c a b H Q → t_tell_person K c { nx := fun _ H' => Q .non H', rt := Q } (start ["house", "things", "name", "rows", "record", "start", "kept"] [a, b]) H) : Def P w K mg base "tell_person" 2 ["house", "things"] (sp_tell_person K c) := by
  obtain ⟨f, fd, F0, mf⟩ := F.ex
  obtain ⟨f_listed, fd_listed, G_listed, m_listed, k_listed, b_listed⟩ := D_listed.ex
  obtain ⟨f_copy_row, fd_copy_row, G_copy_row, m_copy_row, k_copy_row, b_copy_row⟩ := D_copy_row.ex
  have b0 := F0.binds (ps := ["house", "things"]) fun _ _ _ _ _ _ us hl => match us, hl with | [_, _], _ => rfl
  refine ⟨⟨f, fd, F0.ok (k := 1) sc_tell_person (fun vs H Q E h => ?len) (fun cdv A outer s H vs Q E hr h => ⟨t_tell_person K c, ?term, ?pu⟩), mf, F0.kp, b0⟩⟩
  case len => obtain ⟨a, b, rfl, h⟩ := sp2_of h; rfl
  case term => have hu := hu_of hr; exact (pss_cons (ps_set (i := 2) sc_tell_person.nd rfl (Or.inl rfl) (pe_ix ix_list (pv 1) pe_int (fun _ _ => rfl))) (pss_cons (ps_if (pt_cmp (pc_dnotin hu (pv 2) (pe_fld (pv 0) rfl))) (pss_one (ps_ret pe_str)) pss_nil) (pss_cons (ps_set (i := 3) sc_tell_person.nd rfl (Or.inl rfl) (pe_lst pa_nil)) (pss_cons (ps_for PassesOwn.never rfl (pi_list (pe_fld (pv 0) rfl)) (pg_name (i := 4) sc_tell_person.nd rfl (Or.inl rfl)) (pss_one (ps_if (pt_cmpR op_eq (pe_fld (pe_fld (pv 4) rfl) rfl) (pv 2) (nomark _)) (pss_cons (ps_set (i := 5) sc_tell_person.nd rfl (Or.inr rfl) (pe_op op_add_str (pe_op op_add_str (pe_op op_add_str (pe_callTy call_str_int rfl T.b_str (by decide +kernel) (pa_cons (pe_fld (pv 4) rfl) pa_nil)) pe_str) (pe_fld (pv 4) rfl)) pe_str)) (pss_one (ps_expr (pe_bm PySem.F.plainAttrs_list PySem.F.slot_list_extend PySem.F.type_list_extend mt_extend (pv 3) (pa_cons (pe_lc (own := [("kept", 6)]) (g := gName 6) (tt := (tTest (tOp rNe (tFld K (tVar 6) "state") (tC (.str "gone"))))) rfl sc_tell_person.nd (pi_list (pe_fld (pv 4) rfl)) (blkOk_by (N := ["house", "things", "name", "rows", "record", "start", "kept"]) (sc := defScope s_tell_person) (by decide +kernel)) (fun _ _ _ _ _ => pg_name (i := 6) sc_tell_person.nd rfl (Or.inl rfl)) (fun _ _ _ _ _ => (pts_one (pt_cmpR op_ne (pe_fld (pv 6) rfl) pe_str (nomark _)))) (fun _ _ _ _ _ => (pe_op op_add_str (pv 5) (pe_call G_copy_row (hr.mono (by decide)) rfl m_copy_row k_copy_row b_copy_row .nil pass0 (pa_cons (pv 6) pa_nil))))) pa_nil))))) pss_nil))) (pss_one (ps_ret (pe_call G_listed (hr.mono (by decide)) rfl m_listed k_listed b_listed .nil pass0 (pa_cons (pv 3) pa_nil))))))))
  case pu => obtain ⟨a, b, rfl, h⟩ := sp2_of h; exact pure a b H Q h
abbrev s_tell_why : Stmt := topS 83
theorem sc_tell_why : FnScope ["house", "things", "refusal", "record", "rows", "ground", "hold"] ["house", "things"] (defScope s_tell_why) := ⟨rfl, rfl, rfl, by decide +kernel, rfl, by decide +kernel, by decide +kernel⟩
abbrev sp_tell_why (K : PySem.W.Frag) (c : Cs) : Sp := (sp2 (pr_tell_why c))
def t_tell_why (K : PySem.W.Frag) (c : Cs) : TS := (tSeq (tAsg (tCall (sp_record_refusal K c) [] E0 (tCons (tVar 0) (tCons (tOp (rIxL K) (tVar 1) (tC (.int 0))) tNil))) (gName 2)) (tSeq (tIfS (tB (tNotN (tVar 2))) (tRet (tVar 2)) tNext) (tSeq (tAsg (tOp (rIxL K) (tFld K (tVar 0) "records") (tOp (rIxL K) (tVar 1) (tC (.int 0)))) (gName 3)) (tSeq (tLock (tAsg (tLc (iVals (tFld K (tVar 0) "grounds")) (gName 5) (tB (tCall (sp_gives K c) [] E0 (tCons (tVar 0) (tCons (tVar 5) (tCons (tVar 3) tNil))))) (tCall (sp_ground_row K c) [] E0 (tCons (tVar 5) tNil)) [5]) (gName 4))) (tSeq (tLock (tDrop (tBM K "list" rExtend (tVar 4) (tCons (tLc (iVals (tFld K (tVar 0) "holds")) (gName 6) (tB (tCall (sp_is_hold_of K c) [] E0 (tCons (tVar 6) (tCons (tVar 3) tNil)))) (tOp rAddS (tFld K (tVar 6) "name") (tC (.str " hold"))) [6]) tNil)))) (tRet (tCall (sp_listed K c) [] E0 (tCons (tVar 4) tNil))))))))
theorem ok_tell_why {P : Program} {w : World} {K : PySem.W.Frag} {mg : Str → Option Value} {base : Heap} {c : Cs} (T : TopTxt K w mg c) (F : FunAt K mg "tell_why" s_tell_why) (D_listed : Def P w K mg base "listed" 1 ["rows"] (sp_listed K c)) (D_is_hold_of : Def P w K mg base "is_hold_of" 1 ["hold", "record"] (sp_is_hold_of K c)) (D_gives : Def P w K mg base "gives" 4 ["house", "ground", "record"] (sp_gives K c)) (D_ground_row : Def P w K mg base "ground_row" 1 ["ground"] (sp_ground_row K c)) (D_record_refusal : Def P w K mg base "record_refusal" 2 ["house", "number"] (sp_record_refusal K c)) (pure : ∀ a b H Q, pr_tell_why c a b H Q → t_tell_why K c { nx := fun _ H' => Q .non H', rt := Q } (start ["house", "things", "refusal", "record", "rows", "ground", "hold"] [a, b]) H) : Def P w K mg base "tell_why" 5 ["house", "things"] (sp_tell_why K c) := by
  obtain ⟨f, fd, F0, mf⟩ := F.ex
  obtain ⟨f_listed, fd_listed, G_listed, m_listed, k_listed, b_listed⟩ := D_listed.ex
  obtain ⟨f_is_hold_of, fd_is_hold_of, G_is_hold_of, m_is_hold_of, k_is_hold_of, b_is_hold_of⟩ := D_is_hold_of.ex
  obtain ⟨f_gives, fd_gives, G_gives, m_gives, k_gives, b_gives⟩ := D_gives.ex
  obtain ⟨f_ground_row, fd_ground_row, G_ground_row, m_ground_row, k_ground_row, b_ground_row⟩ := D_ground_row.ex
  obtain ⟨f_record_refusal, fd_record_refusal, G_record_refusal, m_record_refusal, k_record_refusal, b_record_refusal⟩ := D_record_refusal.ex
  have b0 := F0.binds (ps := ["house", "things"]) fun _ _ _ _ _ _ us hl => match us, hl with | [_, _], _ => rfl
  refine ⟨⟨f, fd, F0.ok (k := 4) sc_tell_why (fun vs H Q E h => ?len) (fun cdv A outer s H vs Q E hr h => ⟨t_tell_why K c, ?term, ?pu⟩), mf, F0.kp, b0⟩⟩
  case len => obtain ⟨a, b, rfl, h⟩ := sp2_of h; rfl
  case term => have hu := hu_of hr; exact (pss_cons (ps_set (i := 2) sc_tell_why.nd rfl (Or.inl rfl) (pe_call G_record_refusal (hr.mono (by decide)) rfl m_record_refusal k_record_refusal b_record_refusal .nil pass0 (pa_cons (pv 0) (pa_cons (pe_ix ix_list (pv 1) pe_int (fun _ _ => rfl)) pa_nil)))) (pss_cons (ps_if (pt_cmp (pc_notN (pv 2))) (pss_one (ps_ret (pv 2))) pss_nil) (pss_cons (ps_set (i := 3) sc_tell_why.nd rfl (Or.inr rfl) (pe_ix ix_list (pe_fld (pv 0) rfl) (pe_ix ix_list (pv 1) pe_int (fun _ _ => rfl)) (fun _ _ => rfl))) (pss_cons (ps_lock (ps_setLc (i := 4) (own := [("ground", 5)]) (g := gName 5) (tt := (tB (tCall (sp_gives K c) [] E0 (tCons (tVar 0) (tCons (tVar 5) (tCons (tVar 3) tNil)))))) rfl sc_tell_why.nd rfl rfl (sw_true rfl rfl rfl (by decide +kernel)) (pi_values (pe_fld (pv 0) rfl)) (blkOk_by (N := ["house", "things", "refusal", "record", "rows", "ground", "hold"]) (sc := defScope s_tell_why) (by decide +kernel)) (fun _ _ _ _ _ => pg_name (i := 5) sc_tell_why.nd rfl (Or.inl rfl)) (fun _ _ _ _ _ => (pts_one (pt_val (pe_call G_gives (hr.mono (by decide)) rfl m_gives k_gives b_gives .nil pass0 (pa_cons (pv 0) (pa_cons (pv 5) (pa_cons (pv 3) pa_nil))))))) (fun _ _ _ _ _ => (pe_call G_ground_row (hr.mono (by decide)) rfl m_ground_row k_ground_row b_ground_row .nil pass0 (pa_cons (pv 5) pa_nil))))) (pss_cons (ps_lock (ps_expr (pe_bm PySem.F.plainAttrs_list PySem.F.slot_list_extend PySem.F.type_list_extend mt_extend (pv 4) (pa_cons (pe_lc (own := [("hold", 6)]) (g := gName 6) (tt := (tB (tCall (sp_is_hold_of K c) [] E0 (tCons (tVar 6) (tCons (tVar 3) tNil))))) rfl sc_tell_why.nd (pi_values (pe_fld (pv 0) rfl)) (blkOk_by (N := ["house", "things", "refusal", "record", "rows", "ground", "hold"]) (sc := defScope s_tell_why) (by decide +kernel)) (fun _ _ _ _ _ => pg_name (i := 6) sc_tell_why.nd rfl (Or.inl rfl)) (fun _ _ _ _ _ => (pts_one (pt_val (pe_call G_is_hold_of (hr.mono (by decide)) rfl m_is_hold_of k_is_hold_of b_is_hold_of .nil pass0 (pa_cons (pv 6) (pa_cons (pv 3) pa_nil)))))) (fun _ _ _ _ _ => (pe_op op_add_str (pe_fld (pv 6) rfl) pe_str))) pa_nil)))) (pss_one (ps_ret (pe_call G_listed (hr.mono (by decide)) rfl m_listed k_listed b_listed .nil pass0 (pa_cons (pv 4) pa_nil)))))))))
  case pu => obtain ⟨a, b, rfl, h⟩ := sp2_of h; exact pure a b H Q h
abbrev s_tell_till : Stmt := topS 84
theorem sc_tell_till : FnScope ["house", "things", "refusal", "day"] ["house", "things"] (defScope s_tell_till) := ⟨rfl, rfl, rfl, by decide +kernel, rfl, by decide +kernel, by decide +kernel⟩
abbrev sp_tell_till (K : PySem.W.Frag) (c : Cs) : Sp := (sp2 (pr_tell_till c))
def t_tell_till (K : PySem.W.Frag) (c : Cs) : TS := (tSeq (tAsg (tCall (sp_record_refusal K c) [] E0 (tCons (tVar 0) (tCons (tOp (rIxL K) (tVar 1) (tC (.int 0))) tNil))) (gName 2)) (tSeq (tIfS (tB (tNotN (tVar 2))) (tRet (tVar 2)) tNext) (tSeq (tAsg (tOp (rIxL K) (tCall (sp_days_of_going K c) [] E0 (tCons (tVar 0) tNil)) (tOp (rIxL K) (tVar 1) (tC (.int 0)))) (gName 3)) (tSeq (tIfS (tB (tIsN (tVar 3))) (tRet (tC (.str "open"))) tNext) (tRet (tCB rStrI (tCons (tVar 3) tNil)))))))
theorem ok_tell_till {P : Program} {w : World} {K : PySem.W.Frag} {mg : Str → Option Value} {base : Heap} {c : Cs} (T : TopTxt K w mg c) (F : FunAt K mg "tell_till" s_tell_till) (D_days_of_going : Def P w K mg base "days_of_going" 5 ["house"] (sp_days_of_going K c)) (D_record_refusal : Def P w K mg base "record_refusal" 2 ["house", "number"] (sp_record_refusal K c)) (pure : ∀ a b H Q, pr_tell_till c a b H Q → t_tell_till K c { nx := fun _ H' => Q .non H', rt := Q } (start ["house", "things", "refusal", "day"] [a, b]) H) : Def P w K mg base "tell_till" 6 ["house", "things"] (sp_tell_till K c) := by
  obtain ⟨f, fd, F0, mf⟩ := F.ex
  obtain ⟨f_days_of_going, fd_days_of_going, G_days_of_going, m_days_of_going, k_days_of_going, b_days_of_going⟩ := D_days_of_going.ex
  obtain ⟨f_record_refusal, fd_record_refusal, G_record_refusal, m_record_refusal, k_record_refusal, b_record_refusal⟩ := D_record_refusal.ex
  have b0 := F0.binds (ps := ["house", "things"]) fun _ _ _ _ _ _ us hl => match us, hl with | [_, _], _ => rfl
  refine ⟨⟨f, fd, F0.ok (k := 5) sc_tell_till (fun vs H Q E h => ?len) (fun cdv A outer s H vs Q E hr h => ⟨t_tell_till K c, ?term, ?pu⟩), mf, F0.kp, b0⟩⟩
  case len => obtain ⟨a, b, rfl, h⟩ := sp2_of h; rfl
  case term => have hu := hu_of hr; exact (pss_cons (ps_set (i := 2) sc_tell_till.nd rfl (Or.inl rfl) (pe_call G_record_refusal (hr.mono (by decide)) rfl m_record_refusal k_record_refusal b_record_refusal .nil pass0 (pa_cons (pv 0) (pa_cons (pe_ix ix_list (pv 1) pe_int (fun _ _ => rfl)) pa_nil)))) (pss_cons (ps_if (pt_cmp (pc_notN (pv 2))) (pss_one (ps_ret (pv 2))) pss_nil) (pss_cons (ps_set (i := 3) sc_tell_till.nd rfl (Or.inl rfl) (pe_ix ix_list (pe_call G_days_of_going (hr.mono (by decide)) rfl m_days_of_going k_days_of_going b_days_of_going .nil pass0 (pa_cons (pv 0) pa_nil)) (pe_ix ix_list (pv 1) pe_int (fun _ _ => rfl)) (fun _ _ => rfl))) (pss_cons (ps_if (pt_cmp (pc_isN (pv 3))) (pss_one (ps_ret pe_str)) pss_nil) (pss_one (ps_ret (pe_callTy call_str_int rfl T.b_str (by decide +kernel) (pa_cons (pv 3) pa_nil))))))))
  case pu => obtain ⟨a, b, rfl, h⟩ := sp2_of h; exact pure a b H Q h
abbrev s_tell_proof : Stmt := topS 85
theorem sc_tell_proof : FnScope ["house", "things", "number", "record", "first", "kept"] ["house", "things"] (defScope s_tell_proof) := ⟨rfl, rfl, rfl, by decide +kernel, rfl, by decide +kernel, by decide +kernel⟩
abbrev sp_tell_proof (K : PySem.W.Frag) (c : Cs) : Sp := (sp2 (pr_tell_proof c))
def t_tell_proof (K : PySem.W.Frag) (c : Cs) : TS := (tSeq (tAsg (tOp (rIxL K) (tVar 1) (tC (.int 0))) (gName 2)) (tSeq (tIfS (tTest (tOp rGe (tVar 2) (tCB (rLenL K) (tCons (tFld K (tVar 0) "records") tNil)))) (tRet (tC (.str "no record"))) tNext) (tSeq (tAsg (tOp (rIxL K) (tFld K (tVar 0) "records") (tVar 2)) (gName 3)) (tSeq (tAsg (tIf (tB (tCall (sp_is_there K c) [] E0 (tCons (tVar 3) tNil))) (tC (.str "kept")) (tOp rAddS (tC (.str "gone ")) (tCB rStrI (tCons (tFld K (tVar 3) "gone_on") tNil)))) (gName 4)) (tRet (tCall (sp_listed K c) [] E0 (tCons (tOp rCat (tLst (tCons (tVar 4) tNil)) (tLc (iList K (tFld K (tVar 3) "copies")) (gName 5) tYes (tCall (sp_copy_row K c) [] E0 (tCons (tVar 5) tNil)) [5])) tNil)))))))
theorem ok_tell_proof {P : Program} {w : World} {K : PySem.W.Frag} {mg : Str → Option Value} {base : Heap} {c : Cs} (T : TopTxt K w mg c) (F : FunAt K mg "tell_proof" s_tell_proof) (D_listed : Def P w K mg base "listed" 1 ["rows"] (sp_listed K c)) (D_copy_row : Def P w K mg base "copy_row" 1 ["kept"] (sp_copy_row K c)) (D_is_there : Def P w K mg base "is_there" 1 ["record"] (sp_is_there K c)) (pure : ∀ a b H Q, pr_tell_proof c a b H Q → t_tell_proof K c { nx := fun _ H' => Q .non H', rt := Q } (start ["house", "things", "number", "record", "first", "kept"] [a, b]) H) : Def P w K mg base "tell_proof" 2 ["house", "things"] (sp_tell_proof K c) := by
  obtain ⟨f, fd, F0, mf⟩ := F.ex
  obtain ⟨f_listed, fd_listed, G_listed, m_listed, k_listed, b_listed⟩ := D_listed.ex
  obtain ⟨f_copy_row, fd_copy_row, G_copy_row, m_copy_row, k_copy_row, b_copy_row⟩ := D_copy_row.ex
  obtain ⟨f_is_there, fd_is_there, G_is_there, m_is_there, k_is_there, b_is_there⟩ := D_is_there.ex
  have b0 := F0.binds (ps := ["house", "things"]) fun _ _ _ _ _ _ us hl => match us, hl with | [_, _], _ => rfl
  refine ⟨⟨f, fd, F0.ok (k := 1) sc_tell_proof (fun vs H Q E h => ?len) (fun cdv A outer s H vs Q E hr h => ⟨t_tell_proof K c, ?term, ?pu⟩), mf, F0.kp, b0⟩⟩
  case len => obtain ⟨a, b, rfl, h⟩ := sp2_of h; rfl
  case term => have hu := hu_of hr; exact (pss_cons (ps_set (i := 2) sc_tell_proof.nd rfl (Or.inl rfl) (pe_ix ix_list (pv 1) pe_int (fun _ _ => rfl))) (pss_cons (ps_if (pt_cmpR op_ge (pv 2) (pe_callB call_len_seq rfl T.b_len PySem.boot_len (pa_cons (pe_fld (pv 0) rfl) pa_nil)) (nomark _)) (pss_one (ps_ret pe_str)) pss_nil) (pss_cons (ps_set (i := 3) sc_tell_proof.nd rfl (Or.inl rfl) (pe_ix ix_list (pe_fld (pv 0) rfl) (pv 2) (fun _ _ => rfl))) (pss_cons (ps_set (i := 4) sc_tell_proof.nd rfl (Or.inl rfl) (pe_ifExp (pt_val (pe_call G_is_there (hr.mono (by decide)) rfl m_is_there k_is_there b_is_there .nil pass0 (pa_cons (pv 3) pa_nil))) pe_str (pe_op op_add_str pe_str (pe_callTy call_str_int rfl T.b_str (by decide +kernel) (pa_cons (pe_fld (pv 3) rfl) pa_nil))))) (pss_one (ps_ret (pe_call G_listed (hr.mono (by decide)) rfl m_listed k_listed b_listed .nil pass0 (pa_cons (pe_op op_cat (pe_lst (pa_cons (pv 4) pa_nil)) (pe_lc (own := [("kept", 5)]) (g := gName 5) (tt := tYes) rfl sc_tell_proof.nd (pi_list (pe_fld (pv 3) rfl)) (blkOk_by (N := ["house", "things", "number", "record", "first", "kept"]) (sc := defScope s_tell_proof) (by decide +kernel)) (fun _ _ _ _ _ => pg_name (i := 5) sc_tell_proof.nd rfl (Or.inl rfl)) (fun _ _ _ _ _ => pts_nil) (fun _ _ _ _ _ => (pe_call G_copy_row (hr.mono (by decide)) rfl m_copy_row k_copy_row b_copy_row .nil pass0 (pa_cons (pv 5) pa_nil))))) pa_nil))))))))
  case pu => obtain ⟨a, b, rfl, h⟩ := sp2_of h; exact pure a b H Q h
abbrev s_tell_due : Stmt := topS 86
theorem sc_tell_due : FnScope ["house", "things", "last", "rows", "number", "day"] ["house", "things"] (defScope s_tell_due) := ⟨rfl, rfl, rfl, by decide +kernel, rfl, by decide +kernel, by decide +kernel⟩
abbrev sp_tell_due (K : PySem.W.Frag) (c : Cs) : Sp := (sp2 (pr_tell_due c))
def t_tell_due (K : PySem.W.Frag) (c : Cs) : TS := (tSeq (tAsg (tOp rAddI (tFld K (tVar 0) "today") (tOp (rIxL K) (tVar 1) (tC (.int 0)))) (gName 2)) (tSeq (tAsg (tLst tNil) (gName 3)) (tSeq (tFor (iEnum K (tCons (tCall (sp_days_of_going K c) [] E0 (tCons (tVar 0) tNil)) tNil)) (gTup K 2 (gCons (gName 4) (gCons (gName 5) gNil))) (tIfS (tAnd (tB (tCall (sp_is_there K c) [] E0 (tCons (tOp (rIxL K) (tFld K (tVar 0) "records") (tVar 4)) tNil))) (tAnd (tB (tNotN (tVar 5))) (tTest (tOp rLe (tVar 5) (tVar 2))))) (tDrop (tBM K "list" rAppend (tVar 3) (tCons (tJd [(tFmt (tVar 4)), (tC (.str " ")), (tFmt (tVar 5))]) tNil))) tNext)) (tRet (tCall (sp_listed K c) [] E0 (tCons (tVar 3) tNil))))))
theorem ok_tell_due {P : Program} {w : World} {K : PySem.W.Frag} {mg : Str → Option Value} {base : Heap} {c : Cs} (T : TopTxt K w mg c) (F : FunAt K mg "tell_due" s_tell_due) (D_listed : Def P w K mg base "listed" 1 ["rows"] (sp_listed K c)) (D_days_of_going : Def P w K mg base "days_of_going" 5 ["house"] (sp_days_of_going K c)) (D_is_there : Def P w K mg base "is_there" 1 ["record"] (sp_is_there K c)) (pure : ∀ a b H Q, pr_tell_due c a b H Q → t_tell_due K c { nx := fun _ H' => Q .non H', rt := Q } (start ["house", "things", "last", "rows", "number", "day"] [a, b]) H) : Def P w K mg base "tell_due" 6 ["house", "things"] (sp_tell_due K c) := by
  obtain ⟨f, fd, F0, mf⟩ := F.ex
  obtain ⟨f_listed, fd_listed, G_listed, m_listed, k_listed, b_listed⟩ := D_listed.ex
  obtain ⟨f_days_of_going, fd_days_of_going, G_days_of_going, m_days_of_going, k_days_of_going, b_days_of_going⟩ := D_days_of_going.ex
  obtain ⟨f_is_there, fd_is_there, G_is_there, m_is_there, k_is_there, b_is_there⟩ := D_is_there.ex
  have b0 := F0.binds (ps := ["house", "things"]) fun _ _ _ _ _ _ us hl => match us, hl with | [_, _], _ => rfl
  refine ⟨⟨f, fd, F0.ok (k := 5) sc_tell_due (fun vs H Q E h => ?len) (fun cdv A outer s H vs Q E hr h => ⟨t_tell_due K c, ?term, ?pu⟩), mf, F0.kp, b0⟩⟩
  case len => obtain ⟨a, b, rfl, h⟩ := sp2_of h; rfl
  case term => have hu := hu_of hr; exact (pss_cons (ps_set (i := 2) sc_tell_due.nd rfl (Or.inl rfl) (pe_op op_add (pe_fld (pv 0) rfl) (pe_ix ix_list (pv 1) pe_int (fun _ _ => rfl)))) (pss_cons (ps_set (i := 3) sc_tell_due.nd rfl (Or.inl rfl) (pe_lst pa_nil)) (pss_cons (ps_for PassesOwn.never rfl (pi_enum rfl T.b_enumerate (pa_cons (pe_call G_days_of_going (hr.mono (by decide)) rfl m_days_of_going k_days_of_going b_days_of_going .nil pass0 (pa_cons (pv 0) pa_nil)) pa_nil)) (pg_tup rfl (pgs_cons (pg_name (i := 4) sc_tell_due.nd rfl (Or.inl rfl)) (pgs_cons (pg_name (i := 5) sc_tell_due.nd rfl (Or.inl rfl)) pgs_nil))) (pss_one (ps_if (PW.pt (pw_and (pt_val (pe_call G_is_there (hr.mono (by decide)) rfl m_is_there k_is_there b_is_there .nil pass0 (pa_cons (pe_ix ix_list (pe_fld (pv 0) rfl) (pv 4) (fun _ _ => rfl)) pa_nil))) (pw_and (pt_cmp (pc_notN (pv 5))) (pw_and1 (pt_cmpR op_le (pv 5) (pv 2) (nomark _)))))) (pss_one (ps_expr (pe_bm PySem.F.plainAttrs_list PySem.F.slot_list_append PySem.F.type_list_append mt_append (pv 3) (pa_cons (pe_joined (.cons (pe_fmt (pv 4)) (.cons pe_str (.cons (pe_fmt (pv 5)) .nil)))) pa_nil)))) pss_nil))) (pss_one (ps_ret (pe_call G_listed (hr.mono (by decide)) rfl m_listed k_listed b_listed .nil pass0 (pa_cons (pv 3) pa_nil)))))))
  case pu => obtain ⟨a, b, rfl, h⟩ := sp2_of h; exact pure a b H Q h
abbrev s_tell_asks : Stmt := topS 87
theorem sc_tell_asks : FnScope ["house", "things", "rows", "record", "kept"] ["house", "things"] (defScope s_tell_asks) := ⟨rfl, rfl, rfl, by decide +kernel, rfl, by decide +kernel, by decide +kernel⟩
abbrev sp_tell_asks (K : PySem.W.Frag) (c : Cs) : Sp := (sp2 (pr_tell_asks c))
def t_tell_asks (K : PySem.W.Frag) (c : Cs) : TS := (tSeq (tAsg (tLst tNil) (gName 2)) (tSeq (tFor (iList K (tFld K (tVar 0) "records")) (gName 3) (tFor (iList K (tFld K (tVar 3) "copies")) (gName 4) (tIfS (tTest (tOp rEq (tFld K (tVar 4) "state") (tC (.str "asked")))) (tDrop (tBM K "list" rAppend (tVar 2) (tCons (tM1 (rJoin K) (tC (.str " ")) (tLst (tCons (tCB rStrI (tCons (tFld K (tVar 3) "number") tNil)) (tCons (tFld K (tFld K (tVar 4) "store") "name") (tCons (tCB rStrI (tCons (tFld K (tVar 4) "day") tNil)) tNil))))) tNil))) tNext))) (tRet (tCall (sp_listed K c) [] E0 (tCons (tVar 2) tNil)))))
theorem ok_tell_asks {P : Program} {w : World} {K : PySem.W.Frag} {mg : Str → Option Value} {base : Heap} {c : Cs} (T : TopTxt K w mg c) (F : FunAt K mg "tell_asks" s_tell_asks) (D_listed : Def P w K mg base "listed" 1 ["rows"] (sp_listed K c)) (pure : ∀ a b H Q, pr_tell_asks c a b H Q → t_tell_asks K c { nx := fun _ H' => Q .non H', rt := Q } (start ["house", "things", "rows", "record", "kept"] [a, b]) H) : Def P w K mg base "tell_asks" 2 ["house", "things"] (sp_tell_asks K c) := by
  obtain ⟨f, fd, F0, mf⟩ := F.ex
  obtain ⟨f_listed, fd_listed, G_listed, m_listed, k_listed, b_listed⟩ := D_listed.ex
  have b0 := F0.binds (ps := ["house", "things"]) fun _ _ _ _ _ _ us hl => match us, hl with | [_, _], _ => rfl
  refine ⟨⟨f, fd, F0.ok (k := 1) sc_tell_asks (fun vs H Q E h => ?len) (fun cdv A outer s H vs Q E hr h => ⟨t_tell_asks K c, ?term, ?pu⟩), mf, F0.kp, b0⟩⟩
  case len => obtain ⟨a, b, rfl, h⟩ := sp2_of h; rfl
  case term => have hu := hu_of hr; exact (pss_cons (ps_set (i := 2) sc_tell_asks.nd rfl (Or.inl rfl) (pe_lst pa_nil)) (pss_cons (ps_for PassesOwn.never rfl (pi_list (pe_fld (pv 0) rfl)) (pg_name (i := 3) sc_tell_asks.nd rfl (Or.inl rfl)) (pss_one (ps_for PassesOwn.never rfl (pi_list (pe_fld (pv 3) rfl)) (pg_name (i := 4) sc_tell_asks.nd rfl (Or.inl rfl)) (pss_one (ps_if (pt_cmpR op_eq (pe_fld (pv 4) rfl) pe_str (nomark _)) (pss_one (ps_expr (pe_bm PySem.F.plainAttrs_list PySem.F.slot_list_append PySem.F.type_list_append mt_append (pv 2) (pa_cons (pe_join pe_str (pe_lst (pa_cons (pe_callTy call_str_int rfl T.b_str (by decide +kernel) (pa_cons (pe_fld (pv 3) rfl) pa_nil)) (pa_cons (pe_fld (pe_fld (pv 4) rfl) rfl) (pa_cons (pe_callTy call_str_int rfl T.b_str (by decide +kernel) (pa_cons (pe_fld (pv 4) rfl) pa_nil)) pa_nil))))) pa_nil)))) pss_nil))))) (pss_one (ps_ret (pe_call G_listed (hr.mono (by decide)) rfl m_listed k_listed b_listed .nil pass0 (pa_cons (pv 2) pa_nil))))))
  case pu => obtain ⟨a, b, rfl, h⟩ := sp2_of h; exact pure a b H Q h
end Kr

set_option Elab.async false
set_option linter.all false
set_option maxRecDepth 100000
set_option maxHeartbeats 2000000
namespace Kr
open PySem PySem.Spec PyProof.Rows L2
section
variable {K : PySem.W.Frag} {w : World} {mg : Str → Option Value} {c : Cs}
theorem minEnds_snoc (e : Nat → Nat) (k : Nat) : ∀ (l : List Nat) (x : Nat), minEnds e (l ++ [k]) x = min (minEnds e l x) (e k)
  | [], x => rfl
  | a :: l, x => by
    show minEnds e (l ++ [k]) (min x (e a)) = _
    rw [minEnds_snoc e k l]; rfl
theorem maxEnds_snoc (s : Kp01.House) (p : Kp01.Person) (r : Kp01.Record) (e : Nat → Nat) (far : Nat) (g : Kp01.Ground) : ∀ (l : List Kp01.Ground) (x : Nat), maxEnds s p r e far (l ++ [g]) x = if stands s p r g then max (maxEnds s p r e far l x) (groundEnd p r e far g) else maxEnds s p r e far l x
  | [], x => rfl
  | a :: l, x => by
    show maxEnds s p r e far (l ++ [g]) _ = _
    rw [maxEnds_snoc s p r e far g l]; rfl
theorem min_int (i j : Nat) : (if (j : Int) < (i : Int) then (j : Int) else (i : Int)) = ((min i j : Nat) : Int) := by
  by_cases h : j < i
  · rw [if_pos (by omega)]; omega
  · rw [if_neg (by omega)]; omega
theorem max_int (i j : Nat) : (if (j : Int) > (i : Int) then (j : Int) else (i : Int)) = ((max i j : Nat) : Int) := by
  by_cases h : j > i
  · rw [if_pos (by omega)]; omega
  · rw [if_neg (by omega)]; omega
theorem take_snoc {α : Type} {l : List α} {j : Nat} {x : α} (h : l[j]? = some x) : l.take (j + 1) = l.take j ++ [x] := by
  rw [List.take_succ, h]; rfl
theorem isLaw_text (g : Kp01.Ground) : (!decide (V.str (basisText g.sort) = V.str ("law" : Str))) = !isLaw g := by
  unfold isLaw
  cases g.sort with
  | law => decide +kernel
  | need => decide +kernel
  | consent v => exact (show (!decide (V.str ("for" : Str) = V.str ("law" : Str))) = !false by decide +kernel)
theorem pure_ground_end (T : TopTxt K w mg c) : ∀ a b d e H Q, pr_ground_end c a b d e H Q → t_ground_end K c (D0 Q) (start ["ground", "record", "ends", "beyond", "end", "source"] [a, b, d, e]) H := by
  rintro _ _ _ _ H Q ⟨F, s, L, n, i, g, r, p, a, es, far, rfl, rfl, rfl, rfl, R, eg, er, ep, ha, hlt, q⟩
  have og := R.ground eg (by simp)
  have ob := R.record er (by simp)
  refine ⟨_, rfl, _, rfl, F, s, L, n, i, g, r, p, rfl, rfl, R, eg, er, ep, ?_⟩
  -- from here on the end is a number
  have rest : ∀ x : Nat, (daysEnd p r g).getD far = x → tSeq (tIfS (tTest (tOp rNe (tFld K (tVar 0) "basis") (tC (.str "law")))) (tFor (iList K (tFld K (tVar 1) "sources")) (gName 5) (tAsg (tCB rMin2 (tCons (tVar 4) (tCons (tOp (rIxL K) (tVar 2) (tFld K (tVar 5) "number")) tNil))) (gName 4))) tNext) (tRet (tCB rMin2 (tCons (tVar 4) (tCons (tVar 3) tNil)))) (D0 Q)
      [some (.ref (L (.ground n))), some (.ref (L (.record i))), some (.ref a), some (.int (far : Nat)), some (.int (x : Nat)), none] H := by
    intro x hx
    refine ⟨_, rfl, fq (fd_Ground_basis T og) ⟨rfl, _, rfl, ?_⟩⟩
    rw [isLaw_text]
    unfold groundEnd at q
    dsimp only at q
    rw [hx] at q
    cases hl : isLaw g with
    | true =>
      rw [hl, if_pos rfl] at q
      refine if_false_of rfl ?_
      refine ⟨_, rfl, _, rfl, _, _, rfl, ?_⟩
      show Q (V.int (if (far : Int) < (x : Int) then (far : Int) else (x : Int))) H
      rw [min_int]; exact q
    | false =>
      rw [hl, if_neg (by simp)] at q
      refine if_true_of rfl ?_
      have hs := R.sources er (by simp)
      refine ⟨_, rfl, fq (fd_Record_sources T ob) ⟨_, rfl, ⟨_, SqL.of hs⟩, for_list (K := K) (xs := r.of_.map fun k => V.ref (L (.record k))) (fun j σ H' => H' = H ∧ ∃ v, σ = [some (.ref (L (.ground n))), some (.ref (L (.record i))), some (.ref a), some (.int (far : Nat)), some (.int (minEnds (fun k => es.getD k 0) (r.of_.take j) x : Nat)), v])
        ⟨rfl, none, rfl⟩ (fun j σ H' _ h => by rw [h.1]; exact SqL.of hs) ?_ ?_⟩⟩
      · rintro j y σ H' hy ⟨rfl, v, rfl⟩
        obtain ⟨k, hk, rfl⟩ := map_at hy
        obtain ⟨k1, k2⟩ := hlt k (List.mem_of_getElem? hk)
        have ok := R.record (List.getElem?_eq_getElem k2) (by simp)
        have eat : es[k]? = some (es.getD k 0) := by rw [List.getD_eq_getElem?_getD, List.getElem?_eq_getElem k1]; rfl
        refine ⟨_, rfl, _, rfl, _, rfl, fq (fd_Record_number T ok) (thing ha (atI_nat (v := V.int (es.getD k 0 : Nat)) (by unfold natsV; rw [List.getElem?_map, eat]; rfl)) ⟨_, _, rfl, ?_⟩)⟩
        refine ⟨rfl, some (.ref (L (.record k))), ?_⟩
        rw [min_int, take_snoc hk, minEnds_snoc]
        rfl
      · rintro σ H' ⟨rfl, v, rfl⟩
        rw [List.length_map, List.take_length]
        refine ⟨_, rfl, _, rfl, _, _, rfl, ?_⟩
        show Q (V.int (if (far : Int) < ((minEnds (fun k => es.getD k 0) r.of_ x : Nat) : Int) then (far : Int) else _)) H'
        rw [min_int]; exact q
  refine ⟨_, rfl, _, rfl, ?_⟩
  cases hd : daysEnd p r g with
  | none =>
    refine if_true_of (by simp [optV]) ?_
    exact ⟨_, rfl, rest far (by rw [hd]; rfl)⟩
  | some x =>
    refine if_false_of (by simp [optV]) ?_
    exact rest x (by rw [hd]; rfl)
theorem pure_record_end (T : TopTxt K w mg c) : ∀ a b d e H Q, pr_record_end c a b d e H Q → t_record_end K c (D0 Q) (start ["house", "record", "ends", "beyond", "end", "ground"] [a, b, d, e]) H := by
  rintro _ _ _ _ H Q ⟨F, s, L, i, r, a, es, far, rfl, rfl, rfl, rfl, R, o, er, fa, hes, q⟩
  have ob := R.record er (by simp)
  refine ⟨_, rfl, F, s, L, i, r, rfl, R.sub (by simp), er, _, rfl, ?_⟩
  unfold recordEnd at q
  cases hg : r.letGo with
  | some d =>
    rw [hg] at q
    refine if_true_of rfl ⟨_, rfl, fq (fd_Record_gone_on T ob) ?_⟩
    rw [hg]
    exact q H (Same.refl H)
  | none =>
    rw [hg] at q
    replace q : ∀ H', Same H H' → Q (V.int ((if (Kp01.heldBy s r).isEmpty = false then far else match Kp01.personOf s r.person with
      | none => s.day
      | some p => maxEnds s p r (fun k => es.getD k 0) far s.grounds s.day : Nat) : Int)) H' := q
    refine if_false_of rfl ?_
    refine ⟨_, rfl, _, rfl, F, s, L, i, r, rfl, rfl, R.sub (by simp), o, er, fun H1 e1 => ⟨_, rfl, ?_⟩⟩
    cases hh : (Kp01.heldBy s r).isEmpty with
    | false =>
      rw [if_pos hh] at q
      exact if_true_of rfl ⟨_, rfl, q H1 e1⟩
    | true =>
      rw [if_neg (by rw [hh]; simp)] at q
      obtain ⟨p, ep⟩ := Option.isSome_iff_exists.mp (o.owned i r er)
      rw [ep] at q
      replace q : ∀ H', Same H H' → Q (V.int ((maxEnds s p r (fun k => es.getD k 0) far s.grounds s.day : Nat) : Int)) H' := q
      refine if_false_of rfl ?_
      have Ra := R.same e1
      refine ⟨_, rfl, fq (fd_House_today T (Ra.house (by simp))) ?_⟩
      have hd := Ra.grounds (by simp)
      refine ⟨L .grounds, _, hd, trivial, fun od => ?_⟩
      have R1 := Ra.lock (o := .frz od (.dK (byName (·.name) (fun n => .ref (L (.ground n))) s.grounds))) .grounds rfl
      refine ⟨_, rfl, fq (fd_House_grounds T (R1.house (by simp))) ⟨_, _, _, rfl, upd_same, ?_⟩⟩
      refine for_it walk_values (fun j σ H' => H' = upd H1 (L .grounds) (.frz od (.dK (byName (·.name) (fun n => .ref (L (.ground n))) s.grounds))) ∧ ∃ v, σ = [some (.ref (L .house)), some (.ref (L (.record i))), some (.ref a), some (.int (far : Nat)), some (.int (maxEnds s p r (fun k => es.getD k 0) far (s.grounds.take j) s.day : Nat)), v])
        ⟨rfl, none, rfl⟩ (fun j σ H' _ h => by rw [h.1]; exact upd_same) ?_ ?_
      · rintro j x σ H' H'' hj ⟨rfl, v, rfl⟩ ⟨rfl, k, hx⟩
        obtain ⟨g, hh, rfl⟩ := byName_at hx
        have hm : g ∈ s.grounds := List.mem_of_getElem? hh
        have eh : groundOf s g.name = some g := find_mem (nm := fun (x : Kp01.Ground) => x.name) o.ngrounds hm
        refine ⟨_, rfl, _, rfl, F, s, L, g.name, i, g, r, p, rfl, rfl, R1.sub (by simp), o.below, eh, er, ep, _, rfl, ?_⟩
        rw [take_snoc hh, maxEnds_snoc]
        cases hst : stands s p r g with
        | false => exact if_false_of rfl ⟨rfl, _, rfl⟩
        | true =>
          refine if_true_of rfl ?_
          refine ⟨_, rfl, _, rfl, _, rfl, _, rfl, _, rfl, F, s, L, g.name, i, g, r, p, a, es, far, rfl, rfl, rfl, rfl, R1.sub (by simp), eh, er, ep, R1.keep _ _ fa, fun k hk => ?_, _, _, rfl, rfl, some (.ref (L (.ground g.name))), ?_⟩
          · have z := o.below i r er k hk
            have hi := (List.getElem?_eq_some_iff.mp er).1
            exact ⟨by omega, by omega⟩
          · rw [max_int]; rfl
      · rintro σ H' ⟨rfl, v, rfl⟩
        rw [byName_len, List.take_length]
        refine ⟨upd_same, _, rfl, ?_⟩
        exact q _ (e1.trans (unlock_same hd (Same.refl _)))
theorem natsV_snoc (l : List Nat) (n : Nat) : natsV (l ++ [n]) = natsV l ++ [.int n] := by unfold natsV; simp
theorem pure_days_of_going (T : TopTxt K w mg c) : ∀ a H Q, pr_days_of_going c a H Q → t_days_of_going K c (D0 Q) (start ["house", "beyond", "ends", "record", "end"] [a]) H := by
  rintro _ H Q ⟨F, s, L, rfl, R, o, hsz, q⟩
  have oh := R.house (by simp)
  refine ⟨_, rfl, fq (fd_House_today T oh) ⟨_, _, rfl, rfl, _, _, rfl, rfl, ?_⟩⟩
  have ef : (s.day : Int) + 400 + 1 = ((s.day + 401 : Nat) : Int) := by omega
  refine ⟨by show 0 ≤ sizeLine; exact Nat.zero_le _, fun p np => ?_⟩
  obtain ⟨elen, eat⟩ := ends_at o.below (s.day + 401)
  generalize hE : ends s (s.day + 401) = E at elen eat q
  have Rp : Rep c [] (upd F p (.lst (natsV (E.take 0)))) s L (upd H p (.lst [])) := R.new np
  have hl := R.records (by simp)
  have hlp : ∀ {H'}, Rep c [] (upd F p (.lst (natsV (E.take 0)))) s L H' → True := fun _ => trivial
  refine ⟨_, rfl, fq (fd_House_records T (Rp.house (by simp))) ⟨_, rfl, ⟨_, SqL.of (Rp.records (by simp))⟩, for_list (K := K) (xs := (List.range s.records.length).map fun i => V.ref (L (.record i)))
    (fun j σ H' => Rep c [] (upd F p (.lst (natsV (E.take j)))) s L H' ∧ Same H H' ∧ ∃ v, σ = [some (.ref (L .house)), some (.int ((s.day : Int) + 400 + 1)), some (.ref p), v, none])
    ⟨Rp, same_new np, none, rfl⟩ (fun j σ H' _ h => SqL.of (h.1.records (by simp))) ?_ ?_⟩⟩
  · rintro j x σ H' hx ⟨R1, sm, v, rfl⟩
    obtain ⟨hj, rfl⟩ := range_at hx
    have er : s.records[j]? = some s.records[j] := List.getElem?_eq_getElem hj
    have hp := R1.keep _ _ (show upd F p _ p = _ from upd_same)
    refine ⟨_, rfl, ty_list hp, _, rfl, _, rfl, _, rfl, _, rfl, _, s, L, j, _, p, E.take j, s.day + 401, rfl, rfl, rfl, congrArg V.int ef, R1, o, er, upd_same, by rw [List.length_take, elen]; omega, fun H2 e2 => ?_⟩
    have R2 := R1.same e2
    have hp2 := R2.keep _ _ (show upd F p _ p = _ from upd_same)
    refine ⟨_, _, _, rfl, rfl, hp2, ?_, ?_⟩
    · unfold natsV
      rw [List.length_map, List.length_take]
      exact len_lt (m := 16) (by omega) (by decide)
    · have ev : E[j]? = some (recordEnd s s.records[j] (fun k => (E.take j).getD k 0) (s.day + 401)) := by
        rw [eat j _ er]
        congr 1
        refine recordEnd_congr fun k hk => ?_
        have hkj := o.below j _ er k hk
        show E.getD k 0 = (E.take j).getD k 0
        rw [List.getD_eq_getElem?_getD, List.getD_eq_getElem?_getD, List.getElem?_take_of_lt hkj]
      have R3 := R2.apart (p := p) (o := .lst (natsV (E.take j) ++ [.int (recordEnd s s.records[j] (fun k => (E.take j).getD k 0) (s.day + 401) : Nat)])) (show upd F p _ p = _ from upd_same)
      rw [upd_upd] at R3
      refine ⟨?_, ?_, _, rfl⟩
      · rw [take_snoc ev, natsV_snoc]; exact R3
      · intro b u hb
        rw [upd_ne (ne_of_none hb np)]
        exact e2 _ _ (sm _ _ hb)
  · rintro σ H' ⟨R1, sm, v, rfl⟩
    rw [List.length_map, List.length_range, ← elen, List.take_length] at R1
    have hp := R1.keep _ _ (show upd F p _ p = _ from upd_same)
    refine ⟨_, rfl, _, rfl, ⟨_, SqL.of hp⟩, fun D nD => ?_⟩
    refine lc_list (K := K) (xs := natsV E) (fun j H1 => H1 = upd H' D (.lst ((E.take j).map (endV (s.day + 401))))) rfl (fun j H1 _ h => by rw [h]; exact SqL.of (by rw [upd_ne (ne_of_none hp nD)]; exact hp)) ?_ ?_
    · rintro j y H1 hy rfl
      obtain ⟨e, he, rfl⟩ := map_at hy
      refine ⟨rfl, ?_⟩
      refine ⟨_, rfl, _, rfl, rfl, _, rfl, ?_⟩
      have el : ((E.take j).map (endV (s.day + 401))).length < sizeLine := by
        rw [List.length_map, List.length_take]
        exact len_lt (m := 16) (by omega) (by decide)
      have ends1 : upd (upd H' D (.lst ((E.take j).map (endV (s.day + 401))))) D (.lst ((E.take j).map (endV (s.day + 401)) ++ [endV (s.day + 401) e])) = upd H' D (.lst ((E.take (j + 1)).map (endV (s.day + 401)))) := by
        rw [upd_upd, take_snoc he, List.map_append]; rfl
      by_cases z : e = s.day + 401
      · have ez : endV (s.day + 401) e = .non := if_pos z
        rw [ez] at ends1
        refine if_true_of (decide_eq_true (by rw [z]; exact congrArg V.int ef.symm)) ?_
        exact ⟨_, upd_same, el, ends1⟩
      · have ez : endV (s.day + 401) e = .int e := if_neg z
        rw [ez] at ends1
        refine if_false_of (decide_eq_false fun y => z (by have := V.int.inj y; rw [ef] at this; omega)) ?_
        exact ⟨_, rfl, _, upd_same, el, ends1⟩
    · rintro H1 rfl
      have e1 : (natsV E).length = E.length := List.length_map ..
      rw [e1, List.take_length]
      exact q _ D (sm.trans (same_new nD)) (sm.free nD) upd_same
/-! ### a store's name -/
theorem Rep.nameOf (T : TopTxt K w mg c) {X : List Tag} {F : Hp} {s : Kp01.House} {L : Tag → Addr} {H : Hp} {i : Nat} {r : Kp01.Record} {k : Kp01.Copy} (R : Rep c X F s L H) (hX : ∀ n, Tag.store n ∉ X) (o : Ok s) (e : s.records[i]? = some r) (hk : k ∈ r.copies) : Fd K H (.ref (L (.store k.store))) "name" (.str (txt k.store)) := by
  rcases o.cstores i r e k hk with em | es
  · have om := R.storeM (hX _)
    rw [em]
    have z := fd_Store_name T om
    have e9 : (Str.ofString "main") = txt Kp01.MAIN := (txt_ascii "main").symm
    rw [e9] at z
    exact z
  · obtain ⟨y, ey⟩ := Option.isSome_iff_exists.mp es
    have hn2 : k.store ≠ Kp01.MAIN := fun z => by rw [z, storeOf_main o] at ey; cases ey
    have ny : Kp01.storeName y = k.store := by simpa using List.find?_some ey
    exact fd_Store_name T (R.store hn2 ey (hX _)) (by rw [← ny]; cases y <;> rfl)
theorem gone_text (x : Kp01.State_) : (!decide (V.str (stText x) = V.str ("gone" : Str))) = !Kp01.isGone x := by
  cases x with
  | there => decide +kernel
  | going d => exact (show (!decide (V.str ("going" : Str) = V.str ("gone" : Str))) = !false by decide +kernel)
  | asked d => exact (show (!decide (V.str ("asked" : Str) = V.str ("gone" : Str))) = !false by decide +kernel)
  | gone d => exact (show (!decide (V.str ("gone" : Str) = V.str ("gone" : Str))) = !true by decide +kernel)
theorem pure_lies_in (T : TopTxt K w mg c) : ∀ a b H Q, pr_lies_in c a b H Q → t_lies_in K c (D0 Q) (start ["record", "store", "kept"] [a, b]) H := by
  rintro _ _ H Q ⟨F, s, L, i, r, n, x, rfl, rfl, R, o, er, es, q⟩
  have hc := R.copies er (by simp)
  have hn : n ≠ Kp01.MAIN := fun z => by rw [z, storeOf_main o] at es; cases es
  have nx : Kp01.storeName x = n := by simpa using List.find?_some es
  have fx : Fd K H (.ref (L (.store n))) "name" (.str (txt n)) := fd_Store_name T (R.store hn es (by simp)) (by rw [← nx]; cases x <;> rfl)
  refine ⟨_, rfl, fq (fd_Record_copies T (R.record er (by simp))) ⟨_, rfl, ⟨_, SqL.of hc⟩, for_list (K := K) (xs := r.copies.map fun k => V.ref (L (.copy i k.store)))
    (fun j σ H' => H' = H ∧ (∃ v, σ = [some (.ref (L (.record i))), some (.ref (L (.store n))), v]) ∧ (r.copies.take j).all (fun k => !(k.store == n)) = true) ⟨rfl, ⟨none, rfl⟩, rfl⟩ (fun j σ H' _ h => by rw [h.1]; exact SqL.of hc) ?_ ?_⟩⟩
  · rintro j y σ H' hy ⟨rfl, ⟨v, rfl⟩, hall⟩
    obtain ⟨k, hk, rfl⟩ := map_at hy
    have hm : k ∈ r.copies := List.mem_of_getElem? hk
    have ek : copyOf r k.store = some k := find_mem (nm := fun (x : Kp01.Copy) => x.store) (o.ncopies i r er) hm
    have ok := R.copy er ek (by simp)
    refine ⟨_, rfl, fq (fd_Copy_store T ok) (fq (R.nameOf T (by simp) o er hm) ⟨_, rfl, fq fx ⟨rfl, _, rfl, ?_⟩⟩)⟩
    rw [dec_txt]
    cases hs : k.store == n with
    | false => exact if_false_of rfl ⟨rfl, ⟨_, rfl⟩, take_all hk hall (by rw [hs]; rfl)⟩
    | true =>
      refine if_true_of rfl ⟨_, rfl, fq (fd_Copy_state T ok) ⟨rfl, ?_⟩⟩
      have e1 : liesIn r n = !Kp01.isGone k.st := by
        unfold liesIn
        cases hg : Kp01.isGone k.st with
        | false =>
          rw [List.any_eq_true.mpr ⟨k, hm, by rw [hs, hg]; rfl⟩]; rfl
        | true =>
          rw [List.any_eq_false.mpr fun z hz hzz => ?_]; rfl
          rw [Bool.and_eq_true] at hzz
          have e2 : z.store = k.store := by
            have a1 := eq_of_beq hzz.1
            have a2 := eq_of_beq hs
            rw [a1, a2]
          have ez : copyOf r z.store = some z := find_mem (nm := fun (x : Kp01.Copy) => x.store) (o.ncopies i r er) hz
          rw [e2, ek] at ez
          cases ez
          rw [hg] at hzz
          exact absurd hzz.2 (by simp)
      rw [e1] at q
      show Q (V.bl (!decide (V.str (stText k.st) = V.str ("gone" : Str)))) H'
      rw [gone_text]; exact q
  · rintro σ H' ⟨rfl, ⟨v, rfl⟩, hall⟩
    rw [List.length_map, List.take_length, List.all_eq_true] at hall
    have e1 : liesIn r n = false := by
      unfold liesIn
      rw [List.any_eq_false]
      intro k hk hz
      have := hall k hk
      rw [Bool.and_eq_true] at hz
      rw [hz.1] at this
      cases this
    rw [e1] at q
    exact q
end
end Kr

set_option Elab.async false
set_option linter.all false
set_option maxRecDepth 100000
set_option maxHeartbeats 2000000
namespace Kr
open PySem PySem.Spec PyProof.Rows L2
section
variable {K : PySem.W.Frag} {w : World} {mg : Str → Option Value} {c : Cs}
theorem joinL_joined (x : Nat) : ∀ l : List Bytes, TL.joinL [x] l = Kp01.joined x l
  | [] => rfl
  | [_] => rfl
  | p :: q :: r => by
    show p ++ ([x] ++ TL.joinL [x] (q :: r)) = p ++ x :: Kp01.joined x (q :: r)
    rw [joinL_joined x (q :: r)]; rfl
theorem join_txt {z : Str} {x : Nat} (hz : TL.tl z = [x]) (l : List Bytes) : _root_.PySem.Txt.join z (l.map txt) = txt (Kp01.joined x l) := by
  apply TL.ext_tl
  rw [TL.join_eq, TL.tl_join, hz, List.map_map]
  have e : (TL.tl ∘ txt) = (id : Bytes → Bytes) := by funext b; rfl
  rw [e, List.map_id, joinL_joined]; rfl
theorem strsV_txt (l : List Bytes) : strsV l = (l.map txt).map V.str := by unfold strsV; rw [List.map_map]; rfl
theorem sum_le {m : Nat} : ∀ {l : List Nat}, (∀ x ∈ l, x ≤ m) → l.sum ≤ l.length * m
  | [], _ => by simp
  | a :: r, h => by
    have z := sum_le (l := r) fun x hx => h x (List.mem_cons_of_mem _ hx)
    have y := h a (List.mem_cons_self ..)
    rw [List.sum_cons, List.length_cons, Nat.add_mul]
    omega
theorem txt_sum {m : Nat} {l : List Bytes} (h : ∀ r ∈ l, r.length ≤ m) : ((l.map txt).map (·.length)).sum ≤ l.length * m := by
  have z := sum_le (m := m) (l := (l.map txt).map (·.length)) (fun x hx => by
    obtain ⟨y, hy, rfl⟩ := List.mem_map.mp hx
    obtain ⟨b, hb, rfl⟩ := List.mem_map.mp hy
    rw [txt_len]; exact h b hb)
  rw [List.length_map, List.length_map] at z
  exact z
theorem nl_tl : TL.tl (Str.ofString "\n") = [10] := by rw [TL.tl_ofString]; rfl
theorem sp_tl : TL.tl (Str.ofString " ") = [32] := by rw [TL.tl_ofString]; rfl
theorem pure_listed (T : TopTxt K w mg c) : ∀ a H Q, pr_listed a H Q → t_listed K c (D0 Q) (start ["rows"] [a]) H := by
  rintro _ H Q ⟨p, rows, rfl, hp, hl, hr, q⟩
  have h1 : (strsV rows).length = rows.length := List.length_map ..
  refine ⟨⟨_, rfl⟩, _, rfl, _, _, rfl, .inl (SqL.of hp), ?_⟩
  rw [h1]
  refine ⟨_, rfl, log_small (by omega), ?_⟩
  refine ⟨by show 1 ≤ sizeLine; decide, fun a na => ⟨_, rfl, _, _, _, _, rfl, rfl, upd_same, by rw [upd_ne (ne_of_none hp na)]; exact hp, ?_, fun b nb => ?_⟩⟩
  · rw [h1]; exact Nat.le_trans (by show 1 + rows.length ≤ 1000000; omega) line_big
  · have e1 : ([V.str (Str.ofString (toString ((rows.length : Nat) : Int)))] ++ strsV rows) = ((Kp01.decimal rows.length :: rows).map txt).map V.str := by
      rw [str_num, List.map_cons, List.map_cons, strsV_txt]; rfl
    have hd9 := dec_short (n := rows.length) (by omega)
    refine ⟨_, b, (Kp01.decimal rows.length :: rows).map txt, rfl, rfl, .inl (SqL.of (by rw [upd_same]; exact congrArg (fun x => some (HO.lst x)) e1)), ?_, ?_⟩
    · have z := txt_sum (m := 200) (l := Kp01.decimal rows.length :: rows) (fun r hr' => by
        rcases List.mem_cons.mp hr' with e | e
        · rw [e]; omega
        · exact hr r e)
      have y : (Str.ofString "\n").length = 1 := by decide +kernel
      rw [y, List.length_map, List.length_cons]
      rw [List.length_cons] at z
      omega
    · rw [join_txt nl_tl]
      refine q _ ?_
      exact (same_new na).trans (same_new nb)
theorem store_len {s : Kp01.House} (g : Good s) {i : Nat} {r : Kp01.Record} {k : Kp01.Copy} (e : s.records[i]? = some r) (hk : k ∈ r.copies) : k.store.length ≤ 8 := by
  rcases g.ok.cstores i r e k hk with z | z
  · rw [z]; decide
  · obtain ⟨y, ey⟩ := Option.isSome_iff_exists.mp z
    have ny : Kp01.storeName y = k.store := by simpa using List.find?_some ey
    rw [← ny]; exact (g.size.sname y (List.mem_of_find?_eq_some ey)).1
theorem app3 (a : Bytes) (x y : String) : txt a ++ Str.ofString x ++ Str.ofString y = txt (a ++ Kp01.ascii x ++ Kp01.ascii y) := by
  rw [← txt_ascii, ← txt_ascii, txt_app, txt_app]
theorem app_num (a : Bytes) (n : Nat) : txt a ++ Str.ofString " " ++ Str.ofString (toString ((n : Nat) : Int)) = txt (a ++ Kp01.ascii " " ++ Kp01.decimal n) := by
  rw [← txt_ascii, str_num, txt_app, txt_app]
theorem stText_len (x : Kp01.State_) : (stText x).length ≤ 5 := by
  cases x with
  | there => decide +kernel
  | going d => exact (show ("going" : Str).length ≤ 5 by decide +kernel)
  | asked d => exact (show ("asked" : Str).length ≤ 5 by decide +kernel)
  | gone d => exact (show ("gone" : Str).length ≤ 5 by decide +kernel)
theorem stText_txt (x : Kp01.State_) : ∃ y : String, stText x = Str.ofString y ∧ (Kp01.stateText x = [Kp01.ascii y] ∧ stDay x = none ∨ ∃ d, Kp01.stateText x = [Kp01.ascii y, Kp01.decimal d] ∧ stDay x = some d) := by
  cases x with
  | there => exact ⟨"there", rfl, .inl ⟨rfl, rfl⟩⟩
  | going d => exact ⟨"going", rfl, .inr ⟨d, rfl, rfl⟩⟩
  | asked d => exact ⟨"asked", rfl, .inr ⟨d, rfl, rfl⟩⟩
  | gone d => exact ⟨"gone", rfl, .inr ⟨d, rfl, rfl⟩⟩
theorem line_of {a b : Nat} (h : a + b ≤ 1000) : a + b ≤ sizeLine := Nat.le_trans h (by decide)
theorem pure_copy_row (T : TopTxt K w mg c) : ∀ a H Q, pr_copy_row c a H Q → t_copy_row K c (D0 Q) (start ["kept", "row"] [a]) H := by
  rintro _ H Q ⟨F, s, L, i, n, r, k, rfl, R, g, er, ek, q⟩
  have nk : k.store = n := by simpa using List.find?_some ek
  have hm : k ∈ r.copies := List.mem_of_find?_eq_some ek
  have ok := R.copy er ek (by simp)
  have fn := R.nameOf T (by simp) g.ok er hm
  have hl8 := store_len g er hm
  have l5 := stText_len k.st
  have l1 : (Str.ofString " ").length = 1 := by decide +kernel
  have len2 : ∀ a b : Str, (a ++ b).length = a.length + b.length := fun a b => by rw [TL.len_tl, TL.tl_append, List.length_append, ← TL.len_tl, ← TL.len_tl]
  refine ⟨_, rfl, fq (fd_Copy_store T ok) (fq fn ⟨_, _, rfl, rfl, line_of (by rw [txt_len]; omega), _, rfl, fq (fd_Copy_state T ok) ⟨_, _, rfl, rfl, line_of (by rw [len2, txt_len]; omega), ?_⟩⟩)⟩
  refine ⟨_, rfl, fq (fd_Copy_day T ok) ⟨_, rfl, ?_⟩⟩
  rw [optV_none]
  obtain ⟨y, e1, ⟨e2, e3⟩ | ⟨d, e2, e3⟩⟩ := stText_txt k.st
  · rw [e3]
    refine if_true_of rfl ⟨_, rfl, ?_⟩
    have et : Kp01.told (Kp01.copyLine k) = k.store ++ Kp01.ascii " " ++ Kp01.ascii y := by
      unfold Kp01.copyLine Kp01.told
      rw [e2]
      show k.store ++ 32 :: Kp01.ascii y = k.store ++ [32] ++ Kp01.ascii y
      simp
    rw [e1, app3, ← et]
    exact q
  · rw [e3]
    refine if_false_of rfl ?_
    have hd : d ≤ s.day + 400 := (g.size.recs i r er).2.2 k hm d e3
    have hday := g.size.day
    refine ⟨_, rfl, _, _, rfl, rfl, line_of (by rw [len2, len2, txt_len]; omega), _, rfl, fq (fd_Copy_day T ok) ?_⟩
    rw [e3]
    refine ⟨_, rfl, log_small (by omega), _, _, rfl, rfl, line_of (by rw [len2, len2, len2, txt_len]; have := num_len (n := d) (by omega); omega), ?_⟩
    have et : Kp01.told (Kp01.copyLine k) = k.store ++ Kp01.ascii " " ++ Kp01.ascii y ++ Kp01.ascii " " ++ Kp01.decimal d := by
      unfold Kp01.copyLine Kp01.told
      rw [e2]
      show k.store ++ 32 :: (Kp01.ascii y ++ 32 :: Kp01.decimal d) = k.store ++ [32] ++ Kp01.ascii y ++ [32] ++ Kp01.decimal d
      simp
    rw [e1, app3, app_num, ← et]
    exact q
theorem pure_ground_row (T : TopTxt K w mg c) : ∀ a H Q, pr_ground_row c a H Q → t_ground_row K c (D0 Q) (start ["ground", "row"] [a]) H := by
  rintro _ H Q ⟨F, s, L, n, g, rfl, R, sz, eg, q⟩
  have og := R.ground eg (by simp)
  have hm : g ∈ s.grounds := List.mem_of_find?_eq_some eg
  obtain ⟨n1, n2, n3⟩ := sz.gname g hm
  have l1 : (Str.ofString " ").length = 1 := by decide +kernel
  have len2 : ∀ a b : Str, (a ++ b).length = a.length + b.length := fun a b => by rw [TL.len_tl, TL.tl_append, List.length_append, ← TL.len_tl, ← TL.len_tl]
  have lb : (basisText g.sort).length ≤ 4 := by
    cases g.sort with
    | law => decide +kernel
    | need => decide +kernel
    | consent v => exact (show ("for" : Str).length ≤ 4 by decide +kernel)
  refine ⟨_, rfl, fq (fd_Ground_name T og) ⟨_, _, rfl, rfl, line_of (by rw [txt_len]; omega), _, rfl, fq (fd_Ground_basis T og) ⟨_, _, rfl, rfl, line_of (by rw [len2, txt_len]; omega), ?_⟩⟩⟩
  refine ⟨_, rfl, fq (fd_Ground_basis T og) ⟨rfl, _, rfl, ?_⟩⟩
  unfold groundLine at q
  cases hs : g.sort with
  | law =>
    rw [hs] at q
    refine if_false_of (by decide +kernel) ⟨_, rfl, ?_⟩
    show Q (V.str (txt g.name ++ Str.ofString " " ++ Str.ofString "law")) H
    rw [app3]
    have et : Kp01.told (g.name :: Kp01.sortText .law) = g.name ++ Kp01.ascii " " ++ Kp01.ascii "law" := by
      show g.name ++ 32 :: Kp01.ascii "law" = g.name ++ [32] ++ Kp01.ascii "law"
      simp
    rw [← et]; exact q
  | need =>
    rw [hs] at q
    refine if_false_of (by decide +kernel) ⟨_, rfl, ?_⟩
    show Q (V.str (txt g.name ++ Str.ofString " " ++ Str.ofString "need")) H
    rw [app3]
    have et : Kp01.told (g.name :: Kp01.sortText .need) = g.name ++ Kp01.ascii " " ++ Kp01.ascii "need" := by
      show g.name ++ 32 :: Kp01.ascii "need" = g.name ++ [32] ++ Kp01.ascii "need"
      simp
    rw [← et]; exact q
  | consent v =>
    rw [hs] at q
    have hv := n3 v hs
    refine if_true_of (show decide (V.str ("for" : Str) = V.str ("for" : Str)) = true by decide +kernel) ?_
    have lf : (basisText (.consent v)).length ≤ 4 := by rw [← hs]; exact lb
    refine ⟨_, rfl, _, _, rfl, rfl, line_of (by rw [len2, len2, txt_len]; omega), _, rfl, fq (fd_Ground_purpose T og) ?_⟩
    rw [hs]
    refine ⟨_, _, rfl, rfl, line_of (by rw [len2, len2, len2, txt_len, txt_len]; omega), ?_⟩
    show Q (V.str (txt g.name ++ Str.ofString " " ++ Str.ofString "for" ++ Str.ofString " " ++ txt v)) H
    rw [app3, ← txt_ascii " ", txt_app, txt_app]
    have et : Kp01.told (g.name :: Kp01.sortText (.consent v)) = g.name ++ Kp01.ascii " " ++ Kp01.ascii "for" ++ Kp01.ascii " " ++ v := by
      show g.name ++ 32 :: (Kp01.ascii "for" ++ 32 :: v) = g.name ++ [32] ++ Kp01.ascii "for" ++ [32] ++ v
      simp
    rw [← et]; exact q
theorem endAt_le {s : Kp01.House} (b : Below s) {j : Nat} {r : Kp01.Record} (h : s.records[j]? = some r) (hg : r.letGo = none) : endAt s (s.day + 401) j ≤ s.day + 401 := by
  rw [endAt_eq b h]
  unfold recordEnd
  rw [hg]
  show (if _ then _ else _) ≤ _
  split
  · exact Nat.le_refl _
  · cases Kp01.personOf s r.person with
    | none => show s.day ≤ _; omega
    | some p =>
      show maxEnds s p r _ _ s.grounds s.day ≤ _
      apply Nat.le_of_not_lt
      intro z2
      rcases (lt_maxEnds s p r _ _ _ _ _).mp z2 with z3 | ⟨g, _, _, z3⟩
      · omega
      · unfold groundEnd at z3
        dsimp only at z3
        omega
theorem pure_tell_till (T : TopTxt K w mg c) : ∀ a b H Q, pr_tell_till c a b H Q → t_tell_till K c (D0 Q) (start ["house", "things", "refusal", "day"] [a, b]) H := by
  rintro _ _ H Q ⟨F, s, L, a, vals, cmd, rfl, rfl, R, g, fa, ⟨i, rfl, rfl, hi99⟩, q⟩
  have ha := R.keep _ _ fa
  have e0 : Kp01.does s (.till i) = Kp01.onRecord s i fun _ => (s, match Kp01.goesFrom 401 s i with
    | some d => Kp01.decimal d
    | none => Kp01.ascii "open") := rfl
  refine ⟨_, rfl, _, rfl, thing ha rfl ⟨F, s, L, i, rfl, rfl, R, ?_⟩⟩
  rcases refusal_cases s i with ⟨e1, e2⟩ | ⟨r, d, e1, e2, e3⟩ | ⟨r, e1, e2, e3⟩
  · rw [e1]
    rw [onRec_none e2] at e0
    refine ⟨_, rfl, _, rfl, if_true_of rfl ⟨_, rfl, fin q e0 (no_txt rfl) R rfl⟩⟩
  · rw [e1]
    rw [onRec_gone e2 e3] at e0
    refine ⟨_, rfl, _, rfl, if_true_of rfl ⟨_, rfl, fin q e0 (no_txt rfl) R rfl⟩⟩
  · rw [e1]
    rw [onRec_there e2 e3] at e0
    have hi := (List.getElem?_eq_some_iff.mp e2).1
    refine ⟨_, rfl, _, rfl, if_false_of rfl ?_⟩
    refine ⟨_, rfl, F, s, L, rfl, R, g.ok, g.size.records, fun H1 p sm np hp => ?_⟩
    have R1 := R.same sm
    have ha1 := sm _ _ ha
    obtain ⟨elen, eat⟩ := ends_at g.ok.below (s.day + 401)
    have eA : (ends s (s.day + 401))[i]? = some (endAt s (s.day + 401) i) := by
      unfold endAt
      rw [List.getD_eq_getElem?_getD, List.getElem?_eq_getElem (by rw [elen]; exact hi)]; rfl
    refine ⟨_, rfl, thing ha1 rfl (thing hp (atI_nat (v := endV (s.day + 401) (endAt s (s.day + 401) i)) (by rw [List.getElem?_map, eA]; rfl)) ?_)⟩
    refine ⟨_, rfl, _, rfl, ?_⟩
    have ge := goes_end g.ok.below g.kept g.ok.owned e2 e3
    rw [ge] at e0
    unfold endV
    by_cases z : endAt s (s.day + 401) i = s.day + 401
    · rw [if_pos z] at e0
      have e9 : (if endAt s (s.day + 401) i = s.day + 401 then V.non else V.int (endAt s (s.day + 401) i : Nat)) = .non := if_pos z
      refine if_true_of (decide_eq_true e9) ?_
      exact fin q e0 (txt_ascii "open") R1 rfl
    · rw [if_neg z] at e0
      have e9 : (if endAt s (s.day + 401) i = s.day + 401 then V.non else V.int (endAt s (s.day + 401) i : Nat)) = .int (endAt s (s.day + 401) i : Nat) := if_neg z
      refine if_false_of (decide_eq_false (by rw [e9]; simp)) ?_
      refine ⟨_, rfl, _, by rw [e9], log_small ?_, ?_⟩
      · have hle : endAt s (s.day + 401) i ≤ s.day + 401 := endAt_le g.ok.below e2 e3
        have := g.size.day
        omega
      · exact fin q e0 (str_num _).symm R1 rfl
end
end Kr

set_option Elab.async false
set_option linter.all false
set_option maxRecDepth 100000
set_option maxHeartbeats 2000000
namespace Kr
open PySem PySem.Spec PyProof.Rows L2
section
variable {K : PySem.W.Frag} {w : World} {mg : Str → Option Value} {c : Cs}
theorem len_app (a b : Str) : (a ++ b).length = a.length + b.length := by rw [TL.len_tl, TL.tl_append, List.length_append, ← TL.len_tl, ← TL.len_tl]
theorem listed_rows (l : List (List Bytes)) : Kp01.joined 10 (Kp01.decimal (l.map Kp01.told).length :: l.map Kp01.told) = Kp01.listed l := by rw [List.length_map]; rfl
theorem strsV_snoc (l : List Bytes) (b : Bytes) : strsV (l ++ [b]) = strsV l ++ [.str (txt b)] := by unfold strsV; simp
theorem strsV_len (l : List Bytes) : (strsV l).length = l.length := List.length_map ..
theorem copyLine_len {s : Kp01.House} (g : Good s) {i : Nat} {r : Kp01.Record} {k : Kp01.Copy} (e : s.records[i]? = some r) (hk : k ∈ r.copies) : (Kp01.told (Kp01.copyLine k)).length ≤ 30 := by
  have h8 := store_len g e hk
  have h5 := stText_len k.st
  have hday := g.size.day
  obtain ⟨y, e1, ⟨e2, e3⟩ | ⟨d, e2, e3⟩⟩ := stText_txt k.st
  · unfold Kp01.copyLine Kp01.told
    rw [e2]
    rw [e1, ← txt_ascii, txt_len] at h5
    show (k.store ++ 32 :: Kp01.ascii y).length ≤ 30
    rw [List.length_append, List.length_cons]
    omega
  · unfold Kp01.copyLine Kp01.told
    rw [e2]
    rw [e1, ← txt_ascii, txt_len] at h5
    have hd : d ≤ s.day + 400 := (g.size.recs i r e).2.2 k hk d e3
    have h9 := dec_short (n := d) (by omega)
    show (k.store ++ 32 :: (Kp01.ascii y ++ 32 :: Kp01.decimal d)).length ≤ 30
    rw [List.length_append, List.length_cons, List.length_append, List.length_cons]
    omega
theorem flat_le {α β : Type} {f : α → List β} {m : Nat} : ∀ {l : List α}, (∀ x ∈ l, (f x).length ≤ m) → (l.flatMap f).length ≤ l.length * m
  | [], _ => by simp
  | a :: r, h => by
    have z := flat_le (l := r) fun x hx => h x (List.mem_cons_of_mem _ hx)
    have y := h a (List.mem_cons_self ..)
    rw [List.flatMap_cons, List.length_append, List.length_cons, Nat.add_mul]
    omega
theorem zip_at {s : Kp01.House} {j : Nat} {r : Kp01.Record} (h : s.records[j]? = some r) : s.records.zipIdx[j]? = some (r, j) := by
  rw [List.getElem?_zipIdx, h]; simp
theorem flat_snoc {α β : Type} {f : α → List β} {l : List α} {j : Nat} {x : α} (h : l[j]? = some x) : (l.take (j + 1)).flatMap f = (l.take j).flatMap f ++ f x := by
  rw [take_snoc h, List.flatMap_append]; simp
theorem pure_tell_proof (T : TopTxt K w mg c) : ∀ a b H Q, pr_tell_proof c a b H Q → t_tell_proof K c (D0 Q) (start ["house", "things", "number", "record", "first", "kept"] [a, b]) H := by
  rintro _ _ H Q ⟨F, s, L, a, vals, cmd, rfl, rfl, R, g, fa, ⟨i, rfl, rfl, hi99⟩, q⟩
  have ha := R.keep _ _ fa
  have hl := R.records (by simp)
  have oh := R.house (by simp)
  have e0 : Kp01.does s (.proof i) = (s, match s.records[i]? with
    | none => Kp01.no "record"
    | some r => Kp01.listed ((match r.letGo with
      | none => [Kp01.ascii "kept"]
      | some d => [Kp01.ascii "gone", Kp01.decimal d]) :: r.copies.map Kp01.copyLine)) := rfl
  refine ⟨_, rfl, thing ha rfl ?_⟩
  refine ⟨_, rfl, _, rfl, fq (fd_House_records T oh) ⟨_, _, rfl, .inl (SqL.of hl), _, _, rfl, rfl, _, rfl, ?_⟩⟩
  rw [List.length_map, List.length_range]
  show if decide ((s.records.length : Int) ≤ (i : Int)) = true then _ else _
  rw [dec_len]
  by_cases hi : s.records.length ≤ i
  · rw [List.getElem?_eq_none hi] at e0
    exact if_true_of (decide_eq_true hi) (fin q e0 (no_txt rfl) R rfl)
  · have hi' : i < s.records.length := by omega
    have er : s.records[i]? = some s.records[i] := List.getElem?_eq_getElem hi'
    generalize s.records[i] = r at er
    rw [er] at e0
    dsimp only at e0
    refine if_false_of (decide_eq_false hi) ?_
    have hday := g.size.day
    refine ⟨_, rfl, fq (fd_House_records T oh) ⟨_, rfl, at_records hl hi' ?_⟩⟩
    have orr := R.record er (by simp)
    have hc := R.copies er (by simp)
    refine ⟨_, rfl, F, s, L, i, r, rfl, R.sub (by simp), er, _, rfl, ?_⟩
    -- behind the first word
    have rest : ∀ fst : List Bytes, (Kp01.told fst).length ≤ 30 → Kp01.does s (.proof i) = (s, Kp01.listed (fst :: r.copies.map Kp01.copyLine)) → tRet (tCall (sp_listed K c) [] E0 (tCons (tOp rCat (tLst (tCons (tVar 4) tNil)) (tLc (iList K (tFld K (tVar 3) "copies")) (gName 5) tYes (tCall (sp_copy_row K c) [] E0 (tCons (tVar 5) tNil)) [5])) tNil)) (D0 Q)
        [some (.ref (L .house)), some (.ref a), some (.int (i : Nat)), some (.ref (L (.record i))), some (.str (txt (Kp01.told fst))), none] H := by
      intro fst hf e1
      refine ⟨_, rfl, by show 1 ≤ sizeLine; decide, fun p np => ?_⟩
      have R1 := R.new (o := .lst [.str (txt (Kp01.told fst))]) np
      have hc1 := R1.copies er (by simp)
      refine ⟨_, rfl, fq (fd_Record_copies T (R1.record er (by simp))) ⟨_, rfl, ⟨_, SqL.of hc1⟩, fun D nD => ?_⟩⟩
      have hp1 : upd H p (.lst [.str (txt (Kp01.told fst))]) p = some (.lst [.str (txt (Kp01.told fst))]) := upd_same
      refine lc_list (K := K) (xs := r.copies.map fun k => V.ref (L (.copy i k.store))) (fun j H1 => H1 = upd (upd H p (.lst [.str (txt (Kp01.told fst))])) D (.lst (strsV ((r.copies.take j).map fun k => Kp01.told (Kp01.copyLine k))))) rfl (fun j H1 _ h => by rw [h]; exact SqL.of (by rw [upd_ne (ne_of_none hc1 nD)]; exact hc1)) ?_ ?_
      · rintro j y H1 hy rfl
        obtain ⟨k, hk, rfl⟩ := map_at hy
        have hm : k ∈ r.copies := List.mem_of_getElem? hk
        have ek : copyOf r k.store = some k := find_mem (nm := fun (x : Kp01.Copy) => x.store) (g.ok.ncopies i r er) hm
        have R2 := R1.new (o := .lst (strsV ((r.copies.take j).map fun k => Kp01.told (Kp01.copyLine k)))) nD
        refine ⟨rfl, ?_⟩
        refine ⟨_, rfl, _, s, L, i, k.store, r, k, rfl, R2, g, er, ek, _, upd_same, ?_, ?_⟩
        · rw [strsV_len, List.length_map, List.length_take]
          have := copies_len g er
          exact len_lt (m := 5) (by omega) (by decide)
        · rw [upd_upd, take_snoc hk, List.map_append, List.map_singleton, strsV_snoc]
      · rintro H1 rfl
        rw [List.length_map, List.take_length]
        have pD : p ≠ D := ne_of_none hp1 nD
        refine ⟨_, _, _, _, rfl, rfl, by rw [upd_ne pD, upd_same], upd_same, ?_, fun b nb => ?_⟩
        · rw [strsV_len, List.length_map]
          have := copies_len g er
          exact Nat.le_trans (show 1 + r.copies.length ≤ 100 by omega) (by decide)
        · have eR : ([V.str (txt (Kp01.told fst))] ++ strsV (r.copies.map fun k => Kp01.told (Kp01.copyLine k))) = strsV ((fst :: r.copies.map Kp01.copyLine).map Kp01.told) := by
            unfold strsV
            rw [List.map_cons, List.map_map]
            simp
          refine ⟨b, (fst :: r.copies.map Kp01.copyLine).map Kp01.told, rfl, by rw [upd_same, eR], ?_, ?_, fun H2 sm => ?_⟩
          · rw [List.length_map, List.length_cons, List.length_map]
            have := copies_len g er
            omega
          · intro x hx
            rw [List.map_cons] at hx
            rcases List.mem_cons.mp hx with z | z
            · rw [z]; omega
            · obtain ⟨y, hy, rfl⟩ := List.mem_map.mp z
              obtain ⟨k, hk, rfl⟩ := List.mem_map.mp hy
              have := copyLine_len g er hk
              omega
          · refine fin q e1 (by rw [← listed_rows]) (R.same ?_) rfl
            exact (((same_new np).trans (same_new nD)).trans (same_new nb)).trans sm
    cases hg : r.letGo with
    | none =>
      rw [hg] at e0
      refine if_true_of rfl ?_
      have z := rest [Kp01.ascii "kept"] (by decide) e0
      have e9 : txt (Kp01.told [Kp01.ascii "kept"]) = Str.ofString "kept" := txt_ascii "kept"
      rw [e9] at z
      exact z
    | some d =>
      rw [hg] at e0
      have hd : d ≤ s.day := (g.size.recs i r er).2.1 d hg
      refine if_false_of rfl ?_
      have hd9 := dec_short (n := d) (by omega)
      have hn9 := num_len (n := d) (by omega)
      refine ⟨_, rfl, fq (fd_Record_gone_on T orr) ?_⟩
      rw [hg]
      refine ⟨_, rfl, log_small (by omega), _, _, rfl, rfl, line_of (by have : (Str.ofString "gone ").length = 5 := by decide +kernel
                                                                        omega), ?_⟩
      have z := rest [Kp01.ascii "gone", Kp01.decimal d] (by
        show (Kp01.ascii "gone" ++ 32 :: Kp01.decimal d).length ≤ 30
        rw [List.length_append, List.length_cons]
        have : (Kp01.ascii "gone").length = 4 := by decide
        omega) e0
      have e9 : txt (Kp01.told [Kp01.ascii "gone", Kp01.decimal d]) = Str.ofString "gone " ++ Str.ofString (toString ((d : Nat) : Int)) := by
        rw [str_num]
        apply TL.ext_tl
        rw [TL.tl_append, TL.tl_ofString]
        rfl
      rw [e9] at z
      exact z
def askRow (j : Nat) (k : Kp01.Copy) : Option (List Bytes) := match k.st with
  | .asked d => some [Kp01.decimal j, k.store, Kp01.decimal d]
  | _ => none
theorem filterMap_snoc {α β : Type} {f : α → Option β} {l : List α} {j : Nat} {x : α} (h : l[j]? = some x) : (l.take (j + 1)).filterMap f = (l.take j).filterMap f ++ (f x).toList := by
  rw [take_snoc h, List.filterMap_append]
  cases e : f x <;> simp [e]
theorem filterMap_le {α β : Type} {f : α → Option β} {l : List α} : (l.filterMap f).length ≤ l.length := List.length_filterMap_le f l
theorem pure_tell_asks (T : TopTxt K w mg c) : ∀ a b H Q, pr_tell_asks c a b H Q → t_tell_asks K c (D0 Q) (start ["house", "things", "rows", "record", "kept"] [a, b]) H := by
  rintro _ _ H Q ⟨F, s, L, a, vals, cmd, rfl, rfl, R, g, fa, ⟨rfl, rfl⟩, q⟩
  have e0 : Kp01.does s .asks = (s, Kp01.listed (s.records.zipIdx.flatMap fun r => r.1.copies.filterMap (askRow r.2))) := rfl
  have hday := g.size.day
  have hrec := g.size.records
  refine ⟨by show 0 ≤ sizeLine; exact Nat.zero_le _, fun p np => ?_⟩
  obtain ⟨RW, hRW⟩ : ∃ f : Nat → List (List Bytes), f = fun j => (s.records.zipIdx.take j).flatMap fun r => r.1.copies.filterMap (askRow r.2) := ⟨_, rfl⟩
  have rlen : ∀ j, (RW j).length ≤ 80 := fun j => by
    rw [hRW]
    have z := flat_le (m := 5) (l := s.records.zipIdx.take j) (f := fun r => r.1.copies.filterMap (askRow r.2)) (fun x hx => by
      obtain ⟨jj, hjj, ejj⟩ := List.mem_iff_getElem.mp (List.mem_of_mem_take hx)
      have e2 : s.records.zipIdx[jj]? = some x := by rw [List.getElem?_eq_getElem hjj, ejj]
      rw [List.getElem?_zipIdx] at e2
      cases e3 : s.records[jj]? with
      | none => rw [e3] at e2; cases e2
      | some r =>
        rw [e3] at e2
        cases e2
        exact Nat.le_trans filterMap_le (copies_len g e3))
    have y : (s.records.zipIdx.take j).length ≤ 16 := by rw [List.length_take, List.length_zipIdx]; omega
    have := Nat.mul_le_mul_right 5 y
    show (List.flatMap _ _).length ≤ 80
    omega
  have rshort : ∀ j, ∀ x ∈ (RW j).map Kp01.told, x.length ≤ 200 := fun j x hx => by
    rw [hRW] at hx
    obtain ⟨y, hy, rfl⟩ := List.mem_map.mp hx
    obtain ⟨rj, h1, h2⟩ := List.mem_flatMap.mp hy
    obtain ⟨jj, hjj, ejj⟩ := List.mem_iff_getElem.mp (List.mem_of_mem_take h1)
    have e2 : s.records.zipIdx[jj]? = some rj := by rw [List.getElem?_eq_getElem hjj, ejj]
    rw [List.getElem?_zipIdx] at e2
    cases e3 : s.records[jj]? with
    | none => rw [e3] at e2; cases e2
    | some r =>
      rw [e3] at e2
      cases e2
      obtain ⟨k, hk, ek⟩ := List.mem_filterMap.mp h2
      have h8 := store_len g e3 hk
      have hjj2 := (List.getElem?_eq_some_iff.mp e3).1
      unfold askRow at ek
      cases hs : k.st with
      | asked d =>
        rw [hs] at ek
        cases ek
        have hd : d ≤ s.day + 400 := (g.size.recs jj r e3).2.2 k hk d (by rw [hs]; rfl)
        have z1 := dec_short (n := 0 + jj) (by omega)
        have z2 := dec_short (n := d) (by omega)
        show (Kp01.decimal (0 + jj) ++ 32 :: (k.store ++ 32 :: Kp01.decimal d)).length ≤ 200
        rw [List.length_append, List.length_cons, List.length_append, List.length_cons]
        omega
      | there => rw [hs] at ek; cases ek
      | going d => rw [hs] at ek; cases ek
      | gone d => rw [hs] at ek; cases ek
  have Rp : Rep c [] (upd F p (.lst (strsV ((RW 0).map Kp01.told)))) s L (upd H p (.lst [])) := by rw [hRW]; exact R.new np
  refine ⟨_, rfl, fq (fd_House_records T (Rp.house (by simp))) ⟨_, rfl, ⟨_, SqL.of (Rp.records (by simp))⟩, for_list (K := K) (xs := (List.range s.records.length).map fun i => V.ref (L (.record i)))
    (fun j σ H' => Rep c [] (upd F p (.lst (strsV ((RW j).map Kp01.told)))) s L H' ∧ ∃ v1 v2, σ = [some (.ref (L .house)), some (.ref a), some (.ref p), v1, v2])
    ⟨Rp, none, none, rfl⟩ (fun j σ H' _ h => SqL.of (h.1.records (by simp))) ?_ ?_⟩⟩
  · rintro j x σ H' hx ⟨R1, v1, v2, rfl⟩
    obtain ⟨hj, rfl⟩ := range_at hx
    have er : s.records[j]? = some s.records[j] := List.getElem?_eq_getElem hj
    generalize s.records[j] = r at er
    have R1' : Rep c [] (upd F p (.lst (strsV ((RW j ++ (r.copies.take 0).filterMap (askRow j)).map Kp01.told)))) s L H' := by
      simpa using R1
    have hc := R1.copies er (by simp)
    have nxt : RW (j + 1) = RW j ++ r.copies.filterMap (askRow j) := by rw [hRW]; exact flat_snoc (zip_at er)
    refine ⟨_, rfl, fq (fd_Record_copies T (R1.record er (by simp))) ⟨_, rfl, ⟨_, SqL.of hc⟩, for_list (K := K) (xs := r.copies.map fun k => V.ref (L (.copy j k.store)))
      (fun i σ H' => Rep c [] (upd F p (.lst (strsV ((RW j ++ (r.copies.take i).filterMap (askRow j)).map Kp01.told)))) s L H' ∧ ∃ v2, σ = [some (.ref (L .house)), some (.ref a), some (.ref p), some (.ref (L (.record j))), v2])
      ⟨R1', v2, rfl⟩ (fun i σ H' _ h => SqL.of (h.1.copies er (by simp))) ?_ ?_⟩⟩
    · rintro i y σ H2 hy ⟨R2, v2, rfl⟩
      obtain ⟨k, hk, rfl⟩ := map_at hy
      have hm : k ∈ r.copies := List.mem_of_getElem? hk
      have ek : copyOf r k.store = some k := find_mem (nm := fun (x : Kp01.Copy) => x.store) (g.ok.ncopies j r er) hm
      have ok := R2.copy er ek (by simp)
      have step := filterMap_snoc (f := askRow j) hk
      refine ⟨_, rfl, fq (fd_Copy_state T ok) ⟨rfl, _, rfl, ?_⟩⟩
      have skip : askRow j k = none → Rep c [] (upd F p (.lst (strsV ((RW j ++ (r.copies.take (i + 1)).filterMap (askRow j)).map Kp01.told)))) s L H2 := fun e => by
        rw [step, e]
        simpa using R2
      cases hs : k.st with
      | asked d =>
        have ea : askRow j k = some [Kp01.decimal j, k.store, Kp01.decimal d] := by unfold askRow; rw [hs]
        have hd : d ≤ s.day + 400 := (g.size.recs j r er).2.2 k hm d (by rw [hs]; rfl)
        have h8 := store_len g er hm
        refine if_true_of (show decide (V.str ("asked" : Str) = V.str ("asked" : Str)) = true by decide +kernel) ?_
        have hp2 := R2.keep _ _ (show upd F p _ p = _ from upd_same)
        have orr := R2.record er (by simp)
        refine ⟨_, rfl, ty_list hp2, ⟨_, rfl⟩, _, rfl, fq (fd_Record_number T orr) ⟨_, rfl, log_small (by omega), _, rfl, fq (fd_Copy_store T ok) (fq (R2.nameOf T (by simp) g.ok er hm) ⟨_, rfl, fq (fd_Copy_day T ok) ?_⟩)⟩⟩
        rw [hs]
        refine ⟨_, rfl, log_small (by omega), ?_⟩
        refine ⟨by show 3 ≤ sizeLine; decide, fun t nt => ?_⟩
        have z1 := dec_short (n := j) (by omega)
        have z2 := dec_short (n := d) (by omega)
        refine ⟨_, t, [Kp01.decimal j, k.store, Kp01.decimal d].map txt, rfl, rfl, .inl (SqL.of (by rw [upd_same, str_num, str_num]; rfl)), ?_, ?_⟩
        · have y := txt_sum (m := 20) (l := [Kp01.decimal j, k.store, Kp01.decimal d]) (fun x hx => by
            rcases List.mem_cons.mp hx with e | hx
            · rw [e]; omega
            · rcases List.mem_cons.mp hx with e | hx
              · rw [e]; omega
              · rw [List.mem_singleton.mp hx]; omega)
          have y1 : (Str.ofString " ").length = 1 := by decide +kernel
          rw [y1]
          simp only [List.length_cons, List.length_nil, List.length_map] at y ⊢
          omega
        · rw [join_txt sp_tl]
          have R3 := R2.new (o := .lst [V.str (Str.ofString (toString ((j : Nat) : Int))), V.str (txt k.store), V.str (Str.ofString (toString ((d : Nat) : Int)))]) nt
          have hp3 := R3.keep _ _ (show upd (upd F p _) t _ p = _ from by rw [upd_ne (ne_of_none hp2 nt)]; exact upd_same)
          refine ⟨_, _, _, rfl, rfl, hp3, ?_, ?_⟩
          · rw [strsV_len, List.length_map, List.length_append]
            have := rlen j
            have y := filterMap_le (f := askRow j) (l := r.copies.take i)
            rw [List.length_take] at y
            have := copies_len g er
            exact len_lt (m := 100) (by omega) (by decide)
          · refine ⟨?_, _, rfl⟩
            have R4 := R3.less (F' := upd F p (.lst (strsV ((RW j ++ (r.copies.take i).filterMap (askRow j)).map Kp01.told)))) (fun b u hb => by
              rw [upd_ne (fun z => by rw [z, R2.Fnone nt] at hb; cases hb)]; exact hb)
            have R5 := R4.apart (p := p) (o := .lst (strsV ((RW j ++ (r.copies.take i).filterMap (askRow j)).map Kp01.told) ++ [.str (txt (Kp01.joined 32 [Kp01.decimal j, k.store, Kp01.decimal d]))])) (show upd F p _ p = _ from upd_same)
            rw [upd_upd] at R5
            rw [step, ea, ← List.append_assoc, List.map_append]
            show Rep c [] (upd F p (.lst (strsV (_ ++ [Kp01.told [Kp01.decimal j, k.store, Kp01.decimal d]])))) s L _
            rw [strsV_snoc]
            exact R5
      | there => exact if_false_of (by decide +kernel) ⟨skip (by unfold askRow; rw [hs]), _, rfl⟩
      | going d => exact if_false_of (show decide (V.str ("going" : Str) = V.str ("asked" : Str)) = false by decide +kernel) ⟨skip (by unfold askRow; rw [hs]), _, rfl⟩
      | gone d => exact if_false_of (show decide (V.str ("gone" : Str) = V.str ("asked" : Str)) = false by decide +kernel) ⟨skip (by unfold askRow; rw [hs]), _, rfl⟩
    · rintro σ H2 ⟨R2, v2, rfl⟩
      rw [List.length_map, List.take_length, ← nxt] at R2
      exact ⟨R2, _, _, rfl⟩
  · rintro σ H' ⟨R1, v1, v2, rfl⟩
    rw [List.length_map, List.length_range] at R1
    have hp := R1.keep _ _ (show upd F p _ p = _ from upd_same)
    refine ⟨_, rfl, p, _, rfl, hp, by rw [List.length_map]; have := rlen s.records.length; omega, rshort _, fun H2 sm => ?_⟩
    have eall : RW s.records.length = s.records.zipIdx.flatMap fun r => r.1.copies.filterMap (askRow r.2) := by
      rw [hRW]
      have : s.records.zipIdx.take s.records.length = s.records.zipIdx := List.take_of_length_le (by rw [List.length_zipIdx]; omega)
      show (s.records.zipIdx.take s.records.length).flatMap _ = _
      rw [this]
    rw [listed_rows, eall]
    exact fin q e0 rfl ((R1.same sm).less (F_less (R.Fnone np))) rfl
end
end Kr

set_option Elab.async false
set_option linter.all false
set_option maxRecDepth 100000
set_option maxHeartbeats 2000000
namespace Kr
open PySem PySem.Spec PyProof.Rows L2
section
variable {K : PySem.W.Frag} {w : World} {mg : Str → Option Value} {c : Cs}
def dueRow (x : (Kp01.Record × Kp01.Record) × Nat) : Option (List Bytes) := match x.1.1.letGo, x.1.2.letGo with
  | none, some d => some [Kp01.decimal x.2, Kp01.decimal d]
  | _, _ => none
theorem num_sp_num (j e : Nat) : Str.empty ++ Str.ofString (toString ((j : Nat) : Int)) ++ Str.ofString " " ++ Str.ofString (toString ((e : Nat) : Int)) = txt (Kp01.told [Kp01.decimal j, Kp01.decimal e]) := by
  rw [str_num, str_num]
  apply TL.ext_tl
  rw [TL.tl_append, TL.tl_append, TL.tl_append, TL.tl_ofString]
  show [] ++ Kp01.decimal j ++ [32] ++ Kp01.decimal e = Kp01.decimal j ++ 32 :: Kp01.decimal e
  simp
theorem pure_tell_due (T : TopTxt K w mg c) : ∀ a b H Q, pr_tell_due c a b H Q → t_tell_due K c (D0 Q) (start ["house", "things", "last", "rows", "number", "day"] [a, b]) H := by
  rintro _ _ H Q ⟨F, s, L, a, vals, cmd, rfl, rfl, R, g, fa, ⟨n, rfl, rfl, hn⟩, q⟩
  have ha := R.keep _ _ fa
  have hday := g.size.day
  have hrec := g.size.records
  have e0 : Kp01.does s (.due n) = (s, Kp01.listed ((s.records.zip (Kp01.days n s).records).zipIdx.filterMap dueRow)) := rfl
  have LT := later_days g.ok.below g.kept g.ok.owned n hn
  refine ⟨_, rfl, fq (fd_House_today T (R.house (by simp))) ⟨_, rfl, thing ha rfl ⟨_, _, rfl, rfl, ?_⟩⟩⟩
  refine ⟨by show 0 ≤ sizeLine; exact Nat.zero_le _, fun p np => ?_⟩
  obtain ⟨Z, hZ⟩ : ∃ Z, Z = (s.records.zip (Kp01.days n s).records).zipIdx := ⟨_, rfl⟩
  have zlen : Z.length = s.records.length := by rw [hZ, List.length_zipIdx, List.length_zip, LT.len]; omega
  have zat : ∀ (j : Nat) (r : Kp01.Record), s.records[j]? = some r → ∃ t, Z[j]? = some ((r, t), j) ∧ t.letGo = goneBy s (s.day + 401) (s.day + n) j r := fun j r er => by
    obtain ⟨t, et, _, eg⟩ := LT.at_ j r er
    refine ⟨t, ?_, eg⟩
    rw [hZ, List.getElem?_zipIdx, (List.getElem?_zip_eq_some (z := (r, t))).mpr ⟨er, et⟩]
    simp
  have R0 := R.new (o := .lst []) np
  refine ⟨_, rfl, _, s, L, rfl, R0, g.ok, hrec, fun H1 m sm nm hm => ?_⟩
  obtain ⟨elen, eat⟩ := ends_at g.ok.below (s.day + 401)
  have Rp : Rep c [] (upd F p (.lst (strsV (((Z.take 0).filterMap dueRow).map Kp01.told)))) s L H1 := R0.same sm
  have pm : p ≠ m := ne_of_none (show upd H p (.lst []) p = _ from upd_same) nm
  have mdead : ∀ t, (cell c L s t).isSome = true → L t ≠ m := fun t ht => R0.free nm t ht
  have Rm : Rep c [] (upd (upd F p (.lst (strsV (((Z.take 0).filterMap dueRow).map Kp01.told)))) m (.lst ((ends s (s.day + 401)).map (endV (s.day + 401))))) s L H1 := Rp.more hm mdead
  refine ⟨_, _, rfl, SqL.of hm, ?_⟩
  have elen2 : ((ends s (s.day + 401)).map (endV (s.day + 401))).length = s.records.length := by rw [List.length_map, elen]
  refine for_it (walk_enum (xs := (ends s (s.day + 401)).map (endV (s.day + 401)))) (fun j σ H' => Rep c [] (upd (upd F p (.lst (strsV (((Z.take j).filterMap dueRow).map Kp01.told)))) m (.lst ((ends s (s.day + 401)).map (endV (s.day + 401))))) s L H' ∧ ∃ v1 v2, σ = [some (.ref (L .house)), some (.ref a), some (.int ((s.day : Int) + (n : Int))), some (.ref p), v1, v2])
    ⟨Rm, none, none, rfl⟩ (fun j σ H' _ h => SqL.of (h.1.keep _ _ upd_same)) ?_ ?_
  · rintro j x σ H2 H3 hj ⟨R2, v1, v2, rfl⟩ ⟨t, x1, x2, rfl, nt, rfl, hx1, hx2⟩
    rw [elen2] at hj
    cases hx1
    have er : s.records[j]? = some s.records[j] := List.getElem?_eq_getElem hj
    generalize s.records[j] = r at er
    have eA : (ends s (s.day + 401))[j]? = some (endAt s (s.day + 401) j) := by
      unfold endAt
      rw [List.getD_eq_getElem?_getD, List.getElem?_eq_getElem (by rw [elen]; exact hj)]; rfl
    replace hx2 : ((ends s (s.day + 401)).map (endV (s.day + 401)))[j]? = some x2 := hx2
    rw [List.getElem?_map, eA] at hx2
    have hx2 : endV (s.day + 401) (endAt s (s.day + 401) j) = x2 := Option.some.inj hx2
    obtain ⟨tt, ez, et⟩ := zat j r er
    have step := filterMap_snoc (f := dueRow) ez
    have R3 := (R2.new (o := .tup [.int (j : Nat), x2]) nt)
    have R4 : Rep c [] (upd (upd F p (.lst (strsV (((Z.take j).filterMap dueRow).map Kp01.told)))) m (.lst ((ends s (s.day + 401)).map (endV (s.day + 401))))) s L (upd H2 t (.tup [.int (j : Nat), x2])) := R2.same (same_new nt)
    refine ⟨t, _, rfl, .inl (.inl upd_same), rfl, _, _, rfl, _, _, rfl, rfl, ?_⟩
    have hl4 := R4.records (by simp)
    refine ⟨_, rfl, fq (fd_House_records T (R4.house (by simp))) ⟨_, rfl, at_records hl4 hj ?_⟩⟩
    refine ⟨_, s, L, j, r, rfl, R4.sub (by simp), er, _, rfl, ?_⟩
    have skip : dueRow ((r, tt), j) = none → Rep c [] (upd (upd F p (.lst (strsV (((Z.take (j + 1)).filterMap dueRow).map Kp01.told)))) m (.lst ((ends s (s.day + 401)).map (endV (s.day + 401))))) s L (upd H2 t (.tup [.int (j : Nat), x2])) := fun e => by
      rw [step, e]
      simpa using R4
    cases hg : r.letGo with
    | some d =>
      refine if_false_of rfl (if_false_of rfl ⟨skip ?_, _, _, rfl⟩)
      unfold dueRow
      rw [hg]
    | none =>
      have et2 : tt.letGo = if endAt s (s.day + 401) j ≤ s.day + n then some (endAt s (s.day + 401) j) else none := by
        rw [et]; unfold goneBy; rw [hg]
      refine if_true_of rfl ?_
      refine ⟨_, rfl, _, rfl, ?_⟩
      rw [← hx2]
      unfold endV
      by_cases hz : endAt s (s.day + 401) j = s.day + 401
      · have e9 : (if endAt s (s.day + 401) j = s.day + 401 then V.non else V.int (endAt s (s.day + 401) j : Nat)) = .non := if_pos hz
        refine if_false_of (by rw [decide_eq_true e9]; rfl) (if_false_of rfl ⟨?_, _, _, rfl⟩)
        have z := skip (by unfold dueRow; rw [hg, et2, if_neg (by omega)])
        rw [← hx2] at z
        exact z
      · have e9 : (if endAt s (s.day + 401) j = s.day + 401 then V.non else V.int (endAt s (s.day + 401) j : Nat)) = .int (endAt s (s.day + 401) j : Nat) := if_neg hz
        have x2e : x2 = .int (endAt s (s.day + 401) j : Nat) := by rw [← hx2]; exact e9
        refine if_true_of (by rw [decide_eq_false (by rw [e9]; simp)]; rfl) ?_
        refine ⟨_, rfl, _, rfl, _, _, e9, rfl, _, rfl, ?_⟩
        have ed : decide (((endAt s (s.day + 401) j : Nat) : Int) ≤ (s.day : Int) + (n : Int)) = decide (endAt s (s.day + 401) j ≤ s.day + n) := by apply decide_eq_decide.mpr; omega
        show if decide (((endAt s (s.day + 401) j : Nat) : Int) ≤ (s.day : Int) + (n : Int)) = true then _ else _
        rw [ed]
        by_cases hle : endAt s (s.day + 401) j ≤ s.day + n
        · refine if_true_of (decide_eq_true hle) ?_
          have ea : dueRow ((r, tt), j) = some [Kp01.decimal j, Kp01.decimal (endAt s (s.day + 401) j)] := by unfold dueRow; rw [hg, et2, if_pos hle]
          have hp4 := R4.keep _ _ (show upd (upd F p _) m _ p = _ from by rw [upd_ne pm]; exact upd_same)
          have n1 := num_len (n := j) (by omega)
          have n2 := num_len (n := endAt s (s.day + 401) j) (by omega)
          have l1 : (Str.ofString " ").length = 1 := by decide +kernel
          have l0 : Str.empty.length = 0 := by decide +kernel
          have bd : ∀ m : Nat, m ≤ 1000 → m ≤ sizeLine := fun m h => Nat.le_trans h (by decide)
          refine ⟨_, rfl, ?_, _, rfl, .inr ⟨_, rfl, log_small (by omega), _, rfl, bd _ (by rw [len_app]; omega), _, rfl, bd _ (by rw [len_app, len_app]; omega), _, rfl, .inr ⟨_, e9, log_small (by omega), _, rfl, bd _ (by rw [len_app, len_app, len_app]; omega), ?_⟩⟩⟩
          · rw [← hx2] at hp4
            exact ty_list hp4
          · rw [num_sp_num]
            rw [← hx2] at hp4
            refine ⟨_, _, _, rfl, rfl, hp4, ?_, ?_⟩
            · rw [strsV_len, List.length_map]
              have y := filterMap_le (f := dueRow) (l := Z.take j)
              rw [List.length_take, zlen] at y
              exact len_lt (m := 16) (by omega) (by decide)
            · refine ⟨?_, _, _, rfl⟩
              have R5 := R4.apart (p := p) (o := .lst (strsV (((Z.take j).filterMap dueRow).map Kp01.told) ++ [.str (txt (Kp01.told [Kp01.decimal j, Kp01.decimal (endAt s (s.day + 401) j)]))])) (show upd (upd F p _) m _ p = _ from by rw [upd_ne pm]; exact upd_same)
              rw [step, ea]
              show Rep c [] (upd (upd F p (.lst (strsV (((Z.take j).filterMap dueRow ++ [[Kp01.decimal j, Kp01.decimal (endAt s (s.day + 401) j)]]).map Kp01.told)))) m _) s L _
              rw [List.map_append, List.map_singleton, strsV_snoc]
              rw [← hx2] at R5
              refine R5.less fun b u hb => ?_
              by_cases z : b = p
              · subst z
                rw [upd_ne pm, upd_same] at hb
                rw [upd_same]; exact hb
              · rw [upd_ne z]
                by_cases z2 : b = m
                · subst z2; rw [upd_same] at hb ⊢; exact hb
                · rw [upd_ne z2] at hb ⊢
                  rw [upd_ne z] at hb ⊢; exact hb
        · refine if_false_of (decide_eq_false hle) ⟨?_, _, _, rfl⟩
          have z := skip (by unfold dueRow; rw [hg, et2, if_neg hle])
          rw [← hx2] at z
          exact z
  · rintro σ H2 ⟨R2, v1, v2, rfl⟩
    rw [elen2, ← zlen, List.take_length] at R2
    have hp := R2.keep _ _ (show upd (upd F p _) m _ p = _ from by rw [upd_ne pm]; exact upd_same)
    refine ⟨_, rfl, p, _, rfl, hp, ?_, ?_, fun H3 sm3 => ?_⟩
    · rw [List.length_map]
      have y := filterMap_le (f := dueRow) (l := Z)
      omega
    · intro x hx
      obtain ⟨y, hy, rfl⟩ := List.mem_map.mp hx
      obtain ⟨z, hz, ez⟩ := List.mem_filterMap.mp hy
      obtain ⟨j, hj, ej⟩ := List.mem_iff_getElem.mp hz
      have hj2 : j < s.records.length := by omega
      obtain ⟨tt, ez2, et⟩ := zat j _ (List.getElem?_eq_getElem hj2)
      rw [List.getElem?_eq_getElem hj, ej] at ez2
      cases ez2
      unfold dueRow at ez
      cases hg : (s.records[j]).letGo with
      | some d => rw [hg] at ez; cases ez
      | none =>
        have et2 : tt.letGo = if endAt s (s.day + 401) j ≤ s.day + n then some (endAt s (s.day + 401) j) else none := by
          rw [et]; unfold goneBy; rw [hg]
        rw [hg, et2] at ez
        by_cases hle : endAt s (s.day + 401) j ≤ s.day + n
        · rw [if_pos hle] at ez
          cases ez
          have z1 := dec_short (n := j) (by omega)
          have z2 := dec_short (n := endAt s (s.day + 401) j) (by omega)
          show (Kp01.decimal j ++ 32 :: Kp01.decimal _).length ≤ 200
          rw [List.length_append, List.length_cons]
          omega
        · rw [if_neg hle] at ez
          cases ez
    · rw [listed_rows, hZ]
      refine fin q e0 rfl ((R2.same sm3).less ?_) rfl
      intro b u hb
      have z1 : b ≠ m := fun z => by
        have := R.keep _ _ hb
        have h2 := (Same.free (same_new np) nm)
        rw [z, h2] at this; cases this
      rw [upd_ne z1]
      exact F_less (R.Fnone np) b u hb
def tellRows (j : Nat) (r : Kp01.Record) (l : List Kp01.Copy) : List (List Bytes) := (l.filter fun k => !Kp01.isGone k.st).map fun k => [Kp01.decimal j, r.kind] ++ Kp01.copyLine k
theorem told_tell (j : Nat) (kind : Bytes) (k : Kp01.Copy) : Kp01.told ([Kp01.decimal j, kind] ++ Kp01.copyLine k) = Kp01.decimal j ++ Kp01.ascii " " ++ kind ++ Kp01.ascii " " ++ Kp01.told (Kp01.copyLine k) := by
  show Kp01.decimal j ++ 32 :: (kind ++ 32 :: Kp01.joined 32 (Kp01.copyLine k)) = Kp01.decimal j ++ [32] ++ kind ++ [32] ++ Kp01.joined 32 (Kp01.copyLine k)
  simp
theorem filter_flat {α β : Type} {p : α → Bool} {f : α → List β} : ∀ l : List α, (l.filter p).flatMap f = l.flatMap fun x => if p x = true then f x else []
  | [] => rfl
  | a :: r => by
    rw [List.flatMap_cons]
    cases h : p a with
    | true => rw [List.filter_cons_of_pos h, List.flatMap_cons, filter_flat r]; simp
    | false => rw [List.filter_cons_of_neg (by rw [h]; simp), filter_flat r]; simp
theorem pure_tell_person (T : TopTxt K w mg c) : ∀ a b H Q, pr_tell_person c a b H Q → t_tell_person K c (D0 Q) (start ["house", "things", "name", "rows", "record", "start", "kept"] [a, b]) H := by
  rintro _ _ H Q ⟨F, s, L, a, vals, cmd, rfl, rfl, R, g, fa, ⟨n, rfl, rfl, hn⟩, q⟩
  have ha := R.keep _ _ fa
  have hd := R.people (by simp)
  have hday := g.size.day
  have hrec := g.size.records
  have e0 : Kp01.does s (.tell n) = Kp01.onPerson s n fun _ => (s, Kp01.listed ((s.records.zipIdx.filter fun r => r.1.person == n).flatMap fun r => tellRows r.2 r.1 r.1.copies)) := rfl
  unfold Kp01.onPerson at e0
  refine ⟨_, rfl, thing ha rfl ?_⟩
  refine ⟨_, rfl, _, rfl, fq (fd_House_people T (R.house (by simp))) ⟨_, _, rfl, slot_ok hd, _, rfl, ?_⟩⟩
  cases hp : Kp01.personOf s n with
  | none =>
    rw [hp] at e0
    exact if_true_of rfl (fin q e0 (no_txt rfl) R rfl)
  | some p0 =>
    rw [hp] at e0
    replace e0 : Kp01.does s (.tell n) = (s, Kp01.listed ((s.records.zipIdx.filter fun r => r.1.person == n).flatMap fun r => tellRows r.2 r.1 r.1.copies)) := e0
    rw [filter_flat] at e0
    refine if_false_of rfl ?_
    refine ⟨by show 0 ≤ sizeLine; exact Nat.zero_le _, fun p np => ?_⟩
    obtain ⟨RW, hRW⟩ : ∃ f : Nat → List (List Bytes), f = fun j => (s.records.zipIdx.take j).flatMap fun r => if (r.1.person == n) = true then tellRows r.2 r.1 r.1.copies else [] := ⟨_, rfl⟩
    have one : ∀ j r, s.records[j]? = some r → (tellRows j r r.copies).length ≤ 5 := fun j r er => by
      unfold tellRows
      rw [List.length_map]
      exact Nat.le_trans (List.length_filter_le _ _) (copies_len g er)
    have rlen : ∀ j, (RW j).length ≤ 80 := fun j => by
      rw [hRW]
      have z := flat_le (m := 5) (l := s.records.zipIdx.take j) (f := fun r => if (r.1.person == n) = true then tellRows r.2 r.1 r.1.copies else []) (fun x hx => by
        obtain ⟨jj, hjj, ejj⟩ := List.mem_iff_getElem.mp (List.mem_of_mem_take hx)
        have e2 : s.records.zipIdx[jj]? = some x := by rw [List.getElem?_eq_getElem hjj, ejj]
        rw [List.getElem?_zipIdx] at e2
        cases e3 : s.records[jj]? with
        | none => rw [e3] at e2; cases e2
        | some r =>
          rw [e3] at e2
          cases e2
          show (if (r.person == n) = true then tellRows (0 + jj) r r.copies else []).length ≤ 5
          split
          · have := one jj r e3
            rw [Nat.zero_add]; exact this
          · exact Nat.zero_le _)
      have y : (s.records.zipIdx.take j).length ≤ 16 := by rw [List.length_take, List.length_zipIdx]; omega
      have := Nat.mul_le_mul_right 5 y
      show (List.flatMap _ _).length ≤ 80
      omega
    have rshort : ∀ j, ∀ x ∈ (RW j).map Kp01.told, x.length ≤ 200 := fun j x hx => by
      rw [hRW] at hx
      obtain ⟨y, hy, rfl⟩ := List.mem_map.mp hx
      obtain ⟨rj, h1, h2⟩ := List.mem_flatMap.mp hy
      obtain ⟨jj, hjj, ejj⟩ := List.mem_iff_getElem.mp (List.mem_of_mem_take h1)
      have e2 : s.records.zipIdx[jj]? = some rj := by rw [List.getElem?_eq_getElem hjj, ejj]
      rw [List.getElem?_zipIdx] at e2
      cases e3 : s.records[jj]? with
      | none => rw [e3] at e2; cases e2
      | some r =>
        rw [e3] at e2
        cases e2
        have h2 : y ∈ (if (r.person == n) = true then tellRows (0 + jj) r r.copies else []) := h2
        split at h2
        · obtain ⟨k, hk, rfl⟩ := List.mem_map.mp h2
          have hkm := (List.mem_filter.mp hk).1
          rw [told_tell]
          have z1 := dec_short (n := 0 + jj) (by have := (List.getElem?_eq_some_iff.mp e3).1; omega)
          have z2 := copyLine_len g e3 hkm
          have z3 := (g.size.recs jj r e3).1
          have z4 : (Kp01.ascii " ").length = 1 := by decide
          simp only [List.length_append]
          omega
        · cases h2
    have Rp : Rep c [] (upd F p (.lst (strsV ((RW 0).map Kp01.told)))) s L (upd H p (.lst [])) := by rw [hRW]; exact R.new np
    refine ⟨_, rfl, fq (fd_House_records T (Rp.house (by simp))) ⟨_, rfl, ⟨_, SqL.of (Rp.records (by simp))⟩, for_list (K := K) (xs := (List.range s.records.length).map fun i => V.ref (L (.record i)))
      (fun j σ H' => Rep c [] (upd F p (.lst (strsV ((RW j).map Kp01.told)))) s L H' ∧ ∃ v1 v2, σ = [some (.ref (L .house)), some (.ref a), some (.str (txt n)), some (.ref p), v1, v2, none])
      ⟨Rp, none, none, rfl⟩ (fun j σ H' _ h => SqL.of (h.1.records (by simp))) ?_ ?_⟩⟩
    · rintro j x σ H' hx ⟨R1, v1, v2, rfl⟩
      obtain ⟨hj, rfl⟩ := range_at hx
      have er : s.records[j]? = some s.records[j] := List.getElem?_eq_getElem hj
      generalize s.records[j] = r at er
      have nxt : RW (j + 1) = RW j ++ (if (r.person == n) = true then tellRows j r r.copies else []) := by rw [hRW]; exact flat_snoc (zip_at er)
      obtain ⟨p1, ep1⟩ := Option.isSome_iff_exists.mp (g.ok.owned j r er)
      have np1 := personOf_name ep1
      have orr := R1.record er (by simp)
      refine ⟨_, rfl, fq (fd_Record_person T orr) (fq (fd_Person_name T (R1.person ep1 (by simp))) ⟨_, rfl, rfl, _, rfl, ?_⟩)⟩
      rw [dec_txt, np1]
      cases hb : r.person == n with
      | false =>
        rw [hb, if_neg (by simp), List.append_nil] at nxt
        refine if_false_of rfl ⟨?_, _, _, rfl⟩
        rw [nxt]; exact R1
      | true =>
        rw [hb, if_pos rfl] at nxt
        refine if_true_of rfl ?_
        have n1 := num_len (n := j) (by omega)
        have nk := (g.size.recs j r er).1
        have l1 : (Str.ofString " ").length = 1 := by decide +kernel
        have bd : ∀ x y : Nat, x + y ≤ 1000 → x + y ≤ sizeLine := fun x y h => Nat.le_trans h (by decide)
        refine ⟨_, rfl, fq (fd_Record_number T orr) ⟨_, rfl, log_small (by omega), _, _, rfl, rfl, bd _ _ (by omega), _, rfl, fq (fd_Record_kind T orr) ⟨_, _, rfl, rfl, bd _ _ (by rw [len_app, txt_len]; omega), _, _, rfl, rfl, bd _ _ (by rw [len_app, len_app, txt_len]; omega), ?_⟩⟩⟩
        have hp1 := R1.keep _ _ (show upd F p _ p = _ from upd_same)
        refine ⟨_, rfl, ty_list hp1, ?_⟩
        have hc := R1.copies er (by simp)
        refine ⟨_, rfl, fq (fd_Record_copies T orr) ⟨_, rfl, ⟨_, SqL.of hc⟩, fun D nD => ?_⟩⟩
        have stx : Str.ofString (toString ((j : Nat) : Int)) ++ Str.ofString " " ++ txt r.kind ++ Str.ofString " " = txt (Kp01.decimal j ++ Kp01.ascii " " ++ r.kind ++ Kp01.ascii " ") := by
          rw [str_num, ← txt_ascii " ", txt_app, txt_app, txt_app]
        refine lc_list (K := K) (xs := r.copies.map fun k => V.ref (L (.copy j k.store))) (fun i H1 => H1 = upd H' D (.lst (strsV ((tellRows j r (r.copies.take i)).map Kp01.told)))) rfl (fun i H1 _ h => by rw [h]; exact SqL.of (by rw [upd_ne (ne_of_none hc nD)]; exact hc)) ?_ ?_
        · rintro i y H1 hy rfl
          obtain ⟨k, hk, rfl⟩ := map_at hy
          have hm : k ∈ r.copies := List.mem_of_getElem? hk
          have ek : copyOf r k.store = some k := find_mem (nm := fun (x : Kp01.Copy) => x.store) (g.ok.ncopies j r er) hm
          have R2 := R1.new (o := .lst (strsV ((tellRows j r (r.copies.take i)).map Kp01.told))) nD
          have ok := R2.copy er ek (by simp)
          have tl : (tellRows j r (r.copies.take i)).length ≤ 5 := by
            unfold tellRows
            rw [List.length_map]
            have y := List.length_filter_le (fun k : Kp01.Copy => !Kp01.isGone k.st) (r.copies.take i)
            rw [List.length_take] at y
            have := copies_len g er
            omega
          refine ⟨rfl, _, rfl, fq (fd_Copy_state T ok) ⟨rfl, _, rfl, ?_⟩⟩
          rw [gone_text]
          have tnext : tellRows j r (r.copies.take (i + 1)) = tellRows j r (r.copies.take i) ++ (if Kp01.isGone k.st = true then [] else [[Kp01.decimal j, r.kind] ++ Kp01.copyLine k]) := by
            unfold tellRows
            rw [take_snoc hk, List.filter_append, List.map_append]
            cases hgk : Kp01.isGone k.st with
            | true => rw [List.filter_cons_of_neg (by rw [hgk]; simp)]; simp
            | false => rw [List.filter_cons_of_pos (by rw [hgk]; simp)]; simp
          cases hgk : Kp01.isGone k.st with
          | true =>
            rw [hgk, if_pos rfl, List.append_nil] at tnext
            refine if_false_of rfl ?_
            show upd _ _ _ = upd _ _ _
            rw [tnext]
          | false =>
            rw [hgk, if_neg (by simp)] at tnext
            refine if_true_of rfl ?_
            refine ⟨_, rfl, _, rfl, _, s, L, j, k.store, r, k, rfl, R2, g, er, ek, _, _, rfl, rfl, ?_, _, upd_same, ?_, ?_⟩
            · have z2 := copyLine_len g er hm
              exact bd _ _ (by rw [len_app, len_app, len_app, txt_len, txt_len]; omega)
            · rw [strsV_len, List.length_map]; exact len_lt (m := 5) tl (by decide)
            · show upd _ _ _ = upd _ _ _
              rw [upd_upd, tnext, List.map_append, List.map_singleton, strsV_snoc, stx, txt_app, told_tell]
        · rintro H1 rfl
          rw [List.length_map, List.take_length]
          have pD : p ≠ D := ne_of_none hp1 nD
          refine ⟨_, D, _, _, rfl, rfl, by rw [upd_ne pD]; exact hp1, upd_same, ?_, ?_⟩
          · rw [strsV_len, strsV_len, List.length_map, List.length_map]
            have := rlen j
            have := one j r er
            exact Nat.le_trans (show _ ≤ 100 by omega) (by decide)
          · refine ⟨?_, _, _, rfl⟩
            have R3 := (R1.same (same_new (o := .lst (strsV ((tellRows j r r.copies).map Kp01.told))) nD)).apart (p := p) (o := .lst (strsV ((RW j).map Kp01.told) ++ strsV ((tellRows j r r.copies).map Kp01.told))) (show upd F p _ p = _ from upd_same)
            rw [upd_upd] at R3
            rw [nxt, List.map_append]
            have es : strsV ((RW j).map Kp01.told ++ (tellRows j r r.copies).map Kp01.told) = strsV ((RW j).map Kp01.told) ++ strsV ((tellRows j r r.copies).map Kp01.told) := by unfold strsV; rw [List.map_append]
            rw [es]
            exact R3
    · rintro σ H' ⟨R1, v1, v2, rfl⟩
      rw [List.length_map, List.length_range] at R1
      have hp := R1.keep _ _ (show upd F p _ p = _ from upd_same)
      refine ⟨_, rfl, p, _, rfl, hp, by rw [List.length_map]; have := rlen s.records.length; omega, rshort _, fun H2 sm => ?_⟩
      have eall : RW s.records.length = s.records.zipIdx.flatMap fun r => if (r.1.person == n) = true then tellRows r.2 r.1 r.1.copies else [] := by
        rw [hRW]
        have : s.records.zipIdx.take s.records.length = s.records.zipIdx := List.take_of_length_le (by rw [List.length_zipIdx]; omega)
        show (s.records.zipIdx.take s.records.length).flatMap _ = _
        rw [this]
      rw [listed_rows, eall]
      exact fin q e0 rfl ((R1.same sm).less (F_less (R.Fnone np))) rfl
end
end Kr

set_option Elab.async false
set_option linter.all false
set_option maxRecDepth 100000
set_option maxHeartbeats 2000000
namespace Kr
open PySem PySem.Spec PyProof.Rows L2
section
variable {K : PySem.W.Frag} {w : World} {mg : Str → Option Value} {c : Cs}
theorem filter_snoc {α : Type} {p : α → Bool} {l : List α} {j : Nat} {x : α} (h : l[j]? = some x) : (l.take (j + 1)).filter p = (l.take j).filter p ++ (if p x = true then [x] else []) := by
  rw [take_snoc h, List.filter_append]
  cases e : p x with
  | true => rw [List.filter_cons_of_pos e]; simp
  | false => rw [List.filter_cons_of_neg (by rw [e]; simp)]; simp
theorem filter_take_le {α : Type} {p : α → Bool} {l : List α} {j : Nat} : ((l.take j).filter p).length ≤ l.length := by
  have y := List.length_filter_le p (l.take j)
  rw [List.length_take] at y
  omega
def holdLine (h : Kp01.Hold) : Bytes := Kp01.told [h.name, Kp01.ascii "hold"]
theorem hold_txt (h : Kp01.Hold) : txt h.name ++ Str.ofString " hold" = txt (holdLine h) := by
  rw [← txt_ascii, txt_app]
  rfl
theorem pure_tell_why (T : TopTxt K w mg c) : ∀ a b H Q, pr_tell_why c a b H Q → t_tell_why K c (D0 Q) (start ["house", "things", "refusal", "record", "rows", "ground", "hold"] [a, b]) H := by
  rintro _ _ H Q ⟨F, s, L, a, vals, cmd, rfl, rfl, R, g, fa, ⟨i, rfl, rfl, hi99⟩, q⟩
  have ha := R.keep _ _ fa
  have hl := R.records (by simp)
  have oh := R.house (by simp)
  have e0 : Kp01.does s (.why i) = Kp01.onRecord s i fun r => (s, Kp01.listed (((Kp01.given s r s.day).map fun g => g.name :: Kp01.sortText g.sort) ++ (Kp01.heldBy s r).map fun h => [h.name, Kp01.ascii "hold"])) := rfl
  refine ⟨_, rfl, _, rfl, thing ha rfl ⟨F, s, L, i, rfl, rfl, R, ?_⟩⟩
  rcases refusal_cases s i with ⟨e1, e2⟩ | ⟨r, d, e1, e2, e3⟩ | ⟨r, e1, e2, e3⟩
  · rw [e1]
    rw [onRec_none e2] at e0
    refine ⟨_, rfl, _, rfl, if_true_of rfl ⟨_, rfl, fin q e0 (no_txt rfl) R rfl⟩⟩
  · rw [e1]
    rw [onRec_gone e2 e3] at e0
    refine ⟨_, rfl, _, rfl, if_true_of rfl ⟨_, rfl, fin q e0 (no_txt rfl) R rfl⟩⟩
  · rw [e1]
    rw [onRec_there e2 e3] at e0
    have hi := (List.getElem?_eq_some_iff.mp e2).1
    obtain ⟨p, ep⟩ := Option.isSome_iff_exists.mp (g.ok.owned i r e2)
    have eg : Kp01.given s r s.day = s.grounds.filter (Kp01.gives s p r s.day) := by unfold Kp01.given; rw [ep]
    have eh : Kp01.heldBy s r = s.holds.filter fun h => holdOn h r := rfl
    rw [eg, eh] at e0
    refine ⟨_, rfl, _, rfl, if_false_of rfl ?_⟩
    refine ⟨_, rfl, fq (fd_House_records T oh) ⟨_, rfl, thing ha rfl (at_records hl hi ?_)⟩⟩
    have hd := R.grounds (by simp)
    refine ⟨L .grounds, _, hd, trivial, fun od => ?_⟩
    have R1 := R.lock (o := .frz od (.dK (byName (·.name) (fun n => .ref (L (.ground n))) s.grounds))) .grounds rfl
    refine ⟨_, rfl, fq (fd_House_grounds T (R1.house (by simp))) ⟨_, _, _, rfl, upd_same, fun D nD => ?_⟩⟩
    have gD : L .grounds ≠ D := ne_of_none upd_same nD
    refine lc_it walk_values (fun j H1 => H1 = upd (upd H (L .grounds) (.frz od (.dK (byName (·.name) (fun n => .ref (L (.ground n))) s.grounds)))) D (.lst (strsV (((s.grounds.take j).filter (Kp01.gives s p r s.day)).map groundLine)))) rfl (fun j H1 _ h => by rw [h, upd_ne gD]; exact upd_same) ?_ ?_
    · rintro j x H1 H2 hj rfl ⟨rfl, k, hx⟩
      obtain ⟨gr, hh, rfl⟩ := byName_at hx
      have hm : gr ∈ s.grounds := List.mem_of_getElem? hh
      have egr : groundOf s gr.name = some gr := find_mem (nm := fun (x : Kp01.Ground) => x.name) g.ok.ngrounds hm
      have R2 := R1.new (o := .lst (strsV (((s.grounds.take j).filter (Kp01.gives s p r s.day)).map groundLine))) nD
      have step := filter_snoc (p := Kp01.gives s p r s.day) hh
      refine ⟨rfl, _, rfl, _, rfl, _, rfl, _, s, L, gr.name, i, gr, r, p, rfl, rfl, rfl, R2.sub (by simp), g.ok.below, egr, e2, ep, _, rfl, ?_⟩
      cases hb : Kp01.gives s p r s.day gr with
      | false =>
        rw [hb, if_neg (by simp), List.append_nil] at step
        refine if_false_of rfl ?_
        show upd _ _ _ = upd _ _ _
        rw [step]
      | true =>
        rw [hb, if_pos rfl] at step
        refine if_true_of rfl ?_
        refine ⟨_, rfl, _, s, L, gr.name, gr, rfl, R2.sub (by simp), g.size, egr, _, upd_same, ?_, ?_⟩
        · rw [strsV_len, List.length_map]
          exact len_lt (m := 8) (Nat.le_trans filter_take_le g.size.grounds) (by decide)
        · show upd _ _ _ = upd _ _ _
          rw [upd_upd, step, List.map_append, List.map_singleton, strsV_snoc]
    · rintro H1 rfl
      rw [byName_len, List.take_length]
      refine ⟨by rw [upd_ne gD]; exact upd_same, ?_⟩
      obtain ⟨G, hG⟩ : ∃ G, G = (s.grounds.filter (Kp01.gives s p r s.day)).map groundLine := ⟨_, rfl⟩
      rw [← hG]
      have glen : G.length ≤ 8 := by rw [hG, List.length_map]; exact Nat.le_trans (List.length_filter_le _ _) g.size.grounds
      -- unlocked; the rows' list lies at D
      have sm2 : Same H (upd (upd (upd H (L .grounds) (.frz od (.dK (byName (·.name) (fun n => .ref (L (.ground n))) s.grounds)))) D (.lst (strsV G))) (L .grounds) (.dK (byName (·.name) (fun n => .ref (L (.ground n))) s.grounds))) := unlock_same hd (same_new nD)
      have R3 : Rep c [] (upd F D (.lst (strsV G))) s L _ := (R.same sm2).more (p := D) (o := .lst (strsV G)) (by rw [upd_ne gD.symm, upd_same]) (R1.free nD)
      generalize (upd (upd (upd H (L .grounds) (.frz od (.dK (byName (·.name) (fun n => .ref (L (.ground n))) s.grounds)))) D (.lst (strsV G))) (L .grounds) (.dK (byName (·.name) (fun n => .ref (L (.ground n))) s.grounds))) = H3 at sm2 R3
      have hdh := R3.holds (by simp)
      refine ⟨L .holds, _, hdh, trivial, fun od2 => ?_⟩
      have R4 := R3.lock (o := .frz od2 (.dK (byName (·.name) (fun n => .ref (L (.hold n))) s.holds))) .holds rfl
      have hD4 := R4.keep _ _ (show upd F D _ D = _ from upd_same)
      refine ⟨_, rfl, ty_list hD4, ?_⟩
      refine ⟨_, rfl, fq (fd_House_holds T (R4.house (by simp))) ⟨_, _, _, rfl, upd_same, fun E nE => ?_⟩⟩
      refine lc_it walk_values (fun j H1 => Same (upd H3 (L .holds) (.frz od2 (.dK (byName (·.name) (fun n => .ref (L (.hold n))) s.holds)))) H1 ∧ H1 E = some (.lst (strsV (((s.holds.take j).filter fun h => holdOn h r).map holdLine)))) ⟨same_new nE, upd_same⟩ (fun j H1 _ h => h.1 _ _ upd_same) ?_ ?_
      · rintro j x H1 H2 hj ⟨sm, hE⟩ ⟨rfl, k, hx⟩
        obtain ⟨hd', hh, rfl⟩ := byName_at hx
        have hm : hd' ∈ s.holds := List.mem_of_getElem? hh
        have ehd : holdOf s hd'.name = some hd' := find_mem (nm := fun (x : Kp01.Hold) => x.name) g.ok.nholds hm
        have R5 := R4.same sm
        have step := filter_snoc (p := fun h => holdOn h r) hh
        refine ⟨rfl, _, rfl, _, rfl, _, s, L, hd'.name, i, hd', r, rfl, rfl, R5.sub (by simp), ehd, e2, g.ok.hperson hd' hm, g.ok.owned i r e2, g.ok.hkind hd' hm, fun H4 sm4 => ⟨_, rfl, ?_⟩⟩
        cases hb : holdOn hd' r with
        | false =>
          rw [hb, if_neg (by simp), List.append_nil] at step
          refine if_false_of rfl ⟨sm.trans sm4, ?_⟩
          rw [step]; exact sm4 _ _ hE
        | true =>
          rw [hb, if_pos rfl] at step
          refine if_true_of rfl ?_
          have R6 := R5.same sm4
          have n8 := g.size.hname hd' hm
          have l5 : (Str.ofString " hold").length = 5 := by decide +kernel
          refine ⟨_, rfl, fq (fd_Hold_name T (R6.hold ehd (by simp))) ⟨_, _, rfl, rfl, line_of (by rw [txt_len]; omega), _, sm4 _ _ hE, ?_, ?_⟩⟩
          · rw [strsV_len, List.length_map]
            exact len_lt (m := 4) (Nat.le_trans filter_take_le g.size.holds) (by decide)
          · refine ⟨fun b u hb => ?_, ?_⟩
            · rw [upd_ne (ne_of_none hb nE)]; exact sm4 _ _ (sm _ _ hb)
            · rw [upd_same, step, List.map_append, List.map_singleton, strsV_snoc, hold_txt]
      · rintro H1 ⟨sm, hE⟩
        rw [byName_len, List.take_length] at hE
        obtain ⟨B, hB⟩ : ∃ B, B = (s.holds.filter fun h => holdOn h r).map holdLine := ⟨_, rfl⟩
        rw [← hB] at hE
        have blen : B.length ≤ 4 := by rw [hB, List.length_map]; exact Nat.le_trans (List.length_filter_le _ _) g.size.holds
        have hD1 := sm _ _ hD4
        refine ⟨D, E, _, _, rfl, rfl, hD1, hE, ?_, ?_⟩
        · rw [strsV_len, strsV_len]; exact Nat.le_trans (show _ ≤ 100 by omega) (by decide)
        · have hDh : L .holds ≠ D := by
            intro z
            have := R3.out .holds rfl
            rw [z, upd_same] at this; cases this
          refine ⟨by rw [upd_ne hDh]; exact sm _ _ upd_same, ?_⟩
          have es : strsV G ++ strsV B = strsV (G ++ B) := by unfold strsV; rw [List.map_append]
          rw [es]
          refine ⟨_, rfl, D, G ++ B, rfl, by rw [upd_ne hDh.symm, upd_same], by rw [List.length_append]; omega, ?_, fun H5 sm5 => ?_⟩
          · intro x hx
            rcases List.mem_append.mp hx with hx | hx
            · rw [hG] at hx
              obtain ⟨y, hy, rfl⟩ := List.mem_map.mp hx
              obtain ⟨z1, z2, z3⟩ := g.size.gname y (List.mem_filter.mp hy).1
              unfold groundLine Kp01.told
              cases hs : y.sort with
              | law =>
                show (y.name ++ 32 :: Kp01.ascii "law").length ≤ 200
                rw [List.length_append, List.length_cons]
                have : (Kp01.ascii "law").length = 3 := by decide
                omega
              | need =>
                show (y.name ++ 32 :: Kp01.ascii "need").length ≤ 200
                rw [List.length_append, List.length_cons]
                have : (Kp01.ascii "need").length = 4 := by decide
                omega
              | consent v =>
                have := z3 v hs
                show (y.name ++ 32 :: (Kp01.ascii "for" ++ 32 :: v)).length ≤ 200
                rw [List.length_append, List.length_cons, List.length_append, List.length_cons]
                have : (Kp01.ascii "for").length = 3 := by decide
                omega
            · rw [hB] at hx
              obtain ⟨y, hy, rfl⟩ := List.mem_map.mp hx
              have := g.size.hname y (List.mem_filter.mp hy).1
              show (y.name ++ 32 :: Kp01.ascii "hold").length ≤ 200
              rw [List.length_append, List.length_cons]
              have : (Kp01.ascii "hold").length = 4 := by decide
              omega
          · have hrows : G ++ B = (((s.grounds.filter (Kp01.gives s p r s.day)).map fun g => g.name :: Kp01.sortText g.sort) ++ (s.holds.filter fun h => holdOn h r).map fun h => [h.name, Kp01.ascii "hold"]).map Kp01.told := by
              rw [hG, hB, List.map_append, List.map_map, List.map_map]; rfl
            rw [hrows, listed_rows]
            refine fin q e0 rfl (R.same ?_) rfl
            refine Same.trans ?_ sm5
            -- what stood ahead of it all stands
            intro b u hb
            have h3 := sm2 b u hb
            by_cases zh : b = L .holds
            · subst zh
              rw [upd_same]
              rw [hdh] at h3
              exact h3
            · rw [upd_ne zh]
              have zD : b ≠ D := fun z => by
                have : F D = none ∨ True := .inr trivial
                have nHD : H D = none := by
                  have e9 := nD
                  rw [upd_ne gD.symm] at e9; exact e9
                rw [z, nHD] at hb; cases hb
              rw [upd_ne zD]
              exact sm b u (by rw [upd_ne zh]; exact h3)
/-! ### back -/
def pickIx (s : Kp01.House) (P : Kp01.Record → Bool) (j : Nat) : Bool := match s.records[j]? with
  | some r => P r
  | none => false
theorem pick_len {s : Kp01.House} {P : Kp01.Record → Bool} : ((List.range s.records.length).filter (pickIx s P)).length = (s.records.filter P).length := by
  have key : ∀ j, j ≤ s.records.length → ((List.range j).filter (pickIx s P)).length = ((s.records.take j).filter P).length := by
    intro j
    induction j with
    | zero => intro _; rfl
    | succ j ih =>
      intro hj
      have e : s.records[j]? = some s.records[j] := List.getElem?_eq_getElem (by omega)
      rw [List.range_succ, List.filter_append, List.length_append, ih (by omega), filter_snoc e, List.length_append]
      congr 1
      unfold pickIx
      cases h : P s.records[j] with
      | true => rw [List.filter_cons_of_pos (by rw [e]; exact h), if_pos rfl]; rfl
      | false => rw [List.filter_cons_of_neg (by rw [e]; simp [h]), if_neg (by simp)]; rfl
  have z := key s.records.length (Nat.le_refl _)
  rw [List.take_length] at z
  exact z
/-- a comprehension over the house's records that picks some -/
theorem pick_loop (T : TopTxt K w mg c) {F : Hp} {s : Kp01.House} {L : Tag → Addr} {H : Hp} {σ : L2.St} {tt : TT} {Q : VK} (g : Good s) (R : Rep c [] F s L H) (P : Kp01.Record → Bool) (h6 : σ.length = 7) (h0 : σ[0]? = some (some (.ref (L .house))))
    (ht : ∀ (j : Nat) (r : Kp01.Record) (H' : Hp) (F' : Hp) (Qb : Bool → Hp → Prop), s.records[j]? = some r → Rep c [] F' s L H' → Qb (P r) H' → tt ((wipe σ [6]).set 6 (some (.ref (L (.record j))))) H' Qb)
    (q : ∀ D, H D = none → Q (.ref D) (upd H D (.lst (((List.range s.records.length).filter (pickIx s P)).map fun j => .ref (L (.record j)))))) : tLc (iList K (tFld K (tVar 0) "records")) (gName 6) tt (tVar 6) [6] σ H Q := by
  have hl := R.records (by simp)
  refine ⟨_, h0, fq (fd_House_records T (R.house (by simp))) ⟨_, rfl, ⟨_, SqL.of hl⟩, fun D nD => ?_⟩⟩
  refine lc_list (K := K) (xs := (List.range s.records.length).map fun i => V.ref (L (.record i))) (fun j H1 => H1 = upd H D (.lst (((List.range j).filter (pickIx s P)).map fun j => .ref (L (.record j))))) rfl (fun j H1 _ h => by rw [h]; exact SqL.of (by rw [upd_ne (ne_of_none hl nD)]; exact hl)) ?_ ?_
  · rintro j x H1 hx rfl
    obtain ⟨hj, rfl⟩ := range_at hx
    have er : s.records[j]? = some s.records[j] := List.getElem?_eq_getElem hj
    generalize s.records[j] = r at er
    have R1 := R.new (o := .lst (((List.range j).filter (pickIx s P)).map fun j => .ref (L (.record j)))) nD
    have step : (List.range (j + 1)).filter (pickIx s P) = (List.range j).filter (pickIx s P) ++ (if P r = true then [j] else []) := by
      rw [List.range_succ, List.filter_append]
      congr 1
      have e9 : pickIx s P j = P r := by unfold pickIx; rw [er]
      cases h : P r with
      | true => rw [List.filter_cons_of_pos (by rw [e9]; exact h)]; simp
      | false => rw [List.filter_cons_of_neg (by rw [e9, h]; simp)]; simp
    refine ⟨by show ((((wipe σ []).set 6 none).set 6 (some _)).set 6 none) = _; rw [List.set_set, List.set_set]; rfl, ?_⟩
    refine ht j r _ _ _ er R1 ?_
    cases hb : P r with
    | false =>
      rw [hb, if_neg (by simp), List.append_nil] at step
      refine if_false_of rfl ?_
      show upd _ _ _ = upd _ _ _
      rw [step]
    | true =>
      rw [hb, if_pos rfl] at step
      refine if_true_of rfl ?_
      refine ⟨.ref (L (.record j)), ?_, _, upd_same, ?_, ?_⟩
      · show ((σ.set 6 none).set 6 (some (V.ref (L (.record j)))))[6]? = _
        rw [List.getElem?_set, if_pos rfl, List.length_set, if_pos (by omega)]
      · rw [List.length_map]
        have y := List.length_filter_le (pickIx s P) (List.range j)
        rw [List.length_range] at y
        have := g.size.records
        exact len_lt (m := 16) (by omega) (by decide)
      · show upd _ _ _ = upd _ _ _
        rw [upd_upd, step, List.map_append]; rfl
  · rintro H1 rfl
    rw [List.length_map, List.length_range]
    exact q D nD
theorem pick_seq (T : TopTxt K w mg c) {F : Hp} {s : Kp01.House} {L : Tag → Addr} {H : Hp} {σ : L2.St} {tt : TT} {i : Nat} {rest : TS} {E : Ends} (g : Good s) (R : Rep c [] F s L H) (P : Kp01.Record → Bool) (h6 : σ.length = 7) (h0 : σ[0]? = some (some (.ref (L .house))))
    (ht : ∀ (j : Nat) (r : Kp01.Record) (H' : Hp) (F' : Hp) (Qb : Bool → Hp → Prop), s.records[j]? = some r → Rep c [] F' s L H' → Qb (P r) H' → tt ((wipe σ [6]).set 6 (some (.ref (L (.record j))))) H' Qb)
    (q : ∀ D, H D = none → rest E (σ.set i (some (.ref D))) (upd H D (.lst (((List.range s.records.length).filter (pickIx s P)).map fun j => .ref (L (.record j)))))) : tSeq (tAsg (tLc (iList K (tFld K (tVar 0) "records")) (gName 6) tt (tVar 6) [6]) (gName i)) rest E σ H := by
  unfold tSeq tAsg gName
  exact pick_loop (Q := fun x H1 => rest E (σ.set i (some x)) H1) T g R P h6 h0 ht q
theorem rev_ind {α : Type} {P : List α → Prop} (h0 : P []) (h1 : ∀ l a, P l → P (l ++ [a])) (l : List α) : P l := by
  have key : ∀ m : List α, P m.reverse := fun m => by
    induction m with
    | nil => exact h0
    | cons a r ih => rw [List.reverse_cons]; exact h1 _ _ ih
  have z := key l.reverse
  rw [List.reverse_reverse] at z
  exact z
def letAt (t : Kp01.House) (i : Nat) : Kp01.House := match t.records[i]? with
  | none => t
  | some r => withRec t i (goneRec t t.day r)
theorem letAt_rest (t : Kp01.House) (i : Nat) : SameRest t (letAt t i) ∧ (letAt t i).day = t.day ∧ (letAt t i).records.length = t.records.length := by
  unfold letAt
  cases t.records[i]? with
  | none => exact ⟨.refl t, rfl, rfl⟩
  | some r => exact ⟨⟨rfl, rfl, rfl, rfl⟩, rfl, withRec_len⟩
theorem letAt_ok {t : Kp01.House} (o : Ok t) (i : Nat) : Ok (letAt t i) := by
  unfold letAt
  cases e : t.records[i]? with
  | none => exact o
  | some r => exact o.goneRec e
def letAll (s : Kp01.House) (l : List Nat) : Kp01.House := l.foldl letAt s
theorem letAll_snoc (s : Kp01.House) (l : List Nat) (i : Nat) : letAll s (l ++ [i]) = letAt (letAll s l) i := by unfold letAll; rw [List.foldl_append]; rfl
theorem letAll_facts {s : Kp01.House} (o : Ok s) : ∀ l : List Nat, l.Nodup → Ok (letAll s l) ∧ SameRest s (letAll s l) ∧ (letAll s l).day = s.day ∧ (letAll s l).records.length = s.records.length ∧ ∀ j, (letAll s l).records[j]? = (s.records[j]?).map fun r => if j ∈ l then goneRec s s.day r else r := by
  intro l
  induction l using rev_ind with
  | h0 =>
    intro _
    refine ⟨o, .refl s, rfl, rfl, fun j => ?_⟩
    show s.records[j]? = _
    cases s.records[j]? <;> simp
  | h1 l i ih =>
    intro nd
    rw [List.nodup_append] at nd
    obtain ⟨h1, h2, h3, h4, h5⟩ := ih nd.1
    have hi : i ∉ l := fun z => nd.2.2 i z i (List.mem_singleton.mpr rfl) rfl
    rw [letAll_snoc]
    obtain ⟨a1, a2, a3⟩ := letAt_rest (letAll s l) i
    refine ⟨letAt_ok h1 i, h2.trans a1, a2.trans h3, a3.trans h4, fun j => ?_⟩
    unfold letAt
    have ei := h5 i
    cases e : s.records[i]? with
    | none =>
      rw [e] at ei
      rw [ei]
      show (letAll s l).records[j]? = _
      rw [h5 j]
      by_cases z : j = i
      · subst z; rw [e]; rfl
      · cases s.records[j]? with
        | none => rfl
        | some r =>
          show some (if j ∈ l then _ else _) = some (if j ∈ l ++ [i] then _ else _)
          have : (j ∈ l ++ [i]) ↔ j ∈ l := by simp [z]
          simp only [this]
    | some r =>
      rw [e] at ei
      have ei : (letAll s l).records[i]? = some r := by rw [ei]; show some (if i ∈ l then _ else r) = _; rw [if_neg hi]
      rw [ei]
      show (withRec (letAll s l) i (goneRec (letAll s l) (letAll s l).day r)).records[j]? = _
      by_cases z : j = i
      · subst z
        rw [withRec_at (List.getElem?_eq_some_iff.mp ei).1, e]
        show some (goneRec _ _ r) = some (if j ∈ l ++ [j] then _ else _)
        rw [if_pos (by simp)]
        unfold goneRec
        rw [h3, leaves_congr h2.symm]
      · rw [withRec_ne z, h5 j]
        cases s.records[j]? with
        | none => rfl
        | some r =>
          show some (if j ∈ l then _ else _) = some (if j ∈ l ++ [i] then _ else _)
          have : (j ∈ l ++ [i]) ↔ j ∈ l := by simp [z]
          simp only [this]
theorem house_ext {s t : Kp01.House} (a : SameRest s t) (b : s.day = t.day) (e : s.records = t.records) : s = t := by
  cases s; cases t
  obtain ⟨h1, h2, h3, h4⟩ := a
  dsimp only at *
  subst h1 h2 h3 h4 e b
  rfl
theorem there_lies {s : Kp01.House} (o : Ok s) {j : Nat} {r : Kp01.Record} (e : s.records[j]? = some r) (hg : r.letGo = none) (n : Bytes) : Kp01.isThere r n = liesIn r n := by
  unfold Kp01.isThere liesIn
  rw [Bool.eq_iff_iff, List.any_eq_true, List.any_eq_true]
  constructor
  · rintro ⟨k, hk, h⟩
    rw [Bool.and_eq_true] at h
    refine ⟨k, hk, ?_⟩
    rw [h.1, o.cthere j r e hg k hk]; rfl
  · rintro ⟨k, hk, h⟩
    rw [Bool.and_eq_true] at h
    refine ⟨k, hk, ?_⟩
    rw [h.1, o.cthere j r e hg k hk]; rfl
def lostP (n : Bytes) (r : Kp01.Record) : Bool := r.letGo.isNone && !liesIn r n
theorem backed_eq {s : Kp01.House} (o : Ok s) (n : Bytes) : letAll s ((List.range s.records.length).filter (pickIx s (lostP n))) = Kp01.backed s n := by
  obtain ⟨h1, h2, h3, h4, h5⟩ := letAll_facts o ((List.range s.records.length).filter (pickIx s (lostP n))) (List.nodup_range.filter _)
  refine house_ext (h2.symm.trans ⟨rfl, rfl, rfl, rfl⟩) h3 ?_
  apply List.ext_getElem?
  intro j
  rw [h5 j]
  show _ = (s.records.map _)[j]?
  rw [List.getElem?_map]
  cases e : s.records[j]? with
  | none => rfl
  | some r =>
    have hj := (List.getElem?_eq_some_iff.mp e).1
    show some (if j ∈ _ then goneRec s s.day r else r) = some (if r.letGo.isSome = true ∨ Kp01.isThere r n = true then r else goneRec s s.day r)
    have em : (j ∈ (List.range s.records.length).filter (pickIx s (lostP n))) ↔ lostP n r = true := by
      rw [List.mem_filter, List.mem_range]
      unfold pickIx
      rw [e]
      exact ⟨fun h => h.2, fun h => ⟨hj, h⟩⟩
    congr 1
    cases hg : r.letGo with
    | some d =>
      have : ¬ lostP n r = true := by unfold lostP; rw [hg]; simp
      rw [if_neg (fun z => this (em.mp z)), if_pos (.inl rfl)]
    | none =>
      rw [there_lies o e hg n]
      cases hb : liesIn r n with
      | true =>
        have : ¬ lostP n r = true := by unfold lostP; rw [hg, hb]; simp
        rw [if_neg (fun z => this (em.mp z)), if_pos (.inr rfl)]
      | false =>
        have : lostP n r = true := by unfold lostP; rw [hg, hb]; rfl
        rw [if_pos (em.mpr this), if_neg (by simp)]
theorem ok3 (x y z : Nat) : Kp01.told [Kp01.ok, Kp01.decimal x, Kp01.decimal y, Kp01.decimal z] = Kp01.joined 32 [Kp01.ok, Kp01.decimal x, Kp01.decimal y, Kp01.decimal z] := rfl
theorem filter_len_congr {α : Type} {p q : α → Bool} {l : List α} (h : ∀ x ∈ l, p x = q x) : (l.filter p).length = (l.filter q).length := by rw [List.filter_congr h]
theorem pure_put_back (T : TopTxt K w mg c) : ∀ a b H Q, pr_put_back c a b H Q → t_put_back K c (D0 Q) (start ["house", "things", "store", "back", "lost", "away", "record"] [a, b]) H := by
  rintro _ _ H Q ⟨F, s, L, a, vals, cmd, rfl, rfl, R, g, fa, ⟨n, rfl, rfl, hn⟩, q⟩
  have ha := R.keep _ _ fa
  have hrec := g.size.records
  have e0 : Kp01.does s (.back n) = match Kp01.storeOf s n with
    | some (.roll _ _) => (Kp01.today (Kp01.backed s n), Kp01.told [Kp01.ok, Kp01.decimal (s.records.filter fun r => r.letGo.isNone && Kp01.isThere r n).length, Kp01.decimal (s.records.filter fun r => r.letGo.isNone && !Kp01.isThere r n).length, Kp01.decimal (s.records.filter fun r => r.letGo.isSome && liesIn r n).length])
    | _ => (s, Kp01.no "store") := rfl
  refine ⟨_, rfl, _, rfl, thing ha rfl ⟨F, s, L, n, "roll", rfl, rfl, rfl, R, g.ok, ?_⟩⟩
  cases hs : Kp01.storeOf s n with
  | none =>
    rw [hs] at e0
    refine ⟨_, rfl, _, rfl, ?_⟩
    exact if_true_of rfl (fin q e0 (no_txt rfl) R rfl)
  | some x =>
    rw [hs] at e0
    cases x with
    | other m b0 =>
      have e : (if wayOf (.other m b0) = ("roll" : Str) then V.ref (L (.store n)) else .non) = .non := if_neg (show ¬ ("other" : Str) = ("roll" : Str) by decide +kernel)
      dsimp only
      rw [e]
      refine ⟨_, rfl, _, rfl, ?_⟩
      exact if_true_of rfl (fin q e0 (no_txt rfl) R rfl)
    | roll m t =>
      have e : (if wayOf (.roll m t) = ("roll" : Str) then V.ref (L (.store n)) else .non) = .ref (L (.store n)) := if_pos rfl
      dsimp only
      rw [e]
      replace e0 : Kp01.does s (.back n) = (Kp01.today (Kp01.backed s n), Kp01.told [Kp01.ok, Kp01.decimal (s.records.filter fun r => r.letGo.isNone && Kp01.isThere r n).length, Kp01.decimal (s.records.filter fun r => r.letGo.isNone && !Kp01.isThere r n).length, Kp01.decimal (s.records.filter fun r => r.letGo.isSome && liesIn r n).length]) := e0
      refine ⟨_, rfl, _, rfl, ?_⟩
      refine if_false_of rfl ?_
      dsimp only [tNext]
      refine pick_seq (σ := [some (.ref (L .house)), some (.ref a), some (.ref (L (.store n))), none, none, none, none]) T g R (fun r => r.letGo.isNone && liesIn r n) (by exact rfl) (by exact rfl) (fun j r H' F' Qb er R' h => ?_) fun D1 n1 => ?_
      · refine ⟨_, rfl, F', s, L, j, r, rfl, R'.sub (by simp), er, _, rfl, ?_⟩
        cases hg : r.letGo with
        | some d => rw [hg] at h; exact if_false_of rfl h
        | none =>
          rw [hg] at h
          refine if_true_of rfl ⟨_, rfl, _, rfl, F', s, L, j, r, n, _, rfl, rfl, R', g.ok, er, hs, _, rfl, h⟩
      have R1 := R.new (o := .lst (((List.range s.records.length).filter (pickIx s fun r => r.letGo.isNone && liesIn r n)).map fun j => .ref (L (.record j)))) n1
      refine pick_seq (σ := [some (.ref (L .house)), some (.ref a), some (.ref (L (.store n))), some (.ref D1), none, none, none]) T g R1 (lostP n) (by exact rfl) (by exact rfl) (fun j r H' F' Qb er R' h => ?_) fun D2 n2 => ?_
      · refine ⟨_, rfl, F', s, L, j, r, rfl, R'.sub (by simp), er, _, rfl, ?_⟩
        unfold lostP at h
        cases hg : r.letGo with
        | some d => rw [hg] at h; exact if_false_of rfl h
        | none =>
          rw [hg] at h
          refine if_true_of rfl ⟨_, rfl, _, rfl, F', s, L, j, r, n, _, rfl, rfl, R', g.ok, er, hs, _, rfl, h⟩
      have R2 := R1.new (o := .lst (((List.range s.records.length).filter (pickIx s (lostP n))).map fun j => .ref (L (.record j)))) n2
      refine pick_seq (σ := [some (.ref (L .house)), some (.ref a), some (.ref (L (.store n))), some (.ref D1), some (.ref D2), none, none]) T g R2 (fun r => r.letGo.isSome && liesIn r n) (by exact rfl) (by exact rfl) (fun j r H' F' Qb er R' h => ?_) fun D3 n3 => ?_
      · refine ⟨_, rfl, F', s, L, j, r, rfl, R'.sub (by simp), er, _, rfl, ?_⟩
        cases hg : r.letGo with
        | none => rw [hg] at h; exact if_false_of rfl h
        | some d =>
          rw [hg] at h
          refine if_true_of rfl ⟨_, rfl, _, rfl, F', s, L, j, r, n, _, rfl, rfl, R', g.ok, er, hs, _, rfl, h⟩
      have R3 := R2.new (o := .lst (((List.range s.records.length).filter (pickIx s fun r => r.letGo.isSome && liesIn r n)).map fun j => .ref (L (.record j)))) n3
      have h2a := R2.keep D2 _ upd_same
      have h1a := R1.keep D1 _ upd_same
      have d12 : D1 ≠ D2 := ne_of_none h1a n2
      have d13 : D1 ≠ D3 := ne_of_none (by rw [upd_ne d12]; exact upd_same) n3
      have d23 : D2 ≠ D3 := ne_of_none h2a n3
      generalize hF3 : upd (upd (upd F D1 (.lst (((List.range s.records.length).filter (pickIx s fun r => r.letGo.isNone && liesIn r n)).map fun j => V.ref (L (.record j))))) D2 (.lst (((List.range s.records.length).filter (pickIx s (lostP n))).map fun j => V.ref (L (.record j))))) D3 (.lst (((List.range s.records.length).filter (pickIx s fun r => r.letGo.isSome && liesIn r n)).map fun j => V.ref (L (.record j)))) = F3 at R3
      have k3 : F3 D3 = some (.lst (((List.range s.records.length).filter (pickIx s fun r => r.letGo.isSome && liesIn r n)).map fun j => V.ref (L (.record j)))) := by rw [← hF3]; exact upd_same
      have k2 : F3 D2 = some (.lst (((List.range s.records.length).filter (pickIx s (lostP n))).map fun j => V.ref (L (.record j)))) := by rw [← hF3, upd_ne d23]; exact upd_same
      have k1 : F3 D1 = some (.lst (((List.range s.records.length).filter (pickIx s fun r => r.letGo.isNone && liesIn r n)).map fun j => V.ref (L (.record j)))) := by rw [← hF3, upd_ne d13, upd_ne d12]; exact upd_same
      have kF : ∀ b u, F b = some u → F3 b = some u := fun b u hb => by
        rw [← hF3]
        have z1 : b ≠ D1 := fun z => by rw [z, R.Fnone n1] at hb; cases hb
        have z2 : b ≠ D2 := fun z => by have := R1.Fnone n2; rw [upd_ne d12.symm] at this; rw [z, this] at hb; cases hb
        have z3 : b ≠ D3 := fun z => by have := R2.Fnone n3; rw [upd_ne d23.symm, upd_ne d13.symm] at this; rw [z, this] at hb; cases hb
        rw [upd_ne z3, upd_ne z2, upd_ne z1]; exact hb
      clear hF3
      generalize upd (upd (upd H D1 (.lst (((List.range s.records.length).filter (pickIx s fun r => r.letGo.isNone && liesIn r n)).map fun j => V.ref (L (.record j))))) D2 (.lst (((List.range s.records.length).filter (pickIx s (lostP n))).map fun j => V.ref (L (.record j))))) D3 (.lst (((List.range s.records.length).filter (pickIx s fun r => r.letGo.isSome && liesIn r n)).map fun j => V.ref (L (.record j)))) = H3 at R3 ⊢
      have nd := (List.nodup_range (n := s.records.length)).filter (pickIx s (lostP n))
      have lost_back := backed_eq g.ok n
      have pl2 := pick_len (s := s) (P := lostP n)
      have hmem : ∀ j, j ∈ (List.range s.records.length).filter (pickIx s (lostP n)) → j < s.records.length := fun j hj => List.mem_range.mp (List.mem_filter.mp hj).1
      generalize (List.range s.records.length).filter (pickIx s (lostP n)) = lost at k2 nd lost_back pl2 hmem
      refine ⟨_, rfl, _, rfl, ⟨_, SqL.of (R3.keep _ _ k2)⟩, for_list (K := K) (xs := lost.map fun j => V.ref (L (.record j)))
        (fun j σ H' => Rep c [] F3 (letAll s (lost.take j)) L H' ∧ ∃ v, σ = [some (.ref (L .house)), some (.ref a), some (.ref (L (.store n))), some (.ref D1), some (.ref D2), some (.ref D3), v])
        ⟨R3, none, rfl⟩ (fun j σ H' _ h => SqL.of (h.1.keep _ _ k2)) ?_ ?_⟩
      · rintro j x σ H' hx ⟨R4, v, rfl⟩
        obtain ⟨i, hi, rfl⟩ := map_at hx
        have ndt : (lost.take j).Nodup := nd.sublist (List.take_sublist _ _)
        obtain ⟨o4, a4, b4, l4, at4⟩ := letAll_facts g.ok (lost.take j) ndt
        have hil : i < (letAll s (lost.take j)).records.length := by rw [l4]; exact hmem i (List.mem_of_getElem? hi)
        have er := List.getElem?_eq_getElem hil
        generalize (letAll s (lost.take j)).records[i] = r at er
        refine ⟨_, rfl, _, rfl, F3, _, L, i, r, rfl, rfl, R4, o4, er, fun H2 R5 => ⟨?_, _, rfl⟩⟩
        rw [take_snoc hi, letAll_snoc]
        unfold letAt
        rw [er]
        exact R5
      · rintro σ H' ⟨R4, v, rfl⟩
        rw [List.length_map, List.take_length] at R4
        obtain ⟨o4, _⟩ := letAll_facts g.ok lost nd
        rw [lost_back] at R4 o4
        refine ⟨_, rfl, F3, _, L, rfl, R4, o4, fun H2 R5 => ?_⟩
        have pl1 := pick_len (s := s) (P := fun r => r.letGo.isNone && liesIn r n)
        have pl3 := pick_len (s := s) (P := fun r => r.letGo.isSome && liesIn r n)
        have le1 := List.length_filter_le (fun r : Kp01.Record => r.letGo.isNone && liesIn r n) s.records
        have le2 := List.length_filter_le (lostP n) s.records
        have le3 := List.length_filter_le (fun r : Kp01.Record => r.letGo.isSome && liesIn r n) s.records
        have c1 : (s.records.filter fun r => r.letGo.isNone && Kp01.isThere r n).length = (s.records.filter fun r => r.letGo.isNone && liesIn r n).length := filter_len_congr fun r hr => by
          obtain ⟨j, hj, ej⟩ := List.mem_iff_getElem.mp hr
          cases hg : r.letGo with
          | some d => rfl
          | none => rw [there_lies g.ok (show s.records[j]? = some r by rw [List.getElem?_eq_getElem hj, ej]) hg]
        have c2 : (s.records.filter fun r => r.letGo.isNone && !Kp01.isThere r n).length = (s.records.filter (lostP n)).length := filter_len_congr fun r hr => by
          obtain ⟨j, hj, ej⟩ := List.mem_iff_getElem.mp hr
          unfold lostP
          cases hg : r.letGo with
          | some d => rfl
          | none => rw [there_lies g.ok (show s.records[j]? = some r by rw [List.getElem?_eq_getElem hj, ej]) hg]
        refine ⟨⟨_, rfl⟩, _, rfl, _, _, rfl, .inl (SqL.of (R5.keep _ _ k1)), ?_⟩
        rw [List.length_map, pl1]
        refine ⟨_, rfl, log_small (by omega), _, rfl, _, _, rfl, .inl (SqL.of (R5.keep _ _ k2)), ?_⟩
        rw [List.length_map, pl2]
        refine ⟨_, rfl, log_small (by omega), _, rfl, _, _, rfl, .inl (SqL.of (R5.keep _ _ k3)), ?_⟩
        rw [List.length_map, pl3]
        refine ⟨_, rfl, log_small (by omega), ?_⟩
        refine ⟨by show 4 ≤ sizeLine; decide, fun t nt => ?_⟩
        refine ⟨_, t, [Kp01.ok, Kp01.decimal (s.records.filter fun r => r.letGo.isNone && liesIn r n).length, Kp01.decimal (s.records.filter (lostP n)).length, Kp01.decimal (s.records.filter fun r => r.letGo.isSome && liesIn r n).length].map txt, rfl, rfl, .inl (SqL.of (by rw [upd_same, str_num, str_num, str_num]; exact congrArg (fun x => some (HO.lst x)) (by rw [← ok_txt]; rfl))), ?_, ?_⟩
        · have z1 := dec_short (n := (s.records.filter fun r => r.letGo.isNone && liesIn r n).length) (by omega)
          have z2 := dec_short (n := (s.records.filter (lostP n)).length) (by omega)
          have z3 := dec_short (n := (s.records.filter fun r => r.letGo.isSome && liesIn r n).length) (by omega)
          have y1 : (Str.ofString " ").length = 1 := by decide +kernel
          have y2 : Kp01.ok.length = 2 := by decide
          rw [y1]
          simp only [List.map_cons, List.map_nil, List.length_cons, List.length_nil, List.sum_cons, List.sum_nil, txt_len]
          omega
        · rw [join_txt sp_tl]
          rw [c1, c2] at e0
          exact fin q e0 rfl ((R5.same (same_new nt)).less kF) rfl
end
end Kr

set_option Elab.async false
set_option linter.all false
set_option maxRecDepth 100000
set_option maxHeartbeats 2000000
namespace Kr
open PySem PySem.Spec PyProof.Rows L2
/-! ### words: plain facts -/
theorem parted_ne (x : Nat) (l : Bytes) : Kp01.parted x l ≠ [] := by
  cases l with
  | nil => simp [Kp01.parted]
  | cons a r =>
    unfold Kp01.parted
    split
    · simp
    · split <;> simp
theorem spl_parted (x : Nat) : ∀ (l acc : Bytes), TL.spl [x] 0 acc l = match Kp01.parted x l with
    | [] => [acc]
    | w :: r => (acc ++ w) :: r
  | [], acc => by show [acc] = [acc ++ []]; rw [List.append_nil]
  | a :: r, acc => by
    by_cases h : a = x
    · have hp : TL.pre [x] (a :: r) = true := by subst h; simp [TL.pre]
      rw [TL.spl_hit hp]
      unfold Kp01.parted
      rw [if_pos h]
      show acc :: TL.spl [x] 0 [] r = (acc ++ []) :: Kp01.parted x r
      rw [spl_parted x r [], List.append_nil]
      cases e : Kp01.parted x r with
      | nil => exact absurd e (parted_ne x r)
      | cons w t => rfl
    · have hp : TL.pre [x] (a :: r) = false := TL.pre_of_head [] r h
      rw [TL.spl_miss hp, spl_parted x r (acc ++ [a])]
      conv => rhs; unfold Kp01.parted
      rw [if_neg h]
      cases e : Kp01.parted x r with
      | nil => exact absurd e (parted_ne x r)
      | cons w t => show (acc ++ [a] ++ w) :: t = (acc ++ (a :: w)) :: t; simp
theorem split_txt {z : Str} {x : Nat} (hz : TL.tl z = [x]) (hk : z.cps.all (· < 256) = true) (b : Bytes) : _root_.PySem.Txt.split (txt b) z = (Kp01.parted x b).map txt := by
  apply TL.map_tl_inj
  rw [TL.split_spl _ _ (by rw [hz]; simp) (TL.kind_ok hk), hz, List.map_map]
  have e : (TL.tl ∘ txt) = (id : Bytes → Bytes) := by funext b; rfl
  rw [e, List.map_id]
  show TL.spl [x] 0 [] b = _
  rw [spl_parted]
  cases e : Kp01.parted x b with
  | nil => exact absurd e (parted_ne x b)
  | cons w t => rfl
theorem parted_mem {x : Nat} : ∀ {l w : Bytes} {y : Nat}, w ∈ Kp01.parted x l → y ∈ w → y ∈ l
  | [], w, y, h, hy => by
    simp [Kp01.parted] at h
    rw [h] at hy; cases hy
  | a :: r, w, y, h, hy => by
    unfold Kp01.parted at h
    split at h
    · rcases List.mem_cons.mp h with e | e
      · rw [e] at hy; cases hy
      · exact List.mem_cons_of_mem _ (parted_mem e hy)
    · cases e : Kp01.parted x r with
      | nil => exact absurd e (parted_ne x r)
      | cons v t =>
        rw [e] at h
        rcases List.mem_cons.mp h with z | z
        · rw [z] at hy
          rcases List.mem_cons.mp hy with q | q
          · rw [q]; exact List.mem_cons_self ..
          · exact List.mem_cons_of_mem _ (parted_mem (w := v) (by rw [e]; exact List.mem_cons_self ..) q)
        · exact List.mem_cons_of_mem _ (parted_mem (w := w) (by rw [e]; exact List.mem_cons_of_mem _ z) hy)
theorem parted_len {x : Nat} : ∀ {l w : Bytes}, w ∈ Kp01.parted x l → w.length ≤ l.length
  | [], w, h => by simp [Kp01.parted] at h; rw [h]; exact Nat.le_refl _
  | a :: r, w, h => by
    unfold Kp01.parted at h
    split at h
    · rcases List.mem_cons.mp h with e | e
      · rw [e]; exact Nat.zero_le _
      · exact Nat.le_succ_of_le (parted_len e)
    · cases e : Kp01.parted x r with
      | nil => exact absurd e (parted_ne x r)
      | cons v t =>
        rw [e] at h
        rcases List.mem_cons.mp h with z | z
        · rw [z]
          have := parted_len (l := r) (w := v) (x := x) (by rw [e]; exact List.mem_cons_self ..)
          simpa using this
        · exact Nat.le_succ_of_le (parted_len (w := w) (x := x) (by rw [e]; exact List.mem_cons_of_mem _ z))
theorem parted_count (x : Nat) : ∀ l : Bytes, (Kp01.parted x l).length ≤ l.length + 1
  | [] => by simp [Kp01.parted]
  | a :: r => by
    have z := parted_count x r
    unfold Kp01.parted
    split
    · simpa using z
    · cases e : Kp01.parted x r with
      | nil => exact absurd e (parted_ne x r)
      | cons v t =>
        rw [e] at z
        simp at z ⊢
        omega
/-! ### numbers' lists -/
def ris : List Nat → Bool
  | a :: b :: r => decide (a < b) && ris (b :: r)
  | _ => true
theorem ris_zip : ∀ l : List Nat, ((l.zip (l.drop 1)).all fun x => decide (x.1 < x.2)) = ris l
  | [] => rfl
  | [_] => rfl
  | a :: b :: r => by
    have z := ris_zip (b :: r)
    show (decide (a < b) && (((b :: r).zip r).all _)) = (decide (a < b) && ris (b :: r))
    rw [← z]; rfl
theorem ris_app : ∀ (l : List Nat) (n : Nat) (m : List Nat), ris (l ++ n :: m) = (ris l && ((match l.getLast? with
    | none => true
    | some a => decide (a < n)) && ris (n :: m)))
  | [], n, m => by simp [ris]
  | [a], n, m => by simp [ris]
  | a :: b :: r, n, m => by
    have z := ris_app (b :: r) n m
    show (decide (a < b) && ris ((b :: r) ++ n :: m)) = ((decide (a < b) && ris (b :: r)) && _)
    rw [z, Bool.and_assoc]
    rfl
def recGo : List Bytes → List Nat → Option (List Nat)
  | [], acc => some acc
  | p :: ps, acc => match Kp01.num? 0 99 p with
    | none => none
    | some n => if (match acc.getLast? with
      | none => false
      | some a => decide (n ≤ a)) = true then none else recGo ps (acc ++ [n])
theorem recGo_eq : ∀ (ps : List Bytes) (acc : List Nat), ris acc = true → recGo ps acc = (Kp01.many? ps).bind fun m => if ris (acc ++ m) = true then some (acc ++ m) else none
  | [], acc, h => by
    show some acc = (some []).bind _
    simp [h]
  | p :: ps, acc, h => by
    unfold recGo Kp01.many?
    cases hn : Kp01.num? 0 99 p with
    | none => rfl
    | some n =>
      dsimp only
      have ra : ∀ m, ris (acc ++ n :: m) = ((match acc.getLast? with
        | none => true
        | some a => decide (a < n)) && ris (n :: m)) := fun m => by rw [ris_app, h, Bool.true_and]
      by_cases hc : (match acc.getLast? with
        | none => false
        | some a => decide (n ≤ a)) = true
      · rw [if_pos hc]
        have hf : (match acc.getLast? with
          | none => true
          | some a => decide (a < n)) = false := by
          cases e : acc.getLast? with
          | none => rw [e] at hc; cases hc
          | some a => rw [e] at hc; simp at hc ⊢; omega
        cases hm : Kp01.many? ps with
        | none => rfl
        | some m =>
          show none = if ris (acc ++ (n :: m)) = true then _ else none
          rw [ra, hf]; rfl
      · rw [if_neg hc]
        have ht : (match acc.getLast? with
          | none => true
          | some a => decide (a < n)) = true := by
          cases e : acc.getLast? with
          | none => rfl
          | some a => rw [e] at hc; simp at hc ⊢; omega
        have r1 : ris (acc ++ [n]) = true := by rw [ra, ht]; rfl
        rw [recGo_eq ps (acc ++ [n]) r1]
        cases hm : Kp01.many? ps with
        | none => rfl
        | some m =>
          show (if ris (acc ++ [n] ++ m) = true then some (acc ++ [n] ++ m) else none) = if ris (acc ++ (n :: m)) = true then some (acc ++ (n :: m)) else none
          simp
theorem records_eq (w : Bytes) : Kp01.records? w = (recGo (Kp01.parted 44 w) []).bind fun l => if l.length ≤ 4 then some l else none := by
  rw [recGo_eq _ _ rfl]
  unfold Kp01.records?
  cases Kp01.many? (Kp01.parted 44 w) with
  | none => rfl
  | some m =>
    show (if m.length ≤ 4 ∧ _ then some m else none) = ((if ris ([] ++ m) = true then some ([] ++ m) else none).bind _)
    rw [ris_zip, List.nil_append]
    by_cases h : ris m = true
    · rw [if_pos h]
      show _ = if m.length ≤ 4 then some m else none
      simp [h]
    · rw [if_neg h]
      simp [h]
section
variable {K : PySem.W.Frag} {w : World} {mg : Str → Option Value} {c : Cs}
theorem pure_is_text (T : TopTxt K w mg c) : ∀ a H Q, pr_is_text K a H Q → t_is_text K c (D0 Q) (start ["codes", "code"] [a]) H := by
  rintro _ H Q ⟨p, zs, rfl, hp, q⟩
  have hl : (intsV zs).length = zs.length := List.length_map ..
  refine ⟨_, rfl, _, _, rfl, .inl hp, _, _, rfl, rfl, _, rfl, ?_⟩
  rw [hl]
  show if decide ((80 : Int) < (zs.length : Int)) = true then _ else _
  unfold isTextB at q
  by_cases h : zs.length ≤ 80
  · rw [decide_eq_true h, Bool.true_and] at q
    refine if_false_of (decide_eq_false (by omega)) ?_
    refine ⟨_, rfl, _, rfl, ⟨_, hp⟩, for_list (K := K) (xs := intsV zs) (fun j σ H' => H' = H ∧ (∃ v, σ = [some (.ref p), v]) ∧ (zs.take j).all (fun z => decide (32 ≤ z) && decide (z ≤ 126)) = true) ⟨rfl, ⟨none, rfl⟩, rfl⟩ (fun j σ H' _ h => by rw [h.1]; exact hp) ?_ ?_⟩
    · rintro j x σ H' hx ⟨rfl, ⟨v, rfl⟩, hall⟩
      obtain ⟨z, hz, rfl⟩ := map_at hx
      have bad : (decide (32 ≤ z) && decide (z ≤ 126)) = false → Q (V.bl false) H' := fun hb => by
        have : (zs.all fun z => decide (32 ≤ z) && decide (z ≤ 126)) = false := by
          cases e : zs.all fun z => decide (32 ≤ z) && decide (z ≤ 126) with
          | false => rfl
          | true => rw [List.all_eq_true.mp e z (List.mem_of_getElem? hz)] at hb; cases hb
        rw [this] at q; exact q
      refine ⟨_, rfl, _, _, rfl, rfl, _, rfl, ?_⟩
      show if decide (z < (32 : Int)) = true then _ else _
      by_cases h1 : z < 32
      · refine if_true_of (decide_eq_true h1) (if_true_of rfl (bad ?_))
        rw [decide_eq_false (show ¬ (32 : Int) ≤ z by omega)]; rfl
      · refine if_false_of (decide_eq_false h1) ?_
        refine ⟨_, rfl, _, _, rfl, rfl, _, rfl, ?_⟩
        show if decide ((126 : Int) < z) = true then _ else _
        by_cases h2 : 126 < z
        · refine if_true_of (decide_eq_true h2) (bad ?_)
          rw [decide_eq_false (show ¬ z ≤ (126 : Int) by omega), Bool.and_false]
        · refine if_false_of (decide_eq_false h2) ⟨rfl, ⟨_, rfl⟩, take_all hz hall ?_⟩
          rw [decide_eq_true (show (32 : Int) ≤ z by omega), decide_eq_true (show z ≤ (126 : Int) by omega)]; rfl
    · rintro σ H' ⟨rfl, ⟨v, rfl⟩, hall⟩
      rw [hl, List.take_length] at hall
      rw [hall] at q
      exact q
  · rw [decide_eq_false h] at q
    exact if_true_of (decide_eq_true (by omega)) q
theorem txt_size (b : Bytes) : (txt b).cps.size = b.length := by show b.toArray.size = _; simp
theorem txt_at {b : Bytes} {i x : Nat} (h : (txt b).cps[i]? = some x) : b[i]? = some x := by
  have : (b.toArray)[i]? = some x := h
  simpa using this
theorem pure_codes_of (T : TopTxt K w mg c) : ∀ a H Q, pr_codes_of a H Q → t_codes_of K c (D0 Q) (start ["text", "sign"] [a]) H := by
  rintro _ H Q ⟨b, rfl, hb, q⟩
  refine ⟨_, rfl, _, rfl, fun D nD => ?_⟩
  refine lc_it walk_str (fun j H1 => H1 = upd H D (.lst (natsV (b.take j)))) rfl (fun _ _ _ _ => trivial) ?_ ?_
  · rintro j x H1 H2 hj rfl ⟨rfl, ch, hch, rfl⟩
    have hb2 := txt_at hch
    refine ⟨rfl, ?_⟩
    refine ⟨_, rfl, _, rfl, rfl, _, upd_same, ?_, ?_⟩
    · unfold natsV
      rw [List.length_map, List.length_take]
      rw [txt_size] at hj
      exact Nat.lt_of_lt_of_le (show min j b.length < 1000000 by omega) line_big
    · show upd _ _ _ = upd _ _ _
      rw [upd_upd, take_snoc hb2, natsV_snoc]
      rfl
  · rintro H1 rfl
    rw [txt_size, List.take_length]
    exact q _ D (same_new nD) nD upd_same
/-! ### the table of signs -/
theorem signs_txt : TL.tl (Str.ofString " ,0123456789abcdefghijklmnopqrstuvwxyz") = signs := by rw [TL.tl_ofString]; decide
def signKV (l : List Nat) : List (Key × V) := l.map fun (z : Nat) => (.inl (z : Int), .str ⟨#[z]⟩)
theorem signKV_val (z : Nat) : ∀ l : List Nat, valV (signKV l) (.inl (z : Int)) = if z ∈ l then some (.str ⟨#[z]⟩) else none
  | [] => by simp [signKV, valV]
  | a :: r => by
    show valV ((.inl (a : Int), .str ⟨#[a]⟩) :: signKV r) _ = _
    by_cases e : a = z
    · subst e
      rw [valV_pos rfl, if_pos (List.mem_cons_self ..)]
    · rw [valV_neg (show ¬ (Sum.inl (a : Int) : Key) = Sum.inl (z : Int) from fun h => e (by have := Sum.inl.inj h; omega)), signKV_val z r]
      have : (z ∈ a :: r) ↔ z ∈ r := by simp [Ne.symm e]
      simp only [this]
theorem signKV_snoc (l : List Nat) (z : Nat) (h : z ∉ l) : putK (signKV l) (.inl (z : Int)) (.str ⟨#[z]⟩) = signKV (l ++ [z]) := by
  rw [putK_new _ (by rw [signKV_val, if_neg h])]
  unfold signKV
  rw [List.map_append]; rfl
theorem join_empty : ∀ l : List Nat, TL.joinL [] (l.map fun z => [z]) = l
  | [] => rfl
  | [_] => rfl
  | a :: b :: r => by
    show [a] ++ ([] ++ TL.joinL [] ((b :: r).map fun z => [z])) = a :: b :: r
    rw [join_empty (b :: r)]; rfl
theorem join_signs (l : List Nat) : _root_.PySem.Txt.join (Str.ofString "") (l.map fun z => (⟨#[z]⟩ : Str)) = txt l := by
  apply TL.ext_tl
  rw [TL.join_eq, TL.tl_join, TL.tl_ofString, List.map_map]
  have e : (TL.tl ∘ fun z => (⟨#[z]⟩ : Str)) = fun z => [z] := rfl
  rw [e]
  exact join_empty l
theorem getD_sign (t : Nat) : (valV (signKV signs) (.inl (t : Int))).getD (.str "?") = .str ⟨#[signOf t]⟩ := by
  rw [signKV_val]
  unfold signOf
  split
  · rfl
  · show V.str (Str.ofString "?") = V.str ⟨#[63]⟩
    decide +kernel
theorem pure_words_of (T : TopTxt K w mg c) : ∀ a H Q, pr_words_of K a H Q → t_words_of K c (D0 Q) (start ["codes", "known", "sign", "code"] [a]) H := by
  rintro _ H Q ⟨p, ts, rfl, hp, hl, q⟩
  intro d nd
  have sg := signs_txt
  have ssize : (Str.ofString " ,0123456789abcdefghijklmnopqrstuvwxyz").cps.size = 38 := by
    have : (TL.tl (Str.ofString " ,0123456789abcdefghijklmnopqrstuvwxyz")).length = 38 := by rw [sg]; decide
    simpa [TL.tl] using this
  refine ⟨_, rfl, for_it walk_str (fun j σ H' => H' = upd H d (.dK (signKV (signs.take j))) ∧ ∃ v, σ = [some (.ref p), some (.ref d), v, none]) ⟨rfl, none, rfl⟩ (fun _ _ _ _ _ => trivial) ?_ ?_⟩
  · rintro j x σ H1 H2 hj ⟨rfl, v, rfl⟩ ⟨rfl, ch, hch, rfl⟩
    have hs : signs[j]? = some ch := by
      have h2 : (TL.tl (Str.ofString " ,0123456789abcdefghijklmnopqrstuvwxyz"))[j]? = some ch := by
        show (Array.toList _)[j]? = _
        rw [Array.getElem?_toList]; exact hch
      rw [sg] at h2; exact h2
    have hnot : ch ∉ signs.take j := by
      intro z
      obtain ⟨i, hi, ei⟩ := List.mem_iff_getElem.mp z
      rw [List.getElem_take] at ei
      rw [List.length_take] at hi
      have h1 : signs[i]? = some ch := by rw [List.getElem?_eq_getElem (by omega), ei]
      have := nd_ix (show signs.Nodup by decide) h1 hs
      omega
    refine ⟨_, rfl, _, rfl, _, rfl, _, rfl, rfl, _, _, rfl, DPut.k (k := .inl (ch : Int)) upd_same ?_, ?_⟩
    · unfold signKV
      rw [List.length_map, List.length_take]
      have : signs.length = 38 := by decide
      exact len_lt (m := 38) (by omega) (by decide)
    · refine ⟨?_, _, rfl⟩
      show upd (upd H d _) d (.dK (putK (signKV (signs.take j)) (.inl (ch : Int)) (.str ⟨#[ch]⟩))) = _
      rw [upd_upd, signKV_snoc _ _ hnot, ← take_snoc hs]
  · rintro σ H1 ⟨rfl, v, rfl⟩
    rw [ssize]
    have st : signs.take 38 = signs := by decide
    rw [st]
    have sm1 := same_new (o := .dK (signKV signs)) nd
    have hp1 := sm1.seq hp
    refine ⟨⟨_, rfl⟩, _, rfl, _, rfl, ⟨_, hp1⟩, fun D nD => ?_⟩
    have dD : d ≠ D := ne_of_none upd_same nD
    have sm2 : ∀ o, Same (upd H d (.dK (signKV signs))) (upd (upd H d (.dK (signKV signs))) D o) := fun o => same_new nD
    refine lc_list (K := K) (xs := natsV ts) (fun j H1 => H1 = upd (upd H d (.dK (signKV signs))) D (.lst (((ts.take j).map fun t => (⟨#[signOf t]⟩ : Str)).map V.str))) rfl (fun j H1 _ h => by rw [h]; exact (same_new nD).seq hp1) ?_ ?_
    · rintro j y H2 hy rfl
      obtain ⟨t, ht, rfl⟩ := map_at hy
      refine ⟨rfl, ?_⟩
      have hd2 : upd (upd H d (.dK (signKV signs))) D (.lst (((ts.take j).map fun t => (⟨#[signOf t]⟩ : Str)).map V.str)) d = some (.dK (signKV signs)) := by rw [upd_ne dD]; exact upd_same
      refine ⟨_, rfl, _, rfl, isD_of hd2, _, rfl, _, DGet.k (k := .inl (t : Int)) hd2, _, upd_same, ?_, ?_⟩
      · rw [List.length_map, List.length_map, List.length_take]
        exact len_lt (m := 80) (by omega) (by decide)
      · show upd _ _ _ = upd _ _ _
        rw [getD_sign, upd_upd, take_snoc ht, List.map_append, List.map_append]; rfl
    · rintro H2 rfl
      have e1 : (natsV ts).length = ts.length := List.length_map ..
      rw [e1, List.take_length]
      refine ⟨_, D, ts.map fun t => (⟨#[signOf t]⟩ : Str), rfl, rfl, .inl (SqL.of upd_same), ?_, ?_⟩
      · have z := sum_le (m := 1) (l := (ts.map fun t => (⟨#[signOf t]⟩ : Str)).map (·.length)) (fun x hx => by
          obtain ⟨y, hy, rfl⟩ := List.mem_map.mp hx
          obtain ⟨t, _, rfl⟩ := List.mem_map.mp hy
          exact Nat.le_refl _)
        have y0 : (Str.ofString "").length = 0 := by decide +kernel
        rw [y0, List.length_map]
        rw [List.length_map, List.length_map] at z
        omega
      · have ej : (ts.map fun t => (⟨#[signOf t]⟩ : Str)) = (ts.map signOf).map fun z => (⟨#[z]⟩ : Str) := by rw [List.map_map]; rfl
        rw [ej, join_signs]
        refine ⟨⟨_, rfl⟩, _, _, rfl, rfl, by decide +kernel, ?_, ?_⟩
        · rw [txt_len, List.length_map]
          exact Nat.le_trans (show ts.length + 2 ≤ 100 by omega) (by decide)
        · intro r nr
          rw [split_txt sp_tl (by decide +kernel)]
          refine q _ r ((sm1.trans (sm2 _)).trans (same_new nr)) ((sm1.trans (sm2 _)).free nr) ?_
          rw [upd_same, strsV_txt]
theorem pure_read_event (T : TopTxt K w mg c) : ∀ a H Q, pr_read_event a H Q → t_read_event K c (D0 Q) (start ["word"] [a]) H := by
  rintro _ H Q ⟨wd, rfl, q⟩
  refine ⟨_, rfl, _, _, rfl, .inr (T.s_EVENTS H), rfl, rfl, _, rfl, ?_⟩
  have e1 : ([.str "made", .str "used", .str "ended"] : List V) = strsV [Kp01.ascii "made", Kp01.ascii "used", Kp01.ascii "ended"] := by
    unfold strsV
    simp only [List.map_cons, List.map_nil, txt_ascii]
  show if inV (.str (txt wd)) _ = true then _ else _
  rw [e1, in_names]
  unfold eventV Kp01.event? at q
  by_cases h1 : wd = Kp01.ascii "made"
  · rw [if_pos h1] at q
    refine if_true_of (by rw [h1]; rfl) ⟨_, rfl, ?_⟩
    rw [h1, txt_ascii]; exact q
  · rw [if_neg h1] at q
    by_cases h2 : wd = Kp01.ascii "used"
    · rw [if_pos h2] at q
      refine if_true_of (by rw [h2]; rfl) ⟨_, rfl, ?_⟩
      rw [h2, txt_ascii]; exact q
    · rw [if_neg h2] at q
      by_cases h3 : wd = Kp01.ascii "ended"
      · rw [if_pos h3] at q
        refine if_true_of (by rw [h3]; rfl) ⟨_, rfl, ?_⟩
        rw [h3, txt_ascii]; exact q
      · rw [if_neg h3] at q
        refine if_false_of ?_ q
        simp only [List.any_cons, List.any_nil, Bool.or_false]
        rw [beq_eq_false_iff_ne.mpr (Ne.symm h1), beq_eq_false_iff_ne.mpr (Ne.symm h2), beq_eq_false_iff_ne.mpr (Ne.symm h3)]; rfl
def letters : List Nat := [97, 98, 99, 100, 101, 102, 103, 104, 105, 106, 107, 108, 109, 110, 111, 112, 113, 114, 115, 116, 117, 118, 119, 120, 121, 122]
theorem letters_txt : TL.tl (Str.ofString "abcdefghijklmnopqrstuvwxyz") = letters := by rw [TL.tl_ofString]; decide
theorem small_mem (x : Nat) : decide (x ∈ letters) = Kp01.small x := by
  unfold Kp01.small
  have e : letters = (List.range 26).map (97 + ·) := by decide
  rw [e, Bool.eq_iff_iff]
  simp only [decide_eq_true_eq, List.mem_map, List.mem_range, Bool.and_eq_true]
  constructor
  · rintro ⟨a, ha, rfl⟩; omega
  · intro h; exact ⟨x - 97, by omega, by omega⟩
theorem pure_read_name (T : TopTxt K w mg c) : ∀ a H Q, pr_read_name a H Q → t_read_name K c (D0 Q) (start ["word", "sign"] [a]) H := by
  rintro _ H Q ⟨wd, rfl, hw, q⟩
  have wl : (txt wd).length ≤ sizeLine := by rw [txt_len]; exact Nat.le_trans hw (by decide)
  have bad : Kp01.isName wd = false → Q .non H := fun h => by unfold nameV at q; rw [if_neg (by rw [h]; simp)] at q; exact q
  refine ⟨_, rfl, _, rfl, wl, _, _, rfl, rfl, _, rfl, ?_⟩
  rw [txt_len]
  show if decide ((1 : Int) ≤ (wd.length : Int)) = true then _ else _
  by_cases h1 : 1 ≤ wd.length
  · refine if_true_of (decide_eq_true (by omega)) ⟨_, _, rfl, rfl, _, rfl, ?_⟩
    show if (!decide ((wd.length : Int) ≤ (8 : Int))) = true then _ else _
    by_cases h2 : wd.length ≤ 8
    · refine if_false_of (by rw [decide_eq_true (by omega)]; rfl) ?_
      refine ⟨_, rfl, _, _, rfl, .inr (T.s_NOT_NAMES H), rfl, rfl, _, rfl, ?_⟩
      have e1 : ([.str "any", .str "main"] : List V) = strsV [Kp01.ascii "any", Kp01.ascii "main"] := by
        unfold strsV
        simp only [List.map_cons, List.map_nil, txt_ascii]
      show if inV (.str (txt wd)) _ = true then _ else _
      rw [e1, in_names]
      have nm : Kp01.isName wd = (wd.all Kp01.small && (wd != Kp01.ascii "any" && wd != Kp01.ascii "main")) := by
        unfold Kp01.isName
        rw [decide_eq_true h1, decide_eq_true h2]; rfl
      by_cases h3 : wd = Kp01.ascii "any"
      · refine if_true_of (by rw [h3]; rfl) (bad ?_)
        rw [nm, h3]; rfl
      · by_cases h4 : wd = Kp01.ascii "main"
        · refine if_true_of (by rw [h4]; rfl) (bad ?_)
          rw [nm, h4]; rfl
        · refine if_false_of ?_ ?_
          · simp only [List.any_cons, List.any_nil, Bool.or_false]
            rw [beq_eq_false_iff_ne.mpr (Ne.symm h3), beq_eq_false_iff_ne.mpr (Ne.symm h4)]; rfl
          · have nm2 : Kp01.isName wd = wd.all Kp01.small := by
              rw [nm]
              have a1 : (wd != Kp01.ascii "any") = true := by simpa using h3
              have a2 : (wd != Kp01.ascii "main") = true := by simpa using h4
              rw [a1, a2]; simp
            refine ⟨_, rfl, _, rfl, for_it walk_str (fun j σ H' => H' = H ∧ (∃ v, σ = [some (.str (txt wd)), v]) ∧ (wd.take j).all Kp01.small = true) ⟨rfl, ⟨none, rfl⟩, rfl⟩ (fun _ _ _ _ _ => trivial) ?_ ?_⟩
            · rintro j x σ H1 H2 hj ⟨rfl, ⟨v, rfl⟩, hall⟩ ⟨rfl, ch, hch, rfl⟩
              have hc := txt_at hch
              refine ⟨_, rfl, _, _, rfl, rfl, _, rfl, ?_⟩
              show if (!decide (ch ∈ TL.tl (Str.ofString "abcdefghijklmnopqrstuvwxyz"))) = true then _ else _
              rw [letters_txt, small_mem]
              cases hs : Kp01.small ch with
              | true => exact if_false_of rfl ⟨rfl, ⟨_, rfl⟩, take_all hc hall hs⟩
              | false =>
                refine if_true_of rfl (bad ?_)
                rw [nm2]
                cases e : wd.all Kp01.small with
                | false => rfl
                | true => rw [List.all_eq_true.mp e ch (List.mem_of_getElem? hc)] at hs; cases hs
            · rintro σ H1 ⟨rfl, ⟨v, rfl⟩, hall⟩
              rw [txt_size, List.take_length] at hall
              refine ⟨_, rfl, ?_⟩
              unfold nameV at q
              rw [nm2, if_pos hall] at q
              exact q
    · refine if_true_of (by rw [decide_eq_false (by omega)]; rfl) (if_true_of rfl (bad ?_))
      unfold Kp01.isName
      rw [decide_eq_false h2]; simp
  · refine if_false_of (decide_eq_false (by omega)) ⟨_, rfl, if_true_of rfl (if_true_of rfl (bad ?_))⟩
    unfold Kp01.isName
    rw [decide_eq_false h1]; rfl
theorem pure_read_name_or_any (T : TopTxt K w mg c) : ∀ a H Q, pr_read_name_or_any a H Q → t_read_name_or_any K c (D0 Q) (start ["word"] [a]) H := by
  rintro _ H Q ⟨wd, rfl, hw, q⟩
  refine ⟨_, rfl, rfl, _, rfl, ?_⟩
  have e : decide (V.str (txt wd) = V.str (Str.ofString "any")) = (wd == Kp01.ascii "any") := by rw [← txt_ascii, dec_txt]
  rw [e]
  by_cases h : wd = Kp01.ascii "any"
  · rw [if_pos h] at q
    exact if_true_of (by simp [h]) ⟨_, rfl, q⟩
  · rw [if_neg h] at q
    exact if_false_of (beq_eq_false_iff_ne.mpr h) ⟨_, rfl, wd, rfl, hw, q⟩
end
end Kr

set_option Elab.async false
set_option linter.all false
set_option maxRecDepth 100000
set_option maxHeartbeats 2000000
namespace Kr
open PySem PySem.Spec PyProof.Rows L2
section
variable {K : PySem.W.Frag} {w : World} {mg : Str → Option Value} {c : Cs}
theorem digit_clean : ∀ x ∈ 63 :: signs, Unicode.isDigit x = Kp01.digit x := by decide +kernel
theorem isdigit_txt {wd : Bytes} (hc : clean wd) : _root_.PySem.Txt.isdigit (txt wd) = (decide (0 < wd.length) && wd.all Kp01.digit) := by
  unfold PySem.Txt.isdigit
  rw [txt_len]
  have e : (txt wd).cps.all Unicode.isDigit = wd.all Kp01.digit := by
    show (wd.toArray).all Unicode.isDigit = _
    rw [List.all_toArray]
    rw [Bool.eq_iff_iff, List.all_eq_true, List.all_eq_true]
    constructor
    · intro h x hx
      rw [← digit_clean x (by rcases hc x hx with z | z; exact List.mem_cons_of_mem _ z; rw [z]; exact List.mem_cons_self ..)]; exact h x hx
    · intro h x hx
      rw [digit_clean x (by rcases hc x hx with z | z; exact List.mem_cons_of_mem _ z; rw [z]; exact List.mem_cons_self ..)]; exact h x hx
  rw [e]
theorem starts_zero (wd : Bytes) (h : 1 < wd.length) : _root_.PySem.Txt.startswith (txt wd) (Str.ofString "0") = decide (wd.headD 0 = 48) := by
  unfold PySem.Txt.startswith
  have l0 : (Str.ofString "0").length = 1 := by decide +kernel
  rw [StrLaws.subAt_eq, l0, txt_len, decide_eq_true (show 0 + 1 ≤ wd.length by omega), Bool.true_and]
  show ((wd.drop 0).take 1 == TL.tl (Str.ofString "0")) = _
  rw [TL.tl_ofString]
  cases wd with
  | nil => simp at h
  | cons a r =>
    show ([a] == [48]) = decide (a = 48)
    by_cases z : a = 48
    · subst z; rfl
    · rw [decide_eq_false z]; simp [z]
theorem fold_digits (l : Bytes) : ∀ a, l.foldl (fun n x => 10 * n + (x - 48)) a = l.foldl (fun acc x => acc * 10 + (x - 48)) a := by
  induction l with
  | nil => intro _; rfl
  | cons x r ih => intro a; rw [List.foldl_cons, List.foldl_cons, Nat.mul_comm]; exact ih _
theorem pure_read_number (T : TopTxt K w mg c) : ∀ a b d H Q, pr_read_number a b d H Q → t_read_number K c (D0 Q) (start ["word", "lowest", "highest", "number"] [a, b, d]) H := by
  rintro _ _ _ H Q ⟨wd, lo, hi, rfl, rfl, rfl, hw, hc, q⟩
  have wl : (txt wd).length ≤ sizeLine := by rw [txt_len]; exact Nat.le_trans hw (by decide)
  have bad : Kp01.num? lo hi wd = none → Q .non H := fun h => by unfold numV at q; rw [h] at q; exact q
  have none_of : (wd = [] ∨ 4 < wd.length ∨ wd.all Kp01.digit = false ∨ (1 < wd.length ∧ wd.headD 0 = 48)) → Kp01.num? lo hi wd = none := fun h => by unfold Kp01.num?; rw [if_pos h]
  refine ⟨_, rfl, ⟨_, rfl⟩, _, rfl, rfl, trivial, _, rfl, ?_⟩
  rw [isdigit_txt hc]
  by_cases h0 : wd = []
  · refine if_true_of (by rw [h0]; rfl) (if_true_of rfl (bad (none_of (.inl h0))))
  · have hpos : 0 < wd.length := List.length_pos_iff.mpr h0
    rw [decide_eq_true hpos, Bool.true_and]
    cases hd : wd.all Kp01.digit with
    | false => exact if_true_of rfl (if_true_of rfl (bad (none_of (.inr (.inr (.inl hd))))))
    | true =>
      refine if_false_of rfl ?_
      refine ⟨_, rfl, _, rfl, wl, _, _, rfl, rfl, _, rfl, ?_⟩
      rw [txt_len]
      show if decide ((4 : Int) < (wd.length : Int)) = true then _ else _
      by_cases h4 : 4 < wd.length
      · exact if_true_of (decide_eq_true (by omega)) (bad (none_of (.inr (.inl h4))))
      · refine if_false_of (decide_eq_false (by omega)) ?_
        refine ⟨_, rfl, _, rfl, wl, _, _, rfl, rfl, _, rfl, ?_⟩
        rw [txt_len]
        show if decide ((1 : Int) < (wd.length : Int)) = true then _ else _
        have rest : ¬ (1 < wd.length ∧ wd.headD 0 = 48) → tSeq (tAsg (tCB rIntS (tCons (tVar 0) tNil)) (gName 3)) (tSeq (tIfS (tTest (tChain rLe rLe (tVar 1) (tVar 3) (tVar 2))) (tRet (tVar 3)) tNext) (tRet (tC .non))) (D0 Q) [some (.str (txt wd)), some (.int (lo : Nat)), some (.int (hi : Nat)), none] H := by
          intro hz
          have hall : NumText.AllDigits (txt wd).cps.toList := fun x hx => by
            have := List.all_eq_true.mp hd x hx
            unfold Kp01.digit at this
            simpa using this
          have iv := PySem.intText_digits (x := txt wd) hall (by show wd ≠ []; exact h0) (by rw [txt_len]; omega)
          have en : Kp01.num? lo hi wd = if lo ≤ NumText.digitsVal wd ∧ NumText.digitsVal wd ≤ hi then some (NumText.digitsVal wd) else none := by
            unfold Kp01.num?
            rw [if_neg (by
              rintro (h | h | h | h)
              · exact h0 h
              · exact h4 h
              · rw [hd] at h; cases h
              · exact hz h)]
            dsimp only
            rw [fold_digits]
            rfl
          refine ⟨_, rfl, _, _, rfl, iv, by rw [txt_len]; omega, ?_⟩
          refine ⟨_, rfl, _, rfl, _, _, rfl, rfl, _, rfl, ?_⟩
          show if decide ((lo : Int) ≤ ((NumText.digitsVal wd : Nat) : Int)) = true then _ else _
          by_cases hlo : lo ≤ NumText.digitsVal wd
          · refine if_true_of (decide_eq_true (by omega)) ⟨_, rfl, _, _, rfl, rfl, _, rfl, ?_⟩
            show if decide (((NumText.digitsVal wd : Nat) : Int) ≤ (hi : Int)) = true then _ else _
            by_cases hhi : NumText.digitsVal wd ≤ hi
            · refine if_true_of (decide_eq_true (by omega)) ⟨_, rfl, ?_⟩
              unfold numV at q
              rw [en, if_pos ⟨hlo, hhi⟩] at q
              exact q
            · refine if_false_of (decide_eq_false (by omega)) (bad ?_)
              rw [en, if_neg (fun h => hhi h.2)]
          · refine if_false_of (decide_eq_false (by omega)) ⟨_, rfl, if_false_of rfl (bad ?_)⟩
            rw [en, if_neg (fun h => hlo h.1)]
        by_cases h1 : 1 < wd.length
        · refine if_true_of (decide_eq_true (by omega)) ?_
          refine ⟨_, rfl, ⟨_, rfl⟩, _, _, rfl, rfl, _, rfl, ?_⟩
          rw [starts_zero wd h1]
          by_cases hz : wd.headD 0 = 48
          · exact if_true_of (decide_eq_true hz) (bad (none_of (.inr (.inr (.inr ⟨h1, hz⟩)))))
          · exact if_false_of (decide_eq_false hz) (rest fun h => hz h.2)
        · exact if_false_of (decide_eq_false (by omega)) (if_false_of rfl (rest fun h => h1 h.1))
theorem pure_read_span (T : TopTxt K w mg c) : ∀ a H Q, pr_read_span a H Q → t_read_span K c (D0 Q) (start ["word"] [a]) H := by
  rintro _ H Q ⟨wd, rfl, hw, hc, q⟩
  exact ⟨_, rfl, wd, 0, 4000, rfl, rfl, rfl, hw, hc, q⟩
theorem pure_read_days (T : TopTxt K w mg c) : ∀ a H Q, pr_read_days a H Q → t_read_days K c (D0 Q) (start ["word"] [a]) H := by
  rintro _ H Q ⟨wd, rfl, hw, hc, q⟩
  exact ⟨_, rfl, wd, 1, 400, rfl, rfl, rfl, hw, hc, q⟩
theorem pure_read_record (T : TopTxt K w mg c) : ∀ a H Q, pr_read_record a H Q → t_read_record K c (D0 Q) (start ["word"] [a]) H := by
  rintro _ H Q ⟨wd, rfl, hw, hc, q⟩
  exact ⟨_, rfl, wd, 0, 99, rfl, rfl, rfl, hw, hc, q⟩
theorem comma_tl : TL.tl (Str.ofString ",") = [44] := by rw [TL.tl_ofString]; rfl
theorem last_snoc {l : List Nat} {a : Nat} (h : l.getLast? = some a) : ∃ m, l = m ++ [a] := by
  rw [List.getLast?_eq_some_iff] at h
  exact h
theorem recGo_cons (p : Bytes) (ps : List Bytes) (acc : List Nat) : recGo (p :: ps) acc = match Kp01.num? 0 99 p with
    | none => none
    | some n => if (match acc.getLast? with
      | none => false
      | some a => decide (n ≤ a)) = true then none else recGo ps (acc ++ [n]) := rfl
theorem pure_read_records (T : TopTxt K w mg c) : ∀ a H Q, pr_read_records a H Q → t_read_records K c (D0 Q) (start ["word", "numbers", "part", "number"] [a]) H := by
  rintro _ H Q ⟨wd, rfl, hw, hc, q⟩
  refine ⟨by show 0 ≤ sizeLine; exact Nat.zero_le _, fun p np => ?_⟩
  have hrec := records_eq wd
  refine ⟨_, rfl, ⟨_, rfl⟩, _, _, rfl, rfl, by decide +kernel, ?_, fun r nr => ?_⟩
  · rw [txt_len]; exact Nat.le_trans (show wd.length + 2 ≤ 100 by omega) (by decide)
  rw [split_txt comma_tl (by decide +kernel)]
  have pr : p ≠ r := ne_of_none upd_same nr
  obtain ⟨P, hP⟩ : ∃ P, P = Kp01.parted 44 wd := ⟨_, rfl⟩
  rw [← hP] at hrec ⊢
  have plen : P.length ≤ 81 := by rw [hP]; have := parted_count 44 wd; omega
  have pword : ∀ x ∈ P, x.length ≤ 80 ∧ clean x := fun x hx => by
    rw [hP] at hx
    exact ⟨Nat.le_trans (parted_len hx) hw, fun y hy => hc y (parted_mem hx hy)⟩
  have nHr : H r = none := by have z := nr; rw [upd_ne pr.symm] at z; exact z
  have failed : recGo P [] = none → ∀ H', Same H H' → Q .non H' := fun h H' sm => by
    rw [h] at hrec
    rw [hrec] at q
    exact q H' sm
  have smOf : ∀ l, Same H (upd (upd (upd H p (.lst [])) r (.lst ((P.map txt).map V.str))) p (.lst (natsV l))) := fun l b u hb => by
    rw [upd_ne (ne_of_none hb np), upd_ne (ne_of_none hb nHr), upd_ne (ne_of_none hb np)]; exact hb
  refine ⟨_, rfl, ⟨_, SqL.of upd_same⟩, for_list (K := K) (xs := (P.map txt).map V.str)
    (fun j σ H' => ∃ acc v2 v3, H' = upd (upd (upd H p (.lst [])) r (.lst ((P.map txt).map V.str))) p (.lst (natsV acc)) ∧ σ = [some (.str (txt wd)), some (.ref p), v2, v3] ∧ acc.length = j ∧ recGo P [] = recGo (P.drop j) acc)
    ⟨[], none, none, ?_, rfl, rfl, rfl⟩ (fun j σ H' _ h => ?_) ?_ ?_⟩
  · funext b
    by_cases z : b = p
    · subst z; rw [upd_same, upd_ne pr, upd_same]; rfl
    · rw [upd_ne z]
  · obtain ⟨acc, v2, v3, rfl, _⟩ := h
    exact SqL.of (by rw [upd_ne pr.symm]; exact upd_same)
  · rintro j x σ H' hx ⟨acc, v2, v3, rfl, rfl, hal, hgo⟩
    have hx' : (P.map fun b => V.str (txt b))[j]? = some x := by rw [List.map_map] at hx; exact hx
    obtain ⟨pt, hpt, rfl⟩ := map_at hx'
    obtain ⟨w1, w2⟩ := pword pt (List.mem_of_getElem? hpt)
    have hdrop : P.drop j = pt :: P.drop (j + 1) := by
      have hj := (List.getElem?_eq_some_iff.mp hpt)
      rw [List.drop_eq_getElem_cons hj.1, hj.2]
    rw [hdrop, recGo_cons] at hgo
    refine ⟨_, rfl, pt, rfl, w1, w2, ?_⟩
    refine ⟨_, rfl, _, rfl, ?_⟩
    unfold numV
    cases hn : Kp01.num? 0 99 pt with
    | none =>
      rw [hn] at hgo
      exact if_true_of rfl (failed hgo _ (smOf acc))
    | some n =>
      rw [hn] at hgo
      dsimp only at hgo
      refine if_false_of (by simp) ?_
      have hp' : upd (upd (upd H p (.lst [])) r (.lst ((P.map txt).map V.str))) p (.lst (natsV acc)) p = some (.lst (natsV acc)) := upd_same
      have app : recGo P [] = recGo (P.drop (j + 1)) (acc ++ [n]) → tDrop (tBM K "list" rAppend (tVar 1) (tCons (tVar 3) tNil)) { nx := fun σ H' => ∃ acc v2 v3, H' = upd (upd (upd H p (.lst [])) r (.lst ((P.map txt).map V.str))) p (.lst (natsV acc)) ∧ σ = [some (.str (txt wd)), some (.ref p), v2, v3] ∧ acc.length = j + 1 ∧ recGo P [] = recGo (P.drop (j + 1)) acc, rt := Q } [some (.str (txt wd)), some (.ref p), some (.str (txt pt)), some (.int (n : Nat))] (upd (upd (upd H p (.lst [])) r (.lst ((P.map txt).map V.str))) p (.lst (natsV acc))) := by
        intro hg
        refine ⟨_, rfl, ty_list hp', _, rfl, _, _, _, rfl, rfl, hp', ?_, ?_⟩
        · unfold natsV
          rw [List.length_map]
          have hjl := (List.getElem?_eq_some_iff.mp hpt).1
          exact len_lt (m := 100) (by omega) (by decide)
        · refine ⟨acc ++ [n], _, _, ?_, rfl, by rw [List.length_append]; simp [hal], hg⟩
          rw [upd_upd, natsV_snoc]
      cases hlast : acc.getLast? with
      | none =>
        have ea : acc = [] := by simpa using hlast
        rw [hlast] at hgo
        dsimp only at hgo
        rw [if_neg (by simp)] at hgo
        refine ⟨_, rfl, false, .inl ⟨_, SqL.of hp', by rw [ea]; rfl⟩, ?_⟩
        refine if_false_of rfl (if_false_of rfl ?_)
        exact app hgo
      | some a =>
        rw [hlast] at hgo
        dsimp only at hgo
        obtain ⟨m, hm⟩ := last_snoc hlast
        refine ⟨_, rfl, true, .inl ⟨_, SqL.of hp', by rw [hm, natsV_snoc]; cases natsV m <;> rfl⟩, ?_⟩
        refine if_true_of rfl ?_
        refine ⟨_, rfl, _, rfl, _, rfl, ?_⟩
        refine ⟨_, _, _, V.int (a : Nat), rfl, rfl, SqL.of hp', by rw [hm, natsV_snoc]; exact atI_last _ _, ?_⟩
        refine ⟨_, _, rfl, rfl, _, rfl, ?_⟩
        show if decide ((n : Int) ≤ (a : Int)) = true then _ else _
        rw [dec_len]
        by_cases hle : n ≤ a
        · rw [if_pos (decide_eq_true hle)] at hgo
          exact if_true_of (decide_eq_true hle) (failed hgo _ (smOf acc))
        · rw [if_neg (by simpa using hle)] at hgo
          exact if_false_of (decide_eq_false hle) (app hgo)
  · rintro σ H' ⟨acc, v2, v3, rfl, rfl, hal, hgo⟩
    have hlen : ((P.map txt).map V.str).length = P.length := by rw [List.length_map, List.length_map]
    rw [hlen, List.drop_length] at hgo
    have hgo : recGo P [] = some acc := hgo
    rw [hgo] at hrec
    replace hrec : Kp01.records? wd = if acc.length ≤ 4 then some acc else none := hrec
    have hp' : upd (upd (upd H p (.lst [])) r (.lst ((P.map txt).map V.str))) p (.lst (natsV acc)) p = some (.lst (natsV acc)) := upd_same
    refine ⟨_, rfl, _, _, rfl, .inl (SqL.of hp'), _, _, rfl, rfl, _, rfl, ?_⟩
    have e1 : (natsV acc).length = acc.length := List.length_map ..
    rw [e1]
    show if decide ((4 : Int) < (acc.length : Int)) = true then _ else _
    by_cases h4 : acc.length ≤ 4
    · rw [if_pos h4] at hrec
      rw [hrec] at q
      refine if_false_of (decide_eq_false (by omega)) ⟨_, rfl, ?_⟩
      exact q _ p (smOf acc) np hp'
    · rw [if_neg h4] at hrec
      rw [hrec] at q
      exact if_true_of (decide_eq_true (by omega)) (q _ (smOf acc))
end
end Kr

set_option Elab.async false
set_option linter.all false
set_option maxRecDepth 100000
set_option maxHeartbeats 2000000
namespace Kr
open PySem PySem.Spec PyProof.Rows L2
section
variable (c : Cs)
/-- the texts' forms, in the table's order -/
def formTexts : List String := ["person NAME", "consent NAME NAME", "withdraw NAME NAME", "object NAME", "ended NAME", "forget NAME", "ground NAME NAME law SPAN EVENT", "ground NAME NAME need SPAN EVENT", "ground NAME NAME for NAME SPAN EVENT", "void NAME", "store NAME roll DAYS", "store NAME other", "deaf NAME", "hears NAME",
  "put NAME NAME", "make NAME NAME RECORDS", "copy RECORD NAME", "use RECORD", "hold NAME NAME NAME-OR-ANY", "free NAME", "back NAME", "tick DAYS", "tell NAME", "why RECORD", "till RECORD", "proof RECORD", "due DAYS", "asks"]
def cmdKV : List (Key × V) := formTexts.zipIdx.map fun x => (.inr (Str.ofString x.1), .ref (c.cmd x.2))
def pr_commands : Hp → VK → Prop := fun H Q => ∀ p H', H p = none → Same H H' → H' p = some (.dK (cmdKV c)) → Q (.ref p) H'
abbrev sp_commands (K : PySem.W.Frag) (c : Cs) : Sp := sp0 (pr_commands c)
end
end Kr

set_option Elab.async false
set_option linter.all false
set_option maxRecDepth 100000
set_option maxHeartbeats 4000000
namespace Kr
open PySem PySem.Spec PyProof.Rows L2
abbrev s_things_told : Stmt := topS 78
theorem sc_things_told : FnScope ["form", "words", "slots", "things", "slot", "word", "reader", "thing"] ["form", "words"] (defScope s_things_told) := ⟨rfl, rfl, rfl, by decide +kernel, rfl, by decide +kernel, by decide +kernel⟩
abbrev sp_things_told (K : PySem.W.Frag) (c : Cs) : Sp := (sp2 pr_things_told)
def t_things_told (K : PySem.W.Frag) (c : Cs) (w : World) (S_reader : Addr → Option Sp) : TS := (tSeq (tAsg (tM1 rSplit (tVar 0) (tC (.str " "))) (gName 2)) (tSeq (tIfS (tTest (tOp rNe (tCB (rLenL K) (tCons (tVar 2) tNil)) (tCB (rLenL K) (tCons (tVar 1) tNil)))) (tRet (tC .non)) tNext) (tSeq (tAsg (tLst tNil) (gName 3)) (tSeq (tFor (iZip K (tCons (tVar 2) (tCons (tVar 1) tNil))) (gTup K 2 (gCons (gName 4) (gCons (gName 5) gNil))) (tSeq (tAsg (tKGet K w (tC (.ref c.a_READERS)) (tVar 4)) (gName 6)) (tIfS (tB (tNotN (tVar 6))) (tSeq (tAsg (tCallA 6 S_reader (tCons (tVar 5) tNil)) (gName 7)) (tSeq (tIfS (tB (tIsN (tVar 7))) (tRet (tC .non)) tNext) (tDrop (tBM K "list" rAppend (tVar 3) (tCons (tVar 7) tNil))))) (tIfS (tTest (tOp rNe (tVar 4) (tVar 5))) (tRet (tC .non)) tNext)))) (tRet (tVar 3))))))
theorem ok_things_told {P : Program} {w : World} {K : PySem.W.Frag} {mg : Str → Option Value} {base : Heap} {c : Cs} (T : TopTxt K w mg c) (F : FunAt K mg "things_told" s_things_told) {S_reader : Addr → Option Sp} (A_reader : ∀ f sp, S_reader f = some sp → Held P w K mg base 3 f sp) (pure : ∀ a b H Q, pr_things_told a b H Q → t_things_told K c w S_reader { nx := fun _ H' => Q .non H', rt := Q } (start ["form", "words", "slots", "things", "slot", "word", "reader", "thing"] [a, b]) H) : Def P w K mg base "things_told" 4 ["form", "words"] (sp_things_told K c) := by
  obtain ⟨f, fd, F0, mf⟩ := F.ex
  have b0 := F0.binds (ps := ["form", "words"]) fun _ _ _ _ _ _ us hl => match us, hl with | [_, _], _ => rfl
  refine ⟨⟨f, fd, F0.ok (k := 3) sc_things_told (fun vs H Q E h => ?len) (fun cdv A outer s H vs Q E hr h => ⟨t_things_told K c w S_reader, ?term, ?pu⟩), mf, F0.kp, b0⟩⟩
  case len => obtain ⟨a, b, rfl, h⟩ := sp2_of h; rfl
  case term => have hu := hu_of hr; exact (pss_cons (ps_set (i := 2) sc_things_told.nd rfl (Or.inl rfl) (pe_split (pv 0) pe_str)) (pss_cons (ps_if (pt_cmpR op_ne (pe_callB call_len_seq rfl T.b_len PySem.boot_len (pa_cons (pv 2) pa_nil)) (pe_callB call_len_seq rfl T.b_len PySem.boot_len (pa_cons (pv 1) pa_nil)) (nomark _)) (pss_one (ps_ret pe_non)) pss_nil) (pss_cons (ps_set (i := 3) sc_things_told.nd rfl (Or.inl rfl) (pe_lst pa_nil)) (pss_cons (ps_for PassesOwn.never rfl (pi_zip rfl T.b_zip (pa_cons (pv 2) (pa_cons (pv 1) pa_nil))) (pg_tup rfl (pgs_cons (pg_name (i := 4) sc_things_told.nd rfl (Or.inl rfl)) (pgs_cons (pg_name (i := 5) sc_things_told.nd rfl (Or.inl rfl)) pgs_nil))) (pss_cons (ps_set (i := 6) sc_things_told.nd rfl (Or.inl rfl) (pe_kget (pe_gv rfl T.g_READERS) (pv 4) ⟨rfl, rfl, rfl, rfl⟩)) (pss_one (ps_if (pt_cmp (pc_notN (pv 6))) (pss_cons (ps_set (i := 7) sc_things_told.nd rfl (Or.inl rfl) (pe_callA (S := S_reader) A_reader (hr.mono (by decide)) rfl (Or.inl rfl) (pa_cons (pv 5) pa_nil))) (pss_cons (ps_if (pt_cmp (pc_isN (pv 7))) (pss_one (ps_ret pe_non)) pss_nil) (pss_one (ps_expr (pe_bm PySem.F.plainAttrs_list PySem.F.slot_list_append PySem.F.type_list_append mt_append (pv 3) (pa_cons (pv 7) pa_nil)))))) (pss_one (ps_if (pt_cmpR op_ne (pv 4) (pv 5) (nomark _)) (pss_one (ps_ret pe_non)) pss_nil)))))) (pss_one (ps_ret (pv 3)))))))
  case pu => obtain ⟨a, b, rfl, h⟩ := sp2_of h; exact pure a b H Q h
abbrev s_answer_to : Stmt := topS 101
theorem sc_answer_to : FnScope ["house", "words", "form", "command", "things"] ["house", "words"] (defScope s_answer_to) := ⟨rfl, rfl, rfl, by decide +kernel, rfl, by decide +kernel, by decide +kernel⟩
abbrev sp_answer_to (K : PySem.W.Frag) (c : Cs) : Sp := (sp2 (pr_answer_to c))
def t_answer_to (K : PySem.W.Frag) (c : Cs) (S_command : Addr → Option Sp) : TS := (tSeq (tFor (iItems (tFreeze (tCall (sp_commands K c) [] E0 tNil))) (gTup K 2 (gCons (gName 2) (gCons (gName 3) gNil))) (tSeq (tAsg (tCall (sp_things_told K c) [] E0 (tCons (tVar 2) (tCons (tVar 1) tNil))) (gName 4)) (tIfS (tB (tNotN (tVar 4))) (tRet (tCallA 3 S_command (tCons (tVar 0) (tCons (tVar 4) tNil)))) tNext))) (tRet (tC (.str "no form"))))
theorem ok_answer_to {P : Program} {w : World} {K : PySem.W.Frag} {mg : Str → Option Value} {base : Heap} {c : Cs} (T : TopTxt K w mg c) (F : FunAt K mg "answer_to" s_answer_to) (D_commands : Def P w K mg base "commands" 1 [] (sp_commands K c)) (D_things_told : Def P w K mg base "things_told" 4 ["form", "words"] (sp_things_told K c)) {S_command : Addr → Option Sp} (A_command : ∀ f sp, S_command f = some sp → Held P w K mg base 8 f sp) (pure : ∀ a b H Q, pr_answer_to c a b H Q → t_answer_to K c S_command { nx := fun _ H' => Q .non H', rt := Q } (start ["house", "words", "form", "command", "things"] [a, b]) H) : Def P w K mg base "answer_to" 9 ["house", "words"] (sp_answer_to K c) := by
  obtain ⟨f, fd, F0, mf⟩ := F.ex
  obtain ⟨f_commands, fd_commands, G_commands, m_commands, k_commands, b_commands⟩ := D_commands.ex
  obtain ⟨f_things_told, fd_things_told, G_things_told, m_things_told, k_things_told, b_things_told⟩ := D_things_told.ex
  have b0 := F0.binds (ps := ["house", "words"]) fun _ _ _ _ _ _ us hl => match us, hl with | [_, _], _ => rfl
  refine ⟨⟨f, fd, F0.ok (k := 8) sc_answer_to (fun vs H Q E h => ?len) (fun cdv A outer s H vs Q E hr h => ⟨t_answer_to K c S_command, ?term, ?pu⟩), mf, F0.kp, b0⟩⟩
  case len => obtain ⟨a, b, rfl, h⟩ := sp2_of h; rfl
  case term => have hu := hu_of hr; exact (pss_cons (ps_for PassesOwn.never rfl (pi_items (pe_freeze (pe_call0 G_commands (hr.mono (by decide)) rfl m_commands k_commands b_commands .nil pass0))) (pg_tup rfl (pgs_cons (pg_name (i := 2) sc_answer_to.nd rfl (Or.inl rfl)) (pgs_cons (pg_name (i := 3) sc_answer_to.nd rfl (Or.inl rfl)) pgs_nil))) (pss_cons (ps_set (i := 4) sc_answer_to.nd rfl (Or.inl rfl) (pe_call G_things_told (hr.mono (by decide)) rfl m_things_told k_things_told b_things_told .nil pass0 (pa_cons (pv 2) (pa_cons (pv 1) pa_nil)))) (pss_one (ps_if (pt_cmp (pc_notN (pv 4))) (pss_one (ps_ret (pe_callA (S := S_command) A_command (hr.mono (by decide)) rfl (Or.inl rfl) (pa_cons (pv 0) (pa_cons (pv 4) pa_nil))))) pss_nil)))) (pss_one (ps_ret pe_str)))
  case pu => obtain ⟨a, b, rfl, h⟩ := sp2_of h; exact pure a b H Q h
abbrev s_say : Stmt := topS 103
theorem sc_say : FnScope ["house", "codes", "told"] ["house", "codes"] (defScope s_say) := ⟨rfl, rfl, rfl, by decide +kernel, rfl, by decide +kernel, by decide +kernel⟩
abbrev sp_say (K : PySem.W.Frag) (c : Cs) : Sp := (sp2 (pr_say c))
def t_say (K : PySem.W.Frag) (c : Cs) : TS := (tSeq (tIfS (tNot (tB (tCall (sp_is_text K c) [] E0 (tCons (tVar 1) tNil)))) (tRet (tLst (tCons (tUn rNegI (tC (.int 1))) tNil))) tNext) (tSeq (tAsg (tCall (sp_codes_of K c) [] E0 (tCons (tCall (sp_answer_to K c) [] E0 (tCons (tVar 0) (tCons (tCall (sp_words_of K c) [] E0 (tCons (tVar 1) tNil)) tNil))) tNil)) (gName 2)) (tRet (tOp rCat (tLst (tCons (tCB (rLenL K) (tCons (tVar 2) tNil)) tNil)) (tVar 2)))))
theorem ok_say {P : Program} {w : World} {K : PySem.W.Frag} {mg : Str → Option Value} {base : Heap} {c : Cs} (T : TopTxt K w mg c) (F : FunAt K mg "say" s_say) (D_codes_of : Def P w K mg base "codes_of" 1 ["text"] (sp_codes_of K c)) (D_answer_to : Def P w K mg base "answer_to" 9 ["house", "words"] (sp_answer_to K c)) (D_words_of : Def P w K mg base "words_of" 1 ["codes"] (sp_words_of K c)) (D_is_text : Def P w K mg base "is_text" 1 ["codes"] (sp_is_text K c)) (pure : ∀ a b H Q, pr_say c a b H Q → t_say K c { nx := fun _ H' => Q .non H', rt := Q } (start ["house", "codes", "told"] [a, b]) H) : Def P w K mg base "say" 10 ["house", "codes"] (sp_say K c) := by
  obtain ⟨f, fd, F0, mf⟩ := F.ex
  obtain ⟨f_codes_of, fd_codes_of, G_codes_of, m_codes_of, k_codes_of, b_codes_of⟩ := D_codes_of.ex
  obtain ⟨f_answer_to, fd_answer_to, G_answer_to, m_answer_to, k_answer_to, b_answer_to⟩ := D_answer_to.ex
  obtain ⟨f_words_of, fd_words_of, G_words_of, m_words_of, k_words_of, b_words_of⟩ := D_words_of.ex
  obtain ⟨f_is_text, fd_is_text, G_is_text, m_is_text, k_is_text, b_is_text⟩ := D_is_text.ex
  have b0 := F0.binds (ps := ["house", "codes"]) fun _ _ _ _ _ _ us hl => match us, hl with | [_, _], _ => rfl
  refine ⟨⟨f, fd, F0.ok (k := 9) sc_say (fun vs H Q E h => ?len) (fun cdv A outer s H vs Q E hr h => ⟨t_say K c, ?term, ?pu⟩), mf, F0.kp, b0⟩⟩
  case len => obtain ⟨a, b, rfl, h⟩ := sp2_of h; rfl
  case term => have hu := hu_of hr; exact (pss_cons (ps_if (pt_not (pt_val (pe_call G_is_text (hr.mono (by decide)) rfl m_is_text k_is_text b_is_text .nil pass0 (pa_cons (pv 1) pa_nil)))) (pss_one (ps_ret (pe_lst (pa_cons (pe_un un_neg pe_int) pa_nil)))) pss_nil) (pss_cons (ps_set (i := 2) sc_say.nd rfl (Or.inl rfl) (pe_call G_codes_of (hr.mono (by decide)) rfl m_codes_of k_codes_of b_codes_of .nil pass0 (pa_cons (pe_call G_answer_to (hr.mono (by decide)) rfl m_answer_to k_answer_to b_answer_to .nil pass0 (pa_cons (pv 0) (pa_cons (pe_call G_words_of (hr.mono (by decide)) rfl m_words_of k_words_of b_words_of .nil pass0 (pa_cons (pv 1) pa_nil)) pa_nil))) pa_nil))) (pss_one (ps_ret (pe_op op_cat (pe_lst (pa_cons (pe_callB call_len_seq rfl T.b_len PySem.boot_len (pa_cons (pv 2) pa_nil)) pa_nil)) (pv 2))))))
  case pu => obtain ⟨a, b, rfl, h⟩ := sp2_of h; exact pure a b H Q h
abbrev s_answers : Stmt := topS 104
theorem sc_answers : FnScope ["calls", "house", "answered", "place", "start", "end", "told"] ["calls"] (defScope s_answers) := ⟨rfl, rfl, rfl, by decide +kernel, rfl, by decide +kernel, by decide +kernel⟩
abbrev sp_answers (K : PySem.W.Frag) (c : Cs) : Sp := (sp1 (pr_answers K))
def t_answers (K : PySem.W.Frag) (c : Cs) : TS := (tSeq (tAsg (tMake c.House (spI_House K c) [] E0 tNil) (gName 1)) (tSeq (tAsg (tLst tNil) (gName 2)) (tSeq (tAsg (tC (.int 0)) (gName 3)) (tSeq (tWhile (tTest (tOp rLt (tVar 3) (tCB (rLenL K) (tCons (tVar 0) tNil)))) (tSeq (tAsg (tOp rAddI (tVar 3) (tC (.int 2))) (gName 4)) (tSeq (tAsg (tOp rAddI (tVar 4) (tOp (rIxL K) (tVar 0) (tOp rAddI (tVar 3) (tC (.int 1))))) (gName 5)) (tSeq (tAsg (tCall (sp_say K c) [] E0 (tCons (tVar 1) (tCons (tSl (rSlL K) (tVar 0) (tPart (tVar 4)) (tPart (tVar 5))) tNil))) (gName 6)) (tSeq (tDrop (tBM K "list" rAppend (tVar 2) (tCons (tCB (rLenL K) (tCons (tVar 6) tNil)) tNil))) (tSeq (tDrop (tBM K "list" rExtend (tVar 2) (tCons (tVar 6) tNil))) (tAsg (tOp rAddI (tVar 5) (tC (.int 1))) (gName 3)))))))) (tRet (tVar 2))))))
theorem ok_answers {P : Program} {w : World} {K : PySem.W.Frag} {mg : Str → Option Value} {base : Heap} {c : Cs} (T : TopTxt K w mg c) (F : FunAt K mg "answers" s_answers) (D_say : Def P w K mg base "say" 10 ["house", "codes"] (sp_say K c)) (DI_House : MadeBy P w K mg base c.House 3 ["self"] (spI_House K c)) (pure : ∀ a H Q, pr_answers K a H Q → t_answers K c { nx := fun _ H' => Q .non H', rt := Q } (start ["calls", "house", "answered", "place", "start", "end", "told"] [a]) H) : Def P w K mg base "answers" 11 ["calls"] (sp_answers K c) := by
  obtain ⟨f, fd, F0, mf⟩ := F.ex
  obtain ⟨f_say, fd_say, G_say, m_say, k_say, b_say⟩ := D_say.ex
  obtain ⟨fI_House, fdI_House, M_House, GI_House, bI_House⟩ := DI_House.ex
  have b0 := F0.binds (ps := ["calls"]) fun _ _ _ _ _ _ us hl => match us, hl with | [_], _ => rfl
  refine ⟨⟨f, fd, F0.ok (k := 10) sc_answers (fun vs H Q E h => ?len) (fun cdv A outer s H vs Q E hr h => ⟨t_answers K c, ?term, ?pu⟩), mf, F0.kp, b0⟩⟩
  case len => obtain ⟨a, rfl, h⟩ := sp1_of h; rfl
  case term => have hu := hu_of hr; exact (pss_cons (ps_set (i := 1) sc_answers.nd rfl (Or.inl rfl) (pe_make0 M_House GI_House (hr.mono (by decide)) rfl T.m_House bI_House .nil pass0)) (pss_cons (ps_set (i := 2) sc_answers.nd rfl (Or.inl rfl) (pe_lst pa_nil)) (pss_cons (ps_set (i := 3) sc_answers.nd rfl (Or.inl rfl) pe_int) (pss_cons (ps_while PassesOwn.never (pt_cmpR op_lt (pv 3) (pe_callB call_len_seq rfl T.b_len PySem.boot_len (pa_cons (pv 0) pa_nil)) (nomark _)) (pss_cons (ps_set (i := 4) sc_answers.nd rfl (Or.inl rfl) (pe_op op_add (pv 3) pe_int)) (pss_cons (ps_set (i := 5) sc_answers.nd rfl (Or.inl rfl) (pe_op op_add (pv 4) (pe_ix ix_list (pv 0) (pe_op op_add (pv 3) pe_int) (fun _ _ => rfl)))) (pss_cons (ps_set (i := 6) sc_answers.nd rfl (Or.inl rfl) (pe_call G_say (hr.mono (by decide)) rfl m_say k_say b_say .nil pass0 (pa_cons (pv 1) (pa_cons (pe_slice sl_list (pv 0) (po_some (pv 4)) (po_some (pv 5))) pa_nil)))) (pss_cons (ps_expr (pe_bm PySem.F.plainAttrs_list PySem.F.slot_list_append PySem.F.type_list_append mt_append (pv 2) (pa_cons (pe_callB call_len_seq rfl T.b_len PySem.boot_len (pa_cons (pv 6) pa_nil)) pa_nil))) (pss_cons (ps_expr (pe_bm PySem.F.plainAttrs_list PySem.F.slot_list_extend PySem.F.type_list_extend mt_extend (pv 2) (pa_cons (pv 6) pa_nil))) (pss_one (ps_set (i := 3) sc_answers.nd rfl (Or.inl rfl) (pe_op op_add (pv 5) pe_int))))))))) (pss_one (ps_ret (pv 2)))))))
  case pu => obtain ⟨a, rfl, h⟩ := sp1_of h; exact pure a H Q h
end Kr

set_option Elab.async false
set_option linter.all false
set_option maxRecDepth 100000
set_option maxHeartbeats 2000000
namespace Kr
open PySem PySem.Spec PyProof.Rows L2
section
variable {prog : Program} {w : World} {K : Type} [DecidableEq K] {knd : KeyKind prog w K} {A : Around} {E : Value → Shared → Prop} {s : Shared}
theorem dictPut_pairs {d : Addr} {kvs : List (K × Value)} {k : K} {key v : Value} {Q : Unit → Shared → Prop} (hkey : knd.is k key = true) (hm : s.heap.DictOf knd d kvs) (hsz : kvs.length ≤ sizeLine)
    (hQ : ∀ h', h'.DictOf knd d (stored kvs k v) → Heap.SameBut d s.heap h' → Q () { s with heap := h' }) : wpAny (model prog w) A (dictPut d (knd.hash k) key v) Q E s := by
  obtain ⟨o, es, ep, ho, hc, hd, hk, hp, hn⟩ := hm
  have hes : es.size ≤ sizeLine := by
    have e1 := hp.length
    have e2 : es.toList.length = es.size := by simp
    omega
  unfold dictPut
  refine wpAny_bind (wpAny_dictFind_of hkey ho hd hk ?_)
  have hidx : (es.findIdx? fun e => knd.is k e.key) = kvs.findIdx? fun kv => decide (kv.1 = k) := by
    rw [← hp.findIdx k]; obtain ⟨l⟩ := es; simp
  cases hi : es.findIdx? fun e => knd.is k e.key with
  | some i =>
    refine wpAny_updateDict ho hd (hQ _ ⟨_, _, ep, Heap.get?_update_self _ ho (Obj.isFreed_of_dict (Obj.data_mapDict hd _)), hc.mapDict _, Obj.data_mapDict hd _, hk.modify _ _, ?_, ?_⟩ (Heap.SameBut.update ..))
    · rw [stored, if_pos (any_of_findIdx_some (hidx ▸ hi))]
      have hl : (es.toList.findIdx? fun e => knd.is k e.key) = some i := by rw [← hi]; obtain ⟨l⟩ := es; simp
      have := hp.modify hn hl v
      obtain ⟨l⟩ := es
      simpa using this
    · rw [stored, if_pos (any_of_findIdx_some (hidx ▸ hi)), keys_map_store]; exact hn
  | none =>
    have hnot : k ∉ kvs.map (·.1) := not_mem_of_findIdx_none (hidx ▸ hi)
    have hany : ¬ (kvs.any fun kv => decide (kv.1 = k)) = true := by
      rw [List.any_eq_true]; rintro ⟨kv, hkv, he⟩
      exact hnot (List.mem_map.mpr ⟨kv, hkv, of_decide_eq_true he⟩)
    refine wpAny_updateDictKeys (hz := hes) ho hd (hQ _ ⟨_, _, ep + 1, Heap.get?_update_self _ ho (Obj.isFreed_of_dict (Obj.data_mapDictKeys hd _)), hc.mapDictKeys _, Obj.data_mapDictKeys hd _, hk.push hkey _, ?_, ?_⟩ (Heap.SameBut.update ..))
    · rw [stored, if_neg hany]
      have := hp.append hkey (knd.hash k) v
      obtain ⟨l⟩ := es
      simpa using this
    · rw [stored, if_neg hany, List.map_append, List.nodup_append]
      refine ⟨hn, by simp, ?_⟩
      intro a ha b hb
      simp only [List.map_cons, List.map_nil, List.mem_singleton] at hb
      subst hb
      exact fun e => hnot (e ▸ ha)
theorem forIn_range {f : Nat → PUnit → Sem (ForInStep PUnit)} {P : Nat → Shared → Prop} {n : Nat} (step : ∀ i s', i < n → P i s' → wpAny (model prog w) A (f i PUnit.unit) (fun r s'' => r = .yield PUnit.unit ∧ P (i + 1) s'') E s') :
    ∀ (m i : Nat) (s' : Shared), i + m = n → P i s' → wpAny (model prog w) A (forIn (List.range' i m) PUnit.unit f) (fun _ s'' => P n s'') E s'
  | 0, i, s', h, p => by
    have e : i = n := by omega
    subst e
    rw [List.range'_zero, List.forIn_nil]
    exact wpAny_pure p
  | m + 1, i, s', h, p => by
    rw [List.range'_succ, List.forIn_cons]
    refine wpAny_bind (wpAny_mono (step i s' (by omega) p) (fun r s'' ⟨e, q⟩ => ?_) fun _ _ e => e)
    subst e
    exact forIn_range step m (i + 1) s'' (by omega) q
theorem pairs_at : ∀ {es : List DictEntry} {kvs : List (K × Value)} {i : Nat} {e : DictEntry}, Pairs knd es kvs → es[i]? = some e → ∃ k v, kvs[i]? = some (k, v) ∧ knd.is k e.key = true ∧ e.val = v
  | _, _, i, e, .nil, h => by simp at h
  | _, _, 0, e, .cons (kv := kv) a b t, h => by
    have : _ = e := Option.some.inj h
    subst this
    exact ⟨kv.1, kv.2, rfl, a, b⟩
  | _, _, i + 1, e, .cons a b t, h => pairs_at (i := i) t (by simpa using h)
theorem hash_of {k k' : K} {key : Value} (h : knd.is k key = true) (h' : knd.is k' key = true) : k = k' := knd.inj key k k' h h'
theorem merge_pairs {d a : Addr} {kd ka : List (K × Value)} {Q : Unit → Shared → Prop} (hd : s.heap.DictOf knd d kd) (ha : s.heap.DictOf knd a ka) (hda : a ≠ d) (low : (a == sysModules) = false) (hne : kd ≠ []) (hsz : kd.length + ka.length ≤ 1000)
    (hQ : ∀ h', h'.DictOf knd d (merged kd ka) → Heap.SameBut d s.heap h' → Q () { s with heap := h' }) : wpAny (model prog w) A (mergeMapping d (.ref a) false) Q E s := by
  unfold mergeMapping
  refine wpAny_bind (wpAny_isInstance (U := "dict") ha.typeIs (b := true) isSubtype_dict_dict ?_)
  rw [if_pos rfl]
  refine wpAny_bind (wpAny_specialOf ha.typeIs PySem.F.slot_dict_iter.lookup ?_)
  refine wpAny_bind (wpAny_pure ?_)
  have e1 : (some (Value.builtin "dict.__iter__") == some (Value.builtin "dict.__iter__")) = true := by decide
  rw [e1]
  dsimp only
  rw [if_neg (by rw [low]; simp)]
  obtain ⟨od, esd, epd, god, cd, dd, kd', pd, nd⟩ := id hd
  obtain ⟨oa, esa, epa, goa, ca, da, kka, pa, na⟩ := id ha
  refine wpAny_bind (wpAny_dictEntries god dd ?_)
  have hne2 : esd.isEmpty = false := by
    cases esd with
    | mk l =>
      cases l with
      | nil =>
        cases pd
        exact absurd rfl hne
      | cons _ _ => rfl
  rw [if_neg (by rw [hne2]; simp)]
  refine wpAny_bind (wpAny_dictEntries goa da ?_)
  refine wpAny_bind (wpAny_dictEpoch goa da ?_)
  have hsize : esa.size = ka.length := by
    have := pa.length
    simpa using this
  have merged_le : ∀ (l acc : List (K × Value)), (merged acc l).length ≤ acc.length + l.length := by
    intro l
    induction l with
    | nil => intro acc; exact Nat.le_refl _
    | cons x r ih =>
      intro acc
      have z := ih (stored acc x.1 x.2)
      have y := stored_length_le acc x.1 x.2
      show (merged (stored acc x.1 x.2) r).length ≤ _
      rw [List.length_cons]; omega
  have fin : wpAny (model prog w) A (forIn (List.range' 0 esa.size) PUnit.unit _) (fun _ s'' => s''.heap.DictOf knd d (merged kd (ka.take esa.size)) ∧ Heap.SameBut d s.heap s''.heap ∧ s'' = { s with heap := s''.heap }) E s :=
    forIn_range (P := fun i s' => s'.heap.DictOf knd d (merged kd (ka.take i)) ∧ Heap.SameBut d s.heap s'.heap ∧ s' = { s with heap := s'.heap }) (n := esa.size)
      (f := fun i _ => do
        let es ← dictEntries a
        match es[i]? with
          | some e => do
            holding [e.key, e.val]
                (have __do_jp := fun (__r : PUnit) => dictPut d e.hash e.key e.val;
                if false = true then do
                  let __do_lift ← dictFind d e.key e.hash
                  if __do_lift.isSome = true then do
                      rule "dict.merge.duplicate-key"
                      let __do_lift ← newExc (Value.type "KeyError") [e.key]
                      let __r ← raiseNew __do_lift
                      __do_jp __r
                    else __do_jp ()
                else __do_jp ())
            let __do_lift ← dictEpoch a
            if (__do_lift != epa) = true then do
                unsupported "dict.changed-during-merge"
                pure (ForInStep.yield PUnit.unit)
              else pure (ForInStep.yield PUnit.unit)
          | x => do
            unsupported "dict.changed-during-merge"
            pure (ForInStep.yield PUnit.unit)) (fun i s' hi ⟨h1, h2, h3⟩ => by
        have goa' : s'.heap.get? a = some oa := (h2.2 a hda).trans goa
        refine wpAny_bind (wpAny_dictEntries goa' da ?_)
        have hei : esa[i]? = some esa[i] := by simp [hi]
        rw [hei]
        dsimp only
        obtain ⟨k, v, hkv, hkey, hval⟩ := pairs_at (i := i) (e := esa[i]) pa (by simp [hi])
        obtain ⟨k2, hk2, hh2⟩ := kka esa[i] (Array.getElem_mem hi)
        have ek : k2 = k := hash_of hk2 hkey
        subst ek
        rw [if_neg (by simp), hh2, hval]
        refine wpAny_bind (wpAny_holding (dictPut_pairs hkey h1 (by have z := merged_le (ka.take i) kd; rw [List.length_take] at z; rw [sizeLine_eq]; omega) fun h' q1 q2 => ?_))
        have goa2 : h'.get? a = some oa := (q2.2 a hda).trans goa'
        refine wpAny_bind (wpAny_dictEpoch (s := { s' with heap := h' }) goa2 da ?_)
        rw [if_neg (by simp)]
        refine wpAny_pure ⟨rfl, ?_, h2.trans q2, ?_⟩
        · show h'.DictOf knd d (merged kd (ka.take (i + 1)))
          have em : merged kd (ka.take (i + 1)) = stored (merged kd (ka.take i)) k2 v := by
            rw [List.take_succ, hkv]
            show merged kd (ka.take i ++ [(k2, v)]) = _
            unfold merged
            rw [List.foldl_append]; rfl
          rw [em]; exact q1
        · rw [h3]) esa.size 0 s (by omega) ⟨by simpa [merged] using hd, Heap.SameBut.refl _ _, rfl⟩
  rw [List.range_eq_range']
  refine wpAny_bind (wpAny_mono fin (fun _ s'' ⟨h1, h2, h3⟩ => ?_) fun _ _ e => e)
  refine wpAny_pure ?_
  rw [h3]
  rw [hsize, List.take_length] at h1
  exact hQ _ h1 h2
end
end Kr

set_option Elab.async false
set_option linter.all false
set_option maxRecDepth 100000
set_option maxHeartbeats 2000000
namespace Kr
open PySem PySem.Spec PyProof.Rows L2
/-- pairs whose keys and values are told at once, whatever is tracked -/
inductive Trees (X : Cx) : List (Sem Value × Sem Value) → List (Key × V) → Prop where
  | nil : Trees X [] []
  | cons {k v : Sem Value} {key : Key} {y : V} {rest : List (Sem Value × Sem Value)} {kvs : List (Key × V)}
      (hk : ∀ pins s σ H, Inv X pins σ H s → wpAny (model X.prog X.w) X.A k (fun u s1 => Inv X pins σ H s1 ∧ RelV (kV key) u) X.xe s)
      (hv : ∀ pins s σ H, Inv X pins σ H s → wpAny (model X.prog X.w) X.A v (fun u s1 => Inv X pins σ H s1 ∧ RelV y u) X.xe s) (r : Trees X rest kvs) : Trees X ((k, v) :: rest) ((key, y) :: kvs)
section
variable {X : Cx}
theorem Trees.length : ∀ {ps : List (Sem Value × Sem Value)} {kvs : List (Key × V)}, Trees X ps kvs → ps.length = kvs.length
  | _, _, .nil => rfl
  | _, _, .cons _ _ r => by rw [List.length_cons, List.length_cons, r.length]
theorem Trees.take : ∀ {ps : List (Sem Value × Sem Value)} {kvs : List (Key × V)} (n : Nat), Trees X ps kvs → Trees X (ps.take n) (kvs.take n)
  | _, _, 0, _ => .nil
  | _, _, _ + 1, .nil => .nil
  | _, _, n + 1, .cons a b r => .cons a b (r.take n)
theorem Trees.drop : ∀ {ps : List (Sem Value × Sem Value)} {kvs : List (Key × V)} (n : Nat), Trees X ps kvs → Trees X (ps.drop n) (kvs.drop n)
  | _, _, 0, r => r
  | _, _, _ + 1, .nil => .nil
  | _, _, n + 1, .cons a b r => r.drop n
theorem mergeK_snoc (a : List (Key × V)) (l m : List (Key × V)) : mergeK a (l ++ m) = mergeK (mergeK a l) m := by unfold mergeK; rw [List.foldl_append]
/-- a dict's item set, tracked -/
theorem set_tracked {pins : List (Addr × Obj)} {σ : L2.St} {H : Hp} {s : Shared} {d : Addr} {kvs : List (Key × V)} {key : Key} {y : V} {u r : Value} {Q : Unit → Shared → Prop} {A : Around} {E : Value → Shared → Prop} (I : Inv X pins σ H s) (hd : H d = some (.dK kvs)) (hl : kvs.length < 1000) (rk : RelV (kV key) u) (rv : RelV y r)
    (q : ∀ s', Inv X pins σ (upd H d (.dK (putK kvs key y))) s' → Q () s') : wpAny (model X.prog X.w) A (dictSet d u r) Q E s := by
  obtain ⟨z, low, vs, rel, dd⟩ := dk_of I.hok hd
  have hz : vs.length ≤ sizeLine := by rw [← rel.length]; exact z
  have hl2 : (putK kvs key y).length ≤ sizeLine := by have := length_putK kvs key y; rw [sizeLine_eq]; omega
  refine wpAny_dictSet_pairs (hsz := hz) (kV_is rk) dd fun h' dd' hs => q _ ?_
  have he : ∃ q, h'.get? d = some q := let ⟨q, _, _, hq, _⟩ := dd'; ⟨q, hq⟩
  exact d_write I (by rw [hd]; exact True.intro) hs he (dk_new hl2 low (rel.put key rv) dd')
theorem long_loop {d : Addr} : ∀ {ps : List (Sem Value × Sem Value)} {kvs : List (Key × V)}, Trees X ps kvs → ∀ {pins : List (Addr × Obj)} {σ : L2.St} {H : Hp} {s : Shared} {acc : List (Key × V)} {Q : PUnit → Shared → Prop}, Inv X pins σ H s → H d = some (.dK acc) → acc.length + kvs.length ≤ 1000 →
    (∀ s', Inv X pins σ (upd H d (.dK (mergeK acc kvs))) s' → Q PUnit.unit s') →
    wpAny (model X.prog X.w) X.A (forIn ps PUnit.unit fun (x : Sem Value × Sem Value) (_ : PUnit) => (do
        let kv ← x.1
        let vv ← holding [kv] x.2
        holding [kv, vv] (dictSet d kv vv)
        pure (ForInStep.yield PUnit.unit) : Sem (ForInStep PUnit))) Q X.xe s := by
  intro ps kvs t
  induction t with
  | nil =>
    intro pins σ H s acc Q I hd _ q
    rw [List.forIn_nil]
    refine wpAny_pure (q s ?_)
    have e : upd H d (.dK (mergeK acc [])) = H := by
      funext b
      by_cases z : b = d
      · subst z; rw [upd_same, hd]; rfl
      · rw [upd_ne z]
    rw [e]; exact I
  | @cons k v key y rest kvs hk hv r ih =>
    intro pins σ H s acc Q I hd hl q
    rw [List.forIn_cons]
    rw [List.length_cons] at hl
    refine wpAny_bind (wpAny_bind (thn (hk pins s σ H I) fun u s1 ⟨I1, ru⟩ => wpAny_bind (wpAny_holding (thn (hv pins s1 σ H I1) fun r1 s2 ⟨I2, rr⟩ => wpAny_bind (wpAny_holding (set_tracked I2 hd (by omega) ru rr fun s3 I3 => wpAny_pure ?_))))))
    refine ih I3 upd_same (by have := length_putK acc key y; omega) fun s4 I4 => q s4 ?_
    rw [upd_upd] at I4
    exact I4
theorem short_pairs : ∀ {ps : List (Sem Value × Sem Value)} {kvs : List (Key × V)}, Trees X ps kvs → ∀ {pins : List (Addr × Obj)} {σ : L2.St} {H : Hp} {s : Shared} {Q : List (Value × Value) → Shared → Prop}, Inv X pins σ H s →
    (∀ vs s', Inv X pins σ H s' → VV (kvs.map fun kv => (kV kv.1, kv.2)) vs → Q vs s') → wpAny (model X.prog X.w) X.A (evalPairs ps) Q X.xe s := by
  intro ps kvs t
  induction t with
  | nil =>
    intro pins σ H s Q I q
    exact evalPairs_nil (q [] s I .nil)
  | @cons k v key y rest kvs hk hv r ih =>
    intro pins σ H s Q I q
    exact evalPairs_cons (thn (hk pins s σ H I) fun u s1 ⟨I1, ru⟩ => thn (hv pins s1 σ H I1) fun r1 s2 ⟨I2, rr⟩ => ih I2 fun vs s3 I3 rel => q _ s3 I3 (.cons ⟨ru, rr⟩ rel))
theorem sub_long {ps : List (Sem Value × Sem Value)} {kvs : List (Key × V)} (t : Trees X ps kvs) (h15 : 15 < ps.length) (hl : ps.length ≤ 1000) {pins : List (Addr × Obj)} {σ : L2.St} {H : Hp} {s : Shared} {Q : Addr → Shared → Prop} (I : Inv X pins σ H s)
    (q : ∀ p s', H p = none → Inv X pins σ (upd H p (.dK (mergeK [] kvs))) s' → Q p s') : wpAny (model X.prog X.w) X.A (subDict ps) Q X.xe s := by
  unfold subDict
  have hn := I.hok.fresh (Nat.le_refl s.heap.objs.size)
  have I1 := I.laid (a := s.heap.objs.size) (o := .dK []) (h' := s.heap.push { cls := .type "dict", data := .dict #[] }) (t' := s.toks) (fun _ _ q => Heap.get?_push_of_some _ q) (Nat.le_refl _) (dk_empty s.heap I.big)
  refine wpAny_bind (wpAny_alloc ?_)
  refine wpAny_bind (wpAny_holding ?_)
  rw [if_neg (by omega)]
  refine wpAny_bind (wpAny_rule ?_)
  refine wpAny_bind (long_loop t I1 upd_same (by have := t.length; simp; omega) fun s' I' => wpAny_pure (wpAny_pure (q _ s' hn ?_)))
  rw [upd_upd] at I'
  exact I'
theorem sub_short {ps : List (Sem Value × Sem Value)} {kvs : List (Key × V)} (t : Trees X ps kvs) (h15 : ps.length ≤ 15) {pins : List (Addr × Obj)} {σ : L2.St} {H : Hp} {s : Shared} {Q : Addr → Shared → Prop} (I : Inv X pins σ H s)
    (q : ∀ p s', H p = none → Inv X pins σ (upd H p (.dK (mergeK [] kvs))) s' → Q p s') : wpAny (model X.prog X.w) X.A (subDict ps) Q X.xe s := by
  have hn := I.hok.fresh (Nat.le_refl s.heap.objs.size)
  have I1 := I.laid (a := s.heap.objs.size) (o := .dK []) (h' := s.heap.push { cls := .type "dict", data := .dict #[] }) (t' := s.toks) (fun _ _ q => Heap.get?_push_of_some _ q) (Nat.le_refl _) (dk_empty s.heap I.big)
  refine wpAny_subDict (knd := mixKind X.prog X.w) h15 (short_pairs t I1 fun ws s2 I2 rel => ?_)
  obtain ⟨rs, c, rk⟩ := carries_of (P := X.prog) (w := X.w) rel
  obtain ⟨z, hd, vs0, r0, dd⟩ := dk_of I2.hok (show upd H s.heap.objs.size (.dK []) s.heap.objs.size = some (.dK []) from upd_same)
  cases r0
  refine ⟨rs, c, dd, fun h' dd' hs => q _ _ hn ?_⟩
  have hz : (mergeK [] kvs).length ≤ sizeLine := by
    have h1 := length_mergeK kvs []
    have := t.length
    rw [List.length_nil] at h1
    rw [sizeLine_eq]; omega
  have he : ∃ q, h'.get? s.heap.objs.size = some q := let ⟨q, _, _, hq, _⟩ := dd'; ⟨q, hq⟩
  have I3 := d_write (t' := s2.toks + ws.length) I2 (by rw [upd_same]; exact True.intro) hs he (dk_new hz hd (rk.merge .nil) dd')
  rw [upd_upd] at I3
  exact I3
theorem gather {α : Type} {β : Type} {g : α → β} {f : β → (Option Addr × List α) → Sem (ForInStep (Option Addr × List α))} {m : Option Addr} (hf : ∀ (p : α) (run : List α), run.length + 1 < 17 → f (g p) (m, run) = pure (.yield (m, run ++ [p]))) :
    ∀ (items run : List α) (rest : List β), run.length + items.length < 17 → forIn (items.map g ++ rest) (m, run) f = forIn rest (m, run ++ items) f
  | [], run, rest, _ => by simp
  | p :: r, run, rest, h => by
    rw [List.length_cons] at h
    rw [List.map_cons, List.cons_append, List.forIn_cons, hf p run (by omega), pure_bind]
    have := gather hf r (run ++ [p]) rest (by simp; omega)
    simpa using this
def tLong (kvs : List (Key × V)) : TE := fun _ H Q => ∀ p H', H p = none → Same H H' → H' p = some (.dK kvs) → Q (.ref p) H'
theorem display_eq (ps : List (Sem Value × Sem Value)) (h1 : 17 < ps.length) (h2 : ps.length ≤ 32) : dictDisplay (ps.map fun p => (some p.1, p.2)) = (do
    let d ← subDict (ps.take 17)
    let sub ← holding [.ref d] (subDict (ps.drop 17))
    (holding [.ref d, .ref sub] (mergeMapping d (.ref sub) false)).onRaise fun x => do
      let _ ← holding [.ref d, x] (runValue (.builtin "proto.let_go" {}))
    pure (.ref d)) := by
  have hx : ps.drop 16 = ps[16]'(by omega) :: ps.drop 17 := List.drop_eq_getElem_cons (by omega)
  have e17 : ps.take 16 ++ [((ps[16]'(by omega)).1, (ps[16]'(by omega)).2)] = ps.take 17 := by
    show _ = ps.take (16 + 1)
    rw [List.take_succ (i := 16), List.getElem?_eq_getElem (show 16 < ps.length by omega)]; rfl
  have em : (ps.map fun p => ((some p.1, p.2) : Option (Sem Value) × Sem Value)) = (ps.take 16).map (fun p => (some p.1, p.2)) ++ ((some (ps[16]'(by omega)).1, (ps[16]'(by omega)).2) :: (ps.drop 17).map fun p => (some p.1, p.2)) := by
    conv => lhs; rw [← List.take_append_drop 16 ps, List.map_append, hx, List.map_cons]
  have l16 : (ps.take 16).length = 16 := by rw [List.length_take]; omega
  have ne17 : (ps.take 17).isEmpty = false := by
    have : (ps.take 17).length = 17 := by rw [List.length_take]; omega
    cases e : ps.take 17 with
    | nil => rw [e] at this; cases this
    | cons _ _ => rfl
  have neD : (ps.drop 17).isEmpty = false := by
    have : (ps.drop 17).length = ps.length - 17 := List.length_drop
    cases e : ps.drop 17 with
    | nil => rw [e] at this; simp at this; omega
    | cons _ _ => rfl
  unfold dictDisplay
  dsimp only
  rw [em, gather (g := fun p : Sem Value × Sem Value => (some p.1, p.2)) (fun p run h => by
    have hne : ((run ++ [(p.1, p.2)]).length == 17) = false := by simp; omega
    simp only [hne, Bool.false_eq_true, if_false]) (ps.take 16) [] _ (by simp; omega)]
  rw [List.forIn_cons]
  have hq : ((ps.take 17).length == 17) = true := by rw [List.length_take]; simp; omega
  simp only [List.nil_append, e17, hq, if_true, ne17, Bool.false_eq_true, if_false, bind_assoc, pure_bind]
  congr 1
  funext d
  have eA : ((ps.drop 17).map fun p => ((some p.1, p.2) : Option (Sem Value) × Sem Value)) = (ps.drop 17).map (fun p => (some p.1, p.2)) ++ [] := by rw [List.append_nil]
  rw [eA, gather (g := fun p : Sem Value × Sem Value => (some p.1, p.2)) (fun p run h => by
    have hne : ((run ++ [(p.1, p.2)]).length == 17) = false := by simp; omega
    simp only [hne, Bool.false_eq_true, if_false]) (ps.drop 17) [] _ (by simp; omega)]
  rw [List.forIn_nil]
  simp only [List.nil_append, neD, Bool.false_eq_true, if_false, bind_assoc, pure_bind]
theorem display_two {ps : List (Sem Value × Sem Value)} {kvs : List (Key × V)} (t : Trees X ps kvs) (h1 : 17 < ps.length) (h2 : ps.length ≤ 32) (hne : mergeK [] (kvs.take 17) ≠ []) {pins : List (Addr × Obj)} {σ : L2.St} {H : Hp} {s : Shared} {Q : VK} (I : Inv X pins σ H s) (q : tLong (mergeK (mergeK [] (kvs.take 17)) (mergeK [] (kvs.drop 17))) σ H Q) :
    wpAny (model X.prog X.w) X.A (dictDisplay (ps.map fun p => (some p.1, p.2))) (fun u s1 => ∃ x H', Inv X pins σ H' s1 ∧ RelV x u ∧ Q x H') X.xe s := by
  rw [display_eq ps h1 h2]
  have hkl := t.length
  refine wpAny_bind (sub_long (t.take 17) (by rw [List.length_take]; omega) (by rw [List.length_take]; omega) I fun p s1 np I1 => ?_)
  refine wpAny_bind (wpAny_holding (sub_short (t.drop 17) (by rw [List.length_drop]; omega) I1 fun r s2 nr I2 => ?_))
  have pr : p ≠ r := ne_of_none upd_same nr
  have hHr : H r = none := by rw [upd_ne pr.symm] at nr; exact nr
  obtain ⟨z1, low1, vs1, rel1, dd1⟩ := dk_of I2.hok (show upd (upd H p (.dK (mergeK [] (kvs.take 17)))) r (.dK (mergeK [] (kvs.drop 17))) p = some (.dK (mergeK [] (kvs.take 17))) from by rw [upd_ne pr]; exact upd_same)
  obtain ⟨z2, low2, vs2, rel2, dd2⟩ := dk_of I2.hok (show upd (upd H p (.dK (mergeK [] (kvs.take 17)))) r (.dK (mergeK [] (kvs.drop 17))) r = some (.dK (mergeK [] (kvs.drop 17))) from upd_same)
  have len1 := length_mergeK (kvs.take 17) []
  have len2 := length_mergeK (kvs.drop 17) []
  rw [List.length_nil, List.length_take] at len1
  rw [List.length_nil, List.length_drop] at len2
  have rl1 := rel1.length
  have rl2 := rel2.length
  refine wpAny_bind (wpAny_onRaise (wpAny_holding (merge_pairs dd1 dd2 pr.symm low2 (fun e => hne (List.length_eq_zero_iff.mp (by rw [rl1, e]; rfl))) (by omega) fun h' q1 q2 => ?_)))
  refine wpAny_pure ⟨.ref p, upd (upd (upd H p (.dK (mergeK [] (kvs.take 17)))) r (.dK (mergeK [] (kvs.drop 17)))) p (.dK (mergeK (mergeK [] (kvs.take 17)) (mergeK [] (kvs.drop 17)))), ?_, rfl, ?_⟩
  · have hz : (mergeK (mergeK [] (kvs.take 17)) (mergeK [] (kvs.drop 17))).length ≤ sizeLine := by
      have h3 := length_mergeK (mergeK [] (kvs.drop 17)) (mergeK [] (kvs.take 17))
      rw [sizeLine_eq]; omega
    have he : ∃ q, h'.get? p = some q := let ⟨q, _, _, hq, _⟩ := q1; ⟨q, hq⟩
    exact d_write (t' := s2.toks) I2 (by rw [upd_ne pr, upd_same]; exact True.intro) q2 he (dk_new hz low1 (rel2.merge rel1) q1)
  · refine q p _ np (fun b u hb => ?_) upd_same
    have z1 : b ≠ p := ne_of_none hb np
    rw [upd_ne z1, upd_ne (ne_of_none hb hHr), upd_ne z1]; exact hb
theorem pe_long {keys : List (Option Expr)} {values : List Expr} {pos : Pos} {kvs : List (Key × V)} (hall : keys.all (·.isSome) = true) (hl : keys.length = values.length) (t : Trees X (pairTrees keys values X.env pos) kvs) (h1 : 17 < keys.length) (h2 : keys.length ≤ 32) (hne : mergeK [] (kvs.take 17) ≠ []) :
    PE X (.Dict keys values pos) (tLong (mergeK (mergeK [] (kvs.take 17)) (mergeK [] (kvs.drop 17)))) := by
  refine ⟨fun pins s σ H Q I q => ?_⟩
  have hn := pairTrees_length keys values X.env pos hall hl
  rw [arm_eval_Dict, zip_pairTrees keys values X.env pos hall hl]
  exact wpAny_bind (wpAny_standAt (display_two t (by rw [hn]; exact h1) (by rw [hn]; exact h2) hne I q))
theorem trees_nil {pos : Pos} : Trees X (pairTrees [] [] X.env pos) [] := .nil
theorem trees_cons {pos : Pos} {k v : Expr} {ks : List (Option Expr)} {vs : List Expr} {x : Str} {y : V} {kvs : List (Key × V)} (hk : PE X k (tC (.str x))) (hv : PE X v (tC y)) (r : Trees X (pairTrees ks vs X.env pos) kvs) : Trees X (pairTrees (some k :: ks) (v :: vs) X.env pos) ((.inr x, y) :: kvs) := by
  refine .cons (fun pins s σ H I => ?_) (fun pins s σ H I => ?_) r
  · refine thn (hk.run pins s σ H (fun a H' => a = .str x ∧ H' = H) I ⟨rfl, rfl⟩) fun u s1 ⟨a, H', I1, ra, e1, e2⟩ => ?_
    subst e1 e2
    exact ⟨I1, ra⟩
  · refine wpAny_bind (thn (hv.run pins s σ H (fun a H' => a = y ∧ H' = H) I ⟨rfl, rfl⟩) fun u s1 ⟨a, H', I1, ra, e1, e2⟩ => ?_)
    subst e1 e2
    exact wpAny_bind (wpAny_standAt (wpAny_pure ⟨I1, ra⟩))
end
end Kr

set_option Elab.async false
set_option linter.all false
set_option maxRecDepth 100000
set_option maxHeartbeats 4000000
namespace Kr
open PySem PySem.Spec PyProof.Rows L2
abbrev s_commands : Stmt := topS 100
theorem sc_commands : FnScope [] [] (defScope s_commands) := ⟨rfl, rfl, rfl, by decide +kernel, rfl, by decide +kernel, by decide +kernel⟩
theorem mergeK_nodup : ∀ (l acc : List (Key × V)), ((acc ++ l).map (·.1)).Nodup → mergeK acc l = acc ++ l
  | [], acc, _ => by rw [List.append_nil]; rfl
  | x :: r, acc, h => by
    have hx : valV acc x.1 = none := by
      cases e : valV acc x.1 with
      | none => rfl
      | some v =>
        have m := valV_in e
        rw [List.map_append, List.nodup_append] at h
        exact absurd rfl (h.2.2 x.1 m x.1 (by simp))
    show mergeK (putK acc x.1 x.2) r = _
    rw [putK_new _ hx, mergeK_nodup r (acc ++ [(x.1, x.2)]) (by simpa using h)]
    simp
def cmdList (c : Cs) : List (Key × V) := [(.inr (Str.ofString "person NAME"), .ref (c.cmd 0)), (.inr (Str.ofString "consent NAME NAME"), .ref (c.cmd 1)), (.inr (Str.ofString "withdraw NAME NAME"), .ref (c.cmd 2)), (.inr (Str.ofString "object NAME"), .ref (c.cmd 3)), (.inr (Str.ofString "ended NAME"), .ref (c.cmd 4)), (.inr (Str.ofString "forget NAME"), .ref (c.cmd 5)), (.inr (Str.ofString "ground NAME NAME law SPAN EVENT"), .ref (c.cmd 6)), (.inr (Str.ofString "ground NAME NAME need SPAN EVENT"), .ref (c.cmd 7)), (.inr (Str.ofString "ground NAME NAME for NAME SPAN EVENT"), .ref (c.cmd 8)), (.inr (Str.ofString "void NAME"), .ref (c.cmd 9)), (.inr (Str.ofString "store NAME roll DAYS"), .ref (c.cmd 10)), (.inr (Str.ofString "store NAME other"), .ref (c.cmd 11)), (.inr (Str.ofString "deaf NAME"), .ref (c.cmd 12)), (.inr (Str.ofString "hears NAME"), .ref (c.cmd 13)), (.inr (Str.ofString "put NAME NAME"), .ref (c.cmd 14)), (.inr (Str.ofString "make NAME NAME RECORDS"), .ref (c.cmd 15)), (.inr (Str.ofString "copy RECORD NAME"), .ref (c.cmd 16)), (.inr (Str.ofString "use RECORD"), .ref (c.cmd 17)), (.inr (Str.ofString "hold NAME NAME NAME-OR-ANY"), .ref (c.cmd 18)), (.inr (Str.ofString "free NAME"), .ref (c.cmd 19)), (.inr (Str.ofString "back NAME"), .ref (c.cmd 20)), (.inr (Str.ofString "tick DAYS"), .ref (c.cmd 21)), (.inr (Str.ofString "tell NAME"), .ref (c.cmd 22)), (.inr (Str.ofString "why RECORD"), .ref (c.cmd 23)), (.inr (Str.ofString "till RECORD"), .ref (c.cmd 24)), (.inr (Str.ofString "proof RECORD"), .ref (c.cmd 25)), (.inr (Str.ofString "due DAYS"), .ref (c.cmd 26)), (.inr (Str.ofString "asks"), .ref (c.cmd 27))]
theorem cmdList_eq (c : Cs) : cmdList c = cmdKV c := rfl
theorem cmdList_keys (c : Cs) : (cmdList c).map (·.1) = formTexts.map fun x => .inr (Str.ofString x) := rfl
theorem cmd_nodup (c : Cs) : ((cmdList c).map (·.1)).Nodup := by
  rw [cmdList_keys]
  decide +kernel
theorem cmd_merge (c : Cs) : mergeK (mergeK [] ((cmdList c).take 17)) (mergeK [] ((cmdList c).drop 17)) = cmdKV c := by
  have nd := cmd_nodup c
  have e : (cmdList c).take 17 ++ (cmdList c).drop 17 = cmdList c := List.take_append_drop ..
  rw [← e, List.map_append] at nd
  have nd1 := (List.nodup_append.mp nd).1
  have nd2 := (List.nodup_append.mp nd).2.1
  rw [mergeK_nodup _ [] (by simpa using nd1), mergeK_nodup _ [] (by simpa using nd2), List.nil_append, List.nil_append, mergeK_nodup _ _ (by rw [List.map_append]; exact nd), e, cmdList_eq]
theorem cmd_ne (c : Cs) : mergeK [] ((cmdList c).take 17) ≠ [] := by
  have nd := cmd_nodup c
  have e : (cmdList c).take 17 ++ (cmdList c).drop 17 = cmdList c := List.take_append_drop ..
  rw [← e, List.map_append] at nd
  rw [mergeK_nodup _ [] (by simpa using (List.nodup_append.mp nd).1)]
  simp [cmdList]
theorem ok_commands {P : Program} {w : World} {K : PySem.W.Frag} {mg : Str → Option Value} {base : Heap} {c : Cs} (T : TopTxt K w mg c) (F : FunAt K mg "commands" s_commands) : Def P w K mg base "commands" 1 [] (sp_commands K c) := by
  obtain ⟨f, fd, F0, mf⟩ := F.ex
  have b0 := F0.binds (ps := []) fun _ _ _ _ _ _ us hl => match us, hl with | [], _ => rfl
  refine ⟨⟨f, fd, F0.ok (k := 0) sc_commands (fun vs H Q E h => ?len) (fun cdv A outer s H vs Q E hr h => ⟨tRet (tLong (mergeK (mergeK [] ((cmdList c).take 17)) (mergeK [] ((cmdList c).drop 17)))), ?term, ?pu⟩), mf, F0.kp, b0⟩⟩
  case len => obtain ⟨rfl, h⟩ := sp0_of h; rfl
  case term => exact pss_one (ps_ret (pe_long (kvs := cmdList c) rfl rfl (trees_cons pe_str (pe_glob (v := .ref (c.cmd 0)) rfl (T.m_cmd 0 "add_person" rfl) rfl) (trees_cons pe_str (pe_glob (v := .ref (c.cmd 1)) rfl (T.m_cmd 1 "give_consent" rfl) rfl) (trees_cons pe_str (pe_glob (v := .ref (c.cmd 2)) rfl (T.m_cmd 2 "withdraw_consent" rfl) rfl) (trees_cons pe_str (pe_glob (v := .ref (c.cmd 3)) rfl (T.m_cmd 3 "raise_objection" rfl) rfl) (trees_cons pe_str (pe_glob (v := .ref (c.cmd 4)) rfl (T.m_cmd 4 "end_matter" rfl) rfl) (trees_cons pe_str (pe_glob (v := .ref (c.cmd 5)) rfl (T.m_cmd 5 "forget_person" rfl) rfl) (trees_cons pe_str (pe_glob (v := .ref (c.cmd 6)) rfl (T.m_cmd 6 "add_law_ground" rfl) rfl) (trees_cons pe_str (pe_glob (v := .ref (c.cmd 7)) rfl (T.m_cmd 7 "add_need_ground" rfl) rfl) (trees_cons pe_str (pe_glob (v := .ref (c.cmd 8)) rfl (T.m_cmd 8 "add_purpose_ground" rfl) rfl) (trees_cons pe_str (pe_glob (v := .ref (c.cmd 9)) rfl (T.m_cmd 9 "void_ground" rfl) rfl) (trees_cons pe_str (pe_glob (v := .ref (c.cmd 10)) rfl (T.m_cmd 10 "add_rolled_store" rfl) rfl) (trees_cons pe_str (pe_glob (v := .ref (c.cmd 11)) rfl (T.m_cmd 11 "add_other_house" rfl) rfl) (trees_cons pe_str (pe_glob (v := .ref (c.cmd 12)) rfl (T.m_cmd 12 "make_deaf" rfl) rfl) (trees_cons pe_str (pe_glob (v := .ref (c.cmd 13)) rfl (T.m_cmd 13 "make_hearing" rfl) rfl) (trees_cons pe_str (pe_glob (v := .ref (c.cmd 14)) rfl (T.m_cmd 14 "put_record" rfl) rfl) (trees_cons pe_str (pe_glob (v := .ref (c.cmd 15)) rfl (T.m_cmd 15 "make_record" rfl) rfl) (trees_cons pe_str (pe_glob (v := .ref (c.cmd 16)) rfl (T.m_cmd 16 "copy_record" rfl) rfl) (trees_cons pe_str (pe_glob (v := .ref (c.cmd 17)) rfl (T.m_cmd 17 "use_record" rfl) rfl) (trees_cons pe_str (pe_glob (v := .ref (c.cmd 18)) rfl (T.m_cmd 18 "add_hold" rfl) rfl) (trees_cons pe_str (pe_glob (v := .ref (c.cmd 19)) rfl (T.m_cmd 19 "free_hold" rfl) rfl) (trees_cons pe_str (pe_glob (v := .ref (c.cmd 20)) rfl (T.m_cmd 20 "put_back" rfl) rfl) (trees_cons pe_str (pe_glob (v := .ref (c.cmd 21)) rfl (T.m_cmd 21 "pass_days" rfl) rfl) (trees_cons pe_str (pe_glob (v := .ref (c.cmd 22)) rfl (T.m_cmd 22 "tell_person" rfl) rfl) (trees_cons pe_str (pe_glob (v := .ref (c.cmd 23)) rfl (T.m_cmd 23 "tell_why" rfl) rfl) (trees_cons pe_str (pe_glob (v := .ref (c.cmd 24)) rfl (T.m_cmd 24 "tell_till" rfl) rfl) (trees_cons pe_str (pe_glob (v := .ref (c.cmd 25)) rfl (T.m_cmd 25 "tell_proof" rfl) rfl) (trees_cons pe_str (pe_glob (v := .ref (c.cmd 26)) rfl (T.m_cmd 26 "tell_due" rfl) rfl) (trees_cons pe_str (pe_glob (v := .ref (c.cmd 27)) rfl (T.m_cmd 27 "tell_asks" rfl) rfl) trees_nil)))))))))))))))))))))))))))) (by decide) (by decide) (cmd_ne c)))
  case pu =>
    obtain ⟨rfl, h⟩ := sp0_of h
    rw [cmd_merge]
    exact h
end Kr

set_option Elab.async false
set_option linter.all false
set_option maxRecDepth 100000
set_option maxHeartbeats 2000000
namespace Kr
open PySem PySem.Spec PyProof.Rows L2
section
variable {K : PySem.W.Frag} {w : World} {mg : Str → Option Value} {c : Cs}
/-! ### a new house -/
def startL (a x d1 d2 d3 l d4 : Addr) : Tag → Addr
  | .house => a
  | .people => d1
  | .grounds => d2
  | .stores => d3
  | .records => l
  | .holds => d4
  | .store _ => x
  | _ => a
theorem pure_init_House (T : TopTxt K w mg c) : ∀ a H Q, prI_House c a H Q → t_init_House K c (D0 Q) (start ["self"] [a]) H := by
  rintro _ H Q ⟨a, dx, rfl, h, q⟩
  refine ⟨_, rfl, sn_House_today T (vs := []) h rfl ?_⟩
  intro x ex nx nex nee
  have xa : x ≠ a := fun z => by rw [z, upd_same] at nx; cases nx
  have exa : ex ≠ a := fun z => by rw [z, upd_same] at nex; cases nex
  rw [upd_ne xa] at nx
  rw [upd_ne exa] at nex
  refine ⟨x, ex, rfl, upd_same, rfl, ?_⟩
  rw [upd_upd]
  refine ⟨_, rfl, sn_House_main T (vs := [.int 0]) (dx := dx) (by rw [upd_ne xa.symm, upd_ne exa.symm, upd_same]; rfl) rfl ?_⟩
  intro d1 n1
  have d1a : d1 ≠ a := fun z => by rw [z, upd_same] at n1; cases n1
  rw [upd_ne d1a] at n1
  have d1x : d1 ≠ x := fun z => by rw [z, upd_same] at n1; cases n1
  rw [upd_ne d1x] at n1
  have d1e : d1 ≠ ex := fun z => by rw [z, upd_same] at n1; cases n1
  rw [upd_ne d1e, upd_ne d1a] at n1
  refine ⟨_, rfl, sn_House_people T (vs := [.int 0, .ref x]) (dx := dx) (by rw [upd_ne d1a.symm, upd_same]; rfl) rfl ?_⟩
  intro d2 n2
  have d2a : d2 ≠ a := fun z => by rw [z, upd_same] at n2; cases n2
  rw [upd_ne d2a] at n2
  have d21 : d2 ≠ d1 := fun z => by rw [z, upd_same] at n2; cases n2
  rw [upd_ne d21, upd_ne d2a] at n2
  have d2x : d2 ≠ x := fun z => by rw [z, upd_same] at n2; cases n2
  rw [upd_ne d2x] at n2
  have d2e : d2 ≠ ex := fun z => by rw [z, upd_same] at n2; cases n2
  rw [upd_ne d2e, upd_ne d2a] at n2
  refine ⟨_, rfl, sn_House_grounds T (vs := [.int 0, .ref x, .ref d1]) (dx := dx) (by rw [upd_ne d2a.symm, upd_same]; rfl) rfl ?_⟩
  intro d3 n3
  have d3a : d3 ≠ a := fun z => by rw [z, upd_same] at n3; cases n3
  rw [upd_ne d3a] at n3
  have d32 : d3 ≠ d2 := fun z => by rw [z, upd_same] at n3; cases n3
  rw [upd_ne d32, upd_ne d3a] at n3
  have d31 : d3 ≠ d1 := fun z => by rw [z, upd_same] at n3; cases n3
  rw [upd_ne d31, upd_ne d3a] at n3
  have d3x : d3 ≠ x := fun z => by rw [z, upd_same] at n3; cases n3
  rw [upd_ne d3x] at n3
  have d3e : d3 ≠ ex := fun z => by rw [z, upd_same] at n3; cases n3
  rw [upd_ne d3e, upd_ne d3a] at n3
  refine ⟨_, rfl, sn_House_stores T (vs := [.int 0, .ref x, .ref d1, .ref d2]) (dx := dx) (by rw [upd_ne d3a.symm, upd_same]; rfl) rfl ?_⟩
  refine ⟨by show 0 ≤ sizeLine; exact Nat.zero_le _, fun l nl => ?_⟩
  have la : l ≠ a := fun z => by rw [z, upd_same] at nl; cases nl
  rw [upd_ne la] at nl
  have l3 : l ≠ d3 := fun z => by rw [z, upd_same] at nl; cases nl
  rw [upd_ne l3, upd_ne la] at nl
  have l2 : l ≠ d2 := fun z => by rw [z, upd_same] at nl; cases nl
  rw [upd_ne l2, upd_ne la] at nl
  have l1 : l ≠ d1 := fun z => by rw [z, upd_same] at nl; cases nl
  rw [upd_ne l1, upd_ne la] at nl
  have lx : l ≠ x := fun z => by rw [z, upd_same] at nl; cases nl
  rw [upd_ne lx] at nl
  have le : l ≠ ex := fun z => by rw [z, upd_same] at nl; cases nl
  rw [upd_ne le, upd_ne la] at nl
  refine ⟨_, rfl, sn_House_records T (vs := [.int 0, .ref x, .ref d1, .ref d2, .ref d3]) (dx := dx) (by rw [upd_ne la.symm, upd_same]; rfl) rfl ?_⟩
  intro d4 n4
  have d4a : d4 ≠ a := fun z => by rw [z, upd_same] at n4; cases n4
  rw [upd_ne d4a] at n4
  have d4l : d4 ≠ l := fun z => by rw [z, upd_same] at n4; cases n4
  rw [upd_ne d4l, upd_ne d4a] at n4
  have d43 : d4 ≠ d3 := fun z => by rw [z, upd_same] at n4; cases n4
  rw [upd_ne d43, upd_ne d4a] at n4
  have d42 : d4 ≠ d2 := fun z => by rw [z, upd_same] at n4; cases n4
  rw [upd_ne d42, upd_ne d4a] at n4
  have d41 : d4 ≠ d1 := fun z => by rw [z, upd_same] at n4; cases n4
  rw [upd_ne d41, upd_ne d4a] at n4
  have d4x : d4 ≠ x := fun z => by rw [z, upd_same] at n4; cases n4
  rw [upd_ne d4x] at n4
  have d4e : d4 ≠ ex := fun z => by rw [z, upd_same] at n4; cases n4
  rw [upd_ne d4e, upd_ne d4a] at n4
  refine ⟨_, rfl, sn_House_holds T (vs := [.int 0, .ref x, .ref d1, .ref d2, .ref d3, .ref l]) (dx := dx) (by rw [upd_ne d4a.symm, upd_same]; rfl) rfl ?_⟩
  -- the house as it lies
  have g0 : ∀ H', H' a = some (.ins c.House dx (fsOf nHouse [.int 0, .ref x, .ref d1, .ref d2, .ref d3, .ref l, .ref d4])) → H' x = some (.ins c.Store ex (fsOf nStore mainVals)) → H' d1 = some (.dK []) → H' d2 = some (.dK []) → H' d3 = some (.dK []) → H' l = some (.lst []) → H' d4 = some (.dK []) →
      (∀ b o, H b = some o → b ≠ a → H' b = some o) → Q .non H' := by
    intro H' ha hx h1 h2 h3 hl h4 hfr
    refine q H' (fun b => if b = a then none else H b) (startL a x d1 d2 d3 l d4) (fun b o hb hne => by rw [if_neg hne]; exact hb) ?_ rfl
    have live : ∀ t, (cell c (startL a x d1 d2 d3 l d4) Kp01.start t).isSome = true → t = .house ∨ t = .people ∨ t = .grounds ∨ t = .stores ∨ t = .records ∨ t = .holds ∨ t = .store Kp01.MAIN := fun t ht => by
      cases t with
      | store n =>
        by_cases z : n = Kp01.MAIN
        · subst z; simp
        · rw [cell_store _ _ _ z] at ht; cases ht
      | house => simp
      | people => simp
      | grounds => simp
      | stores => simp
      | records => simp
      | holds => simp
      | person n => cases ht
      | consents n => cases ht
      | ground n => cases ht
      | hold n => cases ht
      | record i => simp [cell, Kp01.start] at ht
      | sources i => simp [cell, Kp01.start] at ht
      | copies i => simp [cell, Kp01.start] at ht
      | copy i n => simp [cell, Kp01.start] at ht
    refine ⟨fun t cl _ hc => ?_, fun t ht => ?_, fun t u ht hu e => ?_, fun b o hb => ?_, fun t ht => ?_⟩
    · rcases live t (by rw [hc]; rfl) with rfl | rfl | rfl | rfl | rfl | rfl | rfl
      · cases hc; exact ⟨dx, ha⟩
      · cases hc; exact h1
      · cases hc; exact h2
      · cases hc; exact h3
      · cases hc; exact hl
      · cases hc; exact h4
      · rw [cell_main] at hc; cases hc; exact ⟨ex, hx⟩
    · rcases live t ht with rfl | rfl | rfl | rfl | rfl | rfl | rfl
      · exact ⟨_, ha⟩
      · exact ⟨_, h1⟩
      · exact ⟨_, h2⟩
      · exact ⟨_, h3⟩
      · exact ⟨_, hl⟩
      · exact ⟨_, h4⟩
      · exact ⟨_, hx⟩
    · rcases live t ht with rfl | rfl | rfl | rfl | rfl | rfl | rfl <;> rcases live u hu with rfl | rfl | rfl | rfl | rfl | rfl | rfl <;> first
        | rfl
        | exact absurd e d1a | exact absurd e.symm d1a | exact absurd e d2a | exact absurd e.symm d2a | exact absurd e d3a | exact absurd e.symm d3a | exact absurd e la | exact absurd e.symm la | exact absurd e d4a | exact absurd e.symm d4a | exact absurd e xa | exact absurd e.symm xa
        | exact absurd e d21 | exact absurd e.symm d21 | exact absurd e d31 | exact absurd e.symm d31 | exact absurd e d32 | exact absurd e.symm d32 | exact absurd e l1 | exact absurd e.symm l1 | exact absurd e l2 | exact absurd e.symm l2 | exact absurd e l3 | exact absurd e.symm l3
        | exact absurd e d41 | exact absurd e.symm d41 | exact absurd e d42 | exact absurd e.symm d42 | exact absurd e d43 | exact absurd e.symm d43 | exact absurd e d4l | exact absurd e.symm d4l
        | exact absurd e d1x | exact absurd e.symm d1x | exact absurd e d2x | exact absurd e.symm d2x | exact absurd e d3x | exact absurd e.symm d3x | exact absurd e lx | exact absurd e.symm lx | exact absurd e d4x | exact absurd e.symm d4x
    · by_cases z : b = a
      · subst z; simp at hb
      · rw [if_neg z] at hb; exact hfr b o hb z
    · rcases live t ht with rfl | rfl | rfl | rfl | rfl | rfl | rfl
      · simp [startL]
      · show (if d1 = a then none else H d1) = none; rw [n1]; simp
      · show (if d2 = a then none else H d2) = none; rw [n2]; simp
      · show (if d3 = a then none else H d3) = none; rw [n3]; simp
      · show (if l = a then none else H l) = none; rw [nl]; simp
      · show (if d4 = a then none else H d4) = none; rw [n4]; simp
      · show (if x = a then none else H x) = none; rw [nx]; simp
  refine g0 _ upd_same ?_ ?_ ?_ ?_ ?_ ?_ ?_
  · rw [upd_ne xa, upd_ne d4x.symm, upd_ne xa, upd_ne lx.symm, upd_ne xa, upd_ne d3x.symm, upd_ne xa, upd_ne d2x.symm, upd_ne xa, upd_ne d1x.symm, upd_ne xa, upd_same]; rfl
  · rw [upd_ne d1a, upd_ne d41.symm, upd_ne d1a, upd_ne l1.symm, upd_ne d1a, upd_ne d31.symm, upd_ne d1a, upd_ne d21.symm, upd_ne d1a, upd_same]
  · rw [upd_ne d2a, upd_ne d42.symm, upd_ne d2a, upd_ne l2.symm, upd_ne d2a, upd_ne d32.symm, upd_ne d2a, upd_same]
  · rw [upd_ne d3a, upd_ne d43.symm, upd_ne d3a, upd_ne l3.symm, upd_ne d3a, upd_same]
  · rw [upd_ne la, upd_ne d4l.symm, upd_ne la, upd_same]
  · rw [upd_ne d4a, upd_same]
  · intro b o hb hne
    rw [upd_ne hne, upd_ne (ne_of_none hb n4), upd_ne hne, upd_ne (ne_of_none hb nl), upd_ne hne, upd_ne (ne_of_none hb n3), upd_ne hne, upd_ne (ne_of_none hb n2), upd_ne hne, upd_ne (ne_of_none hb n1), upd_ne hne, upd_ne (ne_of_none hb nx), upd_ne (ne_of_none hb nex), upd_ne hne]; exact hb
end
end Kr

set_option Elab.async false
set_option linter.all false
set_option maxRecDepth 100000
set_option maxHeartbeats 2000000
namespace Kr
open PySem PySem.Spec PyProof.Rows L2
/-! ### a house stays good -/
section
variable {s : Kp01.House} {n : Bytes}
abbrev RecB (s : Kp01.House) (r : Kp01.Record) : Prop := r.kind.length ≤ 8 ∧ (∀ d, r.letGo = some d → d ≤ s.day) ∧ ∀ k ∈ r.copies, ∀ d, stDay k.st = some d → d ≤ s.day + 400
theorem leaves_day (z : Size s) {t : Kp01.House} (e : t.stores = s.stores) (k : Kp01.Copy) : ∀ d, stDay (Kp01.leaves t s.day k).st = some d → d ≤ s.day + 400 := by
  intro d
  unfold Kp01.leaves
  cases h : Kp01.storeOf t k.store with
  | none => intro h; cases h; omega
  | some x =>
    have hx : x ∈ s.stores := by rw [← e]; exact List.mem_of_find?_eq_some h
    cases x with
    | roll m t => intro h; cases h; have := (z.sname _ hx).2 m t rfl; omega
    | other m b => intro h; cases h; omega
theorem settled_day {t : Kp01.House} {d0 : Nat} {k : Kp01.Copy} (hk : ∀ d, stDay k.st = some d → d ≤ d0 + 400) : ∀ d, stDay (Kp01.settled t d0 k).st = some d → d ≤ d0 + 400 := by
  intro d
  unfold Kp01.settled
  split
  · split
    · intro h; cases h; omega
    · exact hk d
  · split
    · intro h; cases h; omega
    · exact hk d
  · exact hk d
theorem recB_gone (z : Size s) {t : Kp01.House} (e : t.stores = s.stores) {r : Kp01.Record} (h : RecB s r) : RecB s (goneRec t s.day r) := by
  refine ⟨h.1, fun d hd => ?_, fun k hk d hd => ?_⟩
  · cases hd; exact Nat.le_refl _
  · obtain ⟨k0, _, rfl⟩ := List.mem_map.mp hk
    exact leaves_day z e k0 d hd
theorem recB_settled {t : Kp01.House} {r : Kp01.Record} (h : RecB s r) : RecB s (settledRec t s.day r) := by
  refine ⟨h.1, h.2.1, fun k hk d hd => ?_⟩
  obtain ⟨k0, h0, rfl⟩ := List.mem_map.mp hk
  exact settled_day (h.2.2 k0 h0) d hd
theorem Size.today (z : Size s) : Size (Kp01.today s) := by
  have e := today_rest s
  refine ⟨by rw [e.2.1]; exact z.day, by rw [← e.1.people]; exact z.people, by rw [← e.1.grounds]; exact z.grounds, by rw [← e.1.stores]; exact z.stores, by rw [e.2.2]; exact z.records, by rw [← e.1.holds]; exact z.holds, by rw [← e.1.people]; exact z.pname, by rw [← e.1.grounds]; exact z.gname, by rw [← e.1.stores]; exact z.sname, by rw [← e.1.holds]; exact z.hname, fun i q hq => ?_⟩
  have hi : i < s.records.length := by rw [← e.2.2]; exact (List.getElem?_eq_some_iff.mp hq).1
  have hr : s.records[i]? = some s.records[i] := List.getElem?_eq_getElem hi
  rw [today_at hr] at hq
  cases hq
  rw [e.2.1]
  refine recB_settled (s := s) ?_
  unfold turned
  split
  · exact z.recs i _ hr
  · exact recB_gone z (letRun_rest s.day i s).1.stores.symm (z.recs i _ hr)
theorem good_today (o : Ok s) (z : Size s) : Good (Kp01.today s) := ⟨o.today, today_kept o.below, z.today⟩
theorem Size.next (z : Size s) (h : s.day + 1 ≤ 1000000) : Size { s with day := s.day + 1 } :=
  ⟨h, z.people, z.grounds, z.stores, z.records, z.holds, z.pname, z.gname, z.sname, z.hname, fun i r e => ⟨(z.recs i r e).1, fun d hd => Nat.le_succ_of_le ((z.recs i r e).2.1 d hd), fun k hk d hd => by have := (z.recs i r e).2.2 k hk d hd; show d ≤ s.day + 1 + 400; omega⟩⟩
theorem good_days (g : Good s) : ∀ n, s.day + n ≤ 1000000 → Good (Kp01.days n s)
  | 0, _ => g
  | n + 1, h => by
    rw [days_snoc]
    have g1 := good_days g n (by omega)
    exact good_today g1.ok.later (g1.size.next (by rw [days_day]; omega))
theorem mem_with {p' p : Kp01.Person} (h : p ∈ (Kp01.withPerson s p').people) : p = p' ∨ p ∈ s.people := by
  obtain ⟨x, hx, e⟩ := List.mem_map.mp h
  split at e
  · exact .inl e.symm
  · subst e; exact .inr hx
theorem Size.withPerson (z : Size s) {p' : Kp01.Person} (h : p'.name.length ≤ 8 ∧ p'.consents.length ≤ 4 ∧ p'.consents.Nodup) : Size (Kp01.withPerson s p') :=
  ⟨z.day, by show (s.people.map _).length ≤ 4; rw [List.length_map]; exact z.people, z.grounds, z.stores, z.records, z.holds, fun p hp => (mem_with hp).elim (fun e => by rw [e]; exact h) (z.pname p), z.gname, z.sname, z.hname, z.recs⟩
theorem person_name {p : Kp01.Person} (h : Kp01.personOf s n = some p) : p.name = n ∧ p ∈ s.people := by
  have e := List.find?_some h
  exact ⟨by simpa using e, List.mem_of_find?_eq_some h⟩
theorem good_with (g : Good s) {p p' : Kp01.Person} (h : Kp01.personOf s n = some p) (e : p'.name = p.name) (hc : p'.consents.length ≤ 4 ∧ p'.consents.Nodup) : Good (Kp01.today (Kp01.withPerson s p')) := by
  have hp := person_name h
  exact good_today (g.ok.withPerson h (e.trans hp.1)) (g.size.withPerson ⟨by rw [e]; exact (g.size.pname p hp.2).1, hc⟩)
/-- a command that is well formed -/
def Wf : Kp01.Cmd → Prop
  | .person n => isN n
  | .ground g => isN g.name ∧ isN g.kind ∧ ∀ v, g.sort = .consent v → isN v
  | .store x => isN (Kp01.storeName x) ∧ ∀ m d, x = .roll m d → d ≤ 400
  | .put _ k => isN k
  | .make _ k _ => isN k
  | .hold h => isN h.name ∧ ∀ k, h.kind = some k → isN k
  | .tick n => n ≤ 400
  | _ => True
theorem isN_len {n : Bytes} (h : isN n) : n.length ≤ 8 := by
  have h : (decide (1 ≤ n.length) && (decide (n.length ≤ 8) && (n.all Kp01.small && (n != Kp01.ascii "any" && n != Kp01.ascii "main")))) = true := h
  simp only [Bool.and_eq_true, decide_eq_true_eq] at h
  exact h.2.1
theorem isN_any {n : Bytes} (h : isN n) : n ≠ Kp01.ascii "any" := by
  intro z; subst z; revert h; unfold isN; decide +kernel
theorem isN_main {n : Bytes} (h : isN n) : n ≠ Kp01.MAIN := by
  intro z; subst z; revert h; unfold isN; decide +kernel
theorem mem_snoc {α : Type} {l : List α} {a x : α} (h : x ∈ l ++ [a]) : x = a ∨ x ∈ l := by
  rcases List.mem_append.mp h with h | h
  · exact .inr h
  · exact .inl (by simpa using h)
theorem keeps_more {t : Kp01.House} (hr : t.records = s.records) (hg : t.grounds = s.grounds) (hp : ∀ m p, Kp01.personOf s m = some p → Kp01.personOf t m = some p) (hh : ∀ h ∈ s.holds, h ∈ t.holds) {r : Kp01.Record} {d : Nat} (h : Kp01.keeps s r d = true) : Kp01.keeps t r d = true := by
  unfold Kp01.keeps at h ⊢
  rw [Bool.or_eq_true] at h ⊢
  rcases h with h | h
  · refine .inl ?_
    unfold Kp01.given at h ⊢
    cases e : Kp01.personOf s r.person with
    | none => rw [e] at h; cases h
    | some p =>
      rw [e] at h
      rw [hp _ _ e, hg]
      have eg : Kp01.gives t p r d = Kp01.gives s p r d := by
        funext g
        unfold Kp01.gives Kp01.whole
        rw [hr]
      show (!(s.grounds.filter (Kp01.gives t p r d)).isEmpty) = true
      rw [eg]; exact h
  · refine .inr ?_
    unfold Kp01.heldBy at h ⊢
    rw [Bool.not_eq_true', isEmpty_filter] at h ⊢
    obtain ⟨x, hx, e⟩ := h
    exact ⟨x, hh x hx, e⟩
theorem put_good (g : Good s) {k : Bytes} {l : List Nat} (hp : (Kp01.personOf s n).isSome = true) (hk : isN k) (hl : ∀ j ∈ l, there s j = true) : Good (Kp01.put_ s (newRec s n k l)).1 := by
  unfold Kp01.put_
  split
  · exact g
  · split
    · exact g
    · next h2 =>
      have hl' : ∀ j ∈ l, j < s.records.length := fun j hj => by
        have z := hl j hj
        unfold there at z
        cases e : s.records[j]? with
        | none => rw [e] at z; cases z
        | some r => exact (List.getElem?_eq_some_iff.mp e).1
      refine good_today (g.ok.addRecord hp hl') ?_
      have z := g.size
      refine ⟨z.day, z.people, z.grounds, z.stores, ?_, z.holds, z.pname, z.gname, z.sname, z.hname, fun i r e => ?_⟩
      · show (s.records ++ [_]).length ≤ 16
        have : ¬ 16 ≤ s.records.length := h2
        rw [List.length_append]; simp; omega
      · rw [newRec_at] at e
        split at e
        · cases e
          refine ⟨isN_len hk, (fun d hd => by cases hd), fun k hk d hd => ?_⟩
          have : k = ⟨Kp01.MAIN, .there⟩ := by simpa [newRec] using hk
          subst this; cases hd
        · exact z.recs i r e
theorem onPerson_good (g : Good s) {f : Kp01.Person → Kp01.House × Bytes} (h : ∀ p, Kp01.personOf s n = some p → Good (f p).1) : Good (Kp01.onPerson s n f).1 := by
  unfold Kp01.onPerson
  cases e : Kp01.personOf s n with
  | none => exact g
  | some p => exact h p e
theorem onRecord_good (g : Good s) {i : Nat} {f : Kp01.Record → Kp01.House × Bytes} (h : ∀ r, s.records[i]? = some r → r.letGo = none → Good (f r).1) : Good (Kp01.onRecord s i f).1 := by
  unfold Kp01.onRecord
  cases e : s.records[i]? with
  | none => exact g
  | some r =>
    show Good (if r.letGo.isSome = true then (s, Kp01.no "gone") else f r : Kp01.House × Bytes).1
    split
    · exact g
    · next z => exact h r e (by cases e2 : r.letGo with | none => rfl | some d => rw [e2] at z; exact absurd rfl z)
theorem size_withRec (z : Size s) {i : Nat} {r' : Kp01.Record} (hi : i < s.records.length) (h : RecB s r') : Size { s with records := s.records.set i r' } := by
  refine ⟨z.day, z.people, z.grounds, z.stores, by show (s.records.set i r').length ≤ 16; rw [List.length_set]; exact z.records, z.holds, z.pname, z.gname, z.sname, z.hname, fun j r e => ?_⟩
  have e : (s.records.set i r')[j]? = some r := e
  by_cases hj : i = j
  · subst hj
    rw [List.getElem?_set_self hi] at e; cases e; exact h
  · rw [List.getElem?_set_ne hj] at e; exact z.recs j r e
theorem Good.does (g : Good s) {cmd : Kp01.Cmd} (w : Wf cmd) (hd : s.day + 400 ≤ 1000000) : Good (Kp01.does s cmd).1 := by
  have z := g.size
  cases cmd with
  | person n =>
    show Good (if _ then _ else if _ then _ else _ : Kp01.House × Bytes).1
    split
    · exact g
    · next h1 =>
      split
      · exact g
      · next h2 =>
        have hn : Kp01.personOf s n = none := by simpa using h1
        have h2 : ¬ 4 ≤ s.people.length := h2
        refine ⟨g.ok.addPerson hn, fun i r e er => keeps_more (s := s) (t := { s with people := s.people ++ [⟨n, [], false, none⟩] }) rfl rfl (fun m p hp => ?_) (fun h hh => hh) (g.kept i r e er), ?_⟩
        · show (s.people ++ [_]).find? _ = _
          rw [List.find?_append]
          have hp : s.people.find? _ = some p := hp
          rw [hp]; rfl
        · exact ⟨z.day, by show (s.people ++ [_]).length ≤ 4; rw [List.length_append]; simp; omega, z.grounds, z.stores, z.records, z.holds, fun p hp => (mem_snoc hp).elim (fun e => by subst e; exact ⟨isN_len w, Nat.zero_le _, List.nodup_nil⟩) (z.pname p), z.gname, z.sname, z.hname, z.recs⟩
  | consent n w =>
    refine onPerson_good g fun p hp => ?_
    show Good (if _ then _ else if _ then _ else _ : Kp01.House × Bytes).1
    split
    · exact g
    · next h1 =>
      split
      · exact g
      · next h2 =>
        have h2 : ¬ 4 ≤ p.consents.length := h2
        have hz := z.pname p (person_name hp).2
        refine good_with g hp rfl ⟨by show (p.consents ++ [_]).length ≤ 4; rw [List.length_append]; simp; omega, nodup_snoc hz.2.2 (by simpa using h1)⟩
  | withdraw n w =>
    refine onPerson_good g fun p hp => ?_
    show Good (if _ then _ else _ : Kp01.House × Bytes).1
    split
    · exact g
    · have hz := z.pname p (person_name hp).2
      exact good_with g hp rfl ⟨Nat.le_trans (List.length_filter_le ..) hz.2.1, hz.2.2.sublist List.filter_sublist⟩
  | object n =>
    refine onPerson_good g fun p hp => ?_
    show Good (if _ then _ else _ : Kp01.House × Bytes).1
    split
    · exact g
    · exact good_with g hp rfl (z.pname p (person_name hp).2).2
  | forget n =>
    refine onPerson_good g fun p hp => ?_
    exact good_with g hp rfl ⟨Nat.zero_le _, List.nodup_nil⟩
  | ended n =>
    refine onPerson_good g fun p hp => ?_
    show Good (if _ then _ else _ : Kp01.House × Bytes).1
    split
    · exact g
    · exact good_with g hp rfl (z.pname p (person_name hp).2).2
  | ground x =>
    show Good (if _ then _ else if _ then _ else _ : Kp01.House × Bytes).1
    split
    · exact g
    · next h1 =>
      split
      · exact g
      · next h2 =>
        have h2 : ¬ 8 ≤ s.grounds.length := h2
        have hn : groundOf s x.name = none := by
          rw [any_find (nm := fun (x : Kp01.Ground) => x.name)] at h1
          show (s.grounds.find? fun y => y.name == x.name) = none
          simpa using h1
        refine good_today (g.ok.addGround hn) ⟨z.day, z.people, by show (s.grounds ++ [_]).length ≤ 8; rw [List.length_append]; simp; omega, z.stores, z.records, z.holds, z.pname, fun y hy => (mem_snoc hy).elim (fun e => by subst e; exact ⟨isN_len w.1, isN_len w.2.1, fun v hv => isN_len (w.2.2 v hv)⟩) (z.gname y), z.sname, z.hname, z.recs⟩
  | void n =>
    show Good (if _ then _ else _ : Kp01.House × Bytes).1
    split
    · exact g
    · exact good_today g.ok.dropGround ⟨z.day, z.people, Nat.le_trans (List.length_filter_le ..) z.grounds, z.stores, z.records, z.holds, z.pname, fun y hy => z.gname y (List.mem_filter.mp hy).1, z.sname, z.hname, z.recs⟩
  | store x =>
    show Good (if _ then _ else if _ then _ else _ : Kp01.House × Bytes).1
    split
    · exact g
    · next h1 =>
      split
      · exact g
      · next h2 =>
        have h2 : ¬ 4 ≤ s.stores.length := h2
        have hn : Kp01.storeOf s (Kp01.storeName x) = none := by simpa using h1
        refine ⟨g.ok.addStore hn (isN_main w.1), fun i r e er => keeps_more (s := s) (t := { s with stores := s.stores ++ [x] }) rfl rfl (fun m p hp => hp) (fun h hh => hh) (g.kept i r e er), ?_⟩
        exact ⟨z.day, z.people, z.grounds, by show (s.stores ++ [_]).length ≤ 4; rw [List.length_append]; simp; omega, z.records, z.holds, z.pname, z.gname, fun y hy => (mem_snoc hy).elim (fun e => by subst e; exact ⟨isN_len w.1, w.2⟩) (z.sname y), z.hname, z.recs⟩
  | hears n b =>
    show Good (match Kp01.storeOf s n with
      | some (.other _ _) => _
      | _ => _ : Kp01.House × Bytes).1
    split
    · next h =>
      refine good_today (g.ok.heard h) ⟨z.day, z.people, z.grounds, by show (s.stores.map _).length ≤ 4; rw [List.length_map]; exact z.stores, z.records, z.holds, z.pname, z.gname, fun y hy => ?_, z.hname, z.recs⟩
      obtain ⟨x, hx, e⟩ := List.mem_map.mp hy
      have e : (if Kp01.storeName x = n then Kp01.Store.other n b else x) = y := e
      split at e
      · next hn => subst e; exact ⟨by show n.length ≤ 8; rw [← hn]; exact (z.sname x hx).1, fun m d hd => by cases hd⟩
      · subst e; exact z.sname x hx
    · exact g
  | put n k => exact onPerson_good g fun p hp => put_good g (l := []) (by rw [hp]; rfl) w (by simp)
  | make n k l =>
    refine onPerson_good g fun p hp => ?_
    show Good (if _ then _ else _ : Kp01.House × Bytes).1
    split
    · exact g
    · next h =>
      have h : ¬ (l.all (there s)) = false := h
      rw [Bool.not_eq_false, List.all_eq_true] at h
      exact put_good g (l := l) (by rw [hp]; rfl) w h
  | copy i n =>
    refine onRecord_good g fun r hr hg => ?_
    show Good (if _ then _ else if _ then _ else _ : Kp01.House × Bytes).1
    split
    · exact g
    · next h1 =>
      split
      · exact g
      · next h2 =>
        have hs : (Kp01.storeOf s n).isSome = true := by cases e : Kp01.storeOf s n with | none => rw [e] at h1; exact absurd rfl h1 | some x => rfl
        have hi := (List.getElem?_eq_some_iff.mp hr).1
        have at_ : ∀ (j : Nat) (q : Kp01.Record), (s.records.set i { r with copies := r.copies ++ [⟨n, .there⟩] })[j]? = some q → (j = i ∧ q = { r with copies := r.copies ++ [⟨n, .there⟩] }) ∨ s.records[j]? = some q := fun j q e => by
          by_cases hj : i = j
          · subst hj
            rw [List.getElem?_set_self hi] at e; cases e; exact .inl ⟨rfl, rfl⟩
          · rw [List.getElem?_set_ne hj] at e; exact .inr e
        have o := g.ok
        have hn : n ∉ r.copies.map (·.store) := by
          intro y
          obtain ⟨k, hk, e⟩ := List.mem_map.mp y
          exact h2 (List.any_eq_true.mpr ⟨k, hk, by simpa using e⟩)
        refine ⟨⟨fun j q e => ?_, fun j q e => ?_, o.npeople, o.ngrounds, o.nstores, o.nholds, o.noMain, o.hperson, o.hkind, fun j q e => ?_, fun j q e => ?_, fun j q e => ?_, fun j q e => ?_⟩, fun j q e eq => ?_, size_withRec z hi ?_⟩
        · rcases at_ j q e with ⟨rfl, rfl⟩ | e
          · exact o.below _ r hr
          · exact o.below j q e
        · rcases at_ j q e with ⟨rfl, rfl⟩ | e
          · exact o.owned _ r hr
          · exact o.owned j q e
        · rcases at_ j q e with ⟨rfl, rfl⟩ | e
          · show ((r.copies ++ [_]).map _).Nodup
            rw [map_snoc]
            exact nodup_snoc (o.ncopies _ r hr) hn
          · exact o.ncopies j q e
        · rcases at_ j q e with ⟨rfl, rfl⟩ | e
          · intro k hk
            rcases mem_snoc hk with rfl | hk
            · exact .inr hs
            · exact o.cstores _ r hr k hk
          · exact o.cstores j q e
        · rcases at_ j q e with ⟨rfl, rfl⟩ | e
          · intro _ k hk
            rcases mem_snoc hk with rfl | hk
            · rfl
            · exact o.cthere _ r hr hg k hk
          · exact o.cthere j q e
        · rcases at_ j q e with ⟨rfl, rfl⟩ | e
          · intro k hk
            rcases mem_snoc hk with rfl | hk
            · intro d hd; cases hd
            · exact o.casked _ r hr k hk
          · exact o.casked j q e
        · have th : ∀ k, there { s with records := s.records.set i { r with copies := r.copies ++ [⟨n, .there⟩] } } k = there s k := fun k => by
            unfold there
            show (match (s.records.set i _)[k]? with | some q => _ | none => _) = _
            by_cases hj : i = k
            · subst hj
              rw [List.getElem?_set_self hi, hr]
            · rw [List.getElem?_set_ne hj] <;> rfl
          rcases at_ j q e with ⟨rfl, rfl⟩ | e
          · have := g.kept j r hr hg
            rw [← this]
            exact keeps_congr ⟨rfl, rfl, rfl, rfl⟩ ⟨rfl, rfl, rfl, rfl, rfl⟩ fun k _ => th k
          · have := g.kept j q e eq
            rw [← this]
            exact keeps_congr ⟨rfl, rfl, rfl, rfl⟩ (Alike.refl q) fun k _ => th k
        · have b := z.recs i r hr
          refine ⟨b.1, b.2.1, fun k hk d hd => ?_⟩
          rcases mem_snoc hk with rfl | hk
          · cases hd
          · exact b.2.2 k hk d hd
  | use i =>
    refine onRecord_good g fun r hr hg => ?_
    have hi := (List.getElem?_eq_some_iff.mp hr).1
    exact good_today (g.ok.withRec (r' := { r with used := s.day }) hr rfl rfl rfl (fun z k hk => g.ok.cthere i r hr hg k hk) (fun k hk d hd => g.ok.casked i r hr k hk d hd)) (size_withRec z hi (z.recs i r hr))
  | hold h =>
    show Good (if _ then _ else if _ then _ else if _ then _ else _ : Kp01.House × Bytes).1
    split
    · exact g
    · next h1 =>
      split
      · exact g
      · next h2 =>
        split
        · exact g
        · next h3 =>
          have h3 : ¬ 4 ≤ s.holds.length := h3
          have hn : holdOf s h.name = none := by
            rw [any_find (nm := fun (x : Kp01.Hold) => x.name)] at h1
            show (s.holds.find? fun y => y.name == h.name) = none
            simpa using h1
          have hp : (Kp01.personOf s h.person).isSome = true := by cases e : Kp01.personOf s h.person with | none => rw [e] at h2; exact absurd rfl h2 | some x => rfl
          refine ⟨g.ok.addHold hn hp (fun e => isN_any (w.2 _ e) rfl), fun i r e er => keeps_more (s := s) (t := { s with holds := s.holds ++ [h] }) rfl rfl (fun m p hp => hp) (fun h hh => List.mem_append_left _ hh) (g.kept i r e er), ?_⟩
          exact ⟨z.day, z.people, z.grounds, z.stores, z.records, by show (s.holds ++ [_]).length ≤ 4; rw [List.length_append]; simp; omega, z.pname, z.gname, z.sname, fun y hy => (mem_snoc hy).elim (fun e => by subst e; exact isN_len w.1) (z.hname y), z.recs⟩
  | free n =>
    show Good (if _ then _ else _ : Kp01.House × Bytes).1
    split
    · exact g
    · exact good_today g.ok.dropHold ⟨z.day, z.people, z.grounds, z.stores, z.records, Nat.le_trans (List.length_filter_le ..) z.holds, z.pname, z.gname, z.sname, fun y hy => z.hname y (List.mem_filter.mp hy).1, z.recs⟩
  | back n =>
    show Good (match Kp01.storeOf s n with
      | some (.roll _ _) => _
      | _ => _ : Kp01.House × Bytes).1
    split
    · have ob : Ok (Kp01.backed s n) := by
        rw [← backed_eq g.ok n]
        exact (letAll_facts g.ok _ (List.nodup_range.sublist List.filter_sublist)).1
      refine good_today ob ⟨z.day, z.people, z.grounds, z.stores, by show (s.records.map _).length ≤ 16; rw [List.length_map]; exact z.records, z.holds, z.pname, z.gname, z.sname, z.hname, fun j q e => ?_⟩
      have e : (s.records.map _)[j]? = some q := e
      rw [List.getElem?_map] at e
      cases hr : s.records[j]? with
      | none => rw [hr] at e; cases e
      | some r =>
        rw [hr] at e
        have e := Option.some.inj e
        have e : (if r.letGo.isSome = true ∨ Kp01.isThere r n = true then r else goneRec s s.day r) = q := e
        subst e
        show RecB s _
        split
        · exact z.recs j r hr
        · exact recB_gone z rfl (z.recs j r hr)
    · exact g
  | tick n =>
    have w : n ≤ 400 := w
    exact good_days g n (by omega)
  | tell n => exact onPerson_good g fun p hp => g
  | why i => exact onRecord_good g fun r hr hg => g
  | till i => exact onRecord_good g fun r hr hg => g
  | proof i => exact g
  | due n => exact g
  | asks => exact g
theorem does_day {cmd : Kp01.Cmd} (w : Wf cmd) : (Kp01.does s cmd).1.day ≤ s.day + 400 := by
  have td : ∀ t : Kp01.House, t.day = s.day → (Kp01.today t).day ≤ s.day + 400 := fun t e => by rw [(today_rest t).2.1, e]; omega
  have sd : s.day ≤ s.day + 400 := by omega
  have onP : ∀ (n : Bytes) (f : Kp01.Person → Kp01.House × Bytes), (∀ p, (f p).1.day ≤ s.day + 400) → (Kp01.onPerson s n f).1.day ≤ s.day + 400 := fun n f h => by
    unfold Kp01.onPerson
    split
    · exact sd
    · exact h _
  have onR : ∀ (i : Nat) (f : Kp01.Record → Kp01.House × Bytes), (∀ p, (f p).1.day ≤ s.day + 400) → (Kp01.onRecord s i f).1.day ≤ s.day + 400 := fun n f h => by
    unfold Kp01.onRecord
    split
    · exact sd
    · split
      · exact sd
      · exact h _
  have pt : ∀ r, (Kp01.put_ s r).1.day ≤ s.day + 400 := fun r => by
    unfold Kp01.put_
    split
    · exact sd
    · split
      · exact sd
      · exact td _ rfl
  cases cmd with
  | tick n => show (Kp01.days n s).day ≤ _; rw [days_day]; have w : n ≤ 400 := w; omega
  | person n => simp only [Kp01.does]; repeat (first | exact sd | exact td _ rfl | split)
  | consent n w => refine onP _ _ fun p => ?_; repeat (first | exact sd | exact td _ rfl | split)
  | withdraw n w => refine onP _ _ fun p => ?_; repeat (first | exact sd | exact td _ rfl | split)
  | object n => refine onP _ _ fun p => ?_; repeat (first | exact sd | exact td _ rfl | split)
  | forget n => refine onP _ _ fun p => ?_; repeat (first | exact sd | exact td _ rfl | split)
  | ended n => refine onP _ _ fun p => ?_; repeat (first | exact sd | exact td _ rfl | split)
  | ground x => simp only [Kp01.does]; repeat (first | exact sd | exact td _ rfl | split)
  | void n => simp only [Kp01.does]; repeat (first | exact sd | exact td _ rfl | split)
  | store x => simp only [Kp01.does]; repeat (first | exact sd | exact td _ rfl | split)
  | hears n b => simp only [Kp01.does]; repeat (first | exact sd | exact td _ rfl | split)
  | put n k => exact onP _ _ fun p => pt _
  | make n k l => refine onP _ _ fun p => ?_; repeat (first | exact sd | exact pt _ | split)
  | copy i n => refine onR _ _ fun p => ?_; repeat (first | exact sd | exact td _ rfl | split)
  | use i => refine onR _ _ fun p => ?_; exact td _ rfl
  | hold h => simp only [Kp01.does]; repeat (first | exact sd | exact td _ rfl | split)
  | free n => simp only [Kp01.does]; repeat (first | exact sd | exact td _ rfl | split)
  | back n => simp only [Kp01.does]; repeat (first | exact sd | exact td _ rfl | split)
  | tell n => exact onP _ _ fun p => sd
  | why i => exact onR _ _ fun p => sd
  | till i => exact onR _ _ fun p => sd
  | proof i => exact sd
  | due n => exact sd
  | asks => exact sd
theorem good_start : Good Kp01.start := by
  refine ⟨⟨?_, ?_, List.nodup_nil, List.nodup_nil, List.nodup_nil, List.nodup_nil, ?_, ?_, ?_, ?_, ?_, ?_, ?_⟩, ?_, ⟨Nat.zero_le _, Nat.zero_le _, Nat.zero_le _, Nat.zero_le _, Nat.zero_le _, Nat.zero_le _, ?_, ?_, ?_, ?_, ?_⟩⟩
  all_goals first
    | (intro i r e; cases e; done)
    | (intro x hx; cases hx; done)
end
end Kr

set_option Elab.async false
set_option linter.all false
set_option maxRecDepth 100000
set_option maxHeartbeats 2000000
namespace Kr
open PySem PySem.Spec PyProof.Rows L2
/-! ### the forms of texts -/
section
variable {x w : Bytes} {xs ws : List Bytes} {ts : List Th} {t : Th} {rd : Bytes → Option Th}
theorem fit_nil : fits [] [] = some [] := rfl
theorem fit_lit (hx : readerOf x = none) (h : fits xs ws = some ts) : fits (x :: xs) (x :: ws) = some ts := by
  unfold fits; rw [hx]; show (if x = x then _ else _) = _; rw [if_pos rfl]; exact h
theorem fit_rd (hx : readerOf x = some rd) (hw : rd w = some t) (h : fits xs ws = some ts) : fits (x :: xs) (w :: ws) = some (t :: ts) := by
  unfold fits; rw [hx]; show (match rd w with | none => _ | some t => _) = _; rw [hw, h]; rfl
theorem fits_lit (hx : readerOf x = none) (h : fits (x :: xs) (w :: ws) = some ts) : w = x ∧ fits xs ws = some ts := by
  unfold fits at h; rw [hx] at h
  have h : (if x = w then fits xs ws else none) = some ts := h
  by_cases e : x = w
  · rw [if_pos e] at h; exact ⟨e.symm, h⟩
  · rw [if_neg e] at h; cases h
theorem fits_rd (hx : readerOf x = some rd) (h : fits (x :: xs) (w :: ws) = some ts) : ∃ t ts', ts = t :: ts' ∧ rd w = some t ∧ fits xs ws = some ts' := by
  unfold fits at h; rw [hx] at h
  have h : (match rd w with | none => none | some t => (fits xs ws).map (t :: ·)) = some ts := h
  cases e : rd w with
  | none => rw [e] at h; cases h
  | some t =>
    rw [e] at h
    have h : (fits xs ws).map (t :: ·) = some ts := h
    cases e2 : fits xs ws with
    | none => rw [e2] at h; cases h
    | some ts' => rw [e2] at h; exact ⟨t, ts', (Option.some.inj h).symm, rfl, rfl⟩
theorem fits_len : ∀ {xs ws : List Bytes} {ts : List Th}, fits xs ws = some ts → ws.length = xs.length
  | [], [], _, _ => rfl
  | [], _ :: _, _, h => by cases h
  | _ :: _, [], _, h => by cases h
  | x :: xs, w :: ws, ts, h => by
    cases e : readerOf x with
    | none => rw [List.length_cons, List.length_cons, fits_len (fits_lit e h).2]
    | some rd =>
      obtain ⟨t, ts', _, _, h'⟩ := fits_rd e h
      rw [List.length_cons, List.length_cons, fits_len h']
theorem fits_nilT (h : fits [] [] = some ts) : ts = [] := (Option.some.inj h).symm
end
theorem len_1 {ws : List Bytes} (h : ws.length = 1) : ∃ w, ws = [w] := by
  match ws, h with
  | [w], _ => exact ⟨w, rfl⟩
theorem len_2 {ws : List Bytes} (h : ws.length = 2) : ∃ w a, ws = [w, a] := by
  match ws, h with
  | [w, a], _ => exact ⟨w, a, rfl⟩
theorem len_3 {ws : List Bytes} (h : ws.length = 3) : ∃ w a b, ws = [w, a, b] := by
  match ws, h with
  | [w, a, b], _ => exact ⟨w, a, b, rfl⟩
theorem len_4 {ws : List Bytes} (h : ws.length = 4) : ∃ w a b d, ws = [w, a, b, d] := by
  match ws, h with
  | [w, a, b, d], _ => exact ⟨w, a, b, d, rfl⟩
theorem len_6 {ws : List Bytes} (h : ws.length = 6) : ∃ w a b d e f, ws = [w, a, b, d, e, f] := by
  match ws, h with
  | [w, a, b, d, e, f], _ => exact ⟨w, a, b, d, e, f, rfl⟩
theorem len_7 {ws : List Bytes} (h : ws.length = 7) : ∃ w a b d e f g, ws = [w, a, b, d, e, f, g] := by
  match ws, h with
  | [w, a, b, d, e, f, g], _ => exact ⟨w, a, b, d, e, f, g, rfl⟩
theorem r_NAME : readerOf (Kp01.ascii "NAME") = some rdName := by
  unfold readerOf; rw [if_pos rfl]
theorem r_NAME_OR_ANY : readerOf (Kp01.ascii "NAME-OR-ANY") = some rdAny := by
  unfold readerOf; rw [if_neg (by decide +kernel), if_pos rfl]
theorem r_EVENT : readerOf (Kp01.ascii "EVENT") = some rdEvent := by
  unfold readerOf; rw [if_neg (by decide +kernel), if_neg (by decide +kernel), if_pos rfl]
theorem r_SPAN : readerOf (Kp01.ascii "SPAN") = some (rdNum 0 4000) := by
  unfold readerOf; rw [if_neg (by decide +kernel), if_neg (by decide +kernel), if_neg (by decide +kernel), if_pos rfl]
theorem r_DAYS : readerOf (Kp01.ascii "DAYS") = some (rdNum 1 400) := by
  unfold readerOf; rw [if_neg (by decide +kernel), if_neg (by decide +kernel), if_neg (by decide +kernel), if_neg (by decide +kernel), if_pos rfl]
theorem r_RECORD : readerOf (Kp01.ascii "RECORD") = some (rdNum 0 99) := by
  unfold readerOf; rw [if_neg (by decide +kernel), if_neg (by decide +kernel), if_neg (by decide +kernel), if_neg (by decide +kernel), if_neg (by decide +kernel), if_pos rfl]
theorem r_RECORDS : readerOf (Kp01.ascii "RECORDS") = some rdRecs := by
  unfold readerOf; rw [if_neg (by decide +kernel), if_neg (by decide +kernel), if_neg (by decide +kernel), if_neg (by decide +kernel), if_neg (by decide +kernel), if_neg (by decide +kernel), if_pos rfl]
theorem r_person : readerOf (Kp01.ascii "person") = none := by
  unfold readerOf; rw [if_neg (by decide +kernel), if_neg (by decide +kernel), if_neg (by decide +kernel), if_neg (by decide +kernel), if_neg (by decide +kernel), if_neg (by decide +kernel), if_neg (by decide +kernel)]
theorem r_consent : readerOf (Kp01.ascii "consent") = none := by
  unfold readerOf; rw [if_neg (by decide +kernel), if_neg (by decide +kernel), if_neg (by decide +kernel), if_neg (by decide +kernel), if_neg (by decide +kernel), if_neg (by decide +kernel), if_neg (by decide +kernel)]
theorem r_withdraw : readerOf (Kp01.ascii "withdraw") = none := by
  unfold readerOf; rw [if_neg (by decide +kernel), if_neg (by decide +kernel), if_neg (by decide +kernel), if_neg (by decide +kernel), if_neg (by decide +kernel), if_neg (by decide +kernel), if_neg (by decide +kernel)]
theorem r_object : readerOf (Kp01.ascii "object") = none := by
  unfold readerOf; rw [if_neg (by decide +kernel), if_neg (by decide +kernel), if_neg (by decide +kernel), if_neg (by decide +kernel), if_neg (by decide +kernel), if_neg (by decide +kernel), if_neg (by decide +kernel)]
theorem r_ended : readerOf (Kp01.ascii "ended") = none := by
  unfold readerOf; rw [if_neg (by decide +kernel), if_neg (by decide +kernel), if_neg (by decide +kernel), if_neg (by decide +kernel), if_neg (by decide +kernel), if_neg (by decide +kernel), if_neg (by decide +kernel)]
theorem r_forget : readerOf (Kp01.ascii "forget") = none := by
  unfold readerOf; rw [if_neg (by decide +kernel), if_neg (by decide +kernel), if_neg (by decide +kernel), if_neg (by decide +kernel), if_neg (by decide +kernel), if_neg (by decide +kernel), if_neg (by decide +kernel)]
theorem r_ground : readerOf (Kp01.ascii "ground") = none := by
  unfold readerOf; rw [if_neg (by decide +kernel), if_neg (by decide +kernel), if_neg (by decide +kernel), if_neg (by decide +kernel), if_neg (by decide +kernel), if_neg (by decide +kernel), if_neg (by decide +kernel)]
theorem r_law : readerOf (Kp01.ascii "law") = none := by
  unfold readerOf; rw [if_neg (by decide +kernel), if_neg (by decide +kernel), if_neg (by decide +kernel), if_neg (by decide +kernel), if_neg (by decide +kernel), if_neg (by decide +kernel), if_neg (by decide +kernel)]
theorem r_need : readerOf (Kp01.ascii "need") = none := by
  unfold readerOf; rw [if_neg (by decide +kernel), if_neg (by decide +kernel), if_neg (by decide +kernel), if_neg (by decide +kernel), if_neg (by decide +kernel), if_neg (by decide +kernel), if_neg (by decide +kernel)]
theorem r_for : readerOf (Kp01.ascii "for") = none := by
  unfold readerOf; rw [if_neg (by decide +kernel), if_neg (by decide +kernel), if_neg (by decide +kernel), if_neg (by decide +kernel), if_neg (by decide +kernel), if_neg (by decide +kernel), if_neg (by decide +kernel)]
theorem r_void : readerOf (Kp01.ascii "void") = none := by
  unfold readerOf; rw [if_neg (by decide +kernel), if_neg (by decide +kernel), if_neg (by decide +kernel), if_neg (by decide +kernel), if_neg (by decide +kernel), if_neg (by decide +kernel), if_neg (by decide +kernel)]
theorem r_store : readerOf (Kp01.ascii "store") = none := by
  unfold readerOf; rw [if_neg (by decide +kernel), if_neg (by decide +kernel), if_neg (by decide +kernel), if_neg (by decide +kernel), if_neg (by decide +kernel), if_neg (by decide +kernel), if_neg (by decide +kernel)]
theorem r_roll : readerOf (Kp01.ascii "roll") = none := by
  unfold readerOf; rw [if_neg (by decide +kernel), if_neg (by decide +kernel), if_neg (by decide +kernel), if_neg (by decide +kernel), if_neg (by decide +kernel), if_neg (by decide +kernel), if_neg (by decide +kernel)]
theorem r_other : readerOf (Kp01.ascii "other") = none := by
  unfold readerOf; rw [if_neg (by decide +kernel), if_neg (by decide +kernel), if_neg (by decide +kernel), if_neg (by decide +kernel), if_neg (by decide +kernel), if_neg (by decide +kernel), if_neg (by decide +kernel)]
theorem r_deaf : readerOf (Kp01.ascii "deaf") = none := by
  unfold readerOf; rw [if_neg (by decide +kernel), if_neg (by decide +kernel), if_neg (by decide +kernel), if_neg (by decide +kernel), if_neg (by decide +kernel), if_neg (by decide +kernel), if_neg (by decide +kernel)]
theorem r_hears : readerOf (Kp01.ascii "hears") = none := by
  unfold readerOf; rw [if_neg (by decide +kernel), if_neg (by decide +kernel), if_neg (by decide +kernel), if_neg (by decide +kernel), if_neg (by decide +kernel), if_neg (by decide +kernel), if_neg (by decide +kernel)]
theorem r_put : readerOf (Kp01.ascii "put") = none := by
  unfold readerOf; rw [if_neg (by decide +kernel), if_neg (by decide +kernel), if_neg (by decide +kernel), if_neg (by decide +kernel), if_neg (by decide +kernel), if_neg (by decide +kernel), if_neg (by decide +kernel)]
theorem r_make : readerOf (Kp01.ascii "make") = none := by
  unfold readerOf; rw [if_neg (by decide +kernel), if_neg (by decide +kernel), if_neg (by decide +kernel), if_neg (by decide +kernel), if_neg (by decide +kernel), if_neg (by decide +kernel), if_neg (by decide +kernel)]
theorem r_copy : readerOf (Kp01.ascii "copy") = none := by
  unfold readerOf; rw [if_neg (by decide +kernel), if_neg (by decide +kernel), if_neg (by decide +kernel), if_neg (by decide +kernel), if_neg (by decide +kernel), if_neg (by decide +kernel), if_neg (by decide +kernel)]
theorem r_use : readerOf (Kp01.ascii "use") = none := by
  unfold readerOf; rw [if_neg (by decide +kernel), if_neg (by decide +kernel), if_neg (by decide +kernel), if_neg (by decide +kernel), if_neg (by decide +kernel), if_neg (by decide +kernel), if_neg (by decide +kernel)]
theorem r_hold : readerOf (Kp01.ascii "hold") = none := by
  unfold readerOf; rw [if_neg (by decide +kernel), if_neg (by decide +kernel), if_neg (by decide +kernel), if_neg (by decide +kernel), if_neg (by decide +kernel), if_neg (by decide +kernel), if_neg (by decide +kernel)]
theorem r_free : readerOf (Kp01.ascii "free") = none := by
  unfold readerOf; rw [if_neg (by decide +kernel), if_neg (by decide +kernel), if_neg (by decide +kernel), if_neg (by decide +kernel), if_neg (by decide +kernel), if_neg (by decide +kernel), if_neg (by decide +kernel)]
theorem r_back : readerOf (Kp01.ascii "back") = none := by
  unfold readerOf; rw [if_neg (by decide +kernel), if_neg (by decide +kernel), if_neg (by decide +kernel), if_neg (by decide +kernel), if_neg (by decide +kernel), if_neg (by decide +kernel), if_neg (by decide +kernel)]
theorem r_tick : readerOf (Kp01.ascii "tick") = none := by
  unfold readerOf; rw [if_neg (by decide +kernel), if_neg (by decide +kernel), if_neg (by decide +kernel), if_neg (by decide +kernel), if_neg (by decide +kernel), if_neg (by decide +kernel), if_neg (by decide +kernel)]
theorem r_tell : readerOf (Kp01.ascii "tell") = none := by
  unfold readerOf; rw [if_neg (by decide +kernel), if_neg (by decide +kernel), if_neg (by decide +kernel), if_neg (by decide +kernel), if_neg (by decide +kernel), if_neg (by decide +kernel), if_neg (by decide +kernel)]
theorem r_why : readerOf (Kp01.ascii "why") = none := by
  unfold readerOf; rw [if_neg (by decide +kernel), if_neg (by decide +kernel), if_neg (by decide +kernel), if_neg (by decide +kernel), if_neg (by decide +kernel), if_neg (by decide +kernel), if_neg (by decide +kernel)]
theorem r_till : readerOf (Kp01.ascii "till") = none := by
  unfold readerOf; rw [if_neg (by decide +kernel), if_neg (by decide +kernel), if_neg (by decide +kernel), if_neg (by decide +kernel), if_neg (by decide +kernel), if_neg (by decide +kernel), if_neg (by decide +kernel)]
theorem r_proof : readerOf (Kp01.ascii "proof") = none := by
  unfold readerOf; rw [if_neg (by decide +kernel), if_neg (by decide +kernel), if_neg (by decide +kernel), if_neg (by decide +kernel), if_neg (by decide +kernel), if_neg (by decide +kernel), if_neg (by decide +kernel)]
theorem r_due : readerOf (Kp01.ascii "due") = none := by
  unfold readerOf; rw [if_neg (by decide +kernel), if_neg (by decide +kernel), if_neg (by decide +kernel), if_neg (by decide +kernel), if_neg (by decide +kernel), if_neg (by decide +kernel), if_neg (by decide +kernel)]
theorem r_asks : readerOf (Kp01.ascii "asks") = none := by
  unfold readerOf; rw [if_neg (by decide +kernel), if_neg (by decide +kernel), if_neg (by decide +kernel), if_neg (by decide +kernel), if_neg (by decide +kernel), if_neg (by decide +kernel), if_neg (by decide +kernel)]
theorem fm_0 : Kp01.parted 32 (Kp01.ascii "person NAME") = [(Kp01.ascii "person"), (Kp01.ascii "NAME")] := by decide +kernel
theorem fm_1 : Kp01.parted 32 (Kp01.ascii "consent NAME NAME") = [(Kp01.ascii "consent"), (Kp01.ascii "NAME"), (Kp01.ascii "NAME")] := by decide +kernel
theorem fm_2 : Kp01.parted 32 (Kp01.ascii "withdraw NAME NAME") = [(Kp01.ascii "withdraw"), (Kp01.ascii "NAME"), (Kp01.ascii "NAME")] := by decide +kernel
theorem fm_3 : Kp01.parted 32 (Kp01.ascii "object NAME") = [(Kp01.ascii "object"), (Kp01.ascii "NAME")] := by decide +kernel
theorem fm_4 : Kp01.parted 32 (Kp01.ascii "ended NAME") = [(Kp01.ascii "ended"), (Kp01.ascii "NAME")] := by decide +kernel
theorem fm_5 : Kp01.parted 32 (Kp01.ascii "forget NAME") = [(Kp01.ascii "forget"), (Kp01.ascii "NAME")] := by decide +kernel
theorem fm_6 : Kp01.parted 32 (Kp01.ascii "ground NAME NAME law SPAN EVENT") = [(Kp01.ascii "ground"), (Kp01.ascii "NAME"), (Kp01.ascii "NAME"), (Kp01.ascii "law"), (Kp01.ascii "SPAN"), (Kp01.ascii "EVENT")] := by decide +kernel
theorem fm_7 : Kp01.parted 32 (Kp01.ascii "ground NAME NAME need SPAN EVENT") = [(Kp01.ascii "ground"), (Kp01.ascii "NAME"), (Kp01.ascii "NAME"), (Kp01.ascii "need"), (Kp01.ascii "SPAN"), (Kp01.ascii "EVENT")] := by decide +kernel
theorem fm_8 : Kp01.parted 32 (Kp01.ascii "ground NAME NAME for NAME SPAN EVENT") = [(Kp01.ascii "ground"), (Kp01.ascii "NAME"), (Kp01.ascii "NAME"), (Kp01.ascii "for"), (Kp01.ascii "NAME"), (Kp01.ascii "SPAN"), (Kp01.ascii "EVENT")] := by decide +kernel
theorem fm_9 : Kp01.parted 32 (Kp01.ascii "void NAME") = [(Kp01.ascii "void"), (Kp01.ascii "NAME")] := by decide +kernel
theorem fm_10 : Kp01.parted 32 (Kp01.ascii "store NAME roll DAYS") = [(Kp01.ascii "store"), (Kp01.ascii "NAME"), (Kp01.ascii "roll"), (Kp01.ascii "DAYS")] := by decide +kernel
theorem fm_11 : Kp01.parted 32 (Kp01.ascii "store NAME other") = [(Kp01.ascii "store"), (Kp01.ascii "NAME"), (Kp01.ascii "other")] := by decide +kernel
theorem fm_12 : Kp01.parted 32 (Kp01.ascii "deaf NAME") = [(Kp01.ascii "deaf"), (Kp01.ascii "NAME")] := by decide +kernel
theorem fm_13 : Kp01.parted 32 (Kp01.ascii "hears NAME") = [(Kp01.ascii "hears"), (Kp01.ascii "NAME")] := by decide +kernel
theorem fm_14 : Kp01.parted 32 (Kp01.ascii "put NAME NAME") = [(Kp01.ascii "put"), (Kp01.ascii "NAME"), (Kp01.ascii "NAME")] := by decide +kernel
theorem fm_15 : Kp01.parted 32 (Kp01.ascii "make NAME NAME RECORDS") = [(Kp01.ascii "make"), (Kp01.ascii "NAME"), (Kp01.ascii "NAME"), (Kp01.ascii "RECORDS")] := by decide +kernel
theorem fm_16 : Kp01.parted 32 (Kp01.ascii "copy RECORD NAME") = [(Kp01.ascii "copy"), (Kp01.ascii "RECORD"), (Kp01.ascii "NAME")] := by decide +kernel
theorem fm_17 : Kp01.parted 32 (Kp01.ascii "use RECORD") = [(Kp01.ascii "use"), (Kp01.ascii "RECORD")] := by decide +kernel
theorem fm_18 : Kp01.parted 32 (Kp01.ascii "hold NAME NAME NAME-OR-ANY") = [(Kp01.ascii "hold"), (Kp01.ascii "NAME"), (Kp01.ascii "NAME"), (Kp01.ascii "NAME-OR-ANY")] := by decide +kernel
theorem fm_19 : Kp01.parted 32 (Kp01.ascii "free NAME") = [(Kp01.ascii "free"), (Kp01.ascii "NAME")] := by decide +kernel
theorem fm_20 : Kp01.parted 32 (Kp01.ascii "back NAME") = [(Kp01.ascii "back"), (Kp01.ascii "NAME")] := by decide +kernel
theorem fm_21 : Kp01.parted 32 (Kp01.ascii "tick DAYS") = [(Kp01.ascii "tick"), (Kp01.ascii "DAYS")] := by decide +kernel
theorem fm_22 : Kp01.parted 32 (Kp01.ascii "tell NAME") = [(Kp01.ascii "tell"), (Kp01.ascii "NAME")] := by decide +kernel
theorem fm_23 : Kp01.parted 32 (Kp01.ascii "why RECORD") = [(Kp01.ascii "why"), (Kp01.ascii "RECORD")] := by decide +kernel
theorem fm_24 : Kp01.parted 32 (Kp01.ascii "till RECORD") = [(Kp01.ascii "till"), (Kp01.ascii "RECORD")] := by decide +kernel
theorem fm_25 : Kp01.parted 32 (Kp01.ascii "proof RECORD") = [(Kp01.ascii "proof"), (Kp01.ascii "RECORD")] := by decide +kernel
theorem fm_26 : Kp01.parted 32 (Kp01.ascii "due DAYS") = [(Kp01.ascii "due"), (Kp01.ascii "DAYS")] := by decide +kernel
theorem fm_27 : Kp01.parted 32 (Kp01.ascii "asks") = [(Kp01.ascii "asks")] := by decide +kernel
theorem rdName_of {w : Bytes} {t : Th} (h : rdName w = some t) : Kp01.isName w = true ∧ t = .s (txt w) := by
  unfold rdName at h
  by_cases e : Kp01.isName w = true
  · rw [if_pos e] at h; cases h; exact ⟨e, rfl⟩
  · rw [if_neg e] at h; cases h
theorem rdName_is {w : Bytes} (h : Kp01.isName w = true) : rdName w = some (.s (txt w)) := by unfold rdName; rw [if_pos h]
theorem rdAny_of {w : Bytes} {t : Th} (h : rdAny w = some t) : (w = Kp01.ascii "any" ∨ Kp01.isName w = true ∧ w ≠ Kp01.ascii "any") ∧ t = .s (txt w) := by
  unfold rdAny at h
  by_cases e : w = Kp01.ascii "any"
  · rw [if_pos e] at h; cases h; exact ⟨.inl e, rfl⟩
  · rw [if_neg e] at h; have := rdName_of h; exact ⟨.inr ⟨this.1, e⟩, this.2⟩
theorem rdAny_any : rdAny (Kp01.ascii "any") = some (.s (txt (Kp01.ascii "any"))) := by unfold rdAny; rw [if_pos rfl]
theorem rdAny_is {w : Bytes} (h : Kp01.isName w = true) : rdAny w = some (.s (txt w)) := by
  unfold rdAny
  split
  · rfl
  · exact rdName_is h
theorem rdEvent_of {w : Bytes} {t : Th} (h : rdEvent w = some t) : ∃ e, Kp01.event? w = some e ∧ t = .s (eventText e) := by
  unfold rdEvent at h
  cases e : Kp01.event? w with
  | none => rw [e] at h; cases h
  | some x => rw [e] at h; cases h; exact ⟨x, rfl, rfl⟩
theorem rdEvent_is {w : Bytes} {e : Kp01.Event} (h : Kp01.event? w = some e) : rdEvent w = some (.s (eventText e)) := by unfold rdEvent; rw [h]; rfl
theorem rdNum_of {lo hi : Nat} {w : Bytes} {t : Th} (h : rdNum lo hi w = some t) : ∃ n, Kp01.num? lo hi w = some n ∧ t = .n n := by
  unfold rdNum at h
  cases e : Kp01.num? lo hi w with
  | none => rw [e] at h; cases h
  | some x => rw [e] at h; cases h; exact ⟨x, rfl, rfl⟩
theorem rdNum_is {lo hi n : Nat} {w : Bytes} (h : Kp01.num? lo hi w = some n) : rdNum lo hi w = some (.n n) := by unfold rdNum; rw [h]; rfl
theorem rdRecs_of {w : Bytes} {t : Th} (h : rdRecs w = some t) : ∃ n, Kp01.records? w = some n ∧ t = .l n := by
  unfold rdRecs at h
  cases e : Kp01.records? w with
  | none => rw [e] at h; cases h
  | some x => rw [e] at h; cases h; exact ⟨x, rfl, rfl⟩
theorem rdRecs_is {n : List Nat} {w : Bytes} (h : Kp01.records? w = some n) : rdRecs w = some (.l n) := by unfold rdRecs; rw [h]; rfl
theorem num_le {lo hi n : Nat} {w : Bytes} (h : Kp01.num? lo hi w = some n) : n ≤ hi := by
  unfold Kp01.num? at h
  split at h
  · cases h
  · simp only at h
    split at h
    · next z => cases h; exact z.2
    · cases h
theorem recs_len {n : List Nat} {w : Bytes} (h : Kp01.records? w = some n) : n.length ≤ 4 := by
  unfold Kp01.records? at h
  cases e : Kp01.many? (Kp01.parted 44 w) with
  | none => rw [e] at h; cases h
  | some l =>
    rw [e] at h
    have h : (if l.length ≤ 4 ∧ _ then some l else none) = some n := h
    split at h
    · next z => cases h; exact z.1
    · cases h
section
variable {H0 H : Hp} {ts : List Th} {vs : List V}
theorem thv_nil (h : ThV H0 H [] vs) : vs = [] := by cases h; rfl
theorem thv_s {b : Str} (h : ThV H0 H (.s b :: ts) vs) : ∃ vs', vs = .str b :: vs' ∧ ThV H0 H ts vs' := by cases h with | s r => exact ⟨_, rfl, r⟩
theorem thv_n {b : Nat} (h : ThV H0 H (.n b :: ts) vs) : ∃ vs', vs = .int b :: vs' ∧ ThV H0 H ts vs' := by cases h with | n r => exact ⟨_, rfl, r⟩
theorem thv_l {b : List Nat} (h : ThV H0 H (.l b :: ts) vs) : ∃ a vs', vs = .ref a :: vs' ∧ H a = some (.lst (natsV b)) ∧ ThV H0 H ts vs' := by cases h with | l _ h r => exact ⟨_, _, rfl, h, r⟩
end
theorem fit_0 {words : List Bytes} {ths : List Th} (h : fits (Kp01.parted 32 (Kp01.ascii "person NAME")) words = some ths) : ∃ cmd, Kp01.cmd? words = some cmd ∧ ∀ H0 F vals, ThV H0 F ths vals → (rel1 .person : Kp01.Cmd → List V → Hp → Prop) cmd vals F := by
  rw [fm_0] at h
  obtain ⟨w, a, rfl⟩ := len_2 (fits_len h)
  have h0 := h
  obtain ⟨rfl, h1⟩ := fits_lit r_person h0
  obtain ⟨_, _, rfl, ra, h2⟩ := fits_rd r_NAME h1
  obtain ⟨ha, rfl⟩ := rdName_of ra
  cases fits_nilT h2
  refine ⟨.person a, ?_, fun H0 F vals tv => ?_⟩
  · unfold Kp01.cmd?; simp only [ha]
    repeat (first
      | rfl
      | rw [if_pos rfl]
      | rw [if_neg (by decide +kernel)]
      | rw [if_pos (by decide +kernel)]
      | rw [if_neg (fun z => absurd z.1 (by decide +kernel))])
  · obtain ⟨_, rfl, tv1⟩ := thv_s tv
    cases thv_nil tv1
    exact ⟨a, rfl, rfl, ha⟩
theorem fit_1 {words : List Bytes} {ths : List Th} (h : fits (Kp01.parted 32 (Kp01.ascii "consent NAME NAME")) words = some ths) : ∃ cmd, Kp01.cmd? words = some cmd ∧ ∀ H0 F vals, ThV H0 F ths vals → (rel2 .consent : Kp01.Cmd → List V → Hp → Prop) cmd vals F := by
  rw [fm_1] at h
  obtain ⟨w, a, b, rfl⟩ := len_3 (fits_len h)
  have h0 := h
  obtain ⟨rfl, h1⟩ := fits_lit r_consent h0
  obtain ⟨_, _, rfl, ra, h2⟩ := fits_rd r_NAME h1
  obtain ⟨ha, rfl⟩ := rdName_of ra
  obtain ⟨_, _, rfl, rb, h3⟩ := fits_rd r_NAME h2
  obtain ⟨hb, rfl⟩ := rdName_of rb
  cases fits_nilT h3
  refine ⟨.consent a b, ?_, fun H0 F vals tv => ?_⟩
  · unfold Kp01.cmd?; simp only [ha, hb]
    repeat (first
      | rfl
      | rw [if_pos rfl]
      | rw [if_neg (by decide +kernel)]
      | rw [if_pos (by decide +kernel)]
      | rw [if_neg (fun z => absurd z.1 (by decide +kernel))])
  · obtain ⟨_, rfl, tv1⟩ := thv_s tv
    obtain ⟨_, rfl, tv2⟩ := thv_s tv1
    cases thv_nil tv2
    exact ⟨a, b, rfl, rfl, ha, hb⟩
theorem fit_2 {words : List Bytes} {ths : List Th} (h : fits (Kp01.parted 32 (Kp01.ascii "withdraw NAME NAME")) words = some ths) : ∃ cmd, Kp01.cmd? words = some cmd ∧ ∀ H0 F vals, ThV H0 F ths vals → (rel2 .withdraw : Kp01.Cmd → List V → Hp → Prop) cmd vals F := by
  rw [fm_2] at h
  obtain ⟨w, a, b, rfl⟩ := len_3 (fits_len h)
  have h0 := h
  obtain ⟨rfl, h1⟩ := fits_lit r_withdraw h0
  obtain ⟨_, _, rfl, ra, h2⟩ := fits_rd r_NAME h1
  obtain ⟨ha, rfl⟩ := rdName_of ra
  obtain ⟨_, _, rfl, rb, h3⟩ := fits_rd r_NAME h2
  obtain ⟨hb, rfl⟩ := rdName_of rb
  cases fits_nilT h3
  refine ⟨.withdraw a b, ?_, fun H0 F vals tv => ?_⟩
  · unfold Kp01.cmd?; simp only [ha, hb]
    repeat (first
      | rfl
      | rw [if_pos rfl]
      | rw [if_neg (by decide +kernel)]
      | rw [if_pos (by decide +kernel)]
      | rw [if_neg (fun z => absurd z.1 (by decide +kernel))])
  · obtain ⟨_, rfl, tv1⟩ := thv_s tv
    obtain ⟨_, rfl, tv2⟩ := thv_s tv1
    cases thv_nil tv2
    exact ⟨a, b, rfl, rfl, ha, hb⟩
theorem fit_3 {words : List Bytes} {ths : List Th} (h : fits (Kp01.parted 32 (Kp01.ascii "object NAME")) words = some ths) : ∃ cmd, Kp01.cmd? words = some cmd ∧ ∀ H0 F vals, ThV H0 F ths vals → (rel1 .object : Kp01.Cmd → List V → Hp → Prop) cmd vals F := by
  rw [fm_3] at h
  obtain ⟨w, a, rfl⟩ := len_2 (fits_len h)
  have h0 := h
  obtain ⟨rfl, h1⟩ := fits_lit r_object h0
  obtain ⟨_, _, rfl, ra, h2⟩ := fits_rd r_NAME h1
  obtain ⟨ha, rfl⟩ := rdName_of ra
  cases fits_nilT h2
  refine ⟨.object a, ?_, fun H0 F vals tv => ?_⟩
  · unfold Kp01.cmd?; simp only [ha]
    repeat (first
      | rfl
      | rw [if_pos rfl]
      | rw [if_neg (by decide +kernel)]
      | rw [if_pos (by decide +kernel)]
      | rw [if_neg (fun z => absurd z.1 (by decide +kernel))])
  · obtain ⟨_, rfl, tv1⟩ := thv_s tv
    cases thv_nil tv1
    exact ⟨a, rfl, rfl, ha⟩
theorem fit_4 {words : List Bytes} {ths : List Th} (h : fits (Kp01.parted 32 (Kp01.ascii "ended NAME")) words = some ths) : ∃ cmd, Kp01.cmd? words = some cmd ∧ ∀ H0 F vals, ThV H0 F ths vals → (rel1 .ended : Kp01.Cmd → List V → Hp → Prop) cmd vals F := by
  rw [fm_4] at h
  obtain ⟨w, a, rfl⟩ := len_2 (fits_len h)
  have h0 := h
  obtain ⟨rfl, h1⟩ := fits_lit r_ended h0
  obtain ⟨_, _, rfl, ra, h2⟩ := fits_rd r_NAME h1
  obtain ⟨ha, rfl⟩ := rdName_of ra
  cases fits_nilT h2
  refine ⟨.ended a, ?_, fun H0 F vals tv => ?_⟩
  · unfold Kp01.cmd?; simp only [ha]
    repeat (first
      | rfl
      | rw [if_pos rfl]
      | rw [if_neg (by decide +kernel)]
      | rw [if_pos (by decide +kernel)]
      | rw [if_neg (fun z => absurd z.1 (by decide +kernel))])
  · obtain ⟨_, rfl, tv1⟩ := thv_s tv
    cases thv_nil tv1
    exact ⟨a, rfl, rfl, ha⟩
theorem fit_5 {words : List Bytes} {ths : List Th} (h : fits (Kp01.parted 32 (Kp01.ascii "forget NAME")) words = some ths) : ∃ cmd, Kp01.cmd? words = some cmd ∧ ∀ H0 F vals, ThV H0 F ths vals → (rel1 .forget : Kp01.Cmd → List V → Hp → Prop) cmd vals F := by
  rw [fm_5] at h
  obtain ⟨w, a, rfl⟩ := len_2 (fits_len h)
  have h0 := h
  obtain ⟨rfl, h1⟩ := fits_lit r_forget h0
  obtain ⟨_, _, rfl, ra, h2⟩ := fits_rd r_NAME h1
  obtain ⟨ha, rfl⟩ := rdName_of ra
  cases fits_nilT h2
  refine ⟨.forget a, ?_, fun H0 F vals tv => ?_⟩
  · unfold Kp01.cmd?; simp only [ha]
    repeat (first
      | rfl
      | rw [if_pos rfl]
      | rw [if_neg (by decide +kernel)]
      | rw [if_pos (by decide +kernel)]
      | rw [if_neg (fun z => absurd z.1 (by decide +kernel))])
  · obtain ⟨_, rfl, tv1⟩ := thv_s tv
    cases thv_nil tv1
    exact ⟨a, rfl, rfl, ha⟩
theorem fit_6 {words : List Bytes} {ths : List Th} (h : fits (Kp01.parted 32 (Kp01.ascii "ground NAME NAME law SPAN EVENT")) words = some ths) : ∃ cmd, Kp01.cmd? words = some cmd ∧ ∀ H0 F vals, ThV H0 F ths vals → (relG .law : Kp01.Cmd → List V → Hp → Prop) cmd vals F := by
  rw [fm_6] at h
  obtain ⟨w, a, b, d, e, f, rfl⟩ := len_6 (fits_len h)
  have h0 := h
  obtain ⟨rfl, h1⟩ := fits_lit r_ground h0
  obtain ⟨_, _, rfl, ra, h2⟩ := fits_rd r_NAME h1
  obtain ⟨ha, rfl⟩ := rdName_of ra
  obtain ⟨_, _, rfl, rb, h3⟩ := fits_rd r_NAME h2
  obtain ⟨hb, rfl⟩ := rdName_of rb
  obtain ⟨rfl, h4⟩ := fits_lit r_law h3
  obtain ⟨_, _, rfl, re, h5⟩ := fits_rd r_SPAN h4
  obtain ⟨xe, he, rfl⟩ := rdNum_of re
  obtain ⟨_, _, rfl, rf, h6⟩ := fits_rd r_EVENT h5
  obtain ⟨xf, hf, rfl⟩ := rdEvent_of rf
  cases fits_nilT h6
  refine ⟨.ground ⟨a, b, .law, xe, xf⟩, ?_, fun H0 F vals tv => ?_⟩
  · unfold Kp01.cmd?; simp only [ha, hb, he, hf]
    repeat (first
      | rfl
      | rw [if_pos rfl]
      | rw [if_neg (by decide +kernel)]
      | rw [if_pos (by decide +kernel)]
      | rw [if_neg (fun z => absurd z.1 (by decide +kernel))])
  · obtain ⟨_, rfl, tv1⟩ := thv_s tv
    obtain ⟨_, rfl, tv2⟩ := thv_s tv1
    obtain ⟨_, rfl, tv3⟩ := thv_n tv2
    obtain ⟨_, rfl, tv4⟩ := thv_s tv3
    cases thv_nil tv4
    exact ⟨a, b, xe, xf, rfl, rfl, ha, hb, num_le he⟩
theorem fit_7 {words : List Bytes} {ths : List Th} (h : fits (Kp01.parted 32 (Kp01.ascii "ground NAME NAME need SPAN EVENT")) words = some ths) : ∃ cmd, Kp01.cmd? words = some cmd ∧ ∀ H0 F vals, ThV H0 F ths vals → (relG .need : Kp01.Cmd → List V → Hp → Prop) cmd vals F := by
  rw [fm_7] at h
  obtain ⟨w, a, b, d, e, f, rfl⟩ := len_6 (fits_len h)
  have h0 := h
  obtain ⟨rfl, h1⟩ := fits_lit r_ground h0
  obtain ⟨_, _, rfl, ra, h2⟩ := fits_rd r_NAME h1
  obtain ⟨ha, rfl⟩ := rdName_of ra
  obtain ⟨_, _, rfl, rb, h3⟩ := fits_rd r_NAME h2
  obtain ⟨hb, rfl⟩ := rdName_of rb
  obtain ⟨rfl, h4⟩ := fits_lit r_need h3
  obtain ⟨_, _, rfl, re, h5⟩ := fits_rd r_SPAN h4
  obtain ⟨xe, he, rfl⟩ := rdNum_of re
  obtain ⟨_, _, rfl, rf, h6⟩ := fits_rd r_EVENT h5
  obtain ⟨xf, hf, rfl⟩ := rdEvent_of rf
  cases fits_nilT h6
  refine ⟨.ground ⟨a, b, .need, xe, xf⟩, ?_, fun H0 F vals tv => ?_⟩
  · unfold Kp01.cmd?; simp only [ha, hb, he, hf]
    repeat (first
      | rfl
      | rw [if_pos rfl]
      | rw [if_neg (by decide +kernel)]
      | rw [if_pos (by decide +kernel)]
      | rw [if_neg (fun z => absurd z.1 (by decide +kernel))])
  · obtain ⟨_, rfl, tv1⟩ := thv_s tv
    obtain ⟨_, rfl, tv2⟩ := thv_s tv1
    obtain ⟨_, rfl, tv3⟩ := thv_n tv2
    obtain ⟨_, rfl, tv4⟩ := thv_s tv3
    cases thv_nil tv4
    exact ⟨a, b, xe, xf, rfl, rfl, ha, hb, num_le he⟩
theorem fit_8 {words : List Bytes} {ths : List Th} (h : fits (Kp01.parted 32 (Kp01.ascii "ground NAME NAME for NAME SPAN EVENT")) words = some ths) : ∃ cmd, Kp01.cmd? words = some cmd ∧ ∀ H0 F vals, ThV H0 F ths vals → (relGF : Kp01.Cmd → List V → Hp → Prop) cmd vals F := by
  rw [fm_8] at h
  obtain ⟨w, a, b, d, e, f, g, rfl⟩ := len_7 (fits_len h)
  have h0 := h
  obtain ⟨rfl, h1⟩ := fits_lit r_ground h0
  obtain ⟨_, _, rfl, ra, h2⟩ := fits_rd r_NAME h1
  obtain ⟨ha, rfl⟩ := rdName_of ra
  obtain ⟨_, _, rfl, rb, h3⟩ := fits_rd r_NAME h2
  obtain ⟨hb, rfl⟩ := rdName_of rb
  obtain ⟨rfl, h4⟩ := fits_lit r_for h3
  obtain ⟨_, _, rfl, re, h5⟩ := fits_rd r_NAME h4
  obtain ⟨he, rfl⟩ := rdName_of re
  obtain ⟨_, _, rfl, rf, h6⟩ := fits_rd r_SPAN h5
  obtain ⟨xf, hf, rfl⟩ := rdNum_of rf
  obtain ⟨_, _, rfl, rg, h7⟩ := fits_rd r_EVENT h6
  obtain ⟨xg, hg, rfl⟩ := rdEvent_of rg
  cases fits_nilT h7
  refine ⟨.ground ⟨a, b, .consent e, xf, xg⟩, ?_, fun H0 F vals tv => ?_⟩
  · unfold Kp01.cmd?; simp only [ha, hb, he, hf, hg]
    repeat (first
      | rfl
      | rw [if_pos rfl]
      | rw [if_neg (by decide +kernel)]
      | rw [if_pos (by decide +kernel)]
      | rw [if_neg (fun z => absurd z.1 (by decide +kernel))])
  · obtain ⟨_, rfl, tv1⟩ := thv_s tv
    obtain ⟨_, rfl, tv2⟩ := thv_s tv1
    obtain ⟨_, rfl, tv3⟩ := thv_s tv2
    obtain ⟨_, rfl, tv4⟩ := thv_n tv3
    obtain ⟨_, rfl, tv5⟩ := thv_s tv4
    cases thv_nil tv5
    exact ⟨a, b, e, xf, xg, rfl, rfl, ha, hb, he, num_le hf⟩
theorem fit_9 {words : List Bytes} {ths : List Th} (h : fits (Kp01.parted 32 (Kp01.ascii "void NAME")) words = some ths) : ∃ cmd, Kp01.cmd? words = some cmd ∧ ∀ H0 F vals, ThV H0 F ths vals → (rel1 .void : Kp01.Cmd → List V → Hp → Prop) cmd vals F := by
  rw [fm_9] at h
  obtain ⟨w, a, rfl⟩ := len_2 (fits_len h)
  have h0 := h
  obtain ⟨rfl, h1⟩ := fits_lit r_void h0
  obtain ⟨_, _, rfl, ra, h2⟩ := fits_rd r_NAME h1
  obtain ⟨ha, rfl⟩ := rdName_of ra
  cases fits_nilT h2
  refine ⟨.void a, ?_, fun H0 F vals tv => ?_⟩
  · unfold Kp01.cmd?; simp only [ha]
    repeat (first
      | rfl
      | rw [if_pos rfl]
      | rw [if_neg (by decide +kernel)]
      | rw [if_pos (by decide +kernel)]
      | rw [if_neg (fun z => absurd z.1 (by decide +kernel))])
  · obtain ⟨_, rfl, tv1⟩ := thv_s tv
    cases thv_nil tv1
    exact ⟨a, rfl, rfl, ha⟩
theorem fit_10 {words : List Bytes} {ths : List Th} (h : fits (Kp01.parted 32 (Kp01.ascii "store NAME roll DAYS")) words = some ths) : ∃ cmd, Kp01.cmd? words = some cmd ∧ ∀ H0 F vals, ThV H0 F ths vals → (relRoll : Kp01.Cmd → List V → Hp → Prop) cmd vals F := by
  rw [fm_10] at h
  obtain ⟨w, a, b, d, rfl⟩ := len_4 (fits_len h)
  have h0 := h
  obtain ⟨rfl, h1⟩ := fits_lit r_store h0
  obtain ⟨_, _, rfl, ra, h2⟩ := fits_rd r_NAME h1
  obtain ⟨ha, rfl⟩ := rdName_of ra
  obtain ⟨rfl, h3⟩ := fits_lit r_roll h2
  obtain ⟨_, _, rfl, rd, h4⟩ := fits_rd r_DAYS h3
  obtain ⟨xd, hd, rfl⟩ := rdNum_of rd
  cases fits_nilT h4
  refine ⟨.store (.roll a xd), ?_, fun H0 F vals tv => ?_⟩
  · unfold Kp01.cmd?; simp only [ha, hd]
    repeat (first
      | rfl
      | rw [if_pos rfl]
      | rw [if_neg (by decide +kernel)]
      | rw [if_pos (by decide +kernel)]
      | rw [if_neg (fun z => absurd z.1 (by decide +kernel))])
  · obtain ⟨_, rfl, tv1⟩ := thv_s tv
    obtain ⟨_, rfl, tv2⟩ := thv_n tv1
    cases thv_nil tv2
    exact ⟨a, xd, rfl, rfl, ha, num_le hd⟩
theorem fit_11 {words : List Bytes} {ths : List Th} (h : fits (Kp01.parted 32 (Kp01.ascii "store NAME other")) words = some ths) : ∃ cmd, Kp01.cmd? words = some cmd ∧ ∀ H0 F vals, ThV H0 F ths vals → (rel1 fun n => .store (.other n true) : Kp01.Cmd → List V → Hp → Prop) cmd vals F := by
  rw [fm_11] at h
  obtain ⟨w, a, b, rfl⟩ := len_3 (fits_len h)
  have h0 := h
  obtain ⟨rfl, h1⟩ := fits_lit r_store h0
  obtain ⟨_, _, rfl, ra, h2⟩ := fits_rd r_NAME h1
  obtain ⟨ha, rfl⟩ := rdName_of ra
  obtain ⟨rfl, h3⟩ := fits_lit r_other h2
  cases fits_nilT h3
  refine ⟨.store (.other a true), ?_, fun H0 F vals tv => ?_⟩
  · unfold Kp01.cmd?; simp only [ha]
    repeat (first
      | rfl
      | rw [if_pos rfl]
      | rw [if_neg (by decide +kernel)]
      | rw [if_pos (by decide +kernel)]
      | rw [if_neg (fun z => absurd z.1 (by decide +kernel))])
  · obtain ⟨_, rfl, tv1⟩ := thv_s tv
    cases thv_nil tv1
    exact ⟨a, rfl, rfl, ha⟩
theorem fit_12 {words : List Bytes} {ths : List Th} (h : fits (Kp01.parted 32 (Kp01.ascii "deaf NAME")) words = some ths) : ∃ cmd, Kp01.cmd? words = some cmd ∧ ∀ H0 F vals, ThV H0 F ths vals → (rel1 fun n => .hears n false : Kp01.Cmd → List V → Hp → Prop) cmd vals F := by
  rw [fm_12] at h
  obtain ⟨w, a, rfl⟩ := len_2 (fits_len h)
  have h0 := h
  obtain ⟨rfl, h1⟩ := fits_lit r_deaf h0
  obtain ⟨_, _, rfl, ra, h2⟩ := fits_rd r_NAME h1
  obtain ⟨ha, rfl⟩ := rdName_of ra
  cases fits_nilT h2
  refine ⟨.hears a false, ?_, fun H0 F vals tv => ?_⟩
  · unfold Kp01.cmd?; simp only [ha]
    repeat (first
      | rfl
      | rw [if_pos rfl]
      | rw [if_neg (by decide +kernel)]
      | rw [if_pos (by decide +kernel)]
      | rw [if_neg (fun z => absurd z.1 (by decide +kernel))])
  · obtain ⟨_, rfl, tv1⟩ := thv_s tv
    cases thv_nil tv1
    exact ⟨a, rfl, rfl, ha⟩
theorem fit_13 {words : List Bytes} {ths : List Th} (h : fits (Kp01.parted 32 (Kp01.ascii "hears NAME")) words = some ths) : ∃ cmd, Kp01.cmd? words = some cmd ∧ ∀ H0 F vals, ThV H0 F ths vals → (rel1 fun n => .hears n true : Kp01.Cmd → List V → Hp → Prop) cmd vals F := by
  rw [fm_13] at h
  obtain ⟨w, a, rfl⟩ := len_2 (fits_len h)
  have h0 := h
  obtain ⟨rfl, h1⟩ := fits_lit r_hears h0
  obtain ⟨_, _, rfl, ra, h2⟩ := fits_rd r_NAME h1
  obtain ⟨ha, rfl⟩ := rdName_of ra
  cases fits_nilT h2
  refine ⟨.hears a true, ?_, fun H0 F vals tv => ?_⟩
  · unfold Kp01.cmd?; simp only [ha]
    repeat (first
      | rfl
      | rw [if_pos rfl]
      | rw [if_neg (by decide +kernel)]
      | rw [if_pos (by decide +kernel)]
      | rw [if_neg (fun z => absurd z.1 (by decide +kernel))])
  · obtain ⟨_, rfl, tv1⟩ := thv_s tv
    cases thv_nil tv1
    exact ⟨a, rfl, rfl, ha⟩
theorem fit_14 {words : List Bytes} {ths : List Th} (h : fits (Kp01.parted 32 (Kp01.ascii "put NAME NAME")) words = some ths) : ∃ cmd, Kp01.cmd? words = some cmd ∧ ∀ H0 F vals, ThV H0 F ths vals → (rel2 .put : Kp01.Cmd → List V → Hp → Prop) cmd vals F := by
  rw [fm_14] at h
  obtain ⟨w, a, b, rfl⟩ := len_3 (fits_len h)
  have h0 := h
  obtain ⟨rfl, h1⟩ := fits_lit r_put h0
  obtain ⟨_, _, rfl, ra, h2⟩ := fits_rd r_NAME h1
  obtain ⟨ha, rfl⟩ := rdName_of ra
  obtain ⟨_, _, rfl, rb, h3⟩ := fits_rd r_NAME h2
  obtain ⟨hb, rfl⟩ := rdName_of rb
  cases fits_nilT h3
  refine ⟨.put a b, ?_, fun H0 F vals tv => ?_⟩
  · unfold Kp01.cmd?; simp only [ha, hb]
    repeat (first
      | rfl
      | rw [if_pos rfl]
      | rw [if_neg (by decide +kernel)]
      | rw [if_pos (by decide +kernel)]
      | rw [if_neg (fun z => absurd z.1 (by decide +kernel))])
  · obtain ⟨_, rfl, tv1⟩ := thv_s tv
    obtain ⟨_, rfl, tv2⟩ := thv_s tv1
    cases thv_nil tv2
    exact ⟨a, b, rfl, rfl, ha, hb⟩
theorem fit_15 {words : List Bytes} {ths : List Th} (h : fits (Kp01.parted 32 (Kp01.ascii "make NAME NAME RECORDS")) words = some ths) : ∃ cmd, Kp01.cmd? words = some cmd ∧ ∀ H0 F vals, ThV H0 F ths vals → (relMake : Kp01.Cmd → List V → Hp → Prop) cmd vals F := by
  rw [fm_15] at h
  obtain ⟨w, a, b, d, rfl⟩ := len_4 (fits_len h)
  have h0 := h
  obtain ⟨rfl, h1⟩ := fits_lit r_make h0
  obtain ⟨_, _, rfl, ra, h2⟩ := fits_rd r_NAME h1
  obtain ⟨ha, rfl⟩ := rdName_of ra
  obtain ⟨_, _, rfl, rb, h3⟩ := fits_rd r_NAME h2
  obtain ⟨hb, rfl⟩ := rdName_of rb
  obtain ⟨_, _, rfl, rd, h4⟩ := fits_rd r_RECORDS h3
  obtain ⟨xd, hd, rfl⟩ := rdRecs_of rd
  cases fits_nilT h4
  refine ⟨.make a b xd, ?_, fun H0 F vals tv => ?_⟩
  · unfold Kp01.cmd?; simp only [ha, hb, hd]
    repeat (first
      | rfl
      | rw [if_pos rfl]
      | rw [if_neg (by decide +kernel)]
      | rw [if_pos (by decide +kernel)]
      | rw [if_neg (fun z => absurd z.1 (by decide +kernel))])
  · obtain ⟨_, rfl, tv1⟩ := thv_s tv
    obtain ⟨_, rfl, tv2⟩ := thv_s tv1
    obtain ⟨q, _, rfl, hq, tv3⟩ := thv_l tv2
    cases thv_nil tv3
    exact ⟨a, b, xd, q, rfl, rfl, ha, hb, recs_len hd, hq⟩
theorem fit_16 {words : List Bytes} {ths : List Th} (h : fits (Kp01.parted 32 (Kp01.ascii "copy RECORD NAME")) words = some ths) : ∃ cmd, Kp01.cmd? words = some cmd ∧ ∀ H0 F vals, ThV H0 F ths vals → (relCopy : Kp01.Cmd → List V → Hp → Prop) cmd vals F := by
  rw [fm_16] at h
  obtain ⟨w, a, b, rfl⟩ := len_3 (fits_len h)
  have h0 := h
  obtain ⟨rfl, h1⟩ := fits_lit r_copy h0
  obtain ⟨_, _, rfl, ra, h2⟩ := fits_rd r_RECORD h1
  obtain ⟨xa, ha, rfl⟩ := rdNum_of ra
  obtain ⟨_, _, rfl, rb, h3⟩ := fits_rd r_NAME h2
  obtain ⟨hb, rfl⟩ := rdName_of rb
  cases fits_nilT h3
  refine ⟨.copy xa b, ?_, fun H0 F vals tv => ?_⟩
  · unfold Kp01.cmd?; simp only [ha, hb]
    repeat (first
      | rfl
      | rw [if_pos rfl]
      | rw [if_neg (by decide +kernel)]
      | rw [if_pos (by decide +kernel)]
      | rw [if_neg (fun z => absurd z.1 (by decide +kernel))])
  · obtain ⟨_, rfl, tv1⟩ := thv_n tv
    obtain ⟨_, rfl, tv2⟩ := thv_s tv1
    cases thv_nil tv2
    exact ⟨xa, b, rfl, rfl, hb⟩
theorem fit_17 {words : List Bytes} {ths : List Th} (h : fits (Kp01.parted 32 (Kp01.ascii "use RECORD")) words = some ths) : ∃ cmd, Kp01.cmd? words = some cmd ∧ ∀ H0 F vals, ThV H0 F ths vals → (relI 99 .use : Kp01.Cmd → List V → Hp → Prop) cmd vals F := by
  rw [fm_17] at h
  obtain ⟨w, a, rfl⟩ := len_2 (fits_len h)
  have h0 := h
  obtain ⟨rfl, h1⟩ := fits_lit r_use h0
  obtain ⟨_, _, rfl, ra, h2⟩ := fits_rd r_RECORD h1
  obtain ⟨xa, ha, rfl⟩ := rdNum_of ra
  cases fits_nilT h2
  refine ⟨.use xa, ?_, fun H0 F vals tv => ?_⟩
  · unfold Kp01.cmd?; simp only [ha]
    repeat (first
      | rfl
      | rw [if_pos rfl]
      | rw [if_neg (by decide +kernel)]
      | rw [if_pos (by decide +kernel)]
      | rw [if_neg (fun z => absurd z.1 (by decide +kernel))])
  · obtain ⟨_, rfl, tv1⟩ := thv_n tv
    cases thv_nil tv1
    exact ⟨xa, rfl, rfl, num_le ha⟩
theorem fit_18 {words : List Bytes} {ths : List Th} (h : fits (Kp01.parted 32 (Kp01.ascii "hold NAME NAME NAME-OR-ANY")) words = some ths) : ∃ cmd, Kp01.cmd? words = some cmd ∧ ∀ H0 F vals, ThV H0 F ths vals → (relHold : Kp01.Cmd → List V → Hp → Prop) cmd vals F := by
  rw [fm_18] at h
  obtain ⟨w, a, b, d, rfl⟩ := len_4 (fits_len h)
  have h0 := h
  obtain ⟨rfl, h1⟩ := fits_lit r_hold h0
  obtain ⟨_, _, rfl, ra, h2⟩ := fits_rd r_NAME h1
  obtain ⟨ha, rfl⟩ := rdName_of ra
  obtain ⟨_, _, rfl, rb, h3⟩ := fits_rd r_NAME h2
  obtain ⟨hb, rfl⟩ := rdName_of rb
  obtain ⟨_, _, rfl, rd, h4⟩ := fits_rd r_NAME_OR_ANY h3
  obtain ⟨hd, rfl⟩ := rdAny_of rd
  cases fits_nilT h4
  rcases hd with rfl | ⟨hd, nd⟩
  · refine ⟨.hold ⟨a, b, none⟩, ?_, fun H0 F vals tv => ?_⟩
    · unfold Kp01.cmd?; simp only [ha, hb]
      repeat (first
        | rw [if_pos rfl]
        | rw [if_pos trivial]
        | rw [if_neg (by decide +kernel)]
        | rw [if_neg (fun z => absurd z.1 (by decide +kernel))])
    · obtain ⟨_, rfl, tv1⟩ := thv_s tv; obtain ⟨_, rfl, tv2⟩ := thv_s tv1; obtain ⟨_, rfl, tv3⟩ := thv_s tv2; cases thv_nil tv3
      exact ⟨a, b, none, rfl, rfl, ha, hb, fun x e => by cases e⟩
  · refine ⟨.hold ⟨a, b, some d⟩, ?_, fun H0 F vals tv => ?_⟩
    · unfold Kp01.cmd?; simp only [ha, hb, hd]
      repeat (first
        | rw [if_pos rfl]
        | rw [if_pos trivial]
        | rw [if_neg (by decide +kernel)]
        | rw [if_neg nd]
        | rw [if_neg (fun z => absurd z.1 (by decide +kernel))])
    · obtain ⟨_, rfl, tv1⟩ := thv_s tv; obtain ⟨_, rfl, tv2⟩ := thv_s tv1; obtain ⟨_, rfl, tv3⟩ := thv_s tv2; cases thv_nil tv3
      exact ⟨a, b, some d, rfl, rfl, ha, hb, fun x e => by cases e; exact hd⟩
theorem fit_19 {words : List Bytes} {ths : List Th} (h : fits (Kp01.parted 32 (Kp01.ascii "free NAME")) words = some ths) : ∃ cmd, Kp01.cmd? words = some cmd ∧ ∀ H0 F vals, ThV H0 F ths vals → (rel1 .free : Kp01.Cmd → List V → Hp → Prop) cmd vals F := by
  rw [fm_19] at h
  obtain ⟨w, a, rfl⟩ := len_2 (fits_len h)
  have h0 := h
  obtain ⟨rfl, h1⟩ := fits_lit r_free h0
  obtain ⟨_, _, rfl, ra, h2⟩ := fits_rd r_NAME h1
  obtain ⟨ha, rfl⟩ := rdName_of ra
  cases fits_nilT h2
  refine ⟨.free a, ?_, fun H0 F vals tv => ?_⟩
  · unfold Kp01.cmd?; simp only [ha]
    repeat (first
      | rfl
      | rw [if_pos rfl]
      | rw [if_neg (by decide +kernel)]
      | rw [if_pos (by decide +kernel)]
      | rw [if_neg (fun z => absurd z.1 (by decide +kernel))])
  · obtain ⟨_, rfl, tv1⟩ := thv_s tv
    cases thv_nil tv1
    exact ⟨a, rfl, rfl, ha⟩
theorem fit_20 {words : List Bytes} {ths : List Th} (h : fits (Kp01.parted 32 (Kp01.ascii "back NAME")) words = some ths) : ∃ cmd, Kp01.cmd? words = some cmd ∧ ∀ H0 F vals, ThV H0 F ths vals → (rel1 .back : Kp01.Cmd → List V → Hp → Prop) cmd vals F := by
  rw [fm_20] at h
  obtain ⟨w, a, rfl⟩ := len_2 (fits_len h)
  have h0 := h
  obtain ⟨rfl, h1⟩ := fits_lit r_back h0
  obtain ⟨_, _, rfl, ra, h2⟩ := fits_rd r_NAME h1
  obtain ⟨ha, rfl⟩ := rdName_of ra
  cases fits_nilT h2
  refine ⟨.back a, ?_, fun H0 F vals tv => ?_⟩
  · unfold Kp01.cmd?; simp only [ha]
    repeat (first
      | rfl
      | rw [if_pos rfl]
      | rw [if_neg (by decide +kernel)]
      | rw [if_pos (by decide +kernel)]
      | rw [if_neg (fun z => absurd z.1 (by decide +kernel))])
  · obtain ⟨_, rfl, tv1⟩ := thv_s tv
    cases thv_nil tv1
    exact ⟨a, rfl, rfl, ha⟩
theorem fit_21 {words : List Bytes} {ths : List Th} (h : fits (Kp01.parted 32 (Kp01.ascii "tick DAYS")) words = some ths) : ∃ cmd, Kp01.cmd? words = some cmd ∧ ∀ H0 F vals, ThV H0 F ths vals → (relI 400 .tick : Kp01.Cmd → List V → Hp → Prop) cmd vals F := by
  rw [fm_21] at h
  obtain ⟨w, a, rfl⟩ := len_2 (fits_len h)
  have h0 := h
  obtain ⟨rfl, h1⟩ := fits_lit r_tick h0
  obtain ⟨_, _, rfl, ra, h2⟩ := fits_rd r_DAYS h1
  obtain ⟨xa, ha, rfl⟩ := rdNum_of ra
  cases fits_nilT h2
  refine ⟨.tick xa, ?_, fun H0 F vals tv => ?_⟩
  · unfold Kp01.cmd?; simp only [ha]
    repeat (first
      | rfl
      | rw [if_pos rfl]
      | rw [if_neg (by decide +kernel)]
      | rw [if_pos (by decide +kernel)]
      | rw [if_neg (fun z => absurd z.1 (by decide +kernel))])
  · obtain ⟨_, rfl, tv1⟩ := thv_n tv
    cases thv_nil tv1
    exact ⟨xa, rfl, rfl, num_le ha⟩
theorem fit_22 {words : List Bytes} {ths : List Th} (h : fits (Kp01.parted 32 (Kp01.ascii "tell NAME")) words = some ths) : ∃ cmd, Kp01.cmd? words = some cmd ∧ ∀ H0 F vals, ThV H0 F ths vals → (rel1 .tell : Kp01.Cmd → List V → Hp → Prop) cmd vals F := by
  rw [fm_22] at h
  obtain ⟨w, a, rfl⟩ := len_2 (fits_len h)
  have h0 := h
  obtain ⟨rfl, h1⟩ := fits_lit r_tell h0
  obtain ⟨_, _, rfl, ra, h2⟩ := fits_rd r_NAME h1
  obtain ⟨ha, rfl⟩ := rdName_of ra
  cases fits_nilT h2
  refine ⟨.tell a, ?_, fun H0 F vals tv => ?_⟩
  · unfold Kp01.cmd?; simp only [ha]
    repeat (first
      | rfl
      | rw [if_pos rfl]
      | rw [if_neg (by decide +kernel)]
      | rw [if_pos (by decide +kernel)]
      | rw [if_neg (fun z => absurd z.1 (by decide +kernel))])
  · obtain ⟨_, rfl, tv1⟩ := thv_s tv
    cases thv_nil tv1
    exact ⟨a, rfl, rfl, ha⟩
theorem fit_23 {words : List Bytes} {ths : List Th} (h : fits (Kp01.parted 32 (Kp01.ascii "why RECORD")) words = some ths) : ∃ cmd, Kp01.cmd? words = some cmd ∧ ∀ H0 F vals, ThV H0 F ths vals → (relI 99 .why : Kp01.Cmd → List V → Hp → Prop) cmd vals F := by
  rw [fm_23] at h
  obtain ⟨w, a, rfl⟩ := len_2 (fits_len h)
  have h0 := h
  obtain ⟨rfl, h1⟩ := fits_lit r_why h0
  obtain ⟨_, _, rfl, ra, h2⟩ := fits_rd r_RECORD h1
  obtain ⟨xa, ha, rfl⟩ := rdNum_of ra
  cases fits_nilT h2
  refine ⟨.why xa, ?_, fun H0 F vals tv => ?_⟩
  · unfold Kp01.cmd?; simp only [ha]
    repeat (first
      | rfl
      | rw [if_pos rfl]
      | rw [if_neg (by decide +kernel)]
      | rw [if_pos (by decide +kernel)]
      | rw [if_neg (fun z => absurd z.1 (by decide +kernel))])
  · obtain ⟨_, rfl, tv1⟩ := thv_n tv
    cases thv_nil tv1
    exact ⟨xa, rfl, rfl, num_le ha⟩
theorem fit_24 {words : List Bytes} {ths : List Th} (h : fits (Kp01.parted 32 (Kp01.ascii "till RECORD")) words = some ths) : ∃ cmd, Kp01.cmd? words = some cmd ∧ ∀ H0 F vals, ThV H0 F ths vals → (relI 99 .till : Kp01.Cmd → List V → Hp → Prop) cmd vals F := by
  rw [fm_24] at h
  obtain ⟨w, a, rfl⟩ := len_2 (fits_len h)
  have h0 := h
  obtain ⟨rfl, h1⟩ := fits_lit r_till h0
  obtain ⟨_, _, rfl, ra, h2⟩ := fits_rd r_RECORD h1
  obtain ⟨xa, ha, rfl⟩ := rdNum_of ra
  cases fits_nilT h2
  refine ⟨.till xa, ?_, fun H0 F vals tv => ?_⟩
  · unfold Kp01.cmd?; simp only [ha]
    repeat (first
      | rfl
      | rw [if_pos rfl]
      | rw [if_neg (by decide +kernel)]
      | rw [if_pos (by decide +kernel)]
      | rw [if_neg (fun z => absurd z.1 (by decide +kernel))])
  · obtain ⟨_, rfl, tv1⟩ := thv_n tv
    cases thv_nil tv1
    exact ⟨xa, rfl, rfl, num_le ha⟩
theorem fit_25 {words : List Bytes} {ths : List Th} (h : fits (Kp01.parted 32 (Kp01.ascii "proof RECORD")) words = some ths) : ∃ cmd, Kp01.cmd? words = some cmd ∧ ∀ H0 F vals, ThV H0 F ths vals → (relI 99 .proof : Kp01.Cmd → List V → Hp → Prop) cmd vals F := by
  rw [fm_25] at h
  obtain ⟨w, a, rfl⟩ := len_2 (fits_len h)
  have h0 := h
  obtain ⟨rfl, h1⟩ := fits_lit r_proof h0
  obtain ⟨_, _, rfl, ra, h2⟩ := fits_rd r_RECORD h1
  obtain ⟨xa, ha, rfl⟩ := rdNum_of ra
  cases fits_nilT h2
  refine ⟨.proof xa, ?_, fun H0 F vals tv => ?_⟩
  · unfold Kp01.cmd?; simp only [ha]
    repeat (first
      | rfl
      | rw [if_pos rfl]
      | rw [if_neg (by decide +kernel)]
      | rw [if_pos (by decide +kernel)]
      | rw [if_neg (fun z => absurd z.1 (by decide +kernel))])
  · obtain ⟨_, rfl, tv1⟩ := thv_n tv
    cases thv_nil tv1
    exact ⟨xa, rfl, rfl, num_le ha⟩
theorem fit_26 {words : List Bytes} {ths : List Th} (h : fits (Kp01.parted 32 (Kp01.ascii "due DAYS")) words = some ths) : ∃ cmd, Kp01.cmd? words = some cmd ∧ ∀ H0 F vals, ThV H0 F ths vals → (relI 400 .due : Kp01.Cmd → List V → Hp → Prop) cmd vals F := by
  rw [fm_26] at h
  obtain ⟨w, a, rfl⟩ := len_2 (fits_len h)
  have h0 := h
  obtain ⟨rfl, h1⟩ := fits_lit r_due h0
  obtain ⟨_, _, rfl, ra, h2⟩ := fits_rd r_DAYS h1
  obtain ⟨xa, ha, rfl⟩ := rdNum_of ra
  cases fits_nilT h2
  refine ⟨.due xa, ?_, fun H0 F vals tv => ?_⟩
  · unfold Kp01.cmd?; simp only [ha]
    repeat (first
      | rfl
      | rw [if_pos rfl]
      | rw [if_neg (by decide +kernel)]
      | rw [if_pos (by decide +kernel)]
      | rw [if_neg (fun z => absurd z.1 (by decide +kernel))])
  · obtain ⟨_, rfl, tv1⟩ := thv_n tv
    cases thv_nil tv1
    exact ⟨xa, rfl, rfl, num_le ha⟩
theorem fit_27 {words : List Bytes} {ths : List Th} (h : fits (Kp01.parted 32 (Kp01.ascii "asks")) words = some ths) : ∃ cmd, Kp01.cmd? words = some cmd ∧ ∀ H0 F vals, ThV H0 F ths vals → (fun cmd vals _ => cmd = .asks ∧ vals = [] : Kp01.Cmd → List V → Hp → Prop) cmd vals F := by
  rw [fm_27] at h
  obtain ⟨w, rfl⟩ := len_1 (fits_len h)
  have h0 := h
  obtain ⟨rfl, h1⟩ := fits_lit r_asks h0
  cases fits_nilT h1
  refine ⟨.asks, ?_, fun H0 F vals tv => ?_⟩
  · rfl
  · cases thv_nil tv
    exact ⟨rfl, rfl⟩
end Kr

set_option Elab.async false
set_option linter.all false
set_option maxRecDepth 100000
set_option maxHeartbeats 2000000
namespace Kr
open PySem PySem.Spec PyProof.Rows L2
/-! ### what has no form is no command; what is one is well formed -/
def View (ws : List Bytes) (r : Option Kp01.Cmd) : Prop := r = none ∨ ∃ x ∈ formTexts, ∃ ts cmd, fits (Kp01.parted 32 (Kp01.ascii x)) ws = some ts ∧ r = some cmd ∧ Wf cmd
section
variable {ws : List Bytes}
theorem vw_none : View ws none := .inl rfl
theorem vw_if {c : Prop} [Decidable c] {a b : Option Kp01.Cmd} (h1 : c → View ws a) (h2 : ¬ c → View ws b) : View ws (if c then a else b) := by
  by_cases h : c
  · rw [if_pos h]; exact h1 h
  · rw [if_neg h]; exact h2 h
theorem vw_map {α : Type} {o : Option α} {f : α → Kp01.Cmd} (h : ∀ x, o = some x → View ws (some (f x))) : View ws (o.map f) := by
  cases o with
  | none => exact .inl rfl
  | some x => exact h x rfl
theorem vw_bind {α : Type} {o : Option α} {f : α → Option Kp01.Cmd} (h : ∀ x, o = some x → View ws (f x)) : View ws (o.bind f) := by
  cases o with
  | none => exact .inl rfl
  | some x => exact h x rfl
theorem vw_some {cmd : Kp01.Cmd} {ts : List Th} {fm : List Bytes} (i : Nat) {x : String} (hx : formTexts[i]? = some x) (fe : Kp01.parted 32 (Kp01.ascii x) = fm) (hf : fits fm ws = some ts) (w : Wf cmd) : View ws (some cmd) :=
  .inr ⟨x, List.mem_of_getElem? hx, ts, cmd, by rw [fe]; exact hf, rfl, w⟩
theorem nf {b : Bool} (h : ¬ b = false) : b = true := by simpa using h
end
theorem cmd_view : ∀ ws : List Bytes, View ws (Kp01.cmd? ws)
  | [] => vw_none
  | [w] => vw_if (fun h => by subst h; exact vw_some 27 rfl fm_27 (fit_lit r_asks fit_nil) trivial) (fun _ => vw_none)
  | [w, a] => vw_if (fun h => by subst h; exact vw_map fun x e => vw_some 21 rfl fm_21 (fit_lit r_tick (fit_rd r_DAYS (rdNum_is e) fit_nil)) (num_le e)) (fun n => vw_if (fun h => by subst h; exact vw_map fun x e => vw_some 26 rfl fm_26 (fit_lit r_due (fit_rd r_DAYS (rdNum_is e) fit_nil)) trivial) (fun n => vw_if (fun h => by subst h; exact vw_map fun x e => vw_some 17 rfl fm_17 (fit_lit r_use (fit_rd r_RECORD (rdNum_is e) fit_nil)) trivial) (fun n => vw_if (fun h => by subst h; exact vw_map fun x e => vw_some 23 rfl fm_23 (fit_lit r_why (fit_rd r_RECORD (rdNum_is e) fit_nil)) trivial) (fun n => vw_if (fun h => by subst h; exact vw_map fun x e => vw_some 24 rfl fm_24 (fit_lit r_till (fit_rd r_RECORD (rdNum_is e) fit_nil)) trivial) (fun n => vw_if (fun h => by subst h; exact vw_map fun x e => vw_some 25 rfl fm_25 (fit_lit r_proof (fit_rd r_RECORD (rdNum_is e) fit_nil)) trivial) (fun n => vw_if (fun _ => vw_none) (fun ha => vw_if (fun h => by subst h; exact vw_some 0 rfl fm_0 (fit_lit r_person (fit_rd r_NAME (rdName_is (nf ha)) fit_nil)) (nf ha)) (fun n => vw_if (fun h => by subst h; exact vw_some 3 rfl fm_3 (fit_lit r_object (fit_rd r_NAME (rdName_is (nf ha)) fit_nil)) trivial) (fun n => vw_if (fun h => by subst h; exact vw_some 5 rfl fm_5 (fit_lit r_forget (fit_rd r_NAME (rdName_is (nf ha)) fit_nil)) trivial) (fun n => vw_if (fun h => by subst h; exact vw_some 4 rfl fm_4 (fit_lit r_ended (fit_rd r_NAME (rdName_is (nf ha)) fit_nil)) trivial) (fun n => vw_if (fun h => by subst h; exact vw_some 9 rfl fm_9 (fit_lit r_void (fit_rd r_NAME (rdName_is (nf ha)) fit_nil)) trivial) (fun n => vw_if (fun h => by subst h; exact vw_some 12 rfl fm_12 (fit_lit r_deaf (fit_rd r_NAME (rdName_is (nf ha)) fit_nil)) trivial) (fun n => vw_if (fun h => by subst h; exact vw_some 13 rfl fm_13 (fit_lit r_hears (fit_rd r_NAME (rdName_is (nf ha)) fit_nil)) trivial) (fun n => vw_if (fun h => by subst h; exact vw_some 19 rfl fm_19 (fit_lit r_free (fit_rd r_NAME (rdName_is (nf ha)) fit_nil)) trivial) (fun n => vw_if (fun h => by subst h; exact vw_some 20 rfl fm_20 (fit_lit r_back (fit_rd r_NAME (rdName_is (nf ha)) fit_nil)) trivial) (fun n => vw_if (fun h => by subst h; exact vw_some 22 rfl fm_22 (fit_lit r_tell (fit_rd r_NAME (rdName_is (nf ha)) fit_nil)) trivial) (fun n => vw_none)))))))))))))))))
  | [w, a, b] => vw_if (fun h => by subst h; exact vw_bind fun x e => vw_if (fun hb => vw_some 16 rfl fm_16 (fit_lit r_copy (fit_rd r_RECORD (rdNum_is e) (fit_rd r_NAME (rdName_is hb) fit_nil))) trivial) (fun _ => vw_none)) (fun _ => vw_if (fun _ => vw_none) (fun ho => by have hab := not_or.mp ho; exact vw_if (fun h => by subst h; exact vw_some 1 rfl fm_1 (fit_lit r_consent (fit_rd r_NAME (rdName_is (nf hab.1)) (fit_rd r_NAME (rdName_is (nf hab.2)) fit_nil))) trivial) (fun n => vw_if (fun h => by subst h; exact vw_some 2 rfl fm_2 (fit_lit r_withdraw (fit_rd r_NAME (rdName_is (nf hab.1)) (fit_rd r_NAME (rdName_is (nf hab.2)) fit_nil))) trivial) (fun n => vw_if (fun h => by subst h; exact vw_some 14 rfl fm_14 (fit_lit r_put (fit_rd r_NAME (rdName_is (nf hab.1)) (fit_rd r_NAME (rdName_is (nf hab.2)) fit_nil))) (nf hab.2)) (fun n => vw_if (fun h => by obtain ⟨h1, h2⟩ := h; subst h1; subst h2; exact vw_some 11 rfl fm_11 (fit_lit r_store (fit_rd r_NAME (rdName_is (nf hab.1)) (fit_lit r_other fit_nil))) ⟨nf hab.1, fun m d e => by cases e⟩) (fun _ => vw_none))))))
  | [w, a, b, d] => vw_if (fun _ => vw_none) (fun ho => by have hab := not_or.mp ho; exact vw_if (fun h => by obtain ⟨h1, h2⟩ := h; subst h1; subst h2; exact vw_map fun x e => vw_some 10 rfl fm_10 (fit_lit r_store (fit_rd r_NAME (rdName_is (nf hab.1)) (fit_lit r_roll (fit_rd r_DAYS (rdNum_is e) fit_nil)))) ⟨nf hab.1, fun m d z => by cases z; exact num_le e⟩) (fun _ => vw_if (fun h => by subst h; exact vw_map fun x e => vw_some 15 rfl fm_15 (fit_lit r_make (fit_rd r_NAME (rdName_is (nf hab.1)) (fit_rd r_NAME (rdName_is (nf hab.2)) (fit_rd r_RECORDS (rdRecs_is e) fit_nil)))) (nf hab.2)) (fun _ => vw_if (fun h => by subst h; exact vw_if (fun h => by subst h; exact vw_some 18 rfl fm_18 (fit_lit r_hold (fit_rd r_NAME (rdName_is (nf hab.1)) (fit_rd r_NAME (rdName_is (nf hab.2)) (fit_rd r_NAME_OR_ANY rdAny_any fit_nil)))) ⟨nf hab.1, fun k z => by cases z⟩) (fun _ => vw_if (fun hc => vw_some 18 rfl fm_18 (fit_lit r_hold (fit_rd r_NAME (rdName_is (nf hab.1)) (fit_rd r_NAME (rdName_is (nf hab.2)) (fit_rd r_NAME_OR_ANY (rdAny_is hc) fit_nil)))) ⟨nf hab.1, fun k z => by cases z; exact hc⟩) (fun _ => vw_none))) (fun _ => vw_none))))
  | [w, a, b, c, d] => vw_none
  | [w, a, b, d, e, f] => vw_if (fun _ => vw_none) (fun ho => by
    have h0 := not_or.mp ho
    have hab : ¬ w ≠ _ ∧ _ := ⟨h0.1, not_or.mp h0.2⟩
    have hw := Classical.not_not.mp hab.1
    subst hw
    exact vw_bind fun x e1 => vw_bind fun y e2 => vw_if (fun h => by subst h; exact vw_some 6 rfl fm_6 (fit_lit r_ground (fit_rd r_NAME (rdName_is (nf hab.2.1)) (fit_rd r_NAME (rdName_is (nf hab.2.2)) (fit_lit r_law (fit_rd r_SPAN (rdNum_is e1) (fit_rd r_EVENT (rdEvent_is e2) fit_nil)))))) ⟨nf hab.2.1, nf hab.2.2, fun v z => by cases z⟩) (fun _ => vw_if (fun h => by subst h; exact vw_some 7 rfl fm_7 (fit_lit r_ground (fit_rd r_NAME (rdName_is (nf hab.2.1)) (fit_rd r_NAME (rdName_is (nf hab.2.2)) (fit_lit r_need (fit_rd r_SPAN (rdNum_is e1) (fit_rd r_EVENT (rdEvent_is e2) fit_nil)))))) ⟨nf hab.2.1, nf hab.2.2, fun v z => by cases z⟩) (fun _ => vw_none)))
  | [w, a, b, d, v, e, f] => vw_if (fun _ => vw_none) (fun ho => by
    have h0 := not_or.mp ho
    have h1 := not_or.mp h0.2
    have h2 := not_or.mp h1.2
    have h3 := not_or.mp h2.2
    have hw := Classical.not_not.mp h0.1
    have hd := Classical.not_not.mp h3.1
    subst hw
    subst hd
    exact vw_bind fun x e1 => vw_map fun y e2 => vw_some 8 rfl fm_8 (fit_lit r_ground (fit_rd r_NAME (rdName_is (nf h1.1)) (fit_rd r_NAME (rdName_is (nf h2.1)) (fit_lit r_for (fit_rd r_NAME (rdName_is (nf h3.2)) (fit_rd r_SPAN (rdNum_is e1) (fit_rd r_EVENT (rdEvent_is e2) fit_nil))))))) ⟨nf h1.1, nf h2.1, fun v z => by cases z; exact nf h3.2⟩)
  | _ :: _ :: _ :: _ :: _ :: _ :: _ :: _ :: _ => vw_none
theorem no_form {ws : List Bytes} (N : ∀ x ∈ formTexts, fits (Kp01.parted 32 (Kp01.ascii x)) ws = none) : Kp01.cmd? ws = none := by
  rcases cmd_view ws with h | ⟨x, hx, ts, cmd, h, _⟩
  · exact h
  · rw [N x hx] at h; cases h
theorem wf_cmd {ws : List Bytes} {cmd : Kp01.Cmd} (h : Kp01.cmd? ws = some cmd) : Wf cmd := by
  rcases cmd_view ws with e | ⟨x, hx, ts, cmd', _, e, w⟩
  · rw [e] at h; cases h
  · rw [e] at h; cases h; exact w
end Kr

set_option Elab.async false
set_option linter.all false
set_option maxRecDepth 100000
set_option maxHeartbeats 2000000
namespace Kr
open PySem PySem.Spec PyProof.Rows L2
/-! ### the readers of words -/
def rdrSp : Nat → Option Sp
  | 0 => some (sp1 pr_read_name)
  | 1 => some (sp1 pr_read_name_or_any)
  | 2 => some (sp1 pr_read_event)
  | 3 => some (sp1 pr_read_span)
  | 4 => some (sp1 pr_read_days)
  | 5 => some (sp1 pr_read_record)
  | 6 => some (sp1 pr_read_records)
  | _ => none
def rdrFs : List (Bytes → Option Th) := [rdName, rdAny, rdEvent, rdNum 0 4000, rdNum 1 400, rdNum 0 99, rdRecs]
def S_reader (c : Cs) : Addr → Option Sp := fun f => ((List.range 7).find? fun i => c.rdr i = f).bind rdrSp
section
variable {K : PySem.W.Frag} {w : World} {mg : Str → Option Value} {c : Cs}
theorem S_reader_at (T : TopTxt K w mg c) {i : Nat} (hi : i < 7) : S_reader c (c.rdr i) = rdrSp i := by
  unfold S_reader
  have e : ((List.range 7).find? fun j => c.rdr j = c.rdr i) = some i := by
    cases h : (List.range 7).find? fun j => decide (c.rdr j = c.rdr i) with
    | none =>
      rw [List.find?_eq_none] at h
      exact absurd (by simp) (h i (List.mem_range.mpr hi))
    | some j =>
      have h1 := List.find?_some h
      have h2 := List.mem_range.mp (List.mem_of_find?_eq_some h)
      rw [T.n_rdr j i h2 hi (by simpa using h1)]
  rw [e]; rfl
theorem S_reader_of {f : Addr} {sp : Sp} (h : S_reader c f = some sp) : ∃ i, i < 7 ∧ c.rdr i = f ∧ rdrSp i = some sp := by
  unfold S_reader at h
  cases e : (List.range 7).find? fun i => decide (c.rdr i = f) with
  | none => rw [e] at h; cases h
  | some i =>
    rw [e] at h
    exact ⟨i, List.mem_range.mp (List.mem_of_find?_eq_some e), by simpa using List.find?_some e, h⟩
/-- what a word's reader gives -/
def told1 (H : Hp) (o : Option Th) (Q : VK) : Prop := match o with
  | none => ∀ H', Same H H' → Q .non H'
  | some t => ∀ H' v, Same H H' → ThV H H' [t] [v] → Q v H'
theorem rd_sp {i : Nat} {rd : Bytes → Option Th} (h : rdrFs[i]? = some rd) {wd : Bytes} (h1 : wd.length ≤ 80) (h2 : clean wd) {H : Hp} {Q : VK} (q : told1 H (rd wd) Q) : ∃ sp, rdrSp i = some sp ∧ sp [.str (txt wd)] H Q (fun _ _ _ => False) := by
  have nm : told1 H (rdName wd) Q → Q (nameV wd) H := fun q => by
    unfold rdName at q; unfold nameV
    split at q
    · rw [if_pos (by assumption)]; exact q H _ (fun _ _ h => h) (.s .nil)
    · rw [if_neg (by assumption)]; exact q H (fun _ _ h => h)
  have num : ∀ lo hi, told1 H (rdNum lo hi wd) Q → Q (numV lo hi wd) H := fun lo hi q => by
    unfold rdNum at q; unfold numV
    cases e : Kp01.num? lo hi wd with
    | none => rw [e] at q; exact q H (fun _ _ h => h)
    | some n => rw [e] at q; exact q H _ (fun _ _ h => h) (.n .nil)
  match i, h with
  | 0, h => cases h; exact ⟨_, rfl, wd, rfl, h1, nm q⟩
  | 1, h =>
    cases h
    refine ⟨_, rfl, wd, rfl, h1, ?_⟩
    unfold rdAny at q
    split at q
    · rw [if_pos (by assumption)]; exact q H _ (fun _ _ h => h) (.s .nil)
    · rw [if_neg (by assumption)]; exact nm q
  | 2, h =>
    cases h
    refine ⟨_, rfl, wd, rfl, ?_⟩
    unfold rdEvent at q; unfold eventV
    cases e : Kp01.event? wd with
    | none => rw [e] at q; exact q H (fun _ _ h => h)
    | some n => rw [e] at q; exact q H _ (fun _ _ h => h) (.s .nil)
  | 3, h => cases h; exact ⟨_, rfl, wd, rfl, h1, h2, num _ _ q⟩
  | 4, h => cases h; exact ⟨_, rfl, wd, rfl, h1, h2, num _ _ q⟩
  | 5, h => cases h; exact ⟨_, rfl, wd, rfl, h1, h2, num _ _ q⟩
  | 6, h =>
    cases h
    refine ⟨_, rfl, wd, rfl, h1, h2, ?_⟩
    unfold rdRecs at q
    cases e : Kp01.records? wd with
    | none => rw [e] at q; exact q
    | some l => rw [e] at q; exact fun H' a sm na ha => q H' _ sm (.l na ha .nil)
  | n + 7, h => exact absurd h (by simp [rdrFs])
theorem txt_lit (b : Bytes) (s : String) : txt b = Str.ofString s ↔ b = Kp01.ascii s := ⟨fun h => txt_inj (h.trans (txt_ascii s).symm), fun h => by rw [h]; exact txt_ascii s⟩
theorem rdr_of (b : Bytes) : (readerOf b = none ∧ rdrIx (txt b) rdrSlots 0 = none) ∨ ∃ i rd, i < 7 ∧ rdrFs[i]? = some rd ∧ readerOf b = some rd ∧ rdrIx (txt b) rdrSlots 0 = some i := by
  unfold readerOf rdrSlots
  simp only [rdrIx, txt_lit]
  by_cases h : b = Kp01.ascii "NAME"
  · rw [if_pos h, if_pos h]; exact .inr ⟨0, _, by decide, rfl, rfl, rfl⟩
  rw [if_neg h, if_neg h]
  by_cases h : b = Kp01.ascii "NAME-OR-ANY"
  · rw [if_pos h, if_pos h]; exact .inr ⟨1, _, by decide, rfl, rfl, rfl⟩
  rw [if_neg h, if_neg h]
  by_cases h : b = Kp01.ascii "EVENT"
  · rw [if_pos h, if_pos h]; exact .inr ⟨2, _, by decide, rfl, rfl, rfl⟩
  rw [if_neg h, if_neg h]
  by_cases h : b = Kp01.ascii "SPAN"
  · rw [if_pos h, if_pos h]; exact .inr ⟨3, _, by decide, rfl, rfl, rfl⟩
  rw [if_neg h, if_neg h]
  by_cases h : b = Kp01.ascii "DAYS"
  · rw [if_pos h, if_pos h]; exact .inr ⟨4, _, by decide, rfl, rfl, rfl⟩
  rw [if_neg h, if_neg h]
  by_cases h : b = Kp01.ascii "RECORD"
  · rw [if_pos h, if_pos h]; exact .inr ⟨5, _, by decide, rfl, rfl, rfl⟩
  rw [if_neg h, if_neg h]
  by_cases h : b = Kp01.ascii "RECORDS"
  · rw [if_pos h, if_pos h]; exact .inr ⟨6, _, by decide, rfl, rfl, rfl⟩
  rw [if_neg h, if_neg h]
  exact .inl ⟨rfl, rfl⟩
theorem thv_mono {H0 H H' : Hp} {ts : List Th} {vs : List V} (h : ThV H0 H ts vs) : (∀ a o, V.ref a ∈ vs → H a = some o → H' a = some o) → ThV H0 H' ts vs := by
  induction h with
  | nil => exact fun _ => .nil
  | s r ih => exact fun m => .s (ih fun a o ha => m a o (List.mem_cons_of_mem _ ha))
  | n r ih => exact fun m => .n (ih fun a o ha => m a o (List.mem_cons_of_mem _ ha))
  | l h0 h r ih => exact fun m => .l h0 (m _ _ (List.mem_cons_self ..) h) (ih fun a o ha => m a o (List.mem_cons_of_mem _ ha))
theorem thv_snoc {H0 H : Hp} {t : Th} {v : V} {ts : List Th} {vs : List V} (h : ThV H0 H ts vs) : ThV H0 H [t] [v] → ThV H0 H (ts ++ [t]) (vs ++ [v]) := by
  induction h with
  | nil => exact fun z => z
  | s r ih => exact fun z => .s (ih z)
  | n r ih => exact fun z => .n (ih z)
  | l h0 h r ih => exact fun z => .l h0 h (ih z)
theorem thv_non {H0 H : Hp} {t : Th} {v : V} (h : ThV H0 H [t] [v]) : v ≠ .non := by
  cases h <;> (intro z; cases z)
theorem thv_ref {H0 H : Hp} {t : Th} {a : Addr} (h : ThV H0 H [t] [.ref a]) : H0 a = none := by
  cases h with
  | l h0 h r => exact h0
theorem thv_weak {H0 H1 H : Hp} {t : Th} {v : V} (h : ThV H1 H [t] [v]) (sm : Same H0 H1) : ThV H0 H [t] [v] := by
  cases h with
  | s r => cases r; exact .s .nil
  | n r => cases r; exact .n .nil
  | l h0 h r =>
    cases r
    refine .l ?_ h .nil
    cases e : H0 _ with
    | none => rfl
    | some o => rw [sm _ _ e] at h0; cases h0
theorem blank_tl : TL.tl (Str.ofString " ") = [32] := by rw [TL.tl_ofString]; rfl
theorem pure_things_told (T : TopTxt K w mg c) : ∀ a b H Q, pr_things_told a b H Q → t_things_told K c w (S_reader c) (D0 Q) (start ["form", "words", "slots", "things", "slot", "word", "reader", "thing"] [a, b]) H := by
  rintro _ _ H Q ⟨fm, p, words, rfl, rfl, hfm, hp, hlen, hw, q⟩
  refine ⟨_, rfl, ⟨_, rfl⟩, _, _, rfl, rfl, by decide +kernel, ?_, fun r nr => ?_⟩
  · rw [txt_len]; exact Nat.le_trans (show fm.length + 2 ≤ 100 by omega) (by decide)
  rw [split_txt blank_tl (by decide +kernel)]
  obtain ⟨P, hP⟩ : ∃ P, P = Kp01.parted 32 fm := ⟨_, rfl⟩
  rw [← hP] at q ⊢
  have plen : P.length ≤ 61 := by rw [hP]; have := parted_count 32 fm; omega
  have emap : (P.map txt).map V.str = strsV P := by rw [List.map_map]; rfl
  rw [emap]
  have pr : p ≠ r := ne_of_none hp nr
  have hp1 : upd H r (.lst (strsV P)) p = some (.lst (strsV words)) := by rw [upd_ne pr]; exact hp
  have smr : Same H (upd H r (.lst (strsV P))) := same_new nr
  refine ⟨_, rfl, r, strsV P, rfl, .inl (SqL.of upd_same), _, rfl, p, strsV words, rfl, .inl (SqL.of hp1), rfl, _, rfl, ?_⟩
  have l1 : (strsV P).length = P.length := List.length_map ..
  have l2 : (strsV words).length = words.length := List.length_map ..
  rw [l1, l2]
  by_cases hne : ¬ P.length = words.length
  · refine if_true_of (by simp; omega) ?_
    have e : fits P words = none := by
      cases e : fits P words with
      | none => rfl
      | some ts => exact absurd (fits_len e).symm hne
    rw [e] at q
    exact q _ smr
  replace hne := Classical.not_not.mp hne
  refine if_false_of (by simp; omega) ?_
  refine ⟨by show 0 ≤ sizeLine; exact Nat.zero_le _, fun t nt => ?_⟩
  have rt : r ≠ t := ne_of_none upd_same nt
  have pt : p ≠ t := ne_of_none hp1 nt
  have nHt : H t = none := by have z := nt; rw [upd_ne rt.symm] at z; exact z
  have fail : fits P words = none → ∀ H', Same H H' → Q .non H' := fun e => by rw [e] at q; exact q
  have good : ∀ ts, fits P words = some ts → ∀ H' x vals, Same H H' → H x = none → H' x = some (.lst vals) → ThV H H' ts vals → (∀ a, V.ref a ∈ vals → a ≠ x) → Q (.ref x) H' := fun ts e => by rw [e] at q; exact q
  refine ⟨_, rfl, _, rfl, r, p, strsV P, strsV words, rfl, SqL.of (by rw [upd_ne rt]; exact upd_same), SqL.of (by rw [upd_ne pt]; exact hp1), ?_⟩
  refine for_it (walk_zip (xs := strsV P) (ys := strsV words) (n := P.length) (by rw [l1, l2]; omega))
    (fun j σ H' => ∃ vals ts v4 v5 v6 v7, σ = [some (.str (txt fm)), some (.ref p), some (.ref r), some (.ref t), v4, v5, v6, v7] ∧ Same H H' ∧ H' r = some (.lst (strsV P)) ∧ H' t = some (.lst vals) ∧ vals.length ≤ j ∧ ThV H H' ts vals ∧ (∀ a, V.ref a ∈ vals → a ≠ t) ∧ fits P words = (fits (P.drop j) (words.drop j)).map (ts ++ ·))
    ⟨[], [], none, none, none, none, rfl, fun b o h => by rw [upd_ne (ne_of_none h nHt)]; exact smr b o h, by rw [upd_ne rt]; exact upd_same, upd_same, Nat.le_refl _, .nil, by simp, ?_⟩ ?_ ?_ ?_
  · show _ = (fits P words).map _
    cases fits P words <;> rfl
  · rintro j σ H' _ ⟨vals, ts, v4, v5, v6, v7, rfl, sm, hr, ht, _⟩
    exact ⟨SqL.of hr, SqL.of (sm _ _ hp)⟩
  · rintro j x σ H1 H2 hj ⟨vals, ts, v4, v5, v6, v7, rfl, sm, hr, ht, hvl, tv, hne', hfit⟩ ⟨tp, x1, x2, rfl, ntp, rfl, hx1, hx2⟩
    obtain ⟨sl, hsl, rfl⟩ := map_at hx1
    obtain ⟨wd, hwd, rfl⟩ := map_at hx2
    obtain ⟨w1, w2⟩ := hw wd (List.mem_of_getElem? hwd)
    have hd1 : P.drop j = sl :: P.drop (j + 1) := by
      have z := List.getElem?_eq_some_iff.mp hsl
      rw [List.drop_eq_getElem_cons z.1, z.2]
    have hd2 : words.drop j = wd :: words.drop (j + 1) := by
      have z := List.getElem?_eq_some_iff.mp hwd
      rw [List.drop_eq_getElem_cons z.1, z.2]
    rw [hd1, hd2] at hfit
    have sm2 : Same H1 (upd H1 tp (.tup [.str (txt sl), .str (txt wd)])) := same_new ntp
    have sm02 : Same H (upd H1 tp (.tup [.str (txt sl), .str (txt wd)])) := fun b o h => sm2 b o (sm b o h)
    refine ⟨tp, _, rfl, .inl (.inl upd_same), rfl, _, _, rfl, _, _, rfl, rfl, ?_⟩
    refine ⟨c.a_READERS, fun x => (rdrIx x rdrSlots 0).map fun i => .ref (c.rdr i), rfl, T.rd, _, rfl, ?_⟩
    rcases rdr_of sl with ⟨e1, e2⟩ | ⟨i, rd, hi, e3, e1, e2⟩
    · -- a word as it stands
      refine ⟨_, none, rfl, by dsimp only; rw [e2]; exact trivial, ?_⟩
      refine ⟨_, rfl, _, rfl, if_false_of rfl ?_⟩
      refine ⟨_, rfl, _, rfl, rfl, _, rfl, ?_⟩
      by_cases he : sl = wd
      · refine if_false_of (by simp [he]) ?_
        refine ⟨vals, ts, _, _, _, _, rfl, sm02, sm2 _ _ hr, sm2 _ _ ht, Nat.le_succ_of_le hvl, thv_mono tv (fun a o _ h => sm2 a o h), hne', ?_⟩
        rw [hfit, ← he]
        have e : fits (sl :: P.drop (j + 1)) (sl :: words.drop (j + 1)) = fits (P.drop (j + 1)) (words.drop (j + 1)) := by
          rw [fits, e1]; show (if sl = sl then _ else _) = _; rw [if_pos rfl]
        rw [e]
      · refine if_true_of (by simp; exact fun z => he (txt_inj z)) ?_
        refine fail ?_ _ sm02
        rw [hfit]
        have e : fits (sl :: P.drop (j + 1)) (wd :: words.drop (j + 1)) = none := by
          rw [fits, e1]; show (if sl = wd then _ else _) = _; rw [if_neg he]
        rw [e]; rfl
    · -- a word that is read
      refine ⟨_, some (.ref (c.rdr i)), rfl, by dsimp only; rw [e2]; exact rfl, ?_⟩
      refine ⟨_, rfl, _, rfl, if_true_of rfl ?_⟩
      have ef : fits (sl :: P.drop (j + 1)) (wd :: words.drop (j + 1)) = match rd wd with
        | none => none
        | some t => (fits (P.drop (j + 1)) (words.drop (j + 1))).map (t :: ·) := by
        rw [fits, e1] <;> rfl
      rw [ef] at hfit
      refine Exists.intro (c.rdr i) ?_
      have key : ∃ sp, rdrSp i = some sp ∧ sp [.str (txt wd)] (upd H1 tp (.tup [.str (txt sl), .str (txt wd)])) _ (fun _ _ _ => False) := rd_sp (Q := ?Q) e3 w1 w2 ?_
      case Q => exact fun v H3 => tSeq (tIfS (tB (tIsN (tVar 7))) (tRet (tC .non)) tNext) (tDrop (tBM K "list" rAppend (tVar 3) (tCons (tVar 7) tNil))) { nx := fun σ H' => ∃ vals ts v4 v5 v6 v7, σ = [some (.str (txt fm)), some (.ref p), some (.ref r), some (.ref t), v4, v5, v6, v7] ∧ Same H H' ∧ H' r = some (.lst (strsV P)) ∧ H' t = some (.lst vals) ∧ vals.length ≤ j + 1 ∧ ThV H H' ts vals ∧ (∀ a, V.ref a ∈ vals → a ≠ t) ∧ fits P words = (fits (P.drop (j + 1)) (words.drop (j + 1))).map (ts ++ ·), rt := Q } [some (.str (txt fm)), some (.ref p), some (.ref r), some (.ref t), some (.str (txt sl)), some (.str (txt wd)), some (.ref (c.rdr i)), some v] H3
      · obtain ⟨sp, hs, h⟩ := key
        refine ⟨sp, rfl, (S_reader_at T hi).trans hs, _, rfl, ?_⟩
        exact h
      · unfold told1
        cases hrd : rd wd with
        | none =>
          rw [hrd] at hfit
          intro H3 sm3
          refine ⟨_, rfl, _, rfl, if_true_of rfl ?_⟩
          exact fail hfit _ (fun b o h => sm3 b o (sm02 b o h))
        | some th =>
          rw [hrd] at hfit
          intro H3 v sm3 tv3
          refine ⟨_, rfl, _, rfl, if_false_of (by simp; exact thv_non tv3) ?_⟩
          have ht3 : H3 t = some (.lst vals) := sm3 _ _ (sm2 _ _ ht)
          refine ⟨_, rfl, ty_list ht3, _, rfl, _, _, _, rfl, rfl, ht3, len_lt (m := 100) (by omega) (by decide), ?_⟩
          refine ⟨vals ++ [v], ts ++ [th], _, _, _, _, rfl, fun b o h => ?_, ?_, upd_same, by rw [List.length_append]; simp; omega, ?_, ?_, ?_⟩
          · rw [upd_ne (ne_of_none h nHt)]; exact sm3 b o (sm02 b o h)
          · rw [upd_ne rt]; exact sm3 _ _ (sm2 _ _ hr)
          · have hv : ∀ a, V.ref a ∈ vals ++ [v] → a ≠ t := by
              intro a ha z
              rcases List.mem_append.mp ha with ha | ha
              · exact hne' a ha z
              · have ev : v = .ref a := (List.mem_singleton.mp ha).symm
                subst ev; subst z
                have := thv_ref tv3
                rw [sm2 _ _ ht] at this; cases this
            have tvA := thv_mono (H' := upd H3 t (.lst (vals ++ [v]))) tv (fun a o ha h => by rw [upd_ne (hne' a ha)]; exact sm3 _ _ (sm2 _ _ h))
            have tvB := thv_mono (H' := upd H3 t (.lst (vals ++ [v]))) (thv_weak tv3 sm02) (fun a o ha h => by rw [upd_ne (hv a (List.mem_append_right _ ha))]; exact h)
            exact thv_snoc tvA tvB
          · intro a ha z
            rcases List.mem_append.mp ha with ha | ha
            · exact hne' a ha z
            · have ev : v = .ref a := (List.mem_singleton.mp ha).symm
              subst ev; subst z
              have := thv_ref tv3
              rw [sm2 _ _ ht] at this; cases this
          · rw [hfit]
            show ((fits _ _).map (th :: ·)).map (ts ++ ·) = _
            rw [Option.map_map]
            congr 1
            funext l
            simp
  · rintro σ H' ⟨vals, ts, v4, v5, v6, v7, rfl, sm, hr, ht, hvl, tv, hne', hfit⟩
    refine ⟨_, rfl, ?_⟩
    have e1 : P.drop P.length = [] := List.drop_length ..
    have e2 : words.drop P.length = [] := by rw [hne]; exact List.drop_length ..
    rw [e1, e2] at hfit
    have hfit : fits P words = some (ts ++ []) := hfit
    rw [List.append_nil] at hfit
    exact good ts hfit H' t vals sm nHt ht tv hne'
end
end Kr

set_option Elab.async false
set_option linter.all false
set_option maxRecDepth 100000
set_option maxHeartbeats 2000000
namespace Kr
open PySem PySem.Spec PyProof.Rows L2
/-! ### what answers a text -/
abbrev Rl := Kp01.Cmd → List V → Hp → Prop
def cmdRels : List Rl := [rel1 .person, rel2 .consent, rel2 .withdraw, rel1 .object, rel1 .ended, rel1 .forget, relG .law, relG .need, relGF, rel1 .void, relRoll, rel1 fun n => .store (.other n true), rel1 fun n => .hears n false, rel1 fun n => .hears n true, rel2 .put, relMake, relCopy, relI 99 .use, relHold, rel1 .free, rel1 .back, relI 400 .tick, rel1 .tell, relI 99 .why, relI 99 .till, relI 99 .proof, relI 400 .due, fun cmd vals _ => cmd = .asks ∧ vals = []]
def cmdSp (c : Cs) (i : Nat) : Option Sp := (cmdRels[i]?).map fun rel => sp2 (cmdPr c rel)
def S_command (c : Cs) : Addr → Option Sp := fun f => ((List.range 28).find? fun i => c.cmd i = f).bind (cmdSp c)
theorem fit_all {i : Nat} {x : String} {rel : Rl} (hx : formTexts[i]? = some x) (hr : cmdRels[i]? = some rel) {words : List Bytes} {ths : List Th} (h : fits (Kp01.parted 32 (Kp01.ascii x)) words = some ths) : ∃ cmd, Kp01.cmd? words = some cmd ∧ ∀ H0 F vals, ThV H0 F ths vals → rel cmd vals F := by
  match i, hx, hr with
  | 0, hx, hr => cases hx; cases hr; exact fit_0 h
  | 1, hx, hr => cases hx; cases hr; exact fit_1 h
  | 2, hx, hr => cases hx; cases hr; exact fit_2 h
  | 3, hx, hr => cases hx; cases hr; exact fit_3 h
  | 4, hx, hr => cases hx; cases hr; exact fit_4 h
  | 5, hx, hr => cases hx; cases hr; exact fit_5 h
  | 6, hx, hr => cases hx; cases hr; exact fit_6 h
  | 7, hx, hr => cases hx; cases hr; exact fit_7 h
  | 8, hx, hr => cases hx; cases hr; exact fit_8 h
  | 9, hx, hr => cases hx; cases hr; exact fit_9 h
  | 10, hx, hr => cases hx; cases hr; exact fit_10 h
  | 11, hx, hr => cases hx; cases hr; exact fit_11 h
  | 12, hx, hr => cases hx; cases hr; exact fit_12 h
  | 13, hx, hr => cases hx; cases hr; exact fit_13 h
  | 14, hx, hr => cases hx; cases hr; exact fit_14 h
  | 15, hx, hr => cases hx; cases hr; exact fit_15 h
  | 16, hx, hr => cases hx; cases hr; exact fit_16 h
  | 17, hx, hr => cases hx; cases hr; exact fit_17 h
  | 18, hx, hr => cases hx; cases hr; exact fit_18 h
  | 19, hx, hr => cases hx; cases hr; exact fit_19 h
  | 20, hx, hr => cases hx; cases hr; exact fit_20 h
  | 21, hx, hr => cases hx; cases hr; exact fit_21 h
  | 22, hx, hr => cases hx; cases hr; exact fit_22 h
  | 23, hx, hr => cases hx; cases hr; exact fit_23 h
  | 24, hx, hr => cases hx; cases hr; exact fit_24 h
  | 25, hx, hr => cases hx; cases hr; exact fit_25 h
  | 26, hx, hr => cases hx; cases hr; exact fit_26 h
  | 27, hx, hr => cases hx; cases hr; exact fit_27 h
  | n + 28, hx, hr => exact absurd hx (by simp [formTexts])
section
variable {K : PySem.W.Frag} {w : World} {mg : Str → Option Value} {c : Cs}
theorem S_command_at (T : TopTxt K w mg c) {i : Nat} (hi : i < 28) : S_command c (c.cmd i) = cmdSp c i := by
  unfold S_command
  have e : ((List.range 28).find? fun j => c.cmd j = c.cmd i) = some i := by
    cases h : (List.range 28).find? fun j => decide (c.cmd j = c.cmd i) with
    | none =>
      rw [List.find?_eq_none] at h
      exact absurd (by simp) (h i (List.mem_range.mpr hi))
    | some j =>
      have h1 := List.find?_some h
      have h2 := List.mem_range.mp (List.mem_of_find?_eq_some h)
      rw [T.n_cmd j i h2 hi (by simpa using h1)]
  rw [e]; rfl
theorem S_command_of {f : Addr} {sp : Sp} (h : S_command c f = some sp) : ∃ i, i < 28 ∧ c.cmd i = f ∧ cmdSp c i = some sp := by
  unfold S_command at h
  cases e : (List.range 28).find? fun i => decide (c.cmd i = f) with
  | none => rw [e] at h; cases h
  | some i =>
    rw [e] at h
    exact ⟨i, List.mem_range.mp (List.mem_of_find?_eq_some e), by simpa using List.find?_some e, h⟩
/-- all that is new stands apart -/
def grow (H F H' : Hp) : Hp := fun b => match H b with
  | none => H' b
  | some _ => F b
theorem grow_new {H F H' : Hp} {b : Addr} (h : H b = none) : grow H F H' b = H' b := by unfold grow; rw [h]
theorem grow_old {H F H' : Hp} {b : Addr} {o : HO} (h : H b = some o) : grow H F H' b = F b := by unfold grow; rw [h]
theorem Rep.grown {X : List Tag} {F H H' : Hp} {s : Kp01.House} {L : Tag → Addr} (R : Rep c X F s L H) (e : Same H H') : Rep c X (Kr.grow H F H') s L H' := by
  have R' := R.same e
  refine ⟨R'.at_, R'.live, R'.inj, fun b o h => ?_, fun t ht => ?_⟩
  · cases hb : H b with
    | none => rw [grow_new hb] at h; exact h
    | some u => rw [grow_old hb] at h; exact R'.keep b o h
  · obtain ⟨o, ho⟩ := R.live t ht
    rw [grow_old ho]; exact R.out t ht
theorem grow_keep {X : List Tag} {F H H' : Hp} {s : Kp01.House} {L : Tag → Addr} (R : Rep c X F s L H) : ∀ b o, F b = some o → grow H F H' b = some o := fun b o h => by rw [grow_old (R.keep b o h)]; exact h
theorem thv_grow {H F H' : Hp} {ts : List Th} {vs : List V} (h : ThV H H' ts vs) : ThV H (grow H F H') ts vs := by
  induction h with
  | nil => exact .nil
  | s r ih => exact .s ih
  | n r ih => exact .n ih
  | l h0 h r ih => exact .l h0 (by rw [grow_new h0]; exact h) ih
theorem form_len : ∀ x ∈ formTexts, (Kp01.ascii x).length ≤ 60 := by decide +kernel
theorem kv_at {c : Cs} {i : Nat} (hi : i < 28) : ∃ x rel, formTexts[i]? = some x ∧ cmdRels[i]? = some rel ∧ (cmdKV c)[i]? = some (.inr (Str.ofString x), .ref (c.cmd i)) := by
  have h1 : formTexts.length = 28 := rfl
  have h2 : cmdRels.length = 28 := rfl
  refine ⟨formTexts[i], cmdRels[i], List.getElem?_eq_getElem (by omega), List.getElem?_eq_getElem (by omega), ?_⟩
  unfold cmdKV
  rw [List.getElem?_map, List.getElem?_zipIdx, List.getElem?_eq_getElem (by omega)]
  simp
  rfl
theorem pure_answer_to (T : TopTxt K w mg c) : ∀ a b H Q, pr_answer_to c a b H Q → t_answer_to K c (S_command c) (D0 Q) (start ["house", "words", "form", "command", "things"] [a, b]) H := by
  rintro _ _ H Q ⟨F, s, L, p, words, rfl, rfl, R, g, hp, hl, hw, q⟩
  intro d H1 nd sm hd
  refine ⟨d, _, rfl, hd, trivial, fun od => ?_⟩
  have Fd : F d = none := by
    cases e : F d with
    | none => rfl
    | some o => rw [R.keep d o e] at nd; cases nd
  have dead : ∀ t, (cell c L s t).isSome = true → L t ≠ d := R.free nd
  have R1 : Rep c [] (upd F d (.dK (cmdKV c))) s L H1 := (R.same sm).more hd dead
  have R2 := R1.apart (o := .frz od (.dK (cmdKV c))) upd_same
  rw [upd_upd] at R2
  have fsub : ∀ b o, F b = some o → upd F d (.frz od (.dK (cmdKV c))) b = some o := fun b o h => by rw [upd_ne (fun z => by rw [z, Fd] at h; cases h)]; exact h
  have klen : (cmdKV c).length = 28 := rfl
  refine ⟨d, od, cmdKV c, rfl, upd_same, ?_⟩
  refine for_it walk_items (fun j σ H' => Rep c [] (upd F d (.frz od (.dK (cmdKV c)))) s L H' ∧ (∃ v2 v3 v4, σ = [some (.ref (L .house)), some (.ref p), v2, v3, v4]) ∧ ∀ i x, i < j → formTexts[i]? = some x → fits (Kp01.parted 32 (Kp01.ascii x)) words = none)
    ⟨R2, ⟨none, none, none, rfl⟩, fun i x hi => by omega⟩ (fun j σ H' _ h => h.1.keep _ _ upd_same) ?_ ?_
  · rintro j v σ H2 H3 hj ⟨R3, ⟨v2, v3, v4, rfl⟩, N⟩ ⟨t, x1, x2, rfl, nt, rfl, hx1, hx2⟩
    rw [klen] at hj
    obtain ⟨x, rel, ex, er, ekv⟩ := kv_at (c := c) hj
    dsimp only at hx1 hx2
    rw [ekv] at hx1 hx2
    have hx1 : V.str (Str.ofString x) = x1 := Option.some.inj hx1
    have hx2 : V.ref (c.cmd j) = x2 := Option.some.inj hx2
    subst hx1; subst hx2
    have sm3 := same_new (o := .tup [.str (Str.ofString x), .ref (c.cmd j)]) nt
    have R4 := R3.same sm3
    have hp4 := R4.keep _ _ (fsub _ _ hp)
    refine ⟨t, _, rfl, .inl (.inl upd_same), rfl, _, _, rfl, _, _, rfl, rfl, ?_⟩
    refine ⟨_, rfl, _, rfl, Kp01.ascii x, p, words, by rw [txt_ascii], rfl, form_len x (List.mem_of_getElem? ex), hp4, hl, hw, ?_⟩
    cases ef : fits (Kp01.parted 32 (Kp01.ascii x)) words with
    | none =>
      intro H5 sm5
      refine ⟨_, rfl, _, rfl, if_false_of rfl ?_⟩
      refine ⟨R4.same sm5, ⟨_, _, _, rfl⟩, fun i y hi ey => ?_⟩
      rcases Nat.lt_succ_iff_lt_or_eq.mp hi with h | h
      · exact N i y h ey
      · subst h; rw [ex] at ey; cases ey; exact ef
    | some ts =>
      intro H5 b vals sm5 nb hb tv hv
      refine ⟨_, rfl, _, rfl, if_true_of rfl ?_⟩
      obtain ⟨cmd, hc, hrel⟩ := fit_all ex er ef
      refine ⟨c.cmd j, sp2 (cmdPr c rel), rfl, by rw [S_command_at T hj]; unfold cmdSp; rw [er]; rfl, _, rfl, _, rfl, ?_⟩
      refine ⟨_, s, L, b, vals, cmd, rfl, rfl, R4.grown sm5, g, by rw [grow_new nb]; exact hb, hrel _ _ _ (thv_grow tv), fun H6 L6 R6 hL => ?_⟩
      rw [hc] at q
      exact q H6 L6 (R6.less fun b o h => grow_keep R4 b o (fsub b o h)) hL
  · rintro σ H' ⟨R3, ⟨v2, v3, v4, rfl⟩, N⟩
    have hn : Kp01.cmd? words = none := no_form fun x hx => by
      obtain ⟨i, hi⟩ := List.getElem?_of_mem hx
      exact N i x (by rw [klen]; exact (List.getElem?_eq_some_iff.mp hi).1) hi
    rw [hn] at q
    have z := q H' L (R3.less fsub) rfl
    rw [no_txt (w := "form") (x := "no form") rfl] at z
    exact z
end
end Kr

set_option Elab.async false
set_option linter.all false
set_option maxRecDepth 100000
set_option maxHeartbeats 2000000
namespace Kr
open PySem PySem.Spec PyProof.Rows L2
/-! ### signs that stand in no form -/
def inSigns (b : Bytes) : Prop := ∀ x ∈ b, x ∈ signs
instance (b : Bytes) : Decidable (inSigns b) := inferInstanceAs (Decidable (∀ x ∈ b, x ∈ signs))
theorem small_sign {x : Nat} (h : Kp01.small x = true) : x ∈ signs := by
  have h : (decide (97 ≤ x) && decide (x ≤ 122)) = true := h
  rw [Bool.and_eq_true, decide_eq_true_eq, decide_eq_true_eq] at h
  have key : ∀ y : Fin 123, 97 ≤ y.val → y.val ∈ signs := by decide
  exact key ⟨x, by omega⟩ h.1
theorem digit_sign {x : Nat} (h : Kp01.digit x = true) : x ∈ signs := by
  have h : (decide (48 ≤ x) && decide (x ≤ 57)) = true := h
  rw [Bool.and_eq_true, decide_eq_true_eq, decide_eq_true_eq] at h
  have key : ∀ y : Fin 58, 48 ≤ y.val → y.val ∈ signs := by decide
  exact key ⟨x, by omega⟩ h.1
theorem name_signs {b : Bytes} (h : Kp01.isName b = true) : inSigns b := by
  have h : (decide (1 ≤ b.length) && (decide (b.length ≤ 8) && (b.all Kp01.small && (b != Kp01.ascii "any" && b != Kp01.ascii "main")))) = true := h
  simp only [Bool.and_eq_true, List.all_eq_true] at h
  exact fun x hx => small_sign (h.2.2.1 x hx)
theorem num_signs {lo hi n : Nat} {b : Bytes} (h : Kp01.num? lo hi b = some n) : inSigns b := by
  unfold Kp01.num? at h
  split at h
  · cases h
  · next z =>
    have z1 : ¬ b.all Kp01.digit = false := fun y => z (.inr (.inr (.inl y)))
    rw [Bool.not_eq_false, List.all_eq_true] at z1
    exact fun x hx => digit_sign (z1 x hx)
theorem parted_of {y : Nat} : ∀ {l : Bytes} {x : Nat}, x ∈ l → x = y ∨ ∃ p ∈ Kp01.parted y l, x ∈ p
  | [], _, h => by cases h
  | z :: l, x, h => by
    unfold Kp01.parted
    by_cases e : z = y
    · rw [if_pos e]
      rcases List.mem_cons.mp h with h | h
      · exact .inl (h.trans e)
      · rcases parted_of h with h | ⟨p, hp, hx⟩
        · exact .inl h
        · exact .inr ⟨p, List.mem_cons_of_mem _ hp, hx⟩
    · rw [if_neg e]
      cases hq : Kp01.parted y l with
      | nil => exact absurd hq (parted_ne y l)
      | cons w r =>
        rcases List.mem_cons.mp h with h | h
        · exact .inr ⟨z :: w, List.mem_cons_self .., by rw [h]; exact List.mem_cons_self ..⟩
        · rcases parted_of (y := y) h with h | ⟨p, hp, hx⟩
          · exact .inl h
          · rw [hq] at hp
            rcases List.mem_cons.mp hp with hp | hp
            · exact .inr ⟨z :: w, List.mem_cons_self .., by rw [hp] at hx; exact List.mem_cons_of_mem _ hx⟩
            · exact .inr ⟨p, List.mem_cons_of_mem _ hp, hx⟩
theorem many_signs : ∀ {ps : List Bytes} {l : List Nat}, Kp01.many? ps = some l → ∀ p ∈ ps, inSigns p
  | [], _, _, p, hp => by cases hp
  | q :: ps, l, h, p, hp => by
    unfold Kp01.many? at h
    cases e1 : Kp01.num? 0 99 q with
    | none => rw [e1] at h; cases h
    | some n =>
      cases e2 : Kp01.many? ps with
      | none => rw [e1, e2] at h; cases h
      | some m =>
        rcases List.mem_cons.mp hp with h | h
        · rw [h]; exact num_signs e1
        · exact many_signs e2 p h
theorem recs_signs {b : Bytes} {l : List Nat} (h : Kp01.records? b = some l) : inSigns b := by
  unfold Kp01.records? at h
  cases e : Kp01.many? (Kp01.parted 44 b) with
  | none => rw [e] at h; cases h
  | some m =>
    intro x hx
    rcases parted_of (y := 44) hx with h | ⟨p, hp, hx⟩
    · rw [h]; decide
    · exact many_signs e p hp x hx
theorem event_signs {b : Bytes} {e : Kp01.Event} (h : Kp01.event? b = some e) : inSigns b := by
  unfold Kp01.event? at h
  split at h
  · next z => rw [z]; decide +kernel
  · split at h
    · next z => rw [z]; decide +kernel
    · split at h
      · next z => rw [z]; decide +kernel
      · cases h
theorem rd_signs {x b : Bytes} {rd : Bytes → Option Th} {t : Th} (hx : readerOf x = some rd) (h : rd b = some t) : inSigns b := by
  have nm : rdName b = some t → inSigns b := fun h => name_signs (rdName_of h).1
  have num : ∀ lo hi, rdNum lo hi b = some t → inSigns b := fun lo hi h => let ⟨_, e, _⟩ := rdNum_of h; num_signs e
  rcases rdr_of x with ⟨e1, _⟩ | ⟨i, rd', hi, e3, e1, _⟩
  · rw [e1] at hx; cases hx
  · rw [hx] at e1
    cases e1
    match i, e3 with
    | 0, e3 => cases e3; exact nm h
    | 1, e3 =>
      cases e3
      rcases (rdAny_of h).1 with z | z
      · rw [z]; decide +kernel
      · exact name_signs z.1
    | 2, e3 => cases e3; exact let ⟨_, e, _⟩ := rdEvent_of h; event_signs e
    | 3, e3 => cases e3; exact num _ _ h
    | 4, e3 => cases e3; exact num _ _ h
    | 5, e3 => cases e3; exact num _ _ h
    | 6, e3 => cases e3; exact let ⟨_, e, _⟩ := rdRecs_of h; recs_signs e
    | n + 7, e3 => exact absurd hi (by omega)
def slotWords : List Bytes := ["NAME", "NAME-OR-ANY", "EVENT", "SPAN", "DAYS", "RECORD", "RECORDS"].map Kp01.ascii
theorem slot_reader : ∀ x ∈ slotWords, (readerOf x).isSome = true := by
  intro x hx
  unfold slotWords at hx
  simp only [List.map_cons, List.map_nil, List.mem_cons, List.not_mem_nil, or_false] at hx
  rcases hx with rfl | rfl | rfl | rfl | rfl | rfl | rfl
  · rw [r_NAME]; rfl
  · rw [r_NAME_OR_ANY]; rfl
  · rw [r_EVENT]; rfl
  · rw [r_SPAN]; rfl
  · rw [r_DAYS]; rfl
  · rw [r_RECORD]; rfl
  · rw [r_RECORDS]; rfl
theorem form_words : ∀ x ∈ formTexts, ∀ y ∈ Kp01.parted 32 (Kp01.ascii x), y ∈ slotWords ∨ inSigns y := by decide +kernel
theorem fits_signs : ∀ {xs ws : List Bytes} {ts : List Th}, (∀ y ∈ xs, y ∈ slotWords ∨ inSigns y) → fits xs ws = some ts → ∀ b ∈ ws, inSigns b
  | [], [], _, _, _, b, hb => by cases hb
  | [], _ :: _, _, _, h, _, _ => by cases h
  | _ :: _, [], _, _, h, _, _ => by cases h
  | x :: xs, w :: ws, ts, hx, h, b, hb => by
    have hx' : ∀ y ∈ xs, y ∈ slotWords ∨ inSigns y := fun y hy => hx y (List.mem_cons_of_mem _ hy)
    cases e : readerOf x with
    | none =>
      obtain ⟨rfl, h'⟩ := fits_lit e h
      rcases List.mem_cons.mp hb with hb | hb
      · subst hb
        rcases hx b (List.mem_cons_self ..) with z | z
        · have := slot_reader b z; rw [e] at this; cases this
        · exact z
      · exact fits_signs hx' h' b hb
    | some rd =>
      obtain ⟨t, ts', _, hw, h'⟩ := fits_rd e h
      rcases List.mem_cons.mp hb with hb | hb
      · rw [hb]; exact rd_signs e hw
      · exact fits_signs hx' h' b hb
theorem cmd_signs {ws : List Bytes} {cmd : Kp01.Cmd} (h : Kp01.cmd? ws = some cmd) : ∀ b ∈ ws, inSigns b := by
  rcases cmd_view ws with e | ⟨x, hx, ts, cmd', hf, _⟩
  · rw [e] at h; cases h
  · exact fits_signs (form_words x hx) hf
theorem signOf_in {x : Nat} (h : x ∈ signs) : signOf x = x := by unfold signOf; rw [if_pos h]
theorem signOf_out {x : Nat} (h : x ∉ signs) : signOf x = 63 := by unfold signOf; rw [if_neg h]
theorem signOf_32 (x : Nat) : signOf x = 32 ↔ x = 32 := by
  constructor
  · intro h
    by_cases z : x ∈ signs
    · rw [signOf_in z] at h; exact h
    · rw [signOf_out z] at h; omega
  · intro h; rw [h]; decide
theorem parted_signs : ∀ l : Bytes, Kp01.parted 32 (l.map signOf) = (Kp01.parted 32 l).map fun b => b.map signOf
  | [] => rfl
  | x :: l => by
    rw [List.map_cons]
    unfold Kp01.parted
    rw [parted_signs l]
    by_cases h : x = 32
    · rw [if_pos h, if_pos ((signOf_32 x).mpr h)]; rfl
    · rw [if_neg h, if_neg (fun z => h ((signOf_32 x).mp z))]
      cases e : Kp01.parted 32 l with
      | nil => exact absurd e (parted_ne 32 l)
      | cons w r => rfl
theorem map_signs {b : Bytes} (h : inSigns b) : b.map signOf = b := by
  exact (List.map_congr_left (g := id) fun x hx => signOf_in (h x hx)).trans (List.map_id _)
theorem mapped_in {b : Bytes} (h : inSigns (b.map signOf)) : inSigns b := by
  intro x hx
  by_cases z : x ∈ signs
  · exact z
  · have := h (signOf x) (List.mem_map_of_mem hx)
    rw [signOf_out z] at this
    exact absurd this (by decide)
theorem cmd_signOf (l : Bytes) : Kp01.cmd? (Kp01.parted 32 (l.map signOf)) = Kp01.cmd? (Kp01.parted 32 l) := by
  rw [parted_signs]
  by_cases h : ∀ b ∈ Kp01.parted 32 l, inSigns b
  · have e : ((Kp01.parted 32 l).map fun b => b.map signOf) = Kp01.parted 32 l := by
      exact (List.map_congr_left (g := id) fun b hb => map_signs (h b hb)).trans (List.map_id _)
    rw [e]
  · have e1 : Kp01.cmd? (Kp01.parted 32 l) = none := by
      cases e : Kp01.cmd? (Kp01.parted 32 l) with
      | none => rfl
      | some cmd => exact absurd (cmd_signs e) h
    rw [e1]
    cases e : Kp01.cmd? ((Kp01.parted 32 l).map fun b => b.map signOf) with
    | none => rfl
    | some cmd => exact absurd (fun b hb => mapped_in (cmd_signs e _ (List.mem_map_of_mem hb))) h
theorem signOf_clean (l : Bytes) : clean (l.map signOf) := by
  intro x hx
  obtain ⟨y, _, rfl⟩ := List.mem_map.mp hx
  by_cases z : y ∈ signs
  · rw [signOf_in z]; exact .inl z
  · rw [signOf_out z]; exact .inr rfl
/-! ### say -/
theorem text_nats {zs : List Int} (h : isTextB zs = true) : zs.length ≤ 80 ∧ intsV zs = natsV (zs.map Int.toNat) := by
  unfold isTextB at h
  rw [Bool.and_eq_true, decide_eq_true_eq, List.all_eq_true] at h
  refine ⟨h.1, ?_⟩
  unfold intsV natsV
  rw [List.map_map]
  refine List.map_congr_left fun z hz => ?_
  have := h.2 z hz
  rw [Bool.and_eq_true, decide_eq_true_eq, decide_eq_true_eq] at this
  show V.int z = V.int ((z.toNat : Nat) : Int)
  congr 1
  omega
theorem said_of (s : Kp01.House) {zs : List Int} (h : isTextB zs = true) : saidOf s zs = ((Kp01.said s (zs.map Int.toNat)).1, ((Kp01.said s (zs.map Int.toNat)).2.length : Int) :: (Kp01.said s (zs.map Int.toNat)).2.map fun (x : Nat) => (x : Int)) := by
  unfold saidOf; rw [if_pos h]
theorem said_not (s : Kp01.House) {zs : List Int} (h : isTextB zs = false) : saidOf s zs = (s, [-1]) := by
  unfold saidOf; rw [if_neg (by rw [h]; exact Bool.false_ne_true)]
section
variable {K : PySem.W.Frag} {w : World} {mg : Str → Option Value} {c : Cs}
theorem pure_say (T : TopTxt K w mg c) : ∀ a b H Q, pr_say c a b H Q → t_say K c (D0 Q) (start ["house", "codes", "told"] [a, b]) H := by
  rintro _ _ H Q ⟨F, s, L, a, zs, rfl, rfl, R, g, fa, hlen, q⟩
  have ha := R.keep _ _ fa
  refine ⟨_, rfl, a, zs, rfl, SqL.of ha, _, rfl, ?_⟩
  cases ht : isTextB zs with
  | false =>
    rw [said_not s ht] at q
    refine if_true_of rfl ?_
    refine ⟨_, rfl, by show 1 ≤ sizeLine; decide, fun p np => ?_⟩
    have Fp : F p = none := by
      cases e : F p with
      | none => rfl
      | some o => rw [R.keep p o e] at np; cases np
    exact q _ L p (R.new np) Fp rfl
  | true =>
    rw [said_of s ht] at q hlen
    obtain ⟨l80, en⟩ := text_nats ht
    refine if_false_of rfl ?_
    rw [en] at ha
    refine ⟨_, rfl, _, rfl, a, zs.map Int.toNat, rfl, SqL.of ha, by rw [List.length_map]; exact l80, fun H1 p1 sm1 np1 hp1 => ?_⟩
    obtain ⟨B, hB⟩ : ∃ B, B = (zs.map Int.toNat).map signOf := ⟨_, rfl⟩
    have blen : B.length ≤ 80 := by rw [hB, List.length_map, List.length_map]; exact l80
    have hcmd : Kp01.cmd? (Kp01.parted 32 B) = Kp01.cmd? (Kp01.parted 32 (zs.map Int.toNat)) := by rw [hB]; exact cmd_signOf _
    rw [← hB] at hp1
    have F1 : F p1 = none := by
      cases e : F p1 with
      | none => rfl
      | some o => rw [R.keep p1 o e] at np1; cases np1
    have R1 := (R.same sm1).more hp1 (R.free np1)
    refine ⟨_, s, L, p1, Kp01.parted 32 B, rfl, rfl, R1, g, upd_same, by have := parted_count 32 B; omega, fun wd hwd => ⟨Nat.le_trans (parted_len hwd) blen, fun x hx => ?_⟩, fun H2 L2 R2 hL2 => ?_⟩
    · exact (hB ▸ signOf_clean (zs.map Int.toNat)) x (parted_mem hwd hx)
    rw [hcmd] at R2
    have R2 : Rep c [] (upd F p1 (.lst (strsV (Kp01.parted 32 B)))) (Kp01.said s (zs.map Int.toNat)).1 L2 H2 := by
      unfold Kp01.said
      cases e : Kp01.cmd? (Kp01.parted 32 (zs.map Int.toNat)) with
      | none => rw [e] at R2; exact R2
      | some cmd => rw [e] at R2; exact R2
    obtain ⟨A, hA⟩ : ∃ A, A = (Kp01.said s (zs.map Int.toNat)).2 := ⟨_, rfl⟩
    rw [← hA] at q hlen
    have hlen : A.length + 1 ≤ 1000000 := by simpa using hlen
    refine ⟨A, by rw [hA, hcmd]; unfold Kp01.said; cases Kp01.cmd? (Kp01.parted 32 (zs.map Int.toNat)) <;> rfl, by omega, fun H3 p3 sm3 np3 hp3 => ?_⟩
    refine ⟨_, rfl, p3, natsV A, rfl, .inl (SqL.of hp3), by show 1 ≤ sizeLine; decide, fun p4 np4 => ?_⟩
    have p34 : p3 ≠ p4 := ne_of_none hp3 np4
    refine ⟨_, rfl, p4, p3, _, _, rfl, rfl, upd_same, by rw [upd_ne p34]; exact hp3, ?_, fun p5 np5 => ?_⟩
    · show 1 + (natsV A).length ≤ sizeLine
      unfold natsV
      rw [List.length_map]
      exact Nat.le_trans (show 1 + A.length ≤ 1000000 by omega) (by decide)
    have R3 := (R2.same sm3).same (same_new (o := .lst [V.int ((natsV A).length : Nat)]) np4)
    have R5 := R3.new (o := .lst (intsV ((A.length : Int) :: A.map fun (x : Nat) => (x : Int)))) np5
    have ev : intsV ((A.length : Int) :: A.map fun (x : Nat) => (x : Int)) = [V.int ((natsV A).length : Nat)] ++ natsV A := by
      unfold intsV natsV
      rw [List.map_cons, List.map_map, List.length_map]
      rfl
    have F5 : F p5 = none := by
      cases e : F p5 with
      | none => rfl
      | some o =>
        have z := R3.keep p5 o (by rw [upd_ne (fun z => by rw [z, F1] at e; cases e)]; exact e)
        rw [z] at np5; cases np5
    refine q _ L2 p5 (?_ : Rep c [] _ _ L2 (upd _ p5 (.lst ([V.int ((natsV A).length : Nat)] ++ natsV A)))) F5 hL2
    rw [← ev]
    refine R5.less fun b o h => ?_
    by_cases z : b = p5
    · subst z; rw [upd_same] at h ⊢; exact h
    · rw [upd_ne z] at h ⊢
      rw [upd_ne (fun y => by rw [y, F1] at h; cases h)]; exact h
end
end Kr

set_option Elab.async false
set_option linter.all false
set_option maxRecDepth 100000
set_option maxHeartbeats 2000000
namespace Kr
open PySem PySem.Spec PyProof.Rows L2
/-! ### calls, one behind another -/
theorem rows_len : ∀ {k : Nat} {l : List Int} {xs : List (List Int)} {t : List Int}, PyFlat.rows k l = some (xs, t) → xs.length = k ∧ (k = 0 → t = l)
  | 0, l, xs, t, h => by cases h; exact ⟨rfl, fun _ => rfl⟩
  | k + 1, l, xs, t, h => by
    unfold PyFlat.rows at h
    cases e : PyFlat.row l with
    | none => rw [e] at h; cases h
    | some y =>
      obtain ⟨x, s⟩ := y
      rw [e] at h
      have h : (match PyFlat.rows k s with | none => none | some (xs, t) => some (x :: xs, t)) = some (xs, t) := h
      cases e2 : PyFlat.rows k s with
      | none => rw [e2] at h; cases h
      | some z =>
        obtain ⟨ys, u⟩ := z
        rw [e2] at h
        cases h
        exact ⟨by rw [List.length_cons, (rows_len e2).1], fun z => by omega⟩
theorem fits_one {p : Int} {xs : List Int} {rows : List (List Int)} (h : PyKp01.fits ((p :: xs) :: rows) = true) : p = 1 ∧ rows = [] := by
  unfold PyKp01.fits PyKp01.form at h
  dsimp only at h
  by_cases e : p = 1
  · refine ⟨e, ?_⟩
    rw [if_pos e] at h
    simp only [Bool.and_eq_true, decide_eq_true_eq] at h
    have z := h.1.1.2
    simp only [List.drop_zero, List.length_nil, Nat.sub_zero, List.take_length] at z
    exact List.eq_nil_of_length_eq_zero (Nat.le_zero.mp z)
  · rw [if_neg e] at h; cases h
theorem call_form {f : Nat} {rest : List Int} {cs : List (List (List Int))} (h : PyWide.calls f rest = some cs) (hr : rest ≠ []) (hf : cs.all PyKp01.fits = true) :
    ∃ (xs : List Int) (t : List Int) (cs' : List (List (List Int))) (f' : Nat), rest = 1 :: (xs.length : Int) :: (xs ++ 0 :: t) ∧ cs = [1 :: xs] :: cs' ∧ PyWide.calls f' t = some cs' := by
  cases rest with
  | nil => exact absurd rfl hr
  | cons p r =>
    cases f with
    | zero => cases h
    | succ f =>
      unfold PyWide.calls at h
      cases e : PyWide.call (p :: r) with
      | none => rw [e] at h; cases h
      | some y =>
        obtain ⟨cl, t⟩ := y
        rw [e] at h
        have h : (match PyWide.calls f t with | none => none | some cs => some (cl :: cs)) = some cs := h
        cases e2 : PyWide.calls f t with
        | none => rw [e2] at h; cases h
        | some cs' =>
          rw [e2] at h
          cases h
          rw [List.all_cons, Bool.and_eq_true] at hf
          unfold PyWide.call at e
          dsimp only at e
          cases e3 : PyFlat.row r with
          | none => rw [e3] at e; cases e
          | some y =>
            obtain ⟨ns, u⟩ := y
            rw [e3] at e
            cases u with
            | nil => cases e
            | cons k u =>
              have e : (if 0 ≤ k then (match PyFlat.rows k.toNat u with | none => none | some (xs, u) => some ((p :: ns) :: xs, u)) else none) = some (cl, t) := e
              by_cases hk : 0 ≤ k
              · rw [if_pos hk] at e
                cases e4 : PyFlat.rows k.toNat u with
                | none => rw [e4] at e; cases e
                | some y =>
                  obtain ⟨xs, v⟩ := y
                  rw [e4] at e
                  cases e
                  obtain ⟨rfl, rfl⟩ := fits_one hf.1
                  obtain ⟨z1, z2⟩ := rows_len e4
                  have k0 : k = 0 := by have : k.toNat = 0 := by rw [← z1]; rfl
                                        omega
                  subst k0
                  have hv : t = u := z2 rfl
                  subst hv
                  cases r with
                  | nil => cases e3
                  | cons n r =>
                    unfold PyFlat.row at e3
                    dsimp only at e3
                    by_cases hn : 0 ≤ n ∧ n.toNat ≤ r.length
                    · rw [if_pos hn] at e3
                      have e3 := Option.some.inj e3
                      have a1 : r.take n.toNat = ns := congrArg Prod.fst e3
                      have a2 : r.drop n.toNat = 0 :: t := congrArg Prod.snd e3
                      refine ⟨ns, t, cs', f, ?_, rfl, e2⟩
                      have nl : ns.length = n.toNat := by rw [← a1, List.length_take]; omega
                      have nn : (ns.length : Int) = n := by omega
                      rw [nn, ← a2, ← a1, List.take_append_drop]
                    · rw [if_neg hn] at e3; cases e3
              · rw [if_neg hk] at e; cases e
theorem step_said (s : Kp01.House) (xs : List Int) : Kp01Neutral.step s [1 :: xs] = saidOf s xs := by
  show ((Kp01.step s (.say xs)).1, (Kp01.step s (.say xs)).2.v :: (Kp01.step s (.say xs)).2.l) = _
  unfold Kp01.step
  dsimp only
  by_cases h : Kp01.LONG < xs.length ∨ (xs.all fun z => decide (32 ≤ z) && decide (z ≤ 126)) = false
  · have e : isTextB xs = false := by
      unfold isTextB
      rcases h with h | h
      · have h : 80 < xs.length := h
        rw [decide_eq_false (by omega)]; rfl
      · rw [h, Bool.and_false]
    rw [if_pos h, said_not s e]
  · have e : isTextB xs = true := by
      unfold isTextB
      have h1 := not_or.mp h
      have h2 : ¬ 80 < xs.length := h1.1
      rw [decide_eq_true (by omega), nf h1.2]; rfl
    rw [if_neg h, said_of s e]
theorem said_good {s : Kp01.House} (g : Good s) (hd : s.day + 400 ≤ 1000000) (xs : List Int) : Good (saidOf s xs).1 ∧ (saidOf s xs).1.day ≤ s.day + 400 := by
  cases e : isTextB xs with
  | false => rw [said_not s e]; exact ⟨g, by show s.day ≤ s.day + 400; omega⟩
  | true =>
    rw [said_of s e]
    show Good (Kp01.said s _).1 ∧ (Kp01.said s _).1.day ≤ _
    unfold Kp01.said
    cases h : Kp01.cmd? (Kp01.parted 32 (xs.map Int.toNat)) with
    | none => exact ⟨g, by show s.day ≤ s.day + 400; omega⟩
    | some cmd => exact ⟨g.does (wf_cmd h) hd, does_day (wf_cmd h)⟩
def placeOf (σ : L2.St) : Nat := match σ with
  | [_, _, _, some (V.int i), _, _, _] => i.toNat
  | _ => 0
theorem SqL.same {K : PySem.W.Frag} {H H' : Hp} {a : Addr} {xs : List V} (h : SqL K H a xs) (e : Same H H') : SqL K H' a xs := by
  rcases h with (h | ⟨o, h⟩) | h
  · exact .inl (.inl (e _ _ h))
  · exact .inl (.inr ⟨o, e _ _ h⟩)
  · exact .inr h
theorem cut_mid {pre xs post : List Int} : cutV (intsV (pre ++ (xs ++ post))) (some (pre.length : Int)) (some ((pre.length : Int) + (xs.length : Int))) = intsV xs := by
  have e : (pre.length : Int) + (xs.length : Int) = ((pre.length + xs.length : Nat) : Int) := by omega
  unfold cutV
  rw [e, HT.sIx_nat, HT.sIx_nat]
  have hl : (intsV (pre ++ (xs ++ post))).length = pre.length + (xs.length + post.length) := by unfold intsV; simp
  rw [hl, Nat.min_eq_left (by omega), Nat.min_eq_left (by omega)]
  unfold intsV
  rw [← List.map_drop, List.drop_left, ← List.map_take]
  have : pre.length + xs.length - pre.length = xs.length := by omega
  rw [this, List.take_left]
section
variable {K : PySem.W.Frag} {w : World} {mg : Str → Option Value} {c : Cs}
theorem pure_answers (T : TopTxt K w mg c) : ∀ a H Q, pr_answers K a H Q → t_answers K c (D0 Q) (start ["calls", "house", "answered", "place", "start", "end", "told"] [a]) H := by
  rintro _ H Q ⟨p, ns, rfl, hp, hask, q⟩
  intro x dx nx ndx ndd
  refine ⟨x, dx, rfl, upd_same, fun H1 F L hF R hL => ⟨rfl, ?_⟩⟩
  have sm1 : Same H F := fun b o h => by
    refine hF b o ?_ (ne_of_none h nx)
    rw [upd_ne (ne_of_none h nx), upd_ne (ne_of_none h ndx)]; exact h
  refine ⟨by show 0 ≤ sizeLine; exact Nat.zero_le _, fun an nan => ?_⟩
  have Fan : F an = none := by
    cases e : F an with
    | none => rfl
    | some o => rw [R.keep an o e] at nan; cases nan
  have R0 : Rep c [] (upd F an (.lst (intsV []))) Kp01.start L (upd H1 an (.lst [])) := R.new nan
  unfold PyKp01.answers_asked at hask
  cases hcs : PyKp01.calls ns with
  | none => rw [hcs] at hask; cases hask
  | some cs0 =>
  rw [hcs] at hask
  simp only [Bool.and_eq_true] at hask
  obtain ⟨⟨⟨⟨_, hfits⟩, hmost⟩, hasked⟩, hshort⟩ := hask
  have hshort : (PyKp01.answers ns).length ≤ 10000000 := of_decide_eq_true hshort
  have hmost : cs0.length ≤ 60 := of_decide_eq_true hmost
  unfold Kp01Neutral.asked at hasked
  simp only [Bool.and_eq_true] at hasked
  have hsh : Kp01Neutral.short Kp01.start 999999 cs0 = true := hasked.2.2.2
  have hans : PyKp01.answers ns = PyFlat.told (PyFlat.played Kp01Neutral.step Kp01.start cs0) := by
    unfold PyKp01.answers; rw [hcs]; rfl
  have sm2 : ∀ {o : HO} {s : Kp01.House} {L' : Tag → Addr} {H' : Hp}, Rep c [] (upd F an o) s L' H' → Same H H' := fun R' b u h => R'.keep b u (by
    have hb := sm1 b u h
    rw [upd_ne (fun z => by rw [z, Fan] at hb; cases hb)]; exact hb)
  refine while_by (fun σ H' => ∃ (place : Nat) (acc : List Int) (s : Kp01.House) (L' : Tag → Addr) (cs : List (List (List Int))) (f m : Nat) (v4 v5 v6 : Option V), σ = [some (.ref p), some (.ref x), some (.ref an), some (.int (place : Int)), v4, v5, v6] ∧
      Rep c [] (upd F an (.lst (intsV acc))) s L' H' ∧ L' .house = x ∧ Good s ∧ place ≤ ns.length ∧ PyWide.calls f (ns.drop place) = some cs ∧ cs.all PyKp01.fits = true ∧ s.day + 400 * cs.length ≤ 24000 ∧ Kp01Neutral.short s m cs = true ∧ m ≤ 999999 ∧
      acc ++ PyFlat.told (PyFlat.played Kp01Neutral.step s cs) = PyKp01.answers ns)
    (fun (σ : L2.St) (_ : Hp) => ns.length - placeOf σ) ⟨0, [], Kp01.start, L, cs0, ns.length, 999999, none, none, none, rfl, R0, hL, good_start, Nat.zero_le _, hcs, hfits, by show 0 + 400 * cs0.length ≤ 24000; omega, hsh, Nat.le_refl _, hans.symm⟩ ?_ ?_
  · rintro σ H2 ⟨place, acc, s, L', cs, f, m, v4, v5, v6, rfl, R2, hL2, g, hpl, hcalls, hfit, hday, hsho, hm, hacc⟩
    have hp2 := SqL.same hp (sm2 R2)
    have hlen : (intsV ns).length = ns.length := List.length_map ..
    refine ⟨_, rfl, _, rfl, p, intsV ns, rfl, .inl hp2, _, _, rfl, rfl, _, rfl, ?_⟩
    rw [hlen]
    by_cases hlt : place < ns.length
    · refine if_true_of (decide_eq_true (by omega)) ?_
      have hne : ns.drop place ≠ [] := by
        intro z
        have := congrArg List.length z
        rw [List.length_drop] at this
        simp at this; omega
      obtain ⟨xs, t, cs', f', hrest, hcs', hcalls'⟩ := call_form hcalls hne hfit
      subst hcs'
      -- the list as it lies
      have hns : ns = ns.take place ++ (1 :: (xs.length : Int) :: (xs ++ 0 :: t)) := by rw [← hrest]; exact (List.take_append_drop ..).symm
      obtain ⟨pre, hpre⟩ : ∃ pre, pre = ns.take place ++ [1, (xs.length : Int)] := ⟨_, rfl⟩
      have prel : pre.length = place + 2 := by rw [hpre, List.length_append, List.length_take]; simp; omega
      have hns2 : ns = pre ++ (xs ++ 0 :: t) := by
        rw [hpre, List.append_assoc]; exact hns
      have nsl : ns.length = place + 2 + (xs.length + (t.length + 1)) := by
        have := congrArg List.length hns2
        rw [this, List.length_append, List.length_append, prel]; simp
      have at1 : ns[place + 1]? = some (xs.length : Int) := by
        have : ns[place + 1]? = (ns.drop place)[1]? := by rw [List.getElem?_drop]
        rw [this, hrest]; rfl
      refine ⟨_, rfl, _, _, rfl, rfl, ?_⟩
      refine ⟨_, rfl, _, rfl, _, rfl, _, _, rfl, rfl, p, intsV ns, _, V.int (xs.length : Int), rfl, rfl, hp2, atI_nat (j := place + 1) (by unfold intsV; rw [List.getElem?_map, at1]; rfl), _, _, rfl, rfl, ?_⟩
      refine ⟨_, rfl, _, rfl, _, rfl, _, rfl, _, rfl, _, rfl, p, intsV ns, rfl, hp2, fun z nz => ?_⟩
      have ecut : cutV (intsV ns) (some ((place : Int) + 2)) (some ((place : Int) + 2 + (xs.length : Int))) = intsV xs := by
        have e1 : (place : Int) + 2 = (pre.length : Int) := by omega
        rw [e1, hns2]; exact cut_mid
      rw [ecut]
      have R3 := R2.new (o := .lst (intsV xs)) nz
      have anz : an ≠ z := ne_of_none (R2.keep _ _ upd_same) nz
      have Fz : F z = none := by
        cases e : F z with
        | none => rfl
        | some o => rw [R2.keep z o (by rw [upd_ne anz.symm]; exact e)] at nz; cases nz
      have hstep := step_said s xs
      have hsho' : decide ((saidOf s xs).2.length ≤ m) = true ∧ Kp01Neutral.short (saidOf s xs).1 (m - (saidOf s xs).2.length) cs' = true := by
        have h : (decide ((Kp01Neutral.step s [1 :: xs]).2.length ≤ m) && Kp01Neutral.short (Kp01Neutral.step s [1 :: xs]).1 (m - (Kp01Neutral.step s [1 :: xs]).2.length) cs') = true := hsho
        rw [hstep, Bool.and_eq_true] at h; exact h
      have htold : (saidOf s xs).2.length ≤ m := of_decide_eq_true hsho'.1
      have hacc2 : acc ++ (((saidOf s xs).2.length : Int) :: (saidOf s xs).2) ++ PyFlat.told (PyFlat.played Kp01Neutral.step (saidOf s xs).1 cs') = PyKp01.answers ns := by
        rw [← hacc]
        show _ = acc ++ PyFlat.told ((Kp01Neutral.step s [1 :: xs]).2 :: PyFlat.played Kp01Neutral.step (Kp01Neutral.step s [1 :: xs]).1 cs')
        rw [hstep, List.append_assoc]
        rfl
      have hlen2 : acc.length + 1 + (saidOf s xs).2.length ≤ 10000000 := by
        have := congrArg List.length hacc2
        rw [List.length_append, List.length_append, List.length_cons] at this
        omega
      refine ⟨_, s, L', z, xs, by rw [hL2], rfl, R3, g, upd_same, by omega, fun H4 L4 b R4 Fb hL4 => ?_⟩
      have ban : b ≠ an := fun e => by rw [e, upd_ne anz, upd_same] at Fb; cases Fb
      have bz : b ≠ z := fun e => by rw [e, upd_same] at Fb; cases Fb
      have Fb0 : F b = none := by rw [upd_ne bz, upd_ne ban] at Fb; exact Fb
      have R4' : Rep c [] (upd (upd F an (.lst (intsV acc))) b (.lst (intsV (saidOf s xs).2))) (saidOf s xs).1 L4 H4 := R4.less fun y o h => by
        by_cases e : y = b
        · rw [e, upd_same] at h ⊢; exact h
        · rw [upd_ne e] at h ⊢
          by_cases e2 : y = z
          · rw [e2, upd_ne anz.symm, Fz] at h; cases h
          · rw [upd_ne e2]; exact h
      have hb4 := R4'.keep _ _ upd_same
      have han4 := R4'.keep _ _ (show _ = _ by rw [upd_ne ban.symm]; exact upd_same)
      refine ⟨_, rfl, ty_list han4, _, rfl, b, _, rfl, .inl (SqL.of hb4), _, _, _, rfl, rfl, han4, ?_, ?_⟩
      · unfold intsV; rw [List.length_map]
        exact Nat.lt_of_le_of_lt (show acc.length ≤ 10000000 by omega) (by decide)
      have l5 : (intsV (saidOf s xs).2).length = (saidOf s xs).2.length := List.length_map ..
      rw [l5]
      have an5 : ∀ o, upd H4 an o an = some o := fun o => upd_same
      refine ⟨_, rfl, ty_list upd_same, _, rfl, an, b, _, _, rfl, rfl, upd_same, by rw [upd_ne ban]; exact hb4, ?_, ?_⟩
      · unfold intsV
        rw [List.length_append, List.length_map, List.length_map]
        exact Nat.le_trans (show acc.length + 1 + (saidOf s xs).2.length ≤ 10000000 by omega) (by decide)
      refine ⟨_, rfl, _, _, rfl, rfl, ?_⟩
      have ev : intsV acc ++ [V.int ((saidOf s xs).2.length : Nat)] ++ intsV (saidOf s xs).2 = intsV (acc ++ (((saidOf s xs).2.length : Int) :: (saidOf s xs).2)) := by
        unfold intsV; simp
      rw [upd_upd, ev]
      have R5 := (R4'.apart (p := an) (o := .lst (intsV (acc ++ (((saidOf s xs).2.length : Int) :: (saidOf s xs).2)))) (show _ = _ by rw [upd_ne ban.symm]; exact upd_same))
      have R6 : Rep c [] (upd F an (.lst (intsV (acc ++ (((saidOf s xs).2.length : Int) :: (saidOf s xs).2))))) (saidOf s xs).1 L4 (upd H4 an (.lst (intsV (acc ++ (((saidOf s xs).2.length : Int) :: (saidOf s xs).2))))) := R5.less fun y o h => by
        by_cases e : y = an
        · rw [e, upd_same] at h ⊢; exact h
        · rw [upd_ne e] at h ⊢
          have yb : y ≠ b := fun e2 => by rw [e2, Fb0] at h; cases h
          rw [upd_ne yb, upd_ne e]; exact h
      have hg := said_good g (by rw [List.length_cons] at hday; omega) xs
      refine ⟨⟨place + 3 + xs.length, _, _, L4, cs', f', _, some (.int ((place : Int) + 2)), some (.int ((place : Int) + 2 + (xs.length : Int))), some (.ref b), ?_, R6, hL4.trans hL2, hg.1, by omega, ?_, ?_, ?_, hsho'.2, by omega, hacc2⟩, ?_⟩
      · have e : ((place : Int) + 2 + (xs.length : Int) + 1) = ((place + 3 + xs.length : Nat) : Int) := by omega
        rw [← e]; rfl
      · have e : ns.drop (place + 3 + xs.length) = t := by
          have e1 : ns = (pre ++ (xs ++ [0])) ++ t := by rw [hns2]; simp
          have e2 : (pre ++ (xs ++ [0])).length = place + 3 + xs.length := by rw [List.length_append, prel]; simp; omega
          rw [← e2]
          conv => lhs; rw [e1]
          exact List.drop_left
        rw [e]; exact hcalls'
      · rw [List.all_cons, Bool.and_eq_true] at hfit; exact hfit.2
      · have := hg.2; rw [List.length_cons] at hday; omega
      · show ns.length - ((place : Int) + 2 + (xs.length : Int) + 1).toNat < ns.length - (place : Int).toNat
        omega
    · refine if_false_of (decide_eq_false (by omega)) ?_
      have e : ns.drop place = [] := by rw [List.drop_eq_nil_iff]; omega
      rw [e] at hcalls
      have hc : cs = [] := by cases f <;> (cases hcalls; rfl)
      subst hc
      have hacc : acc = PyKp01.answers ns := by rw [← hacc]; show acc = acc ++ []; rw [List.append_nil]
      refine ⟨_, rfl, ?_⟩
      exact q H2 an (by rw [← hacc]; exact R2.keep _ _ upd_same)
  · rintro σ H Q Q' hq ⟨v, h1, v', h2, p, ys, h3, h4, i, j, h5, h6, k, h7, h8⟩
    exact ⟨v, h1, v', h2, p, ys, h3, h4, i, j, h5, h6, k, h7, hq _ _ h8⟩
end
end Kr

set_option Elab.async false
set_option linter.all false
set_option maxRecDepth 100000
set_option maxHeartbeats 4000000
namespace Kr
open PySem PySem.Spec PyProof.Rows L2
/-! ### all defs together -/
structure Funs (K : PySem.W.Frag) (mg : Str → Option Value) (c : Cs) : Prop where
  F_days_end : FunAt K mg "days_end" s_days_end
  F_is_there : FunAt K mg "is_there" s_is_there
  F_sources_there : FunAt K mg "sources_there" s_sources_there
  F_stands_for : FunAt K mg "stands_for" s_stands_for
  F_gives : FunAt K mg "gives" s_gives
  F_is_hold_of : FunAt K mg "is_hold_of" s_is_hold_of
  F_is_held : FunAt K mg "is_held" s_is_held
  F_may_be_kept : FunAt K mg "may_be_kept" s_may_be_kept
  F_set_copy : FunAt K mg "set_copy" s_set_copy
  F_let_go : FunAt K mg "let_go" s_let_go
  F_is_settled_today : FunAt K mg "is_settled_today" s_is_settled_today
  F_settle_copies : FunAt K mg "settle_copies" s_settle_copies
  F_all_goes : FunAt K mg "all_goes" s_all_goes
  F_pass_day : FunAt K mg "pass_day" s_pass_day
  F_add_ground : FunAt K mg "add_ground" s_add_ground
  F_init_Ground : InitAt K c.Ground "Ground.__init__" s_init_Ground
  F_add_law_ground : FunAt K mg "add_law_ground" s_add_law_ground
  F_add_need_ground : FunAt K mg "add_need_ground" s_add_need_ground
  F_add_purpose_ground : FunAt K mg "add_purpose_ground" s_add_purpose_ground
  F_void_ground : FunAt K mg "void_ground" s_void_ground
  F_init_Hold : InitAt K c.Hold "Hold.__init__" s_init_Hold
  F_add_hold : FunAt K mg "add_hold" s_add_hold
  F_free_hold : FunAt K mg "free_hold" s_free_hold
  F_init_Person : InitAt K c.Person "Person.__init__" s_init_Person
  F_add_person : FunAt K mg "add_person" s_add_person
  F_give_consent : FunAt K mg "give_consent" s_give_consent
  F_withdraw_consent : FunAt K mg "withdraw_consent" s_withdraw_consent
  F_raise_objection : FunAt K mg "raise_objection" s_raise_objection
  F_end_matter : FunAt K mg "end_matter" s_end_matter
  F_forget_person : FunAt K mg "forget_person" s_forget_person
  F_ground_end : FunAt K mg "ground_end" s_ground_end
  F_record_end : FunAt K mg "record_end" s_record_end
  F_days_of_going : FunAt K mg "days_of_going" s_days_of_going
  F_record_refusal : FunAt K mg "record_refusal" s_record_refusal
  F_init_Store : InitAt K c.Store "Store.__init__" s_init_Store
  F_init_Copy : InitAt K c.Copy "Copy.__init__" s_init_Copy
  F_init_Record : InitAt K c.Record "Record.__init__" s_init_Record
  F_init_House : InitAt K c.House "House.__init__" s_init_House
  F_add_record : FunAt K mg "add_record" s_add_record
  F_put_record : FunAt K mg "put_record" s_put_record
  F_make_record : FunAt K mg "make_record" s_make_record
  F_copy_record : FunAt K mg "copy_record" s_copy_record
  F_use_record : FunAt K mg "use_record" s_use_record
  F_pass_days : FunAt K mg "pass_days" s_pass_days
  F_is_text : FunAt K mg "is_text" s_is_text
  F_words_of : FunAt K mg "words_of" s_words_of
  F_codes_of : FunAt K mg "codes_of" s_codes_of
  F_listed : FunAt K mg "listed" s_listed
  F_read_name : FunAt K mg "read_name" s_read_name
  F_read_name_or_any : FunAt K mg "read_name_or_any" s_read_name_or_any
  F_read_event : FunAt K mg "read_event" s_read_event
  F_read_number : FunAt K mg "read_number" s_read_number
  F_read_span : FunAt K mg "read_span" s_read_span
  F_read_days : FunAt K mg "read_days" s_read_days
  F_read_record : FunAt K mg "read_record" s_read_record
  F_read_records : FunAt K mg "read_records" s_read_records
  F_add_store : FunAt K mg "add_store" s_add_store
  F_add_rolled_store : FunAt K mg "add_rolled_store" s_add_rolled_store
  F_add_other_house : FunAt K mg "add_other_house" s_add_other_house
  F_store_of_way : FunAt K mg "store_of_way" s_store_of_way
  F_set_hearing : FunAt K mg "set_hearing" s_set_hearing
  F_make_deaf : FunAt K mg "make_deaf" s_make_deaf
  F_make_hearing : FunAt K mg "make_hearing" s_make_hearing
  F_lies_in : FunAt K mg "lies_in" s_lies_in
  F_put_back : FunAt K mg "put_back" s_put_back
  F_copy_row : FunAt K mg "copy_row" s_copy_row
  F_ground_row : FunAt K mg "ground_row" s_ground_row
  F_tell_person : FunAt K mg "tell_person" s_tell_person
  F_tell_why : FunAt K mg "tell_why" s_tell_why
  F_tell_till : FunAt K mg "tell_till" s_tell_till
  F_tell_proof : FunAt K mg "tell_proof" s_tell_proof
  F_tell_due : FunAt K mg "tell_due" s_tell_due
  F_tell_asks : FunAt K mg "tell_asks" s_tell_asks
  F_commands : FunAt K mg "commands" s_commands
  F_things_told : FunAt K mg "things_told" s_things_told
  F_answer_to : FunAt K mg "answer_to" s_answer_to
  F_say : FunAt K mg "say" s_say
  F_answers : FunAt K mg "answers" s_answers
theorem held_of {P : Program} {w : World} {K : PySem.W.Frag} {mg : Str → Option Value} {base : Heap} {x : Str} {k j : Nat} {ps : List Str} {sp : Sp} {f : Addr} (D : Def P w K mg base x k ps sp) (hm : mg x = some (.ref f)) (hk : k ≤ j) : Held P w K mg base j f sp := by
  obtain ⟨f', fd, G, m, kp, b⟩ := D.ex
  rw [hm] at m
  cases m
  exact ⟨⟨fd, ps, G.mono hk, kp, b⟩⟩
section
variable {P : Program} {w : World} {K : PySem.W.Frag} {mg : Str → Option Value} {base : Heap} {c : Cs}
theorem all_ok (T : TopTxt K w mg c) (U : Funs K mg c) : Def P w K mg base "say" 10 ["house", "codes"] (sp_say K c) ∧ MadeBy P w K mg base c.House 3 ["self"] (spI_House K c) := by
  have D_days_end := ok_days_end (P := P) (base := base) T U.F_days_end  (pure_days_end T)
  have D_is_there := ok_is_there (P := P) (base := base) T U.F_is_there  (pure_is_there T)
  have D_sources_there := ok_sources_there (P := P) (base := base) T U.F_sources_there D_is_there (pure_sources_there T)
  have D_stands_for := ok_stands_for (P := P) (base := base) T U.F_stands_for D_sources_there (pure_stands_for T)
  have D_gives := ok_gives (P := P) (base := base) T U.F_gives D_days_end D_stands_for (pure_gives T)
  have D_is_hold_of := ok_is_hold_of (P := P) (base := base) T U.F_is_hold_of  (pure_is_hold_of T)
  have D_is_held := ok_is_held (P := P) (base := base) T U.F_is_held D_is_hold_of (pure_is_held T)
  have D_may_be_kept := ok_may_be_kept (P := P) (base := base) T U.F_may_be_kept D_is_held D_gives (pure_may_be_kept T)
  have D_set_copy := ok_set_copy (P := P) (base := base) T U.F_set_copy  (pure_set_copy T)
  have D_let_go := ok_let_go (P := P) (base := base) T U.F_let_go D_set_copy (pure_let_go T)
  have D_is_settled_today := ok_is_settled_today (P := P) (base := base) T U.F_is_settled_today  (pure_is_settled_today T)
  have D_settle_copies := ok_settle_copies (P := P) (base := base) T U.F_settle_copies D_is_settled_today D_set_copy (pure_settle_copies T)
  have D_all_goes := ok_all_goes (P := P) (base := base) T U.F_all_goes D_is_there D_settle_copies D_may_be_kept D_let_go (pure_all_goes T)
  have D_pass_day := ok_pass_day (P := P) (base := base) T U.F_pass_day D_all_goes (pure_pass_day T)
  have D_add_ground := ok_add_ground (P := P) (base := base) T U.F_add_ground D_all_goes (pure_add_ground T)
  have DI_Ground := ok_init_Ground (P := P) (base := base) T U.F_init_Ground  (pure_init_Ground T)
  have D_add_law_ground := ok_add_law_ground (P := P) (base := base) T U.F_add_law_ground D_add_ground DI_Ground (pure_add_law_ground T)
  have D_add_need_ground := ok_add_need_ground (P := P) (base := base) T U.F_add_need_ground D_add_ground DI_Ground (pure_add_need_ground T)
  have D_add_purpose_ground := ok_add_purpose_ground (P := P) (base := base) T U.F_add_purpose_ground D_add_ground DI_Ground (pure_add_purpose_ground T)
  have D_void_ground := ok_void_ground (P := P) (base := base) T U.F_void_ground D_all_goes (pure_void_ground T)
  have DI_Hold := ok_init_Hold (P := P) (base := base) T U.F_init_Hold  (pure_init_Hold T)
  have D_add_hold := ok_add_hold (P := P) (base := base) T U.F_add_hold DI_Hold (pure_add_hold T)
  have D_free_hold := ok_free_hold (P := P) (base := base) T U.F_free_hold D_all_goes (pure_free_hold T)
  have DI_Person := ok_init_Person (P := P) (base := base) T U.F_init_Person  (pure_init_Person T)
  have D_add_person := ok_add_person (P := P) (base := base) T U.F_add_person DI_Person (pure_add_person T)
  have D_give_consent := ok_give_consent (P := P) (base := base) T U.F_give_consent D_all_goes (pure_give_consent T)
  have D_withdraw_consent := ok_withdraw_consent (P := P) (base := base) T U.F_withdraw_consent D_all_goes (pure_withdraw_consent T)
  have D_raise_objection := ok_raise_objection (P := P) (base := base) T U.F_raise_objection D_all_goes (pure_raise_objection T)
  have D_end_matter := ok_end_matter (P := P) (base := base) T U.F_end_matter D_all_goes (pure_end_matter T)
  have D_forget_person := ok_forget_person (P := P) (base := base) T U.F_forget_person D_all_goes (pure_forget_person T)
  have D_ground_end := ok_ground_end (P := P) (base := base) T U.F_ground_end D_days_end (pure_ground_end T)
  have D_record_end := ok_record_end (P := P) (base := base) T U.F_record_end D_stands_for D_ground_end D_is_held D_is_there (pure_record_end T)
  have D_days_of_going := ok_days_of_going (P := P) (base := base) T U.F_days_of_going D_record_end (pure_days_of_going T)
  have D_record_refusal := ok_record_refusal (P := P) (base := base) T U.F_record_refusal D_is_there (pure_record_refusal T)
  have DI_Store := ok_init_Store (P := P) (base := base) T U.F_init_Store  (pure_init_Store T)
  have DI_Copy := ok_init_Copy (P := P) (base := base) T U.F_init_Copy  (pure_init_Copy T)
  have DI_Record := ok_init_Record (P := P) (base := base) T U.F_init_Record DI_Copy (pure_init_Record T)
  have DI_House := ok_init_House (P := P) (base := base) T U.F_init_House DI_Store (pure_init_House T)
  have D_add_record := ok_add_record (P := P) (base := base) T U.F_add_record D_all_goes D_may_be_kept DI_Record (pure_add_record T)
  have D_put_record := ok_put_record (P := P) (base := base) T U.F_put_record D_add_record (pure_put_record T)
  have D_make_record := ok_make_record (P := P) (base := base) T U.F_make_record D_add_record D_record_refusal (pure_make_record T)
  have D_copy_record := ok_copy_record (P := P) (base := base) T U.F_copy_record D_record_refusal DI_Copy (pure_copy_record T)
  have D_use_record := ok_use_record (P := P) (base := base) T U.F_use_record D_all_goes D_record_refusal (pure_use_record T)
  have D_pass_days := ok_pass_days (P := P) (base := base) T U.F_pass_days D_pass_day (pure_pass_days T)
  have D_is_text := ok_is_text (P := P) (base := base) T U.F_is_text  (pure_is_text T)
  have D_words_of := ok_words_of (P := P) (base := base) T U.F_words_of  (pure_words_of T)
  have D_codes_of := ok_codes_of (P := P) (base := base) T U.F_codes_of  (pure_codes_of T)
  have D_listed := ok_listed (P := P) (base := base) T U.F_listed  (pure_listed T)
  have D_read_name := ok_read_name (P := P) (base := base) T U.F_read_name  (pure_read_name T)
  have D_read_name_or_any := ok_read_name_or_any (P := P) (base := base) T U.F_read_name_or_any D_read_name (pure_read_name_or_any T)
  have D_read_event := ok_read_event (P := P) (base := base) T U.F_read_event  (pure_read_event T)
  have D_read_number := ok_read_number (P := P) (base := base) T U.F_read_number  (pure_read_number T)
  have D_read_span := ok_read_span (P := P) (base := base) T U.F_read_span D_read_number (pure_read_span T)
  have D_read_days := ok_read_days (P := P) (base := base) T U.F_read_days D_read_number (pure_read_days T)
  have D_read_record := ok_read_record (P := P) (base := base) T U.F_read_record D_read_number (pure_read_record T)
  have D_read_records := ok_read_records (P := P) (base := base) T U.F_read_records D_read_record (pure_read_records T)
  have D_add_store := ok_add_store (P := P) (base := base) T U.F_add_store  (pure_add_store T)
  have D_add_rolled_store := ok_add_rolled_store (P := P) (base := base) T U.F_add_rolled_store D_add_store DI_Store (pure_add_rolled_store T)
  have D_add_other_house := ok_add_other_house (P := P) (base := base) T U.F_add_other_house D_add_store DI_Store (pure_add_other_house T)
  have D_store_of_way := ok_store_of_way (P := P) (base := base) T U.F_store_of_way  (pure_store_of_way T)
  have D_set_hearing := ok_set_hearing (P := P) (base := base) T U.F_set_hearing D_all_goes D_store_of_way (pure_set_hearing T)
  have D_make_deaf := ok_make_deaf (P := P) (base := base) T U.F_make_deaf D_set_hearing (pure_make_deaf T)
  have D_make_hearing := ok_make_hearing (P := P) (base := base) T U.F_make_hearing D_set_hearing (pure_make_hearing T)
  have D_lies_in := ok_lies_in (P := P) (base := base) T U.F_lies_in  (pure_lies_in T)
  have D_put_back := ok_put_back (P := P) (base := base) T U.F_put_back D_all_goes D_let_go D_is_there D_lies_in D_store_of_way (pure_put_back T)
  have D_copy_row := ok_copy_row (P := P) (base := base) T U.F_copy_row  (pure_copy_row T)
  have D_ground_row := ok_ground_row (P := P) (base := base) T U.F_ground_row  (pure_ground_row T)
  have D_tell_person := ok_tell_person (P := P) (base := base) T U.F_tell_person D_listed D_copy_row (pure_tell_person T)
  have D_tell_why := ok_tell_why (P := P) (base := base) T U.F_tell_why D_listed D_is_hold_of D_gives D_ground_row D_record_refusal (pure_tell_why T)
  have D_tell_till := ok_tell_till (P := P) (base := base) T U.F_tell_till D_days_of_going D_record_refusal (pure_tell_till T)
  have D_tell_proof := ok_tell_proof (P := P) (base := base) T U.F_tell_proof D_listed D_copy_row D_is_there (pure_tell_proof T)
  have D_tell_due := ok_tell_due (P := P) (base := base) T U.F_tell_due D_listed D_days_of_going D_is_there (pure_tell_due T)
  have D_tell_asks := ok_tell_asks (P := P) (base := base) T U.F_tell_asks D_listed (pure_tell_asks T)
  have D_commands := ok_commands (P := P) (base := base) T U.F_commands 
  have A_reader : ∀ f sp, S_reader c f = some sp → Held P w K mg base 3 f sp := by
    intro f sp h
    obtain ⟨i, hi, rfl, hs⟩ := S_reader_of h
    match i, hi, hs with
    | 0, _, hs => cases hs; exact held_of D_read_name (T.m_rdr 0 "read_name" rfl) (by decide)
    | 1, _, hs => cases hs; exact held_of D_read_name_or_any (T.m_rdr 1 "read_name_or_any" rfl) (by decide)
    | 2, _, hs => cases hs; exact held_of D_read_event (T.m_rdr 2 "read_event" rfl) (by decide)
    | 3, _, hs => cases hs; exact held_of D_read_span (T.m_rdr 3 "read_span" rfl) (by decide)
    | 4, _, hs => cases hs; exact held_of D_read_days (T.m_rdr 4 "read_days" rfl) (by decide)
    | 5, _, hs => cases hs; exact held_of D_read_record (T.m_rdr 5 "read_record" rfl) (by decide)
    | 6, _, hs => cases hs; exact held_of D_read_records (T.m_rdr 6 "read_records" rfl) (by decide)
    | n + 7, hi, _ => exact absurd hi (by omega)
  have D_things_told := ok_things_told (P := P) (base := base) T U.F_things_told A_reader (pure_things_told T)
  have A_command : ∀ f sp, S_command c f = some sp → Held P w K mg base 8 f sp := by
    intro f sp h
    obtain ⟨i, hi, rfl, hs⟩ := S_command_of h
    match i, hi, hs with
    | 0, _, hs => cases hs; exact held_of D_add_person (T.m_cmd 0 "add_person" rfl) (by decide)
    | 1, _, hs => cases hs; exact held_of D_give_consent (T.m_cmd 1 "give_consent" rfl) (by decide)
    | 2, _, hs => cases hs; exact held_of D_withdraw_consent (T.m_cmd 2 "withdraw_consent" rfl) (by decide)
    | 3, _, hs => cases hs; exact held_of D_raise_objection (T.m_cmd 3 "raise_objection" rfl) (by decide)
    | 4, _, hs => cases hs; exact held_of D_end_matter (T.m_cmd 4 "end_matter" rfl) (by decide)
    | 5, _, hs => cases hs; exact held_of D_forget_person (T.m_cmd 5 "forget_person" rfl) (by decide)
    | 6, _, hs => cases hs; exact held_of D_add_law_ground (T.m_cmd 6 "add_law_ground" rfl) (by decide)
    | 7, _, hs => cases hs; exact held_of D_add_need_ground (T.m_cmd 7 "add_need_ground" rfl) (by decide)
    | 8, _, hs => cases hs; exact held_of D_add_purpose_ground (T.m_cmd 8 "add_purpose_ground" rfl) (by decide)
    | 9, _, hs => cases hs; exact held_of D_void_ground (T.m_cmd 9 "void_ground" rfl) (by decide)
    | 10, _, hs => cases hs; exact held_of D_add_rolled_store (T.m_cmd 10 "add_rolled_store" rfl) (by decide)
    | 11, _, hs => cases hs; exact held_of D_add_other_house (T.m_cmd 11 "add_other_house" rfl) (by decide)
    | 12, _, hs => cases hs; exact held_of D_make_deaf (T.m_cmd 12 "make_deaf" rfl) (by decide)
    | 13, _, hs => cases hs; exact held_of D_make_hearing (T.m_cmd 13 "make_hearing" rfl) (by decide)
    | 14, _, hs => cases hs; exact held_of D_put_record (T.m_cmd 14 "put_record" rfl) (by decide)
    | 15, _, hs => cases hs; exact held_of D_make_record (T.m_cmd 15 "make_record" rfl) (by decide)
    | 16, _, hs => cases hs; exact held_of D_copy_record (T.m_cmd 16 "copy_record" rfl) (by decide)
    | 17, _, hs => cases hs; exact held_of D_use_record (T.m_cmd 17 "use_record" rfl) (by decide)
    | 18, _, hs => cases hs; exact held_of D_add_hold (T.m_cmd 18 "add_hold" rfl) (by decide)
    | 19, _, hs => cases hs; exact held_of D_free_hold (T.m_cmd 19 "free_hold" rfl) (by decide)
    | 20, _, hs => cases hs; exact held_of D_put_back (T.m_cmd 20 "put_back" rfl) (by decide)
    | 21, _, hs => cases hs; exact held_of D_pass_days (T.m_cmd 21 "pass_days" rfl) (by decide)
    | 22, _, hs => cases hs; exact held_of D_tell_person (T.m_cmd 22 "tell_person" rfl) (by decide)
    | 23, _, hs => cases hs; exact held_of D_tell_why (T.m_cmd 23 "tell_why" rfl) (by decide)
    | 24, _, hs => cases hs; exact held_of D_tell_till (T.m_cmd 24 "tell_till" rfl) (by decide)
    | 25, _, hs => cases hs; exact held_of D_tell_proof (T.m_cmd 25 "tell_proof" rfl) (by decide)
    | 26, _, hs => cases hs; exact held_of D_tell_due (T.m_cmd 26 "tell_due" rfl) (by decide)
    | 27, _, hs => cases hs; exact held_of D_tell_asks (T.m_cmd 27 "tell_asks" rfl) (by decide)
    | n + 28, hi, _ => exact absurd hi (by omega)
  have D_answer_to := ok_answer_to (P := P) (base := base) T U.F_answer_to D_commands D_things_told A_command (pure_answer_to T)
  have D_say := ok_say (P := P) (base := base) T U.F_say D_codes_of D_answer_to D_words_of D_is_text (pure_say T)
  exact ⟨D_say, DI_House⟩
end
end Kr

set_option Elab.async false
set_option linter.all false
set_option maxRecDepth 100000
set_option maxHeartbeats 4000000
namespace Kr
open PySem PySem.Spec PyProof.Rows L2
section
variable {P : Program} {w : World} {K : PySem.W.Frag} {mg : Str → Option Value} {c : Cs}
theorem answers_fn (T : TopTxt K w mg c) {f : Addr} {fd : FuncData} (F0 : Fun K "answers" "answers" s_answers f fd) {base : Heap} (D_say : Def P w K mg base "say" 10 ["house", "codes"] (sp_say K c)) (DI_House : MadeBy P w K mg base c.House 3 ["self"] (spI_House K c)) : FnOk P w K mg base CX0 11 f fd ["calls"] (sp_answers K c) := by
  obtain ⟨f_say, fd_say, G_say, m_say, k_say, b_say⟩ := D_say.ex
  obtain ⟨fI_House, fdI_House, M_House, GI_House, bI_House⟩ := DI_House.ex
  refine F0.ok (k := 10) sc_answers (fun vs H Q E h => ?len) (fun cdv A outer s H vs Q E hr h => ⟨t_answers K c, ?term, ?pu⟩)
  case len => obtain ⟨a, rfl, h⟩ := sp1_of h; rfl
  case term => have hu := hu_of hr; exact (pss_cons (ps_set (i := 1) sc_answers.nd rfl (Or.inl rfl) (pe_make0 M_House GI_House (hr.mono (by decide)) rfl T.m_House bI_House .nil pass0)) (pss_cons (ps_set (i := 2) sc_answers.nd rfl (Or.inl rfl) (pe_lst pa_nil)) (pss_cons (ps_set (i := 3) sc_answers.nd rfl (Or.inl rfl) pe_int) (pss_cons (ps_while PassesOwn.never (pt_cmpR op_lt (pv 3) (pe_callB call_len_seq rfl T.b_len PySem.boot_len (pa_cons (pv 0) pa_nil)) (nomark _)) (pss_cons (ps_set (i := 4) sc_answers.nd rfl (Or.inl rfl) (pe_op op_add (pv 3) pe_int)) (pss_cons (ps_set (i := 5) sc_answers.nd rfl (Or.inl rfl) (pe_op op_add (pv 4) (pe_ix ix_list (pv 0) (pe_op op_add (pv 3) pe_int) (fun _ _ => rfl)))) (pss_cons (ps_set (i := 6) sc_answers.nd rfl (Or.inl rfl) (pe_call G_say (hr.mono (by decide)) rfl m_say k_say b_say .nil pass0 (pa_cons (pv 1) (pa_cons (pe_slice sl_list (pv 0) (po_some (pv 4)) (po_some (pv 5))) pa_nil)))) (pss_cons (ps_expr (pe_bm PySem.F.plainAttrs_list PySem.F.slot_list_append PySem.F.type_list_append mt_append (pv 2) (pa_cons (pe_callB call_len_seq rfl T.b_len PySem.boot_len (pa_cons (pv 6) pa_nil)) pa_nil))) (pss_cons (ps_expr (pe_bm PySem.F.plainAttrs_list PySem.F.slot_list_extend PySem.F.type_list_extend mt_extend (pv 2) (pa_cons (pv 6) pa_nil))) (pss_one (ps_set (i := 3) sc_answers.nd rfl (Or.inl rfl) (pe_op op_add (pv 5) pe_int))))))))) (pss_one (ps_ret (pv 2)))))))
  case pu => obtain ⟨a, rfl, h⟩ := sp1_of h; exact pure_answers T a H Q h
end
/-! ### what the top has written -/
def addrOf (K : PySem.W.Frag) (x : Str) : Addr := match PySem.W.nsIn K mainGlobals x with
  | some (some (.ref a)) => a
  | _ => 0
theorem addr_is {K : PySem.W.Frag} {x : Str} {a : Addr} (h : PySem.W.nsIn K mainGlobals x = some (some (.ref a))) : addrOf K x = a := by unfold addrOf; rw [h]
def csOf (K : PySem.W.Frag) : Cs := ⟨addrOf K "House", addrOf K "Person", addrOf K "Ground", addrOf K "Store", addrOf K "Copy", addrOf K "Record", addrOf K "Hold", addrOf K "NOT_NAMES", addrOf K "EVENTS", addrOf K "READERS", fun i => addrOf K (rdrNames.getD i "read_name"), fun i => addrOf K (cmdNames.getD i "add_person")⟩
section
variable {K : PySem.W.Frag} {h : Heap} {mg : Str → Option Value}
theorem mk_F {x : Str} {st : Stmt} {f : Addr} {oc : Value} {od an : Option Addr} {osl : Array (Option Value)} {kV doc pm cdv ct : Value} (X : K.In h) (G : h.Ns mainGlobals mg) (a : PySem.W.nsIn K mainGlobals x = some (some (.ref f)))
    (l : K.lookup f = some ⟨oc, od, .func (PySem.W.fnOf x x (defArgs st) (defBody st) (defScope st) .none kV doc pm an cdv ct), osl⟩) (c : PySem.W.codeIn K cdv x = true) (k : PySem.W.keepIn K (.ref f) = true) : FunAt K mg x st :=
  ⟨⟨f, _, fun_mk l c k, PySem.W.mg_of X G a⟩⟩
theorem mk_I {x q : Str} {st : Stmt} {C f : Addr} {oc : Value} {od an : Option Addr} {osl : Array (Option Value)} {kV doc pm cdv ct : Value} (aC : PySem.W.nsIn K mainGlobals x = some (some (.ref C))) (mk : PySem.W.makesIn K C = true) (a : PySem.W.findIn K (.ref C) "__init__" = some (some (.ref f))) (i : PySem.W.isFn K (.ref f) = true) (kc : PySem.W.keepIn K (.ref C) = true)
    (l : K.lookup f = some ⟨oc, od, .func (PySem.W.fnOf "__init__" q (defArgs st) (defBody st) (defScope st) .none kV doc pm an cdv ct), osl⟩) (c : PySem.W.codeIn K cdv q = true) (k : PySem.W.keepIn K (.ref f) = true) : InitAt K (addrOf K x) q st := by
  rw [addr_is aC]
  exact ⟨⟨f, _, ⟨mk, a, i, kc⟩, fun_mk l c k⟩⟩
theorem mk_C {x : Str} {C : Addr} {ns : List Str} (aC : PySem.W.nsIn K mainGlobals x = some (some (.ref C))) (pg : PySem.W.plainGet K C Str.empty = true) (hd : PySem.W.hasDictIn K C = true) (po : PySem.W.plainOver K C = true) (sa : PySem.W.findIn K (.ref C) "__setattr__" = some (some (.builtin "object.__setattr__"))) (no : NoAll K C ns) : ClsAt K (addrOf K x) ns := by
  rw [addr_is aC]
  exact ⟨⟨pg, hd, po, sa⟩, no⟩
theorem no_nil {C : Addr} : NoAll K C [] := fun _ h => by cases h
theorem no_cons {C : Addr} {f : Str} {r : List Str} (h : PySem.W.findIn K (.ref C) f = some none) (n : NoAll K C r) : NoAll K C (f :: r) := fun g hg => by
  rcases List.mem_cons.mp hg with z | z
  · rw [z]; exact h
  · exact n g z
theorem mk_m {x : Str} {a : Addr} (X : K.In h) (G : h.Ns mainGlobals mg) (e : PySem.W.nsIn K mainGlobals x = some (some (.ref a))) : mg x = some (.ref (addrOf K x)) := by rw [addr_is e]; exact PySem.W.mg_of X G e
theorem mk_g {x : Str} {v : V} {u : Value} (X : K.In h) (G : h.Ns mainGlobals mg) (e : PySem.W.nsIn K mainGlobals x = some (some u)) (r : RelV v u) : GV mg x v := ⟨u, PySem.W.mg_of X G e, r⟩
theorem mk_gr {x : Str} {a : Addr} (X : K.In h) (G : h.Ns mainGlobals mg) (e : PySem.W.nsIn K mainGlobals x = some (some (.ref a))) : GV mg x (.ref (addrOf K x)) := ⟨_, mk_m X G e, rfl⟩
theorem mk_t {x : Str} {a : Addr} {o : Obj} {its : Array Value} {n : Nat} {xs : List V} (e : PySem.W.nsIn K mainGlobals x = some (some (.ref a))) (l : K.lookup a = some o) (h1 : o.cls = .type "tuple") (h2 : o.data = .seq its n) (h3 : its.size ≤ sizeLine) (h4 : Vals xs its.toList) : ∀ H, SqT K H (addrOf K x) xs := fun H => by
  rw [addr_is e]
  exact .inr ⟨o, its, n, l, h1, h2, h3, h4⟩
theorem fun_m {x : Str} {st : Stmt} (F : FunAt K mg x st) {a : Addr} (X : K.In h) (G : h.Ns mainGlobals mg) (e : PySem.W.nsIn K mainGlobals x = some (some (.ref a))) : mg x = some (.ref (addrOf K x)) := mk_m X G e
/-- defs of two names stand at two places -/
theorem fun_two {x y : Str} {st su : Stmt} (F : FunAt K mg x st) (U : FunAt K mg y su) {f : Addr} (hx : mg x = some (.ref f)) (hy : mg y = some (.ref f)) : x = y := by
  obtain ⟨f1, fd1, F1, m1⟩ := F.ex
  obtain ⟨f2, fd2, F2, m2⟩ := U.ex
  rw [hx] at m1
  rw [hy] at m2
  cases m1
  cases m2
  obtain ⟨oc, od, kV, doc, pm, an, cdv, ct, osl, e1, l1, _⟩ := F1.ex
  obtain ⟨oc2, od2, kV2, doc2, pm2, an2, cdv2, ct2, osl2, e2, l2, _⟩ := F2.ex
  rw [l1] at l2
  have z := Option.some.inj l2
  have z2 : Data.func fd1 = Data.func fd2 := congrArg Obj.data z
  have z3 : fd1 = fd2 := by injection z2
  rw [e1, e2] at z3
  exact congrArg FuncData.name z3
theorem rd_find {t0 t1 t2 t3 t4 t5 t6 : Tok} {k0 k1 k2 k3 k4 k5 k6 : Int} {a : Nat → Addr} (x : Str) : findBy Value.isStrOf #[⟨k0, .str "NAME" t0, .ref (a 0)⟩, ⟨k1, .str "NAME-OR-ANY" t1, .ref (a 1)⟩, ⟨k2, .str "EVENT" t2, .ref (a 2)⟩, ⟨k3, .str "SPAN" t3, .ref (a 3)⟩, ⟨k4, .str "DAYS" t4, .ref (a 4)⟩, ⟨k5, .str "RECORD" t5, .ref (a 5)⟩, ⟨k6, .str "RECORDS" t6, .ref (a 6)⟩] x = (rdrIx x rdrSlots 0).map fun i => .ref (a i) := by
  unfold findBy
  rw [← Array.find?_toList]
  have e : ∀ (y : Str) (t : Tok), Value.isStrOf x (.str y t) = decide (x = y) := fun y t => by
    show (y == x) = _
    by_cases h : x = y
    · rw [h]; simp
    · rw [beq_eq_false_iff_ne.mpr (fun z => h z.symm), decide_eq_false h]
  unfold rdrSlots
  simp only [List.find?, e, rdrIx]
  by_cases h0 : x = Str.ofString "NAME"
  · simp [h0]
  by_cases h1 : x = Str.ofString "NAME-OR-ANY"
  · simp only [decide_eq_false h0, decide_eq_true h1, if_neg h0, if_pos h1]; rfl
  by_cases h2 : x = Str.ofString "EVENT"
  · simp only [decide_eq_false h0, decide_eq_false h1, decide_eq_true h2, if_neg h0, if_neg h1, if_pos h2]; rfl
  by_cases h3 : x = Str.ofString "SPAN"
  · simp only [decide_eq_false h0, decide_eq_false h1, decide_eq_false h2, decide_eq_true h3, if_neg h0, if_neg h1, if_neg h2, if_pos h3]; rfl
  by_cases h4 : x = Str.ofString "DAYS"
  · simp only [decide_eq_false h0, decide_eq_false h1, decide_eq_false h2, decide_eq_false h3, decide_eq_true h4, if_neg h0, if_neg h1, if_neg h2, if_neg h3, if_pos h4]; rfl
  by_cases h5 : x = Str.ofString "RECORD"
  · simp only [decide_eq_false h0, decide_eq_false h1, decide_eq_false h2, decide_eq_false h3, decide_eq_false h4, decide_eq_true h5, if_neg h0, if_neg h1, if_neg h2, if_neg h3, if_neg h4, if_pos h5]; rfl
  by_cases h6 : x = Str.ofString "RECORDS"
  · simp only [decide_eq_false h0, decide_eq_false h1, decide_eq_false h2, decide_eq_false h3, decide_eq_false h4, decide_eq_false h5, decide_eq_true h6, if_neg h0, if_neg h1, if_neg h2, if_neg h3, if_neg h4, if_neg h5, if_pos h6]; rfl
  simp only [decide_eq_false h0, decide_eq_false h1, decide_eq_false h2, decide_eq_false h3, decide_eq_false h4, decide_eq_false h5, decide_eq_false h6, if_neg h0, if_neg h1, if_neg h2, if_neg h3, if_neg h4, if_neg h5, if_neg h6]; rfl
theorem mk_rd {w : World} {A f0 f1 f2 f3 f4 f5 f6 : Addr} {t0 t1 t2 t3 t4 t5 t6 : Tok} {n : Nat}
    (e : PySem.W.nsIn K mainGlobals "READERS" = some (some (.ref A))) (hA : (A == sysModules) = false)
    (l : K.lookup A = some ⟨.type "dict", none, .dict #[⟨PyData.keyHash w.params "NAME", .str "NAME" t0, .ref f0⟩, ⟨PyData.keyHash w.params "NAME-OR-ANY", .str "NAME-OR-ANY" t1, .ref f1⟩, ⟨PyData.keyHash w.params "EVENT", .str "EVENT" t2, .ref f2⟩, ⟨PyData.keyHash w.params "SPAN", .str "SPAN" t3, .ref f3⟩, ⟨PyData.keyHash w.params "DAYS", .str "DAYS" t4, .ref f4⟩, ⟨PyData.keyHash w.params "RECORD", .str "RECORD" t5, .ref f5⟩, ⟨PyData.keyHash w.params "RECORDS", .str "RECORDS" t6, .ref f6⟩] n, #[]⟩)
    (a0 : PySem.W.nsIn K mainGlobals "read_name" = some (some (.ref f0))) (a1 : PySem.W.nsIn K mainGlobals "read_name_or_any" = some (some (.ref f1))) (a2 : PySem.W.nsIn K mainGlobals "read_event" = some (some (.ref f2))) (a3 : PySem.W.nsIn K mainGlobals "read_span" = some (some (.ref f3))) (a4 : PySem.W.nsIn K mainGlobals "read_days" = some (some (.ref f4))) (a5 : PySem.W.nsIn K mainGlobals "read_record" = some (some (.ref f5))) (a6 : PySem.W.nsIn K mainGlobals "read_records" = some (some (.ref f6))) :
    ∃ es n, K.lookup (csOf K).a_READERS = some ⟨.type "dict", none, .dict es n, #[]⟩ ∧ PySem.W.KeysLit w.params es.toList ∧ ((csOf K).a_READERS == sysModules) = false ∧ ∀ x : Str, findBy Value.isStrOf es x = (rdrIx x rdrSlots 0).map fun i => .ref ((csOf K).rdr i) := by
  have e0 : (csOf K).a_READERS = A := addr_is e
  rw [e0]
  refine ⟨_, _, l, ⟨⟨_, _, rfl, rfl⟩, ⟨_, _, rfl, rfl⟩, ⟨_, _, rfl, rfl⟩, ⟨_, _, rfl, rfl⟩, ⟨_, _, rfl, rfl⟩, ⟨_, _, rfl, rfl⟩, ⟨_, _, rfl, rfl⟩, trivial⟩, hA, fun x => ?_⟩
  rw [← addr_is a0, ← addr_is a1, ← addr_is a2, ← addr_is a3, ← addr_is a4, ← addr_is a5, ← addr_is a6]
  exact rd_find (a := (csOf K).rdr) x
end
/-- the top, but for its defs -/
structure Bare (K : PySem.W.Frag) (w : World) (mg : Str → Option Value) : Prop where
  House : ClsAt K (addrOf K "House") nHouse
  Person : ClsAt K (addrOf K "Person") nPerson
  Ground : ClsAt K (addrOf K "Ground") nGround
  Store : ClsAt K (addrOf K "Store") nStore
  Copy : ClsAt K (addrOf K "Copy") nCopy
  Record : ClsAt K (addrOf K "Record") nRecord
  Hold : ClsAt K (addrOf K "Hold") nHold
  m_House : mg "House" = some (.ref (addrOf K "House"))
  m_Person : mg "Person" = some (.ref (addrOf K "Person"))
  m_Ground : mg "Ground" = some (.ref (addrOf K "Ground"))
  m_Store : mg "Store" = some (.ref (addrOf K "Store"))
  m_Copy : mg "Copy" = some (.ref (addrOf K "Copy"))
  m_Record : mg "Record" = some (.ref (addrOf K "Record"))
  m_Hold : mg "Hold" = some (.ref (addrOf K "Hold"))
  b_len : mg "len" = none
  b_str : mg "str" = none
  b_ord : mg "ord" = none
  b_int : mg "int" = none
  b_min : mg "min" = none
  b_max : mg "max" = none
  b_range : mg "range" = none
  b_zip : mg "zip" = none
  b_enumerate : mg "enumerate" = none
  g_MOST_GROUNDS : GV mg "MOST_GROUNDS" (.int 8)
  g_MOST_HOLDS : GV mg "MOST_HOLDS" (.int 4)
  g_MOST_PEOPLE : GV mg "MOST_PEOPLE" (.int 4)
  g_MOST_CONSENTS : GV mg "MOST_CONSENTS" (.int 4)
  g_DAYS_AHEAD : GV mg "DAYS_AHEAD" (.int 400)
  g_MOST_RECORDS : GV mg "MOST_RECORDS" (.int 16)
  g_MOST_BYTES : GV mg "MOST_BYTES" (.int 80)
  g_LOWEST_BYTE : GV mg "LOWEST_BYTE" (.int 32)
  g_HIGHEST_BYTE : GV mg "HIGHEST_BYTE" (.int 126)
  g_LETTERS : GV mg "LETTERS" (.str "abcdefghijklmnopqrstuvwxyz")
  g_SIGNS : GV mg "SIGNS" (.str " ,0123456789abcdefghijklmnopqrstuvwxyz")
  g_OTHER_SIGN : GV mg "OTHER_SIGN" (.str "?")
  g_MOST_STORES : GV mg "MOST_STORES" (.int 4)
  g_NOT_NAMES : GV mg "NOT_NAMES" (.ref (addrOf K "NOT_NAMES"))
  s_NOT_NAMES : ∀ H, SqT K H (addrOf K "NOT_NAMES") [.str "any", .str "main"]
  g_EVENTS : GV mg "EVENTS" (.ref (addrOf K "EVENTS"))
  s_EVENTS : ∀ H, SqT K H (addrOf K "EVENTS") [.str "made", .str "used", .str "ended"]
  g_READERS : GV mg "READERS" (.ref (addrOf K "READERS"))
  rd : ∃ es n, K.lookup (csOf K).a_READERS = some ⟨.type "dict", none, .dict es n, #[]⟩ ∧ PySem.W.KeysLit w.params es.toList ∧ ((csOf K).a_READERS == sysModules) = false ∧ ∀ x : Str, findBy Value.isStrOf es x = (rdrIx x rdrSlots 0).map fun i => .ref ((csOf K).rdr i)
  m_read_name : mg "read_name" = some (.ref (addrOf K "read_name"))
  m_read_name_or_any : mg "read_name_or_any" = some (.ref (addrOf K "read_name_or_any"))
  m_read_event : mg "read_event" = some (.ref (addrOf K "read_event"))
  m_read_span : mg "read_span" = some (.ref (addrOf K "read_span"))
  m_read_days : mg "read_days" = some (.ref (addrOf K "read_days"))
  m_read_record : mg "read_record" = some (.ref (addrOf K "read_record"))
  m_read_records : mg "read_records" = some (.ref (addrOf K "read_records"))
  m_add_person : mg "add_person" = some (.ref (addrOf K "add_person"))
  m_give_consent : mg "give_consent" = some (.ref (addrOf K "give_consent"))
  m_withdraw_consent : mg "withdraw_consent" = some (.ref (addrOf K "withdraw_consent"))
  m_raise_objection : mg "raise_objection" = some (.ref (addrOf K "raise_objection"))
  m_end_matter : mg "end_matter" = some (.ref (addrOf K "end_matter"))
  m_forget_person : mg "forget_person" = some (.ref (addrOf K "forget_person"))
  m_add_law_ground : mg "add_law_ground" = some (.ref (addrOf K "add_law_ground"))
  m_add_need_ground : mg "add_need_ground" = some (.ref (addrOf K "add_need_ground"))
  m_add_purpose_ground : mg "add_purpose_ground" = some (.ref (addrOf K "add_purpose_ground"))
  m_void_ground : mg "void_ground" = some (.ref (addrOf K "void_ground"))
  m_add_rolled_store : mg "add_rolled_store" = some (.ref (addrOf K "add_rolled_store"))
  m_add_other_house : mg "add_other_house" = some (.ref (addrOf K "add_other_house"))
  m_make_deaf : mg "make_deaf" = some (.ref (addrOf K "make_deaf"))
  m_make_hearing : mg "make_hearing" = some (.ref (addrOf K "make_hearing"))
  m_put_record : mg "put_record" = some (.ref (addrOf K "put_record"))
  m_make_record : mg "make_record" = some (.ref (addrOf K "make_record"))
  m_copy_record : mg "copy_record" = some (.ref (addrOf K "copy_record"))
  m_use_record : mg "use_record" = some (.ref (addrOf K "use_record"))
  m_add_hold : mg "add_hold" = some (.ref (addrOf K "add_hold"))
  m_free_hold : mg "free_hold" = some (.ref (addrOf K "free_hold"))
  m_put_back : mg "put_back" = some (.ref (addrOf K "put_back"))
  m_pass_days : mg "pass_days" = some (.ref (addrOf K "pass_days"))
  m_tell_person : mg "tell_person" = some (.ref (addrOf K "tell_person"))
  m_tell_why : mg "tell_why" = some (.ref (addrOf K "tell_why"))
  m_tell_till : mg "tell_till" = some (.ref (addrOf K "tell_till"))
  m_tell_proof : mg "tell_proof" = some (.ref (addrOf K "tell_proof"))
  m_tell_due : mg "tell_due" = some (.ref (addrOf K "tell_due"))
  m_tell_asks : mg "tell_asks" = some (.ref (addrOf K "tell_asks"))
theorem rdr_nodup : rdrNames.Nodup := by decide +kernel
theorem cmd_nodup2 : cmdNames.Nodup := by decide +kernel
theorem ix_of {l : List Str} (nd : l.Nodup) {i j : Nat} {x : Str} (hi : l[i]? = some x) (hj : l[j]? = some x) : i = j := by
  have h1 := (List.getElem?_eq_some_iff.mp hi)
  have h2 := (List.getElem?_eq_some_iff.mp hj)
  exact (List.getElem_inj nd).mp (h1.2.trans h2.2.symm)
section
variable {P : Program} {w : World} {K : PySem.W.Frag} {mg : Str → Option Value}
theorem top_of (B : Bare K w mg) (U : Funs K mg (csOf K)) : TopTxt K w mg (csOf K) := by
  have mr : ∀ (i : Nat) (x : Str), rdrNames[i]? = some x → mg x = some (.ref ((csOf K).rdr i)) := fun i x h => by
    match i, h with
    | 0, h => cases h; exact B.m_read_name
    | 1, h => cases h; exact B.m_read_name_or_any
    | 2, h => cases h; exact B.m_read_event
    | 3, h => cases h; exact B.m_read_span
    | 4, h => cases h; exact B.m_read_days
    | 5, h => cases h; exact B.m_read_record
    | 6, h => cases h; exact B.m_read_records
    | n + 7, h => exact absurd h (by simp [rdrNames])
  have mc : ∀ (i : Nat) (x : Str), cmdNames[i]? = some x → mg x = some (.ref ((csOf K).cmd i)) := fun i x h => by
    match i, h with
    | 0, h => cases h; exact B.m_add_person
    | 1, h => cases h; exact B.m_give_consent
    | 2, h => cases h; exact B.m_withdraw_consent
    | 3, h => cases h; exact B.m_raise_objection
    | 4, h => cases h; exact B.m_end_matter
    | 5, h => cases h; exact B.m_forget_person
    | 6, h => cases h; exact B.m_add_law_ground
    | 7, h => cases h; exact B.m_add_need_ground
    | 8, h => cases h; exact B.m_add_purpose_ground
    | 9, h => cases h; exact B.m_void_ground
    | 10, h => cases h; exact B.m_add_rolled_store
    | 11, h => cases h; exact B.m_add_other_house
    | 12, h => cases h; exact B.m_make_deaf
    | 13, h => cases h; exact B.m_make_hearing
    | 14, h => cases h; exact B.m_put_record
    | 15, h => cases h; exact B.m_make_record
    | 16, h => cases h; exact B.m_copy_record
    | 17, h => cases h; exact B.m_use_record
    | 18, h => cases h; exact B.m_add_hold
    | 19, h => cases h; exact B.m_free_hold
    | 20, h => cases h; exact B.m_put_back
    | 21, h => cases h; exact B.m_pass_days
    | 22, h => cases h; exact B.m_tell_person
    | 23, h => cases h; exact B.m_tell_why
    | 24, h => cases h; exact B.m_tell_till
    | 25, h => cases h; exact B.m_tell_proof
    | 26, h => cases h; exact B.m_tell_due
    | 27, h => cases h; exact B.m_tell_asks
    | n + 28, h => exact absurd h (by simp [cmdNames])
  have fr : ∀ (i : Nat) (x : Str), rdrNames[i]? = some x → ∃ st, FunAt K mg x st := fun i x h => by
    match i, h with
    | 0, h => cases h; exact ⟨_, U.F_read_name⟩
    | 1, h => cases h; exact ⟨_, U.F_read_name_or_any⟩
    | 2, h => cases h; exact ⟨_, U.F_read_event⟩
    | 3, h => cases h; exact ⟨_, U.F_read_span⟩
    | 4, h => cases h; exact ⟨_, U.F_read_days⟩
    | 5, h => cases h; exact ⟨_, U.F_read_record⟩
    | 6, h => cases h; exact ⟨_, U.F_read_records⟩
    | n + 7, h => exact absurd h (by simp [rdrNames])
  have fc : ∀ (i : Nat) (x : Str), cmdNames[i]? = some x → ∃ st, FunAt K mg x st := fun i x h => by
    match i, h with
    | 0, h => cases h; exact ⟨_, U.F_add_person⟩
    | 1, h => cases h; exact ⟨_, U.F_give_consent⟩
    | 2, h => cases h; exact ⟨_, U.F_withdraw_consent⟩
    | 3, h => cases h; exact ⟨_, U.F_raise_objection⟩
    | 4, h => cases h; exact ⟨_, U.F_end_matter⟩
    | 5, h => cases h; exact ⟨_, U.F_forget_person⟩
    | 6, h => cases h; exact ⟨_, U.F_add_law_ground⟩
    | 7, h => cases h; exact ⟨_, U.F_add_need_ground⟩
    | 8, h => cases h; exact ⟨_, U.F_add_purpose_ground⟩
    | 9, h => cases h; exact ⟨_, U.F_void_ground⟩
    | 10, h => cases h; exact ⟨_, U.F_add_rolled_store⟩
    | 11, h => cases h; exact ⟨_, U.F_add_other_house⟩
    | 12, h => cases h; exact ⟨_, U.F_make_deaf⟩
    | 13, h => cases h; exact ⟨_, U.F_make_hearing⟩
    | 14, h => cases h; exact ⟨_, U.F_put_record⟩
    | 15, h => cases h; exact ⟨_, U.F_make_record⟩
    | 16, h => cases h; exact ⟨_, U.F_copy_record⟩
    | 17, h => cases h; exact ⟨_, U.F_use_record⟩
    | 18, h => cases h; exact ⟨_, U.F_add_hold⟩
    | 19, h => cases h; exact ⟨_, U.F_free_hold⟩
    | 20, h => cases h; exact ⟨_, U.F_put_back⟩
    | 21, h => cases h; exact ⟨_, U.F_pass_days⟩
    | 22, h => cases h; exact ⟨_, U.F_tell_person⟩
    | 23, h => cases h; exact ⟨_, U.F_tell_why⟩
    | 24, h => cases h; exact ⟨_, U.F_tell_till⟩
    | 25, h => cases h; exact ⟨_, U.F_tell_proof⟩
    | 26, h => cases h; exact ⟨_, U.F_tell_due⟩
    | 27, h => cases h; exact ⟨_, U.F_tell_asks⟩
    | n + 28, h => exact absurd h (by simp [cmdNames])
  exact {
    House := B.House, m_House := B.m_House
    Person := B.Person, m_Person := B.m_Person
    Ground := B.Ground, m_Ground := B.m_Ground
    Store := B.Store, m_Store := B.m_Store
    Copy := B.Copy, m_Copy := B.m_Copy
    Record := B.Record, m_Record := B.m_Record
    Hold := B.Hold, m_Hold := B.m_Hold
    b_len := B.b_len
    b_str := B.b_str
    b_ord := B.b_ord
    b_int := B.b_int
    b_min := B.b_min
    b_max := B.b_max
    b_range := B.b_range
    b_zip := B.b_zip
    b_enumerate := B.b_enumerate
    g_MOST_GROUNDS := B.g_MOST_GROUNDS
    g_MOST_HOLDS := B.g_MOST_HOLDS
    g_MOST_PEOPLE := B.g_MOST_PEOPLE
    g_MOST_CONSENTS := B.g_MOST_CONSENTS
    g_DAYS_AHEAD := B.g_DAYS_AHEAD
    g_MOST_RECORDS := B.g_MOST_RECORDS
    g_MOST_BYTES := B.g_MOST_BYTES
    g_LOWEST_BYTE := B.g_LOWEST_BYTE
    g_HIGHEST_BYTE := B.g_HIGHEST_BYTE
    g_LETTERS := B.g_LETTERS
    g_SIGNS := B.g_SIGNS
    g_OTHER_SIGN := B.g_OTHER_SIGN
    g_MOST_STORES := B.g_MOST_STORES
    g_NOT_NAMES := B.g_NOT_NAMES, s_NOT_NAMES := B.s_NOT_NAMES, g_EVENTS := B.g_EVENTS, s_EVENTS := B.s_EVENTS, g_READERS := B.g_READERS, rd := B.rd, m_rdr := mr, m_cmd := mc
    n_rdr := fun i j hi hj e => by
      have l : rdrNames.length = 7 := rfl
      have ei := List.getElem?_eq_getElem (l := rdrNames) (i := i) (by omega)
      have ej := List.getElem?_eq_getElem (l := rdrNames) (i := j) (by omega)
      obtain ⟨_, F1⟩ := fr i _ ei
      obtain ⟨_, F2⟩ := fr j _ ej
      have z := fun_two F1 F2 (mr i _ ei) (by rw [e]; exact mr j _ ej)
      rw [← z] at ej
      exact ix_of rdr_nodup ei ej
    n_cmd := fun i j hi hj e => by
      have l : cmdNames.length = 28 := rfl
      have ei := List.getElem?_eq_getElem (l := cmdNames) (i := i) (by omega)
      have ej := List.getElem?_eq_getElem (l := cmdNames) (i := j) (by omega)
      obtain ⟨_, F1⟩ := fc i _ ei
      obtain ⟨_, F2⟩ := fc j _ ej
      have z := fun_two F1 F2 (mc i _ ei) (by rw [e]; exact mc j _ ej)
      rw [← z] at ej
      exact ix_of cmd_nodup2 ei ej }
theorem whole (B : Bare K w mg) (U : Funs K mg (csOf K)) {fa : Addr} (hfa : mg "answers" = some (.ref fa)) :
    ∃ fd : FuncData, (∀ (s : Shared) (us : List Value), us.length = (["calls"] : List Str).length → BindsTo s fd ⟨us, []⟩ ((["calls"] : List Str).zip us)) ∧ ∀ base : Heap, FnOk P w K mg base CX0 11 fa fd ["calls"] (sp1 (pr_answers K)) := by
  have T := top_of B U
  obtain ⟨f, fd, F0, mf⟩ := U.F_answers.ex
  rw [hfa] at mf
  cases mf
  refine ⟨fd, ?_, fun base => ?_⟩
  · obtain ⟨oc, od, kV, doc, pm, an, cdv, ct, osl, rfl, _⟩ := F0.ex
    exact fun s us hu => match us, hu with | [_], _ => .of_eq rfl
  · exact answers_fn T F0 (all_ok (P := P) (base := base) T U).1 (all_ok (P := P) (base := base) T U).2
end
end Kr

set_option Elab.async false
set_option linter.all false
set_option maxRecDepth 100000
set_option maxHeartbeats 4000000
namespace Kr
open PySem PySem.Spec PyProof.Rows L2
section
variable {K : PySem.W.Frag}
theorem mk_I_House {C f : Addr} {oc : Value} {od an : Option Addr} {osl : Array (Option Value)} {kV doc pm cdv ct : Value} (aC : PySem.W.nsIn K mainGlobals "House" = some (some (.ref C))) (mk : PySem.W.makesIn K C = true) (a : PySem.W.findIn K (.ref C) "__init__" = some (some (.ref f))) (i : PySem.W.isFn K (.ref f) = true) (kc : PySem.W.keepIn K (.ref C) = true)
    (l : K.lookup f = some ⟨oc, od, .func (PySem.W.fnOf "__init__" "House.__init__" (defArgs s_init_House) (defBody s_init_House) (defScope s_init_House) .none kV doc pm an cdv ct), osl⟩) (c : PySem.W.codeIn K cdv "House.__init__" = true) (k : PySem.W.keepIn K (.ref f) = true) : InitAt K (csOf K).House "House.__init__" s_init_House := mk_I (x := "House") aC mk a i kc l c k
theorem mk_I_Person {C f : Addr} {oc : Value} {od an : Option Addr} {osl : Array (Option Value)} {kV doc pm cdv ct : Value} (aC : PySem.W.nsIn K mainGlobals "Person" = some (some (.ref C))) (mk : PySem.W.makesIn K C = true) (a : PySem.W.findIn K (.ref C) "__init__" = some (some (.ref f))) (i : PySem.W.isFn K (.ref f) = true) (kc : PySem.W.keepIn K (.ref C) = true)
    (l : K.lookup f = some ⟨oc, od, .func (PySem.W.fnOf "__init__" "Person.__init__" (defArgs s_init_Person) (defBody s_init_Person) (defScope s_init_Person) .none kV doc pm an cdv ct), osl⟩) (c : PySem.W.codeIn K cdv "Person.__init__" = true) (k : PySem.W.keepIn K (.ref f) = true) : InitAt K (csOf K).Person "Person.__init__" s_init_Person := mk_I (x := "Person") aC mk a i kc l c k
theorem mk_I_Ground {C f : Addr} {oc : Value} {od an : Option Addr} {osl : Array (Option Value)} {kV doc pm cdv ct : Value} (aC : PySem.W.nsIn K mainGlobals "Ground" = some (some (.ref C))) (mk : PySem.W.makesIn K C = true) (a : PySem.W.findIn K (.ref C) "__init__" = some (some (.ref f))) (i : PySem.W.isFn K (.ref f) = true) (kc : PySem.W.keepIn K (.ref C) = true)
    (l : K.lookup f = some ⟨oc, od, .func (PySem.W.fnOf "__init__" "Ground.__init__" (defArgs s_init_Ground) (defBody s_init_Ground) (defScope s_init_Ground) .none kV doc pm an cdv ct), osl⟩) (c : PySem.W.codeIn K cdv "Ground.__init__" = true) (k : PySem.W.keepIn K (.ref f) = true) : InitAt K (csOf K).Ground "Ground.__init__" s_init_Ground := mk_I (x := "Ground") aC mk a i kc l c k
theorem mk_I_Store {C f : Addr} {oc : Value} {od an : Option Addr} {osl : Array (Option Value)} {kV doc pm cdv ct : Value} (aC : PySem.W.nsIn K mainGlobals "Store" = some (some (.ref C))) (mk : PySem.W.makesIn K C = true) (a : PySem.W.findIn K (.ref C) "__init__" = some (some (.ref f))) (i : PySem.W.isFn K (.ref f) = true) (kc : PySem.W.keepIn K (.ref C) = true)
    (l : K.lookup f = some ⟨oc, od, .func (PySem.W.fnOf "__init__" "Store.__init__" (defArgs s_init_Store) (defBody s_init_Store) (defScope s_init_Store) .none kV doc pm an cdv ct), osl⟩) (c : PySem.W.codeIn K cdv "Store.__init__" = true) (k : PySem.W.keepIn K (.ref f) = true) : InitAt K (csOf K).Store "Store.__init__" s_init_Store := mk_I (x := "Store") aC mk a i kc l c k
theorem mk_I_Copy {C f : Addr} {oc : Value} {od an : Option Addr} {osl : Array (Option Value)} {kV doc pm cdv ct : Value} (aC : PySem.W.nsIn K mainGlobals "Copy" = some (some (.ref C))) (mk : PySem.W.makesIn K C = true) (a : PySem.W.findIn K (.ref C) "__init__" = some (some (.ref f))) (i : PySem.W.isFn K (.ref f) = true) (kc : PySem.W.keepIn K (.ref C) = true)
    (l : K.lookup f = some ⟨oc, od, .func (PySem.W.fnOf "__init__" "Copy.__init__" (defArgs s_init_Copy) (defBody s_init_Copy) (defScope s_init_Copy) .none kV doc pm an cdv ct), osl⟩) (c : PySem.W.codeIn K cdv "Copy.__init__" = true) (k : PySem.W.keepIn K (.ref f) = true) : InitAt K (csOf K).Copy "Copy.__init__" s_init_Copy := mk_I (x := "Copy") aC mk a i kc l c k
theorem mk_I_Record {C f : Addr} {oc : Value} {od an : Option Addr} {osl : Array (Option Value)} {kV doc pm cdv ct : Value} (aC : PySem.W.nsIn K mainGlobals "Record" = some (some (.ref C))) (mk : PySem.W.makesIn K C = true) (a : PySem.W.findIn K (.ref C) "__init__" = some (some (.ref f))) (i : PySem.W.isFn K (.ref f) = true) (kc : PySem.W.keepIn K (.ref C) = true)
    (l : K.lookup f = some ⟨oc, od, .func (PySem.W.fnOf "__init__" "Record.__init__" (defArgs s_init_Record) (defBody s_init_Record) (defScope s_init_Record) .none kV doc pm an cdv ct), osl⟩) (c : PySem.W.codeIn K cdv "Record.__init__" = true) (k : PySem.W.keepIn K (.ref f) = true) : InitAt K (csOf K).Record "Record.__init__" s_init_Record := mk_I (x := "Record") aC mk a i kc l c k
theorem mk_I_Hold {C f : Addr} {oc : Value} {od an : Option Addr} {osl : Array (Option Value)} {kV doc pm cdv ct : Value} (aC : PySem.W.nsIn K mainGlobals "Hold" = some (some (.ref C))) (mk : PySem.W.makesIn K C = true) (a : PySem.W.findIn K (.ref C) "__init__" = some (some (.ref f))) (i : PySem.W.isFn K (.ref f) = true) (kc : PySem.W.keepIn K (.ref C) = true)
    (l : K.lookup f = some ⟨oc, od, .func (PySem.W.fnOf "__init__" "Hold.__init__" (defArgs s_init_Hold) (defBody s_init_Hold) (defScope s_init_Hold) .none kV doc pm an cdv ct), osl⟩) (c : PySem.W.codeIn K cdv "Hold.__init__" = true) (k : PySem.W.keepIn K (.ref f) = true) : InitAt K (csOf K).Hold "Hold.__init__" s_init_Hold := mk_I (x := "Hold") aC mk a i kc l c k
end
theorem whole_of {P : Program} {w : World} {K : PySem.W.Frag} {mg : Str → Option Value} {fa : Addr} (B : Bare K w mg) (U : Funs K mg (csOf K)) (hfa : mg "answers" = some (.ref fa)) :
    ∃ fd : FuncData, (∀ (s : Shared) (us : List Value), us.length = (["calls"] : List Str).length → BindsTo s fd ⟨us, []⟩ ((["calls"] : List Str).zip us)) ∧ ∀ base : Heap, K.In base → base.Ns mainGlobals mg → FnOk P w K mg base CX0 11 fa fd ["calls"] (sp1 (pr_answers K)) := by
  obtain ⟨fd, h1, h2⟩ := whole (P := P) B U hfa
  exact ⟨fd, h1, fun base _ _ => h2 base⟩
/-- what is handed in, and what is given back -/
theorem opened (K : PySem.W.Frag) (H : Hp) (xs : List V) (a : PySem.W.Codec.denoteAll PySem.Challenge.rw_keptrecords_s01_answers.args) (hO : OnlyF H) (hwi : PySem.W.Codec.withinAll PySem.Challenge.rw_keptrecords_s01_answers.args a = true) (hask : PySem.W.Codec.app PySem.Challenge.rw_keptrecords_s01_answers.args PySem.Challenge.rw_keptrecords_s01_answers.asked a = true) (hx : DwAll K H xs (PySem.W.Codec.encAll PySem.Challenge.rw_keptrecords_s01_answers.args a)) :
    sp1 (pr_answers K) xs H (fun v H' => Dw K H' v (PySem.Challenge.rw_keptrecords_s01_answers.ret.enc (PySem.W.Codec.app PySem.Challenge.rw_keptrecords_s01_answers.args PySem.Challenge.rw_keptrecords_s01_answers.f a))) fun _ _ _ => False := by
  cases hx with
  | cons h1 h2 =>
    cases h2
    cases h1 with
    | lst hs ha =>
      have e := L2.ints_dw a.1 _ ha
      subst e
      exact ⟨_, a.1, rfl, hs, hask, fun H' p hp => .lst (L2.SqL.of hp) (L2.dw_ints _)⟩
end Kr

open PySem PySem.W PyProof.Rows
set_option maxRecDepth 100000 in
set_option maxHeartbeats 80000000 in
theorem PySem.Challenge.cw_keptrecords_s01_answers_holds : PySem.Challenge.rw_keptrecords_s01_answers.Holds := by
  w_on; k_headS; (case hw => exact ⟨[.list [.int 1, .int 0, .int 0]], by decide +kernel, by decide +kernel⟩)
  k_fillS
  refine L2.walk_specK (r := PySem.Challenge.rw_keptrecords_s01_answers) (k := 11) (CX := L2.CX0) (ps := ["calls"]) (sp := fun K => Kr.sp1 (Kr.pr_answers K)) (by decide +kernel) rfl rfl ⟨rfl, by decide, by decide⟩ (fun w h Y => PySem.W.kIn_of Y) ?F ?S (fun _ _ _ _ z => z)
  case F =>
    intro w mg fa h Y KX G hmg
    refine' Kr.whole_of (P := PySem.Challenge.rw_keptrecords_s01_answers.prog) (w := w) (mg := mg) (fa := fa) ?B ?U hmg
    case U =>
      refine' ⟨?F_days_end, ?F_is_there, ?F_sources_there, ?F_stands_for, ?F_gives, ?F_is_hold_of, ?F_is_held, ?F_may_be_kept, ?F_set_copy, ?F_let_go, ?F_is_settled_today, ?F_settle_copies, ?F_all_goes, ?F_pass_day, ?F_add_ground, ?F_init_Ground, ?F_add_law_ground, ?F_add_need_ground, ?F_add_purpose_ground, ?F_void_ground, ?F_init_Hold, ?F_add_hold, ?F_free_hold, ?F_init_Person, ?F_add_person, ?F_give_consent, ?F_withdraw_consent, ?F_raise_objection, ?F_end_matter, ?F_forget_person, ?F_ground_end, ?F_record_end, ?F_days_of_going, ?F_record_refusal, ?F_init_Store, ?F_init_Copy, ?F_init_Record, ?F_init_House, ?F_add_record, ?F_put_record, ?F_make_record, ?F_copy_record, ?F_use_record, ?F_pass_days, ?F_is_text, ?F_words_of, ?F_codes_of, ?F_listed, ?F_read_name, ?F_read_name_or_any, ?F_read_event, ?F_read_number, ?F_read_span, ?F_read_days, ?F_read_record, ?F_read_records, ?F_add_store, ?F_add_rolled_store, ?F_add_other_house, ?F_store_of_way, ?F_set_hearing, ?F_make_deaf, ?F_make_hearing, ?F_lies_in, ?F_put_back, ?F_copy_row, ?F_ground_row, ?F_tell_person, ?F_tell_why, ?F_tell_till, ?F_tell_proof, ?F_tell_due, ?F_tell_asks, ?F_commands, ?F_things_told, ?F_answer_to, ?F_say, ?F_answers⟩
      (case F_days_end => refine' Kr.mk_F KX G ?a ?l ?c ?k; (case a => k_is); (case l => k_is); (case c => k_is); (case k => k_is))
      (case F_is_there => refine' Kr.mk_F KX G ?a ?l ?c ?k; (case a => k_is); (case l => k_is); (case c => k_is); (case k => k_is))
      (case F_sources_there => refine' Kr.mk_F KX G ?a ?l ?c ?k; (case a => k_is); (case l => k_is); (case c => k_is); (case k => k_is))
      (case F_stands_for => refine' Kr.mk_F KX G ?a ?l ?c ?k; (case a => k_is); (case l => k_is); (case c => k_is); (case k => k_is))
      (case F_gives => refine' Kr.mk_F KX G ?a ?l ?c ?k; (case a => k_is); (case l => k_is); (case c => k_is); (case k => k_is))
      (case F_is_hold_of => refine' Kr.mk_F KX G ?a ?l ?c ?k; (case a => k_is); (case l => k_is); (case c => k_is); (case k => k_is))
      (case F_is_held => refine' Kr.mk_F KX G ?a ?l ?c ?k; (case a => k_is); (case l => k_is); (case c => k_is); (case k => k_is))
      (case F_may_be_kept => refine' Kr.mk_F KX G ?a ?l ?c ?k; (case a => k_is); (case l => k_is); (case c => k_is); (case k => k_is))
      (case F_set_copy => refine' Kr.mk_F KX G ?a ?l ?c ?k; (case a => k_is); (case l => k_is); (case c => k_is); (case k => k_is))
      (case F_let_go => refine' Kr.mk_F KX G ?a ?l ?c ?k; (case a => k_is); (case l => k_is); (case c => k_is); (case k => k_is))
      (case F_is_settled_today => refine' Kr.mk_F KX G ?a ?l ?c ?k; (case a => k_is); (case l => k_is); (case c => k_is); (case k => k_is))
      (case F_settle_copies => refine' Kr.mk_F KX G ?a ?l ?c ?k; (case a => k_is); (case l => k_is); (case c => k_is); (case k => k_is))
      (case F_all_goes => refine' Kr.mk_F KX G ?a ?l ?c ?k; (case a => k_is); (case l => k_is); (case c => k_is); (case k => k_is))
      (case F_pass_day => refine' Kr.mk_F KX G ?a ?l ?c ?k; (case a => k_is); (case l => k_is); (case c => k_is); (case k => k_is))
      (case F_add_ground => refine' Kr.mk_F KX G ?a ?l ?c ?k; (case a => k_is); (case l => k_is); (case c => k_is); (case k => k_is))
      (case F_init_Ground => refine' Kr.mk_I_Ground ?aC ?mk ?a ?i ?kc ?l ?c ?k; (case aC => k_is); (case mk => k_is); (case a => k_is); (case i => k_is); (case kc => k_is); (case l => k_is); (case c => k_is); (case k => k_is))
      (case F_add_law_ground => refine' Kr.mk_F KX G ?a ?l ?c ?k; (case a => k_is); (case l => k_is); (case c => k_is); (case k => k_is))
      (case F_add_need_ground => refine' Kr.mk_F KX G ?a ?l ?c ?k; (case a => k_is); (case l => k_is); (case c => k_is); (case k => k_is))
      (case F_add_purpose_ground => refine' Kr.mk_F KX G ?a ?l ?c ?k; (case a => k_is); (case l => k_is); (case c => k_is); (case k => k_is))
      (case F_void_ground => refine' Kr.mk_F KX G ?a ?l ?c ?k; (case a => k_is); (case l => k_is); (case c => k_is); (case k => k_is))
      (case F_init_Hold => refine' Kr.mk_I_Hold ?aC ?mk ?a ?i ?kc ?l ?c ?k; (case aC => k_is); (case mk => k_is); (case a => k_is); (case i => k_is); (case kc => k_is); (case l => k_is); (case c => k_is); (case k => k_is))
      (case F_add_hold => refine' Kr.mk_F KX G ?a ?l ?c ?k; (case a => k_is); (case l => k_is); (case c => k_is); (case k => k_is))
      (case F_free_hold => refine' Kr.mk_F KX G ?a ?l ?c ?k; (case a => k_is); (case l => k_is); (case c => k_is); (case k => k_is))
      (case F_init_Person => refine' Kr.mk_I_Person ?aC ?mk ?a ?i ?kc ?l ?c ?k; (case aC => k_is); (case mk => k_is); (case a => k_is); (case i => k_is); (case kc => k_is); (case l => k_is); (case c => k_is); (case k => k_is))
      (case F_add_person => refine' Kr.mk_F KX G ?a ?l ?c ?k; (case a => k_is); (case l => k_is); (case c => k_is); (case k => k_is))
      (case F_give_consent => refine' Kr.mk_F KX G ?a ?l ?c ?k; (case a => k_is); (case l => k_is); (case c => k_is); (case k => k_is))
      (case F_withdraw_consent => refine' Kr.mk_F KX G ?a ?l ?c ?k; (case a => k_is); (case l => k_is); (case c => k_is); (case k => k_is))
      (case F_raise_objection => refine' Kr.mk_F KX G ?a ?l ?c ?k; (case a => k_is); (case l => k_is); (case c => k_is); (case k => k_is))
      (case F_end_matter => refine' Kr.mk_F KX G ?a ?l ?c ?k; (case a => k_is); (case l => k_is); (case c => k_is); (case k => k_is))
      (case F_forget_person => refine' Kr.mk_F KX G ?a ?l ?c ?k; (case a => k_is); (case l => k_is); (case c => k_is); (case k => k_is))
      (case F_ground_end => refine' Kr.mk_F KX G ?a ?l ?c ?k; (case a => k_is); (case l => k_is); (case c => k_is); (case k => k_is))
      (case F_record_end => refine' Kr.mk_F KX G ?a ?l ?c ?k; (case a => k_is); (case l => k_is); (case c => k_is); (case k => k_is))
      (case F_days_of_going => refine' Kr.mk_F KX G ?a ?l ?c ?k; (case a => k_is); (case l => k_is); (case c => k_is); (case k => k_is))
      (case F_record_refusal => refine' Kr.mk_F KX G ?a ?l ?c ?k; (case a => k_is); (case l => k_is); (case c => k_is); (case k => k_is))
      (case F_init_Store => refine' Kr.mk_I_Store ?aC ?mk ?a ?i ?kc ?l ?c ?k; (case aC => k_is); (case mk => k_is); (case a => k_is); (case i => k_is); (case kc => k_is); (case l => k_is); (case c => k_is); (case k => k_is))
      (case F_init_Copy => refine' Kr.mk_I_Copy ?aC ?mk ?a ?i ?kc ?l ?c ?k; (case aC => k_is); (case mk => k_is); (case a => k_is); (case i => k_is); (case kc => k_is); (case l => k_is); (case c => k_is); (case k => k_is))
      (case F_init_Record => refine' Kr.mk_I_Record ?aC ?mk ?a ?i ?kc ?l ?c ?k; (case aC => k_is); (case mk => k_is); (case a => k_is); (case i => k_is); (case kc => k_is); (case l => k_is); (case c => k_is); (case k => k_is))
      (case F_init_House => refine' Kr.mk_I_House ?aC ?mk ?a ?i ?kc ?l ?c ?k; (case aC => k_is); (case mk => k_is); (case a => k_is); (case i => k_is); (case kc => k_is); (case l => k_is); (case c => k_is); (case k => k_is))
      (case F_add_record => refine' Kr.mk_F KX G ?a ?l ?c ?k; (case a => k_is); (case l => k_is); (case c => k_is); (case k => k_is))
      (case F_put_record => refine' Kr.mk_F KX G ?a ?l ?c ?k; (case a => k_is); (case l => k_is); (case c => k_is); (case k => k_is))
      (case F_make_record => refine' Kr.mk_F KX G ?a ?l ?c ?k; (case a => k_is); (case l => k_is); (case c => k_is); (case k => k_is))
      (case F_copy_record => refine' Kr.mk_F KX G ?a ?l ?c ?k; (case a => k_is); (case l => k_is); (case c => k_is); (case k => k_is))
      (case F_use_record => refine' Kr.mk_F KX G ?a ?l ?c ?k; (case a => k_is); (case l => k_is); (case c => k_is); (case k => k_is))
      (case F_pass_days => refine' Kr.mk_F KX G ?a ?l ?c ?k; (case a => k_is); (case l => k_is); (case c => k_is); (case k => k_is))
      (case F_is_text => refine' Kr.mk_F KX G ?a ?l ?c ?k; (case a => k_is); (case l => k_is); (case c => k_is); (case k => k_is))
      (case F_words_of => refine' Kr.mk_F KX G ?a ?l ?c ?k; (case a => k_is); (case l => k_is); (case c => k_is); (case k => k_is))
      (case F_codes_of => refine' Kr.mk_F KX G ?a ?l ?c ?k; (case a => k_is); (case l => k_is); (case c => k_is); (case k => k_is))
      (case F_listed => refine' Kr.mk_F KX G ?a ?l ?c ?k; (case a => k_is); (case l => k_is); (case c => k_is); (case k => k_is))
      (case F_read_name => refine' Kr.mk_F KX G ?a ?l ?c ?k; (case a => k_is); (case l => k_is); (case c => k_is); (case k => k_is))
      (case F_read_name_or_any => refine' Kr.mk_F KX G ?a ?l ?c ?k; (case a => k_is); (case l => k_is); (case c => k_is); (case k => k_is))
      (case F_read_event => refine' Kr.mk_F KX G ?a ?l ?c ?k; (case a => k_is); (case l => k_is); (case c => k_is); (case k => k_is))
      (case F_read_number => refine' Kr.mk_F KX G ?a ?l ?c ?k; (case a => k_is); (case l => k_is); (case c => k_is); (case k => k_is))
      (case F_read_span => refine' Kr.mk_F KX G ?a ?l ?c ?k; (case a => k_is); (case l => k_is); (case c => k_is); (case k => k_is))
      (case F_read_days => refine' Kr.mk_F KX G ?a ?l ?c ?k; (case a => k_is); (case l => k_is); (case c => k_is); (case k => k_is))
      (case F_read_record => refine' Kr.mk_F KX G ?a ?l ?c ?k; (case a => k_is); (case l => k_is); (case c => k_is); (case k => k_is))
      (case F_read_records => refine' Kr.mk_F KX G ?a ?l ?c ?k; (case a => k_is); (case l => k_is); (case c => k_is); (case k => k_is))
      (case F_add_store => refine' Kr.mk_F KX G ?a ?l ?c ?k; (case a => k_is); (case l => k_is); (case c => k_is); (case k => k_is))
      (case F_add_rolled_store => refine' Kr.mk_F KX G ?a ?l ?c ?k; (case a => k_is); (case l => k_is); (case c => k_is); (case k => k_is))
      (case F_add_other_house => refine' Kr.mk_F KX G ?a ?l ?c ?k; (case a => k_is); (case l => k_is); (case c => k_is); (case k => k_is))
      (case F_store_of_way => refine' Kr.mk_F KX G ?a ?l ?c ?k; (case a => k_is); (case l => k_is); (case c => k_is); (case k => k_is))
      (case F_set_hearing => refine' Kr.mk_F KX G ?a ?l ?c ?k; (case a => k_is); (case l => k_is); (case c => k_is); (case k => k_is))
      (case F_make_deaf => refine' Kr.mk_F KX G ?a ?l ?c ?k; (case a => k_is); (case l => k_is); (case c => k_is); (case k => k_is))
      (case F_make_hearing => refine' Kr.mk_F KX G ?a ?l ?c ?k; (case a => k_is); (case l => k_is); (case c => k_is); (case k => k_is))
      (case F_lies_in => refine' Kr.mk_F KX G ?a ?l ?c ?k; (case a => k_is); (case l => k_is); (case c => k_is); (case k => k_is))
      (case F_put_back => refine' Kr.mk_F KX G ?a ?l ?c ?k; (case a => k_is); (case l => k_is); (case c => k_is); (case k => k_is))
      (case F_copy_row => refine' Kr.mk_F KX G ?a ?l ?c ?k; (case a => k_is); (case l => k_is); (case c => k_is); (case k => k_is))
      (case F_ground_row => refine' Kr.mk_F KX G ?a ?l ?c ?k; (case a => k_is); (case l => k_is); (case c => k_is); (case k => k_is))
      (case F_tell_person => refine' Kr.mk_F KX G ?a ?l ?c ?k; (case a => k_is); (case l => k_is); (case c => k_is); (case k => k_is))
      (case F_tell_why => refine' Kr.mk_F KX G ?a ?l ?c ?k; (case a => k_is); (case l => k_is); (case c => k_is); (case k => k_is))
      (case F_tell_till => refine' Kr.mk_F KX G ?a ?l ?c ?k; (case a => k_is); (case l => k_is); (case c => k_is); (case k => k_is))
      (case F_tell_proof => refine' Kr.mk_F KX G ?a ?l ?c ?k; (case a => k_is); (case l => k_is); (case c => k_is); (case k => k_is))
      (case F_tell_due => refine' Kr.mk_F KX G ?a ?l ?c ?k; (case a => k_is); (case l => k_is); (case c => k_is); (case k => k_is))
      (case F_tell_asks => refine' Kr.mk_F KX G ?a ?l ?c ?k; (case a => k_is); (case l => k_is); (case c => k_is); (case k => k_is))
      (case F_commands => refine' Kr.mk_F KX G ?a ?l ?c ?k; (case a => k_is); (case l => k_is); (case c => k_is); (case k => k_is))
      (case F_things_told => refine' Kr.mk_F KX G ?a ?l ?c ?k; (case a => k_is); (case l => k_is); (case c => k_is); (case k => k_is))
      (case F_answer_to => refine' Kr.mk_F KX G ?a ?l ?c ?k; (case a => k_is); (case l => k_is); (case c => k_is); (case k => k_is))
      (case F_say => refine' Kr.mk_F KX G ?a ?l ?c ?k; (case a => k_is); (case l => k_is); (case c => k_is); (case k => k_is))
      (case F_answers => refine' Kr.mk_F KX G ?a ?l ?c ?k; (case a => k_is); (case l => k_is); (case c => k_is); (case k => k_is))
    case B =>
      refine' ⟨?House, ?Person, ?Ground, ?Store, ?Copy, ?Record, ?Hold, ?m_House, ?m_Person, ?m_Ground, ?m_Store, ?m_Copy, ?m_Record, ?m_Hold, ?b_len, ?b_str, ?b_ord, ?b_int, ?b_min, ?b_max, ?b_range, ?b_zip, ?b_enumerate, ?g_MOST_GROUNDS, ?g_MOST_HOLDS, ?g_MOST_PEOPLE, ?g_MOST_CONSENTS, ?g_DAYS_AHEAD, ?g_MOST_RECORDS, ?g_MOST_BYTES, ?g_LOWEST_BYTE, ?g_HIGHEST_BYTE, ?g_LETTERS, ?g_SIGNS, ?g_OTHER_SIGN, ?g_MOST_STORES, ?g_NOT_NAMES, ?s_NOT_NAMES, ?g_EVENTS, ?s_EVENTS, ?g_READERS, ?rd, ?m_read_name, ?m_read_name_or_any, ?m_read_event, ?m_read_span, ?m_read_days, ?m_read_record, ?m_read_records, ?m_add_person, ?m_give_consent, ?m_withdraw_consent, ?m_raise_objection, ?m_end_matter, ?m_forget_person, ?m_add_law_ground, ?m_add_need_ground, ?m_add_purpose_ground, ?m_void_ground, ?m_add_rolled_store, ?m_add_other_house, ?m_make_deaf, ?m_make_hearing, ?m_put_record, ?m_make_record, ?m_copy_record, ?m_use_record, ?m_add_hold, ?m_free_hold, ?m_put_back, ?m_pass_days, ?m_tell_person, ?m_tell_why, ?m_tell_till, ?m_tell_proof, ?m_tell_due, ?m_tell_asks⟩
      (case House => refine' Kr.mk_C ?aC ?pg ?hd ?po ?sa (Kr.no_cons ?n0 (Kr.no_cons ?n1 (Kr.no_cons ?n2 (Kr.no_cons ?n3 (Kr.no_cons ?n4 (Kr.no_cons ?n5 (Kr.no_cons ?n6 Kr.no_nil))))))); (case aC => k_is); (case pg => k_is); (case hd => k_is); (case po => k_is); (case sa => k_is); (case n0 => k_is); (case n1 => k_is); (case n2 => k_is); (case n3 => k_is); (case n4 => k_is); (case n5 => k_is); (case n6 => k_is))
      (case Person => refine' Kr.mk_C ?aC ?pg ?hd ?po ?sa (Kr.no_cons ?n0 (Kr.no_cons ?n1 (Kr.no_cons ?n2 (Kr.no_cons ?n3 Kr.no_nil)))); (case aC => k_is); (case pg => k_is); (case hd => k_is); (case po => k_is); (case sa => k_is); (case n0 => k_is); (case n1 => k_is); (case n2 => k_is); (case n3 => k_is))
      (case Ground => refine' Kr.mk_C ?aC ?pg ?hd ?po ?sa (Kr.no_cons ?n0 (Kr.no_cons ?n1 (Kr.no_cons ?n2 (Kr.no_cons ?n3 (Kr.no_cons ?n4 (Kr.no_cons ?n5 Kr.no_nil)))))); (case aC => k_is); (case pg => k_is); (case hd => k_is); (case po => k_is); (case sa => k_is); (case n0 => k_is); (case n1 => k_is); (case n2 => k_is); (case n3 => k_is); (case n4 => k_is); (case n5 => k_is))
      (case Store => refine' Kr.mk_C ?aC ?pg ?hd ?po ?sa (Kr.no_cons ?n0 (Kr.no_cons ?n1 (Kr.no_cons ?n2 (Kr.no_cons ?n3 Kr.no_nil)))); (case aC => k_is); (case pg => k_is); (case hd => k_is); (case po => k_is); (case sa => k_is); (case n0 => k_is); (case n1 => k_is); (case n2 => k_is); (case n3 => k_is))
      (case Copy => refine' Kr.mk_C ?aC ?pg ?hd ?po ?sa (Kr.no_cons ?n0 (Kr.no_cons ?n1 (Kr.no_cons ?n2 Kr.no_nil))); (case aC => k_is); (case pg => k_is); (case hd => k_is); (case po => k_is); (case sa => k_is); (case n0 => k_is); (case n1 => k_is); (case n2 => k_is))
      (case Record => refine' Kr.mk_C ?aC ?pg ?hd ?po ?sa (Kr.no_cons ?n0 (Kr.no_cons ?n1 (Kr.no_cons ?n2 (Kr.no_cons ?n3 (Kr.no_cons ?n4 (Kr.no_cons ?n5 (Kr.no_cons ?n6 (Kr.no_cons ?n7 Kr.no_nil)))))))); (case aC => k_is); (case pg => k_is); (case hd => k_is); (case po => k_is); (case sa => k_is); (case n0 => k_is); (case n1 => k_is); (case n2 => k_is); (case n3 => k_is); (case n4 => k_is); (case n5 => k_is); (case n6 => k_is); (case n7 => k_is))
      (case Hold => refine' Kr.mk_C ?aC ?pg ?hd ?po ?sa (Kr.no_cons ?n0 (Kr.no_cons ?n1 (Kr.no_cons ?n2 Kr.no_nil))); (case aC => k_is); (case pg => k_is); (case hd => k_is); (case po => k_is); (case sa => k_is); (case n0 => k_is); (case n1 => k_is); (case n2 => k_is))
      (case m_House => refine' Kr.mk_m KX G ?e; (case e => k_is))
      (case m_Person => refine' Kr.mk_m KX G ?e; (case e => k_is))
      (case m_Ground => refine' Kr.mk_m KX G ?e; (case e => k_is))
      (case m_Store => refine' Kr.mk_m KX G ?e; (case e => k_is))
      (case m_Copy => refine' Kr.mk_m KX G ?e; (case e => k_is))
      (case m_Record => refine' Kr.mk_m KX G ?e; (case e => k_is))
      (case m_Hold => refine' Kr.mk_m KX G ?e; (case e => k_is))
      (case b_len => refine' PySem.W.mg_none_of KX G ?e; (case e => k_is))
      (case b_str => refine' PySem.W.mg_none_of KX G ?e; (case e => k_is))
      (case b_ord => refine' PySem.W.mg_none_of KX G ?e; (case e => k_is))
      (case b_int => refine' PySem.W.mg_none_of KX G ?e; (case e => k_is))
      (case b_min => refine' PySem.W.mg_none_of KX G ?e; (case e => k_is))
      (case b_max => refine' PySem.W.mg_none_of KX G ?e; (case e => k_is))
      (case b_range => refine' PySem.W.mg_none_of KX G ?e; (case e => k_is))
      (case b_zip => refine' PySem.W.mg_none_of KX G ?e; (case e => k_is))
      (case b_enumerate => refine' PySem.W.mg_none_of KX G ?e; (case e => k_is))
      (case g_MOST_GROUNDS => refine' Kr.mk_g KX G ?e ?r; (case e => k_is); (case r => exact ⟨_, rfl⟩))
      (case g_MOST_HOLDS => refine' Kr.mk_g KX G ?e ?r; (case e => k_is); (case r => exact ⟨_, rfl⟩))
      (case g_MOST_PEOPLE => refine' Kr.mk_g KX G ?e ?r; (case e => k_is); (case r => exact ⟨_, rfl⟩))
      (case g_MOST_CONSENTS => refine' Kr.mk_g KX G ?e ?r; (case e => k_is); (case r => exact ⟨_, rfl⟩))
      (case g_DAYS_AHEAD => refine' Kr.mk_g KX G ?e ?r; (case e => k_is); (case r => exact ⟨_, rfl⟩))
      (case g_MOST_RECORDS => refine' Kr.mk_g KX G ?e ?r; (case e => k_is); (case r => exact ⟨_, rfl⟩))
      (case g_MOST_BYTES => refine' Kr.mk_g KX G ?e ?r; (case e => k_is); (case r => exact ⟨_, rfl⟩))
      (case g_LOWEST_BYTE => refine' Kr.mk_g KX G ?e ?r; (case e => k_is); (case r => exact ⟨_, rfl⟩))
      (case g_HIGHEST_BYTE => refine' Kr.mk_g KX G ?e ?r; (case e => k_is); (case r => exact ⟨_, rfl⟩))
      (case g_LETTERS => refine' Kr.mk_g KX G ?e ?r; (case e => k_is); (case r => exact ⟨_, rfl⟩))
      (case g_SIGNS => refine' Kr.mk_g KX G ?e ?r; (case e => k_is); (case r => exact ⟨_, rfl⟩))
      (case g_OTHER_SIGN => refine' Kr.mk_g KX G ?e ?r; (case e => k_is); (case r => exact ⟨_, rfl⟩))
      (case g_MOST_STORES => refine' Kr.mk_g KX G ?e ?r; (case e => k_is); (case r => exact ⟨_, rfl⟩))
      (case g_NOT_NAMES => refine' Kr.mk_gr KX G ?e; (case e => k_is))
      (case s_NOT_NAMES => refine' Kr.mk_t ?e ?l ?h1 ?h2 ?h3 ?h4; (case e => k_is); (case l => k_is); (case h1 => exact rfl); (case h2 => exact rfl); (case h3 => exact Nat.le_of_ble_eq_true rfl); (case h4 => exact .cons ⟨_, rfl⟩ (.cons ⟨_, rfl⟩ .nil)))
      (case g_EVENTS => refine' Kr.mk_gr KX G ?e; (case e => k_is))
      (case s_EVENTS => refine' Kr.mk_t ?e ?l ?h1 ?h2 ?h3 ?h4; (case e => k_is); (case l => k_is); (case h1 => exact rfl); (case h2 => exact rfl); (case h3 => exact Nat.le_of_ble_eq_true rfl); (case h4 => exact .cons ⟨_, rfl⟩ (.cons ⟨_, rfl⟩ (.cons ⟨_, rfl⟩ .nil))))
      (case g_READERS => refine' Kr.mk_gr KX G ?e; (case e => k_is))
      (case rd => refine' Kr.mk_rd ?e ?hA ?l ?a0 ?a1 ?a2 ?a3 ?a4 ?a5 ?a6; (case e => k_is); (case hA => exact rfl); (case l => k_is); (case a0 => k_is); (case a1 => k_is); (case a2 => k_is); (case a3 => k_is); (case a4 => k_is); (case a5 => k_is); (case a6 => k_is))
      (case m_read_name => refine' Kr.mk_m KX G ?e; (case e => k_is))
      (case m_read_name_or_any => refine' Kr.mk_m KX G ?e; (case e => k_is))
      (case m_read_event => refine' Kr.mk_m KX G ?e; (case e => k_is))
      (case m_read_span => refine' Kr.mk_m KX G ?e; (case e => k_is))
      (case m_read_days => refine' Kr.mk_m KX G ?e; (case e => k_is))
      (case m_read_record => refine' Kr.mk_m KX G ?e; (case e => k_is))
      (case m_read_records => refine' Kr.mk_m KX G ?e; (case e => k_is))
      (case m_add_person => refine' Kr.mk_m KX G ?e; (case e => k_is))
      (case m_give_consent => refine' Kr.mk_m KX G ?e; (case e => k_is))
      (case m_withdraw_consent => refine' Kr.mk_m KX G ?e; (case e => k_is))
      (case m_raise_objection => refine' Kr.mk_m KX G ?e; (case e => k_is))
      (case m_end_matter => refine' Kr.mk_m KX G ?e; (case e => k_is))
      (case m_forget_person => refine' Kr.mk_m KX G ?e; (case e => k_is))
      (case m_add_law_ground => refine' Kr.mk_m KX G ?e; (case e => k_is))
      (case m_add_need_ground => refine' Kr.mk_m KX G ?e; (case e => k_is))
      (case m_add_purpose_ground => refine' Kr.mk_m KX G ?e; (case e => k_is))
      (case m_void_ground => refine' Kr.mk_m KX G ?e; (case e => k_is))
      (case m_add_rolled_store => refine' Kr.mk_m KX G ?e; (case e => k_is))
      (case m_add_other_house => refine' Kr.mk_m KX G ?e; (case e => k_is))
      (case m_make_deaf => refine' Kr.mk_m KX G ?e; (case e => k_is))
      (case m_make_hearing => refine' Kr.mk_m KX G ?e; (case e => k_is))
      (case m_put_record => refine' Kr.mk_m KX G ?e; (case e => k_is))
      (case m_make_record => refine' Kr.mk_m KX G ?e; (case e => k_is))
      (case m_copy_record => refine' Kr.mk_m KX G ?e; (case e => k_is))
      (case m_use_record => refine' Kr.mk_m KX G ?e; (case e => k_is))
      (case m_add_hold => refine' Kr.mk_m KX G ?e; (case e => k_is))
      (case m_free_hold => refine' Kr.mk_m KX G ?e; (case e => k_is))
      (case m_put_back => refine' Kr.mk_m KX G ?e; (case e => k_is))
      (case m_pass_days => refine' Kr.mk_m KX G ?e; (case e => k_is))
      (case m_tell_person => refine' Kr.mk_m KX G ?e; (case e => k_is))
      (case m_tell_why => refine' Kr.mk_m KX G ?e; (case e => k_is))
      (case m_tell_till => refine' Kr.mk_m KX G ?e; (case e => k_is))
      (case m_tell_proof => refine' Kr.mk_m KX G ?e; (case e => k_is))
      (case m_tell_due => refine' Kr.mk_m KX G ?e; (case e => k_is))
      (case m_tell_asks => refine' Kr.mk_m KX G ?e; (case e => k_is))
  case S => exact Kr.opened
#print axioms PySem.Challenge.cw_keptrecords_s01_answers_holds
