import PyProof.Rows.All
import Wide.All
import OpenK.AllK
import Wide.FinOn
import Open.SpecLaws
import KE.OsGo
import HandS.ForMost
import HandS.ForSpec
import HandS.SetFor
import HandS.Strs
import HandS.SetKeys
import HandS.TupAny
import HandS.TupSets
import HandS.CallLocal
import HandS.CallRecv
import HandS.Conv
import HandS.Walk
import HandS.Flow
import PySem.Challenge.RW_leftopen_s01_answers
set_option Elab.async false
set_option linter.all false
set_option maxRecDepth 100000
set_option maxHeartbeats 4000000
namespace Lo
open So01 (World Ask)
/-! ### all worlds -/
def more (h : Nat) (w : World) : List World := (List.range (h + 1)).map fun v => w ++ [v]
theorem worlds_more (h : Nat) : ∀ n, So01.worlds h (n + 1) = (So01.worlds h n).flatMap (more h)
  | 0 => by
    show ((List.range (h + 1)).flatMap fun v => [[v]]) = [[]].flatMap (more h)
    rw [List.flatMap_cons, List.flatMap_nil, List.append_nil]
    unfold more
    induction List.range (h + 1) with
    | nil => rfl
    | cons a r ih =>
      rw [List.flatMap_cons, List.map_cons, ih]
      rfl
  | n + 1 => by
    have ih := worlds_more h n
    show ((List.range (h + 1)).flatMap fun v => (So01.worlds h (n + 1)).map fun w => v :: w) = ((List.range (h + 1)).flatMap fun v => (So01.worlds h n).map fun w => v :: w).flatMap (more h)
    rw [List.flatMap_assoc]
    refine congrArg (fun f => List.flatMap f (List.range (h + 1))) (funext fun v => ?_)
    rw [ih, List.map_flatMap, List.flatMap_map]
    refine congrArg (fun f => List.flatMap f (So01.worlds h n)) (funext fun w => ?_)
    unfold more
    rw [List.map_map]
    rfl
theorem worlds_length (h : Nat) : ∀ n, (So01.worlds h n).length = (h + 1) ^ n
  | 0 => rfl
  | n + 1 => by
    rw [worlds_more, List.length_flatMap]
    have e : (fun w => (more h w).length) = fun _ => h + 1 := by
      funext w
      unfold more
      rw [List.length_map, List.length_range]
    rw [e, List.map_const', List.sum_replicate_nat, worlds_length h n, Nat.pow_succ]
theorem mem_worlds {h : Nat} : ∀ {n : Nat} {w : World}, w ∈ So01.worlds h n ↔ w.length = n ∧ ∀ x ∈ w, x ≤ h
  | 0, w => by
    show w ∈ [[]] ↔ _
    cases w <;> simp
  | n + 1, w => by
    show w ∈ ((List.range (h + 1)).flatMap fun v => (So01.worlds h n).map fun w => v :: w) ↔ _
    cases w with
    | nil => simp
    | cons a r =>
      simp only [List.mem_flatMap, List.mem_range, List.mem_map, List.cons.injEq, List.length_cons, Nat.add_right_cancel_iff, List.mem_cons, forall_eq_or_imp]
      constructor
      · rintro ⟨v, hv, w, hw, rfl, rfl⟩
        have := mem_worlds.mp hw
        exact ⟨this.1, by omega, this.2⟩
      · rintro ⟨h1, h2, h3⟩
        exact ⟨a, by omega, r, mem_worlds.mpr ⟨h1, h3⟩, rfl, rfl⟩
/-! ### sets of numbers, rising -/
theorem mem_insert {a x : Nat} : ∀ {l : List Nat}, x ∈ So01.insert a l ↔ x = a ∨ x ∈ l
  | [] => by simp [So01.insert]
  | y :: l => by
    unfold So01.insert
    split
    · simp
    · split
      · rename_i e
        subst e
        simp
      · rw [List.mem_cons, mem_insert, List.mem_cons]
        constructor <;> (rintro (h | h | h) <;> simp_all)
theorem insert_rises {a : Nat} : ∀ {l : List Nat}, l.Pairwise (· < ·) → (So01.insert a l).Pairwise (· < ·)
  | [], _ => by simp [So01.insert]
  | y :: l, h => by
    have h2 := List.pairwise_cons.mp h
    unfold So01.insert
    split
    · rename_i c
      refine List.pairwise_cons.mpr ⟨fun x hx => ?_, h⟩
      rcases List.mem_cons.mp hx with e | e
      · omega
      · have := h2.1 x e
        omega
    · split
      · exact h
      · rename_i c1 c2
        refine List.pairwise_cons.mpr ⟨fun x hx => ?_, insert_rises h2.2⟩
        rcases mem_insert.mp hx with e | e
        · omega
        · exact h2.1 x e
theorem fold_set : ∀ (l r : List Nat), r.Pairwise (· < ·) → (l.foldl (fun r a => So01.insert a r) r).Pairwise (· < ·) ∧ ∀ x, x ∈ l.foldl (fun r a => So01.insert a r) r ↔ x ∈ l ∨ x ∈ r
  | [], r, h => ⟨h, fun x => by simp⟩
  | a :: l, r, h => by
    have q := fold_set l (So01.insert a r) (insert_rises h)
    refine ⟨q.1, fun x => ?_⟩
    rw [List.foldl_cons, q.2, mem_insert, List.mem_cons]
    constructor
    · rintro (h | h | h)
      · exact .inl (.inr h)
      · exact .inl (.inl h)
      · exact .inr h
    · rintro ((h | h) | h)
      · exact .inr (.inl h)
      · exact .inl h
      · exact .inr (.inr h)
theorem setOf_rises (l : List Nat) : (So01.setOf l).Pairwise (· < ·) := (fold_set l [] List.Pairwise.nil).1
theorem mem_setOf {l : List Nat} {x : Nat} : x ∈ So01.setOf l ↔ x ∈ l := by
  have := (fold_set l [] List.Pairwise.nil).2 x
  simpa [So01.setOf] using this
theorem rises_one : ∀ {l r : List Nat}, l.Pairwise (· < ·) → r.Pairwise (· < ·) → (∀ x, x ∈ l ↔ x ∈ r) → l = r
  | [], [], _, _, _ => rfl
  | [], b :: r, _, _, h => by have := (h b).mpr (by simp); simp at this
  | a :: l, [], _, _, h => by have := (h a).mp (by simp); simp at this
  | a :: l, b :: r, hl, hr, h => by
    have l2 := List.pairwise_cons.mp hl
    have r2 := List.pairwise_cons.mp hr
    have e : a = b := by
      have h1 := (h a).mp (by simp)
      have h2 := (h b).mpr (by simp)
      rcases List.mem_cons.mp h1 with e | e
      · exact e
      · rcases List.mem_cons.mp h2 with e2 | e2
        · exact e2.symm
        · have := r2.1 a e
          have := l2.1 b e2
          omega
    subst e
    refine congrArg _ (rises_one l2.2 r2.2 fun x => ?_)
    constructor
    · intro hx
      have := (h x).mp (List.mem_cons_of_mem _ hx)
      rcases List.mem_cons.mp this with e | e
      · have := l2.1 x hx
        omega
      · exact e
    · intro hx
      have := (h x).mpr (List.mem_cons_of_mem _ hx)
      rcases List.mem_cons.mp this with e | e
      · have := r2.1 x hx
        omega
      · exact e
/-- a rising list of whole numbers that has just the members of l is the set of l -/
theorem setOf_is {l : List Nat} {ns : List Int} (h : ns.Pairwise (· < ·)) (m : ∀ k : Int, k ∈ ns ↔ ∃ x ∈ l, k = (x : Int)) : ns = (So01.setOf l).map fun (n : Nat) => (n : Int) := by
  have e : ns = (ns.map Int.toNat).map fun (n : Nat) => (n : Int) := by
    rw [List.map_map]
    refine (List.map_id ns).symm.trans (List.map_congr_left fun k hk => ?_)
    obtain ⟨x, _, rfl⟩ := (m k).mp hk
    rfl
  rw [e]
  refine congrArg _ (rises_one ?_ (setOf_rises l) fun x => ?_)
  · refine List.pairwise_map.mpr (List.Pairwise.imp_of_mem (fun {a b} ha hb hab => ?_) h)
    obtain ⟨x, _, rfl⟩ := (m a).mp ha
    obtain ⟨y, _, rfl⟩ := (m b).mp hb
    omega
  · rw [mem_setOf, List.mem_map]
    constructor
    · rintro ⟨k, hk, rfl⟩
      obtain ⟨y, hy, rfl⟩ := (m k).mp hk
      exact hy
    · intro hx
      exact ⟨x, (m x).mpr ⟨x, hx, rfl⟩, rfl⟩
theorem rises_head {m : Nat} : ∀ {l : List Nat}, l.Pairwise (· < ·) → m ∈ l → (∀ x ∈ l, m ≤ x) → l.headD 0 = m
  | [], _, h, _ => by simp at h
  | a :: l, hl, h, hm => by
    show a = m
    have h1 := hm a (by simp)
    rcases List.mem_cons.mp h with e | e
    · exact e.symm
    · have := (List.pairwise_cons.mp hl).1 m e
      omega
theorem rises_last {m : Nat} : ∀ {l : List Nat}, l.Pairwise (· < ·) → m ∈ l → (∀ x ∈ l, x ≤ m) → l.getLastD 0 = m
  | [], _, h, _ => by simp at h
  | [a], _, h, _ => by simp at h; exact h.symm
  | a :: b :: l, hl, h, hm => by
    show (b :: l).getLastD a = m
    have l2 := List.pairwise_cons.mp hl
    have hmb : m ∈ b :: l := by
      rcases List.mem_cons.mp h with e | e
      · have := l2.1 b (by simp)
        have := hm b (by simp)
        omega
      · exact e
    have := rises_last l2.2 hmb fun x hx => hm x (List.mem_cons_of_mem _ hx)
    rw [← this]
    rfl
/-- how wide: by the greatest and the least -/
theorem wide_is {ws : List World} {i M m : Nat} (hM : M ∈ ws.map fun w => So01.has w i) (hMx : ∀ x ∈ ws.map fun w => So01.has w i, x ≤ M) (hm : m ∈ ws.map fun w => So01.has w i) (hmx : ∀ x ∈ ws.map fun w => So01.has w i, m ≤ x) :
    So01.wide ws i = M - m := by
  unfold So01.wide So01.mayHave
  rw [rises_last (setOf_rises _) (mem_setOf.mpr hM) fun x hx => hMx x (mem_setOf.mp hx), rises_head (setOf_rises _) (mem_setOf.mpr hm) fun x hx => hmx x (mem_setOf.mp hx)]
/-! ### what a question's answer is -/
theorem sum_is : ∀ (l : List Nat), (l.map fun (n : Nat) => (n : Int)).sum = ((l.foldr (fun x n => x + n) 0 : Nat) : Int)
  | [] => rfl
  | a :: l => by
    rw [List.map_cons, List.sum_cons, sum_is l, List.foldr_cons]
    omega
theorem foldr_max_le : ∀ (l : List Nat) {x : Nat}, x ∈ l → x ≤ l.foldr max 0
  | a :: l, x, h => by
    rw [List.foldr_cons]
    rcases List.mem_cons.mp h with e | e
    · subst e; omega
    · have := foldr_max_le l e; omega
theorem foldr_max_mem : ∀ (l : List Nat), l ≠ [] → l.foldr max 0 ∈ l
  | [a], _ => by simp
  | a :: b :: l, _ => by
    have ih := foldr_max_mem (b :: l) (by simp)
    rw [List.foldr_cons]
    by_cases c : a ≤ (b :: l).foldr max 0
    · rw [Nat.max_eq_right c]
      exact List.mem_cons_of_mem _ ih
    · rw [Nat.max_eq_left (by omega)]
      simp
theorem max_is {l : List Nat} {M : Nat} (h : M ∈ l) (hx : ∀ x ∈ l, x ≤ M) : l.foldr max 0 = M := by
  have h1 := foldr_max_le l h
  have h2 := hx _ (foldr_max_mem l (List.ne_nil_of_mem h))
  omega
theorem foldr_min_le : ∀ (l : List Nat) {d x : Nat}, x ∈ l → l.foldr min d ≤ x
  | a :: l, d, x, h => by
    rw [List.foldr_cons]
    rcases List.mem_cons.mp h with e | e
    · subst e; omega
    · have := foldr_min_le l (d := d) e; omega
theorem foldr_min_mem : ∀ (l : List Nat) {d : Nat}, l.foldr min d = d ∨ l.foldr min d ∈ l
  | [], d => Or.inl rfl
  | a :: l, d => by
    rw [List.foldr_cons]
    by_cases c : a ≤ l.foldr min d
    · rw [Nat.min_eq_left c]
      exact .inr (by simp)
    · rw [Nat.min_eq_right (by omega)]
      rcases foldr_min_mem l (d := d) with e | e
      · exact .inl e
      · exact .inr (List.mem_cons_of_mem _ e)
theorem min_is {l : List Nat} {m : Nat} (h : m ∈ l) (hx : ∀ x ∈ l, m ≤ x) : l.foldr min (l.headD 0) = m := by
  have h1 := foldr_min_le l (d := l.headD 0) h
  have h2 : l.foldr min (l.headD 0) ∈ l := by
    rcases foldr_min_mem l (d := l.headD 0) with e | e
    · rw [e]
      cases l with
      | nil => simp at h
      | cons a l => simp
    · exact e
  have := hx _ h2
  omega
/-! ### people that rise -/
def okFrom (n : Nat) : Nat → List Nat → Bool
  | _, [] => true
  | b, x :: r => decide (b < x) && decide (x ≤ n) && okFrom n x r
theorem okFrom_rises {n : Nat} : ∀ {b : Nat} {l : List Nat}, okFrom n b l = true ↔ So01.rises l = true ∧ (∀ x ∈ l, b < x ∧ x ≤ n)
  | b, [] => by simp [okFrom, So01.rises]
  | b, [x] => by simp [okFrom, So01.rises]
  | b, x :: y :: r => by
    have ih := okFrom_rises (n := n) (b := x) (l := y :: r)
    show (decide (b < x) && decide (x ≤ n) && okFrom n x (y :: r)) = true ↔ (decide (x < y) && So01.rises (y :: r)) = true ∧ _
    rw [Bool.and_eq_true, Bool.and_eq_true, ih, Bool.and_eq_true, decide_eq_true_eq, decide_eq_true_eq, decide_eq_true_eq]
    constructor
    · rintro ⟨⟨h1, h2⟩, h3, h4⟩
      refine ⟨⟨(h4 y (by simp)).1, h3⟩, fun z hz => ?_⟩
      rcases List.mem_cons.mp hz with e | e
      · omega
      · have := h4 z e; omega
    · rintro ⟨⟨h1, h2⟩, h3⟩
      refine ⟨h3 x (by simp), h2, fun z hz => ⟨?_, (h3 z (List.mem_cons_of_mem _ hz)).2⟩⟩
      have key : ∀ (l : List Nat) (x y : Nat), x < y → So01.rises (y :: l) = true → ∀ z ∈ y :: l, x < z := by
        intro l
        induction l with
        | nil =>
          intro x y h _ z hz
          simp at hz
          omega
        | cons c l ih2 =>
          intro x y h hr z hz
          have hr' : decide (y < c) = true ∧ So01.rises (c :: l) = true := Bool.and_eq_true_iff.mp hr
          rcases List.mem_cons.mp hz with e | e
          · omega
          · exact ih2 x c (by have := of_decide_eq_true hr'.1; omega) hr'.2 z e
      exact key r x y h1 h2 z hz
theorem isAsk_is (s : So01.St) (what t : Nat) (l : List Nat) : So01.isAsk s what t l = (decide (what ≤ 3) && (decide (t ≤ 20) && (!l.isEmpty && okFrom s.many 0 l))) := by
  have e : (So01.rises l && l.all (So01.isPerson s)) = okFrom s.many 0 l := by
    rw [Bool.eq_iff_iff, okFrom_rises, Bool.and_eq_true, List.all_eq_true]
    refine and_congr Iff.rfl (forall_congr' fun x => forall_congr' fun _ => ?_)
    unfold So01.isPerson
    rw [Bool.and_eq_true, decide_eq_true_eq, decide_eq_true_eq]
    omega
  unfold So01.isAsk
  rw [e]
/-! ### whether a question is told, by the answers in any order -/
theorem tells_is {n p : Nat} {ws : List World} {a : Ask} {vs : List Nat} (h : ∀ v, v ∈ vs ↔ v ∈ ws.map (So01.value a)) : So01.tells n p ws a = vs.all fun v => So01.open_ n p (ws.filter fun w => So01.value a w == v) := by
  unfold So01.tells So01.answers
  rw [Bool.eq_iff_iff, List.all_eq_true, List.all_eq_true]
  refine forall_congr' fun v => ?_
  rw [mem_setOf, h]
theorem open_is {n p : Nat} {ws : List World} : So01.open_ n p ws = true ↔ ∀ k, k < n → p ≤ So01.wide ws (k + 1) := by
  unfold So01.open_ So01.people
  rw [List.all_eq_true]
  constructor
  · intro h k hk
    exact of_decide_eq_true (h (k + 1) (List.mem_map.mpr ⟨k, List.mem_range.mpr hk, rfl⟩))
  · intro h i hi
    obtain ⟨k, hk, rfl⟩ := List.mem_map.mp hi
    exact decide_eq_true (h k (List.mem_range.mp hk))
end Lo
namespace Lo
/-! ### the list that is handed in, call by call -/
/-- the numbers ms begin with the call c; behind it is rest -/
inductive Rd1 : List Nat → So01.Call → List Nat → Prop
  | found (h p : Nat) (row rest : List Nat) (e : row.length ≤ 8) : Rd1 (0 :: h :: p :: row.length :: (row ++ rest)) (.found h p row) rest
  | ask (q t : Nat) (row rest : List Nat) (e : row.length ≤ 8) : Rd1 (1 :: q :: t :: row.length :: (row ++ rest)) (.ask q t row) rest
  | would (q t : Nat) (row rest : List Nat) (e : row.length ≤ 8) : Rd1 (2 :: q :: t :: row.length :: (row ++ rest)) (.would q t row) rest
  | range (i : Nat) (rest : List Nat) : Rd1 (3 :: i :: rest) (.range i) rest
  | worlds (rest : List Nat) : Rd1 (4 :: rest) .worlds rest
  | guess (i : Nat) (rest : List Nat) : Rd1 (5 :: i :: rest) (.guess i) rest
  | both (i j : Nat) (rest : List Nat) : Rd1 (6 :: i :: j :: rest) (.both i j) rest
  | chance (q t v : Nat) (row rest : List Nat) (e : row.length ≤ 8) : Rd1 (7 :: q :: t :: v :: row.length :: (row ++ rest)) (.chance q t v row) rest
  | log (rest : List Nat) : Rd1 (8 :: rest) .log rest
  | free (rest : List Nat) : Rd1 (9 :: rest) .free rest
inductive Rds : List Nat → List So01.Call → Prop
  | nil : Rds [] []
  | cons {ms rest : List Nat} {c : So01.Call} {cs : List So01.Call} : Rd1 ms c rest → Rds rest cs → Rds ms (c :: cs)
def play : So01.St → List So01.Call → List (List Int)
  | _, [] => []
  | s, c :: r => (So01.step s c).2 :: play (So01.step s c).1 r
def Within (l : List Int) : Prop := ∀ x ∈ l, 0 ≤ x ∧ x ≤ 4294967295
theorem Within.tail {x : Int} {l : List Int} (h : Within (x :: l)) : Within l := fun y hy => h y (List.mem_cons_of_mem _ hy)
theorem Within.head {x : Int} {l : List Int} (h : Within (x :: l)) : 0 ≤ x ∧ x ≤ 4294967295 := h x (by simp)
theorem Within.nats {l : List Int} (h : Within l) : l = (l.map Int.toNat).map fun (n : Nat) => (n : Int) := by
  rw [List.map_map]
  refine (List.map_id l).symm.trans (List.map_congr_left fun k hk => ?_)
  have := (h k hk).1
  show k = ((k.toNat : Nat) : Int)
  omega
theorem Within.all {l : List Int} (h : Within l) : l.all So01Neutral.nat = true := by
  rw [List.all_eq_true]
  intro x hx
  have := h x hx
  unfold So01Neutral.nat
  rw [Bool.and_eq_true, decide_eq_true_eq, decide_eq_true_eq]
  exact ⟨this.1, by have := this.2; omega⟩
theorem callOf_is {l : List Int} (h : Within l) : So01Neutral.callOf l = So01Neutral.callIn (l.map Int.toNat) := by
  unfold So01Neutral.callOf
  rw [h.all, if_neg (by decide)]
theorem step_is {l : List Int} (h : Within l) {c : So01.Call} (e : So01Neutral.callIn (l.map Int.toNat) = some c) (s : So01.St) : So01Neutral.step s l = So01.step s c := by
  unfold So01Neutral.step
  rw [callOf_is h, e]
/-- what a call of the flat list is, its rows taken -/
def Stands (ns : List Int) (raw : List (List Int)) (rest : List Int) : Prop :=
  ∃ c, Rd1 (ns.map Int.toNat) c (rest.map Int.toNat) ∧ Within rest ∧ ∀ s, So01Neutral.step s ((PySo01.whole raw).headD []) = So01.step s c
theorem row_some {l x t : List Int} (h : PyFlat.row l = some (x, t)) : ∃ (r : List Int), l = (x.length : Int) :: r ∧ r = x ++ t := by
  cases l with
  | nil => cases h
  | cons n r =>
    unfold PyFlat.row at h
    dsimp only at h
    by_cases c : 0 ≤ n ∧ n.toNat ≤ r.length
    · rw [if_pos c] at h
      have h2 := Prod.mk.inj (Option.some.inj h)
      refine ⟨r, ?_, ?_⟩
      · rw [← h2.1, List.length_take, Nat.min_eq_left c.2]
        congr 1
        omega
      · rw [← h2.1, ← h2.2, List.take_append_drop]
    · rw [if_neg c] at h
      cases h
theorem rows0 {l : List Int} : PyFlat.rows 0 l = some ([], l) := rfl
theorem rows1 {l t : List Int} {xs : List (List Int)} (h : PyFlat.rows 1 l = some (xs, t)) : ∃ x, xs = [x] ∧ PyFlat.row l = some (x, t) := by
  unfold PyFlat.rows at h
  cases e : PyFlat.row l with
  | none =>
    rw [e] at h
    cases h
  | some p =>
    rw [e] at h
    obtain ⟨x, s⟩ := p
    have h2 := Prod.mk.inj (Option.some.inj h)
    exact ⟨x, h2.1.symm, by rw [h2.2]⟩
theorem take_of {n : Nat} : ∀ {l : List Int}, ¬ l.length < n → ∃ a b, l = a ++ b ∧ a.length = n ∧ l.take n = a ∧ l.drop n = b := fun {l} h => ⟨l.take n, l.drop n, (List.take_append_drop n l).symm, by rw [List.length_take]; omega, rfl, rfl⟩
theorem len1 {a : List Int} (h : a.length = 1) : ∃ x, a = [x] := by
  match a, h with
  | [x], _ => exact ⟨x, rfl⟩
theorem len2 {a : List Int} (h : a.length = 2) : ∃ x y, a = [x, y] := by
  match a, h with
  | [x, y], _ => exact ⟨x, y, rfl⟩
theorem len3 {a : List Int} (h : a.length = 3) : ∃ x y z, a = [x, y, z] := by
  match a, h with
  | [x, y, z], _ => exact ⟨x, y, z, rfl⟩
theorem within_append {a b : List Int} : Within (a ++ b) ↔ Within a ∧ Within b := by
  unfold Within
  constructor
  · intro h
    exact ⟨fun x hx => h x (List.mem_append_left _ hx), fun x hx => h x (List.mem_append_right _ hx)⟩
  · rintro ⟨h1, h2⟩ x hx
    rcases List.mem_append.mp hx with e | e
    · exact h1 x e
    · exact h2 x e
theorem within_front {b : List Int} (a : List Int) (h : Within (a ++ b)) : Within a := (within_append.mp h).1
theorem lists8 {r : List Int} {b : List (Int × Int × Nat × Nat)} (h : PyInside.lists ((0, 4294967295, 0, 8) :: b) [r] = true) : r.length ≤ 8 := by
  have h1 : (decide (0 ≤ r.length) && decide (r.length ≤ 8) && r.all (PyInside.within 0 4294967295) && PyInside.lists b []) = true := h
  rw [Bool.and_eq_true, Bool.and_eq_true, Bool.and_eq_true] at h1
  exact of_decide_eq_true h1.1.1.2
theorem call_cases {p : Int} {r : List Int} {raw : List (List Int)} {rest : List Int} (W : Within (p :: r)) (h : PyFlat.call PySo01.shape (p :: r) = some (raw, rest)) (hb : PyInside.call PySo01.bound raw = true) : Stands (p :: r) raw rest := by
  unfold PyFlat.call at h
  dsimp only at h
  have hp : p = 0 ∨ p = 1 ∨ p = 2 ∨ p = 3 ∨ p = 4 ∨ p = 5 ∨ p = 6 ∨ p = 7 ∨ p = 8 ∨ p = 9 := by
    refine Decidable.byContradiction fun q => ?_
    have e : PySo01.shape p = none := by
      unfold PySo01.shape
      rw [if_neg (by omega), if_neg (by omega), if_neg (by omega), if_neg (by omega), if_neg (by omega), if_neg (by omega), if_neg (by omega), if_neg (by omega), if_neg (by omega), if_neg (by omega)]
    rw [e] at h
    cases h
  have nrows : ∀ {n : Nat} {pp : Int}, PySo01.shape pp = some (n, 0) → (match PySo01.shape pp with
      | none => none
      | some (n, k) => if r.length < n then none else match PyFlat.rows k (r.drop n) with
        | none => none
        | some (xs, t) => some ((pp :: r.take n) :: xs, t)) = some (raw, rest) → ∃ a, r = a ++ rest ∧ a.length = n ∧ raw = [pp :: a] := by
    intro n pp e q
    rw [e] at q
    dsimp only at q
    by_cases c : r.length < n
    · rw [if_pos c] at q
      cases q
    · rw [if_neg c, rows0] at q
      have q2 := Prod.mk.inj (Option.some.inj q)
      obtain ⟨a, b, e1, e2, e3, e4⟩ := take_of c
      rw [e3, e4] at q2
      exact ⟨a, by rw [e1, q2.2], e2, q2.1.symm⟩
  have orows : ∀ {n : Nat} {pp : Int}, PySo01.shape pp = some (n, 1) → (match PySo01.shape pp with
      | none => none
      | some (n, k) => if r.length < n then none else match PyFlat.rows k (r.drop n) with
        | none => none
        | some (xs, t) => some ((pp :: r.take n) :: xs, t)) = some (raw, rest) → ∃ a x, r = a ++ ((x.length : Int) :: (x ++ rest)) ∧ a.length = n ∧ raw = [pp :: a, x] := by
    intro n pp e q
    rw [e] at q
    dsimp only at q
    by_cases c : r.length < n
    · rw [if_pos c] at q
      cases q
    · rw [if_neg c] at q
      obtain ⟨a, b, e1, e2, e3, e4⟩ := take_of c
      rw [e3, e4] at q
      cases f : PyFlat.rows 1 b with
      | none =>
        rw [f] at q
        cases q
      | some z =>
        obtain ⟨xs, t⟩ := z
        rw [f] at q
        have q2 := Prod.mk.inj (Option.some.inj q)
        obtain ⟨x, e5, e6⟩ := rows1 f
        obtain ⟨r2, e7, e8⟩ := row_some e6
        subst e5
        refine ⟨a, x, ?_, e2, q2.1.symm⟩
        rw [e1, e7, e8, q2.2]
  have mp : ∀ (l : List Int), ((l.length : Int)).toNat = (l.map Int.toNat).length := fun l => by rw [List.length_map]; omega
  rcases hp with rfl | rfl | rfl | rfl | rfl | rfl | rfl | rfl | rfl | rfl
  · obtain ⟨a, x, e1, e2, rfl⟩ := orows (pp := 0) rfl h
    obtain ⟨y, z, rfl⟩ := len2 e2
    subst e1
    have W1 := within_append.mp W.tail.tail.tail.tail
    have h8 : x.length ≤ 8 := lists8 (Bool.and_eq_true_iff.mp hb).2
    refine ⟨.found y.toNat z.toNat (x.map Int.toNat), ?_, W1.2, step_is (l := 0 :: y :: z :: x) ?_ rfl⟩
    · have := Rd1.found y.toNat z.toNat (x.map Int.toNat) (rest.map Int.toNat) (by rw [List.length_map]; exact h8)
      rw [← mp, ← List.map_append] at this
      exact this
    · exact within_append.mpr ⟨(within_front [0, y, z] W), W1.1⟩
  · obtain ⟨a, x, e1, e2, rfl⟩ := orows (pp := 1) rfl h
    obtain ⟨y, z, rfl⟩ := len2 e2
    subst e1
    have W1 := within_append.mp W.tail.tail.tail.tail
    have h8 : x.length ≤ 8 := lists8 (Bool.and_eq_true_iff.mp hb).2
    refine ⟨.ask y.toNat z.toNat (x.map Int.toNat), ?_, W1.2, step_is (l := 1 :: y :: z :: x) ?_ rfl⟩
    · have := Rd1.ask y.toNat z.toNat (x.map Int.toNat) (rest.map Int.toNat) (by rw [List.length_map]; exact h8)
      rw [← mp, ← List.map_append] at this
      exact this
    · exact within_append.mpr ⟨(within_front [1, y, z] W), W1.1⟩
  · obtain ⟨a, x, e1, e2, rfl⟩ := orows (pp := 2) rfl h
    obtain ⟨y, z, rfl⟩ := len2 e2
    subst e1
    have W1 := within_append.mp W.tail.tail.tail.tail
    have h8 : x.length ≤ 8 := lists8 (Bool.and_eq_true_iff.mp hb).2
    refine ⟨.would y.toNat z.toNat (x.map Int.toNat), ?_, W1.2, step_is (l := 2 :: y :: z :: x) ?_ rfl⟩
    · have := Rd1.would y.toNat z.toNat (x.map Int.toNat) (rest.map Int.toNat) (by rw [List.length_map]; exact h8)
      rw [← mp, ← List.map_append] at this
      exact this
    · exact within_append.mpr ⟨(within_front [2, y, z] W), W1.1⟩
  · obtain ⟨a, e1, e2, rfl⟩ := nrows (pp := 3) rfl h
    obtain ⟨y, rfl⟩ := len1 e2
    subst e1
    exact ⟨.range y.toNat, Rd1.range y.toNat (rest.map Int.toNat), W.tail.tail, step_is (l := [3, y]) (within_front [3, y] W) rfl⟩
  · obtain ⟨a, e1, e2, rfl⟩ := nrows (pp := 4) rfl h
    cases a with
    | cons => cases e2
    | nil =>
    have e1 : r = rest := e1
    subst e1
    exact ⟨.worlds, Rd1.worlds (r.map Int.toNat), W.tail, step_is (l := [4]) (within_front [4] W) rfl⟩
  · obtain ⟨a, e1, e2, rfl⟩ := nrows (pp := 5) rfl h
    obtain ⟨y, rfl⟩ := len1 e2
    subst e1
    exact ⟨.guess y.toNat, Rd1.guess y.toNat (rest.map Int.toNat), W.tail.tail, step_is (l := [5, y]) (within_front [5, y] W) rfl⟩
  · obtain ⟨a, e1, e2, rfl⟩ := nrows (pp := 6) rfl h
    obtain ⟨y, z, rfl⟩ := len2 e2
    subst e1
    exact ⟨.both y.toNat z.toNat, Rd1.both y.toNat z.toNat (rest.map Int.toNat), W.tail.tail.tail, step_is (l := [6, y, z]) (within_front [6, y, z] W) rfl⟩
  · obtain ⟨a, x, e1, e2, rfl⟩ := orows (pp := 7) rfl h
    obtain ⟨y, z, u, rfl⟩ := len3 e2
    subst e1
    have W1 := within_append.mp W.tail.tail.tail.tail.tail
    have h8 : x.length ≤ 8 := lists8 (Bool.and_eq_true_iff.mp hb).2
    refine ⟨.chance y.toNat z.toNat u.toNat (x.map Int.toNat), ?_, W1.2, step_is (l := 7 :: y :: z :: u :: x) ?_ rfl⟩
    · have := Rd1.chance y.toNat z.toNat u.toNat (x.map Int.toNat) (rest.map Int.toNat) (by rw [List.length_map]; exact h8)
      rw [← mp, ← List.map_append] at this
      exact this
    · exact within_append.mpr ⟨(within_front [7, y, z, u] W), W1.1⟩
  · obtain ⟨a, e1, e2, rfl⟩ := nrows (pp := 8) rfl h
    cases a with
    | cons => cases e2
    | nil =>
    have e1 : r = rest := e1
    subst e1
    exact ⟨.log, Rd1.log (r.map Int.toNat), W.tail, step_is (l := [8]) (within_front [8] W) rfl⟩
  · obtain ⟨a, e1, e2, rfl⟩ := nrows (pp := 9) rfl h
    cases a with
    | cons => cases e2
    | nil =>
    have e1 : r = rest := e1
    subst e1
    exact ⟨.free, Rd1.free (r.map Int.toNat), W.tail, step_is (l := [9]) (within_front [9] W) rfl⟩
theorem calls_read : ∀ {f : Nat} {ns : List Int} {raw : List (List (List Int))}, Within ns → PyFlat.calls PySo01.shape f ns = some raw → PyInside.calls PySo01.bound raw = true →
    ∃ cs, Rds (ns.map Int.toNat) cs ∧ cs.length = raw.length ∧ ∀ s, PyFlat.played (fun s c => So01Neutral.step s (c.headD [])) s (raw.map PySo01.whole) = play s cs
  | f, [], raw, _, h, _ => by
    have e : raw = [] := by
      cases f <;> exact (Option.some.inj h).symm
    subst e
    exact ⟨[], .nil, rfl, fun _ => rfl⟩
  | 0, _ :: _, raw, _, h, _ => by cases h
  | f + 1, p :: r, raw, W, h, hb => by
    unfold PyFlat.calls at h
    cases e : PyFlat.call PySo01.shape (p :: r) with
    | none =>
      rw [e] at h
      cases h
    | some z =>
      obtain ⟨c, t⟩ := z
      rw [e] at h
      dsimp only at h
      cases e2 : PyFlat.calls PySo01.shape f t with
      | none =>
        rw [e2] at h
        cases h
      | some cs2 =>
        rw [e2] at h
        have h2 := (Option.some.inj h).symm
        subst h2
        have hb2 : PyInside.call PySo01.bound c = true ∧ PyInside.calls PySo01.bound cs2 = true := by
          have : (c :: cs2).all (PyInside.call PySo01.bound) = true := hb
          rw [List.all_cons, Bool.and_eq_true] at this
          exact this
        obtain ⟨c', R, W2, st⟩ := call_cases W e hb2.1
        obtain ⟨cs', Rs, hl, pl⟩ := calls_read W2 e2 hb2.2
        refine ⟨c' :: cs', .cons R Rs, by rw [List.length_cons, List.length_cons, hl], fun s => ?_⟩
        show (So01Neutral.step s ((PySo01.whole c).headD [])).2 :: PyFlat.played _ (So01Neutral.step s ((PySo01.whole c).headD [])).1 (cs2.map PySo01.whole) = (So01.step s c').2 :: play (So01.step s c').1 cs'
        rw [st s, pl]
/-- what an answer is in the list that is given back -/
def put (a : List Int) : List Int := (a.length : Int) :: a
theorem asked_read {ns : List Int} (W : Within ns) (h : PySo01.answers_asked ns = true) : ∃ cs, Rds (ns.map Int.toNat) cs ∧ cs.length ≤ 40 ∧ PySo01.answers ns = (play So01.init cs).flatMap put ∧ (PySo01.answers ns).length ≤ 10000000 := by
  unfold PySo01.answers_asked at h
  cases e : PyFlat.calls PySo01.shape ns.length ns with
  | none =>
    rw [e] at h
    cases h
  | some raw =>
    rw [e] at h
    simp only [Bool.and_eq_true] at h
    obtain ⟨⟨⟨⟨h1, h2⟩, h3⟩, h4⟩, h5⟩ := h
    obtain ⟨cs, R, hl, pl⟩ := calls_read W e h3
    refine ⟨cs, R, ?_, ?_, of_decide_eq_true h5⟩
    · rw [hl]
      exact of_decide_eq_true h2
    · unfold PySo01.answers PySo01.calls
      rw [e]
      show PyFlat.told (PyFlat.played (fun s c => So01Neutral.step s (c.headD [])) So01Neutral.start (raw.map PySo01.whole)) = _
      rw [pl]
      rfl
end Lo
namespace Lo
open So01 (World Ask)
/-! ### what always holds of an office -/
structure Good (s : So01.St) : Prop where
  many : s.many = s.real.length
  one : 1 ≤ s.many
  five : s.many ≤ 5
  real : s.real ∈ s.might
  len : ∀ w ∈ s.might, w.length = s.many
  low : ∀ w ∈ s.might, ∀ x ∈ w, x ≤ 5
  few : s.might.length ≤ 7776
  told : s.told.length ≤ 20
  tells : ∀ x ∈ s.told, x.1.who.length ≤ 8
theorem pow_few {h n : Nat} (hh : h ≤ 5) (hn : n ≤ 5) : (h + 1) ^ n ≤ 7776 :=
  Nat.le_trans (Nat.pow_le_pow_left (show h + 1 ≤ 6 by omega) n) (Nat.pow_le_pow_right (show 0 < 6 by decide) hn)
theorem good_found {h p : Nat} {w : World} (h1 : w ≠ []) (h2 : w.length ≤ 5) (h3 : h ≤ 5) (h4 : ∀ x ∈ w, x ≤ h) : Good (So01.found h p w) where
  many := rfl
  one := List.length_pos_iff.mpr h1
  five := h2
  real := mem_worlds.mpr ⟨rfl, h4⟩
  len := fun u hu => (mem_worlds.mp hu).1
  low := fun u hu x hx => Nat.le_trans ((mem_worlds.mp hu).2 x hx) h3
  few := by
    show (So01.worlds h w.length).length ≤ 7776
    rw [worlds_length]
    exact pow_few h3 h2
  told := Nat.zero_le _
  tells := fun x hx => by cases hx
theorem good_init : Good So01.init := good_found (by decide) (by decide) (by decide) (by decide)
theorem good_ask {s : So01.St} {a : Ask} (g : Good s) (h : s.told.length < 20) (h8 : a.who.length ≤ 8) : Good (So01.ask s a) where
  many := g.many
  one := g.one
  five := g.five
  real := List.mem_filter.mpr ⟨g.real, beq_self_eq_true _⟩
  len := fun w hw => g.len w (List.mem_filter.mp hw).1
  low := fun w hw => g.low w (List.mem_filter.mp hw).1
  few := Nat.le_trans (List.length_filter_le _ _) g.few
  told := by
    show (s.told ++ [(a, So01.value a s.real)]).length ≤ 20
    rw [List.length_append]
    exact h
  tells := fun x hx => by
    have hx : x ∈ s.told ++ [(a, So01.value a s.real)] := hx
    rcases List.mem_append.mp hx with e | e
    · exact g.tells x e
    · rw [List.mem_singleton.mp e]
      exact h8
theorem foldr_low : ∀ {l : List Nat}, (∀ x ∈ l, x ≤ 5) → l.foldr (fun x n => x + n) 0 ≤ 5 * l.length
  | [], _ => Nat.le_refl _
  | a :: l, h => by
    have ih := foldr_low (l := l) fun x hx => h x (List.mem_cons_of_mem _ hx)
    have := h a (by simp)
    rw [List.foldr_cons, List.length_cons]
    omega
theorem has_low {w : World} (h : ∀ x ∈ w, x ≤ 5) (i : Nat) : So01.has w i ≤ 5 := by
  unfold So01.has
  rw [List.getD_eq_getElem?_getD]
  cases e : w[i - 1]? with
  | none => exact Nat.zero_le _
  | some x => exact h x (List.mem_of_getElem? e)
theorem value_low {a : Ask} {w : World} (h : ∀ x ∈ w, x ≤ 5) (h8 : a.who.length ≤ 8) : So01.value a w ≤ 40 := by
  have hl : ∀ x ∈ a.who.map (So01.has w), x ≤ 5 := fun x hx => by
    obtain ⟨i, _, rfl⟩ := List.mem_map.mp hx
    exact has_low h i
  have hn : (a.who.map (So01.has w)).length ≤ 8 := by
    rw [List.length_map]
    exact h8
  unfold So01.value
  generalize a.who.map (So01.has w) = l at hl hn
  dsimp only
  split
  · have := foldr_low hl
    omega
  · have : ∀ {l : List Nat}, (∀ x ∈ l, x ≤ 5) → l.foldr max 0 ≤ 5 := by
      intro l hl
      cases e : l with
      | nil => exact Nat.zero_le _
      | cons b r =>
        rw [← e]
        exact hl _ (foldr_max_mem l (by rw [e]; simp))
    have := this hl
    omega
  · cases e : l with
    | nil => exact Nat.zero_le _
    | cons b r =>
      have := foldr_min_le l (d := l.headD 0) (x := b) (by rw [e]; simp)
      have := hl b (by rw [e]; simp)
      rw [e] at *
      omega
  · exact Nat.le_trans (List.length_filter_le _ _) (by omega)
end Lo
namespace Lo
open So01 (World Ask)
/-! ### the number that stands there most often -/
def pick (l : List Nat) (b : Nat × Nat) (v : Nat) : Nat × Nat := if b.2 < l.count v then (v, l.count v) else b
def picks (l vs : List Nat) : Nat × Nat := vs.foldl (pick l) (0, 0)
theorem picks_more (l vs : List Nat) (v : Nat) : picks l (vs ++ [v]) = pick l (picks l vs) v := by
  unfold picks
  rw [List.foldl_append]
  rfl
theorem picks_count (l : List Nat) : ∀ (vs : List Nat) (b : Nat × Nat), b.2 = l.count b.1 → (vs.foldl (pick l) b).2 = l.count (vs.foldl (pick l) b).1
  | [], _, h => h
  | v :: vs, b, h => by
    rw [List.foldl_cons]
    refine picks_count l vs _ ?_
    unfold pick
    split
    · rfl
    · exact h
theorem pick_first {l : List Nat} {v : Nat} (h : v ∈ l) : pick l (0, 0) v = (v, l.count v) := by
  unfold pick
  exact if_pos (List.count_pos_iff.mpr h)
theorem picks_is {l : List Nat} (ne : l ≠ []) : (picks l (So01.setOf l)).2 = l.count (picks l (So01.setOf l)).1 := by
  unfold picks
  cases e : So01.setOf l with
  | nil =>
    cases l with
    | nil => exact absurd rfl ne
    | cons x r =>
      have : x ∈ So01.setOf (x :: r) := mem_setOf.mpr (by simp)
      rw [e] at this
      cases this
  | cons v vs =>
    rw [List.foldl_cons]
    have hv : v ∈ l := mem_setOf.mp (by rw [e]; simp)
    rw [pick_first hv]
    exact picks_count l vs _ rfl
theorem often_is (s : So01.St) (i v : Nat) : So01.often s i v = (s.might.map fun w => So01.has w i).count v := by
  unfold So01.often
  rw [List.count, List.countP_map, List.countP_eq_length_filter]
  rfl
theorem guess_is (s : So01.St) (i : Nat) : So01.guess s i = picks (s.might.map fun w => So01.has w i) (So01.mayHave s.might i) := by
  unfold So01.guess picks
  congr 1
  funext b v
  unfold pick
  rw [often_is]
theorem count_ints (v : Nat) : ∀ l : List Nat, (l.map fun (n : Nat) => (n : Int)).count (v : Int) = l.count v
  | [] => rfl
  | a :: l => by
    rw [List.map_cons, List.count_cons, List.count_cons, count_ints v l]
    have e : ((a : Int) == (v : Int)) = (a == v) := by
      by_cases c : a = v
      · subst c
        rw [beq_self_eq_true, beq_self_eq_true]
      · have : ¬ (a : Int) = (v : Int) := fun q => c (by omega)
        rw [beq_eq_false_iff_ne.mpr this, beq_eq_false_iff_ne.mpr c]
    rw [e]
/-! ### in lowest terms -/
theorem fmod_nat (a b : Nat) : Int.fmod (a : Int) (b : Int) = ((a % b : Nat) : Int) := by
  rw [Int.fmod_eq_emod_of_nonneg _ (by omega)]
  exact (Int.natCast_emod a b).symm
theorem fdiv_nat (a b : Nat) : Int.fdiv (a : Int) (b : Int) = ((a / b : Nat) : Int) := by
  rw [Int.fdiv_eq_ediv_of_nonneg _ (by omega)]
  exact (Int.natCast_ediv a b).symm
/-! ### pairs in order -/
/-- the pairs in their order: the first number first -/
def plt (p q : Nat × Nat) : Prop := p.1 < q.1 ∨ (p.1 = q.1 ∧ p.2 < q.2)
theorem plt_asym {p q : Nat × Nat} (h : plt p q) : ¬ plt q p := by
  unfold plt at *
  omega
theorem plt_irr {p : Nat × Nat} : ¬ plt p p := by
  unfold plt
  omega
theorem sorted_one : ∀ {l r : List (Nat × Nat)}, l.Pairwise plt → r.Pairwise plt → (∀ x, x ∈ l ↔ x ∈ r) → l = r
  | [], [], _, _, _ => rfl
  | [], b :: r, _, _, h => by have := (h b).mpr (by simp); simp at this
  | a :: l, [], _, _, h => by have := (h a).mp (by simp); simp at this
  | a :: l, b :: r, hl, hr, h => by
    have l2 := List.pairwise_cons.mp hl
    have r2 := List.pairwise_cons.mp hr
    have e : a = b := by
      have h1 := (h a).mp (by simp)
      have h2 := (h b).mpr (by simp)
      rcases List.mem_cons.mp h1 with e | e
      · exact e
      · rcases List.mem_cons.mp h2 with e2 | e2
        · exact e2.symm
        · exact absurd (l2.1 b e2) (plt_asym (r2.1 a e))
    subst e
    refine congrArg _ (sorted_one l2.2 r2.2 fun x => ?_)
    constructor
    · intro hx
      rcases List.mem_cons.mp ((h x).mp (List.mem_cons_of_mem _ hx)) with e | e
      · exact absurd (l2.1 x hx) (by rw [e]; exact plt_irr)
      · exact e
    · intro hx
      rcases List.mem_cons.mp ((h x).mpr (List.mem_cons_of_mem _ hx)) with e | e
      · exact absurd (r2.1 x hx) (by rw [e]; exact plt_irr)
      · exact e
theorem pairs_rise {vs : List Nat} (f : Nat → List Nat) (hv : vs.Pairwise (· < ·)) (hf : ∀ v ∈ vs, (f v).Pairwise (· < ·)) : (vs.flatMap fun v => (f v).map fun u => (v, u)).Pairwise plt := by
  induction vs with
  | nil => exact List.Pairwise.nil
  | cons a r ih =>
    have h2 := List.pairwise_cons.mp hv
    rw [List.flatMap_cons]
    refine List.pairwise_append.mpr ⟨?_, ih h2.2 fun v h => hf v (List.mem_cons_of_mem _ h), fun p hp q hq => ?_⟩
    · refine List.pairwise_map.mpr (List.Pairwise.imp (fun {x y} h => ?_) (hf a (by simp)))
      exact .inr ⟨rfl, h⟩
    · obtain ⟨u, _, rfl⟩ := List.mem_map.mp hp
      obtain ⟨v, hv2, hq2⟩ := List.mem_flatMap.mp hq
      obtain ⟨z, _, rfl⟩ := List.mem_map.mp hq2
      exact .inl (h2.1 v hv2)
theorem both_rises (s : So01.St) (i j : Nat) : (So01.both s i j).Pairwise plt :=
  pairs_rise _ (setOf_rises _) fun _ _ => List.Pairwise.filter _ (setOf_rises _)
theorem mem_both {s : So01.St} {i j : Nat} {p : Nat × Nat} : p ∈ So01.both s i j ↔ p ∈ s.might.map fun w => (So01.has w i, So01.has w j) := by
  unfold So01.both
  rw [List.mem_flatMap, List.mem_map]
  constructor
  · rintro ⟨v, _, h⟩
    obtain ⟨u, hu, rfl⟩ := List.mem_map.mp h
    obtain ⟨w, hw, e⟩ := List.any_eq_true.mp (List.mem_filter.mp hu).2
    rw [Bool.and_eq_true, beq_iff_eq, beq_iff_eq] at e
    exact ⟨w, hw, by rw [e.1, e.2]⟩
  · rintro ⟨w, hw, rfl⟩
    refine ⟨So01.has w i, mem_setOf.mpr (List.mem_map.mpr ⟨w, hw, rfl⟩), List.mem_map.mpr ⟨So01.has w j, List.mem_filter.mpr ⟨mem_setOf.mpr (List.mem_map.mpr ⟨w, hw, rfl⟩), ?_⟩, rfl⟩⟩
    refine List.any_eq_true.mpr ⟨w, hw, ?_⟩
    rw [beq_self_eq_true, beq_self_eq_true]
    rfl
theorem both_is {s : So01.St} {i j : Nat} {l : List (Nat × Nat)} (h : l.Pairwise plt) (m : ∀ p, p ∈ l ↔ p ∈ s.might.map fun w => (So01.has w i, So01.has w j)) : l = So01.both s i j :=
  sorted_one h (both_rises s i j) fun p => (m p).trans mem_both.symm
theorem len_below : ∀ (m : Nat) (l : List Nat), l.Nodup → (∀ x ∈ l, x < m) → l.length ≤ m
  | 0, [], _, _ => Nat.le_refl 0
  | 0, a :: l, _, h => absurd (h a (by simp)) (Nat.not_lt_zero a)
  | m + 1, l, nd, h => by
    by_cases c : m ∈ l
    · have := len_below m (l.erase m) (nd.erase m) fun x hx => by
        have q := (List.Nodup.mem_erase_iff nd).mp hx
        have := h x q.2
        have := q.1
        omega
      rw [List.length_erase_of_mem c] at this
      omega
    · have := len_below m l nd fun x hx => by
        have := h x hx
        have : x ≠ m := fun e => c (e ▸ hx)
        omega
      omega
/-- pairs of numbers to below 6: fewer than 37 differ -/
theorem few_pairs {l : List (Nat × Nat)} (nd : l.Nodup) (h : ∀ p ∈ l, p.1 ≤ 5 ∧ p.2 ≤ 5) : l.length ≤ 36 := by
  have h1 : (l.map fun p => p.1 * 6 + p.2).Nodup := by
    refine List.Pairwise.map _ (fun a b hab => hab) (List.Pairwise.imp_of_mem (fun {a b} ha hb hab => ?_) nd)
    intro e
    have h1 := h a ha
    have h2 := h b hb
    exact hab (Prod.ext (by omega) (by omega))
  have := len_below 36 _ h1 fun x hx => by
    obtain ⟨y, hy, rfl⟩ := List.mem_map.mp hx
    have := h y hy
    omega
  rw [List.length_map] at this
  exact this
/-! ### from one person to another -/
theorem people_get (n : Nat) {k i : Nat} (h : (So01.people n)[k]? = some i) : i = k + 1 ∧ k < n := by
  unfold So01.people at h
  rw [List.getElem?_map] at h
  by_cases c : k < n
  · rw [List.getElem?_range c] at h
    exact ⟨(Option.some.inj h).symm, c⟩
  · rw [List.getElem?_eq_none (by rw [List.length_range]; omega)] at h
    cases h
theorem people_more (n : Nat) : So01.people (n + 1) = So01.people n ++ [n + 1] := by
  unfold So01.people
  rw [List.range_succ, List.map_append]
  rfl
theorem mem_people {n i : Nat} : i ∈ So01.people n ↔ 1 ≤ i ∧ i ≤ n := by
  unfold So01.people
  rw [List.mem_map]
  constructor
  · rintro ⟨k, hk, rfl⟩
    have := List.mem_range.mp hk
    omega
  · intro h
    exact ⟨i - 1, List.mem_range.mpr (by omega), by omega⟩
theorem people_rise (n : Nat) : (So01.people n).Pairwise (· < ·) := by
  unfold So01.people
  exact List.pairwise_map.mpr (List.Pairwise.imp (fun {a b} h => by omega) List.pairwise_lt_range)
/-- from i to j -/
def fromTo (i j : Nat) : List Nat := (List.range (j + 1 - i)).map fun k => i + k
theorem mem_fromTo {i j x : Nat} : x ∈ fromTo i j ↔ i ≤ x ∧ x ≤ j := by
  unfold fromTo
  rw [List.mem_map]
  constructor
  · rintro ⟨k, hk, rfl⟩
    have := List.mem_range.mp hk
    omega
  · intro h
    exact ⟨x - i, List.mem_range.mpr (by omega), by omega⟩
theorem fromTo_rises (i j : Nat) : (fromTo i j).Pairwise (· < ·) := by
  unfold fromTo
  exact List.pairwise_map.mpr (List.Pairwise.imp (fun {a b} h => by omega) List.pairwise_lt_range)
theorem who_is {n i j : Nat} (hi : 1 ≤ i) (hj : j ≤ n) : ((So01.people n).filter fun x => decide (i ≤ x) && decide (x ≤ j)) = fromTo i j := by
  refine rises_one (List.Pairwise.filter _ (people_rise n)) (fromTo_rises i j) fun x => ?_
  rw [List.mem_filter, mem_people, mem_fromTo, Bool.and_eq_true, decide_eq_true_eq, decide_eq_true_eq]
  omega
theorem rises_of : ∀ {l : List Nat}, l.Pairwise (· < ·) → So01.rises l = true
  | [], _ => rfl
  | [_], _ => rfl
  | a :: b :: l, h => by
    have h2 := List.pairwise_cons.mp h
    show (decide (a < b) && So01.rises (b :: l)) = true
    rw [Bool.and_eq_true, decide_eq_true_eq]
    exact ⟨h2.1 b (by simp), rises_of h2.2⟩
theorem ok_fromTo {n i j : Nat} (hi : 1 ≤ i) (hj : j ≤ n) : okFrom n 0 (fromTo i j) = true :=
  okFrom_rises.mpr ⟨rises_of (fromTo_rises i j), fun x hx => by have := mem_fromTo.mp hx; omega⟩
theorem fromTo_ne {i j : Nat} (h : i ≤ j) : fromTo i j ≠ [] := List.ne_nil_of_mem (mem_fromTo.mpr ⟨Nat.le_refl i, h⟩)
theorem fromTo_len (i j : Nat) : (fromTo i j).length = j + 1 - i := by
  unfold fromTo
  rw [List.length_map, List.length_range]
/-- of one i: those j of i to below i + k so that it would be told -/
def freeAt (s : So01.St) (i k : Nat) : List (Nat × Nat) := (((List.range k).map fun d => i + d).filter fun j => So01.tells s.many s.keep s.might ⟨0, 0, fromTo i j⟩).map fun j => (i, j)
theorem freeAt_more (s : So01.St) (i k : Nat) : freeAt s i (k + 1) = freeAt s i k ++ if So01.tells s.many s.keep s.might ⟨0, 0, fromTo i (i + k)⟩ = true then [(i, i + k)] else [] := by
  unfold freeAt
  rw [List.range_succ, List.map_append, List.filter_append, List.map_append]
  congr 1
  by_cases c : So01.tells s.many s.keep s.might ⟨0, 0, fromTo i (i + k)⟩ = true
  · rw [if_pos c]
    simp [List.filter, c]
  · rw [if_neg c]
    have c2 : So01.tells s.many s.keep s.might ⟨0, 0, fromTo i (i + k)⟩ = false := by simpa using c
    simp [List.filter, c2]
theorem free_is (s : So01.St) : So01.free s = (So01.people s.many).flatMap fun i => freeAt s i (s.many + 1 - i) := by
  unfold So01.free
  have key : ∀ i ∈ So01.people s.many, ((So01.people s.many).filter fun j => decide (i ≤ j) && So01.tells s.many s.keep s.might ⟨0, 0, (So01.people s.many).filter fun x => decide (i ≤ x) && decide (x ≤ j)⟩).map (fun j => (i, j)) = freeAt s i (s.many + 1 - i) := by
    intro i hi
    have hi2 := mem_people.mp hi
    unfold freeAt
    congr 1
    refine rises_one (List.Pairwise.filter _ (people_rise _)) (List.Pairwise.filter _ (fromTo_rises i s.many)) fun j => ?_
    rw [List.mem_filter, List.mem_filter]
    show _ ↔ j ∈ fromTo i s.many ∧ _
    rw [mem_fromTo, mem_people, Bool.and_eq_true, decide_eq_true_eq]
    constructor
    · rintro ⟨h1, h2, h3⟩
      rw [who_is hi2.1 h1.2] at h3
      exact ⟨⟨h2, h1.2⟩, h3⟩
    · rintro ⟨h1, h3⟩
      refine ⟨⟨by omega, h1.2⟩, h1.1, ?_⟩
      rw [who_is hi2.1 h1.2]
      exact h3
  have gen : ∀ (l : List Nat) (f g : Nat → List (Nat × Nat)), (∀ i ∈ l, f i = g i) → l.flatMap f = l.flatMap g := by
    intro l f g h
    induction l with
    | nil => rfl
    | cons a r ih => rw [List.flatMap_cons, List.flatMap_cons, h a (by simp), ih fun i hi => h i (List.mem_cons_of_mem _ hi)]
  exact gen _ _ _ key
def freeTo (s : So01.St) (k : Nat) : List (Nat × Nat) := (So01.people k).flatMap fun i => freeAt s i (s.many + 1 - i)
theorem freeTo_more (s : So01.St) (k : Nat) : freeTo s (k + 1) = freeTo s k ++ freeAt s (k + 1) (s.many - k) := by
  unfold freeTo
  rw [people_more, List.flatMap_append, List.flatMap_cons, List.flatMap_nil, List.append_nil]
  congr 2
  omega
theorem freeAt_len (s : So01.St) (i k : Nat) : (freeAt s i k).length ≤ k := by
  unfold freeAt
  rw [List.length_map]
  refine Nat.le_trans (List.length_filter_le _ _) ?_
  rw [List.length_map, List.length_range]
  exact Nat.le_refl _
theorem freeTo_len (s : So01.St) : ∀ k, (freeTo s k).length ≤ k * (s.many + 1)
  | 0 => Nat.zero_le _
  | k + 1 => by
    rw [freeTo_more, List.length_append, Nat.succ_mul]
    have h1 := freeTo_len s k
    have h2 := freeAt_len s (k + 1) (s.many - k)
    omega
end Lo
/-! set(xs) of a list of whole numbers of any length: what set(tuple) of the layer says, of a list. -/
namespace Lo
open PySem PySem.Spec PyProof.Rows L2
/-- an empty set's object, as the machine makes it -/
abbrev none0 (w : World) : Obj := { cls := .type "set", dict := none, data := .set #[] 0 (.fresh 0 0 (!w.params.followText "set-order")) }
theorem few_nats : ∀ (m : Nat) (l : List Nat), l.Nodup → (∀ x ∈ l, x < m) → l.length ≤ m
  | 0, [], _, _ => Nat.le_refl 0
  | 0, a :: l, _, h => absurd (h a (by simp)) (Nat.not_lt_zero a)
  | m + 1, l, nd, h => by
    by_cases c : m ∈ l
    · have := few_nats m (l.erase m) (nd.erase m) fun x hx => by
        have q := (List.Nodup.mem_erase_iff nd).mp hx
        have := h x q.2
        have := q.1
        omega
      rw [List.length_erase_of_mem c] at this
      omega
    · have := few_nats m l nd fun x hx => by
        have := h x hx
        have : x ≠ m := fun e => c (e ▸ hx)
        omega
      omega
/-- a set of numbers from 0 to below m has at most m of them -/
theorem few_of {m : Nat} {l : List Int} (nd : l.Nodup) (h : ∀ x ∈ l, 0 ≤ x ∧ x < (m : Int)) : l.length ≤ m := by
  have h1 : (l.map Int.toNat).Nodup := by
    refine List.Pairwise.map _ (fun a b hab => hab) (List.Pairwise.imp_of_mem (fun {a b} ha hb hab => ?_) nd)
    intro e
    have := (h a ha).1
    have := (h b hb).1
    exact hab (by omega)
  have := few_nats m _ h1 fun x hx => by
    obtain ⟨y, hy, rfl⟩ := List.mem_map.mp hx
    have := h y hy
    omega
  rw [List.length_map] at this
  exact this
/-- a set whose members are 0 to below m has at most m -/
theorem setR_few {w : World} {h : Heap} {a : Addr} {S : Int → Bool} {n m : Nat} (R : SetR w h a S n) (hm : ∀ k, S k = true → 0 ≤ k ∧ k < (m : Int)) : n ≤ m := by
  obtain ⟨o, es, ep, t, _, _, _, _, nd, mem, _, _, e, _⟩ := R
  rw [← e, ← Array.length_toList, ← List.length_map (f := keyOf)]
  exact few_of nd fun x hx => hm x ((mem x).mpr hx)
section
variable {P : Program} {w : World} {A : Around} {E : Value → Shared → Prop} {s : Shared}
/-- the machine's loop over what is walked: each number is added; the members stay below m, so there is room however long the walk is -/
theorem set_walk {I : Addr} {fp wr : List Addr} {G : Array GenState → Array GenState → Prop} {n m : Nat} {Pv : Nat → Value → Prop} {St : Nat → Shared → Prop} {R : Result → Shared → Prop} (W : WalksS P w A.in1 I fp wr G n Pv St) (S : Addr) (out : S ∉ fp) (ns : List Int) (hn : n = ns.length)
    (low : ∀ x ∈ ns, 0 ≤ x ∧ x < (m : Int)) (room : m + 1 < scanBound) (val : ∀ i v, Pv i v → ∃ k t, ns[i]? = some k ∧ v = .int k t) : ∀ (d i : Nat) (s : Shared), n - i = d → i ≤ n → St i s → (∃ c, SetR w s.heap S (fun j => decide (j ∈ ns.take i)) c) →
      (∀ s1 c, Moved (S :: wr) G s s1 → SetR w s1.heap S (fun j => decide (j ∈ ns)) c → R (.ok (.ret .none)) s1) → codeAny (model P w) A (.builtin "set.update.loop" ⟨[.ref S, .ref I], []⟩) R s := by
  have out2 : S ∉ wr := fun h => out (W.sub _ h)
  have sub2 : ∀ b ∈ wr, b ∈ S :: wr := fun b hb => List.mem_cons_of_mem _ hb
  intro d
  induction d with
  | zero =>
    intro i s e1 hi hst ⟨c, hS⟩ hR
    obtain rfl : i = n := by omega
    refine codeAny_builtin F.entry_set_update_loop ?_; rw [Around.under_plainId F.plain_set_update_loop _]
    show wpAny _ A.in1 (pyNext (.ref I) >>= _) _ _ s; refine wpAny_bind (W.done s _ _ hst fun s1 hm => ?_)
    show wpAny _ A.in1 (ret Value.none) _ _ s1
    rw [show ns.take i = ns from List.take_of_length_le (by omega)] at hS
    exact wpAny_pure (hR s1 c (hm.mono sub2) (hS.at fun o e => hm.heap S o out2 e))
  | succ d ih =>
    intro i s e1 hi hst ⟨c, hS⟩ hR
    have lt : i < n := by omega
    refine codeAny_builtin F.entry_set_update_loop ?_; rw [Around.under_plainId F.plain_set_update_loop _]
    show wpAny _ A.in1 (pyNext (.ref I) >>= _) _ _ s; refine wpAny_bind (W.item i s _ _ lt hst fun v s1 hP hst1 hm => ?_)
    obtain ⟨z, t, hz, rfl⟩ := val i v hP
    have hS1 : SetR w s1.heap S (fun j => decide (j ∈ ns.take i)) c := hS.at fun o e => hm.heap S o out2 e
    have few : c ≤ m := setR_few hS1 fun k hk => low k (List.mem_of_mem_take (of_decide_eq_true hk))
    show wpAny _ A.in1 (holding [Value.int z t] (setAdd S (.int z t)) >>= _) _ _ s1; refine wpAny_bind (wpAny_holding ?_)
    unfold setAdd
    refine wpAny_holding ?_; refine wpAny_bind ((intKind P w).pyHash (k := z) (intKind_is _ _ _ _) ?_)
    refine setR_add_hashed (s := { s1 with toks := s1.toks + 1 }) hS1 (by omega) fun g sb hS2 => ?_
    have hS3 : SetR w g S (fun j => decide (j ∈ ns.take (i + 1))) (if decide (z ∈ ns.take i) = true then c else c + 1) := hS2.congr fun j => by rw [List.take_add_one, hz]; simp [List.mem_append]
    refine wpAny_pure ⟨plainId_quiet F.plain_set_update_loop _, ih (i + 1) _ (by omega) lt (W.frame _ s1 _ _ hst1 (Nat.le_succ _) fun b hb o e => ?_) ⟨_, hS3⟩ fun s2 c2 hm2 hS4 => ?_⟩
    · rw [sb.2 b (fun q : b = S => out (by rw [← q]; exact hb))]; exact e
    · refine hR s2 c2 (Moved.trans W.gtrans ((hm.mono sub2).then_heap (Nat.le_succ _) fun b o hb e => ?_) hm2) hS4
      rw [sb.2 b (fun q : b = S => hb (by rw [q]; exact List.mem_cons_self))]; exact e
end
section
variable {P : Program} {w : World} {A : Around} {E : Value → Shared → Prop} {s : Shared}
theorem call_set_lst {l : Addr} {its : Array Value} (ns : List Int) {Q : Value → Shared → Prop} (hA : A.handled = none) (isl : s.heap.IsList l its) (are : IntsAre its.toList ns) {m : Nat} (low : ∀ x ∈ ns, 0 ≤ x ∧ x < (m : Int)) (room : m + 1 < scanBound)
    (k : ∀ (g : Heap) (tk c : Nat), SetR w g s.heap.objs.size (fun j => decide (j ∈ ns)) c → (∀ b o, s.heap.get? b = some o → g.get? b = some o) → Q (.ref s.heap.objs.size) { s with heap := g, toks := tk }) :
    wpAny (model P w) A (call (.type "set") [.ref l]) Q E s := by
  have sz : its.size = ns.length := by have q := IntsAre.length are; rw [Array.length_toList] at q; exact q
  obtain ⟨cM, tM, hM⟩ := F.called_set.mro
  have hM1 := F.called_set.made; have hM2 := F.called_set.sub
  refine wpAny_call (codeAny_of_tree ?_); show wpAny _ _ (callAny (.type "set") _) _ _ _
  refine wpAny_pure ⟨Code.quiet_builtin _ (by decide +kernel), codeAny_builtin F.entry_type_call ?_⟩; rw [Around.under_plain (weight_type_call_type "set" [.ref l] []) rfl]
  have hM3 := F.called_set.notType; have hM4 := F.called_set.canCreate
  have hM5 := F.typeCall_set_1 (.ref l); repeat (any_goals (first | assumption | wp_step))

  refine codeAny_mono (code_set_led1 (.ref l) (E := E) (Q₁ := fun v s1 => v = .ref s.heap.objs.size ∧ s1 = { s with heap := s.heap.push (none0 w) }) ⟨rfl, rfl⟩) fun r s1 hr => ?_
  cases r with
  | error e => exact hr
  | ok fl =>
    cases fl with
    | ret v =>
      obtain ⟨rfl, rfl⟩ := hr
      have at0 : (s.heap.push (none0 w)).get? s.heap.objs.size = some (none0 w) := Heap.get?_push_size _ rfl
      have ty0 : Shared.TypeIs { s with heap := s.heap.push (none0 w) } (.ref s.heap.objs.size) "set" := ⟨_, at0, rfl⟩
      have hM6 := F.called_set.init.lookup; have hM7 := F.called_set.init.bind (.ref s.heap.objs.size)
      repeat (any_goals (first | assumption | wp_step))

      refine codeAny_mono (codeAny_call_builtin (R := wants (fun r s2 => r = .none ∧ ∃ g tk c, s2 = { s with heap := g, toks := tk } ∧ SetR w g s.heap.objs.size (fun j => decide (j ∈ ns)) c ∧ (∀ b o, s.heap.get? b = some o → g.get? b = some o)) E) F.called_set.init.plain F.entry_set_init (check_set_init_1 ty0 ?_)) fun r2 s2 hr2 => ?_
      · obtain ⟨⟨c0, d0, dt0, sl0⟩, ho, hc, nl, hd⟩ := isl
        simp only at hc hd; subst hc; subst hd
        have ho1 : (s.heap.push (none0 w)).get? l = some { cls := .type "list", dict := d0, data := .seq its nl, slots := sl0 } := Heap.get?_push_of_some _ ho
        have hs1 := F.sub_list_set; have hs2 := F.sub_list_frozenset
        have hne : (Value.type "list" == Value.type "dict") = false := by decide
        have isl1 : (s.heap.push (none0 w)).IsList l its := ⟨_, ho1, rfl, nl, rfl⟩
        unfold Builtin.«set.__init__» noKeywords Builtin.Frozenset.updateFrom; generalize hPI : pyIter = PI
        wp_walk
        subst hPI

        refine wpAny_pyIter_list isl1 ?_; refine wpAny_bind (wpAny_runValue ?_)
        have lt0 : l < s.heap.objs.size := Heap.lt_size ho
        have hA3 : A.in1.in1.in1.handled = none := by simp [hA]
        have ne1 : l ≠ (s.heap.push (none0 w)).objs.size := by rw [Heap.size_push]; exact Nat.ne_of_lt (Nat.lt_succ_of_lt lt0)
        have out1 : s.heap.objs.size ∉ [(s.heap.push (none0 w)).objs.size, l] := by
          rw [Heap.size_push]; simp only [List.mem_cons, List.mem_singleton, List.not_mem_nil, or_false, not_or]; exact ⟨Nat.ne_of_lt (Nat.lt_succ_self _), Nat.ne_of_gt lt0⟩
        have val : ∀ (i : Nat) (v : Value), its[i]? = some v → ∃ k t, ns[i]? = some k ∧ v = .int k t := fun i v hv => by
          have hi : i < ns.length := by rw [← sz]; exact (Array.getElem?_eq_some_iff.mp hv).1
          obtain ⟨t, e⟩ := PyProof.Rows.IntsAre.int_at are i v (by rw [Array.getElem?_toList]; exact hv)
          exact ⟨ns[i], t, List.getElem?_eq_getElem hi, by rw [e, List.getD_eq_getElem?_getD, List.getElem?_eq_getElem hi] <;> rfl⟩
        refine set_walk ((Walks.list hA3 _ l ne1 its).toS) s.heap.objs.size out1 ns sz low room val (its.size - 0) 0 _ (by omega) (Nat.zero_le _) ⟨⟨_, Heap.get?_push_size _ rfl, rfl, rfl⟩, (isl1.push _)⟩ ?c0 ?c1
        case c0 =>
          exact ⟨0, setR_new_at (Heap.get?_push_of_some _ at0)⟩
        case c1 =>
          intro s3 c3 hm hS3
          obtain ⟨g3, gn3, dr3, tk3, os3⟩ := s3
          obtain rfl : gn3 = s.gens := hm.gens
          obtain rfl : dr3 = s.drawn := hm.drawn
          obtain rfl : os3 = s.os := hm.os
          show wpAny _ _ _ _ _ _; refine wpAny_pure ?_; show wpAny _ _ (ret Value.none) _ _ _
          refine wpAny_pure ⟨rfl, g3, tk3, c3, rfl, hS3, fun b o e => ?_⟩
          have b0 : b < s.heap.objs.size := Heap.lt_size e
          have b2 : b ≠ (s.heap.push (none0 w)).objs.size := by rw [Heap.size_push]; exact Nat.ne_of_lt (Nat.lt_succ_of_lt b0)
          exact hm.heap b o (by simp only [List.mem_cons, List.mem_singleton, List.not_mem_nil, or_false, not_or]; exact ⟨Nat.ne_of_lt b0, b2⟩) (Heap.get?_push_of_some _ (Heap.get?_push_of_some _ e))

      · cases r2 with
        | error e => exact hr2
        | ok fl2 =>
          cases fl2 with
          | ret r =>
            obtain ⟨rfl, g, tk, c, rfl, hS, hk⟩ := hr2
            repeat (any_goals (first | assumption | wp_step))
            exact k _ _ _ hS hk
          | _ => exact hr2.elim
    | _ => exact hr.elim
end
/-- set(xs): xs a list of whole numbers from 0 to below m, however many; its members, and how many they are -/
def rSetL (K : PySem.W.Frag) (w : World) : List V → Hp → VK → Prop := fun vs H Q => ∃ (l : Addr) (ns : List Int) (m : Nat), vs = [V.ref l] ∧ SqL K H l (ns.map V.int) ∧ (∀ x ∈ ns, 0 ≤ x ∧ x < (m : Int)) ∧ m + 1 < scanBound ∧
  ∀ (p : Addr) (c : Nat), H p = none → c ≤ m → Q (.ref p) (upd H p (SetO w p (fun j => decide (j ∈ ns)) c))
theorem cr_setL {X : Cx} (hc : X.calm = true) : CallR X (.type "set") (rSetL X.K X.w) := by
  intro pins s σ H vs us Q I r h
  obtain ⟨l, ns, m, rfl, hl, low, room, q⟩ := h
  rw [Vals.ref1 r]
  obtain ⟨its, rv, pl, hz⟩ := I.list hl
  refine call_set_lst (P := X.prog) (w := X.w) ns (I.ok.hd hc) pl.isList (by simpa using ints_of_vals rv) low room fun g tk c R k => ?_
  exact ⟨.ref s.heap.objs.size, upd H s.heap.objs.size (SetO X.w s.heap.objs.size (fun j => decide (j ∈ ns)) c), I.laid (t' := tk) k (Nat.le_refl _) (setO_new R), rfl, q _ c (I.hok.fresh (Nat.le_refl _)) (setR_few R fun k hk => low k (of_decide_eq_true hk))⟩
end Lo
/-! set(xs) of a list of tuples of whole numbers, however long, of which fewer than 63 differ. -/
namespace Lo
open PySem PySem.Spec PyProof.Rows L2
/-- an empty set's object, as the machine makes it -/
abbrev none1 (w : World) : Obj := { cls := .type "set", dict := none, data := .set #[] 0 (.fresh 0 0 (!w.params.followText "set-order")) }
section
variable {P : Program} {w : World} {A : Around} {E : Value → Shared → Prop} {s : Shared}
/-- the machine's loop over what is walked: each tuple is added; those that differ stay few -/
theorem set_walkT {I : Addr} {fp wr : List Addr} {G : Array GenState → Array GenState → Prop} {n : Nat} {Pv : Nat → Value → Prop} {St : Nat → Shared → Prop} {R : Result → Shared → Prop} (W : WalksS P w A.in1 I fp wr G n Pv St) (S : Addr) (out : S ∉ fp) (ks : List (Addr × List Int)) (hn : n = ks.length)
    (few : ∀ L : List (Addr × List Int), (∀ p ∈ L, p ∈ ks) → (L.map (·.2)).Nodup → L.length + 1 < 64) (val : ∀ i v, Pv i v → ∃ p, ks[i]? = some p ∧ v = .ref p.1) (g0 : Heap) (tup : ∀ p ∈ ks, IsT P w g0 p.2 p.1) (S0 : g0.get? S = none) (w0 : ∀ b ∈ wr, g0.get? b = none) (un : A.in1.units < cLine) :
    ∀ (d i : Nat) (s : Shared), n - i = d → i ≤ n → St i s → (∀ b o, g0.get? b = some o → s.heap.get? b = some o) → (∃ L es ep t, SetTR P w s.heap S L es ep t ∧ Got ks i L) →
      (∀ s1 L es ep t, Moved (S :: wr) G s s1 → SetTR P w s1.heap S L es ep t → Got ks n L → (∀ b o, g0.get? b = some o → s1.heap.get? b = some o) → R (.ok (.ret .none)) s1) → codeAny (model P w) A (.builtin "set.update.loop" ⟨[.ref S, .ref I], []⟩) R s := by
  have out2 : S ∉ wr := fun h => out (W.sub _ h)
  have sub2 : ∀ b ∈ wr, b ∈ S :: wr := fun b hb => List.mem_cons_of_mem _ hb
  have still : ∀ {s s1 : Shared}, Moved wr G s s1 → (∀ b o, g0.get? b = some o → s.heap.get? b = some o) → ∀ b o, g0.get? b = some o → s1.heap.get? b = some o := fun m q b o e => m.heap b o (fun hb => by rw [w0 b hb] at e; cases e) (q b o e)
  intro d
  induction d with
  | zero =>
    intro i s e1 hi hst hq ⟨L, es, ep, t, hS, g⟩ hR
    obtain rfl : i = n := by omega
    refine codeAny_builtin F.entry_set_update_loop ?_; rw [Around.under_plainId F.plain_set_update_loop _]
    show wpAny _ A.in1 (pyNext (.ref I) >>= _) _ _ s; refine wpAny_bind (W.done s _ _ hst fun s1 hm => ?_)
    show wpAny _ A.in1 (ret Value.none) _ _ s1
    have hq1 := still hm hq
    exact wpAny_pure (hR s1 L es ep t (hm.mono sub2) (hS.keep (fun o e => hm.heap S o out2 e) fun p hp => isT_keep (tup p (List.mem_of_mem_take (g.sub p hp))) hq1) g hq1)
  | succ d ih =>
    intro i s e1 hi hst hq ⟨L, es, ep, t, hS, g⟩ hR
    have lt : i < n := by omega
    refine codeAny_builtin F.entry_set_update_loop ?_; rw [Around.under_plainId F.plain_set_update_loop _]
    show wpAny _ A.in1 (pyNext (.ref I) >>= _) _ _ s; refine wpAny_bind (W.item i s _ _ lt hst fun v s1 hP hst1 hm => ?_)
    obtain ⟨p, hp, rfl⟩ := val i v hP
    have hq1 := still hm hq
    have inn : ∀ p ∈ L, p ∈ ks := fun p h => List.mem_of_mem_take (g.sub p h)
    have hS1 : SetTR P w s1.heap S L es ep t := hS.keep (fun o e => hm.heap S o out2 e) fun q h => isT_keep (tup q (inn q h)) hq1
    have hx : IsT P w s1.heap p.2 p.1 := isT_keep (tup p (List.mem_of_getElem? hp)) hq1
    show wpAny _ A.in1 (holding [Value.ref p.1] (setAdd S (.ref p.1)) >>= _) _ _ s1; refine wpAny_bind (wpAny_holding ?_)
    unfold setAdd
    refine wpAny_holding ?_; refine wpAny_bind (wpAny_pyHash_tuple un hx ?_)
    refine add_at (s := { s1 with toks := s1.toks + (p.2.length + 1) }) hS1 hx un (few L inn hS1.nd) fun b g1 L1 es1 ep1 t1 sb hS2 c1 c2 => ?_
    have g2 : Got ks (i + 1) L1 := by
      rcases Classical.em (p.2 ∈ L.map (·.2)) with c | c
      · rw [c1 c]; exact g.same hp c
      · exact g.more hp (c2 c)
    have hq2 : ∀ b o, g0.get? b = some o → g1.get? b = some o := fun b o e => (sb.2 b (fun z => by rw [z, S0] at e; cases e)).trans (hq1 b o e)
    refine wpAny_pure ⟨plainId_quiet F.plain_set_update_loop _, ih (i + 1) _ (by omega) lt (W.frame _ s1 _ _ hst1 (Nat.le_add_right _ _) fun b hb o e => ?_) hq2 ⟨L1, es1, ep1, t1, hS2, g2⟩ fun s2 L2 es2 ep2 t2 hm2 hS4 g4 hq4 => ?_⟩
    · rw [sb.2 b (fun q : b = S => out (by rw [← q]; exact hb))]; exact e
    · refine hR s2 L2 es2 ep2 t2 (Moved.trans W.gtrans ((hm.mono sub2).then_heap (Nat.le_add_right _ _) fun b o hb e => ?_) hm2) hS4 g4 hq4
      rw [sb.2 b (fun q : b = S => hb (by rw [q]; exact List.mem_cons_self))]; exact e
end
section
variable {P : Program} {w : World} {A : Around} {E : Value → Shared → Prop} {s : Shared}
theorem call_set_pairs {l : Addr} {its : Array Value} (ks : List (Addr × List Int)) {Q : Value → Shared → Prop} (hA : A.handled = none) (isl : s.heap.IsList l its) (are : its.toList = ks.map fun p => Value.ref p.1) (tup : ∀ p ∈ ks, IsT P w s.heap p.2 p.1)
    (few : ∀ L : List (Addr × List Int), (∀ p ∈ L, p ∈ ks) → (L.map (·.2)).Nodup → L.length + 1 < 64) (un : A.units + 3 < cLine)
    (k : ∀ (g : Heap) (tk : Nat) L es ep t, SetTR P w g s.heap.objs.size L es ep t → Got ks ks.length L → (∀ b o, s.heap.get? b = some o → g.get? b = some o) → Q (.ref s.heap.objs.size) { s with heap := g, toks := tk }) :
    wpAny (model P w) A (call (.type "set") [.ref l]) Q E s := by
  have sz : its.size = ks.length := by have q := congrArg List.length are; rw [Array.length_toList, List.length_map] at q; exact q
  obtain ⟨cM, tM, hM⟩ := F.called_set.mro
  have hM1 := F.called_set.made; have hM2 := F.called_set.sub
  refine wpAny_call (codeAny_of_tree ?_); show wpAny _ _ (callAny (.type "set") _) _ _ _
  refine wpAny_pure ⟨Code.quiet_builtin _ (by decide +kernel), codeAny_builtin F.entry_type_call ?_⟩; rw [Around.under_plain (weight_type_call_type "set" [.ref l] []) rfl]
  have hM3 := F.called_set.notType; have hM4 := F.called_set.canCreate
  have hM5 := F.typeCall_set_1 (.ref l); repeat (any_goals (first | assumption | wp_step))

  refine codeAny_mono (code_set_led1 (.ref l) (E := E) (Q₁ := fun v s1 => v = .ref s.heap.objs.size ∧ s1 = { s with heap := s.heap.push (none1 w) }) ⟨rfl, rfl⟩) fun r s1 hr => ?_
  cases r with
  | error e => exact hr
  | ok fl =>
    cases fl with
    | ret v =>
      obtain ⟨rfl, rfl⟩ := hr
      have at0 : (s.heap.push (none1 w)).get? s.heap.objs.size = some (none1 w) := Heap.get?_push_size _ rfl
      have ty0 : Shared.TypeIs { s with heap := s.heap.push (none1 w) } (.ref s.heap.objs.size) "set" := ⟨_, at0, rfl⟩
      have hM6 := F.called_set.init.lookup; have hM7 := F.called_set.init.bind (.ref s.heap.objs.size)
      repeat (any_goals (first | assumption | wp_step))

      refine codeAny_mono (codeAny_call_builtin (R := wants (fun r s2 => r = .none ∧ ∃ g tk L es ep t, s2 = { s with heap := g, toks := tk } ∧ SetTR P w g s.heap.objs.size L es ep t ∧ Got ks ks.length L ∧ (∀ b o, s.heap.get? b = some o → g.get? b = some o)) E) F.called_set.init.plain F.entry_set_init (check_set_init_1 ty0 ?_)) fun r2 s2 hr2 => ?_
      · obtain ⟨⟨c0, d0, dt0, sl0⟩, ho, hc, nl, hd⟩ := isl
        simp only at hc hd; subst hc; subst hd
        have ho1 : (s.heap.push (none1 w)).get? l = some { cls := .type "list", dict := d0, data := .seq its nl, slots := sl0 } := Heap.get?_push_of_some _ ho
        have hs1 := F.sub_list_set; have hs2 := F.sub_list_frozenset
        have hne : (Value.type "list" == Value.type "dict") = false := by decide
        have isl1 : (s.heap.push (none1 w)).IsList l its := ⟨_, ho1, rfl, nl, rfl⟩
        unfold Builtin.«set.__init__» noKeywords Builtin.Frozenset.updateFrom; generalize hPI : pyIter = PI
        wp_walk
        subst hPI

        refine wpAny_pyIter_list isl1 ?_; refine wpAny_bind (wpAny_runValue ?_)
        have lt0 : l < s.heap.objs.size := Heap.lt_size ho
        have hA3 : A.in1.in1.in1.handled = none := by simp [hA]
        have ne1 : l ≠ (s.heap.push (none1 w)).objs.size := by rw [Heap.size_push]; exact Nat.ne_of_lt (Nat.lt_succ_of_lt lt0)
        have out1 : s.heap.objs.size ∉ [(s.heap.push (none1 w)).objs.size, l] := by
          rw [Heap.size_push]; simp only [List.mem_cons, List.mem_singleton, List.not_mem_nil, or_false, not_or]; exact ⟨Nat.ne_of_lt (Nat.lt_succ_self _), Nat.ne_of_gt lt0⟩
        have val : ∀ (i : Nat) (v : Value), its[i]? = some v → ∃ p, ks[i]? = some p ∧ v = .ref p.1 := fun i v hv => by
          have q : its.toList[i]? = some v := (Array.getElem?_toList).trans hv
          rw [are, List.getElem?_map] at q
          cases hz : ks[i]? with
          | none =>
            rw [hz] at q
            cases q
          | some p =>
            rw [hz] at q
            exact ⟨p, rfl, (Option.some.inj q).symm⟩
        have no : ∀ b, s.heap.objs.size ≤ b → s.heap.get? b = none := fun b hb => by
          cases q : s.heap.get? b with
          | none => rfl
          | some o => exact absurd (Heap.lt_size q) (Nat.not_lt.mpr hb)
        refine set_walkT ((Walks.list hA3 _ l ne1 its).toS) s.heap.objs.size out1 ks sz few val s.heap tup (no _ (Nat.le_refl _)) (fun b hb => no b (by rw [List.mem_singleton.mp hb, Heap.size_push]; omega)) un (its.size - 0) 0 _ (by omega) (Nat.zero_le _) ⟨⟨_, Heap.get?_push_size _ rfl, rfl, rfl⟩, (isl1.push _)⟩ (fun b o e => Heap.get?_push_of_some _ (Heap.get?_push_of_some _ e)) ?c0 ?c1
        case c0 =>
          exact ⟨[], #[], 0, _, setTR_fresh (Heap.get?_push_of_some _ at0), Got.zero ks⟩
        case c1 =>
          intro s3 L3 es3 ep3 t3 hm hS3 g3 hq3
          obtain ⟨h3, gn3, dr3, tk3, os3⟩ := s3
          obtain rfl : gn3 = s.gens := hm.gens
          obtain rfl : dr3 = s.drawn := hm.drawn
          obtain rfl : os3 = s.os := hm.os
          show wpAny _ _ _ _ _ _; refine wpAny_pure ?_; show wpAny _ _ (ret Value.none) _ _ _
          rw [sz] at g3
          exact wpAny_pure ⟨rfl, h3, tk3, L3, es3, ep3, t3, rfl, hS3, g3, hq3⟩

      · cases r2 with
        | error e => exact hr2
        | ok fl2 =>
          cases fl2 with
          | ret r =>
            obtain ⟨rfl, g, tk, L, es, ep, t, rfl, hS, hg, hk⟩ := hr2
            repeat (any_goals (first | assumption | wp_step))
            exact k _ _ _ _ _ _ hS hg hk
          | _ => exact hr2.elim
    | _ => exact hr.elim
end
/-- set(xs): xs a list of tuples of whole numbers of which few differ -/
def rSetP (K : PySem.W.Frag) (P : Program) (w : World) : List V → Hp → VK → Prop := fun vs H Q => ∃ (l : Addr) (ks : List (Addr × List Int)), vs = [V.ref l] ∧ SqL K H l (ks.map fun p => V.ref p.1) ∧ (∀ p ∈ ks, SqT K H p.1 (p.2.map V.int)) ∧
  (∀ L : List (Addr × List Int), (∀ p ∈ L, p ∈ ks) → (L.map (·.2)).Nodup → L.length + 1 < 64) ∧ ∀ a L, H a = none → (∀ p ∈ L, p ∈ ks) → (∀ p ∈ ks, p.2 ∈ L.map (·.2)) → Q (.ref a) (upd H a (SetTO P w a L))
theorem cr_setP {X : Cx} (hc : X.calm = true) (un : X.A.units + 64 < cLine) : CallR X (.type "set") (rSetP X.K X.prog X.w) := by
  intro pins s σ H vs us Q I r h
  obtain ⟨l, ks, rfl, hl, tup, few, q⟩ := h
  rw [Vals.ref1 r]
  obtain ⟨its, rv, pl, hz⟩ := I.list hl
  refine call_set_pairs (P := X.prog) (w := X.w) ks (I.ok.hd hc) pl.isList (by simpa using refs_of_vals rv) (fun p hp => I.isT (tup p hp)) few (by omega) fun g tk L es ep t R gt k => ?_
  exact ⟨.ref s.heap.objs.size, upd H s.heap.objs.size (SetTO X.prog X.w s.heap.objs.size L), I.laid (t' := tk) k (Nat.le_refl _) (setTO_new R.t0), rfl, q _ L (I.hok.fresh (Nat.le_refl _)) (fun p hp => List.mem_of_mem_take (gt.sub p hp)) fun p hp => gt.all p (by rw [List.take_length]; exact hp)⟩
end Lo
/-! xs.extend(ys), ys a list or a tuple. -/
namespace Lo
open PySem PySem.Spec PyProof.Rows L2
theorem ext_tup (l : Addr) (xs : Array Value) (n : Nat) (b : Addr) (ys : Array Value) (m : Nat) (dc : Option Addr) (sl : Array (Option Value)) (h0 : ¬(!xs.isEmpty && Builtin.List.listTooLong (xs.size + ys.size)) = true) (h1 : xs.size ≤ sizeLine) (h2 : xs.size + ys.size ≤ sizeLine + 1) :
    Meets (Builtin.«list.extend» ⟨[.ref l, .ref b], []⟩) (fun _ R s => s.heap.get? l = some { cls := .type "list", dict := none, data := .seq xs n, slots := #[] } ∧ s.heap.get? b = some { cls := .type "tuple", dict := dc, data := .seq ys m, slots := sl } ∧ R (.ok (.ret Value.none)) { s with heap := s.heap.update l (Obj.mapSeq fun x => x ++ ys), toks := s.toks }) :=
  .of_wp fun prog w A R s h => by
    obtain ⟨hp, g, d, tk, os⟩ := s; obtain ⟨hl, hb, h⟩ := h
    have f1 := AutoSeq1.idx_int; have f2 := AutoSeq1.sub_tuple_tuple; have f3 := AutoSeq1.sub_list_list
    have f4 := AutoSeq1.sub_tuple_list; have f5 := AutoSeq1.sub_list_tuple
    have hz : (xs ++ ys).size ≤ sizeLine + 1 := by rw [Array.size_append]; exact h2
    wp_walk using (wpAny_updateSeq hl rfl (hz := h1) (_hz' := hz)), AutoSeq1.wpAny_loadPart' hl, AutoSeq1.wpAny_loadPart' hb
    exact ⟨_, rfl, h⟩
/-- what stands at b is a list or a tuple of zs -/
def rExtLT (K : PySem.W.Frag) : V → List V → Hp → VK → Prop := fun x vs H Q => ∃ l b xs zs, x = .ref l ∧ vs = [.ref b] ∧ H l = some (.lst xs) ∧ (H b = some (.lst zs) ∨ SqT K H b zs) ∧ xs.length + zs.length ≤ sizeLine ∧ Q .non (upd H l (.lst (xs ++ zs)))
theorem mt_extLT {X : Cx} : MtM X "list.extend" (rExtLT X.K) := by
  intro pins s σ H x vs v us Q I rx rv h
  obtain ⟨l, b, xs, zs, rfl, rfl, hH, hB | hB, hz, q⟩ := h
  · exact mt_extend pins s σ H _ _ v us Q I rx rv ⟨l, b, xs, zs, rfl, rfl, hH, hB, hz, q⟩
  · cases rx
    obtain ⟨u, rfl, ru⟩ := rv.one
    cases ru
    obtain ⟨z, its, n, r, hl, e⟩ := I.lstM hH
    obtain ⟨its2, r2, ⟨⟨c0, d0, dt0, sl0⟩, ho, hc, m, hd⟩, _⟩ := I.tuple hB
    simp only at hc hd; subst hc; subst hd
    have l2 := r2.length
    have sz : its.toArray.size + its2.toArray.size ≤ sizeLine := by rw [List.size_toArray, List.size_toArray]; omega
    have h0 : ¬ (!its.toArray.isEmpty && Builtin.List.listTooLong (its.toArray.size + its2.toArray.size)) = true := by rw [notLongL sz, Bool.and_false]; exact Bool.false_ne_true
    refine call_meets F.slot_list_extend ⟨_, e, rfl⟩ F.entry_list_extend (F.args_list_extend_2 _ _) (ext_tup l its.toArray n b its2.toArray m d0 sl0 h0 (by rw [List.size_toArray]; omega) (by omega)) ⟨e, ho, ?_⟩
    refine ⟨.non, _, I.lset (its' := its ++ its2) hH e (by simp) (r.append r2) ?_, rfl, q⟩
    rw [List.length_append]; omega
end Lo
namespace Lo
open PySem PySem.Spec PyProof.Rows L2
open So01 (Ask)
abbrev Wd := So01.World
def top (i : Nat) : Stmt := PySem.Challenge.pw_leftopen_s01_answers.main.body.getD i (.Pass ⟨0, 0, 0, 0⟩)
/-! ### heaps -/
theorem _root_.L2.Same.new {H : Hp} {p : Addr} {o : HO} (n : H p = none) : Same H (upd H p o) := fun b u e => by
  rw [upd_ne (ne_of_none e n)]
  exact e
theorem _root_.L2.Same.put {H H' : Hp} {p : Addr} {o : HO} (s : Same H H') (n : H p = none) : Same H (upd H' p o) := fun b u e => by
  rw [upd_ne (ne_of_none e n)]
  exact s b u e
theorem _root_.L2.SqT.keep {K : PySem.W.Frag} {H H' : Hp} {a : Addr} {xs : List V} (h : SqT K H a xs) (k : ∀ o, H a = some o → H' a = some o) : SqT K H' a xs := by
  rcases h with (h | ⟨o, h⟩) | h
  · exact .inl (.inl (k _ h))
  · exact .inl (.inr ⟨o, k _ h⟩)
  · exact .inr h
theorem _root_.L2.SqL.keep {K : PySem.W.Frag} {H H' : Hp} {a : Addr} {xs : List V} (h : SqL K H a xs) (k : ∀ o, H a = some o → H' a = some o) : SqL K H' a xs := by
  rcases h with (h | ⟨o, h⟩) | h
  · exact .inl (.inl (k _ h))
  · exact .inl (.inr ⟨o, k _ h⟩)
  · exact .inr h
theorem _root_.L2.SqT.same {K : PySem.W.Frag} {H H' : Hp} {a : Addr} {xs : List V} (h : SqT K H a xs) (s : Same H H') : SqT K H' a xs := h.keep fun o e => s a o e
/-- a tuple stays where something that is no tuple is stored -/
theorem _root_.L2.SqT.past {K : PySem.W.Frag} {H : Hp} {a l : Addr} {xs : List V} {o u : HO} (h : SqT K H a xs) (hl : H l = some o) (d : ∀ ys, o ≠ .tup ys) (d2 : ∀ b ys, o ≠ .frz b (.tup ys)) : SqT K (upd H l u) a xs := by
  rcases h with (h | ⟨b, h⟩) | h
  · exact .inl (.inl (by rw [upd_ne (ne_of h hl (fun e => d _ e.symm))]; exact h))
  · exact .inl (.inr ⟨b, by rw [upd_ne (ne_of h hl (fun e => d2 _ _ e.symm))]; exact h⟩)
  · exact .inr h
theorem _root_.L2.SqT.pastL {K : PySem.W.Frag} {H : Hp} {a l : Addr} {xs ys : List V} {u : HO} (h : SqT K H a xs) (hl : H l = some (.lst ys)) : SqT K (upd H l u) a xs := h.past hl (fun _ e => by cases e) (fun _ _ e => by cases e)
theorem _root_.L2.SqL.past {K : PySem.W.Frag} {H : Hp} {a l : Addr} {xs : List V} {o u : HO} (h : SqL K H a xs) (hl : H l = some o) (d : ∀ ys, o ≠ .lst ys) (d2 : ∀ b ys, o ≠ .frz b (.lst ys)) : SqL K (upd H l u) a xs := by
  rcases h with (h | ⟨b, h⟩) | h
  · exact .inl (.inl (by rw [upd_ne (ne_of h hl (fun e => d _ e.symm))]; exact h))
  · exact .inl (.inr ⟨b, by rw [upd_ne (ne_of h hl (fun e => d2 _ _ e.symm))]; exact h⟩)
  · exact .inr h
theorem _root_.L2.SqL.pastI {K : PySem.W.Frag} {H : Hp} {a l C dx : Addr} {xs : List V} {fs : List (Str × V)} {u : HO} (h : SqL K H a xs) (hl : H l = some (.ins C dx fs)) : SqL K (upd H l u) a xs := h.past hl (fun _ e => by cases e) (fun _ _ e => by cases e)
theorem _root_.L2.SqT.pastI {K : PySem.W.Frag} {H : Hp} {a l C dx : Addr} {xs : List V} {fs : List (Str × V)} {u : HO} (h : SqT K H a xs) (hl : H l = some (.ins C dx fs)) : SqT K (upd H l u) a xs := h.past hl (fun _ e => by cases e) (fun _ _ e => by cases e)
/-! ### numbers, worlds -/
/-- numbers as values -/
def nV (l : List Nat) : List V := l.map fun (n : Nat) => V.int (n : Int)
theorem nV_ints (l : List Nat) : nV l = (l.map fun (n : Nat) => (n : Int)).map V.int := by
  unfold nV
  rw [List.map_map]
  rfl
theorem nV_length (l : List Nat) : (nV l).length = l.length := List.length_map _
theorem nV_append (l r : List Nat) : nV (l ++ r) = nV l ++ nV r := by unfold nV; exact List.map_append
theorem nV_get {l : List Nat} {i n : Nat} (h : l[i]? = some n) : (nV l)[i]? = some (.int (n : Int)) := by
  unfold nV
  rw [List.getElem?_map, h]
  rfl
/-- a list of worlds: each a tuple of what each has; by its items' addresses -/
structure WsAt (K : PySem.W.Frag) (H : Hp) (p : Addr) (tw : List (Addr × Wd)) : Prop where
  at_ : H p = some (.lst (tw.map fun x => V.ref x.1))
  tup : ∀ x ∈ tw, SqT K H x.1 (nV x.2)
theorem WsAt.same {K : PySem.W.Frag} {H H' : Hp} {p : Addr} {tw : List (Addr × Wd)} (h : WsAt K H p tw) (s : Same H H') : WsAt K H' p tw := ⟨s _ _ h.at_, fun x hx => (h.tup x hx).same s⟩
/-- one more, whose tuple stands -/
theorem WsAt.push {K : PySem.W.Frag} {H : Hp} {p t : Addr} {tw : List (Addr × Wd)} {w : Wd} (h : WsAt K H p tw) (ht : SqT K H t (nV w)) : WsAt K (upd H p (.lst ((tw.map fun x => V.ref x.1) ++ [.ref t]))) p (tw ++ [(t, w)]) := by
  refine ⟨?_, fun x hx => ?_⟩
  · rw [upd_same, List.map_append]
    rfl
  · rcases List.mem_append.mp hx with e | e
    · exact (h.tup x e).pastL h.at_
    · rw [List.mem_singleton.mp e]
      exact ht.pastL h.at_
theorem take_more {α : Type} {l : List α} {i : Nat} {x : α} (h : l[i]? = some x) : l.take (i + 1) = l.take i ++ [x] := by
  rw [List.take_add_one, h]
  rfl
theorem sizeLine_is : sizeLine = 16777216 := rfl
/-- the built-in names stand -/
structure Blt (mg : Str → Option Value) : Prop where
  len : mg "len" = none
  range : mg "range" = none
  sorted : mg "sorted" = none
  set : mg "set" = none
  max : mg "max" = none
  min : mg "min" = none
  sum : mg "sum" = none
  all : mg "all" = none
  tuple : mg "tuple" = none
  list : mg "list" = none
end Lo
namespace Lo
open PySem PySem.Spec PyProof.Rows L2
open So01 (Ask)
/-! ### all_worlds -/
abbrev sAll : Stmt := top 12
def nAll : List Str := ["size", "h", "worlds", "person", "longer", "world", "had"]
theorem scAll : FnScope nAll ["size", "h"] (defScope sAll) := ⟨rfl, rfl, rfl, by decide +kernel, rfl, by decide +kernel, by decide +kernel⟩
def spAll (K : PySem.W.Frag) : Sp := fun vs H Q _ => ∃ n h : Nat, vs = [.int (n : Int), .int (h : Int)] ∧ n ≤ 5 ∧ h ≤ 5 ∧
  ∀ (H' : Hp) (p : Addr) (tw : List (Addr × Wd)), Same H H' → H p = none → WsAt K H' p tw → (∀ x ∈ tw, H x.1 = none) → tw.map (·.2) = So01.worlds h n → Q (.ref p) H'
theorem pow_le {h n : Nat} (hh : h ≤ 5) (hn : n ≤ 5) : (h + 1) ^ n ≤ 7776 := by
  have h1 : (h + 1) ^ n ≤ 6 ^ n := Nat.pow_le_pow_left (by omega) n
  have h2 : 6 ^ n ≤ 6 ^ 5 := Nat.pow_le_pow_right (by decide) hn
  exact Nat.le_trans h1 h2
theorem len_more (h : Nat) (l : List Wd) : (l.flatMap (more h)).length = l.length * (h + 1) := by
  induction l with
  | nil => simp
  | cons a r ih =>
    rw [List.flatMap_cons, List.length_append, ih, List.length_cons]
    have e : (more h a).length = h + 1 := by unfold more; rw [List.length_map, List.length_range]
    rw [e, Nat.succ_mul, Nat.add_comm]
section
variable {P : Program} {w : World} {K : PySem.W.Frag} {mg : Str → Option Value} {base : Heap}
theorem ok_all {f : Addr} {fd : FuncData} (F : Fun K "all_worlds" "all_worlds" sAll f fd) (B : Blt mg) : FnOk P w K mg base CX0 1 f fd ["size", "h"] (spAll K) := by
  refine F.ok scAll (fun vs H Q E h => ?_) (fun cdv A outer s H vs Q E hr h => ?_)
  · obtain ⟨n, h, rfl, _⟩ := h
    rfl
  · obtain ⟨n, h, rfl, hn, hh, k⟩ := h
    refine ⟨_, pss_cons (ps_set (i := 2) scAll.nd rfl (Or.inl rfl) (pe_lst (pa_cons (pe_tup pa_nil) pa_nil)))
      (pss_cons (ps_for PassesOwn.never rfl (pi_range1 rfl B.range (pa_cons (pv 0) pa_nil)) (pg_name (i := 3) scAll.nd rfl (Or.inl rfl))
        (pss_cons (ps_set (i := 4) scAll.nd rfl (Or.inl rfl) (pe_lst pa_nil))
        (pss_cons (ps_for PassesOwn.never rfl (pi_list (pv 2)) (pg_name (i := 5) scAll.nd rfl (Or.inl rfl))
          (pss_one (ps_for PassesOwn.never rfl (pi_range1 rfl B.range (pa_cons (pe_op op_add (pv 1) pe_int) pa_nil)) (pg_name (i := 6) scAll.nd rfl (Or.inl rfl))
            (pss_one (ps_expr (pe_bm PySem.F.plainAttrs_list PySem.F.slot_list_append PySem.F.type_list_append mt_append (pv 4) (pa_cons (pe_op op_catA (pv 5) (pe_tup (pa_cons (pv 6) pa_nil))) pa_nil)))))))
        (pss_one (ps_set (i := 2) scAll.nd rfl (Or.inl rfl) (pv 4))))))
      (pss_one (ps_ret (pv 2)))), ?_⟩
    refine ⟨Nat.zero_le _, fun e he => ⟨by show 1 ≤ sizeLine; decide, fun l hl => ?_⟩⟩
    have hl0 : H l = none := (Same.new he).free hl
    have W0 : WsAt K (upd (upd H e (.tup [])) l (.lst [.ref e])) l [(e, [])] := by
      refine ⟨upd_same, fun x hx => ?_⟩
      rw [List.mem_singleton.mp hx]
      refine SqT.of ?_
      exact Eq.trans (upd_ne (ne_of_none upd_same hl)) upd_same
    refine ⟨_, rfl, (n : Int), rfl, by omega, by omega, for_range (n := n) (fun i σ H' => ∃ (p : Addr) (tw : List (Addr × Wd)) (o3 o4 o5 o6 : Option V), σ = [some (.int (n : Int)), some (.int (h : Int)), some (.ref p), o3, o4, o5, o6] ∧
      Same H H' ∧ H p = none ∧ WsAt K H' p tw ∧ (∀ x ∈ tw, H x.1 = none) ∧ tw.map (·.2) = So01.worlds h i) ⟨l, _, none, none, none, none, rfl, (Same.new he).trans (Same.new hl), hl0, W0, fun x hx => by rw [List.mem_singleton.mp hx]; exact he, rfl⟩ ?_ ?_⟩
    · rintro i σ H1 hi ⟨p, tw, o3, o4, o5, o6, rfl, s1, p0, W1, fr1, ew⟩
      have lw : tw.length = (h + 1) ^ i := by rw [← worlds_length h i, ← ew, List.length_map]
      have lw2 := pow_le hh (show i ≤ 5 by omega)
      refine ⟨Nat.zero_le _, fun l2 n2 => ?_⟩
      have s2 : Same H1 (upd H1 l2 (.lst [])) := Same.new n2
      -- the middle loop: over the worlds so far
      refine ⟨_, rfl, p, rfl, ⟨_, SqL.of (s2 _ _ W1.at_)⟩, for_list (K := K) (a := p) (xs := tw.map fun x => V.ref x.1) (fun j σ H' => ∃ (lw : List (Addr × Wd)) (o3 o5 o6 : Option V), σ = [some (.int (n : Int)), some (.int (h : Int)), some (.ref p), o3, some (.ref l2), o5, o6] ∧
        Same H1 H' ∧ WsAt K H' l2 lw ∧ (∀ x ∈ lw, H1 x.1 = none) ∧ lw.map (·.2) = ((tw.take j).map (·.2)).flatMap (more h)) ⟨[], _, _, _, rfl, s2, ⟨upd_same, fun x hx => by cases hx⟩, (fun x hx => by cases hx), rfl⟩ (fun j σ H' _ ⟨_, _, _, _, _, s3, _⟩ => SqL.of (s3 _ _ W1.at_)) ?_ ?_⟩
      · rintro j y σ H2 hj ⟨lw2, o3, o5, o6, rfl, s3, W2, fr2, e2⟩
        rw [List.getElem?_map] at hj
        cases hx : tw[j]? with
        | none =>
          rw [hx] at hj
          cases hj
        | some x =>
        rw [hx] at hj
        obtain rfl : V.ref x.1 = y := Option.some.inj hj
        have hxm : x ∈ tw := List.mem_of_getElem? hx
        have hjl : j < tw.length := (List.getElem?_eq_some_iff.mp hx).1
        have base2 : lw2.length = j * (h + 1) := by
          rw [← List.length_map (f := (·.2)), e2, len_more, List.length_map, List.length_take, Nat.min_eq_left (Nat.le_of_lt hjl)]
        -- the inner loop: over what one more may have
        refine ⟨_, rfl, _, _, rfl, rfl, (h : Int) + 1, rfl, by omega, by omega, for_range (n := h + 1) (fun v σ H' => ∃ (lw : List (Addr × Wd)) (o3 o6 : Option V), σ = [some (.int (n : Int)), some (.int (h : Int)), some (.ref p), o3, some (.ref l2), some (.ref x.1), o6] ∧
          Same H1 H' ∧ WsAt K H' l2 lw ∧ (∀ x ∈ lw, H1 x.1 = none) ∧ lw.map (·.2) = ((tw.take j).map (·.2)).flatMap (more h) ++ (List.range v).map fun v => x.2 ++ [v]) ⟨lw2, _, _, rfl, s3, W2, fr2, by rw [e2]; exact (List.append_nil _).symm⟩ ?_ ?_⟩
        · rintro v σ H3 hv ⟨lw3, o3, o6, rfl, s4, W3, fr3, e3⟩
          have len3 : lw3.length = j * (h + 1) + v := by
            rw [← List.length_map (f := (·.2)), e3, List.length_append, len_more, List.length_map, List.length_take, Nat.min_eq_left (Nat.le_of_lt hjl), List.length_map, List.length_range]
          have len4 : j * (h + 1) ≤ 7776 * 6 := Nat.mul_le_mul (by omega) (by omega)
          have big : lw3.length < sizeLine := by
            rw [sizeLine_is]
            omega
          have fin : ∀ (H4 : Hp) (r : Addr), Same H3 H4 → H3 r = none → SqT K H4 r (nV (x.2 ++ [v])) → rAppend (.ref l2) [.ref r] H4 (fun _ H5 => ∃ (lw : List (Addr × Wd)) (u3 u6 : Option V), [some (V.int (n : Int)), some (.int (h : Int)), some (.ref p), o3, some (.ref l2), some (.ref x.1), some (.int (0 + (v : Int)))] = [some (V.int (n : Int)), some (.int (h : Int)), some (.ref p), u3, some (.ref l2), some (.ref x.1), u6] ∧
              Same H1 H5 ∧ WsAt K H5 l2 lw ∧ (∀ x ∈ lw, H1 x.1 = none) ∧ lw.map (·.2) = ((tw.take j).map (·.2)).flatMap (more h) ++ (List.range (v + 1)).map fun v => x.2 ++ [v]) := fun H4 r s5 r0 hT => by
            have W4 := W3.same s5
            refine ⟨l2, _, _, rfl, rfl, W4.at_, by rw [List.length_map]; exact big, lw3 ++ [(r, x.2 ++ [v])], o3, _, rfl, (s4.trans s5).put n2, W4.push hT, ?_, ?_⟩
            · intro y hy
              rcases List.mem_append.mp hy with e | e
              · exact fr3 y e
              · rw [List.mem_singleton.mp e]
                exact s4.free r0
            rw [List.map_append, e3, List.range_succ, List.map_append, List.append_assoc]
            rfl
          have xin : x.2 ∈ So01.worlds h i := by
            rw [← ew]
            exact List.mem_map.mpr ⟨x, hxm, rfl⟩
          have xlen := (mem_worlds.mp xin).1
          refine ⟨_, rfl, .inl ⟨rfl, _, SqL.of W3.at_⟩, _, rfl, _, rfl, (by show 1 ≤ sizeLine; decide), fun t nt => ?_⟩
          have st : Same H3 (upd H3 t (.tup [.int (0 + (v : Int))])) := Same.new nt
          have ev : ([.int (0 + (v : Int))] : List V) = nV [v] := by
            show _ = [V.int (v : Int)]
            rw [Int.zero_add]
          refine ⟨x.1, t, nV x.2, _, rfl, rfl, ((W1.tup x hxm).same s4).same st, SqT.of upd_same, ?_, fun ex => ?_, fun _ z => (by cases z), fun _ _ q nq => ?_⟩
          · rw [nV_length, xlen, sizeLine_is]
            show i + 1 ≤ _
            omega
          · refine fin _ t st nt ?_
            rw [nV_append, ex, List.nil_append, ← ev]
            exact SqT.of upd_same
          · refine fin _ q (st.trans (Same.new nq)) (st.free nq) ?_
            rw [nV_append, ← ev]
            exact SqT.of upd_same
        · rintro σ H3 ⟨lw3, o3, o6, rfl, s4, W3, fr3, e3⟩
          refine ⟨lw3, _, _, _, rfl, s4, W3, fr3, ?_⟩
          rw [e3, take_more hx, List.map_append, List.flatMap_append]
          refine congrArg _ ?_
          show _ = [x.2].flatMap (more h)
          rw [List.flatMap_cons, List.flatMap_nil, List.append_nil]
          rfl
      · rintro σ H2 ⟨lw2, o3, o5, o6, rfl, s3, W2, fr2, e2⟩
        rw [List.length_map, List.take_length, ew, ← worlds_more] at e2
        exact ⟨_, rfl, l2, lw2, _, _, _, _, rfl, s1.trans s3, s1.free n2, W2, fun x hx => s1.free (fr2 x hx), e2⟩
    · rintro σ H' ⟨p, tw, o3, o4, o5, o6, rfl, s1, p0, W, fr, ew⟩
      exact ⟨_, rfl, k _ p tw s1 p0 W fr ew⟩
end
end Lo
namespace Lo
open PySem PySem.Spec PyProof.Rows L2
open So01 (Ask)
/-! ### different -/
abbrev sDif : Stmt := top 13
def nDif : List Str := ["numbers", "rising"]
theorem scDif : FnScope nDif ["numbers"] (defScope sDif) := ⟨rfl, rfl, rfl, by decide +kernel, rfl, by decide +kernel, by decide +kernel⟩
def iV (l : List Int) : List V := l.map V.int
def spDif (K : PySem.W.Frag) : Sp := fun vs H Q _ => ∃ (a : Addr) (l : List Nat), vs = [.ref a] ∧ SqL K H a (nV l) ∧ (∀ x ∈ l, x < 63) ∧
  ∀ (H' : Hp) (p : Addr), Same H H' → H p = none → H' p = some (.lst (iV (So01.rowOf (So01.setOf l)))) → Q (.ref p) H'
section
variable {P : Program} {w : World} {K : PySem.W.Frag} {mg : Str → Option Value} {base : Heap}
theorem ok_dif {f : Addr} {fd : FuncData} (F : Fun K "different" "different" sDif f fd) (B : Blt mg) : FnOk P w K mg base CX0 1 f fd ["numbers"] (spDif K) := by
  refine F.ok scDif (fun vs H Q E h => ?_) (fun cdv A outer s H vs Q E hr h => ?_)
  · obtain ⟨a, l, rfl, _⟩ := h
    rfl
  · obtain ⟨a, l, rfl, hS, hx, k⟩ := h
    refine ⟨_, pss_cons (ps_set (i := 1) scDif.nd rfl (Or.inl rfl) (pe_callB (cr_sortedSet rfl) (by rfl) B.sorted (by decide +kernel) (pa_cons (pe_callTy (cr_setL rfl) (by rfl) B.set (by decide +kernel) (pa_cons (pv 0) pa_nil)) pa_nil)))
      (pss_one (ps_ret (pe_op op_cat (pe_lst (pa_cons (pe_callB call_len_seq (by rfl) B.len PySem.boot_len (pa_cons (pv 1) pa_nil)) pa_nil)) (pv 1)))), ?_⟩
    rw [nV_ints] at hS
    refine ⟨_, rfl, a, l.map (fun (n : Nat) => (n : Int)), 63, rfl, hS, fun x hx2 => ?_, by decide, fun q c nq c63 => ?_⟩
    · obtain ⟨y, hy, rfl⟩ := List.mem_map.mp hx2
      have := hx y hy
      omega
    refine ⟨q, _, c, rfl, upd_same, by omega, fun ns r rises mem len nr => ?_⟩
    have e := setOf_is (l := l) rises fun k => by
      rw [mem k, decide_eq_true_eq, List.mem_map]
      constructor
      · rintro ⟨x, hx, rfl⟩
        exact ⟨x, hx, rfl⟩
      · rintro ⟨x, hx, rfl⟩
        exact ⟨x, hx, rfl⟩
    have s1 : Same H (upd (upd H q (SetO w q (fun j => decide (j ∈ l.map (fun (n : Nat) => (n : Int)))) c)) r (.lst (ns.map V.int))) := (Same.new nq).trans (Same.new nr)
    refine ⟨_, rfl, r, _, rfl, .inl (SqL.of upd_same), by show 1 ≤ sizeLine; decide, fun u nu => ?_⟩
    refine ⟨_, rfl, u, r, _, _, rfl, rfl, upd_same, Eq.trans (upd_ne (ne_of_none upd_same nu)) upd_same, ?_, fun p np => ?_⟩
    · show 1 + (ns.map V.int).length ≤ sizeLine
      rw [List.length_map, len, sizeLine_is]
      omega
    · refine k _ p ((s1.trans (Same.new nu)).trans (Same.new np)) ((s1.trans (Same.new nu)).free np) ?_
      rw [upd_same, e]
      unfold So01.rowOf So01.ints iV
      simp only [List.map_cons, List.length_map]
      rfl
end
end Lo
namespace Lo
open PySem PySem.Spec PyProof.Rows L2
open So01 (Ask)
/-! ### leaves_wide -/
abbrev sLea : Stmt := top 17
def nLea : List Str := ["worlds", "p", "k", "had", "world"]
theorem scLea : FnScope nLea ["worlds", "p"] (defScope sLea) := ⟨rfl, rfl, rfl, by decide +kernel, rfl, by decide +kernel, by decide +kernel⟩
/-- the worlds of a list -/
def wsOf (tw : List (Addr × Wd)) : List Wd := tw.map (·.2)
def spLea (K : PySem.W.Frag) : Sp := fun vs H Q _ => ∃ (a : Addr) (p n : Nat) (tw : List (Addr × Wd)), vs = [.ref a, .int (p : Int)] ∧ WsAt K H a tw ∧ tw ≠ [] ∧ tw.length ≤ 7776 ∧ n ≤ 5 ∧ (∀ x ∈ tw, x.2.length = n) ∧
  ∀ H' : Hp, Same H H' → Q (.bl (So01.open_ n p (wsOf tw))) H'
theorem has_get {w : Wd} {k : Nat} (h : k < w.length) : w[k]? = some (So01.has w (k + 1)) := by
  unfold So01.has
  rw [Nat.add_sub_cancel, List.getD_eq_getElem?_getD, List.getElem?_eq_getElem h]
  rfl
theorem map_get {α β : Type} {f : α → β} {l : List α} {i : Nat} {y : β} (h : (l.map f)[i]? = some y) : ∃ x, l[i]? = some x ∧ f x = y := by
  rw [List.getElem?_map] at h
  cases e : l[i]? with
  | none =>
    rw [e] at h
    cases h
  | some x =>
    rw [e] at h
    exact ⟨x, rfl, Option.some.inj h⟩
section
variable {P : Program} {w : World} {K : PySem.W.Frag} {mg : Str → Option Value} {base : Heap}
theorem ok_lea {f : Addr} {fd : FuncData} (F : Fun K "leaves_wide" "leaves_wide" sLea f fd) (B : Blt mg) : FnOk P w K mg base CX0 1 f fd ["worlds", "p"] (spLea K) := by
  refine F.ok scLea (fun vs H Q E h => ?_) (fun cdv A outer s H vs Q E hr h => ?_)
  · obtain ⟨a, p, n, tw, rfl, _⟩ := h
    rfl
  · obtain ⟨a, p, n, tw, rfl, W, ne, few, hn, len, k⟩ := h
    refine ⟨_, pss_cons (ps_for PassesOwn.never rfl (pi_range1 rfl B.range (pa_cons (pe_callB call_len_seq (by rfl) B.len PySem.boot_len (pa_cons (pe_ix ix_list (pv 0) pe_int (fun _ _ => rfl)) pa_nil)) pa_nil)) (pg_name (i := 2) scLea.nd rfl (Or.inr rfl))
        (pss_cons (ps_setLc (i := 3) (own := [("world", 4)]) (g := gName 4) (tt := tYes) (te := tOp (rIxT K) (tVar 4) (tVar 2)) rfl scLea.nd rfl rfl (sw_true rfl rfl rfl (by decide +kernel)) (pi_list (pv 0)) (blkOk_by (N := nLea) (sc := defScope sLea) (by decide +kernel)) (fun _ _ _ _ _ => pg_name (i := 4) scLea.nd rfl (Or.inl rfl)) (fun _ _ _ _ _ => pts_nil)
          (fun _ _ _ _ _ => pe_ix ix_tup (pv 4) (pv 2) (fun _ _ => rfl)))
        (pss_one (ps_if (pt_cmpR op_lt (pe_op op_sub (pe_callB (cr_max rfl) (by rfl) B.max (by decide +kernel) (pa_cons (pv 3) pa_nil)) (pe_callB (cr_min rfl) (by rfl) B.min (by decide +kernel) (pa_cons (pv 3) pa_nil))) (pv 1) (nomark _)) (pss_one (ps_ret pe_bl)) pss_nil))))
      (pss_one (ps_ret pe_bl)), ?_⟩
    obtain ⟨x0, hx0⟩ : ∃ x0, tw[0]? = some x0 := by
      cases tw with
      | nil => exact absurd rfl ne
      | cons x r => exact ⟨x, rfl⟩
    have x0m : x0 ∈ tw := List.mem_of_getElem? hx0
    refine ⟨_, rfl, a, _, (0 : Int), .ref x0.1, rfl, rfl, SqL.of W.at_, ?_, x0.1, nV x0.2, rfl, .inr (W.tup x0 x0m), ((nV x0.2).length : Int), rfl, by omega, ?_, for_range (n := (nV x0.2).length) (fun k σ H' => ∃ (o2 o3 : Option V), σ = [some (.ref a), some (.int (p : Int)), o2, o3, none] ∧
      Same H H' ∧ ∀ j, j < k → p ≤ So01.wide (wsOf tw) (j + 1)) ⟨none, none, rfl, Same.refl H, fun j hj => absurd hj (Nat.not_lt_zero j)⟩ ?_ ?_⟩
    · refine atI_nat (j := 0) ?_
      rw [List.getElem?_map, hx0]
      rfl
    · rw [nV_length, len x0 x0m]
      omega
    · rintro i σ H1 hi ⟨o2, o3, rfl, s1, ok⟩
      rw [nV_length, len x0 x0m] at hi
      have W1 := W.same s1
      refine ⟨_, rfl, a, rfl, ⟨_, SqL.of W1.at_⟩, fun D nD => lc_list (K := K) (a := a) (xs := tw.map fun x => V.ref x.1) (fun j H' => Same H1 H' ∧ H' D = some (.lst (nV (((wsOf tw).take j).map fun w => So01.has w (i + 1))))) ⟨Same.new nD, upd_same⟩ (fun j H' _ q => SqL.of (q.1 _ _ W1.at_)) ?_ ?_⟩
      · rintro j y H2 hj ⟨s2, hD⟩
        obtain ⟨x, hx, rfl⟩ := map_get hj
        have xm : x ∈ tw := List.mem_of_getElem? hx
        have g := has_get (w := x.2) (k := i) (by rw [len x xm]; exact hi)
        have hx2 : (wsOf tw)[j]? = some x.2 := by
          unfold wsOf
          rw [List.getElem?_map, hx]
          rfl
        refine ⟨rfl, iteT (B := True) ⟨_, rfl, _, rfl, x.1, nV x.2, (i : Int), .int (So01.has x.2 (i + 1) : Nat), rfl, ?_, (W1.tup x xm).same s2, atI_nat (nV_get g), _, hD, ?_, s2.put nD, ?_⟩⟩
        · show V.int (0 + (i : Int)) = _
          rw [Int.zero_add]
        · rw [nV_length, List.length_map, List.length_take, sizeLine_is]
          have := (List.getElem?_eq_some_iff.mp hx).1
          omega
        · rw [upd_same, take_more hx2, List.map_append, nV_append]
          rfl
      · rintro H2 ⟨s2, hD⟩
        have hl : (wsOf tw).take (tw.map fun x => V.ref x.1).length = wsOf tw := by
          refine List.take_of_length_le ?_
          unfold wsOf
          rw [List.length_map, List.length_map]
          exact Nat.le_refl _
        rw [hl, nV_ints] at hD
        have pos : 0 < (((wsOf tw).map fun w => So01.has w (i + 1)).map fun (n : Nat) => (n : Int)).length := by
          unfold wsOf
          rw [List.length_map, List.length_map, List.length_map]
          exact List.length_pos_iff.mpr ne
        refine ⟨_, rfl, D, _, rfl, SqL.of hD, pos, fun M hM hMx => ⟨_, rfl, D, _, rfl, SqL.of hD, pos, fun m hm hmx => ?_⟩⟩
        obtain ⟨M, hM2, rfl⟩ := List.mem_map.mp hM
        obtain ⟨m, hm2, rfl⟩ := List.mem_map.mp hm
        have e := wide_is (ws := wsOf tw) (i := i + 1) (M := M) (m := m) hM2 (fun x hx => by have h : (x : Int) ≤ (M : Int) := hMx x (List.mem_map.mpr ⟨x, hx, rfl⟩); omega) hm2 (fun x hx => by have h : (m : Int) ≤ (x : Int) := hmx x (List.mem_map.mpr ⟨x, hx, rfl⟩); omega)
        have le : m ≤ M := by
          have : (m : Int) ≤ (M : Int) := hMx m (List.mem_map.mpr ⟨m, hm2, rfl⟩)
          omega
        refine ⟨_, _, rfl, rfl, _, rfl, _, _, rfl, rfl, _, rfl, ?_⟩
        by_cases c : (M : Int) - (m : Int) < (p : Int)
        · rw [decide_eq_true c]
          refine iteT ?_
          have no : So01.open_ n p (wsOf tw) = false := by
            cases q : So01.open_ n p (wsOf tw) with
            | false => rfl
            | true =>
              have := open_is.mp q i hi
              omega
          have := k _ (s1.trans s2)
          rw [no] at this
          exact this
        · rw [decide_eq_false c]
          refine iteF ⟨_, _, rfl, s1.trans s2, fun j hj => ?_⟩
          by_cases cj : j < i
          · exact ok j cj
          · obtain rfl : j = i := by omega
            omega
    · rintro σ H1 ⟨o2, o3, rfl, s1, ok⟩
      rw [nV_length, len x0 x0m] at ok
      have := k _ s1
      rw [open_is.mpr ok] at this
      exact this
end
end Lo
namespace Lo
open PySem PySem.Spec PyProof.Rows L2
open So01 (Ask)
/-! ### most_frequent -/
abbrev sMof : Stmt := top 14
def nMof : List Str := ["numbers", "best", "most", "number", "often"]
theorem scMof : FnScope nMof ["numbers"] (defScope sMof) := ⟨rfl, rfl, rfl, by decide +kernel, rfl, by decide +kernel, by decide +kernel⟩
def spMof (K : PySem.W.Frag) : Sp := fun vs H Q _ => ∃ (a : Addr) (l : List Nat), vs = [.ref a] ∧ SqL K H a (nV l) ∧ l ≠ [] ∧ (∀ x ∈ l, x < 63) ∧
  ∀ H' : Hp, Same H H' → Q (.int ((picks l (So01.setOf l)).1 : Nat)) H'
/-! ### lowest_terms -/
abbrev sLow : Stmt := top 15
def nLow : List Str := ["above", "below", "divisor", "rest", "left"]
theorem scLow : FnScope nLow ["above", "below"] (defScope sLow) := ⟨rfl, rfl, rfl, by decide +kernel, rfl, by decide +kernel, by decide +kernel⟩
def spLow (K : PySem.W.Frag) : Sp := fun vs H Q _ => ∃ (n m : Nat), vs = [.int (n : Int), .int (m : Int)] ∧ 0 < m ∧ n ≤ 7776 ∧ m ≤ 7776 ∧
  ∀ (H' : Hp) (p : Addr), Same H H' → H p = none → H' p = some (.lst (iV (So01.part n m))) → Q (.ref p) H'
/-! ### counted -/
abbrev sCou : Stmt := top 16
def nCou : List Str := ["rows", "together", "row"]
theorem scCou : FnScope nCou ["rows"] (defScope sCou) := ⟨rfl, rfl, rfl, by decide +kernel, rfl, by decide +kernel, by decide +kernel⟩
def flat (rs : List (Addr × List Int)) : List Int := rs.flatMap (·.2)
def spCou (K : PySem.W.Frag) : Sp := fun vs H Q _ => ∃ (a : Addr) (rs : List (Addr × List Int)), vs = [.ref a] ∧ SqL K H a (rs.map fun x => V.ref x.1) ∧ (∀ x ∈ rs, H x.1 = some (.lst (iV x.2)) ∨ SqT K H x.1 (iV x.2)) ∧ (flat rs).length ≤ 1000000 ∧
  ∀ (H' : Hp) (p : Addr), Same H H' → H p = none → H' p = some (.lst (iV ((rs.length : Int) :: flat rs))) → Q (.ref p) H'
theorem flat_take {rs : List (Addr × List Int)} (i : Nat) : (flat (rs.take i)).length ≤ (flat rs).length := by
  unfold flat
  conv => rhs; rw [← List.take_append_drop i rs, List.flatMap_append, List.length_append]
  omega
section
variable {P : Program} {w : World} {K : PySem.W.Frag} {mg : Str → Option Value} {base : Heap}
theorem ok_mof {f : Addr} {fd : FuncData} (F : Fun K "most_frequent" "most_frequent" sMof f fd) (B : Blt mg) : FnOk P w K mg base CX0 1 f fd ["numbers"] (spMof K) := by
  refine F.ok scMof (fun vs H Q E h => ?_) (fun cdv A outer s H vs Q E hr h => ?_)
  · obtain ⟨a, l, rfl, _⟩ := h
    rfl
  · obtain ⟨a, l, rfl, hS, ne, hx, k⟩ := h
    refine ⟨_, pss_cons (ps_set (i := 1) scMof.nd rfl (Or.inl rfl) (pe_ix ix_list (pv 0) pe_int (fun _ _ => rfl)))
      (pss_cons (ps_set (i := 2) scMof.nd rfl (Or.inl rfl) pe_int)
      (pss_cons (ps_for PassesOwn.never rfl (pi_list (pe_callB (cr_sortedSet rfl) (by rfl) B.sorted (by decide +kernel) (pa_cons (pe_callTy (cr_setL rfl) (by rfl) B.set (by decide +kernel) (pa_cons (pv 0) pa_nil)) pa_nil))) (pg_name (i := 3) scMof.nd rfl (Or.inl rfl))
        (pss_cons (ps_set (i := 4) scMof.nd rfl (Or.inl rfl) (pe_bm PySem.F.plainAttrs_list PySem.F.slot_list_count PySem.F.type_list_count mt_lcount (pv 0) (pa_cons (pv 3) pa_nil)))
        (pss_one (ps_if (pt_cmpR op_gt (pv 4) (pv 2) (nomark _)) (pss_cons (ps_set (i := 1) scMof.nd rfl (Or.inl rfl) (pv 3)) (pss_one (ps_set (i := 2) scMof.nd rfl (Or.inl rfl) (pv 4)))) pss_nil))))
      (pss_one (ps_ret (pv 1))))), ?_⟩
    obtain ⟨x0, hx0⟩ : ∃ x0, l[0]? = some x0 := by
      cases l with
      | nil => exact absurd rfl ne
      | cons x r => exact ⟨x, rfl⟩
    have hS2 := hS
    rw [nV_ints] at hS2
    refine ⟨_, rfl, a, _, (0 : Int), .int (x0 : Int), rfl, rfl, hS, atI_nat (j := 0) (nV_get hx0), ?_⟩
    refine ⟨_, rfl, a, l.map (fun (n : Nat) => (n : Int)), 63, rfl, hS2, fun x hx2 => ?_, by decide, fun q c nq c63 => ?_⟩
    · obtain ⟨y, hy, rfl⟩ := List.mem_map.mp hx2
      have := hx y hy
      omega
    refine ⟨q, _, c, rfl, upd_same, by omega, fun ns r rises mem len nr => ?_⟩
    have e := setOf_is (l := l) rises fun k => by
      rw [mem k, decide_eq_true_eq, List.mem_map]
      constructor
      · rintro ⟨x, hx, rfl⟩
        exact ⟨x, hx, rfl⟩
      · rintro ⟨x, hx, rfl⟩
        exact ⟨x, hx, rfl⟩
    have s1 : Same H (upd (upd H q (SetO w q (fun j => decide (j ∈ l.map (fun (n : Nat) => (n : Int)))) c)) r (.lst (ns.map V.int))) := (Same.new nq).trans (Same.new nr)
    have hns : ns.map V.int = nV (So01.setOf l) := by rw [e, nV_ints]
    rw [hns] at s1 ⊢
    refine ⟨r, rfl, ⟨_, SqL.of upd_same⟩, for_list (K := K) (a := r) (xs := nV (So01.setOf l)) (fun i σ H' => ∃ (b m : Nat) (o3 o4 : Option V), σ = [some (.ref a), some (.int (b : Int)), some (.int (m : Int)), o3, o4] ∧
      Same H H' ∧ H' r = some (.lst (nV (So01.setOf l))) ∧ m = (picks l ((So01.setOf l).take i)).2 ∧ (0 < i → b = (picks l ((So01.setOf l).take i)).1)) ⟨x0, 0, none, none, rfl, s1, upd_same, rfl, fun z => absurd z (Nat.lt_irrefl 0)⟩ (fun i σ H' _ ⟨_, _, _, _, _, _, h, _⟩ => SqL.of h) ?_ ?_⟩
    · rintro i y σ H1 hi ⟨b, m, o3, o4, rfl, sH, hr1, em, eb⟩
      obtain ⟨v, hv, rfl⟩ := map_get hi
      have vl : v ∈ l := mem_setOf.mp (List.mem_of_getElem? hv)
      refine ⟨_, rfl, .inl ⟨rfl, _, sH.seq hS⟩, _, rfl, a, l.map (fun (n : Nat) => (n : Int)), (v : Int), rfl, rfl, sH.seq hS2, ?_⟩
      rw [count_ints]
      refine ⟨_, rfl, _, rfl, _, _, rfl, rfl, _, rfl, ?_⟩
      have tk := take_more hv
      have pm : picks l ((So01.setOf l).take (i + 1)) = pick l (picks l ((So01.setOf l).take i)) v := by rw [tk, picks_more]
      by_cases c : (m : Int) < ((l.count v : Nat) : Int)
      · rw [decide_eq_true c]
        refine iteT ⟨_, rfl, _, rfl, v, l.count v, _, _, rfl, sH, hr1, ?_, fun _ => ?_⟩
        · rw [pm]
          unfold pick
          rw [if_pos (by omega)]
        · rw [pm]
          unfold pick
          rw [if_pos (by omega)]
      · rw [decide_eq_false c]
        have pos : 0 < l.count v := List.count_pos_iff.mpr vl
        have i0 : 0 < i := by
          refine Nat.pos_of_ne_zero fun z => ?_
          subst z
          have : m = 0 := em
          omega
        have same : pick l (picks l ((So01.setOf l).take i)) v = picks l ((So01.setOf l).take i) := by
          unfold pick
          rw [if_neg (by omega)]
        refine iteF ⟨b, m, _, _, rfl, sH, hr1, ?_, fun _ => ?_⟩
        · rw [pm, same]
          exact em
        · rw [pm, same]
          exact eb i0
    · rintro σ H1 ⟨b, m, o3, o4, rfl, sH, hr1, em, eb⟩
      rw [nV_length, List.take_length] at eb
      refine ⟨_, rfl, ?_⟩
      rw [eb (List.length_pos_iff.mpr (List.ne_nil_of_mem (mem_setOf.mpr (List.mem_of_getElem? hx0))))]
      exact k _ sH
theorem ok_low {f : Addr} {fd : FuncData} (F : Fun K "lowest_terms" "lowest_terms" sLow f fd) (B : Blt mg) : FnOk P w K mg base CX0 1 f fd ["above", "below"] (spLow K) := by
  refine F.ok scLow (fun vs H Q E h => ?_) (fun cdv A outer s H vs Q E hr h => ?_)
  · obtain ⟨n, m, rfl, _⟩ := h
    rfl
  · obtain ⟨n, m, rfl, m0, hn, hm, k⟩ := h
    refine ⟨_, pss_cons (ps_set (i := 2) scLow.nd rfl (Or.inl rfl) (pv 1)) (pss_cons (ps_set (i := 3) scLow.nd rfl (Or.inl rfl) (pv 0))
      (pss_cons (ps_while PassesOwn.never (pt_cmpR op_gt (pv 3) pe_int (nomark _))
        (pss_cons (ps_set (i := 4) scLow.nd rfl (Or.inl rfl) (pe_op op_modN (pv 2) (pv 3)))
        (pss_cons (ps_set (i := 2) scLow.nd rfl (Or.inl rfl) (pv 3)) (pss_one (ps_set (i := 3) scLow.nd rfl (Or.inl rfl) (pv 4))))))
      (pss_one (ps_ret (pe_lst (pa_cons (pe_op op_fdivN (pv 0) (pv 2)) (pa_cons (pe_op op_fdivN (pv 1) (pv 2)) pa_nil))))))), ?_⟩
    refine ⟨_, rfl, _, rfl, ⟨fun z σ H' => ∃ (d r : Nat) (o4 : Option V), z = r ∧ σ = [some (.int (n : Int)), some (.int (m : Int)), some (.int (d : Int)), some (.int (r : Int)), o4] ∧ H' = H ∧ 0 < d ∧ d ≤ 7776 ∧ r ≤ 7776 ∧ Nat.gcd r d = Nat.gcd n m, ⟨n, m, n, none, rfl, rfl, rfl, m0, hm, hn, rfl⟩, ?_⟩⟩
    rintro z σ H1 ⟨d, r, o4, rfl, rfl, rfl, d0, dm, rm, eg⟩
    refine ⟨_, rfl, _, _, rfl, rfl, _, rfl, ?_⟩
    by_cases c : (0 : Int) < (z : Int)
    · rw [decide_eq_true c]
      refine iteT ⟨fun σ' H' => ∃ m', m' < z ∧ ∃ (d r : Nat) (o4 : Option V), m' = r ∧ σ' = [some (.int (n : Int)), some (.int (m : Int)), some (.int (d : Int)), some (.int (r : Int)), o4] ∧ H' = H1 ∧ 0 < d ∧ d ≤ 7776 ∧ r ≤ 7776 ∧ Nat.gcd r d = Nat.gcd n m, fun _ _ z => z, ?_⟩
      refine ⟨_, rfl, _, rfl, _, _, rfl, rfl, (by omega), ?_⟩
      dsimp only
      rw [fmod_nat]
      have lt : d % z < z := Nat.mod_lt _ (by omega)
      refine ⟨_, rfl, _, rfl, d % z, lt, z, d % z, _, rfl, rfl, rfl, by omega, by omega, by omega, ?_⟩
      rw [← eg]
      exact (Nat.gcd_rec z d).symm
    · rw [decide_eq_false c]
      have z0 : z = 0 := by omega
      subst z0
      have eg2 : d = Nat.gcd n m := by rw [← eg, Nat.gcd_zero_left]
      refine iteF ⟨_, rfl, _, rfl, _, _, rfl, rfl, ⟨by omega, by omega⟩, ?_⟩
      refine ⟨_, rfl, _, rfl, _, _, rfl, rfl, ⟨by omega, by omega⟩, ?_⟩
      dsimp only
      rw [fdiv_nat, fdiv_nat, eg2]
      refine ⟨by show 2 ≤ sizeLine; decide, fun p np => k _ p (Same.new np) np ?_⟩
      rw [upd_same]
      rfl
theorem ok_cou {f : Addr} {fd : FuncData} (F : Fun K "counted" "counted" sCou f fd) (B : Blt mg) : FnOk P w K mg base CX0 1 f fd ["rows"] (spCou K) := by
  refine F.ok scCou (fun vs H Q E h => ?_) (fun cdv A outer s H vs Q E hr h => ?_)
  · obtain ⟨a, rs, rfl, _⟩ := h
    rfl
  · obtain ⟨a, rs, rfl, hS, hx, small, k⟩ := h
    refine ⟨_, pss_cons (ps_set (i := 1) scCou.nd rfl (Or.inl rfl) (pe_lst (pa_cons (pe_callB call_len_seq (by rfl) B.len PySem.boot_len (pa_cons (pv 0) pa_nil)) pa_nil)))
      (pss_cons (ps_for PassesOwn.never rfl (pi_list (pv 0)) (pg_name (i := 2) scCou.nd rfl (Or.inl rfl))
        (pss_one (ps_expr (pe_bm PySem.F.plainAttrs_list PySem.F.slot_list_extend PySem.F.type_list_extend mt_extLT (pv 1) (pa_cons (pv 2) pa_nil)))))
      (pss_one (ps_ret (pv 1)))), ?_⟩
    refine ⟨_, rfl, a, _, rfl, .inl hS, by show 1 ≤ sizeLine; decide, fun g ng => ?_⟩
    have s0 : Same H (upd H g (.lst [V.int ((rs.map fun x => V.ref x.1).length : Nat)])) := Same.new ng
    refine ⟨_, rfl, a, rfl, ⟨_, s0.seq hS⟩, for_list (K := K) (a := a) (xs := rs.map fun x => V.ref x.1) (fun i σ H' => ∃ (o2 : Option V), σ = [some (.ref a), some (.ref g), o2] ∧
      Same H H' ∧ H' g = some (.lst (iV ((rs.length : Int) :: flat (rs.take i))))) ⟨none, rfl, s0, ?_⟩ (fun i σ H' _ ⟨_, _, s1, _⟩ => s1.seq hS) ?_ ?_⟩
    · rw [upd_same, List.length_map]
      rfl
    · rintro i y σ H1 hi ⟨o2, rfl, s1, hg⟩
      obtain ⟨x, hx1, rfl⟩ := map_get hi
      have xm : x ∈ rs := List.mem_of_getElem? hx1
      have tk := take_more hx1
      have ef : flat (rs.take (i + 1)) = flat (rs.take i) ++ x.2 := by
        unfold flat
        rw [tk, List.flatMap_append, List.flatMap_cons, List.flatMap_nil, List.append_nil]
      have fl := flat_take (rs := rs) (i + 1)
      rw [ef, List.length_append] at fl
      refine ⟨_, rfl, .inl ⟨rfl, _, SqL.of hg⟩, _, rfl, g, x.1, _, iV x.2, rfl, rfl, hg, ?_, ?_, _, rfl, s1.put ng, ?_⟩
      · rcases hx x xm with e | e
        · exact .inl (s1 _ _ e)
        · exact .inr (e.same s1)
      · unfold iV
        rw [List.length_map, List.length_map, List.length_cons, sizeLine_is]
        omega
      · rw [upd_same, ef]
        unfold iV
        rw [List.map_cons, List.map_cons, List.map_append, List.cons_append]
    · rintro σ H1 ⟨o2, rfl, s1, hg⟩
      rw [List.length_map, List.take_length] at hg
      exact ⟨_, rfl, k _ g s1 ng hg⟩
end
end Lo
namespace Lo
open PySem PySem.Spec PyProof.Rows L2
open So01 (Ask)
/-! ### fields -/
theorem lk_here {k : Str} {v : V} {r : List (Str × V)} : List.lookup k ((k, v) :: r) = some v := by
  have e : (k == k) = true := beq_self_eq_true k
  simp only [List.lookup, e]
theorem lk_past {k g : Str} {v : V} {r : List (Str × V)} (h : (k == g) = false) : List.lookup k ((g, v) :: r) = List.lookup k r := by
  simp only [List.lookup, h]
theorem put_here {f : Str} {v x : V} {r : List (Str × V)} : putF f v ((f, x) :: r) = (f, v) :: r := if_pos rfl
theorem put_past {f g : Str} {v x : V} {r : List (Str × V)} (h : ¬ g = f) : putF f v ((g, x) :: r) = (g, x) :: putF f v r := if_neg h
/-- the module's own numbers -/
structure Cst (mg : Str → Option Value) : Prop where
  wrong : ∃ t, mg "WRONG" = some (.int (-1) t)
  enough : ∃ t, mg "ENOUGH_TOLD" = some (.int (-5) t)
  gives : ∃ t, mg "GIVES_AWAY" = some (.int (-6) t)
  people : ∃ t, mg "MOST_PEOPLE" = some (.int 5 t)
  high : ∃ t, mg "HIGHEST_H" = some (.int 5 t)
  tt : ∃ t, mg "HIGHEST_T" = some (.int 20 t)
  told : ∃ t, mg "MOST_TOLD" = some (.int 20 t)
  sum : ∃ t, mg "TOGETHER" = some (.int 0 t)
  most : ∃ t, mg "GREATEST" = some (.int 1 t)
  least : ∃ t, mg "LEAST" = some (.int 2 t)
  many : ∃ t, mg "HOW_MANY" = some (.int 3 t)
/-- a number of the module by its name -/
theorem pe_num {X : Cx} {x : Str} {i : Int} {t : Tok} {pos : Pos} (hm : X.mg x = some (.int i t)) (hg : Gl X x) (hd : (x == ("__debug__" : Str)) = false := by decide) : PE X (.Name x pos) (tC (.int i)) := pe_glob (v := .int i) hg hm ⟨_, rfl⟩ hd
/-! ### a question -/
def qF (a : Ask) (l : Addr) : List (Str × V) := [("what", .int (a.what : Int)), ("t", .int (a.t : Int)), ("people", .ref l)]
theorem qF_what (a : Ask) (l : Addr) : (qF a l).lookup ("what" : Str) = some (.int (a.what : Int)) := lk_here
theorem qF_t (a : Ask) (l : Addr) : (qF a l).lookup ("t" : Str) = some (.int (a.t : Int)) := (lk_past (by decide +kernel)).trans lk_here
theorem qF_people (a : Ask) (l : Addr) : (qF a l).lookup ("people" : Str) = some (.ref l) := (lk_past (by decide +kernel)).trans ((lk_past (by decide +kernel)).trans lk_here)
theorem qF_no {m : Str} (h1 : (m == "what") = false) (h2 : (m == "t") = false) (h3 : (m == "people") = false) (a : Ask) (l : Addr) : (qF a l).lookup m = none := (lk_past h1).trans ((lk_past h2).trans ((lk_past h3).trans rfl))
theorem qF_new (a : Ask) (l : Addr) : putF "people" (.ref l) (putF "t" (.int (a.t : Int)) (putF "what" (.int (a.what : Int)) [])) = qF a l := by
  have e1 : putF "t" (.int (a.t : Int)) (putF "what" (.int (a.what : Int)) []) = [(("what" : Str), V.int (a.what : Int)), ("t", .int (a.t : Int))] := (put_past (by decide +kernel)).trans rfl
  rw [e1]
  exact (put_past (by decide +kernel)).trans (congrArg _ ((put_past (by decide +kernel)).trans rfl))
structure QAt (K : PySem.W.Frag) (C : Addr) (H : Hp) (q : Addr) (a : Ask) : Prop where
  ex : ∃ dx l, H q = some (.ins C dx (qF a l)) ∧ H l = some (.lst (nV a.who))
theorem QAt.same {K : PySem.W.Frag} {C : Addr} {H H' : Hp} {q : Addr} {a : Ask} (h : QAt K C H q a) (s : Same H H') : QAt K C H' q a := by
  obtain ⟨dx, l, h1, h2⟩ := h.ex
  exact ⟨dx, l, s _ _ h1, s _ _ h2⟩
structure TxQ (K : PySem.W.Frag) (mg : Str → Option Value) (C : Addr) : Prop where
  cl : Cls K C
  nW : NoAttr K C "what"
  nT : NoAttr K C "t"
  nP : NoAttr K C "people"
abbrev sQIni : Stmt := inClass (top 18) 0
abbrev sQWro : Stmt := inClass (top 18) 1
abbrev sQRow : Stmt := inClass (top 18) 2
abbrev sQAns : Stmt := inClass (top 18) 3
abbrev sQPar : Stmt := inClass (top 18) 4
theorem scQIni : FnScope ["self", "what", "t", "people"] ["self", "what", "t", "people"] (defScope sQIni) := ⟨rfl, rfl, rfl, by decide +kernel, rfl, by decide +kernel, by decide +kernel⟩
def spQIni (K : PySem.W.Frag) (C : Addr) : Sp := fun vs H Q _ => ∃ (q dx l : Addr) (a : Ask), vs = [.ref q, .int (a.what : Int), .int (a.t : Int), .ref l] ∧ H q = some (.ins C dx []) ∧ H l = some (.lst (nV a.who)) ∧
  ∀ H' : Hp, QAt K C H' q a → (∀ b o, H b = some o → b ≠ q → H' b = some o) → Q .non H'
def nQWro : List Str := ["self", "size", "before", "person"]
theorem scQWro : FnScope nQWro ["self", "size"] (defScope sQWro) := ⟨rfl, rfl, rfl, by decide +kernel, rfl, by decide +kernel, by decide +kernel⟩
/-- whether a question can be put where n are -/
def fine (n : Nat) (a : Ask) : Bool := decide (a.what ≤ 3) && (decide (a.t ≤ 20) && (!a.who.isEmpty && okFrom n 0 a.who))
def spQWro (K : PySem.W.Frag) (C : Addr) : Sp := fun vs H Q _ => ∃ (q : Addr) (n : Nat) (a : Ask), vs = [.ref q, .int (n : Int)] ∧ QAt K C H q a ∧ Q (.bl (!fine n a)) H
theorem scQRow : FnScope ["self"] ["self"] (defScope sQRow) := ⟨rfl, rfl, rfl, by decide +kernel, rfl, by decide +kernel, by decide +kernel⟩
/-- a question in a row of numbers -/
def qRow (a : Ask) : List Int := So01.ints [a.what, a.t] ++ So01.rowOf a.who
def spQRow (K : PySem.W.Frag) (C : Addr) : Sp := fun vs H Q _ => ∃ (q : Addr) (a : Ask), vs = [.ref q] ∧ QAt K C H q a ∧ a.who.length ≤ 8 ∧ ∀ (H' : Hp) (p : Addr), Same H H' → H p = none → H' p = some (.lst (iV (qRow a))) → Q (.ref p) H'
section
variable {P : Program} {w : World} {K : PySem.W.Frag} {mg : Str → Option Value} {base : Heap} {C : Addr}
theorem ok_qrow {f : Addr} {fd : FuncData} (F : Fun K "as_row" "Question.as_row" sQRow f fd) (T : TxQ K mg C) (B : Blt mg) : FnOk P w K mg base CX0 1 f fd ["self"] (spQRow K C) := by
  refine F.ok scQRow (fun vs H Q E h => ?_) (fun cdv A outer s H vs Q E hr h => ?_)
  · obtain ⟨q, a, rfl, _⟩ := h
    rfl
  · obtain ⟨q, a, rfl, QA, l8, k⟩ := h
    obtain ⟨dx, l, hq, hl⟩ := QA.ex
    refine ⟨_, pss_one (ps_ret (pe_op op_cat (pe_lst (pa_cons (pe_fld (pv 0) rfl) (pa_cons (pe_fld (pv 0) rfl) (pa_cons (pe_callB call_len_seq (by rfl) B.len PySem.boot_len (pa_cons (pe_fld (pv 0) rfl) pa_nil)) pa_nil)))) (pe_fld (pv 0) rfl))), ?_⟩
    refine ⟨_, rfl, q, C, dx, _, _, rfl, hq, T.cl, T.nW, qF_what a l, _, rfl, q, C, dx, _, _, rfl, hq, T.cl, T.nT, qF_t a l, _, rfl, q, C, dx, _, _, rfl, hq, T.cl, T.nP, qF_people a l, l, _, rfl, .inl (SqL.of hl), by show 3 ≤ sizeLine; decide, fun u nu => ?_⟩
    have ql := ne_of_none hq nu
    have ll := ne_of_none hl nu
    refine ⟨_, rfl, q, C, dx, _, _, rfl, Eq.trans (upd_ne ql) hq, T.cl, T.nP, qF_people a l, u, l, _, _, rfl, rfl, upd_same, Eq.trans (upd_ne ll) hl, ?_, fun p np => ?_⟩
    · rw [nV_length, sizeLine_is]
      show 3 + _ ≤ _
      omega
    · refine k _ p ((Same.new nu).trans (Same.new np)) ((Same.new nu).free np) ?_
      rw [upd_same]
      unfold qRow So01.rowOf So01.ints iV nV
      simp only [List.map_cons, List.map_nil, List.map_map, List.cons_append, List.nil_append, List.length_map]
      rfl
theorem ok_qini {f : Addr} {fd : FuncData} (F : Fun K "__init__" "Question.__init__" sQIni f fd) (T : TxQ K mg C) : FnOk P w K mg base CX0 1 f fd ["self", "what", "t", "people"] (spQIni K C) := by
  refine F.ok scQIni (fun vs H Q E h => ?_) (fun cdv A outer s H vs Q E hr h => ?_)
  · obtain ⟨q, dx, l, a, rfl, _⟩ := h
    rfl
  · obtain ⟨q, dx, l, a, rfl, hq, hl, k⟩ := h
    refine ⟨_, pss_cons (ps_fld (pv 0) (pv 1) rfl) (pss_cons (ps_fld (pv 0) (pv 2) rfl) (pss_one (ps_fld (pv 0) (pv 3) rfl))), ?_⟩
    refine ⟨_, rfl, _, rfl, q, C, dx, [], rfl, hq, T.cl, T.nW, (by show 0 < 1000; decide), _, rfl, _, rfl, q, C, dx, _, rfl, upd_same, T.cl, T.nT, (by show 1 < 1000; decide), _, rfl, _, rfl, q, C, dx, _, rfl, upd_same, T.cl, T.nP, ?_, ?_⟩
    · have e1 : putF "t" (.int (a.t : Int)) (putF "what" (.int (a.what : Int)) []) = [(("what" : Str), V.int (a.what : Int)), ("t", .int (a.t : Int))] := (put_past (by decide +kernel)).trans rfl
      rw [e1]
      show 2 < 1000
      decide
    · rw [qF_new, upd_upd, upd_upd]
      refine k _ ⟨dx, l, upd_same, Eq.trans (upd_ne (ne_of hl hq (by intro z; cases z))) hl⟩ fun b o e hb => by rw [upd_ne hb]; exact e
theorem ok_qwro {f : Addr} {fd : FuncData} (F : Fun K "is_wrong" "Question.is_wrong" sQWro f fd) (T : TxQ K mg C) (B : Blt mg) (N : Cst mg) : FnOk P w K mg base CX0 1 f fd ["self", "size"] (spQWro K C) := by
  obtain ⟨tm, gm⟩ := N.many
  obtain ⟨tt, gt⟩ := N.tt
  refine F.ok scQWro (fun vs H Q E h => ?_) (fun cdv A outer s H vs Q E hr h => ?_)
  · obtain ⟨q, n, a, rfl, _⟩ := h
    rfl
  · obtain ⟨q, n, a, rfl, QA, k⟩ := h
    refine ⟨_, pss_cons (ps_if (PW.pt (pw_or (pt_cmpR op_gt (pe_fld (pv 0) rfl) (pe_num gm rfl) (nomark _)) (pw_or (pt_cmpR op_gt (pe_fld (pv 0) rfl) (pe_num gt rfl) (nomark _))
        (pw_or1 (pt_cmpR op_eq (pe_callB call_len_seq (by rfl) B.len PySem.boot_len (pa_cons (pe_fld (pv 0) rfl) pa_nil)) pe_int (nomark _)))))) (pss_one (ps_ret pe_bl)) pss_nil)
      (pss_cons (ps_set (i := 2) scQWro.nd rfl (Or.inl rfl) pe_int)
      (pss_cons (ps_for PassesOwn.never rfl (pi_list (pe_fld (pv 0) rfl)) (pg_name (i := 3) scQWro.nd rfl (Or.inl rfl))
        (pss_cons (ps_if (PW.pt (pw_or (pt_cmpR op_le (pv 3) (pv 2) (nomark _)) (pw_or1 (pt_cmpR op_gt (pv 3) (pv 1) (nomark _))))) (pss_one (ps_ret pe_bl)) pss_nil)
        (pss_one (ps_set (i := 2) scQWro.nd rfl (Or.inl rfl) (pv 3)))))
      (pss_one (ps_ret pe_bl)))), ?_⟩
    obtain ⟨dx, l, hq, hl0⟩ := QA.ex
    have hl : SqL K H l (nV a.who) := SqL.of hl0
    have bad : fine n a = false → Q (.bl true) H := fun e => by
      rw [e] at k
      exact k
    refine ⟨_, rfl, q, C, dx, _, _, rfl, hq, T.cl, T.nW, qF_what a l, _, _, rfl, rfl, _, rfl, ?_⟩
    by_cases c1 : (3 : Int) < (a.what : Int)
    · rw [decide_eq_true c1]
      refine iteT (iteT (bad ?_))
      unfold fine
      rw [decide_eq_false (show ¬ a.what ≤ 3 by omega)]
      rfl
    rw [decide_eq_false c1]
    refine iteF ⟨_, rfl, q, C, dx, _, _, rfl, hq, T.cl, T.nT, qF_t a l, _, _, rfl, rfl, _, rfl, ?_⟩
    by_cases c2 : (20 : Int) < (a.t : Int)
    · rw [decide_eq_true c2]
      refine iteT (iteT (bad ?_))
      unfold fine
      rw [decide_eq_false (show ¬ a.t ≤ 20 by omega), Bool.false_and, Bool.and_false]
    rw [decide_eq_false c2]
    refine iteF ⟨_, rfl, q, C, dx, _, _, rfl, hq, T.cl, T.nP, qF_people a l, l, _, rfl, .inl hl, rfl, _, rfl, ?_⟩
    by_cases c3 : a.who = []
    · rw [c3]
      rw [decide_eq_true (show V.int (((nV []).length : Nat) : Int) = V.int 0 from rfl)]
      refine iteT (bad ?_)
      unfold fine
      rw [c3]
      show (_ && (_ && (false && _))) = false
      rw [Bool.false_and, Bool.and_false, Bool.and_false]
    have c4 : ¬ V.int (((nV a.who).length : Nat) : Int) = V.int 0 := fun e => by
      have := V.int.inj e
      rw [nV_length] at this
      exact c3 (List.length_eq_zero_iff.mp (by omega))
    rw [decide_eq_false c4]
    have f1 : fine n a = okFrom n 0 a.who := by
      unfold fine
      rw [decide_eq_true (show a.what ≤ 3 by omega), decide_eq_true (show a.t ≤ 20 by omega)]
      cases e : a.who with
      | nil => exact absurd e c3
      | cons x r => rfl
    refine iteF ⟨_, rfl, q, C, dx, _, _, rfl, hq, T.cl, T.nP, qF_people a l, l, rfl, ⟨_, hl⟩, for_list (K := K) (a := l) (xs := nV a.who) (fun i σ H' => ∃ (b : Nat) (o3 : Option V), σ = [some (.ref q), some (.int (n : Int)), some (.int (b : Int)), o3] ∧
      H' = H ∧ okFrom n 0 a.who = okFrom n b (a.who.drop i)) ⟨0, none, rfl, rfl, rfl⟩ (fun i σ H' _ ⟨_, _, _, e, _⟩ => by rw [e]; exact hl) ?_ ?_⟩
    · rintro i y σ H1 hi ⟨b, o3, rfl, rfl, ok⟩
      obtain ⟨x, hx, rfl⟩ := map_get hi
      have dr : a.who.drop i = x :: a.who.drop (i + 1) := by
        have h1 := (List.getElem?_eq_some_iff.mp hx)
        rw [List.drop_eq_getElem_cons h1.1, h1.2]
      rw [dr] at ok
      have ok2 : okFrom n 0 a.who = (decide (b < x) && decide (x ≤ n) && okFrom n x (a.who.drop (i + 1))) := ok
      refine ⟨_, rfl, _, rfl, _, _, rfl, rfl, _, rfl, ?_⟩
      by_cases c5 : (x : Int) ≤ (b : Int)
      · rw [decide_eq_true c5]
        refine iteT (iteT (bad ?_))
        rw [f1, ok2, decide_eq_false (show ¬ b < x by omega)]
        rfl
      rw [decide_eq_false c5]
      refine iteF ⟨_, rfl, _, rfl, _, _, rfl, rfl, _, rfl, ?_⟩
      by_cases c6 : (n : Int) < (x : Int)
      · rw [decide_eq_true c6]
        refine iteT (bad ?_)
        rw [f1, ok2, decide_eq_false (show ¬ x ≤ n by omega), Bool.and_false]
        rfl
      rw [decide_eq_false c6]
      refine iteF ⟨_, rfl, x, _, rfl, rfl, ?_⟩
      rw [ok2, decide_eq_true (show b < x by omega), decide_eq_true (show x ≤ n by omega)]
      rfl
    · rintro σ H1 ⟨b, o3, rfl, rfl, ok⟩
      rw [nV_length, List.drop_length] at ok
      rw [f1, ok] at k
      exact k
end
end Lo
namespace Lo
open PySem PySem.Spec PyProof.Rows L2
open So01 (Ask)
/-! ### what a question's answer is in a world -/
def nQAns : List Str := ["self", "world", "had", "person", "number"]
theorem scQAns : FnScope nQAns ["self", "world"] (defScope sQAns) := ⟨rfl, rfl, rfl, by decide +kernel, rfl, by decide +kernel, by decide +kernel⟩
def spQAns (K : PySem.W.Frag) (C : Addr) : Sp := fun vs H Q _ => ∃ (q t : Addr) (a : Ask) (u : Wd), vs = [.ref q, .ref t] ∧ QAt K C H q a ∧ SqT K H t (nV u) ∧ okFrom u.length 0 a.who = true ∧ a.who ≠ [] ∧ a.who.length ≤ 8 ∧
  ∀ H' : Hp, Same H H' → Q (.int (So01.value a u : Nat)) H'
/-- what those who are asked about have -/
def hads (a : Ask) (u : Wd) : List Nat := a.who.map (So01.has u)
theorem has_at {u : Wd} {i : Nat} (h1 : 0 < i) (h2 : i ≤ u.length) : atI (nV u) ((i : Int) - 1) = some (.int (So01.has u i : Nat)) := by
  obtain ⟨k, rfl⟩ : ∃ k, i = k + 1 := ⟨i - 1, by omega⟩
  have e : (((k + 1 : Nat) : Int) - 1) = (k : Int) := by omega
  rw [e]
  exact atI_nat (nV_get (has_get (by omega)))
theorem value_0 {a : Ask} (u : Wd) (h : a.what = 0) : So01.value a u = (hads a u).foldr (fun x n => x + n) 0 := by
  unfold So01.value hads
  rw [h]
  rfl
theorem value_1 {a : Ask} (u : Wd) (h : a.what = 1) : So01.value a u = (hads a u).foldr max 0 := by
  unfold So01.value hads
  rw [h]
  rfl
theorem value_2 {a : Ask} (u : Wd) (h : a.what = 2) : So01.value a u = (hads a u).foldr min ((hads a u).headD 0) := by
  unfold So01.value hads
  rw [h]
  rfl
theorem value_3 {a : Ask} (u : Wd) (h0 : a.what ≠ 0) (h1 : a.what ≠ 1) (h2 : a.what ≠ 2) : So01.value a u = ((hads a u).filter fun x => decide (a.t ≤ x)).length := by
  unfold So01.value hads
  split
  · rename_i e; exact absurd e h0
  · rename_i e; exact absurd e h1
  · rename_i e; exact absurd e h2
  · rfl
section
variable {P : Program} {w : World} {K : PySem.W.Frag} {mg : Str → Option Value} {base : Heap} {C : Addr}
theorem ok_qans {f : Addr} {fd : FuncData} (F : Fun K "answer_in" "Question.answer_in" sQAns f fd) (T : TxQ K mg C) (B : Blt mg) (N : Cst mg) : FnOk P w K mg base CX0 1 f fd ["self", "world"] (spQAns K C) := by
  obtain ⟨t0, g0⟩ := N.sum
  obtain ⟨t1, g1⟩ := N.most
  obtain ⟨t2, g2⟩ := N.least
  refine F.ok scQAns (fun vs H Q E h => ?_) (fun cdv A outer s H vs Q E hr h => ?_)
  · obtain ⟨q, t, a, u, rfl, _⟩ := h
    rfl
  · obtain ⟨q, t, a, u, rfl, QA, hT, ok, ne, l8, k⟩ := h
    refine ⟨_, pss_cons (ps_setLc (i := 2) (own := [("person", 3)]) (g := gName 3) (tt := tYes) (te := tOp (rIxT K) (tVar 1) (tOp (rI0 fun i j => .int (i - j)) (tVar 3) (tC (.int 1)))) rfl scQAns.nd rfl rfl (sw_true rfl rfl rfl (by decide +kernel)) (pi_list (pe_fld (pv 0) rfl)) (blkOk_by (N := nQAns) (sc := defScope sQAns) (by decide +kernel)) (fun _ _ _ _ _ => pg_name (i := 3) scQAns.nd rfl (Or.inl rfl)) (fun _ _ _ _ _ => pts_nil)
          (fun _ _ _ _ _ => pe_ix ix_tup (pv 1) (pe_op op_sub (pv 3) pe_int) (fun _ _ => rfl)))
      (pss_cons (ps_if (pt_cmpR op_eq (pe_fld (pv 0) rfl) (pe_num g0 rfl) (nomark _)) (pss_one (ps_ret (pe_callB (cr_sum rfl) (by rfl) B.sum (by decide +kernel) (pa_cons (pv 2) pa_nil)))) pss_nil)
      (pss_cons (ps_if (pt_cmpR op_eq (pe_fld (pv 0) rfl) (pe_num g1 rfl) (nomark _)) (pss_one (ps_ret (pe_callB (cr_max rfl) (by rfl) B.max (by decide +kernel) (pa_cons (pv 2) pa_nil)))) pss_nil)
      (pss_cons (ps_if (pt_cmpR op_eq (pe_fld (pv 0) rfl) (pe_num g2 rfl) (nomark _)) (pss_one (ps_ret (pe_callB (cr_min rfl) (by rfl) B.min (by decide +kernel) (pa_cons (pv 2) pa_nil)))) pss_nil)
      (pss_one (ps_ret (pe_callB call_len_seq (by rfl) B.len PySem.boot_len (pa_cons (pe_lc (own := [("number", 4)]) (g := gName 4) (tt := tTest (tOp (rI0 fun i j => .bl (decide (j ≤ i))) (tVar 4) (tFld K (tVar 0) "t"))) (te := tVar 4) rfl scQAns.nd (pi_list (pv 2)) (blkOk_by (N := nQAns) (sc := defScope sQAns) (by decide +kernel)) (fun _ _ _ _ _ => pg_name (i := 4) scQAns.nd rfl (Or.inl rfl))
        (fun _ _ _ _ _ => pts_one (pt_cmpR op_ge (pv 4) (pe_fld (pv 0) rfl) (nomark _))) (fun _ _ _ _ _ => pv 4)) pa_nil))))))), ?_⟩
    obtain ⟨dx, l, hq, hl0⟩ := QA.ex
    have hl : SqL K H l (nV a.who) := SqL.of hl0
    have inn := (okFrom_rises.mp ok).2
    refine ⟨_, rfl, q, C, dx, _, _, rfl, hq, T.cl, T.nP, qF_people a l, l, rfl, ⟨_, hl⟩, fun D nD => lc_list (K := K) (a := l) (xs := nV a.who) (fun i H' => Same H H' ∧ H' D = some (.lst (nV ((a.who.take i).map (So01.has u))))) ⟨Same.new nD, upd_same⟩ (fun i H' _ z => z.1.seq hl) ?_ ?_⟩
    · rintro i y H1 hi ⟨s1, hD⟩
      obtain ⟨x, hx, rfl⟩ := map_get hi
      have xm := inn x (List.mem_of_getElem? hx)
      refine ⟨rfl, iteT (B := True) ⟨_, rfl, _, rfl, _, _, rfl, rfl, t, nV u, _, _, rfl, rfl, hT.same s1, has_at xm.1 xm.2, _, hD, ?_, s1.put nD, ?_⟩⟩
      · rw [nV_length, List.length_map, List.length_take, sizeLine_is]
        omega
      · rw [upd_same, take_more hx, List.map_append, nV_append]
        rfl
    rintro H2 ⟨s2, hD⟩
    rw [nV_length, List.take_length] at hD
    have hD : H2 D = some (.lst (nV (hads a u))) := hD
    have hq2 := s2 _ _ hq
    have hD2 := hD
    rw [nV_ints] at hD2
    have pos : 0 < ((hads a u).map fun (n : Nat) => (n : Int)).length := by
      unfold hads
      rw [List.length_map, List.length_map]
      exact List.length_pos_iff.mpr ne
    refine ⟨_, rfl, q, C, dx, _, _, rfl, hq2, T.cl, T.nW, qF_what a l, rfl, _, rfl, ?_⟩
    by_cases c0 : a.what = 0
    · rw [decide_eq_true (show V.int (a.what : Int) = V.int 0 by rw [c0]; rfl)]
      refine iteT ⟨_, rfl, D, _, rfl, SqL.of hD2, ?_⟩
      have := k _ s2
      rw [value_0 u c0, ← sum_is] at this
      exact this
    rw [decide_eq_false (show ¬ V.int (a.what : Int) = V.int 0 from fun e => c0 (by have := V.int.inj e; omega))]
    refine iteF ⟨_, rfl, q, C, dx, _, _, rfl, hq2, T.cl, T.nW, qF_what a l, rfl, _, rfl, ?_⟩
    by_cases c1 : a.what = 1
    · rw [decide_eq_true (show V.int (a.what : Int) = V.int 1 by rw [c1]; rfl)]
      refine iteT ⟨_, rfl, D, _, rfl, SqL.of hD2, pos, fun M hM hMx => ?_⟩
      obtain ⟨M, hM2, rfl⟩ := List.mem_map.mp hM
      have := k _ s2
      rw [value_1 u c1, max_is hM2 fun x hx => by have h : (x : Int) ≤ (M : Int) := hMx x (List.mem_map.mpr ⟨x, hx, rfl⟩); omega] at this
      exact this
    rw [decide_eq_false (show ¬ V.int (a.what : Int) = V.int 1 from fun e => c1 (by have := V.int.inj e; omega))]
    refine iteF ⟨_, rfl, q, C, dx, _, _, rfl, hq2, T.cl, T.nW, qF_what a l, rfl, _, rfl, ?_⟩
    by_cases c2 : a.what = 2
    · rw [decide_eq_true (show V.int (a.what : Int) = V.int 2 by rw [c2]; rfl)]
      refine iteT ⟨_, rfl, D, _, rfl, SqL.of hD2, pos, fun M hM hMx => ?_⟩
      obtain ⟨M, hM2, rfl⟩ := List.mem_map.mp hM
      have := k _ s2
      rw [value_2 u c2, min_is hM2 fun x hx => by have h : (M : Int) ≤ (x : Int) := hMx x (List.mem_map.mpr ⟨x, hx, rfl⟩); omega] at this
      exact this
    rw [decide_eq_false (show ¬ V.int (a.what : Int) = V.int 2 from fun e => c2 (by have := V.int.inj e; omega))]
    refine iteF ⟨_, rfl, D, rfl, ⟨_, SqL.of hD⟩, fun G nG => lc_list (K := K) (a := D) (xs := nV (hads a u)) (fun i H' => Same H2 H' ∧ H' G = some (.lst (nV (((hads a u).take i).filter fun x => decide (a.t ≤ x))))) ⟨Same.new nG, upd_same⟩ (fun i H' _ z => SqL.of (z.1 _ _ hD)) ?_ ?_⟩
    · rintro i y H3 hi ⟨s3, hG⟩
      obtain ⟨x, hx, rfl⟩ := map_get hi
      refine ⟨rfl, _, rfl, _, rfl, q, C, dx, _, _, rfl, s3 _ _ hq2, T.cl, T.nT, qF_t a l, _, _, rfl, rfl, _, rfl, ?_⟩
      by_cases c : (a.t : Int) ≤ (x : Int)
      · rw [decide_eq_true c]
        refine iteT ⟨_, rfl, _, hG, ?_, s3.put nG, ?_⟩
        · rw [nV_length, sizeLine_is]
          have h1 := List.length_filter_le (fun x => decide (a.t ≤ x)) ((hads a u).take i)
          have h2 : (hads a u).length = a.who.length := List.length_map _
          rw [List.length_take] at h1
          omega
        · rw [upd_same, take_more hx, List.filter_append, nV_append]
          have e : [x].filter (fun x => decide (a.t ≤ x)) = [x] := by
            have d : decide (a.t ≤ x) = true := decide_eq_true (by omega)
            simp only [List.filter, d]
          rw [e]
          rfl
      · rw [decide_eq_false c]
        refine iteF ⟨s3, ?_⟩
        rw [hG, take_more hx, List.filter_append]
        have e : [x].filter (fun x => decide (a.t ≤ x)) = [] := by
          have d : decide (a.t ≤ x) = false := decide_eq_false (by omega)
          simp only [List.filter, d]
        rw [e, List.append_nil]
    · rintro H3 ⟨s3, hG⟩
      rw [nV_length, List.take_length] at hG
      refine ⟨G, _, rfl, .inl (SqL.of hG), ?_⟩
      have := k _ (s2.trans s3)
      rw [value_3 u c0 c1 c2] at this
      rw [nV_length]
      exact this
end
end Lo
namespace Lo
open PySem PySem.Spec PyProof.Rows L2
open So01 (Ask)
/-! ### the worlds by the answer -/
theorem WsAt.pastL {K : PySem.W.Frag} {H : Hp} {p g : Addr} {tw : List (Addr × Wd)} {ys : List V} {u : HO} (h : WsAt K H p tw) (hg : H g = some (.lst ys)) (ne : p ≠ g) : WsAt K (upd H g u) p tw :=
  ⟨by rw [upd_ne ne]; exact h.at_, fun x hx => (h.tup x hx).pastL hg⟩
theorem WsAt.pastO {K : PySem.W.Frag} {H : Hp} {p g : Addr} {tw : List (Addr × Wd)} {o u : HO} (h : WsAt K H p tw) (hg : H g = some o) (d : ∀ ys, o ≠ .tup ys) (d2 : ∀ b ys, o ≠ .frz b (.tup ys)) (d3 : ∀ ys, o ≠ .lst ys) : WsAt K (upd H g u) p tw :=
  ⟨by rw [upd_ne (ne_of h.at_ hg fun e => d3 _ e.symm)]; exact h.at_, fun x hx => (h.tup x hx).past hg d d2⟩
/-- a dict's pairs from the groups: the answer, where its list stands -/
def kvOf (gs : List (Nat × Addr)) : List (Key × V) := gs.map fun g => ((Sum.inl (g.1 : Int) : Key), V.ref g.2)
structure Parts (K : PySem.W.Frag) (H : Hp) (d : Addr) (val : Wd → Nat) (tw : List (Addr × Wd)) (gs : List (Nat × Addr)) : Prop where
  at_ : H d = some (.dK (kvOf gs))
  each : ∀ g ∈ gs, WsAt K H g.2 (tw.filter fun x => val x.2 == g.1)
  keys : (gs.map (·.1)).Nodup
  mem : ∀ v, v ∈ gs.map (·.1) ↔ v ∈ tw.map fun x => val x.2
theorem Parts.same {K : PySem.W.Frag} {H H' : Hp} {d : Addr} {val : Wd → Nat} {tw : List (Addr × Wd)} {gs : List (Nat × Addr)} (h : Parts K H d val tw gs) (s : Same H H') : Parts K H' d val tw gs :=
  ⟨s _ _ h.at_, fun g hg => (h.each g hg).same s, h.keys, h.mem⟩
theorem kv_some : ∀ {gs : List (Nat × Addr)} {v : Nat} {u : V}, valV (kvOf gs) (Sum.inl (v : Int)) = some u → ∃ g ∈ gs, g.1 = v ∧ u = .ref g.2
  | [], v, u, h => by cases h
  | g :: r, v, u, h => by
    by_cases e : g.1 = v
    · have h2 : valV (kvOf (g :: r)) (Sum.inl (v : Int)) = some (.ref g.2) := valV_pos (by show (Sum.inl ((g.1 : Nat) : Int) : Key) = _; rw [e])
      rw [h2] at h
      exact ⟨g, by simp, e, (Option.some.inj h).symm⟩
    · have h2 : valV (kvOf (g :: r)) (Sum.inl (v : Int)) = valV (kvOf r) (Sum.inl (v : Int)) := valV_neg fun q => e (by have := Sum.inl.inj q; omega)
      rw [h2] at h
      obtain ⟨g', h1, h3, h4⟩ := kv_some h
      exact ⟨g', List.mem_cons_of_mem _ h1, h3, h4⟩
theorem kv_none : ∀ {gs : List (Nat × Addr)} {v : Nat}, valV (kvOf gs) (Sum.inl (v : Int)) = none → v ∉ gs.map (·.1)
  | [], v, h => by simp
  | g :: r, v, h => by
    by_cases e : g.1 = v
    · have h2 : valV (kvOf (g :: r)) (Sum.inl (v : Int)) = some (.ref g.2) := valV_pos (by show (Sum.inl ((g.1 : Nat) : Int) : Key) = _; rw [e])
      rw [h2] at h
      cases h
    · have h2 : valV (kvOf (g :: r)) (Sum.inl (v : Int)) = valV (kvOf r) (Sum.inl (v : Int)) := valV_neg fun q => e (by have := Sum.inl.inj q; omega)
      rw [h2] at h
      have := kv_none h
      rw [List.map_cons, List.mem_cons, not_or]
      exact ⟨fun q => e q.symm, this⟩
theorem one_of_map {α β : Type} {f : α → β} : ∀ {l : List α} {x y : α}, (l.map f).Nodup → x ∈ l → y ∈ l → f x = f y → x = y
  | c :: r, x, y, nd, hx, hy, e => by
    rw [List.map_cons, List.nodup_cons] at nd
    rcases List.mem_cons.mp hx with h1 | h1
    · rcases List.mem_cons.mp hy with h2 | h2
      · rw [h1, h2]
      · exact absurd (List.mem_map.mpr ⟨y, h2, by rw [← e, h1]⟩) nd.1
    · rcases List.mem_cons.mp hy with h2 | h2
      · exact absurd (List.mem_map.mpr ⟨x, h1, by rw [e, h2]⟩) nd.1
      · exact one_of_map nd.2 h1 h2 e
def nQPar : List Str := ["self", "worlds", "parts", "world"]
theorem scQPar : FnScope nQPar ["self", "worlds"] (defScope sQPar) := ⟨rfl, rfl, rfl, by decide +kernel, rfl, by decide +kernel, by decide +kernel⟩
def spQPar (K : PySem.W.Frag) (C : Addr) : Sp := fun vs H Q _ => ∃ (q p : Addr) (a : Ask) (n : Nat) (tw : List (Addr × Wd)), vs = [.ref q, .ref p] ∧ QAt K C H q a ∧ WsAt K H p tw ∧ tw.length ≤ 7776 ∧ (∀ x ∈ tw, x.2.length = n) ∧ okFrom n 0 a.who = true ∧ a.who ≠ [] ∧ a.who.length ≤ 8 ∧
  ∀ (H' : Hp) (d : Addr) (gs : List (Nat × Addr)), Same H H' → H d = none → Parts K H' d (So01.value a) tw gs → (∀ g ∈ gs, H g.2 = none) → Q (.ref d) H'
theorem qF_answer (a : Ask) (l : Addr) : (qF a l).lookup ("answer_in" : Str) = none := qF_no (by decide +kernel) (by decide +kernel) (by decide +kernel) a l
section
variable {P : Program} {w : World} {K : PySem.W.Frag} {mg : Str → Option Value} {base : Heap} {C : Addr}
theorem ok_qpar {f fA : Addr} {fd fdA : FuncData} (F : Fun K "parts" "Question.parts" sQPar f fd) (T : TxQ K mg C) (GA : FnOk P w K mg base CX0 1 fA fdA ["self", "world"] (spQAns K C)) (bA : Binds K fdA ["self", "world"] []) (mA : Meth K C "answer_in" fA) : FnOk P w K mg base CX0 2 f fd ["self", "worlds"] (spQPar K C) := by
  refine F.ok scQPar (fun vs H Q E h => ?_) (fun cdv A outer s H vs Q E hr h => ?_)
  · obtain ⟨q, p, a, n, tw, rfl, _⟩ := h
    rfl
  · obtain ⟨q, p, a, n, tw, rfl, QA, W, few, len, ok, ne, l8, k⟩ := h
    refine ⟨_, pss_cons (ps_set (i := 2) scQPar.nd rfl (Or.inl rfl) pe_dnewK)
      (pss_cons (ps_for PassesOwn.never rfl (pi_list (pv 1)) (pg_name (i := 3) scQPar.nd rfl (Or.inl rfl))
        (pss_one (ps_expr (pe_bm PySem.F.plainAttrs_list PySem.F.slot_list_append PySem.F.type_list_append mt_append
          (pe_dsetd (pv 2) (pe_meth (pv 0) T.cl mA GA hr bA .nil pass0 (pa_cons (pv 3) pa_nil)) (pe_lst pa_nil) ⟨rfl, rfl, rfl, rfl⟩) (pa_cons (pv 3) pa_nil)))))
      (pss_one (ps_ret (pv 2)))), ?_⟩
    intro d nd
    have QAk := QA
    obtain ⟨dx, l, hq, hl0⟩ := QA.ex
    have hl : SqL K H l (nV a.who) := SqL.of hl0
    have s0 : Same H (upd H d (.dK [])) := Same.new nd
    refine ⟨_, rfl, p, rfl, ⟨_, SqL.of (s0 _ _ W.at_)⟩, for_list (K := K) (a := p) (xs := tw.map fun x => V.ref x.1) (fun i σ H' => ∃ (gs : List (Nat × Addr)) (o3 : Option V), σ = [some (.ref q), some (.ref p), some (.ref d), o3] ∧
      Same H H' ∧ Parts K H' d (So01.value a) (tw.take i) gs ∧ (gs.map (·.2)).Nodup ∧ (∀ g ∈ gs, H g.2 = none) ∧ gs.length ≤ i) ⟨[], none, rfl, s0, ⟨upd_same, fun g hg => (by cases hg), List.nodup_nil, fun v => Iff.rfl⟩, List.nodup_nil, fun g hg => (by cases hg), Nat.le_refl _⟩ (fun i σ H' _ ⟨_, _, _, s1, _⟩ => SqL.of (s1 _ _ W.at_)) ?_ ?_⟩
    · rintro i y σ H1 hi ⟨gs, o3, rfl, s1, PT, ndg, fr, lg⟩
      obtain ⟨x, hx, rfl⟩ := map_get hi
      have xm : x ∈ tw := List.mem_of_getElem? hx
      have hi2 : i < tw.length := (List.getElem?_eq_some_iff.mp hx).1
      have tk := take_more hx
      refine ⟨_, rfl, d, rfl, .inl ⟨_, .inl PT.at_⟩, _, rfl, q, dx, _, rfl, s1 _ _ hq, qF_answer a l, _, rfl, q, x.1, a, x.2, rfl, QAk.same s1, (W.tup x xm).same s1, by rw [len x xm]; exact ok, ne, l8, fun H2 s2 => ?_⟩
      refine ⟨Nat.zero_le _, fun z nz => ?_⟩
      have s3 : Same H1 (upd H2 z (.lst [])) := s2.trans (Same.new nz)
      have PT3 := PT.same s3
      have fx : ∀ v, ([x].filter fun x => So01.value a x.2 == v) = if So01.value a x.2 = v then [x] else [] := fun v => by
        by_cases e : So01.value a x.2 = v
        · rw [if_pos e]
          simp [List.filter, e]
        · rw [if_neg e]
          have : (So01.value a x.2 == v) = false := beq_eq_false_iff_ne.mpr e
          simp [List.filter, this]
      refine ⟨_, Sum.inl (So01.value a x.2 : Int), PT3.at_, rfl, ?_, fun v hv => ?_, fun hv => ?_⟩
      · unfold kvOf
        rw [List.length_map, sizeLine_is]
        omega
      · -- there is a list for this answer
        obtain ⟨g, gm, ge, rfl⟩ := kv_some hv
        have Wg := PT3.each g gm
        refine ⟨.inl ⟨rfl, _, SqL.of Wg.at_⟩, _, rfl, g.2, _, _, rfl, rfl, Wg.at_, ?_, gs, _, rfl, (s1.trans s3).put (fr g gm), ⟨?_, ?_, PT.keys, ?_⟩, ndg, fr, by omega⟩
        · rw [List.length_map, sizeLine_is]
          have h1 := List.length_filter_le (fun x => So01.value a x.2 == g.1) (tw.take i)
          rw [List.length_take] at h1
          omega
        · rw [upd_ne (ne_of PT3.at_ Wg.at_ (by intro q; cases q))]
          exact PT3.at_
        · intro g' gm'
          rw [tk, List.filter_append, fx]
          by_cases e : g'.1 = g.1
          · have eg : g' = g := one_of_map PT.keys gm' gm e
            subst eg
            rw [if_pos ge.symm]
            exact Wg.push (((W.tup x xm).same s1).same s3)
          · rw [if_neg (fun q => e (by omega)), List.append_nil]
            exact (PT3.each g' gm').pastL Wg.at_ fun q => e (by rw [one_of_map ndg gm' gm q])
        · intro v
          rw [PT.mem v, tk, List.map_append, List.mem_append]
          constructor
          · exact .inl
          · rintro (e | e)
            · exact e
            · have := (PT.mem g.1).mp (List.mem_map.mpr ⟨g, gm, rfl⟩)
              rw [List.mem_singleton.mp e]
              rw [ge] at this
              exact this
      · -- there is none yet
        have nv := kv_none hv
        have nz1 : H1 z = none := s2.free nz
        have z0 : H z = none := s1.free nz1
        have dz : d ≠ z := ne_of_none (s2 _ _ PT.at_) nz
        have Pd : upd (upd H2 z (.lst [])) d (.dK (putK (kvOf gs) (Sum.inl (So01.value a x.2 : Int)) (.ref z))) z = some (.lst []) := Eq.trans (upd_ne dz.symm) upd_same
        have gz : ∀ g ∈ gs, g.2 ≠ z := fun g gm => ne_of_none ((PT.same s2).each g gm).at_ nz
        have nov : ∀ x' ∈ tw.take i, ¬ So01.value a x'.2 = So01.value a x.2 := fun x' hx' e => nv ((PT.mem _).mpr (List.mem_map.mpr ⟨x', hx', e⟩))
        refine ⟨.inl ⟨rfl, _, SqL.of Pd⟩, _, rfl, z, [], _, rfl, rfl, Pd, by show 0 < sizeLine; decide, gs ++ [(So01.value a x.2, z)], _, rfl, ((s1.trans s3).put nd).put z0, ⟨?_, ?_, ?_, ?_⟩, ?_, ?_, ?_⟩
        · rw [upd_ne dz, upd_same, putK_new _ hv]
          unfold kvOf
          rw [List.map_append]
          rfl
        · intro g' gm'
          rw [tk, List.filter_append, fx]
          rcases List.mem_append.mp gm' with e | e
          · have e1 : ¬ So01.value a x.2 = g'.1 := fun q => nv (by rw [q]; exact List.mem_map.mpr ⟨g', e, rfl⟩)
            rw [if_neg e1, List.append_nil]
            exact ((PT3.each g' e).pastO PT3.at_ (fun _ q => by cases q) (fun _ _ q => by cases q) (fun _ q => by cases q)).pastL Pd (gz g' e)
          · rw [List.mem_singleton.mp e]
            have e2 : (tw.take i).filter (fun y => So01.value a y.2 == So01.value a x.2) = [] := by
              rw [List.filter_eq_nil_iff]
              intro x' hx' q
              exact nov x' hx' (by simpa using q)
            rw [e2, if_pos rfl]
            refine ⟨upd_same, fun y hy => ?_⟩
            rw [List.mem_singleton.mp hy]
            exact ((((W.tup x xm).same s1).same s3).past PT3.at_ (fun _ q => by cases q) (fun _ _ q => by cases q)).pastL Pd
        · rw [List.map_append]
          exact List.nodup_append.mpr ⟨PT.keys, List.nodup_cons.mpr ⟨by simp, List.nodup_nil⟩, fun u hu v hv e => nv (by have e2 : v = So01.value a x.2 := List.mem_singleton.mp hv; rw [← e2, ← e]; exact hu)⟩
        · intro v
          rw [tk, List.map_append, List.map_append, List.mem_append, List.mem_append, PT.mem v]
          rfl
        · rw [List.map_append]
          refine List.nodup_append.mpr ⟨ndg, List.nodup_cons.mpr ⟨by simp, List.nodup_nil⟩, fun u hu v hv e => ?_⟩
          obtain ⟨g, gm, rfl⟩ := List.mem_map.mp hu
          rw [List.mem_singleton.mp hv] at e
          exact gz g gm e
        · intro g gm
          rcases List.mem_append.mp gm with e | e
          · exact fr g e
          · rw [List.mem_singleton.mp e]
            exact z0
        · rw [List.length_append]
          show gs.length + 1 ≤ i + 1
          omega
    · rintro σ H1 ⟨gs, o3, rfl, s1, PT, ndg, fr, lg⟩
      rw [List.length_map, List.take_length] at PT
      exact ⟨_, rfl, k _ d gs s1 nd PT fr⟩
end
end Lo
namespace Lo
open PySem PySem.Spec PyProof.Rows L2
open So01 (Ask)
/-! ### the reader -/
/-- all is as it was but what stands at r -/
def But (r : Addr) (H H' : Hp) : Prop := ∀ b o, H b = some o → b ≠ r → H' b = some o
theorem But.refl (r : Addr) (H : Hp) : But r H H := fun _ _ e _ => e
theorem But.of {r : Addr} {H H' : Hp} (s : Same H H') : But r H H' := fun b o e _ => s b o e
theorem But.trans {r : Addr} {H H1 H2 : Hp} (a : But r H H1) (b : But r H1 H2) : But r H H2 := fun c o e n => b c o (a c o e n) n
theorem But.put {r : Addr} {H : Hp} {o : HO} : But r H (upd H r o) := fun b u e n => by rw [upd_ne n]; exact e
theorem But.same {r : Addr} {H H1 H2 : Hp} (a : Same H H1) (n : H r = none) (b : But r H1 H2) : Same H H2 := fun c o e => b c o (a c o e) (ne_of_none e n)
theorem But.free {r p : Addr} {H H1 : Hp} (b : But r H H1) (h : H1 p = none) (hr : p ≠ r) : H p = none := by
  cases q : H p with
  | none => rfl
  | some o =>
    rw [b p o q hr] at h
    cases h
theorem But.seqL {K : PySem.W.Frag} {r C dx a : Addr} {H H1 : Hp} {fs : List (Str × V)} {xs : List V} (b : But r H H1) (hr : H r = some (.ins C dx fs)) (h : SqL K H a xs) : SqL K H1 a xs := by
  rcases h with (h | ⟨o, h⟩) | h
  · exact .inl (.inl (b _ _ h (ne_of h hr (by intro q; cases q))))
  · exact .inl (.inr ⟨o, b _ _ h (ne_of h hr (by intro q; cases q))⟩)
  · exact .inr h
theorem But.seqT {K : PySem.W.Frag} {r C dx a : Addr} {H H1 : Hp} {fs : List (Str × V)} {xs : List V} (b : But r H H1) (hr : H r = some (.ins C dx fs)) (h : SqT K H a xs) : SqT K H1 a xs := by
  rcases h with (h | ⟨o, h⟩) | h
  · exact .inl (.inl (b _ _ h (ne_of h hr (by intro q; cases q))))
  · exact .inl (.inr ⟨o, b _ _ h (ne_of h hr (by intro q; cases q))⟩)
  · exact .inr h
def rF (a : Addr) (i : Nat) : List (Str × V) := [("numbers", .ref a), ("place", .int (i : Int))]
theorem rF_numbers (a : Addr) (i : Nat) : (rF a i).lookup ("numbers" : Str) = some (.ref a) := lk_here
theorem rF_place (a : Addr) (i : Nat) : (rF a i).lookup ("place" : Str) = some (.int (i : Int)) := (lk_past (by decide +kernel)).trans lk_here
theorem rF_no {m : Str} (h1 : (m == "numbers") = false) (h2 : (m == "place") = false) (a : Addr) (i : Nat) : (rF a i).lookup m = none := (lk_past h1).trans ((lk_past h2).trans rfl)
theorem rF_put (a : Addr) (i j : Nat) : putF "place" (.int (j : Int)) (rF a i) = rF a j := (put_past (by decide +kernel)).trans (congrArg _ put_here)
theorem rF_new (a : Addr) : putF "place" (.int 0) (putF "numbers" (.ref a) []) = rF a 0 := (put_past (by decide +kernel)).trans rfl
structure RdAt (K : PySem.W.Frag) (C : Addr) (H : Hp) (r a : Addr) (ms : List Nat) (i : Nat) : Prop where
  ex : ∃ dx, H r = some (.ins C dx (rF a i)) ∧ SqL K H a (nV ms)
theorem RdAt.same {K : PySem.W.Frag} {C : Addr} {H H' : Hp} {r a : Addr} {ms : List Nat} {i : Nat} (h : RdAt K C H r a ms i) (s : Same H H') : RdAt K C H' r a ms i := by
  obtain ⟨dx, h1, h2⟩ := h.ex
  exact ⟨dx, s _ _ h1, s.seq h2⟩
structure TxR (K : PySem.W.Frag) (mg : Str → Option Value) (C : Addr) : Prop where
  cl : Cls K C
  nN : NoAttr K C "numbers"
  nP : NoAttr K C "place"
abbrev sRIni : Stmt := inClass (top 20) 0
abbrev sREnd : Stmt := inClass (top 20) 1
abbrev sROne : Stmt := inClass (top 20) 2
abbrev sRRow : Stmt := inClass (top 20) 3
theorem scRIni : FnScope ["self", "numbers"] ["self", "numbers"] (defScope sRIni) := ⟨rfl, rfl, rfl, by decide +kernel, rfl, by decide +kernel, by decide +kernel⟩
theorem scREnd : FnScope ["self"] ["self"] (defScope sREnd) := ⟨rfl, rfl, rfl, by decide +kernel, rfl, by decide +kernel, by decide +kernel⟩
theorem scROne : FnScope ["self", "number"] ["self"] (defScope sROne) := ⟨rfl, rfl, rfl, by decide +kernel, rfl, by decide +kernel, by decide +kernel⟩
theorem scRRow : FnScope ["self", "length", "row"] ["self"] (defScope sRRow) := ⟨rfl, rfl, rfl, by decide +kernel, rfl, by decide +kernel, by decide +kernel⟩
def spRIni (K : PySem.W.Frag) (C : Addr) : Sp := fun vs H Q _ => ∃ (r dx a : Addr) (ms : List Nat), vs = [.ref r, .ref a] ∧ H r = some (.ins C dx []) ∧ SqL K H a (nV ms) ∧ ∀ H' : Hp, RdAt K C H' r a ms 0 → But r H H' → Q .non H'
def spREnd (K : PySem.W.Frag) (C : Addr) : Sp := fun vs H Q _ => ∃ (r a : Addr) (ms : List Nat) (i : Nat), vs = [.ref r] ∧ RdAt K C H r a ms i ∧ Q (.bl (decide (i = ms.length))) H
def spROne (K : PySem.W.Frag) (C : Addr) : Sp := fun vs H Q _ => ∃ (r a : Addr) (ms : List Nat) (i n : Nat), vs = [.ref r] ∧ RdAt K C H r a ms i ∧ ms[i]? = some n ∧ ∀ H' : Hp, RdAt K C H' r a ms (i + 1) → But r H H' → Q (.int (n : Int)) H'
def spRRow (K : PySem.W.Frag) (C : Addr) : Sp := fun vs H Q _ => ∃ (r a : Addr) (ms : List Nat) (i : Nat) (row rest : List Nat), vs = [.ref r] ∧ RdAt K C H r a ms i ∧ ms.drop i = row.length :: (row ++ rest) ∧
  ∀ (H' : Hp) (p : Addr), H p = none → H' p = some (.lst (nV row)) → RdAt K C H' r a ms (i + 1 + row.length) → But r H H' → Q (.ref p) H'
theorem rF_one (a : Addr) (i : Nat) : (rF a i).lookup ("one" : Str) = none := rF_no (by decide +kernel) (by decide +kernel) a i
theorem cut_row {ms row rest : List Nat} {i : Nat} (h : ms.drop i = row.length :: (row ++ rest)) : cutV (nV ms) (some ((i + 1 : Nat) : Int)) (some (((i + 1 + row.length : Nat)) : Int)) = nV row := by
  unfold cutV
  have hd : ms.drop (i + 1) = row ++ rest := by
    have : ms.drop (i + 1) = (ms.drop i).drop 1 := by rw [List.drop_drop]
    rw [this, h]
    rfl
  have hl : i + 1 + row.length ≤ ms.length := by
    have := congrArg List.length hd
    rw [List.length_drop, List.length_append] at this
    have h2 := congrArg List.length h
    rw [List.length_drop, List.length_cons, List.length_append] at h2
    omega
  rw [HT.sIx_nat, HT.sIx_nat, nV_length, Nat.min_eq_left hl, Nat.min_eq_left (show i + 1 ≤ ms.length by omega), Nat.add_sub_cancel_left]
  unfold nV
  rw [← List.map_drop, hd, ← List.map_take, List.take_left]
section
variable {P : Program} {w : World} {K : PySem.W.Frag} {mg : Str → Option Value} {base : Heap} {C : Addr}
theorem ok_rini {f : Addr} {fd : FuncData} (F : Fun K "__init__" "Reader.__init__" sRIni f fd) (T : TxR K mg C) : FnOk P w K mg base CX0 1 f fd ["self", "numbers"] (spRIni K C) := by
  refine F.ok scRIni (fun vs H Q E h => ?_) (fun cdv A outer s H vs Q E hr h => ?_)
  · obtain ⟨r, dx, a, ms, rfl, _⟩ := h
    rfl
  · obtain ⟨r, dx, a, ms, rfl, hr0, ha, k⟩ := h
    refine ⟨_, pss_cons (ps_fld (pv 0) (pv 1) rfl) (pss_one (ps_fld (pv 0) pe_int rfl)), ?_⟩
    refine ⟨_, rfl, _, rfl, r, C, dx, [], rfl, hr0, T.cl, T.nN, (by show 0 < 1000; decide), _, rfl, r, C, dx, _, rfl, upd_same, T.cl, T.nP, (by show 1 < 1000; decide), ?_⟩
    rw [rF_new, upd_upd]
    exact k _ ⟨dx, upd_same, ha.pastI hr0⟩ But.put
theorem ok_rend {f : Addr} {fd : FuncData} (F : Fun K "at_end" "Reader.at_end" sREnd f fd) (T : TxR K mg C) (B : Blt mg) : FnOk P w K mg base CX0 1 f fd ["self"] (spREnd K C) := by
  refine F.ok scREnd (fun vs H Q E h => ?_) (fun cdv A outer s H vs Q E hr h => ?_)
  · obtain ⟨r, a, ms, i, rfl, _⟩ := h
    rfl
  · obtain ⟨r, a, ms, i, rfl, R, k⟩ := h
    obtain ⟨dx, h1, h2⟩ := R.ex
    refine ⟨_, pss_one (ps_ret (pe_cmpR op_eq (pe_fld (pv 0) rfl) (pe_callB call_len_seq (by rfl) B.len PySem.boot_len (pa_cons (pe_fld (pv 0) rfl) pa_nil)) (nomark _))), ?_⟩
    refine ⟨_, rfl, r, C, dx, _, _, rfl, h1, T.cl, T.nP, rF_place a i, _, rfl, r, C, dx, _, _, rfl, h1, T.cl, T.nN, rF_numbers a i, a, _, rfl, .inl h2, rfl, ?_⟩
    have e : decide (V.int (i : Int) = V.int ((nV ms).length : Nat)) = decide (i = ms.length) := by
      rw [nV_length]
      by_cases c : i = ms.length
      · rw [decide_eq_true c, decide_eq_true (by rw [c])]
      · rw [decide_eq_false c, decide_eq_false fun q => c (by have := V.int.inj q; omega)]
    rw [e]
    exact k
theorem ok_rone {f : Addr} {fd : FuncData} (F : Fun K "one" "Reader.one" sROne f fd) (T : TxR K mg C) : FnOk P w K mg base CX0 1 f fd ["self"] (spROne K C) := by
  refine F.ok scROne (fun vs H Q E h => ?_) (fun cdv A outer s H vs Q E hr h => ?_)
  · obtain ⟨r, a, ms, i, n, rfl, _⟩ := h
    rfl
  · obtain ⟨r, a, ms, i, n, rfl, R, hn, k⟩ := h
    obtain ⟨dx, h1, h2⟩ := R.ex
    refine ⟨_, pss_cons (ps_set (i := 1) scROne.nd rfl (Or.inl rfl) (pe_ix ix_list (pe_fld (pv 0) rfl) (pe_fld (pv 0) rfl) (fun _ _ => rfl))) (pss_cons (ps_fldaug (pv 0) pe_int in_add) (pss_one (ps_ret (pv 1)))), ?_⟩
    refine ⟨_, rfl, r, C, dx, _, _, rfl, h1, T.cl, T.nN, rF_numbers a i, _, rfl, r, C, dx, _, _, rfl, h1, T.cl, T.nP, rF_place a i, a, _, _, _, rfl, rfl, h2, atI_nat (nV_get hn), ?_⟩
    refine ⟨_, rfl, r, C, dx, _, _, rfl, h1, T.cl, T.nP, rF_place a i, _, _, rfl, rfl, dx, _, h1, (by show 2 < 1000; decide), _, rfl, ?_⟩
    have e : (i : Int) + 1 = ((i + 1 : Nat) : Int) := by omega
    rw [e, rF_put]
    exact k _ ⟨dx, upd_same, h2.pastI h1⟩ But.put
theorem ok_rrow {f f1 : Addr} {fd fd1 : FuncData} (F : Fun K "row" "Reader.row" sRRow f fd) (T : TxR K mg C) (G1 : FnOk P w K mg base CX0 1 f1 fd1 ["self"] (spROne K C)) (b1 : Binds K fd1 ["self"] []) (m1 : Meth K C "one" f1) : FnOk P w K mg base CX0 2 f fd ["self"] (spRRow K C) := by
  refine F.ok scRRow (fun vs H Q E h => ?_) (fun cdv A outer s H vs Q E hr h => ?_)
  · obtain ⟨r, a, ms, i, row, rest, rfl, _⟩ := h
    rfl
  · obtain ⟨r, a, ms, i, row, rest, rfl, R, hd, k⟩ := h
    obtain ⟨dx, h1, h2⟩ := R.ex
    refine ⟨_, pss_cons (ps_set (i := 1) scRRow.nd rfl (Or.inl rfl) (pe_meth0 (pv 0) T.cl m1 G1 hr b1 .nil pass0)) (pss_cons (ps_set (i := 2) scRRow.nd rfl (Or.inl rfl) (pe_slice sl_list (pe_fld (pv 0) rfl) (po_some (pe_fld (pv 0) rfl)) (po_some (pe_op op_add (pe_fld (pv 0) rfl) (pv 1)))))
      (pss_cons (ps_fldaug (pv 0) (pv 1) in_add) (pss_one (ps_ret (pv 2))))), ?_⟩
    have h0 : ms[i]? = some row.length := by
      have := congrArg (fun l => l[0]?) hd
      simpa using this
    refine ⟨_, rfl, r, dx, _, rfl, h1, rF_one a i, r, a, ms, i, row.length, rfl, ⟨dx, h1, h2⟩, h0, fun H1 R1 B1 => ?_⟩
    obtain ⟨dx1, h3, h4⟩ := R1.ex
    refine ⟨_, rfl, r, C, dx1, _, _, rfl, h3, T.cl, T.nN, rF_numbers _ _, _, rfl, r, C, dx1, _, _, rfl, h3, T.cl, T.nP, rF_place _ _, _, rfl, _, rfl, r, C, dx1, _, _, rfl, h3, T.cl, T.nP, rF_place _ _, _, rfl, _, _, rfl, rfl, _, rfl, a, _, rfl, h4, fun p np => ?_⟩
    have np0 : r ≠ p := ne_of_none h3 np
    have e1 : ((i + 1 : Nat) : Int) + (row.length : Int) = ((i + 1 + row.length : Nat) : Int) := by omega
    rw [e1, cut_row hd]
    refine ⟨_, rfl, r, C, dx1, _, _, rfl, Eq.trans (upd_ne np0) h3, T.cl, T.nP, rF_place _ _, _, rfl, _, _, rfl, rfl, dx1, _, Eq.trans (upd_ne np0) h3, (by show 2 < 1000; decide), _, rfl, ?_⟩
    rw [e1, rF_put]
    have h5 : upd H1 p (.lst (nV row)) r = some (.ins C dx1 (rF a (i + 1))) := Eq.trans (upd_ne np0) h3
    refine k _ p (B1.free np np0.symm) (Eq.trans (upd_ne np0.symm) upd_same) ⟨dx1, upd_same, ((Same.new np).seq h4).pastI h5⟩ ?_
    exact (B1.trans (But.of (Same.new np))).trans But.put
end
end Lo
namespace Lo
open PySem PySem.Spec PyProof.Rows L2
open So01 (Ask)
/-! ### answers -/
/-- where an office stands; G: what it has no part in -/
abbrev OffT := (Addr → Prop) → Hp → Addr → So01.St → Prop
structure OffOk (Off : OffT) : Prop where
  keep : ∀ {A : Addr → Prop} {H H' : Hp} {o : Addr} {s : So01.St}, Off A H o s → (∀ b u, H b = some u → ¬ A b → H' b = some u) → Off A H' o s
  more : ∀ {A : Addr → Prop} {H : Hp} {o g : Addr} {s : So01.St}, Off A H o s → H g = none → Off (fun b => A b ∨ b = g) H o s
  apart : ∀ {A : Addr → Prop} {H : Hp} {o : Addr} {s : So01.St}, Off A H o s → ¬ A o
/-- the call at the place j of the list of calls: what it is promised. G: what stays as it is; neither that nor the reader is a part of the office -/
def spCall (Off : OffT) (K : PySem.W.Frag) (CR : Addr) (j : Nat) : Sp := fun vs H Q _ => ∃ (G : Addr → Prop) (o r a : Addr) (s : So01.St) (ms : List Nat) (i : Nat) (c : So01.Call) (rest : List Nat), vs = [.ref o, .ref r] ∧ Off (fun b => G b ∨ b = r) H o s ∧ RdAt K CR H r a ms i ∧ ¬ G r ∧ i ≤ ms.length ∧
  (∀ b, G b → H b ≠ none) ∧ (∀ H', (∀ b, G b → H' b = H b) → SqL K H' a (nV ms)) ∧ Rd1 (j :: ms.drop i) c rest ∧
  ∀ (H' : Hp) (p : Addr) (i' : Nat), H p = none → H' p = some (.lst (iV (So01.step s c).2)) → Off (fun b => G b ∨ b = r) H' o (So01.step s c).1 → RdAt K CR H' r a ms i' → ms.drop i' = rest → i' ≤ ms.length → (∀ b, G b → H' b = H b) → Q (.ref p) H'
def spOIni (Off : OffT) (C : Addr) : Sp := fun vs H Q _ => ∃ (o dx : Addr), vs = [.ref o] ∧ H o = some (.ins C dx []) ∧ ∀ H' : Hp, (∀ G : Addr → Prop, (∀ b, G b → H b ≠ none ∧ b ≠ o) → Off G H' o So01.init) → But o H H' → Q .non H'
def spAns (K : PySem.W.Frag) : Sp := fun vs H Q _ => ∃ (a : Addr) (ms : List Nat) (cs : List So01.Call), vs = [.ref a] ∧ SqL K H a (nV ms) ∧ Rds ms cs ∧ ((play So01.init cs).flatMap put).length ≤ 10000000 ∧
  ∀ (H' : Hp) (p : Addr), H' p = some (.lst (iV ((play So01.init cs).flatMap put))) → Q (.ref p) H'
abbrev sAns : Stmt := top 32
def nAns : List Str := ["calls", "office", "reader", "given", "call", "answer"]
theorem scAns : FnScope nAns ["calls"] (defScope sAns) := ⟨rfl, rfl, rfl, by decide +kernel, rfl, by decide +kernel, by decide +kernel⟩
/-- the defs in the tuple of calls, by their places -/
structure CallsAt (P : Program) (w : World) (K : PySem.W.Frag) (mg : Str → Option Value) (base : Heap) (Off : OffT) (CR : Addr) (k : Nat) (tc : Addr) (fs : List Addr) : Prop where
  gC : mg "CALLS" = some (.ref tc)
  at_ : ∀ H : Hp, SqT K H tc (fs.map V.ref)
  nd : fs.Nodup
  held : ∀ j f, fs[j]? = some f → Held P w K mg base k f (spCall Off K CR j)
def spOf (Off : OffT) (K : PySem.W.Frag) (CR : Addr) (fs : List Addr) (f : Addr) : Option Sp := (fs.idxOf? f).map (spCall Off K CR)
theorem idx_at : ∀ {fs : List Addr} {j : Nat} {f : Addr}, fs.Nodup → fs[j]? = some f → fs.idxOf? f = some j
  | c :: r, 0, f, _, h => by
    obtain rfl : c = f := Option.some.inj h
    simp [List.idxOf?, List.findIdx?_cons]
  | c :: r, j + 1, f, nd, h => by
    rw [List.nodup_cons] at nd
    have h' : r[j]? = some f := h
    have ne : ¬ c = f := fun e => nd.1 (by rw [e]; exact List.mem_of_getElem? h')
    have ih := idx_at nd.2 h'
    unfold List.idxOf? at ih ⊢
    rw [List.findIdx?_cons, ih]
    simp [ne]
theorem idx_of : ∀ {fs : List Addr} {j : Nat} {f : Addr}, fs.idxOf? f = some j → fs[j]? = some f
  | c :: r, j, f, h => by
    unfold List.idxOf? at h
    rw [List.findIdx?_cons] at h
    by_cases e : c = f
    · subst e
      simp at h
      subst h
      rfl
    · simp [e] at h
      obtain ⟨i, h1, rfl⟩ := h
      exact idx_of (fs := r) h1
theorem rF_end (a : Addr) (i : Nat) : (rF a i).lookup ("at_end" : Str) = none := rF_no (by decide +kernel) (by decide +kernel) a i
theorem iV_append (l r : List Int) : iV (l ++ r) = iV l ++ iV r := by unfold iV; exact List.map_append
theorem iV_length (l : List Int) : (iV l).length = l.length := by unfold iV; exact List.length_map _
theorem Rd1.first {ms : List Nat} {c : So01.Call} {rest : List Nat} (h : Rd1 ms c rest) : ∃ j ms', ms = j :: ms' ∧ j < 10 := by
  cases h <;> exact ⟨_, _, rfl, by decide⟩
section
variable {P : Program} {w : World} {K : PySem.W.Frag} {mg : Str → Option Value} {base : Heap} {CO CR : Addr} {Off : OffT}
theorem ok_ans {f fO fR fE f1 tc : Addr} {fd fdO fdR fdE fd1 : FuncData} {fs : List Addr} {k : Nat} (F : Fun K "answers" "answers" sAns f fd) (O : OffOk Off) (TR : TxR K mg CR) (B : Blt mg) (gO : mg "Office" = some (.ref CO)) (gR : mg "Reader" = some (.ref CR)) (hk : 5 ≤ k)
    (MO : Mk K CO fO) (GO : FnOk P w K mg base CX0 3 fO fdO ["self"] (spOIni Off CO)) (bO : Binds K fdO ["self"] [])
    (MR : Mk K CR fR) (GR : FnOk P w K mg base CX0 1 fR fdR ["self", "numbers"] (spRIni K CR)) (bR : Binds K fdR ["self", "numbers"] [])
    (GE : FnOk P w K mg base CX0 1 fE fdE ["self"] (spREnd K CR)) (bE : Binds K fdE ["self"] []) (mE : Meth K CR "at_end" fE)
    (G1 : FnOk P w K mg base CX0 1 f1 fd1 ["self"] (spROne K CR)) (b1 : Binds K fd1 ["self"] []) (m1 : Meth K CR "one" f1)
    (CA : CallsAt P w K mg base Off CR k tc fs) (ten : fs.length = 10) : FnOk P w K mg base CX0 (k + 1) f fd ["calls"] (spAns K) := by
  refine F.ok scAns (fun vs H Q E h => ?_) (fun cdv A outer s H vs Q E hr h => ?_)
  · obtain ⟨a, ms, cs, rfl, _⟩ := h
    rfl
  · obtain ⟨a, ms, cs, rfl, hS, RS, total, kq⟩ := h
    refine ⟨_, pss_cons (ps_set (i := 1) scAns.nd rfl (Or.inl rfl) (pe_make0 MO GO (hr.mono (by omega)) rfl gO bO .nil pass0))
      (pss_cons (ps_set (i := 2) scAns.nd rfl (Or.inl rfl) (pe_make MR GR (hr.mono (by omega)) rfl gR bR .nil pass0 (pa_cons (pv 0) pa_nil)))
      (pss_cons (ps_set (i := 3) scAns.nd rfl (Or.inl rfl) (pe_lst pa_nil))
      (pss_cons (ps_while PassesOwn.never (pt_not (pt_val (pe_meth0 (pv 2) TR.cl mE GE (hr.mono (by omega)) bE .nil pass0)))
        (pss_cons (ps_set (i := 4) scAns.nd rfl (Or.inl rfl) (pe_ix ix_tup (pe_glob (v := .ref tc) rfl CA.gC rfl) (pe_meth0 (pv 2) TR.cl m1 G1 (hr.mono (by omega)) b1 .nil pass0) (fun _ _ => rfl)))
        (pss_cons (ps_set (i := 5) scAns.nd rfl (Or.inl rfl) (pe_callA (i := 4) (S := spOf Off K CR fs) (k := k) (fun f sp h => ?held) hr rfl (Or.inl rfl) (pa_cons (pv 1) (pa_cons (pv 2) pa_nil))))
        (pss_cons (ps_expr (pe_bm PySem.F.plainAttrs_list PySem.F.slot_list_append PySem.F.type_list_append mt_append (pv 3) (pa_cons (pe_callB call_len_seq (by rfl) B.len PySem.boot_len (pa_cons (pv 5) pa_nil)) pa_nil)))
        (pss_one (ps_expr (pe_bm PySem.F.plainAttrs_list PySem.F.slot_list_extend PySem.F.type_list_extend mt_extend (pv 3) (pa_cons (pv 5) pa_nil))))))))
      (pss_one (ps_ret (pv 3)))))), ?_⟩
    case held =>
      unfold spOf at h
      cases e : fs.idxOf? f with
      | none =>
        rw [e] at h
        cases h
      | some j =>
        rw [e] at h
        rw [← Option.some.inj h]
        exact CA.held j f (idx_of e)
    -- office = Office()
    intro o dxo no ndo neo
    refine ⟨o, dxo, rfl, upd_same, fun H1 off1 B1 => ⟨rfl, ?_⟩⟩
    have s1 : Same H H1 := Same.made no ndo B1
    -- reader = Reader(calls)
    refine ⟨_, rfl, fun r dxr nr ndr ner => ?_⟩
    have s1r : Same H1 (upd (upd H1 dxr (.own r)) r (.ins CR dxr [])) := fun b u e => by
      rw [upd_ne (ne_of_none e nr), upd_ne (ne_of_none e ndr)]
      exact e
    refine ⟨r, dxr, a, ms, rfl, upd_same, (s1.trans s1r).seq hS, fun H2 R2 B2 => ⟨rfl, ?_⟩⟩
    have s2 : Same H1 H2 := Same.made nr ndr B2
    -- given = []
    refine ⟨Nat.zero_le _, fun g ng => ?_⟩
    have s3 : Same H2 (upd H2 g (.lst [])) := Same.new ng
    have r2 : ∃ o', H2 r = some o' := let ⟨dx, h, _⟩ := R2.ex; ⟨_, h⟩
    have gr : r ≠ g := let ⟨_, h⟩ := r2; ne_of_none h ng
    have g0 : H g = none := (s1.trans s2).free ng
    have r0 : H r = none := s1.free nr
    have off3 : Off (fun b => (H b ≠ none ∨ b = g) ∨ b = r) (upd H2 g (.lst [])) o So01.init := by
      have a1 := off1 (fun b => H b ≠ none) fun b hb => by
        cases q : H b with
        | none => exact absurd q hb
        | some u =>
          refine ⟨fun z => ?_, ne_of_none q no⟩
          rw [upd_ne (ne_of_none q no), upd_ne (ne_of_none q ndo), q] at z
          cases z
      have a2 := O.keep (O.more a1 nr) (H' := H2) fun b u e _ => s2 b u e
      have a3 := O.keep (O.more a2 ng) (H' := upd H2 g (.lst [])) fun b u e _ => s3 b u e
      have e : (fun b => ((H b ≠ none ∨ b = r) ∨ b = g)) = fun b => (H b ≠ none ∨ b = g) ∨ b = r := by
        funext b
        exact propext ⟨fun h => by rcases h with (h | h) | h <;> simp [h], fun h => by rcases h with (h | h) | h <;> simp [h]⟩
      rw [← e]
      exact a3
    refine ⟨fun m σ H' => ∃ (st : So01.St) (cs' : List So01.Call) (i : Nat) (out : List Int) (o4 o5 : Option V), m = cs'.length ∧ σ = [some (.ref a), some (.ref o), some (.ref r), some (.ref g), o4, o5] ∧ Same H H' ∧ Off (fun b => (H b ≠ none ∨ b = g) ∨ b = r) H' o st ∧
      RdAt K CR H' r a ms i ∧ i ≤ ms.length ∧ Rds (ms.drop i) cs' ∧ H' g = some (.lst (iV out)) ∧ out ++ (play st cs').flatMap put = (play So01.init cs).flatMap put, ⟨cs.length, So01.init, cs, 0, [], none, none, rfl, rfl, (s1.trans s2).trans s3, off3, R2.same s3, Nat.zero_le _, RS, upd_same, rfl⟩, ?_⟩
    rintro m σ H3 ⟨st, cs', i, out, o4, o5, rfl, rfl, sH, off, R, il, Rs, hg, tot⟩
    obtain ⟨dx, h1, h2⟩ := R.ex
    refine ⟨_, rfl, r, dx, _, rfl, h1, rF_end a i, r, a, ms, i, rfl, R, _, rfl, ?_⟩
    cases Rs' : cs' with
    | nil =>
      subst Rs'
      have e0 : ms.drop i = [] := by
        generalize ms.drop i = z at Rs
        cases Rs
        rfl
      have e1 : i = ms.length := by
        have := congrArg List.length e0
        rw [List.length_drop] at this
        exact Nat.le_antisymm il (by simpa using Nat.sub_eq_zero_iff_le.mp this)
      rw [decide_eq_true e1]
      refine ⟨_, rfl, kq _ g ?_⟩
      rw [hg, ← tot]
      show some (HO.lst (iV out)) = some (HO.lst (iV (out ++ [])))
      rw [List.append_nil]
    | cons c cs2 =>
      subst Rs'
      obtain ⟨rest, rd, Rs2⟩ : ∃ rest, Rd1 (ms.drop i) c rest ∧ Rds rest cs2 := by
        generalize ms.drop i = z at Rs
        cases Rs with
        | cons x y => exact ⟨_, x, y⟩
      obtain ⟨j, ms', ej, j10⟩ := rd.first
      have hj : ms[i]? = some j := by
        have := congrArg (fun l => l[0]?) ej
        simpa using this
      have ilt : i < ms.length := (List.getElem?_eq_some_iff.mp hj).1
      have ed : ms' = ms.drop (i + 1) := by
        have : ms.drop (i + 1) = (ms.drop i).drop 1 := by rw [List.drop_drop]
        rw [this, ej]
        rfl
      rw [ej, ed] at rd
      rw [decide_eq_false (fun e => Nat.ne_of_lt ilt e)]
      refine ⟨fun σ' H' => ∃ m', m' < (c :: cs2).length ∧ ∃ (st : So01.St) (cs' : List So01.Call) (i : Nat) (out : List Int) (o4 o5 : Option V), m' = cs'.length ∧ σ' = [some (.ref a), some (.ref o), some (.ref r), some (.ref g), o4, o5] ∧ Same H H' ∧ Off (fun b => (H b ≠ none ∨ b = g) ∨ b = r) H' o st ∧
        RdAt K CR H' r a ms i ∧ i ≤ ms.length ∧ Rds (ms.drop i) cs' ∧ H' g = some (.lst (iV out)) ∧ out ++ (play st cs').flatMap put = (play So01.init cs).flatMap put, fun _ _ z => z, ?_⟩
      obtain ⟨fj, hfj⟩ : ∃ fj, fs[j]? = some fj := ⟨fs[j]'(by omega), List.getElem?_eq_getElem (by omega)⟩
      -- call = CALLS[reader.one()]
      refine ⟨_, rfl, r, dx, _, rfl, h1, rF_one a i, r, a, ms, i, j, rfl, R, hj, fun H4 R4 B4 => ?_⟩
      refine ⟨tc, _, (j : Int), .ref fj, rfl, rfl, CA.at_ H4, atI_nat (by rw [List.getElem?_map, hfj]; rfl), ?_⟩
      have gne : g ≠ r := gr.symm
      have hg4 : H4 g = some (.lst (iV out)) := B4 _ _ hg gne
      have sH4 : Same H H4 := But.same sH r0 B4
      have off4 := O.keep off (H' := H4) fun b u e nb => B4 b u e fun q => nb (.inr q)
      -- answer = call(office, reader)
      refine ⟨fj, spCall Off K CR j, rfl, ?_, _, rfl, _, rfl, fun b => H b ≠ none ∨ b = g, o, r, a, st, ms, i + 1, c, rest, rfl, off4, R4, ?_, ilt, ?_, ?_, rd, fun H5 p i' np hp off5 R5 e5 il5 fr5 => ?_⟩
      · unfold spOf
        rw [idx_at CA.nd hfj]
        rfl
      · rintro (q | q)
        · exact q r0
        · exact gr q
      · rintro b (q | q) z
        · cases e : H b with
          | none => exact q e
          | some u =>
            rw [sH4 b u e] at z
            cases z
        · rw [q, hg4] at z
          cases z
      · intro H' fr
        refine (show Same H H' from fun b u e => ?_).seq hS
        rw [fr b (.inl (by rw [e]; exact fun z => by cases z))]
        exact sH4 b u e
      have hg5 : H5 g = some (.lst (iV out)) := (fr5 g (.inr rfl)).trans hg4
      have sH5 : Same H H5 := fun b u e => by
        rw [fr5 b (.inl (by rw [e]; exact fun z => by cases z))]
        exact sH4 b u e
      have pg : p ≠ g := (ne_of_none hg4 np).symm
      have tot2 : (out ++ put (So01.step st c).2) ++ (play (So01.step st c).1 cs2).flatMap put = (play So01.init cs).flatMap put := by
        rw [← tot, List.append_assoc]
        rfl
      have small : out.length + (put (So01.step st c).2).length ≤ 10000000 := by
        rw [← tot2, List.length_append, List.length_append] at total
        omega
      have small2 : (put (So01.step st c).2).length = (So01.step st c).2.length + 1 := rfl
      -- given.append(len(answer))
      refine ⟨_, rfl, .inl ⟨rfl, _, SqL.of hg5⟩, _, rfl, p, _, rfl, .inl (SqL.of hp), g, _, _, rfl, rfl, hg5, by rw [iV_length, sizeLine_is]; omega, ?_⟩
      -- given.extend(answer)
      refine ⟨_, rfl, .inl ⟨rfl, _, SqL.of upd_same⟩, _, rfl, g, p, _, _, rfl, rfl, upd_same, Eq.trans (upd_ne pg) hp, ?_, ?_⟩
      · rw [List.length_append, iV_length, iV_length, sizeLine_is]
        show out.length + 1 + _ ≤ _
        omega
      rw [upd_upd]
      have st5 : ∀ {u : HO}, Same H (upd H5 g u) := sH5.put g0
      refine ⟨cs2.length, Nat.lt_succ_self _, (So01.step st c).1, cs2, i', out ++ put (So01.step st c).2, _, _, rfl, rfl, st5, O.keep off5 fun b u e nb => ?_, ?_, il5, by rw [e5]; exact Rs2, ?_, tot2⟩
      · rw [upd_ne (fun q => nb (.inl (.inr q)))]
        exact e
      · obtain ⟨dx5, h5, _⟩ := R5.ex
        exact ⟨dx5, Eq.trans (upd_ne gr) h5, st5.seq hS⟩
      · rw [upd_same, iV_append, iV_length]
        unfold put
        show some (HO.lst (iV out ++ [V.int ((So01.step st c).2.length : Int)] ++ iV (So01.step st c).2)) = some (HO.lst (iV out ++ (V.int ((So01.step st c).2.length : Int) :: iV (So01.step st c).2)))
        rw [List.append_assoc]
        rfl
end
end Lo
namespace Lo
open PySem PySem.Spec PyProof.Rows L2
open So01 (Ask)
/-! ### the office -/
def oF (p : Nat) (t m l : Addr) : List (Str × V) := [("p", .int (p : Int)), ("truth", .ref t), ("might_be", .ref m), ("told", .ref l)]
theorem oF_p (p : Nat) (t m l : Addr) : (oF p t m l).lookup ("p" : Str) = some (.int (p : Int)) := lk_here
theorem oF_truth (p : Nat) (t m l : Addr) : (oF p t m l).lookup ("truth" : Str) = some (.ref t) := (lk_past (by decide +kernel)).trans lk_here
theorem oF_might (p : Nat) (t m l : Addr) : (oF p t m l).lookup ("might_be" : Str) = some (.ref m) := (lk_past (by decide +kernel)).trans ((lk_past (by decide +kernel)).trans lk_here)
theorem oF_told (p : Nat) (t m l : Addr) : (oF p t m l).lookup ("told" : Str) = some (.ref l) := (lk_past (by decide +kernel)).trans ((lk_past (by decide +kernel)).trans ((lk_past (by decide +kernel)).trans lk_here))
theorem oF_no {x : Str} (h1 : (x == "p") = false) (h2 : (x == "truth") = false) (h3 : (x == "might_be") = false) (h4 : (x == "told") = false) (p : Nat) (t m l : Addr) : (oF p t m l).lookup x = none :=
  (lk_past h1).trans ((lk_past h2).trans ((lk_past h3).trans ((lk_past h4).trans rfl)))
theorem oF_size (p : Nat) (t m l : Addr) : (oF p t m l).lookup ("size" : Str) = none := oF_no (by decide +kernel) (by decide +kernel) (by decide +kernel) (by decide +kernel) p t m l
theorem oF_has (p : Nat) (t m l : Addr) : (oF p t m l).lookup ("has_person" : Str) = none := oF_no (by decide +kernel) (by decide +kernel) (by decide +kernel) (by decide +kernel) p t m l
theorem oF_may (p : Nat) (t m l : Addr) : (oF p t m l).lookup ("might_have" : Str) = none := oF_no (by decide +kernel) (by decide +kernel) (by decide +kernel) (by decide +kernel) p t m l
theorem oF_tell (p : Nat) (t m l : Addr) : (oF p t m l).lookup ("would_tell" : Str) = none := oF_no (by decide +kernel) (by decide +kernel) (by decide +kernel) (by decide +kernel) p t m l
theorem oF_begin (p : Nat) (t m l : Addr) : (oF p t m l).lookup ("begin" : Str) = none := oF_no (by decide +kernel) (by decide +kernel) (by decide +kernel) (by decide +kernel) p t m l
theorem oF_worlds (p : Nat) (t m l : Addr) : (oF p t m l).lookup ("worlds" : Str) = none := oF_no (by decide +kernel) (by decide +kernel) (by decide +kernel) (by decide +kernel) p t m l
theorem oF_putM (p : Nat) (t m l m' : Addr) : putF "might_be" (.ref m') (oF p t m l) = oF p t m' l := (put_past (by decide +kernel)).trans (congrArg _ ((put_past (by decide +kernel)).trans (congrArg _ put_here)))
theorem oF_new (p : Nat) (t m l : Addr) : putF "told" (.ref l) (putF "might_be" (.ref m) (putF "truth" (.ref t) (putF "p" (.int (p : Int)) []))) = oF p t m l := by
  have e1 : putF "truth" (.ref t) (putF "p" (.int (p : Int)) []) = [(("p" : Str), V.int (p : Int)), ("truth", .ref t)] := (put_past (by decide +kernel)).trans rfl
  have e2 : putF "might_be" (.ref m) [(("p" : Str), V.int (p : Int)), ("truth", .ref t)] = [(("p" : Str), V.int (p : Int)), ("truth", .ref t), ("might_be", .ref m)] := (put_past (by decide +kernel)).trans (congrArg _ ((put_past (by decide +kernel)).trans rfl))
  rw [e1, e2]
  exact (put_past (by decide +kernel)).trans (congrArg _ ((put_past (by decide +kernel)).trans (congrArg _ ((put_past (by decide +kernel)).trans rfl))))
theorem oF_anew (p p0 : Nat) (t m l t0 m0 l0 : Addr) : putF "told" (.ref l) (putF "might_be" (.ref m) (putF "truth" (.ref t) (putF "p" (.int (p : Int)) (oF p0 t0 m0 l0)))) = oF p t m l := by
  have e0 : putF "p" (.int (p : Int)) (oF p0 t0 m0 l0) = oF p t0 m0 l0 := put_here
  have e1 : putF "truth" (.ref t) (oF p t0 m0 l0) = oF p t m0 l0 := (put_past (by decide +kernel)).trans (congrArg _ put_here)
  rw [e0, e1, oF_putM]
  exact (put_past (by decide +kernel)).trans (congrArg _ ((put_past (by decide +kernel)).trans (congrArg _ ((put_past (by decide +kernel)).trans (congrArg _ put_here)))))
/-- what a told question is in the log -/
def tRow (x : Ask × Nat) : List Int := So01.ints [x.1.what, x.1.t] ++ (So01.rowOf x.1.who ++ So01.ints [x.2])
structure OAt (K : PySem.W.Frag) (C : Addr) (H : Hp) (o : Addr) (s : So01.St) : Prop where
  good : Good s
  ex : ∃ (dx t m l : Addr) (tw : List (Addr × Wd)) (rl : List (Addr × (Ask × Nat))), H o = some (.ins C dx (oF s.keep t m l)) ∧ SqT K H t (nV s.real) ∧ WsAt K H m tw ∧ wsOf tw = s.might ∧
    H l = some (.lst (rl.map fun x => V.ref x.1)) ∧ rl.map (·.2) = s.told ∧ (∀ x ∈ rl, H x.1 = some (.lst (iV (tRow x.2)))) ∧ m ≠ l ∧ ∀ x ∈ rl, x.1 ≠ l
theorem OAt.same {K : PySem.W.Frag} {C : Addr} {H H' : Hp} {o : Addr} {s : So01.St} (h : OAt K C H o s) (sm : Same H H') : OAt K C H' o s := by
  obtain ⟨dx, t, m, l, tw, rl, h1, h2, h3, h4, h5, h6, h7, h8, h9⟩ := h.ex
  exact ⟨h.good, dx, t, m, l, tw, rl, sm _ _ h1, h2.same sm, h3.same sm, h4, sm _ _ h5, h6, fun x hx => sm _ _ (h7 x hx), h8, h9⟩
/-- the heap without what stands in A -/
noncomputable def cut (A : Addr → Prop) (H : Hp) : Hp := fun b => @ite _ (A b) (Classical.propDecidable _) none (H b)
theorem cut_in {A : Addr → Prop} {H : Hp} {b : Addr} (h : A b) : cut A H b = none := by
  unfold cut
  exact if_pos h
theorem cut_out {A : Addr → Prop} {H : Hp} {b : Addr} (h : ¬ A b) : cut A H b = H b := by
  unfold cut
  exact if_neg h
theorem cut_some {A : Addr → Prop} {H : Hp} {b : Addr} {u : HO} (h : cut A H b = some u) : ¬ A b ∧ H b = some u := by
  by_cases c : A b
  · rw [cut_in c] at h
    cases h
  · rw [cut_out c] at h
    exact ⟨c, h⟩
theorem cut_same {A : Addr → Prop} {H : Hp} : Same (cut A H) H := fun _ _ e => (cut_some e).2
theorem cut_keep {A : Addr → Prop} {H H' : Hp} (h : ∀ b u, H b = some u → ¬ A b → H' b = some u) : Same (cut A H) (cut A H') := fun b u e => by
  obtain ⟨n, e2⟩ := cut_some e
  rw [cut_out n]
  exact h b u e2 n
/-- an office that has no part in A -/
def Off (K : PySem.W.Frag) (C : Addr) : OffT := fun A H o s => OAt K C (cut A H) o s
theorem Off.at_ {K : PySem.W.Frag} {C : Addr} {A : Addr → Prop} {H : Hp} {o : Addr} {s : So01.St} (h : Off K C A H o s) : OAt K C H o s := OAt.same h cut_same
theorem Off.same {K : PySem.W.Frag} {C : Addr} {A : Addr → Prop} {H H' : Hp} {o : Addr} {s : So01.St} (h : Off K C A H o s) (sm : Same H H') : Off K C A H' o s := OAt.same h (cut_keep fun b u e _ => sm b u e)
theorem off_ok (K : PySem.W.Frag) (C : Addr) : OffOk (Off K C) where
  keep := fun h k => OAt.same h (cut_keep k)
  more := fun {A H o g s} h n => by
    have e : cut (fun b => A b ∨ b = g) H = cut A H := by
      funext b
      by_cases c : A b
      · rw [cut_in (.inl c), cut_in c]
      · rw [cut_out c]
        by_cases d : b = g
        · rw [cut_in (.inr d), d, n]
        · exact cut_out fun z => z.elim c d
    show OAt K C (cut (fun b => A b ∨ b = g) H) o s
    rw [e]
    exact h
  apart := fun h => by
    obtain ⟨dx, t, m, l, tw, rl, h1, _⟩ := h.ex
    exact (cut_some h1).1
/-- what a call on an office gives back, and what it leaves -/
def Ret (K : PySem.W.Frag) (C : Addr) (A : Addr → Prop) (o : Addr) (s : So01.St) (c : So01.Call) (H : Hp) (Q : VK) : Prop :=
  ∀ (H' : Hp) (p : Addr), H p = none → H' p = some (.lst (iV (So01.step s c).2)) → Off K C A H' o (So01.step s c).1 → (∀ b, A b → H' b = H b) → Q (.ref p) H'
theorem Ret.read {K : PySem.W.Frag} {C : Addr} {A : Addr → Prop} {o : Addr} {s : So01.St} {c : So01.Call} {H H' : Hp} {Q : VK} {p : Addr} (r : Ret K C A o s c H Q) (h : Off K C A H o s) (hA : ∀ b, A b → H b ≠ none) (st : (So01.step s c).1 = s) (sm : Same H H') (np : H p = none) {xs : List V} (hp : H' p = some (.lst xs)) (e : xs = iV (So01.step s c).2) : Q (.ref p) H' := by
  subst e
  refine r H' p np hp (by rw [st]; exact h.same sm) fun b hb => ?_
  cases q : H b with
  | none => exact absurd q (hA b hb)
  | some u => exact sm b u q
structure TxO (K : PySem.W.Frag) (mg : Str → Option Value) (C : Addr) : Prop where
  cl : Cls K C
  nP : NoAttr K C "p"
  nT : NoAttr K C "truth"
  nM : NoAttr K C "might_be"
  nL : NoAttr K C "told"
theorem ws_filter (tw : List (Addr × Wd)) (f : Wd → Bool) : wsOf (tw.filter fun x => f x.2) = (wsOf tw).filter f := by
  unfold wsOf
  rw [List.filter_map]
  rfl
theorem ws_len (tw : List (Addr × Wd)) : (wsOf tw).length = tw.length := by
  unfold wsOf
  exact List.length_map _
theorem ws_mem {tw : List (Addr × Wd)} {x : Addr × Wd} (h : x ∈ tw) : x.2 ∈ wsOf tw := List.mem_map.mpr ⟨x, h, rfl⟩
theorem ws_get {tw : List (Addr × Wd)} {i : Nat} {x : Addr × Wd} (h : tw[i]? = some x) : (wsOf tw)[i]? = some x.2 := by
  unfold wsOf
  rw [List.getElem?_map, h]
  rfl
abbrev sOSiz : Stmt := inClass (top 19) 2
abbrev sOHas : Stmt := inClass (top 19) 3
abbrev sOMay : Stmt := inClass (top 19) 4
abbrev sOTel : Stmt := inClass (top 19) 5
abbrev sOWor : Stmt := inClass (top 19) 10
theorem scOSiz : FnScope ["self"] ["self"] (defScope sOSiz) := ⟨rfl, rfl, rfl, by decide +kernel, rfl, by decide +kernel, by decide +kernel⟩
theorem scOHas : FnScope ["self", "i"] ["self", "i"] (defScope sOHas) := ⟨rfl, rfl, rfl, by decide +kernel, rfl, by decide +kernel, by decide +kernel⟩
def nOMay : List Str := ["self", "i", "world"]
theorem scOMay : FnScope nOMay ["self", "i"] (defScope sOMay) := ⟨rfl, rfl, rfl, by decide +kernel, rfl, by decide +kernel, by decide +kernel⟩
def nOTel : List Str := ["self", "parts", "worlds"]
theorem scOTel : FnScope nOTel ["self", "parts"] (defScope sOTel) := ⟨rfl, rfl, rfl, by decide +kernel, rfl, by decide +kernel, by decide +kernel⟩
theorem scOWor : FnScope ["self"] ["self"] (defScope sOWor) := ⟨rfl, rfl, rfl, by decide +kernel, rfl, by decide +kernel, by decide +kernel⟩
def spOSiz (K : PySem.W.Frag) (C : Addr) : Sp := fun vs H Q _ => ∃ (o : Addr) (s : So01.St), vs = [.ref o] ∧ OAt K C H o s ∧ Q (.int (s.many : Int)) H
def spOHas (K : PySem.W.Frag) (C : Addr) : Sp := fun vs H Q _ => ∃ (o : Addr) (s : So01.St) (i : Nat), vs = [.ref o, .int (i : Int)] ∧ OAt K C H o s ∧ Q (.bl (So01.isPerson s i)) H
def spOMay (K : PySem.W.Frag) (C : Addr) : Sp := fun vs H Q _ => ∃ (o : Addr) (s : So01.St) (i : Nat), vs = [.ref o, .int (i : Int)] ∧ OAt K C H o s ∧ So01.isPerson s i = true ∧
  ∀ (H' : Hp) (p : Addr), Same H H' → H p = none → H' p = some (.lst (nV (s.might.map fun w => So01.has w i))) → Q (.ref p) H'
def spOTel (K : PySem.W.Frag) (C : Addr) : Sp := fun vs H Q _ => ∃ (o d : Addr) (a : Ask) (s : So01.St) (tw : List (Addr × Wd)) (gs : List (Nat × Addr)), vs = [.ref o, .ref d] ∧ OAt K C H o s ∧
  Parts K H d (So01.value a) tw gs ∧ wsOf tw = s.might ∧ a.who.length ≤ 8 ∧ ∀ H' : Hp, Same H H' → Q (.bl (So01.tells s.many s.keep s.might a)) H'
def spOWor (K : PySem.W.Frag) (C : Addr) : Sp := fun vs H Q _ => ∃ (o : Addr) (s : So01.St), vs = [.ref o] ∧ OAt K C H o s ∧ ∀ (H' : Hp) (p : Addr), Same H H' → H p = none → H' p = some (.lst (iV (So01.ints [s.might.length]))) → Q (.ref p) H'
theorem person_is {s : So01.St} {i : Nat} : So01.isPerson s i = true ↔ 1 ≤ i ∧ i ≤ s.many := by
  unfold So01.isPerson
  rw [Bool.and_eq_true, decide_eq_true_eq, decide_eq_true_eq]
section
variable {P : Program} {w : World} {K : PySem.W.Frag} {mg : Str → Option Value} {base : Heap} {C : Addr}
theorem ok_osiz {f : Addr} {fd : FuncData} (F : Fun K "size" "Office.size" sOSiz f fd) (T : TxO K mg C) (B : Blt mg) : FnOk P w K mg base CX0 1 f fd ["self"] (spOSiz K C) := by
  refine F.ok scOSiz (fun vs H Q E h => ?_) (fun cdv A outer s H vs Q E hr h => ?_)
  · obtain ⟨o, s, rfl, _⟩ := h
    rfl
  · obtain ⟨o, st, rfl, O, k⟩ := h
    obtain ⟨dx, t, m, l, tw, rl, h1, h2, h3, h4, h5, h6, h7, h8, h9⟩ := O.ex
    refine ⟨_, pss_one (ps_ret (pe_callB call_len_seq (by rfl) B.len PySem.boot_len (pa_cons (pe_fld (pv 0) rfl) pa_nil))), ?_⟩
    refine ⟨_, rfl, o, C, dx, _, _, rfl, h1, T.cl, T.nT, oF_truth _ _ _ _, t, _, rfl, .inr h2, ?_⟩
    rw [nV_length, ← O.good.many]
    exact k
theorem ok_ohas {f fS : Addr} {fd fdS : FuncData} (F : Fun K "has_person" "Office.has_person" sOHas f fd) (T : TxO K mg C) (GS : FnOk P w K mg base CX0 1 fS fdS ["self"] (spOSiz K C)) (bS : Binds K fdS ["self"] []) (mS : Meth K C "size" fS) : FnOk P w K mg base CX0 2 f fd ["self", "i"] (spOHas K C) := by
  refine F.ok scOHas (fun vs H Q E h => ?_) (fun cdv A outer s H vs Q E hr h => ?_)
  · obtain ⟨o, s, i, rfl, _⟩ := h
    rfl
  · obtain ⟨o, st, i, rfl, O, k⟩ := h
    obtain ⟨dx, t, m, l, tw, rl, h1, h2, h3, h4, h5, h6, h7, h8, h9⟩ := O.ex
    refine ⟨_, pss_one (ps_ret (pe_and (pe_cmpR op_ge (pv 1) pe_int (nomark _)) (pe_one (pe_cmpR op_le (pv 1) (pe_meth0 (pv 0) T.cl mS GS hr bS .nil pass0) (nomark _))))), ?_⟩
    refine ⟨_, rfl, _, _, rfl, rfl, _, rfl, ?_⟩
    by_cases c : (1 : Int) ≤ (i : Int)
    · rw [decide_eq_true c]
      refine iteT ⟨_, rfl, _, rfl, o, dx, _, rfl, h1, oF_size _ _ _ _, o, st, rfl, O, _, _, rfl, rfl, ?_⟩
      have e : So01.isPerson st i = decide ((i : Int) ≤ (st.many : Int)) := by
        unfold So01.isPerson
        rw [decide_eq_true (show 1 ≤ i by omega), Bool.true_and]
        by_cases d : i ≤ st.many
        · rw [decide_eq_true d, decide_eq_true (by omega)]
        · rw [decide_eq_false d, decide_eq_false (by omega)]
      rw [e] at k
      exact k
    · rw [decide_eq_false c]
      have e : So01.isPerson st i = false := by
        unfold So01.isPerson
        rw [decide_eq_false (show ¬ 1 ≤ i by omega), Bool.false_and]
      rw [e] at k
      exact iteF k
theorem ok_omay {f : Addr} {fd : FuncData} (F : Fun K "might_have" "Office.might_have" sOMay f fd) (T : TxO K mg C) (B : Blt mg) : FnOk P w K mg base CX0 1 f fd ["self", "i"] (spOMay K C) := by
  refine F.ok scOMay (fun vs H Q E h => ?_) (fun cdv A outer s H vs Q E hr h => ?_)
  · obtain ⟨o, s, i, rfl, _⟩ := h
    rfl
  · obtain ⟨o, st, i, rfl, O, per, k⟩ := h
    obtain ⟨dx, t, m, l, tw, rl, h1, h2, h3, h4, h5, h6, h7, h8, h9⟩ := O.ex
    have pi := person_is.mp per
    refine ⟨_, pss_one (ps_ret (pe_lc (own := [("world", 2)]) (g := gName 2) (tt := tYes) (te := tOp (rIxT K) (tVar 2) (tOp (rI0 fun i j => .int (i - j)) (tVar 1) (tC (.int 1)))) rfl scOMay.nd (pi_list (pe_fld (pv 0) rfl)) (blkOk_by (N := nOMay) (sc := defScope sOMay) (by decide +kernel)) (fun _ _ _ _ _ => pg_name (i := 2) scOMay.nd rfl (Or.inl rfl)) (fun _ _ _ _ _ => pts_nil)
          (fun _ _ _ _ _ => pe_ix ix_tup (pv 2) (pe_op op_sub (pv 1) pe_int) (fun _ _ => rfl)))), ?_⟩
    refine ⟨_, rfl, o, C, dx, _, _, rfl, h1, T.cl, T.nM, oF_might _ _ _ _, m, rfl, ⟨_, SqL.of h3.at_⟩, fun D nD => lc_list (K := K) (a := m) (xs := tw.map fun x => V.ref x.1) (fun j H' => Same H H' ∧ H' D = some (.lst (nV (((wsOf tw).take j).map fun w => So01.has w i)))) ⟨Same.new nD, upd_same⟩ (fun j H' _ q => SqL.of (q.1 _ _ h3.at_)) ?_ ?_⟩
    · rintro j y H2 hj ⟨s2, hD⟩
      obtain ⟨x, hx, rfl⟩ := map_get hj
      have xm : x ∈ tw := List.mem_of_getElem? hx
      have xl : x.2.length = st.many := O.good.len _ (by rw [← h4]; exact ws_mem xm)
      have hx2 := ws_get hx
      refine ⟨rfl, iteT (B := True) ⟨_, rfl, _, rfl, _, _, rfl, rfl, x.1, nV x.2, _, _, rfl, rfl, (h3.tup x xm).same s2, has_at (by omega) (by omega), _, hD, ?_, s2.put nD, ?_⟩⟩
      · rw [nV_length, List.length_map, List.length_take, sizeLine_is]
        have := (List.getElem?_eq_some_iff.mp hx).1
        have := O.good.few
        rw [← h4, ws_len] at this
        omega
      · rw [upd_same, take_more hx2, List.map_append, nV_append]
        rfl
    · rintro H2 ⟨s2, hD⟩
      rw [List.length_map, ← ws_len, List.take_length, h4] at hD
      exact k _ D s2 nD hD
theorem ok_owor {f : Addr} {fd : FuncData} (F : Fun K "worlds" "Office.worlds" sOWor f fd) (T : TxO K mg C) (B : Blt mg) : FnOk P w K mg base CX0 1 f fd ["self"] (spOWor K C) := by
  refine F.ok scOWor (fun vs H Q E h => ?_) (fun cdv A outer s H vs Q E hr h => ?_)
  · obtain ⟨o, s, rfl, _⟩ := h
    rfl
  · obtain ⟨o, st, rfl, O, k⟩ := h
    obtain ⟨dx, t, m, l, tw, rl, h1, h2, h3, h4, h5, h6, h7, h8, h9⟩ := O.ex
    refine ⟨_, pss_one (ps_ret (pe_lst (pa_cons (pe_callB call_len_seq (by rfl) B.len PySem.boot_len (pa_cons (pe_fld (pv 0) rfl) pa_nil)) pa_nil))), ?_⟩
    refine ⟨_, rfl, o, C, dx, _, _, rfl, h1, T.cl, T.nM, oF_might _ _ _ _, m, _, rfl, .inl (SqL.of h3.at_), by show 1 ≤ sizeLine; decide, fun p np => ?_⟩
    refine k _ p (Same.new np) np ?_
    rw [upd_same, List.length_map, ← ws_len, h4]
    rfl
theorem ok_otel {f fL : Addr} {fd fdL : FuncData} (F : Fun K "would_tell" "Office.would_tell" sOTel f fd) (T : TxO K mg C) (B : Blt mg) (GL : FnOk P w K mg base CX0 1 fL fdL ["worlds", "p"] (spLea K)) (gL : mg "leaves_wide" = some (.ref fL)) (kL : PySem.W.keepIn K (.ref fL) = true) (bL : Binds K fdL ["worlds", "p"] []) :
    FnOk P w K mg base CX0 2 f fd ["self", "parts"] (spOTel K C) := by
  refine F.ok scOTel (fun vs H Q E h => ?_) (fun cdv A outer s H vs Q E hr h => ?_)
  · obtain ⟨o, d, a, s, tw, gs, rfl, _⟩ := h
    rfl
  · obtain ⟨o, d, a, st, tw, gs, rfl, O, PT, ew, l8, k⟩ := h
    obtain ⟨dx, t, m, l, tw0, rl, ho, _⟩ := O.ex
    have good := O.good
    refine ⟨_, pss_cons (ps_lock (ps_for PassesOwn.never rfl (pi_values (pv 1)) (pg_name (i := 2) scOTel.nd rfl (Or.inl rfl))
        (pss_one (ps_if (pt_not (pt_val (pe_call GL hr rfl gL kL bL .nil pass0 (pa_cons (pv 2) (pa_cons (pe_fld (pv 0) rfl) pa_nil))))) (pss_one (ps_ret pe_bl)) pss_nil))))
      (pss_one (ps_ret pe_bl)), ?_⟩
    refine ⟨d, .dK (kvOf gs), PT.at_, trivial, fun od => ?_⟩
    have odd : o ≠ d := ne_of ho PT.at_ (by intro q; cases q)
    have L : ∀ b u, H b = some u → b ≠ d → upd H d (.frz od (.dK (kvOf gs))) b = some u := fun b u e n => by rw [upd_ne n]; exact e
    have each : ∀ g ∈ gs, WsAt K (upd H d (.frz od (.dK (kvOf gs)))) g.2 (tw.filter fun x => So01.value a x.2 == g.1) := fun g gm => (PT.each g gm).pastO PT.at_ (fun _ q => by cases q) (fun _ _ q => by cases q) (fun _ q => by cases q)
    have twl : tw.length = st.might.length := by rw [← ew]; exact (List.length_map _).symm
    have mem : ∀ {x : Addr × Wd}, x ∈ tw → x.2 ∈ st.might := fun {x} hx => by
      rw [← ew]
      exact List.mem_map.mpr ⟨x, hx, rfl⟩
    let opn : Nat × Addr → Bool := fun g => So01.open_ st.many st.keep (wsOf (tw.filter fun x => So01.value a x.2 == g.1))
    have fin : ∀ {H1 : Hp}, Same (upd H d (.frz od (.dK (kvOf gs)))) H1 → Same H (upd H1 d (.dK (kvOf gs))) := fun {H1} s1 b u e => by
      by_cases c : b = d
      · rw [c, upd_same]
        rw [c, PT.at_] at e
        exact e
      · rw [upd_ne c]
        exact s1 _ _ (L b u e c)
    have te : So01.tells st.many st.keep st.might a = gs.all opn := by
      rw [tells_is (vs := gs.map (·.1)) fun v => ?_, List.all_map]
      · refine congrArg (fun f => gs.all f) (funext fun g => ?_)
        show So01.open_ st.many st.keep (st.might.filter fun w => So01.value a w == g.1) = So01.open_ st.many st.keep (wsOf (tw.filter fun x => So01.value a x.2 == g.1))
        rw [ws_filter tw fun w => So01.value a w == g.1, ew]
      · rw [PT.mem v, ← ew]
        unfold wsOf
        rw [List.map_map]
        rfl
    refine ⟨_, rfl, d, od, kvOf gs, rfl, upd_same, for_it (walk_values (d := d) (o := od) (kvs := kvOf gs)) (fun i σ H' => ∃ o2 : Option V, σ = [some (.ref o), some (.ref d), o2] ∧ Same (upd H d (.frz od (.dK (kvOf gs)))) H' ∧ ∀ g ∈ gs.take i, opn g = true) ⟨none, rfl, Same.refl _, fun g hg => (by cases hg)⟩ (fun i σ H' _ ⟨_, _, q, _⟩ => q _ _ upd_same) ?_ ?_⟩
    · rintro i x σ H1 H2 hi ⟨o2, rfl, s1, al⟩ ⟨rfl, key, hx⟩
      obtain ⟨g, hg, eg⟩ := map_get hx
      have gm : g ∈ gs := List.mem_of_getElem? hg
      obtain ⟨_, rfl⟩ := Prod.mk.inj eg
      refine ⟨_, rfl, _, rfl, o, C, dx, _, _, rfl, s1 _ _ (L o _ ho odd), T.cl, T.nP, oF_p _ _ _ _, g.2, st.keep, st.many, tw.filter (fun x => So01.value a x.2 == g.1), rfl, (each g gm).same s1, ?_, ?_, good.five, fun x hx => good.len _ (mem (List.mem_filter.mp hx).1), fun H3 s3 => ⟨_, rfl, ?_⟩⟩
      · obtain ⟨x, hx, e⟩ := List.mem_map.mp ((PT.mem g.1).mp (List.mem_map.mpr ⟨g, gm, rfl⟩))
        exact List.ne_nil_of_mem (List.mem_filter.mpr ⟨hx, by simpa using e⟩)
      · have := List.length_filter_le (fun x => So01.value a x.2 == g.1) tw
        have := good.few
        omega
      · have s4 := s1.trans s3
        cases q : So01.open_ st.many st.keep (wsOf (tw.filter fun x => So01.value a x.2 == g.1)) with
        | true =>
          refine iteF ⟨_, rfl, s4, fun g' hg' => ?_⟩
          rw [take_more hg] at hg'
          rcases List.mem_append.mp hg' with e | e
          · exact al g' e
          · rw [List.mem_singleton.mp e]
            exact q
        | false =>
          refine iteT ⟨s4 _ _ upd_same, ?_⟩
          have := k _ (fin s4)
          have no : gs.all opn = false := by
            cases z : gs.all opn with
            | false => rfl
            | true =>
              have z2 : opn g = true := List.all_eq_true.mp z g gm
              rw [show opn g = false from q] at z2
              cases z2
          rw [te, no] at this
          exact this
    · rintro σ H1 ⟨o2, rfl, s1, al⟩
      refine ⟨s1 _ _ upd_same, ?_⟩
      have hl : gs.take (kvOf gs).length = gs := by
        refine List.take_of_length_le ?_
        unfold kvOf
        rw [List.length_map]
        exact Nat.le_refl _
      rw [hl] at al
      have := k _ (fin s1)
      rw [te, List.all_eq_true.mpr al] at this
      exact this
end
end Lo
namespace Lo
open PySem PySem.Spec PyProof.Rows L2
open So01 (Ask)
/-! ### begin, __init__, found -/
abbrev sOIni : Stmt := inClass (top 19) 0
abbrev sOBeg : Stmt := inClass (top 19) 1
abbrev sOFou : Stmt := inClass (top 19) 6
theorem scOIni : FnScope ["self"] ["self"] (defScope sOIni) := ⟨rfl, rfl, rfl, by decide +kernel, rfl, by decide +kernel, by decide +kernel⟩
theorem scOBeg : FnScope ["self", "h", "p", "numbers"] ["self", "h", "p", "numbers"] (defScope sOBeg) := ⟨rfl, rfl, rfl, by decide +kernel, rfl, by decide +kernel, by decide +kernel⟩
theorem scOFou : FnScope ["self", "h", "p", "numbers"] ["self", "h", "p", "numbers"] (defScope sOFou) := ⟨rfl, rfl, rfl, by decide +kernel, rfl, by decide +kernel, by decide +kernel⟩
theorem putF_len (f : Str) (v : V) : ∀ fs : List (Str × V), (putF f v fs).length ≤ fs.length + 1
  | [] => Nat.le_refl _
  | (g, x) :: r => by
    by_cases c : g = f
    · subst c
      rw [put_here]
      exact Nat.le_succ _
    · rw [put_past c, List.length_cons, List.length_cons]
      exact Nat.succ_le_succ (putF_len f v r)
def spOBeg (K : PySem.W.Frag) (C : Addr) : Sp := fun vs H Q _ => ∃ (o dx l : Addr) (fs : List (Str × V)) (h p : Nat) (row : List Nat), vs = [.ref o, .int (h : Int), .int (p : Int), .ref l] ∧ H o = some (.ins C dx fs) ∧ (fs = [] ∨ ∃ p0 t0 m0 l0, fs = oF p0 t0 m0 l0) ∧
  SqL K H l (nV row) ∧ h ≤ 5 ∧ Good (So01.found h p row) ∧ ∀ H' : Hp, (∀ A : Addr → Prop, (∀ b, A b → H b ≠ none ∧ b ≠ o) → Off K C A H' o (So01.found h p row)) → But o H H' → Q .non H'
def spOFou (K : PySem.W.Frag) (C : Addr) : Sp := fun vs H Q _ => ∃ (A : Addr → Prop) (o l : Addr) (s : So01.St) (h p : Nat) (row : List Nat), vs = [.ref o, .int (h : Int), .int (p : Int), .ref l] ∧ Off K C A H o s ∧ (∀ b, A b → H b ≠ none) ∧ SqL K H l (nV row) ∧ Ret K C A o s (.found h p row) H Q
def wrongF (h p : Nat) (w : Wd) : Prop := w.isEmpty = true ∨ 5 < w.length ∨ h = 0 ∨ 5 < h ∨ p = 0 ∨ h < p ∨ w.all (fun v => decide (v ≤ h)) = false
theorem found_bad {s : So01.St} {h p : Nat} {row : Wd} (b : wrongF h p row) : So01.step s (.found h p row) = (s, [-1]) := if_pos b
theorem found_ok {s : So01.St} {h p : Nat} {row : Wd} (b : ¬ wrongF h p row) : So01.step s (.found h p row) = (So01.found h p row, So01.ints [(So01.found h p row).might.length]) := if_neg b
section
variable {P : Program} {w : World} {K : PySem.W.Frag} {mg : Str → Option Value} {base : Heap} {C : Addr}
theorem ok_obeg {f fW : Addr} {fd fdW : FuncData} (F : Fun K "begin" "Office.begin" sOBeg f fd) (T : TxO K mg C) (B : Blt mg) (GW : FnOk P w K mg base CX0 1 fW fdW ["size", "h"] (spAll K)) (gW : mg "all_worlds" = some (.ref fW)) (kW : PySem.W.keepIn K (.ref fW) = true) (bW : Binds K fdW ["size", "h"] []) :
    FnOk P w K mg base CX0 2 f fd ["self", "h", "p", "numbers"] (spOBeg K C) := by
  refine F.ok scOBeg (fun vs H Q E h => ?_) (fun cdv A outer s H vs Q E hr h => ?_)
  · obtain ⟨o, dx, l, fs, h, p, row, rfl, _⟩ := h
    rfl
  · obtain ⟨o, dx, l, fs, h, p, row, rfl, ho, hfs, hl, h5, good, k⟩ := h
    refine ⟨_, pss_cons (ps_fld (pv 0) (pv 2) rfl)
      (pss_cons (ps_fld (pv 0) (pe_callTy call_tuple_of (by rfl) B.tuple (by decide +kernel) (pa_cons (pv 3) pa_nil)) rfl)
      (pss_cons (ps_fld (pv 0) (pe_call GW hr rfl gW kW bW .nil pass0 (pa_cons (pe_callB call_len_seq (by rfl) B.len PySem.boot_len (pa_cons (pv 3) pa_nil)) (pa_cons (pv 1) pa_nil))) rfl)
      (pss_one (ps_fld (pv 0) (pe_lst pa_nil) rfl)))), ?_⟩
    have few : fs.length ≤ 4 := by
      rcases hfs with e | ⟨_, _, _, _, e⟩
      · rw [e]
        exact Nat.zero_le _
      · rw [e]
        exact Nat.le_refl _
    have f1 := putF_len "p" (.int (p : Int)) fs
    refine ⟨_, rfl, _, rfl, o, C, dx, fs, rfl, ho, T.cl, T.nP, by omega, ?_⟩
    have l1 : SqL K (upd H o (.ins C dx (putF "p" (.int (p : Int)) fs))) l (nV row) := hl.pastI ho
    have b1 : But o H (upd H o (.ins C dx (putF "p" (.int (p : Int)) fs))) := But.put
    refine ⟨_, rfl, l, nV row, rfl, .inl ⟨l1, fun t nt => ?_⟩⟩
    have ot := ne_of_none (upd_same (H := H) (a := o) (o := .ins C dx (putF "p" (.int (p : Int)) fs))) nt
    have f2 := putF_len "truth" (.ref t) (putF "p" (.int (p : Int)) fs)
    refine ⟨_, rfl, o, C, dx, _, rfl, Eq.trans (upd_ne ot) upd_same, T.cl, T.nT, by omega, ?_⟩
    generalize hH2 : upd (upd (upd H o (.ins C dx (putF "p" (.int (p : Int)) fs))) t (.tup (nV row))) o (.ins C dx (putF "truth" (.ref t) (putF "p" (.int (p : Int)) fs))) = H2
    have o2 : H2 o = some (.ins C dx (putF "truth" (.ref t) (putF "p" (.int (p : Int)) fs))) := by rw [← hH2]; exact upd_same
    have t2 : H2 t = some (.tup (nV row)) := by rw [← hH2, upd_ne ot.symm]; exact upd_same
    have b2 : But o H H2 := by rw [← hH2]; exact (b1.trans (But.of (Same.new nt))).trans But.put
    have l2 : SqL K H2 l (nV row) := b2.seqL ho hl
    have t0 : H t = none := b1.free nt ot.symm
    refine ⟨_, rfl, l, _, rfl, .inl l2, _, rfl, (nV row).length, h, rfl, by rw [nV_length]; exact good.five, h5, fun H3 m tw s3 nm W3 fr3 ew => ?_⟩
    rw [nV_length] at ew
    have f3 := putF_len "might_be" (.ref m) (putF "truth" (.ref t) (putF "p" (.int (p : Int)) fs))
    have o3 := s3 _ _ o2
    refine ⟨_, rfl, o, C, dx, _, rfl, o3, T.cl, T.nM, by omega, ?_⟩
    have om : o ≠ m := ne_of_none o2 nm
    have m0 : H m = none := b2.free nm om.symm
    have b3 : But o H H3 := b2.trans (But.of s3)
    refine ⟨Nat.zero_le _, fun l' nl => ?_⟩
    have ol := ne_of_none (upd_same (H := H3) (a := o) (o := .ins C dx (putF "might_be" (.ref m) (putF "truth" (.ref t) (putF "p" (.int (p : Int)) fs))))) nl
    refine ⟨_, rfl, o, C, dx, _, rfl, Eq.trans (upd_ne ol) upd_same, T.cl, T.nL, by omega, ?_⟩
    have ef : putF "told" (.ref l') (putF "might_be" (.ref m) (putF "truth" (.ref t) (putF "p" (.int (p : Int)) fs))) = oF p t m l' := by
      rcases hfs with e | ⟨p0, t0, m0, l0, e⟩
      · rw [e, oF_new]
      · rw [e, oF_anew]
    rw [ef]
    have b4 : But o H (upd H3 o (.ins C dx (putF "might_be" (.ref m) (putF "truth" (.ref t) (putF "p" (.int (p : Int)) fs))))) := b3.trans But.put
    have l0 : H l' = none := b4.free nl ol.symm
    -- what stands in H3 at another place than o stands at the end
    have up : ∀ b u, H3 b = some u → b ≠ o → upd (upd (upd H3 o (.ins C dx (putF "might_be" (.ref m) (putF "truth" (.ref t) (putF "p" (.int (p : Int)) fs))))) l' (.lst [])) o (.ins C dx (oF p t m l')) b = some u := fun b u e n => by
      have e4 : upd H3 o (.ins C dx (putF "might_be" (.ref m) (putF "truth" (.ref t) (putF "p" (.int (p : Int)) fs)))) b = some u := Eq.trans (upd_ne n) e
      rw [upd_ne n, upd_ne (ne_of_none e4 nl)]
      exact e4
    refine k _ (fun A hA => ?_) (fun b u e n => up b u (b3 b u e n) n)
    have no : ¬ A o := fun z => (hA o z).2 rfl
    have fresh : ∀ {b : Addr}, H b = none → ¬ A b := fun {b} e z => (hA b z).1 e
    refine ⟨good, dx, t, m, l', tw, [], ?_, ?_, ⟨?_, fun x hx => ?_⟩, ?_, ?_, rfl, fun x hx => (by cases hx), ?_, fun x hx => (by cases hx)⟩
    · rw [cut_out no]
      exact upd_same
    · refine SqT.of ?_
      rw [cut_out (fresh t0)]
      exact up _ _ (s3 _ _ t2) ot.symm
    · rw [cut_out (fresh m0)]
      exact up _ _ W3.at_ om.symm
    · have x2 := fr3 x hx
      have xo : x.1 ≠ o := (ne_of_none o2 x2).symm
      refine (W3.tup x hx).keep fun u e => ?_
      rw [cut_out (fresh (b2.free x2 xo))]
      exact up _ _ e xo
    · exact ew
    · rw [cut_out (fresh l0), upd_ne ol.symm]
      exact upd_same
    · exact ne_of_none (Eq.trans (upd_ne om.symm) W3.at_) nl
theorem ok_oini {f fB : Addr} {fd fdB : FuncData} (F : Fun K "__init__" "Office.__init__" sOIni f fd) (T : TxO K mg C) (GB : FnOk P w K mg base CX0 2 fB fdB ["self", "h", "p", "numbers"] (spOBeg K C)) (bB : Binds K fdB ["self", "h", "p", "numbers"] []) (mB : Meth K C "begin" fB) :
    FnOk P w K mg base CX0 3 f fd ["self"] (spOIni (Off K C) C) := by
  refine F.ok scOIni (fun vs H Q E h => ?_) (fun cdv A outer s H vs Q E hr h => ?_)
  · obtain ⟨o, dx, rfl, _⟩ := h
    rfl
  · obtain ⟨o, dx, rfl, ho, k⟩ := h
    refine ⟨_, pss_one (ps_expr (pe_meth (pv 0) T.cl mB GB hr bB .nil pass0 (pa_cons pe_int (pa_cons pe_int (pa_cons (pe_lst (pa_cons pe_int pa_nil)) pa_nil))))), ?_⟩
    refine ⟨_, rfl, o, dx, [], rfl, ho, rfl, by show 1 ≤ sizeLine; decide, fun l nl => ?_⟩
    refine ⟨o, dx, l, [], 1, 1, [0], rfl, Eq.trans (upd_ne (ne_of_none ho nl)) ho, .inl rfl, SqL.of upd_same, by decide, good_init, fun H1 off B1 => ?_⟩
    refine k H1 (fun G hG => off G fun b hb => ⟨?_, (hG b hb).2⟩) ((But.of (Same.new nl)).trans B1)
    cases q : H b with
    | none => exact absurd q (hG b hb).1
    | some u =>
      rw [upd_ne (ne_of_none q nl), q]
      exact fun z => by cases z
theorem ok_ofou {f fB fW : Addr} {fd fdB fdW : FuncData} (F : Fun K "found" "Office.found" sOFou f fd) (T : TxO K mg C) (B : Blt mg) (N : Cst mg) (GB : FnOk P w K mg base CX0 2 fB fdB ["self", "h", "p", "numbers"] (spOBeg K C)) (bB : Binds K fdB ["self", "h", "p", "numbers"] []) (mB : Meth K C "begin" fB)
    (GW : FnOk P w K mg base CX0 1 fW fdW ["self"] (spOWor K C)) (bW : Binds K fdW ["self"] []) (mW : Meth K C "worlds" fW) : FnOk P w K mg base CX0 3 f fd ["self", "h", "p", "numbers"] (spOFou K C) := by
  obtain ⟨tw, gw⟩ := N.wrong
  obtain ⟨tp, gp⟩ := N.people
  obtain ⟨th, gh⟩ := N.high
  refine F.ok scOFou (fun vs H Q E h => ?_) (fun cdv A outer s H vs Q E hr h => ?_)
  · obtain ⟨A, o, l, s, h, p, row, rfl, _⟩ := h
    rfl
  · obtain ⟨A, o, l, st, h, p, row, rfl, O, hA, hl, r⟩ := h
    refine ⟨_, pss_cons (ps_if (PW.pt (pw_or (pt_cmpR op_lt (pe_callB call_len_seq (by rfl) B.len PySem.boot_len (pa_cons (pv 3) pa_nil)) pe_int (nomark _)) (pw_or1 (pt_cmpR op_gt (pe_callB call_len_seq (by rfl) B.len PySem.boot_len (pa_cons (pv 3) pa_nil)) (pe_num gp rfl) (nomark _))))) (pss_one (ps_ret (pe_lst (pa_cons (pe_num gw rfl) pa_nil)))) pss_nil)
      (pss_cons (ps_if (PW.pt (pw_or (pt_cmpR op_lt (pv 1) pe_int (nomark _)) (pw_or (pt_cmpR op_gt (pv 1) (pe_num gh rfl) (nomark _)) (pw_or (pt_cmpR op_lt (pv 2) pe_int (nomark _)) (pw_or (pt_cmpR op_gt (pv 2) (pv 1) (nomark _)) (pw_or1 (pt_cmpR op_gt (pe_callB (cr_max rfl) (by rfl) B.max (by decide +kernel) (pa_cons (pv 3) pa_nil)) (pv 1) (nomark _)))))))) (pss_one (ps_ret (pe_lst (pa_cons (pe_num gw rfl) pa_nil)))) pss_nil)
      (pss_cons (ps_expr (pe_meth (pv 0) T.cl mB GB hr bB .nil pass0 (pa_cons (pv 1) (pa_cons (pv 2) (pa_cons (pv 3) pa_nil)))))
      (pss_one (ps_ret (pe_meth0 (pv 0) T.cl mW GW (hr.mono (by decide)) bW .nil pass0))))), ?_⟩
    have bad : wrongF h p row → 1 ≤ sizeLine ∧ ∀ q, H q = none → Q (.ref q) (upd H q (.lst [V.int (-1)])) := fun b => ⟨by decide, fun q nq => r.read O hA (by rw [found_bad b]) (Same.new nq) nq upd_same (by rw [found_bad b]; rfl)⟩
    refine ⟨_, rfl, l, _, rfl, .inl hl, _, _, rfl, rfl, _, rfl, ?_⟩
    by_cases c1 : (((nV row).length : Nat) : Int) < 1
    · rw [decide_eq_true c1]
      rw [nV_length] at c1
      refine iteT (iteT (bad (.inl ?_)))
      rw [List.isEmpty_iff]
      exact List.length_eq_zero_iff.mp (by omega)
    rw [decide_eq_false c1]
    refine iteF ⟨_, rfl, l, _, rfl, .inl hl, _, _, rfl, rfl, _, rfl, ?_⟩
    by_cases c2 : (5 : Int) < (((nV row).length : Nat) : Int)
    · rw [decide_eq_true c2]
      rw [nV_length] at c2
      exact iteT (bad (.inr (.inl (by omega))))
    rw [decide_eq_false c2]
    rw [nV_length] at c1 c2
    refine iteF ⟨_, rfl, _, _, rfl, rfl, _, rfl, ?_⟩
    by_cases c3 : (h : Int) < 1
    · rw [decide_eq_true c3]
      exact iteT (iteT (bad (.inr (.inr (.inl (by omega))))))
    rw [decide_eq_false c3]
    refine iteF ⟨_, rfl, _, _, rfl, rfl, _, rfl, ?_⟩
    by_cases c4 : (5 : Int) < (h : Int)
    · rw [decide_eq_true c4]
      exact iteT (iteT (bad (.inr (.inr (.inr (.inl (by omega)))))))
    rw [decide_eq_false c4]
    refine iteF ⟨_, rfl, _, _, rfl, rfl, _, rfl, ?_⟩
    by_cases c5 : (p : Int) < 1
    · rw [decide_eq_true c5]
      exact iteT (iteT (bad (.inr (.inr (.inr (.inr (.inl (by omega))))))))
    rw [decide_eq_false c5]
    refine iteF ⟨_, rfl, _, rfl, _, _, rfl, rfl, _, rfl, ?_⟩
    by_cases c6 : (h : Int) < (p : Int)
    · rw [decide_eq_true c6]
      exact iteT (iteT (bad (.inr (.inr (.inr (.inr (.inr (.inl (by omega)))))))))
    rw [decide_eq_false c6]
    have hl2 := hl
    rw [nV_ints] at hl2
    refine iteF ⟨_, rfl, l, _, rfl, hl2, by rw [List.length_map]; omega, fun M hM hMx => ?_⟩
    obtain ⟨M, hM2, rfl⟩ := List.mem_map.mp hM
    have hMx2 : ∀ x ∈ row, x ≤ M := fun x hx => by
      have h : (x : Int) ≤ (M : Int) := hMx x (List.mem_map.mpr ⟨x, hx, rfl⟩)
      omega
    refine ⟨_, rfl, _, _, rfl, rfl, _, rfl, ?_⟩
    by_cases c7 : (h : Int) < (M : Int)
    · rw [decide_eq_true c7]
      refine iteT (bad (.inr (.inr (.inr (.inr (.inr (.inr ?_)))))))
      cases q : row.all fun v => decide (v ≤ h) with
      | false => rfl
      | true =>
        have := of_decide_eq_true (List.all_eq_true.mp q M hM2)
        omega
    rw [decide_eq_false c7]
    have low : ∀ x ∈ row, x ≤ h := fun x hx => by
      have := hMx2 x hx
      omega
    have ok : ¬ wrongF h p row := by
      rintro (e | e | e | e | e | e | e)
      · rw [List.isEmpty_iff] at e
        rw [e] at c1
        exact c1 (by decide)
      · omega
      · omega
      · omega
      · omega
      · omega
      · rw [List.all_eq_true.mpr fun x hx => decide_eq_true (low x hx)] at e
        cases e
    have ne : row ≠ [] := fun e => by
      rw [e] at c1
      exact c1 (by decide)
    obtain ⟨dx, t, m, l0, tw0, rl, h1, _⟩ := O.at_.ex
    refine iteF ⟨_, rfl, o, dx, _, rfl, h1, oF_begin _ _ _ _, _, rfl, _, rfl, _, rfl, o, dx, l, _, h, p, row, rfl, h1, .inr ⟨_, _, _, _, rfl⟩, hl, by omega, good_found ne (by omega) (by omega) low, fun H1 off B1 => ?_⟩
    have noA : ¬ A o := (off_ok K C).apart O
    have O1 := off A fun b hb => ⟨hA b hb, fun e => noA (by rw [← e]; exact hb)⟩
    obtain ⟨dx1, t1, m1, l1, tw1, rl1, g1, _⟩ := O1.at_.ex
    refine ⟨_, rfl, o, dx1, _, rfl, g1, oF_worlds _ _ _ _, o, _, rfl, O1.at_, fun H2 q s2 nq hq => ?_⟩
    have oq := ne_of_none g1 nq
    refine r H2 q (B1.free nq oq.symm) ?_ ?_ fun b hb => ?_
    · rw [found_ok ok]
      exact hq
    · rw [found_ok ok]
      exact O1.same s2
    · cases z : H b with
      | none => exact absurd z (hA b hb)
      | some u => exact s2 _ _ (B1 _ _ z fun e => noA (by rw [← e]; exact hb))
end
end Lo
namespace Lo
open PySem PySem.Spec PyProof.Rows L2
open So01 (Ask)
/-! ### ask -/
abbrev sOAsk : Stmt := inClass (top 19) 7
def nOAsk : List Str := ["self", "question", "parts", "answer"]
theorem scOAsk : FnScope nOAsk ["self", "question"] (defScope sOAsk) := ⟨rfl, rfl, rfl, by decide +kernel, rfl, by decide +kernel, by decide +kernel⟩
theorem qF_wrong (a : Ask) (l : Addr) : (qF a l).lookup ("is_wrong" : Str) = none := qF_no (by decide +kernel) (by decide +kernel) (by decide +kernel) a l
theorem qF_parts (a : Ask) (l : Addr) : (qF a l).lookup ("parts" : Str) = none := qF_no (by decide +kernel) (by decide +kernel) (by decide +kernel) a l
theorem qF_row (a : Ask) (l : Addr) : (qF a l).lookup ("as_row" : Str) = none := qF_no (by decide +kernel) (by decide +kernel) (by decide +kernel) a l
theorem qF_p (a : Ask) (l : Addr) : (qF a l).lookup ("p" : Str) = none := qF_no (by decide +kernel) (by decide +kernel) (by decide +kernel) a l
def spOAsk (K : PySem.W.Frag) (C CQ : Addr) : Sp := fun vs H Q _ => ∃ (A : Addr → Prop) (o q : Addr) (s : So01.St) (a : Ask), vs = [.ref o, .ref q] ∧ Off K C A H o s ∧ (∀ b, A b → H b ≠ none) ∧ QAt K CQ H q a ∧ a.who.length ≤ 8 ∧ Ret K C A o s (.ask a.what a.t a.who) H Q
theorem fine_is (s : So01.St) (a : Ask) : fine s.many a = So01.isAsk s a.what a.t a.who := (isAsk_is s a.what a.t a.who).symm
theorem fine_all {n : Nat} {a : Ask} (h : fine n a = true) : okFrom n 0 a.who = true ∧ a.who ≠ [] := by
  unfold fine at h
  rw [Bool.and_eq_true, Bool.and_eq_true, Bool.and_eq_true] at h
  refine ⟨h.2.2.2, fun e => ?_⟩
  have := h.2.2.1
  rw [e] at this
  cases this
theorem kv_mem {gs : List (Nat × Addr)} {v : Nat} (h : v ∈ gs.map (·.1)) : ∃ g ∈ gs, g.1 = v ∧ valV (kvOf gs) (Sum.inl (v : Int)) = some (.ref g.2) := by
  cases e : valV (kvOf gs) (Sum.inl (v : Int)) with
  | none => exact absurd h (kv_none e)
  | some u =>
    obtain ⟨g, h1, h2, rfl⟩ := kv_some e
    exact ⟨g, h1, h2, rfl⟩
theorem seqT_but {K : PySem.W.Frag} {o l C dx a : Addr} {H H1 : Hp} {fs : List (Str × V)} {xs ys : List V} (h : SqT K H a xs) (b : ∀ b u, H b = some u → b ≠ o → b ≠ l → H1 b = some u) (ho : H o = some (.ins C dx fs)) (hl : H l = some (.lst ys)) : SqT K H1 a xs := by
  rcases h with (h | ⟨z, h⟩) | h
  · exact .inl (.inl (b _ _ h (ne_of h ho (by intro q; cases q)) (ne_of h hl (by intro q; cases q))))
  · exact .inl (.inr ⟨z, b _ _ h (ne_of h ho (by intro q; cases q)) (ne_of h hl (by intro q; cases q))⟩)
  · exact .inr h
theorem ask_bad {s : So01.St} {a : Ask} (h : So01.isAsk s a.what a.t a.who = false) : So01.step s (.ask a.what a.t a.who) = (s, [-1]) := if_pos h
theorem ask_away {s : So01.St} {a : Ask} (h : So01.isAsk s a.what a.t a.who = true) (h2 : So01.tells s.many s.keep s.might a = false) : So01.step s (.ask a.what a.t a.who) = (s, [-6]) := by
  refine (if_neg (by rw [h]; exact Bool.noConfusion)).trans (if_pos h2)
theorem ask_many {s : So01.St} {a : Ask} (h : So01.isAsk s a.what a.t a.who = true) (h2 : So01.tells s.many s.keep s.might a = true) (h3 : 20 ≤ s.told.length) : So01.step s (.ask a.what a.t a.who) = (s, [-5]) := by
  refine (if_neg (by rw [h]; exact Bool.noConfusion)).trans ((if_neg ?_).trans (if_pos h3))
  show ¬ So01.tells s.many s.keep s.might a = false
  rw [h2]
  exact Bool.noConfusion
theorem ask_ok {s : So01.St} {a : Ask} (h : So01.isAsk s a.what a.t a.who = true) (h2 : So01.tells s.many s.keep s.might a = true) (h3 : ¬ 20 ≤ s.told.length) : So01.step s (.ask a.what a.t a.who) = (So01.ask s a, So01.ints [So01.value a s.real, (So01.ask s a).might.length]) := by
  refine (if_neg (by rw [h]; exact Bool.noConfusion)).trans ((if_neg ?_).trans (if_neg h3))
  show ¬ So01.tells s.many s.keep s.might a = false
  rw [h2]
  exact Bool.noConfusion
section
variable {P : Program} {w : World} {K : PySem.W.Frag} {mg : Str → Option Value} {base : Heap} {C CQ : Addr}
theorem ok_oask {f fS fW fP fT fA fR : Addr} {fd fdS fdW fdP fdT fdA fdR : FuncData} (F : Fun K "ask" "Office.ask" sOAsk f fd) (T : TxO K mg C) (TQ : TxQ K mg CQ) (B : Blt mg) (N : Cst mg)
    (GS : FnOk P w K mg base CX0 1 fS fdS ["self"] (spOSiz K C)) (bS : Binds K fdS ["self"] []) (mS : Meth K C "size" fS)
    (GW : FnOk P w K mg base CX0 1 fW fdW ["self", "size"] (spQWro K CQ)) (bW : Binds K fdW ["self", "size"] []) (mW : Meth K CQ "is_wrong" fW)
    (GP : FnOk P w K mg base CX0 2 fP fdP ["self", "worlds"] (spQPar K CQ)) (bP : Binds K fdP ["self", "worlds"] []) (mP : Meth K CQ "parts" fP)
    (GT : FnOk P w K mg base CX0 2 fT fdT ["self", "parts"] (spOTel K C)) (bT : Binds K fdT ["self", "parts"] []) (mT : Meth K C "would_tell" fT)
    (GA : FnOk P w K mg base CX0 1 fA fdA ["self", "world"] (spQAns K CQ)) (bA : Binds K fdA ["self", "world"] []) (mA : Meth K CQ "answer_in" fA)
    (GR : FnOk P w K mg base CX0 1 fR fdR ["self"] (spQRow K CQ)) (bR : Binds K fdR ["self"] []) (mR : Meth K CQ "as_row" fR) : FnOk P w K mg base CX0 3 f fd ["self", "question"] (spOAsk K C CQ) := by
  obtain ⟨t1, g1⟩ := N.wrong
  obtain ⟨t5, g5⟩ := N.enough
  obtain ⟨t6, g6⟩ := N.gives
  obtain ⟨t20, g20⟩ := N.told
  refine F.ok scOAsk (fun vs H Q E h => ?_) (fun cdv A outer s H vs Q E hr h => ?_)
  · obtain ⟨A, o, q, s, a, rfl, _⟩ := h
    rfl
  · obtain ⟨A, o, q, st, a, rfl, O, hA, QA, l8, r⟩ := h
    have hr1 := hr.mono (show 1 ≤ 2 by decide)
    refine ⟨_, pss_cons (ps_if (pt_val (pe_meth (pv 1) TQ.cl mW GW hr1 bW .nil pass0 (pa_cons (pe_meth0 (pv 0) T.cl mS GS hr1 bS .nil pass0) pa_nil))) (pss_one (ps_ret (pe_lst (pa_cons (pe_num g1 rfl) pa_nil)))) pss_nil)
      (pss_cons (ps_set (i := 2) scOAsk.nd rfl (Or.inl rfl) (pe_meth (pv 1) TQ.cl mP GP hr bP .nil pass0 (pa_cons (pe_fld (pv 0) rfl) pa_nil)))
      (pss_cons (ps_if (pt_not (pt_val (pe_meth (pv 0) T.cl mT GT hr bT .nil pass0 (pa_cons (pv 2) pa_nil)))) (pss_one (ps_ret (pe_lst (pa_cons (pe_num g6 rfl) pa_nil)))) pss_nil)
      (pss_cons (ps_if (pt_cmpR op_eq (pe_callB call_len_seq (by rfl) B.len PySem.boot_len (pa_cons (pe_fld (pv 0) rfl) pa_nil)) (pe_num g20 rfl) (nomark _)) (pss_one (ps_ret (pe_lst (pa_cons (pe_num g5 rfl) pa_nil)))) pss_nil)
      (pss_cons (ps_set (i := 3) scOAsk.nd rfl (Or.inl rfl) (pe_meth (pv 1) TQ.cl mA GA hr1 bA .nil pass0 (pa_cons (pe_fld (pv 0) rfl) pa_nil)))
      (pss_cons (ps_fld (pv 0) (pe_dget (hu_of hr) (pv 2) (pv 3) (fun _ _ => rfl)) rfl)
      (pss_cons (ps_expr (pe_bm PySem.F.plainAttrs_list PySem.F.slot_list_append PySem.F.type_list_append mt_append (pe_fld (pv 0) rfl) (pa_cons (pe_op op_cat (pe_meth0 (pv 1) TQ.cl mR GR hr1 bR .nil pass0) (pe_lst (pa_cons (pv 3) pa_nil))) pa_nil)))
      (pss_one (ps_ret (pe_lst (pa_cons (pv 3) (pa_cons (pe_callB call_len_seq (by rfl) B.len PySem.boot_len (pa_cons (pe_fld (pv 0) rfl) pa_nil)) pa_nil))))))))))), ?_⟩
    have O1 := O.at_
    have good := O1.good
    obtain ⟨dx, t, m, l, tw, rl, c1, c2, c3, c4, c5, c6, c7, c8, c9⟩ := O.ex
    have h1 := cut_same _ _ c1
    obtain ⟨noA, _⟩ := cut_some c1
    obtain ⟨nlA, hl⟩ := cut_some c5
    obtain ⟨dxq, lq, hq, hlq⟩ := QA.ex
    have qo : q ≠ o := ne_of hq h1 (by
      intro z
      have z2 := congrArg (List.lookup ("p" : Str)) (HO.ins.inj z).2.2
      rw [qF_p, oF_p] at z2
      cases z2)
    have few : tw.length ≤ 7776 := by
      have := good.few
      rw [← c4, ws_len] at this
      exact this
    -- question.is_wrong(self.size())
    refine ⟨_, rfl, q, dxq, _, rfl, hq, qF_wrong a lq, _, rfl, o, dx, _, rfl, h1, oF_size _ _ _ _, o, st, rfl, O1, q, st.many, a, rfl, QA, _, rfl, ?_⟩
    rw [fine_is]
    cases ia : So01.isAsk st a.what a.t a.who with
    | false => exact iteT ⟨by decide, fun p np => r.read O hA (by rw [ask_bad ia]) (Same.new np) np upd_same (by rw [ask_bad ia]; rfl)⟩
    | true =>
    have fa := fine_all (n := st.many) (a := a) (by rw [fine_is]; exact ia)
    -- parts = question.parts(self.might_be)
    refine iteF ⟨_, rfl, q, dxq, _, rfl, hq, qF_parts a lq, _, rfl, o, C, dx, _, _, rfl, h1, T.cl, T.nM, oF_might _ _ _ _, q, m, a, st.many, tw, rfl, QA, c3.same cut_same, few, fun x hx => good.len _ (by rw [← c4]; exact ws_mem hx), fa.1, fa.2, l8, fun H1 d gs s1 nd PT fr => ?_⟩
    -- self.would_tell(parts)
    refine ⟨_, rfl, o, dx, _, rfl, s1 _ _ h1, oF_tell _ _ _ _, _, rfl, o, d, a, st, tw, gs, rfl, O1.same s1, PT, c4, l8, fun H2 s2 => ⟨_, rfl, ?_⟩⟩
    have s12 := s1.trans s2
    cases tl : So01.tells st.many st.keep st.might a with
    | false => exact iteT ⟨by decide, fun p np => r.read O hA (by rw [ask_away ia tl]) (s12.trans (Same.new np)) (s12.free np) upd_same (by rw [ask_away ia tl]; rfl)⟩
    | true =>
    -- len(self.told) == MOST_TOLD
    refine iteF ⟨_, rfl, o, C, dx, _, _, rfl, s12 _ _ h1, T.cl, T.nL, oF_told _ _ _ _, l, _, rfl, .inl (SqL.of (s12 _ _ hl)), rfl, _, rfl, ?_⟩
    have tlen : (rl.map fun x => V.ref x.1).length = st.told.length := by rw [← c6, List.length_map, List.length_map]
    rw [tlen]
    by_cases c20 : st.told.length = 20
    · rw [decide_eq_true (show V.int ((st.told.length : Nat) : Int) = V.int 20 by rw [c20]; rfl)]
      have ge : 20 ≤ st.told.length := by omega
      exact iteT ⟨by decide, fun p np => r.read O hA (by rw [ask_many ia tl ge]) (s12.trans (Same.new np)) (s12.free np) upd_same (by rw [ask_many ia tl ge]; rfl)⟩
    rw [decide_eq_false (show ¬ V.int ((st.told.length : Nat) : Int) = V.int 20 from fun z => c20 (by have := V.int.inj z; omega))]
    have lt : ¬ 20 ≤ st.told.length := by
      have := good.told
      omega
    have eA := ask_ok ia tl lt
    -- answer = question.answer_in(self.truth)
    refine iteF ⟨_, rfl, q, dxq, _, rfl, s12 _ _ hq, qF_answer a lq, _, rfl, o, C, dx, _, _, rfl, s12 _ _ h1, T.cl, T.nT, oF_truth _ _ _ _, q, t, a, st.real, rfl, QA.same s12, (c2.same cut_same).same s12, by rw [← good.many]; exact fa.1, fa.2, l8, fun H3 s3 => ?_⟩
    have s13 := s12.trans s3
    have vm : So01.value a st.real ∈ gs.map (·.1) := (PT.mem _).mpr (by
      have := good.real
      rw [← c4] at this
      obtain ⟨x, hx, e⟩ := List.mem_map.mp this
      exact List.mem_map.mpr ⟨x, hx, by rw [e]⟩)
    obtain ⟨g, gm, ge, gv⟩ := kv_mem vm
    have PT3 := (PT.same s2).same s3
    have dg : DGet H3 d (.int (So01.value a st.real : Nat)) (some (.ref g.2)) := by
      have := DGet.k (k := Sum.inl ((So01.value a st.real : Nat) : Int)) PT3.at_
      rw [gv] at this
      exact this
    -- self.might_be = parts[answer]
    refine ⟨_, rfl, _, rfl, d, .ref g.2, rfl, dg, _, rfl, o, C, dx, _, rfl, s13 _ _ h1, T.cl, T.nM, (by show 4 < 1000; decide), ?_⟩
    rw [oF_putM]
    have h13 := s13 _ _ h1
    have Wg := PT3.each g gm
    have g0 : H g.2 = none := fr g gm
    have ol : l ≠ o := ne_of hl h1 (by intro z; cases z)
    have og : g.2 ≠ o := ne_of Wg.at_ h13 (by intro z; cases z)
    have lg : g.2 ≠ l := (ne_of_none hl g0).symm
    generalize hH4 : upd H3 o (.ins C dx (oF st.keep t g.2 l)) = H4
    have b4 : ∀ b u, H3 b = some u → b ≠ o → H4 b = some u := fun b u e n => by rw [← hH4, upd_ne n]; exact e
    have o4 : H4 o = some (.ins C dx (oF st.keep t g.2 l)) := by rw [← hH4]; exact upd_same
    have l4 : H4 l = some (.lst (rl.map fun x => V.ref x.1)) := b4 _ _ (s13 _ _ hl) ol
    have q4 : H4 q = some (.ins CQ dxq (qF a lq)) := b4 _ _ (s13 _ _ hq) qo
    have QA4 : QAt K CQ H4 q a := ⟨dxq, lq, q4, b4 _ _ (s13 _ _ hlq) (ne_of hlq h1 (by intro z; cases z))⟩
    -- self.told.append(question.as_row() + [answer])
    refine ⟨_, rfl, o, C, dx, _, _, rfl, o4, T.cl, T.nL, oF_told _ _ _ _, .inl ⟨rfl, _, SqL.of l4⟩, _, rfl, q, dxq, _, rfl, q4, qF_row a lq, q, a, rfl, QA4, l8, fun H5 u s5 nu hu => ?_⟩
    refine ⟨_, rfl, by show 1 ≤ sizeLine; decide, fun z nz => ?_⟩
    have uz := ne_of_none hu nz
    refine ⟨u, z, _, _, rfl, rfl, Eq.trans (upd_ne uz) hu, upd_same, ?_, fun y ny => ?_⟩
    · show (iV (qRow a)).length + 1 ≤ sizeLine
      unfold qRow So01.rowOf So01.ints
      simp only [iV_length, List.length_append, List.length_map, List.length_cons, List.length_nil, sizeLine_is]
      omega
    generalize hH7 : upd (upd H5 z (.lst [V.int (So01.value a st.real : Nat)])) y (.lst (iV (qRow a) ++ [V.int (So01.value a st.real : Nat)])) = H7
    have s57 : Same H5 H7 := by rw [← hH7]; exact (Same.new nz).trans (Same.new ny)
    have s47 : Same H4 H7 := s5.trans s57
    have y7 : H7 y = some (.lst (iV (qRow a) ++ [V.int (So01.value a st.real : Nat)])) := by rw [← hH7]; exact upd_same
    have y4 : H4 y = none := (s5.trans (Same.new nz)).free ny
    have yo : y ≠ o := (ne_of_none o4 y4).symm
    have yl : y ≠ l := (ne_of_none l4 y4).symm
    have l7 := s47 _ _ l4
    refine ⟨l, _, _, rfl, rfl, l7, ?_, ?_⟩
    · rw [tlen, sizeLine_is]
      omega
    generalize hH8 : upd H7 l (.lst ((rl.map fun x => V.ref x.1) ++ [.ref y])) = H8
    have b8 : ∀ b u, H7 b = some u → b ≠ l → H8 b = some u := fun b u e n => by rw [← hH8, upd_ne n]; exact e
    have o8 : H8 o = some (.ins C dx (oF st.keep t g.2 l)) := b8 _ _ (s47 _ _ o4) ol.symm
    have g8 : H8 g.2 = some (.lst ((tw.filter fun x => So01.value a x.2 == g.1).map fun x => V.ref x.1)) := b8 _ _ (s47 _ _ (b4 _ _ Wg.at_ og)) lg
    -- return [answer, len(self.might_be)]
    refine ⟨_, rfl, _, rfl, o, C, dx, _, _, rfl, o8, T.cl, T.nM, oF_might _ _ _ _, g.2, _, rfl, .inl (SqL.of g8), by show 2 ≤ sizeLine; decide, fun p np => ?_⟩
    have up : ∀ b v, H b = some v → b ≠ o → b ≠ l → H8 b = some v := fun b v e n1 n2 => b8 _ _ (s47 _ _ (b4 _ _ (s13 _ _ e) n1)) n2
    have ev : wsOf (tw.filter fun x => So01.value a x.2 == g.1) = (So01.ask st a).might := by
      rw [ws_filter tw fun w => So01.value a w == g.1, c4, ge]
      rfl
    have el : ((tw.filter fun x => So01.value a x.2 == g.1).map fun x => V.ref x.1).length = (So01.ask st a).might.length := by rw [List.length_map, ← ws_len, ev]
    rw [el]
    have new9 : ∀ {u : HO} b v, H8 b = some v → upd H8 p u b = some v := fun {u} b v e => Same.new np b v e
    have p0 : H p = none := by
      cases z : H p with
      | none => rfl
      | some v =>
        by_cases e1 : p = o
        · rw [e1, o8] at np
          cases np
        · by_cases e2 : p = l
          · rw [e2, ← hH8, upd_same] at np
            cases np
          · rw [up p v z e1 e2] at np
            cases np
    refine r _ p p0 ?_ ?_ fun b hb => ?_
    · rw [upd_same, eA]
      rfl
    · rw [eA]
      have fresh : ∀ {b : Addr}, H b = none → ¬ A b := fun {b} e z => hA b z e
      have y0 : H y = none := by
        cases z : H y with
        | none => rfl
        | some v =>
          rw [b4 y v (s13 _ _ z) yo] at y4
          cases y4
      have kp : ∀ {vv : HO} b v, cut A H b = some v → b ≠ o → b ≠ l → cut A (upd H8 p vv) b = some v := fun {vv} b v e n1 n2 => by
        obtain ⟨na, e2⟩ := cut_some e
        rw [cut_out na]
        exact new9 _ _ (up _ _ e2 n1 n2)
      refine ⟨good_ask good (by omega) l8, dx, t, g.2, l, tw.filter (fun x => So01.value a x.2 == g.1), rl ++ [(y, (a, So01.value a st.real))], ?_, seqT_but c2 kp c1 c5, ⟨?_, fun x hx => seqT_but (c3.tup x (List.mem_filter.mp hx).1) kp c1 c5⟩, ev, ?_, ?_, ?_, lg, ?_⟩
      · rw [cut_out noA]
        exact new9 _ _ o8
      · rw [cut_out (fresh g0)]
        exact new9 _ _ g8
      · rw [cut_out nlA, List.map_append]
        refine new9 _ _ ?_
        rw [← hH8, upd_same]
        rfl
      · rw [List.map_append, c6]
        rfl
      · intro x hx
        rcases List.mem_append.mp hx with e | e
        · exact kp _ _ (c7 x e) (ne_of (c7 x e) c1 (by intro z; cases z)) (c9 x e)
        · rw [List.mem_singleton.mp e, cut_out (fresh y0)]
          refine new9 _ _ (b8 _ _ ?_ yl)
          rw [y7]
          unfold tRow qRow
          rw [← List.append_assoc, iV_append (So01.ints [a.what, a.t] ++ So01.rowOf a.who)]
          rfl
      · intro x hx
        rcases List.mem_append.mp hx with e | e
        · exact c9 x e
        · rw [List.mem_singleton.mp e]
          exact yl
    · cases z : H b with
      | none => exact absurd z (hA b hb)
      | some v => exact new9 _ _ (up _ _ z (fun e => noA (by rw [← e]; exact hb)) (fun e => nlA (by rw [← e]; exact hb)))
end
end Lo
namespace Lo
open PySem PySem.Spec PyProof.Rows L2
open So01 (Ask)
/-! ### would, range_of, guess, chance, log -/
abbrev sOWou : Stmt := inClass (top 19) 8
abbrev sORan : Stmt := inClass (top 19) 9
abbrev sOGue : Stmt := inClass (top 19) 11
abbrev sOCha : Stmt := inClass (top 19) 13
abbrev sOLog : Stmt := inClass (top 19) 14
def nOWou : List Str := ["self", "question", "parts"]
theorem scOWou : FnScope nOWou ["self", "question"] (defScope sOWou) := ⟨rfl, rfl, rfl, by decide +kernel, rfl, by decide +kernel, by decide +kernel⟩
theorem scORan : FnScope ["self", "i"] ["self", "i"] (defScope sORan) := ⟨rfl, rfl, rfl, by decide +kernel, rfl, by decide +kernel, by decide +kernel⟩
def nOGue : List Str := ["self", "i", "had", "number"]
theorem scOGue : FnScope nOGue ["self", "i"] (defScope sOGue) := ⟨rfl, rfl, rfl, by decide +kernel, rfl, by decide +kernel, by decide +kernel⟩
def nOCha : List Str := ["self", "question", "v", "given", "world"]
theorem scOCha : FnScope nOCha ["self", "question", "v"] (defScope sOCha) := ⟨rfl, rfl, rfl, by decide +kernel, rfl, by decide +kernel, by decide +kernel⟩
theorem scOLog : FnScope ["self"] ["self"] (defScope sOLog) := ⟨rfl, rfl, rfl, by decide +kernel, rfl, by decide +kernel, by decide +kernel⟩
def spOWou (K : PySem.W.Frag) (C CQ : Addr) : Sp := fun vs H Q _ => ∃ (A : Addr → Prop) (o q : Addr) (s : So01.St) (a : Ask), vs = [.ref o, .ref q] ∧ Off K C A H o s ∧ (∀ b, A b → H b ≠ none) ∧ QAt K CQ H q a ∧ a.who.length ≤ 8 ∧ Ret K C A o s (.would a.what a.t a.who) H Q
def spORan (K : PySem.W.Frag) (C : Addr) : Sp := fun vs H Q _ => ∃ (A : Addr → Prop) (o : Addr) (s : So01.St) (i : Nat), vs = [.ref o, .int (i : Int)] ∧ Off K C A H o s ∧ (∀ b, A b → H b ≠ none) ∧ Ret K C A o s (.range i) H Q
def spOGue (K : PySem.W.Frag) (C : Addr) : Sp := fun vs H Q _ => ∃ (A : Addr → Prop) (o : Addr) (s : So01.St) (i : Nat), vs = [.ref o, .int (i : Int)] ∧ Off K C A H o s ∧ (∀ b, A b → H b ≠ none) ∧ Ret K C A o s (.guess i) H Q
def spOCha (K : PySem.W.Frag) (C CQ : Addr) : Sp := fun vs H Q _ => ∃ (A : Addr → Prop) (o q : Addr) (s : So01.St) (a : Ask) (v : Nat), vs = [.ref o, .ref q, .int (v : Int)] ∧ Off K C A H o s ∧ (∀ b, A b → H b ≠ none) ∧ QAt K CQ H q a ∧ a.who.length ≤ 8 ∧ Ret K C A o s (.chance a.what a.t v a.who) H Q
def spOLog (K : PySem.W.Frag) (C : Addr) : Sp := fun vs H Q _ => ∃ (A : Addr → Prop) (o : Addr) (s : So01.St), vs = [.ref o] ∧ Off K C A H o s ∧ (∀ b, A b → H b ≠ none) ∧ Ret K C A o s .log H Q
theorem range_bad {s : So01.St} {i : Nat} (h : So01.isPerson s i = false) : (So01.step s (.range i)).2 = [-1] := if_pos h
theorem range_ok {s : So01.St} {i : Nat} (h : So01.isPerson s i = true) : (So01.step s (.range i)).2 = So01.rowOf (So01.mayHave s.might i) := if_neg (by rw [h]; exact Bool.noConfusion)
theorem guess_bad {s : So01.St} {i : Nat} (h : So01.isPerson s i = false) : (So01.step s (.guess i)).2 = [-1] := if_pos h
theorem guess_ok {s : So01.St} {i : Nat} (h : So01.isPerson s i = true) : (So01.step s (.guess i)).2 = So01.ints [(So01.guess s i).1] ++ So01.part (So01.guess s i).2 s.might.length := if_neg (by rw [h]; exact Bool.noConfusion)
theorem would_bad {s : So01.St} {a : Ask} (h : So01.isAsk s a.what a.t a.who = false) : (So01.step s (.would a.what a.t a.who)).2 = [-1] := if_pos h
theorem would_ok {s : So01.St} {a : Ask} (h : So01.isAsk s a.what a.t a.who = true) : (So01.step s (.would a.what a.t a.who)).2 = So01.ints [if So01.tells s.many s.keep s.might a = true then 1 else 0] ++ So01.rowOf (So01.answers a s.might) := if_neg (by rw [h]; exact Bool.noConfusion)
theorem chance_bad {s : So01.St} {a : Ask} {v : Nat} (h : So01.isAsk s a.what a.t a.who = false) : (So01.step s (.chance a.what a.t v a.who)).2 = [-1] := if_pos h
theorem chance_ok {s : So01.St} {a : Ask} {v : Nat} (h : So01.isAsk s a.what a.t a.who = true) : (So01.step s (.chance a.what a.t v a.who)).2 = So01.part (s.might.filter fun w => So01.value a w == v).length s.might.length := if_neg (by rw [h]; exact Bool.noConfusion)
theorem setOf_same {l r : List Nat} (h : ∀ x, x ∈ l ↔ x ∈ r) : So01.setOf l = So01.setOf r := rises_one (setOf_rises l) (setOf_rises r) fun x => by rw [mem_setOf, mem_setOf, h x]
theorem count_values (a : Ask) (v : Nat) (ws : List Wd) : (ws.map (So01.value a)).count v = (ws.filter fun w => So01.value a w == v).length := by
  rw [List.count, List.countP_map, List.countP_eq_length_filter]
  rfl
theorem kv_keys (gs : List (Nat × Addr)) : (kvOf gs).map (fun kv => kV kv.1) = nV (gs.map (·.1)) := by
  unfold kvOf nV
  rw [List.map_map, List.map_map]
  rfl
section
variable {P : Program} {w : World} {K : PySem.W.Frag} {mg : Str → Option Value} {base : Heap} {C CQ : Addr}
theorem ok_oran {f fH fM fD : Addr} {fd fdH fdM fdD : FuncData} (F : Fun K "range_of" "Office.range_of" sORan f fd) (T : TxO K mg C) (B : Blt mg) (N : Cst mg)
    (GH : FnOk P w K mg base CX0 2 fH fdH ["self", "i"] (spOHas K C)) (bH : Binds K fdH ["self", "i"] []) (mH : Meth K C "has_person" fH)
    (GM : FnOk P w K mg base CX0 1 fM fdM ["self", "i"] (spOMay K C)) (bM : Binds K fdM ["self", "i"] []) (mM : Meth K C "might_have" fM)
    (GD : FnOk P w K mg base CX0 1 fD fdD ["numbers"] (spDif K)) (gD : mg "different" = some (.ref fD)) (kD : PySem.W.keepIn K (.ref fD) = true) (bD : Binds K fdD ["numbers"] []) : FnOk P w K mg base CX0 3 f fd ["self", "i"] (spORan K C) := by
  obtain ⟨t1, g1⟩ := N.wrong
  refine F.ok scORan (fun vs H Q E h => ?_) (fun cdv A outer s H vs Q E hr h => ?_)
  · obtain ⟨A, o, s, i, rfl, _⟩ := h
    rfl
  · obtain ⟨A, o, st, i, rfl, O, hA, r⟩ := h
    have hr1 := hr.mono (show 1 ≤ 2 by decide)
    refine ⟨_, pss_cons (ps_if (pt_not (pt_val (pe_meth (pv 0) T.cl mH GH hr bH .nil pass0 (pa_cons (pv 1) pa_nil)))) (pss_one (ps_ret (pe_lst (pa_cons (pe_num g1 rfl) pa_nil)))) pss_nil)
      (pss_one (ps_ret (pe_call GD hr1 rfl gD kD bD .nil pass0 (pa_cons (pe_meth (pv 0) T.cl mM GM hr1 bM .nil pass0 (pa_cons (pv 1) pa_nil)) pa_nil)))), ?_⟩
    have O1 := O.at_
    have good := O1.good
    obtain ⟨dx, t, m, l, tw, rl, h1, _⟩ := O1.ex
    refine ⟨_, rfl, o, dx, _, rfl, h1, oF_has _ _ _ _, _, rfl, o, st, i, rfl, O1, _, rfl, ?_⟩
    cases per : So01.isPerson st i with
    | false => exact iteT ⟨by decide, fun p np => r.read O hA rfl (Same.new np) np upd_same (by rw [range_bad per]; rfl)⟩
    | true =>
    refine iteF ⟨_, rfl, o, dx, _, rfl, h1, oF_may _ _ _ _, _, rfl, o, st, i, rfl, O1, per, fun H1 p s1 np hp => ⟨p, _, rfl, SqL.of hp, fun x hx => ?_, fun H2 u s2 nu hu => r.read O hA rfl (s1.trans s2) (s1.free nu) hu (by rw [range_ok per]; rfl)⟩⟩
    obtain ⟨w, hw, rfl⟩ := List.mem_map.mp hx
    exact Nat.lt_of_le_of_lt (has_low (good.low w hw) i) (by decide)
theorem ok_ogue {f fH fM fD fL : Addr} {fd fdH fdM fdD fdL : FuncData} (F : Fun K "guess" "Office.guess" sOGue f fd) (T : TxO K mg C) (B : Blt mg) (N : Cst mg)
    (GH : FnOk P w K mg base CX0 2 fH fdH ["self", "i"] (spOHas K C)) (bH : Binds K fdH ["self", "i"] []) (mH : Meth K C "has_person" fH)
    (GM : FnOk P w K mg base CX0 1 fM fdM ["self", "i"] (spOMay K C)) (bM : Binds K fdM ["self", "i"] []) (mM : Meth K C "might_have" fM)
    (GD : FnOk P w K mg base CX0 1 fD fdD ["numbers"] (spMof K)) (gD : mg "most_frequent" = some (.ref fD)) (kD : PySem.W.keepIn K (.ref fD) = true) (bD : Binds K fdD ["numbers"] [])
    (GL : FnOk P w K mg base CX0 1 fL fdL ["above", "below"] (spLow K)) (gL : mg "lowest_terms" = some (.ref fL)) (kL : PySem.W.keepIn K (.ref fL) = true) (bL : Binds K fdL ["above", "below"] []) : FnOk P w K mg base CX0 3 f fd ["self", "i"] (spOGue K C) := by
  obtain ⟨t1, g1⟩ := N.wrong
  refine F.ok scOGue (fun vs H Q E h => ?_) (fun cdv A outer s H vs Q E hr h => ?_)
  · obtain ⟨A, o, s, i, rfl, _⟩ := h
    rfl
  · obtain ⟨A, o, st, i, rfl, O, hA, r⟩ := h
    have hr1 := hr.mono (show 1 ≤ 2 by decide)
    refine ⟨_, pss_cons (ps_if (pt_not (pt_val (pe_meth (pv 0) T.cl mH GH hr bH .nil pass0 (pa_cons (pv 1) pa_nil)))) (pss_one (ps_ret (pe_lst (pa_cons (pe_num g1 rfl) pa_nil)))) pss_nil)
      (pss_cons (ps_set (i := 2) scOGue.nd rfl (Or.inl rfl) (pe_meth (pv 0) T.cl mM GM hr1 bM .nil pass0 (pa_cons (pv 1) pa_nil)))
      (pss_cons (ps_set (i := 3) scOGue.nd rfl (Or.inl rfl) (pe_call GD hr1 rfl gD kD bD .nil pass0 (pa_cons (pv 2) pa_nil)))
      (pss_one (ps_ret (pe_op op_cat (pe_lst (pa_cons (pv 3) pa_nil)) (pe_call GL hr1 rfl gL kL bL .nil pass0 (pa_cons (pe_bm PySem.F.plainAttrs_list PySem.F.slot_list_count PySem.F.type_list_count mt_lcount (pv 2) (pa_cons (pv 3) pa_nil)) (pa_cons (pe_callB call_len_seq (by rfl) B.len PySem.boot_len (pa_cons (pv 2) pa_nil)) pa_nil)))))))), ?_⟩
    have O1 := O.at_
    have good := O1.good
    obtain ⟨dx, t, m, l, tw, rl, h1, _⟩ := O1.ex
    refine ⟨_, rfl, o, dx, _, rfl, h1, oF_has _ _ _ _, _, rfl, o, st, i, rfl, O1, _, rfl, ?_⟩
    cases per : So01.isPerson st i with
    | false => exact iteT ⟨by decide, fun p np => r.read O hA rfl (Same.new np) np upd_same (by rw [guess_bad per]; rfl)⟩
    | true =>
    have ne : (st.might.map fun w => So01.has w i) ≠ [] := List.ne_nil_of_mem (List.mem_map.mpr ⟨_, good.real, rfl⟩)
    refine iteF ⟨_, rfl, o, dx, _, rfl, h1, oF_may _ _ _ _, _, rfl, o, st, i, rfl, O1, per, fun H1 p s1 np hp => ?_⟩
    refine ⟨_, rfl, p, _, rfl, SqL.of hp, ne, fun x hx => ?_, fun H2 s2 => ?_⟩
    · obtain ⟨w, hw, rfl⟩ := List.mem_map.mp hx
      exact Nat.lt_of_le_of_lt (has_low (good.low w hw) i) (by decide)
    have hp2 := s2 _ _ hp
    refine ⟨_, rfl, by show 1 ≤ sizeLine; decide, fun u nu => ?_⟩
    have hp3 := Same.new (o := .lst [V.int ((picks (st.might.map fun w => So01.has w i) (So01.setOf (st.might.map fun w => So01.has w i))).1 : Nat)]) nu _ _ hp2
    have hp4 := hp3
    rw [nV_ints] at hp4
    refine ⟨_, rfl, .inl ⟨rfl, _, SqL.of hp3⟩, _, rfl, p, _, _, rfl, rfl, SqL.of hp4, _, rfl, p, _, rfl, .inl (SqL.of hp3), _, _, rfl, ?_, ?_, ?_, fun H4 z s4 nz hz => ?_⟩
    · rw [nV_length]
      exact List.length_pos_iff.mpr ne
    · refine Nat.le_trans List.count_le_length ?_
      rw [List.length_map, List.length_map]
      exact good.few
    · rw [nV_length, List.length_map]
      exact good.few
    have hu4 := s4 _ _ (upd_same (H := H2) (a := u) (o := .lst [V.int ((picks (st.might.map fun w => So01.has w i) (So01.setOf (st.might.map fun w => So01.has w i))).1 : Nat)]))
    refine ⟨u, z, _, _, rfl, rfl, hu4, hz, ?_, fun y ny => ?_⟩
    · show 1 + 2 ≤ sizeLine
      decide
    have s14 : Same H H4 := (((s1.trans s2).trans (Same.new nu)).trans s4)
    refine r.read O hA rfl (s14.trans (Same.new ny)) (s14.free ny) upd_same ?_
    rw [guess_ok per, guess_is, count_ints]
    have e2 := picks_is ne
    show _ = iV (So01.ints [(picks (st.might.map fun w => So01.has w i) (So01.setOf (st.might.map fun w => So01.has w i))).1] ++ So01.part (picks (st.might.map fun w => So01.has w i) (So01.setOf (st.might.map fun w => So01.has w i))).2 st.might.length)
    rw [e2, iV_append, nV_length, List.length_map]
    rfl
theorem ok_owou {f fS fW fP fT fD : Addr} {fd fdS fdW fdP fdT fdD : FuncData} (F : Fun K "would" "Office.would" sOWou f fd) (T : TxO K mg C) (TQ : TxQ K mg CQ) (B : Blt mg) (N : Cst mg)
    (GS : FnOk P w K mg base CX0 1 fS fdS ["self"] (spOSiz K C)) (bS : Binds K fdS ["self"] []) (mS : Meth K C "size" fS)
    (GW : FnOk P w K mg base CX0 1 fW fdW ["self", "size"] (spQWro K CQ)) (bW : Binds K fdW ["self", "size"] []) (mW : Meth K CQ "is_wrong" fW)
    (GP : FnOk P w K mg base CX0 2 fP fdP ["self", "worlds"] (spQPar K CQ)) (bP : Binds K fdP ["self", "worlds"] []) (mP : Meth K CQ "parts" fP)
    (GT : FnOk P w K mg base CX0 2 fT fdT ["self", "parts"] (spOTel K C)) (bT : Binds K fdT ["self", "parts"] []) (mT : Meth K C "would_tell" fT)
    (GD : FnOk P w K mg base CX0 1 fD fdD ["numbers"] (spDif K)) (gD : mg "different" = some (.ref fD)) (kD : PySem.W.keepIn K (.ref fD) = true) (bD : Binds K fdD ["numbers"] []) : FnOk P w K mg base CX0 3 f fd ["self", "question"] (spOWou K C CQ) := by
  obtain ⟨t1, g1⟩ := N.wrong
  refine F.ok scOWou (fun vs H Q E h => ?_) (fun cdv A outer s H vs Q E hr h => ?_)
  · obtain ⟨A, o, q, s, a, rfl, _⟩ := h
    rfl
  · obtain ⟨A, o, q, st, a, rfl, O, hA, QA, l8, r⟩ := h
    have hr1 := hr.mono (show 1 ≤ 2 by decide)
    refine ⟨_, pss_cons (ps_if (pt_val (pe_meth (pv 1) TQ.cl mW GW hr1 bW .nil pass0 (pa_cons (pe_meth0 (pv 0) T.cl mS GS hr1 bS .nil pass0) pa_nil))) (pss_one (ps_ret (pe_lst (pa_cons (pe_num g1 rfl) pa_nil)))) pss_nil)
      (pss_cons (ps_set (i := 2) scOWou.nd rfl (Or.inl rfl) (pe_meth (pv 1) TQ.cl mP GP hr bP .nil pass0 (pa_cons (pe_fld (pv 0) rfl) pa_nil)))
      (pss_one (ps_ret (pe_op op_cat (pe_lst (pa_cons (pe_ifExp (pt_val (pe_meth (pv 0) T.cl mT GT hr bT .nil pass0 (pa_cons (pv 2) pa_nil))) pe_int pe_int) pa_nil)) (pe_call GD hr1 rfl gD kD bD .nil pass0 (pa_cons (pe_callTy (call_list_dK rfl) (by rfl) B.list (by decide +kernel) (pa_cons (pv 2) pa_nil)) pa_nil)))))), ?_⟩
    have O1 := O.at_
    have good := O1.good
    obtain ⟨dx, t, m, l, tw, rl, h1, h2, h3, h4, _⟩ := O1.ex
    obtain ⟨dxq, lq, hq, hlq⟩ := QA.ex
    have few : tw.length ≤ 7776 := by
      have := good.few
      rw [← h4, ws_len] at this
      exact this
    refine ⟨_, rfl, q, dxq, _, rfl, hq, qF_wrong a lq, _, rfl, o, dx, _, rfl, h1, oF_size _ _ _ _, o, st, rfl, O1, q, st.many, a, rfl, QA, _, rfl, ?_⟩
    rw [fine_is]
    cases ia : So01.isAsk st a.what a.t a.who with
    | false => exact iteT ⟨by decide, fun p np => r.read O hA rfl (Same.new np) np upd_same (by rw [would_bad ia]; rfl)⟩
    | true =>
    have fa := fine_all (n := st.many) (a := a) (by rw [fine_is]; exact ia)
    refine iteF ⟨_, rfl, q, dxq, _, rfl, hq, qF_parts a lq, _, rfl, o, C, dx, _, _, rfl, h1, T.cl, T.nM, oF_might _ _ _ _, q, m, a, st.many, tw, rfl, QA, h3, few, fun x hx => good.len _ (by rw [← h4]; exact ws_mem hx), fa.1, fa.2, l8, fun H1 d gs s1 nd PT fr => ?_⟩
    refine ⟨_, rfl, o, dx, _, rfl, s1 _ _ h1, oF_tell _ _ _ _, _, rfl, o, d, a, st, tw, gs, rfl, O1.same s1, PT, h4, l8, fun H2 s2 => ⟨_, rfl, ?_⟩⟩
    have s12 := s1.trans s2
    have low : ∀ x ∈ gs.map (·.1), x < 63 := fun v hv => by
      obtain ⟨x, hx, rfl⟩ := List.mem_map.mp ((PT.mem v).mp hv)
      exact Nat.lt_of_le_of_lt (value_low (good.low _ (by rw [← h4]; exact ws_mem hx)) l8) (by decide)
    have keys : So01.setOf (gs.map (·.1)) = So01.answers a st.might := by
      unfold So01.answers
      refine setOf_same fun v => ?_
      rw [PT.mem v, ← h4]
      unfold wsOf
      rw [List.map_map]
      rfl
    have fin : ∀ (n : Nat) (u : Addr), n = (if So01.tells st.many st.keep st.might a = true then 1 else 0) → H2 u = none → ∀ (z : Addr), upd H2 u (.lst [V.int (n : Int)]) z = none → ∀ (H4 : Hp) (y : Addr), Same (upd (upd H2 u (.lst [V.int (n : Int)])) z (.lst (nV (gs.map (·.1))))) H4 → H4 y = some (.lst (iV (So01.rowOf (So01.setOf (gs.map (·.1)))))) → 
        H4 u = some (.lst [V.int (n : Int)]) ∧ [V.int (n : Int)].length + (iV (So01.rowOf (So01.setOf (gs.map (·.1))))).length ≤ sizeLine ∧ ∀ b, H4 b = none → Q (.ref b) (upd H4 b (.lst ([V.int (n : Int)] ++ iV (So01.rowOf (So01.setOf (gs.map (·.1))))))) := fun n u en nu z nz H4 y s4 hy => by
      refine ⟨s4 _ _ (Eq.trans (upd_ne (ne_of_none upd_same nz)) upd_same), ?_, fun b nb => ?_⟩
      · have f63 := few_nats 63 _ (List.Pairwise.imp (fun {a b} h => Nat.ne_of_lt h) (setOf_rises (gs.map (·.1)))) fun x hx => low x (mem_setOf.mp hx)
        unfold So01.rowOf So01.ints
        simp only [iV_length, List.length_map, List.length_cons, List.length_nil, sizeLine_is]
        omega
      · have sH : Same H H4 := ((s12.trans (Same.new nu)).trans (Same.new nz)).trans s4
        refine r.read O hA rfl (sH.trans (Same.new nb)) (sH.free nb) upd_same ?_
        rw [would_ok ia, ← en, iV_append, keys]
        rfl
    have PT2 := PT.same s2
    cases tl : So01.tells st.many st.keep st.might a with
    | true =>
      refine iteT ⟨by show 1 ≤ sizeLine; decide, fun u nu => ?_⟩
      refine ⟨_, rfl, d, _, rfl, Same.new nu _ _ PT2.at_, fun z nz => ?_⟩
      rw [kv_keys]
      refine ⟨z, _, rfl, SqL.of upd_same, low, fun H4 y s4 ny hy => ?_⟩
      obtain ⟨f1, f2, f3⟩ := fin 1 u (by rw [tl]; rfl) nu z nz H4 y s4 hy
      exact ⟨u, y, _, _, rfl, rfl, f1, hy, f2, f3⟩
    | false =>
      refine iteF ⟨by show 1 ≤ sizeLine; decide, fun u nu => ?_⟩
      refine ⟨_, rfl, d, _, rfl, Same.new nu _ _ PT2.at_, fun z nz => ?_⟩
      rw [kv_keys]
      refine ⟨z, _, rfl, SqL.of upd_same, low, fun H4 y s4 ny hy => ?_⟩
      obtain ⟨f1, f2, f3⟩ := fin 0 u (by rw [tl]; rfl) nu z nz H4 y s4 hy
      exact ⟨u, y, _, _, rfl, rfl, f1, hy, f2, f3⟩
theorem ok_ocha {f fS fW fA fL : Addr} {fd fdS fdW fdA fdL : FuncData} (F : Fun K "chance" "Office.chance" sOCha f fd) (T : TxO K mg C) (TQ : TxQ K mg CQ) (B : Blt mg) (N : Cst mg)
    (GS : FnOk P w K mg base CX0 1 fS fdS ["self"] (spOSiz K C)) (bS : Binds K fdS ["self"] []) (mS : Meth K C "size" fS)
    (GW : FnOk P w K mg base CX0 1 fW fdW ["self", "size"] (spQWro K CQ)) (bW : Binds K fdW ["self", "size"] []) (mW : Meth K CQ "is_wrong" fW)
    (GA : FnOk P w K mg base CX0 1 fA fdA ["self", "world"] (spQAns K CQ)) (bA : Binds K fdA ["self", "world"] []) (mA : Meth K CQ "answer_in" fA)
    (GL : FnOk P w K mg base CX0 1 fL fdL ["above", "below"] (spLow K)) (gL : mg "lowest_terms" = some (.ref fL)) (kL : PySem.W.keepIn K (.ref fL) = true) (bL : Binds K fdL ["above", "below"] []) : FnOk P w K mg base CX0 3 f fd ["self", "question", "v"] (spOCha K C CQ) := by
  obtain ⟨t1, g1⟩ := N.wrong
  refine F.ok scOCha (fun vs H Q E h => ?_) (fun cdv A outer s H vs Q E hr h => ?_)
  · obtain ⟨A, o, q, s, a, v, rfl, _⟩ := h
    rfl
  · obtain ⟨A, o, q, st, a, v, rfl, O, hA, QA, l8, r⟩ := h
    have hr1 := hr.mono (show 1 ≤ 2 by decide)
    refine ⟨_, pss_cons (ps_if (pt_val (pe_meth (pv 1) TQ.cl mW GW hr1 bW .nil pass0 (pa_cons (pe_meth0 (pv 0) T.cl mS GS hr1 bS .nil pass0) pa_nil))) (pss_one (ps_ret (pe_lst (pa_cons (pe_num g1 rfl) pa_nil)))) pss_nil)
      (pss_cons (ps_setLc (i := 3) (own := [("world", 4)]) (g := gName 4) (tt := tYes) (te := tMeth CQ "answer_in" (spQAns K CQ) [] E0 (tVar 1) (tCons (tVar 4) tNil)) rfl scOCha.nd rfl rfl (sw_true rfl rfl rfl (by decide +kernel)) (pi_list (pe_fld (pv 0) rfl)) (blkOk_by (N := nOCha) (sc := defScope sOCha) (by decide +kernel)) (fun _ _ _ _ _ => pg_name (i := 4) scOCha.nd rfl (Or.inl rfl)) (fun _ _ _ _ _ => pts_nil)
          (fun _ _ _ _ _ => pe_meth (pv 1) TQ.cl mA GA hr1 bA .nil pass0 (pa_cons (pv 4) pa_nil)))
      (pss_one (ps_ret (pe_call GL hr1 rfl gL kL bL .nil pass0 (pa_cons (pe_bm PySem.F.plainAttrs_list PySem.F.slot_list_count PySem.F.type_list_count mt_lcount (pv 3) (pa_cons (pv 2) pa_nil)) (pa_cons (pe_callB call_len_seq (by rfl) B.len PySem.boot_len (pa_cons (pv 3) pa_nil)) pa_nil)))))), ?_⟩
    have O1 := O.at_
    have good := O1.good
    obtain ⟨dx, t, m, l, tw, rl, h1, h2, h3, h4, _⟩ := O1.ex
    obtain ⟨dxq, lq, hq, hlq⟩ := QA.ex
    have few : tw.length ≤ 7776 := by
      have := good.few
      rw [← h4, ws_len] at this
      exact this
    refine ⟨_, rfl, q, dxq, _, rfl, hq, qF_wrong a lq, _, rfl, o, dx, _, rfl, h1, oF_size _ _ _ _, o, st, rfl, O1, q, st.many, a, rfl, QA, _, rfl, ?_⟩
    rw [fine_is]
    cases ia : So01.isAsk st a.what a.t a.who with
    | false => exact iteT ⟨by decide, fun p np => r.read O hA rfl (Same.new np) np upd_same (by rw [chance_bad ia]; rfl)⟩
    | true =>
    have fa := fine_all (n := st.many) (a := a) (by rw [fine_is]; exact ia)
    refine iteF ⟨_, rfl, o, C, dx, _, _, rfl, h1, T.cl, T.nM, oF_might _ _ _ _, m, rfl, ⟨_, SqL.of h3.at_⟩, fun D nD => lc_list (K := K) (a := m) (xs := tw.map fun x => V.ref x.1) (fun j H' => Same H H' ∧ H' D = some (.lst (nV (((wsOf tw).take j).map (So01.value a))))) ⟨Same.new nD, upd_same⟩ (fun j H' _ z => SqL.of (z.1 _ _ h3.at_)) ?_ ?_⟩
    · rintro j y H2 hj ⟨s2, hD⟩
      obtain ⟨x, hx, rfl⟩ := map_get hj
      have xm : x ∈ tw := List.mem_of_getElem? hx
      have xl : x.2.length = st.many := good.len _ (by rw [← h4]; exact ws_mem xm)
      have hx2 := ws_get hx
      refine ⟨rfl, iteT (B := True) ⟨_, rfl, q, dxq, _, rfl, s2 _ _ hq, qF_answer a lq, _, rfl, q, x.1, a, x.2, rfl, QA.same s2, (h3.tup x xm).same s2, by rw [xl]; exact fa.1, fa.2, l8, fun H3 s3 => ⟨_, s3 _ _ hD, ?_, (s2.trans s3).put nD, ?_⟩⟩⟩
      · rw [nV_length, List.length_map, List.length_take, sizeLine_is]
        have := (List.getElem?_eq_some_iff.mp hx).1
        omega
      · rw [upd_same, take_more hx2, List.map_append, nV_append]
        rfl
    · rintro H2 ⟨s2, hD⟩
      rw [List.length_map, ← ws_len, List.take_length, h4] at hD
      have hD2 := hD
      rw [nV_ints] at hD2
      have ne : st.might ≠ [] := List.ne_nil_of_mem good.real
      refine ⟨_, rfl, .inl ⟨rfl, _, SqL.of hD⟩, _, rfl, D, _, _, rfl, rfl, SqL.of hD2, _, rfl, D, _, rfl, .inl (SqL.of hD), _, _, rfl, ?_, ?_, ?_, fun H4 z s4 nz hz => ?_⟩
      · rw [nV_length, List.length_map]
        exact List.length_pos_iff.mpr ne
      · refine Nat.le_trans List.count_le_length ?_
        rw [List.length_map, List.length_map]
        exact good.few
      · rw [nV_length, List.length_map]
        exact good.few
      · refine r.read O hA rfl (s2.trans s4) (s2.free nz) hz ?_
        rw [chance_ok ia, count_ints, count_values, nV_length, List.length_map]
theorem ok_olog {f fC : Addr} {fd fdC : FuncData} (F : Fun K "log" "Office.log" sOLog f fd) (T : TxO K mg C) (B : Blt mg)
    (GC : FnOk P w K mg base CX0 1 fC fdC ["rows"] (spCou K)) (gC : mg "counted" = some (.ref fC)) (kC : PySem.W.keepIn K (.ref fC) = true) (bC : Binds K fdC ["rows"] []) : FnOk P w K mg base CX0 3 f fd ["self"] (spOLog K C) := by
  refine F.ok scOLog (fun vs H Q E h => ?_) (fun cdv A outer s H vs Q E hr h => ?_)
  · obtain ⟨A, o, s, rfl, _⟩ := h
    rfl
  · obtain ⟨A, o, st, rfl, O, hA, r⟩ := h
    have hr1 := hr.mono (show 1 ≤ 2 by decide)
    refine ⟨_, pss_one (ps_ret (pe_call GC hr1 rfl gC kC bC .nil pass0 (pa_cons (pe_fld (pv 0) rfl) pa_nil))), ?_⟩
    have O1 := O.at_
    have good := O1.good
    obtain ⟨dx, t, m, l, tw, rl, h1, h2, h3, h4, h5, h6, h7, _⟩ := O1.ex
    have er : (rl.map fun x => V.ref x.1) = (rl.map fun x => (x.1, tRow x.2)).map fun x => V.ref x.1 := by
      rw [List.map_map]
      rfl
    have ef : flat (rl.map fun x => (x.1, tRow x.2)) = st.told.flatMap tRow := by
      unfold flat
      rw [← h6, List.flatMap_map, List.flatMap_map]
    have el : (rl.map fun x => (x.1, tRow x.2)).length = st.told.length := by rw [← h6, List.length_map, List.length_map]
    refine ⟨_, rfl, o, C, dx, _, _, rfl, h1, T.cl, T.nL, oF_told _ _ _ _, l, rl.map fun x => (x.1, tRow x.2), rfl, ?_, fun x hx => ?_, ?_, fun H1 p s1 np hp => ?_⟩
    · rw [← er]
      exact SqL.of h5
    · obtain ⟨y, hy, rfl⟩ := List.mem_map.mp hx
      exact .inl (h7 y hy)
    · rw [ef]
      have gen : ∀ L : List (Ask × Nat), (∀ x ∈ L, x.1.who.length ≤ 8) → (L.flatMap tRow).length ≤ 12 * L.length := by
        intro L hL
        induction L with
        | nil => exact Nat.le_refl _
        | cons a L ih =>
          have h8 := hL a (by simp)
          have := ih fun x hx => hL x (List.mem_cons_of_mem _ hx)
          rw [List.flatMap_cons, List.length_append]
          unfold tRow So01.rowOf So01.ints at *
          simp only [List.length_append, List.length_map, List.length_cons, List.length_nil] at *
          omega
      have g1 := gen st.told good.tells
      have g2 := good.told
      omega
    · refine r.read O hA rfl s1 np hp ?_
      rw [ef, el]
      rfl
end
end Lo
namespace Lo
open PySem PySem.Spec PyProof.Rows L2
open So01 (Ask)
/-! ### both -/
abbrev sOBot : Stmt := inClass (top 19) 12
def nOBot : List Str := ["self", "i", "j", "world"]
theorem scOBot : FnScope nOBot ["self", "i", "j"] (defScope sOBot) := ⟨rfl, rfl, rfl, by decide +kernel, rfl, by decide +kernel, by decide +kernel⟩
def spOBot (K : PySem.W.Frag) (C : Addr) : Sp := fun vs H Q _ => ∃ (A : Addr → Prop) (o : Addr) (s : So01.St) (i j : Nat), vs = [.ref o, .int (i : Int), .int (j : Int)] ∧ Off K C A H o s ∧ (∀ b, A b → H b ≠ none) ∧ Ret K C A o s (.both i j) H Q
theorem both_bad {s : So01.St} {i j : Nat} (h : So01.isPerson s i = false ∨ So01.isPerson s j = false) : (So01.step s (.both i j)).2 = [-1] := if_pos h
theorem both_ok {s : So01.St} {i j : Nat} (h1 : So01.isPerson s i = true) (h2 : So01.isPerson s j = true) : (So01.step s (.both i j)).2 = ((So01.both s i j).length : Int) :: So01.ints ((So01.both s i j).flatMap fun p => [p.1, p.2]) := if_neg (by rw [h1, h2]; rintro (z | z) <;> cases z)
/-- a pair as a list of two -/
def two (p : Nat × Nat) : List Int := [(p.1 : Int), (p.2 : Int)]
/-- the pair of a list of two -/
def duo (l : List Int) : Nat × Nat := ((l.getD 0 0).toNat, (l.getD 1 0).toNat)
theorem duo_two (p : Nat × Nat) : duo (two p) = p := rfl
theorem two_inj {p q : Nat × Nat} (h : two p = two q) : p = q := by rw [← duo_two p, h, duo_two]
def prs (ps : List (Addr × (Nat × Nat))) : List (Addr × List Int) := ps.map fun x => (x.1, two x.2)
theorem prs_refs (ps : List (Addr × (Nat × Nat))) : (prs ps).map (fun x => V.ref x.1) = ps.map fun x => V.ref x.1 := by
  unfold prs
  rw [List.map_map]
  rfl
theorem flat_twos : ∀ (L : List (Addr × List Int)) (l : List (Nat × Nat)), L.map (·.2) = l.map two → flat L = So01.ints (l.flatMap fun p => [p.1, p.2])
  | [], [], _ => rfl
  | [], _ :: _, h => by cases h
  | _ :: _, [], h => by cases h
  | x :: L, p :: l, h => by
    have h2 := List.cons.inj h
    have ih := flat_twos L l h2.2
    unfold flat at *
    unfold So01.ints at *
    have h3 : x.2 = two p := h2.1
    rw [List.flatMap_cons, List.flatMap_cons, List.map_append, ih, h3]
    rfl
theorem flat_len (l : List (Nat × Nat)) : (So01.ints (l.flatMap fun p => [p.1, p.2])).length = 2 * l.length := by
  unfold So01.ints
  rw [List.length_map]
  induction l with
  | nil => rfl
  | cons a l ih =>
    rw [List.flatMap_cons, List.length_append, ih]
    show 2 + 2 * l.length = 2 * (l.length + 1)
    omega
/-- where such pairs stand -/
def PrAt (H : Hp) (ps : List (Addr × (Nat × Nat))) : Prop := ∀ x ∈ ps, H x.1 = some (.tup (iV (two x.2)))
theorem PrAt.same {H H' : Hp} {ps : List (Addr × (Nat × Nat))} (h : PrAt H ps) (s : Same H H') : PrAt H' ps := fun x hx => s _ _ (h x hx)
/-- one more pair, at t, pushed to the list at D -/
theorem PrAt.push {H : Hp} {ps : List (Addr × (Nat × Nat))} {D t : Addr} {p : Nat × Nat} {ys : List V} {u : HO} (h : PrAt H ps) (hD : H D = some (.lst ys)) (nt : H t = none) : PrAt (upd (upd H t (.tup (iV (two p)))) D u) (ps ++ [(t, p)]) := fun x hx => by
  have tD : t ≠ D := (ne_of_none hD nt).symm
  rcases List.mem_append.mp hx with e | e
  · have q := h x e
    rw [upd_ne (ne_of q hD (by intro z; cases z)), upd_ne (ne_of_none q nt)]
    exact q
  · rw [List.mem_singleton.mp e]
    exact Eq.trans (upd_ne tD) upd_same
theorem few_twos {L : List (Addr × List Int)} {ps : List (Addr × (Nat × Nat))} (low : ∀ x ∈ ps, x.2.1 ≤ 5 ∧ x.2.2 ≤ 5) (h : ∀ p ∈ L, p ∈ prs ps) (nd : (L.map (·.2)).Nodup) : L.length ≤ 36 := by
  have key : ∀ q ∈ L, ∃ p : Nat × Nat, q.2 = two p ∧ p.1 ≤ 5 ∧ p.2 ≤ 5 := fun q hq => by
    obtain ⟨x, hx, rfl⟩ := List.mem_map.mp (h q hq)
    exact ⟨x.2, rfl, low x hx⟩
  have h1 : (L.map fun q => duo q.2).Nodup := by
    have nd2 := List.pairwise_map.mp nd
    refine List.pairwise_map.mpr (List.Pairwise.imp_of_mem (fun {a b} ha hb hab => ?_) nd2)
    obtain ⟨p, ep, _⟩ := key a ha
    obtain ⟨q, eq, _⟩ := key b hb
    rw [ep, eq] at hab
    show duo a.2 ≠ duo b.2
    rw [ep, eq]
    exact fun z => hab (congrArg two z)
  have := few_pairs h1 fun p hp => by
    obtain ⟨q, hq, rfl⟩ := List.mem_map.mp hp
    obtain ⟨p, ep, h⟩ := key q hq
    rw [ep]
    exact h
  rw [List.length_map] at this
  exact this
section
variable {P : Program} {w : World} {K : PySem.W.Frag} {mg : Str → Option Value} {base : Heap} {C CQ : Addr}
theorem ok_obot {f fH fC : Addr} {fd fdH fdC : FuncData} (F : Fun K "both" "Office.both" sOBot f fd) (T : TxO K mg C) (B : Blt mg) (N : Cst mg)
    (GH : FnOk P w K mg base CX0 2 fH fdH ["self", "i"] (spOHas K C)) (bH : Binds K fdH ["self", "i"] []) (mH : Meth K C "has_person" fH)
    (GC : FnOk P w K mg base CX0 1 fC fdC ["rows"] (spCou K)) (gC : mg "counted" = some (.ref fC)) (kC : PySem.W.keepIn K (.ref fC) = true) (bC : Binds K fdC ["rows"] []) : FnOk P w K mg base CX0 3 f fd ["self", "i", "j"] (spOBot K C) := by
  obtain ⟨t1, g1⟩ := N.wrong
  refine F.ok scOBot (fun vs H Q E h => ?_) (fun cdv A outer s H vs Q E hr h => ?_)
  · obtain ⟨A, o, s, i, j, rfl, _⟩ := h
    rfl
  · obtain ⟨A, o, st, i, j, rfl, O, hA, r⟩ := h
    have hr1 := hr.mono (show 1 ≤ 2 by decide)
    refine ⟨_, pss_cons (ps_if (PW.pt (pw_or (pt_not (pt_val (pe_meth (pv 0) T.cl mH GH hr bH .nil pass0 (pa_cons (pv 1) pa_nil)))) (pw_or1 (pt_not (pt_val (pe_meth (pv 0) T.cl mH GH hr bH .nil pass0 (pa_cons (pv 2) pa_nil))))))) (pss_one (ps_ret (pe_lst (pa_cons (pe_num g1 rfl) pa_nil)))) pss_nil)
      (pss_one (ps_ret (pe_call GC hr1 rfl gC kC bC .nil pass0 (pa_cons (pe_callB (cr_sortedT rfl) (by rfl) B.sorted (by decide +kernel) (pa_cons (pe_callTy (cr_setP rfl hr.units) (by rfl) B.set (by decide +kernel) (pa_cons
        (pe_lc (own := [("world", 3)]) (g := gName 3) (tt := tYes) (te := tTup (tCons (tOp (rIxT K) (tVar 3) (tOp (rI0 fun i j => .int (i - j)) (tVar 1) (tC (.int 1)))) (tCons (tOp (rIxT K) (tVar 3) (tOp (rI0 fun i j => .int (i - j)) (tVar 2) (tC (.int 1)))) tNil))) rfl scOBot.nd (pi_list (pe_fld (pv 0) rfl)) (blkOk_by (N := nOBot) (sc := defScope sOBot) (by decide +kernel)) (fun _ _ _ _ _ => pg_name (i := 3) scOBot.nd rfl (Or.inl rfl)) (fun _ _ _ _ _ => pts_nil)
          (fun _ _ _ _ _ => pe_tup (pa_cons (pe_ix ix_tup (pv 3) (pe_op op_sub (pv 1) pe_int) (fun _ _ => rfl)) (pa_cons (pe_ix ix_tup (pv 3) (pe_op op_sub (pv 2) pe_int) (fun _ _ => rfl)) pa_nil)))) pa_nil)) pa_nil)) pa_nil)))), ?_⟩
    have O1 := O.at_
    have good := O1.good
    obtain ⟨dx, t, m, l, tw, rl, h1, h2, h3, h4, _⟩ := O1.ex
    refine ⟨_, rfl, o, dx, _, rfl, h1, oF_has _ _ _ _, _, rfl, o, st, i, rfl, O1, _, rfl, ?_⟩
    cases pi : So01.isPerson st i with
    | false => exact iteT (iteT ⟨by decide, fun p np => r.read O hA rfl (Same.new np) np upd_same (by rw [both_bad (.inl pi)]; rfl)⟩)
    | true =>
    refine iteF ⟨_, rfl, o, dx, _, rfl, h1, oF_has _ _ _ _, _, rfl, o, st, j, rfl, O1, _, rfl, ?_⟩
    cases pj : So01.isPerson st j with
    | false => exact iteT ⟨by decide, fun p np => r.read O hA rfl (Same.new np) np upd_same (by rw [both_bad (.inr pj)]; rfl)⟩
    | true =>
    have ii := person_is.mp pi
    have jj := person_is.mp pj
    refine iteF ⟨_, rfl, o, C, dx, _, _, rfl, h1, T.cl, T.nM, oF_might _ _ _ _, m, rfl, ⟨_, SqL.of h3.at_⟩, fun D nD => lc_list (K := K) (a := m) (xs := tw.map fun x => V.ref x.1) (fun k H' => ∃ ps : List (Addr × (Nat × Nat)), Same H H' ∧ H' D = some (.lst (ps.map fun x => V.ref x.1)) ∧ PrAt H' ps ∧ ps.map (·.2) = ((wsOf tw).take k).map fun w => (So01.has w i, So01.has w j)) ⟨[], Same.new nD, upd_same, (fun x hx => by cases hx), rfl⟩ (fun k H' _ ⟨_, z, _⟩ => SqL.of (z _ _ h3.at_)) ?_ ?_⟩
    · rintro k y H2 hk ⟨ps, s2, hD, pa, ep⟩
      obtain ⟨x, hx, rfl⟩ := map_get hk
      have xm : x ∈ tw := List.mem_of_getElem? hx
      have xl : x.2.length = st.many := good.len _ (by rw [← h4]; exact ws_mem xm)
      have hx2 := ws_get hx
      have ht := (h3.tup x xm).same s2
      refine ⟨rfl, iteT (B := True) ⟨_, rfl, _, rfl, _, _, rfl, rfl, x.1, nV x.2, _, _, rfl, rfl, ht, has_at (by omega) (by omega), _, rfl, _, rfl, _, _, rfl, rfl, x.1, nV x.2, _, _, rfl, rfl, ht, has_at (by omega) (by omega), by show 2 ≤ sizeLine; decide, fun z nz => ⟨_, Same.new nz _ _ hD, ?_, ps ++ [(z, (So01.has x.2 i, So01.has x.2 j))], (s2.trans (Same.new nz)).put nD, ?_, pa.push hD nz, ?_⟩⟩⟩
      · have e1 := congrArg List.length ep
        rw [List.length_map, List.length_map, List.length_take] at e1
        rw [List.length_map, sizeLine_is]
        have := (List.getElem?_eq_some_iff.mp hx).1
        have := good.few
        rw [← h4, ws_len] at this
        omega
      · rw [upd_same, List.map_append]
        rfl
      · rw [take_more hx2, List.map_append, List.map_append, ep]
        rfl
    rintro H2 ⟨ps, s2, hD, pa, ep⟩
    rw [List.length_map, ← ws_len, List.take_length, h4] at ep
    have low : ∀ x ∈ ps, x.2.1 ≤ 5 ∧ x.2.2 ≤ 5 := fun x hx => by
      have := List.mem_map_of_mem (f := fun x : Addr × (Nat × Nat) => x.2) hx
      rw [ep] at this
      obtain ⟨w, hw, e⟩ := List.mem_map.mp this
      rw [← e]
      exact ⟨has_low (good.low w hw) i, has_low (good.low w hw) j⟩
    have at2 : ∀ q ∈ prs ps, ∃ x ∈ ps, q = (x.1, two x.2) := fun q hq => by
      obtain ⟨x, hx, e⟩ := List.mem_map.mp hq
      exact ⟨x, hx, e.symm⟩
    refine ⟨D, prs ps, rfl, by rw [prs_refs]; exact SqL.of hD, fun q hq => ?_, fun L hL nd => ?_, fun a L na hL aL => ?_⟩
    · obtain ⟨x, hx, rfl⟩ := at2 q hq
      exact SqT.of (pa x hx)
    · have := few_twos low hL nd
      omega
    have s3 : Same H2 (upd H2 a (SetTO P w a L)) := Same.new na
    refine ⟨a, L, 2, 64, rfl, upd_same, fun q hq => ?_, by decide, fun q hq => ?_, fun L' p pm nd f64 pw np => ?_⟩
    · obtain ⟨x, hx, rfl⟩ := at2 q (hL q hq)
      exact SqT.of (s3 _ _ (pa x hx))
    · obtain ⟨x, hx, rfl⟩ := at2 q (hL q hq)
      have := low x hx
      refine ⟨rfl, fun z hz => ?_⟩
      rcases List.mem_cons.mp hz with e | e
      · omega
      · have := List.mem_singleton.mp e
        omega
    have in2 : ∀ q ∈ L', ∃ x ∈ ps, q = (x.1, two x.2) := fun q hq => at2 q (hL q (pm.mem_iff.mp hq))
    have s4 := s3.trans (Same.new (o := .lst (L'.map fun q => V.ref q.1)) np)
    have el : L'.map (·.2) = (L'.map fun q => duo q.2).map two := by
      rw [List.map_map]
      refine List.map_congr_left fun q hq => ?_
      obtain ⟨x, hx, rfl⟩ := in2 q hq
      rfl
    have eb : (L'.map fun q => duo q.2) = So01.both st i j := by
      refine both_is ?_ fun p => ?_
      · refine List.pairwise_map.mpr (List.Pairwise.imp_of_mem (fun {a b} ha hb hab => ?_) (List.Pairwise.and pw (List.pairwise_map.mp nd)))
        obtain ⟨x, hx, rfl⟩ := in2 a ha
        obtain ⟨y, hy, rfl⟩ := in2 b hb
        have lx := low x hx
        have ly := low y hy
        have := pair_lt hab.1 hab.2 (by omega) (by omega) (by omega) (by omega)
        show plt x.2 y.2
        unfold plt
        omega
      · rw [← ep, List.mem_map, List.mem_map]
        constructor
        · rintro ⟨q, hq, rfl⟩
          obtain ⟨x, hx, rfl⟩ := in2 q hq
          exact ⟨x, hx, rfl⟩
        · rintro ⟨x, hx, rfl⟩
          obtain ⟨q, hq, e⟩ := List.mem_map.mp (aL (x.1, two x.2) (List.mem_map.mpr ⟨x, hx, rfl⟩))
          refine ⟨q, pm.mem_iff.mpr hq, ?_⟩
          rw [e]
          rfl
    have ef := flat_twos L' _ el
    refine ⟨p, L', rfl, SqL.of upd_same, fun q hq => ?_, ?_, fun H5 u s5 nu hu => ?_⟩
    · obtain ⟨x, hx, rfl⟩ := in2 q hq
      exact .inr (SqT.of (s4 _ _ (pa x hx)))
    · rw [ef, flat_len, List.length_map]
      omega
    · have s15 := (s2.trans s4).trans s5
      refine r.read O hA rfl s15 ((s2.trans s4).free nu) hu ?_
      rw [both_ok pi pj, ef, eb, ← eb, List.length_map]
end
/-! ### free -/
abbrev sOFre : Stmt := inClass (top 19) 15
def nOFre : List Str := ["self", "pairs", "i", "j", "question"]
theorem scOFre : FnScope nOFre ["self"] (defScope sOFre) := ⟨rfl, rfl, rfl, by decide +kernel, rfl, by decide +kernel, by decide +kernel⟩
def spOFre (K : PySem.W.Frag) (C : Addr) : Sp := fun vs H Q _ => ∃ (A : Addr → Prop) (o : Addr) (s : So01.St), vs = [.ref o] ∧ Off K C A H o s ∧ (∀ b, A b → H b ≠ none) ∧ Ret K C A o s .free H Q
theorem rg_is (i d : Nat) : rgV (1 + (i : Int)) (1 + (i : Int) + (d : Int) + 1) = nV (fromTo (i + 1) (i + 1 + d)) := by
  unfold rgV nV fromTo
  have e1 : (1 + (i : Int) + (d : Int) + 1 - (1 + (i : Int))).toNat = d + 1 := by omega
  have e2 : i + 1 + d + 1 - (i + 1) = d + 1 := by omega
  rw [e1, e2, List.map_map]
  refine List.map_congr_left fun k _ => ?_
  show V.int (1 + (i : Int) + (k : Int)) = V.int ((i + 1 + k : Nat) : Int)
  congr 1
  omega
section
variable {P : Program} {w : World} {K : PySem.W.Frag} {mg : Str → Option Value} {base : Heap} {C CQ : Addr}
theorem ok_ofre {f fS fI fP fT fC : Addr} {fd fdS fdI fdP fdT fdC : FuncData} (F : Fun K "free" "Office.free" sOFre f fd) (T : TxO K mg C) (TQ : TxQ K mg CQ) (B : Blt mg) (N : Cst mg) (gQ : mg "Question" = some (.ref CQ))
    (GS : FnOk P w K mg base CX0 1 fS fdS ["self"] (spOSiz K C)) (bS : Binds K fdS ["self"] []) (mS : Meth K C "size" fS)
    (MQ : Mk K CQ fI) (GI : FnOk P w K mg base CX0 1 fI fdI ["self", "what", "t", "people"] (spQIni K CQ)) (bI : Binds K fdI ["self", "what", "t", "people"] [])
    (GP : FnOk P w K mg base CX0 2 fP fdP ["self", "worlds"] (spQPar K CQ)) (bP : Binds K fdP ["self", "worlds"] []) (mP : Meth K CQ "parts" fP)
    (GT : FnOk P w K mg base CX0 2 fT fdT ["self", "parts"] (spOTel K C)) (bT : Binds K fdT ["self", "parts"] []) (mT : Meth K C "would_tell" fT)
    (GC : FnOk P w K mg base CX0 1 fC fdC ["rows"] (spCou K)) (gC : mg "counted" = some (.ref fC)) (kC : PySem.W.keepIn K (.ref fC) = true) (bC : Binds K fdC ["rows"] []) : FnOk P w K mg base CX0 3 f fd ["self"] (spOFre K C) := by
  obtain ⟨t0, g0⟩ := N.sum
  refine F.ok scOFre (fun vs H Q E h => ?_) (fun cdv A outer s H vs Q E hr h => ?_)
  · obtain ⟨A, o, s, rfl, _⟩ := h
    rfl
  · obtain ⟨A, o, st, rfl, O, hA, r⟩ := h
    have hr1 := hr.mono (show 1 ≤ 2 by decide)
    refine ⟨_, pss_cons (ps_set (i := 1) scOFre.nd rfl (Or.inl rfl) (pe_lst pa_nil))
      (pss_cons (ps_for PassesOwn.never rfl (pi_range2 (by rfl) B.range (pa_cons pe_int (pa_cons (pe_op op_add (pe_meth0 (pv 0) T.cl mS GS hr1 bS .nil pass0) pe_int) pa_nil))) (pg_name (i := 2) scOFre.nd rfl (Or.inl rfl))
        (pss_one (ps_for PassesOwn.never rfl (pi_range2 (by rfl) B.range (pa_cons (pv 2) (pa_cons (pe_op op_add (pe_meth0 (pv 0) T.cl mS GS hr1 bS .nil pass0) pe_int) pa_nil))) (pg_name (i := 3) scOFre.nd rfl (Or.inl rfl))
          (pss_cons (ps_set (i := 4) scOFre.nd rfl (Or.inl rfl) (pe_make MQ GI hr rfl gQ bI .nil pass0 (pa_cons (pe_num g0 rfl) (pa_cons pe_int (pa_cons (pe_listRg rfl rfl B.list (prg_2 rfl B.range (pv 2) (pe_op op_add (pv 3) pe_int))) pa_nil)))))
          (pss_one (ps_if (pt_val (pe_meth (pv 0) T.cl mT GT hr bT .nil pass0 (pa_cons (pe_meth (pv 4) TQ.cl mP GP hr bP .nil pass0 (pa_cons (pe_fld (pv 0) rfl) pa_nil)) pa_nil)))
            (pss_one (ps_expr (pe_bm PySem.F.plainAttrs_list PySem.F.slot_list_append PySem.F.type_list_append mt_append (pv 1) (pa_cons (pe_tup (pa_cons (pv 2) (pa_cons (pv 3) pa_nil))) pa_nil)))) pss_nil))))))
      (pss_one (ps_ret (pe_call GC hr1 rfl gC kC bC .nil pass0 (pa_cons (pv 1) pa_nil))))), ?_⟩
    have O1 := O.at_
    have good := O1.good
    obtain ⟨dx, t, m, l, tw, rl, h1, h2, h3, h4, _⟩ := O1.ex
    have n5 := good.five
    have few : tw.length ≤ 7776 := by
      have := good.few
      rw [← h4, ws_len] at this
      exact this
    refine ⟨Nat.zero_le _, fun g ng => ?_⟩
    have s0 : Same H (upd H g (.lst [])) := Same.new ng
    refine ⟨_, rfl, o, dx, _, rfl, s0 _ _ h1, oF_size _ _ _ _, o, st, rfl, O1.same s0, _, _, rfl, rfl, 1, (st.many : Int) + 1, rfl, ⟨by omega, by omega, by omega, by omega⟩, for_range (lo := 1) (n := ((st.many : Int) + 1 - 1).toNat) (fun k σ H' => ∃ (ps : List (Addr × (Nat × Nat))) (o2 o3 o4 : Option V), σ = [some (.ref o), some (.ref g), o2, o3, o4] ∧
      Same H H' ∧ H' g = some (.lst (ps.map fun x => V.ref x.1)) ∧ PrAt H' ps ∧ ps.map (·.2) = freeTo st k) ⟨[], none, none, none, rfl, s0, upd_same, (fun x hx => by cases hx), rfl⟩ ?_ ?_⟩
    · rintro k σ H1 hk ⟨ps, o2, o3, o4, rfl, s1, hg, pa, ep⟩
      have hk2 : k < st.many := by omega
      refine ⟨_, rfl, _, rfl, o, dx, _, rfl, s1 _ _ h1, oF_size _ _ _ _, o, st, rfl, O1.same s1, _, _, rfl, rfl, 1 + (k : Int), (st.many : Int) + 1, rfl, ⟨by omega, by omega, by omega, by omega⟩, for_range (lo := 1 + (k : Int)) (n := ((st.many : Int) + 1 - (1 + (k : Int))).toNat) (fun d σ H' => ∃ (ps : List (Addr × (Nat × Nat))) (o3 o4 : Option V), σ = [some (.ref o), some (.ref g), some (.int (1 + (k : Int))), o3, o4] ∧
        Same H H' ∧ H' g = some (.lst (ps.map fun x => V.ref x.1)) ∧ PrAt H' ps ∧ ps.map (·.2) = freeTo st k ++ freeAt st (k + 1) d) ⟨ps, _, _, rfl, s1, hg, pa, by rw [ep]; exact (List.append_nil _).symm⟩ ?_ ?_⟩
      · rintro d σ H2 hd ⟨ps2, o3, o4, rfl, s2, hg2, pa2, ep2⟩
        have hd2 : k + 1 + d ≤ st.many := by omega
        -- question = Question(TOGETHER, 0, list(range(i, j + 1)))
        refine ⟨_, rfl, _, rfl, _, _, rfl, rfl, _, _, rfl, rfl, RgOk.of_le (by omega) (by omega) (by omega) (by omega), fun z nz => ?_⟩
        rw [rg_is]
        intro q dxq nq ndq neq
        have hz : upd (upd (upd H2 z (.lst (nV (fromTo (k + 1) (k + 1 + d))))) dxq (.own q)) q (.ins CQ dxq []) z = some (.lst (nV (fromTo (k + 1) (k + 1 + d)))) := by
          rw [upd_ne (ne_of_none upd_same nq), upd_ne (ne_of_none upd_same ndq)]
          exact upd_same
        refine ⟨q, dxq, z, ⟨0, 0, fromTo (k + 1) (k + 1 + d)⟩, rfl, upd_same, hz, fun H3 QA kp => ⟨rfl, ?_⟩⟩
        have s3 : Same H2 H3 := (Same.new nz).trans (Same.made nq ndq kp)
        have sH3 := s2.trans s3
        obtain ⟨dq, lq, hq, _⟩ := QA.ex
        have l8 : (fromTo (k + 1) (k + 1 + d)).length ≤ 8 := by
          rw [fromTo_len]
          omega
        -- self.would_tell(question.parts(self.might_be))
        refine ⟨_, rfl, o, dx, _, rfl, sH3 _ _ h1, oF_tell _ _ _ _, _, rfl, q, dq, _, rfl, hq, qF_parts _ _, _, rfl, o, C, dx, _, _, rfl, sH3 _ _ h1, T.cl, T.nM, oF_might _ _ _ _, q, m, _, st.many, tw, rfl, QA, h3.same sH3, few, fun x hx => good.len _ (by rw [← h4]; exact ws_mem hx), ok_fromTo (by omega) hd2, fromTo_ne (by omega), l8, fun H4 dd gs s4 nd PT fr => ?_⟩
        have sH4 := sH3.trans s4
        refine ⟨o, dd, _, st, tw, gs, rfl, O1.same sH4, PT, h4, l8, fun H5 s5 => ⟨_, rfl, ?_⟩⟩
        have sH5 := sH4.trans s5
        have s25 := (s3.trans s4).trans s5
        have hg5 := s25 _ _ hg2
        have pa5 := pa2.same s25
        have fm := freeAt_more st (k + 1) d
        cases tl : So01.tells st.many st.keep st.might ⟨0, 0, fromTo (k + 1) (k + 1 + d)⟩ with
        | true =>
          rw [tl, if_pos rfl] at fm
          refine iteT ⟨_, rfl, .inl ⟨rfl, _, SqL.of hg5⟩, _, rfl, _, rfl, by show 2 ≤ sizeLine; decide, fun y ny => ?_⟩
          have e1 : [V.int (1 + (k : Int)), V.int (1 + (k : Int) + (d : Int))] = iV (two (k + 1, k + 1 + d)) := by
            unfold iV two
            show _ = [V.int ((k + 1 : Nat) : Int), V.int ((k + 1 + d : Nat) : Int)]
            congr 2
            · omega
            · congr 1
              omega
          rw [e1]
          refine ⟨g, _, _, rfl, rfl, Same.new ny _ _ hg5, ?_, ps2 ++ [(y, (k + 1, k + 1 + d))], _, _, rfl, (sH5.trans (Same.new ny)).put ng, ?_, pa5.push hg5 ny, ?_⟩
          · have e2 := congrArg List.length ep2
            rw [List.length_map, List.length_append] at e2
            have b1 := freeTo_len st k
            have b2 := freeAt_len st (k + 1) d
            have b3 : k * (st.many + 1) ≤ 5 * 6 := Nat.mul_le_mul (by omega) (by omega)
            rw [List.length_map, sizeLine_is]
            omega
          · rw [upd_same, List.map_append]
            rfl
          · rw [List.map_append, ep2, fm, ← List.append_assoc]
            rfl
        | false =>
          rw [tl, if_neg Bool.noConfusion, List.append_nil] at fm
          refine iteF ⟨ps2, _, _, rfl, sH5, hg5, pa5, ?_⟩
          rw [ep2, fm]
      · rintro σ H2 ⟨ps2, o3, o4, rfl, s2, hg2, pa2, ep2⟩
        refine ⟨ps2, _, _, _, rfl, s2, hg2, pa2, ?_⟩
        have e3 : ((st.many : Int) + 1 - (1 + (k : Int))).toNat = st.many - k := by omega
        rw [ep2, freeTo_more, e3]
    · rintro σ H1 ⟨ps, o2, o3, o4, rfl, s1, hg, pa, ep⟩
      have e3 : ((st.many : Int) + 1 - 1).toNat = st.many := by omega
      rw [e3] at ep
      have ef : freeTo st st.many = So01.free st := (free_is st).symm
      rw [ef] at ep
      have e4 : (prs ps).map (·.2) = (So01.free st).map two := by
        unfold prs
        rw [← ep, List.map_map, List.map_map]
        rfl
      have e5 := flat_twos _ _ e4
      have e6 : (prs ps).length = (So01.free st).length := by
        unfold prs
        rw [← ep, List.length_map, List.length_map]
      refine ⟨_, rfl, g, prs ps, rfl, by rw [prs_refs]; exact SqL.of hg, fun x hx => ?_, ?_, fun H5 u s5 nu hu => ?_⟩
      · obtain ⟨y, hy, rfl⟩ := List.mem_map.mp hx
        exact .inr (SqT.of (pa y hy))
      · rw [e5, flat_len, ← ef]
        have b1 := freeTo_len st st.many
        have b3 : st.many * (st.many + 1) ≤ 5 * 6 := Nat.mul_le_mul (by omega) (by omega)
        omega
      · refine r.read O hA rfl (s1.trans s5) (s1.free nu) hu ?_
        rw [e5, e6]
        rfl
end
end Lo
namespace Lo
open PySem PySem.Spec PyProof.Rows L2
open So01 (Ask)
/-! ### Reader.question -/
abbrev sRQue : Stmt := inClass (top 20) 4
def nRQue : List Str := ["self", "what", "t"]
theorem scRQue : FnScope nRQue ["self"] (defScope sRQue) := ⟨rfl, rfl, rfl, by decide +kernel, rfl, by decide +kernel, by decide +kernel⟩
theorem rF_row (a : Addr) (i : Nat) : (rF a i).lookup ("row" : Str) = none := rF_no (by decide +kernel) (by decide +kernel) a i
theorem rF_question (a : Addr) (i : Nat) : (rF a i).lookup ("question" : Str) = none := rF_no (by decide +kernel) (by decide +kernel) a i
def spRQue (K : PySem.W.Frag) (CR CQ : Addr) : Sp := fun vs H Q _ => ∃ (r a : Addr) (ms : List Nat) (i q t : Nat) (row rest : List Nat), vs = [.ref r] ∧ RdAt K CR H r a ms i ∧ ms.drop i = q :: t :: row.length :: (row ++ rest) ∧
  ∀ (H' : Hp) (p : Addr), H p = none → QAt K CQ H' p ⟨q, t, row⟩ → RdAt K CR H' r a ms (i + 3 + row.length) → But r H H' → Q (.ref p) H'
theorem drop_get {ms z : List Nat} {i x : Nat} (h : ms.drop i = x :: z) : ms[i]? = some x ∧ ms.drop (i + 1) = z ∧ i < ms.length := by
  have h0 : ms[i]? = some x := by
    have := congrArg (fun l => l[0]?) h
    simpa using this
  refine ⟨h0, ?_, (List.getElem?_eq_some_iff.mp h0).1⟩
  have : ms.drop (i + 1) = (ms.drop i).drop 1 := by rw [List.drop_drop]
  rw [this, h]
  rfl
theorem drop_row {ms row rest : List Nat} {i : Nat} (h : ms.drop i = row.length :: (row ++ rest)) : ms.drop (i + 1 + row.length) = rest ∧ i + 1 + row.length ≤ ms.length := by
  have d := (drop_get h).2.1
  have e : ms.drop (i + 1 + row.length) = (ms.drop (i + 1)).drop row.length := by rw [List.drop_drop]
  refine ⟨by rw [e, d, List.drop_left], ?_⟩
  have l1 := congrArg List.length d
  rw [List.length_drop, List.length_append] at l1
  have := (drop_get h).2.2
  omega
section
variable {P : Program} {w : World} {K : PySem.W.Frag} {mg : Str → Option Value} {base : Heap} {C CQ CR : Addr}
theorem ok_rque {f f1 f2 fI : Addr} {fd fd1 fd2 fdI : FuncData} (F : Fun K "question" "Reader.question" sRQue f fd) (TR : TxR K mg CR) (gQ : mg "Question" = some (.ref CQ))
    (G1 : FnOk P w K mg base CX0 1 f1 fd1 ["self"] (spROne K CR)) (b1 : Binds K fd1 ["self"] []) (m1 : Meth K CR "one" f1)
    (G2 : FnOk P w K mg base CX0 2 f2 fd2 ["self"] (spRRow K CR)) (b2 : Binds K fd2 ["self"] []) (m2 : Meth K CR "row" f2)
    (MQ : Mk K CQ fI) (GI : FnOk P w K mg base CX0 1 fI fdI ["self", "what", "t", "people"] (spQIni K CQ)) (bI : Binds K fdI ["self", "what", "t", "people"] []) : FnOk P w K mg base CX0 3 f fd ["self"] (spRQue K CR CQ) := by
  refine F.ok scRQue (fun vs H Q E h => ?_) (fun cdv A outer s H vs Q E hr h => ?_)
  · obtain ⟨r, a, ms, i, q, t, row, rest, rfl, _⟩ := h
    rfl
  · obtain ⟨r, a, ms, i, q, t, row, rest, rfl, R, hd, k⟩ := h
    have hr1 := hr.mono (show 1 ≤ 2 by decide)
    refine ⟨_, pss_cons (ps_set (i := 1) scRQue.nd rfl (Or.inl rfl) (pe_meth0 (pv 0) TR.cl m1 G1 hr1 b1 .nil pass0)) (pss_cons (ps_set (i := 2) scRQue.nd rfl (Or.inl rfl) (pe_meth0 (pv 0) TR.cl m1 G1 hr1 b1 .nil pass0))
      (pss_one (ps_ret (pe_make MQ GI hr rfl gQ bI .nil pass0 (pa_cons (pv 1) (pa_cons (pv 2) (pa_cons (pe_meth0 (pv 0) TR.cl m2 G2 hr b2 .nil pass0) pa_nil))))))), ?_⟩
    obtain ⟨dx, h1, h2⟩ := R.ex
    obtain ⟨e1, d1, _⟩ := drop_get hd
    obtain ⟨e2, d2, _⟩ := drop_get d1
    refine ⟨_, rfl, r, dx, _, rfl, h1, rF_one a i, r, a, ms, i, q, rfl, R, e1, fun H1 R1 B1 => ?_⟩
    obtain ⟨dx1, h3, h4⟩ := R1.ex
    refine ⟨_, rfl, r, dx1, _, rfl, h3, rF_one a _, r, a, ms, i + 1, t, rfl, R1, e2, fun H2 R2 B2 => ?_⟩
    obtain ⟨dx2, h5, h6⟩ := R2.ex
    refine ⟨_, rfl, _, rfl, _, rfl, r, dx2, _, rfl, h5, rF_row a _, r, a, ms, i + 1 + 1, row, rest, rfl, R2, d2, fun H3 p np hp R3 B3 => ?_⟩
    intro x dxx nx ndx nex
    have B123 := (B1.trans B2).trans B3
    obtain ⟨dx3, h7, h8⟩ := R3.ex
    have hpx : upd (upd H3 dxx (.own x)) x (.ins CQ dxx []) p = some (.lst (nV row)) := by
      rw [upd_ne (ne_of_none hp nx), upd_ne (ne_of_none hp ndx)]
      exact hp
    refine ⟨x, dxx, p, ⟨q, t, row⟩, rfl, upd_same, hpx, fun H4 QA kp => ⟨rfl, ?_⟩⟩
    have s34 : Same H3 H4 := Same.made nx ndx kp
    have e3 : i + 1 + 1 + 1 + row.length = i + 3 + row.length := by omega
    rw [e3] at R3
    exact k H4 x (B123.free nx (ne_of_none h7 nx).symm) QA (R3.same s34) (B123.trans (But.of s34))
end
/-! ### the calls -/
theorem oF_found (p : Nat) (t m l : Addr) : (oF p t m l).lookup ("found" : Str) = none := oF_no (by decide +kernel) (by decide +kernel) (by decide +kernel) (by decide +kernel) p t m l
theorem oF_ask (p : Nat) (t m l : Addr) : (oF p t m l).lookup ("ask" : Str) = none := oF_no (by decide +kernel) (by decide +kernel) (by decide +kernel) (by decide +kernel) p t m l
theorem oF_would (p : Nat) (t m l : Addr) : (oF p t m l).lookup ("would" : Str) = none := oF_no (by decide +kernel) (by decide +kernel) (by decide +kernel) (by decide +kernel) p t m l
theorem oF_range (p : Nat) (t m l : Addr) : (oF p t m l).lookup ("range_of" : Str) = none := oF_no (by decide +kernel) (by decide +kernel) (by decide +kernel) (by decide +kernel) p t m l
theorem oF_guess (p : Nat) (t m l : Addr) : (oF p t m l).lookup ("guess" : Str) = none := oF_no (by decide +kernel) (by decide +kernel) (by decide +kernel) (by decide +kernel) p t m l
theorem oF_both (p : Nat) (t m l : Addr) : (oF p t m l).lookup ("both" : Str) = none := oF_no (by decide +kernel) (by decide +kernel) (by decide +kernel) (by decide +kernel) p t m l
theorem oF_chance (p : Nat) (t m l : Addr) : (oF p t m l).lookup ("chance" : Str) = none := oF_no (by decide +kernel) (by decide +kernel) (by decide +kernel) (by decide +kernel) p t m l
theorem oF_log (p : Nat) (t m l : Addr) : (oF p t m l).lookup ("log" : Str) = none := oF_no (by decide +kernel) (by decide +kernel) (by decide +kernel) (by decide +kernel) p t m l
theorem oF_free (p : Nat) (t m l : Addr) : (oF p t m l).lookup ("free" : Str) = none := oF_no (by decide +kernel) (by decide +kernel) (by decide +kernel) (by decide +kernel) p t m l
theorem rd0 {z rest : List Nat} {c : So01.Call} (h : Rd1 (0 :: z) c rest) : ∃ h p row, z = h :: p :: row.length :: (row ++ rest) ∧ c = .found h p row ∧ row.length ≤ 8 := by
  cases h
  exact ⟨_, _, _, rfl, rfl, by assumption⟩
theorem rd1 {z rest : List Nat} {c : So01.Call} (h : Rd1 (1 :: z) c rest) : ∃ q t row, z = q :: t :: row.length :: (row ++ rest) ∧ c = .ask q t row ∧ row.length ≤ 8 := by
  cases h
  exact ⟨_, _, _, rfl, rfl, by assumption⟩
theorem rd2 {z rest : List Nat} {c : So01.Call} (h : Rd1 (2 :: z) c rest) : ∃ q t row, z = q :: t :: row.length :: (row ++ rest) ∧ c = .would q t row ∧ row.length ≤ 8 := by
  cases h
  exact ⟨_, _, _, rfl, rfl, by assumption⟩
theorem rd3 {z rest : List Nat} {c : So01.Call} (h : Rd1 (3 :: z) c rest) : ∃ i, z = i :: rest ∧ c = .range i := by
  cases h
  exact ⟨_, rfl, rfl⟩
theorem rd4 {z rest : List Nat} {c : So01.Call} (h : Rd1 (4 :: z) c rest) : z = rest ∧ c = .worlds := by
  cases h
  exact ⟨rfl, rfl⟩
theorem rd5 {z rest : List Nat} {c : So01.Call} (h : Rd1 (5 :: z) c rest) : ∃ i, z = i :: rest ∧ c = .guess i := by
  cases h
  exact ⟨_, rfl, rfl⟩
theorem rd6 {z rest : List Nat} {c : So01.Call} (h : Rd1 (6 :: z) c rest) : ∃ i j, z = i :: j :: rest ∧ c = .both i j := by
  cases h
  exact ⟨_, _, rfl, rfl⟩
theorem rd7 {z rest : List Nat} {c : So01.Call} (h : Rd1 (7 :: z) c rest) : ∃ q t v row, z = q :: t :: v :: row.length :: (row ++ rest) ∧ c = .chance q t v row ∧ row.length ≤ 8 := by
  cases h
  exact ⟨_, _, _, _, rfl, rfl, by assumption⟩
theorem rd8 {z rest : List Nat} {c : So01.Call} (h : Rd1 (8 :: z) c rest) : z = rest ∧ c = .log := by
  cases h
  exact ⟨rfl, rfl⟩
theorem rd9 {z rest : List Nat} {c : So01.Call} (h : Rd1 (9 :: z) c rest) : z = rest ∧ c = .free := by
  cases h
  exact ⟨rfl, rfl⟩
/-- what neither the call's rest nor the reader's place has a part in -/
abbrev GR (G : Addr → Prop) (r : Addr) : Addr → Prop := fun b => G b ∨ b = r
theorem off_of {K : PySem.W.Frag} {C r o : Addr} {G : Addr → Prop} {H H1 : Hp} {s : So01.St} (O : Off K C (GR G r) H o s) (B : But r H H1) : Off K C (GR G r) H1 o s :=
  (off_ok K C).keep O fun b u e nb => B b u e fun q => nb (.inr q)
theorem dom_of {K : PySem.W.Frag} {CR r a : Addr} {G : Addr → Prop} {H H1 : Hp} {ms : List Nat} {i : Nat} (R : RdAt K CR H1 r a ms i) (B : But r H H1) (nG : ¬ G r) (hG : ∀ b, G b → H b ≠ none) : ∀ b, GR G r b → H1 b ≠ none := by
  rintro b (hb | hb) z
  · cases e : H b with
    | none => exact hG b hb e
    | some u =>
      rw [B b u e fun q => nG (by rw [← q]; exact hb)] at z
      cases z
  · obtain ⟨dx, h, _⟩ := R.ex
    rw [hb, h] at z
    cases z
theorem ret_of {K : PySem.W.Frag} {C CR r a o : Addr} {G : Addr → Prop} {H H1 : Hp} {ms rest : List Nat} {i1 : Nat} {s : So01.St} {c : So01.Call} {Q : VK} (R : RdAt K CR H1 r a ms i1) (B : But r H H1) (nG : ¬ G r) (hG : ∀ b, G b → H b ≠ none) (hS : ∀ H', (∀ b, G b → H' b = H b) → SqL K H' a (nV ms)) (er : ms.drop i1 = rest) (il : i1 ≤ ms.length)
    (k : ∀ (H' : Hp) (p : Addr) (i' : Nat), H p = none → H' p = some (.lst (iV (So01.step s c).2)) → Off K C (GR G r) H' o (So01.step s c).1 → RdAt K CR H' r a ms i' → ms.drop i' = rest → i' ≤ ms.length → (∀ b, G b → H' b = H b) → Q (.ref p) H') : Ret K C (GR G r) o s c H1 Q := by
  intro H' p np hp O fr
  obtain ⟨dx, h1, h2⟩ := R.ex
  have same : ∀ b, G b → H' b = H b := fun b hb => by
    rw [fr b (.inl hb)]
    cases e : H b with
    | none => exact absurd e (hG b hb)
    | some u => exact B b u e fun q => nG (by rw [← q]; exact hb)
  exact k H' p i1 (B.free np (ne_of_none h1 np).symm) hp O ⟨dx, (fr r (.inr rfl)).trans h1, hS H' same⟩ er il same
abbrev sC0 : Stmt := top 21
abbrev sC1 : Stmt := top 22
abbrev sC2 : Stmt := top 23
abbrev sC3 : Stmt := top 24
abbrev sC4 : Stmt := top 25
abbrev sC5 : Stmt := top 26
abbrev sC6 : Stmt := top 27
abbrev sC7 : Stmt := top 28
abbrev sC8 : Stmt := top 29
abbrev sC9 : Stmt := top 30
def nC : List Str := ["office", "reader"]
def nC0 : List Str := ["office", "reader", "h", "p"]
def nC6 : List Str := ["office", "reader", "i"]
def nC7 : List Str := ["office", "reader", "what", "t", "v"]
theorem scC0 : FnScope nC0 nC (defScope sC0) := ⟨rfl, rfl, rfl, by decide +kernel, rfl, by decide +kernel, by decide +kernel⟩
theorem scC1 : FnScope nC nC (defScope sC1) := ⟨rfl, rfl, rfl, by decide +kernel, rfl, by decide +kernel, by decide +kernel⟩
theorem scC2 : FnScope nC nC (defScope sC2) := ⟨rfl, rfl, rfl, by decide +kernel, rfl, by decide +kernel, by decide +kernel⟩
theorem scC3 : FnScope nC nC (defScope sC3) := ⟨rfl, rfl, rfl, by decide +kernel, rfl, by decide +kernel, by decide +kernel⟩
theorem scC4 : FnScope nC nC (defScope sC4) := ⟨rfl, rfl, rfl, by decide +kernel, rfl, by decide +kernel, by decide +kernel⟩
theorem scC5 : FnScope nC nC (defScope sC5) := ⟨rfl, rfl, rfl, by decide +kernel, rfl, by decide +kernel, by decide +kernel⟩
theorem scC6 : FnScope nC6 nC (defScope sC6) := ⟨rfl, rfl, rfl, by decide +kernel, rfl, by decide +kernel, by decide +kernel⟩
theorem scC7 : FnScope nC7 nC (defScope sC7) := ⟨rfl, rfl, rfl, by decide +kernel, rfl, by decide +kernel, by decide +kernel⟩
theorem scC8 : FnScope nC nC (defScope sC8) := ⟨rfl, rfl, rfl, by decide +kernel, rfl, by decide +kernel, by decide +kernel⟩
theorem scC9 : FnScope nC nC (defScope sC9) := ⟨rfl, rfl, rfl, by decide +kernel, rfl, by decide +kernel, by decide +kernel⟩
section
variable {P : Program} {w : World} {K : PySem.W.Frag} {mg : Str → Option Value} {base : Heap} {C CQ CR : Addr}
theorem ok_c0 {f f1 f2 fM : Addr} {fd fd1 fd2 fdM : FuncData} (F : Fun K "call_found" "call_found" sC0 f fd) (TR : TxR K mg CR) (T : TxO K mg C)
    (G1 : FnOk P w K mg base CX0 1 f1 fd1 ["self"] (spROne K CR)) (b1 : Binds K fd1 ["self"] []) (m1 : Meth K CR "one" f1)
    (G2 : FnOk P w K mg base CX0 2 f2 fd2 ["self"] (spRRow K CR)) (b2 : Binds K fd2 ["self"] []) (m2 : Meth K CR "row" f2)
    (GM : FnOk P w K mg base CX0 3 fM fdM ["self", "h", "p", "numbers"] (spOFou K C)) (bM : Binds K fdM ["self", "h", "p", "numbers"] []) (mM : Meth K C "found" fM) : FnOk P w K mg base CX0 5 f fd nC (spCall (Off K C) K CR 0) := by
  refine F.ok scC0 (fun vs H Q E h => ?_) (fun cdv A outer s H vs Q E hr h => ?_)
  · obtain ⟨G, o, r, a, s, ms, i, c, rest, rfl, _⟩ := h
    rfl
  · obtain ⟨G, o, r, a, st, ms, i, c, rest, rfl, O, R, nG, il, hG, hS, rd, k⟩ := h
    have hr1 := hr.mono (show 1 ≤ 4 by decide)
    have hr2 := hr.mono (show 2 ≤ 4 by decide)
    have hr3 := hr.mono (show 3 ≤ 4 by decide)
    refine ⟨_, pss_cons (ps_set (i := 2) scC0.nd rfl (Or.inl rfl) (pe_meth0 (pv 1) TR.cl m1 G1 hr1 b1 .nil pass0)) (pss_cons (ps_set (i := 3) scC0.nd rfl (Or.inl rfl) (pe_meth0 (pv 1) TR.cl m1 G1 hr1 b1 .nil pass0))
      (pss_one (ps_ret (pe_meth (pv 0) T.cl mM GM hr3 bM .nil pass0 (pa_cons (pv 2) (pa_cons (pv 3) (pa_cons (pe_meth0 (pv 1) TR.cl m2 G2 hr2 b2 .nil pass0) pa_nil))))))), ?_⟩
    obtain ⟨h, p, row, ez, rfl, l8⟩ := rd0 rd
    obtain ⟨e1, d1, _⟩ := drop_get ez
    obtain ⟨e2, d2, _⟩ := drop_get d1
    obtain ⟨d3, il3⟩ := drop_row d2
    obtain ⟨dx, h1, h2⟩ := R.ex
    refine ⟨_, rfl, r, dx, _, rfl, h1, rF_one a i, r, a, ms, i, h, rfl, R, e1, fun H1 R1 B1 => ?_⟩
    obtain ⟨dx1, h3, h4⟩ := R1.ex
    refine ⟨_, rfl, r, dx1, _, rfl, h3, rF_one a _, r, a, ms, i + 1, p, rfl, R1, e2, fun H2 R2 B2 => ?_⟩
    obtain ⟨dx2, h5, h6⟩ := R2.ex
    have B12 := B1.trans B2
    obtain ⟨dxo, _, _, _, _, _, ho, _⟩ := (off_of O B12).at_.ex
    refine ⟨_, rfl, o, dxo, _, rfl, ho, oF_found _ _ _ _, _, rfl, _, rfl, _, rfl, r, dx2, _, rfl, h5, rF_row a _, r, a, ms, i + 1 + 1, row, rest, rfl, R2, d2, fun H3 q np hp R3 B3 => ?_⟩
    have B := B12.trans B3
    exact ⟨GR G r, o, q, st, h, p, row, rfl, off_of O B, dom_of R3 B nG hG, SqL.of hp, ret_of R3 B nG hG hS d3 il3 k⟩
theorem ok_c1 {f f2 fM : Addr} {fd fd2 fdM : FuncData} (F : Fun K "call_ask" "call_ask" sC1 f fd) (TR : TxR K mg CR) (T : TxO K mg C)
    (G2 : FnOk P w K mg base CX0 3 f2 fd2 ["self"] (spRQue K CR CQ)) (b2 : Binds K fd2 ["self"] []) (m2 : Meth K CR "question" f2)
    (GM : FnOk P w K mg base CX0 3 fM fdM ["self", "question"] (spOAsk K C CQ)) (bM : Binds K fdM ["self", "question"] []) (mM : Meth K C "ask" fM) : FnOk P w K mg base CX0 5 f fd nC (spCall (Off K C) K CR 1) := by
  refine F.ok scC1 (fun vs H Q E h => ?_) (fun cdv A outer s H vs Q E hr h => ?_)
  · obtain ⟨G, o, r, a, s, ms, i, c, rest, rfl, _⟩ := h
    rfl
  · obtain ⟨G, o, r, a, st, ms, i, c, rest, rfl, O, R, nG, il, hG, hS, rd, k⟩ := h
    have hr3 := hr.mono (show 3 ≤ 4 by decide)
    refine ⟨_, pss_one (ps_ret (pe_meth (pv 0) T.cl mM GM hr3 bM .nil pass0 (pa_cons (pe_meth0 (pv 1) TR.cl m2 G2 hr3 b2 .nil pass0) pa_nil))), ?_⟩
    obtain ⟨h, p, row, ez, rfl, l8⟩ := rd1 rd
    obtain ⟨e1, d1, _⟩ := drop_get ez
    obtain ⟨e2, d2, _⟩ := drop_get d1
    obtain ⟨d3, il3⟩ := drop_row d2
    have e4 : i + 1 + 1 + 1 + row.length = i + 3 + row.length := by omega
    rw [e4] at d3 il3
    obtain ⟨dx, h1, h2⟩ := R.ex
    obtain ⟨dxo, _, _, _, _, _, ho, _⟩ := (Off.at_ O).ex
    refine ⟨_, rfl, o, dxo, _, rfl, ho, oF_ask _ _ _ _, _, rfl, r, dx, _, rfl, h1, rF_question a i, r, a, ms, i, h, p, row, rest, rfl, R, ez, fun H3 q np QA R3 B => ?_⟩
    exact ⟨GR G r, o, q, st, ⟨h, p, row⟩, rfl, off_of O B, dom_of R3 B nG hG, QA, l8, ret_of R3 B nG hG hS d3 il3 k⟩
theorem ok_c2 {f f2 fM : Addr} {fd fd2 fdM : FuncData} (F : Fun K "call_would" "call_would" sC2 f fd) (TR : TxR K mg CR) (T : TxO K mg C)
    (G2 : FnOk P w K mg base CX0 3 f2 fd2 ["self"] (spRQue K CR CQ)) (b2 : Binds K fd2 ["self"] []) (m2 : Meth K CR "question" f2)
    (GM : FnOk P w K mg base CX0 3 fM fdM ["self", "question"] (spOWou K C CQ)) (bM : Binds K fdM ["self", "question"] []) (mM : Meth K C "would" fM) : FnOk P w K mg base CX0 5 f fd nC (spCall (Off K C) K CR 2) := by
  refine F.ok scC2 (fun vs H Q E h => ?_) (fun cdv A outer s H vs Q E hr h => ?_)
  · obtain ⟨G, o, r, a, s, ms, i, c, rest, rfl, _⟩ := h
    rfl
  · obtain ⟨G, o, r, a, st, ms, i, c, rest, rfl, O, R, nG, il, hG, hS, rd, k⟩ := h
    have hr3 := hr.mono (show 3 ≤ 4 by decide)
    refine ⟨_, pss_one (ps_ret (pe_meth (pv 0) T.cl mM GM hr3 bM .nil pass0 (pa_cons (pe_meth0 (pv 1) TR.cl m2 G2 hr3 b2 .nil pass0) pa_nil))), ?_⟩
    obtain ⟨h, p, row, ez, rfl, l8⟩ := rd2 rd
    obtain ⟨e1, d1, _⟩ := drop_get ez
    obtain ⟨e2, d2, _⟩ := drop_get d1
    obtain ⟨d3, il3⟩ := drop_row d2
    have e4 : i + 1 + 1 + 1 + row.length = i + 3 + row.length := by omega
    rw [e4] at d3 il3
    obtain ⟨dx, h1, h2⟩ := R.ex
    obtain ⟨dxo, _, _, _, _, _, ho, _⟩ := (Off.at_ O).ex
    refine ⟨_, rfl, o, dxo, _, rfl, ho, oF_would _ _ _ _, _, rfl, r, dx, _, rfl, h1, rF_question a i, r, a, ms, i, h, p, row, rest, rfl, R, ez, fun H3 q np QA R3 B => ?_⟩
    exact ⟨GR G r, o, q, st, ⟨h, p, row⟩, rfl, off_of O B, dom_of R3 B nG hG, QA, l8, ret_of R3 B nG hG hS d3 il3 k⟩
theorem ok_c3 {f f1 fM : Addr} {fd fd1 fdM : FuncData} (F : Fun K "call_range" "call_range" sC3 f fd) (TR : TxR K mg CR) (T : TxO K mg C)
    (G1 : FnOk P w K mg base CX0 1 f1 fd1 ["self"] (spROne K CR)) (b1 : Binds K fd1 ["self"] []) (m1 : Meth K CR "one" f1)
    (GM : FnOk P w K mg base CX0 3 fM fdM ["self", "i"] (spORan K C)) (bM : Binds K fdM ["self", "i"] []) (mM : Meth K C "range_of" fM) : FnOk P w K mg base CX0 5 f fd nC (spCall (Off K C) K CR 3) := by
  refine F.ok scC3 (fun vs H Q E h => ?_) (fun cdv A outer s H vs Q E hr h => ?_)
  · obtain ⟨G, o, r, a, s, ms, i, c, rest, rfl, _⟩ := h
    rfl
  · obtain ⟨G, o, r, a, st, ms, i, c, rest, rfl, O, R, nG, il, hG, hS, rd, k⟩ := h
    have hr1 := hr.mono (show 1 ≤ 4 by decide)
    have hr3 := hr.mono (show 3 ≤ 4 by decide)
    refine ⟨_, pss_one (ps_ret (pe_meth (pv 0) T.cl mM GM hr3 bM .nil pass0 (pa_cons (pe_meth0 (pv 1) TR.cl m1 G1 hr1 b1 .nil pass0) pa_nil))), ?_⟩
    obtain ⟨j, ez, rfl⟩ := rd3 rd
    obtain ⟨e1, d1, il1⟩ := drop_get ez
    obtain ⟨dx, h1, h2⟩ := R.ex
    obtain ⟨dxo, _, _, _, _, _, ho, _⟩ := (Off.at_ O).ex
    refine ⟨_, rfl, o, dxo, _, rfl, ho, oF_range _ _ _ _, _, rfl, r, dx, _, rfl, h1, rF_one a i, r, a, ms, i, j, rfl, R, e1, fun H3 R3 B => ?_⟩
    exact ⟨GR G r, o, st, j, rfl, off_of O B, dom_of R3 B nG hG, ret_of R3 B nG hG hS d1 il1 k⟩
theorem ok_c4 {f fM : Addr} {fd fdM : FuncData} (F : Fun K "call_worlds" "call_worlds" sC4 f fd) (T : TxO K mg C)
    (GM : FnOk P w K mg base CX0 1 fM fdM ["self"] (spOWor K C)) (bM : Binds K fdM ["self"] []) (mM : Meth K C "worlds" fM) : FnOk P w K mg base CX0 5 f fd nC (spCall (Off K C) K CR 4) := by
  refine F.ok scC4 (fun vs H Q E h => ?_) (fun cdv A outer s H vs Q E hr h => ?_)
  · obtain ⟨G, o, r, a, s, ms, i, c, rest, rfl, _⟩ := h
    rfl
  · obtain ⟨G, o, r, a, st, ms, i, c, rest, rfl, O, R, nG, il, hG, hS, rd, k⟩ := h
    have hr1 := hr.mono (show 1 ≤ 4 by decide)
    refine ⟨_, pss_one (ps_ret (pe_meth0 (pv 0) T.cl mM GM hr1 bM .nil pass0)), ?_⟩
    obtain ⟨ez, rfl⟩ := rd4 rd
    have B := But.refl r H
    obtain ⟨dxo, _, _, _, _, _, ho, _⟩ := (Off.at_ O).ex
    have ret : Ret K C (GR G r) o st .worlds H Q := ret_of R B nG hG hS ez il k
    exact ⟨_, rfl, o, dxo, _, rfl, ho, oF_worlds _ _ _ _, o, st, rfl, Off.at_ O, fun H2 q s2 nq hq => ret.read O (dom_of R B nG hG) rfl s2 nq hq rfl⟩
theorem ok_c5 {f f1 fM : Addr} {fd fd1 fdM : FuncData} (F : Fun K "call_guess" "call_guess" sC5 f fd) (TR : TxR K mg CR) (T : TxO K mg C)
    (G1 : FnOk P w K mg base CX0 1 f1 fd1 ["self"] (spROne K CR)) (b1 : Binds K fd1 ["self"] []) (m1 : Meth K CR "one" f1)
    (GM : FnOk P w K mg base CX0 3 fM fdM ["self", "i"] (spOGue K C)) (bM : Binds K fdM ["self", "i"] []) (mM : Meth K C "guess" fM) : FnOk P w K mg base CX0 5 f fd nC (spCall (Off K C) K CR 5) := by
  refine F.ok scC5 (fun vs H Q E h => ?_) (fun cdv A outer s H vs Q E hr h => ?_)
  · obtain ⟨G, o, r, a, s, ms, i, c, rest, rfl, _⟩ := h
    rfl
  · obtain ⟨G, o, r, a, st, ms, i, c, rest, rfl, O, R, nG, il, hG, hS, rd, k⟩ := h
    have hr1 := hr.mono (show 1 ≤ 4 by decide)
    have hr3 := hr.mono (show 3 ≤ 4 by decide)
    refine ⟨_, pss_one (ps_ret (pe_meth (pv 0) T.cl mM GM hr3 bM .nil pass0 (pa_cons (pe_meth0 (pv 1) TR.cl m1 G1 hr1 b1 .nil pass0) pa_nil))), ?_⟩
    obtain ⟨j, ez, rfl⟩ := rd5 rd
    obtain ⟨e1, d1, il1⟩ := drop_get ez
    obtain ⟨dx, h1, h2⟩ := R.ex
    obtain ⟨dxo, _, _, _, _, _, ho, _⟩ := (Off.at_ O).ex
    refine ⟨_, rfl, o, dxo, _, rfl, ho, oF_guess _ _ _ _, _, rfl, r, dx, _, rfl, h1, rF_one a i, r, a, ms, i, j, rfl, R, e1, fun H3 R3 B => ?_⟩
    exact ⟨GR G r, o, st, j, rfl, off_of O B, dom_of R3 B nG hG, ret_of R3 B nG hG hS d1 il1 k⟩
theorem ok_c6 {f f1 fM : Addr} {fd fd1 fdM : FuncData} (F : Fun K "call_both" "call_both" sC6 f fd) (TR : TxR K mg CR) (T : TxO K mg C)
    (G1 : FnOk P w K mg base CX0 1 f1 fd1 ["self"] (spROne K CR)) (b1 : Binds K fd1 ["self"] []) (m1 : Meth K CR "one" f1)
    (GM : FnOk P w K mg base CX0 3 fM fdM ["self", "i", "j"] (spOBot K C)) (bM : Binds K fdM ["self", "i", "j"] []) (mM : Meth K C "both" fM) : FnOk P w K mg base CX0 5 f fd nC (spCall (Off K C) K CR 6) := by
  refine F.ok scC6 (fun vs H Q E h => ?_) (fun cdv A outer s H vs Q E hr h => ?_)
  · obtain ⟨G, o, r, a, s, ms, i, c, rest, rfl, _⟩ := h
    rfl
  · obtain ⟨G, o, r, a, st, ms, i, c, rest, rfl, O, R, nG, il, hG, hS, rd, k⟩ := h
    have hr1 := hr.mono (show 1 ≤ 4 by decide)
    have hr3 := hr.mono (show 3 ≤ 4 by decide)
    refine ⟨_, pss_cons (ps_set (i := 2) scC6.nd rfl (Or.inl rfl) (pe_meth0 (pv 1) TR.cl m1 G1 hr1 b1 .nil pass0))
      (pss_one (ps_ret (pe_meth (pv 0) T.cl mM GM hr3 bM .nil pass0 (pa_cons (pv 2) (pa_cons (pe_meth0 (pv 1) TR.cl m1 G1 hr1 b1 .nil pass0) pa_nil))))), ?_⟩
    obtain ⟨j, j2, ez, rfl⟩ := rd6 rd
    obtain ⟨e1, d1, il1⟩ := drop_get ez
    obtain ⟨e2, d2, il2⟩ := drop_get d1
    obtain ⟨dx, h1, h2⟩ := R.ex
    refine ⟨_, rfl, r, dx, _, rfl, h1, rF_one a i, r, a, ms, i, j, rfl, R, e1, fun H1 R1 B1 => ?_⟩
    obtain ⟨dx1, h3, h4⟩ := R1.ex
    obtain ⟨dxo, _, _, _, _, _, ho, _⟩ := (off_of O B1).at_.ex
    refine ⟨_, rfl, o, dxo, _, rfl, ho, oF_both _ _ _ _, _, rfl, _, rfl, r, dx1, _, rfl, h3, rF_one a _, r, a, ms, i + 1, j2, rfl, R1, e2, fun H3 R3 B3 => ?_⟩
    have B := B1.trans B3
    exact ⟨GR G r, o, st, j, j2, rfl, off_of O B, dom_of R3 B nG hG, ret_of R3 B nG hG hS d2 il2 k⟩
theorem ok_c7 {f f1 f2 fI fM : Addr} {fd fd1 fd2 fdI fdM : FuncData} (F : Fun K "call_chance" "call_chance" sC7 f fd) (TR : TxR K mg CR) (T : TxO K mg C) (gQ : mg "Question" = some (.ref CQ))
    (G1 : FnOk P w K mg base CX0 1 f1 fd1 ["self"] (spROne K CR)) (b1 : Binds K fd1 ["self"] []) (m1 : Meth K CR "one" f1)
    (G2 : FnOk P w K mg base CX0 2 f2 fd2 ["self"] (spRRow K CR)) (b2 : Binds K fd2 ["self"] []) (m2 : Meth K CR "row" f2)
    (MQ : Mk K CQ fI) (GI : FnOk P w K mg base CX0 1 fI fdI ["self", "what", "t", "people"] (spQIni K CQ)) (bI : Binds K fdI ["self", "what", "t", "people"] [])
    (GM : FnOk P w K mg base CX0 3 fM fdM ["self", "question", "v"] (spOCha K C CQ)) (bM : Binds K fdM ["self", "question", "v"] []) (mM : Meth K C "chance" fM) : FnOk P w K mg base CX0 5 f fd nC (spCall (Off K C) K CR 7) := by
  refine F.ok scC7 (fun vs H Q E h => ?_) (fun cdv A outer s H vs Q E hr h => ?_)
  · obtain ⟨G, o, r, a, s, ms, i, c, rest, rfl, _⟩ := h
    rfl
  · obtain ⟨G, o, r, a, st, ms, i, c, rest, rfl, O, R, nG, il, hG, hS, rd, k⟩ := h
    have hr1 := hr.mono (show 1 ≤ 4 by decide)
    have hr2 := hr.mono (show 2 ≤ 4 by decide)
    have hr3 := hr.mono (show 3 ≤ 4 by decide)
    refine ⟨_, pss_cons (ps_set (i := 2) scC7.nd rfl (Or.inl rfl) (pe_meth0 (pv 1) TR.cl m1 G1 hr1 b1 .nil pass0)) (pss_cons (ps_set (i := 3) scC7.nd rfl (Or.inl rfl) (pe_meth0 (pv 1) TR.cl m1 G1 hr1 b1 .nil pass0))
      (pss_cons (ps_set (i := 4) scC7.nd rfl (Or.inl rfl) (pe_meth0 (pv 1) TR.cl m1 G1 hr1 b1 .nil pass0))
      (pss_one (ps_ret (pe_meth (pv 0) T.cl mM GM hr3 bM .nil pass0 (pa_cons (pe_make MQ GI hr2 rfl gQ bI .nil pass0 (pa_cons (pv 2) (pa_cons (pv 3) (pa_cons (pe_meth0 (pv 1) TR.cl m2 G2 hr2 b2 .nil pass0) pa_nil)))) (pa_cons (pv 4) pa_nil))))))), ?_⟩
    obtain ⟨q, t, v, row, ez, rfl, l8⟩ := rd7 rd
    obtain ⟨e1, d1, _⟩ := drop_get ez
    obtain ⟨e2, d2, _⟩ := drop_get d1
    obtain ⟨e3, d3, _⟩ := drop_get d2
    obtain ⟨d4, il4⟩ := drop_row d3
    obtain ⟨dx, h1, h2⟩ := R.ex
    refine ⟨_, rfl, r, dx, _, rfl, h1, rF_one a i, r, a, ms, i, q, rfl, R, e1, fun H1 R1 B1 => ?_⟩
    obtain ⟨dx1, h3, _⟩ := R1.ex
    refine ⟨_, rfl, r, dx1, _, rfl, h3, rF_one a _, r, a, ms, i + 1, t, rfl, R1, e2, fun H2 R2 B2 => ?_⟩
    obtain ⟨dx2, h5, _⟩ := R2.ex
    refine ⟨_, rfl, r, dx2, _, rfl, h5, rF_one a _, r, a, ms, i + 1 + 1, v, rfl, R2, e3, fun H3 R3 B3 => ?_⟩
    obtain ⟨dx3, h7, _⟩ := R3.ex
    have B123 := (B1.trans B2).trans B3
    obtain ⟨dxo, _, _, _, _, _, ho, _⟩ := (off_of O B123).at_.ex
    refine ⟨_, rfl, o, dxo, _, rfl, ho, oF_chance _ _ _ _, _, rfl, _, rfl, _, rfl, r, dx3, _, rfl, h7, rF_row a _, r, a, ms, i + 1 + 1 + 1, row, rest, rfl, R3, d3, fun H4 p np hp R4 B4 => ?_⟩
    intro x dxx nx ndx nex
    have hpx : upd (upd H4 dxx (.own x)) x (.ins CQ dxx []) p = some (.lst (nV row)) := by
      rw [upd_ne (ne_of_none hp nx), upd_ne (ne_of_none hp ndx)]
      exact hp
    refine ⟨x, dxx, p, ⟨q, t, row⟩, rfl, upd_same, hpx, fun H5 QA kp => ⟨rfl, ?_⟩⟩
    have s45 : Same H4 H5 := Same.made nx ndx kp
    have B := (B123.trans B4).trans (But.of s45)
    have R5 := R4.same s45
    exact ⟨_, rfl, GR G r, o, x, st, ⟨q, t, row⟩, v, rfl, off_of O B, dom_of R5 B nG hG, QA, l8, ret_of R5 B nG hG hS d4 il4 k⟩
theorem ok_c8 {f fM : Addr} {fd fdM : FuncData} (F : Fun K "call_log" "call_log" sC8 f fd) (T : TxO K mg C)
    (GM : FnOk P w K mg base CX0 3 fM fdM ["self"] (spOLog K C)) (bM : Binds K fdM ["self"] []) (mM : Meth K C "log" fM) : FnOk P w K mg base CX0 5 f fd nC (spCall (Off K C) K CR 8) := by
  refine F.ok scC8 (fun vs H Q E h => ?_) (fun cdv A outer s H vs Q E hr h => ?_)
  · obtain ⟨G, o, r, a, s, ms, i, c, rest, rfl, _⟩ := h
    rfl
  · obtain ⟨G, o, r, a, st, ms, i, c, rest, rfl, O, R, nG, il, hG, hS, rd, k⟩ := h
    have hr3 := hr.mono (show 3 ≤ 4 by decide)
    refine ⟨_, pss_one (ps_ret (pe_meth0 (pv 0) T.cl mM GM hr3 bM .nil pass0)), ?_⟩
    obtain ⟨ez, rfl⟩ := rd8 rd
    have B := But.refl r H
    obtain ⟨dxo, _, _, _, _, _, ho, _⟩ := (Off.at_ O).ex
    exact ⟨_, rfl, o, dxo, _, rfl, ho, oF_log _ _ _ _, GR G r, o, st, rfl, O, dom_of R B nG hG, ret_of R B nG hG hS ez il k⟩
theorem ok_c9 {f fM : Addr} {fd fdM : FuncData} (F : Fun K "call_free" "call_free" sC9 f fd) (T : TxO K mg C)
    (GM : FnOk P w K mg base CX0 3 fM fdM ["self"] (spOFre K C)) (bM : Binds K fdM ["self"] []) (mM : Meth K C "free" fM) : FnOk P w K mg base CX0 5 f fd nC (spCall (Off K C) K CR 9) := by
  refine F.ok scC9 (fun vs H Q E h => ?_) (fun cdv A outer s H vs Q E hr h => ?_)
  · obtain ⟨G, o, r, a, s, ms, i, c, rest, rfl, _⟩ := h
    rfl
  · obtain ⟨G, o, r, a, st, ms, i, c, rest, rfl, O, R, nG, il, hG, hS, rd, k⟩ := h
    have hr3 := hr.mono (show 3 ≤ 4 by decide)
    refine ⟨_, pss_one (ps_ret (pe_meth0 (pv 0) T.cl mM GM hr3 bM .nil pass0)), ?_⟩
    obtain ⟨ez, rfl⟩ := rd9 rd
    have B := But.refl r H
    obtain ⟨dxo, _, _, _, _, _, ho, _⟩ := (Off.at_ O).ex
    exact ⟨_, rfl, o, dxo, _, rfl, ho, oF_free _ _ _ _, GR G r, o, st, rfl, O, dom_of R B nG hG, ret_of R B nG hG hS ez il k⟩
end
end Lo
namespace Lo
open PySem PySem.Spec PyProof.Rows L2
open PySem.W (Codec)
/-- the request, read: what is handed in gives what the promise of answers asks; its value is what is due -/
theorem request (K : PySem.W.Frag) (H : Hp) (xs : List V) (a : Codec.denoteAll PySem.Challenge.rw_leftopen_s01_answers.args) (hO : OnlyF H) (hwi : Codec.withinAll PySem.Challenge.rw_leftopen_s01_answers.args a = true)
    (hask : Codec.app PySem.Challenge.rw_leftopen_s01_answers.args PySem.Challenge.rw_leftopen_s01_answers.asked a = true) (hx : DwAll K H xs (Codec.encAll PySem.Challenge.rw_leftopen_s01_answers.args a)) :
    spAns K xs H (fun v H' => Dw K H' v (PySem.Challenge.rw_leftopen_s01_answers.ret.enc (Codec.app PySem.Challenge.rw_leftopen_s01_answers.args PySem.Challenge.rw_leftopen_s01_answers.f a))) fun _ _ _ => False := by
  cases hx with
  | cons h1 h2 =>
    cases h2
    cases h1 with
    | lst hs ha =>
      have e := L2.ints_dw a.1 _ ha
      subst e
      have q : ((Codec.inLen 0 520 a.1 && a.1.all (Codec.inInt 0 4294967295)) && true) = true := hwi
      rw [Bool.and_eq_true, Bool.and_eq_true, List.all_eq_true] at q
      have W : Within a.1 := fun x hx => by
        have := q.1.2 x hx
        unfold Codec.inInt at this
        rw [Bool.and_eq_true, decide_eq_true_eq, decide_eq_true_eq] at this
        exact this
      obtain ⟨cs, R, l40, ea, small⟩ := asked_read W hask
      refine ⟨_, a.1.map Int.toNat, cs, rfl, ?_, R, by rw [← ea]; exact small, fun H' p hp => ?_⟩
      · rw [nV_ints, ← W.nats]
        exact hs
      · rw [← ea] at hp
        exact .lst (L2.SqL.of hp) (L2.dw_ints _)
end Lo
namespace Lo
open PySem PySem.Spec PyProof.Rows L2
open So01 (Ask)
/-! ### the end: what the top has written -/
/-- the name of the def at f -/
def nmOf (K : PySem.W.Frag) (f : Addr) : Option Str := match K.lookup f with
  | some ⟨_, _, .func fd, _⟩ => some fd.name
  | _ => none
theorem nm_of {K : PySem.W.Frag} {f : Addr} {oc : Value} {od : Option Addr} {fd : FuncData} {sl : Array (Option Value)} (h : K.lookup f = some ⟨oc, od, .func fd, sl⟩) : nmOf K f = some fd.name := by
  unfold nmOf
  rw [h]
theorem all_mk {P : Program} {w : World} {K : PySem.W.Frag} {h : Heap} {mg : Str → Option Value} {fa CQ CO CR tc fAW fDI fMF fLT fCN fLW fQI fQW fQR fQA fQP fOI fOB fOS fOH fOM fOT fOF fOA fOW fOR fOX fOG fOO fOC fOL fOE fRI fRE fR1 fRR fRQ fC0 fC1 fC2 fC3 fC4 fC5 fC6 fC7 fC8 fC9 fAN : Addr} (X : K.In h) (G : h.Ns mainGlobals mg) (hfa : mg "answers" = some (.ref fa))
    {odAW anAW odDI anDI odMF anMF odLT anLT odCN anCN odLW anLW odQI anQI odQW anQW odQR anQR odQA anQA odQP anQP odOI anOI odOB anOB odOS anOS odOH anOH odOM anOM odOT anOT odOF anOF odOA anOA odOW anOW odOR anOR odOX anOX odOG anOG odOO anOO odOC anOC odOL anOL odOE anOE odRI anRI odRE anRE odR1 anR1 odRR anRR odRQ anRQ odC0 anC0 odC1 anC1 odC2 anC2 odC3 anC3 odC4 anC4 odC5 anC5 odC6 anC6 odC7 anC7 odC8 anC8 odC9 anC9 odAN anAN odT : Option Addr} {slAW slDI slMF slLT slCN slLW slQI slQW slQR slQA slQP slOI slOB slOS slOH slOM slOT slOF slOA slOW slOR slOX slOG slOO slOC slOL slOE slRI slRE slR1 slRR slRQ slC0 slC1 slC2 slC3 slC4 slC5 slC6 slC7 slC8 slC9 slAN slT : Array (Option Value)} {ocAW kVAW dcAW pmAW cdAW ctAW ocDI kVDI dcDI pmDI cdDI ctDI ocMF kVMF dcMF pmMF cdMF ctMF ocLT kVLT dcLT pmLT cdLT ctLT ocCN kVCN dcCN pmCN cdCN ctCN ocLW kVLW dcLW pmLW cdLW ctLW ocQI kVQI dcQI pmQI cdQI ctQI ocQW kVQW dcQW pmQW cdQW ctQW ocQR kVQR dcQR pmQR cdQR ctQR ocQA kVQA dcQA pmQA cdQA ctQA ocQP kVQP dcQP pmQP cdQP ctQP ocOI kVOI dcOI pmOI cdOI ctOI ocOB kVOB dcOB pmOB cdOB ctOB ocOS kVOS dcOS pmOS cdOS ctOS ocOH kVOH dcOH pmOH cdOH ctOH ocOM kVOM dcOM pmOM cdOM ctOM ocOT kVOT dcOT pmOT cdOT ctOT ocOF kVOF dcOF pmOF cdOF ctOF ocOA kVOA dcOA pmOA cdOA ctOA ocOW kVOW dcOW pmOW cdOW ctOW ocOR kVOR dcOR pmOR cdOR ctOR ocOX kVOX dcOX pmOX cdOX ctOX ocOG kVOG dcOG pmOG cdOG ctOG ocOO kVOO dcOO pmOO cdOO ctOO ocOC kVOC dcOC pmOC cdOC ctOC ocOL kVOL dcOL pmOL cdOL ctOL ocOE kVOE dcOE pmOE cdOE ctOE ocRI kVRI dcRI pmRI cdRI ctRI ocRE kVRE dcRE pmRE cdRE ctRE ocR1 kVR1 dcR1 pmR1 cdR1 ctR1 ocRR kVRR dcRR pmRR cdRR ctRR ocRQ kVRQ dcRQ pmRQ cdRQ ctRQ ocC0 kVC0 dcC0 pmC0 cdC0 ctC0 ocC1 kVC1 dcC1 pmC1 cdC1 ctC1 ocC2 kVC2 dcC2 pmC2 cdC2 ctC2 ocC3 kVC3 dcC3 pmC3 cdC3 ctC3 ocC4 kVC4 dcC4 pmC4 cdC4 ctC4 ocC5 kVC5 dcC5 pmC5 cdC5 ctC5 ocC6 kVC6 dcC6 pmC6 cdC6 ctC6 ocC7 kVC7 dcC7 pmC7 cdC7 ctC7 ocC8 kVC8 dcC8 pmC8 cdC8 ctC8 ocC9 kVC9 dcC9 pmC9 cdC9 ctC9 ocAN kVAN dcAN pmAN cdAN ctAN : Value} {twrong tenough tgives tpeople thigh ttt ttold tsum tmost tleast tmany : Tok} {nT : Nat}
    (aCQ : PySem.W.nsIn K mainGlobals "Question" = some (some (.ref CQ)))
    (pgCQ : PySem.W.plainGet K CQ Str.empty = true)
    (hdCQ : PySem.W.hasDictIn K CQ = true)
    (poCQ : PySem.W.plainOver K CQ = true)
    (saCQ : PySem.W.findIn K (.ref CQ) "__setattr__" = some (some (.builtin "object.__setattr__")))
    (mkCQ : PySem.W.makesIn K CQ = true)
    (kcCQ : PySem.W.keepIn K (.ref CQ) = true)
    (n0CQ : PySem.W.findIn K (.ref CQ) "what" = some none)
    (n1CQ : PySem.W.findIn K (.ref CQ) "t" = some none)
    (n2CQ : PySem.W.findIn K (.ref CQ) "people" = some none)
    (aCO : PySem.W.nsIn K mainGlobals "Office" = some (some (.ref CO)))
    (pgCO : PySem.W.plainGet K CO Str.empty = true)
    (hdCO : PySem.W.hasDictIn K CO = true)
    (poCO : PySem.W.plainOver K CO = true)
    (saCO : PySem.W.findIn K (.ref CO) "__setattr__" = some (some (.builtin "object.__setattr__")))
    (mkCO : PySem.W.makesIn K CO = true)
    (kcCO : PySem.W.keepIn K (.ref CO) = true)
    (n0CO : PySem.W.findIn K (.ref CO) "p" = some none)
    (n1CO : PySem.W.findIn K (.ref CO) "truth" = some none)
    (n2CO : PySem.W.findIn K (.ref CO) "might_be" = some none)
    (n3CO : PySem.W.findIn K (.ref CO) "told" = some none)
    (aCR : PySem.W.nsIn K mainGlobals "Reader" = some (some (.ref CR)))
    (pgCR : PySem.W.plainGet K CR Str.empty = true)
    (hdCR : PySem.W.hasDictIn K CR = true)
    (poCR : PySem.W.plainOver K CR = true)
    (saCR : PySem.W.findIn K (.ref CR) "__setattr__" = some (some (.builtin "object.__setattr__")))
    (mkCR : PySem.W.makesIn K CR = true)
    (kcCR : PySem.W.keepIn K (.ref CR) = true)
    (n0CR : PySem.W.findIn K (.ref CR) "numbers" = some none)
    (n1CR : PySem.W.findIn K (.ref CR) "place" = some none)
    (aAW : PySem.W.nsIn K mainGlobals "all_worlds" = some (some (.ref fAW)))
    (lAW : K.lookup fAW = some ⟨ocAW, odAW, .func (PySem.W.fnOf "all_worlds" "all_worlds" (defArgs sAll) (defBody sAll) (defScope sAll) .none kVAW dcAW pmAW anAW cdAW ctAW), slAW⟩)
    (cAW : PySem.W.codeIn K cdAW "all_worlds" = true)
    (kAW : PySem.W.keepIn K (.ref fAW) = true)
    (aDI : PySem.W.nsIn K mainGlobals "different" = some (some (.ref fDI)))
    (lDI : K.lookup fDI = some ⟨ocDI, odDI, .func (PySem.W.fnOf "different" "different" (defArgs sDif) (defBody sDif) (defScope sDif) .none kVDI dcDI pmDI anDI cdDI ctDI), slDI⟩)
    (cDI : PySem.W.codeIn K cdDI "different" = true)
    (kDI : PySem.W.keepIn K (.ref fDI) = true)
    (aMF : PySem.W.nsIn K mainGlobals "most_frequent" = some (some (.ref fMF)))
    (lMF : K.lookup fMF = some ⟨ocMF, odMF, .func (PySem.W.fnOf "most_frequent" "most_frequent" (defArgs sMof) (defBody sMof) (defScope sMof) .none kVMF dcMF pmMF anMF cdMF ctMF), slMF⟩)
    (cMF : PySem.W.codeIn K cdMF "most_frequent" = true)
    (kMF : PySem.W.keepIn K (.ref fMF) = true)
    (aLT : PySem.W.nsIn K mainGlobals "lowest_terms" = some (some (.ref fLT)))
    (lLT : K.lookup fLT = some ⟨ocLT, odLT, .func (PySem.W.fnOf "lowest_terms" "lowest_terms" (defArgs sLow) (defBody sLow) (defScope sLow) .none kVLT dcLT pmLT anLT cdLT ctLT), slLT⟩)
    (cLT : PySem.W.codeIn K cdLT "lowest_terms" = true)
    (kLT : PySem.W.keepIn K (.ref fLT) = true)
    (aCN : PySem.W.nsIn K mainGlobals "counted" = some (some (.ref fCN)))
    (lCN : K.lookup fCN = some ⟨ocCN, odCN, .func (PySem.W.fnOf "counted" "counted" (defArgs sCou) (defBody sCou) (defScope sCou) .none kVCN dcCN pmCN anCN cdCN ctCN), slCN⟩)
    (cCN : PySem.W.codeIn K cdCN "counted" = true)
    (kCN : PySem.W.keepIn K (.ref fCN) = true)
    (aLW : PySem.W.nsIn K mainGlobals "leaves_wide" = some (some (.ref fLW)))
    (lLW : K.lookup fLW = some ⟨ocLW, odLW, .func (PySem.W.fnOf "leaves_wide" "leaves_wide" (defArgs sLea) (defBody sLea) (defScope sLea) .none kVLW dcLW pmLW anLW cdLW ctLW), slLW⟩)
    (cLW : PySem.W.codeIn K cdLW "leaves_wide" = true)
    (kLW : PySem.W.keepIn K (.ref fLW) = true)
    (aQI : PySem.W.findIn K (.ref CQ) "__init__" = some (some (.ref fQI)))
    (iQI : PySem.W.isFn K (.ref fQI) = true)
    (lQI : K.lookup fQI = some ⟨ocQI, odQI, .func (PySem.W.fnOf "__init__" "Question.__init__" (defArgs sQIni) (defBody sQIni) (defScope sQIni) .none kVQI dcQI pmQI anQI cdQI ctQI), slQI⟩)
    (cQI : PySem.W.codeIn K cdQI "Question.__init__" = true)
    (kQI : PySem.W.keepIn K (.ref fQI) = true)
    (aQW : PySem.W.findIn K (.ref CQ) "is_wrong" = some (some (.ref fQW)))
    (iQW : PySem.W.isFn K (.ref fQW) = true)
    (lQW : K.lookup fQW = some ⟨ocQW, odQW, .func (PySem.W.fnOf "is_wrong" "Question.is_wrong" (defArgs sQWro) (defBody sQWro) (defScope sQWro) .none kVQW dcQW pmQW anQW cdQW ctQW), slQW⟩)
    (cQW : PySem.W.codeIn K cdQW "Question.is_wrong" = true)
    (kQW : PySem.W.keepIn K (.ref fQW) = true)
    (aQR : PySem.W.findIn K (.ref CQ) "as_row" = some (some (.ref fQR)))
    (iQR : PySem.W.isFn K (.ref fQR) = true)
    (lQR : K.lookup fQR = some ⟨ocQR, odQR, .func (PySem.W.fnOf "as_row" "Question.as_row" (defArgs sQRow) (defBody sQRow) (defScope sQRow) .none kVQR dcQR pmQR anQR cdQR ctQR), slQR⟩)
    (cQR : PySem.W.codeIn K cdQR "Question.as_row" = true)
    (kQR : PySem.W.keepIn K (.ref fQR) = true)
    (aQA : PySem.W.findIn K (.ref CQ) "answer_in" = some (some (.ref fQA)))
    (iQA : PySem.W.isFn K (.ref fQA) = true)
    (lQA : K.lookup fQA = some ⟨ocQA, odQA, .func (PySem.W.fnOf "answer_in" "Question.answer_in" (defArgs sQAns) (defBody sQAns) (defScope sQAns) .none kVQA dcQA pmQA anQA cdQA ctQA), slQA⟩)
    (cQA : PySem.W.codeIn K cdQA "Question.answer_in" = true)
    (kQA : PySem.W.keepIn K (.ref fQA) = true)
    (aQP : PySem.W.findIn K (.ref CQ) "parts" = some (some (.ref fQP)))
    (iQP : PySem.W.isFn K (.ref fQP) = true)
    (lQP : K.lookup fQP = some ⟨ocQP, odQP, .func (PySem.W.fnOf "parts" "Question.parts" (defArgs sQPar) (defBody sQPar) (defScope sQPar) .none kVQP dcQP pmQP anQP cdQP ctQP), slQP⟩)
    (cQP : PySem.W.codeIn K cdQP "Question.parts" = true)
    (kQP : PySem.W.keepIn K (.ref fQP) = true)
    (aOI : PySem.W.findIn K (.ref CO) "__init__" = some (some (.ref fOI)))
    (iOI : PySem.W.isFn K (.ref fOI) = true)
    (lOI : K.lookup fOI = some ⟨ocOI, odOI, .func (PySem.W.fnOf "__init__" "Office.__init__" (defArgs sOIni) (defBody sOIni) (defScope sOIni) .none kVOI dcOI pmOI anOI cdOI ctOI), slOI⟩)
    (cOI : PySem.W.codeIn K cdOI "Office.__init__" = true)
    (kOI : PySem.W.keepIn K (.ref fOI) = true)
    (aOB : PySem.W.findIn K (.ref CO) "begin" = some (some (.ref fOB)))
    (iOB : PySem.W.isFn K (.ref fOB) = true)
    (lOB : K.lookup fOB = some ⟨ocOB, odOB, .func (PySem.W.fnOf "begin" "Office.begin" (defArgs sOBeg) (defBody sOBeg) (defScope sOBeg) .none kVOB dcOB pmOB anOB cdOB ctOB), slOB⟩)
    (cOB : PySem.W.codeIn K cdOB "Office.begin" = true)
    (kOB : PySem.W.keepIn K (.ref fOB) = true)
    (aOS : PySem.W.findIn K (.ref CO) "size" = some (some (.ref fOS)))
    (iOS : PySem.W.isFn K (.ref fOS) = true)
    (lOS : K.lookup fOS = some ⟨ocOS, odOS, .func (PySem.W.fnOf "size" "Office.size" (defArgs sOSiz) (defBody sOSiz) (defScope sOSiz) .none kVOS dcOS pmOS anOS cdOS ctOS), slOS⟩)
    (cOS : PySem.W.codeIn K cdOS "Office.size" = true)
    (kOS : PySem.W.keepIn K (.ref fOS) = true)
    (aOH : PySem.W.findIn K (.ref CO) "has_person" = some (some (.ref fOH)))
    (iOH : PySem.W.isFn K (.ref fOH) = true)
    (lOH : K.lookup fOH = some ⟨ocOH, odOH, .func (PySem.W.fnOf "has_person" "Office.has_person" (defArgs sOHas) (defBody sOHas) (defScope sOHas) .none kVOH dcOH pmOH anOH cdOH ctOH), slOH⟩)
    (cOH : PySem.W.codeIn K cdOH "Office.has_person" = true)
    (kOH : PySem.W.keepIn K (.ref fOH) = true)
    (aOM : PySem.W.findIn K (.ref CO) "might_have" = some (some (.ref fOM)))
    (iOM : PySem.W.isFn K (.ref fOM) = true)
    (lOM : K.lookup fOM = some ⟨ocOM, odOM, .func (PySem.W.fnOf "might_have" "Office.might_have" (defArgs sOMay) (defBody sOMay) (defScope sOMay) .none kVOM dcOM pmOM anOM cdOM ctOM), slOM⟩)
    (cOM : PySem.W.codeIn K cdOM "Office.might_have" = true)
    (kOM : PySem.W.keepIn K (.ref fOM) = true)
    (aOT : PySem.W.findIn K (.ref CO) "would_tell" = some (some (.ref fOT)))
    (iOT : PySem.W.isFn K (.ref fOT) = true)
    (lOT : K.lookup fOT = some ⟨ocOT, odOT, .func (PySem.W.fnOf "would_tell" "Office.would_tell" (defArgs sOTel) (defBody sOTel) (defScope sOTel) .none kVOT dcOT pmOT anOT cdOT ctOT), slOT⟩)
    (cOT : PySem.W.codeIn K cdOT "Office.would_tell" = true)
    (kOT : PySem.W.keepIn K (.ref fOT) = true)
    (aOF : PySem.W.findIn K (.ref CO) "found" = some (some (.ref fOF)))
    (iOF : PySem.W.isFn K (.ref fOF) = true)
    (lOF : K.lookup fOF = some ⟨ocOF, odOF, .func (PySem.W.fnOf "found" "Office.found" (defArgs sOFou) (defBody sOFou) (defScope sOFou) .none kVOF dcOF pmOF anOF cdOF ctOF), slOF⟩)
    (cOF : PySem.W.codeIn K cdOF "Office.found" = true)
    (kOF : PySem.W.keepIn K (.ref fOF) = true)
    (aOA : PySem.W.findIn K (.ref CO) "ask" = some (some (.ref fOA)))
    (iOA : PySem.W.isFn K (.ref fOA) = true)
    (lOA : K.lookup fOA = some ⟨ocOA, odOA, .func (PySem.W.fnOf "ask" "Office.ask" (defArgs sOAsk) (defBody sOAsk) (defScope sOAsk) .none kVOA dcOA pmOA anOA cdOA ctOA), slOA⟩)
    (cOA : PySem.W.codeIn K cdOA "Office.ask" = true)
    (kOA : PySem.W.keepIn K (.ref fOA) = true)
    (aOW : PySem.W.findIn K (.ref CO) "would" = some (some (.ref fOW)))
    (iOW : PySem.W.isFn K (.ref fOW) = true)
    (lOW : K.lookup fOW = some ⟨ocOW, odOW, .func (PySem.W.fnOf "would" "Office.would" (defArgs sOWou) (defBody sOWou) (defScope sOWou) .none kVOW dcOW pmOW anOW cdOW ctOW), slOW⟩)
    (cOW : PySem.W.codeIn K cdOW "Office.would" = true)
    (kOW : PySem.W.keepIn K (.ref fOW) = true)
    (aOR : PySem.W.findIn K (.ref CO) "range_of" = some (some (.ref fOR)))
    (iOR : PySem.W.isFn K (.ref fOR) = true)
    (lOR : K.lookup fOR = some ⟨ocOR, odOR, .func (PySem.W.fnOf "range_of" "Office.range_of" (defArgs sORan) (defBody sORan) (defScope sORan) .none kVOR dcOR pmOR anOR cdOR ctOR), slOR⟩)
    (cOR : PySem.W.codeIn K cdOR "Office.range_of" = true)
    (kOR : PySem.W.keepIn K (.ref fOR) = true)
    (aOX : PySem.W.findIn K (.ref CO) "worlds" = some (some (.ref fOX)))
    (iOX : PySem.W.isFn K (.ref fOX) = true)
    (lOX : K.lookup fOX = some ⟨ocOX, odOX, .func (PySem.W.fnOf "worlds" "Office.worlds" (defArgs sOWor) (defBody sOWor) (defScope sOWor) .none kVOX dcOX pmOX anOX cdOX ctOX), slOX⟩)
    (cOX : PySem.W.codeIn K cdOX "Office.worlds" = true)
    (kOX : PySem.W.keepIn K (.ref fOX) = true)
    (aOG : PySem.W.findIn K (.ref CO) "guess" = some (some (.ref fOG)))
    (iOG : PySem.W.isFn K (.ref fOG) = true)
    (lOG : K.lookup fOG = some ⟨ocOG, odOG, .func (PySem.W.fnOf "guess" "Office.guess" (defArgs sOGue) (defBody sOGue) (defScope sOGue) .none kVOG dcOG pmOG anOG cdOG ctOG), slOG⟩)
    (cOG : PySem.W.codeIn K cdOG "Office.guess" = true)
    (kOG : PySem.W.keepIn K (.ref fOG) = true)
    (aOO : PySem.W.findIn K (.ref CO) "both" = some (some (.ref fOO)))
    (iOO : PySem.W.isFn K (.ref fOO) = true)
    (lOO : K.lookup fOO = some ⟨ocOO, odOO, .func (PySem.W.fnOf "both" "Office.both" (defArgs sOBot) (defBody sOBot) (defScope sOBot) .none kVOO dcOO pmOO anOO cdOO ctOO), slOO⟩)
    (cOO : PySem.W.codeIn K cdOO "Office.both" = true)
    (kOO : PySem.W.keepIn K (.ref fOO) = true)
    (aOC : PySem.W.findIn K (.ref CO) "chance" = some (some (.ref fOC)))
    (iOC : PySem.W.isFn K (.ref fOC) = true)
    (lOC : K.lookup fOC = some ⟨ocOC, odOC, .func (PySem.W.fnOf "chance" "Office.chance" (defArgs sOCha) (defBody sOCha) (defScope sOCha) .none kVOC dcOC pmOC anOC cdOC ctOC), slOC⟩)
    (cOC : PySem.W.codeIn K cdOC "Office.chance" = true)
    (kOC : PySem.W.keepIn K (.ref fOC) = true)
    (aOL : PySem.W.findIn K (.ref CO) "log" = some (some (.ref fOL)))
    (iOL : PySem.W.isFn K (.ref fOL) = true)
    (lOL : K.lookup fOL = some ⟨ocOL, odOL, .func (PySem.W.fnOf "log" "Office.log" (defArgs sOLog) (defBody sOLog) (defScope sOLog) .none kVOL dcOL pmOL anOL cdOL ctOL), slOL⟩)
    (cOL : PySem.W.codeIn K cdOL "Office.log" = true)
    (kOL : PySem.W.keepIn K (.ref fOL) = true)
    (aOE : PySem.W.findIn K (.ref CO) "free" = some (some (.ref fOE)))
    (iOE : PySem.W.isFn K (.ref fOE) = true)
    (lOE : K.lookup fOE = some ⟨ocOE, odOE, .func (PySem.W.fnOf "free" "Office.free" (defArgs sOFre) (defBody sOFre) (defScope sOFre) .none kVOE dcOE pmOE anOE cdOE ctOE), slOE⟩)
    (cOE : PySem.W.codeIn K cdOE "Office.free" = true)
    (kOE : PySem.W.keepIn K (.ref fOE) = true)
    (aRI : PySem.W.findIn K (.ref CR) "__init__" = some (some (.ref fRI)))
    (iRI : PySem.W.isFn K (.ref fRI) = true)
    (lRI : K.lookup fRI = some ⟨ocRI, odRI, .func (PySem.W.fnOf "__init__" "Reader.__init__" (defArgs sRIni) (defBody sRIni) (defScope sRIni) .none kVRI dcRI pmRI anRI cdRI ctRI), slRI⟩)
    (cRI : PySem.W.codeIn K cdRI "Reader.__init__" = true)
    (kRI : PySem.W.keepIn K (.ref fRI) = true)
    (aRE : PySem.W.findIn K (.ref CR) "at_end" = some (some (.ref fRE)))
    (iRE : PySem.W.isFn K (.ref fRE) = true)
    (lRE : K.lookup fRE = some ⟨ocRE, odRE, .func (PySem.W.fnOf "at_end" "Reader.at_end" (defArgs sREnd) (defBody sREnd) (defScope sREnd) .none kVRE dcRE pmRE anRE cdRE ctRE), slRE⟩)
    (cRE : PySem.W.codeIn K cdRE "Reader.at_end" = true)
    (kRE : PySem.W.keepIn K (.ref fRE) = true)
    (aR1 : PySem.W.findIn K (.ref CR) "one" = some (some (.ref fR1)))
    (iR1 : PySem.W.isFn K (.ref fR1) = true)
    (lR1 : K.lookup fR1 = some ⟨ocR1, odR1, .func (PySem.W.fnOf "one" "Reader.one" (defArgs sROne) (defBody sROne) (defScope sROne) .none kVR1 dcR1 pmR1 anR1 cdR1 ctR1), slR1⟩)
    (cR1 : PySem.W.codeIn K cdR1 "Reader.one" = true)
    (kR1 : PySem.W.keepIn K (.ref fR1) = true)
    (aRR : PySem.W.findIn K (.ref CR) "row" = some (some (.ref fRR)))
    (iRR : PySem.W.isFn K (.ref fRR) = true)
    (lRR : K.lookup fRR = some ⟨ocRR, odRR, .func (PySem.W.fnOf "row" "Reader.row" (defArgs sRRow) (defBody sRRow) (defScope sRRow) .none kVRR dcRR pmRR anRR cdRR ctRR), slRR⟩)
    (cRR : PySem.W.codeIn K cdRR "Reader.row" = true)
    (kRR : PySem.W.keepIn K (.ref fRR) = true)
    (aRQ : PySem.W.findIn K (.ref CR) "question" = some (some (.ref fRQ)))
    (iRQ : PySem.W.isFn K (.ref fRQ) = true)
    (lRQ : K.lookup fRQ = some ⟨ocRQ, odRQ, .func (PySem.W.fnOf "question" "Reader.question" (defArgs sRQue) (defBody sRQue) (defScope sRQue) .none kVRQ dcRQ pmRQ anRQ cdRQ ctRQ), slRQ⟩)
    (cRQ : PySem.W.codeIn K cdRQ "Reader.question" = true)
    (kRQ : PySem.W.keepIn K (.ref fRQ) = true)
    (aC0 : PySem.W.nsIn K mainGlobals "call_found" = some (some (.ref fC0)))
    (lC0 : K.lookup fC0 = some ⟨ocC0, odC0, .func (PySem.W.fnOf "call_found" "call_found" (defArgs sC0) (defBody sC0) (defScope sC0) .none kVC0 dcC0 pmC0 anC0 cdC0 ctC0), slC0⟩)
    (cC0 : PySem.W.codeIn K cdC0 "call_found" = true)
    (kC0 : PySem.W.keepIn K (.ref fC0) = true)
    (aC1 : PySem.W.nsIn K mainGlobals "call_ask" = some (some (.ref fC1)))
    (lC1 : K.lookup fC1 = some ⟨ocC1, odC1, .func (PySem.W.fnOf "call_ask" "call_ask" (defArgs sC1) (defBody sC1) (defScope sC1) .none kVC1 dcC1 pmC1 anC1 cdC1 ctC1), slC1⟩)
    (cC1 : PySem.W.codeIn K cdC1 "call_ask" = true)
    (kC1 : PySem.W.keepIn K (.ref fC1) = true)
    (aC2 : PySem.W.nsIn K mainGlobals "call_would" = some (some (.ref fC2)))
    (lC2 : K.lookup fC2 = some ⟨ocC2, odC2, .func (PySem.W.fnOf "call_would" "call_would" (defArgs sC2) (defBody sC2) (defScope sC2) .none kVC2 dcC2 pmC2 anC2 cdC2 ctC2), slC2⟩)
    (cC2 : PySem.W.codeIn K cdC2 "call_would" = true)
    (kC2 : PySem.W.keepIn K (.ref fC2) = true)
    (aC3 : PySem.W.nsIn K mainGlobals "call_range" = some (some (.ref fC3)))
    (lC3 : K.lookup fC3 = some ⟨ocC3, odC3, .func (PySem.W.fnOf "call_range" "call_range" (defArgs sC3) (defBody sC3) (defScope sC3) .none kVC3 dcC3 pmC3 anC3 cdC3 ctC3), slC3⟩)
    (cC3 : PySem.W.codeIn K cdC3 "call_range" = true)
    (kC3 : PySem.W.keepIn K (.ref fC3) = true)
    (aC4 : PySem.W.nsIn K mainGlobals "call_worlds" = some (some (.ref fC4)))
    (lC4 : K.lookup fC4 = some ⟨ocC4, odC4, .func (PySem.W.fnOf "call_worlds" "call_worlds" (defArgs sC4) (defBody sC4) (defScope sC4) .none kVC4 dcC4 pmC4 anC4 cdC4 ctC4), slC4⟩)
    (cC4 : PySem.W.codeIn K cdC4 "call_worlds" = true)
    (kC4 : PySem.W.keepIn K (.ref fC4) = true)
    (aC5 : PySem.W.nsIn K mainGlobals "call_guess" = some (some (.ref fC5)))
    (lC5 : K.lookup fC5 = some ⟨ocC5, odC5, .func (PySem.W.fnOf "call_guess" "call_guess" (defArgs sC5) (defBody sC5) (defScope sC5) .none kVC5 dcC5 pmC5 anC5 cdC5 ctC5), slC5⟩)
    (cC5 : PySem.W.codeIn K cdC5 "call_guess" = true)
    (kC5 : PySem.W.keepIn K (.ref fC5) = true)
    (aC6 : PySem.W.nsIn K mainGlobals "call_both" = some (some (.ref fC6)))
    (lC6 : K.lookup fC6 = some ⟨ocC6, odC6, .func (PySem.W.fnOf "call_both" "call_both" (defArgs sC6) (defBody sC6) (defScope sC6) .none kVC6 dcC6 pmC6 anC6 cdC6 ctC6), slC6⟩)
    (cC6 : PySem.W.codeIn K cdC6 "call_both" = true)
    (kC6 : PySem.W.keepIn K (.ref fC6) = true)
    (aC7 : PySem.W.nsIn K mainGlobals "call_chance" = some (some (.ref fC7)))
    (lC7 : K.lookup fC7 = some ⟨ocC7, odC7, .func (PySem.W.fnOf "call_chance" "call_chance" (defArgs sC7) (defBody sC7) (defScope sC7) .none kVC7 dcC7 pmC7 anC7 cdC7 ctC7), slC7⟩)
    (cC7 : PySem.W.codeIn K cdC7 "call_chance" = true)
    (kC7 : PySem.W.keepIn K (.ref fC7) = true)
    (aC8 : PySem.W.nsIn K mainGlobals "call_log" = some (some (.ref fC8)))
    (lC8 : K.lookup fC8 = some ⟨ocC8, odC8, .func (PySem.W.fnOf "call_log" "call_log" (defArgs sC8) (defBody sC8) (defScope sC8) .none kVC8 dcC8 pmC8 anC8 cdC8 ctC8), slC8⟩)
    (cC8 : PySem.W.codeIn K cdC8 "call_log" = true)
    (kC8 : PySem.W.keepIn K (.ref fC8) = true)
    (aC9 : PySem.W.nsIn K mainGlobals "call_free" = some (some (.ref fC9)))
    (lC9 : K.lookup fC9 = some ⟨ocC9, odC9, .func (PySem.W.fnOf "call_free" "call_free" (defArgs sC9) (defBody sC9) (defScope sC9) .none kVC9 dcC9 pmC9 anC9 cdC9 ctC9), slC9⟩)
    (cC9 : PySem.W.codeIn K cdC9 "call_free" = true)
    (kC9 : PySem.W.keepIn K (.ref fC9) = true)
    (aAN : PySem.W.nsIn K mainGlobals "answers" = some (some (.ref fAN)))
    (lAN : K.lookup fAN = some ⟨ocAN, odAN, .func (PySem.W.fnOf "answers" "answers" (defArgs sAns) (defBody sAns) (defScope sAns) .none kVAN dcAN pmAN anAN cdAN ctAN), slAN⟩)
    (cAN : PySem.W.codeIn K cdAN "answers" = true)
    (kAN : PySem.W.keepIn K (.ref fAN) = true)
    (vwrong : PySem.W.nsIn K mainGlobals "WRONG" = some (some (.int (-1) twrong)))
    (venough : PySem.W.nsIn K mainGlobals "ENOUGH_TOLD" = some (some (.int (-5) tenough)))
    (vgives : PySem.W.nsIn K mainGlobals "GIVES_AWAY" = some (some (.int (-6) tgives)))
    (vpeople : PySem.W.nsIn K mainGlobals "MOST_PEOPLE" = some (some (.int 5 tpeople)))
    (vhigh : PySem.W.nsIn K mainGlobals "HIGHEST_H" = some (some (.int 5 thigh)))
    (vtt : PySem.W.nsIn K mainGlobals "HIGHEST_T" = some (some (.int 20 ttt)))
    (vtold : PySem.W.nsIn K mainGlobals "MOST_TOLD" = some (some (.int 20 ttold)))
    (vsum : PySem.W.nsIn K mainGlobals "TOGETHER" = some (some (.int 0 tsum)))
    (vmost : PySem.W.nsIn K mainGlobals "GREATEST" = some (some (.int 1 tmost)))
    (vleast : PySem.W.nsIn K mainGlobals "LEAST" = some (some (.int 2 tleast)))
    (vmany : PySem.W.nsIn K mainGlobals "HOW_MANY" = some (some (.int 3 tmany)))
    (zlen : PySem.W.nsIn K mainGlobals "len" = some none)
    (zrange : PySem.W.nsIn K mainGlobals "range" = some none)
    (zsorted : PySem.W.nsIn K mainGlobals "sorted" = some none)
    (zset : PySem.W.nsIn K mainGlobals "set" = some none)
    (zmax : PySem.W.nsIn K mainGlobals "max" = some none)
    (zmin : PySem.W.nsIn K mainGlobals "min" = some none)
    (zsum : PySem.W.nsIn K mainGlobals "sum" = some none)
    (zall : PySem.W.nsIn K mainGlobals "all" = some none)
    (ztuple : PySem.W.nsIn K mainGlobals "tuple" = some none)
    (zlist : PySem.W.nsIn K mainGlobals "list" = some none)
    (aT : PySem.W.nsIn K mainGlobals "CALLS" = some (some (.ref tc)))
    (lT : K.lookup tc = some ⟨.type "tuple", odT, .seq #[.ref fC0, .ref fC1, .ref fC2, .ref fC3, .ref fC4, .ref fC5, .ref fC6, .ref fC7, .ref fC8, .ref fC9] nT, slT⟩)
    : ∃ fd : FuncData, (∀ (s : Shared) (us : List Value), us.length = (["calls"] : List Str).length → BindsTo s fd ⟨us, []⟩ ((["calls"] : List Str).zip us)) ∧ ∀ base : Heap, K.In base → base.Ns mainGlobals mg → FnOk P w K mg base CX0 6 fa fd ["calls"] (spAns K) := by
  have e := hfa.symm.trans (PySem.W.mg_of X G aAN)
  cases e
  have B : Blt mg := ⟨PySem.W.mg_none_of X G zlen, PySem.W.mg_none_of X G zrange, PySem.W.mg_none_of X G zsorted, PySem.W.mg_none_of X G zset, PySem.W.mg_none_of X G zmax, PySem.W.mg_none_of X G zmin, PySem.W.mg_none_of X G zsum, PySem.W.mg_none_of X G zall, PySem.W.mg_none_of X G ztuple, PySem.W.mg_none_of X G zlist⟩
  have N : Cst mg := ⟨⟨_, PySem.W.mg_of X G vwrong⟩, ⟨_, PySem.W.mg_of X G venough⟩, ⟨_, PySem.W.mg_of X G vgives⟩, ⟨_, PySem.W.mg_of X G vpeople⟩, ⟨_, PySem.W.mg_of X G vhigh⟩, ⟨_, PySem.W.mg_of X G vtt⟩, ⟨_, PySem.W.mg_of X G vtold⟩, ⟨_, PySem.W.mg_of X G vsum⟩, ⟨_, PySem.W.mg_of X G vmost⟩, ⟨_, PySem.W.mg_of X G vleast⟩, ⟨_, PySem.W.mg_of X G vmany⟩⟩
  have TCQ : TxQ K mg CQ := ⟨⟨pgCQ, hdCQ, poCQ, saCQ⟩, n0CQ, n1CQ, n2CQ⟩
  have TCO : TxO K mg CO := ⟨⟨pgCO, hdCO, poCO, saCO⟩, n0CO, n1CO, n2CO, n3CO⟩
  have TCR : TxR K mg CR := ⟨⟨pgCR, hdCR, poCR, saCR⟩, n0CR, n1CR⟩
  have gQ := PySem.W.mg_of X G aCQ
  have gO := PySem.W.mg_of X G aCO
  have gR := PySem.W.mg_of X G aCR
  have FAW := fun_mk (st := sAll) lAW cAW kAW
  have bAW := FAW.binds (ps := ["size", "h"]) fun _ _ _ _ _ _ us hl => match us, hl with | [_, _], _ => rfl
  have gAW := PySem.W.mg_of X G aAW
  have FDI := fun_mk (st := sDif) lDI cDI kDI
  have bDI := FDI.binds (ps := ["numbers"]) fun _ _ _ _ _ _ us hl => match us, hl with | [_], _ => rfl
  have gDI := PySem.W.mg_of X G aDI
  have FMF := fun_mk (st := sMof) lMF cMF kMF
  have bMF := FMF.binds (ps := ["numbers"]) fun _ _ _ _ _ _ us hl => match us, hl with | [_], _ => rfl
  have gMF := PySem.W.mg_of X G aMF
  have FLT := fun_mk (st := sLow) lLT cLT kLT
  have bLT := FLT.binds (ps := ["above", "below"]) fun _ _ _ _ _ _ us hl => match us, hl with | [_, _], _ => rfl
  have gLT := PySem.W.mg_of X G aLT
  have FCN := fun_mk (st := sCou) lCN cCN kCN
  have bCN := FCN.binds (ps := ["rows"]) fun _ _ _ _ _ _ us hl => match us, hl with | [_], _ => rfl
  have gCN := PySem.W.mg_of X G aCN
  have FLW := fun_mk (st := sLea) lLW cLW kLW
  have bLW := FLW.binds (ps := ["worlds", "p"]) fun _ _ _ _ _ _ us hl => match us, hl with | [_, _], _ => rfl
  have gLW := PySem.W.mg_of X G aLW
  have FQI := fun_mk (st := sQIni) lQI cQI kQI
  have bQI := FQI.binds (ps := ["self", "what", "t", "people"]) fun _ _ _ _ _ _ us hl => match us, hl with | [_, _, _, _], _ => rfl
  have mQI : Meth K CQ "__init__" fQI := ⟨aQI, iQI, kQI⟩
  have FQW := fun_mk (st := sQWro) lQW cQW kQW
  have bQW := FQW.binds (ps := ["self", "size"]) fun _ _ _ _ _ _ us hl => match us, hl with | [_, _], _ => rfl
  have mQW : Meth K CQ "is_wrong" fQW := ⟨aQW, iQW, kQW⟩
  have FQR := fun_mk (st := sQRow) lQR cQR kQR
  have bQR := FQR.binds (ps := ["self"]) fun _ _ _ _ _ _ us hl => match us, hl with | [_], _ => rfl
  have mQR : Meth K CQ "as_row" fQR := ⟨aQR, iQR, kQR⟩
  have FQA := fun_mk (st := sQAns) lQA cQA kQA
  have bQA := FQA.binds (ps := ["self", "world"]) fun _ _ _ _ _ _ us hl => match us, hl with | [_, _], _ => rfl
  have mQA : Meth K CQ "answer_in" fQA := ⟨aQA, iQA, kQA⟩
  have FQP := fun_mk (st := sQPar) lQP cQP kQP
  have bQP := FQP.binds (ps := ["self", "worlds"]) fun _ _ _ _ _ _ us hl => match us, hl with | [_, _], _ => rfl
  have mQP : Meth K CQ "parts" fQP := ⟨aQP, iQP, kQP⟩
  have FOI := fun_mk (st := sOIni) lOI cOI kOI
  have bOI := FOI.binds (ps := ["self"]) fun _ _ _ _ _ _ us hl => match us, hl with | [_], _ => rfl
  have mOI : Meth K CO "__init__" fOI := ⟨aOI, iOI, kOI⟩
  have FOB := fun_mk (st := sOBeg) lOB cOB kOB
  have bOB := FOB.binds (ps := ["self", "h", "p", "numbers"]) fun _ _ _ _ _ _ us hl => match us, hl with | [_, _, _, _], _ => rfl
  have mOB : Meth K CO "begin" fOB := ⟨aOB, iOB, kOB⟩
  have FOS := fun_mk (st := sOSiz) lOS cOS kOS
  have bOS := FOS.binds (ps := ["self"]) fun _ _ _ _ _ _ us hl => match us, hl with | [_], _ => rfl
  have mOS : Meth K CO "size" fOS := ⟨aOS, iOS, kOS⟩
  have FOH := fun_mk (st := sOHas) lOH cOH kOH
  have bOH := FOH.binds (ps := ["self", "i"]) fun _ _ _ _ _ _ us hl => match us, hl with | [_, _], _ => rfl
  have mOH : Meth K CO "has_person" fOH := ⟨aOH, iOH, kOH⟩
  have FOM := fun_mk (st := sOMay) lOM cOM kOM
  have bOM := FOM.binds (ps := ["self", "i"]) fun _ _ _ _ _ _ us hl => match us, hl with | [_, _], _ => rfl
  have mOM : Meth K CO "might_have" fOM := ⟨aOM, iOM, kOM⟩
  have FOT := fun_mk (st := sOTel) lOT cOT kOT
  have bOT := FOT.binds (ps := ["self", "parts"]) fun _ _ _ _ _ _ us hl => match us, hl with | [_, _], _ => rfl
  have mOT : Meth K CO "would_tell" fOT := ⟨aOT, iOT, kOT⟩
  have FOF := fun_mk (st := sOFou) lOF cOF kOF
  have bOF := FOF.binds (ps := ["self", "h", "p", "numbers"]) fun _ _ _ _ _ _ us hl => match us, hl with | [_, _, _, _], _ => rfl
  have mOF : Meth K CO "found" fOF := ⟨aOF, iOF, kOF⟩
  have FOA := fun_mk (st := sOAsk) lOA cOA kOA
  have bOA := FOA.binds (ps := ["self", "question"]) fun _ _ _ _ _ _ us hl => match us, hl with | [_, _], _ => rfl
  have mOA : Meth K CO "ask" fOA := ⟨aOA, iOA, kOA⟩
  have FOW := fun_mk (st := sOWou) lOW cOW kOW
  have bOW := FOW.binds (ps := ["self", "question"]) fun _ _ _ _ _ _ us hl => match us, hl with | [_, _], _ => rfl
  have mOW : Meth K CO "would" fOW := ⟨aOW, iOW, kOW⟩
  have FOR := fun_mk (st := sORan) lOR cOR kOR
  have bOR := FOR.binds (ps := ["self", "i"]) fun _ _ _ _ _ _ us hl => match us, hl with | [_, _], _ => rfl
  have mOR : Meth K CO "range_of" fOR := ⟨aOR, iOR, kOR⟩
  have FOX := fun_mk (st := sOWor) lOX cOX kOX
  have bOX := FOX.binds (ps := ["self"]) fun _ _ _ _ _ _ us hl => match us, hl with | [_], _ => rfl
  have mOX : Meth K CO "worlds" fOX := ⟨aOX, iOX, kOX⟩
  have FOG := fun_mk (st := sOGue) lOG cOG kOG
  have bOG := FOG.binds (ps := ["self", "i"]) fun _ _ _ _ _ _ us hl => match us, hl with | [_, _], _ => rfl
  have mOG : Meth K CO "guess" fOG := ⟨aOG, iOG, kOG⟩
  have FOO := fun_mk (st := sOBot) lOO cOO kOO
  have bOO := FOO.binds (ps := ["self", "i", "j"]) fun _ _ _ _ _ _ us hl => match us, hl with | [_, _, _], _ => rfl
  have mOO : Meth K CO "both" fOO := ⟨aOO, iOO, kOO⟩
  have FOC := fun_mk (st := sOCha) lOC cOC kOC
  have bOC := FOC.binds (ps := ["self", "question", "v"]) fun _ _ _ _ _ _ us hl => match us, hl with | [_, _, _], _ => rfl
  have mOC : Meth K CO "chance" fOC := ⟨aOC, iOC, kOC⟩
  have FOL := fun_mk (st := sOLog) lOL cOL kOL
  have bOL := FOL.binds (ps := ["self"]) fun _ _ _ _ _ _ us hl => match us, hl with | [_], _ => rfl
  have mOL : Meth K CO "log" fOL := ⟨aOL, iOL, kOL⟩
  have FOE := fun_mk (st := sOFre) lOE cOE kOE
  have bOE := FOE.binds (ps := ["self"]) fun _ _ _ _ _ _ us hl => match us, hl with | [_], _ => rfl
  have mOE : Meth K CO "free" fOE := ⟨aOE, iOE, kOE⟩
  have FRI := fun_mk (st := sRIni) lRI cRI kRI
  have bRI := FRI.binds (ps := ["self", "numbers"]) fun _ _ _ _ _ _ us hl => match us, hl with | [_, _], _ => rfl
  have mRI : Meth K CR "__init__" fRI := ⟨aRI, iRI, kRI⟩
  have FRE := fun_mk (st := sREnd) lRE cRE kRE
  have bRE := FRE.binds (ps := ["self"]) fun _ _ _ _ _ _ us hl => match us, hl with | [_], _ => rfl
  have mRE : Meth K CR "at_end" fRE := ⟨aRE, iRE, kRE⟩
  have FR1 := fun_mk (st := sROne) lR1 cR1 kR1
  have bR1 := FR1.binds (ps := ["self"]) fun _ _ _ _ _ _ us hl => match us, hl with | [_], _ => rfl
  have mR1 : Meth K CR "one" fR1 := ⟨aR1, iR1, kR1⟩
  have FRR := fun_mk (st := sRRow) lRR cRR kRR
  have bRR := FRR.binds (ps := ["self"]) fun _ _ _ _ _ _ us hl => match us, hl with | [_], _ => rfl
  have mRR : Meth K CR "row" fRR := ⟨aRR, iRR, kRR⟩
  have FRQ := fun_mk (st := sRQue) lRQ cRQ kRQ
  have bRQ := FRQ.binds (ps := ["self"]) fun _ _ _ _ _ _ us hl => match us, hl with | [_], _ => rfl
  have mRQ : Meth K CR "question" fRQ := ⟨aRQ, iRQ, kRQ⟩
  have FC0 := fun_mk (st := sC0) lC0 cC0 kC0
  have bC0 := FC0.binds (ps := ["office", "reader"]) fun _ _ _ _ _ _ us hl => match us, hl with | [_, _], _ => rfl
  have gC0 := PySem.W.mg_of X G aC0
  have FC1 := fun_mk (st := sC1) lC1 cC1 kC1
  have bC1 := FC1.binds (ps := ["office", "reader"]) fun _ _ _ _ _ _ us hl => match us, hl with | [_, _], _ => rfl
  have gC1 := PySem.W.mg_of X G aC1
  have FC2 := fun_mk (st := sC2) lC2 cC2 kC2
  have bC2 := FC2.binds (ps := ["office", "reader"]) fun _ _ _ _ _ _ us hl => match us, hl with | [_, _], _ => rfl
  have gC2 := PySem.W.mg_of X G aC2
  have FC3 := fun_mk (st := sC3) lC3 cC3 kC3
  have bC3 := FC3.binds (ps := ["office", "reader"]) fun _ _ _ _ _ _ us hl => match us, hl with | [_, _], _ => rfl
  have gC3 := PySem.W.mg_of X G aC3
  have FC4 := fun_mk (st := sC4) lC4 cC4 kC4
  have bC4 := FC4.binds (ps := ["office", "reader"]) fun _ _ _ _ _ _ us hl => match us, hl with | [_, _], _ => rfl
  have gC4 := PySem.W.mg_of X G aC4
  have FC5 := fun_mk (st := sC5) lC5 cC5 kC5
  have bC5 := FC5.binds (ps := ["office", "reader"]) fun _ _ _ _ _ _ us hl => match us, hl with | [_, _], _ => rfl
  have gC5 := PySem.W.mg_of X G aC5
  have FC6 := fun_mk (st := sC6) lC6 cC6 kC6
  have bC6 := FC6.binds (ps := ["office", "reader"]) fun _ _ _ _ _ _ us hl => match us, hl with | [_, _], _ => rfl
  have gC6 := PySem.W.mg_of X G aC6
  have FC7 := fun_mk (st := sC7) lC7 cC7 kC7
  have bC7 := FC7.binds (ps := ["office", "reader"]) fun _ _ _ _ _ _ us hl => match us, hl with | [_, _], _ => rfl
  have gC7 := PySem.W.mg_of X G aC7
  have FC8 := fun_mk (st := sC8) lC8 cC8 kC8
  have bC8 := FC8.binds (ps := ["office", "reader"]) fun _ _ _ _ _ _ us hl => match us, hl with | [_, _], _ => rfl
  have gC8 := PySem.W.mg_of X G aC8
  have FC9 := fun_mk (st := sC9) lC9 cC9 kC9
  have bC9 := FC9.binds (ps := ["office", "reader"]) fun _ _ _ _ _ _ us hl => match us, hl with | [_, _], _ => rfl
  have gC9 := PySem.W.mg_of X G aC9
  have FAN := fun_mk (st := sAns) lAN cAN kAN
  have bAN := FAN.binds (ps := ["calls"]) fun _ _ _ _ _ _ us hl => match us, hl with | [_], _ => rfl
  have gAN := PySem.W.mg_of X G aAN
  have MQ : Mk K CQ fQI := ⟨mkCQ, aQI, iQI, kcCQ⟩
  have MO : Mk K CO fOI := ⟨mkCO, aOI, iOI, kcCO⟩
  have MR : Mk K CR fRI := ⟨mkCR, aRI, iRI, kcCR⟩
  refine ⟨PySem.W.fnOf "answers" "answers" (defArgs sAns) (defBody sAns) (defScope sAns) .none kVAN dcAN pmAN anAN cdAN ctAN, fun s us hu => match us, hu with | [_], _ => .of_eq rfl, fun base _ _ => ?_⟩
  have GAW : FnOk P w K mg base CX0 1 fAW _ ["size", "h"] (spAll K) := ok_all FAW B
  have GDI : FnOk P w K mg base CX0 1 fDI _ ["numbers"] (spDif K) := ok_dif FDI B
  have GMF : FnOk P w K mg base CX0 1 fMF _ ["numbers"] (spMof K) := ok_mof FMF B
  have GLT : FnOk P w K mg base CX0 1 fLT _ ["above", "below"] (spLow K) := ok_low FLT B
  have GCN : FnOk P w K mg base CX0 1 fCN _ ["rows"] (spCou K) := ok_cou FCN B
  have GLW : FnOk P w K mg base CX0 1 fLW _ ["worlds", "p"] (spLea K) := ok_lea FLW B
  have GQI : FnOk P w K mg base CX0 1 fQI _ ["self", "what", "t", "people"] (spQIni K CQ) := ok_qini FQI TCQ
  have GQW : FnOk P w K mg base CX0 1 fQW _ ["self", "size"] (spQWro K CQ) := ok_qwro FQW TCQ B N
  have GQR : FnOk P w K mg base CX0 1 fQR _ ["self"] (spQRow K CQ) := ok_qrow FQR TCQ B
  have GQA : FnOk P w K mg base CX0 1 fQA _ ["self", "world"] (spQAns K CQ) := ok_qans FQA TCQ B N
  have GQP : FnOk P w K mg base CX0 2 fQP _ ["self", "worlds"] (spQPar K CQ) := ok_qpar FQP TCQ GQA bQA mQA
  have GOS : FnOk P w K mg base CX0 1 fOS _ ["self"] (spOSiz K CO) := ok_osiz FOS TCO B
  have GOH : FnOk P w K mg base CX0 2 fOH _ ["self", "i"] (spOHas K CO) := ok_ohas FOH TCO GOS bOS mOS
  have GOM : FnOk P w K mg base CX0 1 fOM _ ["self", "i"] (spOMay K CO) := ok_omay FOM TCO B
  have GOX : FnOk P w K mg base CX0 1 fOX _ ["self"] (spOWor K CO) := ok_owor FOX TCO B
  have GOT : FnOk P w K mg base CX0 2 fOT _ ["self", "parts"] (spOTel K CO) := ok_otel FOT TCO B GLW gLW kLW bLW
  have GOB : FnOk P w K mg base CX0 2 fOB _ ["self", "h", "p", "numbers"] (spOBeg K CO) := ok_obeg FOB TCO B GAW gAW kAW bAW
  have GOI : FnOk P w K mg base CX0 3 fOI _ ["self"] (spOIni (Off K CO) CO) := ok_oini FOI TCO GOB bOB mOB
  have GOF : FnOk P w K mg base CX0 3 fOF _ ["self", "h", "p", "numbers"] (spOFou K CO) := ok_ofou FOF TCO B N GOB bOB mOB GOX bOX mOX
  have GOA : FnOk P w K mg base CX0 3 fOA _ ["self", "question"] (spOAsk K CO CQ) := ok_oask FOA TCO TCQ B N GOS bOS mOS GQW bQW mQW GQP bQP mQP GOT bOT mOT GQA bQA mQA GQR bQR mQR
  have GOW : FnOk P w K mg base CX0 3 fOW _ ["self", "question"] (spOWou K CO CQ) := ok_owou FOW TCO TCQ B N GOS bOS mOS GQW bQW mQW GQP bQP mQP GOT bOT mOT GDI gDI kDI bDI
  have GOR : FnOk P w K mg base CX0 3 fOR _ ["self", "i"] (spORan K CO) := ok_oran FOR TCO B N GOH bOH mOH GOM bOM mOM GDI gDI kDI bDI
  have GOG : FnOk P w K mg base CX0 3 fOG _ ["self", "i"] (spOGue K CO) := ok_ogue FOG TCO B N GOH bOH mOH GOM bOM mOM GMF gMF kMF bMF GLT gLT kLT bLT
  have GOO : FnOk P w K mg base CX0 3 fOO _ ["self", "i", "j"] (spOBot K CO) := ok_obot FOO TCO B N GOH bOH mOH GCN gCN kCN bCN
  have GOC : FnOk P w K mg base CX0 3 fOC _ ["self", "question", "v"] (spOCha K CO CQ) := ok_ocha FOC TCO TCQ B N GOS bOS mOS GQW bQW mQW GQA bQA mQA GLT gLT kLT bLT
  have GOL : FnOk P w K mg base CX0 3 fOL _ ["self"] (spOLog K CO) := ok_olog FOL TCO B GCN gCN kCN bCN
  have GOE : FnOk P w K mg base CX0 3 fOE _ ["self"] (spOFre K CO) := ok_ofre FOE TCO TCQ B N gQ GOS bOS mOS MQ GQI bQI GQP bQP mQP GOT bOT mOT GCN gCN kCN bCN
  have GRI : FnOk P w K mg base CX0 1 fRI _ ["self", "numbers"] (spRIni K CR) := ok_rini FRI TCR
  have GRE : FnOk P w K mg base CX0 1 fRE _ ["self"] (spREnd K CR) := ok_rend FRE TCR B
  have GR1 : FnOk P w K mg base CX0 1 fR1 _ ["self"] (spROne K CR) := ok_rone FR1 TCR
  have GRR : FnOk P w K mg base CX0 2 fRR _ ["self"] (spRRow K CR) := ok_rrow FRR TCR GR1 bR1 mR1
  have GRQ : FnOk P w K mg base CX0 3 fRQ _ ["self"] (spRQue K CR CQ) := ok_rque FRQ TCR gQ GR1 bR1 mR1 GRR bRR mRR MQ GQI bQI
  have GC0 : FnOk P w K mg base CX0 5 fC0 _ nC (spCall (Off K CO) K CR 0) := ok_c0 FC0 TCR TCO GR1 bR1 mR1 GRR bRR mRR GOF bOF mOF
  have GC1 : FnOk P w K mg base CX0 5 fC1 _ nC (spCall (Off K CO) K CR 1) := ok_c1 FC1 TCR TCO GRQ bRQ mRQ GOA bOA mOA
  have GC2 : FnOk P w K mg base CX0 5 fC2 _ nC (spCall (Off K CO) K CR 2) := ok_c2 FC2 TCR TCO GRQ bRQ mRQ GOW bOW mOW
  have GC3 : FnOk P w K mg base CX0 5 fC3 _ nC (spCall (Off K CO) K CR 3) := ok_c3 FC3 TCR TCO GR1 bR1 mR1 GOR bOR mOR
  have GC4 : FnOk P w K mg base CX0 5 fC4 _ nC (spCall (Off K CO) K CR 4) := ok_c4 FC4 TCO GOX bOX mOX
  have GC5 : FnOk P w K mg base CX0 5 fC5 _ nC (spCall (Off K CO) K CR 5) := ok_c5 FC5 TCR TCO GR1 bR1 mR1 GOG bOG mOG
  have GC6 : FnOk P w K mg base CX0 5 fC6 _ nC (spCall (Off K CO) K CR 6) := ok_c6 FC6 TCR TCO GR1 bR1 mR1 GOO bOO mOO
  have GC7 : FnOk P w K mg base CX0 5 fC7 _ nC (spCall (Off K CO) K CR 7) := ok_c7 FC7 TCR TCO gQ GR1 bR1 mR1 GRR bRR mRR MQ GQI bQI GOC bOC mOC
  have GC8 : FnOk P w K mg base CX0 5 fC8 _ nC (spCall (Off K CO) K CR 8) := ok_c8 FC8 TCO GOL bOL mOL
  have GC9 : FnOk P w K mg base CX0 5 fC9 _ nC (spCall (Off K CO) K CR 9) := ok_c9 FC9 TCO GOE bOE mOE
  have CA : CallsAt P w K mg base (Off K CO) CR 5 tc [fC0, fC1, fC2, fC3, fC4, fC5, fC6, fC7, fC8, fC9] := by
    refine ⟨PySem.W.mg_of X G aT, fun H => .inr ⟨_, _, _, lT, rfl, rfl, ?_, ?_⟩, ?_, fun j f hj => ?_⟩
    · show 10 ≤ sizeLine
      decide
    · exact (.cons rfl (.cons rfl (.cons rfl (.cons rfl (.cons rfl (.cons rfl (.cons rfl (.cons rfl (.cons rfl (.cons rfl .nil))))))))))
    · refine L2.nodup_of_map (f := nmOf K) ?_
      simp only [List.map_cons, List.map_nil]
      rw [nm_of lC0, nm_of lC1, nm_of lC2, nm_of lC3, nm_of lC4, nm_of lC5, nm_of lC6, nm_of lC7, nm_of lC8, nm_of lC9]
      show ([some ("call_found" : Str), some ("call_ask" : Str), some ("call_would" : Str), some ("call_range" : Str), some ("call_worlds" : Str), some ("call_guess" : Str), some ("call_both" : Str), some ("call_chance" : Str), some ("call_log" : Str), some ("call_free" : Str)] : List (Option Str)).Nodup
      decide +kernel
    · match j, hj with
      | 0, hj => exact Option.some.inj hj ▸ ⟨_, _, GC0, kC0, bC0⟩
      | 1, hj => exact Option.some.inj hj ▸ ⟨_, _, GC1, kC1, bC1⟩
      | 2, hj => exact Option.some.inj hj ▸ ⟨_, _, GC2, kC2, bC2⟩
      | 3, hj => exact Option.some.inj hj ▸ ⟨_, _, GC3, kC3, bC3⟩
      | 4, hj => exact Option.some.inj hj ▸ ⟨_, _, GC4, kC4, bC4⟩
      | 5, hj => exact Option.some.inj hj ▸ ⟨_, _, GC5, kC5, bC5⟩
      | 6, hj => exact Option.some.inj hj ▸ ⟨_, _, GC6, kC6, bC6⟩
      | 7, hj => exact Option.some.inj hj ▸ ⟨_, _, GC7, kC7, bC7⟩
      | 8, hj => exact Option.some.inj hj ▸ ⟨_, _, GC8, kC8, bC8⟩
      | 9, hj => exact Option.some.inj hj ▸ ⟨_, _, GC9, kC9, bC9⟩
  exact ok_ans FAN (off_ok K CO) TCR B gO gR (Nat.le_refl 5) MO GOI bOI MR GRI bRI GRE bRE mRE GR1 bR1 mR1 CA rfl
end Lo
open PySem PySem.W PyProof.Rows
set_option maxRecDepth 100000 in
set_option maxHeartbeats 0 in
theorem PySem.Challenge.cw_leftopen_s01_answers_holds : PySem.Challenge.rw_leftopen_s01_answers.Holds := by
  w_on; k_headS; (case hw => exact ⟨[.list [.int 4]], by decide +kernel, by decide +kernel⟩)
  k_fillS
  refine L2.walk_specK (r := PySem.Challenge.rw_leftopen_s01_answers) (k := 6) (CX := L2.CX0) (ps := ["calls"]) (sp := Lo.spAns) (by decide +kernel) rfl rfl ⟨rfl, by decide, by decide⟩ (fun w h Y => PySem.W.kIn_of Y) ?F (fun K H xs a hO hwi hask hx => Lo.request K H xs a hO hwi hask hx) (fun _ _ _ _ z => z)
  case F =>
    intro w mg fa h Y KX G hmg
    refine' Lo.all_mk KX G hmg ?aCQ ?pgCQ ?hdCQ ?poCQ ?saCQ ?mkCQ ?kcCQ ?n0CQ ?n1CQ ?n2CQ ?aCO ?pgCO ?hdCO ?poCO ?saCO ?mkCO ?kcCO ?n0CO ?n1CO ?n2CO ?n3CO ?aCR ?pgCR ?hdCR ?poCR ?saCR ?mkCR ?kcCR ?n0CR ?n1CR ?aAW ?lAW ?cAW ?kAW ?aDI ?lDI ?cDI ?kDI ?aMF ?lMF ?cMF ?kMF ?aLT ?lLT ?cLT ?kLT ?aCN ?lCN ?cCN ?kCN ?aLW ?lLW ?cLW ?kLW ?aQI ?iQI ?lQI ?cQI ?kQI ?aQW ?iQW ?lQW ?cQW ?kQW ?aQR ?iQR ?lQR ?cQR ?kQR ?aQA ?iQA ?lQA ?cQA ?kQA ?aQP ?iQP ?lQP ?cQP ?kQP ?aOI ?iOI ?lOI ?cOI ?kOI ?aOB ?iOB ?lOB ?cOB ?kOB ?aOS ?iOS ?lOS ?cOS ?kOS ?aOH ?iOH ?lOH ?cOH ?kOH ?aOM ?iOM ?lOM ?cOM ?kOM ?aOT ?iOT ?lOT ?cOT ?kOT ?aOF ?iOF ?lOF ?cOF ?kOF ?aOA ?iOA ?lOA ?cOA ?kOA ?aOW ?iOW ?lOW ?cOW ?kOW ?aOR ?iOR ?lOR ?cOR ?kOR ?aOX ?iOX ?lOX ?cOX ?kOX ?aOG ?iOG ?lOG ?cOG ?kOG ?aOO ?iOO ?lOO ?cOO ?kOO ?aOC ?iOC ?lOC ?cOC ?kOC ?aOL ?iOL ?lOL ?cOL ?kOL ?aOE ?iOE ?lOE ?cOE ?kOE ?aRI ?iRI ?lRI ?cRI ?kRI ?aRE ?iRE ?lRE ?cRE ?kRE ?aR1 ?iR1 ?lR1 ?cR1 ?kR1 ?aRR ?iRR ?lRR ?cRR ?kRR ?aRQ ?iRQ ?lRQ ?cRQ ?kRQ ?aC0 ?lC0 ?cC0 ?kC0 ?aC1 ?lC1 ?cC1 ?kC1 ?aC2 ?lC2 ?cC2 ?kC2 ?aC3 ?lC3 ?cC3 ?kC3 ?aC4 ?lC4 ?cC4 ?kC4 ?aC5 ?lC5 ?cC5 ?kC5 ?aC6 ?lC6 ?cC6 ?kC6 ?aC7 ?lC7 ?cC7 ?kC7 ?aC8 ?lC8 ?cC8 ?kC8 ?aC9 ?lC9 ?cC9 ?kC9 ?aAN ?lAN ?cAN ?kAN ?vwrong ?venough ?vgives ?vpeople ?vhigh ?vtt ?vtold ?vsum ?vmost ?vleast ?vmany ?zlen ?zrange ?zsorted ?zset ?zmax ?zmin ?zsum ?zall ?ztuple ?zlist ?aT ?lT
    (case aCQ => k_is)
    (case pgCQ => k_is)
    (case hdCQ => k_is)
    (case poCQ => k_is)
    (case saCQ => k_is)
    (case mkCQ => k_is)
    (case kcCQ => k_is)
    (case n0CQ => k_is)
    (case n1CQ => k_is)
    (case n2CQ => k_is)
    (case aCO => k_is)
    (case pgCO => k_is)
    (case hdCO => k_is)
    (case poCO => k_is)
    (case saCO => k_is)
    (case mkCO => k_is)
    (case kcCO => k_is)
    (case n0CO => k_is)
    (case n1CO => k_is)
    (case n2CO => k_is)
    (case n3CO => k_is)
    (case aCR => k_is)
    (case pgCR => k_is)
    (case hdCR => k_is)
    (case poCR => k_is)
    (case saCR => k_is)
    (case mkCR => k_is)
    (case kcCR => k_is)
    (case n0CR => k_is)
    (case n1CR => k_is)
    (case aAW => k_is)
    (case lAW => k_is)
    (case cAW => k_is)
    (case kAW => k_is)
    (case aDI => k_is)
    (case lDI => k_is)
    (case cDI => k_is)
    (case kDI => k_is)
    (case aMF => k_is)
    (case lMF => k_is)
    (case cMF => k_is)
    (case kMF => k_is)
    (case aLT => k_is)
    (case lLT => k_is)
    (case cLT => k_is)
    (case kLT => k_is)
    (case aCN => k_is)
    (case lCN => k_is)
    (case cCN => k_is)
    (case kCN => k_is)
    (case aLW => k_is)
    (case lLW => k_is)
    (case cLW => k_is)
    (case kLW => k_is)
    (case aQI => k_is)
    (case iQI => k_is)
    (case lQI => k_is)
    (case cQI => k_is)
    (case kQI => k_is)
    (case aQW => k_is)
    (case iQW => k_is)
    (case lQW => k_is)
    (case cQW => k_is)
    (case kQW => k_is)
    (case aQR => k_is)
    (case iQR => k_is)
    (case lQR => k_is)
    (case cQR => k_is)
    (case kQR => k_is)
    (case aQA => k_is)
    (case iQA => k_is)
    (case lQA => k_is)
    (case cQA => k_is)
    (case kQA => k_is)
    (case aQP => k_is)
    (case iQP => k_is)
    (case lQP => k_is)
    (case cQP => k_is)
    (case kQP => k_is)
    (case aOI => k_is)
    (case iOI => k_is)
    (case lOI => k_is)
    (case cOI => k_is)
    (case kOI => k_is)
    (case aOB => k_is)
    (case iOB => k_is)
    (case lOB => k_is)
    (case cOB => k_is)
    (case kOB => k_is)
    (case aOS => k_is)
    (case iOS => k_is)
    (case lOS => k_is)
    (case cOS => k_is)
    (case kOS => k_is)
    (case aOH => k_is)
    (case iOH => k_is)
    (case lOH => k_is)
    (case cOH => k_is)
    (case kOH => k_is)
    (case aOM => k_is)
    (case iOM => k_is)
    (case lOM => k_is)
    (case cOM => k_is)
    (case kOM => k_is)
    (case aOT => k_is)
    (case iOT => k_is)
    (case lOT => k_is)
    (case cOT => k_is)
    (case kOT => k_is)
    (case aOF => k_is)
    (case iOF => k_is)
    (case lOF => k_is)
    (case cOF => k_is)
    (case kOF => k_is)
    (case aOA => k_is)
    (case iOA => k_is)
    (case lOA => k_is)
    (case cOA => k_is)
    (case kOA => k_is)
    (case aOW => k_is)
    (case iOW => k_is)
    (case lOW => k_is)
    (case cOW => k_is)
    (case kOW => k_is)
    (case aOR => k_is)
    (case iOR => k_is)
    (case lOR => k_is)
    (case cOR => k_is)
    (case kOR => k_is)
    (case aOX => k_is)
    (case iOX => k_is)
    (case lOX => k_is)
    (case cOX => k_is)
    (case kOX => k_is)
    (case aOG => k_is)
    (case iOG => k_is)
    (case lOG => k_is)
    (case cOG => k_is)
    (case kOG => k_is)
    (case aOO => k_is)
    (case iOO => k_is)
    (case lOO => k_is)
    (case cOO => k_is)
    (case kOO => k_is)
    (case aOC => k_is)
    (case iOC => k_is)
    (case lOC => k_is)
    (case cOC => k_is)
    (case kOC => k_is)
    (case aOL => k_is)
    (case iOL => k_is)
    (case lOL => k_is)
    (case cOL => k_is)
    (case kOL => k_is)
    (case aOE => k_is)
    (case iOE => k_is)
    (case lOE => k_is)
    (case cOE => k_is)
    (case kOE => k_is)
    (case aRI => k_is)
    (case iRI => k_is)
    (case lRI => k_is)
    (case cRI => k_is)
    (case kRI => k_is)
    (case aRE => k_is)
    (case iRE => k_is)
    (case lRE => k_is)
    (case cRE => k_is)
    (case kRE => k_is)
    (case aR1 => k_is)
    (case iR1 => k_is)
    (case lR1 => k_is)
    (case cR1 => k_is)
    (case kR1 => k_is)
    (case aRR => k_is)
    (case iRR => k_is)
    (case lRR => k_is)
    (case cRR => k_is)
    (case kRR => k_is)
    (case aRQ => k_is)
    (case iRQ => k_is)
    (case lRQ => k_is)
    (case cRQ => k_is)
    (case kRQ => k_is)
    (case aC0 => k_is)
    (case lC0 => k_is)
    (case cC0 => k_is)
    (case kC0 => k_is)
    (case aC1 => k_is)
    (case lC1 => k_is)
    (case cC1 => k_is)
    (case kC1 => k_is)
    (case aC2 => k_is)
    (case lC2 => k_is)
    (case cC2 => k_is)
    (case kC2 => k_is)
    (case aC3 => k_is)
    (case lC3 => k_is)
    (case cC3 => k_is)
    (case kC3 => k_is)
    (case aC4 => k_is)
    (case lC4 => k_is)
    (case cC4 => k_is)
    (case kC4 => k_is)
    (case aC5 => k_is)
    (case lC5 => k_is)
    (case cC5 => k_is)
    (case kC5 => k_is)
    (case aC6 => k_is)
    (case lC6 => k_is)
    (case cC6 => k_is)
    (case kC6 => k_is)
    (case aC7 => k_is)
    (case lC7 => k_is)
    (case cC7 => k_is)
    (case kC7 => k_is)
    (case aC8 => k_is)
    (case lC8 => k_is)
    (case cC8 => k_is)
    (case kC8 => k_is)
    (case aC9 => k_is)
    (case lC9 => k_is)
    (case cC9 => k_is)
    (case kC9 => k_is)
    (case aAN => k_is)
    (case lAN => k_is)
    (case cAN => k_is)
    (case kAN => k_is)
    (case vwrong => k_is)
    (case venough => k_is)
    (case vgives => k_is)
    (case vpeople => k_is)
    (case vhigh => k_is)
    (case vtt => k_is)
    (case vtold => k_is)
    (case vsum => k_is)
    (case vmost => k_is)
    (case vleast => k_is)
    (case vmany => k_is)
    (case zlen => k_is)
    (case zrange => k_is)
    (case zsorted => k_is)
    (case zset => k_is)
    (case zmax => k_is)
    (case zmin => k_is)
    (case zsum => k_is)
    (case zall => k_is)
    (case ztuple => k_is)
    (case zlist => k_is)
    (case aT => k_is)
    (case lT => k_is)
