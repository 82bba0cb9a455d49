import PyProof.Rows.All
import Wide.All
import OpenK.AllK
import Wide.FinOn
import Open.SpecLaws
import KE.OsHead
import KE.OsGo
import HandS.ForSpec
import HandS.Comp
import HandS.Iter
import HandS.Walk
import HandS.Wide
import HandS.SortInts
import HandS.SortKw
import HandS.Codes
import HandS.Evl
import HandS.Conv
import KE.KMinKey
import KE.KTurns
import KE.KSortKeySt
import HandS.Lambda
import HandS.Nested
import HandS.NestedK
import PyFlatLaws
import HandS.EndTab
import PySem.Challenge.RW_plantshand_s01_answers
section
open VwNum VwHand
namespace Ph

/-! ### sums -/
theorem total_from (l : List Nat) : ∀ a : Nat, l.foldl (fun (a b : Nat) => a + b) a = a + total l := by
  induction l with
  | nil => intro a; rfl
  | cons x r ih =>
    intro a
    have e : total (x :: r) = x + total r := by
      show r.foldl (fun (a b : Nat) => a + b) (0 + x) = _
      rw [ih]; omega
    rw [e]
    show r.foldl (fun (a b : Nat) => a + b) (a + x) = _
    rw [ih]; omega
theorem total_nil : total [] = 0 := rfl
theorem total_cons (x : Nat) (r : List Nat) : total (x :: r) = x + total r := by
  show r.foldl (fun (a b : Nat) => a + b) (0 + x) = _
  rw [total_from]; omega
theorem total_append (l r : List Nat) : total (l ++ r) = total l + total r := by
  induction l with
  | nil => simp [total_nil]
  | cons x l ih => simp only [List.cons_append, total_cons, ih]; omega
theorem total_perm {l r : List Nat} (p : l.Perm r) : total l = total r := by
  induction p with
  | nil => rfl
  | cons x _ ih => simp only [total_cons, ih]
  | swap x y l => simp only [total_cons]; omega
  | trans _ _ a b => exact a.trans b

/-- what the givers of some classes have, none counted above v -/
def sm (mine : Nat → Bool) (v : Nat) : List Nat → List Nat → Nat
  | k :: cls, a :: x => (if mine k = true then min a v else 0) + sm mine v cls x
  | _, _ => 0
/-- how many of some classes have more than v -/
def ab (mine : Nat → Bool) (v : Nat) : List Nat → List Nat → Nat
  | k :: cls, a :: x => (if mine k = true ∧ v < a then 1 else 0) + ab mine v cls x
  | _, _ => 0
def st (mine : Nat → Bool) : List Nat → List Nat → Nat
  | k :: cls, a :: x => (if mine k = true then a else 0) + st mine cls x
  | _, _ => 0
def own (mine : Nat → Bool) (cls c : List Nat) : List Nat := (cls.zip c).filterMap fun (y : Nat × Nat) => if mine y.1 = true then some y.2 else none

theorem own_cons (mine : Nat → Bool) (k : Nat) (cls : List Nat) (a : Nat) (c : List Nat) : own mine (k :: cls) (a :: c) = if mine k = true then a :: own mine cls c else own mine cls c := by
  unfold own
  rw [List.zip_cons_cons, List.filterMap_cons]
  by_cases h : mine k = true
  · simp [h]
  · simp [h]
theorem own_nil (mine : Nat → Bool) (c : List Nat) : own mine [] c = [] := by simp [own]
theorem own_nil' (mine : Nat → Bool) (cls : List Nat) : own mine cls [] = [] := by simp [own]

def capT (v : Nat) (s : List Nat) : Nat := total (s.map fun a => min a v)
def abv (v : Nat) (s : List Nat) : Nat := (s.filter fun a => decide (v < a)).length
theorem capT_cons (v a : Nat) (s : List Nat) : capT v (a :: s) = min a v + capT v s := by
  unfold capT; rw [List.map_cons, total_cons]
theorem abv_cons (v a : Nat) (s : List Nat) : abv v (a :: s) = (if v < a then 1 else 0) + abv v s := by
  unfold abv
  by_cases h : v < a
  · simp [h]; omega
  · simp [h]
theorem capT_perm {v : Nat} {l r : List Nat} (p : l.Perm r) : capT v l = capT v r := total_perm (p.map _)
theorem abv_perm {v : Nat} {l r : List Nat} (p : l.Perm r) : abv v l = abv v r := (p.filter _).length_eq

theorem capT_own (mine : Nat → Bool) (v : Nat) : ∀ cls c : List Nat, capT v (own mine cls c) = sm mine v cls c
  | [], c => by rw [own_nil]; simp [sm, capT, total_nil]
  | k :: cls, [] => by rw [own_nil']; simp [sm, capT, total_nil]
  | k :: cls, a :: c => by
    rw [own_cons, sm]
    by_cases h : mine k = true
    · rw [if_pos h, if_pos h, capT_cons, capT_own]
    · rw [if_neg h, if_neg h, capT_own]; omega
theorem abv_own (mine : Nat → Bool) (v : Nat) : ∀ cls c : List Nat, abv v (own mine cls c) = ab mine v cls c
  | [], c => by rw [own_nil]; simp [ab, abv]
  | k :: cls, [] => by rw [own_nil']; simp [ab, abv]
  | k :: cls, a :: c => by
    rw [own_cons, ab]
    by_cases h : mine k = true
    · rw [if_pos h, abv_cons, abv_own]
      by_cases g : v < a
      · rw [if_pos g, if_pos ⟨h, g⟩]
      · rw [if_neg g, if_neg (fun q => g q.2)]
    · rw [if_neg h, if_neg (fun q => h q.1), abv_own]; omega
theorem total_own (mine : Nat → Bool) : ∀ cls c : List Nat, total (own mine cls c) = st mine cls c
  | [], c => by rw [own_nil]; simp [st, total_nil]
  | k :: cls, [] => by rw [own_nil']; simp [st, total_nil]
  | k :: cls, a :: c => by
    rw [own_cons, st]
    by_cases h : mine k = true
    · rw [if_pos h, if_pos h, total_cons, total_own]
    · rw [if_neg h, if_neg h, total_own]; omega

/-! ### the level -/
theorem levelOf_none : ∀ (s : List Nat) (l : Nat), levelOf s l = none → total s ≤ l
  | [], l, _ => by simp [total_nil]
  | c :: r, l, h => by
    rw [levelOf] at h
    by_cases g : c * (r.length + 1) ≤ l
    · rw [if_pos g] at h
      have := levelOf_none r _ h
      have q : c * 1 ≤ c * (r.length + 1) := Nat.mul_le_mul_left c (by omega)
      rw [total_cons]; omega
    · rw [if_neg g] at h; cases h
theorem total_ge {b : Nat} : ∀ (s : List Nat), (∀ x ∈ s, b ≤ x) → b * s.length ≤ total s
  | [], _ => by simp [total_nil]
  | c :: r, h => by
    have := total_ge r (fun x m => h x (List.mem_cons_of_mem _ m))
    have := h c (List.mem_cons_self)
    rw [total_cons, List.length_cons, Nat.mul_succ]; omega
theorem levelOf_all : ∀ (s : List Nat) (l : Nat), s.Pairwise (· ≤ ·) → total s ≤ l → levelOf s l = none
  | [], l, _, _ => rfl
  | c :: r, l, h, g => by
    have hc := List.pairwise_cons.mp h
    have := total_ge r hc.1
    rw [total_cons] at g
    rw [levelOf, if_pos (by rw [Nat.mul_succ]; omega)]
    exact levelOf_all r _ hc.2 (by omega)
theorem levelOf_ge {b a e : Nat} : ∀ (s : List Nat) (l : Nat), s.Pairwise (· ≤ ·) → (∀ x ∈ s, b ≤ x) → b * s.length ≤ l → levelOf s l = some (a, e) → b ≤ a
  | [], l, _, _, _, h => by simp [levelOf] at h
  | c :: r, l, hp, hb, hl, h => by
    have hc := List.pairwise_cons.mp hp
    rw [levelOf] at h
    by_cases g : c * (r.length + 1) ≤ l
    · rw [if_pos g] at h
      refine levelOf_ge r _ hc.2 (fun x m => hb x (List.mem_cons_of_mem _ m)) ?_ h
      have q : b * r.length ≤ c * r.length := Nat.mul_le_mul_right _ (hb c List.mem_cons_self)
      rw [Nat.mul_succ] at g; omega
    · rw [if_neg g] at h
      have := Option.some.inj h
      have e1 : l / (r.length + 1) = a := (Prod.mk.inj this).1
      rw [← e1, Nat.le_div_iff_mul_le (by omega)]
      simpa using hl
theorem capT_all {a : Nat} : ∀ (s : List Nat), (∀ x ∈ s, a < x) → capT a s = a * s.length ∧ abv a s = s.length
  | [], _ => by simp [capT, abv, total_nil]
  | c :: r, h => by
    have := capT_all r (fun x m => h x (List.mem_cons_of_mem _ m))
    have hc := h c List.mem_cons_self
    rw [capT_cons, abv_cons, if_pos hc, List.length_cons, Nat.mul_succ, this.1, this.2]; omega
theorem levelOf_some {a e : Nat} : ∀ (s : List Nat) (l : Nat), s.Pairwise (· ≤ ·) → levelOf s l = some (a, e) → e < abv a s ∧ capT a s + e = l
  | [], l, _, h => by simp [levelOf] at h
  | c :: r, l, hp, h => by
    have hc := List.pairwise_cons.mp hp
    rw [levelOf] at h
    by_cases g : c * (r.length + 1) ≤ l
    · rw [if_pos g] at h
      have ih := levelOf_some r _ hc.2 h
      have ca : c ≤ a := levelOf_ge r _ hc.2 hc.1 (by rw [Nat.mul_succ] at g; omega) h
      have q : c * 1 ≤ c * (r.length + 1) := Nat.mul_le_mul_left c (by omega)
      rw [abv_cons, capT_cons, if_neg (by omega)]
      omega
    · rw [if_neg g] at h
      have := Option.some.inj h
      have e1 : l / (r.length + 1) = a := (Prod.mk.inj this).1
      have e2 : l % (r.length + 1) = e := (Prod.mk.inj this).2
      have ac : a < c := by
        rw [← e1, Nat.div_lt_iff_lt_mul (by omega)]; omega
      have := capT_all (a := a) (c :: r) (by
        intro x m
        rcases List.mem_cons.mp m with rfl | m
        · exact ac
        · exact Nat.lt_of_lt_of_le ac (hc.1 x m))
      rw [this.1, this.2, List.length_cons]
      have hm := Nat.mod_lt l (show 0 < r.length + 1 by omega)
      have hd := Nat.div_add_mod l (r.length + 1)
      rw [e1, e2] at hd
      rw [e2] at hm
      have := Nat.mul_comm a (r.length + 1)
      omega

/-! ### levelled -/
theorem levelled_length (mine : Nat → Bool) (v : Nat) : ∀ (e : Nat) (cls c : List Nat), cls.length = c.length → (levelled mine v e cls c).length = c.length
  | e, [], [], _ => rfl
  | e, [], _ :: _, h => by simp at h
  | e, _ :: _, [], h => by simp at h
  | e, k :: cls, a :: c, h => by
    have h' : cls.length = c.length := by simpa using h
    rw [levelled]
    split
    · rw [List.length_cons, List.length_cons, levelled_length mine v _ cls c h']
    · rw [List.length_cons, List.length_cons, levelled_length mine v _ cls c h']
/-- place by place no more -/
def Le : List Nat → List Nat → Prop
  | [], [] => True
  | a :: x, b :: y => a ≤ b ∧ Le x y
  | _, _ => False
theorem Le.refl : ∀ x, Le x x
  | [] => trivial
  | a :: x => ⟨Nat.le_refl a, Le.refl x⟩
theorem Le.trans : ∀ {x y z}, Le x y → Le y z → Le x z
  | [], [], [], _, _ => trivial
  | [], [], _ :: _, _, h => h.elim
  | [], _ :: _, _, h, _ => h.elim
  | _ :: _, [], _, h, _ => h.elim
  | _ :: _, _ :: _, [], _, h => h.elim
  | _ :: _, _ :: _, _ :: _, h, g => ⟨Nat.le_trans h.1 g.1, Le.trans h.2 g.2⟩
theorem Le.length : ∀ {x y}, Le x y → x.length = y.length
  | [], [], _ => rfl
  | [], _ :: _, h => h.elim
  | _ :: _, [], h => h.elim
  | _ :: _, _ :: _, h => by rw [List.length_cons, List.length_cons, Le.length h.2]
theorem levelled_le (mine : Nat → Bool) (v : Nat) : ∀ (e : Nat) (cls c : List Nat), cls.length = c.length → Le (levelled mine v e cls c) c
  | e, [], [], _ => trivial
  | e, [], _ :: _, h => by simp at h
  | e, _ :: _, [], h => by simp at h
  | e, k :: cls, a :: c, h => by
    have h' : cls.length = c.length := by simpa using h
    rw [levelled]
    split
    · next g => exact ⟨by omega, levelled_le mine v _ cls c h'⟩
    · exact ⟨Nat.le_refl _, levelled_le mine v _ cls c h'⟩
theorem levelled_low (mine : Nat → Bool) (v : Nat) {u : Nat} (hu : u ≤ v) : ∀ (e : Nat) (cls c : List Nat), sm mine u cls (levelled mine v e cls c) = sm mine u cls c
  | e, [], c => by simp [sm]
  | e, _ :: _, [] => by simp [sm, levelled]
  | e, k :: cls, a :: c => by
    rw [levelled]
    split
    · next g => rw [sm, sm, levelled_low mine v hu _ cls c, if_pos g.1, if_pos g.1]; omega
    · rw [sm, sm, levelled_low mine v hu _ cls c]
theorem levelled_high (mine : Nat → Bool) (v : Nat) {u : Nat} (hu : v < u) : ∀ (e : Nat) (cls c : List Nat), sm mine u cls (levelled mine v e cls c) = sm mine v cls c + min e (ab mine v cls c)
  | e, [], c => by simp [sm, ab]
  | e, _ :: _, [] => by simp [sm, levelled, ab]
  | e, k :: cls, a :: c => by
    rw [levelled]
    split
    · next g => rw [sm, sm, ab, levelled_high mine v hu _ cls c, if_pos g.1, if_pos g.1, if_pos g]; omega
    · next g =>
      rw [sm, sm, ab, levelled_high mine v hu _ cls c, if_neg g]
      by_cases hk : mine k = true
      · rw [if_pos hk, if_pos hk]
        have : ¬ v < a := fun q => g ⟨hk, q⟩
        omega
      · rw [if_neg hk, if_neg hk]; omega
theorem levelled_total (mine : Nat → Bool) (v : Nat) : ∀ (e : Nat) (cls c : List Nat), st mine cls (levelled mine v e cls c) = sm mine v cls c + min e (ab mine v cls c)
  | e, [], c => by simp [st, sm, ab]
  | e, _ :: _, [] => by simp [st, sm, levelled, ab]
  | e, k :: cls, a :: c => by
    rw [levelled]
    split
    · next g => rw [st, sm, ab, levelled_total mine v _ cls c, if_pos g.1, if_pos g.1, if_pos g]; omega
    · next g =>
      rw [st, sm, ab, levelled_total mine v _ cls c, if_neg g]
      by_cases hk : mine k = true
      · rw [if_pos hk, if_pos hk]
        have : ¬ v < a := fun q => g ⟨hk, q⟩
        omega
      · rw [if_neg hk, if_neg hk]; omega
theorem levelled_other {mine other : Nat → Bool} (dis : ∀ k, mine k = true → other k = true → False) (v u : Nat) : ∀ (e : Nat) (cls c : List Nat), sm other u cls (levelled mine v e cls c) = sm other u cls c
  | e, [], c => by simp [sm]
  | e, _ :: _, [] => by simp [sm, levelled]
  | e, k :: cls, a :: c => by
    rw [levelled]
    split
    · next g =>
      have : ¬ other k = true := fun q => dis k g.1 q
      rw [sm, sm, levelled_other dis v u _ cls c, if_neg this, if_neg this]
    · rw [sm, sm, levelled_other dis v u _ cls c]
theorem sm_mono (mine : Nat → Bool) {u v : Nat} (h : u ≤ v) : ∀ cls c : List Nat, sm mine u cls c ≤ sm mine v cls c
  | [], c => by simp [sm]
  | _ :: _, [] => by simp [sm]
  | k :: cls, a :: c => by
    have := sm_mono mine h cls c
    rw [sm, sm]
    by_cases hk : mine k = true
    · rw [if_pos hk, if_pos hk]; omega
    · rw [if_neg hk, if_neg hk]; omega
theorem sm_step (mine : Nat → Bool) {u v : Nat} (h : v < u) : ∀ cls c : List Nat, sm mine v cls c + ab mine v cls c ≤ sm mine u cls c
  | [], c => by simp [sm, ab]
  | _ :: _, [] => by simp [sm, ab]
  | k :: cls, a :: c => by
    have := sm_step mine h cls c
    rw [sm, sm, ab]
    by_cases hk : mine k = true
    · rw [if_pos hk, if_pos hk]
      by_cases g : v < a
      · rw [if_pos ⟨hk, g⟩]; omega
      · rw [if_neg (fun q => g q.2)]; omega
    · rw [if_neg hk, if_neg hk, if_neg (fun q => hk q.1)]; omega
theorem sm_le_st (mine : Nat → Bool) (v : Nat) : ∀ cls c : List Nat, sm mine v cls c ≤ st mine cls c
  | [], c => by simp [sm]
  | _ :: _, [] => by simp [sm]
  | k :: cls, a :: c => by
    have := sm_le_st mine v cls c
    rw [sm, st]
    by_cases hk : mine k = true
    · rw [if_pos hk, if_pos hk]; omega
    · rw [if_neg hk, if_neg hk]; omega

/-! ### poured -/
theorem sorted_own (s : List Nat) : (s.mergeSort fun (a b : Nat) => decide (a ≤ b)).Pairwise (· ≤ ·) := by
  have := List.pairwise_mergeSort (le := fun (a b : Nat) => decide (a ≤ b)) (fun a b c h g => by simp at *; omega) (fun a b => by simp; omega) s
  exact this.imp (fun h => by simpa using h)
theorem poured_eq (mine : Nat → Bool) (l : Nat) (cls c : List Nat) : poured mine l cls c = match levelOf ((own mine cls c).mergeSort fun (a b : Nat) => decide (a ≤ b)) l with
  | none => c
  | some z => levelled mine z.1 z.2 cls c := rfl
theorem poured_le (mine : Nat → Bool) (l : Nat) (cls c : List Nat) (h : cls.length = c.length) : Le (poured mine l cls c) c := by
  rw [poured_eq]
  split
  · exact Le.refl c
  · exact levelled_le _ _ _ _ _ h
theorem poured_other {mine other : Nat → Bool} (dis : ∀ k, mine k = true → other k = true → False) (u l : Nat) (cls c : List Nat) : sm other u cls (poured mine l cls c) = sm other u cls c := by
  rw [poured_eq]
  split
  · rfl
  · exact levelled_other dis _ _ _ _ _
theorem poured_mine (mine : Nat → Bool) (u l : Nat) (cls c : List Nat) : sm mine u cls (poured mine l cls c) = min l (sm mine u cls c) := by
  have pm := List.mergeSort_perm (own mine cls c) (fun (a b : Nat) => decide (a ≤ b))
  rw [poured_eq]
  split
  · next h =>
    have h1 := levelOf_none _ _ h
    rw [total_perm pm, total_own] at h1
    have := sm_le_st mine u cls c
    omega
  · next z h =>
    have h1 := levelOf_some (a := z.1) (e := z.2) _ _ (sorted_own _) h
    rw [abv_perm pm, capT_perm pm, capT_own, abv_own] at h1
    by_cases g : u ≤ z.1
    · rw [levelled_low mine z.1 g]
      have := sm_mono mine g cls c
      omega
    · rw [levelled_high mine z.1 (by omega)]
      have := sm_step mine (show z.1 < u by omega) cls c
      omega
theorem poured_total (mine : Nat → Bool) (l : Nat) (cls c : List Nat) : st mine cls (poured mine l cls c) = min l (st mine cls c) := by
  have pm := List.mergeSort_perm (own mine cls c) (fun (a b : Nat) => decide (a ≤ b))
  rw [poured_eq]
  split
  · next h =>
    have h1 := levelOf_none _ _ h
    rw [total_perm pm, total_own] at h1
    omega
  · next z h =>
    have h1 := levelOf_some (a := z.1) (e := z.2) _ _ (sorted_own _) h
    rw [abv_perm pm, capT_perm pm, capT_own, abv_own] at h1
    rw [levelled_total]
    have := sm_step mine (show z.1 < z.1 + 1 by omega) cls c
    have := sm_le_st mine (z.1 + 1) cls c
    omega
end Ph
end
section
open VwNum VwHand
namespace Ph

def isK (k : Nat) : Nat → Bool := fun (j : Nat) => j == k
def anyK : Nat → Bool := fun (_ : Nat) => true
/-- one class's limit on so much -/
def under (o : Option Nat) (n : Nat) : Nat := match o with
  | some l => min l n
  | none => n
def pass1 (m : Limits) (cls c : List Nat) (k : Nat) : List Nat := match limitAt m k with
  | some l => poured (isK k) l cls c
  | none => c
theorem fairest_eq (m : Limits) (cls c : List Nat) : fairest m cls c = poured anyK m.plant cls ((List.range 8).foldl (pass1 m cls) c) := rfl
theorem pass1_le (m : Limits) (cls c : List Nat) (k : Nat) (h : cls.length = c.length) : Le (pass1 m cls c k) c := by
  unfold pass1
  split
  · exact poured_le _ _ _ _ h
  · exact Le.refl c
theorem pass1_other (m : Limits) (cls c : List Nat) {k j : Nat} (h : k ≠ j) (u : Nat) : sm (isK j) u cls (pass1 m cls c k) = sm (isK j) u cls c := by
  unfold pass1
  split
  · exact poured_other (fun i a b => h (by
      have a := eq_of_beq (show (i == k) = true from a)
      have b := eq_of_beq (show (i == j) = true from b)
      omega)) _ _ _ _
  · rfl
theorem pass1_mine (m : Limits) (cls c : List Nat) (k u : Nat) : sm (isK k) u cls (pass1 m cls c k) = under (limitAt m k) (sm (isK k) u cls c) := by
  unfold pass1 under
  split
  · exact poured_mine _ _ _ _ _
  · rfl
theorem passes_le (m : Limits) (cls : List Nat) : ∀ (ks c : List Nat), cls.length = c.length → Le (ks.foldl (pass1 m cls) c) c
  | [], c, _ => Le.refl c
  | k :: ks, c, h => by
    have h1 := pass1_le m cls c k h
    exact Le.trans (passes_le m cls ks (pass1 m cls c k) (by rw [h1.length]; exact h)) h1
theorem passes_sm (m : Limits) (cls : List Nat) (u j : Nat) : ∀ (ks c : List Nat), ks.Nodup → sm (isK j) u cls (ks.foldl (pass1 m cls) c) = if j ∈ ks then under (limitAt m j) (sm (isK j) u cls c) else sm (isK j) u cls c
  | [], c, _ => by simp
  | k :: ks, c, h => by
    have hn := List.nodup_cons.mp h
    rw [List.foldl_cons, passes_sm m cls u j ks _ hn.2]
    by_cases e : k = j
    · subst e
      rw [if_neg hn.1, if_pos List.mem_cons_self, pass1_mine]
    · rw [pass1_other m cls c e]
      by_cases g : j ∈ ks
      · rw [if_pos g, if_pos (List.mem_cons_of_mem _ g)]
      · rw [if_neg g, if_neg (fun q => by
          rcases List.mem_cons.mp q with q | q
          · exact e q.symm
          · exact g q)]

/-! ### all classes together -/
def sum8 (f : Nat → Nat) : Nat := f 0 + f 1 + f 2 + f 3 + f 4 + f 5 + f 6 + f 7
theorem sum8_congr {f g : Nat → Nat} (h : ∀ k, k < 8 → f k = g k) : sum8 f = sum8 g := by
  unfold sum8
  rw [h 0 (by omega), h 1 (by omega), h 2 (by omega), h 3 (by omega), h 4 (by omega), h 5 (by omega), h 6 (by omega), h 7 (by omega)]
theorem sm_split (v : Nat) : ∀ (cls x : List Nat), (∀ k ∈ cls, k < 8) → sm anyK v cls x = sum8 fun k => sm (isK k) v cls x
  | [], x, _ => by simp [sm, sum8]
  | _ :: _, [], _ => by simp [sm, sum8]
  | k :: cls, a :: x, h => by
    have ih := sm_split v cls x (fun j m => h j (List.mem_cons_of_mem _ m))
    have hk := h k List.mem_cons_self
    simp only [sm, sum8, ih, anyK, if_true, isK]
    match k, hk with
    | 0, _ => simp; omega
    | 1, _ => simp; omega
    | 2, _ => simp; omega
    | 3, _ => simp; omega
    | 4, _ => simp; omega
    | 5, _ => simp; omega
    | 6, _ => simp; omega
    | 7, _ => simp; omega
    | k + 8, h => omega
theorem st_split : ∀ (cls x : List Nat), (∀ k ∈ cls, k < 8) → st anyK cls x = sum8 fun k => st (isK k) cls x
  | [], x, _ => by simp [st, sum8]
  | _ :: _, [], _ => by simp [st, sum8]
  | k :: cls, a :: x, h => by
    have ih := st_split cls x (fun j m => h j (List.mem_cons_of_mem _ m))
    have hk := h k List.mem_cons_self
    simp only [st, sum8, ih, anyK, if_true, isK]
    match k, hk with
    | 0, _ => simp; omega
    | 1, _ => simp; omega
    | 2, _ => simp; omega
    | 3, _ => simp; omega
    | 4, _ => simp; omega
    | 5, _ => simp; omega
    | 6, _ => simp; omega
    | 7, _ => simp; omega
    | k + 8, h => omega
/-- a height above all: what's capped there is what is -/
theorem sm_top (mine : Nat → Bool) (v : Nat) : ∀ (cls x : List Nat), (∀ a ∈ x, a ≤ v) → sm mine v cls x = st mine cls x
  | [], x, _ => by simp [sm, st]
  | _ :: _, [], _ => by simp [sm, st]
  | k :: cls, a :: x, h => by
    rw [sm, st, sm_top mine v cls x (fun b m => h b (List.mem_cons_of_mem _ m))]
    have := h a List.mem_cons_self
    rw [Nat.min_eq_left this]
theorem exists_top : ∀ (x : List Nat), ∃ v, ∀ a ∈ x, a ≤ v
  | [] => ⟨0, by simp⟩
  | a :: x => by
    obtain ⟨v, h⟩ := exists_top x
    refine ⟨max a v, fun b m => ?_⟩
    rcases List.mem_cons.mp m with rfl | m
    · omega
    · have := h b m; omega
theorem Le.bound : ∀ {x y : List Nat} {v : Nat}, Le x y → (∀ a ∈ y, a ≤ v) → ∀ a ∈ x, a ≤ v
  | [], _, _, _, _ => by simp
  | _ :: _, [], _, h, _ => h.elim
  | a :: x, b :: y, v, h, g => by
    intro q m
    rcases List.mem_cons.mp m with rfl | m
    · have := g b List.mem_cons_self; exact Nat.le_trans h.1 this
    · exact Le.bound h.2 (fun a m => g a (List.mem_cons_of_mem _ m)) q m
theorem st_any : ∀ (cls x : List Nat), cls.length = x.length → st anyK cls x = total x
  | [], [], _ => rfl
  | [], _ :: _, h => by simp at h
  | _ :: _, [], h => by simp at h
  | k :: cls, a :: x, h => by
    rw [st, total_cons, st_any cls x (by simpa using h)]
    simp [anyK]
theorem st_together (k : Nat) : ∀ (cls x : List Nat), together k cls x = st (isK k) cls x
  | [], x => by simp [together, st, total_nil]
  | _ :: _, [] => by simp [together, st, total_nil]
  | j :: cls, a :: x => by
    have ih := st_together k cls x
    unfold together at ih ⊢
    rw [List.zip_cons_cons, List.map_cons, total_cons, ih, st]
    by_cases e : j = k
    · simp [isK, e]
    · simp [isK, e]

/-- how much may stand below height v -/
def gof (m : Limits) (cls c : List Nat) (v : Nat) : Nat := min m.plant (sum8 fun k => under (limitAt m k) (sm (isK k) v cls c))
theorem fairest_sm (m : Limits) (cls c : List Nat) (hk : ∀ k ∈ cls, k < 8) (v : Nat) : sm anyK v cls (fairest m cls c) = gof m cls c v := by
  rw [fairest_eq, poured_mine, sm_split _ _ _ hk]
  unfold gof
  have e : ∀ k, k < 8 → sm (isK k) v cls ((List.range 8).foldl (pass1 m cls) c) = under (limitAt m k) (sm (isK k) v cls c) := fun k h => by
    rw [passes_sm m cls v k _ c List.nodup_range, if_pos (List.mem_range.mpr h)]
  exact congrArg (min m.plant) (sum8_congr e)
theorem fairest_le (m : Limits) (cls c : List Nat) (h : cls.length = c.length) : Le (fairest m cls c) c := by
  rw [fairest_eq]
  have h1 := passes_le m cls (List.range 8) c h
  exact Le.trans (poured_le _ _ _ _ (by rw [h1.length]; exact h)) h1
theorem fairest_length (m : Limits) (cls c : List Nat) (h : cls.length = c.length) : (fairest m cls c).length = c.length := (fairest_le m cls c h).length
/-- what's given in all -/
theorem fairest_total (m : Limits) (cls c : List Nat) (h : cls.length = c.length) (hk : ∀ k ∈ cls, k < 8) : total (fairest m cls c) = min m.plant (sum8 fun k => under (limitAt m k) (st (isK k) cls c)) := by
  obtain ⟨v, hv⟩ := exists_top c
  have hF := fairest_le m cls c h
  have e := fairest_sm m cls c hk v
  rw [sm_top _ _ _ _ (hF.bound hv), st_any _ _ (by rw [hF.length]; exact h)] at e
  rw [e]
  unfold gof sum8
  simp only [sm_top _ _ _ _ hv]

theorem st_le (mine : Nat → Bool) : ∀ {cls x y : List Nat}, Le x y → st mine cls x ≤ st mine cls y
  | [], _, _, _ => by simp [st]
  | _ :: _, [], [], _ => by simp [st]
  | _ :: _, [], _ :: _, h => h.elim
  | _ :: _, _ :: _, [], h => h.elim
  | k :: cls, a :: x, b :: y, h => by
    have ih := st_le mine (cls := cls) h.2
    rw [st, st]
    have := h.1
    split <;> omega
theorem sm_le (mine : Nat → Bool) (v : Nat) : ∀ {cls x y : List Nat}, Le x y → sm mine v cls x ≤ sm mine v cls y
  | [], _, _, _ => by simp [sm]
  | _ :: _, [], [], _ => by simp [sm]
  | _ :: _, [], _ :: _, h => h.elim
  | _ :: _, _ :: _, [], h => h.elim
  | k :: cls, a :: x, b :: y, h => by
    have ih := sm_le mine v (cls := cls) h.2
    rw [sm, sm]
    have := h.1
    split <;> omega

/-! ### allowed -/
structure Okay (m : Limits) (cls c x : List Nat) : Prop where
  le : Le x c
  kinds : ∀ k l, k < 8 → limitAt m k = some l → st (isK k) cls x ≤ l
  plant : total x ≤ m.plant
theorem le_iff : ∀ (x c : List Nat), Le x c ↔ x.length = c.length ∧ ∀ y ∈ x.zip c, y.1 ≤ y.2
  | [], [] => by simp [Le]
  | [], _ :: _ => by simp [Le]
  | _ :: _, [] => by simp [Le]
  | a :: x, b :: c => by
    simp only [Le, le_iff x c, List.length_cons, List.zip_cons_cons, List.mem_cons, Nat.add_right_cancel_iff]
    constructor
    · rintro ⟨h, g, k⟩
      refine ⟨g, ?_⟩
      rintro y (rfl | q)
      · exact h
      · exact k y q
    · rintro ⟨g, k⟩
      exact ⟨k (a, b) (.inl rfl), g, fun y q => k y (.inr q)⟩
theorem allowed_iff (m : Limits) (cls c x : List Nat) : allowed m cls c x = true ↔ Okay m cls c x := by
  unfold allowed
  simp only [Bool.and_eq_true, List.all_eq_true, beq_iff_eq, decide_eq_true_eq, List.mem_range]
  constructor
  · rintro ⟨h1, h2, h3, h4⟩
    refine ⟨(le_iff x c).mpr ⟨h1, h2⟩, fun k l hk e => ?_, h4⟩
    have := h3 k hk
    rw [e] at this
    rw [← st_together]
    simpa using this
  · rintro ⟨h1, h2, h3⟩
    have h1' := (le_iff x c).mp h1
    refine ⟨h1'.1, h1'.2, fun k hk => ?_, h3⟩
    split
    · next l e => rw [st_together]; simpa using h2 k l hk e
    · rfl
theorem fairest_okay (m : Limits) (cls c : List Nat) (h : cls.length = c.length) (hk : ∀ k ∈ cls, k < 8) : Okay m cls c (fairest m cls c) := by
  have hF := fairest_le m cls c h
  refine ⟨hF, fun k l k8 e => ?_, ?_⟩
  · obtain ⟨v, hv⟩ := exists_top c
    have h1 := passes_le m cls (List.range 8) c h
    have h2 : Le (fairest m cls c) ((List.range 8).foldl (pass1 m cls) c) := by
      rw [fairest_eq]; exact poured_le _ _ _ _ (by rw [h1.length]; exact h)
    have h3 := st_le (isK k) (cls := cls) h2
    have h4 := passes_sm m cls v k (List.range 8) c List.nodup_range
    rw [if_pos (List.mem_range.mpr k8), e, sm_top _ _ _ _ (h1.bound hv)] at h4
    unfold under at h4
    have : min l (sm (isK k) v cls c) ≤ l := Nat.min_le_left _ _
    simp only at h4
    omega
  · rw [fairest_total m cls c h hk]; exact Nat.min_le_left _ _
theorem okay_sm {m : Limits} {cls c x : List Nat} (O : Okay m cls c x) {k : Nat} (k8 : k < 8) (v : Nat) : sm (isK k) v cls x ≤ under (limitAt m k) (sm (isK k) v cls c) := by
  have h1 := sm_le (isK k) v (cls := cls) O.le
  have h2 := sm_le_st (isK k) v cls x
  unfold under
  split
  · next l e => have := O.kinds k l k8 e; omega
  · exact h1
theorem sum8_le {f g : Nat → Nat} (h : ∀ k, k < 8 → f k ≤ g k) : sum8 f ≤ sum8 g := by
  unfold sum8
  have := h 0 (by omega); have := h 1 (by omega); have := h 2 (by omega); have := h 3 (by omega)
  have := h 4 (by omega); have := h 5 (by omega); have := h 6 (by omega); have := h 7 (by omega)
  omega
theorem sum8_lt {f g : Nat → Nat} (h : ∀ k, k < 8 → f k ≤ g k) {j : Nat} (j8 : j < 8) (s : f j < g j) : sum8 f < sum8 g := by
  unfold sum8
  have := h 0 (by omega); have := h 1 (by omega); have := h 2 (by omega); have := h 3 (by omega)
  have := h 4 (by omega); have := h 5 (by omega); have := h 6 (by omega); have := h 7 (by omega)
  match j, j8, s with
  | 0, _, s => omega
  | 1, _, s => omega
  | 2, _, s => omega
  | 3, _, s => omega
  | 4, _, s => omega
  | 5, _, s => omega
  | 6, _, s => omega
  | 7, _, s => omega
  | j + 8, h, _ => omega
theorem okay_gof {m : Limits} {cls c x : List Nat} (O : Okay m cls c x) (h : cls.length = c.length) (hk : ∀ k ∈ cls, k < 8) (v : Nat) : sm anyK v cls x ≤ gof m cls c v := by
  have h1 := sm_le_st anyK v cls x
  rw [st_any cls x (by rw [O.le.length]; exact h)] at h1
  have h2 := O.plant
  have h3 := sm_split v cls x hk
  have h4 := sum8_le (f := fun k => sm (isK k) v cls x) (g := fun k => under (limitAt m k) (sm (isK k) v cls c)) (fun k k8 => okay_sm O k8 v)
  unfold gof
  omega
end Ph
end
section
open VwNum VwHand
namespace Ph

/-- one has less than it could, at a height above what it has: its class has less there -/
theorem sm_strict {k : Nat} : ∀ {cls c x : List Nat} {ci xi v : Nat}, Le x c → (k, ci, xi) ∈ cls.zip (c.zip x) → xi < ci → xi < v → sm (isK k) v cls x < sm (isK k) v cls c
  | [], _, _, _, _, _, _, m, _, _ => by simp at m
  | _ :: _, [], _, _, _, _, _, m, _, _ => by simp at m
  | _ :: _, _ :: _, [], _, _, _, _, m, _, _ => by simp at m
  | j :: cls, b :: c, a :: x, ci, xi, v, h, m, g, gv => by
    rw [List.zip_cons_cons, List.zip_cons_cons] at m
    rw [sm, sm]
    rcases List.mem_cons.mp m with e | m
    · have e1 : k = j := (Prod.mk.inj e).1
      have e2 := Prod.mk.inj (Prod.mk.inj e).2
      have := sm_le (isK k) v (cls := cls) h.2
      have hj : isK k j = true := by simp [isK, e1]
      rw [if_pos hj, if_pos hj]
      omega
    · have ih := sm_strict h.2 m g gv
      have := h.1
      split <;> omega
/-- one of a class has more than v: its class has less below v than in all -/
theorem sm_cut {k : Nat} : ∀ {cls x : List Nat} {xi v : Nat}, (k, xi) ∈ cls.zip x → v < xi → sm (isK k) v cls x < st (isK k) cls x
  | [], _, _, _, m, _ => by simp at m
  | _ :: _, [], _, _, m, _ => by simp at m
  | j :: cls, a :: x, xi, v, m, g => by
    rw [List.zip_cons_cons] at m
    rw [sm, st]
    rcases List.mem_cons.mp m with e | m
    · have e1 : k = j := (Prod.mk.inj e).1
      have e2 : xi = a := (Prod.mk.inj e).2
      have := sm_le_st (isK k) v cls x
      have hj : isK k j = true := by simp [isK, e1]
      rw [if_pos hj, if_pos hj]
      omega
    · have ih := sm_cut m g
      split <;> omega
theorem sm_cut_any : ∀ {cls x : List Nat} {xi v : Nat}, cls.length = x.length → xi ∈ x → v < xi → sm anyK v cls x < st anyK cls x
  | [], [], _, _, _, m, _ => by simp at m
  | [], _ :: _, _, _, h, _, _ => by simp at h
  | _ :: _, [], _, _, h, _, _ => by simp at h
  | j :: cls, a :: x, xi, v, h, m, g => by
    rw [sm, st]
    simp only [anyK, if_true]
    rcases List.mem_cons.mp m with e | m
    · have := sm_le_st anyK v cls x
      change sm (fun _ => true) v cls x ≤ st (fun _ => true) cls x at this
      change min a v + sm (fun _ => true) v cls x < a + st (fun _ => true) cls x
      omega
    · have ih := sm_cut_any (by simpa using h) m g
      change sm (fun _ => true) v cls x < st (fun _ => true) cls x at ih
      change min a v + sm (fun _ => true) v cls x < a + st (fun _ => true) cls x
      omega
theorem sm_eq_of {k v : Nat} : ∀ {cls c x : List Nat}, Le x c → (∀ ci xi, (k, ci, xi) ∈ cls.zip (c.zip x) → min xi v = min ci v) → sm (isK k) v cls x = sm (isK k) v cls c
  | [], _, _, _, _ => by simp [sm]
  | _ :: _, [], [], _, _ => rfl
  | _ :: _, [], _ :: _, h, _ => h.elim
  | _ :: _, _ :: _, [], h, _ => h.elim
  | j :: cls, b :: c, a :: x, h, g => by
    rw [List.zip_cons_cons, List.zip_cons_cons] at g
    rw [sm, sm, sm_eq_of h.2 (fun ci xi m => g ci xi (List.mem_cons_of_mem _ m))]
    by_cases e : j = k
    · have hj : isK k j = true := by simp [isK, e]
      rw [if_pos hj, if_pos hj, g b a (by rw [e]; exact List.mem_cons_self)]
    · have hj : ¬ isK k j = true := by simp [isK, e]
      rw [if_neg hj, if_neg hj]
theorem sm_all_of {k v : Nat} : ∀ {cls x : List Nat}, (∀ xi, (k, xi) ∈ cls.zip x → xi ≤ v) → sm (isK k) v cls x = st (isK k) cls x
  | [], _, _ => by simp [sm, st]
  | _ :: _, [], _ => by simp [sm, st]
  | j :: cls, a :: x, g => by
    rw [List.zip_cons_cons] at g
    rw [sm, st, sm_all_of (fun xi m => g xi (List.mem_cons_of_mem _ m))]
    by_cases e : j = k
    · have hj : isK k j = true := by simp [isK, e]
      rw [if_pos hj, if_pos hj, Nat.min_eq_left (g a (by rw [e]; exact List.mem_cons_self))]
    · have hj : ¬ isK k j = true := by simp [isK, e]
      rw [if_neg hj, if_neg hj]
theorem mem_zip3_left {k : Nat} : ∀ {cls c x : List Nat} {ci xi : Nat}, (k, ci, xi) ∈ cls.zip (c.zip x) → k ∈ cls := fun h => (List.of_mem_zip h).1

theorem full_iff (m : Limits) (cls x : List Nat) (k : Nat) : full m cls x k = true ↔ limitAt m k = some (st (isK k) cls x) := by
  unfold full
  rw [st_together, beq_iff_eq]
/-- evenly, in plain words -/
def Even (m : Limits) (cls c x : List Nat) : Prop := ∀ k ci xi, (k, ci, xi) ∈ cls.zip (c.zip x) → xi < ci →
  (limitAt m k = some (st (isK k) cls x) → ∀ xj, (k, xj) ∈ cls.zip x → xj ≤ xi + 1) ∧
  (limitAt m k ≠ some (st (isK k) cls x) → total x = m.plant ∧ ∀ xj ∈ x, xj ≤ xi + 1)
theorem evenly_iff (m : Limits) (cls c x : List Nat) : evenly m cls c x = true ↔ Even m cls c x := by
  unfold evenly Even
  rw [List.all_eq_true]
  constructor
  · intro h k ci xi mm lt
    have := h (k, ci, xi) mm
    simp only [Bool.or_eq_true, decide_eq_true_eq] at this
    rcases this with q | q
    · omega
    · by_cases f : full m cls x k = true
      · rw [if_pos f] at q
        have f' := (full_iff m cls x k).mp f
        refine ⟨fun _ xj mj => ?_, fun n => (n f').elim⟩
        have := (List.all_eq_true.mp q) (k, xj) mj
        simpa using this
      · rw [if_neg f] at q
        have f' : ¬ limitAt m k = some (st (isK k) cls x) := fun e => f ((full_iff m cls x k).mpr e)
        refine ⟨fun e => (f' e).elim, fun _ => ?_⟩
        rw [Bool.and_eq_true] at q
        refine ⟨by simpa [plantFull] using q.1, fun xj mj => ?_⟩
        simpa using (List.all_eq_true.mp q.2) xj mj
  · rintro h ⟨k, ci, xi⟩ mm
    simp only [Bool.or_eq_true, decide_eq_true_eq]
    by_cases lt : ci ≤ xi
    · exact .inl lt
    · right
      have := h k ci xi mm (by omega)
      by_cases f : full m cls x k = true
      · rw [if_pos f]
        have f' := (full_iff m cls x k).mp f
        rw [List.all_eq_true]
        rintro ⟨j, xj⟩ mj
        by_cases e : j = k
        · subst e
          simpa using this.1 f' xj mj
        · simp [e]
      · rw [if_neg f]
        have f' : ¬ limitAt m k = some (st (isK k) cls x) := fun e => f ((full_iff m cls x k).mpr e)
        have := this.2 f'
        rw [Bool.and_eq_true, List.all_eq_true]
        exact ⟨by simpa [plantFull] using this.1, fun xj mj => by simpa using this.2 xj mj⟩
/-- even shares have, below each height, as much as may be -/
theorem even_gof {m : Limits} {cls c x : List Nat} (O : Okay m cls c x) (h : cls.length = c.length) (hk : ∀ k ∈ cls, k < 8) (E : Even m cls c x) (v : Nat) : sm anyK v cls x = gof m cls c v := by
  refine Nat.le_antisymm (okay_gof O h hk v) ?_
  have hx : cls.length = x.length := by rw [O.le.length]; exact h
  by_cases w : ∃ k ci xi, (k, ci, xi) ∈ cls.zip (c.zip x) ∧ xi < ci ∧ xi < v ∧ limitAt m k ≠ some (st (isK k) cls x)
  · obtain ⟨k, ci, xi, mm, lt, lv, nf⟩ := w
    have q := (E k ci xi mm lt).2 nf
    rw [sm_top anyK v cls x (fun a ha => by have := q.2 a ha; omega), st_any cls x hx, q.1]
    exact Nat.min_le_left _ _
  · rw [sm_split v cls x hk]
    refine Nat.le_trans (Nat.min_le_right _ _) (sum8_le fun k k8 => ?_)
    by_cases u : ∀ ci xi, (k, ci, xi) ∈ cls.zip (c.zip x) → min xi v = min ci v
    · have e := sm_eq_of O.le u
      rw [e]
      unfold under
      split
      · exact Nat.min_le_right _ _
      · exact Nat.le_refl _
    · obtain ⟨ci, u⟩ := Classical.not_forall.mp u
      obtain ⟨xi, u⟩ := Classical.not_forall.mp u
      obtain ⟨mm, u⟩ := Classical.not_imp.mp u
      have lc : xi ≤ ci := by
        have := (List.of_mem_zip mm).2
        have q := ((le_iff x c).mp O.le).2 (xi, ci) (by
          rw [List.mem_iff_getElem?] at this ⊢
          obtain ⟨i, hi⟩ := this
          refine ⟨i, ?_⟩
          rw [List.getElem?_zip_eq_some] at hi ⊢
          exact ⟨hi.2, hi.1⟩)
        exact q
      have lt : xi < ci := by omega
      have lv : xi < v := by omega
      have f : limitAt m k = some (st (isK k) cls x) := Classical.byContradiction fun nf => w ⟨k, ci, xi, mm, lt, lv, nf⟩
      have q := (E k ci xi mm lt).1 f
      rw [sm_all_of (x := x) (fun xj mj => by have := q xj mj; omega), f]
      exact Nat.min_le_left _ _
theorem gof_even {m : Limits} {cls c x : List Nat} (O : Okay m cls c x) (h : cls.length = c.length) (hk : ∀ k ∈ cls, k < 8) (G : ∀ v, sm anyK v cls x = gof m cls c v) : Even m cls c x := by
  have hx : cls.length = x.length := by rw [O.le.length]; exact h
  intro k ci xi mm lt
  have k8 := hk k (mem_zip3_left mm)
  have s1 := sm_strict O.le mm lt (show xi < xi + 1 by omega)
  have g := G (xi + 1)
  have hs := sm_split (xi + 1) cls x hk
  have hst := st_any cls x hx
  -- once the class lies below what it may have there, the plant's limit is reached there
  have key : sm (isK k) (xi + 1) cls x < under (limitAt m k) (sm (isK k) (xi + 1) cls c) → sm anyK (xi + 1) cls x = m.plant := fun lt' => by
    have := sum8_lt (f := fun k => sm (isK k) (xi + 1) cls x) (g := fun k => under (limitAt m k) (sm (isK k) (xi + 1) cls c)) (fun k k8 => okay_sm O k8 (xi + 1)) k8 lt'
    unfold gof at g
    omega
  constructor
  · intro f xj mj
    refine Classical.byContradiction fun nb => ?_
    have cut := sm_cut mj (show xi + 1 < xj by omega)
    have := key (by rw [f]; show _ < min _ _; omega)
    have := sm_cut_any hx (List.of_mem_zip mj).2 (show xi + 1 < xj by omega)
    have := O.plant
    omega
  · intro f
    have l1 := sm_le_st (isK k) (xi + 1) cls x
    have := key (by
      unfold under
      split
      · next l e =>
        have q := O.kinds k l k8 e
        have : st (isK k) cls x ≠ l := fun w => f (by rw [e, w])
        omega
      · exact s1)
    have p := O.plant
    have l2 := sm_le_st anyK (xi + 1) cls x
    refine ⟨by omega, fun xj mj => ?_⟩
    refine Classical.byContradiction fun nb => ?_
    have := sm_cut_any hx mj (show xi + 1 < xj by omega)
    omega

/-! ### as fair: the same numbers in another order -/
theorem sm_any_capT (v : Nat) : ∀ (cls x : List Nat), cls.length = x.length → sm anyK v cls x = capT v x
  | [], [], _ => rfl
  | [], _ :: _, h => by simp at h
  | _ :: _, [], h => by simp at h
  | k :: cls, a :: x, h => by
    rw [sm, capT_cons, sm_any_capT v cls x (by simpa using h)]
    simp [anyK]
theorem count_capT (v : Nat) : ∀ x : List Nat, x.count (v + 1) + capT (v + 2) x + capT v x = 2 * capT (v + 1) x
  | [] => rfl
  | a :: x => by
    have ih := count_capT v x
    rw [List.count_cons, capT_cons, capT_cons, capT_cons]
    by_cases e : a = v + 1
    · subst e
      simp only [beq_self_eq_true, if_true]
      omega
    · have : (a == v + 1) = false := by simpa using e
      rw [this]
      simp only [Bool.false_eq_true, if_false]
      omega
theorem count_zero : ∀ x : List Nat, x.count 0 + capT 1 x = x.length
  | [] => rfl
  | a :: x => by
    have ih := count_zero x
    rw [List.count_cons, capT_cons, List.length_cons]
    by_cases e : a = 0
    · subst e; simp; omega
    · have : (a == 0) = false := by simpa using e
      rw [this]
      simp only [Bool.false_eq_true, if_false]
      omega
theorem perm_of_capT {x y : List Nat} (l : x.length = y.length) (h : ∀ v, capT v x = capT v y) : x.Perm y := by
  rw [List.perm_iff_count]
  intro a
  match a with
  | 0 =>
    have h1 := count_zero x
    have h2 := count_zero y
    have := h 1
    omega
  | v + 1 =>
    have h1 := count_capT v x
    have h2 := count_capT v y
    have := h v
    have := h (v + 1)
    have := h (v + 2)
    omega
/-- **of allowed shares: evenly just where they are the fairest told in some order** -/
theorem evenly_perm {m : Limits} {cls c x : List Nat} (h : cls.length = c.length) (hk : ∀ k ∈ cls, k < 8) (ha : allowed m cls c x = true) : evenly m cls c x = true ↔ x.Perm (fairest m cls c) := by
  have O := (allowed_iff m cls c x).mp ha
  have hx : cls.length = x.length := by rw [O.le.length]; exact h
  have hF := fairest_length m cls c h
  rw [evenly_iff]
  constructor
  · intro E
    refine perm_of_capT (by omega) fun v => ?_
    rw [← sm_any_capT v cls x hx, ← sm_any_capT v cls _ (by omega), even_gof O h hk E v, fairest_sm m cls c hk v]
  · intro p
    refine gof_even O h hk fun v => ?_
    rw [sm_any_capT v cls x hx, capT_perm p, ← fairest_sm m cls c hk v, sm_any_capT v cls _ (by omega)]
end Ph
end
section
open VwNum VwHand
namespace Ph
/-! ### levels of a row by itself -/
def lev1 (v : Nat) : Nat → List Nat → List Nat
  | _, [] => []
  | e, c :: r => if v < c then (v + min e 1) :: lev1 v (e - 1) r else c :: lev1 v e r
def lev (l : Nat) (c : List Nat) : List Nat := match levelOf (c.mergeSort fun (a b : Nat) => decide (a ≤ b)) l with
  | none => c
  | some z => lev1 z.1 z.2 c
theorem lev1_length (v : Nat) : ∀ (e : Nat) (c : List Nat), (lev1 v e c).length = c.length
  | _, [] => rfl
  | e, c :: r => by
    rw [lev1]
    split
    · rw [List.length_cons, List.length_cons, lev1_length]
    · rw [List.length_cons, List.length_cons, lev1_length]
theorem lev_length (l : Nat) (c : List Nat) : (lev l c).length = c.length := by
  unfold lev
  split
  · rfl
  · exact lev1_length _ _ _
/-- the values of some classes put in the place of the old ones -/
def sc (mine : Nat → Bool) : List Nat → List Nat → List Nat → List Nat
  | k :: ks, c :: r, vs => if mine k = true then vs.headD 0 :: sc mine ks r vs.tail else c :: sc mine ks r vs
  | _, _, _ => []
/-- the numbers of some classes' givers -/
def mem (mine : Nat → Bool) (o : Nat) : List Nat → List Nat
  | [] => []
  | k :: ks => if mine k = true then o :: mem mine (o + 1) ks else mem mine (o + 1) ks
theorem sc_own (mine : Nat → Bool) : ∀ (ks c : List Nat), ks.length = c.length → sc mine ks c (own mine ks c) = c
  | [], [], _ => rfl
  | [], _ :: _, h => by simp at h
  | _ :: _, [], h => by simp at h
  | k :: ks, a :: c, h => by
    have ih := sc_own mine ks c (by simpa using h)
    rw [sc, own_cons]
    by_cases m : mine k = true
    · rw [if_pos m, if_pos m]
      show a :: sc mine ks c (own mine ks c) = _
      rw [ih]
    · rw [if_neg m, if_neg m, ih]
theorem sc_length (mine : Nat → Bool) : ∀ (ks c vs : List Nat), ks.length = c.length → (sc mine ks c vs).length = c.length
  | [], [], _, _ => rfl
  | [], _ :: _, _, h => by simp at h
  | _ :: _, [], _, h => by simp at h
  | k :: ks, a :: c, vs, h => by
    rw [sc]
    split
    · rw [List.length_cons, List.length_cons, sc_length mine ks c _ (by simpa using h)]
    · rw [List.length_cons, List.length_cons, sc_length mine ks c _ (by simpa using h)]
theorem levelled_sc (mine : Nat → Bool) (v : Nat) : ∀ (e : Nat) (ks c : List Nat), levelled mine v e ks c = sc mine ks c (lev1 v e (own mine ks c))
  | e, [], c => by simp [levelled, sc]
  | e, k :: ks, [] => by simp [levelled, sc]
  | e, k :: ks, a :: c => by
    rw [levelled, sc, own_cons]
    by_cases m : mine k = true
    · rw [if_pos m, if_pos m, lev1]
      by_cases g : v < a
      · rw [if_pos ⟨m, g⟩, if_pos g, levelled_sc]; rfl
      · rw [if_neg (fun q => g q.2), if_neg g, levelled_sc]; rfl
    · rw [if_neg m, if_neg (fun q => m q.1), if_neg m, levelled_sc]
theorem poured_sc (mine : Nat → Bool) (l : Nat) (ks c : List Nat) (h : ks.length = c.length) : poured mine l ks c = sc mine ks c (lev l (own mine ks c)) := by
  rw [poured_eq]
  unfold lev
  cases levelOf ((own mine ks c).mergeSort fun (a b : Nat) => decide (a ≤ b)) l with
  | none => exact (sc_own mine ks c h).symm
  | some z => exact levelled_sc mine z.1 z.2 ks c
theorem own_any : ∀ (ks c : List Nat), ks.length = c.length → own anyK ks c = c
  | [], [], _ => rfl
  | [], _ :: _, h => by simp at h
  | _ :: _, [], h => by simp at h
  | k :: ks, a :: c, h => by
    rw [own_cons, own_any ks c (by simpa using h)]
    simp [anyK]
theorem sc_any : ∀ (ks c vs : List Nat), ks.length = c.length → vs.length = c.length → sc anyK ks c vs = vs
  | [], [], [], _, _ => rfl
  | [], [], _ :: _, _, g => by simp at g
  | [], _ :: _, _, h, _ => by simp at h
  | _ :: _, [], _, h, _ => by simp at h
  | _ :: _, _ :: _, [], _, g => by simp at g
  | k :: ks, a :: c, v :: vs, h, g => by
    rw [sc]
    simp only [anyK, if_true]
    show v :: sc anyK ks c vs = _
    rw [sc_any ks c vs (by simpa using h) (by simpa using g)]
theorem poured_any (l : Nat) (ks c : List Nat) (h : ks.length = c.length) : poured anyK l ks c = lev l c := by
  rw [poured_sc anyK l ks c h, own_any ks c h, sc_any ks c _ h (lev_length l c)]
theorem mem_length (mine : Nat → Bool) : ∀ (o : Nat) (ks c : List Nat), ks.length = c.length → (mem mine o ks).length = (own mine ks c).length
  | o, [], [], _ => rfl
  | o, [], _ :: _, h => by simp at h
  | o, _ :: _, [], h => by simp at h
  | o, k :: ks, a :: c, h => by
    rw [mem, own_cons]
    split
    · rw [List.length_cons, List.length_cons, mem_length mine (o + 1) ks c (by simpa using h)]
    · exact mem_length mine (o + 1) ks c (by simpa using h)
theorem mem_ge (mine : Nat → Bool) : ∀ (o : Nat) (ks : List Nat) {i : Nat}, i ∈ mem mine o ks → o ≤ i ∧ i < o + ks.length
  | o, [], i, h => by simp [mem] at h
  | o, k :: ks, i, h => by
    rw [mem] at h
    rw [List.length_cons]
    split at h
    · rcases List.mem_cons.mp h with rfl | h
      · omega
      · have := mem_ge mine (o + 1) ks h; omega
    · have := mem_ge mine (o + 1) ks h; omega
/-- the row at the j-th of some classes' givers is the j-th of their values -/
theorem own_at (mine : Nat → Bool) : ∀ (o : Nat) (ks c : List Nat), ks.length = c.length → ∀ {j i : Nat}, (mem mine o ks)[j]? = some i → (own mine ks c)[j]? = c[i - o]?
  | o, [], [], _, j, i, h => by simp [mem] at h
  | o, [], _ :: _, h, _, _, _ => by simp at h
  | o, _ :: _, [], h, _, _, _ => by simp at h
  | o, k :: ks, a :: c, h, j, i, g => by
    rw [mem] at g
    rw [own_cons]
    by_cases m : mine k = true
    · rw [if_pos m] at g ⊢
      cases j with
      | zero =>
        have e : o = i := by simpa using g
        subst e
        simp
      | succ j =>
        have g' : (mem mine (o + 1) ks)[j]? = some i := by simpa using g
        have := mem_ge mine (o + 1) ks (List.mem_of_getElem? g')
        have ih := own_at mine (o + 1) ks c (by simpa using h) g'
        rw [List.getElem?_cons_succ, ih, show i - o = (i - (o + 1)) + 1 by omega, List.getElem?_cons_succ]
    · rw [if_neg m] at g ⊢
      have := mem_ge mine (o + 1) ks (List.mem_of_getElem? g)
      have ih := own_at mine (o + 1) ks c (by simpa using h) g
      rw [ih, show i - o = (i - (o + 1)) + 1 by omega, List.getElem?_cons_succ]
theorem sc_set (mine : Nat → Bool) (w : Nat) : ∀ (o : Nat) (ks c vs : List Nat), ks.length = c.length → vs.length = (own mine ks c).length → ∀ {j i : Nat}, (mem mine o ks)[j]? = some i → (sc mine ks c vs).set (i - o) w = sc mine ks c (vs.set j w)
  | o, [], [], vs, _, _, j, i, h => by simp [mem] at h
  | o, [], _ :: _, _, h, _, _, _, _ => by simp at h
  | o, _ :: _, [], _, h, _, _, _, _ => by simp at h
  | o, k :: ks, a :: c, vs, h, hv, j, i, g => by
    rw [mem] at g
    rw [own_cons] at hv
    rw [sc, sc]
    by_cases m : mine k = true
    · rw [if_pos m] at g hv ⊢
      rw [if_pos m]
      cases vs with
      | nil => simp at hv
      | cons x vs =>
        have hv' : vs.length = (own mine ks c).length := by simpa using hv
        cases j with
        | zero =>
          have e : o = i := by simpa using g
          subst e
          simp
        | succ j =>
          have g' : (mem mine (o + 1) ks)[j]? = some i := by simpa using g
          have := mem_ge mine (o + 1) ks (List.mem_of_getElem? g')
          have ih := sc_set mine w (o + 1) ks c vs (by simpa using h) hv' g'
          rw [show i - o = (i - (o + 1)) + 1 by omega]
          show x :: (sc mine ks c vs).set (i - (o + 1)) w = x :: sc mine ks c (vs.set j w)
          rw [ih]
    · rw [if_neg m] at g hv ⊢
      rw [if_neg m]
      have := mem_ge mine (o + 1) ks (List.mem_of_getElem? g)
      have ih := sc_set mine w (o + 1) ks c vs (by simpa using h) hv g
      rw [show i - o = (i - (o + 1)) + 1 by omega]
      show a :: (sc mine ks c vs).set (i - (o + 1)) w = a :: sc mine ks c (vs.set j w)
      rw [ih]
theorem mem_filter (mine : Nat → Bool) : ∀ (o : Nat) (ks : List Nat), mem mine o ks = ((List.range ks.length).filter fun i => mine (ks.getD i 0)).map (· + o)
  | o, [] => rfl
  | o, k :: ks => by
    rw [mem, mem_filter mine (o + 1) ks, List.length_cons, List.range_succ_eq_map, List.filter_cons, List.filter_map]
    have e : (fun i => mine ((k :: ks).getD i 0)) ∘ Nat.succ = fun i => mine (ks.getD i 0) := by funext i; simp
    have e2 : ((fun x => x + o) ∘ Nat.succ) = fun x => x + (o + 1) := by funext i; simp; omega
    rw [e]
    by_cases m : mine k = true
    · rw [if_pos m, if_pos (by simpa using m), List.map_cons, List.map_map, e2]
      simp
    · rw [if_neg m, if_neg (by simpa using m), List.map_map, e2]
/-- two sorted rows of the same numbers are one -/
theorem sort_unique {l s : List Nat} (p : s.Perm l) (h : s.Pairwise (· ≤ ·)) : s = l.mergeSort fun (a b : Nat) => decide (a ≤ b) :=
  List.Perm.eq_of_pairwise (fun a b _ _ h1 h2 => Nat.le_antisymm h1 h2) h (sorted_own l) (p.trans (List.mergeSort_perm l _).symm)
end Ph
end
section
set_option Elab.async false
set_option linter.all false
namespace Pp
open VwNum VwHand
/-! ### what it passes: the program's fractions are the specification's -/
/-- a table's value at so many microwatts, as a fraction -/
def lossAt : List (Nat × Nat) → Nat → Int × Int
  | [], _ => (0, 1)
  | [p], _ => ((p.2 : Int), 1)
  | p :: q :: l, x => if x ≤ p.1 * 1000000 then ((p.2 : Int), 1)
    else if x ≤ q.1 * 1000000 then ((p.2 : Int) * ((q.1 : Int) - (p.1 : Int)) * 1000000 + ((q.2 : Int) - (p.2 : Int)) * ((x : Int) - (p.1 : Int) * 1000000), ((q.1 : Int) - (p.1 : Int)) * 1000000)
    else lossAt (q :: l) x
def leftAfter (t : List (Nat × Nat)) (x : Nat) : Int := ((x : Int) * (lossAt t x).2 - (lossAt t x).1 * 1000000) / (1000000 * (lossAt t x).2)
theorem ge_div {a b c : Rat} (hb : 0 < b) : c ≤ a / b ↔ c * b ≤ a := by
  have e : a / b * b = a := Rat.div_mul_cancel (by grind)
  constructor
  · intro h
    have := Rat.mul_le_mul_of_nonneg_right h (Rat.le_of_lt hb)
    rw [e] at this; exact this
  · intro h
    have hi : (0 : Rat) ≤ b⁻¹ := Rat.le_of_lt (Rat.inv_pos.mpr hb)
    have := Rat.mul_le_mul_of_nonneg_right h hi
    rw [Rat.mul_assoc, Rat.mul_inv_cancel b (by grind), Rat.mul_one] at this
    exact this
theorem div_ge {a b c : Rat} (hb : 0 < b) : a / b ≤ c ↔ a ≤ c * b := by
  have e : a / b * b = a := Rat.div_mul_cancel (by grind)
  constructor
  · intro h
    have := Rat.mul_le_mul_of_nonneg_right h (Rat.le_of_lt hb)
    rw [e] at this; exact this
  · intro h
    have hi : (0 : Rat) ≤ b⁻¹ := Rat.le_of_lt (Rat.inv_pos.mpr hb)
    have := Rat.mul_le_mul_of_nonneg_right h hi
    rw [Rat.mul_assoc, Rat.mul_inv_cancel b (by grind), Rat.mul_one] at this
    exact this
theorem down_div (a b : Int) (hb : 0 < b) : down ((a : Rat) / (b : Rat)) = a / b := by
  have h1 : down ((a : Rat) / (b : Rat)) = ((a : Rat) / (b : Rat)).floor := (Rat.floor_def _).symm
  have hb' : (0 : Rat) < (b : Rat) := by exact_mod_cast hb
  rw [h1]
  apply Int.le_antisymm
  · have h2 : ((((a : Rat) / (b : Rat)).floor : Int) : Rat) * (b : Rat) ≤ (a : Rat) := by
      have h3 := Rat.floor_le ((a : Rat) / (b : Rat))
      have h4 := Rat.mul_le_mul_of_nonneg_right h3 (Rat.le_of_lt hb')
      rw [Rat.div_mul_cancel (by grind)] at h4
      exact h4
    have h5 : ((a : Rat) / (b : Rat)).floor * b ≤ a := by exact_mod_cast h2
    exact Int.le_ediv_of_mul_le hb h5
  · rw [Rat.le_floor_iff]
    have h6 : a / b * b ≤ a := Int.ediv_mul_le a (by omega)
    have h7 : ((a / b : Int) : Rat) * (b : Rat) ≤ (a : Rat) := by exact_mod_cast h6
    rw [ge_div hb']
    exact h7
theorem le_micro (x p : Nat) : ((x : Rat) / (1000000 : Rat) ≤ (p : Rat)) ↔ x ≤ p * 1000000 := by
  rw [div_ge (by decide)]
  constructor
  · intro h
    have h2 : ((x : Nat) : Rat) ≤ ((p * 1000000 : Nat) : Rat) := by
      rw [Rat.natCast_mul]; exact h
    exact Rat.natCast_le_natCast.mp h2
  · intro h
    have h2 := Rat.natCast_le_natCast.mpr h
    rw [Rat.natCast_mul] at h2; exact h2
theorem along_is : ∀ (t : List (Nat × Nat)) (x : Nat), (t.map (·.1)).Pairwise (· < ·) → along t ((x : Rat) / (1000000 : Rat)) = ((lossAt t x).1 : Rat) / ((lossAt t x).2 : Rat) ∧ 0 < (lossAt t x).2
  | [], x, _ => ⟨by show (0 : Rat) = ((0 : Int) : Rat) / ((1 : Int) : Rat); grind, by show (0 : Int) < 1; decide⟩
  | [p], x, _ => ⟨by show (p.2 : Rat) = (((p.2 : Nat) : Int) : Rat) / ((1 : Int) : Rat); rw [Rat.intCast_natCast]; grind, by show (0 : Int) < 1; decide⟩
  | p :: q :: l, x, h => by
    have hpq : p.1 < q.1 := (List.pairwise_cons.mp h).1 _ (by simp)
    have ih := along_is (q :: l) x (List.pairwise_cons.mp h).2
    rw [along, lossAt]
    by_cases c1 : x ≤ p.1 * 1000000
    · rw [if_pos ((le_micro x p.1).mpr c1), if_pos c1]
      exact ⟨by show (p.2 : Rat) = (((p.2 : Nat) : Int) : Rat) / ((1 : Int) : Rat); rw [Rat.intCast_natCast]; grind, by show (0 : Int) < 1; decide⟩
    · rw [if_neg (fun z => c1 ((le_micro x p.1).mp z)), if_neg c1]
      by_cases c2 : x ≤ q.1 * 1000000
      · rw [if_pos ((le_micro x q.1).mpr c2), if_pos c2]
        have hd : (0 : Int) < ((q.1 : Int) - (p.1 : Int)) := by omega
        have hdr : ((q.1 : Rat) - (p.1 : Rat)) ≠ 0 := by
          intro z
          have z2 : (q.1 : Rat) = (p.1 : Rat) := by grind
          have := Rat.natCast_inj.mp z2
          omega
        refine ⟨?_, by simp only; omega⟩
        simp only [Rat.intCast_add, Rat.intCast_mul, Rat.intCast_sub, Rat.intCast_natCast]
        have e6 : ((1000000 : Int) : Rat) = 1000000 := rfl
        rw [e6]
        grind
      · rw [if_neg (fun z => c2 ((le_micro x q.1).mp z)), if_neg c2]
        exact ih
theorem left_is (t : List (Nat × Nat)) (x : Nat) (h : (t.map (·.1)).Pairwise (· < ·)) : down ((x : Rat) / (MICRO : Rat) - along t ((x : Rat) / (MICRO : Rat))) = leftAfter t x := by
  obtain ⟨h1, h2⟩ := along_is t x h
  have e6 : ((MICRO : Nat) : Rat) = 1000000 := rfl
  rw [e6, h1]
  unfold leftAfter
  rw [← down_div _ _ (by omega)]
  congr 1
  have hz : ((lossAt t x).2 : Rat) ≠ 0 := by
    intro z
    have : (lossAt t x).2 = 0 := by exact_mod_cast z
    omega
  simp only [Rat.intCast_mul, Rat.intCast_sub, Rat.intCast_natCast]
  have e7 : ((1000000 : Int) : Rat) = 1000000 := rfl
  rw [e7]
  grind
end Pp
end
section
set_option Elab.async false
set_option linter.all false
namespace Pp
open VwNum VwHand
/-! ### tables -/
/-- where is rising, up to the i-th pair of points -/
def risesTo (row : List Nat) (i : Nat) : Prop := ∀ k, k < i → row.getD (2 * k) 0 < row.getD (2 * k + 2) 0
def isTable (row : List Nat) : Prop := row.length ≠ 0 ∧ row.length % 2 = 0 ∧ row.length ≤ 48 ∧ risesTo row (row.length / 2 - 1)
/-- a row of where and how much by turns -/
def flat : List (Nat × Nat) → List Nat
  | [] => []
  | p :: t => p.1 :: p.2 :: flat t
theorem flat_length : ∀ t, (flat t).length = 2 * t.length
  | [] => rfl
  | p :: t => by rw [flat, List.length_cons, List.length_cons, List.length_cons, flat_length t]; omega
theorem flat_fst : ∀ {t : List (Nat × Nat)} {k : Nat} {p : Nat × Nat}, t[k]? = some p → (flat t)[2 * k]? = some p.1
  | [], k, p, h => by simp at h
  | q :: t, 0, p, h => by simp at h; subst h; rfl
  | q :: t, k + 1, p, h => by
    have ih := flat_fst (t := t) (k := k) (p := p) (by simpa using h)
    rw [show 2 * (k + 1) = 2 * k + 1 + 1 by omega, flat, List.getElem?_cons_succ, List.getElem?_cons_succ]
    exact ih
theorem flat_snd : ∀ {t : List (Nat × Nat)} {k : Nat} {p : Nat × Nat}, t[k]? = some p → (flat t)[2 * k + 1]? = some p.2
  | [], k, p, h => by simp at h
  | q :: t, 0, p, h => by simp at h; subst h; rfl
  | q :: t, k + 1, p, h => by
    have ih := flat_snd (t := t) (k := k) (p := p) (by simpa using h)
    rw [show 2 * (k + 1) + 1 = 2 * k + 1 + 1 + 1 by omega, flat, List.getElem?_cons_succ, List.getElem?_cons_succ]
    exact ih
/-- a table that a giver may have -/
structure Tab (t : List (Nat × Nat)) : Prop where
  pos : 0 < t.length
  few : t.length ≤ 24
  low : ∀ p ∈ t, p.1 < 4294967296 ∧ p.2 < 4294967296
  rise : (t.map (·.1)).Pairwise (· < ·)
theorem pairs_flat : ∀ (l : List Nat) (t : List (Nat × Nat)), pairsOf l = some t → flat t = l
  | [], t, h => by simp [pairsOf] at h; subst h; rfl
  | [a], t, h => by simp [pairsOf] at h
  | a :: b :: l, t, h => by
    rw [pairsOf] at h
    cases e : pairsOf l with
    | none => rw [e] at h; cases h
    | some r =>
      rw [e] at h
      have h2 : (a, b) :: r = t := Option.some.inj h
      rw [← h2, flat, pairs_flat l r e]
theorem pairs_none : ∀ (l : List Nat), pairsOf l = none → l.length % 2 = 1
  | [], h => by simp [pairsOf] at h
  | [a], h => rfl
  | a :: b :: l, h => by
    rw [pairsOf] at h
    cases e : pairsOf l with
    | none => have := pairs_none l e; simp only [List.length_cons]; omega
    | some r => rw [e] at h; cases h
theorem rises_iff : ∀ l : List Nat, rises l = true ↔ l.Pairwise (· < ·)
  | [] => by simp [rises]
  | [a] => by simp [rises]
  | a :: b :: l => by
    rw [rises, Bool.and_eq_true, decide_eq_true_eq, rises_iff (b :: l)]
    constructor
    · rintro ⟨h1, h2⟩
      refine List.pairwise_cons.mpr ⟨fun c hc => ?_, h2⟩
      rcases List.mem_cons.mp hc with rfl | hc
      · exact h1
      · exact Nat.lt_trans h1 ((List.pairwise_cons.mp h2).1 c hc)
    · intro h
      obtain ⟨h1, h2⟩ := List.pairwise_cons.mp h
      exact ⟨h1 b List.mem_cons_self, h2⟩
theorem rises_to : ∀ t : List (Nat × Nat), rises (t.map (·.1)) = true ↔ risesTo (flat t) (t.length - 1)
  | [] => by simp [rises, risesTo]
  | [p] => by simp [rises, risesTo]
  | p :: q :: l => by
    have ih := rises_to (q :: l)
    show (decide (p.1 < q.1) && rises ((q :: l).map (·.1))) = true ↔ _
    rw [Bool.and_eq_true, decide_eq_true_eq, ih]
    unfold risesTo
    simp only [List.length_cons, flat]
    constructor
    · rintro ⟨h1, h2⟩ k hk
      cases k with
      | zero => simpa using h1
      | succ k =>
        have := h2 k (by omega)
        rw [show 2 * (k + 1) = 2 * k + 1 + 1 by omega, show 2 * k + 1 + 1 + 2 = 2 * k + 2 + 1 + 1 by omega]
        simpa [List.getD_cons_succ] using this
    · intro h
      refine ⟨by simpa using h 0 (by omega), fun k hk => ?_⟩
      have := h (k + 1) (by omega)
      rw [show 2 * (k + 1) = 2 * k + 1 + 1 by omega, show 2 * k + 1 + 1 + 2 = 2 * k + 2 + 1 + 1 by omega] at this
      simpa [List.getD_cons_succ] using this
theorem table_none {row : List Nat} (h : tableOf 24 row = none) : ¬ isTable row := by
  rintro ⟨h1, h2, h3, h4⟩
  unfold tableOf at h
  cases e : pairsOf row with
  | none => have := pairs_none row e; omega
  | some t =>
    have ef := pairs_flat row t e
    rw [e] at h
    have hl := flat_length t
    rw [ef] at hl
    have ok : tableOk t = true ∧ t.length ≤ 24 := by
      refine ⟨?_, by omega⟩
      unfold tableOk
      rw [Bool.and_eq_true]
      refine ⟨?_, ?_⟩
      · cases t with
        | nil => exact absurd (show row.length = 0 from hl) h1
        | cons a t => rfl
      · show rises (t.map (·.1)) = true
        rw [rises_to, ef]
        rw [show row.length / 2 - 1 = t.length - 1 by omega] at h4
        exact h4
    have h' : (if tableOk t = true ∧ t.length ≤ 24 then some t else none) = none := h
    rw [if_pos ok] at h'
    cases h'
theorem table_some {row : List Nat} {t : List (Nat × Nat)} (h : tableOf 24 row = some t) (hlow : ∀ x ∈ row, x < 4294967296) : isTable row ∧ flat t = row ∧ Tab t := by
  unfold tableOf at h
  cases e : pairsOf row with
  | none => rw [e] at h; cases h
  | some t' =>
    rw [e] at h
    have h' : (if tableOk t' = true ∧ t'.length ≤ 24 then some t' else none) = some t := h
    by_cases ok : tableOk t' = true ∧ t'.length ≤ 24
    · rw [if_pos ok] at h'
      cases h'
      have ef := pairs_flat row t e
      have hl := flat_length t
      rw [ef] at hl
      have hr := ok.1
      unfold tableOk at hr
      rw [Bool.and_eq_true] at hr
      have hne : 0 < t.length := by
        cases t with
        | nil => cases hr.1
        | cons a t => simp
      have hrise : rises (t.map (·.1)) = true := hr.2
      refine ⟨⟨by omega, by omega, by omega, ?_⟩, ef, hne, ok.2, fun p hp => ?_, (rises_iff _).mp hrise⟩
      · have := (rises_to t).mp hrise
        rw [ef] at this
        rw [show row.length / 2 - 1 = t.length - 1 by omega]
        exact this
      · obtain ⟨k, hk⟩ := List.mem_iff_getElem?.mp hp
        have a1 := flat_fst hk
        have a2 := flat_snd hk
        rw [ef] at a1 a2
        exact ⟨hlow _ (List.mem_of_getElem? a1), hlow _ (List.mem_of_getElem? a2)⟩
    · rw [if_neg ok] at h'; cases h'
end Pp
end
section
set_option Elab.async false
set_option linter.all false
namespace Pp
open VwNum VwHand
/-! ### givers -/
/-- what is told of a giver -/
structure PG where
  kind : Nat
  most : Nat
  start : Nat
  stop : Nat
  wait : Nat
  up : Nat
  worth : Nat
  table : List (Nat × Nat)
structure GOk (g : PG) : Prop where
  tab : Tab g.table
  kind : g.kind < 8
  most : g.most ≤ 10000000
  start : g.start ≤ 10000000
  stop : g.stop ≤ g.start
  wait0 : 1 ≤ g.wait
  wait : g.wait ≤ 96
  up : g.up ≤ 10000000
  worth : g.worth ≤ 65535
/-- a giver's numbers are taken -/
def gBad (kind most start stop wait up worth : Nat) : Prop := 7 < kind ∨ 10000000 < most ∨ 10000000 < start ∨ start < stop ∨ wait = 0 ∨ 96 < wait ∨ 10000000 < up ∨ 65535 < worth
/-- what it passes -/
def passN (g : PG) (x : Nat) : Nat := min g.most (leftAfter g.table x).toNat
/-- how it runs a quarter on -/
def stepN (g : PG) (runs : Bool) (waited x : Nat) : Bool × Nat :=
  if runs = true then (decide (g.stop * 1000000 ≤ x), 0) else if x < g.start * 1000000 then (false, 0) else if waited + 1 = g.wait then (true, 0) else (false, waited + 1)
/-- what it could give -/
def couldN (g : PG) (runs : Bool) (gave x : Nat) : Nat := if runs = true then min (passN g x) (gave + g.up) else 0
def kinds (gs : List PG) : List Nat := gs.map (·.kind)
def worths (gs : List PG) : List Nat := gs.map (·.worth)
def givenN (m : VwHand.Limits) (ks c : List Nat) : Nat := min m.plant (Ph.sum8 fun k => Ph.under (VwHand.limitAt m k) (Ph.st (Ph.isK k) ks c))
/-- the specification's giver -/
def toPG (g : HdSpec.Giver) : PG := ⟨g.kind, g.inv.most, g.inv.start, g.inv.halt_, g.inv.wait, g.inv.up, g.worth, g.inv.table⟩
theorem bad_iff (kind most start halt_ wait up worth : Nat) : HdSpec.giverBad kind most start halt_ wait up worth = true ↔ gBad kind most start halt_ wait up worth := by
  unfold HdSpec.giverBad gBad HdSpec.POWER HdSpec.WAITS HdSpec.WORTH
  simp only [Bool.or_eq_true, decide_eq_true_eq]
theorem pass_is {g : HdSpec.Giver} (h : GOk (toPG g)) (x : Nat) : passes g.inv (x : Rat) = passN (toPG g) x := by
  unfold passes passN
  rw [left_is g.inv.table x h.tab.rise]; rfl
theorem turned_is {g : HdSpec.Giver} {t : Turn} (x : Nat) (h1 : t.waited < g.inv.wait) (h2 : t.runs = true → t.waited = 0) : turned g.inv x t = ⟨(stepN (toPG g) t.runs t.waited x).1, (stepN (toPG g) t.runs t.waited x).2⟩ := by
  obtain ⟨runs, waited⟩ := t
  unfold turned stepN toPG MICRO still
  simp only at h1 h2 ⊢
  cases runs with
  | true =>
    have := h2 rfl
    subst this
    by_cases c : x < g.inv.halt_ * 1000000
    · simp [c, Nat.not_le.mpr c]
    · simp [c, Nat.le_of_not_lt c]
  | false =>
    by_cases c : x < g.inv.start * 1000000
    · simp [c, Nat.not_le.mpr c]
    · have c' := Nat.le_of_not_lt c
      by_cases c2 : waited + 1 = g.inv.wait
      · simp [c, c', c2]
      · have : ¬ g.inv.wait ≤ waited + 1 := by omega
        simp [c, c', c2, this]
theorem turned_ok {g : HdSpec.Giver} {t : Turn} (x : Nat) (h0 : 1 ≤ g.inv.wait) (h1 : t.waited < g.inv.wait) (h2 : t.runs = true → t.waited = 0) : (turned g.inv x t).waited < g.inv.wait ∧ ((turned g.inv x t).runs = true → (turned g.inv x t).waited = 0) := by
  unfold turned still
  split
  · split
    · exact ⟨by show 0 < _; omega, fun _ => rfl⟩
    · exact ⟨h1, h2⟩
  · split
    · split
      · exact ⟨by show 0 < _; omega, fun _ => rfl⟩
      · exact ⟨by show t.waited + 1 < _; omega, fun z => nomatch z⟩
    · exact ⟨by show 0 < _; omega, fun _ => rfl⟩
theorem coulds_is {g : HdSpec.Giver} (h : GOk (toPG g)) (x : Nat) (t : Turn) (last : Nat) : coulds g.inv x t last = couldN (toPG g) t.runs last x := by
  unfold coulds couldN
  rw [pass_is h]; rfl
/-! ### rows of limits -/
open HdSpec
theorem leastOf_snoc (l : List Nat) (a : Nat) : leastOf (l ++ [a]) = some (match leastOf l with | none => a | some b => min b a) := by
  cases l with
  | nil => rfl
  | cons b l => simp [leastOf, List.foldl_append]
theorem leastOf_spec : ∀ (l : List Nat) {a : Nat}, leastOf l = some a → a ∈ l ∧ ∀ x ∈ l, a ≤ x := by
  intro l a h
  cases l with
  | nil => cases h
  | cons b l =>
    have key : ∀ (l : List Nat) (b : Nat), (l.foldl (fun (b c : Nat) => min b c) b = b ∨ l.foldl (fun (b c : Nat) => min b c) b ∈ l) ∧ l.foldl (fun (b c : Nat) => min b c) b ≤ b ∧ ∀ x ∈ l, l.foldl (fun (b c : Nat) => min b c) b ≤ x := by
      intro l
      induction l with
      | nil => intro b; simp
      | cons x r ih =>
        intro b
        obtain ⟨i1, i2, i3⟩ := ih (min b x)
        rw [List.foldl_cons]
        refine ⟨?_, by omega, fun y hy => ?_⟩
        · rcases i1 with e | e
          · rw [e]
            by_cases c : b ≤ x
            · left; omega
            · right; rw [show min b x = x by omega]; exact List.mem_cons_self
          · exact .inr (List.mem_cons_of_mem _ e)
        · rcases List.mem_cons.mp hy with rfl | hy
          · omega
          · exact i3 y hy
    obtain ⟨k1, k2, k3⟩ := key l b
    have e : l.foldl (fun (b c : Nat) => min b c) b = a := Option.some.inj h
    rw [e] at k1 k2 k3
    refine ⟨?_, fun x hx => ?_⟩
    · rcases k1 with q | q
      · rw [q]; exact List.mem_cons_self
      · exact List.mem_cons_of_mem _ q
    · rcases List.mem_cons.mp hx with rfl | hx
      · exact k2
      · exact k3 x hx
theorem leastOf_none {l : List Nat} (h : leastOf l = none) : l = [] := by
  cases l with
  | nil => rfl
  | cons a l => cases h
theorem under_le (o : Option Nat) (n : Nat) : Ph.under o n ≤ n := by
  cases o with
  | none => exact Nat.le_refl _
  | some a => exact Nat.min_le_right _ _
theorem under_least {l l' : List Nat} (h : ∀ x ∈ l', x ∈ l) (n : Nat) : Ph.under (leastOf l) n ≤ Ph.under (leastOf l') n := by
  cases e' : leastOf l' with
  | none => exact under_le _ _
  | some a' =>
    have s' := leastOf_spec l' e'
    cases e : leastOf l with
    | none =>
      have := leastOf_none e
      subst this
      exact absurd (h a' s'.1) (by simp)
    | some a =>
      have := (leastOf_spec l e).2 a' (h a' s'.1)
      show min a n ≤ min a' n
      omega
/-- the limits of a row of scopes and limits -/
def sel (k : Nat) (ps : List (Nat × Nat)) : List Nat := (ps.filter fun y => y.1 == k).map (·.2)
def limR (r : Nat) (ps : List (Nat × Nat)) : Limits := ⟨(List.range 8).map fun k => leastOf (sel k ps), match leastOf (sel 8 ps) with
  | some l => min l r
  | none => r⟩
def putL (m : Limits) (k low : Nat) : Limits := if k = 8 then ⟨m.classes, min low m.plant⟩ else ⟨m.classes.set k (some (match limitAt m k with | none => low | some l => min l low)), m.plant⟩
theorem sel_snoc (j k low : Nat) (ps : List (Nat × Nat)) : sel j (ps ++ [(k, low)]) = if k = j then sel j ps ++ [low] else sel j ps := by
  unfold sel
  rw [List.filter_append, List.map_append]
  by_cases e : k = j
  · rw [if_pos e]; simp [e]
  · rw [if_neg e]; simp [e]
theorem limR_length (r : Nat) (ps : List (Nat × Nat)) : (limR r ps).classes.length = 8 := by unfold limR; simp
theorem limR_at (r : Nat) (ps : List (Nat × Nat)) {k : Nat} (hk : k < 8) : limitAt (limR r ps) k = leastOf (sel k ps) := by
  unfold limitAt limR
  rw [List.getD_eq_getElem?_getD, List.getElem?_map, List.getElem?_range hk]; rfl
theorem putL_is (r : Nat) (ps : List (Nat × Nat)) (k low : Nat) (hk : k ≤ 8) : putL (limR r ps) k low = limR r (ps ++ [(k, low)]) := by
  by_cases e : k = 8
  · subst e
    unfold putL
    rw [if_pos rfl]
    unfold limR
    congr 1
    · refine List.map_congr_left fun j hj => ?_
      rw [sel_snoc, if_neg (by have := List.mem_range.mp hj; omega)]
    · rw [sel_snoc, if_pos rfl, leastOf_snoc]
      cases leastOf (sel 8 ps) with
      | none => rfl
      | some l => show min low (min l r) = min (min l low) r; omega
  · unfold putL
    rw [if_neg e, limR_at _ _ (by omega)]
    unfold limR
    congr 1
    · refine List.ext_getElem? fun i => ?_
      rw [List.getElem?_set, List.getElem?_map, List.getElem?_map]
      by_cases ei : k = i
      · subst ei
        rw [if_pos rfl, if_pos (by simp; omega), List.getElem?_range (by omega)]
        simp only [Option.map_some]
        rw [sel_snoc, if_pos rfl, leastOf_snoc]
      · rw [if_neg ei]
        by_cases hi : i < 8
        · rw [List.getElem?_range hi]
          simp only [Option.map_some]
          rw [sel_snoc, if_neg ei]
        · rw [List.getElem?_eq_none (by simpa using Nat.le_of_not_lt hi)]; rfl
    · rw [sel_snoc, if_neg e]
theorem limR_nil (r : Nat) : limR r [] = ⟨List.replicate 8 none, r⟩ := rfl
/-- orders in force, by number, scope, limit -/
def lowAt (d : Desk) (n : Nat) (o : Order) : Nat × Nat × Nat := (n, o.scope, broughtDown d o)
def lowsTo (d : Desk) (i : Nat) : List (Nat × Nat × Nat) := ((d.orders.take i).zipIdx.filter fun y => inForce d y.1).map fun y => lowAt d y.2 y.1
def lowsOf (d : Desk) : List (Nat × Nat × Nat) := lowsTo d d.orders.length
theorem zipIdx_snoc {α : Type} (l : List α) (a : α) : (l ++ [a]).zipIdx = l.zipIdx ++ [(a, l.length)] := by
  rw [List.zipIdx_append]; simp
theorem lowsTo_succ {d : Desk} {i : Nat} {o : Order} (h : d.orders[i]? = some o) : lowsTo d (i + 1) = lowsTo d i ++ (if inForce d o = true then [lowAt d i o] else []) := by
  have hi := (List.getElem?_eq_some_iff.mp h).1
  have e : d.orders.take (i + 1) = d.orders.take i ++ [o] := by rw [List.take_add_one, h]; rfl
  unfold lowsTo
  rw [e, zipIdx_snoc, List.filter_append, List.map_append]
  congr 1
  have hl : (d.orders.take i).length = i := by rw [List.length_take]; omega
  rw [hl]
  by_cases c : inForce d o = true
  · rw [if_pos c]; simp [c]
  · rw [if_neg c]; simp [c]
theorem forces_eq (d : Desk) (but : Option Nat) : (forces d but).map (fun y => lowAt d y.1 y.2) = (lowsOf d).filter fun y => but != some y.1 := by
  unfold forces lowsOf lowsTo
  rw [List.take_length, List.filter_map, List.map_map, List.filter_map, List.filter_filter]
  congr 1
  refine List.filter_congr fun y _ => ?_
  simp [lowAt, Bool.and_comm]
/-- the pairs that the running limits are made of -/
def pairs (skip : Option Nat) (ls : List (Nat × Nat × Nat)) : List (Nat × Nat) := (ls.filter fun y => skip != some y.1).map (·.2)
def gaveAll (d : Desk) : Nat := total (lastsOf d)
theorem limits_run (d : Desk) (but : Option Nat) : limR (gaveAll d + d.up) (pairs but (lowsOf d)) = limitsBut d but := by
  have hs : ∀ k, sel k (pairs but (lowsOf d)) = ((forces d but).filter fun (y : Nat × Order) => y.2.scope == k).map fun (y : Nat × Order) => broughtDown d y.2 := fun k => by
    unfold sel pairs
    rw [← forces_eq, List.map_map, List.filter_map, List.map_map]
    rfl
  unfold limR limitsBut limitOf
  rw [hs 8]
  congr 1
  refine List.map_congr_left fun k _ => ?_
  rw [hs k]
theorem pairs_snoc (skip : Option Nat) (ls : List (Nat × Nat × Nat)) (y : Nat × Nat × Nat) : pairs skip (ls ++ [y]) = if skip = some y.1 then pairs skip ls else pairs skip ls ++ [(y.2.1, y.2.2)] := by
  unfold pairs
  rw [List.filter_append, List.map_append]
  by_cases c : skip = some y.1
  · rw [if_pos c]; simp [c]
  · rw [if_neg c]; simp [c]
theorem lows_scope {d : Desk} (h : ∀ o ∈ d.orders, o.scope ≤ 8) {y : Nat × Nat × Nat} (hy : y ∈ lowsOf d) : y.2.1 ≤ 8 ∧ y.1 < d.orders.length := by
  unfold lowsOf lowsTo at hy
  rw [List.take_length] at hy
  obtain ⟨z, hz, rfl⟩ := List.mem_map.mp hy
  have hz2 := (List.mem_filter.mp hz).1
  obtain ⟨j, hj⟩ := List.mem_iff_getElem?.mp hz2
  rw [List.getElem?_zipIdx] at hj
  cases q : d.orders[j]? with
  | none => rw [q] at hj; cases hj
  | some o =>
    rw [q] at hj
    have e := Option.some.inj hj
    rw [← e]
    exact ⟨h o (List.mem_of_getElem? q), by have := (List.getElem?_eq_some_iff.mp q).1; simpa [lowAt] using this⟩
/-! ### an order's own loss -/
theorem given_is {d : Desk} {c : List Nat} (but : Option Nat) (h : c.length = d.givers.length) (hk : ∀ k ∈ kindsOf d, k < 8) : givenBy d but c = givenN (limitsBut d but) (kindsOf d) c := by
  unfold givenBy givenN
  exact Ph.fairest_total _ _ _ (by unfold kindsOf; rw [List.length_map]; omega) hk
theorem given_mono (d : Desk) (j : Nat) (ks c : List Nat) : givenN (limitsBut d none) ks c ≤ givenN (limitsBut d (some j)) ks c := by
  have hsub : ∀ k, ∀ x ∈ sel k (pairs (some j) (lowsOf d)), x ∈ sel k (pairs none (lowsOf d)) := fun k x hx => by
    unfold sel pairs at hx ⊢
    obtain ⟨y, hy, rfl⟩ := List.mem_map.mp hx
    obtain ⟨hy1, hy2⟩ := List.mem_filter.mp hy
    obtain ⟨z, hz, rfl⟩ := List.mem_map.mp hy1
    exact List.mem_map.mpr ⟨_, List.mem_filter.mpr ⟨List.mem_map.mpr ⟨z, List.mem_filter.mpr ⟨(List.mem_filter.mp hz).1, rfl⟩, rfl⟩, hy2⟩, rfl⟩
  rw [← limits_run d none, ← limits_run d (some j)]
  unfold givenN
  have hs : Ph.sum8 (fun k => Ph.under (limitAt (limR (gaveAll d + d.up) (pairs none (lowsOf d))) k) (Ph.st (Ph.isK k) ks c)) ≤ Ph.sum8 (fun k => Ph.under (limitAt (limR (gaveAll d + d.up) (pairs (some j) (lowsOf d))) k) (Ph.st (Ph.isK k) ks c)) :=
    Ph.sum8_le fun k hk => by
      rw [limR_at _ _ hk, limR_at _ _ hk]
      exact under_least (hsub k) _
  have hp : (limR (gaveAll d + d.up) (pairs none (lowsOf d))).plant ≤ (limR (gaveAll d + d.up) (pairs (some j) (lowsOf d))).plant := by
    have := under_least (hsub 8) (gaveAll d + d.up)
    unfold limR
    simp only
    cases e1 : leastOf (sel 8 (pairs none (lowsOf d))) <;> cases e2 : leastOf (sel 8 (pairs (some j) (lowsOf d))) <;> rw [e1, e2] at this <;> exact this
  omega
end Pp
end
section
set_option Elab.async false
set_option linter.all false
namespace Pp
open VwNum VwHand HdSpec
/-! ### counting orders -/
def addAll (ls : List (Nat × Nat)) (F : List Nat) : List Nat := ls.foldl (fun F y => F.set y.1 (F.getD y.1 0 + y.2)) F
def amt (j : Nat) : List (Nat × Nat) → Nat
  | [] => 0
  | y :: ls => (if y.1 = j then y.2 else 0) + amt j ls
theorem addAll_length (ls : List (Nat × Nat)) : ∀ F, (addAll ls F).length = F.length := by
  induction ls with
  | nil => intro F; rfl
  | cons y ls ih => intro F; show (addAll ls _).length = _; rw [ih, List.length_set]
theorem addAll_at (j : Nat) (ls : List (Nat × Nat)) : ∀ F, (addAll ls F)[j]? = (F[j]?).map (· + amt j ls) := by
  induction ls with
  | nil => intro F; show F[j]? = _; simp [amt]
  | cons y ls ih =>
    intro F
    show (addAll ls (F.set y.1 (F.getD y.1 0 + y.2)))[j]? = _
    rw [ih, List.getElem?_set, amt]
    by_cases e : y.1 = j
    · subst e
      by_cases hl : y.1 < F.length
      · simp [hl]
        omega
      · simp [hl]
    · simp [e]
theorem addAll_snoc (ls : List (Nat × Nat)) (y : Nat × Nat) (F : List Nat) : addAll (ls ++ [y]) F = (addAll ls F).set y.1 ((addAll ls F).getD y.1 0 + y.2) := by
  unfold addAll; rw [List.foldl_append]; rfl
theorem amt_idx {α : Type} (p : α → Bool) (f : Nat → Nat) (j : Nat) : ∀ (l : List α) (n : Nat), amt j (((l.zipIdx n).filter fun y => p y.1).map fun y => (y.2, f y.2)) = if n ≤ j then (match l[j - n]? with | some a => if p a = true then f j else 0 | none => 0) else 0
  | [], n => by simp [amt]
  | a :: l, n => by
    have ih := amt_idx p f j l (n + 1)
    rw [List.zipIdx_cons, List.filter_cons]
    by_cases hp : p a = true
    · rw [if_pos (by exact hp), List.map_cons, amt, ih]
      by_cases e : n = j
      · subst e; rw [if_neg (show ¬ n + 1 ≤ n by omega)]; simp [hp]
      · by_cases h2 : n ≤ j
        · have e3 : j - n = (j - (n + 1)) + 1 := by omega
          simp only [e, if_false, h2, if_true, show n + 1 ≤ j by omega]
          rw [e3, List.getElem?_cons_succ]; omega
        · simp [e, h2, show ¬ n + 1 ≤ j by omega]
    · rw [if_neg (by exact hp), ih]
      by_cases e : n = j
      · subst e; rw [if_neg (show ¬ n + 1 ≤ n by omega)]; simp [hp]
      · by_cases h2 : n ≤ j
        · have e3 : j - n = (j - (n + 1)) + 1 := by omega
          simp only [h2, if_true, show n + 1 ≤ j by omega]
          rw [e3, List.getElem?_cons_succ]
        · simp [h2, show ¬ n + 1 ≤ j by omega]
/-- the own losses of the orders in force -/
def lossOf (d : Desk) (c : List Nat) : List (Nat × Nat) := (lowsOf d).map fun y => (y.1, ownLoss d c y.1)
theorem amt_lows (d : Desk) (f : Nat → Nat) (j : Nat) : amt j ((lowsOf d).map fun y => (y.1, f y.1)) = match d.orders[j]? with | some o => if inForce d o = true then f j else 0 | none => 0 := by
  have h := amt_idx (inForce d) f j d.orders 0
  unfold lowsOf lowsTo
  rw [List.take_length, List.map_map]
  rw [show ((fun y : Nat × Nat × Nat => (y.1, f y.1)) ∘ fun y : Order × Nat => lowAt d y.2 y.1) = fun y : Order × Nat => (y.2, f y.2) from rfl, h]
  rw [if_pos (Nat.zero_le _), Nat.sub_zero]
  cases d.orders[j]? <;> rfl
theorem orders_force (d : Desk) (l : List Nat) : addAll ((lossOf d (couldsAt d l)).map fun y => (y.1, 1)) (d.orders.map (·.force)) = (quarterOn d l).orders.map (·.force) := by
  refine List.ext_getElem? fun j => ?_
  have e : ((lossOf d (couldsAt d l)).map fun y => (y.1, 1)) = (lowsOf d).map fun y => (y.1, (fun _ => 1) y.1) := by unfold lossOf; rw [List.map_map]; rfl
  rw [addAll_at, e, amt_lows d (fun _ => 1) j]
  unfold quarterOn
  simp only [List.getElem?_map, List.getElem?_zipIdx]
  cases q : d.orders[j]? with
  | none => rfl
  | some o => by_cases c : inForce d o = true <;> simp [c]
theorem orders_own (d : Desk) (l : List Nat) : addAll (lossOf d (couldsAt d l)) (d.orders.map (·.own)) = (quarterOn d l).orders.map (·.own) := by
  refine List.ext_getElem? fun j => ?_
  unfold lossOf
  rw [addAll_at, amt_lows d (ownLoss d (couldsAt d l)) j]
  unfold quarterOn
  simp only [List.getElem?_map, List.getElem?_zipIdx]
  cases q : d.orders[j]? with
  | none => rfl
  | some o => by_cases c : inForce d o = true <;> simp [c]
/-! ### the shares that lose least -/
def LeAt (x c : List Nat) : Prop := x.length = c.length ∧ ∀ (i a b : Nat), x[i]? = some a → c[i]? = some b → a ≤ b
theorem le_of' : ∀ {x c : List Nat}, LeAt x c → Ph.Le x c
  | [], [], _ => trivial
  | [], _ :: _, h => by have := h.1; simp at this
  | _ :: _, [], h => by have := h.1; simp at this
  | p :: x, q :: c, h => ⟨h.2 0 p q rfl rfl, le_of' ⟨by simpa using h.1, fun i a b h1 h2 => h.2 (i + 1) a b (by simpa using h1) (by simpa using h2)⟩⟩
theorem givenTo_le (cls c : List Nat) : ∀ (r : List Nat) (m : Limits) (x : List Nat), LeAt x c → LeAt (givenTo cls c r m x) c
  | [], m, x, h => h
  | i :: r, m, x, h => by
    rw [givenTo]
    refine givenTo_le cls c r _ _ ⟨by rw [List.length_set]; exact h.1, fun j a b h1 h2 => ?_⟩
    rw [List.getElem?_set] at h1
    by_cases e : i = j
    · subst e
      rw [if_pos rfl] at h1
      by_cases hl : i < x.length
      · rw [if_pos hl] at h1
        have e1 := Option.some.inj h1
        have e2 : c.getD i 0 = b := by rw [List.getD_eq_getElem?_getD, h2]; rfl
        rw [e2] at e1
        omega
      · rw [if_neg hl] at h1; cases h1
    · rw [if_neg e] at h1
      exact h.2 j a b h1 h2
theorem least_le (m : Limits) (cls worth c : List Nat) : Ph.Le (leastLost m cls worth c) c := le_of' (givenTo_le _ _ _ _ _ ⟨by rw [List.length_map], fun i a b h1 h2 => by
  rw [List.getElem?_map, h2] at h1
  have : 0 = a := Option.some.inj h1
  omega⟩)
theorem parted_le (k : Nat) (m : Limits) (cls worth c : List Nat) (h : cls.length = c.length) : Ph.Le (parted k m cls worth c) c := by
  unfold parted
  split
  · exact Ph.fairest_le m cls c h
  · exact least_le m cls worth c
theorem le_total : ∀ {x c : List Nat}, Ph.Le x c → total x ≤ total c
  | [], [], _ => Nat.le_refl _
  | [], _ :: _, h => h.elim
  | _ :: _, [], h => h.elim
  | a :: x, b :: c, h => by
    have := le_total h.2
    have h1 := h.1
    rw [Ph.total_cons, Ph.total_cons]; omega
/-! ### a desk that may be -/
structure DeskOk (d : Desk) : Prop where
  few : d.givers.length ≤ 24
  gok : ∀ g ∈ d.givers, GOk (toPG g)
  slen : d.stands.length = d.givers.length
  ofew : d.orders.length ≤ 32
  scope : ∀ o ∈ d.orders, o.scope ≤ 8
  turn : ∀ (i : Nat) (g : Giver) (a : Stand), d.givers[i]? = some g → d.stands[i]? = some a → a.turn.waited < g.inv.wait ∧ (a.turn.runs = true → a.turn.waited = 0)
  gave : d.gave = total (d.stands.map (·.gave))
  less : d.gave ≤ d.could
theorem fresh_ok : DeskOk fresh := ⟨by decide, fun g h => (by cases h), rfl, by decide, fun g h => (by cases h), fun i g a h => (by simp [fresh] at h), rfl, by decide⟩
theorem DeskOk.kinds8 {d : Desk} (h : DeskOk d) : ∀ k ∈ kindsOf d, k < 8 := fun k hk => by
  obtain ⟨g, hg, rfl⟩ := List.mem_map.mp hk
  exact (h.gok g hg).kind
theorem kinds_map (d : Desk) : kinds (d.givers.map toPG) = kindsOf d := by unfold kinds kindsOf; rw [List.map_map]; rfl
theorem worths_map (d : Desk) : worths (d.givers.map toPG) = worthsOf d := by unfold worths worthsOf; rw [List.map_map]; rfl
theorem zip_at {α β : Type} {xs : List α} {ys : List β} {i : Nat} {a : α} {b : β} (h : xs[i]? = some a) (g : ys[i]? = some b) : (xs.zip ys)[i]? = some (a, b) := List.getElem?_zip_eq_some.mpr ⟨h, g⟩
section
variable {d : Desk} {l : List Nat}
theorem standsAt_at (i : Nat) {g : Giver} {a : Stand} {x : Nat} (hg : d.givers[i]? = some g) (ha : d.stands[i]? = some a) (hx : l[i]? = some x) : (standsAt d l)[i]? = some { a with turn := if a.away = true then still else turned g.inv x a.turn } := by
  unfold standsAt
  rw [List.getElem?_map, zip_at hg (zip_at ha hx)]
  rfl
theorem standsAt_length (h : DeskOk d) (hl : l.length = d.givers.length) : (standsAt d l).length = d.givers.length := by
  unfold standsAt
  rw [List.length_map, List.length_zip, List.length_zip, h.slen]; omega
theorem couldsAt_length (h : DeskOk d) (hl : l.length = d.givers.length) : (couldsAt d l).length = d.givers.length := by
  unfold couldsAt
  rw [List.length_map, List.length_zip, List.length_zip, standsAt_length h hl]; omega
theorem couldsAt_at (i : Nat) {g : Giver} {a : Stand} {x : Nat} (hg : d.givers[i]? = some g) (ha : (standsAt d l)[i]? = some a) (hx : l[i]? = some x) : (couldsAt d l)[i]? = some (coulds g.inv x a.turn a.last) := by
  unfold couldsAt
  rw [List.getElem?_map, zip_at hg (zip_at ha hx)]
  rfl
theorem coulds_low (h : DeskOk d) (hl : l.length = d.givers.length) : ∀ x ∈ couldsAt d l, x < 4294967296 := fun x hx => by
  obtain ⟨i, hi⟩ := List.mem_iff_getElem?.mp hx
  have hi2 := (List.getElem?_eq_some_iff.mp hi).1
  rw [couldsAt_length h hl] at hi2
  obtain ⟨g, hg⟩ : ∃ g, d.givers[i]? = some g := ⟨_, List.getElem?_eq_getElem hi2⟩
  obtain ⟨a, ha⟩ : ∃ a, (standsAt d l)[i]? = some a := ⟨_, List.getElem?_eq_getElem (by rw [standsAt_length h hl]; exact hi2)⟩
  obtain ⟨z, hz⟩ : ∃ z, l[i]? = some z := ⟨_, List.getElem?_eq_getElem (by omega)⟩
  rw [couldsAt_at i hg ha hz] at hi
  have e := Option.some.inj hi
  have hm := (h.gok g (List.mem_of_getElem? hg)).most
  rw [← e, coulds_is (h.gok g (List.mem_of_getElem? hg))]
  unfold couldN passN
  split <;> omega
theorem total_add (f g : Stand → Nat) (xs : List Stand) : total (xs.map fun a => f a + g a) = total (xs.map f) + total (xs.map g) := by
  induction xs with
  | nil => rfl
  | cons a r ih => rw [List.map_cons, List.map_cons, List.map_cons, Ph.total_cons, Ph.total_cons, Ph.total_cons, ih]; omega
theorem total_zip : ∀ (ss : List Stand) (x : List Nat), ss.length = x.length → total (((ss.zip x).map fun (y : Stand × Nat) => { y.1 with last := y.2, gave := y.1.gave + y.2 }).map (·.gave)) = total (ss.map (·.gave)) + total x
  | [], [], _ => rfl
  | [], _ :: _, h => by simp at h
  | _ :: _, [], h => by simp at h
  | a :: ss, n :: x, h => by
    have ih := total_zip ss x (by simpa using h)
    rw [List.zip_cons_cons, List.map_cons, List.map_cons, List.map_cons, Ph.total_cons, Ph.total_cons, Ph.total_cons, ih]
    simp only
    omega
theorem stands_gave (h : DeskOk d) (hl : l.length = d.givers.length) : (standsAt d l).map (·.gave) = d.stands.map (·.gave) := by
  refine List.ext_getElem? fun i => ?_
  rw [List.getElem?_map, List.getElem?_map]
  by_cases hi : i < d.givers.length
  · obtain ⟨g, hg⟩ : ∃ g, d.givers[i]? = some g := ⟨_, List.getElem?_eq_getElem hi⟩
    obtain ⟨a, ha⟩ : ∃ a, d.stands[i]? = some a := ⟨_, List.getElem?_eq_getElem (by rw [h.slen]; exact hi)⟩
    obtain ⟨z, hz⟩ : ∃ z, l[i]? = some z := ⟨_, List.getElem?_eq_getElem (by omega)⟩
    rw [standsAt_at i hg ha hz, ha]; rfl
  · rw [List.getElem?_eq_none (by rw [standsAt_length h hl]; omega), List.getElem?_eq_none (by rw [h.slen]; omega)]
theorem parts_length (h : DeskOk d) (k : Nat) {c : List Nat} (hc : c.length = d.givers.length) : (parted k (limits d) (kindsOf d) (worthsOf d) c).length = d.givers.length := by
  rw [(parted_le k (limits d) (kindsOf d) (worthsOf d) c (by unfold kindsOf; rw [List.length_map]; omega)).length]; exact hc
theorem quarter_ok (h : DeskOk d) (hl : l.length = d.givers.length) : DeskOk (quarterOn d l) := by
  have hc := couldsAt_length h hl
  have hs := standsAt_length h hl
  have hx : (partedBy d (couldsAt d l)).length = d.givers.length := parts_length h d.rule hc
  have hle : Ph.Le (partedBy d (couldsAt d l)) (couldsAt d l) := parted_le _ _ _ _ _ (by unfold kindsOf; rw [List.length_map]; omega)
  refine ⟨h.few, h.gok, ?_, ?_, ?_, ?_, ?_, ?_⟩
  · show (((standsAt d l).zip (partedBy d (couldsAt d l))).map _).length = _
    rw [List.length_map, List.length_zip, hs, hx]; exact Nat.min_self _
  · show (d.orders.zipIdx.map _).length ≤ 32
    rw [List.length_map, List.length_zipIdx]; exact h.ofew
  · intro o ho
    obtain ⟨y, hy, rfl⟩ := List.mem_map.mp (show o ∈ d.orders.zipIdx.map _ from ho)
    have hm : y.1 ∈ d.orders := by
      obtain ⟨j, hj⟩ := List.mem_iff_getElem?.mp hy
      rw [List.getElem?_zipIdx] at hj
      cases q : d.orders[j]? with
      | none => rw [q] at hj; cases hj
      | some o => rw [q] at hj; have := Option.some.inj hj; rw [← this]; exact List.mem_of_getElem? q
    have := h.scope _ hm
    split <;> exact this
  · intro i g a hg ha
    have hg' : d.givers[i]? = some g := hg
    have ha' : (((standsAt d l).zip (partedBy d (couldsAt d l))).map fun (y : Stand × Nat) => { y.1 with last := y.2, gave := y.1.gave + y.2 })[i]? = some a := ha
    have hi := (List.getElem?_eq_some_iff.mp hg').1
    obtain ⟨b, hb⟩ : ∃ a, d.stands[i]? = some a := ⟨_, List.getElem?_eq_getElem (by rw [h.slen]; exact hi)⟩
    obtain ⟨z, hz⟩ : ∃ z, l[i]? = some z := ⟨_, List.getElem?_eq_getElem (by omega)⟩
    obtain ⟨n, hn⟩ : ∃ n, (partedBy d (couldsAt d l))[i]? = some n := ⟨_, List.getElem?_eq_getElem (by omega)⟩
    rw [List.getElem?_map, zip_at (standsAt_at i hg' hb hz) hn] at ha'
    have e := Option.some.inj ha'
    rw [← e]
    have hgo := h.gok g (List.mem_of_getElem? hg')
    have ht := h.turn i g b hg' hb
    simp only
    split
    · exact ⟨hgo.wait0, fun _ => rfl⟩
    · exact turned_ok z hgo.wait0 ht.1 ht.2
  · show d.gave + total (partedBy d (couldsAt d l)) = total ((((standsAt d l).zip (partedBy d (couldsAt d l))).map fun (y : Stand × Nat) => { y.1 with last := y.2, gave := y.1.gave + y.2 }).map (·.gave))
    rw [total_zip _ _ (by omega), stands_gave h hl, h.gave]
  · have := le_total hle
    have h2 := h.less
    show d.gave + total (partedBy d (couldsAt d l)) ≤ d.could + total (couldsAt d l)
    omega
end
end Pp
end
section
set_option Elab.async false
set_option linter.all false
set_option maxRecDepth 100000
set_option maxHeartbeats 2000000
namespace Pp
open PySem PySem.Spec PyProof.Rows L2 Evl
def top (i : Nat) : Stmt := PySem.Challenge.pw_plantshand_s01_answers.main.body.getD i (.Pass ⟨0, 0, 0, 0⟩)
abbrev s_with_row : Stmt := top 1
abbrev s_is_table : Stmt := top 5
abbrev s_loss_at : Stmt := top 6
abbrev s_left_after_loss : Stmt := top 7
abbrev s_Giver__init__ : Stmt := L2.inClass (top 14) 0
abbrev s_is_giver : Stmt := top 15
abbrev s_passed : Stmt := top 16
abbrev s_step : Stmt := top 17
abbrev s_could_give : Stmt := top 18
abbrev s_class_sums : Stmt := top 25
abbrev s_scope_sums : Stmt := top 26
abbrev s_under : Stmt := top 27
abbrev s_given_in_all : Stmt := top 28
abbrev s_level_and_rest : Stmt := top 29
abbrev s_levelled : Stmt := top 30
abbrev s_with_class_levelled : Stmt := top 31
abbrev s_fairest : Stmt := top 32
abbrev s_by_worth : Stmt := top 33
abbrev s_least_losing : Stmt := top 34
abbrev s_shares_by : Stmt := top 35
abbrev s_Order__init__ : Stmt := L2.inClass (top 39) 0
abbrev s_Desk__init__ : Stmt := L2.inClass (top 40) 0
abbrev s_copy_of : Stmt := top 41
abbrev s_with_one : Stmt := top 42
abbrev s_in_force : Stmt := top 45
abbrev s_brought_down : Stmt := top 46
abbrev s_limits_without : Stmt := top 47
abbrev s_limits_under : Stmt := top 48
abbrev s_limits_now : Stmt := top 49
abbrev s_own_losses : Stmt := top 50
abbrev s_binding : Stmt := top 51
abbrev s_clearing : Stmt := top 52
abbrev s_steps : Stmt := top 54
abbrev s_able_after : Stmt := top 55
abbrev s_able_next : Stmt := top 56
abbrev s_count_orders : Stmt := top 57
abbrev s_go_through : Stmt := top 58
abbrev s_tell_giver : Stmt := top 61
abbrev s_tell_away : Stmt := top 62
abbrev s_tell_ramps : Stmt := top 63
abbrev s_tell_rule : Stmt := top 64
abbrev s_tell_order : Stmt := top 65
abbrev s_tell_back : Stmt := top 66
abbrev s_tell_quarter : Stmt := top 67
abbrev s_Memory__init__ : Stmt := L2.inClass (top 70) 0
abbrev s_take_over : Stmt := top 71
abbrev s_tell_undo : Stmt := top 72
abbrev s_tell_redo : Stmt := top 73
abbrev s_tell_begin : Stmt := top 74
abbrev s_is_allowed : Stmt := top 80
abbrev s_judgement : Stmt := top 81
abbrev s_loss_of : Stmt := top 82
abbrev s_full_classes : Stmt := top 83
abbrev s_prices_told : Stmt := top 84
abbrev s_fits_worth : Stmt := top 85
abbrev s_is_proof : Stmt := top 86
abbrev s_is_able : Stmt := top 89
abbrev s_ask_could : Stmt := top 90
abbrev s_ask_limits : Stmt := top 91
abbrev s_ask_parts : Stmt := top 92
abbrev s_ask_judge : Stmt := top 93
abbrev s_ask_prices : Stmt := top 94
abbrev s_ask_proof : Stmt := top 95
abbrev s_ask_binds : Stmt := top 96
abbrev s_ask_clears : Stmt := top 97
abbrev s_ask_lost : Stmt := top 99
abbrev s_ask_told : Stmt := top 100
abbrev s_ask_state : Stmt := top 101
abbrev s_ask_sums : Stmt := top 102
abbrev s_ask_passes : Stmt := top 103
abbrev s_read_rows : Stmt := top 127
abbrev s_answer_change : Stmt := top 128
abbrev s_answer_remembered : Stmt := top 129
abbrev s_answer_question : Stmt := top 130
abbrev s_answer_record : Stmt := top 131
abbrev s_answer_turn : Stmt := top 132
abbrev s_answer_call : Stmt := top 133
abbrev s_answers : Stmt := top 134
/-- what the top leaves: built-in names, constants -/
structure Txt (K : PySem.W.Frag) (mg : Str → Option Value) : Prop where
  b_enumerate : mg "enumerate" = none
  b_int : mg "int" = none
  b_len : mg "len" = none
  b_list : mg "list" = none
  b_max : mg "max" = none
  b_min : mg "min" = none
  b_range : mg "range" = none
  b_sorted : mg "sorted" = none
  b_sum : mg "sum" = none
  b_zip : mg "zip" = none
  c_MICROS : ∃ u, mg "MICROS" = some u ∧ RelV (.int 1000000) u
  c_MOST_POINTS : ∃ u, mg "MOST_POINTS" = some u ∧ RelV (.int 24) u
  c_MOST_GIVERS : ∃ u, mg "MOST_GIVERS" = some u ∧ RelV (.int 24) u
  c_MOST_CLASS : ∃ u, mg "MOST_CLASS" = some u ∧ RelV (.int 7) u
  c_MOST_WATTS : ∃ u, mg "MOST_WATTS" = some u ∧ RelV (.int 10000000) u
  c_MOST_WAIT : ∃ u, mg "MOST_WAIT" = some u ∧ RelV (.int 96) u
  c_MOST_WORTH : ∃ u, mg "MOST_WORTH" = some u ∧ RelV (.int 65535) u
  c_CLASSES : ∃ u, mg "CLASSES" = some u ∧ RelV (.int 8) u
  c_PLANT : ∃ u, mg "PLANT" = some u ∧ RelV (.int 8) u
  c_NO_LIMIT : ∃ u, mg "NO_LIMIT" = some u ∧ RelV (.int (-1)) u
  c_FAIREST : ∃ u, mg "FAIREST" = some u ∧ RelV (.int 0) u
  c_MOST_RULE : ∃ u, mg "MOST_RULE" = some u ∧ RelV (.int 1) u
  c_MOST_NUMBER : ∃ u, mg "MOST_NUMBER" = some u ∧ RelV (.int 4294967295) u
  c_NOT_BACK : ∃ u, mg "NOT_BACK" = some u ∧ RelV (.int (-1)) u
  c_NO_ORDER : ∃ u, mg "NO_ORDER" = some u ∧ RelV (.int (-1)) u
  c_MOST_ORDERS : ∃ u, mg "MOST_ORDERS" = some u ∧ RelV (.int 32) u
  c_MOST_REMEMBERED : ∃ u, mg "MOST_REMEMBERED" = some u ∧ RelV (.int 16) u
  c_NOT_ALLOWED : ∃ u, mg "NOT_ALLOWED" = some u ∧ RelV (.int 0) u
  c_ALLOWED_ONLY : ∃ u, mg "ALLOWED_ONLY" = some u ∧ RelV (.int 1) u
  c_FAIREST_ALSO : ∃ u, mg "FAIREST_ALSO" = some u ∧ RelV (.int 2) u
  c_FAIREST_TOLD : ∃ u, mg "FAIREST_TOLD" = some u ∧ RelV (.int 3) u
  c_PRICES_ASKED : ∃ u, mg "PRICES_ASKED" = some u ∧ RelV (.int 9) u
  c_GIVER : ∃ u, mg "GIVER" = some u ∧ RelV (.int 0) u
  c_AWAY : ∃ u, mg "AWAY" = some u ∧ RelV (.int 1) u
  c_RAMPS : ∃ u, mg "RAMPS" = some u ∧ RelV (.int 2) u
  c_RULE : ∃ u, mg "RULE" = some u ∧ RelV (.int 3) u
  c_ORDER : ∃ u, mg "ORDER" = some u ∧ RelV (.int 4) u
  c_BACK : ∃ u, mg "BACK" = some u ∧ RelV (.int 5) u
  c_QUARTER : ∃ u, mg "QUARTER" = some u ∧ RelV (.int 6) u
  c_COULD : ∃ u, mg "COULD" = some u ∧ RelV (.int 7) u
  c_LIMITS : ∃ u, mg "LIMITS" = some u ∧ RelV (.int 8) u
  c_PARTS : ∃ u, mg "PARTS" = some u ∧ RelV (.int 9) u
  c_JUDGE : ∃ u, mg "JUDGE" = some u ∧ RelV (.int 10) u
  c_PRICES : ∃ u, mg "PRICES" = some u ∧ RelV (.int 11) u
  c_PROOF : ∃ u, mg "PROOF" = some u ∧ RelV (.int 12) u
  c_LOST : ∃ u, mg "LOST" = some u ∧ RelV (.int 13) u
  c_TOLD : ∃ u, mg "TOLD" = some u ∧ RelV (.int 14) u
  c_BINDS : ∃ u, mg "BINDS" = some u ∧ RelV (.int 15) u
  c_STATE : ∃ u, mg "STATE" = some u ∧ RelV (.int 17) u
  c_SUMS : ∃ u, mg "SUMS" = some u ∧ RelV (.int 18) u
  c_PASSES : ∃ u, mg "PASSES" = some u ∧ RelV (.int 19) u
  c_UNDO : ∃ u, mg "UNDO" = some u ∧ RelV (.int 20) u
  c_REDO : ∃ u, mg "REDO" = some u ∧ RelV (.int 21) u
/-- whole numbers as values -/
def nvs (l : List Nat) : List V := l.map fun (n : Nat) => V.int (n : Int)
theorem nvs_get {l : List Nat} {i : Nat} {x : V} (h : (nvs l)[i]? = some x) : ∃ n, l[i]? = some n ∧ x = .int (n : Int) := by
  unfold nvs at h
  rw [List.getElem?_map] at h
  cases e : l[i]? with
  | none => rw [e] at h; cases h
  | some n => rw [e] at h; exact ⟨n, rfl, (Option.some.inj h).symm⟩
theorem nvs_at {l : List Nat} {i : Nat} {n : Nat} (h : l[i]? = some n) : (nvs l)[i]? = some (.int (n : Int)) := by
  unfold nvs
  rw [List.getElem?_map, h]; rfl
theorem nvs_length (l : List Nat) : (nvs l).length = l.length := by unfold nvs; rw [List.length_map]
theorem nvs_ati {l : List Nat} {i : Nat} {n : Nat} {z : Int} (e : z = (i : Int)) (h : l[i]? = some n) : atI (nvs l) z = some (.int (n : Int)) := by
  rw [e]; exact atI_nat (nvs_at h)
end Pp
end
section
set_option Elab.async false
set_option linter.all false
set_option maxRecDepth 100000
set_option maxHeartbeats 2000000
namespace Pp
open PySem PySem.Spec PyProof.Rows L2 Evl
/-! the operations by short names -/
abbrev qAdd : R2 := rI0 fun i j => .int (i + j)
abbrev qSub : R2 := rI0 fun i j => .int (i - j)
abbrev qMul : R2 := rI CMulW fun i j => .int (i * j)
abbrev qDiv : R2 := rI CDivW fun i j => .int (i / j)
abbrev qMod : R2 := rI (fun _ j => 0 < j) fun i j => .int (i % j)
abbrev qLt : R2 := rI0 fun i j => .bl (decide (i < j))
abbrev qLe : R2 := rI0 fun i j => .bl (decide (i ≤ j))
abbrev qGt : R2 := rI0 fun i j => .bl (decide (j < i))
abbrev qGe : R2 := rI0 fun i j => .bl (decide (j ≤ i))
abbrev rMin2 : List V → Hp → VK → Prop := fun xs H Q => ∃ i j, xs = [.int i, .int j] ∧ Q (.int (if j < i then j else i)) H
abbrev rInt1 : List V → Hp → VK → Prop := fun xs H Q => (∃ i, xs = [.int i] ∧ Q (.int i) H) ∨ ∃ k, xs = [.bl k] ∧ Q (.int (if k then 1 else 0)) H
section
variable {X : Cx}
/-- a class made without arguments -/
theorem pe_mk0 {k j : Nat} {C : Addr} {x : Str} {sp : Sp} {dvs : List V} {p pos : Pos} (c : C8.Mak X.prog X.w X.K X.mg X.base k x C sp dvs) (hr : Room j X.A) (hk : k + 1 ≤ j) (hg : Gl X x) (hdb : (x == ("__debug__" : Str)) = false := by decide) :
    PE X (.Call (.Name x p) [] [] pos) (tMake C sp dvs C8.E0 tNil) := by
  obtain ⟨f, fd, ps, ds, M, F, hm, b, d⟩ := c.ex
  exact pe_make0 M F (hr.mono hk) hg hm b d C8.pass0 hdb
/-- xs[i] of a list, as an augmented assignment reads it -/
theorem get_list : PGet X (rIxL X.K) := by
  intro pins s σ H o i ov iv Q I rx ry h
  obtain ⟨p, xs, i, z, rfl, rfl, hq, he, q⟩ := h
  cases rx
  obtain ⟨t, rfl⟩ := ry
  obtain ⟨its, r, pl, hz⟩ := I.list hq
  obtain ⟨j, h1, h2, h3, h4, h5⟩ := atI_get he
  obtain ⟨w, ew, rw'⟩ := r.get h2
  have hl := r.length
  have hn := line63
  have fin : EP X pins σ Q w s := ⟨z, H, I, rw', q⟩
  by_cases h0 : 0 ≤ i
  · have hj : i.toNat = j := by
      rw [seqIndex_of h0 h5] at h1
      exact Option.some.inj h1
    exact wpAny_getItem_list pl.isList h0 (by omega) (by rw [hj]; simpa using ew) fin
  · have hj : (i + (its.toArray.size : Int)).toNat = j := by
      rw [seqIndex_neg (by omega) h4] at h1
      rw [List.size_toArray, ← hl]
      exact Option.some.inj h1
    exact wpAny_getItem_list_neg pl.isList (by omega) (by rw [List.size_toArray] <;> omega) (by omega) (by rw [hj]; simpa using ew) fin
end
end Pp
end
section
set_option Elab.async false
set_option linter.all false
set_option maxRecDepth 100000
set_option maxHeartbeats 2000000
namespace Pp
open PySem PySem.Spec PyProof.Rows L2 Evl
/-! ### max(xs, default=d) of a list of ints -/
abbrev kwD (d : Value) : List (Str × Value) := [(Str.ofString "default", d)]
theorem args_maxD (a d : Value) : argsOk "max" ⟨[a], kwD d⟩ := by
  unfold argsOk; kernel_rfl
section
variable {prog : Program} {w : World} {A : Around} {R : Result → Shared → Prop} {I : Addr} {fp wr : List Addr} {n : Nat} {P : Nat → Value → Prop} {St : Nat → Heap → Prop} {d : Value}
theorem maxD_loop (W : Walks prog w A.in1 I fp wr n P St) (bt : Nat → Nat → Bool) (hcmp : CmpOf prog w A.in1 .Gt P bt) (S : Addr) (hSf : S ∉ fp) :
    ∀ (k j : Nat) (s : Shared) (vb : Value) (c : Nat), n - (j + 1) = k → j + 1 ≤ n → St (j + 1) s.heap → P (argBest bt j) vb → s.heap.get? S = some { cls := .type "list", dict := none, data := .seq #[vb, vb] c, slots := #[] } →
    (∀ v h' tk, P (argBest bt (n - 1)) v → (∀ b o, b ∉ wr → b ≠ S → s.heap.get? b = some o → h'.get? b = some o) → R (.ok (.ret v)) { s with heap := h', toks := tk }) → codeAny (model prog w) A (.builtin "max.loop" ⟨[.ref I, .none, .ref S], kwD d⟩) R s := by
  have hSw : S ∉ wr := fun z => hSf (W.sub _ z)
  have nm : (toString "max" ++ toString ".loop" : String) = "max.loop" := by decide
  intro k
  induction k with
  | zero =>
    intro j s vb c hk hj hst hPb hS hR
    have hin : j + 1 = n := by omega
    refine codeAny_builtin F.entry_max_loop ?_; rw [Around.under_plainId F.plain_max_loop _]
    show wpAny _ A.in1 (seqItems? (.ref S) >>= fun z => _) _ _ s
    refine wpAny_bind (wpAny_seqItems hS rfl ?_); show wpAny _ A.in1 (tryCatch (pyNext (.ref I)) _ >>= fun z => _) _ _ s
    refine wpAny_bind (wpAny_tryCatch (W.done s _ _ (hin ▸ hst) fun h1 tk hk1 => ?_))
    have hS1 := hk1 S _ hSw hS
    show wpAny _ A.in1 (updateSeq S (fun _ => #[]) >>= fun z => _) _ _ _
    refine wpAny_bind (wpAny_updateSeq hS1 rfl (wpAny_bind (wpAny_letGo (wpAny_pure ?_))))
    exact hR vb _ tk (by rw [← hin]; exact hPb) fun b o hbw hbS e => (Heap.get?_update_other _ _ (Ne.symm hbS)).trans (hk1 b o hbw e)
  | succ k ih =>
    intro j s vb c hk hj hst hPb hS hR
    have hlt : j + 1 < n := by omega
    refine codeAny_builtin F.entry_max_loop ?_; rw [Around.under_plainId F.plain_max_loop _]
    show wpAny _ A.in1 (seqItems? (.ref S) >>= fun z => _) _ _ s
    refine wpAny_bind (wpAny_seqItems hS rfl ?_); show wpAny _ A.in1 (tryCatch (pyNext (.ref I)) _ >>= fun z => _) _ _ s
    refine wpAny_bind (wpAny_tryCatch (W.item (j + 1) s _ _ hlt hst fun v h1 tk hP hst1 hk1 => ?_))
    have hS1 := hk1 S _ hSw hS
    show wpAny _ A.in1 (tryCatch (holding [v, v] (richCompare .Gt v vb >>= _)) _ >>= fun z => _) _ _ _
    refine wpAny_bind (wpAny_tryCatch (wpAny_holding (wpAny_bind (hcmp (j + 1) (argBest bt j) v vb _ _ _ hP hPb (wpAny_bind (wpAny_holding (wpAny_truthy_bool (wpAny_bind (wpAny_letGo (wpAny_pure ?_))))))))))
    cases hb : bt (j + 1) (argBest bt j) with
    | true =>
      simp only [if_true]
      refine wpAny_bind (wpAny_updateSeq hS1 rfl (wpAny_bind (wpAny_letGo ?_)))
      rw [nm]
      refine wpAny_pure ⟨plainId_quiet F.plain_max_loop _, ih (j + 1) _ v _ (by omega) hlt (W.frame _ _ _ hst1 fun b hbf o e => ?_) (by simp only [argBest, hb, if_true]; exact hP) (Heap.get?_update_self _ hS1 rfl) fun v' h2 tk2 hP' hk2 => ?_⟩
      · exact (Heap.get?_update_other _ _ (fun z : S = b => hSf (by rw [z]; exact hbf))).trans e
      · exact hR v' h2 tk2 hP' fun b o hbw hbS e => hk2 b o hbw hbS ((Heap.get?_update_other _ _ (Ne.symm hbS)).trans (hk1 b o hbw e))
    | false =>
      simp only [Bool.false_eq_true, if_false]
      refine wpAny_bind (wpAny_letGo ?_)
      rw [nm]
      refine wpAny_pure ⟨plainId_quiet F.plain_max_loop _, ih (j + 1) _ vb c (by omega) hlt hst1 (by simp only [argBest, hb, Bool.false_eq_true, if_false]; exact hPb) hS1 fun v' h2 tk2 hP' hk2 => hR v' h2 tk2 hP' fun b o hbw hbS e => hk2 b o hbw hbS (hk1 b o hbw e)⟩
theorem maxD_first (W : Walks prog w A.in1 I fp wr n P St) (bt : Nat → Nat → Bool) (hcmp : CmpOf prog w A.in1 .Gt P bt) (S : Addr) (hSf : S ∉ fp) {s : Shared} {c : Nat} (hst : St 0 s.heap)
    (hS : s.heap.get? S = some { cls := .type "list", dict := none, data := .seq #[] c, slots := #[] })
    (hR : ∀ v h' tk, (n = 0 ∧ v = d ∨ 0 < n ∧ P (argBest bt (n - 1)) v) → (∀ b o, b ∉ wr → b ≠ S → s.heap.get? b = some o → h'.get? b = some o) → R (.ok (.ret v)) { s with heap := h', toks := tk }) :
    codeAny (model prog w) A (.builtin "max.loop" ⟨[.ref I, .none, .ref S], kwD d⟩) R s := by
  have hSw : S ∉ wr := fun z => hSf (W.sub _ z)
  have nm : (toString "max" ++ toString ".loop" : String) = "max.loop" := by decide
  refine codeAny_builtin F.entry_max_loop ?_; rw [Around.under_plainId F.plain_max_loop _]
  show wpAny _ A.in1 (seqItems? (.ref S) >>= fun z => _) _ _ s
  refine wpAny_bind (wpAny_seqItems hS rfl ?_); show wpAny _ A.in1 (tryCatch (pyNext (.ref I)) _ >>= fun z => _) _ _ s
  by_cases hn : 0 < n
  · refine wpAny_bind (wpAny_tryCatch (W.item 0 s _ _ hn hst fun v h1 tk hP hst1 hk1 => ?_))
    have hS1 := hk1 S _ hSw hS
    show wpAny _ A.in1 (updateSeq S (fun _ => #[v, v]) >>= fun z => _) _ _ _
    refine wpAny_bind (wpAny_updateSeq hS1 rfl ?_)
    rw [nm]
    refine wpAny_pure ⟨plainId_quiet F.plain_max_loop _, maxD_loop W bt hcmp S hSf _ 0 _ v _ rfl hn (W.frame _ _ _ hst1 fun b hbf o e => ?_) hP (Heap.get?_update_self _ hS1 rfl) fun v' h2 tk2 hP' hk2 => ?_⟩
    · exact (Heap.get?_update_other _ _ (fun z : S = b => hSf (by rw [z]; exact hbf))).trans e
    · exact hR v' h2 tk2 (.inr ⟨hn, hP'⟩) fun b o hbw hbS e => hk2 b o hbw hbS ((Heap.get?_update_other _ _ (Ne.symm hbS)).trans (hk1 b o hbw e))
  · have n0 : n = 0 := by omega
    subst n0
    refine wpAny_bind (wpAny_tryCatch (W.done s _ _ hst fun h1 tk hk1 => ?_))
    show wpAny _ A.in1 (rule _ >>= fun z => _) _ _ _
    exact wpAny_bind (wpAny_rule (wpAny_pure (hR d h1 tk (.inl ⟨rfl, rfl⟩) fun b o hbw _ e => hk1 b o hbw e)))
end
section
variable {prog : Program} {w : World} {A : Around} {E : Value → Shared → Prop} {s : Shared} {d : Value}
theorem call_maxD_walk {x : Value} {Q : Value → Shared → Prop}
    (h : wpAny (model prog w) A.in1 (pyIter x) (fun it s₂ => ∃ I fp wr n P St bt, it = .ref I ∧ Walks prog w A.in1 I fp wr n P St ∧ St 0 s₂.heap ∧ (∀ b ∈ fp, b < s₂.heap.objs.size) ∧ CmpOf prog w A.in1 .Gt P bt ∧
      ∀ v h' tk, (n = 0 ∧ v = d ∨ 0 < n ∧ P (argBest bt (n - 1)) v) → (∀ b o, b ∉ wr → s₂.heap.get? b = some o → h'.get? b = some o) → Q v { s₂ with heap := h', toks := tk }) E s) :
    wpAny (model prog w) A (call (.builtin "max") [x] (kwD d)) Q E s := by
  have nm : (toString "max" ++ toString ".loop" : String) = "max.loop" := by decide
  refine kmk_tree F.kind_max F.plain_max F.entry_max (args_maxD _ _) ?_
  show wpAny _ A.in1 (Builtin.Builtins.bindParams "max" ["key", "default"] 0 ⟨[], kwD d⟩ >>= _) _ _ s
  refine wpAny_bind (wpAny_of_eq (show Builtin.Builtins.bindParams "max" ["key", "default"] 0 ⟨[], kwD d⟩ = pure [none, some d] from rfl) ?_)
  refine wpAny_bind (wpAny_pure (wpAny_bind (wpAny_mono h (fun it s₂ h₂ => ?_) fun _ _ e => e)))
  obtain ⟨I, fp, wr, n, P, St, bt, rfl, W, hst, hfp, hcmp, hQ⟩ := h₂
  refine wpAny_bind (wpAny_newObj_type ?_)
  have hSf : s₂.heap.objs.size ∉ fp := fun z => Nat.lt_irrefl _ (hfp _ z)
  rw [nm]
  refine wpAny_pure ⟨plainId_quiet F.plain_max_loop _, maxD_first W bt hcmp s₂.heap.objs.size hSf (W.frame _ _ _ hst fun b _ o e => Heap.get?_push_of_some _ e) (Heap.get?_push_size _ rfl) fun v h' tk hP hk => ?_⟩
  exact hQ v h' tk hP fun b o hbw e => hk b o hbw (Nat.ne_of_lt (Heap.lt_size e)) (Heap.get?_push_of_some _ e)
end
/-- the greatest, or d where there is none -/
def best (d : Int) (ns : List Int) : Int := ns.foldl (fun a b => if a < b then b else a) (ns.headD d)
def rMaxD (K : PySem.W.Frag) : List V → List V → Hp → VK → Prop := fun vs zs H Q => ∃ (a : Addr) (ns : List Int) (d : Int), vs = [V.ref a] ∧ zs = [V.int d] ∧ SqL K H a (ns.map V.int) ∧ ∀ m, (ns = [] ∧ m = d ∨ m ∈ ns ∧ ∀ y ∈ ns, y ≤ m) → Q (.int m) H
theorem cr_maxD {X : Cx} (hc : X.calm = true) : CallRK X (.builtin "max") [Str.ofString "default"] (rMaxD X.K) := by
  intro pins s σ H vs zs us ws Q I r rz h
  obtain ⟨a, ns, d, rfl, rfl, hs, q⟩ := h
  obtain rfl := Vals.ref1 r
  obtain ⟨w1, rfl, t1, rfl⟩ := vals1 rz
  obtain ⟨its, rv, hl0, _⟩ := I.list hs
  have hl := hl0.isList
  have hi := rv.ints
  obtain ⟨xs, e⟩ := hi.allInts.items
  have hn : numsOf (intItems xs).toList = ns := by rw [← e]; exact hi.numsOf
  rw [nums_intItems] at hn
  subst hn
  rw [e] at hl
  refine call_maxD_walk (iter_intList hl fun s₂ e2 st hfp hlI => ?_)
  subst e2
  refine ⟨_, _, _, _, _, _, _, rfl, Walks.list (A := X.A.in1) (I.ok.hd hc) _ a hlI (intItems xs), st, hfp, CmpOf.ints_gt (numAt xs) (fun _ _ => intItems_at), fun v h' tk hP hk => ?_⟩
  have hsz : (intItems xs).size = xs.size := by simp [intItems]
  rcases hP with ⟨h0, rfl⟩ | ⟨h0, hP⟩
  · refine ⟨.int d, H, I.kept (old_kept hk), ⟨_, rfl⟩, q d (.inl ⟨?_, rfl⟩)⟩
    apply List.eq_nil_of_length_eq_zero
    rw [List.length_map, Array.length_toList]; omega
  · have hv : (intItems xs)[argBest (fun i j => decide (numAt xs i > numAt xs j)) (xs.size - 1)]? = some v := by rw [← hsz]; exact hP
    obtain ⟨t, rfl⟩ := intItems_at hv
    obtain ⟨g1, g2⟩ := argBest_gt (numAt xs) (xs.size - 1)
    refine ⟨.int _, H, I.kept (old_kept hk), ⟨_, rfl⟩, q _ (.inr ⟨?_, fun y hy => ?_⟩)⟩
    · rw [numAt_eq]; exact PySem.getD_mem (by rw [List.length_map, Array.length_toList]; omega)
    · obtain ⟨j, hj, rfl⟩ := mem_getD hy
      rw [List.length_map, Array.length_toList] at hj
      rw [← numAt_eq]; exact g2 j (by omega)
end Pp
end
section
set_option Elab.async false
set_option linter.all false
set_option maxRecDepth 100000
set_option maxHeartbeats 2000000
namespace Pp
open PySem PySem.Spec PyProof.Rows L2 Evl
/-! ### what expressions of whole numbers evaluate to -/
abbrev nv (n : Nat) : V := .int (n : Int)
theorem small_log {n : Nat} (h : n < 2 ^ 200) : (n : Int).natAbs.log2 < 200 := by
  show n.log2 < 200
  exact PySem.Flt.log2_lt_of (by decide) h
section
variable {K : PySem.W.Frag} {σ : L2.St} {H : Hp} {ta tb tc te : TE} {i j k : Int} {m n l : Nat}
theorem ev_addI (ha : Ev ta σ H (.int i)) (hb : Ev tb σ H (.int j)) : Ev (tOp qAdd ta tb) σ H (.int (i + j)) := ev_op ha hb rv_I0
theorem ev_subI (ha : Ev ta σ H (.int i)) (hb : Ev tb σ H (.int j)) : Ev (tOp qSub ta tb) σ H (.int (i - j)) := ev_op ha hb rv_I0
theorem ev_mulI (ha : Ev ta σ H (.int i)) (hb : Ev tb σ H (.int j)) (h1 : i.natAbs < 2 ^ 200) (h2 : j.natAbs < 2 ^ 200) : Ev (tOp qMul ta tb) σ H (.int (i * j)) :=
  ev_op ha hb (rv_I (wide_mul (a := 200) (b := 200) h1 h2 (by decide) (by decide) (by decide)))
theorem ev_divI (ha : Ev ta σ H (.int i)) (hb : Ev tb σ H (.int j)) (h1 : 0 < j) (h2 : j.natAbs < 2 ^ 200) : Ev (tOp qDiv ta tb) σ H (.int (i / j)) :=
  ev_op ha hb (rv_I (wide_div (b := 200) h1 h2 (by decide) (by decide)))
theorem ev_modI (ha : Ev ta σ H (.int i)) (hb : Ev tb σ H (.int j)) (h1 : 0 < j) : Ev (tOp qMod ta tb) σ H (.int (i % j)) := ev_op ha hb (rv_I h1)
theorem ev_addN (ha : Ev ta σ H (nv m)) (hb : Ev tb σ H (nv n)) : Ev (tOp qAdd ta tb) σ H (nv (m + n)) := ev_is (ev_addI ha hb) (by rw [nv]; congr 1)
theorem ev_subN (ha : Ev ta σ H (nv m)) (hb : Ev tb σ H (nv n)) (h : n ≤ m) : Ev (tOp qSub ta tb) σ H (nv (m - n)) := ev_is (ev_subI ha hb) (by rw [nv]; congr 1; omega)
theorem ev_mulN (ha : Ev ta σ H (nv m)) (hb : Ev tb σ H (nv n)) (h1 : m < 2 ^ 200) (h2 : n < 2 ^ 200) : Ev (tOp qMul ta tb) σ H (nv (m * n)) := ev_is (ev_mulI ha hb h1 h2) (by rw [nv]; congr 1)
theorem ev_divN (ha : Ev ta σ H (nv m)) (hb : Ev tb σ H (nv n)) (h1 : 0 < n) (h2 : n < 2 ^ 200) : Ev (tOp qDiv ta tb) σ H (nv (m / n)) := ev_is (ev_divI ha hb (by omega) h2) (by rw [nv]; congr 1)
theorem ev_modN (ha : Ev ta σ H (nv m)) (hb : Ev tb σ H (nv n)) (h1 : 0 < n) : Ev (tOp qMod ta tb) σ H (nv (m % n)) := ev_is (ev_modI ha hb (by omega)) (by rw [nv]; congr 1)
/-! tests -/
theorem ev_ltI (ha : Ev ta σ H (.int i)) (hb : Ev tb σ H (.int j)) : Ev (tOp qLt ta tb) σ H (.bl (decide (i < j))) := ev_op ha hb rv_I0
theorem ev_leI (ha : Ev ta σ H (.int i)) (hb : Ev tb σ H (.int j)) : Ev (tOp qLe ta tb) σ H (.bl (decide (i ≤ j))) := ev_op ha hb rv_I0
theorem ev_gtI (ha : Ev ta σ H (.int i)) (hb : Ev tb σ H (.int j)) : Ev (tOp qGt ta tb) σ H (.bl (decide (j < i))) := ev_op ha hb rv_I0
theorem ev_geI (ha : Ev ta σ H (.int i)) (hb : Ev tb σ H (.int j)) : Ev (tOp qGe ta tb) σ H (.bl (decide (j ≤ i))) := ev_op ha hb rv_I0
theorem ev_eqI (ha : Ev ta σ H (.int i)) (hb : Ev tb σ H (.int j)) : Ev (tOp rEq ta tb) σ H (.bl (decide (i = j))) := ev_is (ev_op ha hb (rv_eq rfl)) (by
  congr 1; rw [decide_eq_decide]; exact ⟨fun e => V.int.inj e, fun e => by rw [e]⟩)
theorem ev_neI (ha : Ev ta σ H (.int i)) (hb : Ev tb σ H (.int j)) : Ev (tOp rNe ta tb) σ H (.bl (!decide (i = j))) := ev_is (ev_op ha hb (rv_ne rfl)) (by
  congr 2; rw [decide_eq_decide]; exact ⟨fun e => V.int.inj e, fun e => by rw [e]⟩)
theorem ev_ltN (ha : Ev ta σ H (nv m)) (hb : Ev tb σ H (nv n)) : Ev (tOp qLt ta tb) σ H (.bl (decide (m < n))) := ev_is (ev_ltI ha hb) (by congr 1; rw [decide_eq_decide]; omega)
theorem ev_leN (ha : Ev ta σ H (nv m)) (hb : Ev tb σ H (nv n)) : Ev (tOp qLe ta tb) σ H (.bl (decide (m ≤ n))) := ev_is (ev_leI ha hb) (by congr 1; rw [decide_eq_decide]; omega)
theorem ev_gtN (ha : Ev ta σ H (nv m)) (hb : Ev tb σ H (nv n)) : Ev (tOp qGt ta tb) σ H (.bl (decide (n < m))) := ev_is (ev_gtI ha hb) (by congr 1; rw [decide_eq_decide]; omega)
theorem ev_geN (ha : Ev ta σ H (nv m)) (hb : Ev tb σ H (nv n)) : Ev (tOp qGe ta tb) σ H (.bl (decide (n ≤ m))) := ev_is (ev_geI ha hb) (by congr 1; rw [decide_eq_decide]; omega)
theorem ev_eqN (ha : Ev ta σ H (nv m)) (hb : Ev tb σ H (nv n)) : Ev (tOp rEq ta tb) σ H (.bl (decide (m = n))) := ev_is (ev_eqI ha hb) (by congr 1; rw [decide_eq_decide]; omega)
theorem ev_neN (ha : Ev ta σ H (nv m)) (hb : Ev tb σ H (nv n)) : Ev (tOp rNe ta tb) σ H (.bl (!decide (m = n))) := ev_is (ev_neI ha hb) (by congr 2; rw [decide_eq_decide]; omega)
/-- a chain of two comparisons -/
theorem ev_chain {r r' : R2} {x y z : V} {a b : Bool} (ha : Ev ta σ H x) (hb : Ev tb σ H y) (hr : RV r x y H (.bl a)) (hc : a = true → Ev tc σ H z) (hr' : a = true → RV r' y z H (.bl b)) : Ev (tChain r r' ta tb tc) σ H (.bl (a && b)) := fun H1 e Q q =>
  ha H1 e _ fun H2 e2 => hb H2 (e.trans e2) _ fun H3 e3 => hr H3 ((e.trans e2).trans e3) _ fun H4 e4 => ⟨a, rfl, by
    have e14 := ((e.trans e2).trans e3).trans e4
    cases a with
    | true => exact hc rfl H4 e14 _ fun H5 e5 => hr' rfl H5 (e14.trans e5) Q fun H6 e6 => q H6 ((((e2.trans e3).trans e4).trans e5).trans e6)
    | false => exact q H4 ((e2.trans e3).trans e4)⟩
/-- an attribute -/
theorem ev_fld {a C dx : Addr} {fs : List (Str × V)} {f : Str} {v : V} (ha : Ev ta σ H (.ref a)) (ho : H a = some (.ins C dx fs)) (hc : Cls K C) (hn : NoAttr K C f) (hl : fs.lookup f = some v) : Ev (tFld K ta f) σ H v := fun H1 e Q q =>
  ha H1 e _ fun H2 e2 => ⟨a, C, dx, fs, v, rfl, e2 a _ (e a _ ho), hc, hn, hl, q H2 e2⟩
/-- an item of a list, of a tuple -/
theorem ev_ixL {p : Addr} {xs : List V} {v : V} (ha : Ev ta σ H (.ref p)) (hb : Ev tb σ H (nv n)) (h : SqL K H p xs) (hi : xs[n]? = some v) : Ev (tOp (rIxL K) ta tb) σ H v := ev_op ha hb (rv_ixL h (atI_nat hi))
theorem ev_ixT {p : Addr} {xs : List V} {v : V} (ha : Ev ta σ H (.ref p)) (hb : Ev tb σ H (nv n)) (h : SqT K H p xs) (hi : xs[n]? = some v) : Ev (tOp (rIxT K) ta tb) σ H v := ev_op ha hb (rv_ixT h (atI_nat hi))
theorem ev_ixN {p : Addr} {xs : List Nat} (ha : Ev ta σ H (.ref p)) (hb : Ev tb σ H (nv n)) (h : SqL K H p (nvs xs)) (hi : xs[n]? = some m) : Ev (tOp (rIxL K) ta tb) σ H (nv m) := ev_ixL ha hb h (nvs_at hi)
theorem ev_min2 (ha : Ev ta σ H (nv m)) (hb : Ev tb σ H (nv n)) : Ev (tCB rMin2 (tCons ta (tCons tb tNil))) σ H (nv (min m n)) := fun H1 e Q q =>
  ha H1 e _ fun H2 e2 => hb H2 (e.trans e2) _ fun H3 e3 => ⟨_, _, rfl, by
    have e4 : (if (n : Int) < (m : Int) then (n : Int) else (m : Int)) = ((min m n : Nat) : Int) := by split <;> omega
    rw [e4]; exact q H3 (e2.trans e3)⟩
theorem ev_max2I (ha : Ev ta σ H (.int i)) (hb : Ev tb σ H (.int j)) : Ev (tCB rMax2 (tCons ta (tCons tb tNil))) σ H (.int (max i j)) := ev_is (ev_max2 ha hb) (by congr 1; split <;> omega)
theorem ev_min2I (ha : Ev ta σ H (.int i)) (hb : Ev tb σ H (.int j)) : Ev (tCB rMin2 (tCons ta (tCons tb tNil))) σ H (.int (min i j)) := fun H1 e Q q =>
  ha H1 e _ fun H2 e2 => hb H2 (e.trans e2) _ fun H3 e3 => ⟨_, _, rfl, by
    have e4 : (if j < i then j else i) = min i j := by split <;> omega
    rw [e4]; exact q H3 (e2.trans e3)⟩
theorem ev_lenNs {p : Addr} {xs : List Nat} (ha : Ev ta σ H (.ref p)) (h : SqL K H p (nvs xs)) : Ev (tCB (rLenS K) (tCons ta tNil)) σ H (nv xs.length) := ev_is (ev_len ha h) (by rw [nvs_length])
theorem natsum (l : List Nat) : (l.map fun (n : Nat) => (n : Int)).sum = ((VwNum.total l : Nat) : Int) := by
  induction l with
  | nil => rfl
  | cons x r ih => rw [List.map_cons, List.sum_cons, ih, Ph.total_cons]; omega
theorem nvs_ints (l : List Nat) : nvs l = (l.map fun (n : Nat) => (n : Int)).map V.int := by unfold nvs; rw [List.map_map]; rfl
theorem ev_sum {p : Addr} {xs : List Nat} (ha : Ev ta σ H (.ref p)) (h : SqL K H p (nvs xs)) : Ev (tCB (rSum K) (tCons ta tNil)) σ H (nv (VwNum.total xs)) := fun H1 e Q q =>
  ha H1 e _ fun H2 e2 => ⟨p, _, rfl, by rw [← nvs_ints]; exact ex_l (e.trans e2) h, by rw [natsum]; exact q H2 e2⟩
theorem ev_sumL {xs : List Nat} (ha : EvL ta σ H (nvs xs)) : Ev (tCB (rSum K) (tCons ta tNil)) σ H (nv (VwNum.total xs)) := fun H1 e Q q =>
  ha H1 e _ fun p H2 hp e2 h2 => ⟨p, _, rfl, by rw [← nvs_ints]; exact sq_of h2, by rw [natsum]; exact q H2 e2⟩
end
theorem greatest_from (l : List Nat) : ∀ a : Nat, (a ≤ l.foldl (fun (a b : Nat) => if a < b then b else a) a) ∧ (∀ x ∈ l, x ≤ l.foldl (fun (a b : Nat) => if a < b then b else a) a) ∧ (l.foldl (fun (a b : Nat) => if a < b then b else a) a = a ∨ l.foldl (fun (a b : Nat) => if a < b then b else a) a ∈ l) := by
  induction l with
  | nil => intro a; simp
  | cons x r ih =>
    intro a
    have h := ih (if a < x then x else a)
    rw [List.foldl_cons]
    refine ⟨?_, ?_, ?_⟩
    · have h1 := h.1
      by_cases c : a < x
      · rw [if_pos c] at h1 ⊢; omega
      · rw [if_neg c] at h1 ⊢; omega
    · intro y hy
      rcases List.mem_cons.mp hy with rfl | hy
      · have h1 := h.1
        by_cases c : a < y
        · rw [if_pos c] at h1 ⊢; omega
        · rw [if_neg c] at h1 ⊢; omega
      · exact h.2.1 y hy
    · rcases h.2.2 with e | e
      · rw [e]
        split
        · exact .inr List.mem_cons_self
        · exact .inl rfl
      · exact .inr (List.mem_cons_of_mem _ e)
theorem greatest_is {l : List Nat} {m : Int} (h : l.map (fun (n : Nat) => (n : Int)) = [] ∧ m = 0 ∨ m ∈ l.map (fun (n : Nat) => (n : Int)) ∧ ∀ y ∈ l.map (fun (n : Nat) => (n : Int)), y ≤ m) : m = ((VwNum.greatest l : Nat) : Int) := by
  have g := greatest_from l 0
  rcases h with ⟨h, rfl⟩ | ⟨h, k⟩
  · have e : l = [] := by simpa using h
    subst e; rfl
  · obtain ⟨n, hn, rfl⟩ := List.mem_map.mp h
    have h1 : n ≤ VwNum.greatest l := g.2.1 n hn
    have h2 : VwNum.greatest l = 0 ∨ VwNum.greatest l ∈ l := g.2.2
    rcases h2 with e | e
    · omega
    · have := k _ (List.mem_map.mpr ⟨_, e, rfl⟩)
      omega
/-- the greatest of some ints, with a default -/
theorem ev_maxD {K : PySem.W.Frag} {σ : L2.St} {H : Hp} {ta : TE} {p : Addr} {xs : List Nat} (ha : Ev ta σ H (.ref p)) (h : SqL K H p (nvs xs)) : Ev (tCKw (rMaxD K) (tCons ta tNil) (tCons (tC (.int 0)) tNil)) σ H (nv (VwNum.greatest xs)) := fun H1 e Q q =>
  ha H1 e _ fun H2 e2 => ⟨p, _, 0, rfl, rfl, by rw [← nvs_ints]; exact ex_l (e.trans e2) h, fun m hm => by
    rw [greatest_is hm]; exact q H2 e2⟩
theorem ev_maxDL {K : PySem.W.Frag} {σ : L2.St} {H : Hp} {ta : TE} {xs : List Nat} (ha : EvL ta σ H (nvs xs)) : Ev (tCKw (rMaxD K) (tCons ta tNil) (tCons (tC (.int 0)) tNil)) σ H (nv (VwNum.greatest xs)) := fun H1 e Q q =>
  ha H1 e _ fun p H2 hp e2 h2 => ⟨p, _, 0, rfl, rfl, by rw [← nvs_ints]; exact sq_of h2, fun m hm => by
    rw [greatest_is hm]; exact q H2 e2⟩
def RetU (xs : List V) (H : Hp) (Q : VK) : Prop := ∀ p H2, H p = none → Ex H H2 → H2 p = some (.tup xs) → Q (.ref p) H2
theorem RetU.go {xs : List V} {H H' : Hp} {Q : VK} (k : RetU xs H Q) (e : Ex H H') {p : Addr} {H2 : Hp} (hp : H' p = none) (e2 : Ex H' H2) (h : H2 p = some (.tup xs)) : Q (.ref p) H2 := k p H2 (fresh_back e hp) (e.trans e2) h
end Pp
end
section
set_option Elab.async false
set_option linter.all false
set_option maxRecDepth 100000
set_option maxHeartbeats 2000000
namespace Pp
open PySem PySem.Spec PyProof.Rows L2 Evl
/-! ### loops -/
section
variable {K : PySem.W.Frag} {σ : L2.St} {H : Hp} {D : Ends} {tu tz : TS} {ta : TA} {g : TG}
/-- range(lo, hi, c) -/
theorem s_forC {j n : Nat} {lo hi c : Int} (h : EvA ta σ H [.int lo, .int hi, .int c]) (hr : RgC lo hi c n) (Pv : Nat → L2.St → Hp → Prop) (h0 : ∀ H1, Ex H H1 → Pv 0 σ H1)
    (hs : ∀ (i : Nat) σ' H', i < n → Pv i σ' H' → tu { D with nx := Pv (i + 1), ct := Pv (i + 1), bk := D.nx } (σ'.set j (some (.int (lo + (i : Nat) * c)))) H') (hd : ∀ σ' H', Pv n σ' H' → D.nx σ' H') : tFor (iRng3 ta) (gName j) tu D σ H :=
  h H (Ex.refl H) _ fun H1 e => ⟨lo, hi, c, n, rfl, hr, for_it (walk_rangeC) Pv (h0 H1 e) (fun _ _ _ _ _ => trivial) (fun i x σ' H' H2 hi p y => by
    obtain ⟨rfl, rfl⟩ := y
    exact hs i σ' H2 hi p) hd⟩
/-- what a pair's target does -/
theorem g_pair {j1 j2 : Nat} {x y : V} {σ' : L2.St} {H' : Hp} {T : Addr} {Q : L2.St → Hp → Prop} (hT : SqT K H' T [x, y]) (h : Q ((σ'.set j1 (some x)).set j2 (some y)) H') : gTup K 2 (gCons (gName j1) (gCons (gName j2) gNil)) (.ref T) σ' H' Q :=
  ⟨T, [x, y], rfl, hT, rfl, x, [y], rfl, y, [], rfl, rfl, h⟩
theorem g_triple {j1 j2 j3 : Nat} {x y z : V} {σ' : L2.St} {H' : Hp} {T : Addr} {Q : L2.St → Hp → Prop} (hT : SqT K H' T [x, y, z]) (h : Q (((σ'.set j1 (some x)).set j2 (some y)).set j3 (some z)) H') : gTup K 3 (gCons (gName j1) (gCons (gName j2) (gCons (gName j3) gNil))) (.ref T) σ' H' Q :=
  ⟨T, [x, y, z], rfl, hT, rfl, x, [y, z], rfl, y, [z], rfl, z, [], rfl, rfl, h⟩
/-- for i, x in enumerate(xs) -/
theorem s_forE {j1 j2 : Nat} {a : Addr} {xs : List V} (h : EvA ta σ H [.ref a]) (hx : SqL K H a xs) (Pv : Nat → L2.St → Hp → Prop) (h0 : ∀ H1, Ex H H1 → Pv 0 σ H1) (hl : ∀ i σ' H', i ≤ xs.length → Pv i σ' H' → SqL K H' a xs)
    (hs : ∀ i x σ' H' H2, xs[i]? = some x → Pv i σ' H' → Ex H' H2 → tu { D with nx := Pv (i + 1), ct := Pv (i + 1), bk := D.nx } ((σ'.set j1 (some (nv i))).set j2 (some x)) H2) (hd : ∀ σ' H', Pv xs.length σ' H' → D.nx σ' H') :
    tFor (iEnum K ta) (gTup K 2 (gCons (gName j1) (gCons (gName j2) gNil))) tu D σ H :=
  h H (Ex.refl H) _ fun H1 e => ⟨a, xs, rfl, ex_l e hx, for_it walk_enum Pv (h0 H1 e) hl (fun i v σ' H' H2 hi p y => by
    obtain ⟨T, x, z, rfl, hT, rfl, h4, h5⟩ := y
    obtain rfl := Option.some.inj h4
    exact g_pair (st_of upd_same) (hs i z σ' H' _ h5 p (Ex.new hT))) hd⟩
/-- for x, y in zip(xs, ys) -/
theorem s_forZ {j1 j2 n : Nat} {a b : Addr} {xs ys : List V} (h : EvA ta σ H [.ref a, .ref b]) (hx : SqL K H a xs) (hy : SqL K H b ys) (hn : n = min xs.length ys.length) (Pv : Nat → L2.St → Hp → Prop) (h0 : ∀ H1, Ex H H1 → Pv 0 σ H1)
    (hl : ∀ i σ' H', i ≤ n → Pv i σ' H' → SqL K H' a xs ∧ SqL K H' b ys)
    (hs : ∀ i x y σ' H' H2, xs[i]? = some x → ys[i]? = some y → Pv i σ' H' → Ex H' H2 → tu { D with nx := Pv (i + 1), ct := Pv (i + 1), bk := D.nx } ((σ'.set j1 (some x)).set j2 (some y)) H2) (hd : ∀ σ' H', Pv n σ' H' → D.nx σ' H') :
    tFor (iZip K ta) (gTup K 2 (gCons (gName j1) (gCons (gName j2) gNil))) tu D σ H :=
  h H (Ex.refl H) _ fun H1 e => ⟨a, b, xs, ys, rfl, ex_l e hx, ex_l e hy, for_it (walk_zip hn) Pv (h0 H1 e) hl (fun i v σ' H' H2 hi p y => by
    obtain ⟨T, x, z, rfl, hT, rfl, h4, h5⟩ := y
    exact g_pair (st_of upd_same) (hs i x z σ' H' _ h4 h5 p (Ex.new hT))) hd⟩
theorem q_forC {j n : Nat} {lo hi c : Int} (h : EvA ta σ H [.int lo, .int hi, .int c]) (hr : RgC lo hi c n) (Pv : Nat → L2.St → Hp → Prop) (h0 : ∀ H1, Ex H H1 → Pv 0 σ H1)
    (hs : ∀ (i : Nat) σ' H', i < n → Pv i σ' H' → tu { D with nx := Pv (i + 1), ct := Pv (i + 1), bk := tz D } (σ'.set j (some (.int (lo + (i : Nat) * c)))) H') (hd : ∀ σ' H', Pv n σ' H' → tz D σ' H') : tSeq (tFor (iRng3 ta) (gName j) tu) tz D σ H :=
  s_forC (D := { D with nx := tz D }) h hr Pv h0 hs hd
theorem q_forE {j1 j2 : Nat} {a : Addr} {xs : List V} (h : EvA ta σ H [.ref a]) (hx : SqL K H a xs) (Pv : Nat → L2.St → Hp → Prop) (h0 : ∀ H1, Ex H H1 → Pv 0 σ H1) (hl : ∀ i σ' H', i ≤ xs.length → Pv i σ' H' → SqL K H' a xs)
    (hs : ∀ i x σ' H' H2, xs[i]? = some x → Pv i σ' H' → Ex H' H2 → tu { D with nx := Pv (i + 1), ct := Pv (i + 1), bk := tz D } ((σ'.set j1 (some (nv i))).set j2 (some x)) H2) (hd : ∀ σ' H', Pv xs.length σ' H' → tz D σ' H') :
    tSeq (tFor (iEnum K ta) (gTup K 2 (gCons (gName j1) (gCons (gName j2) gNil))) tu) tz D σ H := s_forE (D := { D with nx := tz D }) h hx Pv h0 hl hs hd
theorem q_forZ {j1 j2 n : Nat} {a b : Addr} {xs ys : List V} (h : EvA ta σ H [.ref a, .ref b]) (hx : SqL K H a xs) (hy : SqL K H b ys) (hn : n = min xs.length ys.length) (Pv : Nat → L2.St → Hp → Prop) (h0 : ∀ H1, Ex H H1 → Pv 0 σ H1)
    (hl : ∀ i σ' H', i ≤ n → Pv i σ' H' → SqL K H' a xs ∧ SqL K H' b ys)
    (hs : ∀ i x y σ' H' H2, xs[i]? = some x → ys[i]? = some y → Pv i σ' H' → Ex H' H2 → tu { D with nx := Pv (i + 1), ct := Pv (i + 1), bk := tz D } ((σ'.set j1 (some x)).set j2 (some y)) H2) (hd : ∀ σ' H', Pv n σ' H' → tz D σ' H') :
    tSeq (tFor (iZip K ta) (gTup K 2 (gCons (gName j1) (gCons (gName j2) gNil))) tu) tz D σ H := s_forZ (D := { D with nx := tz D }) h hx hy hn Pv h0 hl hs hd
/-- behind it something more -/
theorem q_of (h : tu { D with nx := tz D } σ H) : tSeq tu tz D σ H := h
end
end Pp
end
section
set_option Elab.async false
set_option linter.all false
set_option maxRecDepth 100000
set_option maxHeartbeats 2000000
namespace Pp
open PySem PySem.Spec PyProof.Rows L2 Evl
section
variable {K : PySem.W.Frag} {σ : L2.St} {H : Hp} {D : Ends} {tu tz : TS} {ta tb tc te : TE} {tg : TA} {g : TG} {t : TT}
theorem et_yes : EvT tYes σ H true := fun H1 _ _ q => q H1 (Ex.refl H1)
/-- [v] * n -/
theorem el_rep {v : V} {n : Nat} (ha : Ev ta σ H v) (hb : Ev tb σ H (nv n)) (hn : n ≤ 100000) : EvL (tOp rRep (tLst (tCons ta tNil)) tb) σ H (List.replicate n v) := fun H1 e Q q =>
  ha H1 e _ fun H2 e2 => ⟨by show 1 ≤ sizeLine; decide, fun p hp => hb _ ((e.trans e2).trans (Ex.new hp)) _ fun H3 e3 => ⟨p, (n : Int), [v], rfl, rfl, e3 p _ upd_same, by omega, by omega, by
    have h1 := sz_of (n := n) hn
    simpa using h1, fun l hl => by
      have e5 : (List.replicate (n : Int).toNat [v]).flatten = List.replicate n v := by simp
      rw [e5]
      exact q l _ (fresh_back (((e2.trans (Ex.new hp)).trans e3)) hl) (((e2.trans (Ex.new hp)).trans e3).trans (Ex.new hl)) upd_same⟩⟩
/-- xs[j] op= e, by ints -/
theorem s_augL {f : Int → Int → Int} {l : Addr} {xs : List V} {j : Nat} {x y : Int} (hl : H l = some (.lst xs)) (ho : Ev ta σ H (.ref l)) (hi : Ev tb σ H (nv j)) (hx : xs[j]? = some (.int x)) (hv : Ev tc σ H (.int y)) (k : ∀ H1, Ex H H1 → D.nx σ (upd H1 l (.lst (xs.set j (.int (f x y)))))) :
    tAugS ta tb tc (rIxL K) (ipI f) rSetL D σ H := ho H (Ex.refl H) _ fun H1 e1 => hi H1 e1 _ fun H2 e2 => ⟨l, xs, (j : Int), .int x, rfl, rfl, sq_of ((e1.trans e2) l _ hl), atI_nat hx, hv H2 (e1.trans e2) _ fun H3 e3 => ⟨x, y, rfl, rfl, l, xs, (j : Int), j, rfl, rfl, ((e1.trans e2).trans e3) l _ hl,
  ixN_nat (List.getElem?_eq_some_iff.mp hx).1, k H3 ((e1.trans e2).trans e3)⟩⟩
theorem q_augL {f : Int → Int → Int} {l : Addr} {xs : List V} {j : Nat} {x y : Int} (hl : H l = some (.lst xs)) (ho : Ev ta σ H (.ref l)) (hi : Ev tb σ H (nv j)) (hx : xs[j]? = some (.int x)) (hv : Ev tc σ H (.int y)) (k : ∀ H1, Ex H H1 → tz D σ (upd H1 l (.lst (xs.set j (.int (f x y)))))) :
    tSeq (tAugS ta tb tc (rIxL K) (ipI f) rSetL) tz D σ H := s_augL (D := { D with nx := tz D }) hl ho hi hx hv k
/-- sorted(xs) -/
theorem el_sorted {a : Addr} {xs : List Nat} (ha : Ev ta σ H (.ref a)) (h : SqL K H a (nvs xs)) : EvL (tCB (rSortedI K) (tCons ta tNil)) σ H (nvs (xs.mergeSort fun (a b : Nat) => decide (a ≤ b))) := fun H1 e Q q =>
  ha H1 e _ fun H2 e2 => ⟨a, _, rfl, by rw [← nvs_ints]; exact ex_l (e.trans e2) h, fun ns p hp ho hf => by
    obtain ⟨s, rfl⟩ : ∃ s : List Nat, ns = s.map fun (n : Nat) => (n : Int) := by
      refine ⟨ns.map Int.toNat, ?_⟩
      rw [List.map_map]
      conv => lhs; rw [← List.map_id ns]
      refine List.map_congr_left fun z hz => ?_
      obtain ⟨n, _, rfl⟩ := List.mem_map.mp (hp.mem_iff.mp hz)
      simp
    have p2 : s.Perm xs := by
      have := hp.map Int.toNat
      rw [List.map_map, List.map_map] at this
      have e : (Int.toNat ∘ fun (n : Nat) => (n : Int)) = id := by funext n; simp
      rw [e, List.map_id, List.map_id] at this
      exact this
    have o2 : s.Pairwise (· ≤ ·) := by
      rw [List.pairwise_map] at ho
      exact ho.imp fun h => by omega
    rw [← Ph.sort_unique p2 o2] at q
    rw [← nvs_ints]
    exact q p _ (fresh_back e2 hf) (e2.trans (Ex.new hf)) upd_same⟩
/-- for x, y in zip(xs, a new list) -/
theorem s_forZN {j1 j2 n : Nat} {a : Addr} {xs ys : List V} (h1 : Ev ta σ H (.ref a)) (h2 : EvL tb σ H ys) (hx : SqL K H a xs) (hn : n = min xs.length ys.length) (Pv : Nat → L2.St → Hp → Prop) (h0 : ∀ H1, Ex H H1 → Pv 0 σ H1)
    (hl : ∀ i σ' H', i ≤ n → Pv i σ' H' → SqL K H' a xs)
    (hs : ∀ b, H b = none → ∀ i x y σ' H' H2, xs[i]? = some x → ys[i]? = some y → Pv i σ' H' → H' b = some (.lst ys) → Ex H' H2 → tu { D with nx := fun s h => Pv (i + 1) s h ∧ h b = some (.lst ys), ct := fun s h => Pv (i + 1) s h ∧ h b = some (.lst ys), bk := D.nx } ((σ'.set j1 (some x)).set j2 (some y)) H2) (hd : ∀ σ' H', Pv n σ' H' → D.nx σ' H') :
    tFor (iZip K (tCons ta (tCons tb tNil))) (gTup K 2 (gCons (gName j1) (gCons (gName j2) gNil))) tu D σ H :=
  h1 H (Ex.refl H) _ fun H1 e1 => h2 H1 e1 _ fun b H2 hb e2 hb2 => ⟨a, b, xs, ys, rfl, ex_l (e1.trans e2) hx, sq_of hb2, for_it (walk_zip hn) (fun i s h => Pv i s h ∧ h b = some (.lst ys)) ⟨h0 H2 (e1.trans e2), hb2⟩ (fun i σ' H' hi p => ⟨hl i σ' H' hi p.1, sq_of p.2⟩) (fun i v σ' H' H3 hi p y => by
    obtain ⟨T, x, z, rfl, hT, rfl, h4, h5⟩ := y
    exact g_pair (st_of upd_same) (hs b (fresh_back e1 hb) i x z σ' H' _ h4 h5 p.1 p.2 (Ex.new hT))) (fun σ' H' p => hd σ' H' p.1)⟩
/-- [e for i, x in enumerate(xs) if t] -/
theorem el_lcE {a : Addr} {xs : List V} {j1 j2 : Nat} {vs : List Nat} (f : Nat → Bool) (v : Nat → V) (h : EvA tg σ H [.ref a]) (hx : SqL K H a xs) (hz : xs.length ≤ 40000) (hw : ∀ x y, wipe (((wipe σ vs).set j1 (some x)).set j2 (some y)) vs = wipe σ vs)
    (ht : ∀ (i : Nat) (x : V) H1, Ex H H1 → xs[i]? = some x → EvT t (((wipe σ vs).set j1 (some (nv i))).set j2 (some x)) H1 (f i)) (he : ∀ (i : Nat) (x : V) H1, Ex H H1 → xs[i]? = some x → f i = true → Ev te (((wipe σ vs).set j1 (some (nv i))).set j2 (some x)) H1 (v i)) :
    EvL (tLc (iEnum K tg) (gTup K 2 (gCons (gName j1) (gCons (gName j2) gNil))) t te vs) σ H (given xs.length f v) := fun H0 e Q q => h H0 e _ fun H1 e1 => ⟨a, xs, rfl, ex_l (e.trans e1) hx, fun Dl hD =>
  lc_it walk_enum (Cw H1 f v Dl) ⟨hD, Ex.new hD, upd_same⟩ (fun i H' _ p => ex_l ((e.trans e1).trans p.2.1) hx) (fun i u H' H2 hi p y => by
    obtain ⟨T, x, z, rfl, hT, rfl, h4, h5⟩ := y
    obtain rfl := Option.some.inj h4
    have p' : Cw H1 f v Dl i (upd H' T (.tup [nv i, z])) := ⟨p.1, p.2.1.trans (Ex.new hT), by rw [upd_ne (ne_of_none p.2.2 hT)]; exact p.2.2⟩
    exact g_pair (st_of upd_same) ⟨hw _ _, cw_turn p' (by omega) (ht i z H1 (e.trans e1) h5) (fun hf => he i z H1 (e.trans e1) h5 hf)⟩)
    (fun H' p => q Dl H' (fresh_back e1 p.1) (e1.trans p.2.1) p.2.2)⟩
/-- [e for x, y in zip(xs, ys) if t] -/
theorem el_lcZ {a b n : Nat} {xs ys : List V} {j1 j2 : Nat} {vs : List Nat} (f : Nat → Bool) (v : Nat → V) (h : EvA tg σ H [.ref a, .ref b]) (hx : SqL K H a xs) (hy : SqL K H b ys) (hn : n = min xs.length ys.length) (hz : n ≤ 40000) (hw : ∀ x y, wipe (((wipe σ vs).set j1 (some x)).set j2 (some y)) vs = wipe σ vs)
    (ht : ∀ (i : Nat) (x y : V) H1, Ex H H1 → xs[i]? = some x → ys[i]? = some y → EvT t (((wipe σ vs).set j1 (some x)).set j2 (some y)) H1 (f i)) (he : ∀ (i : Nat) (x y : V) H1, Ex H H1 → xs[i]? = some x → ys[i]? = some y → f i = true → Ev te (((wipe σ vs).set j1 (some x)).set j2 (some y)) H1 (v i)) :
    EvL (tLc (iZip K tg) (gTup K 2 (gCons (gName j1) (gCons (gName j2) gNil))) t te vs) σ H (given n f v) := fun H0 e Q q => h H0 e _ fun H1 e1 => ⟨a, b, xs, ys, rfl, ex_l (e.trans e1) hx, ex_l (e.trans e1) hy, fun Dl hD =>
  lc_it (walk_zip hn) (Cw H1 f v Dl) ⟨hD, Ex.new hD, upd_same⟩ (fun i H' _ p => ⟨ex_l ((e.trans e1).trans p.2.1) hx, ex_l ((e.trans e1).trans p.2.1) hy⟩) (fun i u H' H2 hi p y => by
    obtain ⟨T, x, z, rfl, hT, rfl, h4, h5⟩ := y
    have p' : Cw H1 f v Dl i (upd H' T (.tup [x, z])) := ⟨p.1, p.2.1.trans (Ex.new hT), by rw [upd_ne (ne_of_none p.2.2 hT)]; exact p.2.2⟩
    exact g_pair (st_of upd_same) ⟨hw _ _, cw_turn p' (by omega) (ht i x z H1 (e.trans e1) h4 h5) (fun hf => he i x z H1 (e.trans e1) h4 h5 hf)⟩)
    (fun H' p => q Dl H' (fresh_back e1 p.1) (e1.trans p.2.1) p.2.2)⟩
theorem hu64 {k : Nat} {A : Around} (r : Room k A) : A.units + 64 < cLine := by have := r.un; omega
theorem given_all (n : Nat) (v : Nat → V) : given n (fun _ => true) v = (List.range n).map v := by
  unfold given
  rw [List.filter_eq_self.mpr (fun _ _ => rfl)]
end
end Pp
end
section
set_option Elab.async false
set_option linter.all false
set_option maxRecDepth 100000
set_option maxHeartbeats 2000000
namespace Pp
open PySem PySem.Spec PyProof.Rows L2 Evl
/-! ### zip of three lists -/
theorem typeCall_zip3 (a b c : Value) : checkTypeCall "zip" ⟨[a, b, c], []⟩ = pure () := by
  kernel_rfl
theorem newCall_zip3 (a b c : Value) : checkBuiltinCall "zip.__new__" ⟨[.type "zip", a, b, c], []⟩ = pure () := by
  kernel_rfl
theorem args_init4 (a b c d : Value) : argsOk "object.__init__" ⟨[a, b, c, d], []⟩ := by
  unfold argsOk; rw [signature?_of (id := "object.__init__") (n := ['_', '_', 't', 'i', 'n', 'i', '_', '_']) (o := ['t', 'c', 'e', 'j', 'b', 'o']) (by kernel_rfl) F.owner_object]
  kernel_rfl
abbrev IsTri (h : Heap) (T : Addr) (a b c : Value) : Prop := h.get? T = some { cls := .type "tuple", data := .seq #[a, b, c] }
structure Z3 (z TI TO i1 i2 i3 l1 l2 l3 : Addr) : Prop where
  TIz : TI ≠ z
  TOz : TO ≠ z
  i1z : i1 ≠ z
  i2z : i2 ≠ z
  i3z : i3 ≠ z
  TITO : TI ≠ TO
  TIi1 : TI ≠ i1
  TIi2 : TI ≠ i2
  TIi3 : TI ≠ i3
  TOi1 : TO ≠ i1
  TOi2 : TO ≠ i2
  TOi3 : TO ≠ i3
  i12 : i1 ≠ i2
  i13 : i1 ≠ i3
  i23 : i2 ≠ i3
  l1z : l1 ≠ z
  l2z : l2 ≠ z
  l2TO : l2 ≠ TO
  l2i1 : l2 ≠ i1
  l3z : l3 ≠ z
  l3TO : l3 ≠ TO
  l3i1 : l3 ≠ i1
  l3i2 : l3 ≠ i2
section
variable {prog : Program} {w : World} {A : Around} {E : Value → Shared → Prop} {s : Shared}
theorem upd_tri {T : Addr} {a b c x : Value} {k : Nat} {Q : Unit → Shared → Prop} (hT : IsTri s.heap T a b c)
    (h : ∀ h', h'.get? T = some { cls := .type "tuple", data := .seq ((#[a, b, c] : Array Value).setIfInBounds k x) } → Heap.SameBut T s.heap h' → Q () { s with heap := h' }) :
    wpAny (model prog w) A (updateSeq T (·.setIfInBounds k x)) Q E s := by
  refine wpAny_updateSeq hT rfl (h _ (by rw [Heap.get?_update_self _ hT rfl]; simp [Obj.mapSeq]) (Heap.SameBut.update ..))
theorem zip3_item {z TI TO i1 i2 i3 l1 l2 l3 : Addr} {k1 k2 k3 : Nat} {xs ys zs : Array Value} {x y v a b c : Value} {Q : Value → Shared → Prop} (D : Z3 z TI TO i1 i2 i3 l1 l2 l3)
    (hz : IsZip s.heap z TI TO .none) (hTI : IsTri s.heap TI (.ref i1) (.ref i2) (.ref i3)) (hTO : IsTri s.heap TO a b c)
    (h1 : s.heap.IsListIter i1 l1 k1) (h2 : s.heap.IsListIter i2 l2 k2) (h3 : s.heap.IsListIter i3 l3 k3) (hl1 : s.heap.IsList l1 xs) (hl2 : s.heap.IsList l2 ys) (hl3 : s.heap.IsList l3 zs) (hx : xs[k1]? = some x) (hy : ys[k2]? = some y) (hv : zs[k3]? = some v)
    (hQ : ∀ h', IsZip h' z TI TO (rawInt s.heap.objs.size) → IsTri h' TO x y v → h'.IsListIter i1 l1 (k1 + 1) → h'.IsListIter i2 l2 (k2 + 1) → h'.IsListIter i3 l3 (k3 + 1) → IsTri h' s.heap.objs.size x y v →
      (∀ c o, c ≠ z → c ≠ TO → c ≠ i1 → c ≠ i2 → c ≠ i3 → s.heap.get? c = some o → h'.get? c = some o) → Q (.ref s.heap.objs.size) { s with heap := h' }) :
    wpAny (model prog w) A (Builtin.«zip.__next__» ⟨[.ref z], []⟩) (fun fin s' => ∃ v, fin = .done (.ret v) ∧ Q v s') E s := by
  show wpAny _ _ (field (.ref z) 2 >>= fun _ => _) _ _ _
  refine wpAny_bind (wpAny_field hz rfl (x := .bool false) rfl ?_); show wpAny _ _ (field (.ref z) 3 >>= fun _ => _) _ _ _
  refine wpAny_bind (wpAny_field hz rfl (x := .ref TI) rfl (wpAny_bind (wpAny_seqItems hTI rfl ?_)))
  show wpAny _ _ (Builtin.SmallTypes.ownedTupleIsFree (.ref z) >>= fun _ => _) _ _ _
  refine wpAny_bind ?_
  unfold Builtin.SmallTypes.ownedTupleIsFree
  refine wpAny_bind (wpAny_field hz rfl (x := .none) rfl (wpAny_pure ?_)); simp only [if_true]
  refine wpAny_bind (wpAny_rule (wpAny_bind (wpAny_field hz rfl (x := .ref TO) rfl ?_)))
  refine wpAny_bind (wpAny_setField_rec hz (by simp) fun g1 hz1 s1 => ?_)
  replace hz1 : IsZip g1 z TI TO .ellipsis := hz1
  refine wpAny_bind ?_
  simp only [List.zipIdx_cons, List.zipIdx_nil, List.forIn_cons, List.forIn_nil]
  -- the first
  refine wpAny_bind (wpAny_bind (wpAny_onRaise ?_)); show wpAny _ _ (Builtin.SmallTypes.nextOf (.ref i1) >>= fun _ => _) _ _ _
  refine wpAny_bind (wpAny_nextOf_list_item (h1.extBut s1.extBut D.i1z) (hl1.extBut s1.extBut D.l1z) hx fun g2 p1 s2 => wpAny_pure ?_)
  have t2 : IsTri g2 TO a b c := s2.extBut _ _ D.TOi1 (s1.extBut _ _ D.TOz hTO)
  refine wpAny_bind (wpAny_seqItems t2 rfl (wpAny_bind (upd_tri t2 fun g3 t3 s3 => ?_)))
  replace t3 : IsTri g3 TO x b c := t3
  refine wpAny_bind (wpAny_letGo (wpAny_pure ?_))
  -- the second
  refine wpAny_bind (wpAny_bind (wpAny_onRaise ?_)); show wpAny _ _ (Builtin.SmallTypes.nextOf (.ref i2) >>= fun _ => _) _ _ _
  refine wpAny_bind (wpAny_nextOf_list_item (((h2.extBut s1.extBut D.i2z).extBut s2.extBut D.i12.symm).extBut s3.extBut D.TOi2.symm) (((hl2.extBut s1.extBut D.l2z).extBut s2.extBut D.l2i1).extBut s3.extBut D.l2TO) hy fun g4 p2 s4 => wpAny_pure ?_)
  have t4 : IsTri g4 TO x b c := s4.extBut _ _ D.TOi2 t3
  refine wpAny_bind (wpAny_seqItems t4 rfl (wpAny_bind (upd_tri t4 fun g5 t5 s5 => ?_)))
  replace t5 : IsTri g5 TO x y c := t5
  refine wpAny_bind (wpAny_letGo (wpAny_pure ?_))
  -- the third
  refine wpAny_bind (wpAny_bind (wpAny_onRaise ?_)); show wpAny _ _ (Builtin.SmallTypes.nextOf (.ref i3) >>= fun _ => _) _ _ _
  refine wpAny_bind (wpAny_nextOf_list_item (((((h3.extBut s1.extBut D.i3z).extBut s2.extBut D.i13.symm).extBut s3.extBut D.TOi3.symm).extBut s4.extBut D.i23.symm).extBut s5.extBut D.TOi3.symm) (((((hl3.extBut s1.extBut D.l3z).extBut s2.extBut D.l3i1).extBut s3.extBut D.l3TO).extBut s4.extBut D.l3i2).extBut s5.extBut D.l3TO) hv fun g6 p3 s6 => wpAny_pure ?_)
  have t6 : IsTri g6 TO x y c := s6.extBut _ _ D.TOi3 t5
  refine wpAny_bind (wpAny_seqItems t6 rfl (wpAny_bind (upd_tri t6 fun g7 t7 s7 => ?_)))
  replace t7 : IsTri g7 TO x y v := t7
  refine wpAny_bind (wpAny_letGo (wpAny_pure (wpAny_pure ?_)))
  refine wpAny_bind (wpAny_seqItems t7 rfl (wpAny_bind (wpAny_newTuple ?_)))
  have hsz : g7.objs.size = s.heap.objs.size := by rw [s7.1, s6.1, s5.1, s4.1, s3.1, s2.1, s1.1]
  have z7 : IsZip g7 z TI TO .ellipsis := s7.extBut _ _ D.TOz.symm (s6.extBut _ _ D.i3z.symm (s5.extBut _ _ D.TOz.symm (s4.extBut _ _ D.i2z.symm (s3.extBut _ _ D.TOz.symm (s2.extBut _ _ D.i1z.symm hz1)))))
  have k7 : ∀ c o, c ≠ z → c ≠ TO → c ≠ i1 → c ≠ i2 → c ≠ i3 → s.heap.get? c = some o → g7.get? c = some o := fun c o c1 c2 c3 c4 c5 e =>
    s7.extBut _ _ c2 (s6.extBut _ _ c5 (s5.extBut _ _ c2 (s4.extBut _ _ c4 (s3.extBut _ _ c2 (s2.extBut _ _ c3 (s1.extBut _ _ c1 e))))))
  have q1 : g7.IsListIter i1 l1 (k1 + 1) := ((((p1.extBut s3.extBut D.TOi1.symm).extBut s4.extBut D.i12).extBut s5.extBut D.TOi1.symm).extBut s6.extBut D.i13).extBut s7.extBut D.TOi1.symm
  have q2 : g7.IsListIter i2 l2 (k2 + 1) := ((p2.extBut s5.extBut D.TOi2.symm).extBut s6.extBut D.i23).extBut s7.extBut D.TOi2.symm
  have q3 : g7.IsListIter i3 l3 (k3 + 1) := p3.extBut s7.extBut D.TOi3.symm
  have zlt : z < g7.objs.size := Heap.lt_size z7
  show wpAny _ _ (Builtin.SmallTypes.ownedTupleHandOut (.ref z) (.ref g7.objs.size) >>= fun _ => _) _ _ _
  refine wpAny_bind ?_
  unfold Builtin.SmallTypes.ownedTupleHandOut
  have z8 : IsZip (g7.push { cls := .type "tuple", data := .seq #[x, y, v] }) z TI TO .ellipsis := Heap.get?_push_of_some _ z7
  refine wpAny_bind (wpAny_setField_rec z8 (by simp) fun g9 z9 s9 => ?_)
  replace z9 : IsZip g9 z TI TO (rawInt g7.objs.size) := z9
  refine wpAny_setField_rec z9 (by simp) fun gA zA sA => ?_
  replace zA : IsZip gA z TI TO (rawInt g7.objs.size) := zA
  have up : ∀ c o, c ≠ z → g7.get? c = some o → gA.get? c = some o := fun c o c1 e => sA.extBut _ _ c1 (s9.extBut _ _ c1 (Heap.get?_push_of_some _ e))
  have hT : IsTri gA g7.objs.size x y v := sA.extBut _ _ (Nat.ne_of_gt zlt) (s9.extBut _ _ (Nat.ne_of_gt zlt) (Heap.get?_push_size _ rfl))
  rw [hsz] at zA hT
  refine wpAny_pure ⟨_, rfl, ?_⟩
  show Q (.ref g7.objs.size) _
  rw [hsz]
  exact hQ gA zA (up _ _ D.TOz t7) (q1.at fun o e => up _ o D.i1z e) (q2.at fun o e => up _ o D.i2z e) (q3.at fun o e => up _ o D.i3z e) hT fun c o c1 c2 c3 c4 c5 e => up c o c1 (k7 c o c1 c2 c3 c4 c5 e)
/-- the first list is at its end (as all three are as long, this is where it ends) -/
theorem zip3_end {z TI TO i1 i2 i3 l1 l2 l3 : Addr} {k1 : Nat} {xs : Array Value} {Q : Fin → Shared → Prop} (hh : A.handled = none) (D : Z3 z TI TO i1 i2 i3 l1 l2 l3)
    (hz : IsZip s.heap z TI TO .none) (hTI : IsTri s.heap TI (.ref i1) (.ref i2) (.ref i3)) (h1 : s.heap.IsListIter i1 l1 k1) (hl1 : s.heap.IsList l1 xs) (hx : xs[k1]? = none)
    (hE : ∀ h' e, (∀ c o, c ≠ z → c ≠ i1 → s.heap.get? c = some o → h'.get? c = some o) → (∃ o, h'.get? e = some o ∧ o.cls = .type "StopIteration") → E (.ref e) { s with heap := h' }) :
    wpAny (model prog w) A (Builtin.«zip.__next__» ⟨[.ref z], []⟩) Q E s := by
  show wpAny _ _ (field (.ref z) 2 >>= fun _ => _) _ _ _
  refine wpAny_bind (wpAny_field hz rfl (x := .bool false) rfl ?_); show wpAny _ _ (field (.ref z) 3 >>= fun _ => _) _ _ _
  refine wpAny_bind (wpAny_field hz rfl (x := .ref TI) rfl (wpAny_bind (wpAny_seqItems hTI rfl ?_)))
  show wpAny _ _ (Builtin.SmallTypes.ownedTupleIsFree (.ref z) >>= fun _ => _) _ _ _
  refine wpAny_bind ?_
  unfold Builtin.SmallTypes.ownedTupleIsFree
  refine wpAny_bind (wpAny_field hz rfl (x := .none) rfl (wpAny_pure ?_)); simp only [if_true]
  refine wpAny_bind (wpAny_rule (wpAny_bind (wpAny_field hz rfl (x := .ref TO) rfl ?_)))
  refine wpAny_bind (wpAny_setField_rec hz (by simp) fun g1 hz1 s1 => ?_)
  replace hz1 : IsZip g1 z TI TO .ellipsis := hz1
  refine wpAny_bind ?_
  simp only [List.zipIdx_cons, List.zipIdx_nil, List.forIn_cons, List.forIn_nil]
  refine wpAny_bind (wpAny_bind (wpAny_onRaise ?_)); show wpAny _ _ (Builtin.SmallTypes.nextOf (.ref i1) >>= fun _ => _) _ _ _
  refine wpAny_bind (wpAny_nextOf_list_end hh (h1.extBut s1.extBut D.i1z) (hl1.extBut s1.extBut D.l1z) hx fun g2 e s2 he => ?_)
  obtain ⟨oe, hoe, hce⟩ := he
  have hz2 : IsZip g2 z TI TO .ellipsis := s2 _ _ D.i1z.symm hz1
  have hez : e ≠ z := fun q => by
    subst q; rw [hz2] at hoe; cases hoe; simp at hce
  exact wpAny_setField_rec hz2 (by simp) fun g3 _ s3 => hE g3 e (fun c o c1 c3 q => s3.extBut _ _ c1 (s2 _ _ c3 (s1.extBut _ _ c1 q))) ⟨oe, s3.extBut _ _ hez hoe, hce⟩
theorem next3_item {z TI TO i1 i2 i3 l1 l2 l3 : Addr} {k1 k2 k3 : Nat} {xs ys zs : Array Value} {x y v a b c : Value} {Q : Option Value → Shared → Prop} (D : Z3 z TI TO i1 i2 i3 l1 l2 l3)
    (hz : IsZip s.heap z TI TO .none) (hTI : IsTri s.heap TI (.ref i1) (.ref i2) (.ref i3)) (hTO : IsTri s.heap TO a b c)
    (h1 : s.heap.IsListIter i1 l1 k1) (h2 : s.heap.IsListIter i2 l2 k2) (h3 : s.heap.IsListIter i3 l3 k3) (hl1 : s.heap.IsList l1 xs) (hl2 : s.heap.IsList l2 ys) (hl3 : s.heap.IsList l3 zs) (hx : xs[k1]? = some x) (hy : ys[k2]? = some y) (hv : zs[k3]? = some v)
    (hQ : ∀ h', IsZip h' z TI TO (rawInt s.heap.objs.size) → IsTri h' TO x y v → h'.IsListIter i1 l1 (k1 + 1) → h'.IsListIter i2 l2 (k2 + 1) → h'.IsListIter i3 l3 (k3 + 1) → IsTri h' s.heap.objs.size x y v →
      (∀ c o, c ≠ z → c ≠ TO → c ≠ i1 → c ≠ i2 → c ≠ i3 → s.heap.get? c = some o → h'.get? c = some o) → Q (some (.ref s.heap.objs.size)) { s with heap := h' }) :
    wpAny (model prog w) A (pyNext (.ref z)) Q E s := by
  have hT : s.TypeIs (.ref z) "zip" := ⟨_, hz, rfl⟩
  unfold pyNext
  exact wpAny_bind (wpAny_attempt (wpAny_callSpecial?_slot (name := Str.ofString "__next__") hT F.slot_zip_next (wpAny_call_entry F.slot_zip_next hT F.entry_zip_next
      (zip3_item D hz hTI hTO h1 h2 h3 hl1 hl2 hl3 hx hy hv fun h' a1 a2 a3 a4 a5 a6 a7 => wpAny_pure (hQ h' a1 a2 a3 a4 a5 a6 a7)) (F.args_zip_next_1 _))))
theorem next3_end {z TI TO i1 i2 i3 l1 l2 l3 : Addr} {k1 : Nat} {xs : Array Value} {Q : Option Value → Shared → Prop} (hh : A.handled = none) (D : Z3 z TI TO i1 i2 i3 l1 l2 l3)
    (hz : IsZip s.heap z TI TO .none) (hTI : IsTri s.heap TI (.ref i1) (.ref i2) (.ref i3)) (h1 : s.heap.IsListIter i1 l1 k1) (hl1 : s.heap.IsList l1 xs) (hx : xs[k1]? = none)
    (hQ : ∀ h', (∀ c o, c ≠ z → c ≠ i1 → s.heap.get? c = some o → h'.get? c = some o) → Q none { s with heap := h' }) : wpAny (model prog w) A (pyNext (.ref z)) Q E s := by
  have hT : s.TypeIs (.ref z) "zip" := ⟨_, hz, rfl⟩
  unfold pyNext
  refine wpAny_bind (wpAny_attempt (wpAny_callSpecial?_slot (name := Str.ofString "__next__") hT F.slot_zip_next (wpAny_call_entry F.slot_zip_next hT F.entry_zip_next (zip3_end hh D hz hTI h1 hl1 hx fun h' e hk he => ?_) (F.args_zip_next_1 _))))
  obtain ⟨o, ho, hc⟩ := he
  exact wpAny_bind (wpAny_isInstance (T := "StopIteration") (b := true) ⟨o, ho, hc⟩ isSubtype_stop (wpAny_pure (hQ _ hk)))
end
abbrev zA (h : Heap) (l1 : Addr) : Heap := h.push { cls := .type "list_iterator", data := .fields #[.ref l1, .int 0 0] }
abbrev zB (h : Heap) (l1 l2 : Addr) : Heap := (zA h l1).push { cls := .type "list_iterator", data := .fields #[.ref l2, .int 0 0] }
abbrev zC (h : Heap) (l1 l2 l3 : Addr) : Heap := (zB h l1 l2).push { cls := .type "list_iterator", data := .fields #[.ref l3, .int 0 0] }
abbrev zD (h : Heap) (l1 l2 l3 : Addr) : Heap := (zC h l1 l2 l3).push { cls := .type "tuple", data := .seq #[.ref h.objs.size, .ref (zA h l1).objs.size, .ref (zB h l1 l2).objs.size] }
abbrev zE (h : Heap) (l1 l2 l3 : Addr) : Heap := (zD h l1 l2 l3).push { cls := .type "tuple", data := .seq #[.none, .none, .none] }
abbrev zF (h : Heap) (l1 l2 l3 : Addr) : Heap := (zE h l1 l2 l3).push { cls := .type "zip", data := .fields #[.none, .bool false, .bool false, .ref (zC h l1 l2 l3).objs.size, .ref (zD h l1 l2 l3).objs.size] }
theorem meets_zip3 (l1 l2 l3 : Addr) (xs ys zs : Array Value) :
    Meets (Builtin.«zip.__new__» ⟨[.type "zip", .ref l1, .ref l2, .ref l3], []⟩) (fun _ R s => s.heap.IsList l1 xs ∧ s.heap.IsList l2 ys ∧ s.heap.IsList l3 zs ∧
      R (.ok (.ret (.ref (zE s.heap l1 l2 l3).objs.size))) { s with heap := zF s.heap l1 l2 l3 }) :=
  .of_wp fun prog w A R s h => by
    obtain ⟨hp, g, d, tk, os⟩ := s
    obtain ⟨hl1, hl2, hl3, h⟩ := h
    have hsub := sub_zip
    have hL1 : Heap.IsList (Shared.heap ⟨hp, g, d, tk, os⟩) l1 xs := hl1
    have hL2 : Heap.IsList (Shared.heap ⟨zA hp l1, g, d, tk, os⟩) l2 ys := Heap.IsList.push hl2 _
    have hL3 : Heap.IsList (Shared.heap ⟨zB hp l1 l2, g, d, tk, os⟩) l3 zs := Heap.IsList.push (Heap.IsList.push hl3 _) _
    wp_walk using wpAny_pyIter_list hL1, wpAny_pyIter_list hL2, wpAny_pyIter_list hL3
    exact ⟨_, rfl, h⟩
section
variable {prog : Program} {w : World} {A : Around} {E : Value → Shared → Prop} {s : Shared}
theorem call_zip3 {l1 l2 l3 : Addr} {xs ys zs : Array Value} {Q : Value → Shared → Prop} (hl1 : s.heap.IsList l1 xs) (hl2 : s.heap.IsList l2 ys) (hl3 : s.heap.IsList l3 zs)
    (h : ∀ h', IsZip h' (s.heap.objs.size + 5) (s.heap.objs.size + 3) (s.heap.objs.size + 4) .none → IsTri h' (s.heap.objs.size + 3) (.ref s.heap.objs.size) (.ref (s.heap.objs.size + 1)) (.ref (s.heap.objs.size + 2)) →
      IsTri h' (s.heap.objs.size + 4) .none .none .none → h'.IsListIter s.heap.objs.size l1 0 → h'.IsListIter (s.heap.objs.size + 1) l2 0 → h'.IsListIter (s.heap.objs.size + 2) l3 0 →
      (∀ c o, s.heap.get? c = some o → h'.get? c = some o) → Q (.ref (s.heap.objs.size + 5)) { s with heap := h' }) :
    wpAny (model prog w) A (call (.type "zip") [.ref l1, .ref l2, .ref l3]) Q E s := by
  refine callType_new F.called_zip (by decide) (typeCall_zip3 _ _ _) (newCall_zip3 _ _ _) (fun obj => args_init4 obj _ _ _) F.entry_zip_new (meets_zip3 l1 l2 l3 xs ys zs) ⟨hl1, hl2, hl3, ?_⟩
  have z1 : (zA s.heap l1).objs.size = s.heap.objs.size + 1 := Heap.size_push ..
  have z2 : (zB s.heap l1 l2).objs.size = s.heap.objs.size + 2 := by rw [Heap.size_push, z1]
  have z3 : (zC s.heap l1 l2 l3).objs.size = s.heap.objs.size + 3 := by rw [Heap.size_push, z2]
  have z4 : (zD s.heap l1 l2 l3).objs.size = s.heap.objs.size + 4 := by rw [Heap.size_push, z3]
  have z5 : (zE s.heap l1 l2 l3).objs.size = s.heap.objs.size + 5 := by rw [Heap.size_push, z4]
  have up : ∀ {h : Heap} {o : Obj} {c : Addr} {u : Obj}, h.get? c = some u → (h.push o).get? c = some u := fun e => Heap.get?_push_of_some _ e
  have gF : (zF s.heap l1 l2 l3).get? (zE s.heap l1 l2 l3).objs.size = some _ := Heap.get?_push_size _ rfl
  have gE : (zF s.heap l1 l2 l3).get? (zD s.heap l1 l2 l3).objs.size = some _ := up (Heap.get?_push_size _ rfl)
  have gD : (zF s.heap l1 l2 l3).get? (zC s.heap l1 l2 l3).objs.size = some _ := up (up (Heap.get?_push_size _ rfl))
  have gC : (zF s.heap l1 l2 l3).get? (zB s.heap l1 l2).objs.size = some _ := up (up (up (Heap.get?_push_size _ rfl)))
  have gB : (zF s.heap l1 l2 l3).get? (zA s.heap l1).objs.size = some _ := up (up (up (up (Heap.get?_push_size _ rfl))))
  have gA : (zF s.heap l1 l2 l3).get? s.heap.objs.size = some _ := up (up (up (up (up (Heap.get?_push_size _ rfl)))))
  show _ ∧ _
  rw [z3, z4, z5] at gF
  rw [z1, z2, z3] at gD
  rw [z4] at gE
  rw [z2] at gC
  rw [z1] at gB
  rw [z5]
  exact ⟨⟨_, gF, rfl⟩, h _ gF gD gE ⟨_, gA, rfl, rfl⟩ ⟨_, gB, rfl, rfl⟩ ⟨_, gC, rfl, rfl⟩ fun c o x => up (up (up (up (up (up x)))))⟩
end
/-- the lists at a, b, c as they stand at each turn, the items in new triples -/
def Itz3 (K : PySem.W.Frag) (a b c : Addr) : It :=
  ⟨fun i H => ∃ (xs ys zs : List V) (x y z : V), SqL K H a xs ∧ SqL K H b ys ∧ SqL K H c zs ∧ xs[i]? = some x ∧ ys[i]? = some y ∧ zs[i]? = some z,
    fun i H v H' => ∃ T x y z, v = .ref T ∧ H T = none ∧ H' = upd H T (.tup [x, y, z]) ∧ (∀ xs, SqL K H a xs → xs[i]? = some x) ∧ (∀ ys, SqL K H b ys → ys[i]? = some y) ∧ ∀ zs, SqL K H c zs → zs[i]? = some z,
    fun i H => ∃ xs : List V, SqL K H a xs ∧ xs.length ≤ i⟩
theorem turn_zip3 {P : Program} {w : World} {K : PySem.W.Frag} {elts : List Expr} {kk : Nat} {tpos : Pos} {a b c z TI TO i1 i2 i3 : Addr} (D : Z3 z TI TO i1 i2 i3 a b c) :
    Turn P w K (.Tuple elts kk tpos) (Itz3 K a b c) [z, TI, TO, i1, i2, i3] z (fun i h => IsZip h z TI TO .none ∧ IsTri h TI (.ref i1) (.ref i2) (.ref i3) ∧ (∃ x y v, IsTri h TO x y v) ∧ h.IsListIter i1 a i ∧ h.IsListIter i2 b i ∧ h.IsListIter i3 c i) where
  mem := by simp
  obj := fun i h st q hq => by
    obtain ⟨hz, hTI, ⟨x, y, v, hTO⟩, ⟨o1, e1, _, d1⟩, ⟨o2, e2, _, d2⟩, ⟨o3, e3, _, d3⟩⟩ := st
    have e' : q = z ∨ q = TI ∨ q = TO ∨ q = i1 ∨ q = i2 ∨ q = i3 := by simpa using hq
    rcases e' with r | r | r | r | r | r
    · rw [r]; exact ⟨_, hz, fun v q => nomatch q⟩
    · rw [r]; exact ⟨_, hTI, fun v q => nomatch q⟩
    · rw [r]; exact ⟨_, hTO, fun v q => nomatch q⟩
    · rw [r]; exact ⟨o1, e1, fun v q => by rw [d1] at q; cases q⟩
    · rw [r]; exact ⟨o2, e2, fun v q => by rw [d2] at q; cases q⟩
    · rw [r]; exact ⟨o3, e3, fun v q => by rw [d3] at q; cases q⟩
  keep := fun i h h' st k => by
    obtain ⟨hz, hTI, ⟨x, y, v, hTO⟩, h1, h2, h3⟩ := st
    exact ⟨k z (by simp) _ hz, k TI (by simp) _ hTI, ⟨x, y, v, k TO (by simp) _ hTO⟩, h1.at fun o q => k i1 (by simp) o q, h2.at fun o q => k i2 (by simp) o q, h3.at fun o q => k i3 (by simp) o q⟩
  item := by
    intro X hP hw hK hc i pins s σ H E I hf st hg
    subst hP hw hK
    obtain ⟨hz, hTI, ⟨x0, y0, v0, hTO⟩, h1, h2, h3⟩ := st
    obtain ⟨xs, ys, zs, x, y, v, hqx, hqy, hqz, hx, hy, hv⟩ := hg
    obtain ⟨its, rv, p, _⟩ := I.list hqx
    obtain ⟨its2, rv2, p2, _⟩ := I.list hqy
    obtain ⟨its3, rv3, p3, _⟩ := I.list hqz
    obtain ⟨u, hu, ru⟩ := rv.get hx
    obtain ⟨u2, hu2, ru2⟩ := rv2.get hy
    obtain ⟨u3, hu3, ru3⟩ := rv3.get hv
    have hzl : z < s.heap.objs.size := Heap.lt_size hz
    refine next3_item D hz hTI hTO h1 h2 h3 p.isList p2.isList p3.isList (x := u) (y := u2) (v := u3) (by simpa using hu) (by simpa using hu2) (by simpa using hu3) fun h' z' TO' h1' h2' h3' hT hk => ?_
    refine ⟨_, rfl, wpAny_letOwnedTupleGo_zip (s := { s with heap := h' }) z' fun h'' z'' sb => ?_⟩
    have hT2 : h''.get? s.heap.objs.size = some { cls := .type "tuple", data := .seq #[u, u2, u3] } := (sb.2 _ (Nat.ne_of_gt hzl)).trans hT
    have new : ObjOk X.prog X.w (upd H s.heap.objs.size (.tup [x, y, v])) h'' s.heap.objs.size (.tup [x, y, v]) := ⟨by show 3 ≤ sizeLine; decide, [u, u2, u3], .cons ru (.cons ru2 (.cons ru3 .nil)), ⟨_, hT2, rfl, _, rfl⟩⟩
    have I1 : Inv X pins σ (upd H s.heap.objs.size (.tup [x, y, v])) { s with heap := h'' } :=
      I.turnedNew (t' := s.toks) (ch := [z, TI, TO, i1, i2, i3]) (fun q o hb r => (sb.2 q (fun q' => hb (by simp [q']))).trans (hk q o (fun q' => hb (by simp [q'])) (fun q' => hb (by simp [q'])) (fun q' => hb (by simp [q'])) (fun q' => hb (by simp [q'])) (fun q' => hb (by simp [q'])) r)) hf (Nat.le_refl _) new
    refine ⟨.ref s.heap.objs.size, _, I1, rfl, ⟨_, x, y, v, rfl, I.hok.fresh (Nat.le_refl _), rfl, fun l hl => by rw [I.list_inj hl hqx]; exact hx, fun l hl => by rw [I.list_inj hl hqy]; exact hy, fun l hl => by rw [I.list_inj hl hqz]; exact hv⟩, ⟨z'', ?_, ⟨u, u2, u3, ?_⟩, ?_, ?_, ?_⟩, fun q hcm => ?_⟩
    · exact (sb.2 _ D.TIz).trans (hk _ _ D.TIz D.TITO D.TIi1 D.TIi2 D.TIi3 hTI)
    · exact (sb.2 _ D.TOz).trans TO'
    · exact h1'.at fun o q => (sb.2 _ D.i1z).trans q
    · exact h2'.at fun o q => (sb.2 _ D.i2z).trans q
    · exact h3'.at fun o q => (sb.2 _ D.i3z).trans q
    · have hlt : q < s.heap.objs.size := by
        have e' : q = z ∨ q = TI ∨ q = TO ∨ q = i1 ∨ q = i2 ∨ q = i3 := by simpa using hcm
        rcases e' with r | r | r | r | r | r
        · rw [r]; exact hzl
        · rw [r]; exact Heap.lt_size hTI
        · rw [r]; exact Heap.lt_size hTO
        · rw [r]; obtain ⟨_, e1, _⟩ := h1; exact Heap.lt_size e1
        · rw [r]; obtain ⟨_, e2, _⟩ := h2; exact Heap.lt_size e2
        · rw [r]; obtain ⟨_, e3, _⟩ := h3; exact Heap.lt_size e3
      rw [upd_ne (Nat.ne_of_lt hlt)]
      exact (hf q hcm).1
  done := by
    intro X hP hw hK hc i pins s σ H E I hf st hg
    subst hP hw hK
    obtain ⟨hz, hTI, ⟨x0, y0, v0, hTO⟩, h1, h2, h3⟩ := st
    obtain ⟨xs, hqx, hend⟩ := hg
    obtain ⟨its, rv, p, _⟩ := I.list hqx
    have l1 := rv.length
    exact next3_end (I.ok.hd hc) D hz hTI h1 p.isList (by simp; omega) fun h' hk => ⟨rfl, I.turnedL (t' := s.toks) (ch := [z, TI, TO, i1, i2, i3]) (fun q o hb r => hk q o (fun q' => hb (by simp [q'])) (fun q' => hb (by simp [q'])) r) hf⟩
  self := fun A i s Q E st h => wpAny_pyIter_zip st.1 h
def iZip3 (K : PySem.W.Frag) (ta : TA) : TI := fun σ H R => ta σ H fun vs H1 => ∃ a b c xs ys zs, vs = [.ref a, .ref b, .ref c] ∧ SqL K H1 a xs ∧ SqL K H1 b ys ∧ SqL K H1 c zs ∧ R (Itz3 K a b c) H1
theorem apart3 (I l1 l2 l3 : Nat) (h1 : l1 < I) (h2 : l2 < I) (h3 : l3 < I) : Z3 (I + 5) (I + 3) (I + 4) I (I + 1) (I + 2) l1 l2 l3 := by
  constructor <;> (show (_ : Nat) ≠ _; omega)
theorem pi_zip3 {X : Cx} {e e2 e3 : Expr} {ta : TA} {p pos tpos : Pos} {elts : List Expr} {kk : Nat} (hg : Gl X "zip") (hm : X.mg "zip" = none) (ha : PA X [e, e2, e3] ta)
    (hs : starEach [e, e2, e3] X.env = (false, eval e X.env) :: starEach [e2, e3] X.env := by rfl) (hpl : (backTo pos (starEach [e2, e3] X.env)).any (·.1) = false := by rfl) :
    PI X (.Tuple elts kk tpos) (.Call (.Name "zip" p) [e, e2, e3] [] pos) (iZip3 X.K ta) := by
  refine ⟨fun pins s σ H R I h => ?_⟩
  refine Call_ (ld_blt I hg hm PyProof.Rows.boot_zip (PyProof.Rows.callWith_type1 (thn (ha.run pos pins s σ H _ I h) fun us s1 ⟨vs, H1, I1, r1, q1⟩ => ?_) hs hpl))
  obtain ⟨a, b, c, xs, ys, zs, ex, hqx, hqy, hqz, q⟩ := q1
  subst ex
  cases r1 with
  | cons r rr => cases rr with
    | cons r' rr => cases rr with
      | cons r'' rr =>
        cases rr; cases r; cases r'; cases r''
        obtain ⟨its, rv, p1, _⟩ := I1.list hqx
        obtain ⟨its2, rv2, p2, _⟩ := I1.list hqy
        obtain ⟨its3, rv3, p3, _⟩ := I1.list hqz
        refine call_zip3 p1.isList p2.isList p3.isList fun h' hz hTI hTO h1 h2 h3 hk => wpAny_pyIter_zip hz ?_
        have I2 : Inv X pins σ H1 { s1 with heap := h' } := I1.kept (t' := s1.toks) hk
        refine ⟨s1.heap.objs.size + 5, [s1.heap.objs.size + 5, s1.heap.objs.size + 3, s1.heap.objs.size + 4, s1.heap.objs.size, s1.heap.objs.size + 1, s1.heap.objs.size + 2], _, _, H1, rfl, I2, turn_zip3 (apart3 s1.heap.objs.size a b c p1.lt p2.lt p3.lt), ⟨hz, hTI, ⟨_, _, _, hTO⟩, h1, h2, h3⟩, fun q' hcm => ?_, q⟩
        have hle : s1.heap.objs.size ≤ q' := by
          simp only [List.mem_cons, List.not_mem_nil, or_false] at hcm
          rcases hcm with z | z | z | z | z | z <;> (rw [z]; first | exact Nat.le_refl _ | exact Nat.le_add_right _ _)
        exact I1.fpOk hle (I1.hok.fresh hle)
/-- a new triple of the i-th of each -/
def YTri (xs ys zs : Nat → Option V) : Nat → Hp → V → Hp → Prop := fun i H v H' => ∃ T x y z, v = .ref T ∧ H T = none ∧ H' = upd H T (.tup [x, y, z]) ∧ xs i = some x ∧ ys i = some y ∧ zs i = some z
theorem walk_zip3 {K : PySem.W.Frag} {a b c : Addr} {xs ys zs : List V} {n : Nat} (h1 : xs.length = n) (h2 : ys.length = n) (h3 : zs.length = n) : Walk (Itz3 K a b c) n (fun H => SqL K H a xs ∧ SqL K H b ys ∧ SqL K H c zs) (YTri (fun i => xs[i]?) (fun i => ys[i]?) (fun i => zs[i]?)) := by
  refine ⟨fun i _ hi q => ⟨xs, ys, zs, xs[i]'(by omega), ys[i]'(by omega), zs[i]'(by omega), q.1, q.2.1, q.2.2, List.getElem?_eq_getElem _, List.getElem?_eq_getElem _, List.getElem?_eq_getElem _⟩, fun _ q => ⟨xs, q.1, by omega⟩, fun i H v H' _ q y => ?_⟩
  obtain ⟨T, x, z, u, g1, g2, g3, g4, g5, g6⟩ := y
  exact ⟨T, x, z, u, g1, g2, g3, g4 xs q.1, g5 ys q.2.1, g6 zs q.2.2⟩
end Pp
end
section
set_option Elab.async false
set_option linter.all false
set_option maxRecDepth 100000
set_option maxHeartbeats 2000000
namespace Pp
open PySem PySem.Spec PyProof.Rows L2 Evl
section
variable {P : Program} {w : World} {K : PySem.W.Frag} {mg : Str → Option Value} {base : Heap}
-- with_row: slots 0 number, 1 row
theorem sc_with_row : FnScope ["number", "row"] ["number", "row"] (C8.fnScope s_with_row) := C8.fnScope_by (by decide +kernel)
def t_with_row (K : PySem.W.Frag) : TS := (tRet (tOp rCat (tLst (tCons (tVar 0) (tCons (tCB (rLenS K) (tCons (tVar 1) tNil)) tNil))) (tVar 1)))
theorem dv_with_row {f : Addr} {cdv : Value} {A : Around} {outer : List Env} {s : Shared} {H : Hp} {E : XK} (T : Txt K mg) (hr : Room 0 (A.deeper (envOfC "with_row" (C8.fnScope s_with_row) s.heap.objs.size f cdv))) :
    PSs (cxOf C8.CX0 P w K mg base ["number", "row"] "with_row" (C8.fnScope s_with_row) f cdv A outer s H E).nox (C8.fnBody s_with_row) (t_with_row K) :=
  (pss_one (ps_ret (pe_op op_cat (pe_lst (pa_cons (pv 0) (pa_cons (pe_callB call_len_seq (by rfl) T.b_len PySem.boot_len (pa_cons (pv 1) pa_nil)) pa_nil))) (pv 1))))
-- is_table: slots 0 row, 1 place
theorem sc_is_table : FnScope ["row", "place"] ["row"] (C8.fnScope s_is_table) := C8.fnScope_by (by decide +kernel)
def t_is_table (K : PySem.W.Frag) : TS := (tSeq (tIfS (tOr (tTest (tOp rEq (tCB (rLenS K) (tCons (tVar 0) tNil)) (tC (.int 0)))) (tOr (tTest (tOp rNe (tOp qMod (tCB (rLenS K) (tCons (tVar 0) tNil)) (tC (.int 2))) (tC (.int 0)))) (tTest (tOp qGt (tCB (rLenS K) (tCons (tVar 0) tNil)) (tOp qMul (tC (.int 2)) (tC (.int 24))))))) (tRet (tC (.bl false))) tNext) (tSeq (tFor (iRng3 (tCons (tC (.int 2)) (tCons (tCB (rLenS K) (tCons (tVar 0) tNil)) (tCons (tC (.int 2)) tNil)))) (gName 1) (tIfS (tTest (tOp qLe (tOp (rIxL K) (tVar 0) (tVar 1)) (tOp (rIxL K) (tVar 0) (tOp qSub (tVar 1) (tC (.int 2)))))) (tRet (tC (.bl false))) tNext)) (tRet (tC (.bl true)))))
theorem dv_is_table {f : Addr} {cdv : Value} {A : Around} {outer : List Env} {s : Shared} {H : Hp} {E : XK} (T : Txt K mg) (hr : Room 0 (A.deeper (envOfC "is_table" (C8.fnScope s_is_table) s.heap.objs.size f cdv))) :
    PSs (cxOf C8.CX0 P w K mg base ["row", "place"] "is_table" (C8.fnScope s_is_table) f cdv A outer s H E).nox (C8.fnBody s_is_table) (t_is_table K) :=
  (pss_cons (ps_if (PW.pt (pw_or (pt_cmpR op_eq (pe_callB call_len_seq (by rfl) T.b_len PySem.boot_len (pa_cons (pv 0) pa_nil)) pe_int (nomark _)) (pw_or (pt_cmpR op_ne (pe_op op_mod (pe_callB call_len_seq (by rfl) T.b_len PySem.boot_len (pa_cons (pv 0) pa_nil)) pe_int) pe_int (nomark _)) (pw_or1 (pt_cmpR op_gt (pe_callB call_len_seq (by rfl) T.b_len PySem.boot_len (pa_cons (pv 0) pa_nil)) (pe_op op_mulW pe_int (C8.pe_gc (by rfl) T.c_MOST_POINTS)) (nomark _)))))) (pss_one (ps_ret pe_bl)) pss_nil) (pss_cons (ps_for PassesOwn.never rfl (pi_range3 (by rfl) T.b_range (pa_cons pe_int (pa_cons (pe_callB call_len_seq (by rfl) T.b_len PySem.boot_len (pa_cons (pv 0) pa_nil)) (pa_cons pe_int pa_nil)))) (pg_name (i := 1) sc_is_table.nd rfl (Or.inl rfl)) (pss_one (ps_if (pt_cmpR op_le (pe_ix ix_list (pv 0) (pv 1) (fun _ _ => rfl)) (pe_ix ix_list (pv 0) (pe_op op_sub (pv 1) pe_int) (fun _ _ => rfl)) (nomark _)) (pss_one (ps_ret pe_bl)) pss_nil))) (pss_one (ps_ret pe_bl))))
-- loss_at: slots 0 table, 1 micros, 2 place, 3 wide, 4 rise, 5 beyond
theorem sc_loss_at : FnScope ["table", "micros", "place", "wide", "rise", "beyond"] ["table", "micros"] (C8.fnScope s_loss_at) := C8.fnScope_by (by decide +kernel)
def t_loss_at (K : PySem.W.Frag) : TS := (tSeq (tIfS (tTest (tOp qLe (tVar 1) (tOp qMul (tOp (rIxL K) (tVar 0) (tC (.int 0))) (tC (.int 1000000))))) (tRet (tTup (tCons (tOp (rIxL K) (tVar 0) (tC (.int 1))) (tCons (tC (.int 1)) tNil)))) tNext) (tSeq (tFor (iRng3 (tCons (tC (.int 2)) (tCons (tCB (rLenS K) (tCons (tVar 0) tNil)) (tCons (tC (.int 2)) tNil)))) (gName 2) (tIfS (tTest (tOp qLe (tVar 1) (tOp qMul (tOp (rIxL K) (tVar 0) (tVar 2)) (tC (.int 1000000))))) (tSeq (tAsg (tOp qSub (tOp (rIxL K) (tVar 0) (tVar 2)) (tOp (rIxL K) (tVar 0) (tOp qSub (tVar 2) (tC (.int 2))))) (gName 3)) (tSeq (tAsg (tOp qSub (tOp (rIxL K) (tVar 0) (tOp qAdd (tVar 2) (tC (.int 1)))) (tOp (rIxL K) (tVar 0) (tOp qSub (tVar 2) (tC (.int 1))))) (gName 4)) (tSeq (tAsg (tOp qSub (tVar 1) (tOp qMul (tOp (rIxL K) (tVar 0) (tOp qSub (tVar 2) (tC (.int 2)))) (tC (.int 1000000)))) (gName 5)) (tRet (tTup (tCons (tOp qAdd (tOp qMul (tOp qMul (tOp (rIxL K) (tVar 0) (tOp qSub (tVar 2) (tC (.int 1)))) (tVar 3)) (tC (.int 1000000))) (tOp qMul (tVar 4) (tVar 5))) (tCons (tOp qMul (tVar 3) (tC (.int 1000000))) tNil))))))) tNext)) (tRet (tTup (tCons (tOp (rIxL K) (tVar 0) (tOp qSub (tCB (rLenS K) (tCons (tVar 0) tNil)) (tC (.int 1)))) (tCons (tC (.int 1)) tNil))))))
theorem dv_loss_at {f : Addr} {cdv : Value} {A : Around} {outer : List Env} {s : Shared} {H : Hp} {E : XK} (T : Txt K mg) (hr : Room 0 (A.deeper (envOfC "loss_at" (C8.fnScope s_loss_at) s.heap.objs.size f cdv))) :
    PSs (cxOf C8.CX0 P w K mg base ["table", "micros", "place", "wide", "rise", "beyond"] "loss_at" (C8.fnScope s_loss_at) f cdv A outer s H E).nox (C8.fnBody s_loss_at) (t_loss_at K) :=
  (pss_cons (ps_if (pt_cmpR op_le (pv 1) (pe_op op_mulW (pe_ix ix_list (pv 0) pe_int (fun _ _ => rfl)) (C8.pe_gc (by rfl) T.c_MICROS)) (nomark _)) (pss_one (ps_ret (pe_tup (pa_cons (pe_ix ix_list (pv 0) pe_int (fun _ _ => rfl)) (pa_cons pe_int pa_nil))))) pss_nil) (pss_cons (ps_for PassesOwn.never rfl (pi_range3 (by rfl) T.b_range (pa_cons pe_int (pa_cons (pe_callB call_len_seq (by rfl) T.b_len PySem.boot_len (pa_cons (pv 0) pa_nil)) (pa_cons pe_int pa_nil)))) (pg_name (i := 2) sc_loss_at.nd rfl (Or.inl rfl)) (pss_one (ps_if (pt_cmpR op_le (pv 1) (pe_op op_mulW (pe_ix ix_list (pv 0) (pv 2) (fun _ _ => rfl)) (C8.pe_gc (by rfl) T.c_MICROS)) (nomark _)) (pss_cons (ps_set (i := 3) sc_loss_at.nd rfl (Or.inl rfl) (pe_op op_sub (pe_ix ix_list (pv 0) (pv 2) (fun _ _ => rfl)) (pe_ix ix_list (pv 0) (pe_op op_sub (pv 2) pe_int) (fun _ _ => rfl)))) (pss_cons (ps_set (i := 4) sc_loss_at.nd rfl (Or.inl rfl) (pe_op op_sub (pe_ix ix_list (pv 0) (pe_op op_add (pv 2) pe_int) (fun _ _ => rfl)) (pe_ix ix_list (pv 0) (pe_op op_sub (pv 2) pe_int) (fun _ _ => rfl)))) (pss_cons (ps_set (i := 5) sc_loss_at.nd rfl (Or.inl rfl) (pe_op op_sub (pv 1) (pe_op op_mulW (pe_ix ix_list (pv 0) (pe_op op_sub (pv 2) pe_int) (fun _ _ => rfl)) (C8.pe_gc (by rfl) T.c_MICROS)))) (pss_one (ps_ret (pe_tup (pa_cons (pe_op op_add (pe_op op_mulW (pe_op op_mulW (pe_ix ix_list (pv 0) (pe_op op_sub (pv 2) pe_int) (fun _ _ => rfl)) (pv 3)) (C8.pe_gc (by rfl) T.c_MICROS)) (pe_op op_mulW (pv 4) (pv 5))) (pa_cons (pe_op op_mulW (pv 3) (C8.pe_gc (by rfl) T.c_MICROS)) pa_nil)))))))) pss_nil))) (pss_one (ps_ret (pe_tup (pa_cons (pe_ix ix_list (pv 0) (pe_op op_sub (pe_callB call_len_seq (by rfl) T.b_len PySem.boot_len (pa_cons (pv 0) pa_nil)) pe_int) (fun _ _ => rfl)) (pa_cons pe_int pa_nil)))))))
-- left_after_loss: slots 0 table, 1 micros, 2 loss
theorem sc_left_after_loss : FnScope ["table", "micros", "loss"] ["table", "micros"] (C8.fnScope s_left_after_loss) := C8.fnScope_by (by decide +kernel)
def t_left_after_loss (K : PySem.W.Frag) (sp_loss_at : Sp) : TS := (tSeq (tAsg (tCall sp_loss_at [] C8.E0 (tCons (tVar 0) (tCons (tVar 1) tNil))) (gName 2)) (tRet (tOp qDiv (tOp qSub (tOp qMul (tVar 1) (tOp (rIxT K) (tVar 2) (tC (.int 1)))) (tOp qMul (tOp (rIxT K) (tVar 2) (tC (.int 0))) (tC (.int 1000000)))) (tOp qMul (tC (.int 1000000)) (tOp (rIxT K) (tVar 2) (tC (.int 1)))))))
theorem dv_left_after_loss {f : Addr} {cdv : Value} {A : Around} {outer : List Env} {s : Shared} {H : Hp} {E : XK} (T : Txt K mg) (hr : Room 1 (A.deeper (envOfC "left_after_loss" (C8.fnScope s_left_after_loss) s.heap.objs.size f cdv))) {sp_loss_at : Sp} (c_loss_at : C8.Cal P w K mg base 1 "loss_at" sp_loss_at []) :
    PSs (cxOf C8.CX0 P w K mg base ["table", "micros", "loss"] "left_after_loss" (C8.fnScope s_left_after_loss) f cdv A outer s H E).nox (C8.fnBody s_left_after_loss) (t_left_after_loss K sp_loss_at) :=
  (pss_cons (ps_set (i := 2) sc_left_after_loss.nd rfl (Or.inl rfl) (C8.pe_c c_loss_at hr (by decide) (by rfl) (pa_cons (pv 0) (pa_cons (pv 1) pa_nil)))) (pss_one (ps_ret (pe_op op_fdivW (pe_op op_sub (pe_op op_mulW (pv 1) (pe_ix ix_tup (pv 2) pe_int (fun _ _ => rfl))) (pe_op op_mulW (pe_ix ix_tup (pv 2) pe_int (fun _ _ => rfl)) (C8.pe_gc (by rfl) T.c_MICROS))) (pe_op op_mulW (C8.pe_gc (by rfl) T.c_MICROS) (pe_ix ix_tup (pv 2) pe_int (fun _ _ => rfl)))))))
-- is_giver: slots 0 kind, 1 most, 2 start, 3 stop, 4 wait, 5 up, 6 worth
theorem sc_is_giver : FnScope ["kind", "most", "start", "stop", "wait", "up", "worth"] ["kind", "most", "start", "stop", "wait", "up", "worth"] (C8.fnScope s_is_giver) := C8.fnScope_by (by decide +kernel)
def t_is_giver (K : PySem.W.Frag) : TS := (tSeq (tIfS (tOr (tTest (tOp qGt (tVar 0) (tC (.int 7)))) (tTest (tOp qGt (tVar 6) (tC (.int 65535))))) (tRet (tC (.bl false))) tNext) (tSeq (tIfS (tOr (tTest (tOp qGt (tVar 1) (tC (.int 10000000)))) (tOr (tTest (tOp qGt (tVar 2) (tC (.int 10000000)))) (tTest (tOp qGt (tVar 5) (tC (.int 10000000)))))) (tRet (tC (.bl false))) tNext) (tRet (tAndV (tOp qLe (tVar 3) (tVar 2)) (tChain qLe qLe (tC (.int 1)) (tVar 4) (tC (.int 96)))))))
theorem dv_is_giver {f : Addr} {cdv : Value} {A : Around} {outer : List Env} {s : Shared} {H : Hp} {E : XK} (T : Txt K mg) (hr : Room 0 (A.deeper (envOfC "is_giver" (C8.fnScope s_is_giver) s.heap.objs.size f cdv))) :
    PSs (cxOf C8.CX0 P w K mg base ["kind", "most", "start", "stop", "wait", "up", "worth"] "is_giver" (C8.fnScope s_is_giver) f cdv A outer s H E).nox (C8.fnBody s_is_giver) (t_is_giver K) :=
  (pss_cons (ps_if (PW.pt (pw_or (pt_cmpR op_gt (pv 0) (C8.pe_gc (by rfl) T.c_MOST_CLASS) (nomark _)) (pw_or1 (pt_cmpR op_gt (pv 6) (C8.pe_gc (by rfl) T.c_MOST_WORTH) (nomark _))))) (pss_one (ps_ret pe_bl)) pss_nil) (pss_cons (ps_if (PW.pt (pw_or (pt_cmpR op_gt (pv 1) (C8.pe_gc (by rfl) T.c_MOST_WATTS) (nomark _)) (pw_or (pt_cmpR op_gt (pv 2) (C8.pe_gc (by rfl) T.c_MOST_WATTS) (nomark _)) (pw_or1 (pt_cmpR op_gt (pv 5) (C8.pe_gc (by rfl) T.c_MOST_WATTS) (nomark _)))))) (pss_one (ps_ret pe_bl)) pss_nil) (pss_one (ps_ret (pe_and (pe_cmpR op_le (pv 3) (pv 2) (nomark _)) (pe_one (pe_chain op_le op_le pe_int (pv 4) (C8.pe_gc (by rfl) T.c_MOST_WAIT))))))))
-- passed: slots 0 giver, 1 micros
theorem sc_passed : FnScope ["giver", "micros"] ["giver", "micros"] (C8.fnScope s_passed) := C8.fnScope_by (by decide +kernel)
def t_passed (K : PySem.W.Frag) (sp_left_after_loss : Sp) : TS := (tRet (tCB rMin2 (tCons (tCB rMax2 (tCons (tCall sp_left_after_loss [] C8.E0 (tCons (tFld K (tVar 0) "table") (tCons (tVar 1) tNil))) (tCons (tC (.int 0)) tNil))) (tCons (tFld K (tVar 0) "most") tNil))))
theorem dv_passed {f : Addr} {cdv : Value} {A : Around} {outer : List Env} {s : Shared} {H : Hp} {E : XK} (T : Txt K mg) (hr : Room 2 (A.deeper (envOfC "passed" (C8.fnScope s_passed) s.heap.objs.size f cdv))) {sp_left_after_loss : Sp} (c_left_after_loss : C8.Cal P w K mg base 2 "left_after_loss" sp_left_after_loss []) :
    PSs (cxOf C8.CX0 P w K mg base ["giver", "micros"] "passed" (C8.fnScope s_passed) f cdv A outer s H E).nox (C8.fnBody s_passed) (t_passed K sp_left_after_loss) :=
  (pss_one (ps_ret (pe_callB (call_min2 rfl) (by rfl) T.b_min boot_min (pa_cons (pe_callB (call_max2 rfl) (by rfl) T.b_max boot_max (pa_cons (C8.pe_c c_left_after_loss hr (by decide) (by rfl) (pa_cons (pe_fld (pv 0) rfl) (pa_cons (pv 1) pa_nil))) (pa_cons pe_int pa_nil))) (pa_cons (pe_fld (pv 0) rfl) pa_nil)))))
-- step: slots 0 giver, 1 runs, 2 waited, 3 micros
theorem sc_step : FnScope ["giver", "runs", "waited", "micros"] ["giver", "runs", "waited", "micros"] (C8.fnScope s_step) := C8.fnScope_by (by decide +kernel)
def t_step (K : PySem.W.Frag) : TS := (tSeq (tIfS (tB (tVar 1)) (tRet (tTup (tCons (tOp qGe (tVar 3) (tOp qMul (tFld K (tVar 0) "stop") (tC (.int 1000000)))) (tCons (tC (.int 0)) tNil)))) tNext) (tSeq (tIfS (tTest (tOp qLt (tVar 3) (tOp qMul (tFld K (tVar 0) "start") (tC (.int 1000000))))) (tRet (tTup (tCons (tC (.bl false)) (tCons (tC (.int 0)) tNil)))) tNext) (tSeq (tIfS (tTest (tOp rEq (tOp qAdd (tVar 2) (tC (.int 1))) (tFld K (tVar 0) "wait"))) (tRet (tTup (tCons (tC (.bl true)) (tCons (tC (.int 0)) tNil)))) tNext) (tRet (tTup (tCons (tC (.bl false)) (tCons (tOp qAdd (tVar 2) (tC (.int 1))) tNil)))))))
theorem dv_step {f : Addr} {cdv : Value} {A : Around} {outer : List Env} {s : Shared} {H : Hp} {E : XK} (T : Txt K mg) (hr : Room 0 (A.deeper (envOfC "step" (C8.fnScope s_step) s.heap.objs.size f cdv))) :
    PSs (cxOf C8.CX0 P w K mg base ["giver", "runs", "waited", "micros"] "step" (C8.fnScope s_step) f cdv A outer s H E).nox (C8.fnBody s_step) (t_step K) :=
  (pss_cons (ps_if (pt_val (pv 1)) (pss_one (ps_ret (pe_tup (pa_cons (pe_cmpR op_ge (pv 3) (pe_op op_mulW (pe_fld (pv 0) rfl) (C8.pe_gc (by rfl) T.c_MICROS)) (nomark _)) (pa_cons pe_int pa_nil))))) pss_nil) (pss_cons (ps_if (pt_cmpR op_lt (pv 3) (pe_op op_mulW (pe_fld (pv 0) rfl) (C8.pe_gc (by rfl) T.c_MICROS)) (nomark _)) (pss_one (ps_ret (pe_tup (pa_cons pe_bl (pa_cons pe_int pa_nil))))) pss_nil) (pss_cons (ps_if (pt_cmpR op_eq (pe_op op_add (pv 2) pe_int) (pe_fld (pv 0) rfl) (nomark _)) (pss_one (ps_ret (pe_tup (pa_cons pe_bl (pa_cons pe_int pa_nil))))) pss_nil) (pss_one (ps_ret (pe_tup (pa_cons pe_bl (pa_cons (pe_op op_add (pv 2) pe_int) pa_nil))))))))
-- could_give: slots 0 giver, 1 runs, 2 gave, 3 micros
theorem sc_could_give : FnScope ["giver", "runs", "gave", "micros"] ["giver", "runs", "gave", "micros"] (C8.fnScope s_could_give) := C8.fnScope_by (by decide +kernel)
def t_could_give (K : PySem.W.Frag) (sp_passed : Sp) : TS := (tSeq (tIfS (tNot (tB (tVar 1))) (tRet (tC (.int 0))) tNext) (tRet (tCB rMin2 (tCons (tCall sp_passed [] C8.E0 (tCons (tVar 0) (tCons (tVar 3) tNil))) (tCons (tOp qAdd (tVar 2) (tFld K (tVar 0) "up")) tNil)))))
theorem dv_could_give {f : Addr} {cdv : Value} {A : Around} {outer : List Env} {s : Shared} {H : Hp} {E : XK} (T : Txt K mg) (hr : Room 3 (A.deeper (envOfC "could_give" (C8.fnScope s_could_give) s.heap.objs.size f cdv))) {sp_passed : Sp} (c_passed : C8.Cal P w K mg base 3 "passed" sp_passed []) :
    PSs (cxOf C8.CX0 P w K mg base ["giver", "runs", "gave", "micros"] "could_give" (C8.fnScope s_could_give) f cdv A outer s H E).nox (C8.fnBody s_could_give) (t_could_give K sp_passed) :=
  (pss_cons (ps_if (pt_not (pt_val (pv 1))) (pss_one (ps_ret pe_int)) pss_nil) (pss_one (ps_ret (pe_callB (call_min2 rfl) (by rfl) T.b_min boot_min (pa_cons (C8.pe_c c_passed hr (by decide) (by rfl) (pa_cons (pv 0) (pa_cons (pv 3) pa_nil))) (pa_cons (pe_op op_add (pv 2) (pe_fld (pv 0) rfl)) pa_nil))))))
-- class_sums: slots 0 givers, 1 row, 2 sums, 3 giver, 4 watts
theorem sc_class_sums : FnScope ["givers", "row", "sums", "giver", "watts"] ["givers", "row"] (C8.fnScope s_class_sums) := C8.fnScope_by (by decide +kernel)
def t_class_sums (K : PySem.W.Frag) : TS := (tSeq (tAsg (tOp rRep (tLst (tCons (tC (.int 0)) tNil)) (tC (.int 8))) (gName 2)) (tSeq (tFor (iZip K (tCons (tVar 0) (tCons (tVar 1) tNil))) (gTup K 2 (gCons (gName 3) (gCons (gName 4) gNil))) (tAugS (tVar 2) (tFld K (tVar 3) "kind") (tVar 4) (rIxL K) (ipI fun i j => i + j) rSetL)) (tRet (tVar 2))))
theorem dv_class_sums {f : Addr} {cdv : Value} {A : Around} {outer : List Env} {s : Shared} {H : Hp} {E : XK} (T : Txt K mg) (hr : Room 0 (A.deeper (envOfC "class_sums" (C8.fnScope s_class_sums) s.heap.objs.size f cdv))) :
    PSs (cxOf C8.CX0 P w K mg base ["givers", "row", "sums", "giver", "watts"] "class_sums" (C8.fnScope s_class_sums) f cdv A outer s H E).nox (C8.fnBody s_class_sums) (t_class_sums K) :=
  (pss_cons (ps_set (i := 2) sc_class_sums.nd rfl (Or.inl rfl) (pe_op op_rep (pe_lst (pa_cons pe_int pa_nil)) (C8.pe_gc (by rfl) T.c_CLASSES))) (pss_cons (ps_for PassesOwn.never rfl (pi_zip (by rfl) T.b_zip (pa_cons (pv 0) (pa_cons (pv 1) pa_nil))) (pg_tup rfl (pgs_cons (pg_name (i := 3) sc_class_sums.nd rfl (Or.inl rfl)) (pgs_cons (pg_name (i := 4) sc_class_sums.nd rfl (Or.inl rfl)) pgs_nil))) (pss_one (ps_augS (pv 2) (pe_fld (pv 3) rfl) get_list (pv 4) ip_add set_list))) (pss_one (ps_ret (pv 2)))))
-- scope_sums: slots 0 givers, 1 row
theorem sc_scope_sums : FnScope ["givers", "row"] ["givers", "row"] (C8.fnScope s_scope_sums) := C8.fnScope_by (by decide +kernel)
def t_scope_sums (K : PySem.W.Frag) (sp_class_sums : Sp) : TS := (tRet (tOp rCat (tCall sp_class_sums [] C8.E0 (tCons (tVar 0) (tCons (tVar 1) tNil))) (tLst (tCons (tCB (rSum K) (tCons (tVar 1) tNil)) tNil))))
theorem dv_scope_sums {f : Addr} {cdv : Value} {A : Around} {outer : List Env} {s : Shared} {H : Hp} {E : XK} (T : Txt K mg) (hr : Room 1 (A.deeper (envOfC "scope_sums" (C8.fnScope s_scope_sums) s.heap.objs.size f cdv))) {sp_class_sums : Sp} (c_class_sums : C8.Cal P w K mg base 1 "class_sums" sp_class_sums []) :
    PSs (cxOf C8.CX0 P w K mg base ["givers", "row"] "scope_sums" (C8.fnScope s_scope_sums) f cdv A outer s H E).nox (C8.fnBody s_scope_sums) (t_scope_sums K sp_class_sums) :=
  (pss_one (ps_ret (pe_op op_cat (C8.pe_c c_class_sums hr (by decide) (by rfl) (pa_cons (pv 0) (pa_cons (pv 1) pa_nil))) (pe_lst (pa_cons (pe_callB (cr_sum rfl) (by rfl) T.b_sum boot_sum (pa_cons (pv 1) pa_nil)) pa_nil)))))
-- under: slots 0 limit, 1 watts
theorem sc_under : FnScope ["limit", "watts"] ["limit", "watts"] (C8.fnScope s_under) := C8.fnScope_by (by decide +kernel)
def t_under (K : PySem.W.Frag) : TS := (tSeq (tIfS (tTest (tOp rEq (tVar 0) (tC (.int (-1))))) (tRet (tVar 1)) tNext) (tRet (tCB rMin2 (tCons (tVar 0) (tCons (tVar 1) tNil)))))
theorem dv_under {f : Addr} {cdv : Value} {A : Around} {outer : List Env} {s : Shared} {H : Hp} {E : XK} (T : Txt K mg) (hr : Room 0 (A.deeper (envOfC "under" (C8.fnScope s_under) s.heap.objs.size f cdv))) :
    PSs (cxOf C8.CX0 P w K mg base ["limit", "watts"] "under" (C8.fnScope s_under) f cdv A outer s H E).nox (C8.fnBody s_under) (t_under K) :=
  (pss_cons (ps_if (pt_cmpR op_eq (pv 0) (C8.pe_gc (by rfl) T.c_NO_LIMIT) (nomark _)) (pss_one (ps_ret (pv 1))) pss_nil) (pss_one (ps_ret (pe_callB (call_min2 rfl) (by rfl) T.b_min boot_min (pa_cons (pv 0) (pa_cons (pv 1) pa_nil))))))
-- given_in_all: slots 0 givers, 1 able, 2 limits*, 3 sums*, 4 kind
theorem sc_given_in_all : FnScope ["givers", "able", "limits", "sums", "kind"] ["givers", "able", "limits"] (C8.fnScope s_given_in_all) := C8.fnScope_by (by decide +kernel)
def t_given_in_all (K : PySem.W.Frag) (sp_class_sums : Sp) (sp_under : Sp) : TS := (tSeq (tAsg (tCall sp_class_sums [] C8.E0 (tCons (tVar 0) (tCons (tVar 1) tNil))) (gName 3)) (tRet (tCB rMin2 (tCons (tOp (rIxL K) (tVar 2) (tC (.int 8))) (tCons (tCB (rSum K) (tCons (tLc (iRng1 (tCons (tC (.int 8)) tNil)) (gName 4) tYes (tCall sp_under [] C8.E0 (tCons (tOp (rIxL K) (tVar 2) (tVar 4)) (tCons (tOp (rIxL K) (tVar 3) (tVar 4)) tNil))) [4]) tNil)) tNil)))))
theorem dv_given_in_all {f : Addr} {cdv : Value} {A : Around} {outer : List Env} {s : Shared} {H : Hp} {E : XK} (T : Txt K mg) (hr : Room 1 (A.deeper (envOfC "given_in_all" (C8.fnScope s_given_in_all) s.heap.objs.size f cdv))) {sp_class_sums : Sp} (c_class_sums : C8.Cal P w K mg base 1 "class_sums" sp_class_sums []) {sp_under : Sp} (c_under : C8.Cal P w K mg base 1 "under" sp_under []) :
    PSs (cxOf C8.CX0 P w K mg base ["givers", "able", "limits", "sums", "kind"] "given_in_all" (C8.fnScope s_given_in_all) f cdv A outer s H E).nox (C8.fnBody s_given_in_all) (t_given_in_all K sp_class_sums sp_under) :=
  (pss_cons (ps_set (i := 3) sc_given_in_all.nd rfl (Or.inr rfl) (C8.pe_c c_class_sums hr (by decide) (by rfl) (pa_cons (pv 0) (pa_cons (pv 1) pa_nil)))) (pss_one (ps_ret (pe_callB (call_min2 rfl) (by rfl) T.b_min boot_min (pa_cons (pe_ix ix_list (pv 2) (C8.pe_gc (by rfl) T.c_PLANT) (fun _ _ => rfl)) (pa_cons (pe_callB (cr_sum rfl) (by rfl) T.b_sum boot_sum (pa_cons (pe_lc (own := [("kind", 4)]) (g := (gName 4)) (tt := tYes) rfl sc_given_in_all.nd (pi_range1 (by rfl) T.b_range (pa_cons (C8.pe_gc (by rfl) T.c_CLASSES) pa_nil)) (blkOk_by (N := ["givers", "able", "limits", "sums", "kind"]) (sc := C8.fnScope s_given_in_all) (by decide +kernel)) (fun _ _ _ _ _ => (pg_name (i := 4) sc_given_in_all.nd rfl (Or.inl rfl))) (fun _ _ _ _ _ => pts_nil) (fun _ _ _ _ _ => (C8.pe_c c_under hr (by decide) (by rfl) (pa_cons (pe_ix ix_list (pv 2) (pv 4) (fun _ _ => rfl)) (pa_cons (pe_ix ix_list (pv 3) (pv 4) (fun _ _ => rfl)) pa_nil))))) pa_nil)) pa_nil))))))
-- level_and_rest: slots 0 able, 1 limit, 2 left, 3 sharers, 4 watts
theorem sc_level_and_rest : FnScope ["able", "limit", "left", "sharers", "watts"] ["able", "limit"] (C8.fnScope s_level_and_rest) := C8.fnScope_by (by decide +kernel)
def t_level_and_rest (K : PySem.W.Frag) : TS := (tSeq (tAsg (tVar 1) (gName 2)) (tSeq (tAsg (tCB (rLenS K) (tCons (tVar 0) tNil)) (gName 3)) (tSeq (tFor (iList K (tCB (rSortedI K) (tCons (tVar 0) tNil))) (gName 4) (tSeq (tIfS (tTest (tOp qGt (tOp qMul (tVar 4) (tVar 3)) (tVar 2))) tBreak tNext) (tSeq (tAug 2 (tVar 4) (ipI fun i j => i - j)) (tAug 3 (tC (.int 1)) (ipI fun i j => i - j))))) (tRet (tTup (tCons (tOp qDiv (tVar 2) (tVar 3)) (tCons (tOp qMod (tVar 2) (tVar 3)) tNil)))))))
theorem dv_level_and_rest {f : Addr} {cdv : Value} {A : Around} {outer : List Env} {s : Shared} {H : Hp} {E : XK} (T : Txt K mg) (hr : Room 0 (A.deeper (envOfC "level_and_rest" (C8.fnScope s_level_and_rest) s.heap.objs.size f cdv))) :
    PSs (cxOf C8.CX0 P w K mg base ["able", "limit", "left", "sharers", "watts"] "level_and_rest" (C8.fnScope s_level_and_rest) f cdv A outer s H E).nox (C8.fnBody s_level_and_rest) (t_level_and_rest K) :=
  (pss_cons (ps_set (i := 2) sc_level_and_rest.nd rfl (Or.inl rfl) (pv 1)) (pss_cons (ps_set (i := 3) sc_level_and_rest.nd rfl (Or.inl rfl) (pe_callB call_len_seq (by rfl) T.b_len PySem.boot_len (pa_cons (pv 0) pa_nil))) (pss_cons (ps_for PassesOwn.never rfl (pi_list (pe_callB cr_sortedI (by rfl) T.b_sorted boot_sorted (pa_cons (pv 0) pa_nil))) (pg_name (i := 4) sc_level_and_rest.nd rfl (Or.inl rfl)) (pss_cons (ps_if (pt_cmpR op_gt (pe_op op_mulW (pv 4) (pv 3)) (pv 2) (nomark _)) (pss_one ps_break) pss_nil) (pss_cons (ps_aug (i := 2) sc_level_and_rest.nd rfl (Or.inl rfl) (pv 4) ip_sub) (pss_one (ps_aug (i := 3) sc_level_and_rest.nd rfl (Or.inl rfl) pe_int ip_sub))))) (pss_one (ps_ret (pe_tup (pa_cons (pe_op op_fdivW (pv 2) (pv 3)) (pa_cons (pe_op op_mod (pv 2) (pv 3)) pa_nil))))))))
-- levelled: slots 0 able, 1 limit, 2 level_rest, 3 level, 4 rest, 5 shares, 6 watts
theorem sc_levelled : FnScope ["able", "limit", "level_rest", "level", "rest", "shares", "watts"] ["able", "limit"] (C8.fnScope s_levelled) := C8.fnScope_by (by decide +kernel)
def t_levelled (K : PySem.W.Frag) (sp_level_and_rest : Sp) : TS := (tSeq (tIfS (tTest (tOp qLe (tCB (rSum K) (tCons (tVar 0) tNil)) (tVar 1))) (tRet (tCB (rListS K) (tCons (tVar 0) tNil))) tNext) (tSeq (tAsg (tCall sp_level_and_rest [] C8.E0 (tCons (tVar 0) (tCons (tVar 1) tNil))) (gName 2)) (tSeq (tAsg (tOp (rIxT K) (tVar 2) (tC (.int 0))) (gName 3)) (tSeq (tAsg (tOp (rIxT K) (tVar 2) (tC (.int 1))) (gName 4)) (tSeq (tAsg (tLst tNil) (gName 5)) (tSeq (tFor (iList K (tVar 0)) (gName 6) (tIfS (tAnd (tTest (tOp qGt (tVar 6) (tVar 3))) (tTest (tOp qGt (tVar 4) (tC (.int 0))))) (tSeq (tDrop (tBM K "list" rAppend (tVar 5) (tCons (tOp qAdd (tVar 3) (tC (.int 1))) tNil))) (tAug 4 (tC (.int 1)) (ipI fun i j => i - j))) (tDrop (tBM K "list" rAppend (tVar 5) (tCons (tCB rMin2 (tCons (tVar 6) (tCons (tVar 3) tNil))) tNil))))) (tRet (tVar 5))))))))
theorem dv_levelled {f : Addr} {cdv : Value} {A : Around} {outer : List Env} {s : Shared} {H : Hp} {E : XK} (T : Txt K mg) (hr : Room 1 (A.deeper (envOfC "levelled" (C8.fnScope s_levelled) s.heap.objs.size f cdv))) {sp_level_and_rest : Sp} (c_level_and_rest : C8.Cal P w K mg base 1 "level_and_rest" sp_level_and_rest []) :
    PSs (cxOf C8.CX0 P w K mg base ["able", "limit", "level_rest", "level", "rest", "shares", "watts"] "levelled" (C8.fnScope s_levelled) f cdv A outer s H E).nox (C8.fnBody s_levelled) (t_levelled K sp_level_and_rest) :=
  (pss_cons (ps_if (pt_cmpR op_le (pe_callB (cr_sum rfl) (by rfl) T.b_sum boot_sum (pa_cons (pv 0) pa_nil)) (pv 1) (nomark _)) (pss_one (ps_ret (pe_callTy call_list_of (by rfl) T.b_list boot_list (pa_cons (pv 0) pa_nil)))) pss_nil) (pss_cons (ps_set (i := 2) sc_levelled.nd rfl (Or.inl rfl) (C8.pe_c c_level_and_rest hr (by decide) (by rfl) (pa_cons (pv 0) (pa_cons (pv 1) pa_nil)))) (pss_cons (ps_set (i := 3) sc_levelled.nd rfl (Or.inl rfl) (pe_ix ix_tup (pv 2) pe_int (fun _ _ => rfl))) (pss_cons (ps_set (i := 4) sc_levelled.nd rfl (Or.inl rfl) (pe_ix ix_tup (pv 2) pe_int (fun _ _ => rfl))) (pss_cons (ps_set (i := 5) sc_levelled.nd rfl (Or.inl rfl) (pe_lst pa_nil)) (pss_cons (ps_for PassesOwn.never rfl (pi_list (pv 0)) (pg_name (i := 6) sc_levelled.nd rfl (Or.inl rfl)) (pss_one (ps_if (PW.pt (pw_and (pt_cmpR op_gt (pv 6) (pv 3) (nomark _)) (pw_and1 (pt_cmpR op_gt (pv 4) pe_int (nomark _))))) (pss_cons (ps_expr (pe_bm PySem.F.plainAttrs_list PySem.F.slot_list_append PySem.F.type_list_append mt_append (pv 5) (pa_cons (pe_op op_add (pv 3) pe_int) pa_nil))) (pss_one (ps_aug (i := 4) sc_levelled.nd rfl (Or.inl rfl) pe_int ip_sub))) (pss_one (ps_expr (pe_bm PySem.F.plainAttrs_list PySem.F.slot_list_append PySem.F.type_list_append mt_append (pv 5) (pa_cons (pe_callB (call_min2 rfl) (by rfl) T.b_min boot_min (pa_cons (pv 6) (pa_cons (pv 3) pa_nil))) pa_nil))))))) (pss_one (ps_ret (pv 5)))))))))
-- with_class_levelled: slots 0 givers, 1 row*, 2 kind*, 3 limit, 4 members, 5 shares, 6 number, 7 watts, 8 giver, 9 member
theorem sc_with_class_levelled : FnScope ["givers", "row", "kind", "limit", "members", "shares", "number", "watts", "giver", "member"] ["givers", "row", "kind", "limit"] (C8.fnScope s_with_class_levelled) := C8.fnScope_by (by decide +kernel)
def t_with_class_levelled (K : PySem.W.Frag) (sp_levelled : Sp) : TS := (tSeq (tAsg (tLc (iEnum K (tCons (tVar 0) tNil)) (gTup K 2 (gCons (gName 6) (gCons (gName 8) gNil))) (tTest (tOp rEq (tFld K (tVar 8) "kind") (tVar 2))) (tVar 6) [6, 8]) (gName 4)) (tSeq (tAsg (tCB (rListS K) (tCons (tVar 1) tNil)) (gName 5)) (tSeq (tFor (iZip K (tCons (tVar 4) (tCons (tCall sp_levelled [] C8.E0 (tCons (tLc (iList K (tVar 4)) (gName 9) tYes (tOp (rIxL K) (tVar 1) (tVar 9)) [9]) (tCons (tVar 3) tNil))) tNil))) (gTup K 2 (gCons (gName 6) (gCons (gName 7) gNil))) (tAsg (tVar 7) (gSub (tVar 5) (tVar 6) rSetL))) (tRet (tVar 5)))))
theorem dv_with_class_levelled {f : Addr} {cdv : Value} {A : Around} {outer : List Env} {s : Shared} {H : Hp} {E : XK} (T : Txt K mg) (hr : Room 2 (A.deeper (envOfC "with_class_levelled" (C8.fnScope s_with_class_levelled) s.heap.objs.size f cdv))) {sp_levelled : Sp} (c_levelled : C8.Cal P w K mg base 2 "levelled" sp_levelled []) :
    PSs (cxOf C8.CX0 P w K mg base ["givers", "row", "kind", "limit", "members", "shares", "number", "watts", "giver", "member"] "with_class_levelled" (C8.fnScope s_with_class_levelled) f cdv A outer s H E).nox (C8.fnBody s_with_class_levelled) (t_with_class_levelled K sp_levelled) :=
  (pss_cons (ps_setLc (i := 4) (own := [("number", 6), ("giver", 8)]) (g := (gTup K 2 (gCons (gName 6) (gCons (gName 8) gNil)))) (tt := (tTest (tOp rEq (tFld K (tVar 8) "kind") (tVar 2)))) rfl sc_with_class_levelled.nd rfl rfl (sw_true rfl rfl rfl (by decide +kernel)) (pi_enum (by rfl) T.b_enumerate (pa_cons (pv 0) pa_nil)) (blkOk_by (N := ["givers", "row", "kind", "limit", "members", "shares", "number", "watts", "giver", "member"]) (sc := C8.fnScope s_with_class_levelled) (by decide +kernel)) (fun _ _ _ _ _ => (pg_tup rfl (pgs_cons (pg_name (i := 6) sc_with_class_levelled.nd rfl (Or.inl rfl)) (pgs_cons (pg_name (i := 8) sc_with_class_levelled.nd rfl (Or.inl rfl)) pgs_nil)))) (fun _ _ _ _ _ => (pts_one (pt_cmpR op_eq (pe_fld (pv 8) rfl) (pv 2) (nomark _)))) (fun _ _ _ _ _ => (pv 6))) (pss_cons (ps_set (i := 5) sc_with_class_levelled.nd rfl (Or.inl rfl) (pe_callTy call_list_of (by rfl) T.b_list boot_list (pa_cons (pv 1) pa_nil))) (pss_cons (ps_for PassesOwn.never rfl (pi_zip (by rfl) T.b_zip (pa_cons (pv 4) (pa_cons (C8.pe_c c_levelled hr (by decide) (by rfl) (pa_cons (pe_lc (own := [("member", 9)]) (g := (gName 9)) (tt := tYes) rfl sc_with_class_levelled.nd (pi_list (pv 4)) (blkOk_by (N := ["givers", "row", "kind", "limit", "members", "shares", "number", "watts", "giver", "member"]) (sc := C8.fnScope s_with_class_levelled) (by decide +kernel)) (fun _ _ _ _ _ => (pg_name (i := 9) sc_with_class_levelled.nd rfl (Or.inl rfl))) (fun _ _ _ _ _ => pts_nil) (fun _ _ _ _ _ => (pe_ix ix_list (pv 1) (pv 9) (fun _ _ => rfl)))) (pa_cons (pv 3) pa_nil))) pa_nil))) (pg_tup rfl (pgs_cons (pg_name (i := 6) sc_with_class_levelled.nd rfl (Or.inl rfl)) (pgs_cons (pg_name (i := 7) sc_with_class_levelled.nd rfl (Or.inl rfl)) pgs_nil))) (pss_one (ps_asg (pv 7) (pg_sub (pv 5) (pv 6) set_list)))) (pss_one (ps_ret (pv 5))))))
-- fairest: slots 0 givers, 1 able, 2 limits, 3 shares, 4 kind
theorem sc_fairest : FnScope ["givers", "able", "limits", "shares", "kind"] ["givers", "able", "limits"] (C8.fnScope s_fairest) := C8.fnScope_by (by decide +kernel)
def t_fairest (K : PySem.W.Frag) (sp_levelled : Sp) (sp_with_class_levelled : Sp) : TS := (tSeq (tAsg (tCB (rListS K) (tCons (tVar 1) tNil)) (gName 3)) (tSeq (tFor (iRng1 (tCons (tC (.int 8)) tNil)) (gName 4) (tIfS (tTest (tOp rNe (tOp (rIxL K) (tVar 2) (tVar 4)) (tC (.int (-1))))) (tAsg (tCall sp_with_class_levelled [] C8.E0 (tCons (tVar 0) (tCons (tVar 3) (tCons (tVar 4) (tCons (tOp (rIxL K) (tVar 2) (tVar 4)) tNil))))) (gName 3)) tNext)) (tRet (tCall sp_levelled [] C8.E0 (tCons (tVar 3) (tCons (tOp (rIxL K) (tVar 2) (tC (.int 8))) tNil))))))
theorem dv_fairest {f : Addr} {cdv : Value} {A : Around} {outer : List Env} {s : Shared} {H : Hp} {E : XK} (T : Txt K mg) (hr : Room 3 (A.deeper (envOfC "fairest" (C8.fnScope s_fairest) s.heap.objs.size f cdv))) {sp_levelled : Sp} (c_levelled : C8.Cal P w K mg base 2 "levelled" sp_levelled []) {sp_with_class_levelled : Sp} (c_with_class_levelled : C8.Cal P w K mg base 3 "with_class_levelled" sp_with_class_levelled []) :
    PSs (cxOf C8.CX0 P w K mg base ["givers", "able", "limits", "shares", "kind"] "fairest" (C8.fnScope s_fairest) f cdv A outer s H E).nox (C8.fnBody s_fairest) (t_fairest K sp_levelled sp_with_class_levelled) :=
  (pss_cons (ps_set (i := 3) sc_fairest.nd rfl (Or.inl rfl) (pe_callTy call_list_of (by rfl) T.b_list boot_list (pa_cons (pv 1) pa_nil))) (pss_cons (ps_for PassesOwn.never rfl (pi_range1 (by rfl) T.b_range (pa_cons (C8.pe_gc (by rfl) T.c_CLASSES) pa_nil)) (pg_name (i := 4) sc_fairest.nd rfl (Or.inl rfl)) (pss_one (ps_if (pt_cmpR op_ne (pe_ix ix_list (pv 2) (pv 4) (fun _ _ => rfl)) (C8.pe_gc (by rfl) T.c_NO_LIMIT) (nomark _)) (pss_one (ps_set (i := 3) sc_fairest.nd rfl (Or.inl rfl) (C8.pe_c c_with_class_levelled hr (by decide) (by rfl) (pa_cons (pv 0) (pa_cons (pv 3) (pa_cons (pv 4) (pa_cons (pe_ix ix_list (pv 2) (pv 4) (fun _ _ => rfl)) pa_nil))))))) pss_nil))) (pss_one (ps_ret (C8.pe_c c_levelled hr (by decide) (by rfl) (pa_cons (pv 3) (pa_cons (pe_ix ix_list (pv 2) (C8.pe_gc (by rfl) T.c_PLANT) (fun _ _ => rfl)) pa_nil)))))))
-- least_losing: slots 0 givers, 1 able, 2 limits, 3 left, 4 shares, 5 number, 6 kind, 7 share
theorem sc_least_losing : FnScope ["givers", "able", "limits", "left", "shares", "number", "kind", "share"] ["givers", "able", "limits"] (C8.fnScope s_least_losing) := C8.fnScope_by (by decide +kernel)
def t_least_losing (K : PySem.W.Frag) (sp_by_worth : Sp) (sp_under : Sp) : TS := (tSeq (tAsg (tCB (rListS K) (tCons (tVar 2) tNil)) (gName 3)) (tSeq (tAsg (tOp rRep (tLst (tCons (tC (.int 0)) tNil)) (tCB (rLenS K) (tCons (tVar 1) tNil))) (gName 4)) (tSeq (tFor (iList K (tCall sp_by_worth [] C8.E0 (tCons (tVar 0) tNil))) (gName 5) (tSeq (tAsg (tFld K (tOp (rIxL K) (tVar 0) (tVar 5)) "kind") (gName 6)) (tSeq (tAsg (tCB rMin2 (tCons (tCall sp_under [] C8.E0 (tCons (tOp (rIxL K) (tVar 3) (tVar 6)) (tCons (tOp (rIxL K) (tVar 1) (tVar 5)) tNil))) (tCons (tOp (rIxL K) (tVar 3) (tC (.int 8))) tNil))) (gName 7)) (tSeq (tAsg (tVar 7) (gSub (tVar 4) (tVar 5) rSetL)) (tSeq (tAugS (tVar 3) (tC (.int 8)) (tVar 7) (rIxL K) (ipI fun i j => i - j) rSetL) (tIfS (tTest (tOp rNe (tOp (rIxL K) (tVar 3) (tVar 6)) (tC (.int (-1))))) (tAugS (tVar 3) (tVar 6) (tVar 7) (rIxL K) (ipI fun i j => i - j) rSetL) tNext)))))) (tRet (tVar 4)))))
theorem dv_least_losing {f : Addr} {cdv : Value} {A : Around} {outer : List Env} {s : Shared} {H : Hp} {E : XK} (T : Txt K mg) (hr : Room 4 (A.deeper (envOfC "least_losing" (C8.fnScope s_least_losing) s.heap.objs.size f cdv))) {sp_by_worth : Sp} (c_by_worth : C8.Cal P w K mg base 4 "by_worth" sp_by_worth []) {sp_under : Sp} (c_under : C8.Cal P w K mg base 1 "under" sp_under []) :
    PSs (cxOf C8.CX0 P w K mg base ["givers", "able", "limits", "left", "shares", "number", "kind", "share"] "least_losing" (C8.fnScope s_least_losing) f cdv A outer s H E).nox (C8.fnBody s_least_losing) (t_least_losing K sp_by_worth sp_under) :=
  (pss_cons (ps_set (i := 3) sc_least_losing.nd rfl (Or.inl rfl) (pe_callTy call_list_of (by rfl) T.b_list boot_list (pa_cons (pv 2) pa_nil))) (pss_cons (ps_set (i := 4) sc_least_losing.nd rfl (Or.inl rfl) (pe_op op_rep (pe_lst (pa_cons pe_int pa_nil)) (pe_callB call_len_seq (by rfl) T.b_len PySem.boot_len (pa_cons (pv 1) pa_nil)))) (pss_cons (ps_for PassesOwn.never rfl (pi_list (C8.pe_c c_by_worth hr (by decide) (by rfl) (pa_cons (pv 0) pa_nil))) (pg_name (i := 5) sc_least_losing.nd rfl (Or.inl rfl)) (pss_cons (ps_set (i := 6) sc_least_losing.nd rfl (Or.inl rfl) (pe_fld (pe_ix ix_list (pv 0) (pv 5) (fun _ _ => rfl)) rfl)) (pss_cons (ps_set (i := 7) sc_least_losing.nd rfl (Or.inl rfl) (pe_callB (call_min2 rfl) (by rfl) T.b_min boot_min (pa_cons (C8.pe_c c_under hr (by decide) (by rfl) (pa_cons (pe_ix ix_list (pv 3) (pv 6) (fun _ _ => rfl)) (pa_cons (pe_ix ix_list (pv 1) (pv 5) (fun _ _ => rfl)) pa_nil))) (pa_cons (pe_ix ix_list (pv 3) (C8.pe_gc (by rfl) T.c_PLANT) (fun _ _ => rfl)) pa_nil)))) (pss_cons (ps_asg (pv 7) (pg_sub (pv 4) (pv 5) set_list)) (pss_cons (ps_augS (pv 3) (C8.pe_gc (by rfl) T.c_PLANT) get_list (pv 7) ip_sub set_list) (pss_one (ps_if (pt_cmpR op_ne (pe_ix ix_list (pv 3) (pv 6) (fun _ _ => rfl)) (C8.pe_gc (by rfl) T.c_NO_LIMIT) (nomark _)) (pss_one (ps_augS (pv 3) (pv 6) get_list (pv 7) ip_sub set_list)) pss_nil))))))) (pss_one (ps_ret (pv 4))))))
-- shares_by: slots 0 rule, 1 givers, 2 able, 3 limits
theorem sc_shares_by : FnScope ["rule", "givers", "able", "limits"] ["rule", "givers", "able", "limits"] (C8.fnScope s_shares_by) := C8.fnScope_by (by decide +kernel)
def t_shares_by (K : PySem.W.Frag) (sp_fairest : Sp) (sp_least_losing : Sp) : TS := (tSeq (tIfS (tTest (tOp rEq (tVar 0) (tC (.int 0)))) (tRet (tCall sp_fairest [] C8.E0 (tCons (tVar 1) (tCons (tVar 2) (tCons (tVar 3) tNil))))) tNext) (tRet (tCall sp_least_losing [] C8.E0 (tCons (tVar 1) (tCons (tVar 2) (tCons (tVar 3) tNil))))))
theorem dv_shares_by {f : Addr} {cdv : Value} {A : Around} {outer : List Env} {s : Shared} {H : Hp} {E : XK} (T : Txt K mg) (hr : Room 5 (A.deeper (envOfC "shares_by" (C8.fnScope s_shares_by) s.heap.objs.size f cdv))) {sp_fairest : Sp} (c_fairest : C8.Cal P w K mg base 4 "fairest" sp_fairest []) {sp_least_losing : Sp} (c_least_losing : C8.Cal P w K mg base 5 "least_losing" sp_least_losing []) :
    PSs (cxOf C8.CX0 P w K mg base ["rule", "givers", "able", "limits"] "shares_by" (C8.fnScope s_shares_by) f cdv A outer s H E).nox (C8.fnBody s_shares_by) (t_shares_by K sp_fairest sp_least_losing) :=
  (pss_cons (ps_if (pt_cmpR op_eq (pv 0) (C8.pe_gc (by rfl) T.c_FAIREST) (nomark _)) (pss_one (ps_ret (C8.pe_c c_fairest hr (by decide) (by rfl) (pa_cons (pv 1) (pa_cons (pv 2) (pa_cons (pv 3) pa_nil)))))) pss_nil) (pss_one (ps_ret (C8.pe_c c_least_losing hr (by decide) (by rfl) (pa_cons (pv 1) (pa_cons (pv 2) (pa_cons (pv 3) pa_nil)))))))
-- copy_of: slots 0 desk, 1 other
theorem sc_copy_of : FnScope ["desk", "other"] ["desk"] (C8.fnScope s_copy_of) := C8.fnScope_by (by decide +kernel)
def t_copy_of (K : PySem.W.Frag) (C_Desk : Addr) (sp_Desk : Sp) : TS := (tSeq (tAsg (tMake C_Desk sp_Desk [] C8.E0 tNil) (gName 1)) (tSeq (sFld K (tVar 1) (tFld K (tVar 0) "givers") "givers") (tSeq (sFld K (tVar 1) (tFld K (tVar 0) "runs") "runs") (tSeq (sFld K (tVar 1) (tFld K (tVar 0) "waited") "waited") (tSeq (sFld K (tVar 1) (tFld K (tVar 0) "absent") "absent") (tSeq (sFld K (tVar 1) (tFld K (tVar 0) "gave") "gave") (tSeq (sFld K (tVar 1) (tFld K (tVar 0) "gave_ever") "gave_ever") (tSeq (sFld K (tVar 1) (tFld K (tVar 0) "orders") "orders") (tSeq (sFld K (tVar 1) (tFld K (tVar 0) "taken_back") "taken_back") (tSeq (sFld K (tVar 1) (tFld K (tVar 0) "in_force_for") "in_force_for") (tSeq (sFld K (tVar 1) (tFld K (tVar 0) "losses") "losses") (tSeq (sFld K (tVar 1) (tFld K (tVar 0) "up") "up") (tSeq (sFld K (tVar 1) (tFld K (tVar 0) "down") "down") (tSeq (sFld K (tVar 1) (tFld K (tVar 0) "rule") "rule") (tSeq (sFld K (tVar 1) (tFld K (tVar 0) "quarter") "quarter") (tSeq (sFld K (tVar 1) (tFld K (tVar 0) "could_ever") "could_ever") (tRet (tVar 1))))))))))))))))))
theorem dv_copy_of {f : Addr} {cdv : Value} {A : Around} {outer : List Env} {s : Shared} {H : Hp} {E : XK} (T : Txt K mg) (hr : Room 2 (A.deeper (envOfC "copy_of" (C8.fnScope s_copy_of) s.heap.objs.size f cdv))) {C_Desk : Addr} {sp_Desk : Sp} (c_Desk : C8.Mak P w K mg base 1 "Desk" C_Desk sp_Desk []) :
    PSs (cxOf C8.CX0 P w K mg base ["desk", "other"] "copy_of" (C8.fnScope s_copy_of) f cdv A outer s H E).nox (C8.fnBody s_copy_of) (t_copy_of K C_Desk sp_Desk) :=
  (pss_cons (ps_set (i := 1) sc_copy_of.nd rfl (Or.inl rfl) (pe_mk0 c_Desk hr (by decide) (by rfl))) (pss_cons (ps_fld (pv 1) (pe_fld (pv 0) rfl) rfl) (pss_cons (ps_fld (pv 1) (pe_fld (pv 0) rfl) rfl) (pss_cons (ps_fld (pv 1) (pe_fld (pv 0) rfl) rfl) (pss_cons (ps_fld (pv 1) (pe_fld (pv 0) rfl) rfl) (pss_cons (ps_fld (pv 1) (pe_fld (pv 0) rfl) rfl) (pss_cons (ps_fld (pv 1) (pe_fld (pv 0) rfl) rfl) (pss_cons (ps_fld (pv 1) (pe_fld (pv 0) rfl) rfl) (pss_cons (ps_fld (pv 1) (pe_fld (pv 0) rfl) rfl) (pss_cons (ps_fld (pv 1) (pe_fld (pv 0) rfl) rfl) (pss_cons (ps_fld (pv 1) (pe_fld (pv 0) rfl) rfl) (pss_cons (ps_fld (pv 1) (pe_fld (pv 0) rfl) rfl) (pss_cons (ps_fld (pv 1) (pe_fld (pv 0) rfl) rfl) (pss_cons (ps_fld (pv 1) (pe_fld (pv 0) rfl) rfl) (pss_cons (ps_fld (pv 1) (pe_fld (pv 0) rfl) rfl) (pss_cons (ps_fld (pv 1) (pe_fld (pv 0) rfl) rfl) (pss_one (ps_ret (pv 1)))))))))))))))))))
-- with_one: slots 0 row, 1 place, 2 value, 3 changed
theorem sc_with_one : FnScope ["row", "place", "value", "changed"] ["row", "place", "value"] (C8.fnScope s_with_one) := C8.fnScope_by (by decide +kernel)
def t_with_one (K : PySem.W.Frag) : TS := (tSeq (tAsg (tCB (rListS K) (tCons (tVar 0) tNil)) (gName 3)) (tSeq (tAsg (tVar 2) (gSub (tVar 3) (tVar 1) rSetL)) (tRet (tVar 3))))
theorem dv_with_one {f : Addr} {cdv : Value} {A : Around} {outer : List Env} {s : Shared} {H : Hp} {E : XK} (T : Txt K mg) (hr : Room 0 (A.deeper (envOfC "with_one" (C8.fnScope s_with_one) s.heap.objs.size f cdv))) :
    PSs (cxOf C8.CX0 P w K mg base ["row", "place", "value", "changed"] "with_one" (C8.fnScope s_with_one) f cdv A outer s H E).nox (C8.fnBody s_with_one) (t_with_one K) :=
  (pss_cons (ps_set (i := 3) sc_with_one.nd rfl (Or.inl rfl) (pe_callTy call_list_of (by rfl) T.b_list boot_list (pa_cons (pv 0) pa_nil))) (pss_cons (ps_asg (pv 2) (pg_sub (pv 3) (pv 1) set_list)) (pss_one (ps_ret (pv 3)))))
-- in_force: slots 0 desk, 1 number, 2 order
theorem sc_in_force : FnScope ["desk", "number", "order"] ["desk", "number"] (C8.fnScope s_in_force) := C8.fnScope_by (by decide +kernel)
def t_in_force (K : PySem.W.Frag) : TS := (tSeq (tAsg (tOp (rIxL K) (tFld K (tVar 0) "orders") (tVar 1)) (gName 2)) (tRet (tAndV (tOp rEq (tOp (rIxL K) (tFld K (tVar 0) "taken_back") (tVar 1)) (tC (.int (-1)))) (tChain qLe qLt (tFld K (tVar 2) "first") (tFld K (tVar 0) "quarter") (tFld K (tVar 2) "end")))))
theorem dv_in_force {f : Addr} {cdv : Value} {A : Around} {outer : List Env} {s : Shared} {H : Hp} {E : XK} (T : Txt K mg) (hr : Room 0 (A.deeper (envOfC "in_force" (C8.fnScope s_in_force) s.heap.objs.size f cdv))) :
    PSs (cxOf C8.CX0 P w K mg base ["desk", "number", "order"] "in_force" (C8.fnScope s_in_force) f cdv A outer s H E).nox (C8.fnBody s_in_force) (t_in_force K) :=
  (pss_cons (ps_set (i := 2) sc_in_force.nd rfl (Or.inl rfl) (pe_ix ix_list (pe_fld (pv 0) rfl) (pv 1) (fun _ _ => rfl))) (pss_one (ps_ret (pe_and (pe_cmpR op_eq (pe_ix ix_list (pe_fld (pv 0) rfl) (pv 1) (fun _ _ => rfl)) (C8.pe_gc (by rfl) T.c_NOT_BACK) (nomark _)) (pe_one (pe_chain op_le op_lt (pe_fld (pv 2) rfl) (pe_fld (pv 0) rfl) (pe_fld (pv 2) rfl)))))))
-- brought_down: slots 0 desk, 1 gave, 2 lows, 3 number, 4 order
theorem sc_brought_down : FnScope ["desk", "gave", "lows", "number", "order"] ["desk"] (C8.fnScope s_brought_down) := C8.fnScope_by (by decide +kernel)
def t_brought_down (K : PySem.W.Frag) (sp_in_force : Sp) (sp_scope_sums : Sp) : TS := (tSeq (tAsg (tCall sp_scope_sums [] C8.E0 (tCons (tFld K (tVar 0) "givers") (tCons (tFld K (tVar 0) "gave") tNil))) (gName 1)) (tSeq (tAsg (tLst tNil) (gName 2)) (tSeq (tFor (iEnum K (tCons (tFld K (tVar 0) "orders") tNil)) (gTup K 2 (gCons (gName 3) (gCons (gName 4) gNil))) (tIfS (tB (tCall sp_in_force [] C8.E0 (tCons (tVar 0) (tCons (tVar 3) tNil)))) (tDrop (tBM K "list" rAppend (tVar 2) (tCons (tTup (tCons (tVar 3) (tCons (tFld K (tVar 4) "scope") (tCons (tCB rMax2 (tCons (tFld K (tVar 4) "limit") (tCons (tOp qSub (tOp (rIxL K) (tVar 1) (tFld K (tVar 4) "scope")) (tFld K (tVar 0) "down")) tNil))) tNil)))) tNil))) tNext)) (tRet (tVar 2)))))
theorem dv_brought_down {f : Addr} {cdv : Value} {A : Around} {outer : List Env} {s : Shared} {H : Hp} {E : XK} (T : Txt K mg) (hr : Room 2 (A.deeper (envOfC "brought_down" (C8.fnScope s_brought_down) s.heap.objs.size f cdv))) {sp_in_force : Sp} (c_in_force : C8.Cal P w K mg base 1 "in_force" sp_in_force []) {sp_scope_sums : Sp} (c_scope_sums : C8.Cal P w K mg base 2 "scope_sums" sp_scope_sums []) :
    PSs (cxOf C8.CX0 P w K mg base ["desk", "gave", "lows", "number", "order"] "brought_down" (C8.fnScope s_brought_down) f cdv A outer s H E).nox (C8.fnBody s_brought_down) (t_brought_down K sp_in_force sp_scope_sums) :=
  (pss_cons (ps_set (i := 1) sc_brought_down.nd rfl (Or.inl rfl) (C8.pe_c c_scope_sums hr (by decide) (by rfl) (pa_cons (pe_fld (pv 0) rfl) (pa_cons (pe_fld (pv 0) rfl) pa_nil)))) (pss_cons (ps_set (i := 2) sc_brought_down.nd rfl (Or.inl rfl) (pe_lst pa_nil)) (pss_cons (ps_for PassesOwn.never rfl (pi_enum (by rfl) T.b_enumerate (pa_cons (pe_fld (pv 0) rfl) pa_nil)) (pg_tup rfl (pgs_cons (pg_name (i := 3) sc_brought_down.nd rfl (Or.inl rfl)) (pgs_cons (pg_name (i := 4) sc_brought_down.nd rfl (Or.inl rfl)) pgs_nil))) (pss_one (ps_if (pt_val (C8.pe_c c_in_force hr (by decide) (by rfl) (pa_cons (pv 0) (pa_cons (pv 3) pa_nil)))) (pss_one (ps_expr (pe_bm PySem.F.plainAttrs_list PySem.F.slot_list_append PySem.F.type_list_append mt_append (pv 2) (pa_cons (pe_tup (pa_cons (pv 3) (pa_cons (pe_fld (pv 4) rfl) (pa_cons (pe_callB (call_max2 rfl) (by rfl) T.b_max boot_max (pa_cons (pe_fld (pv 4) rfl) (pa_cons (pe_op op_sub (pe_ix ix_list (pv 1) (pe_fld (pv 4) rfl) (fun _ _ => rfl)) (pe_fld (pv 0) rfl)) pa_nil))) pa_nil)))) pa_nil)))) pss_nil))) (pss_one (ps_ret (pv 2))))))
-- limits_without: slots 0 desk, 1 lows, 2 skipped, 3 limits, 4 number, 5 scope, 6 low
theorem sc_limits_without : FnScope ["desk", "lows", "skipped", "limits", "number", "scope", "low"] ["desk", "lows", "skipped"] (C8.fnScope s_limits_without) := C8.fnScope_by (by decide +kernel)
def t_limits_without (K : PySem.W.Frag) : TS := (tSeq (tAsg (tOp rCat (tOp rRep (tLst (tCons (tC (.int (-1))) tNil)) (tC (.int 8))) (tLst (tCons (tOp qAdd (tCB (rSum K) (tCons (tFld K (tVar 0) "gave") tNil)) (tFld K (tVar 0) "up")) tNil))) (gName 3)) (tSeq (tFor (iList K (tVar 1)) (gTup K 3 (gCons (gName 4) (gCons (gName 5) (gCons (gName 6) gNil)))) (tIfS (tAnd (tTest (tOp rNe (tVar 4) (tVar 2))) (tOr (tTest (tOp rEq (tOp (rIxL K) (tVar 3) (tVar 5)) (tC (.int (-1))))) (tTest (tOp qLt (tVar 6) (tOp (rIxL K) (tVar 3) (tVar 5)))))) (tAsg (tVar 6) (gSub (tVar 3) (tVar 5) rSetL)) tNext)) (tRet (tVar 3))))
theorem dv_limits_without {f : Addr} {cdv : Value} {A : Around} {outer : List Env} {s : Shared} {H : Hp} {E : XK} (T : Txt K mg) (hr : Room 0 (A.deeper (envOfC "limits_without" (C8.fnScope s_limits_without) s.heap.objs.size f cdv))) :
    PSs (cxOf C8.CX0 P w K mg base ["desk", "lows", "skipped", "limits", "number", "scope", "low"] "limits_without" (C8.fnScope s_limits_without) f cdv A outer s H E).nox (C8.fnBody s_limits_without) (t_limits_without K) :=
  (pss_cons (ps_set (i := 3) sc_limits_without.nd rfl (Or.inl rfl) (pe_op op_cat (pe_op op_rep (pe_lst (pa_cons (C8.pe_gc (by rfl) T.c_NO_LIMIT) pa_nil)) (C8.pe_gc (by rfl) T.c_CLASSES)) (pe_lst (pa_cons (pe_op op_add (pe_callB (cr_sum rfl) (by rfl) T.b_sum boot_sum (pa_cons (pe_fld (pv 0) rfl) pa_nil)) (pe_fld (pv 0) rfl)) pa_nil)))) (pss_cons (ps_for PassesOwn.never rfl (pi_list (pv 1)) (pg_tup rfl (pgs_cons (pg_name (i := 4) sc_limits_without.nd rfl (Or.inl rfl)) (pgs_cons (pg_name (i := 5) sc_limits_without.nd rfl (Or.inl rfl)) (pgs_cons (pg_name (i := 6) sc_limits_without.nd rfl (Or.inl rfl)) pgs_nil)))) (pss_one (ps_if (PW.pt (pw_and (pt_cmpR op_ne (pv 4) (pv 2) (nomark _)) (pw_and1 (PW.pt (pw_or (pt_cmpR op_eq (pe_ix ix_list (pv 3) (pv 5) (fun _ _ => rfl)) (C8.pe_gc (by rfl) T.c_NO_LIMIT) (nomark _)) (pw_or1 (pt_cmpR op_lt (pv 6) (pe_ix ix_list (pv 3) (pv 5) (fun _ _ => rfl)) (nomark _)))))))) (pss_one (ps_asg (pv 6) (pg_sub (pv 3) (pv 5) set_list))) pss_nil))) (pss_one (ps_ret (pv 3)))))
-- limits_under: slots 0 desk, 1 lows
theorem sc_limits_under : FnScope ["desk", "lows"] ["desk", "lows"] (C8.fnScope s_limits_under) := C8.fnScope_by (by decide +kernel)
def t_limits_under (K : PySem.W.Frag) (sp_limits_without : Sp) : TS := (tRet (tCall sp_limits_without [] C8.E0 (tCons (tVar 0) (tCons (tVar 1) (tCons (tC (.int (-1))) tNil)))))
theorem dv_limits_under {f : Addr} {cdv : Value} {A : Around} {outer : List Env} {s : Shared} {H : Hp} {E : XK} (T : Txt K mg) (hr : Room 1 (A.deeper (envOfC "limits_under" (C8.fnScope s_limits_under) s.heap.objs.size f cdv))) {sp_limits_without : Sp} (c_limits_without : C8.Cal P w K mg base 1 "limits_without" sp_limits_without []) :
    PSs (cxOf C8.CX0 P w K mg base ["desk", "lows"] "limits_under" (C8.fnScope s_limits_under) f cdv A outer s H E).nox (C8.fnBody s_limits_under) (t_limits_under K sp_limits_without) :=
  (pss_one (ps_ret (C8.pe_c c_limits_without hr (by decide) (by rfl) (pa_cons (pv 0) (pa_cons (pv 1) (pa_cons (C8.pe_gc (by rfl) T.c_NO_ORDER) pa_nil))))))
-- limits_now: slots 0 desk
theorem sc_limits_now : FnScope ["desk"] ["desk"] (C8.fnScope s_limits_now) := C8.fnScope_by (by decide +kernel)
def t_limits_now (K : PySem.W.Frag) (sp_brought_down : Sp) (sp_limits_under : Sp) : TS := (tRet (tCall sp_limits_under [] C8.E0 (tCons (tVar 0) (tCons (tCall sp_brought_down [] C8.E0 (tCons (tVar 0) tNil)) tNil))))
theorem dv_limits_now {f : Addr} {cdv : Value} {A : Around} {outer : List Env} {s : Shared} {H : Hp} {E : XK} (T : Txt K mg) (hr : Room 3 (A.deeper (envOfC "limits_now" (C8.fnScope s_limits_now) s.heap.objs.size f cdv))) {sp_brought_down : Sp} (c_brought_down : C8.Cal P w K mg base 3 "brought_down" sp_brought_down []) {sp_limits_under : Sp} (c_limits_under : C8.Cal P w K mg base 2 "limits_under" sp_limits_under []) :
    PSs (cxOf C8.CX0 P w K mg base ["desk"] "limits_now" (C8.fnScope s_limits_now) f cdv A outer s H E).nox (C8.fnBody s_limits_now) (t_limits_now K sp_brought_down sp_limits_under) :=
  (pss_one (ps_ret (C8.pe_c c_limits_under hr (by decide) (by rfl) (pa_cons (pv 0) (pa_cons (C8.pe_c c_brought_down hr (by decide) (by rfl) (pa_cons (pv 0) pa_nil)) pa_nil)))))
-- own_losses: slots 0 desk, 1 lows, 2 able, 3 given, 4 losses, 5 order, 6 number, 7 without
theorem sc_own_losses : FnScope ["desk", "lows", "able", "given", "losses", "order", "number", "without"] ["desk", "lows", "able"] (C8.fnScope s_own_losses) := C8.fnScope_by (by decide +kernel)
def t_own_losses (K : PySem.W.Frag) (sp_given_in_all : Sp) (sp_limits_under : Sp) (sp_limits_without : Sp) : TS := (tSeq (tAsg (tCall sp_given_in_all [] C8.E0 (tCons (tFld K (tVar 0) "givers") (tCons (tVar 2) (tCons (tCall sp_limits_under [] C8.E0 (tCons (tVar 0) (tCons (tVar 1) tNil))) tNil)))) (gName 3)) (tSeq (tAsg (tLst tNil) (gName 4)) (tSeq (tFor (iList K (tVar 1)) (gName 5) (tSeq (tAsg (tOp (rIxT K) (tVar 5) (tC (.int 0))) (gName 6)) (tSeq (tAsg (tCall sp_given_in_all [] C8.E0 (tCons (tFld K (tVar 0) "givers") (tCons (tVar 2) (tCons (tCall sp_limits_without [] C8.E0 (tCons (tVar 0) (tCons (tVar 1) (tCons (tVar 6) tNil)))) tNil)))) (gName 7)) (tDrop (tBM K "list" rAppend (tVar 4) (tCons (tTup (tCons (tVar 6) (tCons (tOp qSub (tVar 7) (tVar 3)) tNil))) tNil)))))) (tRet (tVar 4)))))
theorem dv_own_losses {f : Addr} {cdv : Value} {A : Around} {outer : List Env} {s : Shared} {H : Hp} {E : XK} (T : Txt K mg) (hr : Room 2 (A.deeper (envOfC "own_losses" (C8.fnScope s_own_losses) s.heap.objs.size f cdv))) {sp_given_in_all : Sp} (c_given_in_all : C8.Cal P w K mg base 2 "given_in_all" sp_given_in_all []) {sp_limits_under : Sp} (c_limits_under : C8.Cal P w K mg base 2 "limits_under" sp_limits_under []) {sp_limits_without : Sp} (c_limits_without : C8.Cal P w K mg base 1 "limits_without" sp_limits_without []) :
    PSs (cxOf C8.CX0 P w K mg base ["desk", "lows", "able", "given", "losses", "order", "number", "without"] "own_losses" (C8.fnScope s_own_losses) f cdv A outer s H E).nox (C8.fnBody s_own_losses) (t_own_losses K sp_given_in_all sp_limits_under sp_limits_without) :=
  (pss_cons (ps_set (i := 3) sc_own_losses.nd rfl (Or.inl rfl) (C8.pe_c c_given_in_all hr (by decide) (by rfl) (pa_cons (pe_fld (pv 0) rfl) (pa_cons (pv 2) (pa_cons (C8.pe_c c_limits_under hr (by decide) (by rfl) (pa_cons (pv 0) (pa_cons (pv 1) pa_nil))) pa_nil))))) (pss_cons (ps_set (i := 4) sc_own_losses.nd rfl (Or.inl rfl) (pe_lst pa_nil)) (pss_cons (ps_for PassesOwn.never rfl (pi_list (pv 1)) (pg_name (i := 5) sc_own_losses.nd rfl (Or.inl rfl)) (pss_cons (ps_set (i := 6) sc_own_losses.nd rfl (Or.inl rfl) (pe_ix ix_tup (pv 5) pe_int (fun _ _ => rfl))) (pss_cons (ps_set (i := 7) sc_own_losses.nd rfl (Or.inl rfl) (C8.pe_c c_given_in_all hr (by decide) (by rfl) (pa_cons (pe_fld (pv 0) rfl) (pa_cons (pv 2) (pa_cons (C8.pe_c c_limits_without hr (by decide) (by rfl) (pa_cons (pv 0) (pa_cons (pv 1) (pa_cons (pv 6) pa_nil)))) pa_nil))))) (pss_one (ps_expr (pe_bm PySem.F.plainAttrs_list PySem.F.slot_list_append PySem.F.type_list_append mt_append (pv 4) (pa_cons (pe_tup (pa_cons (pv 6) (pa_cons (pe_op op_sub (pv 7) (pv 3)) pa_nil))) pa_nil))))))) (pss_one (ps_ret (pv 4))))))
-- binding: slots 0 desk, 1 able, 2 number, 3 loss
theorem sc_binding : FnScope ["desk", "able", "number", "loss"] ["desk", "able"] (C8.fnScope s_binding) := C8.fnScope_by (by decide +kernel)
def t_binding (K : PySem.W.Frag) (sp_brought_down : Sp) (sp_own_losses : Sp) : TS := (tRet (tLc (iList K (tCall sp_own_losses [] C8.E0 (tCons (tVar 0) (tCons (tCall sp_brought_down [] C8.E0 (tCons (tVar 0) tNil)) (tCons (tVar 1) tNil))))) (gTup K 2 (gCons (gName 2) (gCons (gName 3) gNil))) (tTest (tOp qGt (tVar 3) (tC (.int 0)))) (tVar 2) [2, 3]))
theorem dv_binding {f : Addr} {cdv : Value} {A : Around} {outer : List Env} {s : Shared} {H : Hp} {E : XK} (T : Txt K mg) (hr : Room 3 (A.deeper (envOfC "binding" (C8.fnScope s_binding) s.heap.objs.size f cdv))) {sp_brought_down : Sp} (c_brought_down : C8.Cal P w K mg base 3 "brought_down" sp_brought_down []) {sp_own_losses : Sp} (c_own_losses : C8.Cal P w K mg base 3 "own_losses" sp_own_losses []) :
    PSs (cxOf C8.CX0 P w K mg base ["desk", "able", "number", "loss"] "binding" (C8.fnScope s_binding) f cdv A outer s H E).nox (C8.fnBody s_binding) (t_binding K sp_brought_down sp_own_losses) :=
  (pss_one (ps_ret (pe_lc (own := [("number", 2), ("loss", 3)]) (g := (gTup K 2 (gCons (gName 2) (gCons (gName 3) gNil)))) (tt := (tTest (tOp qGt (tVar 3) (tC (.int 0))))) rfl sc_binding.nd (pi_list (C8.pe_c c_own_losses hr (by decide) (by rfl) (pa_cons (pv 0) (pa_cons (C8.pe_c c_brought_down hr (by decide) (by rfl) (pa_cons (pv 0) pa_nil)) (pa_cons (pv 1) pa_nil))))) (blkOk_by (N := ["desk", "able", "number", "loss"]) (sc := C8.fnScope s_binding) (by decide +kernel)) (fun _ _ _ _ _ => (pg_tup rfl (pgs_cons (pg_name (i := 2) sc_binding.nd rfl (Or.inl rfl)) (pgs_cons (pg_name (i := 3) sc_binding.nd rfl (Or.inl rfl)) pgs_nil)))) (fun _ _ _ _ _ => (pts_one (pt_cmpR op_gt (pv 3) pe_int (nomark _)))) (fun _ _ _ _ _ => (pv 2)))))
-- clearing: slots 0 desk, 1 able, 2 sums*, 3 number, 4 scope, 5 low
theorem sc_clearing : FnScope ["desk", "able", "sums", "number", "scope", "low"] ["desk", "able"] (C8.fnScope s_clearing) := C8.fnScope_by (by decide +kernel)
def t_clearing (K : PySem.W.Frag) (sp_brought_down : Sp) (sp_scope_sums : Sp) : TS := (tSeq (tAsg (tCall sp_scope_sums [] C8.E0 (tCons (tFld K (tVar 0) "givers") (tCons (tVar 1) tNil))) (gName 2)) (tRet (tLc (iList K (tCall sp_brought_down [] C8.E0 (tCons (tVar 0) tNil))) (gTup K 3 (gCons (gName 3) (gCons (gName 4) (gCons (gName 5) gNil)))) (tTest (tOp qLt (tVar 5) (tOp (rIxL K) (tVar 2) (tVar 4)))) (tVar 3) [3, 4, 5])))
theorem dv_clearing {f : Addr} {cdv : Value} {A : Around} {outer : List Env} {s : Shared} {H : Hp} {E : XK} (T : Txt K mg) (hr : Room 3 (A.deeper (envOfC "clearing" (C8.fnScope s_clearing) s.heap.objs.size f cdv))) {sp_brought_down : Sp} (c_brought_down : C8.Cal P w K mg base 3 "brought_down" sp_brought_down []) {sp_scope_sums : Sp} (c_scope_sums : C8.Cal P w K mg base 2 "scope_sums" sp_scope_sums []) :
    PSs (cxOf C8.CX0 P w K mg base ["desk", "able", "sums", "number", "scope", "low"] "clearing" (C8.fnScope s_clearing) f cdv A outer s H E).nox (C8.fnBody s_clearing) (t_clearing K sp_brought_down sp_scope_sums) :=
  (pss_cons (ps_set (i := 2) sc_clearing.nd rfl (Or.inr rfl) (C8.pe_c c_scope_sums hr (by decide) (by rfl) (pa_cons (pe_fld (pv 0) rfl) (pa_cons (pv 1) pa_nil)))) (pss_one (ps_ret (pe_lc (own := [("number", 3), ("scope", 4), ("low", 5)]) (g := (gTup K 3 (gCons (gName 3) (gCons (gName 4) (gCons (gName 5) gNil))))) (tt := (tTest (tOp qLt (tVar 5) (tOp (rIxL K) (tVar 2) (tVar 4))))) rfl sc_clearing.nd (pi_list (C8.pe_c c_brought_down hr (by decide) (by rfl) (pa_cons (pv 0) pa_nil))) (blkOk_by (N := ["desk", "able", "sums", "number", "scope", "low"]) (sc := C8.fnScope s_clearing) (by decide +kernel)) (fun _ _ _ _ _ => (pg_tup rfl (pgs_cons (pg_name (i := 3) sc_clearing.nd rfl (Or.inl rfl)) (pgs_cons (pg_name (i := 4) sc_clearing.nd rfl (Or.inl rfl)) (pgs_cons (pg_name (i := 5) sc_clearing.nd rfl (Or.inl rfl)) pgs_nil))))) (fun _ _ _ _ _ => (pts_one (pt_cmpR op_lt (pv 5) (pe_ix ix_list (pv 2) (pv 4) (fun _ _ => rfl)) (nomark _)))) (fun _ _ _ _ _ => (pv 3))))))
-- steps: slots 0 desk, 1 coming, 2 taken, 3 number, 4 giver
theorem sc_steps : FnScope ["desk", "coming", "taken", "number", "giver"] ["desk", "coming"] (C8.fnScope s_steps) := C8.fnScope_by (by decide +kernel)
def t_steps (K : PySem.W.Frag) (sp_step : Sp) : TS := (tSeq (tAsg (tLst tNil) (gName 2)) (tSeq (tFor (iEnum K (tCons (tFld K (tVar 0) "givers") tNil)) (gTup K 2 (gCons (gName 3) (gCons (gName 4) gNil))) (tIfS (tB (tOp (rIxL K) (tFld K (tVar 0) "absent") (tVar 3))) (tDrop (tBM K "list" rAppend (tVar 2) (tCons (tTup (tCons (tC (.bl false)) (tCons (tC (.int 0)) tNil))) tNil))) (tDrop (tBM K "list" rAppend (tVar 2) (tCons (tCall sp_step [] C8.E0 (tCons (tVar 4) (tCons (tOp (rIxL K) (tFld K (tVar 0) "runs") (tVar 3)) (tCons (tOp (rIxL K) (tFld K (tVar 0) "waited") (tVar 3)) (tCons (tOp (rIxL K) (tVar 1) (tVar 3)) tNil))))) tNil))))) (tRet (tVar 2))))
theorem dv_steps {f : Addr} {cdv : Value} {A : Around} {outer : List Env} {s : Shared} {H : Hp} {E : XK} (T : Txt K mg) (hr : Room 1 (A.deeper (envOfC "steps" (C8.fnScope s_steps) s.heap.objs.size f cdv))) {sp_step : Sp} (c_step : C8.Cal P w K mg base 1 "step" sp_step []) :
    PSs (cxOf C8.CX0 P w K mg base ["desk", "coming", "taken", "number", "giver"] "steps" (C8.fnScope s_steps) f cdv A outer s H E).nox (C8.fnBody s_steps) (t_steps K sp_step) :=
  (pss_cons (ps_set (i := 2) sc_steps.nd rfl (Or.inl rfl) (pe_lst pa_nil)) (pss_cons (ps_for PassesOwn.never rfl (pi_enum (by rfl) T.b_enumerate (pa_cons (pe_fld (pv 0) rfl) pa_nil)) (pg_tup rfl (pgs_cons (pg_name (i := 3) sc_steps.nd rfl (Or.inl rfl)) (pgs_cons (pg_name (i := 4) sc_steps.nd rfl (Or.inl rfl)) pgs_nil))) (pss_one (ps_if (pt_val (pe_ix ix_list (pe_fld (pv 0) rfl) (pv 3) (fun _ _ => rfl))) (pss_one (ps_expr (pe_bm PySem.F.plainAttrs_list PySem.F.slot_list_append PySem.F.type_list_append mt_append (pv 2) (pa_cons (pe_tup (pa_cons pe_bl (pa_cons pe_int pa_nil))) pa_nil)))) (pss_one (ps_expr (pe_bm PySem.F.plainAttrs_list PySem.F.slot_list_append PySem.F.type_list_append mt_append (pv 2) (pa_cons (C8.pe_c c_step hr (by decide) (by rfl) (pa_cons (pv 4) (pa_cons (pe_ix ix_list (pe_fld (pv 0) rfl) (pv 3) (fun _ _ => rfl)) (pa_cons (pe_ix ix_list (pe_fld (pv 0) rfl) (pv 3) (fun _ _ => rfl)) (pa_cons (pe_ix ix_list (pv 1) (pv 3) (fun _ _ => rfl)) pa_nil))))) pa_nil))))))) (pss_one (ps_ret (pv 2)))))
-- able_after: slots 0 desk, 1 taken, 2 coming, 3 able, 4 number, 5 giver
theorem sc_able_after : FnScope ["desk", "taken", "coming", "able", "number", "giver"] ["desk", "taken", "coming"] (C8.fnScope s_able_after) := C8.fnScope_by (by decide +kernel)
def t_able_after (K : PySem.W.Frag) (sp_could_give : Sp) : TS := (tSeq (tAsg (tLst tNil) (gName 3)) (tSeq (tFor (iEnum K (tCons (tFld K (tVar 0) "givers") tNil)) (gTup K 2 (gCons (gName 4) (gCons (gName 5) gNil))) (tDrop (tBM K "list" rAppend (tVar 3) (tCons (tCall sp_could_give [] C8.E0 (tCons (tVar 5) (tCons (tOp (rIxT K) (tOp (rIxL K) (tVar 1) (tVar 4)) (tC (.int 0))) (tCons (tOp (rIxL K) (tFld K (tVar 0) "gave") (tVar 4)) (tCons (tOp (rIxL K) (tVar 2) (tVar 4)) tNil))))) tNil)))) (tRet (tVar 3))))
theorem dv_able_after {f : Addr} {cdv : Value} {A : Around} {outer : List Env} {s : Shared} {H : Hp} {E : XK} (T : Txt K mg) (hr : Room 4 (A.deeper (envOfC "able_after" (C8.fnScope s_able_after) s.heap.objs.size f cdv))) {sp_could_give : Sp} (c_could_give : C8.Cal P w K mg base 4 "could_give" sp_could_give []) :
    PSs (cxOf C8.CX0 P w K mg base ["desk", "taken", "coming", "able", "number", "giver"] "able_after" (C8.fnScope s_able_after) f cdv A outer s H E).nox (C8.fnBody s_able_after) (t_able_after K sp_could_give) :=
  (pss_cons (ps_set (i := 3) sc_able_after.nd rfl (Or.inl rfl) (pe_lst pa_nil)) (pss_cons (ps_for PassesOwn.never rfl (pi_enum (by rfl) T.b_enumerate (pa_cons (pe_fld (pv 0) rfl) pa_nil)) (pg_tup rfl (pgs_cons (pg_name (i := 4) sc_able_after.nd rfl (Or.inl rfl)) (pgs_cons (pg_name (i := 5) sc_able_after.nd rfl (Or.inl rfl)) pgs_nil))) (pss_one (ps_expr (pe_bm PySem.F.plainAttrs_list PySem.F.slot_list_append PySem.F.type_list_append mt_append (pv 3) (pa_cons (C8.pe_c c_could_give hr (by decide) (by rfl) (pa_cons (pv 5) (pa_cons (pe_ix ix_tup (pe_ix ix_list (pv 1) (pv 4) (fun _ _ => rfl)) pe_int (fun _ _ => rfl)) (pa_cons (pe_ix ix_list (pe_fld (pv 0) rfl) (pv 4) (fun _ _ => rfl)) (pa_cons (pe_ix ix_list (pv 2) (pv 4) (fun _ _ => rfl)) pa_nil))))) pa_nil))))) (pss_one (ps_ret (pv 3)))))
-- able_next: slots 0 desk, 1 coming
theorem sc_able_next : FnScope ["desk", "coming"] ["desk", "coming"] (C8.fnScope s_able_next) := C8.fnScope_by (by decide +kernel)
def t_able_next (K : PySem.W.Frag) (sp_able_after : Sp) (sp_steps : Sp) : TS := (tRet (tCall sp_able_after [] C8.E0 (tCons (tVar 0) (tCons (tCall sp_steps [] C8.E0 (tCons (tVar 0) (tCons (tVar 1) tNil))) (tCons (tVar 1) tNil)))))
theorem dv_able_next {f : Addr} {cdv : Value} {A : Around} {outer : List Env} {s : Shared} {H : Hp} {E : XK} (T : Txt K mg) (hr : Room 5 (A.deeper (envOfC "able_next" (C8.fnScope s_able_next) s.heap.objs.size f cdv))) {sp_able_after : Sp} (c_able_after : C8.Cal P w K mg base 5 "able_after" sp_able_after []) {sp_steps : Sp} (c_steps : C8.Cal P w K mg base 2 "steps" sp_steps []) :
    PSs (cxOf C8.CX0 P w K mg base ["desk", "coming"] "able_next" (C8.fnScope s_able_next) f cdv A outer s H E).nox (C8.fnBody s_able_next) (t_able_next K sp_able_after sp_steps) :=
  (pss_one (ps_ret (C8.pe_c c_able_after hr (by decide) (by rfl) (pa_cons (pv 0) (pa_cons (C8.pe_c c_steps hr (by decide) (by rfl) (pa_cons (pv 0) (pa_cons (pv 1) pa_nil))) (pa_cons (pv 1) pa_nil))))))
-- count_orders: slots 0 desk, 1 losses, 2 in_force_for, 3 added, 4 number, 5 loss
theorem sc_count_orders : FnScope ["desk", "losses", "in_force_for", "added", "number", "loss"] ["desk", "losses"] (C8.fnScope s_count_orders) := C8.fnScope_by (by decide +kernel)
def t_count_orders (K : PySem.W.Frag) : TS := (tSeq (tAsg (tCB (rListS K) (tCons (tFld K (tVar 0) "in_force_for") tNil)) (gName 2)) (tSeq (tAsg (tCB (rListS K) (tCons (tFld K (tVar 0) "losses") tNil)) (gName 3)) (tSeq (tFor (iList K (tVar 1)) (gTup K 2 (gCons (gName 4) (gCons (gName 5) gNil))) (tSeq (tAugS (tVar 2) (tVar 4) (tC (.int 1)) (rIxL K) (ipI fun i j => i + j) rSetL) (tAugS (tVar 3) (tVar 4) (tVar 5) (rIxL K) (ipI fun i j => i + j) rSetL))) (tSeq (sFld K (tVar 0) (tVar 2) "in_force_for") (sFld K (tVar 0) (tVar 3) "losses")))))
theorem dv_count_orders {f : Addr} {cdv : Value} {A : Around} {outer : List Env} {s : Shared} {H : Hp} {E : XK} (T : Txt K mg) (hr : Room 0 (A.deeper (envOfC "count_orders" (C8.fnScope s_count_orders) s.heap.objs.size f cdv))) :
    PSs (cxOf C8.CX0 P w K mg base ["desk", "losses", "in_force_for", "added", "number", "loss"] "count_orders" (C8.fnScope s_count_orders) f cdv A outer s H E).nox (C8.fnBody s_count_orders) (t_count_orders K) :=
  (pss_cons (ps_set (i := 2) sc_count_orders.nd rfl (Or.inl rfl) (pe_callTy call_list_of (by rfl) T.b_list boot_list (pa_cons (pe_fld (pv 0) rfl) pa_nil))) (pss_cons (ps_set (i := 3) sc_count_orders.nd rfl (Or.inl rfl) (pe_callTy call_list_of (by rfl) T.b_list boot_list (pa_cons (pe_fld (pv 0) rfl) pa_nil))) (pss_cons (ps_for PassesOwn.never rfl (pi_list (pv 1)) (pg_tup rfl (pgs_cons (pg_name (i := 4) sc_count_orders.nd rfl (Or.inl rfl)) (pgs_cons (pg_name (i := 5) sc_count_orders.nd rfl (Or.inl rfl)) pgs_nil))) (pss_cons (ps_augS (pv 2) (pv 4) get_list pe_int ip_add set_list) (pss_one (ps_augS (pv 3) (pv 4) get_list (pv 5) ip_add set_list)))) (pss_cons (ps_fld (pv 0) (pv 2) rfl) (pss_one (ps_fld (pv 0) (pv 3) rfl))))))
-- go_through: slots 0 desk, 1 coming, 2 taken, 3 able, 4 lows, 5 shares, 6 pair, 7 before, 8 share
theorem sc_go_through : FnScope ["desk", "coming", "taken", "able", "lows", "shares", "pair", "before", "share"] ["desk", "coming"] (C8.fnScope s_go_through) := C8.fnScope_by (by decide +kernel)
def t_go_through (K : PySem.W.Frag) (sp_able_after : Sp) (sp_brought_down : Sp) (sp_count_orders : Sp) (sp_limits_under : Sp) (sp_own_losses : Sp) (sp_shares_by : Sp) (sp_steps : Sp) : TS := (tSeq (tAsg (tCall sp_steps [] C8.E0 (tCons (tVar 0) (tCons (tVar 1) tNil))) (gName 2)) (tSeq (tAsg (tCall sp_able_after [] C8.E0 (tCons (tVar 0) (tCons (tVar 2) (tCons (tVar 1) tNil)))) (gName 3)) (tSeq (tAsg (tCall sp_brought_down [] C8.E0 (tCons (tVar 0) tNil)) (gName 4)) (tSeq (tAsg (tCall sp_shares_by [] C8.E0 (tCons (tFld K (tVar 0) "rule") (tCons (tFld K (tVar 0) "givers") (tCons (tVar 3) (tCons (tCall sp_limits_under [] C8.E0 (tCons (tVar 0) (tCons (tVar 4) tNil))) tNil))))) (gName 5)) (tSeq (tDrop (tCall sp_count_orders [] C8.E0 (tCons (tVar 0) (tCons (tCall sp_own_losses [] C8.E0 (tCons (tVar 0) (tCons (tVar 4) (tCons (tVar 3) tNil)))) tNil)))) (tSeq (sFld K (tVar 0) (tLc (iList K (tVar 2)) (gName 6) tYes (tOp (rIxT K) (tVar 6) (tC (.int 0))) [6]) "runs") (tSeq (sFld K (tVar 0) (tLc (iList K (tVar 2)) (gName 6) tYes (tOp (rIxT K) (tVar 6) (tC (.int 1))) [6]) "waited") (tSeq (sFld K (tVar 0) (tVar 5) "gave") (tSeq (sFld K (tVar 0) (tLc (iZip K (tCons (tFld K (tVar 0) "gave_ever") (tCons (tVar 5) tNil))) (gTup K 2 (gCons (gName 7) (gCons (gName 8) gNil))) tYes (tOp qAdd (tVar 7) (tVar 8)) [7, 8]) "gave_ever") (tSeq (sFldAug K (tVar 0) (tCB (rSum K) (tCons (tVar 3) tNil)) rAdd "could_ever") (tSeq (sFldAug K (tVar 0) (tC (.int 1)) rAdd "quarter") (tRet (tCB (rListS K) (tCons (tVar 5) tNil))))))))))))))
theorem dv_go_through {f : Addr} {cdv : Value} {A : Around} {outer : List Env} {s : Shared} {H : Hp} {E : XK} (T : Txt K mg) (hr : Room 6 (A.deeper (envOfC "go_through" (C8.fnScope s_go_through) s.heap.objs.size f cdv))) {sp_able_after : Sp} (c_able_after : C8.Cal P w K mg base 5 "able_after" sp_able_after []) {sp_brought_down : Sp} (c_brought_down : C8.Cal P w K mg base 3 "brought_down" sp_brought_down []) {sp_count_orders : Sp} (c_count_orders : C8.Cal P w K mg base 1 "count_orders" sp_count_orders []) {sp_limits_under : Sp} (c_limits_under : C8.Cal P w K mg base 2 "limits_under" sp_limits_under []) {sp_own_losses : Sp} (c_own_losses : C8.Cal P w K mg base 3 "own_losses" sp_own_losses []) {sp_shares_by : Sp} (c_shares_by : C8.Cal P w K mg base 6 "shares_by" sp_shares_by []) {sp_steps : Sp} (c_steps : C8.Cal P w K mg base 2 "steps" sp_steps []) :
    PSs (cxOf C8.CX0 P w K mg base ["desk", "coming", "taken", "able", "lows", "shares", "pair", "before", "share"] "go_through" (C8.fnScope s_go_through) f cdv A outer s H E).nox (C8.fnBody s_go_through) (t_go_through K sp_able_after sp_brought_down sp_count_orders sp_limits_under sp_own_losses sp_shares_by sp_steps) :=
  (pss_cons (ps_set (i := 2) sc_go_through.nd rfl (Or.inl rfl) (C8.pe_c c_steps hr (by decide) (by rfl) (pa_cons (pv 0) (pa_cons (pv 1) pa_nil)))) (pss_cons (ps_set (i := 3) sc_go_through.nd rfl (Or.inl rfl) (C8.pe_c c_able_after hr (by decide) (by rfl) (pa_cons (pv 0) (pa_cons (pv 2) (pa_cons (pv 1) pa_nil))))) (pss_cons (ps_set (i := 4) sc_go_through.nd rfl (Or.inl rfl) (C8.pe_c c_brought_down hr (by decide) (by rfl) (pa_cons (pv 0) pa_nil))) (pss_cons (ps_set (i := 5) sc_go_through.nd rfl (Or.inl rfl) (C8.pe_c c_shares_by hr (by decide) (by rfl) (pa_cons (pe_fld (pv 0) rfl) (pa_cons (pe_fld (pv 0) rfl) (pa_cons (pv 3) (pa_cons (C8.pe_c c_limits_under hr (by decide) (by rfl) (pa_cons (pv 0) (pa_cons (pv 4) pa_nil))) pa_nil)))))) (pss_cons (ps_expr (C8.pe_c c_count_orders hr (by decide) (by rfl) (pa_cons (pv 0) (pa_cons (C8.pe_c c_own_losses hr (by decide) (by rfl) (pa_cons (pv 0) (pa_cons (pv 4) (pa_cons (pv 3) pa_nil)))) pa_nil)))) (pss_cons (ps_fld (pv 0) (pe_lc (own := [("pair", 6)]) (g := (gName 6)) (tt := tYes) rfl sc_go_through.nd (pi_list (pv 2)) (blkOk_by (N := ["desk", "coming", "taken", "able", "lows", "shares", "pair", "before", "share"]) (sc := C8.fnScope s_go_through) (by decide +kernel)) (fun _ _ _ _ _ => (pg_name (i := 6) sc_go_through.nd rfl (Or.inl rfl))) (fun _ _ _ _ _ => pts_nil) (fun _ _ _ _ _ => (pe_ix ix_tup (pv 6) pe_int (fun _ _ => rfl)))) rfl) (pss_cons (ps_fld (pv 0) (pe_lc (own := [("pair", 6)]) (g := (gName 6)) (tt := tYes) rfl sc_go_through.nd (pi_list (pv 2)) (blkOk_by (N := ["desk", "coming", "taken", "able", "lows", "shares", "pair", "before", "share"]) (sc := C8.fnScope s_go_through) (by decide +kernel)) (fun _ _ _ _ _ => (pg_name (i := 6) sc_go_through.nd rfl (Or.inl rfl))) (fun _ _ _ _ _ => pts_nil) (fun _ _ _ _ _ => (pe_ix ix_tup (pv 6) pe_int (fun _ _ => rfl)))) rfl) (pss_cons (ps_fld (pv 0) (pv 5) rfl) (pss_cons (ps_fld (pv 0) (pe_lc (own := [("before", 7), ("share", 8)]) (g := (gTup K 2 (gCons (gName 7) (gCons (gName 8) gNil)))) (tt := tYes) rfl sc_go_through.nd (pi_zip (by rfl) T.b_zip (pa_cons (pe_fld (pv 0) rfl) (pa_cons (pv 5) pa_nil))) (blkOk_by (N := ["desk", "coming", "taken", "able", "lows", "shares", "pair", "before", "share"]) (sc := C8.fnScope s_go_through) (by decide +kernel)) (fun _ _ _ _ _ => (pg_tup rfl (pgs_cons (pg_name (i := 7) sc_go_through.nd rfl (Or.inl rfl)) (pgs_cons (pg_name (i := 8) sc_go_through.nd rfl (Or.inl rfl)) pgs_nil)))) (fun _ _ _ _ _ => pts_nil) (fun _ _ _ _ _ => (pe_op op_add (pv 7) (pv 8)))) rfl) (pss_cons (ps_fldaug (pv 0) (pe_callB (cr_sum rfl) (by rfl) T.b_sum boot_sum (pa_cons (pv 3) pa_nil)) in_add) (pss_cons (ps_fldaug (pv 0) pe_int in_add) (pss_one (ps_ret (pe_callTy call_list_of (by rfl) T.b_list boot_list (pa_cons (pv 5) pa_nil)))))))))))))))
-- tell_giver: slots 0 desk, 1 numbers, 2 table, 3 kind, 4 most, 5 start, 6 stop, 7 wait, 8 up, 9 worth
theorem sc_tell_giver : FnScope ["desk", "numbers", "table", "kind", "most", "start", "stop", "wait", "up", "worth"] ["desk", "numbers", "table"] (C8.fnScope s_tell_giver) := C8.fnScope_by (by decide +kernel)
def t_tell_giver (K : PySem.W.Frag) (C_Giver : Addr) (sp_Giver : Sp) (sp_is_giver : Sp) (sp_is_table : Sp) : TS := (tSeq (tAsg (tOp (rIxL K) (tVar 1) (tC (.int 0))) (gName 3)) (tSeq (tAsg (tOp (rIxL K) (tVar 1) (tC (.int 1))) (gName 4)) (tSeq (tAsg (tOp (rIxL K) (tVar 1) (tC (.int 2))) (gName 5)) (tSeq (tAsg (tOp (rIxL K) (tVar 1) (tC (.int 3))) (gName 6)) (tSeq (tAsg (tOp (rIxL K) (tVar 1) (tC (.int 4))) (gName 7)) (tSeq (tAsg (tOp (rIxL K) (tVar 1) (tC (.int 5))) (gName 8)) (tSeq (tAsg (tOp (rIxL K) (tVar 1) (tC (.int 6))) (gName 9)) (tSeq (tIfS (tNot (tB (tCall sp_is_giver [] C8.E0 (tCons (tVar 3) (tCons (tVar 4) (tCons (tVar 5) (tCons (tVar 6) (tCons (tVar 7) (tCons (tVar 8) (tCons (tVar 9) tNil)))))))))) (tRet (tLst (tCons (tUn (rU fun i => .int (-i)) (tC (.int 1))) tNil))) tNext) (tSeq (tIfS (tNot (tB (tCall sp_is_table [] C8.E0 (tCons (tVar 2) tNil)))) (tRet (tLst (tCons (tUn (rU fun i => .int (-i)) (tC (.int 2))) tNil))) tNext) (tSeq (tIfS (tTest (tOp rEq (tCB (rLenS K) (tCons (tFld K (tVar 0) "givers") tNil)) (tC (.int 24)))) (tRet (tLst (tCons (tUn (rU fun i => .int (-i)) (tC (.int 3))) tNil))) tNext) (tSeq (sFld K (tVar 0) (tOp rCat (tFld K (tVar 0) "givers") (tLst (tCons (tMake C_Giver sp_Giver [] C8.E0 (tCons (tVar 3) (tCons (tVar 4) (tCons (tVar 5) (tCons (tVar 6) (tCons (tVar 7) (tCons (tVar 8) (tCons (tVar 9) (tCons (tVar 2) tNil))))))))) tNil))) "givers") (tSeq (sFld K (tVar 0) (tOp rCat (tFld K (tVar 0) "runs") (tLst (tCons (tC (.bl false)) tNil))) "runs") (tSeq (sFld K (tVar 0) (tOp rCat (tFld K (tVar 0) "waited") (tLst (tCons (tC (.int 0)) tNil))) "waited") (tSeq (sFld K (tVar 0) (tOp rCat (tFld K (tVar 0) "absent") (tLst (tCons (tC (.bl false)) tNil))) "absent") (tSeq (sFld K (tVar 0) (tOp rCat (tFld K (tVar 0) "gave") (tLst (tCons (tC (.int 0)) tNil))) "gave") (tSeq (sFld K (tVar 0) (tOp rCat (tFld K (tVar 0) "gave_ever") (tLst (tCons (tC (.int 0)) tNil))) "gave_ever") (tRet (tLst (tCons (tOp qSub (tCB (rLenS K) (tCons (tFld K (tVar 0) "givers") tNil)) (tC (.int 1))) tNil)))))))))))))))))))
theorem dv_tell_giver {f : Addr} {cdv : Value} {A : Around} {outer : List Env} {s : Shared} {H : Hp} {E : XK} (T : Txt K mg) (hr : Room 2 (A.deeper (envOfC "tell_giver" (C8.fnScope s_tell_giver) s.heap.objs.size f cdv))) {C_Giver : Addr} {sp_Giver : Sp} (c_Giver : C8.Mak P w K mg base 1 "Giver" C_Giver sp_Giver []) {sp_is_giver : Sp} (c_is_giver : C8.Cal P w K mg base 1 "is_giver" sp_is_giver []) {sp_is_table : Sp} (c_is_table : C8.Cal P w K mg base 1 "is_table" sp_is_table []) :
    PSs (cxOf C8.CX0 P w K mg base ["desk", "numbers", "table", "kind", "most", "start", "stop", "wait", "up", "worth"] "tell_giver" (C8.fnScope s_tell_giver) f cdv A outer s H E).nox (C8.fnBody s_tell_giver) (t_tell_giver K C_Giver sp_Giver sp_is_giver sp_is_table) :=
  (pss_cons (ps_set (i := 3) sc_tell_giver.nd rfl (Or.inl rfl) (pe_ix ix_list (pv 1) pe_int (fun _ _ => rfl))) (pss_cons (ps_set (i := 4) sc_tell_giver.nd rfl (Or.inl rfl) (pe_ix ix_list (pv 1) pe_int (fun _ _ => rfl))) (pss_cons (ps_set (i := 5) sc_tell_giver.nd rfl (Or.inl rfl) (pe_ix ix_list (pv 1) pe_int (fun _ _ => rfl))) (pss_cons (ps_set (i := 6) sc_tell_giver.nd rfl (Or.inl rfl) (pe_ix ix_list (pv 1) pe_int (fun _ _ => rfl))) (pss_cons (ps_set (i := 7) sc_tell_giver.nd rfl (Or.inl rfl) (pe_ix ix_list (pv 1) pe_int (fun _ _ => rfl))) (pss_cons (ps_set (i := 8) sc_tell_giver.nd rfl (Or.inl rfl) (pe_ix ix_list (pv 1) pe_int (fun _ _ => rfl))) (pss_cons (ps_set (i := 9) sc_tell_giver.nd rfl (Or.inl rfl) (pe_ix ix_list (pv 1) pe_int (fun _ _ => rfl))) (pss_cons (ps_if (pt_not (pt_val (C8.pe_c c_is_giver hr (by decide) (by rfl) (pa_cons (pv 3) (pa_cons (pv 4) (pa_cons (pv 5) (pa_cons (pv 6) (pa_cons (pv 7) (pa_cons (pv 8) (pa_cons (pv 9) pa_nil)))))))))) (pss_one (ps_ret (pe_lst (pa_cons (pe_un un_neg pe_int) pa_nil)))) pss_nil) (pss_cons (ps_if (pt_not (pt_val (C8.pe_c c_is_table hr (by decide) (by rfl) (pa_cons (pv 2) pa_nil)))) (pss_one (ps_ret (pe_lst (pa_cons (pe_un un_neg pe_int) pa_nil)))) pss_nil) (pss_cons (ps_if (pt_cmpR op_eq (pe_callB call_len_seq (by rfl) T.b_len PySem.boot_len (pa_cons (pe_fld (pv 0) rfl) pa_nil)) (C8.pe_gc (by rfl) T.c_MOST_GIVERS) (nomark _)) (pss_one (ps_ret (pe_lst (pa_cons (pe_un un_neg pe_int) pa_nil)))) pss_nil) (pss_cons (ps_fld (pv 0) (pe_op op_cat (pe_fld (pv 0) rfl) (pe_lst (pa_cons (C8.pe_mk c_Giver hr (by decide) (by rfl) (pa_cons (pv 3) (pa_cons (pv 4) (pa_cons (pv 5) (pa_cons (pv 6) (pa_cons (pv 7) (pa_cons (pv 8) (pa_cons (pv 9) (pa_cons (pv 2) pa_nil))))))))) pa_nil))) rfl) (pss_cons (ps_fld (pv 0) (pe_op op_cat (pe_fld (pv 0) rfl) (pe_lst (pa_cons pe_bl pa_nil))) rfl) (pss_cons (ps_fld (pv 0) (pe_op op_cat (pe_fld (pv 0) rfl) (pe_lst (pa_cons pe_int pa_nil))) rfl) (pss_cons (ps_fld (pv 0) (pe_op op_cat (pe_fld (pv 0) rfl) (pe_lst (pa_cons pe_bl pa_nil))) rfl) (pss_cons (ps_fld (pv 0) (pe_op op_cat (pe_fld (pv 0) rfl) (pe_lst (pa_cons pe_int pa_nil))) rfl) (pss_cons (ps_fld (pv 0) (pe_op op_cat (pe_fld (pv 0) rfl) (pe_lst (pa_cons pe_int pa_nil))) rfl) (pss_one (ps_ret (pe_lst (pa_cons (pe_op op_sub (pe_callB call_len_seq (by rfl) T.b_len PySem.boot_len (pa_cons (pe_fld (pv 0) rfl) pa_nil)) pe_int) pa_nil))))))))))))))))))))
-- tell_away: slots 0 desk, 1 number, 2 away
theorem sc_tell_away : FnScope ["desk", "number", "away"] ["desk", "number", "away"] (C8.fnScope s_tell_away) := C8.fnScope_by (by decide +kernel)
def t_tell_away (K : PySem.W.Frag) (sp_with_one : Sp) : TS := (tSeq (tIfS (tTest (tOp qGt (tVar 2) (tC (.int 1)))) (tRet (tLst (tCons (tUn (rU fun i => .int (-i)) (tC (.int 1))) tNil))) tNext) (tSeq (tIfS (tTest (tOp qGe (tVar 1) (tCB (rLenS K) (tCons (tFld K (tVar 0) "givers") tNil)))) (tRet (tLst (tCons (tUn (rU fun i => .int (-i)) (tC (.int 2))) tNil))) tNext) (tSeq (sFld K (tVar 0) (tCall sp_with_one [] C8.E0 (tCons (tFld K (tVar 0) "absent") (tCons (tVar 1) (tCons (tOp rEq (tVar 2) (tC (.int 1))) tNil)))) "absent") (tSeq (tIfS (tTest (tOp rEq (tVar 2) (tC (.int 1)))) (tSeq (sFld K (tVar 0) (tCall sp_with_one [] C8.E0 (tCons (tFld K (tVar 0) "runs") (tCons (tVar 1) (tCons (tC (.bl false)) tNil)))) "runs") (sFld K (tVar 0) (tCall sp_with_one [] C8.E0 (tCons (tFld K (tVar 0) "waited") (tCons (tVar 1) (tCons (tC (.int 0)) tNil)))) "waited")) tNext) (tRet (tLst (tCons (tC (.int 0)) tNil)))))))
theorem dv_tell_away {f : Addr} {cdv : Value} {A : Around} {outer : List Env} {s : Shared} {H : Hp} {E : XK} (T : Txt K mg) (hr : Room 1 (A.deeper (envOfC "tell_away" (C8.fnScope s_tell_away) s.heap.objs.size f cdv))) {sp_with_one : Sp} (c_with_one : C8.Cal P w K mg base 1 "with_one" sp_with_one []) :
    PSs (cxOf C8.CX0 P w K mg base ["desk", "number", "away"] "tell_away" (C8.fnScope s_tell_away) f cdv A outer s H E).nox (C8.fnBody s_tell_away) (t_tell_away K sp_with_one) :=
  (pss_cons (ps_if (pt_cmpR op_gt (pv 2) pe_int (nomark _)) (pss_one (ps_ret (pe_lst (pa_cons (pe_un un_neg pe_int) pa_nil)))) pss_nil) (pss_cons (ps_if (pt_cmpR op_ge (pv 1) (pe_callB call_len_seq (by rfl) T.b_len PySem.boot_len (pa_cons (pe_fld (pv 0) rfl) pa_nil)) (nomark _)) (pss_one (ps_ret (pe_lst (pa_cons (pe_un un_neg pe_int) pa_nil)))) pss_nil) (pss_cons (ps_fld (pv 0) (C8.pe_c c_with_one hr (by decide) (by rfl) (pa_cons (pe_fld (pv 0) rfl) (pa_cons (pv 1) (pa_cons (pe_cmpR op_eq (pv 2) pe_int (nomark _)) pa_nil)))) rfl) (pss_cons (ps_if (pt_cmpR op_eq (pv 2) pe_int (nomark _)) (pss_cons (ps_fld (pv 0) (C8.pe_c c_with_one hr (by decide) (by rfl) (pa_cons (pe_fld (pv 0) rfl) (pa_cons (pv 1) (pa_cons pe_bl pa_nil)))) rfl) (pss_one (ps_fld (pv 0) (C8.pe_c c_with_one hr (by decide) (by rfl) (pa_cons (pe_fld (pv 0) rfl) (pa_cons (pv 1) (pa_cons pe_int pa_nil)))) rfl))) pss_nil) (pss_one (ps_ret (pe_lst (pa_cons pe_int pa_nil))))))))
-- tell_ramps: slots 0 desk, 1 up, 2 down
theorem sc_tell_ramps : FnScope ["desk", "up", "down"] ["desk", "up", "down"] (C8.fnScope s_tell_ramps) := C8.fnScope_by (by decide +kernel)
def t_tell_ramps (K : PySem.W.Frag) : TS := (tSeq (sFld K (tVar 0) (tVar 1) "up") (tSeq (sFld K (tVar 0) (tVar 2) "down") (tRet (tLst (tCons (tC (.int 0)) tNil)))))
theorem dv_tell_ramps {f : Addr} {cdv : Value} {A : Around} {outer : List Env} {s : Shared} {H : Hp} {E : XK} (T : Txt K mg) (hr : Room 0 (A.deeper (envOfC "tell_ramps" (C8.fnScope s_tell_ramps) s.heap.objs.size f cdv))) :
    PSs (cxOf C8.CX0 P w K mg base ["desk", "up", "down"] "tell_ramps" (C8.fnScope s_tell_ramps) f cdv A outer s H E).nox (C8.fnBody s_tell_ramps) (t_tell_ramps K) :=
  (pss_cons (ps_fld (pv 0) (pv 1) rfl) (pss_cons (ps_fld (pv 0) (pv 2) rfl) (pss_one (ps_ret (pe_lst (pa_cons pe_int pa_nil))))))
-- tell_rule: slots 0 desk, 1 rule
theorem sc_tell_rule : FnScope ["desk", "rule"] ["desk", "rule"] (C8.fnScope s_tell_rule) := C8.fnScope_by (by decide +kernel)
def t_tell_rule (K : PySem.W.Frag) : TS := (tSeq (tIfS (tTest (tOp qGt (tVar 1) (tC (.int 1)))) (tRet (tLst (tCons (tUn (rU fun i => .int (-i)) (tC (.int 1))) tNil))) tNext) (tSeq (sFld K (tVar 0) (tVar 1) "rule") (tRet (tLst (tCons (tC (.int 0)) tNil)))))
theorem dv_tell_rule {f : Addr} {cdv : Value} {A : Around} {outer : List Env} {s : Shared} {H : Hp} {E : XK} (T : Txt K mg) (hr : Room 0 (A.deeper (envOfC "tell_rule" (C8.fnScope s_tell_rule) s.heap.objs.size f cdv))) :
    PSs (cxOf C8.CX0 P w K mg base ["desk", "rule"] "tell_rule" (C8.fnScope s_tell_rule) f cdv A outer s H E).nox (C8.fnBody s_tell_rule) (t_tell_rule K) :=
  (pss_cons (ps_if (pt_cmpR op_gt (pv 1) (C8.pe_gc (by rfl) T.c_MOST_RULE) (nomark _)) (pss_one (ps_ret (pe_lst (pa_cons (pe_un un_neg pe_int) pa_nil)))) pss_nil) (pss_cons (ps_fld (pv 0) (pv 1) rfl) (pss_one (ps_ret (pe_lst (pa_cons pe_int pa_nil))))))
-- tell_order: slots 0 desk, 1 scope, 2 first, 3 end, 4 limit
theorem sc_tell_order : FnScope ["desk", "scope", "first", "end", "limit"] ["desk", "scope", "first", "end", "limit"] (C8.fnScope s_tell_order) := C8.fnScope_by (by decide +kernel)
def t_tell_order (K : PySem.W.Frag) (C_Order : Addr) (sp_Order : Sp) : TS := (tSeq (tIfS (tOr (tTest (tOp qGt (tVar 1) (tC (.int 8)))) (tTest (tOp qLe (tVar 3) (tVar 2)))) (tRet (tLst (tCons (tUn (rU fun i => .int (-i)) (tC (.int 1))) tNil))) tNext) (tSeq (tIfS (tTest (tOp qLe (tVar 3) (tFld K (tVar 0) "quarter"))) (tRet (tLst (tCons (tUn (rU fun i => .int (-i)) (tC (.int 2))) tNil))) tNext) (tSeq (tIfS (tTest (tOp rEq (tCB (rLenS K) (tCons (tFld K (tVar 0) "orders") tNil)) (tC (.int 32)))) (tRet (tLst (tCons (tUn (rU fun i => .int (-i)) (tC (.int 3))) tNil))) tNext) (tSeq (sFld K (tVar 0) (tOp rCat (tFld K (tVar 0) "orders") (tLst (tCons (tMake C_Order sp_Order [] C8.E0 (tCons (tVar 1) (tCons (tVar 2) (tCons (tVar 3) (tCons (tVar 4) (tCons (tFld K (tVar 0) "quarter") tNil)))))) tNil))) "orders") (tSeq (sFld K (tVar 0) (tOp rCat (tFld K (tVar 0) "taken_back") (tLst (tCons (tC (.int (-1))) tNil))) "taken_back") (tSeq (sFld K (tVar 0) (tOp rCat (tFld K (tVar 0) "in_force_for") (tLst (tCons (tC (.int 0)) tNil))) "in_force_for") (tSeq (sFld K (tVar 0) (tOp rCat (tFld K (tVar 0) "losses") (tLst (tCons (tC (.int 0)) tNil))) "losses") (tRet (tLst (tCons (tOp qSub (tCB (rLenS K) (tCons (tFld K (tVar 0) "orders") tNil)) (tC (.int 1))) tNil))))))))))
theorem dv_tell_order {f : Addr} {cdv : Value} {A : Around} {outer : List Env} {s : Shared} {H : Hp} {E : XK} (T : Txt K mg) (hr : Room 2 (A.deeper (envOfC "tell_order" (C8.fnScope s_tell_order) s.heap.objs.size f cdv))) {C_Order : Addr} {sp_Order : Sp} (c_Order : C8.Mak P w K mg base 1 "Order" C_Order sp_Order []) :
    PSs (cxOf C8.CX0 P w K mg base ["desk", "scope", "first", "end", "limit"] "tell_order" (C8.fnScope s_tell_order) f cdv A outer s H E).nox (C8.fnBody s_tell_order) (t_tell_order K C_Order sp_Order) :=
  (pss_cons (ps_if (PW.pt (pw_or (pt_cmpR op_gt (pv 1) (C8.pe_gc (by rfl) T.c_PLANT) (nomark _)) (pw_or1 (pt_cmpR op_le (pv 3) (pv 2) (nomark _))))) (pss_one (ps_ret (pe_lst (pa_cons (pe_un un_neg pe_int) pa_nil)))) pss_nil) (pss_cons (ps_if (pt_cmpR op_le (pv 3) (pe_fld (pv 0) rfl) (nomark _)) (pss_one (ps_ret (pe_lst (pa_cons (pe_un un_neg pe_int) pa_nil)))) pss_nil) (pss_cons (ps_if (pt_cmpR op_eq (pe_callB call_len_seq (by rfl) T.b_len PySem.boot_len (pa_cons (pe_fld (pv 0) rfl) pa_nil)) (C8.pe_gc (by rfl) T.c_MOST_ORDERS) (nomark _)) (pss_one (ps_ret (pe_lst (pa_cons (pe_un un_neg pe_int) pa_nil)))) pss_nil) (pss_cons (ps_fld (pv 0) (pe_op op_cat (pe_fld (pv 0) rfl) (pe_lst (pa_cons (C8.pe_mk c_Order hr (by decide) (by rfl) (pa_cons (pv 1) (pa_cons (pv 2) (pa_cons (pv 3) (pa_cons (pv 4) (pa_cons (pe_fld (pv 0) rfl) pa_nil)))))) pa_nil))) rfl) (pss_cons (ps_fld (pv 0) (pe_op op_cat (pe_fld (pv 0) rfl) (pe_lst (pa_cons (C8.pe_gc (by rfl) T.c_NOT_BACK) pa_nil))) rfl) (pss_cons (ps_fld (pv 0) (pe_op op_cat (pe_fld (pv 0) rfl) (pe_lst (pa_cons pe_int pa_nil))) rfl) (pss_cons (ps_fld (pv 0) (pe_op op_cat (pe_fld (pv 0) rfl) (pe_lst (pa_cons pe_int pa_nil))) rfl) (pss_one (ps_ret (pe_lst (pa_cons (pe_op op_sub (pe_callB call_len_seq (by rfl) T.b_len PySem.boot_len (pa_cons (pe_fld (pv 0) rfl) pa_nil)) pe_int) pa_nil)))))))))))
-- tell_back: slots 0 desk, 1 number
theorem sc_tell_back : FnScope ["desk", "number"] ["desk", "number"] (C8.fnScope s_tell_back) := C8.fnScope_by (by decide +kernel)
def t_tell_back (K : PySem.W.Frag) (sp_with_one : Sp) : TS := (tSeq (tIfS (tTest (tOp qGe (tVar 1) (tCB (rLenS K) (tCons (tFld K (tVar 0) "orders") tNil)))) (tRet (tLst (tCons (tUn (rU fun i => .int (-i)) (tC (.int 1))) tNil))) tNext) (tSeq (tIfS (tOr (tTest (tOp rNe (tOp (rIxL K) (tFld K (tVar 0) "taken_back") (tVar 1)) (tC (.int (-1))))) (tTest (tOp qLe (tFld K (tOp (rIxL K) (tFld K (tVar 0) "orders") (tVar 1)) "end") (tFld K (tVar 0) "quarter")))) (tRet (tLst (tCons (tUn (rU fun i => .int (-i)) (tC (.int 2))) tNil))) tNext) (tSeq (sFld K (tVar 0) (tCall sp_with_one [] C8.E0 (tCons (tFld K (tVar 0) "taken_back") (tCons (tVar 1) (tCons (tFld K (tVar 0) "quarter") tNil)))) "taken_back") (tRet (tLst (tCons (tC (.int 0)) tNil))))))
theorem dv_tell_back {f : Addr} {cdv : Value} {A : Around} {outer : List Env} {s : Shared} {H : Hp} {E : XK} (T : Txt K mg) (hr : Room 1 (A.deeper (envOfC "tell_back" (C8.fnScope s_tell_back) s.heap.objs.size f cdv))) {sp_with_one : Sp} (c_with_one : C8.Cal P w K mg base 1 "with_one" sp_with_one []) :
    PSs (cxOf C8.CX0 P w K mg base ["desk", "number"] "tell_back" (C8.fnScope s_tell_back) f cdv A outer s H E).nox (C8.fnBody s_tell_back) (t_tell_back K sp_with_one) :=
  (pss_cons (ps_if (pt_cmpR op_ge (pv 1) (pe_callB call_len_seq (by rfl) T.b_len PySem.boot_len (pa_cons (pe_fld (pv 0) rfl) pa_nil)) (nomark _)) (pss_one (ps_ret (pe_lst (pa_cons (pe_un un_neg pe_int) pa_nil)))) pss_nil) (pss_cons (ps_if (PW.pt (pw_or (pt_cmpR op_ne (pe_ix ix_list (pe_fld (pv 0) rfl) (pv 1) (fun _ _ => rfl)) (C8.pe_gc (by rfl) T.c_NOT_BACK) (nomark _)) (pw_or1 (pt_cmpR op_le (pe_fld (pe_ix ix_list (pe_fld (pv 0) rfl) (pv 1) (fun _ _ => rfl)) rfl) (pe_fld (pv 0) rfl) (nomark _))))) (pss_one (ps_ret (pe_lst (pa_cons (pe_un un_neg pe_int) pa_nil)))) pss_nil) (pss_cons (ps_fld (pv 0) (C8.pe_c c_with_one hr (by decide) (by rfl) (pa_cons (pe_fld (pv 0) rfl) (pa_cons (pv 1) (pa_cons (pe_fld (pv 0) rfl) pa_nil)))) rfl) (pss_one (ps_ret (pe_lst (pa_cons pe_int pa_nil)))))))
-- tell_quarter: slots 0 desk, 1 coming, 2 shares
theorem sc_tell_quarter : FnScope ["desk", "coming", "shares"] ["desk", "coming"] (C8.fnScope s_tell_quarter) := C8.fnScope_by (by decide +kernel)
def t_tell_quarter (K : PySem.W.Frag) (sp_go_through : Sp) (sp_with_row : Sp) : TS := (tSeq (tIfS (tTest (tOp rNe (tCB (rLenS K) (tCons (tVar 1) tNil)) (tCB (rLenS K) (tCons (tFld K (tVar 0) "givers") tNil)))) (tRet (tLst (tCons (tUn (rU fun i => .int (-i)) (tC (.int 1))) tNil))) tNext) (tSeq (tAsg (tCall sp_go_through [] C8.E0 (tCons (tVar 0) (tCons (tVar 1) tNil))) (gName 2)) (tRet (tCall sp_with_row [] C8.E0 (tCons (tCB (rSum K) (tCons (tVar 2) tNil)) (tCons (tVar 2) tNil))))))
theorem dv_tell_quarter {f : Addr} {cdv : Value} {A : Around} {outer : List Env} {s : Shared} {H : Hp} {E : XK} (T : Txt K mg) (hr : Room 7 (A.deeper (envOfC "tell_quarter" (C8.fnScope s_tell_quarter) s.heap.objs.size f cdv))) {sp_go_through : Sp} (c_go_through : C8.Cal P w K mg base 7 "go_through" sp_go_through []) {sp_with_row : Sp} (c_with_row : C8.Cal P w K mg base 1 "with_row" sp_with_row []) :
    PSs (cxOf C8.CX0 P w K mg base ["desk", "coming", "shares"] "tell_quarter" (C8.fnScope s_tell_quarter) f cdv A outer s H E).nox (C8.fnBody s_tell_quarter) (t_tell_quarter K sp_go_through sp_with_row) :=
  (pss_cons (ps_if (pt_cmpR op_ne (pe_callB call_len_seq (by rfl) T.b_len PySem.boot_len (pa_cons (pv 1) pa_nil)) (pe_callB call_len_seq (by rfl) T.b_len PySem.boot_len (pa_cons (pe_fld (pv 0) rfl) pa_nil)) (nomark _)) (pss_one (ps_ret (pe_lst (pa_cons (pe_un un_neg pe_int) pa_nil)))) pss_nil) (pss_cons (ps_set (i := 2) sc_tell_quarter.nd rfl (Or.inl rfl) (C8.pe_c c_go_through hr (by decide) (by rfl) (pa_cons (pv 0) (pa_cons (pv 1) pa_nil)))) (pss_one (ps_ret (C8.pe_c c_with_row hr (by decide) (by rfl) (pa_cons (pe_callB (cr_sum rfl) (by rfl) T.b_sum boot_sum (pa_cons (pv 2) pa_nil)) (pa_cons (pv 2) pa_nil)))))))
-- take_over: slots 0 memory, 1 changed
theorem sc_take_over : FnScope ["memory", "changed"] ["memory", "changed"] (C8.fnScope s_take_over) := C8.fnScope_by (by decide +kernel)
def t_take_over (K : PySem.W.Frag) : TS := (tSeq (sFld K (tVar 0) (tSl (rSlL K) (tOp rCat (tFld K (tVar 0) "earlier") (tLst (tCons (tFld K (tVar 0) "desk") tNil))) (tPart (tUn (rU fun i => .int (-i)) (tC (.int 16)))) tNoPart) "earlier") (tSeq (sFld K (tVar 0) (tLst tNil) "undone") (sFld K (tVar 0) (tVar 1) "desk")))
theorem dv_take_over {f : Addr} {cdv : Value} {A : Around} {outer : List Env} {s : Shared} {H : Hp} {E : XK} (T : Txt K mg) (hr : Room 0 (A.deeper (envOfC "take_over" (C8.fnScope s_take_over) s.heap.objs.size f cdv))) :
    PSs (cxOf C8.CX0 P w K mg base ["memory", "changed"] "take_over" (C8.fnScope s_take_over) f cdv A outer s H E).nox (C8.fnBody s_take_over) (t_take_over K) :=
  (pss_cons (ps_fld (pv 0) (pe_slice sl_list (pe_op op_cat (pe_fld (pv 0) rfl) (pe_lst (pa_cons (pe_fld (pv 0) rfl) pa_nil))) (po_some (pe_un un_neg (C8.pe_gc (by rfl) T.c_MOST_REMEMBERED))) po_none) rfl) (pss_cons (ps_fld (pv 0) (pe_lst pa_nil) rfl) (pss_one (ps_fld (pv 0) (pv 1) rfl))))
-- tell_undo: slots 0 memory
theorem sc_tell_undo : FnScope ["memory"] ["memory"] (C8.fnScope s_tell_undo) := C8.fnScope_by (by decide +kernel)
def t_tell_undo (K : PySem.W.Frag) : TS := (tSeq (tIfS (tTest (tOp rEq (tCB (rLenS K) (tCons (tFld K (tVar 0) "earlier") tNil)) (tC (.int 0)))) (tRet (tLst (tCons (tUn (rU fun i => .int (-i)) (tC (.int 2))) tNil))) tNext) (tSeq (tDrop (tBM K "list" rAppend (tFld K (tVar 0) "undone") (tCons (tFld K (tVar 0) "desk") tNil))) (tSeq (sFld K (tVar 0) (tBM0 K "list" rPop (tFld K (tVar 0) "earlier")) "desk") (tRet (tLst (tCons (tC (.int 0)) tNil))))))
theorem dv_tell_undo {f : Addr} {cdv : Value} {A : Around} {outer : List Env} {s : Shared} {H : Hp} {E : XK} (T : Txt K mg) (hr : Room 0 (A.deeper (envOfC "tell_undo" (C8.fnScope s_tell_undo) s.heap.objs.size f cdv))) :
    PSs (cxOf C8.CX0 P w K mg base ["memory"] "tell_undo" (C8.fnScope s_tell_undo) f cdv A outer s H E).nox (C8.fnBody s_tell_undo) (t_tell_undo K) :=
  (pss_cons (ps_if (pt_cmpR op_eq (pe_callB call_len_seq (by rfl) T.b_len PySem.boot_len (pa_cons (pe_fld (pv 0) rfl) pa_nil)) pe_int (nomark _)) (pss_one (ps_ret (pe_lst (pa_cons (pe_un un_neg pe_int) pa_nil)))) pss_nil) (pss_cons (ps_expr (pe_bm PySem.F.plainAttrs_list PySem.F.slot_list_append PySem.F.type_list_append mt_append (pe_fld (pv 0) rfl) (pa_cons (pe_fld (pv 0) rfl) pa_nil))) (pss_cons (ps_fld (pv 0) (pe_bm0 PySem.F.plainAttrs_list PySem.F.slot_list_pop PySem.F.type_list_pop mt_pop (pe_fld (pv 0) rfl)) rfl) (pss_one (ps_ret (pe_lst (pa_cons pe_int pa_nil)))))))
-- tell_redo: slots 0 memory
theorem sc_tell_redo : FnScope ["memory"] ["memory"] (C8.fnScope s_tell_redo) := C8.fnScope_by (by decide +kernel)
def t_tell_redo (K : PySem.W.Frag) : TS := (tSeq (tIfS (tTest (tOp rEq (tCB (rLenS K) (tCons (tFld K (tVar 0) "undone") tNil)) (tC (.int 0)))) (tRet (tLst (tCons (tUn (rU fun i => .int (-i)) (tC (.int 2))) tNil))) tNext) (tSeq (tDrop (tBM K "list" rAppend (tFld K (tVar 0) "earlier") (tCons (tFld K (tVar 0) "desk") tNil))) (tSeq (sFld K (tVar 0) (tBM0 K "list" rPop (tFld K (tVar 0) "undone")) "desk") (tRet (tLst (tCons (tC (.int 0)) tNil))))))
theorem dv_tell_redo {f : Addr} {cdv : Value} {A : Around} {outer : List Env} {s : Shared} {H : Hp} {E : XK} (T : Txt K mg) (hr : Room 0 (A.deeper (envOfC "tell_redo" (C8.fnScope s_tell_redo) s.heap.objs.size f cdv))) :
    PSs (cxOf C8.CX0 P w K mg base ["memory"] "tell_redo" (C8.fnScope s_tell_redo) f cdv A outer s H E).nox (C8.fnBody s_tell_redo) (t_tell_redo K) :=
  (pss_cons (ps_if (pt_cmpR op_eq (pe_callB call_len_seq (by rfl) T.b_len PySem.boot_len (pa_cons (pe_fld (pv 0) rfl) pa_nil)) pe_int (nomark _)) (pss_one (ps_ret (pe_lst (pa_cons (pe_un un_neg pe_int) pa_nil)))) pss_nil) (pss_cons (ps_expr (pe_bm PySem.F.plainAttrs_list PySem.F.slot_list_append PySem.F.type_list_append mt_append (pe_fld (pv 0) rfl) (pa_cons (pe_fld (pv 0) rfl) pa_nil))) (pss_cons (ps_fld (pv 0) (pe_bm0 PySem.F.plainAttrs_list PySem.F.slot_list_pop PySem.F.type_list_pop mt_pop (pe_fld (pv 0) rfl)) rfl) (pss_one (ps_ret (pe_lst (pa_cons pe_int pa_nil)))))))
-- tell_begin: slots 0 memory
theorem sc_tell_begin : FnScope ["memory"] ["memory"] (C8.fnScope s_tell_begin) := C8.fnScope_by (by decide +kernel)
def t_tell_begin (K : PySem.W.Frag) (C_Desk : Addr) (sp_Desk : Sp) : TS := (tSeq (sFld K (tVar 0) (tMake C_Desk sp_Desk [] C8.E0 tNil) "desk") (tSeq (sFld K (tVar 0) (tLst tNil) "earlier") (tSeq (sFld K (tVar 0) (tLst tNil) "undone") (tRet (tLst (tCons (tC (.int 0)) tNil))))))
theorem dv_tell_begin {f : Addr} {cdv : Value} {A : Around} {outer : List Env} {s : Shared} {H : Hp} {E : XK} (T : Txt K mg) (hr : Room 2 (A.deeper (envOfC "tell_begin" (C8.fnScope s_tell_begin) s.heap.objs.size f cdv))) {C_Desk : Addr} {sp_Desk : Sp} (c_Desk : C8.Mak P w K mg base 1 "Desk" C_Desk sp_Desk []) :
    PSs (cxOf C8.CX0 P w K mg base ["memory"] "tell_begin" (C8.fnScope s_tell_begin) f cdv A outer s H E).nox (C8.fnBody s_tell_begin) (t_tell_begin K C_Desk sp_Desk) :=
  (pss_cons (ps_fld (pv 0) (pe_mk0 c_Desk hr (by decide) (by rfl)) rfl) (pss_cons (ps_fld (pv 0) (pe_lst pa_nil) rfl) (pss_cons (ps_fld (pv 0) (pe_lst pa_nil) rfl) (pss_one (ps_ret (pe_lst (pa_cons pe_int pa_nil)))))))
-- is_allowed: slots 0 givers, 1 able, 2 shares, 3 limits, 4 watts, 5 share, 6 sums, 7 kind
theorem sc_is_allowed : FnScope ["givers", "able", "shares", "limits", "watts", "share", "sums", "kind"] ["givers", "able", "shares", "limits"] (C8.fnScope s_is_allowed) := C8.fnScope_by (by decide +kernel)
def t_is_allowed (K : PySem.W.Frag) (sp_class_sums : Sp) : TS := (tSeq (tFor (iZip K (tCons (tVar 1) (tCons (tVar 2) tNil))) (gTup K 2 (gCons (gName 4) (gCons (gName 5) gNil))) (tIfS (tTest (tOp qGt (tVar 5) (tVar 4))) (tRet (tC (.bl false))) tNext)) (tSeq (tAsg (tCall sp_class_sums [] C8.E0 (tCons (tVar 0) (tCons (tVar 2) tNil))) (gName 6)) (tSeq (tFor (iRng1 (tCons (tC (.int 8)) tNil)) (gName 7) (tIfS (tAnd (tTest (tOp rNe (tOp (rIxL K) (tVar 3) (tVar 7)) (tC (.int (-1))))) (tTest (tOp qGt (tOp (rIxL K) (tVar 6) (tVar 7)) (tOp (rIxL K) (tVar 3) (tVar 7))))) (tRet (tC (.bl false))) tNext)) (tRet (tOp qLe (tCB (rSum K) (tCons (tVar 2) tNil)) (tOp (rIxL K) (tVar 3) (tC (.int 8))))))))
theorem dv_is_allowed {f : Addr} {cdv : Value} {A : Around} {outer : List Env} {s : Shared} {H : Hp} {E : XK} (T : Txt K mg) (hr : Room 1 (A.deeper (envOfC "is_allowed" (C8.fnScope s_is_allowed) s.heap.objs.size f cdv))) {sp_class_sums : Sp} (c_class_sums : C8.Cal P w K mg base 1 "class_sums" sp_class_sums []) :
    PSs (cxOf C8.CX0 P w K mg base ["givers", "able", "shares", "limits", "watts", "share", "sums", "kind"] "is_allowed" (C8.fnScope s_is_allowed) f cdv A outer s H E).nox (C8.fnBody s_is_allowed) (t_is_allowed K sp_class_sums) :=
  (pss_cons (ps_for PassesOwn.never rfl (pi_zip (by rfl) T.b_zip (pa_cons (pv 1) (pa_cons (pv 2) pa_nil))) (pg_tup rfl (pgs_cons (pg_name (i := 4) sc_is_allowed.nd rfl (Or.inl rfl)) (pgs_cons (pg_name (i := 5) sc_is_allowed.nd rfl (Or.inl rfl)) pgs_nil))) (pss_one (ps_if (pt_cmpR op_gt (pv 5) (pv 4) (nomark _)) (pss_one (ps_ret pe_bl)) pss_nil))) (pss_cons (ps_set (i := 6) sc_is_allowed.nd rfl (Or.inl rfl) (C8.pe_c c_class_sums hr (by decide) (by rfl) (pa_cons (pv 0) (pa_cons (pv 2) pa_nil)))) (pss_cons (ps_for PassesOwn.never rfl (pi_range1 (by rfl) T.b_range (pa_cons (C8.pe_gc (by rfl) T.c_CLASSES) pa_nil)) (pg_name (i := 7) sc_is_allowed.nd rfl (Or.inl rfl)) (pss_one (ps_if (PW.pt (pw_and (pt_cmpR op_ne (pe_ix ix_list (pv 3) (pv 7) (fun _ _ => rfl)) (C8.pe_gc (by rfl) T.c_NO_LIMIT) (nomark _)) (pw_and1 (pt_cmpR op_gt (pe_ix ix_list (pv 6) (pv 7) (fun _ _ => rfl)) (pe_ix ix_list (pv 3) (pv 7) (fun _ _ => rfl)) (nomark _))))) (pss_one (ps_ret pe_bl)) pss_nil))) (pss_one (ps_ret (pe_cmpR op_le (pe_callB (cr_sum rfl) (by rfl) T.b_sum boot_sum (pa_cons (pv 2) pa_nil)) (pe_ix ix_list (pv 3) (C8.pe_gc (by rfl) T.c_PLANT) (fun _ _ => rfl)) (nomark _)))))))
-- judgement: slots 0 givers, 1 able, 2 shares, 3 limits, 4 told
theorem sc_judgement : FnScope ["givers", "able", "shares", "limits", "told"] ["givers", "able", "shares", "limits"] (C8.fnScope s_judgement) := C8.fnScope_by (by decide +kernel)
def t_judgement (K : PySem.W.Frag) (sp_fairest : Sp) (sp_is_allowed : Sp) : TS := (tSeq (tIfS (tNot (tB (tCall sp_is_allowed [] C8.E0 (tCons (tVar 0) (tCons (tVar 1) (tCons (tVar 2) (tCons (tVar 3) tNil))))))) (tRet (tC (.int 0))) tNext) (tSeq (tAsg (tCall sp_fairest [] C8.E0 (tCons (tVar 0) (tCons (tVar 1) (tCons (tVar 3) tNil)))) (gName 4)) (tSeq (tIfS (tTest (tOp (rEqD K) (tVar 2) (tVar 4))) (tRet (tC (.int 3))) tNext) (tSeq (tIfS (tTest (tOp (rEqD K) (tCB (rSortedI K) (tCons (tVar 2) tNil)) (tCB (rSortedI K) (tCons (tVar 4) tNil)))) (tRet (tC (.int 2))) tNext) (tRet (tC (.int 1)))))))
theorem dv_judgement {f : Addr} {cdv : Value} {A : Around} {outer : List Env} {s : Shared} {H : Hp} {E : XK} (T : Txt K mg) (hr : Room 4 (A.deeper (envOfC "judgement" (C8.fnScope s_judgement) s.heap.objs.size f cdv))) {sp_fairest : Sp} (c_fairest : C8.Cal P w K mg base 4 "fairest" sp_fairest []) {sp_is_allowed : Sp} (c_is_allowed : C8.Cal P w K mg base 2 "is_allowed" sp_is_allowed []) :
    PSs (cxOf C8.CX0 P w K mg base ["givers", "able", "shares", "limits", "told"] "judgement" (C8.fnScope s_judgement) f cdv A outer s H E).nox (C8.fnBody s_judgement) (t_judgement K sp_fairest sp_is_allowed) :=
  (pss_cons (ps_if (pt_not (pt_val (C8.pe_c c_is_allowed hr (by decide) (by rfl) (pa_cons (pv 0) (pa_cons (pv 1) (pa_cons (pv 2) (pa_cons (pv 3) pa_nil))))))) (pss_one (ps_ret (C8.pe_gc (by rfl) T.c_NOT_ALLOWED))) pss_nil) (pss_cons (ps_set (i := 4) sc_judgement.nd rfl (Or.inl rfl) (C8.pe_c c_fairest hr (by decide) (by rfl) (pa_cons (pv 0) (pa_cons (pv 1) (pa_cons (pv 3) pa_nil))))) (pss_cons (ps_if (pt_cmpR (op_eqD (hu64 hr)) (pv 2) (pv 4) (nomark _)) (pss_one (ps_ret (C8.pe_gc (by rfl) T.c_FAIREST_TOLD))) pss_nil) (pss_cons (ps_if (pt_cmpR (op_eqD (hu64 hr)) (pe_callB cr_sortedI (by rfl) T.b_sorted boot_sorted (pa_cons (pv 2) pa_nil)) (pe_callB cr_sortedI (by rfl) T.b_sorted boot_sorted (pa_cons (pv 4) pa_nil)) (nomark _)) (pss_one (ps_ret (C8.pe_gc (by rfl) T.c_FAIREST_ALSO))) pss_nil) (pss_one (ps_ret (C8.pe_gc (by rfl) T.c_ALLOWED_ONLY)))))))
-- loss_of: slots 0 givers*, 1 able*, 2 shares*, 3 number
theorem sc_loss_of : FnScope ["givers", "able", "shares", "number"] ["givers", "able", "shares"] (C8.fnScope s_loss_of) := C8.fnScope_by (by decide +kernel)
def t_loss_of (K : PySem.W.Frag) : TS := (tRet (tCB (rSum K) (tCons (tLc (iRng1 (tCons (tCB (rLenS K) (tCons (tVar 0) tNil)) tNil)) (gName 3) tYes (tOp qMul (tFld K (tOp (rIxL K) (tVar 0) (tVar 3)) "worth") (tOp qSub (tOp (rIxL K) (tVar 1) (tVar 3)) (tOp (rIxL K) (tVar 2) (tVar 3)))) [3]) tNil)))
theorem dv_loss_of {f : Addr} {cdv : Value} {A : Around} {outer : List Env} {s : Shared} {H : Hp} {E : XK} (T : Txt K mg) (hr : Room 0 (A.deeper (envOfC "loss_of" (C8.fnScope s_loss_of) s.heap.objs.size f cdv))) :
    PSs (cxOf C8.CX0 P w K mg base ["givers", "able", "shares", "number"] "loss_of" (C8.fnScope s_loss_of) f cdv A outer s H E).nox (C8.fnBody s_loss_of) (t_loss_of K) :=
  (pss_one (ps_ret (pe_callB (cr_sum rfl) (by rfl) T.b_sum boot_sum (pa_cons (pe_lc (own := [("number", 3)]) (g := (gName 3)) (tt := tYes) rfl sc_loss_of.nd (pi_range1 (by rfl) T.b_range (pa_cons (pe_callB call_len_seq (by rfl) T.b_len PySem.boot_len (pa_cons (pv 0) pa_nil)) pa_nil)) (blkOk_by (N := ["givers", "able", "shares", "number"]) (sc := C8.fnScope s_loss_of) (by decide +kernel)) (fun _ _ _ _ _ => (pg_name (i := 3) sc_loss_of.nd rfl (Or.inl rfl))) (fun _ _ _ _ _ => pts_nil) (fun _ _ _ _ _ => (pe_op op_mulW (pe_fld (pe_ix ix_list (pv 0) (pv 3) (fun _ _ => rfl)) rfl) (pe_op op_sub (pe_ix ix_list (pv 1) (pv 3) (fun _ _ => rfl)) (pe_ix ix_list (pv 2) (pv 3) (fun _ _ => rfl)))))) pa_nil))))
-- full_classes: slots 0 givers, 1 shares, 2 limits*, 3 sums*, 4 kind
theorem sc_full_classes : FnScope ["givers", "shares", "limits", "sums", "kind"] ["givers", "shares", "limits"] (C8.fnScope s_full_classes) := C8.fnScope_by (by decide +kernel)
def t_full_classes (K : PySem.W.Frag) (sp_class_sums : Sp) : TS := (tSeq (tAsg (tCall sp_class_sums [] C8.E0 (tCons (tVar 0) (tCons (tVar 1) tNil))) (gName 3)) (tRet (tLc (iRng1 (tCons (tC (.int 8)) tNil)) (gName 4) tYes (tOp rEq (tOp (rIxL K) (tVar 3) (tVar 4)) (tOp (rIxL K) (tVar 2) (tVar 4))) [4])))
theorem dv_full_classes {f : Addr} {cdv : Value} {A : Around} {outer : List Env} {s : Shared} {H : Hp} {E : XK} (T : Txt K mg) (hr : Room 1 (A.deeper (envOfC "full_classes" (C8.fnScope s_full_classes) s.heap.objs.size f cdv))) {sp_class_sums : Sp} (c_class_sums : C8.Cal P w K mg base 1 "class_sums" sp_class_sums []) :
    PSs (cxOf C8.CX0 P w K mg base ["givers", "shares", "limits", "sums", "kind"] "full_classes" (C8.fnScope s_full_classes) f cdv A outer s H E).nox (C8.fnBody s_full_classes) (t_full_classes K sp_class_sums) :=
  (pss_cons (ps_set (i := 3) sc_full_classes.nd rfl (Or.inr rfl) (C8.pe_c c_class_sums hr (by decide) (by rfl) (pa_cons (pv 0) (pa_cons (pv 1) pa_nil)))) (pss_one (ps_ret (pe_lc (own := [("kind", 4)]) (g := (gName 4)) (tt := tYes) rfl sc_full_classes.nd (pi_range1 (by rfl) T.b_range (pa_cons (C8.pe_gc (by rfl) T.c_CLASSES) pa_nil)) (blkOk_by (N := ["givers", "shares", "limits", "sums", "kind"]) (sc := C8.fnScope s_full_classes) (by decide +kernel)) (fun _ _ _ _ _ => (pg_name (i := 4) sc_full_classes.nd rfl (Or.inl rfl))) (fun _ _ _ _ _ => pts_nil) (fun _ _ _ _ _ => (pe_cmpR op_eq (pe_ix ix_list (pv 3) (pv 4) (fun _ _ => rfl)) (pe_ix ix_list (pv 2) (pv 4) (fun _ _ => rfl)) (nomark _)))))))
-- prices_told: slots 0 givers, 1 able, 2 shares, 3 limits, 4 full*, 5 short, 6 plant_price, 7 prices, 8 kind*, 9 dearest, 10 giver, 11 watts, 12 share
theorem sc_prices_told : FnScope ["givers", "able", "shares", "limits", "full", "short", "plant_price", "prices", "kind", "dearest", "giver", "watts", "share"] ["givers", "able", "shares", "limits"] (C8.fnScope s_prices_told) := C8.fnScope_by (by decide +kernel)
def t_prices_told (K : PySem.W.Frag) (sp_full_classes : Sp) : TS := (tSeq (tAsg (tCall sp_full_classes [] C8.E0 (tCons (tVar 0) (tCons (tVar 2) (tCons (tVar 3) tNil)))) (gName 4)) (tSeq (tAsg (tLc (iZip3 K (tCons (tVar 0) (tCons (tVar 1) (tCons (tVar 2) tNil)))) (gTup K 3 (gCons (gName 10) (gCons (gName 11) (gCons (gName 12) gNil)))) (tTest (tOp qLt (tVar 12) (tVar 11))) (tVar 10) [10, 11, 12]) (gName 5)) (tSeq (tAsg (tCKw (rMaxD K) (tCons (tLc (iList K (tVar 5)) (gName 10) (tNot (tB (tOp (rIxL K) (tVar 4) (tFld K (tVar 10) "kind")))) (tFld K (tVar 10) "worth") [10]) tNil) (tCons (tC (.int 0)) tNil)) (gName 6)) (tSeq (tAsg (tLst tNil) (gName 7)) (tSeq (tFor (iRng1 (tCons (tC (.int 8)) tNil)) (gName 8) (tSeq (tAsg (tCKw (rMaxD K) (tCons (tLc (iList K (tVar 5)) (gName 10) (tAnd (tB (tOp (rIxL K) (tVar 4) (tVar 8))) (tTest (tOp rEq (tFld K (tVar 10) "kind") (tVar 8)))) (tFld K (tVar 10) "worth") [10]) tNil) (tCons (tC (.int 0)) tNil)) (gName 9)) (tDrop (tBM K "list" rAppend (tVar 7) (tCons (tCB rMax2 (tCons (tOp qSub (tVar 9) (tVar 6)) (tCons (tC (.int 0)) tNil))) tNil))))) (tRet (tOp rCat (tVar 7) (tLst (tCons (tVar 6) tNil)))))))))
theorem dv_prices_told {f : Addr} {cdv : Value} {A : Around} {outer : List Env} {s : Shared} {H : Hp} {E : XK} (T : Txt K mg) (hr : Room 2 (A.deeper (envOfC "prices_told" (C8.fnScope s_prices_told) s.heap.objs.size f cdv))) {sp_full_classes : Sp} (c_full_classes : C8.Cal P w K mg base 2 "full_classes" sp_full_classes []) :
    PSs (cxOf C8.CX0 P w K mg base ["givers", "able", "shares", "limits", "full", "short", "plant_price", "prices", "kind", "dearest", "giver", "watts", "share"] "prices_told" (C8.fnScope s_prices_told) f cdv A outer s H E).nox (C8.fnBody s_prices_told) (t_prices_told K sp_full_classes) :=
  (pss_cons (ps_set (i := 4) sc_prices_told.nd rfl (Or.inr rfl) (C8.pe_c c_full_classes hr (by decide) (by rfl) (pa_cons (pv 0) (pa_cons (pv 2) (pa_cons (pv 3) pa_nil))))) (pss_cons (ps_setLc (i := 5) (own := [("giver", 10), ("watts", 11), ("share", 12)]) (g := (gTup K 3 (gCons (gName 10) (gCons (gName 11) (gCons (gName 12) gNil))))) (tt := (tTest (tOp qLt (tVar 12) (tVar 11)))) rfl sc_prices_told.nd rfl rfl (sw_true rfl rfl rfl (by decide +kernel)) (pi_zip3 (by rfl) T.b_zip (pa_cons (pv 0) (pa_cons (pv 1) (pa_cons (pv 2) pa_nil)))) (blkOk_by (N := ["givers", "able", "shares", "limits", "full", "short", "plant_price", "prices", "kind", "dearest", "giver", "watts", "share"]) (sc := C8.fnScope s_prices_told) (by decide +kernel)) (fun _ _ _ _ _ => (pg_tup rfl (pgs_cons (pg_name (i := 10) sc_prices_told.nd rfl (Or.inl rfl)) (pgs_cons (pg_name (i := 11) sc_prices_told.nd rfl (Or.inl rfl)) (pgs_cons (pg_name (i := 12) sc_prices_told.nd rfl (Or.inl rfl)) pgs_nil))))) (fun _ _ _ _ _ => (pts_one (pt_cmpR op_lt (pv 12) (pv 11) (nomark _)))) (fun _ _ _ _ _ => (pv 10))) (pss_cons (ps_set (i := 6) sc_prices_told.nd rfl (Or.inl rfl) (pe_callBK (cr_maxD rfl) (by rfl) T.b_max boot_max (pa_cons (pe_lc (own := [("giver", 10)]) (g := (gName 10)) (tt := (tNot (tB (tOp (rIxL K) (tVar 4) (tFld K (tVar 10) "kind"))))) rfl sc_prices_told.nd (pi_list (pv 5)) (blkOk_by (N := ["givers", "able", "shares", "limits", "full", "short", "plant_price", "prices", "kind", "dearest", "giver", "watts", "share"]) (sc := C8.fnScope s_prices_told) (by decide +kernel)) (fun _ _ _ _ _ => (pg_name (i := 10) sc_prices_told.nd rfl (Or.inl rfl))) (fun _ _ _ _ _ => (pts_one (pt_not (pt_val (pe_ix ix_list (pv 4) (pe_fld (pv 10) rfl) (fun _ _ => rfl)))))) (fun _ _ _ _ _ => (pe_fld (pv 10) rfl))) pa_nil) (pk_cons pe_int pk_nil))) (pss_cons (ps_set (i := 7) sc_prices_told.nd rfl (Or.inl rfl) (pe_lst pa_nil)) (pss_cons (ps_for PassesOwn.never rfl (pi_range1 (by rfl) T.b_range (pa_cons (C8.pe_gc (by rfl) T.c_CLASSES) pa_nil)) (pg_name (i := 8) sc_prices_told.nd rfl (Or.inr rfl)) (pss_cons (ps_set (i := 9) sc_prices_told.nd rfl (Or.inl rfl) (pe_callBK (cr_maxD rfl) (by rfl) T.b_max boot_max (pa_cons (pe_lc (own := [("giver", 10)]) (g := (gName 10)) (tt := (tAnd (tB (tOp (rIxL K) (tVar 4) (tVar 8))) (tTest (tOp rEq (tFld K (tVar 10) "kind") (tVar 8))))) rfl sc_prices_told.nd (pi_list (pv 5)) (blkOk_by (N := ["givers", "able", "shares", "limits", "full", "short", "plant_price", "prices", "kind", "dearest", "giver", "watts", "share"]) (sc := C8.fnScope s_prices_told) (by decide +kernel)) (fun _ _ _ _ _ => (pg_name (i := 10) sc_prices_told.nd rfl (Or.inl rfl))) (fun _ _ _ _ _ => (pts_one (PW.pt (pw_and (pt_val (pe_ix ix_list (pv 4) (pv 8) (fun _ _ => rfl))) (pw_and1 (pt_cmpR op_eq (pe_fld (pv 10) rfl) (pv 8) (nomark _))))))) (fun _ _ _ _ _ => (pe_fld (pv 10) rfl))) pa_nil) (pk_cons pe_int pk_nil))) (pss_one (ps_expr (pe_bm PySem.F.plainAttrs_list PySem.F.slot_list_append PySem.F.type_list_append mt_append (pv 7) (pa_cons (pe_callB (call_max2 rfl) (by rfl) T.b_max boot_max (pa_cons (pe_op op_sub (pv 9) (pv 6)) (pa_cons pe_int pa_nil))) pa_nil)))))) (pss_one (ps_ret (pe_op op_cat (pv 7) (pe_lst (pa_cons (pv 6) pa_nil))))))))))
-- fits_worth: slots 0 giver, 1 watts, 2 share, 3 price
theorem sc_fits_worth : FnScope ["giver", "watts", "share", "price"] ["giver", "watts", "share", "price"] (C8.fnScope s_fits_worth) := C8.fnScope_by (by decide +kernel)
def t_fits_worth (K : PySem.W.Frag) : TS := (tSeq (tIfS (tAnd (tTest (tOp qLt (tVar 2) (tVar 1))) (tTest (tOp qGt (tFld K (tVar 0) "worth") (tVar 3)))) (tRet (tC (.bl false))) tNext) (tRet (tOrV (tOp rEq (tVar 2) (tC (.int 0))) (tOp qGe (tFld K (tVar 0) "worth") (tVar 3)))))
theorem dv_fits_worth {f : Addr} {cdv : Value} {A : Around} {outer : List Env} {s : Shared} {H : Hp} {E : XK} (T : Txt K mg) (hr : Room 0 (A.deeper (envOfC "fits_worth" (C8.fnScope s_fits_worth) s.heap.objs.size f cdv))) :
    PSs (cxOf C8.CX0 P w K mg base ["giver", "watts", "share", "price"] "fits_worth" (C8.fnScope s_fits_worth) f cdv A outer s H E).nox (C8.fnBody s_fits_worth) (t_fits_worth K) :=
  (pss_cons (ps_if (PW.pt (pw_and (pt_cmpR op_lt (pv 2) (pv 1) (nomark _)) (pw_and1 (pt_cmpR op_gt (pe_fld (pv 0) rfl) (pv 3) (nomark _))))) (pss_one (ps_ret pe_bl)) pss_nil) (pss_one (ps_ret (pe_or (pe_cmpR op_eq (pv 2) pe_int (nomark _)) (pe_one (pe_cmpR op_ge (pe_fld (pv 0) rfl) (pv 3) (nomark _)))))))
-- is_proof: slots 0 givers, 1 able, 2 shares, 3 limits, 4 prices, 5 full, 6 kind, 7 giver, 8 watts, 9 share
theorem sc_is_proof : FnScope ["givers", "able", "shares", "limits", "prices", "full", "kind", "giver", "watts", "share"] ["givers", "able", "shares", "limits", "prices"] (C8.fnScope s_is_proof) := C8.fnScope_by (by decide +kernel)
def t_is_proof (K : PySem.W.Frag) (sp_fits_worth : Sp) (sp_full_classes : Sp) (sp_is_allowed : Sp) : TS := (tSeq (tIfS (tNot (tB (tCall sp_is_allowed [] C8.E0 (tCons (tVar 0) (tCons (tVar 1) (tCons (tVar 2) (tCons (tVar 3) tNil))))))) (tRet (tC (.bl false))) tNext) (tSeq (tAsg (tCall sp_full_classes [] C8.E0 (tCons (tVar 0) (tCons (tVar 2) (tCons (tVar 3) tNil)))) (gName 5)) (tSeq (tFor (iRng1 (tCons (tC (.int 8)) tNil)) (gName 6) (tIfS (tAnd (tTest (tOp rNe (tOp (rIxL K) (tVar 4) (tVar 6)) (tC (.int 0)))) (tNot (tB (tOp (rIxL K) (tVar 5) (tVar 6))))) (tRet (tC (.bl false))) tNext)) (tSeq (tIfS (tAnd (tTest (tOp rNe (tOp (rIxL K) (tVar 4) (tC (.int 8))) (tC (.int 0)))) (tTest (tOp rNe (tCB (rSum K) (tCons (tVar 2) tNil)) (tOp (rIxL K) (tVar 3) (tC (.int 8)))))) (tRet (tC (.bl false))) tNext) (tSeq (tFor (iZip3 K (tCons (tVar 0) (tCons (tVar 1) (tCons (tVar 2) tNil)))) (gTup K 3 (gCons (gName 7) (gCons (gName 8) (gCons (gName 9) gNil)))) (tIfS (tNot (tB (tCall sp_fits_worth [] C8.E0 (tCons (tVar 7) (tCons (tVar 8) (tCons (tVar 9) (tCons (tOp qAdd (tOp (rIxL K) (tVar 4) (tFld K (tVar 7) "kind")) (tOp (rIxL K) (tVar 4) (tC (.int 8)))) tNil))))))) (tRet (tC (.bl false))) tNext)) (tRet (tC (.bl true))))))))
theorem dv_is_proof {f : Addr} {cdv : Value} {A : Around} {outer : List Env} {s : Shared} {H : Hp} {E : XK} (T : Txt K mg) (hr : Room 2 (A.deeper (envOfC "is_proof" (C8.fnScope s_is_proof) s.heap.objs.size f cdv))) {sp_fits_worth : Sp} (c_fits_worth : C8.Cal P w K mg base 1 "fits_worth" sp_fits_worth []) {sp_full_classes : Sp} (c_full_classes : C8.Cal P w K mg base 2 "full_classes" sp_full_classes []) {sp_is_allowed : Sp} (c_is_allowed : C8.Cal P w K mg base 2 "is_allowed" sp_is_allowed []) :
    PSs (cxOf C8.CX0 P w K mg base ["givers", "able", "shares", "limits", "prices", "full", "kind", "giver", "watts", "share"] "is_proof" (C8.fnScope s_is_proof) f cdv A outer s H E).nox (C8.fnBody s_is_proof) (t_is_proof K sp_fits_worth sp_full_classes sp_is_allowed) :=
  (pss_cons (ps_if (pt_not (pt_val (C8.pe_c c_is_allowed hr (by decide) (by rfl) (pa_cons (pv 0) (pa_cons (pv 1) (pa_cons (pv 2) (pa_cons (pv 3) pa_nil))))))) (pss_one (ps_ret pe_bl)) pss_nil) (pss_cons (ps_set (i := 5) sc_is_proof.nd rfl (Or.inl rfl) (C8.pe_c c_full_classes hr (by decide) (by rfl) (pa_cons (pv 0) (pa_cons (pv 2) (pa_cons (pv 3) pa_nil))))) (pss_cons (ps_for PassesOwn.never rfl (pi_range1 (by rfl) T.b_range (pa_cons (C8.pe_gc (by rfl) T.c_CLASSES) pa_nil)) (pg_name (i := 6) sc_is_proof.nd rfl (Or.inl rfl)) (pss_one (ps_if (PW.pt (pw_and (pt_cmpR op_ne (pe_ix ix_list (pv 4) (pv 6) (fun _ _ => rfl)) pe_int (nomark _)) (pw_and1 (pt_not (pt_val (pe_ix ix_list (pv 5) (pv 6) (fun _ _ => rfl))))))) (pss_one (ps_ret pe_bl)) pss_nil))) (pss_cons (ps_if (PW.pt (pw_and (pt_cmpR op_ne (pe_ix ix_list (pv 4) (C8.pe_gc (by rfl) T.c_PLANT) (fun _ _ => rfl)) pe_int (nomark _)) (pw_and1 (pt_cmpR op_ne (pe_callB (cr_sum rfl) (by rfl) T.b_sum boot_sum (pa_cons (pv 2) pa_nil)) (pe_ix ix_list (pv 3) (C8.pe_gc (by rfl) T.c_PLANT) (fun _ _ => rfl)) (nomark _))))) (pss_one (ps_ret pe_bl)) pss_nil) (pss_cons (ps_for PassesOwn.never rfl (pi_zip3 (by rfl) T.b_zip (pa_cons (pv 0) (pa_cons (pv 1) (pa_cons (pv 2) pa_nil)))) (pg_tup rfl (pgs_cons (pg_name (i := 7) sc_is_proof.nd rfl (Or.inl rfl)) (pgs_cons (pg_name (i := 8) sc_is_proof.nd rfl (Or.inl rfl)) (pgs_cons (pg_name (i := 9) sc_is_proof.nd rfl (Or.inl rfl)) pgs_nil)))) (pss_one (ps_if (pt_not (pt_val (C8.pe_c c_fits_worth hr (by decide) (by rfl) (pa_cons (pv 7) (pa_cons (pv 8) (pa_cons (pv 9) (pa_cons (pe_op op_add (pe_ix ix_list (pv 4) (pe_fld (pv 7) rfl) (fun _ _ => rfl)) (pe_ix ix_list (pv 4) (C8.pe_gc (by rfl) T.c_PLANT) (fun _ _ => rfl))) pa_nil))))))) (pss_one (ps_ret pe_bl)) pss_nil))) (pss_one (ps_ret pe_bl)))))))
-- is_able: slots 0 desk, 1 row
theorem sc_is_able : FnScope ["desk", "row"] ["desk", "row"] (C8.fnScope s_is_able) := C8.fnScope_by (by decide +kernel)
def t_is_able (K : PySem.W.Frag) : TS := (tRet (tAndV (tOp rEq (tCB (rLenS K) (tCons (tVar 1) tNil)) (tCB (rLenS K) (tCons (tFld K (tVar 0) "givers") tNil))) (tOp qLe (tCKw (rMaxD K) (tCons (tVar 1) tNil) (tCons (tC (.int 0)) tNil)) (tC (.int 10000000)))))
theorem dv_is_able {f : Addr} {cdv : Value} {A : Around} {outer : List Env} {s : Shared} {H : Hp} {E : XK} (T : Txt K mg) (hr : Room 0 (A.deeper (envOfC "is_able" (C8.fnScope s_is_able) s.heap.objs.size f cdv))) :
    PSs (cxOf C8.CX0 P w K mg base ["desk", "row"] "is_able" (C8.fnScope s_is_able) f cdv A outer s H E).nox (C8.fnBody s_is_able) (t_is_able K) :=
  (pss_one (ps_ret (pe_and (pe_cmpR op_eq (pe_callB call_len_seq (by rfl) T.b_len PySem.boot_len (pa_cons (pv 1) pa_nil)) (pe_callB call_len_seq (by rfl) T.b_len PySem.boot_len (pa_cons (pe_fld (pv 0) rfl) pa_nil)) (nomark _)) (pe_one (pe_cmpR op_le (pe_callBK (cr_maxD rfl) (by rfl) T.b_max boot_max (pa_cons (pv 1) pa_nil) (pk_cons pe_int pk_nil)) (C8.pe_gc (by rfl) T.c_MOST_WATTS) (nomark _))))))
-- ask_could: slots 0 desk, 1 coming, 2 able
theorem sc_ask_could : FnScope ["desk", "coming", "able"] ["desk", "coming"] (C8.fnScope s_ask_could) := C8.fnScope_by (by decide +kernel)
def t_ask_could (K : PySem.W.Frag) (sp_able_next : Sp) (sp_with_row : Sp) : TS := (tSeq (tIfS (tTest (tOp rNe (tCB (rLenS K) (tCons (tVar 1) tNil)) (tCB (rLenS K) (tCons (tFld K (tVar 0) "givers") tNil)))) (tRet (tLst (tCons (tUn (rU fun i => .int (-i)) (tC (.int 1))) tNil))) tNext) (tSeq (tAsg (tCall sp_able_next [] C8.E0 (tCons (tVar 0) (tCons (tVar 1) tNil))) (gName 2)) (tRet (tCall sp_with_row [] C8.E0 (tCons (tCB (rSum K) (tCons (tVar 2) tNil)) (tCons (tVar 2) tNil))))))
theorem dv_ask_could {f : Addr} {cdv : Value} {A : Around} {outer : List Env} {s : Shared} {H : Hp} {E : XK} (T : Txt K mg) (hr : Room 6 (A.deeper (envOfC "ask_could" (C8.fnScope s_ask_could) s.heap.objs.size f cdv))) {sp_able_next : Sp} (c_able_next : C8.Cal P w K mg base 6 "able_next" sp_able_next []) {sp_with_row : Sp} (c_with_row : C8.Cal P w K mg base 1 "with_row" sp_with_row []) :
    PSs (cxOf C8.CX0 P w K mg base ["desk", "coming", "able"] "ask_could" (C8.fnScope s_ask_could) f cdv A outer s H E).nox (C8.fnBody s_ask_could) (t_ask_could K sp_able_next sp_with_row) :=
  (pss_cons (ps_if (pt_cmpR op_ne (pe_callB call_len_seq (by rfl) T.b_len PySem.boot_len (pa_cons (pv 1) pa_nil)) (pe_callB call_len_seq (by rfl) T.b_len PySem.boot_len (pa_cons (pe_fld (pv 0) rfl) pa_nil)) (nomark _)) (pss_one (ps_ret (pe_lst (pa_cons (pe_un un_neg pe_int) pa_nil)))) pss_nil) (pss_cons (ps_set (i := 2) sc_ask_could.nd rfl (Or.inl rfl) (C8.pe_c c_able_next hr (by decide) (by rfl) (pa_cons (pv 0) (pa_cons (pv 1) pa_nil)))) (pss_one (ps_ret (C8.pe_c c_with_row hr (by decide) (by rfl) (pa_cons (pe_callB (cr_sum rfl) (by rfl) T.b_sum boot_sum (pa_cons (pv 2) pa_nil)) (pa_cons (pv 2) pa_nil)))))))
-- ask_limits: slots 0 desk
theorem sc_ask_limits : FnScope ["desk"] ["desk"] (C8.fnScope s_ask_limits) := C8.fnScope_by (by decide +kernel)
def t_ask_limits (K : PySem.W.Frag) (sp_limits_now : Sp) (sp_with_row : Sp) : TS := (tRet (tCall sp_with_row [] C8.E0 (tCons (tC (.int 0)) (tCons (tCall sp_limits_now [] C8.E0 (tCons (tVar 0) tNil)) tNil))))
theorem dv_ask_limits {f : Addr} {cdv : Value} {A : Around} {outer : List Env} {s : Shared} {H : Hp} {E : XK} (T : Txt K mg) (hr : Room 4 (A.deeper (envOfC "ask_limits" (C8.fnScope s_ask_limits) s.heap.objs.size f cdv))) {sp_limits_now : Sp} (c_limits_now : C8.Cal P w K mg base 4 "limits_now" sp_limits_now []) {sp_with_row : Sp} (c_with_row : C8.Cal P w K mg base 1 "with_row" sp_with_row []) :
    PSs (cxOf C8.CX0 P w K mg base ["desk"] "ask_limits" (C8.fnScope s_ask_limits) f cdv A outer s H E).nox (C8.fnBody s_ask_limits) (t_ask_limits K sp_limits_now sp_with_row) :=
  (pss_one (ps_ret (C8.pe_c c_with_row hr (by decide) (by rfl) (pa_cons pe_int (pa_cons (C8.pe_c c_limits_now hr (by decide) (by rfl) (pa_cons (pv 0) pa_nil)) pa_nil)))))
-- ask_parts: slots 0 desk, 1 rule, 2 able, 3 shares
theorem sc_ask_parts : FnScope ["desk", "rule", "able", "shares"] ["desk", "rule", "able"] (C8.fnScope s_ask_parts) := C8.fnScope_by (by decide +kernel)
def t_ask_parts (K : PySem.W.Frag) (sp_is_able : Sp) (sp_limits_now : Sp) (sp_shares_by : Sp) (sp_with_row : Sp) : TS := (tSeq (tIfS (tOr (tTest (tOp qGt (tVar 1) (tC (.int 1)))) (tNot (tB (tCall sp_is_able [] C8.E0 (tCons (tVar 0) (tCons (tVar 2) tNil)))))) (tRet (tLst (tCons (tUn (rU fun i => .int (-i)) (tC (.int 1))) tNil))) tNext) (tSeq (tAsg (tCall sp_shares_by [] C8.E0 (tCons (tVar 1) (tCons (tFld K (tVar 0) "givers") (tCons (tVar 2) (tCons (tCall sp_limits_now [] C8.E0 (tCons (tVar 0) tNil)) tNil))))) (gName 3)) (tRet (tCall sp_with_row [] C8.E0 (tCons (tCB (rSum K) (tCons (tVar 3) tNil)) (tCons (tVar 3) tNil))))))
theorem dv_ask_parts {f : Addr} {cdv : Value} {A : Around} {outer : List Env} {s : Shared} {H : Hp} {E : XK} (T : Txt K mg) (hr : Room 6 (A.deeper (envOfC "ask_parts" (C8.fnScope s_ask_parts) s.heap.objs.size f cdv))) {sp_is_able : Sp} (c_is_able : C8.Cal P w K mg base 1 "is_able" sp_is_able []) {sp_limits_now : Sp} (c_limits_now : C8.Cal P w K mg base 4 "limits_now" sp_limits_now []) {sp_shares_by : Sp} (c_shares_by : C8.Cal P w K mg base 6 "shares_by" sp_shares_by []) {sp_with_row : Sp} (c_with_row : C8.Cal P w K mg base 1 "with_row" sp_with_row []) :
    PSs (cxOf C8.CX0 P w K mg base ["desk", "rule", "able", "shares"] "ask_parts" (C8.fnScope s_ask_parts) f cdv A outer s H E).nox (C8.fnBody s_ask_parts) (t_ask_parts K sp_is_able sp_limits_now sp_shares_by sp_with_row) :=
  (pss_cons (ps_if (PW.pt (pw_or (pt_cmpR op_gt (pv 1) (C8.pe_gc (by rfl) T.c_MOST_RULE) (nomark _)) (pw_or1 (pt_not (pt_val (C8.pe_c c_is_able hr (by decide) (by rfl) (pa_cons (pv 0) (pa_cons (pv 2) pa_nil)))))))) (pss_one (ps_ret (pe_lst (pa_cons (pe_un un_neg pe_int) pa_nil)))) pss_nil) (pss_cons (ps_set (i := 3) sc_ask_parts.nd rfl (Or.inl rfl) (C8.pe_c c_shares_by hr (by decide) (by rfl) (pa_cons (pv 1) (pa_cons (pe_fld (pv 0) rfl) (pa_cons (pv 2) (pa_cons (C8.pe_c c_limits_now hr (by decide) (by rfl) (pa_cons (pv 0) pa_nil)) pa_nil)))))) (pss_one (ps_ret (C8.pe_c c_with_row hr (by decide) (by rfl) (pa_cons (pe_callB (cr_sum rfl) (by rfl) T.b_sum boot_sum (pa_cons (pv 3) pa_nil)) (pa_cons (pv 3) pa_nil)))))))
-- ask_judge: slots 0 desk, 1 able, 2 shares
theorem sc_ask_judge : FnScope ["desk", "able", "shares"] ["desk", "able", "shares"] (C8.fnScope s_ask_judge) := C8.fnScope_by (by decide +kernel)
def t_ask_judge (K : PySem.W.Frag) (sp_is_able : Sp) (sp_judgement : Sp) (sp_limits_now : Sp) : TS := (tSeq (tIfS (tOr (tNot (tB (tCall sp_is_able [] C8.E0 (tCons (tVar 0) (tCons (tVar 1) tNil))))) (tTest (tOp rNe (tCB (rLenS K) (tCons (tVar 2) tNil)) (tCB (rLenS K) (tCons (tVar 1) tNil))))) (tRet (tLst (tCons (tUn (rU fun i => .int (-i)) (tC (.int 1))) tNil))) tNext) (tRet (tLst (tCons (tCall sp_judgement [] C8.E0 (tCons (tFld K (tVar 0) "givers") (tCons (tVar 1) (tCons (tVar 2) (tCons (tCall sp_limits_now [] C8.E0 (tCons (tVar 0) tNil)) tNil))))) tNil))))
theorem dv_ask_judge {f : Addr} {cdv : Value} {A : Around} {outer : List Env} {s : Shared} {H : Hp} {E : XK} (T : Txt K mg) (hr : Room 5 (A.deeper (envOfC "ask_judge" (C8.fnScope s_ask_judge) s.heap.objs.size f cdv))) {sp_is_able : Sp} (c_is_able : C8.Cal P w K mg base 1 "is_able" sp_is_able []) {sp_judgement : Sp} (c_judgement : C8.Cal P w K mg base 5 "judgement" sp_judgement []) {sp_limits_now : Sp} (c_limits_now : C8.Cal P w K mg base 4 "limits_now" sp_limits_now []) :
    PSs (cxOf C8.CX0 P w K mg base ["desk", "able", "shares"] "ask_judge" (C8.fnScope s_ask_judge) f cdv A outer s H E).nox (C8.fnBody s_ask_judge) (t_ask_judge K sp_is_able sp_judgement sp_limits_now) :=
  (pss_cons (ps_if (PW.pt (pw_or (pt_not (pt_val (C8.pe_c c_is_able hr (by decide) (by rfl) (pa_cons (pv 0) (pa_cons (pv 1) pa_nil))))) (pw_or1 (pt_cmpR op_ne (pe_callB call_len_seq (by rfl) T.b_len PySem.boot_len (pa_cons (pv 2) pa_nil)) (pe_callB call_len_seq (by rfl) T.b_len PySem.boot_len (pa_cons (pv 1) pa_nil)) (nomark _))))) (pss_one (ps_ret (pe_lst (pa_cons (pe_un un_neg pe_int) pa_nil)))) pss_nil) (pss_one (ps_ret (pe_lst (pa_cons (C8.pe_c c_judgement hr (by decide) (by rfl) (pa_cons (pe_fld (pv 0) rfl) (pa_cons (pv 1) (pa_cons (pv 2) (pa_cons (C8.pe_c c_limits_now hr (by decide) (by rfl) (pa_cons (pv 0) pa_nil)) pa_nil))))) pa_nil)))))
-- ask_prices: slots 0 desk, 1 able, 2 limits, 3 shares
theorem sc_ask_prices : FnScope ["desk", "able", "limits", "shares"] ["desk", "able"] (C8.fnScope s_ask_prices) := C8.fnScope_by (by decide +kernel)
def t_ask_prices (K : PySem.W.Frag) (sp_is_able : Sp) (sp_least_losing : Sp) (sp_limits_now : Sp) (sp_loss_of : Sp) (sp_prices_told : Sp) (sp_with_row : Sp) : TS := (tSeq (tIfS (tNot (tB (tCall sp_is_able [] C8.E0 (tCons (tVar 0) (tCons (tVar 1) tNil))))) (tRet (tLst (tCons (tUn (rU fun i => .int (-i)) (tC (.int 1))) tNil))) tNext) (tSeq (tAsg (tCall sp_limits_now [] C8.E0 (tCons (tVar 0) tNil)) (gName 2)) (tSeq (tAsg (tCall sp_least_losing [] C8.E0 (tCons (tFld K (tVar 0) "givers") (tCons (tVar 1) (tCons (tVar 2) tNil)))) (gName 3)) (tRet (tCall sp_with_row [] C8.E0 (tCons (tCall sp_loss_of [] C8.E0 (tCons (tFld K (tVar 0) "givers") (tCons (tVar 1) (tCons (tVar 3) tNil)))) (tCons (tCall sp_prices_told [] C8.E0 (tCons (tFld K (tVar 0) "givers") (tCons (tVar 1) (tCons (tVar 3) (tCons (tVar 2) tNil))))) tNil)))))))
theorem dv_ask_prices {f : Addr} {cdv : Value} {A : Around} {outer : List Env} {s : Shared} {H : Hp} {E : XK} (T : Txt K mg) (hr : Room 5 (A.deeper (envOfC "ask_prices" (C8.fnScope s_ask_prices) s.heap.objs.size f cdv))) {sp_is_able : Sp} (c_is_able : C8.Cal P w K mg base 1 "is_able" sp_is_able []) {sp_least_losing : Sp} (c_least_losing : C8.Cal P w K mg base 5 "least_losing" sp_least_losing []) {sp_limits_now : Sp} (c_limits_now : C8.Cal P w K mg base 4 "limits_now" sp_limits_now []) {sp_loss_of : Sp} (c_loss_of : C8.Cal P w K mg base 1 "loss_of" sp_loss_of []) {sp_prices_told : Sp} (c_prices_told : C8.Cal P w K mg base 3 "prices_told" sp_prices_told []) {sp_with_row : Sp} (c_with_row : C8.Cal P w K mg base 1 "with_row" sp_with_row []) :
    PSs (cxOf C8.CX0 P w K mg base ["desk", "able", "limits", "shares"] "ask_prices" (C8.fnScope s_ask_prices) f cdv A outer s H E).nox (C8.fnBody s_ask_prices) (t_ask_prices K sp_is_able sp_least_losing sp_limits_now sp_loss_of sp_prices_told sp_with_row) :=
  (pss_cons (ps_if (pt_not (pt_val (C8.pe_c c_is_able hr (by decide) (by rfl) (pa_cons (pv 0) (pa_cons (pv 1) pa_nil))))) (pss_one (ps_ret (pe_lst (pa_cons (pe_un un_neg pe_int) pa_nil)))) pss_nil) (pss_cons (ps_set (i := 2) sc_ask_prices.nd rfl (Or.inl rfl) (C8.pe_c c_limits_now hr (by decide) (by rfl) (pa_cons (pv 0) pa_nil))) (pss_cons (ps_set (i := 3) sc_ask_prices.nd rfl (Or.inl rfl) (C8.pe_c c_least_losing hr (by decide) (by rfl) (pa_cons (pe_fld (pv 0) rfl) (pa_cons (pv 1) (pa_cons (pv 2) pa_nil))))) (pss_one (ps_ret (C8.pe_c c_with_row hr (by decide) (by rfl) (pa_cons (C8.pe_c c_loss_of hr (by decide) (by rfl) (pa_cons (pe_fld (pv 0) rfl) (pa_cons (pv 1) (pa_cons (pv 3) pa_nil)))) (pa_cons (C8.pe_c c_prices_told hr (by decide) (by rfl) (pa_cons (pe_fld (pv 0) rfl) (pa_cons (pv 1) (pa_cons (pv 3) (pa_cons (pv 2) pa_nil))))) pa_nil))))))))
-- ask_proof: slots 0 desk, 1 able, 2 shares, 3 prices
theorem sc_ask_proof : FnScope ["desk", "able", "shares", "prices"] ["desk", "able", "shares", "prices"] (C8.fnScope s_ask_proof) := C8.fnScope_by (by decide +kernel)
def t_ask_proof (K : PySem.W.Frag) (sp_is_able : Sp) (sp_is_proof : Sp) (sp_limits_now : Sp) : TS := (tSeq (tIfS (tOr (tNot (tB (tCall sp_is_able [] C8.E0 (tCons (tVar 0) (tCons (tVar 1) tNil))))) (tOr (tTest (tOp rNe (tCB (rLenS K) (tCons (tVar 2) tNil)) (tCB (rLenS K) (tCons (tVar 1) tNil)))) (tTest (tOp rNe (tCB (rLenS K) (tCons (tVar 3) tNil)) (tC (.int 9)))))) (tRet (tLst (tCons (tUn (rU fun i => .int (-i)) (tC (.int 1))) tNil))) tNext) (tRet (tLst (tCons (tCB rInt1 (tCons (tCall sp_is_proof [] C8.E0 (tCons (tFld K (tVar 0) "givers") (tCons (tVar 1) (tCons (tVar 2) (tCons (tCall sp_limits_now [] C8.E0 (tCons (tVar 0) tNil)) (tCons (tVar 3) tNil)))))) tNil)) tNil))))
theorem dv_ask_proof {f : Addr} {cdv : Value} {A : Around} {outer : List Env} {s : Shared} {H : Hp} {E : XK} (T : Txt K mg) (hr : Room 4 (A.deeper (envOfC "ask_proof" (C8.fnScope s_ask_proof) s.heap.objs.size f cdv))) {sp_is_able : Sp} (c_is_able : C8.Cal P w K mg base 1 "is_able" sp_is_able []) {sp_is_proof : Sp} (c_is_proof : C8.Cal P w K mg base 3 "is_proof" sp_is_proof []) {sp_limits_now : Sp} (c_limits_now : C8.Cal P w K mg base 4 "limits_now" sp_limits_now []) :
    PSs (cxOf C8.CX0 P w K mg base ["desk", "able", "shares", "prices"] "ask_proof" (C8.fnScope s_ask_proof) f cdv A outer s H E).nox (C8.fnBody s_ask_proof) (t_ask_proof K sp_is_able sp_is_proof sp_limits_now) :=
  (pss_cons (ps_if (PW.pt (pw_or (pt_not (pt_val (C8.pe_c c_is_able hr (by decide) (by rfl) (pa_cons (pv 0) (pa_cons (pv 1) pa_nil))))) (pw_or (pt_cmpR op_ne (pe_callB call_len_seq (by rfl) T.b_len PySem.boot_len (pa_cons (pv 2) pa_nil)) (pe_callB call_len_seq (by rfl) T.b_len PySem.boot_len (pa_cons (pv 1) pa_nil)) (nomark _)) (pw_or1 (pt_cmpR op_ne (pe_callB call_len_seq (by rfl) T.b_len PySem.boot_len (pa_cons (pv 3) pa_nil)) (C8.pe_gc (by rfl) T.c_PRICES_ASKED) (nomark _)))))) (pss_one (ps_ret (pe_lst (pa_cons (pe_un un_neg pe_int) pa_nil)))) pss_nil) (pss_one (ps_ret (pe_lst (pa_cons (pe_callTy call_int1 (by rfl) T.b_int PySem.Pv.boot_int (pa_cons (C8.pe_c c_is_proof hr (by decide) (by rfl) (pa_cons (pe_fld (pv 0) rfl) (pa_cons (pv 1) (pa_cons (pv 2) (pa_cons (C8.pe_c c_limits_now hr (by decide) (by rfl) (pa_cons (pv 0) pa_nil)) (pa_cons (pv 3) pa_nil)))))) pa_nil)) pa_nil)))))
-- ask_binds: slots 0 desk, 1 able, 2 numbers
theorem sc_ask_binds : FnScope ["desk", "able", "numbers"] ["desk", "able"] (C8.fnScope s_ask_binds) := C8.fnScope_by (by decide +kernel)
def t_ask_binds (K : PySem.W.Frag) (sp_binding : Sp) (sp_is_able : Sp) (sp_with_row : Sp) : TS := (tSeq (tIfS (tNot (tB (tCall sp_is_able [] C8.E0 (tCons (tVar 0) (tCons (tVar 1) tNil))))) (tRet (tLst (tCons (tUn (rU fun i => .int (-i)) (tC (.int 1))) tNil))) tNext) (tSeq (tAsg (tCall sp_binding [] C8.E0 (tCons (tVar 0) (tCons (tVar 1) tNil))) (gName 2)) (tRet (tCall sp_with_row [] C8.E0 (tCons (tCB (rLenS K) (tCons (tVar 2) tNil)) (tCons (tVar 2) tNil))))))
theorem dv_ask_binds {f : Addr} {cdv : Value} {A : Around} {outer : List Env} {s : Shared} {H : Hp} {E : XK} (T : Txt K mg) (hr : Room 4 (A.deeper (envOfC "ask_binds" (C8.fnScope s_ask_binds) s.heap.objs.size f cdv))) {sp_binding : Sp} (c_binding : C8.Cal P w K mg base 4 "binding" sp_binding []) {sp_is_able : Sp} (c_is_able : C8.Cal P w K mg base 1 "is_able" sp_is_able []) {sp_with_row : Sp} (c_with_row : C8.Cal P w K mg base 1 "with_row" sp_with_row []) :
    PSs (cxOf C8.CX0 P w K mg base ["desk", "able", "numbers"] "ask_binds" (C8.fnScope s_ask_binds) f cdv A outer s H E).nox (C8.fnBody s_ask_binds) (t_ask_binds K sp_binding sp_is_able sp_with_row) :=
  (pss_cons (ps_if (pt_not (pt_val (C8.pe_c c_is_able hr (by decide) (by rfl) (pa_cons (pv 0) (pa_cons (pv 1) pa_nil))))) (pss_one (ps_ret (pe_lst (pa_cons (pe_un un_neg pe_int) pa_nil)))) pss_nil) (pss_cons (ps_set (i := 2) sc_ask_binds.nd rfl (Or.inl rfl) (C8.pe_c c_binding hr (by decide) (by rfl) (pa_cons (pv 0) (pa_cons (pv 1) pa_nil)))) (pss_one (ps_ret (C8.pe_c c_with_row hr (by decide) (by rfl) (pa_cons (pe_callB call_len_seq (by rfl) T.b_len PySem.boot_len (pa_cons (pv 2) pa_nil)) (pa_cons (pv 2) pa_nil)))))))
-- ask_clears: slots 0 desk, 1 able, 2 numbers
theorem sc_ask_clears : FnScope ["desk", "able", "numbers"] ["desk", "able"] (C8.fnScope s_ask_clears) := C8.fnScope_by (by decide +kernel)
def t_ask_clears (K : PySem.W.Frag) (sp_clearing : Sp) (sp_is_able : Sp) (sp_with_row : Sp) : TS := (tSeq (tIfS (tNot (tB (tCall sp_is_able [] C8.E0 (tCons (tVar 0) (tCons (tVar 1) tNil))))) (tRet (tLst (tCons (tUn (rU fun i => .int (-i)) (tC (.int 1))) tNil))) tNext) (tSeq (tAsg (tCall sp_clearing [] C8.E0 (tCons (tVar 0) (tCons (tVar 1) tNil))) (gName 2)) (tRet (tCall sp_with_row [] C8.E0 (tCons (tCB (rLenS K) (tCons (tVar 2) tNil)) (tCons (tVar 2) tNil))))))
theorem dv_ask_clears {f : Addr} {cdv : Value} {A : Around} {outer : List Env} {s : Shared} {H : Hp} {E : XK} (T : Txt K mg) (hr : Room 4 (A.deeper (envOfC "ask_clears" (C8.fnScope s_ask_clears) s.heap.objs.size f cdv))) {sp_clearing : Sp} (c_clearing : C8.Cal P w K mg base 4 "clearing" sp_clearing []) {sp_is_able : Sp} (c_is_able : C8.Cal P w K mg base 1 "is_able" sp_is_able []) {sp_with_row : Sp} (c_with_row : C8.Cal P w K mg base 1 "with_row" sp_with_row []) :
    PSs (cxOf C8.CX0 P w K mg base ["desk", "able", "numbers"] "ask_clears" (C8.fnScope s_ask_clears) f cdv A outer s H E).nox (C8.fnBody s_ask_clears) (t_ask_clears K sp_clearing sp_is_able sp_with_row) :=
  (pss_cons (ps_if (pt_not (pt_val (C8.pe_c c_is_able hr (by decide) (by rfl) (pa_cons (pv 0) (pa_cons (pv 1) pa_nil))))) (pss_one (ps_ret (pe_lst (pa_cons (pe_un un_neg pe_int) pa_nil)))) pss_nil) (pss_cons (ps_set (i := 2) sc_ask_clears.nd rfl (Or.inl rfl) (C8.pe_c c_clearing hr (by decide) (by rfl) (pa_cons (pv 0) (pa_cons (pv 1) pa_nil)))) (pss_one (ps_ret (C8.pe_c c_with_row hr (by decide) (by rfl) (pa_cons (pe_callB call_len_seq (by rfl) T.b_len PySem.boot_len (pa_cons (pv 2) pa_nil)) (pa_cons (pv 2) pa_nil)))))))
-- ask_lost: slots 0 desk, 1 number
theorem sc_ask_lost : FnScope ["desk", "number"] ["desk", "number"] (C8.fnScope s_ask_lost) := C8.fnScope_by (by decide +kernel)
def t_ask_lost (K : PySem.W.Frag) (sp_with_row : Sp) : TS := (tSeq (tIfS (tTest (tOp qGe (tVar 1) (tCB (rLenS K) (tCons (tFld K (tVar 0) "orders") tNil)))) (tRet (tLst (tCons (tUn (rU fun i => .int (-i)) (tC (.int 1))) tNil))) tNext) (tRet (tCall sp_with_row [] C8.E0 (tCons (tOp (rIxL K) (tFld K (tVar 0) "losses") (tVar 1)) (tCons (tLst (tCons (tOp (rIxL K) (tFld K (tVar 0) "in_force_for") (tVar 1)) tNil)) tNil)))))
theorem dv_ask_lost {f : Addr} {cdv : Value} {A : Around} {outer : List Env} {s : Shared} {H : Hp} {E : XK} (T : Txt K mg) (hr : Room 1 (A.deeper (envOfC "ask_lost" (C8.fnScope s_ask_lost) s.heap.objs.size f cdv))) {sp_with_row : Sp} (c_with_row : C8.Cal P w K mg base 1 "with_row" sp_with_row []) :
    PSs (cxOf C8.CX0 P w K mg base ["desk", "number"] "ask_lost" (C8.fnScope s_ask_lost) f cdv A outer s H E).nox (C8.fnBody s_ask_lost) (t_ask_lost K sp_with_row) :=
  (pss_cons (ps_if (pt_cmpR op_ge (pv 1) (pe_callB call_len_seq (by rfl) T.b_len PySem.boot_len (pa_cons (pe_fld (pv 0) rfl) pa_nil)) (nomark _)) (pss_one (ps_ret (pe_lst (pa_cons (pe_un un_neg pe_int) pa_nil)))) pss_nil) (pss_one (ps_ret (C8.pe_c c_with_row hr (by decide) (by rfl) (pa_cons (pe_ix ix_list (pe_fld (pv 0) rfl) (pv 1) (fun _ _ => rfl)) (pa_cons (pe_lst (pa_cons (pe_ix ix_list (pe_fld (pv 0) rfl) (pv 1) (fun _ _ => rfl)) pa_nil)) pa_nil))))))
-- ask_told: slots 0 desk, 1 number, 2 order
theorem sc_ask_told : FnScope ["desk", "number", "order"] ["desk", "number"] (C8.fnScope s_ask_told) := C8.fnScope_by (by decide +kernel)
def t_ask_told (K : PySem.W.Frag) (sp_with_row : Sp) : TS := (tSeq (tIfS (tTest (tOp qGe (tVar 1) (tCB (rLenS K) (tCons (tFld K (tVar 0) "orders") tNil)))) (tRet (tLst (tCons (tUn (rU fun i => .int (-i)) (tC (.int 1))) tNil))) tNext) (tSeq (tAsg (tOp (rIxL K) (tFld K (tVar 0) "orders") (tVar 1)) (gName 2)) (tRet (tCall sp_with_row [] C8.E0 (tCons (tC (.int 0)) (tCons (tLst (tCons (tFld K (tVar 2) "scope") (tCons (tFld K (tVar 2) "first") (tCons (tFld K (tVar 2) "end") (tCons (tFld K (tVar 2) "limit") (tCons (tFld K (tVar 2) "came") (tCons (tOp (rIxL K) (tFld K (tVar 0) "taken_back") (tVar 1)) tNil))))))) tNil))))))
theorem dv_ask_told {f : Addr} {cdv : Value} {A : Around} {outer : List Env} {s : Shared} {H : Hp} {E : XK} (T : Txt K mg) (hr : Room 1 (A.deeper (envOfC "ask_told" (C8.fnScope s_ask_told) s.heap.objs.size f cdv))) {sp_with_row : Sp} (c_with_row : C8.Cal P w K mg base 1 "with_row" sp_with_row []) :
    PSs (cxOf C8.CX0 P w K mg base ["desk", "number", "order"] "ask_told" (C8.fnScope s_ask_told) f cdv A outer s H E).nox (C8.fnBody s_ask_told) (t_ask_told K sp_with_row) :=
  (pss_cons (ps_if (pt_cmpR op_ge (pv 1) (pe_callB call_len_seq (by rfl) T.b_len PySem.boot_len (pa_cons (pe_fld (pv 0) rfl) pa_nil)) (nomark _)) (pss_one (ps_ret (pe_lst (pa_cons (pe_un un_neg pe_int) pa_nil)))) pss_nil) (pss_cons (ps_set (i := 2) sc_ask_told.nd rfl (Or.inl rfl) (pe_ix ix_list (pe_fld (pv 0) rfl) (pv 1) (fun _ _ => rfl))) (pss_one (ps_ret (C8.pe_c c_with_row hr (by decide) (by rfl) (pa_cons pe_int (pa_cons (pe_lst (pa_cons (pe_fld (pv 2) rfl) (pa_cons (pe_fld (pv 2) rfl) (pa_cons (pe_fld (pv 2) rfl) (pa_cons (pe_fld (pv 2) rfl) (pa_cons (pe_fld (pv 2) rfl) (pa_cons (pe_ix ix_list (pe_fld (pv 0) rfl) (pv 1) (fun _ _ => rfl)) pa_nil))))))) pa_nil)))))))
-- ask_state: slots 0 desk, 1 number, 2 runs, 3 absent
theorem sc_ask_state : FnScope ["desk", "number", "runs", "absent"] ["desk", "number"] (C8.fnScope s_ask_state) := C8.fnScope_by (by decide +kernel)
def t_ask_state (K : PySem.W.Frag) (sp_with_row : Sp) : TS := (tSeq (tIfS (tTest (tOp qGe (tVar 1) (tCB (rLenS K) (tCons (tFld K (tVar 0) "givers") tNil)))) (tRet (tLst (tCons (tUn (rU fun i => .int (-i)) (tC (.int 1))) tNil))) tNext) (tSeq (tAsg (tCB rInt1 (tCons (tOp (rIxL K) (tFld K (tVar 0) "runs") (tVar 1)) tNil)) (gName 2)) (tSeq (tAsg (tCB rInt1 (tCons (tOp (rIxL K) (tFld K (tVar 0) "absent") (tVar 1)) tNil)) (gName 3)) (tRet (tCall sp_with_row [] C8.E0 (tCons (tVar 2) (tCons (tLst (tCons (tOp (rIxL K) (tFld K (tVar 0) "waited") (tVar 1)) (tCons (tOp (rIxL K) (tFld K (tVar 0) "gave") (tVar 1)) (tCons (tOp (rIxL K) (tFld K (tVar 0) "gave_ever") (tVar 1)) (tCons (tVar 3) tNil))))) tNil)))))))
theorem dv_ask_state {f : Addr} {cdv : Value} {A : Around} {outer : List Env} {s : Shared} {H : Hp} {E : XK} (T : Txt K mg) (hr : Room 1 (A.deeper (envOfC "ask_state" (C8.fnScope s_ask_state) s.heap.objs.size f cdv))) {sp_with_row : Sp} (c_with_row : C8.Cal P w K mg base 1 "with_row" sp_with_row []) :
    PSs (cxOf C8.CX0 P w K mg base ["desk", "number", "runs", "absent"] "ask_state" (C8.fnScope s_ask_state) f cdv A outer s H E).nox (C8.fnBody s_ask_state) (t_ask_state K sp_with_row) :=
  (pss_cons (ps_if (pt_cmpR op_ge (pv 1) (pe_callB call_len_seq (by rfl) T.b_len PySem.boot_len (pa_cons (pe_fld (pv 0) rfl) pa_nil)) (nomark _)) (pss_one (ps_ret (pe_lst (pa_cons (pe_un un_neg pe_int) pa_nil)))) pss_nil) (pss_cons (ps_set (i := 2) sc_ask_state.nd rfl (Or.inl rfl) (pe_callTy call_int1 (by rfl) T.b_int PySem.Pv.boot_int (pa_cons (pe_ix ix_list (pe_fld (pv 0) rfl) (pv 1) (fun _ _ => rfl)) pa_nil))) (pss_cons (ps_set (i := 3) sc_ask_state.nd rfl (Or.inl rfl) (pe_callTy call_int1 (by rfl) T.b_int PySem.Pv.boot_int (pa_cons (pe_ix ix_list (pe_fld (pv 0) rfl) (pv 1) (fun _ _ => rfl)) pa_nil))) (pss_one (ps_ret (C8.pe_c c_with_row hr (by decide) (by rfl) (pa_cons (pv 2) (pa_cons (pe_lst (pa_cons (pe_ix ix_list (pe_fld (pv 0) rfl) (pv 1) (fun _ _ => rfl)) (pa_cons (pe_ix ix_list (pe_fld (pv 0) rfl) (pv 1) (fun _ _ => rfl)) (pa_cons (pe_ix ix_list (pe_fld (pv 0) rfl) (pv 1) (fun _ _ => rfl)) (pa_cons (pv 3) pa_nil))))) pa_nil))))))))
-- ask_sums: slots 0 desk, 1 given
theorem sc_ask_sums : FnScope ["desk", "given"] ["desk"] (C8.fnScope s_ask_sums) := C8.fnScope_by (by decide +kernel)
def t_ask_sums (K : PySem.W.Frag) (sp_with_row : Sp) : TS := (tSeq (tAsg (tCB (rSum K) (tCons (tFld K (tVar 0) "gave_ever") tNil)) (gName 1)) (tRet (tCall sp_with_row [] C8.E0 (tCons (tFld K (tVar 0) "quarter") (tCons (tLst (tCons (tFld K (tVar 0) "could_ever") (tCons (tVar 1) (tCons (tOp qSub (tFld K (tVar 0) "could_ever") (tVar 1)) tNil)))) tNil)))))
theorem dv_ask_sums {f : Addr} {cdv : Value} {A : Around} {outer : List Env} {s : Shared} {H : Hp} {E : XK} (T : Txt K mg) (hr : Room 1 (A.deeper (envOfC "ask_sums" (C8.fnScope s_ask_sums) s.heap.objs.size f cdv))) {sp_with_row : Sp} (c_with_row : C8.Cal P w K mg base 1 "with_row" sp_with_row []) :
    PSs (cxOf C8.CX0 P w K mg base ["desk", "given"] "ask_sums" (C8.fnScope s_ask_sums) f cdv A outer s H E).nox (C8.fnBody s_ask_sums) (t_ask_sums K sp_with_row) :=
  (pss_cons (ps_set (i := 1) sc_ask_sums.nd rfl (Or.inl rfl) (pe_callB (cr_sum rfl) (by rfl) T.b_sum boot_sum (pa_cons (pe_fld (pv 0) rfl) pa_nil))) (pss_one (ps_ret (C8.pe_c c_with_row hr (by decide) (by rfl) (pa_cons (pe_fld (pv 0) rfl) (pa_cons (pe_lst (pa_cons (pe_fld (pv 0) rfl) (pa_cons (pv 1) (pa_cons (pe_op op_sub (pe_fld (pv 0) rfl) (pv 1)) pa_nil)))) pa_nil))))))
-- ask_passes: slots 0 desk, 1 number, 2 micros
theorem sc_ask_passes : FnScope ["desk", "number", "micros"] ["desk", "number", "micros"] (C8.fnScope s_ask_passes) := C8.fnScope_by (by decide +kernel)
def t_ask_passes (K : PySem.W.Frag) (sp_passed : Sp) : TS := (tSeq (tIfS (tTest (tOp qGe (tVar 1) (tCB (rLenS K) (tCons (tFld K (tVar 0) "givers") tNil)))) (tRet (tLst (tCons (tUn (rU fun i => .int (-i)) (tC (.int 1))) tNil))) tNext) (tRet (tLst (tCons (tCall sp_passed [] C8.E0 (tCons (tOp (rIxL K) (tFld K (tVar 0) "givers") (tVar 1)) (tCons (tVar 2) tNil))) tNil))))
theorem dv_ask_passes {f : Addr} {cdv : Value} {A : Around} {outer : List Env} {s : Shared} {H : Hp} {E : XK} (T : Txt K mg) (hr : Room 3 (A.deeper (envOfC "ask_passes" (C8.fnScope s_ask_passes) s.heap.objs.size f cdv))) {sp_passed : Sp} (c_passed : C8.Cal P w K mg base 3 "passed" sp_passed []) :
    PSs (cxOf C8.CX0 P w K mg base ["desk", "number", "micros"] "ask_passes" (C8.fnScope s_ask_passes) f cdv A outer s H E).nox (C8.fnBody s_ask_passes) (t_ask_passes K sp_passed) :=
  (pss_cons (ps_if (pt_cmpR op_ge (pv 1) (pe_callB call_len_seq (by rfl) T.b_len PySem.boot_len (pa_cons (pe_fld (pv 0) rfl) pa_nil)) (nomark _)) (pss_one (ps_ret (pe_lst (pa_cons (pe_un un_neg pe_int) pa_nil)))) pss_nil) (pss_one (ps_ret (pe_lst (pa_cons (C8.pe_c c_passed hr (by decide) (by rfl) (pa_cons (pe_ix ix_list (pe_fld (pv 0) rfl) (pv 1) (fun _ _ => rfl)) (pa_cons (pv 2) pa_nil))) pa_nil)))))
-- read_rows: slots 0 calls, 1 at, 2 how_many, 3 rows, 4 row, 5 end
theorem sc_read_rows : FnScope ["calls", "at", "how_many", "rows", "row", "end"] ["calls", "at", "how_many"] (C8.fnScope s_read_rows) := C8.fnScope_by (by decide +kernel)
def t_read_rows (K : PySem.W.Frag) : TS := (tSeq (tAsg (tLst tNil) (gName 3)) (tSeq (tFor (iRng1 (tCons (tVar 2) tNil)) (gName 4) (tSeq (tAsg (tOp qAdd (tOp qAdd (tVar 1) (tC (.int 1))) (tOp (rIxL K) (tVar 0) (tVar 1))) (gName 5)) (tSeq (tDrop (tBM K "list" rAppend (tVar 3) (tCons (tSl (rSlL K) (tVar 0) (tPart (tOp qAdd (tVar 1) (tC (.int 1)))) (tPart (tVar 5))) tNil))) (tAsg (tVar 5) (gName 1))))) (tRet (tTup (tCons (tVar 3) (tCons (tVar 1) tNil))))))
theorem dv_read_rows {f : Addr} {cdv : Value} {A : Around} {outer : List Env} {s : Shared} {H : Hp} {E : XK} (T : Txt K mg) (hr : Room 0 (A.deeper (envOfC "read_rows" (C8.fnScope s_read_rows) s.heap.objs.size f cdv))) :
    PSs (cxOf C8.CX0 P w K mg base ["calls", "at", "how_many", "rows", "row", "end"] "read_rows" (C8.fnScope s_read_rows) f cdv A outer s H E).nox (C8.fnBody s_read_rows) (t_read_rows K) :=
  (pss_cons (ps_set (i := 3) sc_read_rows.nd rfl (Or.inl rfl) (pe_lst pa_nil)) (pss_cons (ps_for PassesOwn.never rfl (pi_range1 (by rfl) T.b_range (pa_cons (pv 2) pa_nil)) (pg_name (i := 4) sc_read_rows.nd rfl (Or.inl rfl)) (pss_cons (ps_set (i := 5) sc_read_rows.nd rfl (Or.inl rfl) (pe_op op_add (pe_op op_add (pv 1) pe_int) (pe_ix ix_list (pv 0) (pv 1) (fun _ _ => rfl)))) (pss_cons (ps_expr (pe_bm PySem.F.plainAttrs_list PySem.F.slot_list_append PySem.F.type_list_append mt_append (pv 3) (pa_cons (pe_slice sl_list (pv 0) (po_some (pe_op op_add (pv 1) pe_int)) (po_some (pv 5))) pa_nil))) (pss_one (ps_set (i := 1) sc_read_rows.nd rfl (Or.inl rfl) (pv 5)))))) (pss_one (ps_ret (pe_tup (pa_cons (pv 3) (pa_cons (pv 1) pa_nil)))))))
-- answer_change: slots 0 desk, 1 call, 2 numbers, 3 rows
theorem sc_answer_change : FnScope ["desk", "call", "numbers", "rows"] ["desk", "call", "numbers", "rows"] (C8.fnScope s_answer_change) := C8.fnScope_by (by decide +kernel)
def t_answer_change (K : PySem.W.Frag) (sp_tell_away : Sp) (sp_tell_back : Sp) (sp_tell_giver : Sp) (sp_tell_order : Sp) (sp_tell_quarter : Sp) (sp_tell_ramps : Sp) (sp_tell_rule : Sp) : TS := (tSeq (tIfS (tTest (tOp rEq (tVar 1) (tC (.int 0)))) (tRet (tCall sp_tell_giver [] C8.E0 (tCons (tVar 0) (tCons (tVar 2) (tCons (tOp (rIxL K) (tVar 3) (tC (.int 0))) tNil))))) tNext) (tSeq (tIfS (tTest (tOp rEq (tVar 1) (tC (.int 1)))) (tRet (tCall sp_tell_away [] C8.E0 (tCons (tVar 0) (tCons (tOp (rIxL K) (tVar 2) (tC (.int 0))) (tCons (tOp (rIxL K) (tVar 2) (tC (.int 1))) tNil))))) tNext) (tSeq (tIfS (tTest (tOp rEq (tVar 1) (tC (.int 2)))) (tRet (tCall sp_tell_ramps [] C8.E0 (tCons (tVar 0) (tCons (tOp (rIxL K) (tVar 2) (tC (.int 0))) (tCons (tOp (rIxL K) (tVar 2) (tC (.int 1))) tNil))))) tNext) (tSeq (tIfS (tTest (tOp rEq (tVar 1) (tC (.int 3)))) (tRet (tCall sp_tell_rule [] C8.E0 (tCons (tVar 0) (tCons (tOp (rIxL K) (tVar 2) (tC (.int 0))) tNil)))) tNext) (tSeq (tIfS (tTest (tOp rEq (tVar 1) (tC (.int 4)))) (tRet (tCall sp_tell_order [] C8.E0 (tCons (tVar 0) (tCons (tOp (rIxL K) (tVar 2) (tC (.int 0))) (tCons (tOp (rIxL K) (tVar 2) (tC (.int 1))) (tCons (tOp (rIxL K) (tVar 2) (tC (.int 2))) (tCons (tOp (rIxL K) (tVar 2) (tC (.int 3))) tNil))))))) tNext) (tSeq (tIfS (tTest (tOp rEq (tVar 1) (tC (.int 5)))) (tRet (tCall sp_tell_back [] C8.E0 (tCons (tVar 0) (tCons (tOp (rIxL K) (tVar 2) (tC (.int 0))) tNil)))) tNext) (tRet (tCall sp_tell_quarter [] C8.E0 (tCons (tVar 0) (tCons (tOp (rIxL K) (tVar 3) (tC (.int 0))) tNil))))))))))
theorem dv_answer_change {f : Addr} {cdv : Value} {A : Around} {outer : List Env} {s : Shared} {H : Hp} {E : XK} (T : Txt K mg) (hr : Room 8 (A.deeper (envOfC "answer_change" (C8.fnScope s_answer_change) s.heap.objs.size f cdv))) {sp_tell_away : Sp} (c_tell_away : C8.Cal P w K mg base 2 "tell_away" sp_tell_away []) {sp_tell_back : Sp} (c_tell_back : C8.Cal P w K mg base 2 "tell_back" sp_tell_back []) {sp_tell_giver : Sp} (c_tell_giver : C8.Cal P w K mg base 3 "tell_giver" sp_tell_giver []) {sp_tell_order : Sp} (c_tell_order : C8.Cal P w K mg base 3 "tell_order" sp_tell_order []) {sp_tell_quarter : Sp} (c_tell_quarter : C8.Cal P w K mg base 8 "tell_quarter" sp_tell_quarter []) {sp_tell_ramps : Sp} (c_tell_ramps : C8.Cal P w K mg base 1 "tell_ramps" sp_tell_ramps []) {sp_tell_rule : Sp} (c_tell_rule : C8.Cal P w K mg base 1 "tell_rule" sp_tell_rule []) :
    PSs (cxOf C8.CX0 P w K mg base ["desk", "call", "numbers", "rows"] "answer_change" (C8.fnScope s_answer_change) f cdv A outer s H E).nox (C8.fnBody s_answer_change) (t_answer_change K sp_tell_away sp_tell_back sp_tell_giver sp_tell_order sp_tell_quarter sp_tell_ramps sp_tell_rule) :=
  (pss_cons (ps_if (pt_cmpR op_eq (pv 1) (C8.pe_gc (by rfl) T.c_GIVER) (nomark _)) (pss_one (ps_ret (C8.pe_c c_tell_giver hr (by decide) (by rfl) (pa_cons (pv 0) (pa_cons (pv 2) (pa_cons (pe_ix ix_list (pv 3) pe_int (fun _ _ => rfl)) pa_nil)))))) pss_nil) (pss_cons (ps_if (pt_cmpR op_eq (pv 1) (C8.pe_gc (by rfl) T.c_AWAY) (nomark _)) (pss_one (ps_ret (C8.pe_c c_tell_away hr (by decide) (by rfl) (pa_cons (pv 0) (pa_cons (pe_ix ix_list (pv 2) pe_int (fun _ _ => rfl)) (pa_cons (pe_ix ix_list (pv 2) pe_int (fun _ _ => rfl)) pa_nil)))))) pss_nil) (pss_cons (ps_if (pt_cmpR op_eq (pv 1) (C8.pe_gc (by rfl) T.c_RAMPS) (nomark _)) (pss_one (ps_ret (C8.pe_c c_tell_ramps hr (by decide) (by rfl) (pa_cons (pv 0) (pa_cons (pe_ix ix_list (pv 2) pe_int (fun _ _ => rfl)) (pa_cons (pe_ix ix_list (pv 2) pe_int (fun _ _ => rfl)) pa_nil)))))) pss_nil) (pss_cons (ps_if (pt_cmpR op_eq (pv 1) (C8.pe_gc (by rfl) T.c_RULE) (nomark _)) (pss_one (ps_ret (C8.pe_c c_tell_rule hr (by decide) (by rfl) (pa_cons (pv 0) (pa_cons (pe_ix ix_list (pv 2) pe_int (fun _ _ => rfl)) pa_nil))))) pss_nil) (pss_cons (ps_if (pt_cmpR op_eq (pv 1) (C8.pe_gc (by rfl) T.c_ORDER) (nomark _)) (pss_one (ps_ret (C8.pe_c c_tell_order hr (by decide) (by rfl) (pa_cons (pv 0) (pa_cons (pe_ix ix_list (pv 2) pe_int (fun _ _ => rfl)) (pa_cons (pe_ix ix_list (pv 2) pe_int (fun _ _ => rfl)) (pa_cons (pe_ix ix_list (pv 2) pe_int (fun _ _ => rfl)) (pa_cons (pe_ix ix_list (pv 2) pe_int (fun _ _ => rfl)) pa_nil)))))))) pss_nil) (pss_cons (ps_if (pt_cmpR op_eq (pv 1) (C8.pe_gc (by rfl) T.c_BACK) (nomark _)) (pss_one (ps_ret (C8.pe_c c_tell_back hr (by decide) (by rfl) (pa_cons (pv 0) (pa_cons (pe_ix ix_list (pv 2) pe_int (fun _ _ => rfl)) pa_nil))))) pss_nil) (pss_one (ps_ret (C8.pe_c c_tell_quarter hr (by decide) (by rfl) (pa_cons (pv 0) (pa_cons (pe_ix ix_list (pv 3) pe_int (fun _ _ => rfl)) pa_nil)))))))))))
-- answer_remembered: slots 0 memory, 1 call, 2 numbers, 3 rows, 4 changed, 5 answer
theorem sc_answer_remembered : FnScope ["memory", "call", "numbers", "rows", "changed", "answer"] ["memory", "call", "numbers", "rows"] (C8.fnScope s_answer_remembered) := C8.fnScope_by (by decide +kernel)
def t_answer_remembered (K : PySem.W.Frag) (sp_answer_change : Sp) (sp_copy_of : Sp) (sp_take_over : Sp) : TS := (tSeq (tAsg (tCall sp_copy_of [] C8.E0 (tCons (tFld K (tVar 0) "desk") tNil)) (gName 4)) (tSeq (tAsg (tCall sp_answer_change [] C8.E0 (tCons (tVar 4) (tCons (tVar 1) (tCons (tVar 2) (tCons (tVar 3) tNil))))) (gName 5)) (tSeq (tIfS (tTest (tOp qGe (tOp (rIxL K) (tVar 5) (tC (.int 0))) (tC (.int 0)))) (tDrop (tCall sp_take_over [] C8.E0 (tCons (tVar 0) (tCons (tVar 4) tNil)))) tNext) (tRet (tVar 5)))))
theorem dv_answer_remembered {f : Addr} {cdv : Value} {A : Around} {outer : List Env} {s : Shared} {H : Hp} {E : XK} (T : Txt K mg) (hr : Room 9 (A.deeper (envOfC "answer_remembered" (C8.fnScope s_answer_remembered) s.heap.objs.size f cdv))) {sp_answer_change : Sp} (c_answer_change : C8.Cal P w K mg base 9 "answer_change" sp_answer_change []) {sp_copy_of : Sp} (c_copy_of : C8.Cal P w K mg base 3 "copy_of" sp_copy_of []) {sp_take_over : Sp} (c_take_over : C8.Cal P w K mg base 1 "take_over" sp_take_over []) :
    PSs (cxOf C8.CX0 P w K mg base ["memory", "call", "numbers", "rows", "changed", "answer"] "answer_remembered" (C8.fnScope s_answer_remembered) f cdv A outer s H E).nox (C8.fnBody s_answer_remembered) (t_answer_remembered K sp_answer_change sp_copy_of sp_take_over) :=
  (pss_cons (ps_set (i := 4) sc_answer_remembered.nd rfl (Or.inl rfl) (C8.pe_c c_copy_of hr (by decide) (by rfl) (pa_cons (pe_fld (pv 0) rfl) pa_nil))) (pss_cons (ps_set (i := 5) sc_answer_remembered.nd rfl (Or.inl rfl) (C8.pe_c c_answer_change hr (by decide) (by rfl) (pa_cons (pv 4) (pa_cons (pv 1) (pa_cons (pv 2) (pa_cons (pv 3) pa_nil)))))) (pss_cons (ps_if (pt_cmpR op_ge (pe_ix ix_list (pv 5) pe_int (fun _ _ => rfl)) pe_int (nomark _)) (pss_one (ps_expr (C8.pe_c c_take_over hr (by decide) (by rfl) (pa_cons (pv 0) (pa_cons (pv 4) pa_nil))))) pss_nil) (pss_one (ps_ret (pv 5))))))
-- answer_question: slots 0 desk, 1 call, 2 numbers, 3 rows
theorem sc_answer_question : FnScope ["desk", "call", "numbers", "rows"] ["desk", "call", "numbers", "rows"] (C8.fnScope s_answer_question) := C8.fnScope_by (by decide +kernel)
def t_answer_question (K : PySem.W.Frag) (sp_ask_binds : Sp) (sp_ask_clears : Sp) (sp_ask_could : Sp) (sp_ask_judge : Sp) (sp_ask_limits : Sp) (sp_ask_parts : Sp) (sp_ask_prices : Sp) (sp_ask_proof : Sp) : TS := (tSeq (tIfS (tTest (tOp rEq (tVar 1) (tC (.int 7)))) (tRet (tCall sp_ask_could [] C8.E0 (tCons (tVar 0) (tCons (tOp (rIxL K) (tVar 3) (tC (.int 0))) tNil)))) tNext) (tSeq (tIfS (tTest (tOp rEq (tVar 1) (tC (.int 8)))) (tRet (tCall sp_ask_limits [] C8.E0 (tCons (tVar 0) tNil))) tNext) (tSeq (tIfS (tTest (tOp rEq (tVar 1) (tC (.int 9)))) (tRet (tCall sp_ask_parts [] C8.E0 (tCons (tVar 0) (tCons (tOp (rIxL K) (tVar 2) (tC (.int 0))) (tCons (tOp (rIxL K) (tVar 3) (tC (.int 0))) tNil))))) tNext) (tSeq (tIfS (tTest (tOp rEq (tVar 1) (tC (.int 10)))) (tRet (tCall sp_ask_judge [] C8.E0 (tCons (tVar 0) (tCons (tOp (rIxL K) (tVar 3) (tC (.int 0))) (tCons (tOp (rIxL K) (tVar 3) (tC (.int 1))) tNil))))) tNext) (tSeq (tIfS (tTest (tOp rEq (tVar 1) (tC (.int 11)))) (tRet (tCall sp_ask_prices [] C8.E0 (tCons (tVar 0) (tCons (tOp (rIxL K) (tVar 3) (tC (.int 0))) tNil)))) tNext) (tSeq (tIfS (tTest (tOp rEq (tVar 1) (tC (.int 12)))) (tRet (tCall sp_ask_proof [] C8.E0 (tCons (tVar 0) (tCons (tOp (rIxL K) (tVar 3) (tC (.int 0))) (tCons (tOp (rIxL K) (tVar 3) (tC (.int 1))) (tCons (tOp (rIxL K) (tVar 3) (tC (.int 2))) tNil)))))) tNext) (tSeq (tIfS (tTest (tOp rEq (tVar 1) (tC (.int 15)))) (tRet (tCall sp_ask_binds [] C8.E0 (tCons (tVar 0) (tCons (tOp (rIxL K) (tVar 3) (tC (.int 0))) tNil)))) tNext) (tRet (tCall sp_ask_clears [] C8.E0 (tCons (tVar 0) (tCons (tOp (rIxL K) (tVar 3) (tC (.int 0))) tNil)))))))))))
theorem dv_answer_question {f : Addr} {cdv : Value} {A : Around} {outer : List Env} {s : Shared} {H : Hp} {E : XK} (T : Txt K mg) (hr : Room 7 (A.deeper (envOfC "answer_question" (C8.fnScope s_answer_question) s.heap.objs.size f cdv))) {sp_ask_binds : Sp} (c_ask_binds : C8.Cal P w K mg base 5 "ask_binds" sp_ask_binds []) {sp_ask_clears : Sp} (c_ask_clears : C8.Cal P w K mg base 5 "ask_clears" sp_ask_clears []) {sp_ask_could : Sp} (c_ask_could : C8.Cal P w K mg base 7 "ask_could" sp_ask_could []) {sp_ask_judge : Sp} (c_ask_judge : C8.Cal P w K mg base 6 "ask_judge" sp_ask_judge []) {sp_ask_limits : Sp} (c_ask_limits : C8.Cal P w K mg base 5 "ask_limits" sp_ask_limits []) {sp_ask_parts : Sp} (c_ask_parts : C8.Cal P w K mg base 7 "ask_parts" sp_ask_parts []) {sp_ask_prices : Sp} (c_ask_prices : C8.Cal P w K mg base 6 "ask_prices" sp_ask_prices []) {sp_ask_proof : Sp} (c_ask_proof : C8.Cal P w K mg base 5 "ask_proof" sp_ask_proof []) :
    PSs (cxOf C8.CX0 P w K mg base ["desk", "call", "numbers", "rows"] "answer_question" (C8.fnScope s_answer_question) f cdv A outer s H E).nox (C8.fnBody s_answer_question) (t_answer_question K sp_ask_binds sp_ask_clears sp_ask_could sp_ask_judge sp_ask_limits sp_ask_parts sp_ask_prices sp_ask_proof) :=
  (pss_cons (ps_if (pt_cmpR op_eq (pv 1) (C8.pe_gc (by rfl) T.c_COULD) (nomark _)) (pss_one (ps_ret (C8.pe_c c_ask_could hr (by decide) (by rfl) (pa_cons (pv 0) (pa_cons (pe_ix ix_list (pv 3) pe_int (fun _ _ => rfl)) pa_nil))))) pss_nil) (pss_cons (ps_if (pt_cmpR op_eq (pv 1) (C8.pe_gc (by rfl) T.c_LIMITS) (nomark _)) (pss_one (ps_ret (C8.pe_c c_ask_limits hr (by decide) (by rfl) (pa_cons (pv 0) pa_nil)))) pss_nil) (pss_cons (ps_if (pt_cmpR op_eq (pv 1) (C8.pe_gc (by rfl) T.c_PARTS) (nomark _)) (pss_one (ps_ret (C8.pe_c c_ask_parts hr (by decide) (by rfl) (pa_cons (pv 0) (pa_cons (pe_ix ix_list (pv 2) pe_int (fun _ _ => rfl)) (pa_cons (pe_ix ix_list (pv 3) pe_int (fun _ _ => rfl)) pa_nil)))))) pss_nil) (pss_cons (ps_if (pt_cmpR op_eq (pv 1) (C8.pe_gc (by rfl) T.c_JUDGE) (nomark _)) (pss_one (ps_ret (C8.pe_c c_ask_judge hr (by decide) (by rfl) (pa_cons (pv 0) (pa_cons (pe_ix ix_list (pv 3) pe_int (fun _ _ => rfl)) (pa_cons (pe_ix ix_list (pv 3) pe_int (fun _ _ => rfl)) pa_nil)))))) pss_nil) (pss_cons (ps_if (pt_cmpR op_eq (pv 1) (C8.pe_gc (by rfl) T.c_PRICES) (nomark _)) (pss_one (ps_ret (C8.pe_c c_ask_prices hr (by decide) (by rfl) (pa_cons (pv 0) (pa_cons (pe_ix ix_list (pv 3) pe_int (fun _ _ => rfl)) pa_nil))))) pss_nil) (pss_cons (ps_if (pt_cmpR op_eq (pv 1) (C8.pe_gc (by rfl) T.c_PROOF) (nomark _)) (pss_one (ps_ret (C8.pe_c c_ask_proof hr (by decide) (by rfl) (pa_cons (pv 0) (pa_cons (pe_ix ix_list (pv 3) pe_int (fun _ _ => rfl)) (pa_cons (pe_ix ix_list (pv 3) pe_int (fun _ _ => rfl)) (pa_cons (pe_ix ix_list (pv 3) pe_int (fun _ _ => rfl)) pa_nil))))))) pss_nil) (pss_cons (ps_if (pt_cmpR op_eq (pv 1) (C8.pe_gc (by rfl) T.c_BINDS) (nomark _)) (pss_one (ps_ret (C8.pe_c c_ask_binds hr (by decide) (by rfl) (pa_cons (pv 0) (pa_cons (pe_ix ix_list (pv 3) pe_int (fun _ _ => rfl)) pa_nil))))) pss_nil) (pss_one (ps_ret (C8.pe_c c_ask_clears hr (by decide) (by rfl) (pa_cons (pv 0) (pa_cons (pe_ix ix_list (pv 3) pe_int (fun _ _ => rfl)) pa_nil))))))))))))
-- answer_record: slots 0 desk, 1 call, 2 numbers
theorem sc_answer_record : FnScope ["desk", "call", "numbers"] ["desk", "call", "numbers"] (C8.fnScope s_answer_record) := C8.fnScope_by (by decide +kernel)
def t_answer_record (K : PySem.W.Frag) (sp_ask_lost : Sp) (sp_ask_passes : Sp) (sp_ask_state : Sp) (sp_ask_sums : Sp) (sp_ask_told : Sp) : TS := (tSeq (tIfS (tTest (tOp rEq (tVar 1) (tC (.int 13)))) (tRet (tCall sp_ask_lost [] C8.E0 (tCons (tVar 0) (tCons (tOp (rIxL K) (tVar 2) (tC (.int 0))) tNil)))) tNext) (tSeq (tIfS (tTest (tOp rEq (tVar 1) (tC (.int 14)))) (tRet (tCall sp_ask_told [] C8.E0 (tCons (tVar 0) (tCons (tOp (rIxL K) (tVar 2) (tC (.int 0))) tNil)))) tNext) (tSeq (tIfS (tTest (tOp rEq (tVar 1) (tC (.int 17)))) (tRet (tCall sp_ask_state [] C8.E0 (tCons (tVar 0) (tCons (tOp (rIxL K) (tVar 2) (tC (.int 0))) tNil)))) tNext) (tSeq (tIfS (tTest (tOp rEq (tVar 1) (tC (.int 18)))) (tRet (tCall sp_ask_sums [] C8.E0 (tCons (tVar 0) tNil))) tNext) (tRet (tCall sp_ask_passes [] C8.E0 (tCons (tVar 0) (tCons (tOp (rIxL K) (tVar 2) (tC (.int 0))) (tCons (tOp (rIxL K) (tVar 2) (tC (.int 1))) tNil)))))))))
theorem dv_answer_record {f : Addr} {cdv : Value} {A : Around} {outer : List Env} {s : Shared} {H : Hp} {E : XK} (T : Txt K mg) (hr : Room 4 (A.deeper (envOfC "answer_record" (C8.fnScope s_answer_record) s.heap.objs.size f cdv))) {sp_ask_lost : Sp} (c_ask_lost : C8.Cal P w K mg base 2 "ask_lost" sp_ask_lost []) {sp_ask_passes : Sp} (c_ask_passes : C8.Cal P w K mg base 4 "ask_passes" sp_ask_passes []) {sp_ask_state : Sp} (c_ask_state : C8.Cal P w K mg base 2 "ask_state" sp_ask_state []) {sp_ask_sums : Sp} (c_ask_sums : C8.Cal P w K mg base 2 "ask_sums" sp_ask_sums []) {sp_ask_told : Sp} (c_ask_told : C8.Cal P w K mg base 2 "ask_told" sp_ask_told []) :
    PSs (cxOf C8.CX0 P w K mg base ["desk", "call", "numbers"] "answer_record" (C8.fnScope s_answer_record) f cdv A outer s H E).nox (C8.fnBody s_answer_record) (t_answer_record K sp_ask_lost sp_ask_passes sp_ask_state sp_ask_sums sp_ask_told) :=
  (pss_cons (ps_if (pt_cmpR op_eq (pv 1) (C8.pe_gc (by rfl) T.c_LOST) (nomark _)) (pss_one (ps_ret (C8.pe_c c_ask_lost hr (by decide) (by rfl) (pa_cons (pv 0) (pa_cons (pe_ix ix_list (pv 2) pe_int (fun _ _ => rfl)) pa_nil))))) pss_nil) (pss_cons (ps_if (pt_cmpR op_eq (pv 1) (C8.pe_gc (by rfl) T.c_TOLD) (nomark _)) (pss_one (ps_ret (C8.pe_c c_ask_told hr (by decide) (by rfl) (pa_cons (pv 0) (pa_cons (pe_ix ix_list (pv 2) pe_int (fun _ _ => rfl)) pa_nil))))) pss_nil) (pss_cons (ps_if (pt_cmpR op_eq (pv 1) (C8.pe_gc (by rfl) T.c_STATE) (nomark _)) (pss_one (ps_ret (C8.pe_c c_ask_state hr (by decide) (by rfl) (pa_cons (pv 0) (pa_cons (pe_ix ix_list (pv 2) pe_int (fun _ _ => rfl)) pa_nil))))) pss_nil) (pss_cons (ps_if (pt_cmpR op_eq (pv 1) (C8.pe_gc (by rfl) T.c_SUMS) (nomark _)) (pss_one (ps_ret (C8.pe_c c_ask_sums hr (by decide) (by rfl) (pa_cons (pv 0) pa_nil)))) pss_nil) (pss_one (ps_ret (C8.pe_c c_ask_passes hr (by decide) (by rfl) (pa_cons (pv 0) (pa_cons (pe_ix ix_list (pv 2) pe_int (fun _ _ => rfl)) (pa_cons (pe_ix ix_list (pv 2) pe_int (fun _ _ => rfl)) pa_nil))))))))))
-- answer_turn: slots 0 memory, 1 call
theorem sc_answer_turn : FnScope ["memory", "call"] ["memory", "call"] (C8.fnScope s_answer_turn) := C8.fnScope_by (by decide +kernel)
def t_answer_turn (K : PySem.W.Frag) (sp_tell_begin : Sp) (sp_tell_redo : Sp) (sp_tell_undo : Sp) : TS := (tSeq (tIfS (tTest (tOp rEq (tVar 1) (tC (.int 20)))) (tRet (tCall sp_tell_undo [] C8.E0 (tCons (tVar 0) tNil))) tNext) (tSeq (tIfS (tTest (tOp rEq (tVar 1) (tC (.int 21)))) (tRet (tCall sp_tell_redo [] C8.E0 (tCons (tVar 0) tNil))) tNext) (tRet (tCall sp_tell_begin [] C8.E0 (tCons (tVar 0) tNil)))))
theorem dv_answer_turn {f : Addr} {cdv : Value} {A : Around} {outer : List Env} {s : Shared} {H : Hp} {E : XK} (T : Txt K mg) (hr : Room 3 (A.deeper (envOfC "answer_turn" (C8.fnScope s_answer_turn) s.heap.objs.size f cdv))) {sp_tell_begin : Sp} (c_tell_begin : C8.Cal P w K mg base 3 "tell_begin" sp_tell_begin []) {sp_tell_redo : Sp} (c_tell_redo : C8.Cal P w K mg base 1 "tell_redo" sp_tell_redo []) {sp_tell_undo : Sp} (c_tell_undo : C8.Cal P w K mg base 1 "tell_undo" sp_tell_undo []) :
    PSs (cxOf C8.CX0 P w K mg base ["memory", "call"] "answer_turn" (C8.fnScope s_answer_turn) f cdv A outer s H E).nox (C8.fnBody s_answer_turn) (t_answer_turn K sp_tell_begin sp_tell_redo sp_tell_undo) :=
  (pss_cons (ps_if (pt_cmpR op_eq (pv 1) (C8.pe_gc (by rfl) T.c_UNDO) (nomark _)) (pss_one (ps_ret (C8.pe_c c_tell_undo hr (by decide) (by rfl) (pa_cons (pv 0) pa_nil)))) pss_nil) (pss_cons (ps_if (pt_cmpR op_eq (pv 1) (C8.pe_gc (by rfl) T.c_REDO) (nomark _)) (pss_one (ps_ret (C8.pe_c c_tell_redo hr (by decide) (by rfl) (pa_cons (pv 0) pa_nil)))) pss_nil) (pss_one (ps_ret (C8.pe_c c_tell_begin hr (by decide) (by rfl) (pa_cons (pv 0) pa_nil))))))
-- answer_call: slots 0 memory, 1 call, 2 numbers, 3 rows
theorem sc_answer_call : FnScope ["memory", "call", "numbers", "rows"] ["memory", "call", "numbers", "rows"] (C8.fnScope s_answer_call) := C8.fnScope_by (by decide +kernel)
def t_answer_call (K : PySem.W.Frag) (sp_answer_question : Sp) (sp_answer_record : Sp) (sp_answer_remembered : Sp) (sp_answer_turn : Sp) : TS := (tSeq (tIfS (tTest (tOp qLe (tVar 1) (tC (.int 6)))) (tRet (tCall sp_answer_remembered [] C8.E0 (tCons (tVar 0) (tCons (tVar 1) (tCons (tVar 2) (tCons (tVar 3) tNil)))))) tNext) (tSeq (tIfS (tTest (tOp qGe (tVar 1) (tC (.int 20)))) (tRet (tCall sp_answer_turn [] C8.E0 (tCons (tVar 0) (tCons (tVar 1) tNil)))) tNext) (tSeq (tIfS (tTest (tOp (rIn K false) (tVar 1) (tTup (tCons (tC (.int 13)) (tCons (tC (.int 14)) (tCons (tC (.int 17)) (tCons (tC (.int 18)) (tCons (tC (.int 19)) tNil)))))))) (tRet (tCall sp_answer_record [] C8.E0 (tCons (tFld K (tVar 0) "desk") (tCons (tVar 1) (tCons (tVar 2) tNil))))) tNext) (tRet (tCall sp_answer_question [] C8.E0 (tCons (tFld K (tVar 0) "desk") (tCons (tVar 1) (tCons (tVar 2) (tCons (tVar 3) tNil)))))))))
theorem dv_answer_call {f : Addr} {cdv : Value} {A : Around} {outer : List Env} {s : Shared} {H : Hp} {E : XK} (T : Txt K mg) (hr : Room 10 (A.deeper (envOfC "answer_call" (C8.fnScope s_answer_call) s.heap.objs.size f cdv))) {sp_answer_question : Sp} (c_answer_question : C8.Cal P w K mg base 8 "answer_question" sp_answer_question []) {sp_answer_record : Sp} (c_answer_record : C8.Cal P w K mg base 5 "answer_record" sp_answer_record []) {sp_answer_remembered : Sp} (c_answer_remembered : C8.Cal P w K mg base 10 "answer_remembered" sp_answer_remembered []) {sp_answer_turn : Sp} (c_answer_turn : C8.Cal P w K mg base 4 "answer_turn" sp_answer_turn []) :
    PSs (cxOf C8.CX0 P w K mg base ["memory", "call", "numbers", "rows"] "answer_call" (C8.fnScope s_answer_call) f cdv A outer s H E).nox (C8.fnBody s_answer_call) (t_answer_call K sp_answer_question sp_answer_record sp_answer_remembered sp_answer_turn) :=
  (pss_cons (ps_if (pt_cmpR op_le (pv 1) (C8.pe_gc (by rfl) T.c_QUARTER) (nomark _)) (pss_one (ps_ret (C8.pe_c c_answer_remembered hr (by decide) (by rfl) (pa_cons (pv 0) (pa_cons (pv 1) (pa_cons (pv 2) (pa_cons (pv 3) pa_nil))))))) pss_nil) (pss_cons (ps_if (pt_cmpR op_ge (pv 1) (C8.pe_gc (by rfl) T.c_UNDO) (nomark _)) (pss_one (ps_ret (C8.pe_c c_answer_turn hr (by decide) (by rfl) (pa_cons (pv 0) (pa_cons (pv 1) pa_nil))))) pss_nil) (pss_cons (ps_if (pt_cmpR op_in_seq (pv 1) (pe_tup (pa_cons (C8.pe_gc (by rfl) T.c_LOST) (pa_cons (C8.pe_gc (by rfl) T.c_TOLD) (pa_cons (C8.pe_gc (by rfl) T.c_STATE) (pa_cons (C8.pe_gc (by rfl) T.c_SUMS) (pa_cons (C8.pe_gc (by rfl) T.c_PASSES) pa_nil)))))) (by rfl)) (pss_one (ps_ret (C8.pe_c c_answer_record hr (by decide) (by rfl) (pa_cons (pe_fld (pv 0) rfl) (pa_cons (pv 1) (pa_cons (pv 2) pa_nil)))))) pss_nil) (pss_one (ps_ret (C8.pe_c c_answer_question hr (by decide) (by rfl) (pa_cons (pe_fld (pv 0) rfl) (pa_cons (pv 1) (pa_cons (pv 2) (pa_cons (pv 3) pa_nil))))))))))
-- answers: slots 0 calls, 1 memory, 2 told, 3 at, 4 call, 5 form, 6 behind, 7 rows_end, 8 answer
theorem sc_answers : FnScope ["calls", "memory", "told", "at", "call", "form", "behind", "rows_end", "answer"] ["calls"] (C8.fnScope s_answers) := C8.fnScope_by (by decide +kernel)
def t_answers (K : PySem.W.Frag) (a_FORMS : Addr) (C_Memory : Addr) (sp_Memory : Sp) (sp_answer_call : Sp) (sp_read_rows : Sp) : TS := (tSeq (tAsg (tMake C_Memory sp_Memory [] C8.E0 tNil) (gName 1)) (tSeq (tAsg (tLst tNil) (gName 2)) (tSeq (tAsg (tC (.int 0)) (gName 3)) (tSeq (tWhile (tTest (tOp qLt (tVar 3) (tCB (rLenS K) (tCons (tVar 0) tNil)))) (tSeq (tAsg (tOp (rIxL K) (tVar 0) (tVar 3)) (gName 4)) (tSeq (tAsg (tOp (rIxT K) (tC (.ref a_FORMS)) (tVar 4)) (gName 5)) (tSeq (tAsg (tOp qAdd (tOp qAdd (tVar 3) (tC (.int 1))) (tOp (rIxT K) (tVar 5) (tC (.int 0)))) (gName 6)) (tSeq (tAsg (tCall sp_read_rows [] C8.E0 (tCons (tVar 0) (tCons (tVar 6) (tCons (tOp (rIxT K) (tVar 5) (tC (.int 1))) tNil)))) (gName 7)) (tSeq (tAsg (tCall sp_answer_call [] C8.E0 (tCons (tVar 1) (tCons (tVar 4) (tCons (tSl (rSlL K) (tVar 0) (tPart (tOp qAdd (tVar 3) (tC (.int 1)))) (tPart (tVar 6))) (tCons (tOp (rIxT K) (tVar 7) (tC (.int 0))) tNil))))) (gName 8)) (tSeq (tDrop (tBM K "list" rAppend (tVar 2) (tCons (tCB (rLenS K) (tCons (tVar 8) tNil)) tNil))) (tSeq (tDrop (tBM K "list" rExtend (tVar 2) (tCons (tVar 8) tNil))) (tAsg (tOp (rIxT K) (tVar 7) (tC (.int 1))) (gName 3)))))))))) (tRet (tVar 2))))))
theorem dv_answers {f : Addr} {cdv : Value} {A : Around} {outer : List Env} {s : Shared} {H : Hp} {E : XK} (T : Txt K mg) (hr : Room 11 (A.deeper (envOfC "answers" (C8.fnScope s_answers) s.heap.objs.size f cdv))) {a_FORMS : Addr} (h_FORMS : ∃ u, mg "FORMS" = some u ∧ RelV (.ref a_FORMS) u) {C_Memory : Addr} {sp_Memory : Sp} (c_Memory : C8.Mak P w K mg base 3 "Memory" C_Memory sp_Memory []) {sp_answer_call : Sp} (c_answer_call : C8.Cal P w K mg base 11 "answer_call" sp_answer_call []) {sp_read_rows : Sp} (c_read_rows : C8.Cal P w K mg base 1 "read_rows" sp_read_rows []) :
    PSs (cxOf C8.CX0 P w K mg base ["calls", "memory", "told", "at", "call", "form", "behind", "rows_end", "answer"] "answers" (C8.fnScope s_answers) f cdv A outer s H E).nox (C8.fnBody s_answers) (t_answers K a_FORMS C_Memory sp_Memory sp_answer_call sp_read_rows) :=
  (pss_cons (ps_set (i := 1) sc_answers.nd rfl (Or.inl rfl) (pe_mk0 c_Memory hr (by decide) (by rfl))) (pss_cons (ps_set (i := 2) sc_answers.nd rfl (Or.inl rfl) (pe_lst pa_nil)) (pss_cons (ps_set (i := 3) sc_answers.nd rfl (Or.inl rfl) pe_int) (pss_cons (ps_while PassesOwn.never (pt_cmpR op_lt (pv 3) (pe_callB call_len_seq (by rfl) T.b_len PySem.boot_len (pa_cons (pv 0) pa_nil)) (nomark _)) (pss_cons (ps_set (i := 4) sc_answers.nd rfl (Or.inl rfl) (pe_ix ix_list (pv 0) (pv 3) (fun _ _ => rfl))) (pss_cons (ps_set (i := 5) sc_answers.nd rfl (Or.inl rfl) (pe_ix ix_tup (C8.pe_gc (by rfl) h_FORMS) (pv 4) (fun _ _ => rfl))) (pss_cons (ps_set (i := 6) sc_answers.nd rfl (Or.inl rfl) (pe_op op_add (pe_op op_add (pv 3) pe_int) (pe_ix ix_tup (pv 5) pe_int (fun _ _ => rfl)))) (pss_cons (ps_set (i := 7) sc_answers.nd rfl (Or.inl rfl) (C8.pe_c c_read_rows hr (by decide) (by rfl) (pa_cons (pv 0) (pa_cons (pv 6) (pa_cons (pe_ix ix_tup (pv 5) pe_int (fun _ _ => rfl)) pa_nil))))) (pss_cons (ps_set (i := 8) sc_answers.nd rfl (Or.inl rfl) (C8.pe_c c_answer_call hr (by decide) (by rfl) (pa_cons (pv 1) (pa_cons (pv 4) (pa_cons (pe_slice sl_list (pv 0) (po_some (pe_op op_add (pv 3) pe_int)) (po_some (pv 6))) (pa_cons (pe_ix ix_tup (pv 7) pe_int (fun _ _ => rfl)) pa_nil)))))) (pss_cons (ps_expr (pe_bm PySem.F.plainAttrs_list PySem.F.slot_list_append PySem.F.type_list_append mt_append (pv 2) (pa_cons (pe_callB call_len_seq (by rfl) T.b_len PySem.boot_len (pa_cons (pv 8) pa_nil)) pa_nil))) (pss_cons (ps_expr (pe_bm PySem.F.plainAttrs_list PySem.F.slot_list_extend PySem.F.type_list_extend mt_extend (pv 2) (pa_cons (pv 8) pa_nil))) (pss_one (ps_set (i := 3) sc_answers.nd rfl (Or.inl rfl) (pe_ix ix_tup (pv 7) pe_int (fun _ _ => rfl)))))))))))) (pss_one (ps_ret (pv 2)))))))
-- Giver__init__: slots 0 self, 1 kind, 2 most, 3 start, 4 stop, 5 wait, 6 up, 7 worth, 8 table
theorem sc_Giver__init__ : FnScope ["self", "kind", "most", "start", "stop", "wait", "up", "worth", "table"] ["self", "kind", "most", "start", "stop", "wait", "up", "worth", "table"] (C8.fnScope s_Giver__init__) := C8.fnScope_by (by decide +kernel)
def t_Giver__init__ (K : PySem.W.Frag) : TS := (tSeq (sFld K (tVar 0) (tVar 1) "kind") (tSeq (sFld K (tVar 0) (tVar 2) "most") (tSeq (sFld K (tVar 0) (tVar 3) "start") (tSeq (sFld K (tVar 0) (tVar 4) "stop") (tSeq (sFld K (tVar 0) (tVar 5) "wait") (tSeq (sFld K (tVar 0) (tVar 6) "up") (tSeq (sFld K (tVar 0) (tVar 7) "worth") (sFld K (tVar 0) (tVar 8) "table"))))))))
theorem dv_Giver__init__ {f : Addr} {cdv : Value} {A : Around} {outer : List Env} {s : Shared} {H : Hp} {E : XK} (T : Txt K mg) (hr : Room 0 (A.deeper (envOfC "Giver.__init__" (C8.fnScope s_Giver__init__) s.heap.objs.size f cdv))) :
    PSs (cxOf C8.CX0 P w K mg base ["self", "kind", "most", "start", "stop", "wait", "up", "worth", "table"] "Giver.__init__" (C8.fnScope s_Giver__init__) f cdv A outer s H E).nox (C8.fnBody s_Giver__init__) (t_Giver__init__ K) :=
  (pss_cons (ps_fld (pv 0) (pv 1) rfl) (pss_cons (ps_fld (pv 0) (pv 2) rfl) (pss_cons (ps_fld (pv 0) (pv 3) rfl) (pss_cons (ps_fld (pv 0) (pv 4) rfl) (pss_cons (ps_fld (pv 0) (pv 5) rfl) (pss_cons (ps_fld (pv 0) (pv 6) rfl) (pss_cons (ps_fld (pv 0) (pv 7) rfl) (pss_one (ps_fld (pv 0) (pv 8) rfl)))))))))
-- Order__init__: slots 0 self, 1 scope, 2 first, 3 end, 4 limit, 5 came
theorem sc_Order__init__ : FnScope ["self", "scope", "first", "end", "limit", "came"] ["self", "scope", "first", "end", "limit", "came"] (C8.fnScope s_Order__init__) := C8.fnScope_by (by decide +kernel)
def t_Order__init__ (K : PySem.W.Frag) : TS := (tSeq (sFld K (tVar 0) (tVar 1) "scope") (tSeq (sFld K (tVar 0) (tVar 2) "first") (tSeq (sFld K (tVar 0) (tVar 3) "end") (tSeq (sFld K (tVar 0) (tVar 4) "limit") (sFld K (tVar 0) (tVar 5) "came")))))
theorem dv_Order__init__ {f : Addr} {cdv : Value} {A : Around} {outer : List Env} {s : Shared} {H : Hp} {E : XK} (T : Txt K mg) (hr : Room 0 (A.deeper (envOfC "Order.__init__" (C8.fnScope s_Order__init__) s.heap.objs.size f cdv))) :
    PSs (cxOf C8.CX0 P w K mg base ["self", "scope", "first", "end", "limit", "came"] "Order.__init__" (C8.fnScope s_Order__init__) f cdv A outer s H E).nox (C8.fnBody s_Order__init__) (t_Order__init__ K) :=
  (pss_cons (ps_fld (pv 0) (pv 1) rfl) (pss_cons (ps_fld (pv 0) (pv 2) rfl) (pss_cons (ps_fld (pv 0) (pv 3) rfl) (pss_cons (ps_fld (pv 0) (pv 4) rfl) (pss_one (ps_fld (pv 0) (pv 5) rfl))))))
-- Desk__init__: slots 0 self
theorem sc_Desk__init__ : FnScope ["self"] ["self"] (C8.fnScope s_Desk__init__) := C8.fnScope_by (by decide +kernel)
def t_Desk__init__ (K : PySem.W.Frag) : TS := (tSeq (sFld K (tVar 0) (tLst tNil) "givers") (tSeq (sFld K (tVar 0) (tLst tNil) "runs") (tSeq (sFld K (tVar 0) (tLst tNil) "waited") (tSeq (sFld K (tVar 0) (tLst tNil) "absent") (tSeq (sFld K (tVar 0) (tLst tNil) "gave") (tSeq (sFld K (tVar 0) (tLst tNil) "gave_ever") (tSeq (sFld K (tVar 0) (tLst tNil) "orders") (tSeq (sFld K (tVar 0) (tLst tNil) "taken_back") (tSeq (sFld K (tVar 0) (tLst tNil) "in_force_for") (tSeq (sFld K (tVar 0) (tLst tNil) "losses") (tSeq (sFld K (tVar 0) (tC (.int 4294967295)) "up") (tSeq (sFld K (tVar 0) (tC (.int 4294967295)) "down") (tSeq (sFld K (tVar 0) (tC (.int 0)) "rule") (tSeq (sFld K (tVar 0) (tC (.int 0)) "quarter") (sFld K (tVar 0) (tC (.int 0)) "could_ever")))))))))))))))
theorem dv_Desk__init__ {f : Addr} {cdv : Value} {A : Around} {outer : List Env} {s : Shared} {H : Hp} {E : XK} (T : Txt K mg) (hr : Room 0 (A.deeper (envOfC "Desk.__init__" (C8.fnScope s_Desk__init__) s.heap.objs.size f cdv))) :
    PSs (cxOf C8.CX0 P w K mg base ["self"] "Desk.__init__" (C8.fnScope s_Desk__init__) f cdv A outer s H E).nox (C8.fnBody s_Desk__init__) (t_Desk__init__ K) :=
  (pss_cons (ps_fld (pv 0) (pe_lst pa_nil) rfl) (pss_cons (ps_fld (pv 0) (pe_lst pa_nil) rfl) (pss_cons (ps_fld (pv 0) (pe_lst pa_nil) rfl) (pss_cons (ps_fld (pv 0) (pe_lst pa_nil) rfl) (pss_cons (ps_fld (pv 0) (pe_lst pa_nil) rfl) (pss_cons (ps_fld (pv 0) (pe_lst pa_nil) rfl) (pss_cons (ps_fld (pv 0) (pe_lst pa_nil) rfl) (pss_cons (ps_fld (pv 0) (pe_lst pa_nil) rfl) (pss_cons (ps_fld (pv 0) (pe_lst pa_nil) rfl) (pss_cons (ps_fld (pv 0) (pe_lst pa_nil) rfl) (pss_cons (ps_fld (pv 0) (C8.pe_gc (by rfl) T.c_MOST_NUMBER) rfl) (pss_cons (ps_fld (pv 0) (C8.pe_gc (by rfl) T.c_MOST_NUMBER) rfl) (pss_cons (ps_fld (pv 0) pe_int rfl) (pss_cons (ps_fld (pv 0) pe_int rfl) (pss_one (ps_fld (pv 0) pe_int rfl))))))))))))))))
-- Memory__init__: slots 0 self
theorem sc_Memory__init__ : FnScope ["self"] ["self"] (C8.fnScope s_Memory__init__) := C8.fnScope_by (by decide +kernel)
def t_Memory__init__ (K : PySem.W.Frag) (C_Desk : Addr) (sp_Desk : Sp) : TS := (tSeq (sFld K (tVar 0) (tMake C_Desk sp_Desk [] C8.E0 tNil) "desk") (tSeq (sFld K (tVar 0) (tLst tNil) "earlier") (sFld K (tVar 0) (tLst tNil) "undone")))
theorem dv_Memory__init__ {f : Addr} {cdv : Value} {A : Around} {outer : List Env} {s : Shared} {H : Hp} {E : XK} (T : Txt K mg) (hr : Room 2 (A.deeper (envOfC "Memory.__init__" (C8.fnScope s_Memory__init__) s.heap.objs.size f cdv))) {C_Desk : Addr} {sp_Desk : Sp} (c_Desk : C8.Mak P w K mg base 1 "Desk" C_Desk sp_Desk []) :
    PSs (cxOf C8.CX0 P w K mg base ["self"] "Memory.__init__" (C8.fnScope s_Memory__init__) f cdv A outer s H E).nox (C8.fnBody s_Memory__init__) (t_Memory__init__ K C_Desk sp_Desk) :=
  (pss_cons (ps_fld (pv 0) (pe_mk0 c_Desk hr (by decide) (by rfl)) rfl) (pss_cons (ps_fld (pv 0) (pe_lst pa_nil) rfl) (pss_one (ps_fld (pv 0) (pe_lst pa_nil) rfl))))
end
end Pp
end
section
set_option Elab.async false
set_option linter.all false
set_option maxRecDepth 100000
set_option maxHeartbeats 2000000
namespace Pp
open PySem PySem.Spec PyProof.Rows L2 Evl
/-! ### tables -/
def sp_is_table (K : PySem.W.Frag) : Sp := fun vs H Q _ => ∃ (a : Addr) (row : List Nat), vs = [.ref a] ∧ SqL K H a (nvs row) ∧ row.length ≤ 20000 ∧ ∀ b, (b = true ↔ isTable row) → RetV (.bl b) H Q
theorem fits_small {z : Int} (h1 : -1000000 ≤ z) (h2 : z ≤ 1000000) : Builtin.Range.rangeFitsLong z = true := by
  unfold Builtin.Range.rangeFitsLong
  rw [Bool.and_eq_true, decide_eq_true_eq, decide_eq_true_eq]
  omega
theorem size_two (n : Nat) : Builtin.Range.rangeSize 2 (n : Int) 2 = (((n - 1) / 2 : Nat) : Int) := by
  show (if (2 : Int) > 0 then (if (2 : Int) < (n : Int) then ((n : Int) - 2 - 1) / 2 + 1 else 0) else _) = _
  rw [if_pos (by decide)]
  split <;> omega
theorem rgC2 (n : Nat) (h : n ≤ 20000) : RgC 2 (n : Int) 2 ((n - 1) / 2) := by
  refine ⟨by decide, by decide, ?_, size_two n⟩
  unfold Builtin.Range.small
  rw [size_two, if_pos (by decide), fits_small (by omega) (by omega), fits_small (by omega) (by omega), fits_small (by omega) (by omega), fits_small (by omega) (by omega)]
  simp
theorem pure_is_table {K : PySem.W.Frag} {vs : List V} {H : Hp} {Q : VK} {E : XK} (h : sp_is_table K vs H Q E) : t_is_table K { nx := fun _ H' => Q .non H', rt := Q } (L2.start ["row", "place"] vs) H := by
  obtain ⟨a, row, rfl, hS, hlen, k⟩ := h
  have hl : ∀ {H1 σ}, Ex H H1 → σ[0]? = some (some (V.ref a)) → Ev (tCB (rLenS K) (tCons (tVar 0) tNil)) σ H1 (nv row.length) := fun e h => ev_lenNs (ev_var h) (ex_l e hS)
  refine q_when (et_or (et_test (ev_eqN (n := 0) (hl (Ex.refl H) rfl) ev_c)) fun _ => et_or (et_test (ev_neN (ev_modN (hl (Ex.refl H) rfl) (n := 2) ev_c (by decide)) (n := 0) ev_c)) fun _ => et_test (ev_gtN (hl (Ex.refl H) rfl) (ev_mulN (m := 2) (n := 24) ev_c ev_c (by decide) (by decide)))) (fun hb H1 e1 => ?_) (fun hb H1 e1 => ?_)
  · refine s_ret ev_c fun H2 e2 => k false ⟨(fun z => nomatch z), fun z => ?_⟩ H2 (e1.trans e2)
    obtain ⟨h1, h2, h3, _⟩ := z
    simp only [Bool.or_eq_true, Bool.not_eq_true', decide_eq_false_iff_not, decide_eq_true_eq] at hb
    omega
  · have hb' : row.length ≠ 0 ∧ row.length % 2 = 0 ∧ row.length ≤ 48 := by
      simp only [Bool.or_eq_false_iff, Bool.not_eq_false', decide_eq_false_iff_not, decide_eq_true_eq] at hb
      omega
    refine q_forC (lo := 2) (c := 2) (ea_cons ev_c (ea_cons (hl e1 rfl) (ea_cons ev_c ea_nil))) (rgC2 row.length hlen) (fun i σ H' => ∃ v, σ = [some (.ref a), v] ∧ Ex H H' ∧ risesTo row i) (fun H2 e2 => ⟨_, rfl, e1.trans e2, fun k hk => absurd hk (by omega)⟩) ?_ ?_
    · rintro i σ H2 hi ⟨v, rfl, e2, hr⟩
      obtain ⟨x, hx⟩ : ∃ x, row[2 * i + 2]? = some x := ⟨_, List.getElem?_eq_getElem (by omega)⟩
      obtain ⟨y, hy⟩ : ∃ y, row[2 * i]? = some y := ⟨_, List.getElem?_eq_getElem (by omega)⟩
      have ep : (2 : Int) + (i : Nat) * 2 = ((2 * i + 2 : Nat) : Int) := by omega
      rw [ep]
      refine s_when (et_test (ev_leN (ev_ixN (ev_var rfl) (ev_var rfl) (ex_l e2 hS) hx) (ev_ixN (ev_var rfl) (ev_subN (n := 2) (ev_var rfl) ev_c (by omega)) (ex_l e2 hS) (by rw [show 2 * i + 2 - 2 = 2 * i by omega]; exact hy)))) (fun hb H3 e3 => ?_) (fun hb H3 e3 => ?_)
      · refine s_ret ev_c fun H4 e4 => k false ⟨(fun z => nomatch z), fun z => ?_⟩ H4 ((e2.trans e3).trans e4)
        have := z.2.2.2 i (by omega)
        simp [hx, hy] at this hb
        omega
      · refine ⟨_, rfl, e2.trans e3, fun k hk => ?_⟩
        by_cases c : k = i
        · subst c
          simp [hx, hy] at hb ⊢
          omega
        · exact hr k (by omega)
    · rintro σ H2 ⟨v, rfl, e2, hr⟩
      refine s_ret ev_c fun H3 e3 => k true ⟨fun _ => ⟨hb'.1, hb'.2.1, hb'.2.2, ?_⟩, fun _ => rfl⟩ H3 (e2.trans e3)
      rw [show row.length / 2 - 1 = (row.length - 1) / 2 by omega]
      exact hr
def sp_loss_at (K : PySem.W.Frag) : Sp := fun vs H Q _ => ∃ (a : Addr) (t : List (Nat × Nat)) (x : Nat), vs = [.ref a, nv x] ∧ SqL K H a (nvs (flat t)) ∧ Tab t ∧ x ≤ 1000000000000000 ∧ RetU [.int (lossAt t x).1, .int (lossAt t x).2] H Q
theorem wid {a b : Int} {m n : Nat} (ha : a.natAbs < 2 ^ m) (hb : b.natAbs < 2 ^ n) (h : m + n ≤ 200) : (a * b).natAbs < 2 ^ 200 :=
  Nat.lt_of_lt_of_le (wide_lt ha hb) (Nat.pow_le_pow_right (by decide) h)
theorem drop_two {α : Type} : ∀ {t : List α} {i : Nat} {p q : α}, t[i]? = some p → t[i + 1]? = some q → t.drop i = p :: q :: t.drop (i + 2)
  | [], i, p, q, h, _ => by simp at h
  | a :: t, 0, p, q, h, g => by
    simp at h
    subst h
    cases t with
    | nil => simp at g
    | cons b t => simp at g; subst g; rfl
  | a :: t, i + 1, p, q, h, g => by
    have ih := drop_two (t := t) (i := i) (p := p) (q := q) (by simpa using h) (by simpa using g)
    rw [List.drop_succ_cons, ih]; rfl
theorem drop_one {α : Type} : ∀ {t : List α} {i : Nat} {p : α}, t[i]? = some p → t.drop i = p :: t.drop (i + 1)
  | [], i, p, h => by simp at h
  | a :: t, 0, p, h => by simp at h; subst h; rfl
  | a :: t, i + 1, p, h => by
    have ih := drop_one (t := t) (i := i) (p := p) (by simpa using h)
    rw [List.drop_succ_cons, ih]; rfl
theorem loss_first : ∀ {t : List (Nat × Nat)} {p : Nat × Nat} {x : Nat}, t[0]? = some p → x ≤ p.1 * 1000000 → lossAt t x = ((p.2 : Int), 1)
  | [], p, x, h, _ => by simp at h
  | [q], p, x, h, _ => by simp at h; subst h; rfl
  | q :: r :: t, p, x, h, g => by simp at h; subst h; rw [lossAt, if_pos g]
theorem pure_loss_at {K : PySem.W.Frag} {vs : List V} {H : Hp} {Q : VK} {E : XK} (h : sp_loss_at K vs H Q E) : t_loss_at K { nx := fun _ H' => Q .non H', rt := Q } (L2.start ["table", "micros", "place", "wide", "rise", "beyond"] vs) H := by
  obtain ⟨a, t, x, rfl, hS, hT, hx, k⟩ := h
  obtain ⟨p0, h0⟩ : ∃ p, t[0]? = some p := ⟨_, List.getElem?_eq_getElem hT.pos⟩
  have hlow : ∀ {i : Nat} {p : Nat × Nat}, t[i]? = some p → p.1 < 4294967296 ∧ p.2 < 4294967296 := fun h => hT.low _ (List.mem_of_getElem? h)
  have at1 : ∀ {H1 : Hp} {σ : L2.St} {te : TE} {i : Nat} {p : Nat × Nat}, Ex H H1 → σ[0]? = some (some (V.ref a)) → t[i]? = some p → Ev te σ H1 (nv (2 * i)) → Ev (tOp (rIxL K) (tVar 0) te) σ H1 (nv p.1) := fun e h0 hp he => ev_ixN (ev_var h0) he (ex_l e hS) (flat_fst hp)
  have at2 : ∀ {H1 : Hp} {σ : L2.St} {te : TE} {i : Nat} {p : Nat × Nat}, Ex H H1 → σ[0]? = some (some (V.ref a)) → t[i]? = some p → Ev te σ H1 (nv (2 * i + 1)) → Ev (tOp (rIxL K) (tVar 0) te) σ H1 (nv p.2) := fun e h0 hp he => ev_ixN (ev_var h0) he (ex_l e hS) (flat_snd hp)
  refine q_when (et_test (ev_leN (ev_var (v := nv x) rfl) (ev_mulN (n := 1000000) (at1 (Ex.refl H) rfl h0 ev_c) ev_c (by have := hlow h0; omega) (by decide)))) (fun hb H1 e1 => ?_) (fun hb H1 e1 => ?_)
  · refine s_retU (eu_tup (ea_cons (at2 e1 rfl h0 ev_c) (ea_cons ev_c ea_nil)) (by show 2 ≤ 100000; decide)) fun p H2 hp e2 h2 => ?_
    refine k.go e1 hp e2 ?_
    rw [h2, loss_first h0 (of_decide_eq_true hb)]
  · refine q_forC (lo := 2) (c := 2) (ea_cons ev_c (ea_cons (ev_lenNs (ev_var rfl) (ex_l e1 hS)) (ea_cons ev_c ea_nil))) (rgC2 _ (by rw [flat_length]; have := hT.few; omega))
      (fun i σ H' => ∃ v w r b, σ = [some (.ref a), some (nv x), v, w, r, b] ∧ Ex H H' ∧ lossAt t x = lossAt (t.drop i) x ∧ ∃ p, t[i]? = some p ∧ p.1 * 1000000 < x) (fun H2 e2 => ⟨_, _, _, _, rfl, e1.trans e2, rfl, p0, h0, Nat.lt_of_not_le (of_decide_eq_false hb)⟩) ?_ ?_
    · rintro i σ H2 hi ⟨v, w, r, b, rfl, e2, hl, p, hp, hpx⟩
      rw [flat_length] at hi
      obtain ⟨q, hq⟩ : ∃ q, t[i + 1]? = some q := ⟨_, List.getElem?_eq_getElem (by omega)⟩
      have ep : (2 : Int) + (i : Nat) * 2 = ((2 * (i + 1) : Nat) : Int) := by omega
      have lp := hlow hp
      have lq := hlow hq
      rw [drop_two hp hq] at hl
      rw [ep]
      have back : ∀ {H1 : Hp} {σ : L2.St}, σ[2]? = some (some (nv (2 * (i + 1)))) → Ev (tOp qSub (tVar 2) (tC (.int 2))) σ H1 (nv (2 * i)) := fun h => ev_is (ev_subN (n := 2) (ev_var h) ev_c (by omega)) (by congr 1)
      have back1 : ∀ {H1 : Hp} {σ : L2.St}, σ[2]? = some (some (nv (2 * (i + 1)))) → Ev (tOp qSub (tVar 2) (tC (.int 1))) σ H1 (nv (2 * i + 1)) := fun h => ev_is (ev_subN (n := 1) (ev_var h) ev_c (by omega)) (by congr 1)
      refine s_when (et_test (ev_leN (ev_var (v := nv x) rfl) (ev_mulN (n := 1000000) (at1 e2 rfl hq (ev_var rfl)) ev_c (by omega) (by decide)))) (fun hb H3 e3 => ?_) (fun hb H3 e3 => ?_)
      · have hb' := of_decide_eq_true hb
        refine q_asg (ev_subI (at1 (e2.trans e3) rfl hq (ev_var rfl)) (at1 (e2.trans e3) rfl hp (back rfl))) fun H4 e4 => ?_
        have e14 := (e2.trans e3).trans e4
        refine q_asg (ev_subI (at2 e14 rfl hq (ev_addN (n := 1) (ev_var rfl) ev_c)) (at2 e14 rfl hp (back1 rfl))) fun H5 e5 => ?_
        have e15 := e14.trans e5
        refine q_asg (ev_subI (ev_var (v := nv x) rfl) (ev_mulN (n := 1000000) (at1 e15 rfl hp (back rfl)) ev_c (by omega) (by decide))) fun H6 e6 => ?_
        have e16 := e15.trans e6
        refine s_retU (eu_tup (ea_cons (ev_addI (ev_mulI (ev_mulI (at2 e16 rfl hp (back1 rfl)) (ev_var rfl) (by omega) (by omega)) ev_c (wid (m := 40) (n := 40) (by omega) (by omega) (by decide)) (by decide)) (ev_mulI (ev_var rfl) (ev_var rfl) (by omega) (by omega))) (ea_cons (ev_mulI (ev_var rfl) ev_c (by omega) (by decide)) ea_nil)) (by show 2 ≤ 100000; decide)) fun s H7 hs e7 h7 => ?_
        refine k.go e16 hs e7 ?_
        rw [h7, hl, lossAt, if_neg (by omega), if_pos hb']
        simp
      · refine ⟨_, _, _, _, rfl, e2.trans e3, ?_, q, hq, Nat.lt_of_not_le (of_decide_eq_false hb)⟩
        rw [hl, lossAt, if_neg (by omega), if_neg (of_decide_eq_false hb), drop_one hq]
    · rintro σ H2 ⟨v, w, r, b, rfl, e2, hl, p, hp, hpx⟩
      have hlen : (flat t).length - 1 = 2 * ((((flat t).length) - 1) / 2) + 1 := by rw [flat_length]; have := hT.pos; omega
      refine s_retU (eu_tup (ea_cons (at2 e2 rfl hp (ev_is (ev_subN (n := 1) (ev_lenNs (ev_var rfl) (ex_l e2 hS)) ev_c (by rw [flat_length]; have := hT.pos; omega)) (congrArg nv hlen))) (ea_cons ev_c ea_nil)) (by show 2 ≤ 100000; decide)) fun s H3 hs e3 h3 => ?_
      refine k.go e2 hs e3 ?_
      have hi : (((flat t).length) - 1) / 2 + 1 = t.length := by rw [flat_length]; have := hT.pos; omega
      rw [h3, hl, drop_one hp, hi, List.drop_length]
      rfl
end Pp
end
section
set_option Elab.async false
set_option linter.all false
set_option maxRecDepth 100000
set_option maxHeartbeats 2000000
namespace Pp
open PySem PySem.Spec PyProof.Rows L2 Evl
/-! ### what is left behind the loss -/
theorem loss_bounds : ∀ (t : List (Nat × Nat)) (x : Nat), (∀ p ∈ t, p.1 < 4294967296 ∧ p.2 < 4294967296) → (t.map (·.1)).Pairwise (· < ·) → x ≤ 1000000000000000 → 0 < (lossAt t x).2 ∧ (lossAt t x).2 < 2 ^ 60 ∧ (lossAt t x).1.natAbs < 2 ^ 121
  | [], x, _, _, _ => by simp [lossAt]
  | [p], x, h, _, _ => by
    have := h p (List.mem_cons_self)
    simp only [lossAt]
    omega
  | p :: q :: l, x, h, hr, hx => by
    have hp := h p (List.mem_cons_self)
    have hq := h q (List.mem_cons_of_mem _ List.mem_cons_self)
    have hpq : p.1 < q.1 := (List.pairwise_cons.mp hr).1 _ (by simp)
    rw [lossAt]
    split
    · simp only; omega
    · split
      · refine ⟨by simp only; omega, by simp only; omega, ?_⟩
        have a1 : ((p.2 : Int) * ((q.1 : Int) - (p.1 : Int))).natAbs < 2 ^ (40 + 40) := wide_lt (by omega) (by omega)
        have a2 : ((p.2 : Int) * ((q.1 : Int) - (p.1 : Int)) * 1000000).natAbs < 2 ^ (80 + 40) := wide_lt a1 (by decide)
        have a3 : (((q.2 : Int) - (p.2 : Int)) * ((x : Int) - (p.1 : Int) * 1000000)).natAbs < 2 ^ (40 + 60) := wide_lt (by omega) (by omega)
        have a4 := Int.natAbs_add_le ((p.2 : Int) * ((q.1 : Int) - (p.1 : Int)) * 1000000) (((q.2 : Int) - (p.2 : Int)) * ((x : Int) - (p.1 : Int) * 1000000))
        simp only at a1 a2 a3 a4 ⊢
        omega
      · exact loss_bounds (q :: l) x (fun r m => h r (List.mem_cons_of_mem _ m)) (List.pairwise_cons.mp hr).2 hx
def sp_left_after_loss (K : PySem.W.Frag) : Sp := fun vs H Q _ => ∃ (a : Addr) (t : List (Nat × Nat)) (x : Nat), vs = [.ref a, nv x] ∧ SqL K H a (nvs (flat t)) ∧ Tab t ∧ x ≤ 1000000000000000 ∧ RetV (.int (leftAfter t x)) H Q
theorem pure_left_after_loss {K : PySem.W.Frag} {vs : List V} {H : Hp} {Q : VK} {E : XK} (h : sp_left_after_loss K vs H Q E) : t_left_after_loss K (sp_loss_at K) { nx := fun _ H' => Q .non H', rt := Q } (L2.start ["table", "micros", "loss"] vs) H := by
  obtain ⟨a, t, x, rfl, hS, hT, hx, k⟩ := h
  obtain ⟨b1, b2, b3⟩ := loss_bounds t x hT.low hT.rise hx
  refine q_asgU (xs := [.int (lossAt t x).1, .int (lossAt t x).2]) (fun H1 e Q2 q => ⟨_, rfl, _, rfl, a, t, x, rfl, ex_l e hS, hT, hx, fun p H2 hp e2 h2 => q p H2 hp e2 h2⟩) fun p H1 hp e1 h1 => ?_
  have at0 : ∀ {H2 : Hp}, Ex H1 H2 → Ev (tOp (rIxT K) (tVar 2) (tC (.int 0))) [some (.ref a), some (nv x), some (.ref p)] H2 (.int (lossAt t x).1) := fun e => ev_ixT (n := 0) (ev_var rfl) ev_c (st_of (e p _ h1)) rfl
  have at1 : ∀ {H2 : Hp}, Ex H1 H2 → Ev (tOp (rIxT K) (tVar 2) (tC (.int 1))) [some (.ref a), some (nv x), some (.ref p)] H2 (.int (lossAt t x).2) := fun e => ev_ixT (n := 1) (ev_var rfl) ev_c (st_of (e p _ h1)) rfl
  refine s_ret (ev_divI (ev_subI (ev_mulI (ev_var rfl) (at1 (Ex.refl _)) (by omega) (by omega)) (ev_mulI (at0 (Ex.refl _)) ev_c (Nat.lt_of_lt_of_le b3 (by decide)) (by decide))) (ev_mulI ev_c (at1 (Ex.refl _)) (by decide) (by omega)) (by omega) (by omega)) fun H2 e2 => k H2 (e1.trans e2)
/-! ### givers -/
def gF (g : PG) (t : Addr) : List (Str × V) := [("kind", nv g.kind), ("most", nv g.most), ("start", nv g.start), ("stop", nv g.stop), ("wait", nv g.wait), ("up", nv g.up), ("worth", nv g.worth), ("table", .ref t)]
/-- a giver stands at a -/
structure GiverAt (K : PySem.W.Frag) (C : Addr) (H : Hp) (a : Addr) (g : PG) : Prop where
  ex : ∃ dx t, H a = some (.ins C dx (gF g t)) ∧ SqL K H t (nvs (flat g.table))
  ok : GOk g
theorem GiverAt.mono {K : PySem.W.Frag} {C : Addr} {H H' : Hp} {a : Addr} {g : PG} (G : GiverAt K C H a g) (e : Ex H H') : GiverAt K C H' a g := by
  obtain ⟨⟨dx, t, h1, h2⟩, ok⟩ := G
  exact ⟨⟨dx, t, e a _ h1, ex_l e h2⟩, ok⟩
/-- the class Giver -/
structure CG (K : PySem.W.Frag) (C : Addr) : Prop where
  cl : Cls K C
  kind : NoAttr K C "kind"
  most : NoAttr K C "most"
  start : NoAttr K C "start"
  stop : NoAttr K C "stop"
  wait : NoAttr K C "wait"
  up : NoAttr K C "up"
  worth : NoAttr K C "worth"
  table : NoAttr K C "table"
section
variable {K : PySem.W.Frag} {C : Addr} {H : Hp} {a : Addr} {g : PG} {σ : L2.St} {ta : TE}
theorem gv_kind (c : CG K C) (G : GiverAt K C H a g) (h : Ev ta σ H (.ref a)) : Ev (tFld K ta "kind") σ H (nv g.kind) := by
  obtain ⟨⟨dx, t, h1, h2⟩, ok⟩ := G
  exact ev_fld h h1 c.cl c.kind rfl
theorem gv_most (c : CG K C) (G : GiverAt K C H a g) (h : Ev ta σ H (.ref a)) : Ev (tFld K ta "most") σ H (nv g.most) := by
  obtain ⟨⟨dx, t, h1, h2⟩, ok⟩ := G
  exact ev_fld h h1 c.cl c.most rfl
theorem gv_start (c : CG K C) (G : GiverAt K C H a g) (h : Ev ta σ H (.ref a)) : Ev (tFld K ta "start") σ H (nv g.start) := by
  obtain ⟨⟨dx, t, h1, h2⟩, ok⟩ := G
  exact ev_fld h h1 c.cl c.start rfl
theorem gv_stop (c : CG K C) (G : GiverAt K C H a g) (h : Ev ta σ H (.ref a)) : Ev (tFld K ta "stop") σ H (nv g.stop) := by
  obtain ⟨⟨dx, t, h1, h2⟩, ok⟩ := G
  exact ev_fld h h1 c.cl c.stop rfl
theorem gv_wait (c : CG K C) (G : GiverAt K C H a g) (h : Ev ta σ H (.ref a)) : Ev (tFld K ta "wait") σ H (nv g.wait) := by
  obtain ⟨⟨dx, t, h1, h2⟩, ok⟩ := G
  exact ev_fld h h1 c.cl c.wait rfl
theorem gv_up (c : CG K C) (G : GiverAt K C H a g) (h : Ev ta σ H (.ref a)) : Ev (tFld K ta "up") σ H (nv g.up) := by
  obtain ⟨⟨dx, t, h1, h2⟩, ok⟩ := G
  exact ev_fld h h1 c.cl c.up rfl
theorem gv_worth (c : CG K C) (G : GiverAt K C H a g) (h : Ev ta σ H (.ref a)) : Ev (tFld K ta "worth") σ H (nv g.worth) := by
  obtain ⟨⟨dx, t, h1, h2⟩, ok⟩ := G
  exact ev_fld h h1 c.cl c.worth rfl
theorem gv_table (c : CG K C) (G : GiverAt K C H a g) (h : Ev ta σ H (.ref a)) : ∃ t, Ev (tFld K ta "table") σ H (.ref t) ∧ SqL K H t (nvs (flat g.table)) := by
  obtain ⟨⟨dx, t, h1, h2⟩, ok⟩ := G
  exact ⟨t, ev_fld h h1 c.cl c.table rfl, h2⟩
end
def sp_is_giver : Sp := fun vs H Q _ => ∃ kind most start stop wait up worth : Nat, vs = [nv kind, nv most, nv start, nv stop, nv wait, nv up, nv worth] ∧ ∀ b, (b = true ↔ ¬ gBad kind most start stop wait up worth) → RetV (.bl b) H Q
theorem pure_is_giver {K : PySem.W.Frag} {vs : List V} {H : Hp} {Q : VK} {E : XK} (h : sp_is_giver vs H Q E) : t_is_giver K { nx := fun _ H' => Q .non H', rt := Q } (L2.start ["kind", "most", "start", "stop", "wait", "up", "worth"] vs) H := by
  obtain ⟨kind, most, start, stop, wait, up, worth, rfl, k⟩ := h
  refine q_when (et_or (et_test (ev_gtN (n := 7) (ev_var rfl) ev_c)) fun _ => et_test (ev_gtN (n := 65535) (ev_var rfl) ev_c)) (fun hb H1 e1 => ?_) (fun hb H1 e1 => ?_)
  · refine s_ret ev_c fun H2 e2 => k false ⟨(fun z => nomatch z), fun z => absurd ?_ z⟩ H2 (e1.trans e2)
    simp only [Bool.or_eq_true, decide_eq_true_eq] at hb
    unfold gBad; omega
  · refine q_when (et_or (et_test (ev_gtN (n := 10000000) (ev_var rfl) ev_c)) fun _ => et_or (et_test (ev_gtN (n := 10000000) (ev_var rfl) ev_c)) fun _ => et_test (ev_gtN (n := 10000000) (ev_var rfl) ev_c)) (fun hb2 H2 e2 => ?_) (fun hb2 H2 e2 => ?_)
    · refine s_ret ev_c fun H3 e3 => k false ⟨(fun z => nomatch z), fun z => absurd ?_ z⟩ H3 ((e1.trans e2).trans e3)
      simp only [Bool.or_eq_true, decide_eq_true_eq] at hb2
      unfold gBad; omega
    · refine s_ret (ev_andV (ev_leN (ev_var rfl) (ev_var rfl)) fun _ => ev_chain (x := nv 1) (y := nv wait) (z := nv 96) ev_c (ev_var rfl) rv_I0 (fun _ => ev_c) fun _ => rv_I0) fun H3 e3 => k _ ⟨fun z => ?_, fun z => ?_⟩ H3 ((e1.trans e2).trans e3)
      · simp only [Bool.and_eq_true, decide_eq_true_eq, Bool.or_eq_false_iff, decide_eq_false_iff_not] at z hb hb2
        unfold gBad; omega
      · simp only [Bool.and_eq_true, decide_eq_true_eq, Bool.or_eq_false_iff, decide_eq_false_iff_not] at z hb hb2 ⊢
        unfold gBad at z; omega
def sp_passed (K : PySem.W.Frag) (C : Addr) : Sp := fun vs H Q _ => ∃ (a : Addr) (g : PG) (x : Nat), vs = [.ref a, nv x] ∧ GiverAt K C H a g ∧ x ≤ 1000000000000000 ∧ RetV (nv (passN g x)) H Q
theorem pure_passed {K : PySem.W.Frag} {C : Addr} (c : CG K C) {vs : List V} {H : Hp} {Q : VK} {E : XK} (h : sp_passed K C vs H Q E) : t_passed K (sp_left_after_loss K) { nx := fun _ H' => Q .non H', rt := Q } (L2.start ["giver", "micros"] vs) H := by
  obtain ⟨a, g, x, rfl, G, hx, k⟩ := h
  obtain ⟨t, ht, hS⟩ := gv_table (ta := tVar 0) (σ := [some (.ref a), some (nv x)]) c G (ev_var rfl)
  refine s_ret (v := nv (passN g x)) (ev_is (ev_min2I (ev_max2I (ev_call (ea_cons ht (ea_cons (ev_var rfl) ea_nil)) (z := .int (leftAfter g.table x)) (fun H1 e Q2 q _ => ⟨t, g.table, x, rfl, ex_l e hS, G.ok.tab, hx, fun H2 e2 => q H2 e2⟩)) ev_c) (gv_most c G (ev_var rfl))) ?_) fun H1 e1 => k H1 e1
  unfold passN nv
  congr 1
  omega
def sp_step (K : PySem.W.Frag) (C : Addr) : Sp := fun vs H Q _ => ∃ (a : Addr) (g : PG) (runs : Bool) (waited x : Nat), vs = [.ref a, .bl runs, nv waited, nv x] ∧ GiverAt K C H a g ∧ RetU [.bl (stepN g runs waited x).1, nv (stepN g runs waited x).2] H Q
theorem pure_step {K : PySem.W.Frag} {C : Addr} (c : CG K C) {vs : List V} {H : Hp} {Q : VK} {E : XK} (h : sp_step K C vs H Q E) : t_step K { nx := fun _ H' => Q .non H', rt := Q } (L2.start ["giver", "runs", "waited", "micros"] vs) H := by
  obtain ⟨a, g, runs, waited, x, rfl, G, k⟩ := h
  have hk := G.ok
  have b1 := hk.start
  have b2 := hk.stop
  refine q_when (et_B (ev_var (v := .bl runs) rfl)) (fun hb H1 e1 => ?_) (fun hb H1 e1 => ?_)
  · refine s_retU (eu_tup (ea_cons (ev_geN (n := g.stop * 1000000) (ev_var rfl) (ev_mulN (n := 1000000) (gv_stop c (G.mono e1) (ev_var rfl)) ev_c (by omega) (by decide))) (ea_cons ev_c ea_nil)) (by show 2 ≤ 100000; decide)) fun p H2 hp e2 h2 => k.go e1 hp e2 ?_
    rw [h2, stepN, if_pos hb]; rfl
  · have hr : ¬ runs = true := by rw [hb]; decide
    refine q_when (et_test (ev_ltN (ev_var rfl) (ev_mulN (n := 1000000) (gv_start c (G.mono e1) (ev_var rfl)) ev_c (by omega) (by decide)))) (fun hb2 H2 e2 => ?_) (fun hb2 H2 e2 => ?_)
    · refine s_retU (eu_tup (ea_cons ev_c (ea_cons ev_c ea_nil)) (by show 2 ≤ 100000; decide)) fun p H3 hp e3 h3 => k.go (e1.trans e2) hp e3 ?_
      rw [h3, stepN, if_neg hr, if_pos (of_decide_eq_true hb2)]; rfl
    · refine q_when (et_test (ev_eqN (ev_addN (n := 1) (ev_var rfl) ev_c) (gv_wait c (G.mono (e1.trans e2)) (ev_var rfl)))) (fun hb3 H3 e3 => ?_) (fun hb3 H3 e3 => ?_)
      · refine s_retU (eu_tup (ea_cons ev_c (ea_cons ev_c ea_nil)) (by show 2 ≤ 100000; decide)) fun p H4 hp e4 h4 => k.go ((e1.trans e2).trans e3) hp e4 ?_
        rw [h4, stepN, if_neg hr, if_neg (of_decide_eq_false hb2), if_pos (of_decide_eq_true hb3)]; rfl
      · refine s_retU (eu_tup (ea_cons ev_c (ea_cons (ev_addN (n := 1) (ev_var rfl) ev_c) ea_nil)) (by show 2 ≤ 100000; decide)) fun p H4 hp e4 h4 => k.go ((e1.trans e2).trans e3) hp e4 ?_
        rw [h4, stepN, if_neg hr, if_neg (of_decide_eq_false hb2), if_neg (of_decide_eq_false hb3)]
def sp_could_give (K : PySem.W.Frag) (C : Addr) : Sp := fun vs H Q _ => ∃ (a : Addr) (g : PG) (runs : Bool) (gave x : Nat), vs = [.ref a, .bl runs, nv gave, nv x] ∧ GiverAt K C H a g ∧ x ≤ 1000000000000000 ∧ RetV (nv (couldN g runs gave x)) H Q
theorem pure_could_give {K : PySem.W.Frag} {C : Addr} (c : CG K C) {vs : List V} {H : Hp} {Q : VK} {E : XK} (h : sp_could_give K C vs H Q E) : t_could_give K (sp_passed K C) { nx := fun _ H' => Q .non H', rt := Q } (L2.start ["giver", "runs", "gave", "micros"] vs) H := by
  obtain ⟨a, g, runs, gave, x, rfl, G, hx, k⟩ := h
  refine q_when (et_not (et_B (ev_var (v := .bl runs) rfl))) (fun hb H1 e1 => ?_) (fun hb H1 e1 => ?_)
  · refine s_ret (v := nv 0) ev_c fun H2 e2 => ?_
    have : couldN g runs gave x = 0 := by
      unfold couldN
      rw [if_neg (by intro z; rw [z] at hb; cases hb)]
    rw [this] at k
    exact k H2 (e1.trans e2)
  · refine s_ret (ev_min2 (ev_call (ea_cons (ev_var rfl) (ea_cons (ev_var rfl) ea_nil)) (z := nv (passN g x)) (fun H2 e Q2 q _ => ⟨a, g, x, rfl, G.mono (e1.trans e), hx, fun H3 e3 => q H3 e3⟩)) (ev_addN (ev_var rfl) (gv_up c (G.mono e1) (ev_var rfl)))) fun H2 e2 => ?_
    have : couldN g runs gave x = min (passN g x) (gave + g.up) := by
      unfold couldN
      rw [if_pos (by cases runs with | true => rfl | false => cases hb)]
    rw [this] at k
    exact k H2 (e1.trans e2)
end Pp
end
section
set_option Elab.async false
set_option linter.all false
set_option maxRecDepth 100000
set_option maxHeartbeats 2000000
namespace Pp
open PySem PySem.Spec PyProof.Rows L2 Evl
/-! ### a row of givers, a row of limits -/
structure GiversAt (K : PySem.W.Frag) (C : Addr) (H : Hp) (l : Addr) (gs : List PG) : Prop where
  ex : ∃ as : List Addr, SqL K H l (as.map V.ref) ∧ as.length = gs.length ∧ ∀ (i : Nat) (a : Addr) (g : PG), as[i]? = some a → gs[i]? = some g → GiverAt K C H a g
  few : gs.length ≤ 24
theorem GiversAt.mono {K : PySem.W.Frag} {C : Addr} {H H' : Hp} {l : Addr} {gs : List PG} (G : GiversAt K C H l gs) (e : Ex H H') : GiversAt K C H' l gs := by
  obtain ⟨⟨as, h1, h2, h3⟩, f⟩ := G
  exact ⟨⟨as, ex_l e h1, h2, fun i a g x y => (h3 i a g x y).mono e⟩, f⟩
def lo : Option Nat → V
  | none => .int (-1)
  | some n => nv n
def lms (m : VwHand.Limits) : List V := m.classes.map lo ++ [nv m.plant]
theorem lms_kind {m : VwHand.Limits} (h : m.classes.length = 8) {k : Nat} (hk : k < 8) : (lms m)[k]? = some (lo (VwHand.limitAt m k)) := by
  unfold lms VwHand.limitAt
  rw [List.getElem?_append_left (by rw [List.length_map]; omega), List.getElem?_map, List.getD_eq_getElem?_getD, List.getElem?_eq_getElem (by omega)]
  rfl
theorem lms_plant {m : VwHand.Limits} (h : m.classes.length = 8) : (lms m)[8]? = some (nv m.plant) := by
  unfold lms
  rw [List.getElem?_append_right (by rw [List.length_map]; omega), List.length_map, h]
  rfl
theorem lms_length {m : VwHand.Limits} (h : m.classes.length = 8) : (lms m).length = 9 := by
  unfold lms
  rw [List.length_append, List.length_map, h]; rfl
/-! ### class_sums -/
def sumsN (ks row : List Nat) : List Nat := (List.range 8).map fun k => Ph.st (Ph.isK k) ks row
def sp_class_sums (K : PySem.W.Frag) (C : Addr) : Sp := fun vs H Q _ => ∃ (l r : Addr) (gs : List PG) (row : List Nat), vs = [.ref l, .ref r] ∧ GiversAt K C H l gs ∧ SqL K H r (nvs row) ∧ row.length = gs.length ∧ RetL (nvs (sumsN (kinds gs) row)) H Q
theorem st_snoc (mine : Nat → Bool) (k n : Nat) : ∀ (ks row : List Nat), ks.length = row.length → Ph.st mine (ks ++ [k]) (row ++ [n]) = Ph.st mine ks row + (if mine k = true then n else 0)
  | [], [], _ => by simp [Ph.st]
  | [], _ :: _, h => by simp at h
  | _ :: _, [], h => by simp at h
  | j :: ks, a :: row, h => by
    rw [List.cons_append, List.cons_append, Ph.st, Ph.st, st_snoc mine k n ks row (by simpa using h)]
    omega
theorem take_snoc {α : Type} {l : List α} {i : Nat} {x : α} (h : l[i]? = some x) : l.take (i + 1) = l.take i ++ [x] := by
  rw [List.take_add_one, h]; rfl
theorem sums_set {ks row : List Nat} {k n : Nat} (hl : ks.length = row.length) (hk : k < 8) : (nvs (sumsN ks row)).set k (nv (Ph.st (Ph.isK k) ks row + n)) = nvs (sumsN (ks ++ [k]) (row ++ [n])) := by
  unfold nvs sumsN
  rw [List.map_map, List.map_map]
  refine List.ext_getElem? fun i => ?_
  rw [List.getElem?_set, List.getElem?_map, List.getElem?_map]
  by_cases e : k = i
  · subst e
    rw [if_pos rfl, if_pos (by simpa using hk), List.getElem?_range hk]
    simp [st_snoc _ _ _ _ _ hl, Ph.isK]
  · rw [if_neg e]
    by_cases hi : i < 8
    · rw [List.getElem?_range hi]
      simp [st_snoc _ _ _ _ _ hl, Ph.isK, e]
    · rw [List.getElem?_eq_none (by simpa using Nat.le_of_not_lt hi)]
      rfl
theorem sums_at {ks row : List Nat} {k : Nat} (hk : k < 8) : (sumsN ks row)[k]? = some (Ph.st (Ph.isK k) ks row) := by
  unfold sumsN
  rw [List.getElem?_map, List.getElem?_range hk]; rfl
theorem sums_nil : nvs (sumsN [] []) = List.replicate 8 (nv 0) := rfl
theorem pure_class_sums {K : PySem.W.Frag} {C : Addr} (c : CG K C) {vs : List V} {H : Hp} {Q : VK} {E : XK} (h : sp_class_sums K C vs H Q E) : t_class_sums K { nx := fun _ H' => Q .non H', rt := Q } (L2.start ["givers", "row", "sums", "giver", "watts"] vs) H := by
  obtain ⟨l, r, gs, row, rfl, G, hr, hlen, k⟩ := h
  obtain ⟨⟨as, ha, hal, hG⟩, few⟩ := G
  refine q_asgL (el_rep (v := nv 0) (n := 8) ev_c ev_c (by decide)) fun s H1 hs e1 h1 => ?_
  refine q_forZ (n := gs.length) (ea_cons (ev_var rfl) (ea_cons (ev_var rfl) ea_nil)) (ex_l e1 ha) (ex_l e1 hr) (by rw [List.length_map, nvs_length]; omega)
    (fun i σ H' => ∃ v w, σ = [some (.ref l), some (.ref r), some (.ref s), v, w] ∧ Ex H H' ∧ H' s = some (.lst (nvs (sumsN ((kinds gs).take i) (row.take i))))) (fun H2 e2 => ⟨_, _, rfl, e1.trans e2, by rw [e2 s _ h1, List.take_zero, List.take_zero, sums_nil]⟩) (fun i σ' H' hi ⟨_, _, _, e, _⟩ => ⟨ex_l e ha, ex_l e hr⟩) ?_ ?_
  · rintro i x y σ' H' H2 hx hy ⟨v, w, rfl, e, hsum⟩ e2
    obtain ⟨n, hn, rfl⟩ := nvs_get hy
    obtain ⟨a, hai, rfl⟩ : ∃ a, as[i]? = some a ∧ x = V.ref a := by
      rw [List.getElem?_map] at hx
      cases q : as[i]? with
      | none => rw [q] at hx; cases hx
      | some a => rw [q] at hx; exact ⟨a, rfl, (Option.some.inj hx).symm⟩
    obtain ⟨g, hg⟩ : ∃ g, gs[i]? = some g := ⟨_, List.getElem?_eq_getElem (by have := (List.getElem?_eq_some_iff.mp hai).1; omega)⟩
    have Gi := (hG i a g hai hg).mono (e.trans e2)
    have hk : (kinds gs)[i]? = some g.kind := by unfold kinds; rw [List.getElem?_map, hg]; rfl
    refine s_augL (e2 s _ hsum) (ev_var rfl) (gv_kind c Gi (ev_var rfl)) (nvs_at (sums_at Gi.ok.kind)) (ev_var rfl) fun H3 e3 => ?_
    refine ⟨_, _, rfl, Ex.mut ((e.trans e2).trans e3) hs, ?_⟩
    rw [upd_same, take_snoc hk, take_snoc hn, ← sums_set (by rw [List.length_take, List.length_take]; unfold kinds; rw [List.length_map]; omega) Gi.ok.kind]
    rfl
  · rintro σ' H' ⟨v, w, rfl, e, hsum⟩
    refine s_ret (v := .ref s) (ev_var rfl) fun H2 e2 => k s H2 hs (e.trans e2) ?_
    rw [e2 s _ hsum, List.take_of_length_le (by unfold kinds; rw [List.length_map]; exact Nat.le_refl _), List.take_of_length_le (by omega)]
/-! ### under -/
def sp_under : Sp := fun vs H Q _ => ∃ (o : Option Nat) (n : Nat), vs = [lo o, nv n] ∧ RetV (nv (Ph.under o n)) H Q
theorem pure_under {K : PySem.W.Frag} {vs : List V} {H : Hp} {Q : VK} {E : XK} (h : sp_under vs H Q E) : t_under K { nx := fun _ H' => Q .non H', rt := Q } (L2.start ["limit", "watts"] vs) H := by
  obtain ⟨o, n, rfl, k⟩ := h
  cases o with
  | none => exact q_when (et_test (ev_eqI (i := -1) (j := -1) (ev_var rfl) ev_c)) (fun _ H1 e1 => s_ret (v := nv n) (ev_var rfl) fun H2 e2 => k H2 (e1.trans e2)) (fun hb => absurd hb (by decide))
  | some l =>
    refine q_when (et_test (ev_eqI (i := (l : Int)) (j := -1) (ev_var rfl) ev_c)) (fun hb => absurd (of_decide_eq_true hb) (by omega)) (fun hb H1 e1 => ?_)
    exact s_ret (ev_min2 (m := l) (n := n) (ev_var rfl) (ev_var rfl)) fun H2 e2 => k H2 (e1.trans e2)
/-! ### given_in_all -/
def sp_given_in_all (K : PySem.W.Frag) (C : Addr) : Sp := fun vs H Q _ => ∃ (l r t : Addr) (gs : List PG) (row : List Nat) (m : VwHand.Limits), vs = [.ref l, .ref r, .ref t] ∧ GiversAt K C H l gs ∧ SqL K H r (nvs row) ∧ row.length = gs.length ∧ SqL K H t (lms m) ∧ m.classes.length = 8 ∧ RetV (nv (givenN m (kinds gs) row)) H Q
theorem pure_given_in_all {K : PySem.W.Frag} {C : Addr} {vs : List V} {H : Hp} {Q : VK} {E : XK} (h : sp_given_in_all K C vs H Q E) : t_given_in_all K (sp_class_sums K C) sp_under { nx := fun _ H' => Q .non H', rt := Q } (L2.start ["givers", "able", "limits", "sums", "kind"] vs) H := by
  obtain ⟨l, r, t, gs, row, m, rfl, G, hr, hlen, ht, hm, k⟩ := h
  refine q_asgL (el_call (ea_cons (ev_var rfl) (ea_cons (ev_var rfl) ea_nil)) (xs := nvs (sumsN (kinds gs) row)) (fun H1 e Q2 q _ => ⟨l, r, gs, row, rfl, G.mono e, ex_l e hr, hlen, fun p H2 hp e2 h2 => q p H2 hp e2 h2⟩)) fun s H1 hs e1 h1 => ?_
  have comp : EvL (tLc (iRng1 (tCons (tC (.int 8)) tNil)) (gName 4) tYes (tCall sp_under [] C8.E0 (tCons (tOp (rIxL K) (tVar 2) (tVar 4)) (tCons (tOp (rIxL K) (tVar 3) (tVar 4)) tNil))) [4]) [some (.ref l), some (.ref r), some (.ref t), some (.ref s), none] H1 (nvs ((List.range 8).map fun k => Ph.under (VwHand.limitAt m k) (Ph.st (Ph.isK k) (kinds gs) row))) := by
    have e : nvs ((List.range 8).map fun k => Ph.under (VwHand.limitAt m k) (Ph.st (Ph.isK k) (kinds gs) row)) = given ((8 : Int)).toNat (fun _ => true) (fun k => nv (Ph.under (VwHand.limitAt m k) (Ph.st (Ph.isK k) (kinds gs) row))) := by
      rw [given_all]; unfold nvs; rw [List.map_map]; rfl
    rw [e]
    refine el_lcR1 _ _ (ea_cons ev_c ea_nil) (by decide) (fun x => rfl) (fun i H2 e2 hi => et_yes) (fun i H2 e2 hi _ => ?_)
    exact ev_call (ea_cons (ev_ixL (ev_var rfl) (ev_var rfl) (ex_l (e1.trans e2) ht) (lms_kind hm (by omega))) (ea_cons (ev_ixN (ev_var rfl) (ev_var rfl) (sq_of (e2 s _ h1)) (sums_at (by omega))) ea_nil)) (fun H3 e3 Q3 q3 _ => ⟨_, _, rfl, fun H4 e4 => q3 H4 e4⟩)
  refine s_ret (ev_min2 (ev_ixL (ev_var rfl) (n := 8) ev_c (ex_l e1 ht) (lms_plant hm)) (ev_sumL comp)) fun H2 e2 => ?_
  have e3 : min m.plant (VwNum.total ((List.range 8).map fun k => Ph.under (VwHand.limitAt m k) (Ph.st (Ph.isK k) (kinds gs) row))) = givenN m (kinds gs) row := by
    unfold givenN
    congr 1
    show VwNum.total [_, _, _, _, _, _, _, _] = _
    simp only [Ph.total_cons, Ph.total_nil, Ph.sum8]
    omega
  rw [e3]
  exact k H2 (e1.trans e2)
end Pp
end
section
set_option Elab.async false
set_option linter.all false
set_option maxRecDepth 100000
set_option maxHeartbeats 2000000
namespace Pp
open PySem PySem.Spec PyProof.Rows L2 Evl VwHand
theorem s_brk {D : Ends} {σ : L2.St} {H : Hp} (h : D.bk σ H) : tBreak D σ H := h
/-! ### level_and_rest -/
def srt (c : List Nat) : List Nat := c.mergeSort fun (a b : Nat) => decide (a ≤ b)
theorem srt_length (c : List Nat) : (srt c).length = c.length := (List.mergeSort_perm c _).length_eq
theorem srt_mem {c : List Nat} {x : Nat} (h : x ∈ srt c) : x ∈ c := (List.mergeSort_perm c _).mem_iff.mp h
def sp_level_and_rest (K : PySem.W.Frag) : Sp := fun vs H Q _ => ∃ (a : Addr) (c : List Nat) (l : Nat), vs = [.ref a, nv l] ∧ SqL K H a (nvs c) ∧ c.length ≤ 24 ∧ (∀ x ∈ c, x < 4294967296) ∧ ∃ z, levelOf (srt c) l = some z ∧ RetU [nv z.1, nv z.2] H Q
theorem pure_level_and_rest {K : PySem.W.Frag} {vs : List V} {H : Hp} {Q : VK} {E : XK} (h : sp_level_and_rest K vs H Q E) : t_level_and_rest K { nx := fun _ H' => Q .non H', rt := Q } (L2.start ["able", "limit", "left", "sharers", "watts"] vs) H := by
  obtain ⟨a, c, l, rfl, hS, hc, hlow, z, hz, k⟩ := h
  refine q_asg (v := nv l) (ev_var rfl) fun H1 e1 => q_asg (v := nv c.length) (ev_lenNs (ev_var rfl) (ex_l e1 hS)) fun H2 e2 => ?_
  have e12 := e1.trans e2
  refine q_forNLn (el_sorted (ev_var rfl) (ex_l e12 hS)) (fun p i σ H' => ∃ v left, σ = [some (.ref a), some (nv l), some (nv left), some (nv (c.length - i)), v] ∧ Ex H H' ∧ H' p = some (.lst (nvs (srt c))) ∧ levelOf ((srt c).drop i) left = some z)
    (fun p H3 hp e3 h3 => ⟨_, l, rfl, e12.trans e3, h3, hz⟩) (fun p i σ' H' hi ⟨_, _, _, _, h, _⟩ => sq_of h) ?_ ?_
  · rintro p i x σ' H' hx ⟨v, left, rfl, e, hp, hlv⟩
    obtain ⟨n, hn, rfl⟩ := nvs_get hx
    have hn' : (srt c)[i]? = some n := hn
    have hi : i < c.length := by have := (List.getElem?_eq_some_iff.mp hn').1; rw [srt_length] at this; exact this
    have ln : n < 4294967296 := hlow n (srt_mem (List.mem_of_getElem? hn'))
    rw [drop_one hn', levelOf, List.length_drop, srt_length] at hlv
    rw [show c.length - (i + 1) + 1 = c.length - i by omega] at hlv
    refine q_when (et_test (ev_gtN (n := left) (ev_mulN (m := n) (n := c.length - i) (ev_var rfl) (ev_var rfl) (by omega) (by omega)) (ev_var rfl))) (fun hb H3 e3 => ?_) (fun hb H3 e3 => ?_)
    · have hb' := of_decide_eq_true hb
      rw [if_neg (by omega)] at hlv
      have hz2 := Option.some.inj hlv
      refine s_brk ?_
      show tRet (tTup (tCons (tOp qDiv (tVar 2) (tVar 3)) (tCons (tOp qMod (tVar 2) (tVar 3)) tNil))) _ _ _
      refine s_retU (eu_tup (ea_cons (ev_divN (m := left) (n := c.length - i) (ev_var rfl) (ev_var rfl) (by omega) (by omega)) (ea_cons (ev_modN (m := left) (n := c.length - i) (ev_var rfl) (ev_var rfl) (by omega)) ea_nil)) (by show 2 ≤ 100000; decide)) fun s H4 hs e4 h4 => k.go (e.trans e3) hs e4 ?_
      rw [h4, ← hz2]
    · have hb' := of_decide_eq_false hb
      rw [if_pos (by omega)] at hlv
      have nl : n ≤ left := Nat.le_trans (Nat.le_mul_of_pos_right n (by omega)) (Nat.le_of_not_lt hb')
      refine q_aug (a := (left : Int)) (b := (n : Int)) rfl (ev_var rfl) fun H4 e4 => s_aug (a := ((c.length - i : Nat) : Int)) (b := 1) rfl ev_c fun H5 e5 => ?_
      refine ⟨some (nv n), left - n, ?_, ((e.trans e3).trans e4).trans e5, ((e3.trans e4).trans e5) p _ hp, hlv⟩
      show [some (V.ref a), some (nv l), some (V.int ((left : Int) - (n : Int))), some (V.int (((c.length - i : Nat) : Int) - 1)), some (nv n)] = _
      rw [show (left : Int) - (n : Int) = ((left - n : Nat) : Int) by omega, show ((c.length - i : Nat) : Int) - 1 = ((c.length - (i + 1) : Nat) : Int) by omega]
  · rintro p σ' H' ⟨v, left, rfl, e, hp, hlv⟩
    rw [nvs_length] at hlv
    have : (srt c).drop (srt c).length = [] := List.drop_length
    rw [show (c.mergeSort fun (a b : Nat) => decide (a ≤ b)).length = (srt c).length from rfl, this, levelOf] at hlv
    cases hlv
/-! ### levelled -/
def sp_levelled (K : PySem.W.Frag) : Sp := fun vs H Q _ => ∃ (a : Addr) (c : List Nat) (l : Nat), vs = [.ref a, nv l] ∧ SqL K H a (nvs c) ∧ c.length ≤ 24 ∧ (∀ x ∈ c, x < 4294967296) ∧ RetL (nvs (Ph.lev l c)) H Q
theorem lev1_turn {v rest n : Nat} {r : List Nat} : Ph.lev1 v rest (n :: r) = (if v < n ∧ 0 < rest then v + 1 else min n v) :: Ph.lev1 v (if v < n ∧ 0 < rest then rest - 1 else rest) r := by
  rw [Ph.lev1]
  by_cases h : v < n
  · rw [if_pos h]
    by_cases g : 0 < rest
    · rw [if_pos ⟨h, g⟩, if_pos ⟨h, g⟩]; congr 1; omega
    · have r0 : rest = 0 := by omega
      subst r0
      rw [if_neg (fun q => g q.2), if_neg (fun q => g q.2)]; congr 1; omega
  · rw [if_neg h, if_neg (fun q => h q.1), if_neg (fun q => h q.1)]; congr 1; omega
theorem nvs_append (x y : List Nat) : nvs (x ++ y) = nvs x ++ nvs y := by unfold nvs; rw [List.map_append]
theorem pure_levelled {K : PySem.W.Frag} {vs : List V} {H : Hp} {Q : VK} {E : XK} (h : sp_levelled K vs H Q E) : t_levelled K (sp_level_and_rest K) { nx := fun _ H' => Q .non H', rt := Q } (L2.start ["able", "limit", "level_rest", "level", "rest", "shares", "watts"] vs) H := by
  obtain ⟨a, c, l, rfl, hS, hc, hlow, k⟩ := h
  refine q_when (et_test (ev_leN (n := l) (ev_sum (ev_var rfl) hS) (ev_var rfl))) (fun hb H1 e1 => ?_) (fun hb H1 e1 => ?_)
  · have hb' := of_decide_eq_true hb
    have hl : Ph.lev l c = c := by
      unfold Ph.lev
      rw [Ph.levelOf_all _ _ (Ph.sorted_own c) (by rw [Ph.total_perm (List.mergeSort_perm c _)]; exact hb')]
    rw [hl] at k
    exact s_retL (el_list (ev_var rfl) (ex_l e1 hS)) fun p H2 hp e2 h2 => k.go e1 hp e2 h2
  · have hb' := of_decide_eq_false hb
    obtain ⟨z, hz⟩ : ∃ z, levelOf (srt c) l = some z := by
      cases e : levelOf (srt c) l with
      | some z => exact ⟨z, rfl⟩
      | none =>
        have := Ph.levelOf_none _ _ e
        rw [show VwNum.total (srt c) = VwNum.total c from Ph.total_perm (List.mergeSort_perm c _)] at this
        omega
    have hl : Ph.lev l c = Ph.lev1 z.1 z.2 c := by
      unfold Ph.lev
      rw [show levelOf (c.mergeSort fun (a b : Nat) => decide (a ≤ b)) l = some z from hz]
    rw [hl] at k
    refine q_asgU (xs := [nv z.1, nv z.2]) (fun H2 e Q2 q => ⟨_, rfl, _, rfl, a, c, l, rfl, ex_l (e1.trans e) hS, hc, hlow, z, hz, fun p H3 hp e3 h3 => q p H3 hp e3 h3⟩) fun p H2 hp e2 h2 => ?_
    refine q_asg (v := nv z.1) (ev_ixT (n := 0) (ev_var rfl) ev_c (st_of h2) rfl) fun H3 e3 => q_asg (v := nv z.2) (ev_ixT (n := 1) (ev_var rfl) ev_c (st_of (e3 p _ h2)) rfl) fun H4 e4 => ?_
    have e14 := ((e1.trans e2).trans e3).trans e4
    refine q_asgL (el_lst ea_nil (by decide)) fun s H5 hs e5 h5 => ?_
    have hs0 : H s = none := fresh_back e14 hs
    refine q_forLn (ev_var rfl) (ex_l (e14.trans e5) hS) (fun i σ H' => ∃ v rest out, σ = [some (.ref a), some (nv l), some (.ref p), some (nv z.1), some (nv rest), some (.ref s), v] ∧ Ex H H' ∧ H' s = some (.lst (nvs out)) ∧ out.length = i ∧ out ++ Ph.lev1 z.1 rest (c.drop i) = Ph.lev1 z.1 z.2 c)
      (fun H6 e6 => ⟨_, z.2, [], rfl, (e14.trans e5).trans e6, e6 s _ h5, rfl, rfl⟩) (fun i σ' H' _ ⟨_, _, _, _, e, _⟩ => ex_l e hS) ?_ ?_
    · rintro i x σ' H' hx ⟨v, rest, out, rfl, e, hs', hlen, hout⟩
      obtain ⟨n, hn, rfl⟩ := nvs_get hx
      have hi : i < c.length := (List.getElem?_eq_some_iff.mp hn).1
      rw [drop_one hn, lev1_turn] at hout
      refine s_if (et_and (et_test (ev_gtN (m := n) (n := z.1) (ev_var rfl) (ev_var rfl))) fun _ => et_test (ev_gtN (m := rest) (n := 0) (ev_var rfl) ev_c)) (fun hb2 H6 e6 => ?_) (fun hb2 H6 e6 => ?_)
      · rw [Bool.and_eq_true, decide_eq_true_eq, decide_eq_true_eq] at hb2
        rw [if_pos hb2, if_pos hb2] at hout
        refine q_app (v := nv (z.1 + 1)) (e6 s _ hs') (ev_var rfl) (ev_addN (n := 1) (ev_var rfl) ev_c) (by rw [nvs_length]; omega) fun H7 e7 => s_aug (a := (rest : Int)) (b := 1) rfl ev_c fun H8 e8 => ?_
        refine ⟨some (nv n), rest - 1, out ++ [z.1 + 1], ?_, (Ex.mut ((e.trans e6).trans e7) hs0).trans e8, ?_, by rw [List.length_append, hlen]; rfl, ?_⟩
        · show [_, _, _, _, some (V.int ((rest : Int) - 1)), _, _] = _
          rw [show (rest : Int) - 1 = ((rest - 1 : Nat) : Int) by omega]
        · rw [e8 s _ upd_same, nvs_append]; rfl
        · rw [← hout, List.append_assoc]; rfl
      · have hb3 : ¬ (z.1 < n ∧ 0 < rest) := by
          intro q
          rw [Bool.and_eq_false_iff, decide_eq_false_iff_not, decide_eq_false_iff_not] at hb2
          omega
        rw [if_neg hb3, if_neg hb3] at hout
        refine s_app (v := nv (min n z.1)) (e6 s _ hs') (ev_var rfl) (ev_min2 (ev_var rfl) (ev_var rfl)) (by rw [nvs_length]; omega) fun H7 e7 => ?_
        refine ⟨_, rest, out ++ [min n z.1], rfl, Ex.mut ((e.trans e6).trans e7) hs0, ?_, by rw [List.length_append, hlen]; rfl, ?_⟩
        · rw [upd_same, nvs_append]; rfl
        · rw [← hout, List.append_assoc]; rfl
    · rintro σ' H' ⟨v, rest, out, rfl, e, hs', hlen, hout⟩
      rw [nvs_length, List.drop_length, Ph.lev1, List.append_nil] at hout
      refine s_ret (v := .ref s) (ev_var rfl) fun H6 e6 => k s H6 hs0 (e.trans e6) ?_
      rw [← hout]; exact e6 s _ hs'
end Pp
end
section
set_option Elab.async false
set_option linter.all false
set_option maxRecDepth 100000
set_option maxHeartbeats 2000000
namespace Pp
open PySem PySem.Spec PyProof.Rows L2 Evl VwHand
theorem kinds_length (gs : List PG) : (kinds gs).length = gs.length := by unfold kinds; rw [List.length_map]
theorem worths_length (gs : List PG) : (worths gs).length = gs.length := by unfold worths; rw [List.length_map]
theorem kinds_at {gs : List PG} {i : Nat} {g : PG} (h : gs[i]? = some g) : (kinds gs)[i]? = some g.kind := by unfold kinds; rw [List.getElem?_map, h]; rfl
theorem refs_get {as : List Addr} {i : Nat} {x : V} (h : (as.map V.ref)[i]? = some x) : ∃ a, as[i]? = some a ∧ x = V.ref a := by
  rw [List.getElem?_map] at h
  cases q : as[i]? with
  | none => rw [q] at h; cases h
  | some a => rw [q] at h; exact ⟨a, rfl, (Option.some.inj h).symm⟩
theorem refs_at {as : List Addr} {i : Nat} {a : Addr} (h : as[i]? = some a) : (as.map V.ref)[i]? = some (V.ref a) := by rw [List.getElem?_map, h]; rfl
/-- a giver by its number -/
theorem GiversAt.at {K : PySem.W.Frag} {C : Addr} {H : Hp} {l : Addr} {gs : List PG} (G : GiversAt K C H l gs) : ∃ as : List Addr, SqL K H l (as.map V.ref) ∧ as.length = gs.length ∧ ∀ (i : Nat) (a : Addr), as[i]? = some a → ∃ g, gs[i]? = some g ∧ GiverAt K C H a g := by
  obtain ⟨⟨as, h1, h2, h3⟩, f⟩ := G
  refine ⟨as, h1, h2, fun i a h => ?_⟩
  have hi : i < gs.length := by have := (List.getElem?_eq_some_iff.mp h).1; omega
  exact ⟨gs[i], List.getElem?_eq_getElem hi, h3 i a _ h (List.getElem?_eq_getElem hi)⟩
/-- a call with a new list and a value -/
theorem el_callLV {σ : L2.St} {H : Hp} {ta tb : TE} {sp : Sp} {E : XK} {ys xs : List V} {v : V} (h : EvL ta σ H ys) (hb : Ev tb σ H v) (hs : ∀ p H1, Ex H H1 → H1 p = some (.lst ys) → SpL sp [.ref p, v] H1 xs) : EvL (tCall sp [] E (tCons ta (tCons tb tNil))) σ H xs := fun H1 e Q q =>
  h H1 e _ fun p H2 hp e2 h2 => hb H2 (e.trans e2) _ fun H3 e3 => hs p H3 ((e.trans e2).trans e3) (e3 p _ h2) H3 (Ex.refl _) Q (fun p' H4 hp' e4 h4 => q p' H4 (fresh_back (e2.trans e3) hp') ((e2.trans e3).trans e4) h4) E
/-! ### with_class_levelled -/
def sp_with_class_levelled (K : PySem.W.Frag) (C : Addr) : Sp := fun vs H Q _ => ∃ (l r : Addr) (gs : List PG) (row : List Nat) (k lim : Nat), vs = [.ref l, .ref r, nv k, nv lim] ∧ GiversAt K C H l gs ∧ SqL K H r (nvs row) ∧ row.length = gs.length ∧ (∀ x ∈ row, x < 4294967296) ∧ RetL (nvs (poured (Ph.isK k) lim (kinds gs) row)) H Q
theorem nvs_set (l : List Nat) (i n : Nat) : nvs (l.set i n) = (nvs l).set i (nv n) := by unfold nvs; rw [List.map_set]
theorem own_sub {mine : Nat → Bool} {ks c : List Nat} {x : Nat} (h : x ∈ Ph.own mine ks c) : x ∈ c := by
  unfold Ph.own at h
  obtain ⟨y, hy, e⟩ := List.mem_filterMap.mp h
  split at e
  · cases e; exact (List.of_mem_zip hy).2
  · cases e
theorem pure_with_class_levelled {K : PySem.W.Frag} {C : Addr} (c : CG K C) {vs : List V} {H : Hp} {Q : VK} {E : XK} (h : sp_with_class_levelled K C vs H Q E) :
    t_with_class_levelled K (sp_levelled K) { nx := fun _ H' => Q .non H', rt := Q } (L2.start ["givers", "row", "kind", "limit", "members", "shares", "number", "watts", "giver", "member"] vs) H := by
  obtain ⟨l, r, gs, row, kd, lim, rfl, G, hr, hlen, hlow, k⟩ := h
  have few := G.few
  obtain ⟨as, ha, hal, hG⟩ := G.at
  have hkl : (kinds gs).length = row.length := by rw [kinds_length, hlen]
  have memlen := Ph.mem_length (Ph.isK kd) 0 (kinds gs) row hkl
  have ownlen : (Ph.own (Ph.isK kd) (kinds gs) row).length ≤ 24 := by
    rw [← memlen, Ph.mem_filter, List.length_map]
    have := List.length_filter_le (fun i => Ph.isK kd ((kinds gs).getD i 0)) (List.range (kinds gs).length)
    rw [List.length_range, kinds_length] at this
    rw [kinds_length]; omega
  -- members
  have comp : EvL (tLc (iEnum K (tCons (tVar 0) tNil)) (gTup K 2 (gCons (gName 6) (gCons (gName 8) gNil))) (tTest (tOp rEq (tFld K (tVar 8) "kind") (tVar 2))) (tVar 6) [6, 8])
      [some (.ref l), some (.ref r), some (nv kd), some (nv lim), none, none, none, none, none, none] H (nvs (Ph.mem (Ph.isK kd) 0 (kinds gs))) := by
    have e : nvs (Ph.mem (Ph.isK kd) 0 (kinds gs)) = given (as.map V.ref).length (fun i => Ph.isK kd ((kinds gs).getD i 0)) (fun i => nv i) := by
      rw [Ph.mem_filter, List.length_map, hal, kinds_length]
      unfold nvs given
      rw [List.map_map]; rfl
    rw [e]
    refine el_lcE _ _ (ea_cons (ev_var rfl) ea_nil) ha (by rw [List.length_map]; omega) (fun x y => rfl) (fun i x H1 e1 hx => ?_) (fun i x H1 e1 hx _ => ev_var rfl)
    obtain ⟨a, hai, rfl⟩ := refs_get hx
    obtain ⟨g, hg, Gi⟩ := hG i a hai
    refine et_is (et_test (ev_eqN (m := g.kind) (n := kd) (gv_kind c (Gi.mono e1) (ev_var rfl)) (ev_var rfl))) ?_
    rw [List.getD_eq_getElem?_getD, kinds_at hg]
    show decide (g.kind = kd) = (g.kind == kd)
    rfl
  refine q_asgL comp fun mb H1 hmb e1 h1 => q_asgL (el_list (ev_var rfl) (ex_l e1 hr)) fun s H2 hs e2 h2 => ?_
  have hs0 : H s = none := fresh_back e1 hs
  have e12 := e1.trans e2
  have hm2 := e2 mb _ h1
  have nms : mb ≠ s := ne_of_none h1 hs
  -- [row[member] for member in members], levelled
  have comp2 : EvL (tCall (sp_levelled K) [] C8.E0 (tCons (tLc (iList K (tVar 4)) (gName 9) tYes (tOp (rIxL K) (tVar 1) (tVar 9)) [9]) (tCons (tVar 3) tNil)))
      [some (.ref l), some (.ref r), some (nv kd), some (nv lim), some (.ref mb), some (.ref s), none, none, none, none] H2 (nvs (Ph.lev lim (Ph.own (Ph.isK kd) (kinds gs) row))) := by
    have inner : EvL (tLc (iList K (tVar 4)) (gName 9) tYes (tOp (rIxL K) (tVar 1) (tVar 9)) [9]) [some (.ref l), some (.ref r), some (nv kd), some (nv lim), some (.ref mb), some (.ref s), none, none, none, none] H2 (nvs (Ph.own (Ph.isK kd) (kinds gs) row)) := by
      have e : nvs (Ph.own (Ph.isK kd) (kinds gs) row) = given (nvs (Ph.mem (Ph.isK kd) 0 (kinds gs))).length (fun _ => true) (fun i => nv ((Ph.own (Ph.isK kd) (kinds gs) row).getD i 0)) := by
        rw [given_all, nvs_length, memlen]
        unfold nvs
        refine List.ext_getElem? fun i => ?_
        rw [List.getElem?_map, List.getElem?_map]
        by_cases hi : i < (Ph.own (Ph.isK kd) (kinds gs) row).length
        · rw [List.getElem?_eq_getElem hi, List.getElem?_range hi]
          simp [List.getD_eq_getElem?_getD, hi]
        · rw [List.getElem?_eq_none (by omega), List.getElem?_eq_none (by rw [List.length_range]; omega)]; rfl
      rw [e]
      refine el_lcL _ _ (ev_var rfl) (sq_of hm2) (by rw [nvs_length, memlen]; omega) (fun x => rfl) (fun i x H3 e3 hx => et_yes) (fun i x H3 e3 hx _ => ?_)
      obtain ⟨j, hj, rfl⟩ := nvs_get hx
      have hoa := Ph.own_at (Ph.isK kd) 0 (kinds gs) row hkl hj
      have hi : i < (Ph.own (Ph.isK kd) (kinds gs) row).length := by rw [← memlen]; exact (List.getElem?_eq_some_iff.mp hj).1
      refine ev_ixN (ev_var rfl) (ev_var rfl) (ex_l (e12.trans e3) hr) ?_
      rw [Nat.sub_zero] at hoa
      rw [← hoa, List.getD_eq_getElem?_getD, List.getElem?_eq_getElem hi]; rfl
    exact el_callLV inner (ev_var rfl) fun p H4 e4 h4 H5 e5 Q5 q5 _ => ⟨p, _, lim, rfl, sq_of (e5 p _ h4), ownlen, fun x hx => hlow x (own_sub hx), q5⟩
  refine q_of (s_forZN (n := (Ph.own (Ph.isK kd) (kinds gs) row).length) (ev_var rfl) comp2 (sq_of hm2) (by rw [nvs_length, nvs_length, Ph.lev_length, memlen]; omega)
    (fun i σ H' => ∃ v w, σ = [some (.ref l), some (.ref r), some (nv kd), some (nv lim), some (.ref mb), some (.ref s), v, w, none, none] ∧ Ex H H' ∧ H' mb = some (.lst (nvs (Ph.mem (Ph.isK kd) 0 (kinds gs)))) ∧
      ∃ ws, ws.length = (Ph.own (Ph.isK kd) (kinds gs) row).length ∧ (∀ j, ws[j]? = if j < i then (Ph.lev lim (Ph.own (Ph.isK kd) (kinds gs) row))[j]? else (Ph.own (Ph.isK kd) (kinds gs) row)[j]?) ∧ H' s = some (.lst (nvs (Ph.sc (Ph.isK kd) (kinds gs) row ws))))
    (fun H3 e3 => ⟨_, _, rfl, e12.trans e3, e3 mb _ hm2, Ph.own (Ph.isK kd) (kinds gs) row, rfl, fun j => by rw [if_neg (by omega)], by rw [Ph.sc_own _ _ _ hkl]; exact e3 s _ h2⟩) (fun i σ' H' _ ⟨_, _, _, _, h, _⟩ => sq_of h) ?_ ?_)
  · rintro b hb i x y σ' H' H3 hx hy ⟨v, w, rfl, e, hmb', ws, hwl, hw, hs'⟩ hb' e3
    obtain ⟨j, hj, rfl⟩ := nvs_get hx
    obtain ⟨n, hn, rfl⟩ := nvs_get hy
    have hset := Ph.sc_set (Ph.isK kd) n 0 (kinds gs) row ws hkl hwl hj
    rw [Nat.sub_zero] at hset
    have hjl : j < row.length := by have := (Ph.mem_ge _ _ _ (List.mem_of_getElem? hj)).2; rw [kinds_length] at this; omega
    have nbs : b ≠ s := (ne_of_none h2 hb).symm
    refine s_setL (j := j) (e3 s _ hs') (ev_var rfl) (ev_var rfl) (ev_var rfl) (by rw [nvs_length, Ph.sc_length _ _ _ _ hkl]; exact hjl) fun H4 e4 => ?_
    refine ⟨⟨_, _, rfl, Ex.mut ((e.trans e3).trans e4) hs0, ?_, ws.set i n, by rw [List.length_set]; exact hwl, fun j' => ?_, ?_⟩, ?_⟩
    · rw [upd_ne nms]; exact e4 _ _ (e3 _ _ hmb')
    · rw [List.getElem?_set]
      by_cases q : i = j'
      · subst q
        have : i < ws.length := by rw [hwl, ← memlen]; exact (List.getElem?_eq_some_iff.mp hj).1
        rw [if_pos rfl, if_pos this, if_pos (by omega), hn]
      · rw [if_neg q, hw j']
        by_cases q2 : j' < i
        · rw [if_pos q2, if_pos (by omega)]
        · rw [if_neg q2, if_neg (by omega)]
    · rw [upd_same, ← hset, nvs_set]
    · rw [upd_ne nbs]; exact e4 _ _ (e3 _ _ hb')
  · rintro σ' H' ⟨v, w, rfl, e, hmb', ws, hwl, hw, hs'⟩
    have hws : ws = Ph.lev lim (Ph.own (Ph.isK kd) (kinds gs) row) := by
      refine List.ext_getElem? fun j => ?_
      rw [hw j]
      by_cases q : j < (Ph.own (Ph.isK kd) (kinds gs) row).length
      · rw [if_pos q]
      · rw [if_neg q, List.getElem?_eq_none (by omega), List.getElem?_eq_none (by rw [Ph.lev_length]; omega)]
    rw [hws, ← Ph.poured_sc _ _ _ _ hkl] at hs'
    show tRet (tVar 5) _ _ _
    exact s_ret (v := .ref s) (ev_var rfl) fun H3 e3 => k s H3 hs0 (e.trans e3) (e3 s _ hs')
/-! ### fairest -/
def sp_fairest (K : PySem.W.Frag) (C : Addr) : Sp := fun vs H Q _ => ∃ (l r t : Addr) (gs : List PG) (row : List Nat) (m : Limits), vs = [.ref l, .ref r, .ref t] ∧ GiversAt K C H l gs ∧ SqL K H r (nvs row) ∧ row.length = gs.length ∧ (∀ x ∈ row, x < 4294967296) ∧ SqL K H t (lms m) ∧ m.classes.length = 8 ∧ RetL (nvs (VwHand.fairest m (kinds gs) row)) H Q
theorem le_low {x y : List Nat} (h : Ph.Le x y) {b : Nat} (hb : ∀ a ∈ y, a < b) : ∀ a ∈ x, a < b := by
  intro a ha
  have : ∀ a ∈ y, a ≤ b - 1 := fun a ha => by have := hb a ha; omega
  have h1 := h.bound this a ha
  cases y with
  | nil => cases x with
    | nil => cases ha
    | cons => exact h.elim
  | cons z y => have := hb z List.mem_cons_self; omega
theorem pure_fairest {K : PySem.W.Frag} {C : Addr} {vs : List V} {H : Hp} {Q : VK} {E : XK} (h : sp_fairest K C vs H Q E) :
    t_fairest K (sp_levelled K) (sp_with_class_levelled K C) { nx := fun _ H' => Q .non H', rt := Q } (L2.start ["givers", "able", "limits", "shares", "kind"] vs) H := by
  obtain ⟨l, r, t, gs, row, m, rfl, G, hr, hlen, hlow, ht, hm, k⟩ := h
  have few := G.few
  have hkl : (kinds gs).length = row.length := by rw [kinds_length, hlen]
  refine q_asgL (el_list (ev_var rfl) hr) fun s H1 hs e1 h1 => ?_
  have hle : ∀ i, Ph.Le ((List.range i).foldl (Ph.pass1 m (kinds gs)) row) row := fun i => Ph.passes_le m (kinds gs) _ row hkl
  refine q_forR1 (n := 8) (ea_cons ev_c ea_nil) (by decide) (fun i σ H' => ∃ v q, σ = [some (.ref l), some (.ref r), some (.ref t), some (.ref q), v] ∧ Ex H H' ∧ SqL K H' q (nvs ((List.range i).foldl (Ph.pass1 m (kinds gs)) row))) (fun H2 e2 => ⟨_, s, rfl, e1.trans e2, sq_of (e2 s _ h1)⟩) ?_ ?_
  · rintro i σ' H' hi ⟨v, q, rfl, e, hq⟩
    have hi8 : i < 8 := by omega
    have li := hle i
    have hat : Ev (tOp (rIxL K) (tVar 2) (tVar 4)) [some (.ref l), some (.ref r), some (.ref t), some (.ref q), some (nv i)] H' (lo (limitAt m i)) := ev_ixL (ev_var rfl) (ev_var rfl) (ex_l e ht) (lms_kind hm hi8)
    have stepE : (List.range (i + 1)).foldl (Ph.pass1 m (kinds gs)) row = Ph.pass1 m (kinds gs) ((List.range i).foldl (Ph.pass1 m (kinds gs)) row) i := by rw [List.range_succ, List.foldl_append]; rfl
    cases hlim : limitAt m i with
    | none =>
      rw [hlim] at hat
      refine s_when (et_test (ev_neI (i := -1) (j := -1) hat ev_c)) (fun hb => absurd hb (by decide)) (fun hb H2 e2 => ?_)
      refine ⟨_, q, rfl, e.trans e2, ?_⟩
      rw [stepE]
      unfold Ph.pass1
      rw [hlim]
      exact ex_l e2 hq
    | some lim =>
      rw [hlim] at hat
      refine s_when (et_test (ev_neI (i := (lim : Int)) (j := -1) hat ev_c)) (fun hb H2 e2 => ?_) (fun hb => absurd hb (by simp))
      refine s_asgL (el_call (ea_cons (ev_var rfl) (ea_cons (ev_var rfl) (ea_cons (ev_var rfl) (ea_cons (Ev.mono e2 hat) ea_nil)))) (fun H3 e3 Q3 q3 _ => ⟨l, q, gs, _, i, lim, rfl, G.mono ((e.trans e2).trans e3), ex_l (e2.trans e3) hq, by rw [li.length, hlen], le_low li hlow, q3⟩)) fun p H3 hp e3 h3 => ?_
      refine ⟨_, p, rfl, (e.trans e2).trans e3, ?_⟩
      rw [stepE]
      unfold Ph.pass1
      rw [hlim]
      exact sq_of h3
  · rintro σ' H' ⟨v, q, rfl, e, hq⟩
    have l8 := hle 8
    refine s_retL (el_call (ea_cons (ev_var rfl) (ea_cons (x := nv m.plant) (ev_ixL (ev_var rfl) (n := 8) ev_c (ex_l e ht) (lms_plant hm)) ea_nil)) (fun H3 e3 Q3 q3 _ => ⟨q, _, m.plant, rfl, ex_l e3 hq, by rw [show ((8 : Int)).toNat = 8 from rfl, l8.length, hlen]; omega, le_low l8 hlow, q3⟩)) fun p H3 hp e3 h3 => k.go e hp e3 ?_
    rw [h3, Ph.fairest_eq, Ph.poured_any _ _ _ (by rw [kinds_length, l8.length, hlen])]
    rfl
end Pp
end
section
set_option Elab.async false
set_option linter.all false
set_option maxRecDepth 100000
set_option maxHeartbeats 2000000
namespace Pp
open PySem PySem.Spec PyProof.Rows L2 Evl VwHand
/-! ### least_losing -/
def sp_by_worth (K : PySem.W.Frag) (C : Addr) : Sp := fun vs H Q _ => ∃ (l : Addr) (gs : List PG), vs = [.ref l] ∧ GiversAt K C H l gs ∧ RetL (nvs (byWorth (worths gs))) H Q
def sp_least_losing (K : PySem.W.Frag) (C : Addr) : Sp := fun vs H Q _ => ∃ (l r t : Addr) (gs : List PG) (row : List Nat) (m : Limits), vs = [.ref l, .ref r, .ref t] ∧ GiversAt K C H l gs ∧ SqL K H r (nvs row) ∧ row.length = gs.length ∧ SqL K H t (lms m) ∧ m.classes.length = 8 ∧ RetL (nvs (leastLost m (kinds gs) (worths gs) row)) H Q
theorem byWorth_lt (ws : List Nat) {i : Nat} (h : i ∈ byWorth ws) : i < ws.length := by
  unfold byWorth at h
  obtain ⟨y, hy, rfl⟩ := List.mem_map.mp h
  have := (List.mergeSort_perm _ _).mem_iff.mp hy
  obtain ⟨j, hj⟩ := List.mem_iff_getElem?.mp this
  rw [List.getElem?_zipIdx] at hj
  cases e : ws[j]? with
  | none => rw [e] at hj; cases hj
  | some a =>
    rw [e] at hj
    have := Option.some.inj hj
    rw [← this]
    have := (List.getElem?_eq_some_iff.mp e).1
    simpa using this
theorem under_min (o : Option Nat) (c p : Nat) : min (Ph.under o c) p = min c (min (o.getD c) p) := by
  cases o with
  | none => show min c p = min c (min c p); omega
  | some l => show min (min l c) p = min c (min l p); omega
theorem lms_plant_set (m : Limits) (h : m.classes.length = 8) (p : Nat) : (lms m).set 8 (nv p) = lms ⟨m.classes, p⟩ := by
  unfold lms
  rw [List.set_append_right _ _ (by rw [List.length_map]; omega), List.length_map, h]; rfl
theorem lms_kind_set (m : Limits) (h : m.classes.length = 8) {k : Nat} (hk : k < 8) (a : Nat) (l : Nat) (hl : limitAt m k = some l) : (lms m).set k (nv (l - a)) = lms ⟨m.classes.modify k fun (l : Option Nat) => l.map fun (n : Nat) => n - a, m.plant⟩ := by
  unfold lms
  rw [List.set_append_left _ _ (by rw [List.length_map]; omega)]
  congr 1
  refine List.ext_getElem? fun i => ?_
  rw [List.getElem?_set, List.getElem?_map, List.getElem?_map, List.getElem?_modify]
  by_cases e : k = i
  · subst e
    unfold limitAt at hl
    rw [List.getD_eq_getElem?_getD, List.getElem?_eq_getElem (by omega)] at hl
    have hl' : m.classes[k] = some l := hl
    rw [if_pos rfl, if_pos (by rw [List.length_map]; omega), List.getElem?_eq_getElem (by omega), hl']
    simp [lo]
  · rw [if_neg e]
    simp [e]
theorem modify_none {m : Limits} {k a : Nat} (hl : limitAt m k = none) : (m.classes.modify k fun (l : Option Nat) => l.map fun (n : Nat) => n - a) = m.classes := by
  refine List.ext_getElem? fun i => ?_
  rw [List.getElem?_modify]
  by_cases e : k = i
  · subst e
    unfold limitAt at hl
    rw [List.getD_eq_getElem?_getD] at hl
    cases q : m.classes[k]? with
    | none => rfl
    | some o => rw [q] at hl; have : o = none := hl; subst this; simp
  · simp [e]
theorem pure_least_losing {K : PySem.W.Frag} {C : Addr} (c : CG K C) {vs : List V} {H : Hp} {Q : VK} {E : XK} (h : sp_least_losing K C vs H Q E) :
    t_least_losing K (sp_by_worth K C) sp_under { nx := fun _ H' => Q .non H', rt := Q } (L2.start ["givers", "able", "limits", "left", "shares", "number", "kind", "share"] vs) H := by
  obtain ⟨l, r, t, gs, row, m, rfl, G, hr, hlen, ht, hm, k⟩ := h
  have few := G.few
  obtain ⟨as, ha, hal, hG⟩ := G.at
  refine q_asgL (el_list (ev_var rfl) ht) fun lf H1 hlf e1 h1 => ?_
  refine q_asgL (el_rep (v := nv 0) (n := row.length) ev_c (ev_lenNs (ev_var rfl) (ex_l e1 hr)) (by omega)) fun sh H2 hsh e2 h2 => ?_
  have e12 := e1.trans e2
  have hsh0 : H sh = none := fresh_back e1 hsh
  have nls : lf ≠ sh := ne_of_none h1 hsh
  have h1' := e2 lf _ h1
  have hz : List.replicate row.length (nv 0) = nvs (row.map fun (_ : Nat) => 0) := by
    unfold nvs; rw [List.map_map, ← List.map_const']; rfl
  rw [hz] at h2
  refine q_forNLn (el_call (ea_cons (ev_var rfl) ea_nil) (fun H3 e3 Q3 q3 _ => ⟨l, gs, rfl, G.mono (e12.trans e3), q3⟩)) (fun p i σ H' => ∃ v w u m' x, σ = [some (.ref l), some (.ref r), some (.ref t), some (.ref lf), some (.ref sh), v, w, u] ∧ p ≠ lf ∧ p ≠ sh ∧ Ex H H' ∧ H' p = some (.lst (nvs (byWorth (worths gs)))) ∧ m'.classes.length = 8 ∧ x.length = row.length ∧ H' lf = some (.lst (lms m')) ∧ H' sh = some (.lst (nvs x)) ∧
      givenTo (kinds gs) row ((byWorth (worths gs)).drop i) m' x = leastLost m (kinds gs) (worths gs) row)
    (fun p H3 hp e3 h3 => ⟨_, _, _, m, row.map fun (_ : Nat) => 0, rfl, (ne_of_none h1' hp).symm, (ne_of_none h2 hp).symm, e12.trans e3, h3, hm, by rw [List.length_map], e3 lf _ h1', e3 sh _ h2, rfl⟩) (fun p i σ' H' hi ⟨_, _, _, _, _, _, _, _, _, h, _⟩ => sq_of h) ?_ ?_
  · rintro p i x0 σ' H' hx ⟨v, w, u, m', x, rfl, npl, nps, e, hp, hm', hxl, hlf', hsh', hgt⟩
    obtain ⟨n, hn, rfl⟩ := nvs_get hx
    have hnl : n < gs.length := by have := byWorth_lt _ (List.mem_of_getElem? hn); rw [worths_length] at this; exact this
    obtain ⟨a, hai⟩ : ∃ a, as[n]? = some a := ⟨_, List.getElem?_eq_getElem (by omega)⟩
    obtain ⟨g, hg, Gi⟩ := hG n a hai
    obtain ⟨cn, hcn⟩ : ∃ cn, row[n]? = some cn := ⟨_, List.getElem?_eq_getElem (by omega)⟩
    have hk8 := Gi.ok.kind
    rw [drop_one hn, givenTo] at hgt
    rw [show (kinds gs).getD n 0 = g.kind by rw [List.getD_eq_getElem?_getD, kinds_at hg]; rfl, show row.getD n 0 = cn by rw [List.getD_eq_getElem?_getD, hcn]; rfl] at hgt
    rw [← under_min] at hgt
    refine q_asg (v := nv g.kind) (gv_kind c (Gi.mono e) (ev_ixL (ev_var rfl) (ev_var rfl) (ex_l e ha) (refs_at hai))) fun H3 e3 => ?_
    refine q_asg (v := nv (min (Ph.under (limitAt m' g.kind) cn) m'.plant)) (ev_min2 (ev_call (ea_cons (ev_ixL (ev_var rfl) (n := g.kind) (ev_var rfl) (sq_of (e3 lf _ hlf')) (lms_kind hm' hk8)) (ea_cons (ev_ixN (ev_var rfl) (ev_var rfl) (ex_l (e.trans e3) hr) hcn) ea_nil)) (fun H4 e4 Q4 q4 _ => ⟨_, _, rfl, fun H5 e5 => q4 H5 e5⟩)) (ev_ixL (ev_var rfl) (n := 8) ev_c (sq_of (e3 lf _ hlf')) (lms_plant hm'))) fun H4 e4 => ?_
    generalize hA : min (Ph.under (limitAt m' g.kind) cn) m'.plant = A at hgt ⊢
    have hAp : A ≤ m'.plant := by rw [← hA]; exact Nat.min_le_right _ _
    refine q_setL (j := n) (v := nv A) (e4 sh _ (e3 sh _ hsh')) (ev_var rfl) (ev_var rfl) (ev_var rfl) (by rw [nvs_length]; omega) fun H5 e5 => ?_
    have lf5 : (upd H5 sh (.lst ((nvs x).set n (nv A)))) lf = some (.lst (lms m')) := by rw [upd_ne nls]; exact e5 lf _ (e4 lf _ (e3 lf _ hlf'))
    have p5 : (upd H5 sh (.lst ((nvs x).set n (nv A)))) p = some (.lst (nvs (byWorth (worths gs)))) := by rw [upd_ne nps]; exact e5 p _ (e4 p _ (e3 p _ hp))
    have ee5 : Ex H (upd H5 sh (.lst ((nvs x).set n (nv A)))) := Ex.mut (((e.trans e3).trans e4).trans e5) hsh0
    have s5 : (upd H5 sh (.lst ((nvs x).set n (nv A)))) sh = some (.lst (nvs (x.set n A))) := by rw [upd_same, nvs_set]
    refine q_augL (j := 8) (x := (m'.plant : Int)) (y := (A : Int)) lf5 (ev_var rfl) ev_c (lms_plant hm') (ev_var rfl) fun H6 e6 => ?_
    have l6 : (upd H6 lf (.lst ((lms m').set 8 (.int ((m'.plant : Int) - (A : Int)))))) lf = some (.lst (lms ⟨m'.classes, m'.plant - A⟩)) := by
      rw [upd_same, show (m'.plant : Int) - (A : Int) = ((m'.plant - A : Nat) : Int) by omega]
      congr 2
      exact lms_plant_set m' hm' _
    have p6 : (upd H6 lf (.lst ((lms m').set 8 (.int ((m'.plant : Int) - (A : Int)))))) p = some (.lst (nvs (byWorth (worths gs)))) := by rw [upd_ne npl]; exact e6 p _ p5
    have s6 : (upd H6 lf (.lst ((lms m').set 8 (.int ((m'.plant : Int) - (A : Int)))))) sh = some (.lst (nvs (x.set n A))) := by rw [upd_ne nls.symm]; exact e6 sh _ s5
    have ee6 : Ex H (upd H6 lf (.lst ((lms m').set 8 (.int ((m'.plant : Int) - (A : Int)))))) := Ex.mut (ee5.trans e6) hlf
    generalize upd H6 lf (.lst ((lms m').set 8 (.int ((m'.plant : Int) - (A : Int))))) = H7 at l6 p6 s6 ee6 ⊢
    have hlk : limitAt ⟨m'.classes, m'.plant - A⟩ g.kind = limitAt m' g.kind := rfl
    have hat : Ev (tOp (rIxL K) (tVar 3) (tVar 6)) [some (.ref l), some (.ref r), some (.ref t), some (.ref lf), some (.ref sh), some (nv n), some (nv g.kind), some (nv A)] H7 (lo (limitAt m' g.kind)) := by
      rw [← hlk]
      exact ev_ixL (ev_var rfl) (ev_var rfl) (sq_of l6) (lms_kind (m := ⟨m'.classes, m'.plant - A⟩) hm' hk8)
    cases hlim : limitAt m' g.kind with
    | none =>
      rw [hlim] at hat
      refine s_when (et_test (ev_neI (i := -1) (j := -1) hat ev_c)) (fun hb => absurd hb (by decide)) (fun hb H8 e8 => ?_)
      rw [modify_none hlim] at hgt
      exact ⟨_, _, _, ⟨m'.classes, m'.plant - A⟩, x.set n A, rfl, npl, nps, ee6.trans e8, e8 p _ p6, hm', by rw [List.length_set]; exact hxl, e8 lf _ l6, e8 sh _ s6, hgt⟩
    | some lim =>
      have hAl : A ≤ lim := by rw [← hA, hlim]; show min (min lim cn) m'.plant ≤ lim; omega
      rw [hlim] at hat
      refine s_when (et_test (ev_neI (i := (lim : Int)) (j := -1) hat ev_c)) (fun hb H8 e8 => ?_) (fun hb => absurd hb (by simp))
      refine s_augL (j := g.kind) (x := (lim : Int)) (y := (A : Int)) (e8 lf _ l6) (ev_var rfl) (ev_var rfl) (by rw [lms_kind (m := ⟨m'.classes, m'.plant - A⟩) hm' hk8, hlk, hlim]; rfl) (ev_var rfl) fun H9 e9 => ?_
      refine ⟨_, _, _, ⟨m'.classes.modify g.kind fun (l : Option Nat) => l.map fun (n : Nat) => n - A, m'.plant - A⟩, x.set n A, rfl, npl, nps, Ex.mut ((ee6.trans e8).trans e9) hlf, ?_, by rw [List.length_modify]; exact hm', by rw [List.length_set]; exact hxl, ?_, ?_, hgt⟩
      · rw [upd_ne npl]; exact e9 p _ (e8 p _ p6)
      · rw [upd_same, show (lim : Int) - (A : Int) = ((lim - A : Nat) : Int) by omega]
        congr 2
        exact lms_kind_set ⟨m'.classes, m'.plant - A⟩ hm' hk8 A lim (hlk.trans hlim)
      · rw [upd_ne nls.symm]; exact e9 sh _ (e8 sh _ s6)
  · rintro p σ' H' ⟨v, w, u, m', x, rfl, npl, nps, e, hp, hm', hxl, hlf', hsh', hgt⟩
    rw [nvs_length, List.drop_length, givenTo] at hgt
    rw [← hgt] at k
    exact s_ret (v := .ref sh) (ev_var rfl) fun H3 e3 => k sh H3 hsh0 (e.trans e3) (e3 sh _ hsh')
/-! ### shares_by -/
def sp_shares_by (K : PySem.W.Frag) (C : Addr) : Sp := fun vs H Q _ => ∃ (rule : Nat) (l r t : Addr) (gs : List PG) (row : List Nat) (m : Limits), vs = [nv rule, .ref l, .ref r, .ref t] ∧ GiversAt K C H l gs ∧ SqL K H r (nvs row) ∧ row.length = gs.length ∧ (∀ x ∈ row, x < 4294967296) ∧ SqL K H t (lms m) ∧ m.classes.length = 8 ∧ RetL (nvs (parted rule m (kinds gs) (worths gs) row)) H Q
theorem pure_shares_by {K : PySem.W.Frag} {C : Addr} {vs : List V} {H : Hp} {Q : VK} {E : XK} (h : sp_shares_by K C vs H Q E) :
    t_shares_by K (sp_fairest K C) (sp_least_losing K C) { nx := fun _ H' => Q .non H', rt := Q } (L2.start ["rule", "givers", "able", "limits"] vs) H := by
  obtain ⟨rule, l, r, t, gs, row, m, rfl, G, hr, hlen, hlow, ht, hm, k⟩ := h
  unfold parted at k
  refine q_when (et_test (ev_eqN (m := rule) (n := 0) (ev_var rfl) ev_c)) (fun hb H1 e1 => ?_) (fun hb H1 e1 => ?_)
  · rw [if_pos (of_decide_eq_true hb)] at k
    exact s_retL (el_call (ea_cons (ev_var rfl) (ea_cons (ev_var rfl) (ea_cons (ev_var rfl) ea_nil))) (fun H3 e3 Q3 q3 _ => ⟨l, r, t, gs, row, m, rfl, G.mono (e1.trans e3), ex_l (e1.trans e3) hr, hlen, hlow, ex_l (e1.trans e3) ht, hm, q3⟩)) fun p H3 hp e3 h3 => k.go e1 hp e3 h3
  · rw [if_neg (of_decide_eq_false hb)] at k
    exact s_retL (el_call (ea_cons (ev_var rfl) (ea_cons (ev_var rfl) (ea_cons (ev_var rfl) ea_nil))) (fun H3 e3 Q3 q3 _ => ⟨l, r, t, gs, row, m, rfl, G.mono (e1.trans e3), ex_l (e1.trans e3) hr, hlen, ex_l (e1.trans e3) ht, hm, q3⟩)) fun p H3 hp e3 h3 => k.go e1 hp e3 h3
end Pp
end
section
set_option Elab.async false
set_option linter.all false
set_option maxRecDepth 100000
set_option maxHeartbeats 2000000
namespace Pp
open PySem PySem.Spec PyProof.Rows L2 Evl VwHand
/-! ### two rows compared -/
def dats (l : List Nat) : List PyData := l.map fun (n : Nat) => PyData.int (n : Int)
theorem dp_all (K : PySem.W.Frag) (H : Hp) : ∀ l : List Nat, DpAll K H (nvs l) (dats l)
  | [] => .nil
  | n :: l => .cons (.int _) (dp_all K H l)
theorem dats_lay : ∀ l : List Nat, PyData.canLayAll0 (dats l) = true ∧ PyData.depthAll (dats l) = 0
  | [] => ⟨by simp [dats, PyData.canLayAll0], by simp [dats, PyData.depthAll]⟩
  | n :: l => by
    have h := dats_lay l
    have e : dats (n :: l) = PyData.int (n : Int) :: dats l := rfl
    rw [e, PyData.canLayAll0, PyData.depthAll, h.1, h.2]
    simp [PyData.canLay0, PyData.depth]
theorem dats_shaped (l : List Nat) : SeqAt.shaped (.list (dats l)) = true := by
  have h := dats_lay l
  unfold SeqAt.shaped
  rw [PyData.canLay0, PyData.depth, h.1, h.2]
  rfl
theorem dats_eqv : ∀ x y : List Nat, PyData.eqvAll (dats x) (dats y) = decide (x = y)
  | [], [] => by simp [dats, PyData.eqvAll]
  | [], b :: y => by simp [dats, PyData.eqvAll]
  | a :: x, [] => by simp [dats, PyData.eqvAll]
  | a :: x, b :: y => by
    have e1 : dats (a :: x) = PyData.int (a : Int) :: dats x := rfl
    have e2 : dats (b :: y) = PyData.int (b : Int) :: dats y := rfl
    rw [e1, e2, PyData.eqvAll, PyData.eqv, dats_eqv x y]
    by_cases h : a = b
    · subst h; simp
    · have : ¬ (a : Int) = (b : Int) := by omega
      simp [h, this]
section
variable {K : PySem.W.Frag} {σ : L2.St} {H : Hp} {ta tb : TE} {x y : List Nat}
theorem rv_eqL {a b : Addr} (h1 : SqL K H a (nvs x)) (h2 : SqL K H b (nvs y)) : RV (rEqD K) (.ref a) (.ref b) H (.bl (decide (x = y))) := fun H1 e Q q =>
  ⟨_, _, .lst (ex_l e h1) (dp_all K H1 x), .lst (ex_l e h2) (dp_all K H1 y), dats_shaped x, dats_shaped y, by rw [PyData.eqv, dats_eqv]; exact q H1 (Ex.refl H1)⟩
theorem ev_eqL {a b : Addr} (ha : Ev ta σ H (.ref a)) (hb : Ev tb σ H (.ref b)) (h1 : SqL K H a (nvs x)) (h2 : SqL K H b (nvs y)) : Ev (tOp (rEqD K) ta tb) σ H (.bl (decide (x = y))) := ev_op ha hb (rv_eqL h1 h2)
theorem ev_eqLL (ha : EvL ta σ H (nvs x)) (hb : EvL tb σ H (nvs y)) : Ev (tOp (rEqD K) ta tb) σ H (.bl (decide (x = y))) := ev_opLL ha hb fun p q H1 hp hq e => rv_eqL (sq_of hp) (sq_of hq)
end
/-! ### is_allowed -/
def sp_is_allowed (K : PySem.W.Frag) (C : Addr) : Sp := fun vs H Q _ => ∃ (l r u t : Addr) (gs : List PG) (row x : List Nat) (m : Limits), vs = [.ref l, .ref r, .ref u, .ref t] ∧ GiversAt K C H l gs ∧ SqL K H r (nvs row) ∧ row.length = gs.length ∧ SqL K H u (nvs x) ∧ x.length = gs.length ∧ SqL K H t (lms m) ∧ m.classes.length = 8 ∧ RetV (.bl (allowed m (kinds gs) row x)) H Q
theorem not_allowed {m : Limits} {ks c x : List Nat} (h : ¬ Ph.Okay m ks c x) : allowed m ks c x = false := by
  cases e : allowed m ks c x with
  | false => rfl
  | true => exact absurd ((Ph.allowed_iff m ks c x).mp e) h
theorem le_at : ∀ {x c : List Nat}, Ph.Le x c → ∀ {i a b : Nat}, x[i]? = some a → c[i]? = some b → a ≤ b
  | [], [], _, i, a, b, h, _ => by simp at h
  | [], _ :: _, h, _, _, _, _, _ => h.elim
  | _ :: _, [], h, _, _, _, _, _ => h.elim
  | p :: x, q :: c, h, 0, a, b, h1, h2 => by simp at h1 h2; subst h1 h2; exact h.1
  | p :: x, q :: c, h, i + 1, a, b, h1, h2 => le_at h.2 (i := i) (by simpa using h1) (by simpa using h2)
theorem le_of : ∀ {x c : List Nat}, x.length = c.length → (∀ (i a b : Nat), x[i]? = some a → c[i]? = some b → a ≤ b) → Ph.Le x c
  | [], [], _, _ => trivial
  | [], _ :: _, h, _ => by simp at h
  | _ :: _, [], h, _ => by simp at h
  | p :: x, q :: c, h, g => ⟨g 0 p q rfl rfl, le_of (by simpa using h) fun i a b h1 h2 => g (i + 1) a b (by simpa using h1) (by simpa using h2)⟩
theorem pure_is_allowed {K : PySem.W.Frag} {C : Addr} {vs : List V} {H : Hp} {Q : VK} {E : XK} (h : sp_is_allowed K C vs H Q E) :
    t_is_allowed K (sp_class_sums K C) { nx := fun _ H' => Q .non H', rt := Q } (L2.start ["givers", "able", "shares", "limits", "watts", "share", "sums", "kind"] vs) H := by
  obtain ⟨l, r, u, t, gs, row, x, m, rfl, G, hr, hlen, hu, hxl, ht, hm, k⟩ := h
  refine q_forZ (n := gs.length) (ea_cons (ev_var rfl) (ea_cons (ev_var rfl) ea_nil)) hr hu (by rw [nvs_length, nvs_length]; omega)
    (fun i σ H' => ∃ v w, σ = [some (.ref l), some (.ref r), some (.ref u), some (.ref t), v, w, none, none] ∧ Ex H H' ∧ ∀ j a b, j < i → x[j]? = some a → row[j]? = some b → a ≤ b) (fun H2 e2 => ⟨_, _, rfl, e2, fun j a b hj => absurd hj (by omega)⟩) (fun i σ' H' hi ⟨_, _, _, e, _⟩ => ⟨ex_l e hr, ex_l e hu⟩) ?_ ?_
  · rintro i y z σ' H' H2 hy hz ⟨v, w, rfl, e, hle⟩ e2
    obtain ⟨b, hb, rfl⟩ := nvs_get hy
    obtain ⟨a, ha, rfl⟩ := nvs_get hz
    refine s_when (et_test (ev_gtN (m := a) (n := b) (ev_var rfl) (ev_var rfl))) (fun q H3 e3 => ?_) (fun q H3 e3 => ?_)
    · rw [not_allowed (fun O => absurd (of_decide_eq_true q) (by have := le_at O.le ha hb; omega))] at k
      exact s_ret ev_c fun H4 e4 => k H4 (((e.trans e2).trans e3).trans e4)
    · refine ⟨_, _, rfl, (e.trans e2).trans e3, fun j a' b' hj ha' hb' => ?_⟩
      by_cases c : j = i
      · subst c
        rw [ha] at ha'; rw [hb] at hb'
        have := of_decide_eq_false q
        cases ha'; cases hb'; omega
      · exact hle j a' b' (by omega) ha' hb'
  · rintro σ' H' ⟨v, w, rfl, e, hle⟩
    have hLe : Ph.Le x row := le_of (by omega) fun i a b h1 h2 => hle i a b (by have := (List.getElem?_eq_some_iff.mp h1).1; omega) h1 h2
    refine q_asgL (el_call (ea_cons (ev_var rfl) (ea_cons (ev_var rfl) ea_nil)) (xs := nvs (sumsN (kinds gs) x)) (fun H1 e1 Q2 q _ => ⟨l, u, gs, x, rfl, G.mono (e.trans e1), ex_l (e.trans e1) hu, hxl, q⟩)) fun s H1 hs e1 h1 => ?_
    refine q_forR1 (n := 8) (ea_cons ev_c ea_nil) (by decide) (fun i σ H' => ∃ q, σ = [some (.ref l), some (.ref r), some (.ref u), some (.ref t), v, w, some (.ref s), q] ∧ Ex H1 H' ∧ ∀ j lim, j < i → limitAt m j = some lim → Ph.st (Ph.isK j) (kinds gs) x ≤ lim) (fun H2 e2 => ⟨_, rfl, e2, fun j lim hj => absurd hj (by omega)⟩) ?_ ?_
    · rintro i σ' H2 hi ⟨q, rfl, e2, hk⟩
      have hi8 : i < 8 := by omega
      have ee := (e.trans e1).trans e2
      have hat : ∀ {H3}, Ex H2 H3 → Ev (tOp (rIxL K) (tVar 3) (tVar 7)) [some (.ref l), some (.ref r), some (.ref u), some (.ref t), v, w, some (.ref s), some (nv i)] H3 (lo (limitAt m i)) := fun e3 => ev_ixL (ev_var rfl) (ev_var rfl) (ex_l (ee.trans e3) ht) (lms_kind hm hi8)
      cases hlim : limitAt m i with
      | none =>
        rw [hlim] at hat
        refine s_when (b := false) (et_is (et_and (b := false) (et_test (ev_neI (i := -1) (j := -1) (hat (Ex.refl _)) ev_c)) (fun z => absurd z (by decide))) (by decide)) (fun z => nomatch z) (fun _ H3 e3 => ?_)
        refine ⟨_, rfl, e2.trans e3, fun j lim hj hj2 => ?_⟩
        by_cases c : j = i
        · subst c; rw [hlim] at hj2; cases hj2
        · exact hk j lim (by omega) hj2
      | some lim =>
        rw [hlim] at hat
        refine s_when (et_and (et_test (ev_neI (i := (lim : Int)) (j := -1) (hat (Ex.refl _)) ev_c)) fun _ => et_test (ev_gtN (n := lim) (ev_ixN (ev_var rfl) (ev_var rfl) (sq_of (e2 s _ h1)) (sums_at hi8)) (hat (Ex.refl _)))) (fun z H3 e3 => ?_) (fun z H3 e3 => ?_)
        · rw [Bool.and_eq_true, decide_eq_true_eq] at z
          rw [not_allowed (fun O => absurd z.2 (by have := O.kinds i lim hi8 hlim; omega))] at k
          exact s_ret ev_c fun H4 e4 => k H4 ((ee.trans e3).trans e4)
        · refine ⟨_, rfl, e2.trans e3, fun j lim' hj hj2 => ?_⟩
          by_cases c : j = i
          · subst c
            rw [hlim] at hj2
            cases hj2
            rw [Bool.and_eq_false_iff] at z
            rcases z with z | z
            · simp at z
            · exact Nat.le_of_not_lt (of_decide_eq_false z)
          · exact hk j lim' (by omega) hj2
    · rintro σ' H2 ⟨q, rfl, e2, hk⟩
      refine s_ret (ev_leN (ev_sum (ev_var rfl) (ex_l ((e.trans e1).trans e2) hu)) (ev_ixL (ev_var rfl) (n := 8) ev_c (ex_l ((e.trans e1).trans e2) ht) (lms_plant hm))) fun H3 e3 => ?_
      have : allowed m (kinds gs) row x = decide (VwNum.total x ≤ m.plant) := by
        by_cases c : VwNum.total x ≤ m.plant
        · rw [decide_eq_true c, Ph.allowed_iff]
          exact ⟨hLe, fun k lim h8 e => hk k lim h8 e, c⟩
        · rw [decide_eq_false c]
          exact not_allowed fun O => c O.plant
      rw [this] at k
      exact k H3 (((e.trans e1).trans e2).trans e3)
/-! ### judgement -/
def sp_judgement (K : PySem.W.Frag) (C : Addr) : Sp := fun vs H Q _ => ∃ (l r u t : Addr) (gs : List PG) (row x : List Nat) (m : Limits), vs = [.ref l, .ref r, .ref u, .ref t] ∧ GiversAt K C H l gs ∧ SqL K H r (nvs row) ∧ row.length = gs.length ∧ (∀ x ∈ row, x < 4294967296) ∧ SqL K H u (nvs x) ∧ x.length = gs.length ∧ SqL K H t (lms m) ∧ m.classes.length = 8 ∧ (∀ k ∈ kinds gs, k < 8) ∧ RetV (nv (judged m (kinds gs) row x)) H Q
theorem sort_eq_perm (x y : List Nat) : srt x = srt y ↔ x.Perm y := by
  unfold srt
  constructor
  · intro e
    exact (List.mergeSort_perm x _).symm.trans (e ▸ List.mergeSort_perm y _)
  · intro p
    exact Ph.sort_unique ((List.mergeSort_perm x _).trans p) (Ph.sorted_own x)
theorem pure_judgement {K : PySem.W.Frag} {C : Addr} {vs : List V} {H : Hp} {Q : VK} {E : XK} (h : sp_judgement K C vs H Q E) :
    t_judgement K (sp_fairest K C) (sp_is_allowed K C) { nx := fun _ H' => Q .non H', rt := Q } (L2.start ["givers", "able", "shares", "limits", "told"] vs) H := by
  obtain ⟨l, r, u, t, gs, row, x, m, rfl, G, hr, hlen, hlow, hu, hxl, ht, hm, hk8, k⟩ := h
  have hkl : (kinds gs).length = row.length := by rw [kinds_length, hlen]
  refine q_when (et_not (et_B (ev_call (ea_cons (ev_var rfl) (ea_cons (ev_var rfl) (ea_cons (ev_var rfl) (ea_cons (ev_var rfl) ea_nil)))) (z := .bl (allowed m (kinds gs) row x)) (fun H1 e1 Q2 q _ => ⟨l, r, u, t, gs, row, x, m, rfl, G.mono e1, ex_l e1 hr, hlen, ex_l e1 hu, hxl, ex_l e1 ht, hm, q⟩)))) (fun hb H1 e1 => ?_) (fun hb H1 e1 => ?_)
  · have ha : allowed m (kinds gs) row x = false := by
      cases q : allowed m (kinds gs) row x with
      | false => rfl
      | true => rw [q] at hb; cases hb
    unfold judged at k
    rw [if_pos ha] at k
    exact s_ret (v := nv 0) ev_c fun H2 e2 => k H2 (e1.trans e2)
  · have ha : allowed m (kinds gs) row x = true := by
      cases q : allowed m (kinds gs) row x with
      | true => rfl
      | false => rw [q] at hb; cases hb
    unfold judged at k
    rw [if_neg (by rw [ha]; decide)] at k
    refine q_asgL (el_call (ea_cons (ev_var rfl) (ea_cons (ev_var rfl) (ea_cons (ev_var rfl) ea_nil))) (xs := nvs (fairest m (kinds gs) row)) (fun H2 e2 Q2 q _ => ⟨l, r, t, gs, row, m, rfl, G.mono (e1.trans e2), ex_l (e1.trans e2) hr, hlen, hlow, ex_l (e1.trans e2) ht, hm, q⟩)) fun p H2 hp e2 h2 => ?_
    refine q_when (et_test (ev_eqL (x := x) (y := fairest m (kinds gs) row) (ev_var rfl) (ev_var rfl) (ex_l (e1.trans e2) hu) (sq_of h2))) (fun hb2 H3 e3 => ?_) (fun hb2 H3 e3 => ?_)
    · rw [if_pos (of_decide_eq_true hb2)] at k
      exact s_ret (v := nv 3) ev_c fun H4 e4 => k H4 (((e1.trans e2).trans e3).trans e4)
    · rw [if_neg (of_decide_eq_false hb2)] at k
      refine q_when (et_test (ev_eqLL (el_sorted (ev_var rfl) (ex_l ((e1.trans e2).trans e3) hu)) (el_sorted (ev_var rfl) (sq_of (e3 p _ h2))))) (fun hb3 H4 e4 => ?_) (fun hb3 H4 e4 => ?_)
      · rw [if_pos ((Ph.evenly_perm hkl hk8 ha).mpr ((sort_eq_perm _ _).mp (of_decide_eq_true hb3)))] at k
        exact s_ret (v := nv 2) ev_c fun H5 e5 => k H5 ((((e1.trans e2).trans e3).trans e4).trans e5)
      · rw [if_neg (fun q => of_decide_eq_false hb3 ((sort_eq_perm _ _).mpr ((Ph.evenly_perm hkl hk8 ha).mp q)))] at k
        exact s_ret (v := nv 1) ev_c fun H5 e5 => k H5 ((((e1.trans e2).trans e3).trans e4).trans e5)
/-! ### loss_of -/
def sp_loss_of (K : PySem.W.Frag) (C : Addr) : Sp := fun vs H Q _ => ∃ (l r u : Addr) (gs : List PG) (row x : List Nat), vs = [.ref l, .ref r, .ref u] ∧ GiversAt K C H l gs ∧ SqL K H r (nvs row) ∧ row.length = gs.length ∧ (∀ x ∈ row, x < 4294967296) ∧ SqL K H u (nvs x) ∧ Ph.Le x row ∧ RetV (nv (losses (worths gs) row x)) H Q
theorem worths_at {gs : List PG} {i : Nat} {g : PG} (h : gs[i]? = some g) : (worths gs)[i]? = some g.worth := by unfold worths; rw [List.getElem?_map, h]; rfl
theorem losses_range : ∀ (w c x : List Nat), w.length = c.length → x.length = c.length → losses w c x = VwNum.total ((List.range c.length).map fun i => w.getD i 0 * (c.getD i 0 - x.getD i 0))
  | [], [], [], _, _ => rfl
  | [], _ :: _, _, h, _ => by simp at h
  | _ :: _, [], _, h, _ => by simp at h
  | [], [], _ :: _, _, h => by simp at h
  | _ :: _, _ :: _, [], _, h => by simp at h
  | a :: w, b :: c, d :: x, h, g => by
    have ih := losses_range w c x (by simpa using h) (by simpa using g)
    unfold losses at ih ⊢
    rw [List.length_cons, List.range_succ_eq_map, List.map_cons, List.map_map, List.zip_cons_cons, List.zip_cons_cons, List.map_cons, Ph.total_cons, Ph.total_cons, ih]
    rfl
theorem pure_loss_of {K : PySem.W.Frag} {C : Addr} (c : CG K C) {vs : List V} {H : Hp} {Q : VK} {E : XK} (h : sp_loss_of K C vs H Q E) : t_loss_of K { nx := fun _ H' => Q .non H', rt := Q } (L2.start ["givers", "able", "shares", "number"] vs) H := by
  obtain ⟨l, r, u, gs, row, x, rfl, G, hr, hlen, hlow, hu, hle, k⟩ := h
  have few := G.few
  obtain ⟨as, ha, hal, hG⟩ := G.at
  have hxl := hle.length
  rw [losses_range _ _ _ (by rw [worths_length, hlen]) hxl] at k
  refine s_ret (ev_sumL (xs := (List.range row.length).map fun i => (worths gs).getD i 0 * (row.getD i 0 - x.getD i 0)) ?_) fun H1 e1 => k H1 e1
  have e : nvs ((List.range row.length).map fun i => (worths gs).getD i 0 * (row.getD i 0 - x.getD i 0)) = given (((as.map V.ref).length : Int)).toNat (fun _ => true) (fun i => nv ((worths gs).getD i 0 * (row.getD i 0 - x.getD i 0))) := by
    rw [given_all, Int.toNat_natCast, List.length_map, hal, ← hlen]
    unfold nvs; rw [List.map_map]; rfl
  rw [e]
  refine el_lcR1 _ _ (ea_cons (ev_len (ev_var rfl) ha) ea_nil) (by rw [List.length_map]; omega) (fun z => rfl) (fun i H2 e2 hi => et_yes) (fun i H2 e2 hi _ => ?_)
  rw [List.length_map] at hi
  have hi' : i < as.length := by omega
  obtain ⟨a, hai⟩ : ∃ a, as[i]? = some a := ⟨_, List.getElem?_eq_getElem hi'⟩
  obtain ⟨g, hg, Gi⟩ := hG i a hai
  obtain ⟨cn, hcn⟩ : ∃ cn, row[i]? = some cn := ⟨_, List.getElem?_eq_getElem (by omega)⟩
  obtain ⟨xn, hxn⟩ : ∃ xn, x[i]? = some xn := ⟨_, List.getElem?_eq_getElem (by omega)⟩
  rw [List.getD_eq_getElem?_getD, worths_at hg, List.getD_eq_getElem?_getD, hcn, List.getD_eq_getElem?_getD, hxn]
  have b1 := hlow cn (List.mem_of_getElem? hcn)
  have b2 := Gi.ok.worth
  exact ev_mulN (gv_worth c (Gi.mono e2) (ev_ixL (ev_var rfl) (ev_var rfl) (ex_l e2 ha) (refs_at hai))) (ev_subN (ev_ixN (ev_var rfl) (ev_var rfl) (ex_l e2 hr) hcn) (ev_ixN (ev_var rfl) (ev_var rfl) (ex_l e2 hu) hxn) (le_at hle hxn hcn)) (by show g.worth < 2 ^ 200; omega) (by show cn - xn < 2 ^ 200; omega)
/-! ### full_classes -/
def sp_full_classes (K : PySem.W.Frag) (C : Addr) : Sp := fun vs H Q _ => ∃ (l u t : Addr) (gs : List PG) (x : List Nat) (m : Limits), vs = [.ref l, .ref u, .ref t] ∧ GiversAt K C H l gs ∧ SqL K H u (nvs x) ∧ x.length = gs.length ∧ SqL K H t (lms m) ∧ m.classes.length = 8 ∧ RetL ((List.range 8).map fun k => V.bl (full m (kinds gs) x k)) H Q
theorem pure_full_classes {K : PySem.W.Frag} {C : Addr} {vs : List V} {H : Hp} {Q : VK} {E : XK} (h : sp_full_classes K C vs H Q E) : t_full_classes K (sp_class_sums K C) { nx := fun _ H' => Q .non H', rt := Q } (L2.start ["givers", "shares", "limits", "sums", "kind"] vs) H := by
  obtain ⟨l, u, t, gs, x, m, rfl, G, hu, hxl, ht, hm, k⟩ := h
  refine q_asgL (el_call (ea_cons (ev_var rfl) (ea_cons (ev_var rfl) ea_nil)) (xs := nvs (sumsN (kinds gs) x)) (fun H1 e1 Q2 q _ => ⟨l, u, gs, x, rfl, G.mono e1, ex_l e1 hu, hxl, q⟩)) fun s H1 hs e1 h1 => ?_
  have e : ((List.range 8).map fun k => V.bl (full m (kinds gs) x k)) = given ((8 : Int)).toNat (fun _ => true) (fun k => V.bl (full m (kinds gs) x k)) := by rw [given_all]; rfl
  rw [e] at k
  refine s_retL (el_lcR1 _ _ (ea_cons ev_c ea_nil) (by decide) (fun z => rfl) (fun i H2 e2 hi => et_yes) (fun i H2 e2 hi _ => ?_)) fun p H2 hp e2 h2 => k.go e1 hp e2 h2
  have hi8 : i < 8 := by omega
  have hat : Ev (tOp (rIxL K) (tVar 2) (tVar 4)) [some (.ref l), some (.ref u), some (.ref t), some (.ref s), some (nv i)] H2 (lo (limitAt m i)) := ev_ixL (ev_var rfl) (ev_var rfl) (ex_l (e1.trans e2) ht) (lms_kind hm hi8)
  have has : Ev (tOp (rIxL K) (tVar 3) (tVar 4)) [some (.ref l), some (.ref u), some (.ref t), some (.ref s), some (nv i)] H2 (nv (Ph.st (Ph.isK i) (kinds gs) x)) := ev_ixN (ev_var rfl) (ev_var rfl) (sq_of (e2 s _ h1)) (sums_at hi8)
  unfold full
  rw [Ph.st_together]
  cases hlim : limitAt m i with
  | none =>
    rw [hlim] at hat
    refine ev_is (ev_eqI (j := -1) has hat) ?_
    congr 1
  | some lim =>
    rw [hlim] at hat
    refine ev_is (ev_eqN (n := lim) has hat) ?_
    congr 1
    by_cases q : Ph.st (Ph.isK i) (kinds gs) x = lim
    · rw [q]; simp
    · rw [decide_eq_false q]
      symm
      rw [beq_eq_false_iff_ne]
      intro z
      exact q (Option.some.inj z).symm
end Pp
end
section
set_option Elab.async false
set_option linter.all false
set_option maxRecDepth 100000
set_option maxHeartbeats 4000000
namespace Pp
open PySem PySem.Spec PyProof.Rows L2 Evl
/-! ### an object known just as it stands -/
def exO (a : Addr) (o : Obj) : HO := .ext fun h => h.get? a = some o
theorem exO_ok {P : Program} {w : World} {H : Hp} {h : Heap} {a : Addr} {o : Obj} (e : h.get? a = some o) : ObjOk P w H h a (exO a o) := ⟨e, ⟨o, e⟩, fun _ _ p st => st o p⟩
section
variable {X : Cx} {pins : List (Addr × Obj)} {σ : L2.St} {H : Hp} {s : Shared}
theorem exO_at {a : Addr} {o : Obj} (I : Inv X pins σ H s) (e : H a = some (exO a o)) : s.heap.get? a = some o := (I.hok a _ e).1
/-- such an object changed -/
theorem exO_upd {a : Addr} {o o' : Obj} {g : Obj → Obj} {t' : Nat} (I : Inv X pins σ H s) (e : H a = some (exO a o)) (e' : (s.heap.update a g).get? a = some o') : Inv X pins σ (upd H a (exO a o')) { s with heap := s.heap.update a g, toks := t' } :=
  I.write (x := a) (e := a) (by rw [e]; trivial) (.inl rfl) (fun b u hb q => (Heap.get?_update_ne _ _ _ _ hb).trans q) ⟨o', e'⟩ (exO_ok e')
/-- such an object told otherwise -/
theorem exO_as {a : Addr} {o : Obj} {u : HO} (I : Inv X pins σ H s) (e : H a = some (exO a o)) (new : ObjOk X.prog X.w (upd H a u) s.heap a u) : Inv X pins σ (upd H a u) s :=
  I.write (x := a) (e := a) (t' := s.toks) (by rw [e]; trivial) (.inl rfl) (fun b u hb q => q) ⟨o, exO_at I e⟩ new
theorem exO_new {o : Obj} {t' : Nat} (I : Inv X pins σ H s) (hf : o.isFreed = false := by rfl) : Inv X pins σ (upd H s.heap.objs.size (exO s.heap.objs.size o)) { s with heap := s.heap.push o, toks := t' } :=
  I.laid (fun b u e => Heap.get?_push_of_some _ e) (Nat.le_refl _) (exO_ok (Heap.get?_push_size _ hf))
variable {A : Around} {E : Value → Shared → Prop} {a kS : Addr} {b : Bool} {vs : List Value} {kz : List Int} {keys : Array Value} {e e1 : Nat} {P : PySem.Fin → Shared → Prop} {f : Value}
theorem keyed_tail {st : SortSt} (I : Inv X pins σ H s) (ha : H a = some (exO a (seqObj "list" #[] e1))) (hkS : H kS = some (exO kS (seqObj "list" keys e))) (hka : kS ≠ a)
    (hk : IntsAre keys.toList kz) (hlen : kz.length = vs.length) (hZ : vs.length ≤ sizeLine) (hp : (arrOf st).Perm (keys.zip vs.toArray)) (hs : SortedTo (arrOf st) (arrOf st).size) (hfl : failedOf st = none)
    (hst : Stable intKind (arrOf st) (if b = true then (keys.zip vs.toArray).reverse else keys.zip vs.toArray))
    (h : ∀ s' H' out c, Inv X pins σ H' s' → (∀ d, d ≠ kS → d ≠ a → H' d = H d) → H' a = some (exO a (seqObj "list" out c)) → KskOutSt b kz vs out.toList → P (.done (.ret .none)) s') :
    wpAny (model X.prog X.w) A (ksk_tail a b e1 (.ref kS) st) P E s := by
  have hZ2 := hZ
  rw [sizeLine_eq] at hZ2
  have nk := exO_at I hkS
  have hsz : keys.size = vs.length := by
    have q := hk.length
    rw [Array.length_toList] at q; omega
  have hsz2 : (arrOf st).size = vs.length := by rw [hp.size_eq, Array.size_zip, hsz, List.size_toArray, Nat.min_self]
  have hout : (if b then ((arrOf st).map (·.2)).reverse else (arrOf st).map (·.2)).size = vs.length := by
    cases b with
    | false => simp only [Bool.false_eq_true, if_false, Array.size_map]; exact hsz2
    | true => simp only [if_true, Array.size_reverse, Array.size_map]; exact hsz2
  obtain ⟨c1, hc1⟩ : ∃ c1, (s.heap.update kS (Obj.mapSeq fun _ => (#[] : Array Value))).get? kS = some (seqObj "list" #[] c1) := ⟨_, get?_update_seq nk fun _ => #[]⟩
  have I1 := exO_upd (t' := s.toks) I hkS hc1
  have ha1 : upd H kS (exO kS (seqObj "list" #[] c1)) a = some (exO a (seqObj "list" #[] e1)) := by rw [upd_ne hka.symm]; exact ha
  have na1 := exO_at I1 ha1
  obtain ⟨c2, hc2⟩ : ∃ c2, ((s.heap.update kS (Obj.mapSeq fun _ => (#[] : Array Value))).update a (Obj.mapSeq fun _ => if b then ((arrOf st).map (·.2)).reverse else (arrOf st).map (·.2))).get? a = some (seqObj "list" (if b then ((arrOf st).map (·.2)).reverse else (arrOf st).map (·.2)) c2) :=
    ⟨_, get?_update_seq na1 fun _ => if b then ((arrOf st).map (·.2)).reverse else (arrOf st).map (·.2)⟩
  have I2 := exO_upd (t' := s.toks) I1 ha1 hc2
  unfold ksk_tail
  try dsimp only
  refine wpAny_bind (listUpdate_at nk rfl (wpAny_bind (wpAny_letGo (wpAny_bind (seqEpoch_at na1 rfl (wpAny_bind (listUpdate_at na1 rfl ?_ (Nat.zero_le _) (Nat.le_trans (Nat.le_of_eq hout) (by rw [sizeLine_eq]; omega)))))))) (by rw [hsz, sizeLine_eq]; omega) (Nat.zero_le _))
  rw [hfl]
  simp only [bne_self_eq_false, Bool.false_eq_true, if_false]
  exact wpAny_pure (h _ _ _ c2 I2 (fun d h1 h2 => by rw [upd_ne h2, upd_ne h1]) upd_same (ksk_outSt hk hp hs hst))
theorem keyed_end (I : Inv X pins σ H s) (ha : H a = some (exO a (seqObj "list" #[] e1))) (hkS : H kS = some (exO kS (seqObj "list" keys e))) (hka : kS ≠ a)
    (hk : IntsAre keys.toList kz) (hlen : kz.length = vs.length) (hZ : vs.length ≤ sizeLine)
    (h : ∀ s' H' out c, Inv X pins σ H' s' → (∀ d, d ≠ kS → d ≠ a → H' d = H d) → H' a = some (exO a (seqObj "list" out c)) → KskOutSt b kz vs out.toList → P (.done (.ret .none)) s') :
    wpAny (model X.prog X.w) A (ksk_end a b vs.toArray e1 (.ref kS) keys) P E s := by
  have hZ2 := hZ
  rw [sizeLine_eq] at hZ2
  have hsz : keys.size = vs.length := by
    have q := hk.length
    rw [Array.length_toList] at q; omega
  have hzs : (keys.zip vs.toArray).size = vs.length := by rw [Array.size_zip, hsz, List.size_toArray, Nat.min_self]
  have step : ∀ t : Sem PySem.Fin, wpAny (model X.prog X.w) A t P E s → wpAny (model X.prog X.w) A (if b = true then (do let _ ← rule "list.sort.reverse"; t) else t) P E s := fun t ht => by
    split
    · exact wpAny_bind (wpAny_rule ht)
    · exact ht
  have hstart : (if b = true then (keys.zip vs.toArray).reverse else keys.zip vs.toArray).Perm (keys.zip vs.toArray) := by
    cases b with
    | false => exact Array.Perm.refl _
    | true => exact Array.perm_iff_toList_perm.mpr (by rw [if_pos rfl, Array.toList_reverse]; exact List.reverse_perm _)
  unfold ksk_end
  try dsimp only
  refine step _ ?_
  by_cases h2 : vs.toArray.size < 2
  · rw [if_pos h2, if_pos h2]
    refine wpAny_bind (wpAny_pure ?_); rw [StateT.run_pure]
    refine wpAny_bind (wpAny_pure ?_)
    try dsimp only
    refine keyed_tail (st := SortSt.mk' general' (if b = true then (keys.zip vs.toArray).reverse else keys.zip vs.toArray) #[] 7 none) I ha hkS hka hk hlen hZ hstart ?_ rfl (Stable.refl _) h
    intro i j hij hj
    have hj2 : j < (if b = true then (keys.zip vs.toArray).reverse else keys.zip vs.toArray).size := hj
    rw [hstart.size_eq, hzs] at hj2
    rw [List.size_toArray] at h2
    have q : i = j := by omega
    subst q
    exact Int.le_refl _
  · rw [if_neg h2, if_neg h2]
    rw [List.size_toArray] at h2
    rw [ksk_kind hk (by rw [hsz]; omega)]
    refine wpAny_bind (wpAny_pure ?_)
    have hss : (if b = true then (keys.zip vs.toArray).reverse else keys.zip vs.toArray).size = vs.length := by rw [hstart.size_eq, hzs]
    refine wpAny_bind (wpAny_mono (wpS_sortRunsSt (κ := intKind) (a₀ := if b = true then (keys.zip vs.toArray).reverse else keys.zip vs.toArray) (st := SortSt.mk' oneType' (if b = true then (keys.zip vs.toArray).reverse else keys.zip vs.toArray) #[] 7 none)
      (Q := fun _ st' => (arrOf st').Perm (keys.zip vs.toArray) ∧ failedOf st' = none ∧ SortedTo (arrOf st') (arrOf st').size ∧ Stable intKind (arrOf st') (if b = true then (keys.zip vs.toArray).reverse else keys.zip vs.toArray))
      intKind_oneLt ((ksk_keysOfInt (ksk_intKeys hk)).perm hstart) ⟨Array.Perm.refl _, rfl, rfl⟩ rfl (Stable.refl _) (by rw [hss]; omega) fun st' a1 a2 a3 a4 => ⟨a1.trans hstart, a2, by rw [a1.size_eq]; exact sortedTo_of_int a3, a4⟩) ?_ fun _ _ e => e)
    rintro ⟨⟨⟩, st'⟩ s' ⟨rfl, hp, hf, hs, hst⟩
    try dsimp only
    exact keyed_tail I ha hkS hka hk hlen hZ hp hs hf hst h
theorem keyed_rest (I : Inv X pins σ H s) (ha : H a = some (exO a (seqObj "list" #[] e1))) (hkS : H kS = some (exO kS (seqObj "list" #[] 0))) (hka : kS ≠ a) (hlen : kz.length = vs.length) (hZ : vs.length ≤ sizeLine)
    (turn : ∀ (i : Nat) (v : Value) (k : Int), vs[i]? = some v → kz[i]? = some k → ∀ (s' : Shared) (H' : Hp), Inv X pins σ H' s' → (∀ d, d ≠ kS → d ≠ a → H' d = H d) → wpAny (model X.prog X.w) A (call f [v]) (fun u s'' => (∃ t, u = Value.int k t) ∧ Inv X pins σ H' s'') (fun _ _ => False) s')
    (h : ∀ s' H' out c, Inv X pins σ H' s' → (∀ d, d ≠ kS → d ≠ a → H' d = H d) → H' a = some (exO a (seqObj "list" out c)) → KskOutSt b kz vs out.toList → P (.done (.ret .none)) s') :
    wpAny (model X.prog X.w) A (ksk_rest a f b vs.toArray e1 (.ref kS)) P E s := by
  have hZ2 := hZ
  rw [sizeLine_eq] at hZ2
  unfold ksk_rest
  refine wpAny_bind (wpAny_rule ?_)
  first
    | rw [List.forIn_toArray]
    | (rw [← Array.forIn_toList]; simp only [List.toList_toArray])
  refine wpAny_bind (ksk_fold (fun i s' => ∃ H' kA e, Inv X pins σ H' s' ∧ (∀ d, d ≠ kS → H' d = H d) ∧ H' kS = some (exO kS (seqObj "list" kA e)) ∧ IntsAre kA.toList (kz.take i)) vs 0 s ⟨H, #[], 0, I, fun _ _ => rfl, hkS, by simpa using IntsAre.nil⟩ ?step ?done)
  case step =>
    rintro j x s' hx ⟨H', kA, e, I', hH, hk', hk⟩
    simp only [Nat.zero_add] at hk ⊢
    have hj : j < vs.length := (List.getElem?_eq_some_iff.mp hx).1
    obtain ⟨k, hkj⟩ : ∃ k, kz[j]? = some k := ⟨_, List.getElem?_eq_getElem (by omega)⟩
    have hz : kA.size ≤ vs.length := by
      have q := hk.length
      rw [Array.length_toList, List.length_take] at q; omega
    refine wpAny_bind (wpAny_attempt (wpAny_mono (turn j x k hx hkj s' H' I' fun d h1 _ => hH d h1) (fun v s'' he => ?_) fun _ _ hF => hF.elim))
    obtain ⟨⟨t2, rfl⟩, I2⟩ := he
    try dsimp only
    have nk := exO_at I2 hk'
    obtain ⟨c2, hc2⟩ : ∃ c2, (s''.heap.update kS (Obj.mapSeq (·.push (.int k t2)))).get? kS = some (seqObj "list" (kA.push (.int k t2)) c2) := ⟨_, get?_update_seq nk (·.push (.int k t2))⟩
    have ek : kz.take (j + 1) = kz.take j ++ [k] := by rw [List.take_add_one, hkj]; simp
    have ea : (kA.push (Value.int k t2)).toList = kA.toList ++ [Value.int k t2] := by simp
    refine wpAny_bind (listUpdate_at nk rfl (wpAny_pure ⟨rfl, _, kA.push (.int k t2), c2, exO_upd (t' := s''.toks) I2 hk' hc2, fun d hd => by rw [upd_ne hd]; exact hH d hd, upd_same, by rw [ea, ek]; exact ksk_snoc hk⟩) (by rw [sizeLine_eq]; omega) (Nat.le_trans (Nat.le_of_eq (Array.size_push ..)) (by rw [sizeLine_eq]; omega)))
  case done =>
    rintro s' ⟨H', kA, e, I', hH, hk', hk⟩
    have hk2 : IntsAre kA.toList kz := by
      rw [show kz.take (0 + vs.length) = kz from List.take_of_length_le (by omega)] at hk
      exact hk
    try dsimp only
    refine wpAny_bind (listItems_at (exO_at I' hk') rfl ?_)
    exact keyed_end I' (by rw [hH a hka.symm]; exact ha) hk' hka hk2 hlen hZ fun s3 H3 out c I3 h3 a3 k3 => h s3 H3 out c I3 (fun d h1 h2 => (h3 d h1 h2).trans (hH d h1)) a3 k3
theorem keyed_sort {n : Nat} (I : Inv X pins σ H s) (ho : H a = some (exO a (seqObj "list" vs.toArray n))) (hlen : kz.length = vs.length) (hZ : vs.length ≤ sizeLine)
    (turn : ∀ (i : Nat) (v : Value) (k : Int), vs[i]? = some v → kz[i]? = some k → ∀ (s' : Shared) (H' : Hp), Inv X pins σ H' s' → (∀ d u, H d = some u → d ≠ a → H' d = some u) → wpAny (model X.prog X.w) A (call f [v]) (fun u s'' => (∃ t, u = Value.int k t) ∧ Inv X pins σ H' s'') (fun _ _ => False) s')
    (h : ∀ s' H' out c, Inv X pins σ H' s' → (∀ d u, H d = some u → d ≠ a → H' d = some u) → H' a = some (exO a (seqObj "list" out c)) → KskOutSt b kz vs out.toList → P (.done (.ret .none)) s') :
    wpAny (model X.prog X.w) A (ksk_tree a f b) P E s := by
  have hZ2 := hZ
  rw [sizeLine_eq] at hZ2
  have na := exO_at I ho
  obtain ⟨e1, ho1⟩ : ∃ e1, (s.heap.update a (Obj.mapSeq fun _ => (#[] : Array Value))).get? a = some (seqObj "list" #[] e1) := ⟨_, get?_update_seq na fun _ => #[]⟩
  have I1 := exO_upd (t' := s.toks) I ho ho1
  have I2 := I1.kept (h' := (s.heap.update a (Obj.mapSeq fun _ => (#[] : Array Value))).push (seqObj "tuple" vs.toArray 0)) (t' := s.toks) fun b o e => Heap.get?_push_of_some _ e
  have I3 := exO_new (o := seqObj "list" #[] 0) (t' := s.toks) I2
  have fresh := I2.hok.fresh (Nat.le_refl _)
  unfold ksk_tree
  refine wpAny_bind (listItems_at na rfl (wpAny_bind (listUpdate_at na rfl (wpAny_bind (seqEpoch_at ho1 rfl (wpAny_bind (wpAny_newTuple (wpAny_bind (wpAny_newList (wpAny_holding ?_) (Nat.zero_le _))) (by show vs.length ≤ _; rw [sizeLine_eq]; omega))))) (by rw [List.size_toArray, sizeLine_eq]; omega) (Nat.zero_le _))))
  have hka : ((s.heap.update a (Obj.mapSeq fun _ => (#[] : Array Value))).push (seqObj "tuple" vs.toArray 0)).objs.size ≠ a := fun z => by rw [z] at fresh; rw [upd_same] at fresh; cases fresh
  refine keyed_rest I3 (by rw [upd_ne hka.symm]; exact upd_same) upd_same hka hlen hZ (fun i v k hv hk s' H' I' hH => turn i v k hv hk s' H' I' fun d u hd nd => ?_) fun s' H' out c I' hH hA ko => h s' H' out c I' (fun d u hd nd => ?_) hA ko
  all_goals
    have q : upd H a (exO a (seqObj "list" #[] e1)) d = some u := by rw [upd_ne nd]; exact hd
    have ndk := ne_of_none q fresh
    rw [hH d ndk nd, upd_ne ndk]
    exact q
end
end Pp
end
section
set_option Elab.async false
set_option linter.all false
set_option maxRecDepth 100000
set_option maxHeartbeats 4000000
namespace Pp
open PySem PySem.Spec PyProof.Rows L2 Evl LamX NdefX
/-! ### a lambda made, and called -/
/-- the object at f is the lambda F, its body e -/
def LamO (f : Addr) (F : NF) (e : Expr) : HO := .ext fun h => ∃ (od : Option Addr) (sl : Array (Option Value)) (pm ctv : Value), h.get? f = some (⟨.type "function", od, .func (PySem.W.kla_fn F.name F.qual F.params e F.scope F.cl pm (.ref F.c) ctv), sl⟩ : Obj)
theorem lamO_at {P : Program} {w : World} {H : Hp} {h : Heap} {f : Addr} {F : NF} {e : Expr} (hok : HOk P w H h) (q : H f = some (LamO f F e)) : ∃ (od : Option Addr) (sl : Array (Option Value)) (pm ctv : Value), h.get? f = some (⟨.type "function", od, .func (PySem.W.kla_fn F.name F.qual F.params e F.scope F.cl pm (.ref F.c) ctv), sl⟩ : Obj) := (hok f _ q).1
section
variable {X : Cx} {pins : List (Addr × Obj)} {σ : L2.St} {H : Hp} {s : Shared}
theorem lamO_new {F : NF} {e : Expr} {t' : Nat} {pm ctv : Value} (I : Inv X pins σ H s) :
    Inv X pins σ (upd H s.heap.objs.size (LamO s.heap.objs.size F e)) { s with heap := s.heap.push { cls := .type "function", data := .func (PySem.W.kla_fn F.name F.qual F.params e F.scope F.cl pm (.ref F.c) ctv) }, toks := t' } := by
  refine I.laid (a := s.heap.objs.size) (fun b u q => Heap.get?_push_of_some _ q) (Nat.le_refl _) ?_
  have q : (s.heap.push ({ cls := .type "function", data := .func (PySem.W.kla_fn F.name F.qual F.params e F.scope F.cl pm (.ref F.c) ctv) } : Obj)).get? s.heap.objs.size = some _ := Heap.get?_push_size _ rfl
  exact ⟨⟨_, _, pm, ctv, q⟩, ⟨_, q⟩, fun h1 h2 ⟨od, sl, p, t, z⟩ st => ⟨od, sl, p, t, st _ z⟩⟩
theorem lam_mk {T : List (Addr × Str)} {c P : Addr} {params : Arguments} {body : Expr} {scope : Scope} {pos : Pos} {E : Value → Shared → Prop} {Q : Value → Shared → Prop} (I : Inv X pins σ H s) (TB : TabB X.base X.mg c P) (hcode : X.env.code = .ref c)
    (hm : (P, X.env.qual ++ "<lambda>") ∈ T) (hu : ∀ p ∈ T, p.1 = P → p.2 = X.env.qual ++ "<lambda>") (hT : Tabs T H) (hdef : defaultsOf params X.env = ([], [])) (hfree : ∀ y ∈ scope.names, y.2 = .free → ∃ c, X.env.cells.lookup y.1 = some c)
    (h : ∀ (f c' : Addr) (H1 : Hp) (s' : Shared), Inv X pins σ H1 s' → ExtN H H1 → (∀ b, H1 b = Option.none → H b = Option.none) → Tabs T H1 → H f = none → H1 f = some (LamO f ⟨"<lambda>", X.env.qual ++ "<lambda>", params, [], scope, cloFrom X.env.cells scope.names [], c'⟩ body) → H1 c' = some (CodeO c' (X.env.qual ++ "<lambda>")) → Q (.ref f) s') :
    wpAny (model X.prog X.w) X.A (eval (.Lambda params body scope pos) X.env) Q E s := by
  obtain ⟨ps, hP, ht, ha⟩ := hT _ hm
  refine PySem.W.kla_eval hdef ?_
  have bP : s.heap.BuiltinsAt X.mg P := TB.bm.keeps I.bk
  have hP' : s.heap.get? P = some { cls := .none, data := .fields ps } := I.hok P _ hP
  cases hc : codeAmong pos ps.toList with
  | none =>
    refine PySem.W.kla_makeFunction (mg := X.mg) (c := c) (P := P) (ps := ps) (closure_ok hfree) I.ok.glob (I.mod.glob.keeps I.bk) hcode (TB.code.keeps I.bk) hP' ht hc TB.gP bP fun c' ctv h' tk hx hge hlt hrec htb => ?_
    obtain ⟨c2, oc, vs, t, e2, hoc, hd, hv⟩ := hrec
    cases e2
    have nC : H c' = none := I.hok.fresh hge
    have I1 := inv_table (t' := tk) (more := #[rawInt pos.line, rawInt pos.col, .ref c']) (h' := h') I hP (fun b o hb e => hx b o hb e) htb hge ⟨oc, vs, t, hoc, hd, hv⟩
    have hE : ExtN H (upd (upd H P (.tbl (ps ++ #[rawInt pos.line, rawInt pos.col, .ref c']))) c' (CodeO c' (X.env.qual ++ "<lambda>"))) := fun b o e n => by
      rw [upd_ne (ne_of_none e nC), upd_ne (fun z => n ps (Option.some.inj (e.symm.trans (by rw [z]; exact hP))))]; exact e
    have eL : (ps ++ #[rawInt pos.line, rawInt pos.col, .ref c']).toList = ps.toList ++ [rawInt pos.line, rawInt pos.col, .ref c'] := by simp
    have T1 : Tabs T (upd (upd H P (.tbl (ps ++ #[rawInt pos.line, rawInt pos.col, .ref c']))) c' (CodeO c' (X.env.qual ++ "<lambda>"))) := fun p hp => by
      by_cases hb : p.1 = P
      · rw [hu p hp hb, hb]
        refine ⟨_, by rw [upd_ne (ne_of_none hP nC), upd_same], by rw [eL]; exact PySem.TriplesOk_snoc _ _ _ _ ht, fun p' cv hcv => ?_⟩
        rw [eL] at hcv
        rcases among_app _ ht hcv with z | z
        · obtain ⟨c0, q1, q2⟩ := ha p' cv z
          exact ⟨c0, q1, hE _ _ q2 codeO_ne⟩
        · exact ⟨c', z, upd_same⟩
      · obtain ⟨ps', a1, a2, a3⟩ := hT p hp
        refine ⟨ps', by rw [upd_ne (ne_of_none a1 nC), upd_ne hb]; exact a1, a2, fun p' cv hcv => ?_⟩
        obtain ⟨c0, q1, q2⟩ := a3 p' cv hcv
        exact ⟨c0, q1, hE _ _ q2 codeO_ne⟩
    have nF := I1.hok.fresh (Nat.le_refl _)
    have I2 := lamO_new (F := ⟨"<lambda>", X.env.qual ++ "<lambda>", params, [], scope, cloFrom X.env.cells scope.names [], c'⟩) (e := body) (t' := tk) (pm := (X.mg "__name__").getD .none) (ctv := ctv) I1
    refine h h'.objs.size c' _ _ I2 (fun b o e n => ?_) (fun b e => upd_none (upd_none (upd_none e))) (T1.ext fun b o e => ?_) (I.hok.fresh (Nat.le_trans hge (Nat.le_of_lt hlt))) upd_same ?_
    · have q := hE b o e n
      exact (upd_ne (ne_of_none q nF)).trans q
    · exact (upd_ne (ne_of_none e nF)).trans e
    · exact (upd_ne (Nat.ne_of_lt hlt)).trans upd_same
  | some cv =>
    obtain ⟨c', e, hco⟩ := ha pos cv hc
    subst e
    refine PySem.W.kla_makeFunctionHit (mg := X.mg) (c := c) (P := P) (ps := ps) (closure_ok hfree) I.ok.glob (I.mod.glob.keeps I.bk) hcode (TB.code.keeps I.bk) hP' ht hc bP fun ctv h' tk hx hsz => ?_
    have I1 : Inv X pins σ H { s with heap := h', toks := tk } := I.kept hx
    have nF : H h'.objs.size = none := I1.hok.fresh (Nat.le_refl _)
    have I2 := lamO_new (F := ⟨"<lambda>", X.env.qual ++ "<lambda>", params, [], scope, cloFrom X.env.cells scope.names [], c'⟩) (e := body) (t' := tk) (pm := (X.mg "__name__").getD .none) (ctv := ctv) I1
    refine h h'.objs.size c' _ _ I2 (fun b o e n => ?_) (fun b e => upd_none e) (hT.ext fun b o e => ?_) nF upd_same ?_
    · exact (upd_ne (ne_of_none e nF)).trans e
    · exact (upd_ne (ne_of_none e nF)).trans e
    · exact (upd_ne (ne_of_none hco nF)).trans hco
end
section
variable {CX : CXT} {P : Program} {w : World} {K : PySem.W.Frag} {mg : Str → Option Value} {base : Heap} {N ps fr : List Str} {F : NF} {f : Addr} {k : Nat} {e : Expr}
/-- the lambda's call, by its body -/
theorem lam_run (S : NScope N ps fr F.scope) (hb : ∀ (pm ctv : Value) (us : List Value), us.length = ps.length → bindArgs (PySem.W.kla_fn F.name F.qual F.params e F.scope F.cl pm (.ref F.c) ctv) ⟨us, []⟩ = pure (ps.zip us))
    {A : Around} {outer : List Env} {s : Shared} {H : Hp} {us : List Value} {vs : List V} {ws : List (Option V)} {Q : VK} {E : XK} (hr : Room (k + 1) A) (e0 : Env0 P w K mg base A outer s H) (hf : H f = some (LamO f F e)) (hc : H F.c = some (CodeO F.c F.qual)) (C : CellsAt F.cl fr ws s.heap H) (r : Vals vs us) (hl : vs.length = ps.length)
    (hbody : ∀ (A : Around) (s : Shared), Room k (A.deeper (envF F f s.heap.objs.size)) → ∃ t, PE (ncx CX P w K mg base N F f A outer s H E) e t ∧ t (startF N vs ws) H Q) :
    codeAny (model P w) A (.call (.ref f) ⟨us, []⟩) (CR CX outer P w H s Q E) s := by
  have lim : s.heap.NoLimit := e0.mod.nolimit.keeps fun b o q => (e0.bs b o q).1
  obtain ⟨od, sl, pm, ctv, ho⟩ := lamO_at e0.hok hf
  refine PySem.W.kla_callFunE hr.depth ho rfl S.co S.gen rfl (codeO_at e0.hok hc) ?_
  rw [hb pm ctv us (by rw [← r.length]; exact hl)]
  refine wpAny_pure (wpAny_newFunctionEnv S.nocell (fun ⟨n, _⟩ hy => S.par n (List.of_mem_zip hy).1) (fun h₁ hns hsb => ⟨lim.fresh _ hsb, ?_⟩) S.kind)
  show codeAny _ _ (.expr e (envF F f s.heap.objs.size)) _ _
  have kp : ∀ b o, s.heap.get? b = some o → h₁.get? b = some o := fun b o q => hsb.extBut b o (Nat.ne_of_lt (Heap.lt_size q)) (Heap.get?_push_of_some _ q)
  obtain ⟨t, ht, hq⟩ := hbody A s (hr.deeper _)
  have I : Inv (ncx CX P w K mg base N F f A outer s H E) [] (startF N vs ws) H { s with heap := h₁, toks := s.toks + (ps.zip us).length } := inv_startN S hr.hd e0 hl r C hns kp
  refine PySem.W.kla_codeExpr (wpAny_mono (ht.run [] _ (startF N vs ws) H Q I hq) (fun v s' z => ?_) fun e s' z => z)
  obtain ⟨v', H', J, rv, q⟩ := z
  exact ⟨v', H', J.os, J.bare, J.base, J.hok, rv, q⟩
end
section
variable {X : Cx}
/-- the value of a lambda -/
def tLamE (T : List (Addr × Str)) (q : Str) (mk : Addr → NF) (e : Expr) : TE := fun σ H Q => Tabs T H ∧ ∀ (f c' : Addr) (H1 : Hp), ExtN H H1 → (∀ b, H1 b = Option.none → H b = Option.none) → Tabs T H1 → H f = none → H1 f = some (LamO f (mk c') e) → H1 c' = some (CodeO c' q) → Q (.ref f) H1
theorem pe_lam {T : List (Addr × Str)} {c P : Addr} {params : Arguments} {body : Expr} {scope : Scope} {pos : Pos} (TB : TabB X.base X.mg c P) (hcode : X.env.code = .ref c)
    (hm : (P, X.env.qual ++ "<lambda>") ∈ T) (hu : ∀ p ∈ T, p.1 = P → p.2 = X.env.qual ++ "<lambda>") (hfree : ∀ y ∈ scope.names, y.2 = .free → X.env.scope.names.lookup y.1 = some .cell ∨ X.env.scope.names.lookup y.1 = some .free) (hdef : defaultsOf params X.env = ([], []) := by rfl) :
    PE X (.Lambda params body scope pos) (tLamE T (X.env.qual ++ "<lambda>") (fun c' => ⟨"<lambda>", X.env.qual ++ "<lambda>", params, [], scope, cloFrom X.env.cells scope.names [], c'⟩) body) := by
  refine ⟨fun pins s σ H Q I h => ?_⟩
  obtain ⟨hT, h⟩ := h
  refine lam_mk I TB hcode hm hu hT hdef (fun y hy q => (hfree y hy q).elim (fun z => I.ok.has _ (.inl z)) fun z => I.ok.has _ (.inr z)) fun f c' H1 s' I1 eN nn T1 f0 f1 c1 => ?_
  exact ⟨.ref f, H1, I1, rfl, h f c' H1 eN nn T1 f0 f1 c1⟩
end
/-! ### sorted(range(n), key=f, reverse=True) -/
section
variable {X : Cx} {pins : List (Addr × Obj)} {σ : L2.St} {H : Hp} {s : Shared} {E : Value → Shared → Prop} {Q : Value → Shared → Prop}
theorem rg_size (n : Nat) : Builtin.Range.rangeSize 0 (n : Int) 1 = (n : Int) := by
  show (if (1 : Int) > 0 then (if (0 : Int) < (n : Int) then ((n : Int) - 0 - 1) / 1 + 1 else 0) else _) = _
  rw [if_pos (by decide)]
  split <;> omega
theorem rg_fits {z : Int} (h1 : -1000000 ≤ z) (h2 : z ≤ 1000000) : Builtin.Range.rangeFitsLong z = true := by
  unfold Builtin.Range.rangeFitsLong
  rw [Bool.and_eq_true]
  exact ⟨decide_eq_true (by omega), decide_eq_true (by omega)⟩
theorem rg_small (n : Nat) (h : n ≤ 1000) : Builtin.Range.small 0 (n : Int) 1 = true := by
  unfold Builtin.Range.small
  rw [rg_size, if_pos (by decide), rg_fits (by omega) (by omega), rg_fits (by omega) (by omega), rg_fits (by omega) (by omega), rg_fits (by omega) (by omega)]
  simp
/-- how the numbers below n come out: by their keys from the greatest, equal keys in their order -/
structure ByKey (kz : List Int) (out : List Nat) : Prop where
  perm : out.Perm (List.range kz.length)
  ord : out.Pairwise fun x y => kz.getD y 0 ≤ kz.getD x 0
  stb : ∀ c, out.filter (fun x => kz.getD x 0 == c) = (List.range kz.length).filter (fun x => kz.getD x 0 == c)
theorem sorted_by {r : Addr} {f : Value} {kz : List Int} (I : Inv X pins σ H s) (hc : X.calm = true) (hr : H r = some (.rng 0 (kz.length : Int))) (hn : kz.length ≤ 1000) (g : Addr) (hf : f = .ref g)
    (turn : ∀ (i : Nat) (k : Int) (t : Tok), kz[i]? = some k → ∀ (s' : Shared) (H' : Hp), Inv X pins σ H' s' → Ex H H' → wpAny (model X.prog X.w) X.A.in1.in1 (call f [.int (i : Int) t]) (fun u s'' => (∃ t, u = Value.int k t) ∧ Inv X pins σ H' s'') (fun _ _ => False) s')
    (q : ∀ (p : Addr) (H' : Hp) (s' : Shared) (out : List Nat), Inv X pins σ H' s' → H p = none → Ex H H' → H' p = some (.lst (nvs out)) → ByKey kz out → Q (.ref p) s') :
    wpAny (model X.prog X.w) X.A (call (.builtin "sorted") [.ref r] [(Str.ofString "key", f), (Str.ofString "reverse", .bool true)]) Q E s := by
  subst hf
  obtain ⟨t1, t2, t3, hro⟩ := I.hok r _ hr
  refine call_function_entry_kw kind_sorted plain_sorted entry_sorted (ksk_s2 _ _ _) ?_
  unfold Builtin.«sorted»
  refine wpAny_bind (m := checkCount "sorted" 1 1 _) (wpAny_pure (wpAny_bind (collect_range (A := X.A.in1) (I.ok.hd hc) (a := 0) (b := (kz.length : Int)) (c := 1) hro (rg_small _ hn) (rg_size _) (by omega) fun h' tk acc hk hacc => ?_)))
  have I1 : Inv X pins σ H { s with heap := h', toks := tk } := I.kept hk
  have hal : acc.toList.length = kz.length := by rw [Array.length_toList]; exact hacc.1
  have fresh : H h'.objs.size = none := I1.hok.fresh (Nat.le_refl _)
  refine wpAny_bind (wpAny_newList ?_ (by rw [hal, sizeLine_eq]; omega))
  have I2 := exO_new (o := seqObj "list" acc.toList.toArray 0) (t' := tk) I1
  refine wpAny_bind (wpAny_holding (wpAny_call_entry_kw slot_list_sort ⟨_, exO_at I2 upd_same, rfl⟩ entry_list_sort ?body (ksk_l2 _ _ _)))
  case body =>
    show wpAny (model X.prog X.w) X.A.in1.in1 (Builtin.«list.sort» ⟨[.ref h'.objs.size], [(Str.ofString "key", .ref g), (Str.ofString "reverse", .bool true)]⟩) _ _ _
    rw [ksk_t2]
    have up : ∀ d u, H d = some u → upd H h'.objs.size (exO h'.objs.size (seqObj "list" acc.toList.toArray 0)) d = some u ∧ d ≠ h'.objs.size := fun d u e => ⟨by rw [upd_ne (ne_of_none e fresh)]; exact e, ne_of_none e fresh⟩
    refine keyed_sort (kz := kz) I2 upd_same hal.symm (by rw [hal, sizeLine_eq]; omega) (fun i v k hv hk' s' H' I' hH => ?_) fun s' H' out c I' hH hA ko => ?_
    · obtain ⟨t, rfl⟩ := hacc.2 i v (by simpa using hv)
      rw [show (0 : Int) + (i : Int) * 1 = (i : Int) by omega]
      exact turn i k t hk' s' H' I' fun d u e => hH d u (up d u e).1 (up d u e).2
    · refine ⟨_, rfl, wpAny_pure ⟨_, rfl, ?_⟩⟩
      obtain ⟨ps, hp, ho, hs, hst⟩ := ko
      -- the items told by their numbers
      have hz : ∀ p ∈ kz.zip acc.toList, ∃ (n : Nat) (t : Tok), p.2 = Value.int (n : Int) t ∧ n < kz.length ∧ p.1 = kz.getD n 0 := fun p hp => by
        obtain ⟨i, hi⟩ := List.mem_iff_getElem?.mp hp
        rw [List.getElem?_zip_eq_some] at hi
        obtain ⟨t, ht⟩ := hacc.2 i p.2 (by simpa using hi.2)
        refine ⟨i, t, by rw [ht]; congr 1; omega, (List.getElem?_eq_some_iff.mp hi.1).1, ?_⟩
        rw [List.getD_eq_getElem?_getD, hi.1]; rfl
      have num : ∀ p : Int × Value, (∃ (n : Nat) (t : Tok), p.2 = Value.int (n : Int) t ∧ n < kz.length ∧ p.1 = kz.getD n 0) → p.1 = kz.getD (numOf p.2).toNat 0 ∧ ∃ t, p.2 = Value.int ((numOf p.2).toNat : Int) t := fun p ⟨n, t, h1, h2, h3⟩ => by
        have e : (numOf p.2).toNat = n := by rw [h1]; show ((n : Int)).toNat = n; omega
        rw [e]; exact ⟨h3, t, h1⟩
      have hps : ∀ p ∈ ps, p.1 = kz.getD (numOf p.2).toNat 0 ∧ ∃ t, p.2 = Value.int ((numOf p.2).toNat : Int) t := fun p hm => num p (hz p (hp.mem_iff.mp hm))
      have hall : (kz.zip acc.toList).map (fun p => (numOf p.2).toNat) = List.range kz.length := by
        refine List.ext_getElem? fun i => ?_
        rw [List.getElem?_map]
        by_cases hi : i < kz.length
        · obtain ⟨v, hv⟩ : ∃ v, acc.toList[i]? = some v := ⟨_, List.getElem?_eq_getElem (by omega)⟩
          obtain ⟨t, ht⟩ := hacc.2 i v (by simpa using hv)
          have e : (kz.zip acc.toList)[i]? = some (kz[i], v) := by rw [List.getElem?_zip_eq_some]; exact ⟨List.getElem?_eq_getElem hi, hv⟩
          rw [e, List.getElem?_range hi, ht]
          show some ((0 : Int) + (i : Int) * 1).toNat = some i
          congr 1; omega
        · rw [List.getElem?_eq_none (by rw [List.length_zip]; omega), List.getElem?_eq_none (by rw [List.length_range]; omega)]; rfl
      have hV : Vals (nvs (ps.map fun p => (numOf p.2).toNat)) out.toList := by
        rw [ho]
        clear hp ho hs hst hA
        induction ps with
        | nil => exact .nil
        | cons p ps ih =>
          obtain ⟨t, ht⟩ := (hps p List.mem_cons_self).2
          exact .cons ⟨t, ht⟩ (ih fun p hm => hps p (List.mem_cons_of_mem _ hm))
      have hnew : ObjOk X.prog X.w (upd H' h'.objs.size (.lst (nvs (ps.map fun p => (numOf p.2).toNat)))) s'.heap h'.objs.size (.lst (nvs (ps.map fun p => (numOf p.2).toNat))) := by
        refine ⟨?_, out.toList, c, hV, by rw [Array.toArray_toList]; exact exO_at I' hA⟩
        rw [nvs_length, List.length_map, hp.length_eq, List.length_zip, hal, sizeLine_eq]; omega
      refine q _ _ _ _ (exO_as I' hA hnew) fresh (fun d u e => ?_) upd_same ⟨?_, ?_, fun z => ?_⟩
      · rw [upd_ne (up d u e).2]; exact hH d u (up d u e).1 (up d u e).2
      · rw [← hall]; exact hp.map _
      · rw [List.pairwise_map]
        refine hs.imp_of_mem fun {x y} hx hy hr => ?_
        have hr' : y.1 ≤ x.1 := hr
        rw [(hps x hx).1, (hps y hy).1] at hr'
        exact hr'
      · have e1 : ∀ l : List (Int × Value), (∀ p ∈ l, p.1 = kz.getD (numOf p.2).toNat 0) → (l.map fun p => (numOf p.2).toNat).filter (fun x => kz.getD x 0 == z) = (l.filter fun p => p.1 == z).map fun p => (numOf p.2).toNat := fun l hl => by
          rw [List.filter_map]
          congr 1
          refine List.filter_congr fun p hm => ?_
          show (kz.getD (numOf p.2).toNat 0 == z) = (p.1 == z)
          rw [hl p hm]
        rw [e1 ps fun p hm => (hps p hm).1, hst z, ← hall, e1 _ fun p hm => (num p (hz p hm)).1]
end
end Pp
end
section
set_option Elab.async false
set_option linter.all false
set_option maxRecDepth 100000
set_option maxHeartbeats 4000000
namespace Pp
open PySem PySem.Spec PyProof.Rows L2 Evl LamX NdefX
section
variable {X : Cx}
/-- range(n) as a value -/
theorem cr_range1 : CallR X (.type "range") (fun vs H Q => ∃ j, vs = [V.int j] ∧ ∀ p, H p = none → Q (.ref p) (upd H p (.rng 0 j))) := by
  intro pins s σ H vs us Q I r h
  obtain ⟨j, rfl, q⟩ := h
  obtain ⟨u1, rfl, t, rfl⟩ := vals1 r
  refine call_range_1 ⟨.ref s.heap.objs.size, upd H s.heap.objs.size (.rng 0 j), I.laid (t' := s.toks + 1 + 1) (fun b o e => Heap.get?_push_of_some _ e) (Nat.le_refl _) ?_, rfl, q _ (I.hok.fresh (Nat.le_refl _))⟩
  exact ⟨s.toks, t, s.toks + 1, Heap.get?_push_size _ rfl⟩
abbrev rRange1 : List V → Hp → VK → Prop := fun vs H Q => ∃ j, vs = [V.int j] ∧ ∀ p, H p = none → Q (.ref p) (upd H p (.rng 0 j))
/-- sorted(range(n), key=lambda .., reverse=True): Nl the lambda's names, js the slots of the names that it captured, tb its body's reading -/
def tSortBy (T : List (Addr × Str)) (q : Str) (mk : Addr → NF) (e : Expr) (Nl : List Str) (js : List Nat) (ter tb : TE) : TE := fun σ H Q => tCons ter tNil σ H fun vs H1 => ∃ (r : Addr) (kz : List Int), vs = [.ref r] ∧ kz.length ≤ 1000 ∧
  tCons (tLamE T q mk e) (tCons (tC (.bl true)) tNil) σ H1 fun zs H2 => ∃ f c', zs = [.ref f, .bl true] ∧ H2 f = some (LamO f (mk c') e) ∧ (mk c').c = c' ∧ H2 c' = some (CodeO c' q) ∧ H2 r = some (.rng 0 (kz.length : Int)) ∧
    (∀ H3, Ex H2 H3 → ∀ (i : Nat) (k : Int), kz[i]? = some k → tb (startF Nl [.int (i : Int)] (js.map (slotAt σ))) H3 fun v H4 => v = .int k ∧ H4 = H3) ∧
    ∀ (p : Addr) (H3 : Hp) (out : List Nat), H2 p = none → Ex H2 H3 → H3 p = some (.lst (nvs out)) → ByKey kz out → Q (.ref p) H3
theorem pe_sortedBy {T : List (Addr × Str)} {c P : Addr} {params : Arguments} {body : Expr} {scope : Scope} {p pos lpos cp kp1 kp2 : Pos} {j k : Nat} {er : Expr} {ter tb : TE} {Nl fr : List Str} {x : Str} {js : List Nat} (hg : Gl X "sorted") (hm : X.mg "sorted" = none) (hc : X.calm = true)
    (he : PE X er ter) (TB : TabB X.base X.mg c P) (hcode : X.env.code = .ref c) (hmT : (P, X.env.qual ++ "<lambda>") ∈ T) (hu : ∀ p ∈ T, p.1 = P → p.2 = X.env.qual ++ "<lambda>") (hr : Room (k + 3) X.A)
    (hfree : ∀ y ∈ scope.names, y.2 = .free → X.env.scope.names.lookup y.1 = some .cell ∨ X.env.scope.names.lookup y.1 = some .free) (S : NScope Nl [x] fr scope) (hfr : ∀ y ∈ fr, (y, NameKind.free) ∈ scope.names) (hjs : js.map (fun j => X.N[j]?) = fr.map some)
    (hb : ∀ (qn : Str) (cl : List (Str × Addr)) (pm cv ctv u : Value), bindArgs (PySem.W.kla_fn "<lambda>" qn params body scope cl pm cv ctv) ⟨[u], []⟩ = pure [(x, u)])
    (hbody : ∀ (A : Around) (outer : List Env) (s : Shared) (H : Hp) (E : XK) (F : NF) (f : Addr), F.scope = scope → PE (ncx C8.CX0 X.prog X.w X.K X.mg X.base Nl F f A outer s H E) body tb)
    (hdef : defaultsOf params X.env = ([], []) := by rfl) (hst : starEach [er] X.env = (false, eval er X.env) :: starEach [] X.env := by rfl) (hbt : backTo pos (starEach [er] X.env) = (false, eval er X.env) :: backTo pos (starEach [] X.env) := by rfl) (hpl : (backTo pos (starEach [er] X.env)).any (·.1) = false := by rfl) :
    PE X (.Call (.Name "sorted" p) [er] [⟨some "key", .Lambda params body scope lpos, kp1⟩, ⟨some "reverse", .Constant (.bool true) j cp, kp2⟩] pos)
      (tSortBy T (X.env.qual ++ "<lambda>") (fun c' => ⟨"<lambda>", X.env.qual ++ "<lambda>", params, [], scope, cloFrom X.env.cells scope.names [], c'⟩) body Nl js ter tb) := by
  refine ⟨fun pins s σ H Q I h => ?_⟩
  have ha : PA X [er] (tCons ter tNil) := pa_cons he pa_nil hst
  have hk : PK X [⟨some "key", .Lambda params body scope lpos, kp1⟩, ⟨some "reverse", .Constant (.bool true) j cp, kp2⟩] (tCons (tLamE T (X.env.qual ++ "<lambda>") (fun c' => ⟨"<lambda>", X.env.qual ++ "<lambda>", params, [], scope, cloFrom X.env.cells scope.names [], c'⟩) body) (tCons (tC (.bl true)) tNil)) :=
    pk_cons (pe_lam TB hcode hmT hu hfree hdef) (pk_cons pe_bl pk_nil)
  refine wpAny_Call_Name_kw (ld_blt I hg hm boot_sorted ?_)
  refine PyProof.Rows.callWith_kw (thn (ha.run pos pins s σ H _ I h) fun us s1 ⟨vs, H1, I1, r1, r, kz, ev, hkz, q1⟩ => thn (hk.run pos pins s1 σ H1 _ I1 q1) fun ws s2 ⟨zs, H2, I2, r2, f, c', ez, hf, hcc, hc', hrg, hkey, q2⟩ => ?_) hbt hpl (by rfl) (by rfl)
  subst ev ez
  obtain rfl := Vals.ref1 r1
  obtain ⟨w1, w2, rfl, e1, e2⟩ := vals2 r2
  obtain rfl : w1 = Value.ref f := e1
  obtain rfl : w2 = Value.bool true := e2
  refine sorted_by (kz := kz) I2 hc hrg hkz f rfl (fun i kk t hi s' H' I' hE => ?_) fun p H' s' out I' hp hE hl hby => ⟨.ref p, H', I', rfl, q2 p H' out hp hE hl hby⟩
  have hrun := lam_run (CX := C8.CX0) (e := body) (F := ⟨"<lambda>", X.env.qual ++ "<lambda>", params, [], scope, cloFrom X.env.cells scope.names [], c'⟩) (f := f) (k := k) (N := Nl) (ps := [x]) (fr := fr) (us := [.int (i : Int) t]) (vs := [.int (i : Int)]) (ws := js.map (slotAt σ)) (Q := fun v H4 => v = .int kk ∧ H4 = H') (E := C8.E0) S
    (fun pm ctv us hl => match us, hl with | [u], _ => hb _ _ _ _ _ u) hr.in1.in1 I'.env0.in1.in1 (hE f _ hf) (hE c' _ hc') (cells_of I' (Caps.made I'.ok hfree hfr hjs)) (.cons ⟨t, rfl⟩ .nil) rfl (fun A s0 _ => ⟨tb, hbody A X.stack s0 H' C8.E0 _ f rfl, hkey H' hE i kk hi⟩)
  refine wpAny_call (codeAny_mono hrun fun rr s3 hq => ?_)
  cases rr with
  | error e => exact (show False from hq).elim
  | ok fl =>
    cases fl with
    | ret u =>
      obtain ⟨v, H4, I4, rv, ev, eH⟩ := I'.after hq
      subst ev
      obtain ⟨t4, rfl⟩ := rv
      rw [eH] at I4
      exact ⟨⟨t4, rfl⟩, I4⟩
    | next => exact False.elim hq
    | brk => exact False.elim hq
    | cont => exact False.elim hq
end
end Pp
end
section
set_option Elab.async false
set_option linter.all false
set_option maxRecDepth 100000
set_option maxHeartbeats 2000000
namespace Pp
open PySem PySem.Spec PyProof.Rows L2 Evl VwHand LamX NdefX
/-! ### what stays where a table of code objects may grow -/
structure ExN (H H' : Hp) : Prop where
  ext : ExtN H H'
  nn : ∀ b, H' b = Option.none → H b = Option.none
theorem ExN.of {H H' : Hp} (e : Ex H H') : ExN H H' := ⟨fun b o h _ => e b o h, fun b h => fresh_back e h⟩
theorem ExN.refl (H : Hp) : ExN H H := .of (Ex.refl H)
theorem ExN.trans {H H1 H2 : Hp} (a : ExN H H1) (b : ExN H1 H2) : ExN H H2 := ⟨a.ext.trans b.ext, fun c h => a.nn c (b.nn c h)⟩
theorem ExN.then {H H1 H2 : Hp} (a : ExN H H1) (b : Ex H1 H2) : ExN H H2 := a.trans (.of b)
theorem ExN.mut {H H' : Hp} {p : Addr} {o u : HO} (e : ExN H H') (h : H p = none) (hp : H' p = some u) : ExN H (upd H' p o) := ⟨fun b v hb n => by rw [upd_ne (ne_of_none hb h)]; exact e.ext b v hb n, fun b hb => e.nn b (by
  by_cases q : b = p
  · rw [q, upd_same] at hb; cases hb
  · rw [upd_ne q] at hb; exact hb)⟩
theorem ExN.lst {H H' : Hp} (e : ExN H H') {a : Addr} {xs : List V} (h : H a = some (.lst xs)) : H' a = some (.lst xs) := e.ext a _ h (fun ps z => nomatch z)
theorem ExN.ins {H H' : Hp} (e : ExN H H') {a C dx : Addr} {fs : List (Str × V)} (h : H a = some (.ins C dx fs)) : H' a = some (.ins C dx fs) := e.ext a _ h (fun ps z => nomatch z)
theorem ExN.seq {K : PySem.W.Frag} {H H' : Hp} (e : ExN H H') {a : Addr} {xs : List V} (h : SqL K H a xs) : SqL K H' a xs := by
  rcases h with (h | ⟨o, h⟩) | h
  · exact .inl (.inl (e.lst h))
  · exact .inl (.inr ⟨o, e.ext a _ h (fun ps z => nomatch z)⟩)
  · exact .inr h
theorem GiverAt.monoN {K : PySem.W.Frag} {C : Addr} {H H' : Hp} {a : Addr} {g : PG} (G : GiverAt K C H a g) (e : ExN H H') : GiverAt K C H' a g := by
  obtain ⟨⟨dx, t, h1, h2⟩, ok⟩ := G
  exact ⟨⟨dx, t, e.ins h1, e.seq h2⟩, ok⟩
theorem GiversAt.monoN {K : PySem.W.Frag} {C : Addr} {H H' : Hp} {l : Addr} {gs : List PG} (G : GiversAt K C H l gs) (e : ExN H H') : GiversAt K C H' l gs := by
  obtain ⟨⟨as, h1, h2, h3⟩, f⟩ := G
  exact ⟨⟨as, e.seq h1, h2, fun i a g x y => (h3 i a g x y).monoN e⟩, f⟩
theorem Tabs.upd {T : List (Addr × Str)} {H : Hp} (t : Tabs T H) {a : Addr} {xs : List V} {o : HO} (h : H a = some (.lst xs)) : Tabs T (L2.upd H a o) := fun p hp => by
  obtain ⟨ps, h1, h2, h3⟩ := t p hp
  refine ⟨ps, by rw [upd_ne (ne_of h1 h (fun z => nomatch z))]; exact h1, h2, fun pos cv hc => ?_⟩
  obtain ⟨c, e1, e2⟩ := h3 pos cv hc
  exact ⟨c, e1, by rw [upd_ne (ne_of e2 h (fun z => by unfold CodeO at z; cases z))]; exact e2⟩
theorem Tabs.insU {T : List (Addr × Str)} {H : Hp} (t : Tabs T H) {a C dx : Addr} {fs : List (Str × V)} {o : HO} (h : H a = some (.ins C dx fs)) : Tabs T (L2.upd H a o) := fun p hp => by
  obtain ⟨ps, h1, h2, h3⟩ := t p hp
  refine ⟨ps, by rw [upd_ne (ne_of h1 h (fun z => nomatch z))]; exact h1, h2, fun pos cv hc => ?_⟩
  obtain ⟨c, e1, e2⟩ := h3 pos cv hc
  exact ⟨c, e1, by rw [upd_ne (ne_of e2 h (fun z => by unfold CodeO at z; cases z))]; exact e2⟩
def RetLN (T : List (Addr × Str)) (xs : List V) (H : Hp) (Q : VK) : Prop := ∀ p H2, H p = none → ExN H H2 → Tabs T H2 → H2 p = some (.lst xs) → Q (.ref p) H2
theorem RetLN.go {T : List (Addr × Str)} {xs : List V} {H H' : Hp} {Q : VK} (k : RetLN T xs H Q) (e : ExN H H') {p : Addr} {H2 : Hp} (hp : H' p = none) (e2 : ExN H' H2) (t : Tabs T H2) (h : H2 p = some (.lst xs)) : Q (.ref p) H2 := k p H2 (e.nn p hp) (e.trans e2) t h
/-! ### the order by worth -/
theorem byKey_is (ws : List Nat) (out : List Nat) (h : ByKey (ws.map fun (n : Nat) => (n : Int)) out) : out = byWorth ws := by
  have gd : ∀ i, i < ws.length → (ws.map fun (n : Nat) => (n : Int)).getD i 0 = ((ws.getD i 0 : Nat) : Int) := fun i hi => by
    rw [List.getD_eq_getElem?_getD, List.getElem?_map, List.getD_eq_getElem?_getD, List.getElem?_eq_getElem hi]; rfl
  have hl : (ws.map fun (n : Nat) => (n : Int)).length = ws.length := List.length_map _
  have hp := h.perm
  rw [hl] at hp
  have lt : ∀ x ∈ out, x < ws.length := fun x hx => List.mem_range.mp (hp.mem_iff.mp hx)
  have nd : out.Nodup := hp.nodup_iff.mpr List.nodup_range
  -- a comes ahead of b
  let R : Nat → Nat → Prop := fun a b => ws.getD b 0 < ws.getD a 0 ∨ (ws.getD a 0 = ws.getD b 0 ∧ a ≤ b)
  have o1 : out.Pairwise R := by
    rw [List.pairwise_iff_getElem]
    intro i j hi hj hij
    have q := List.pairwise_iff_getElem.mp h.ord i j hi hj hij
    rw [gd _ (lt _ (List.getElem_mem hi)), gd _ (lt _ (List.getElem_mem hj))] at q
    by_cases e : ws.getD out[j] 0 = ws.getD out[i] 0
    · right
      refine ⟨e.symm, ?_⟩
      have hf : (out.filter fun x => (ws.map fun (n : Nat) => (n : Int)).getD x 0 == ((ws.getD out[i] 0 : Nat) : Int)).Pairwise (· < ·) := by
        rw [h.stb]
        exact List.Pairwise.filter _ (by rw [hl]; exact List.pairwise_lt_range)
      rw [List.pairwise_filter] at hf
      have z := List.pairwise_iff_getElem.mp hf i j hi hj hij
      rw [gd _ (lt _ (List.getElem_mem hi)), gd _ (lt _ (List.getElem_mem hj)), e] at z
      exact Nat.le_of_lt (z (beq_self_eq_true _) (beq_self_eq_true _))
    · left; omega
  have zi : ∀ y ∈ ws.zipIdx, ws.getD y.2 0 = y.1 := fun y hy => by
    obtain ⟨j, hj⟩ := List.mem_iff_getElem?.mp hy
    rw [List.getElem?_zipIdx] at hj
    cases q : ws[j]? with
    | none => rw [q] at hj; cases hj
    | some a =>
      rw [q] at hj
      have e := Option.some.inj hj
      rw [← e]
      show ws.getD (0 + j) 0 = a
      rw [Nat.zero_add, List.getD_eq_getElem?_getD, q]; rfl
  have o2 : (byWorth ws).Pairwise R := by
    unfold byWorth
    rw [List.pairwise_map]
    have ps := List.pairwise_mergeSort (le := fun (a b : Nat × Nat) => decide (b.1 < a.1) || (a.1 == b.1 && decide (a.2 ≤ b.2))) (fun a b c h g => by
      simp only [Bool.or_eq_true, Bool.and_eq_true, decide_eq_true_eq, beq_iff_eq] at *; omega) (fun a b => by
      simp only [Bool.or_eq_true, Bool.and_eq_true, decide_eq_true_eq, beq_iff_eq]; omega) ws.zipIdx
    refine ps.imp_of_mem fun {a b} ha hb hr => ?_
    have za := zi a ((List.mergeSort_perm _ _).mem_iff.mp ha)
    have zb := zi b ((List.mergeSort_perm _ _).mem_iff.mp hb)
    simp only [Bool.or_eq_true, Bool.and_eq_true, decide_eq_true_eq, beq_iff_eq] at hr
    show ws.getD b.2 0 < ws.getD a.2 0 ∨ (ws.getD a.2 0 = ws.getD b.2 0 ∧ a.2 ≤ b.2)
    omega
  have p2 : out.Perm (byWorth ws) := by
    refine hp.trans ?_
    unfold byWorth
    have e : ws.zipIdx.map (fun (y : Nat × Nat) => y.2) = List.range ws.length := by
      rw [List.range_eq_range']; exact List.zipIdx_map_snd 0 ws
    rw [← e]
    exact ((List.mergeSort_perm _ _).map _).symm
  exact List.Perm.eq_of_pairwise (fun a b _ _ h1 h2 => by
    rcases h1 with h1 | h1 <;> rcases h2 with h2 | h2 <;> omega) o1 o2 p2
end Pp
end
section
set_option Elab.async false
set_option linter.all false
set_option maxRecDepth 100000
set_option maxHeartbeats 2000000
namespace Pp
open PySem PySem.Spec PyProof.Rows L2 Evl VwHand LamX NdefX
/-! ### by_worth -/
def qLam : Str := (("by_worth" : Str) ++ ".<locals>.") ++ "<lambda>"
def sp_by_worthT (K : PySem.W.Frag) (C : Addr) (T : List (Addr × Str)) : Sp := fun vs H Q _ => ∃ (l : Addr) (gs : List PG), vs = [.ref l] ∧ GiversAt K C H l gs ∧ Tabs T H ∧ RetLN T (nvs (byWorth (worths gs))) H Q
theorem sc_by_worth : FnScope ["givers"] ["givers"] (C8.fnScope s_by_worth) := C8.fnScope_by (by decide +kernel)
section
variable {P : Program} {w : World} {K : PySem.W.Frag} {mg : Str → Option Value} {base : Heap}
theorem ok_by_worth {f c Pt C : Addr} {oc kV doc pm ct : Value} {od an : Option Addr} {osl : Array (Option Value)} (lk : K.lookup f = some ⟨oc, od, .func (PySem.W.fnOf "by_worth" "by_worth" (C8.fnArgs s_by_worth) (C8.fnBody s_by_worth) (C8.fnScope s_by_worth) .none kV doc pm an (.ref c) ct), osl⟩)
    (hcd : PySem.W.codeIn K (.ref c) "by_worth" = true) (mgf : mg "by_worth" = some (.ref f)) (kp : PySem.W.keepIn K (.ref f) = true) (b : Binds K (PySem.W.fnOf "by_worth" "by_worth" (C8.fnArgs s_by_worth) (C8.fnBody s_by_worth) (C8.fnScope s_by_worth) .none kV doc pm an (.ref c) ct) ["givers"] [])
    (T : Txt K mg) (cg : CG K C) (TB : TabB base mg c Pt) : C8.Cal P w K mg base 4 "by_worth" (sp_by_worthT K C [(Pt, qLam)]) [] := by
  refine ⟨f, _, ["givers"], [], fn_of (k := 3) lk hcd sc_by_worth (fun vs H Q E h => ?_) (fun A outer s H vs Q E hr h => ?_), mgf, kp, b, .nil⟩
  · obtain ⟨l, gs, rfl, _⟩ := h
    rfl
  · obtain ⟨l, gs, rfl, G, hT, k⟩ := h
    refine ⟨_, PSs.nox (pss_one (ps_ret (pe_sortedBy (k := 0) (T := [(Pt, qLam)]) (Nl := ["number", "givers"]) (fr := ["givers"]) (x := "number") (js := [0]) (tb := tFld K (tOp (rIxL K) (tVar 1) (tVar 0)) "worth") (by rfl) T.b_sorted rfl
      (pe_callTy cr_range1 (by rfl) T.b_range boot_range (pa_cons (pe_callB call_len_seq (by rfl) T.b_len PySem.boot_len (pa_cons (pv 0) pa_nil)) pa_nil)) TB rfl (List.mem_singleton.mpr rfl) (fun p hp _ => by rw [List.mem_singleton.mp hp]; rfl) hr
      ?free (nscope_by (by decide +kernel)) ?frs (by rfl) (fun qn cl pm cv ctv u => by rfl)
      (fun A outer s H E F f hsc => ?body)))), ?_⟩
    case free =>
      intro y hy e
      have hy' : y ∈ ([("number", NameKind.local), ("givers", NameKind.free)] : List (Str × NameKind)) := hy
      rcases List.mem_cons.mp hy' with rfl | hy'
      · cases e
      · rw [List.mem_singleton.mp hy']; exact .inl (by rfl)
    case frs =>
      intro y hy
      rw [List.mem_singleton.mp hy]
      exact List.mem_cons_of_mem _ List.mem_cons_self
    case body =>
      obtain ⟨nm, ql, pr, bd, sc, cl, c'⟩ := F
      subst hsc
      exact pe_fld (pe_ix ix_list (pv 1) (pv 0) (fun _ _ => rfl)) rfl
    have few := G.few
    obtain ⟨as, ha, hal, hG⟩ := G.at
    refine ⟨.ref l, rfl, l, _, rfl, .inl ha, _, rfl, fun r hr0 => ⟨r, (worths gs).map fun (n : Nat) => (n : Int), rfl, by rw [List.length_map, worths_length]; omega, hT.ext (Ex.new hr0), fun f' c' H1 eN nn T1 f0 f1 c1 => ?_⟩⟩
    have e1 : ExN H H1 := (ExN.of (Ex.new hr0)).trans ⟨eN, nn⟩
    refine ⟨f', c', rfl, f1, rfl, c1, ?_, fun H3 e3 i kk hk => ?_, fun p H3 out hp e3 hl hby => ?_⟩
    · have q := eN r _ upd_same (fun ps z => nomatch z)
      rw [q, List.length_map, List.length_map, worths_length, hal]
    · rw [List.getElem?_map] at hk
      cases q : (worths gs)[i]? with
      | none => rw [q] at hk; cases hk
      | some n =>
        rw [q] at hk
        have hi : i < gs.length := by have := (List.getElem?_eq_some_iff.mp q).1; rw [worths_length] at this; exact this
        obtain ⟨a, hai⟩ : ∃ a, as[i]? = some a := ⟨_, List.getElem?_eq_getElem (by omega)⟩
        obtain ⟨g, hg, Gi⟩ := hG i a hai
        rw [worths_at hg] at q
        obtain ⟨⟨dx, t, h1, h2⟩, _⟩ := Gi.monoN (e1.then e3)
        have ek : kk = (g.worth : Int) := by cases q; exact (Option.some.inj hk).symm
        exact ⟨.ref l, rfl, .int (i : Int), rfl, l, _, (i : Int), .ref a, rfl, rfl, (e1.then e3).seq ha, atI_nat (refs_at hai), a, C, dx, _, nv g.worth, rfl, h1, cg.cl, cg.worth, rfl, by rw [ek], rfl⟩
    · have e13 := e1.then e3
      rw [byKey_is _ _ hby] at hl
      exact k p H3 (e1.nn p hp) e13 (T1.ext e3) hl
end
end Pp
end
section
set_option Elab.async false
set_option linter.all false
set_option maxRecDepth 100000
set_option maxHeartbeats 2000000
namespace Pp
open PySem PySem.Spec PyProof.Rows L2 Evl VwHand LamX NdefX
/-- what a call that may grow a table gives: a new list -/
def EvLT (T : List (Addr × Str)) (te : TE) (σ : L2.St) (H : Hp) (xs : List V) : Prop := ∀ Q : VK, (∀ p H1, H p = none → ExN H H1 → Tabs T H1 → H1 p = some (.lst xs) → Q (.ref p) H1) → te σ H Q
section
variable {K : PySem.W.Frag} {σ : L2.St} {H : Hp} {D : Ends} {tu tz : TS} {tl te : TE} {T : List (Addr × Str)} {xs : List V}
theorem q_forTLn {j : Nat} (h : EvLT T tl σ H xs) (Pv : Addr → Nat → L2.St → Hp → Prop) (h0 : ∀ p H1, H p = none → ExN H H1 → Tabs T H1 → H1 p = some (.lst xs) → Pv p 0 σ H1) (hl : ∀ p i σ' H', i ≤ xs.length → Pv p i σ' H' → SqL K H' p xs)
    (hs : ∀ p i x σ' H', xs[i]? = some x → Pv p i σ' H' → tu { D with nx := Pv p (i + 1), ct := Pv p (i + 1), bk := tz D } (σ'.set j (some x)) H') (hd : ∀ p σ' H', Pv p xs.length σ' H' → tz D σ' H') : tSeq (tFor (iList K tl) (gName j) tu) tz D σ H :=
  h _ fun p H1 hp e t h1 => ⟨p, rfl, ⟨xs, sq_of h1⟩, for_list (D := { D with nx := tz D }) (Pv p) (h0 p H1 hp e t h1) (hl p) (hs p) (hd p)⟩
theorem q_asgT {i : Nat} (h : EvLT T te σ H xs) (k : ∀ p H1, H p = none → ExN H H1 → Tabs T H1 → H1 p = some (.lst xs) → tz D (σ.set i (some (.ref p))) H1) : tSeq (tAsg te (gName i)) tz D σ H := h _ k
theorem s_retT (h : EvLT T te σ H xs) (k : ∀ p H1, H p = none → ExN H H1 → Tabs T H1 → H1 p = some (.lst xs) → D.rt (.ref p) H1) : tRet te D σ H := h _ k
theorem et_call {sp : Sp} {E : XK} {ta : TA} {vs : List V} (h : EvA ta σ H vs) (hs : ∀ H1, Ex H H1 → ∀ Q : VK, RetLN T xs H1 Q → ∀ E : XK, sp vs H1 Q E) : EvLT T (tCall sp [] E ta) σ H xs := fun Q q =>
  h H (Ex.refl H) _ fun H1 e => by
    rw [List.append_nil]
    exact hs H1 e Q (fun p H2 hp e2 t h2 => q p H2 (fresh_back e hp) ((ExN.of e).trans e2) t h2) E
end
/-! ### least_losing -/
def sp_least_losingT (K : PySem.W.Frag) (C : Addr) (T : List (Addr × Str)) : Sp := fun vs H Q _ => ∃ (l r t : Addr) (gs : List PG) (row : List Nat) (m : Limits), vs = [.ref l, .ref r, .ref t] ∧ GiversAt K C H l gs ∧ SqL K H r (nvs row) ∧ row.length = gs.length ∧ SqL K H t (lms m) ∧ m.classes.length = 8 ∧ Tabs T H ∧ RetLN T (nvs (leastLost m (kinds gs) (worths gs) row)) H Q
theorem pure_least_losingT {K : PySem.W.Frag} {C : Addr} {T : List (Addr × Str)} (c : CG K C) {vs : List V} {H : Hp} {Q : VK} {E : XK} (h : sp_least_losingT K C T vs H Q E) :
    t_least_losing K (sp_by_worthT K C T) sp_under { nx := fun _ H' => Q .non H', rt := Q } (L2.start ["givers", "able", "limits", "left", "shares", "number", "kind", "share"] vs) H := by
  obtain ⟨l, r, t, gs, row, m, rfl, G, hr, hlen, ht, hm, hT, k⟩ := h
  have few := G.few
  obtain ⟨as, ha, hal, hG⟩ := G.at
  refine q_asgL (el_list (ev_var rfl) ht) fun lf H1 hlf e1 h1 => ?_
  refine q_asgL (el_rep (v := nv 0) (n := row.length) ev_c (ev_lenNs (ev_var rfl) (ex_l e1 hr)) (by omega)) fun sh H2 hsh e2 h2 => ?_
  have e12 := e1.trans e2
  have hsh0 : H sh = none := fresh_back e1 hsh
  have nls : lf ≠ sh := ne_of_none h1 hsh
  have h1' := e2 lf _ h1
  have hz : List.replicate row.length (nv 0) = nvs (row.map fun (_ : Nat) => 0) := by
    unfold nvs; rw [List.map_map, ← List.map_const']; rfl
  rw [hz] at h2
  refine q_forTLn (T := T) (et_call (ea_cons (ev_var rfl) ea_nil) (fun H3 e3 Q3 q3 _ => ⟨l, gs, rfl, G.mono (e12.trans e3), hT.ext (e12.trans e3), q3⟩)) (fun p i σ H' => ∃ v w u m' x, σ = [some (.ref l), some (.ref r), some (.ref t), some (.ref lf), some (.ref sh), v, w, u] ∧ p ≠ lf ∧ p ≠ sh ∧ ExN H H' ∧ Tabs T H' ∧ H' p = some (.lst (nvs (byWorth (worths gs)))) ∧ m'.classes.length = 8 ∧ x.length = row.length ∧ H' lf = some (.lst (lms m')) ∧ H' sh = some (.lst (nvs x)) ∧
      givenTo (kinds gs) row ((byWorth (worths gs)).drop i) m' x = leastLost m (kinds gs) (worths gs) row)
    (fun p H3 hp e3 t3 h3 => ⟨_, _, _, m, row.map fun (_ : Nat) => 0, rfl, (ne_of_none h1' hp).symm, (ne_of_none h2 hp).symm, (ExN.of e12).trans e3, t3, h3, hm, by rw [List.length_map], e3.lst h1', e3.lst h2, rfl⟩) (fun p i σ' H' hi ⟨_, _, _, _, _, _, _, _, _, _, h, _⟩ => sq_of h) ?_ ?_
  · rintro p i x0 σ' H' hx ⟨v, w, u, m', x, rfl, npl, nps, e, tb, hp, hm', hxl, hlf', hsh', hgt⟩
    obtain ⟨n, hn, rfl⟩ := nvs_get hx
    have hnl : n < gs.length := by have := byWorth_lt _ (List.mem_of_getElem? hn); rw [worths_length] at this; exact this
    obtain ⟨a, hai⟩ : ∃ a, as[n]? = some a := ⟨_, List.getElem?_eq_getElem (by omega)⟩
    obtain ⟨g, hg, Gi⟩ := hG n a hai
    obtain ⟨cn, hcn⟩ : ∃ cn, row[n]? = some cn := ⟨_, List.getElem?_eq_getElem (by omega)⟩
    have hk8 := Gi.ok.kind
    rw [drop_one hn, givenTo] at hgt
    rw [show (kinds gs).getD n 0 = g.kind by rw [List.getD_eq_getElem?_getD, kinds_at hg]; rfl, show row.getD n 0 = cn by rw [List.getD_eq_getElem?_getD, hcn]; rfl] at hgt
    rw [← under_min] at hgt
    refine q_asg (v := nv g.kind) (gv_kind c (Gi.monoN e) (ev_ixL (ev_var rfl) (ev_var rfl) (e.seq ha) (refs_at hai))) fun H3 e3 => ?_
    refine q_asg (v := nv (min (Ph.under (limitAt m' g.kind) cn) m'.plant)) (ev_min2 (ev_call (ea_cons (ev_ixL (ev_var rfl) (n := g.kind) (ev_var rfl) (sq_of (e3 lf _ hlf')) (lms_kind hm' hk8)) (ea_cons (ev_ixN (ev_var rfl) (ev_var rfl) ((e.then e3).seq hr) hcn) ea_nil)) (fun H4 e4 Q4 q4 _ => ⟨_, _, rfl, fun H5 e5 => q4 H5 e5⟩)) (ev_ixL (ev_var rfl) (n := 8) ev_c (sq_of (e3 lf _ hlf')) (lms_plant hm'))) fun H4 e4 => ?_
    generalize hA : min (Ph.under (limitAt m' g.kind) cn) m'.plant = A at hgt ⊢
    have hAp : A ≤ m'.plant := by rw [← hA]; exact Nat.min_le_right _ _
    refine q_setL (j := n) (v := nv A) (e4 sh _ (e3 sh _ hsh')) (ev_var rfl) (ev_var rfl) (ev_var rfl) (by rw [nvs_length]; omega) fun H5 e5 => ?_
    have e35 := (e3.trans e4).trans e5
    have lf5 : (upd H5 sh (.lst ((nvs x).set n (nv A)))) lf = some (.lst (lms m')) := by rw [upd_ne nls]; exact e35 lf _ hlf'
    have p5 : (upd H5 sh (.lst ((nvs x).set n (nv A)))) p = some (.lst (nvs (byWorth (worths gs)))) := by rw [upd_ne nps]; exact e35 p _ hp
    have ee5 : ExN H (upd H5 sh (.lst ((nvs x).set n (nv A)))) := ExN.mut (e.then e35) hsh0 (e35 sh _ hsh')
    have t5 : Tabs T (upd H5 sh (.lst ((nvs x).set n (nv A)))) := Tabs.upd (tb.ext e35) (e35 sh _ hsh')
    have s5 : (upd H5 sh (.lst ((nvs x).set n (nv A)))) sh = some (.lst (nvs (x.set n A))) := by rw [upd_same, nvs_set]
    refine q_augL (j := 8) (x := (m'.plant : Int)) (y := (A : Int)) lf5 (ev_var rfl) ev_c (lms_plant hm') (ev_var rfl) fun H6 e6 => ?_
    have l6 : (upd H6 lf (.lst ((lms m').set 8 (.int ((m'.plant : Int) - (A : Int)))))) lf = some (.lst (lms ⟨m'.classes, m'.plant - A⟩)) := by
      rw [upd_same, show (m'.plant : Int) - (A : Int) = ((m'.plant - A : Nat) : Int) by omega]
      congr 2
      exact lms_plant_set m' hm' _
    have p6 : (upd H6 lf (.lst ((lms m').set 8 (.int ((m'.plant : Int) - (A : Int)))))) p = some (.lst (nvs (byWorth (worths gs)))) := by rw [upd_ne npl]; exact e6 p _ p5
    have s6 : (upd H6 lf (.lst ((lms m').set 8 (.int ((m'.plant : Int) - (A : Int)))))) sh = some (.lst (nvs (x.set n A))) := by rw [upd_ne nls.symm]; exact e6 sh _ s5
    have ee6 : ExN H (upd H6 lf (.lst ((lms m').set 8 (.int ((m'.plant : Int) - (A : Int)))))) := ExN.mut (ee5.then e6) hlf (e6 lf _ lf5)
    have t6 : Tabs T (upd H6 lf (.lst ((lms m').set 8 (.int ((m'.plant : Int) - (A : Int)))))) := Tabs.upd (t5.ext e6) (e6 lf _ lf5)
    generalize upd H6 lf (.lst ((lms m').set 8 (.int ((m'.plant : Int) - (A : Int))))) = H7 at l6 p6 s6 ee6 t6 ⊢
    have hlk : limitAt ⟨m'.classes, m'.plant - A⟩ g.kind = limitAt m' g.kind := rfl
    have hat : Ev (tOp (rIxL K) (tVar 3) (tVar 6)) [some (.ref l), some (.ref r), some (.ref t), some (.ref lf), some (.ref sh), some (nv n), some (nv g.kind), some (nv A)] H7 (lo (limitAt m' g.kind)) := by
      rw [← hlk]
      exact ev_ixL (ev_var rfl) (ev_var rfl) (sq_of l6) (lms_kind (m := ⟨m'.classes, m'.plant - A⟩) hm' hk8)
    cases hlim : limitAt m' g.kind with
    | none =>
      rw [hlim] at hat
      refine s_when (et_test (ev_neI (i := -1) (j := -1) hat ev_c)) (fun hb => absurd hb (by decide)) (fun hb H8 e8 => ?_)
      rw [modify_none hlim] at hgt
      exact ⟨_, _, _, ⟨m'.classes, m'.plant - A⟩, x.set n A, rfl, npl, nps, ee6.then e8, t6.ext e8, e8 p _ p6, hm', by rw [List.length_set]; exact hxl, e8 lf _ l6, e8 sh _ s6, hgt⟩
    | some lim =>
      have hAl : A ≤ lim := by rw [← hA, hlim]; show min (min lim cn) m'.plant ≤ lim; omega
      rw [hlim] at hat
      refine s_when (et_test (ev_neI (i := (lim : Int)) (j := -1) hat ev_c)) (fun hb H8 e8 => ?_) (fun hb => absurd hb (by simp))
      refine s_augL (j := g.kind) (x := (lim : Int)) (y := (A : Int)) (e8 lf _ l6) (ev_var rfl) (ev_var rfl) (by rw [lms_kind (m := ⟨m'.classes, m'.plant - A⟩) hm' hk8, hlk, hlim]; rfl) (ev_var rfl) fun H9 e9 => ?_
      refine ⟨_, _, _, ⟨m'.classes.modify g.kind fun (l : Option Nat) => l.map fun (n : Nat) => n - A, m'.plant - A⟩, x.set n A, rfl, npl, nps, ExN.mut ((ee6.then e8).then e9) hlf (e9 lf _ (e8 lf _ l6)), Tabs.upd ((t6.ext e8).ext e9) (e9 lf _ (e8 lf _ l6)), ?_, by rw [List.length_modify]; exact hm', by rw [List.length_set]; exact hxl, ?_, ?_, hgt⟩
      · rw [upd_ne npl]; exact e9 p _ (e8 p _ p6)
      · rw [upd_same, show (lim : Int) - (A : Int) = ((lim - A : Nat) : Int) by omega]
        congr 2
        exact lms_kind_set ⟨m'.classes, m'.plant - A⟩ hm' hk8 A lim (hlk.trans hlim)
      · rw [upd_ne nls.symm]; exact e9 sh _ (e8 sh _ s6)
  · rintro p σ' H' ⟨v, w, u, m', x, rfl, npl, nps, e, tb, hp, hm', hxl, hlf', hsh', hgt⟩
    rw [nvs_length, List.drop_length, givenTo] at hgt
    rw [← hgt] at k
    exact s_ret (v := .ref sh) (ev_var rfl) fun H3 e3 => k sh H3 hsh0 (e.then e3) (tb.ext e3) (e3 sh _ hsh')
/-! ### shares_by -/
def sp_shares_byT (K : PySem.W.Frag) (C : Addr) (T : List (Addr × Str)) : Sp := fun vs H Q _ => ∃ (rule : Nat) (l r t : Addr) (gs : List PG) (row : List Nat) (m : Limits), vs = [nv rule, .ref l, .ref r, .ref t] ∧ GiversAt K C H l gs ∧ SqL K H r (nvs row) ∧ row.length = gs.length ∧ (∀ x ∈ row, x < 4294967296) ∧ SqL K H t (lms m) ∧ m.classes.length = 8 ∧ Tabs T H ∧ RetLN T (nvs (parted rule m (kinds gs) (worths gs) row)) H Q
theorem pure_shares_byT {K : PySem.W.Frag} {C : Addr} {T : List (Addr × Str)} {vs : List V} {H : Hp} {Q : VK} {E : XK} (h : sp_shares_byT K C T vs H Q E) :
    t_shares_by K (sp_fairest K C) (sp_least_losingT K C T) { nx := fun _ H' => Q .non H', rt := Q } (L2.start ["rule", "givers", "able", "limits"] vs) H := by
  obtain ⟨rule, l, r, t, gs, row, m, rfl, G, hr, hlen, hlow, ht, hm, hT, k⟩ := h
  unfold parted at k
  refine q_when (et_test (ev_eqN (m := rule) (n := 0) (ev_var rfl) ev_c)) (fun hb H1 e1 => ?_) (fun hb H1 e1 => ?_)
  · rw [if_pos (of_decide_eq_true hb)] at k
    exact s_retL (el_call (ea_cons (ev_var rfl) (ea_cons (ev_var rfl) (ea_cons (ev_var rfl) ea_nil))) (fun H3 e3 Q3 q3 _ => ⟨l, r, t, gs, row, m, rfl, G.mono (e1.trans e3), ex_l (e1.trans e3) hr, hlen, hlow, ex_l (e1.trans e3) ht, hm, q3⟩)) fun p H3 hp e3 h3 => k.go (.of e1) hp (.of e3) (hT.ext (e1.trans e3)) h3
  · rw [if_neg (of_decide_eq_false hb)] at k
    exact s_retT (T := T) (et_call (ea_cons (ev_var rfl) (ea_cons (ev_var rfl) (ea_cons (ev_var rfl) ea_nil))) (fun H3 e3 Q3 q3 _ => ⟨l, r, t, gs, row, m, rfl, G.mono (e1.trans e3), ex_l (e1.trans e3) hr, hlen, ex_l (e1.trans e3) ht, hm, hT.ext (e1.trans e3), q3⟩)) fun p H3 hp e3 t3 h3 => k.go (.of e1) hp e3 t3 h3
end Pp
end
section
set_option Elab.async false
set_option linter.all false
set_option maxRecDepth 100000
set_option maxHeartbeats 2000000
namespace Pp
open PySem PySem.Spec PyProof.Rows L2 Evl VwHand LamX NdefX
open HdSpec (Desk Stand Order inForce broughtDown forces limitsBut kindsOf worthsOf lastsOf inScope ownLoss standsAt couldsAt partedBy quarterOn)
/-! ### lists made by joining -/
section
variable {K : PySem.W.Frag} {σ : L2.St} {H : Hp} {D : Ends} {tu tz : TS} {ta tb tc te tl : TE} {tg : TA} {g : TG} {t : TT} {xs ys : List V}
theorem el_cat {b : Addr} (ha : EvL ta σ H xs) (hb : Ev tb σ H (.ref b)) (h : H b = some (.lst ys)) (hz : xs.length + ys.length ≤ 100000) : EvL (tOp rCat ta tb) σ H (xs ++ ys) := fun H1 e Q q =>
  ha H1 e _ fun p H2 hp e2 h2 => hb H2 (e.trans e2) _ fun H3 e3 => ⟨p, b, xs, ys, rfl, rfl, e3 p _ h2, ((e.trans e2).trans e3) b _ h, sz_of hz, fun r hr => q r _ (fresh_back (e2.trans e3) hr) ((e2.trans e3).trans (Ex.new hr)) upd_same⟩
theorem el_catL (ha : EvL ta σ H xs) (hb : EvL tb σ H ys) (hz : xs.length + ys.length ≤ 100000) : EvL (tOp rCat ta tb) σ H (xs ++ ys) := fun H1 e Q q =>
  ha H1 e _ fun p H2 hp e2 h2 => hb H2 (e.trans e2) _ fun b H3 hb3 e3 h3 => ⟨p, b, xs, ys, rfl, rfl, e3 p _ h2, h3, sz_of hz, fun r hr => q r _ (fresh_back (e2.trans e3) hr) ((e2.trans e3).trans (Ex.new hr)) upd_same⟩
theorem el_catR {a : Addr} (ha : Ev ta σ H (.ref a)) (h : H a = some (.lst xs)) (hb : EvL tb σ H ys) (hz : xs.length + ys.length ≤ 100000) : EvL (tOp rCat ta tb) σ H (xs ++ ys) := fun H1 e Q q =>
  ha H1 e _ fun H2 e2 => hb H2 (e.trans e2) _ fun b H3 hb3 e3 h3 => ⟨a, b, xs, ys, rfl, rfl, ((e.trans e2).trans e3) a _ h, h3, sz_of hz, fun r hr => q r _ (fresh_back (e2.trans e3) hr) ((e2.trans e3).trans (Ex.new hr)) upd_same⟩
/-- what makes a new object of which P is known -/
def EvP (te : TE) (σ : L2.St) (H : Hp) (P : Addr → Hp → Prop) : Prop := ∀ H1, Ex H H1 → ∀ Q : VK, (∀ p H2, H1 p = none → Ex H1 H2 → P p H2 → Q (.ref p) H2) → te σ H1 Q
def RetP (P : Addr → Hp → Prop) (H : Hp) (Q : VK) : Prop := ∀ p H2, H p = none → Ex H H2 → P p H2 → Q (.ref p) H2
theorem RetP.go {P : Addr → Hp → Prop} {H H' : Hp} {Q : VK} (k : RetP P H Q) (e : Ex H H') {p : Addr} {H2 : Hp} (hp : H' p = none) (e2 : Ex H' H2) (h : P p H2) : Q (.ref p) H2 := k p H2 (fresh_back e hp) (e.trans e2) h
theorem ep_call {sp : Sp} {E : XK} {vs : List V} {P : Addr → Hp → Prop} (h : EvA tg σ H vs) (hs : ∀ H1, Ex H H1 → ∀ Q : VK, RetP P H1 Q → ∀ E : XK, sp vs H1 Q E) : EvP (tCall sp [] E tg) σ H P := fun H0 e0 Q q =>
  h H0 e0 _ fun H1 e => by
    rw [List.append_nil]
    exact hs H1 (e0.trans e) Q (fun p H2 hp e2 h2 => q p H2 (fresh_back e hp) (e.trans e2) h2) E
theorem q_asgP {P : Addr → Hp → Prop} {i : Nat} (h : EvP te σ H P) (k : ∀ p H1, H p = none → Ex H H1 → P p H1 → tz D (σ.set i (some (.ref p))) H1) : tSeq (tAsg te (gName i)) tz D σ H := h H (Ex.refl H) _ k
theorem s_retP {P : Addr → Hp → Prop} (h : EvP te σ H P) (k : ∀ p H1, H p = none → Ex H H1 → P p H1 → D.rt (.ref p) H1) : tRet te D σ H := h H (Ex.refl H) _ k
/-- a call one of whose arguments is such an object, the others ahead of it being plain -/
theorem ea_consP {tr : TA} {P : Addr → Hp → Prop} {R : List V → Hp → Prop} {H0 : Hp} (h : EvP te σ H P) (e0 : Ex H H0) (hr : ∀ p H1, H0 p = none → Ex H0 H1 → P p H1 → tr σ H1 fun vs H2 => R (.ref p :: vs) H2) : tCons te tr σ H0 R := h H0 e0 _ hr
/-! rows of tuples -/
def TupsAt (K : PySem.W.Frag) (n : Nat) (tv : Nat → List V) (p : Addr) (H : Hp) : Prop := ∃ ts : List Addr, H p = some (.lst (ts.map V.ref)) ∧ ts.length = n ∧ ∀ (i : Nat) (t : Addr), ts[i]? = some t → SqT K H t (tv i)
theorem TupsAt.mono {n : Nat} {tv : Nat → List V} {p : Addr} {H H' : Hp} (h : TupsAt K n tv p H) (e : Ex H H') : TupsAt K n tv p H' := by
  obtain ⟨ts, h1, h2, h3⟩ := h
  exact ⟨ts, e p _ h1, h2, fun i t ht => ex_t e (h3 i t ht)⟩
theorem TupsAt.nil {tv : Nat → List V} {p : Addr} {H : Hp} (h : H p = some (.lst [])) : TupsAt K 0 tv p H := ⟨[], h, rfl, fun i t ht => (by simp at ht)⟩
/-- [e for x, y in a new row of pairs if c] -/
theorem el_lcP2 {n j1 j2 : Nat} {vs : List Nat} {x y : Nat → V} (f : Nat → Bool) (v : Nat → V) (h : EvP tl σ H (TupsAt K n fun i => [x i, y i])) (hz : n ≤ 40000) (hw : ∀ x y, wipe (((wipe σ vs).set j1 (some x)).set j2 (some y)) vs = wipe σ vs)
    (ht : ∀ (i : Nat) H1, Ex H H1 → i < n → EvT t (((wipe σ vs).set j1 (some (x i))).set j2 (some (y i))) H1 (f i)) (he : ∀ (i : Nat) H1, Ex H H1 → i < n → f i = true → Ev te (((wipe σ vs).set j1 (some (x i))).set j2 (some (y i))) H1 (v i)) :
    EvL (tLc (iList K tl) (gTup K 2 (gCons (gName j1) (gCons (gName j2) gNil))) t te vs) σ H (given n f v) := fun H0 e Q q => h H0 e _ fun a H1 ha e1 ⟨ts, h1, h2, h3⟩ => ⟨a, rfl, ⟨ts.map V.ref, sq_of h1⟩, fun Dl hD =>
  lc_list (xs := ts.map V.ref) (Cw H1 f v Dl) ⟨hD, Ex.new hD, upd_same⟩ (fun i H' _ p => sq_of (p.2.1 a _ h1)) (fun i z H' hi p => by
    obtain ⟨b, hb, rfl⟩ := refs_get hi
    have hi' : i < n := by have := (List.getElem?_eq_some_iff.mp hb).1; omega
    exact g_pair (ex_t p.2.1 (h3 i b hb)) ⟨hw _ _, cw_turn p (by omega) (ht i H1 (e.trans e1) hi') (fun hf => he i H1 (e.trans e1) hi' hf)⟩)
    (fun H' p => by
      rw [List.length_map, h2] at p
      exact q Dl H' (fresh_back e1 p.1) (e1.trans p.2.1) p.2.2)⟩
theorem el_lcP3 {n j1 j2 j3 : Nat} {vs : List Nat} {x y z : Nat → V} (f : Nat → Bool) (v : Nat → V) (h : EvP tl σ H (TupsAt K n fun i => [x i, y i, z i])) (hz : n ≤ 40000) (hw : ∀ x y z, wipe ((((wipe σ vs).set j1 (some x)).set j2 (some y)).set j3 (some z)) vs = wipe σ vs)
    (ht : ∀ (i : Nat) H1, Ex H H1 → i < n → EvT t ((((wipe σ vs).set j1 (some (x i))).set j2 (some (y i))).set j3 (some (z i))) H1 (f i)) (he : ∀ (i : Nat) H1, Ex H H1 → i < n → f i = true → Ev te ((((wipe σ vs).set j1 (some (x i))).set j2 (some (y i))).set j3 (some (z i))) H1 (v i)) :
    EvL (tLc (iList K tl) (gTup K 3 (gCons (gName j1) (gCons (gName j2) (gCons (gName j3) gNil)))) t te vs) σ H (given n f v) := fun H0 e Q q => h H0 e _ fun a H1 ha e1 ⟨ts, h1, h2, h3⟩ => ⟨a, rfl, ⟨ts.map V.ref, sq_of h1⟩, fun Dl hD =>
  lc_list (xs := ts.map V.ref) (Cw H1 f v Dl) ⟨hD, Ex.new hD, upd_same⟩ (fun i H' _ p => sq_of (p.2.1 a _ h1)) (fun i u H' hi p => by
    obtain ⟨b, hb, rfl⟩ := refs_get hi
    have hi' : i < n := by have := (List.getElem?_eq_some_iff.mp hb).1; omega
    exact g_triple (ex_t p.2.1 (h3 i b hb)) ⟨hw _ _ _, cw_turn p (by omega) (ht i H1 (e.trans e1) hi') (fun hf => he i H1 (e.trans e1) hi' hf)⟩)
    (fun H' p => by
      rw [List.length_map, h2] at p
      exact q Dl H' (fresh_back e1 p.1) (e1.trans p.2.1) p.2.2)⟩
/-- a tuple put at the end of a row of tuples -/
theorem q_appT {n : Nat} {tv : Nat → List V} {vs : List V} {l : Addr} {H0 : Hp} (hl : TupsAt K n tv l H) (h0 : H0 l = none) (e0 : Ex H0 H) (ha : Ev ta σ H (.ref l)) (h : EvU te σ H vs) (hn : n < 100000) (he : vs = tv n) (k : ∀ H1, Ex H0 H1 → (∀ b o, H b = some o → b ≠ l → H1 b = some o) → TupsAt K (n + 1) tv l H1 → D.nx σ H1) :
    tDrop (tBM K "list" rAppend ta (tCons te tNil)) D σ H := by
  obtain ⟨ts, h1, h2, h3⟩ := hl
  refine s_appU (xs := ts.map V.ref) h1 ha h (by rw [List.length_map]; omega) fun p H1 hp e1 hp1 => k _ (Ex.mut (e0.trans e1) h0) (fun b o hb hn => by rw [upd_ne hn]; exact e1 b o hb) ?_
  have nlp : p ≠ l := (ne_of_none h1 hp).symm
  refine ⟨ts ++ [p], by rw [upd_same, List.map_append]; rfl, by rw [List.length_append, h2]; rfl, fun i t ht => ?_⟩
  have frame : ∀ {b : Addr} {us : List V}, SqT K H1 b us → SqT K (upd H1 l (.lst (ts.map V.ref ++ [V.ref p]))) b us := fun {b us} hb => by
    rcases hb with (hb | ⟨o, hb⟩) | hb
    · exact .inl (.inl (by rw [upd_ne (ne_of hb (e1 l _ h1) (fun z => nomatch z))]; exact hb))
    · exact .inl (.inr ⟨o, by rw [upd_ne (ne_of hb (e1 l _ h1) (fun z => nomatch z))]; exact hb⟩)
    · exact .inr hb
  rcases Nat.lt_or_ge i ts.length with hi | hi
  · rw [List.getElem?_append_left hi] at ht
    exact frame (ex_t e1 (h3 i t ht))
  · rw [List.getElem?_append_right hi] at ht
    have hi0 : i - ts.length = 0 := by
      rcases Nat.eq_zero_or_pos (i - ts.length) with z | z
      · exact z
      · rw [List.getElem?_eq_none (by simp; omega)] at ht; cases ht
    rw [hi0] at ht
    have : p = t := Option.some.inj ht
    subst this
    have : i = n := by omega
    subst this
    rw [← he]
    exact frame (st_of hp1)
end
/-! ### what a desk holds -/
structure Cs where
  G : Addr
  O : Addr
  D : Addr
  M : Addr
def bvs (l : List Bool) : List V := l.map V.bl
theorem bvs_at {l : List Bool} {i : Nat} {b : Bool} (h : l[i]? = some b) : (bvs l)[i]? = some (.bl b) := by unfold bvs; rw [List.getElem?_map, h]; rfl
theorem bvs_length (l : List Bool) : (bvs l).length = l.length := by unfold bvs; rw [List.length_map]
def bks (d : Desk) : List V := (d.orders.map (·.back)).map lo
def oF (o : Order) : List (Str × V) := [("scope", nv o.scope), ("first", nv o.first), ("end", nv o.end_), ("limit", nv o.limit), ("came", nv o.came)]
def OrderAt (C : Addr) (H : Hp) (a : Addr) (o : Order) : Prop := ∃ dx, H a = some (.ins C dx (oF o))
/-- where the lists of a desk stand -/
structure DA where
  g : Addr
  r : Addr
  w : Addr
  a : Addr
  gv : Addr
  ge : Addr
  o : Addr
  tb : Addr
  ff : Addr
  ls : Addr
def dF (p : DA) (d : Desk) : List (Str × V) := [("givers", .ref p.g), ("runs", .ref p.r), ("waited", .ref p.w), ("absent", .ref p.a), ("gave", .ref p.gv), ("gave_ever", .ref p.ge), ("orders", .ref p.o), ("taken_back", .ref p.tb), ("in_force_for", .ref p.ff), ("losses", .ref p.ls), ("up", nv d.up), ("down", nv d.down), ("rule", nv d.rule), ("quarter", nv d.now), ("could_ever", nv d.could)]
structure CD (K : PySem.W.Frag) (C : Addr) : Prop where
  cl : Cls K C
  givers : NoAttr K C "givers"
  runs : NoAttr K C "runs"
  waited : NoAttr K C "waited"
  absent : NoAttr K C "absent"
  gave : NoAttr K C "gave"
  gave_ever : NoAttr K C "gave_ever"
  orders : NoAttr K C "orders"
  taken_back : NoAttr K C "taken_back"
  in_force_for : NoAttr K C "in_force_for"
  losses : NoAttr K C "losses"
  up : NoAttr K C "up"
  down : NoAttr K C "down"
  rule : NoAttr K C "rule"
  quarter : NoAttr K C "quarter"
  could_ever : NoAttr K C "could_ever"
structure CO (K : PySem.W.Frag) (C : Addr) : Prop where
  cl : Cls K C
  scope : NoAttr K C "scope"
  first : NoAttr K C "first"
  end_ : NoAttr K C "end"
  limit : NoAttr K C "limit"
  came : NoAttr K C "came"
structure CM (K : PySem.W.Frag) (C : Addr) : Prop where
  cl : Cls K C
  desk : NoAttr K C "desk"
  earlier : NoAttr K C "earlier"
  undone : NoAttr K C "undone"
structure CC (K : PySem.W.Frag) (C : Cs) : Prop where
  g : CG K C.G
  o : CO K C.O
  d : CD K C.D
  m : CM K C.M
/-- givers in a list that the program made -/
structure GivL (K : PySem.W.Frag) (C : Addr) (H : Hp) (l : Addr) (gs : List PG) : Prop where
  ex : ∃ as : List Addr, H l = some (.lst (as.map V.ref)) ∧ as.length = gs.length ∧ ∀ (i : Nat) (a : Addr) (g : PG), as[i]? = some a → gs[i]? = some g → GiverAt K C H a g
structure OrdL (C : Addr) (H : Hp) (l : Addr) (os : List Order) : Prop where
  ex : ∃ as : List Addr, H l = some (.lst (as.map V.ref)) ∧ as.length = os.length ∧ ∀ (i : Nat) (a : Addr) (o : Order), as[i]? = some a → os[i]? = some o → OrderAt C H a o
theorem GivL.mono {K : PySem.W.Frag} {C : Addr} {H H' : Hp} {l : Addr} {gs : List PG} (G : GivL K C H l gs) (e : Ex H H') : GivL K C H' l gs := by
  obtain ⟨⟨as, h1, h2, h3⟩⟩ := G
  exact ⟨⟨as, e _ _ h1, h2, fun i a g x y => (h3 i a g x y).mono e⟩⟩
theorem OrdL.mono {C : Addr} {H H' : Hp} {l : Addr} {os : List Order} (G : OrdL C H l os) (e : Ex H H') : OrdL C H' l os := by
  obtain ⟨⟨as, h1, h2, h3⟩⟩ := G
  refine ⟨⟨as, e _ _ h1, h2, fun i a g x y => ?_⟩⟩
  obtain ⟨dx, hd⟩ := h3 i a g x y
  exact ⟨dx, e _ _ hd⟩
theorem GivL.at {K : PySem.W.Frag} {C : Addr} {H : Hp} {l : Addr} {gs : List PG} (G : GivL K C H l gs) (few : gs.length ≤ 24) : GiversAt K C H l gs := by
  obtain ⟨⟨as, h1, h2, h3⟩⟩ := G
  exact ⟨⟨as, sq_of h1, h2, h3⟩, few⟩
theorem OrdL.get {C : Addr} {H : Hp} {l : Addr} {os : List Order} (G : OrdL C H l os) : ∃ as : List Addr, H l = some (.lst (as.map V.ref)) ∧ as.length = os.length ∧ ∀ (i : Nat) (o : Order), os[i]? = some o → ∃ a dx, as[i]? = some a ∧ H a = some (.ins C dx (oF o)) := by
  obtain ⟨⟨as, h1, h2, h3⟩⟩ := G
  refine ⟨as, h1, h2, fun i o ho => ?_⟩
  obtain ⟨a, ha⟩ : ∃ a, as[i]? = some a := ⟨_, List.getElem?_eq_getElem (by have := (List.getElem?_eq_some_iff.mp ho).1; omega)⟩
  obtain ⟨dx, hd⟩ := h3 i a o ha ho
  exact ⟨a, dx, ha, hd⟩
structure DeskIn (K : PySem.W.Frag) (C : Cs) (H : Hp) (p : DA) (d : Desk) : Prop where
  g : GivL K C.G H p.g (d.givers.map toPG)
  r : H p.r = some (.lst (bvs (d.stands.map (·.turn.runs))))
  w : H p.w = some (.lst (nvs (d.stands.map (·.turn.waited))))
  a : H p.a = some (.lst (bvs (d.stands.map (·.away))))
  gv : H p.gv = some (.lst (nvs (lastsOf d)))
  ge : H p.ge = some (.lst (nvs (d.stands.map (·.gave))))
  o : OrdL C.O H p.o d.orders
  tb : H p.tb = some (.lst (bks d))
  ff : H p.ff = some (.lst (nvs (d.orders.map (·.force))))
  ls : H p.ls = some (.lst (nvs (d.orders.map (·.own))))
  ok : DeskOk d
theorem DeskIn.mono {K : PySem.W.Frag} {C : Cs} {H H' : Hp} {p : DA} {d : Desk} (I : DeskIn K C H p d) (e : Ex H H') : DeskIn K C H' p d :=
  ⟨I.g.mono e, e _ _ I.r, e _ _ I.w, e _ _ I.a, e _ _ I.gv, e _ _ I.ge, I.o.mono e, e _ _ I.tb, e _ _ I.ff, e _ _ I.ls, I.ok⟩
theorem DeskIn.givers {K : PySem.W.Frag} {C : Cs} {H : Hp} {p : DA} {d : Desk} (I : DeskIn K C H p d) : GiversAt K C.G H p.g (d.givers.map toPG) := I.g.at (by rw [List.length_map]; exact I.ok.few)
/-- a desk stands at a -/
structure DeskAt (K : PySem.W.Frag) (C : Cs) (H : Hp) (a : Addr) (d : Desk) : Prop where
  ex : ∃ dx p, H a = some (.ins C.D dx (dF p d)) ∧ DeskIn K C H p d
theorem DeskAt.mono {K : PySem.W.Frag} {C : Cs} {H H' : Hp} {a : Addr} {d : Desk} (I : DeskAt K C H a d) (e : Ex H H') : DeskAt K C H' a d := by
  obtain ⟨⟨dx, p, h1, h2⟩⟩ := I
  exact ⟨⟨dx, p, e _ _ h1, h2.mono e⟩⟩
theorem DeskAt.ok {K : PySem.W.Frag} {C : Cs} {H : Hp} {a : Addr} {d : Desk} (I : DeskAt K C H a d) : DeskOk d := by
  obtain ⟨⟨dx, p, h1, h2⟩⟩ := I
  exact h2.ok
section
variable {K : PySem.W.Frag} {C dx : Addr} {H : Hp} {a : Addr} {d : Desk} {o : Order} {p : DA} {σ : L2.St} {ta : TE}
theorem dk_givers (c : CD K C) (h1 : H a = some (.ins C dx (dF p d))) (h : Ev ta σ H (.ref a)) : Ev (tFld K ta "givers") σ H (.ref p.g) := ev_fld h h1 c.cl c.givers rfl
theorem dk_runs (c : CD K C) (h1 : H a = some (.ins C dx (dF p d))) (h : Ev ta σ H (.ref a)) : Ev (tFld K ta "runs") σ H (.ref p.r) := ev_fld h h1 c.cl c.runs rfl
theorem dk_waited (c : CD K C) (h1 : H a = some (.ins C dx (dF p d))) (h : Ev ta σ H (.ref a)) : Ev (tFld K ta "waited") σ H (.ref p.w) := ev_fld h h1 c.cl c.waited rfl
theorem dk_absent (c : CD K C) (h1 : H a = some (.ins C dx (dF p d))) (h : Ev ta σ H (.ref a)) : Ev (tFld K ta "absent") σ H (.ref p.a) := ev_fld h h1 c.cl c.absent rfl
theorem dk_gave (c : CD K C) (h1 : H a = some (.ins C dx (dF p d))) (h : Ev ta σ H (.ref a)) : Ev (tFld K ta "gave") σ H (.ref p.gv) := ev_fld h h1 c.cl c.gave rfl
theorem dk_gave_ever (c : CD K C) (h1 : H a = some (.ins C dx (dF p d))) (h : Ev ta σ H (.ref a)) : Ev (tFld K ta "gave_ever") σ H (.ref p.ge) := ev_fld h h1 c.cl c.gave_ever rfl
theorem dk_orders (c : CD K C) (h1 : H a = some (.ins C dx (dF p d))) (h : Ev ta σ H (.ref a)) : Ev (tFld K ta "orders") σ H (.ref p.o) := ev_fld h h1 c.cl c.orders rfl
theorem dk_taken_back (c : CD K C) (h1 : H a = some (.ins C dx (dF p d))) (h : Ev ta σ H (.ref a)) : Ev (tFld K ta "taken_back") σ H (.ref p.tb) := ev_fld h h1 c.cl c.taken_back rfl
theorem dk_in_force_for (c : CD K C) (h1 : H a = some (.ins C dx (dF p d))) (h : Ev ta σ H (.ref a)) : Ev (tFld K ta "in_force_for") σ H (.ref p.ff) := ev_fld h h1 c.cl c.in_force_for rfl
theorem dk_losses (c : CD K C) (h1 : H a = some (.ins C dx (dF p d))) (h : Ev ta σ H (.ref a)) : Ev (tFld K ta "losses") σ H (.ref p.ls) := ev_fld h h1 c.cl c.losses rfl
theorem dk_up (c : CD K C) (h1 : H a = some (.ins C dx (dF p d))) (h : Ev ta σ H (.ref a)) : Ev (tFld K ta "up") σ H (nv d.up) := ev_fld h h1 c.cl c.up rfl
theorem dk_down (c : CD K C) (h1 : H a = some (.ins C dx (dF p d))) (h : Ev ta σ H (.ref a)) : Ev (tFld K ta "down") σ H (nv d.down) := ev_fld h h1 c.cl c.down rfl
theorem dk_rule (c : CD K C) (h1 : H a = some (.ins C dx (dF p d))) (h : Ev ta σ H (.ref a)) : Ev (tFld K ta "rule") σ H (nv d.rule) := ev_fld h h1 c.cl c.rule rfl
theorem dk_quarter (c : CD K C) (h1 : H a = some (.ins C dx (dF p d))) (h : Ev ta σ H (.ref a)) : Ev (tFld K ta "quarter") σ H (nv d.now) := ev_fld h h1 c.cl c.quarter rfl
theorem dk_could_ever (c : CD K C) (h1 : H a = some (.ins C dx (dF p d))) (h : Ev ta σ H (.ref a)) : Ev (tFld K ta "could_ever") σ H (nv d.could) := ev_fld h h1 c.cl c.could_ever rfl
theorem or_scope (c : CO K C) (h1 : H a = some (.ins C dx (oF o))) (h : Ev ta σ H (.ref a)) : Ev (tFld K ta "scope") σ H (nv o.scope) := ev_fld h h1 c.cl c.scope rfl
theorem or_first (c : CO K C) (h1 : H a = some (.ins C dx (oF o))) (h : Ev ta σ H (.ref a)) : Ev (tFld K ta "first") σ H (nv o.first) := ev_fld h h1 c.cl c.first rfl
theorem or_end_ (c : CO K C) (h1 : H a = some (.ins C dx (oF o))) (h : Ev ta σ H (.ref a)) : Ev (tFld K ta "end") σ H (nv o.end_) := ev_fld h h1 c.cl c.end_ rfl
theorem or_limit (c : CO K C) (h1 : H a = some (.ins C dx (oF o))) (h : Ev ta σ H (.ref a)) : Ev (tFld K ta "limit") σ H (nv o.limit) := ev_fld h h1 c.cl c.limit rfl
theorem or_came (c : CO K C) (h1 : H a = some (.ins C dx (oF o))) (h : Ev ta σ H (.ref a)) : Ev (tFld K ta "came") σ H (nv o.came) := ev_fld h h1 c.cl c.came rfl
end
end Pp
end
section
set_option Elab.async false
set_option linter.all false
set_option maxRecDepth 100000
set_option maxHeartbeats 2000000
namespace Pp
open PySem PySem.Spec PyProof.Rows L2 Evl VwHand LamX NdefX
open HdSpec (Desk Stand Order inForce broughtDown forces limitsBut kindsOf worthsOf lastsOf inScope ownLoss standsAt couldsAt partedBy quarterOn)
/-! ### with_row, scope_sums -/
def sp_with_row : Sp := fun vs H Q _ => ∃ (z : Int) (a : Addr) (xs : List V), vs = [.int z, .ref a] ∧ H a = some (.lst xs) ∧ xs.length ≤ 1000 ∧ RetL ([.int z, .int (xs.length : Int)] ++ xs) H Q
theorem pure_with_row {K : PySem.W.Frag} {vs : List V} {H : Hp} {Q : VK} {E : XK} (h : sp_with_row vs H Q E) : t_with_row K { nx := fun _ H' => Q .non H', rt := Q } (L2.start ["number", "row"] vs) H := by
  obtain ⟨z, a, xs, rfl, ha, hz, k⟩ := h
  exact s_retL (el_cat (el_lst (ea_cons (ev_var (v := .int z) rfl) (ea_cons (ev_len (ev_var rfl) (sq_of ha)) ea_nil)) (by show 2 ≤ 100000; decide)) (ev_var rfl) ha (by show 2 + xs.length ≤ 100000; omega)) k
def scopeN (ks row : List Nat) : List Nat := sumsN ks row ++ [VwNum.total row]
theorem sumsN_length (ks row : List Nat) : (sumsN ks row).length = 8 := by unfold sumsN; simp
theorem scope_at {d : Desk} {x : List Nat} {k : Nat} (hk : k ≤ 8) : (scopeN (kindsOf d) x)[k]? = some (inScope k d x) := by
  unfold scopeN HdSpec.inScope HdSpec.ALL
  by_cases e : k = 8
  · subst e
    rw [List.getElem?_append_right (by rw [sumsN_length]; exact Nat.le_refl _), sumsN_length]
    rfl
  · rw [List.getElem?_append_left (by rw [sumsN_length]; omega), sums_at (by omega), if_neg e, Ph.st_together]
def sp_scope_sums (K : PySem.W.Frag) (C : Addr) : Sp := fun vs H Q _ => ∃ (l r : Addr) (gs : List PG) (row : List Nat), vs = [.ref l, .ref r] ∧ GiversAt K C H l gs ∧ SqL K H r (nvs row) ∧ row.length = gs.length ∧ RetL (nvs (scopeN (kinds gs) row)) H Q
theorem pure_scope_sums {K : PySem.W.Frag} {C : Addr} {vs : List V} {H : Hp} {Q : VK} {E : XK} (h : sp_scope_sums K C vs H Q E) : t_scope_sums K (sp_class_sums K C) { nx := fun _ H' => Q .non H', rt := Q } (L2.start ["givers", "row"] vs) H := by
  obtain ⟨l, r, gs, row, rfl, G, hr, hlen, k⟩ := h
  have e : nvs (scopeN (kinds gs) row) = nvs (sumsN (kinds gs) row) ++ [nv (VwNum.total row)] := by unfold scopeN; rw [nvs_append]; rfl
  rw [e] at k
  exact s_retL (el_catL (el_call (ea_cons (ev_var rfl) (ea_cons (ev_var rfl) ea_nil)) (fun H1 e1 Q2 q _ => ⟨l, r, gs, row, rfl, G.mono e1, ex_l e1 hr, hlen, q⟩)) (el_lst (ea_cons (ev_sum (ev_var rfl) hr) ea_nil) (by show 1 ≤ 100000; decide)) (by rw [nvs_length, sumsN_length]; show 8 + 1 ≤ 100000; decide)) k
/-! ### in_force -/
def sp_in_force (K : PySem.W.Frag) (C : Cs) : Sp := fun vs H Q _ => ∃ (a : Addr) (d : Desk) (n : Nat) (o : Order), vs = [.ref a, nv n] ∧ DeskAt K C H a d ∧ d.orders[n]? = some o ∧ RetV (.bl (inForce d o)) H Q
theorem bks_at {d : Desk} {n : Nat} {o : Order} (h : d.orders[n]? = some o) : (bks d)[n]? = some (lo o.back) := by
  unfold bks; rw [List.getElem?_map, List.getElem?_map, h]; rfl
theorem lo_neg (o : Option Nat) : ∃ i : Int, lo o = .int i ∧ (decide (i = -1)) = o.isNone := by
  cases o with
  | none => exact ⟨-1, rfl, rfl⟩
  | some n => exact ⟨n, rfl, decide_eq_false (by omega)⟩
theorem pure_in_force {K : PySem.W.Frag} {C : Cs} (c : CC K C) {vs : List V} {H : Hp} {Q : VK} {E : XK} (h : sp_in_force K C vs H Q E) : t_in_force K { nx := fun _ H' => Q .non H', rt := Q } (L2.start ["desk", "number", "order"] vs) H := by
  obtain ⟨a, d, n, o, rfl, ⟨⟨dx, p, h1, I⟩⟩, ho, k⟩ := h
  obtain ⟨as, ha, hal, hG⟩ := I.o.get
  obtain ⟨b, dx2, hb, hb2⟩ := hG n o ho
  refine q_asg (v := .ref b) (ev_ixL (dk_orders c.d h1 (ev_var rfl)) (ev_var rfl) (sq_of ha) (refs_at hb)) fun H1 e1 => ?_
  obtain ⟨i, hi, hi2⟩ := lo_neg o.back
  have at2 := bks_at ho
  rw [hi] at at2
  refine s_ret (ev_andV (ev_eqI (j := -1) (ev_ixL (dk_taken_back c.d (e1 _ _ h1) (ev_var rfl)) (ev_var rfl) (sq_of (e1 _ _ I.tb)) at2) ev_c) fun _ => ev_chain (or_first c.o (e1 _ _ hb2) (ev_var rfl)) (dk_quarter c.d (e1 _ _ h1) (ev_var rfl)) rv_I0 (fun _ => or_end_ c.o (e1 _ _ hb2) (ev_var rfl)) fun _ => rv_I0) fun H2 e2 => ?_
  have e3 : (decide (i = -1) && (decide ((o.first : Int) ≤ (d.now : Int)) && decide ((d.now : Int) < (o.end_ : Int)))) = inForce d o := by
    unfold HdSpec.inForce
    rw [hi2]
    congr 2
    · rw [decide_eq_decide]; omega
    · rw [decide_eq_decide]; omega
  rw [e3]
  exact k H2 (e1.trans e2)
/-! ### brought_down -/
def lowV (ls : List (Nat × Nat × Nat)) (i : Nat) : List V := [nv (ls.getD i (0, 0, 0)).1, nv (ls.getD i (0, 0, 0)).2.1, nv (ls.getD i (0, 0, 0)).2.2]
abbrev LowsAt (K : PySem.W.Frag) (ls : List (Nat × Nat × Nat)) : Addr → Hp → Prop := TupsAt K ls.length (lowV ls)
theorem lowsOf_split (d : Desk) (i : Nat) : ∃ r, lowsOf d = lowsTo d i ++ r := by
  unfold lowsOf lowsTo
  refine ⟨(((d.orders.drop i).zipIdx (0 + (d.orders.take i).length)).filter fun y => inForce d y.1).map fun y => lowAt d y.2 y.1, ?_⟩
  rw [List.take_length, ← List.map_append, ← List.filter_append, ← List.zipIdx_append, List.take_append_drop]
theorem lows_len (d : Desk) (i : Nat) : (lowsTo d i).length ≤ d.orders.length := by
  unfold lowsTo
  rw [List.length_map]
  refine Nat.le_trans (List.length_filter_le _ _) ?_
  rw [List.length_zipIdx, List.length_take]; omega
def sp_brought_down (K : PySem.W.Frag) (C : Cs) : Sp := fun vs H Q _ => ∃ (a : Addr) (d : Desk), vs = [.ref a] ∧ DeskAt K C H a d ∧ RetP (LowsAt K (lowsOf d)) H Q
theorem lasts_len {d : Desk} (h : DeskOk d) : (lastsOf d).length = d.givers.length := by unfold HdSpec.lastsOf; rw [List.length_map]; exact h.slen
theorem pure_brought_down {K : PySem.W.Frag} {C : Cs} (c : CC K C) {vs : List V} {H : Hp} {Q : VK} {E : XK} (h : sp_brought_down K C vs H Q E) : t_brought_down K (sp_in_force K C) (sp_scope_sums K C.G) { nx := fun _ H' => Q .non H', rt := Q } (L2.start ["desk", "gave", "lows", "number", "order"] vs) H := by
  obtain ⟨a, d, rfl, DI, k⟩ := h
  obtain ⟨⟨dx, p, h1, I⟩⟩ := DI
  have hok := I.ok
  obtain ⟨as, ha, hal, hG⟩ := I.o.get
  refine q_asgL (el_call (xs := nvs (scopeN (kindsOf d) (lastsOf d))) (ea_cons (dk_givers c.d h1 (ev_var rfl)) (ea_cons (dk_gave c.d h1 (ev_var rfl)) ea_nil)) (fun H1 e1 Q2 q _ => ⟨p.g, p.gv, _, lastsOf d, rfl, (I.mono e1).givers, sq_of (e1 _ _ I.gv), by rw [List.length_map]; exact lasts_len hok, by rw [kinds_map]; exact q⟩)) fun s H1 hs e1 hs1 => ?_
  refine q_asgL (el_lst (vs := []) ea_nil (by decide)) fun l H2 hl e2 hl2 => ?_
  have e12 := e1.trans e2
  have hl0 := fresh_back e1 hl
  have nsl : s ≠ l := ne_of_none hs1 hl
  refine q_forE (K := K) (ea_cons (dk_orders c.d (e12 _ _ h1) (ev_var rfl)) ea_nil) (sq_of (e12 _ _ ha)) (fun i σ H' => ∃ v w, σ = [some (.ref a), some (.ref s), some (.ref l), v, w] ∧ Ex H H' ∧ H' s = some (.lst (nvs (scopeN (kindsOf d) (lastsOf d)))) ∧ TupsAt K (lowsTo d i).length (lowV (lowsOf d)) l H')
    (fun H3 e3 => ⟨_, _, rfl, e12.trans e3, e3 _ _ (e2 _ _ hs1), TupsAt.nil (e3 _ _ hl2)⟩) (fun i σ' H' hi ⟨_, _, _, e, _⟩ => sq_of (e _ _ ha)) ?_ ?_
  · rintro i x σ' H' H3 hx ⟨v, w, rfl, e, hs3, ht⟩ e3
    obtain ⟨b, hb, rfl⟩ := refs_get hx
    have hi : i < d.orders.length := by have := (List.getElem?_eq_some_iff.mp hb).1; omega
    obtain ⟨o, ho⟩ : ∃ o, d.orders[i]? = some o := ⟨_, List.getElem?_eq_getElem hi⟩
    obtain ⟨b', dx2, hb', hb2⟩ := hG i o ho
    have : b' = b := by rw [hb] at hb'; exact (Option.some.inj hb').symm
    subst this
    have ee := e.trans e3
    have hsc := hok.scope o (List.mem_of_getElem? ho)
    refine s_when (et_B (ev_call (ea_cons (ev_var rfl) (ea_cons (ev_var rfl) ea_nil)) (z := .bl (inForce d o)) (fun H4 e4 Q4 q4 _ => ⟨a, d, i, o, rfl, ⟨⟨dx, p, (ee.trans e4) _ _ h1, I.mono (ee.trans e4)⟩⟩, ho, q4⟩))) (fun hb3 H4 e4 => ?_) (fun hb3 H4 e4 => ?_)
    · have e04 := ee.trans e4
      have hlow : (lowsOf d).getD (lowsTo d i).length (0, 0, 0) = lowAt d i o := by
        obtain ⟨r, hr⟩ := lowsOf_split d (i + 1)
        rw [lowsTo_succ ho, if_pos hb3, List.append_assoc] at hr
        rw [hr, List.getD_eq_getElem?_getD, List.getElem?_append_right (Nat.le_refl _), Nat.sub_self]; rfl
      refine q_appT (H0 := H) (ht.mono (e3.trans e4)) hl0 e04 (ev_var rfl) (eu_tup (ea_cons (ev_var rfl) (ea_cons (or_scope c.o (e04 _ _ hb2) (ev_var rfl)) (ea_cons (ev_max2I (or_limit c.o (e04 _ _ hb2) (ev_var rfl)) (ev_subI (ev_ixN (ev_var rfl) (or_scope c.o (e04 _ _ hb2) (ev_var rfl)) (sq_of ((e3.trans e4) _ _ hs3)) (scope_at hsc)) (dk_down c.d (e04 _ _ h1) (ev_var rfl)))) ea_nil))) (by show 3 ≤ 100000; decide)) (by have := lows_len d i; have := hok.ofew; omega) ?_ (fun H5 e5 k5 h5 => ?_)
      · unfold lowV
        rw [hlow]
        have e6 : max (o.limit : Int) ((inScope o.scope d (lastsOf d) : Int) - (d.down : Int)) = ((broughtDown d o : Nat) : Int) := by unfold HdSpec.broughtDown; omega
        show [nv i, nv o.scope, V.int (max (o.limit : Int) ((inScope o.scope d (lastsOf d) : Int) - (d.down : Int)))] = [nv i, nv o.scope, nv (broughtDown d o)]
        rw [e6]
      · refine ⟨_, _, rfl, e5, k5 _ _ ((e3.trans e4) _ _ hs3) nsl, ?_⟩
        rw [lowsTo_succ ho, if_pos hb3, List.length_append]
        exact h5
    · refine ⟨_, _, rfl, ee.trans e4, (e3.trans e4) _ _ hs3, ?_⟩
      rw [lowsTo_succ ho, if_neg (by rw [hb3]; decide), List.append_nil]
      exact ht.mono (e3.trans e4)
  · rintro σ' H' ⟨v, w, rfl, e, hs3, ht⟩
    rw [List.length_map, hal] at ht
    exact s_ret (v := .ref l) (ev_var rfl) fun H3 e3 => k l H3 hl0 (e.trans e3) (ht.mono e3)
/-! ### limits -/
def sp_limits_without (K : PySem.W.Frag) (C : Cs) : Sp := fun vs H Q _ => ∃ (a l : Addr) (d : Desk) (ls : List (Nat × Nat × Nat)) (skip : Option Nat), vs = [.ref a, .ref l, lo skip] ∧ DeskAt K C H a d ∧ LowsAt K ls l H ∧ (∀ y ∈ ls, y.2.1 ≤ 8) ∧ RetL (lms (limR (gaveAll d + d.up) (pairs skip ls))) H Q
theorem lms_kind_put (m : Limits) {k : Nat} (h : m.classes.length = 8) (hk : k < 8) (a : Nat) : (lms m).set k (nv a) = lms ⟨m.classes.set k (some a), m.plant⟩ := by
  unfold lms
  rw [List.set_append_left _ _ (by rw [List.length_map]; omega), List.map_set]; rfl
theorem set_same {m : Limits} {k l : Nat} (h : limitAt m k = some l) : m.classes.set k (some l) = m.classes := by
  refine List.ext_getElem? fun i => ?_
  rw [List.getElem?_set]
  by_cases e : k = i
  · subst e
    unfold limitAt at h
    rw [List.getD_eq_getElem?_getD] at h
    cases q : m.classes[k]? with
    | none => rw [q] at h; cases h
    | some o =>
      rw [q] at h
      have : o = some l := h
      rw [if_pos rfl, if_pos (List.getElem?_eq_some_iff.mp q).1, this]
  · rw [if_neg e]
theorem lo_ne (n : Nat) (s : Option Nat) : ∃ i : Int, lo s = .int i ∧ (!decide ((n : Int) = i)) = !decide (s = some n) := by
  cases s with
  | none => exact ⟨-1, rfl, by rw [decide_eq_false (show ¬ (n : Int) = -1 by omega)]; rfl⟩
  | some m => exact ⟨m, rfl, by
      congr 1
      rw [decide_eq_decide]
      exact ⟨fun e => by rw [Int.ofNat_inj.mp e], fun e => by rw [Option.some.inj e]⟩⟩
theorem pure_limits_without {K : PySem.W.Frag} {C : Cs} (c : CC K C) {vs : List V} {H : Hp} {Q : VK} {E : XK} (h : sp_limits_without K C vs H Q E) : t_limits_without K { nx := fun _ H' => Q .non H', rt := Q } (L2.start ["desk", "lows", "skipped", "limits", "number", "scope", "low"] vs) H := by
  obtain ⟨a, l, d, ls, skip, rfl, ⟨⟨dx, p, h1, I⟩⟩, ⟨ts, hl1, hl2, hl3⟩, hsc, k⟩ := h
  refine q_asgL (xs := lms (limR (gaveAll d + d.up) [])) (el_catL (xs := List.replicate 8 (.int (-1))) (ys := [nv (gaveAll d + d.up)]) (el_rep (n := 8) ev_c ev_c (by decide)) (el_lst (ea_cons (ev_addN (ev_sum (dk_gave c.d h1 (ev_var rfl)) (sq_of I.gv)) (dk_up c.d h1 (ev_var rfl))) ea_nil) (by show 1 ≤ 100000; decide)) (by show 8 + 1 ≤ 100000; decide)) fun m H1 hm e1 hm1 => ?_
  have nlm : l ≠ m := ne_of_none hl1 hm
  refine q_forL (K := K) (ev_var rfl) (sq_of (e1 _ _ hl1)) (fun i σ H' => ∃ v w u, σ = [some (.ref a), some (.ref l), some (lo skip), some (.ref m), v, w, u] ∧ Ex H H' ∧ H' m = some (.lst (lms (limR (gaveAll d + d.up) (pairs skip (ls.take i))))))
    (fun H2 e2 => ⟨_, _, _, rfl, e1.trans e2, e2 _ _ hm1⟩) (fun i σ' H' hi ⟨_, _, _, _, e, _⟩ => sq_of (e _ _ hl1)) ?_ ?_
  · rintro i x σ' H' hx ⟨v, w, u, rfl, e, hm2⟩
    obtain ⟨t, ht, rfl⟩ := refs_get hx
    have hi : i < ls.length := by have := (List.getElem?_eq_some_iff.mp ht).1; omega
    obtain ⟨y, hy⟩ : ∃ y, ls[i]? = some y := ⟨_, List.getElem?_eq_getElem hi⟩
    have ey : ls.getD i (0, 0, 0) = y := by rw [List.getD_eq_getElem?_getD, hy]; rfl
    have hT := ex_t e (hl3 i t ht)
    unfold lowV at hT
    rw [ey] at hT
    refine g_triple hT ?_
    have hk := hsc y (List.mem_of_getElem? hy)
    have hpl := limR_length (gaveAll d + d.up) (pairs skip (ls.take i))
    have hnx := putL_is (gaveAll d + d.up) (pairs skip (ls.take i)) y.2.1 y.2.2 hk
    have htk : ls.take (i + 1) = ls.take i ++ [y] := by rw [List.take_add_one, hy]; rfl
    generalize hM : limR (gaveAll d + d.up) (pairs skip (ls.take i)) = M at hm2 hpl hnx
    obtain ⟨z, hz, hz2⟩ := lo_ne y.1 skip
    have hst : ∀ {H3}, Ex H' H3 → Ev (tOp (rIxL K) (tVar 3) (tVar 5)) [some (.ref a), some (.ref l), some (lo skip), some (.ref m), some (nv y.1), some (nv y.2.1), some (nv y.2.2)] H3 (if y.2.1 = 8 then nv M.plant else lo (limitAt M y.2.1)) := fun e3 => by
      split
      · rename_i e8
        exact ev_ixL (n := 8) (ev_var rfl) (by rw [e8]; exact ev_var rfl) (sq_of (e3 _ _ hm2)) (lms_plant hpl)
      · exact ev_ixL (ev_var rfl) (ev_var rfl) (sq_of (e3 _ _ hm2)) (lms_kind hpl (by omega))
    have hne : EvT (tTest (tOp rNe (tVar 4) (tVar 2))) [some (.ref a), some (.ref l), some (lo skip), some (.ref m), some (nv y.1), some (nv y.2.1), some (nv y.2.2)] H' (!decide (skip = some y.1)) := by
      rw [← hz2]
      exact et_test (ev_neI (ev_var rfl) (by rw [hz]; exact ev_var rfl))
    by_cases hs : skip = some y.1
    · refine s_when (b := false) (et_is (et_and (b := false) hne (fun q => absurd q (by simp [hs]))) (by simp)) (fun q => nomatch q) (fun _ H3 e3 => ⟨_, _, _, rfl, e.trans e3, ?_⟩)
      rw [htk, pairs_snoc, if_pos hs, hM]
      exact e3 _ _ hm2
    · -- the row as it is then
      have fin : limR (gaveAll d + d.up) (pairs skip (ls.take (i + 1))) = putL M y.2.1 y.2.2 := by rw [htk, pairs_snoc, if_neg hs, ← hnx]
      rw [fin]
      have htr : (!decide (skip = some y.1)) = true := by simp [hs]
      by_cases e8 : y.2.1 = 8
      · have hst8 : ∀ {H3}, Ex H' H3 → Ev (tOp (rIxL K) (tVar 3) (tVar 5)) [some (.ref a), some (.ref l), some (lo skip), some (.ref m), some (nv y.1), some (nv y.2.1), some (nv y.2.2)] H3 (nv M.plant) := fun e3 => by have := hst e3; rw [if_pos e8] at this; exact this
        have hput : putL M y.2.1 y.2.2 = ⟨M.classes, min y.2.2 M.plant⟩ := by unfold putL; rw [if_pos e8]
        rw [hput]
        refine s_when (et_and hne fun _ => et_or (et_test (ev_eqI (j := -1) (hst8 (Ex.refl _)) ev_c)) fun _ => et_test (ev_ltN (ev_var rfl) (hst8 (Ex.refl _)))) (fun q H3 e3 => ?_) (fun q H3 e3 => ?_)
        · rw [htr, Bool.true_and, decide_eq_false (show ¬ (M.plant : Int) = -1 by omega), Bool.false_or, decide_eq_true_eq] at q
          refine s_setL (j := 8) (v := nv y.2.2) (e3 _ _ hm2) (ev_var rfl) (ev_var rfl) (by rw [e8]; exact ev_var rfl) (by rw [lms_length hpl]; decide) fun H4 e4 => ⟨_, _, _, rfl, Ex.mut ((e.trans e3).trans e4) hm, ?_⟩
          rw [upd_same, lms_plant_set M hpl, show min y.2.2 M.plant = y.2.2 by omega]
        · rw [htr, Bool.true_and, decide_eq_false (show ¬ (M.plant : Int) = -1 by omega), Bool.false_or, decide_eq_false_iff_not] at q
          refine ⟨_, _, _, rfl, e.trans e3, ?_⟩
          rw [show min y.2.2 M.plant = M.plant by omega]
          exact e3 _ _ hm2
      · have hstk : ∀ {H3}, Ex H' H3 → Ev (tOp (rIxL K) (tVar 3) (tVar 5)) [some (.ref a), some (.ref l), some (lo skip), some (.ref m), some (nv y.1), some (nv y.2.1), some (nv y.2.2)] H3 (lo (limitAt M y.2.1)) := fun e3 => by have := hst e3; rw [if_neg e8] at this; exact this
        cases hlim : limitAt M y.2.1 with
        | none =>
          rw [hlim] at hstk
          have hput : putL M y.2.1 y.2.2 = ⟨M.classes.set y.2.1 (some y.2.2), M.plant⟩ := by unfold putL; rw [if_neg e8, hlim]
          rw [hput]
          refine s_when (b := true) (et_is (et_and hne fun _ => et_or (b := true) (et_test (ev_eqI (i := -1) (j := -1) (hstk (Ex.refl _)) ev_c)) fun q => absurd q (by decide)) (by simp [hs])) (fun _ H3 e3 => ?_) (fun q => nomatch q)
          refine s_setL (j := y.2.1) (v := nv y.2.2) (e3 _ _ hm2) (ev_var rfl) (ev_var rfl) (ev_var rfl) (by rw [lms_length hpl]; omega) fun H4 e4 => ⟨_, _, _, rfl, Ex.mut ((e.trans e3).trans e4) hm, ?_⟩
          rw [upd_same, lms_kind_put M hpl (by omega)]
        | some lim =>
          rw [hlim] at hstk
          have hput : putL M y.2.1 y.2.2 = ⟨M.classes.set y.2.1 (some (min lim y.2.2)), M.plant⟩ := by unfold putL; rw [if_neg e8, hlim]
          rw [hput]
          refine s_when (et_and hne fun _ => et_or (et_test (ev_eqI (i := (lim : Int)) (j := -1) (hstk (Ex.refl _)) ev_c)) fun _ => et_test (ev_ltN (n := lim) (ev_var rfl) (hstk (Ex.refl _)))) (fun q H3 e3 => ?_) (fun q H3 e3 => ?_)
          · rw [htr, Bool.true_and, decide_eq_false (show ¬ (lim : Int) = -1 by omega), Bool.false_or, decide_eq_true_eq] at q
            refine s_setL (j := y.2.1) (v := nv y.2.2) (e3 _ _ hm2) (ev_var rfl) (ev_var rfl) (ev_var rfl) (by rw [lms_length hpl]; omega) fun H4 e4 => ⟨_, _, _, rfl, Ex.mut ((e.trans e3).trans e4) hm, ?_⟩
            rw [upd_same, lms_kind_put M hpl (by omega), show min lim y.2.2 = y.2.2 by omega]
          · rw [htr, Bool.true_and, decide_eq_false (show ¬ (lim : Int) = -1 by omega), Bool.false_or, decide_eq_false_iff_not] at q
            refine ⟨_, _, _, rfl, e.trans e3, ?_⟩
            rw [show min lim y.2.2 = lim by omega, set_same hlim]
            exact e3 _ _ hm2
  · rintro σ' H' ⟨v, w, u, rfl, e, hm2⟩
    rw [List.length_map, hl2, List.take_length] at hm2
    exact s_ret (v := .ref m) (ev_var rfl) fun H2 e2 => k m H2 hm (e.trans e2) (e2 _ _ hm2)
end Pp
end
section
set_option Elab.async false
set_option linter.all false
set_option maxRecDepth 100000
set_option maxHeartbeats 2000000
namespace Pp
open PySem PySem.Spec PyProof.Rows L2 Evl VwHand LamX NdefX
open HdSpec (Desk Stand Order inForce broughtDown forces limitsBut kindsOf worthsOf lastsOf inScope ownLoss standsAt couldsAt partedBy quarterOn)
section
variable {K : PySem.W.Frag} {σ : L2.St} {H : Hp} {ta tb tc td te : TE} {xs zs : List V} {x y u : V}
/-- a call whose last argument is a new list -/
theorem el_call2L {sp : Sp} {E : XK} (h1 : Ev ta σ H x) (h2 : EvL tb σ H zs) (hs : ∀ p H1, Ex H H1 → H1 p = some (.lst zs) → ∀ Q : VK, RetL xs H1 Q → ∀ E : XK, sp [x, .ref p] H1 Q E) : EvL (tCall sp [] E (tCons ta (tCons tb tNil))) σ H xs := fun H0 e0 Q q =>
  h1 H0 e0 _ fun H1 e1 => h2 H1 (e0.trans e1) _ fun p H2 hp e2 hp2 => hs p H2 ((e0.trans e1).trans e2) hp2 Q (fun r H3 hr e3 h3 => q r H3 (fresh_back (e1.trans e2) hr) ((e1.trans e2).trans e3) h3) E
theorem el_call2P {sp : Sp} {E : XK} {P : Addr → Hp → Prop} (h1 : Ev ta σ H x) (h2 : EvP tb σ H P) (hs : ∀ p H1, Ex H H1 → P p H1 → ∀ Q : VK, RetL xs H1 Q → ∀ E : XK, sp [x, .ref p] H1 Q E) : EvL (tCall sp [] E (tCons ta (tCons tb tNil))) σ H xs := fun H0 e0 Q q =>
  h1 H0 e0 _ fun H1 e1 => h2 H1 (e0.trans e1) _ fun p H2 hp e2 hp2 => hs p H2 ((e0.trans e1).trans e2) hp2 Q (fun r H3 hr e3 h3 => q r H3 (fresh_back (e1.trans e2) hr) ((e1.trans e2).trans e3) h3) E
theorem ev_call3L {sp : Sp} {E : XK} {z : V} (h1 : Ev ta σ H x) (h2 : Ev tb σ H y) (h3 : EvL tc σ H zs) (hs : ∀ p H1, Ex H H1 → H1 p = some (.lst zs) → ∀ Q : VK, RetV z H1 Q → ∀ E : XK, sp [x, y, .ref p] H1 Q E) : Ev (tCall sp [] E (tCons ta (tCons tb (tCons tc tNil)))) σ H z := fun H0 e0 Q q =>
  h1 H0 e0 _ fun H1 e1 => h2 H1 (e0.trans e1) _ fun H2 e2 => h3 H2 ((e0.trans e1).trans e2) _ fun p H3 hp e3 hp3 => hs p H3 (((e0.trans e1).trans e2).trans e3) hp3 Q (fun H4 e4 => q H4 (((e1.trans e2).trans e3).trans e4)) E
theorem ep_call3P {sp : Sp} {E : XK} {P R : Addr → Hp → Prop} (h1 : Ev ta σ H x) (h2 : EvP tb σ H P) (h3 : Ev tc σ H y) (hP : ∀ {p H1 H2}, P p H1 → Ex H1 H2 → P p H2) (hs : ∀ p H1, Ex H H1 → P p H1 → ∀ Q : VK, RetP R H1 Q → ∀ E : XK, sp [x, .ref p, y] H1 Q E) : EvP (tCall sp [] E (tCons ta (tCons tb (tCons tc tNil)))) σ H R := fun H0 e0 Q q =>
  h1 H0 e0 _ fun H1 e1 => h2 H1 (e0.trans e1) _ fun p H2 hp e2 hp2 => h3 H2 ((e0.trans e1).trans e2) _ fun H3 e3 => hs p H3 (((e0.trans e1).trans e2).trans e3) (hP hp2 e3) Q (fun r H4 hr e4 h4 => q r H4 (fresh_back ((e1.trans e2).trans e3) hr) (((e1.trans e2).trans e3).trans e4) h4) E
theorem el_call3P {sp : Sp} {E : XK} {P : Addr → Hp → Prop} (h1 : Ev ta σ H x) (h2 : EvP tb σ H P) (h3 : Ev tc σ H y) (hP : ∀ {p H1 H2}, P p H1 → Ex H1 H2 → P p H2) (hs : ∀ p H1, Ex H H1 → P p H1 → ∀ Q : VK, RetL xs H1 Q → ∀ E : XK, sp [x, .ref p, y] H1 Q E) : EvL (tCall sp [] E (tCons ta (tCons tb (tCons tc tNil)))) σ H xs := fun H0 e0 Q q =>
  h1 H0 e0 _ fun H1 e1 => h2 H1 (e0.trans e1) _ fun p H2 hp e2 hp2 => h3 H2 ((e0.trans e1).trans e2) _ fun H3 e3 => hs p H3 (((e0.trans e1).trans e2).trans e3) (hP hp2 e3) Q (fun r H4 hr e4 h4 => q r H4 (fresh_back ((e1.trans e2).trans e3) hr) (((e1.trans e2).trans e3).trans e4) h4) E
end
/-! ### limits_under, limits_now -/
def sp_limits_under (K : PySem.W.Frag) (C : Cs) : Sp := fun vs H Q _ => ∃ (a l : Addr) (d : Desk), vs = [.ref a, .ref l] ∧ DeskAt K C H a d ∧ LowsAt K (lowsOf d) l H ∧ RetL (lms (HdSpec.limits d)) H Q
theorem pure_limits_under {K : PySem.W.Frag} {C : Cs} {vs : List V} {H : Hp} {Q : VK} {E : XK} (h : sp_limits_under K C vs H Q E) : t_limits_under K (sp_limits_without K C) { nx := fun _ H' => Q .non H', rt := Q } (L2.start ["desk", "lows"] vs) H := by
  obtain ⟨a, l, d, rfl, DI, hl, k⟩ := h
  refine s_retL (el_call (ea_cons (ev_var rfl) (ea_cons (ev_var rfl) (ea_cons ev_c ea_nil))) (xs := lms (HdSpec.limits d)) (fun H1 e1 Q2 q _ => ⟨a, l, d, lowsOf d, none, rfl, DI.mono e1, hl.mono e1, fun y hy => (lows_scope DI.ok.scope hy).1, ?_⟩)) k
  rw [limits_run]
  exact q
def sp_limits_now (K : PySem.W.Frag) (C : Cs) : Sp := fun vs H Q _ => ∃ (a : Addr) (d : Desk), vs = [.ref a] ∧ DeskAt K C H a d ∧ RetL (lms (HdSpec.limits d)) H Q
theorem pure_limits_now {K : PySem.W.Frag} {C : Cs} {vs : List V} {H : Hp} {Q : VK} {E : XK} (h : sp_limits_now K C vs H Q E) : t_limits_now K (sp_brought_down K C) (sp_limits_under K C) { nx := fun _ H' => Q .non H', rt := Q } (L2.start ["desk"] vs) H := by
  obtain ⟨a, d, rfl, DI, k⟩ := h
  exact s_retL (el_call2P (ev_var rfl) (ep_call (P := LowsAt K (lowsOf d)) (ea_cons (ev_var rfl) ea_nil) (fun H1 e1 Q2 q _ => ⟨a, d, rfl, DI.mono e1, q⟩)) (fun p H1 e1 hp Q2 q _ => ⟨a, p, d, rfl, DI.mono e1, hp, q⟩)) k
/-! ### own_losses -/
def pairV (ls : List (Nat × Nat)) (i : Nat) : List V := [nv (ls.getD i (0, 0)).1, nv (ls.getD i (0, 0)).2]
abbrev PairsAt (K : PySem.W.Frag) (ls : List (Nat × Nat)) : Addr → Hp → Prop := TupsAt K ls.length (pairV ls)
def sp_own_losses (K : PySem.W.Frag) (C : Cs) : Sp := fun vs H Q _ => ∃ (a l r : Addr) (d : Desk) (row : List Nat), vs = [.ref a, .ref l, .ref r] ∧ DeskAt K C H a d ∧ LowsAt K (lowsOf d) l H ∧ SqL K H r (nvs row) ∧ row.length = d.givers.length ∧ RetP (PairsAt K (lossOf d row)) H Q
theorem limits_len (d : Desk) (but : Option Nat) : (limitsBut d but).classes.length = 8 := by rw [← limits_run]; exact limR_length _ _
theorem pure_own_losses {K : PySem.W.Frag} {C : Cs} (c : CC K C) {vs : List V} {H : Hp} {Q : VK} {E : XK} (h : sp_own_losses K C vs H Q E) : t_own_losses K (sp_given_in_all K C.G) (sp_limits_under K C) (sp_limits_without K C) { nx := fun _ H' => Q .non H', rt := Q } (L2.start ["desk", "lows", "able", "given", "losses", "order", "number", "without"] vs) H := by
  obtain ⟨a, l, r, d, row, rfl, DI, hlow, hr, hlen, k⟩ := h
  have hok := DI.ok
  obtain ⟨⟨dx, p, h1, I⟩⟩ := DI
  have DIm : ∀ {H1}, Ex H H1 → DeskAt K C H1 a d := fun e => ⟨⟨dx, p, e _ _ h1, I.mono e⟩⟩
  have giv : ∀ {H1 : Hp} {σ : L2.St} {tl : TE} (but : Option Nat), Ex H H1 → σ[0]? = some (some (V.ref a)) → σ[2]? = some (some (V.ref r)) → EvL tl σ H1 (lms (limitsBut d but)) → Ev (tCall (sp_given_in_all K C.G) [] C8.E0 (tCons (tFld K (tVar 0) "givers") (tCons (tVar 2) (tCons tl tNil)))) σ H1 (nv (givenN (limitsBut d but) (kindsOf d) row)) := fun {H1 σ tl} but e h0 h2 ht =>
    ev_call3L (dk_givers c.d (e _ _ h1) (ev_var h0)) (ev_var h2) ht (fun q H2 e2 hq Q2 k2 _ => ⟨p.g, r, q, _, row, limitsBut d but, rfl, (I.mono (e.trans e2)).givers, ex_l (e.trans e2) hr, by rw [List.length_map]; exact hlen, sq_of hq, limits_len d but, by rw [kinds_map]; exact k2⟩)
  refine q_asg (giv none (Ex.refl H) rfl rfl (el_call (ea_cons (ev_var rfl) (ea_cons (ev_var rfl) ea_nil)) (fun H1 e1 Q2 q _ => ⟨a, l, d, rfl, DIm e1, hlow.mono e1, q⟩))) fun H1 e1 => ?_
  refine q_asgL (el_lst (vs := []) ea_nil (by decide)) fun m H2 hm e2 hm2 => ?_
  have e12 := e1.trans e2
  have hm0 := fresh_back e1 hm
  obtain ⟨ts, hl1, hl2, hl3⟩ := hlow
  have hlen2 : (lossOf d row).length = (lowsOf d).length := by unfold lossOf; rw [List.length_map]
  refine q_forLn (K := K) (ev_var rfl) (sq_of (e12 _ _ hl1)) (fun i σ H' => ∃ v w u, σ = [some (.ref a), some (.ref l), some (.ref r), some (nv (givenN (limitsBut d none) (kindsOf d) row)), some (.ref m), v, w, u] ∧ Ex H H' ∧ TupsAt K i (pairV (lossOf d row)) m H')
    (fun H3 e3 => ⟨_, _, _, rfl, e12.trans e3, TupsAt.nil (e3 _ _ hm2)⟩) (fun i σ' H' hi ⟨_, _, _, _, e, _⟩ => sq_of (e _ _ hl1)) ?_ ?_
  · rintro i x σ' H' hx ⟨v, w, u, rfl, e, hT⟩
    obtain ⟨t, ht, rfl⟩ := refs_get hx
    have hi : i < (lowsOf d).length := by have := (List.getElem?_eq_some_iff.mp ht).1; omega
    obtain ⟨y, hy⟩ : ∃ y, (lowsOf d)[i]? = some y := ⟨_, List.getElem?_eq_getElem hi⟩
    have ey : (lowsOf d).getD i (0, 0, 0) = y := by rw [List.getD_eq_getElem?_getD, hy]; rfl
    have hTt := ex_t e (hl3 i t ht)
    unfold lowV at hTt
    rw [ey] at hTt
    refine q_asg (v := nv y.1) (ev_ixT (n := 0) (ev_var rfl) ev_c hTt rfl) fun H3 e3 => ?_
    refine q_asg (giv (some y.1) (e.trans e3) rfl rfl (el_call (ea_cons (ev_var rfl) (ea_cons (ev_var rfl) (ea_cons (ev_var rfl) ea_nil))) (fun H4 e4 Q2 q _ => ⟨a, l, d, lowsOf d, some y.1, rfl, DIm ((e.trans e3).trans e4), ⟨ts, ((e.trans e3).trans e4) _ _ hl1, hl2, fun i t ht => ex_t ((e.trans e3).trans e4) (hl3 i t ht)⟩, fun y hy => (lows_scope hok.scope hy).1, by rw [limits_run]; exact q⟩))) fun H4 e4 => ?_
    have hmo := given_mono d y.1 (kindsOf d) row
    refine q_appT (H0 := H) (hT.mono (e3.trans e4)) hm0 ((e.trans e3).trans e4) (ev_var rfl) (eu_tup (ea_cons (ev_var rfl) (ea_cons (ev_subN (ev_var rfl) (ev_var rfl) hmo) ea_nil)) (by show 2 ≤ 100000; decide)) (by have := lows_len d d.orders.length; have := hok.ofew; unfold lowsOf at hi; omega) ?_ (fun H5 e5 k5 h5 => ⟨_, _, _, rfl, e5, h5⟩)
    have el : (lossOf d row).getD i (0, 0) = (y.1, ownLoss d row y.1) := by unfold lossOf; rw [List.getD_eq_getElem?_getD, List.getElem?_map, hy]; rfl
    unfold pairV
    rw [el]
    unfold HdSpec.ownLoss
    rw [given_is (some y.1) hlen hok.kinds8, given_is none hlen hok.kinds8]
  · rintro σ' H' ⟨v, w, u, rfl, e, hT⟩
    rw [List.length_map, hl2, ← hlen2] at hT
    exact s_ret (v := .ref m) (ev_var rfl) fun H3 e3 => k m H3 hm0 (e.trans e3) (hT.mono e3)
/-! ### binding, clearing -/
theorem map_range_getD {α : Type} (ls : List α) (z : α) : (List.range ls.length).map (fun i => ls.getD i z) = ls := by
  refine List.ext_getElem? fun i => ?_
  rw [List.getElem?_map]
  by_cases h : i < ls.length
  · rw [List.getElem?_range h, List.getElem?_eq_getElem h]
    show some (ls.getD i z) = _
    rw [List.getD_eq_getElem?_getD, List.getElem?_eq_getElem h]; rfl
  · rw [List.getElem?_eq_none (by simpa using h), List.getElem?_eq_none (by omega)]; rfl
theorem given_filter {α : Type} (ls : List α) (p : α → Bool) (f : α → Nat) (z : α) : given ls.length (fun i => p (ls.getD i z)) (fun i => nv (f (ls.getD i z))) = nvs ((ls.filter p).map f) := by
  unfold given nvs
  have e := map_range_getD ls z
  conv => rhs; rw [← e]
  rw [List.filter_map, List.map_map, List.map_map]
  rfl
theorem forces_lows (d : Desk) : (forces d none).map (fun y => lowAt d y.1 y.2) = lowsOf d := by
  rw [forces_eq]
  exact List.filter_eq_self.mpr (fun _ _ => rfl)
theorem binds_is (d : Desk) (c : List Nat) : ((lossOf d c).filter fun y => decide (0 < y.2)).map (·.1) = ((forces d none).map fun (y : Nat × Order) => y.1).filter fun (j : Nat) => decide (0 < ownLoss d c j) := by
  unfold lossOf
  rw [← forces_lows, List.map_map, List.filter_map, List.map_map, List.filter_map]
  rfl
theorem clears_is (d : Desk) (c : List Nat) : ((lowsOf d).filter fun y => decide (y.2.2 < inScope y.2.1 d c)).map (·.1) = ((forces d none).filter fun (y : Nat × Order) => decide (broughtDown d y.2 < inScope y.2.scope d c)).map fun (y : Nat × Order) => y.1 := by
  rw [← forces_lows, List.filter_map, List.map_map]
  rfl
def bindsN (d : Desk) (c : List Nat) : List Nat := ((forces d none).map fun (y : Nat × Order) => y.1).filter fun (j : Nat) => decide (0 < ownLoss d c j)
def clearsN (d : Desk) (c : List Nat) : List Nat := ((forces d none).filter fun (y : Nat × Order) => decide (broughtDown d y.2 < inScope y.2.scope d c)).map fun (y : Nat × Order) => y.1
theorem getD_mem {α : Type} {ls : List α} {i : Nat} (z : α) (h : i < ls.length) : ls.getD i z ∈ ls := by
  rw [List.getD_eq_getElem?_getD, List.getElem?_eq_getElem h]; exact List.getElem_mem h
def sp_binding (K : PySem.W.Frag) (C : Cs) : Sp := fun vs H Q _ => ∃ (a r : Addr) (d : Desk) (row : List Nat), vs = [.ref a, .ref r] ∧ DeskAt K C H a d ∧ SqL K H r (nvs row) ∧ row.length = d.givers.length ∧ RetL (nvs (bindsN d row)) H Q
theorem pure_binding {K : PySem.W.Frag} {C : Cs} {vs : List V} {H : Hp} {Q : VK} {E : XK} (h : sp_binding K C vs H Q E) : t_binding K (sp_brought_down K C) (sp_own_losses K C) { nx := fun _ H' => Q .non H', rt := Q } (L2.start ["desk", "able", "number", "loss"] vs) H := by
  obtain ⟨a, r, d, row, rfl, DI, hr, hlen, k⟩ := h
  unfold bindsN at k
  rw [← binds_is, ← given_filter (lossOf d row) _ _ (0, 0)] at k
  have hlen2 : (lossOf d row).length = (lowsOf d).length := by unfold lossOf; rw [List.length_map]
  have hl3 := lows_len d d.orders.length
  have hl4 := DI.ok.ofew
  refine s_retL (el_lcP2 (x := fun i => nv ((lossOf d row).getD i (0, 0)).1) (y := fun i => nv ((lossOf d row).getD i (0, 0)).2) _ _ (ep_call3P (P := LowsAt K (lowsOf d)) (ev_var rfl) (ep_call (ea_cons (ev_var rfl) ea_nil) (fun H1 e1 Q2 q _ => ⟨a, d, rfl, DI.mono e1, q⟩)) (ev_var rfl) (fun h e => TupsAt.mono h e) (fun p H1 e1 hp Q2 q _ => ⟨a, p, r, d, row, rfl, DI.mono e1, hp, ex_l e1 hr, hlen, q⟩)) (by unfold lowsOf at hlen2; omega) (fun x y => rfl) (fun i H1 e1 hi => ?_) (fun i H1 e1 hi hf => ev_var rfl)) k
  exact et_test (ev_gtN (n := 0) (ev_var rfl) ev_c)
def sp_clearing (K : PySem.W.Frag) (C : Cs) : Sp := fun vs H Q _ => ∃ (a r : Addr) (d : Desk) (row : List Nat), vs = [.ref a, .ref r] ∧ DeskAt K C H a d ∧ SqL K H r (nvs row) ∧ row.length = d.givers.length ∧ RetL (nvs (clearsN d row)) H Q
theorem pure_clearing {K : PySem.W.Frag} {C : Cs} (c : CC K C) {vs : List V} {H : Hp} {Q : VK} {E : XK} (h : sp_clearing K C vs H Q E) : t_clearing K (sp_brought_down K C) (sp_scope_sums K C.G) { nx := fun _ H' => Q .non H', rt := Q } (L2.start ["desk", "able", "sums", "number", "scope", "low"] vs) H := by
  obtain ⟨a, r, d, row, rfl, DI, hr, hlen, k⟩ := h
  have hok := DI.ok
  obtain ⟨⟨dx, p, h1, I⟩⟩ := DI
  have DIm : ∀ {H1}, Ex H H1 → DeskAt K C H1 a d := fun e => ⟨⟨dx, p, e _ _ h1, I.mono e⟩⟩
  unfold clearsN at k
  rw [← clears_is, ← given_filter (lowsOf d) _ _ (0, 0, 0)] at k
  refine q_asgL (el_call (xs := nvs (scopeN (kindsOf d) row)) (ea_cons (dk_givers c.d h1 (ev_var rfl)) (ea_cons (ev_var rfl) ea_nil)) (fun H1 e1 Q2 q _ => ⟨p.g, r, _, row, rfl, (I.mono e1).givers, ex_l e1 hr, by rw [List.length_map]; exact hlen, by rw [kinds_map]; exact q⟩)) fun s H1 hs e1 hs1 => ?_
  have hl3 := lows_len d d.orders.length
  have hl4 := hok.ofew
  refine s_retL (el_lcP3 (x := fun i => nv ((lowsOf d).getD i (0, 0, 0)).1) (y := fun i => nv ((lowsOf d).getD i (0, 0, 0)).2.1) (z := fun i => nv ((lowsOf d).getD i (0, 0, 0)).2.2) _ _ (ep_call (P := LowsAt K (lowsOf d)) (ea_cons (ev_var rfl) ea_nil) (fun H2 e2 Q2 q _ => ⟨a, d, rfl, DIm (e1.trans e2), q⟩)) (by unfold lowsOf; omega) (fun x y z => rfl) (fun i H2 e2 hi => ?_) (fun i H2 e2 hi hf => ev_var rfl)) fun q H2 hq e2 h2 => k.go e1 hq e2 h2
  exact et_test (ev_ltN (ev_var rfl) (ev_ixN (ev_var rfl) (ev_var rfl) (sq_of (e2 _ _ hs1)) (scope_at (lows_scope hok.scope (getD_mem (0, 0, 0) hi)).1)))
/-! ### is_able -/
theorem greatest_le (l : List Nat) (b : Nat) : VwNum.greatest l ≤ b ↔ ∀ x ∈ l, x ≤ b := by
  obtain ⟨h1, h2, h3⟩ := greatest_from l 0
  constructor
  · intro h x hx
    exact Nat.le_trans (h2 x hx) h
  · intro h
    rcases h3 with e | e
    · have : VwNum.greatest l = 0 := e
      omega
    · exact h _ e
def sp_is_able (K : PySem.W.Frag) (C : Cs) : Sp := fun vs H Q _ => ∃ (a r : Addr) (d : Desk) (row : List Nat), vs = [.ref a, .ref r] ∧ DeskAt K C H a d ∧ SqL K H r (nvs row) ∧ RetV (.bl (HdSpec.mayBe d row)) H Q
theorem pure_is_able {K : PySem.W.Frag} {C : Cs} (c : CC K C) {vs : List V} {H : Hp} {Q : VK} {E : XK} (h : sp_is_able K C vs H Q E) : t_is_able K { nx := fun _ H' => Q .non H', rt := Q } (L2.start ["desk", "row"] vs) H := by
  obtain ⟨a, r, d, row, rfl, ⟨⟨dx, p, h1, I⟩⟩, hr, k⟩ := h
  obtain ⟨as, ha, hal, hG⟩ := I.givers.at
  refine s_ret (ev_andV (ev_eqN (ev_lenNs (ev_var rfl) hr) (ev_is (ev_len (dk_givers c.d h1 (ev_var rfl)) ha) (w := nv d.givers.length) (by rw [List.length_map, hal, List.length_map]))) fun _ => ev_leN (n := 10000000) (ev_maxD (ev_var rfl) hr) ev_c) fun H1 e1 => ?_
  have e : (decide (row.length = d.givers.length) && decide (VwNum.greatest row ≤ 10000000)) = HdSpec.mayBe d row := by
    unfold HdSpec.mayBe HdSpec.POWER
    rw [Bool.eq_iff_iff]
    simp only [Bool.and_eq_true, decide_eq_true_eq, beq_iff_eq, List.all_eq_true, greatest_le]
  rw [e]
  exact k H1 e1
theorem may_be {d : Desk} {c : List Nat} (h : HdSpec.mayBe d c = true) : c.length = d.givers.length ∧ ∀ x ∈ c, x < 4294967296 := by
  unfold HdSpec.mayBe HdSpec.POWER at h
  simp only [Bool.and_eq_true, beq_iff_eq, List.all_eq_true, decide_eq_true_eq] at h
  exact ⟨h.1, fun x hx => by have := h.2 x hx; omega⟩
/-! ### steps, able_after -/
section
variable {K : PySem.W.Frag} {σ : L2.St} {H : Hp} {tg : TA}
theorem eu_call {sp : Sp} {E : XK} {vs xs : List V} (h : EvA tg σ H vs) (hs : ∀ H1, Ex H H1 → ∀ Q : VK, RetU xs H1 Q → ∀ E : XK, sp vs H1 Q E) : EvU (tCall sp [] E tg) σ H xs := fun H0 e0 Q q =>
  h H0 e0 _ fun H1 e => by
    rw [List.append_nil]
    exact hs H1 (e0.trans e) Q (fun p H2 hp e2 h2 => q p H2 (fresh_back e hp) (e.trans e2) h2) E
end
def turnV (ts : List Turn) (i : Nat) : List V := [.bl (ts.getD i still).runs, nv (ts.getD i still).waited]
abbrev TurnsAt (K : PySem.W.Frag) (ts : List Turn) : Addr → Hp → Prop := TupsAt K ts.length (turnV ts)
def turnsOf (d : Desk) (l : List Nat) : List Turn := (standsAt d l).map (·.turn)
def sp_steps (K : PySem.W.Frag) (C : Cs) : Sp := fun vs H Q _ => ∃ (a r : Addr) (d : Desk) (l : List Nat), vs = [.ref a, .ref r] ∧ DeskAt K C H a d ∧ SqL K H r (nvs l) ∧ l.length = d.givers.length ∧ RetP (TurnsAt K (turnsOf d l)) H Q
theorem pure_steps {K : PySem.W.Frag} {C : Cs} (c : CC K C) {vs : List V} {H : Hp} {Q : VK} {E : XK} (h : sp_steps K C vs H Q E) : t_steps K (sp_step K C.G) { nx := fun _ H' => Q .non H', rt := Q } (L2.start ["desk", "coming", "taken", "number", "giver"] vs) H := by
  obtain ⟨a, r, d, l, rfl, DI, hr, hlen, k⟩ := h
  have hok := DI.ok
  obtain ⟨⟨dx, p, h1, I⟩⟩ := DI
  obtain ⟨as, ha, hal, hG⟩ := I.givers.at
  rw [List.length_map] at hal
  have htl : (turnsOf d l).length = d.givers.length := by unfold turnsOf; rw [List.length_map]; exact standsAt_length hok hlen
  refine q_asgL (el_lst (vs := []) ea_nil (by decide)) fun m H1 hm e1 hm1 => ?_
  refine q_forE (K := K) (ea_cons (dk_givers c.d (e1 _ _ h1) (ev_var rfl)) ea_nil) (ex_l e1 ha) (fun i σ H' => ∃ v w, σ = [some (.ref a), some (.ref r), some (.ref m), v, w] ∧ Ex H H' ∧ TupsAt K i (turnV (turnsOf d l)) m H')
    (fun H2 e2 => ⟨_, _, rfl, e1.trans e2, TupsAt.nil (e2 _ _ hm1)⟩) (fun i σ' H' hi ⟨_, _, _, e, _⟩ => ex_l e ha) ?_ ?_
  · rintro i x σ' H' H2 hx ⟨v, w, rfl, e, hT⟩ e2
    obtain ⟨b, hb, rfl⟩ := refs_get hx
    have hi : i < d.givers.length := by have := (List.getElem?_eq_some_iff.mp hb).1; omega
    obtain ⟨g', hg', Gi⟩ := hG i b hb
    obtain ⟨g, hg⟩ : ∃ g, d.givers[i]? = some g := ⟨_, List.getElem?_eq_getElem hi⟩
    rw [List.getElem?_map, hg] at hg'
    have eg : toPG g = g' := Option.some.inj hg'
    subst eg
    obtain ⟨s, hs⟩ : ∃ s, d.stands[i]? = some s := ⟨_, List.getElem?_eq_getElem (by rw [hok.slen]; exact hi)⟩
    obtain ⟨z, hz⟩ : ∃ z, l[i]? = some z := ⟨_, List.getElem?_eq_getElem (by omega)⟩
    have ee := e.trans e2
    have htv : turnV (turnsOf d l) i = [.bl (if s.away = true then still else turned g.inv z s.turn).runs, nv (if s.away = true then still else turned g.inv z s.turn).waited] := by
      unfold turnV turnsOf
      rw [List.getD_eq_getElem?_getD, List.getElem?_map, standsAt_at i hg hs hz]; rfl
    have few := hok.few
    refine s_if (b := s.away) (et_B (ev_ixL (dk_absent c.d (ee _ _ h1) (ev_var rfl)) (ev_var rfl) (sq_of (ee _ _ I.a)) (bvs_at (by rw [List.getElem?_map, hs]; rfl)))) (fun hb2 H3 e3 => ?_) (fun hb2 H3 e3 => ?_)
    · refine q_appT (H0 := H) (hT.mono (e2.trans e3)) hm (ee.trans e3) (ev_var rfl) (eu_tup (ea_cons ev_c (ea_cons ev_c ea_nil)) (by show 2 ≤ 100000; decide)) (by omega) ?_ (fun H5 e5 k5 h5 => ⟨_, _, rfl, e5, h5⟩)
      rw [htv, if_pos hb2]; rfl
    · have e03 := ee.trans e3
      have ht := hok.turn i g s hg hs
      refine q_appT (H0 := H) (hT.mono (e2.trans e3)) hm e03 (ev_var rfl) (eu_call (xs := [.bl (stepN (toPG g) s.turn.runs s.turn.waited z).1, nv (stepN (toPG g) s.turn.runs s.turn.waited z).2]) (ea_cons (ev_var rfl) (ea_cons (ev_ixL (dk_runs c.d (e03 _ _ h1) (ev_var rfl)) (ev_var rfl) (sq_of (e03 _ _ I.r)) (bvs_at (by rw [List.getElem?_map, hs]; rfl))) (ea_cons (ev_ixN (dk_waited c.d (e03 _ _ h1) (ev_var rfl)) (ev_var rfl) (sq_of (e03 _ _ I.w)) (by rw [List.getElem?_map, hs]; rfl)) (ea_cons (ev_ixN (ev_var rfl) (ev_var rfl) (ex_l e03 hr) hz) ea_nil)))) (fun H4 e4 Q2 q _ => ⟨b, toPG g, s.turn.runs, s.turn.waited, z, rfl, Gi.mono (e03.trans e4), q⟩)) (by omega) ?_ (fun H5 e5 k5 h5 => ⟨_, _, rfl, e5, h5⟩)
      rw [htv, if_neg (by rw [hb2]; decide), turned_is z ht.1 ht.2]
  · rintro σ' H' ⟨v, w, rfl, e, hT⟩
    rw [List.length_map, hal, ← htl] at hT
    exact s_ret (v := .ref m) (ev_var rfl) fun H3 e3 => k m H3 hm (e.trans e3) (hT.mono e3)
def sp_able_after (K : PySem.W.Frag) (C : Cs) : Sp := fun vs H Q _ => ∃ (a t r : Addr) (d : Desk) (l : List Nat), vs = [.ref a, .ref t, .ref r] ∧ DeskAt K C H a d ∧ TurnsAt K (turnsOf d l) t H ∧ SqL K H r (nvs l) ∧ l.length = d.givers.length ∧ (∀ x ∈ l, x ≤ 1000000000000000) ∧ RetL (nvs (couldsAt d l)) H Q
theorem pure_able_after {K : PySem.W.Frag} {C : Cs} (c : CC K C) {vs : List V} {H : Hp} {Q : VK} {E : XK} (h : sp_able_after K C vs H Q E) : t_able_after K (sp_could_give K C.G) { nx := fun _ H' => Q .non H', rt := Q } (L2.start ["desk", "taken", "coming", "able", "number", "giver"] vs) H := by
  obtain ⟨a, t, r, d, l, rfl, DI, ⟨ts, ht1, ht2, ht3⟩, hr, hlen, hbig, k⟩ := h
  have hok := DI.ok
  obtain ⟨⟨dx, p, h1, I⟩⟩ := DI
  obtain ⟨as, ha, hal, hG⟩ := I.givers.at
  rw [List.length_map] at hal
  have htl : (turnsOf d l).length = d.givers.length := by unfold turnsOf; rw [List.length_map]; exact standsAt_length hok hlen
  refine q_asgL (el_lst (vs := []) ea_nil (by decide)) fun m H1 hm e1 hm1 => ?_
  refine q_forE (K := K) (ea_cons (dk_givers c.d (e1 _ _ h1) (ev_var rfl)) ea_nil) (ex_l e1 ha) (fun i σ H' => ∃ v w, σ = [some (.ref a), some (.ref t), some (.ref r), some (.ref m), v, w] ∧ Ex H H' ∧ H' m = some (.lst (nvs ((couldsAt d l).take i))))
    (fun H2 e2 => ⟨_, _, rfl, e1.trans e2, e2 _ _ hm1⟩) (fun i σ' H' hi ⟨_, _, _, e, _⟩ => ex_l e ha) ?_ ?_
  · rintro i x σ' H' H2 hx ⟨v, w, rfl, e, hT⟩ e2
    obtain ⟨b, hb, rfl⟩ := refs_get hx
    have hi : i < d.givers.length := by have := (List.getElem?_eq_some_iff.mp hb).1; omega
    obtain ⟨g', hg', Gi⟩ := hG i b hb
    obtain ⟨g, hg⟩ : ∃ g, d.givers[i]? = some g := ⟨_, List.getElem?_eq_getElem hi⟩
    rw [List.getElem?_map, hg] at hg'
    have eg : toPG g = g' := Option.some.inj hg'
    subst eg
    obtain ⟨s, hs⟩ : ∃ s, d.stands[i]? = some s := ⟨_, List.getElem?_eq_getElem (by rw [hok.slen]; exact hi)⟩
    obtain ⟨z, hz⟩ : ∃ z, l[i]? = some z := ⟨_, List.getElem?_eq_getElem (by omega)⟩
    obtain ⟨tt, htt⟩ : ∃ tt, ts[i]? = some tt := ⟨_, List.getElem?_eq_getElem (by omega)⟩
    have ee := e.trans e2
    have hst := standsAt_at i hg hs hz
    have hca := couldsAt_at i hg hst hz
    rw [coulds_is (hok.gok g (List.mem_of_getElem? hg))] at hca
    have hTt := ex_t ee (ht3 i tt htt)
    have htv : turnV (turnsOf d l) i = [.bl (if s.away = true then still else turned g.inv z s.turn).runs, nv (if s.away = true then still else turned g.inv z s.turn).waited] := by
      unfold turnV turnsOf
      rw [List.getD_eq_getElem?_getD, List.getElem?_map, hst]; rfl
    rw [htv] at hTt
    have few := hok.few
    refine s_app (e2 _ _ hT) (ev_var rfl) (ev_call (ea_cons (ev_var rfl) (ea_cons (ev_ixT (n := 0) (ev_ixL (ev_var rfl) (ev_var rfl) (sq_of (ee _ _ ht1)) (refs_at htt)) ev_c hTt rfl) (ea_cons (ev_ixN (dk_gave c.d (ee _ _ h1) (ev_var rfl)) (ev_var rfl) (sq_of (ee _ _ I.gv)) (by unfold HdSpec.lastsOf; rw [List.getElem?_map, hs]; rfl)) (ea_cons (ev_ixN (ev_var rfl) (ev_var rfl) (ex_l ee hr) hz) ea_nil)))) (z := nv (couldN (toPG g) (if s.away = true then still else turned g.inv z s.turn).runs s.last z)) (fun H4 e4 Q2 q _ => ⟨b, toPG g, _, s.last, z, rfl, Gi.mono (ee.trans e4), hbig z (List.mem_of_getElem? hz), q⟩)) (by rw [nvs_length, List.length_take]; omega) fun H3 e3 => ?_
    refine ⟨_, _, rfl, Ex.mut (ee.trans e3) hm, ?_⟩
    rw [upd_same, take_snoc hca, nvs_append]; rfl
  · rintro σ' H' ⟨v, w, rfl, e, hT⟩
    rw [List.length_map, hal, ← couldsAt_length hok hlen, List.take_length] at hT
    exact s_ret (v := .ref m) (ev_var rfl) fun H3 e3 => k m H3 hm (e.trans e3) (e3 _ _ hT)
def sp_able_next (K : PySem.W.Frag) (C : Cs) : Sp := fun vs H Q _ => ∃ (a r : Addr) (d : Desk) (l : List Nat), vs = [.ref a, .ref r] ∧ DeskAt K C H a d ∧ SqL K H r (nvs l) ∧ l.length = d.givers.length ∧ (∀ x ∈ l, x ≤ 1000000000000000) ∧ RetL (nvs (couldsAt d l)) H Q
theorem pure_able_next {K : PySem.W.Frag} {C : Cs} {vs : List V} {H : Hp} {Q : VK} {E : XK} (h : sp_able_next K C vs H Q E) : t_able_next K (sp_able_after K C) (sp_steps K C) { nx := fun _ H' => Q .non H', rt := Q } (L2.start ["desk", "coming"] vs) H := by
  obtain ⟨a, r, d, l, rfl, DI, hr, hlen, hbig, k⟩ := h
  exact s_retL (el_call3P (P := TurnsAt K (turnsOf d l)) (ev_var rfl) (ep_call (ea_cons (ev_var rfl) (ea_cons (ev_var rfl) ea_nil)) (fun H1 e1 Q2 q _ => ⟨a, r, d, l, rfl, DI.mono e1, ex_l e1 hr, hlen, q⟩)) (ev_var rfl) (fun h e => TupsAt.mono h e) (fun t H1 e1 hT Q2 q _ => ⟨a, t, r, d, l, rfl, DI.mono e1, hT, ex_l e1 hr, hlen, hbig, q⟩)) k
end Pp
end
section
set_option Elab.async false
set_option linter.all false
set_option maxRecDepth 100000
set_option maxHeartbeats 2000000
namespace Pp
open PySem PySem.Spec PyProof.Rows L2 Evl VwHand LamX NdefX
open HdSpec (Desk Stand Order inForce broughtDown forces limitsBut kindsOf worthsOf lastsOf inScope ownLoss standsAt couldsAt partedBy quarterOn)
section
variable {K : PySem.W.Frag} {σ : L2.St} {H : Hp} {D : Ends} {tu tz : TS} {ta tb tc te : TE} {tg : TA} {t : TT}
/-- [e for x, y, z in zip(xs, ys, zs) if t] -/
theorem el_lcZ3 {a b w n : Nat} {xs ys zs : List V} {j1 j2 j3 : Nat} {vs : List Nat} (f : Nat → Bool) (v : Nat → V) (h : EvA tg σ H [.ref a, .ref b, .ref w]) (hx : SqL K H a xs) (hy : SqL K H b ys) (hq : SqL K H w zs) (h1 : xs.length = n) (h2 : ys.length = n) (h3 : zs.length = n) (hz : n ≤ 40000) (hw : ∀ x y z, wipe ((((wipe σ vs).set j1 (some x)).set j2 (some y)).set j3 (some z)) vs = wipe σ vs)
    (ht : ∀ (i : Nat) (x y z : V) H1, Ex H H1 → xs[i]? = some x → ys[i]? = some y → zs[i]? = some z → EvT t ((((wipe σ vs).set j1 (some x)).set j2 (some y)).set j3 (some z)) H1 (f i)) (he : ∀ (i : Nat) (x y z : V) H1, Ex H H1 → xs[i]? = some x → ys[i]? = some y → zs[i]? = some z → f i = true → Ev te ((((wipe σ vs).set j1 (some x)).set j2 (some y)).set j3 (some z)) H1 (v i)) :
    EvL (tLc (iZip3 K tg) (gTup K 3 (gCons (gName j1) (gCons (gName j2) (gCons (gName j3) gNil)))) t te vs) σ H (given n f v) := fun H0 e Q q => h H0 e _ fun H1 e1 => ⟨a, b, w, xs, ys, zs, rfl, ex_l (e.trans e1) hx, ex_l (e.trans e1) hy, ex_l (e.trans e1) hq, fun Dl hD =>
  lc_it (walk_zip3 h1 h2 h3) (Cw H1 f v Dl) ⟨hD, Ex.new hD, upd_same⟩ (fun i H' _ p => ⟨ex_l ((e.trans e1).trans p.2.1) hx, ex_l ((e.trans e1).trans p.2.1) hy, ex_l ((e.trans e1).trans p.2.1) hq⟩) (fun i u H' H2 hi p y => by
    obtain ⟨T, x, y, z, rfl, hT, rfl, h4, h5, h6⟩ := y
    have p' : Cw H1 f v Dl i (upd H' T (.tup [x, y, z])) := ⟨p.1, p.2.1.trans (Ex.new hT), by rw [upd_ne (ne_of_none p.2.2 hT)]; exact p.2.2⟩
    exact g_triple (st_of upd_same) ⟨hw _ _ _, cw_turn p' (by omega) (ht i x y z H1 (e.trans e1) h4 h5 h6) (fun hf => he i x y z H1 (e.trans e1) h4 h5 h6 hf)⟩)
    (fun H' p => q Dl H' (fresh_back e1 p.1) (e1.trans p.2.1) p.2.2)⟩
/-- for x, y, z in zip(xs, ys, zs) -/
theorem q_forZ3 {j1 j2 j3 n : Nat} {a b w : Addr} {xs ys zs : List V} (h : EvA tg σ H [.ref a, .ref b, .ref w]) (hx : SqL K H a xs) (hy : SqL K H b ys) (hq : SqL K H w zs) (h1 : xs.length = n) (h2 : ys.length = n) (h3 : zs.length = n) (Pv : Nat → L2.St → Hp → Prop) (h0 : ∀ H1, Ex H H1 → Pv 0 σ H1)
    (hl : ∀ i σ' H', i ≤ n → Pv i σ' H' → Ex H H')
    (hs : ∀ i x y z σ' H' H2, xs[i]? = some x → ys[i]? = some y → zs[i]? = some z → Pv i σ' H' → Ex H' H2 → tu { D with nx := Pv (i + 1), ct := Pv (i + 1), bk := tz D } (((σ'.set j1 (some x)).set j2 (some y)).set j3 (some z)) H2) (hd : ∀ σ' H', Pv n σ' H' → tz D σ' H') :
    tSeq (tFor (iZip3 K tg) (gTup K 3 (gCons (gName j1) (gCons (gName j2) (gCons (gName j3) gNil)))) tu) tz D σ H :=
  h H (Ex.refl H) _ fun H1 e => ⟨a, b, w, xs, ys, zs, rfl, ex_l e hx, ex_l e hy, ex_l e hq, for_it (D := { D with nx := tz D }) (walk_zip3 h1 h2 h3) Pv (h0 H1 e) (fun i σ' H' hi p => ⟨ex_l (hl i σ' H' hi p) hx, ex_l (hl i σ' H' hi p) hy, ex_l (hl i σ' H' hi p) hq⟩) (fun i v σ' H' H2 hi p y => by
    obtain ⟨T, x, y, z, rfl, hT, rfl, h4, h5, h6⟩ := y
    exact g_triple (st_of upd_same) (hs i x y z σ' H' _ h4 h5 h6 p (Ex.new hT))) hd⟩
end
/-! ### fits_worth -/
def fitsN (worth w s pr : Nat) : Bool := (decide (w ≤ s) || decide (worth ≤ pr)) && (s == 0 || decide (pr ≤ worth))
def sp_fits_worth (K : PySem.W.Frag) (C : Addr) : Sp := fun vs H Q _ => ∃ (b : Addr) (g : PG) (w s pr : Nat), vs = [.ref b, nv w, nv s, nv pr] ∧ GiverAt K C H b g ∧ RetV (.bl (fitsN g.worth w s pr)) H Q
theorem pure_fits_worth {K : PySem.W.Frag} {C : Addr} (c : CG K C) {vs : List V} {H : Hp} {Q : VK} {E : XK} (h : sp_fits_worth K C vs H Q E) : t_fits_worth K { nx := fun _ H' => Q .non H', rt := Q } (L2.start ["giver", "watts", "share", "price"] vs) H := by
  obtain ⟨b, g, w, s, pr, rfl, G, k⟩ := h
  refine q_when (et_and (et_test (ev_ltN (m := s) (n := w) (ev_var rfl) (ev_var rfl))) fun _ => et_test (ev_gtN (n := pr) (gv_worth c G (ev_var rfl)) (ev_var rfl))) (fun hb H1 e1 => ?_) (fun hb H1 e1 => ?_)
  · simp only [Bool.and_eq_true, decide_eq_true_eq] at hb
    have e : fitsN g.worth w s pr = false := by
      unfold fitsN
      rw [decide_eq_false (show ¬ w ≤ s by omega), decide_eq_false (show ¬ g.worth ≤ pr by omega)]; rfl
    rw [e] at k
    exact s_ret ev_c fun H2 e2 => k H2 (e1.trans e2)
  · have e : fitsN g.worth w s pr = (decide (s = 0) || decide (pr ≤ g.worth)) := by
      unfold fitsN
      have : (decide (w ≤ s) || decide (g.worth ≤ pr)) = true := by
        simp only [Bool.and_eq_false_iff, decide_eq_false_iff_not] at hb
        simp only [Bool.or_eq_true, decide_eq_true_eq]
        omega
      rw [this, Bool.true_and]
      congr 1
    rw [e] at k
    exact s_ret (ev_orV (ev_eqN (n := 0) (ev_var rfl) ev_c) fun _ => ev_geN (n := pr) (gv_worth c (G.mono e1) (ev_var rfl)) (ev_var rfl)) fun H2 e2 => k H2 (e1.trans e2)
/-! ### is_proof -/
def sp_is_proof (K : PySem.W.Frag) (C : Addr) : Sp := fun vs H Q _ => ∃ (l r u t s : Addr) (gs : List PG) (row x : List Nat) (m : Limits) (pr : List Nat), vs = [.ref l, .ref r, .ref u, .ref t, .ref s] ∧ GiversAt K C H l gs ∧ SqL K H r (nvs row) ∧ row.length = gs.length ∧ SqL K H u (nvs x) ∧ x.length = gs.length ∧ SqL K H t (lms m) ∧ m.classes.length = 8 ∧ SqL K H s (nvs pr) ∧ pr.length = 9 ∧ RetV (.bl (holds m (kinds gs) (worths gs) row x (pr.take 8) (pr.getD 8 0))) H Q
theorem holds_false {a b c d : Bool} (h : a = false ∨ b = false ∨ c = false ∨ d = false) : (a && (b && (c && d))) = false := by
  rcases h with h | h | h | h <;> subst h <;> simp
theorem all_idx {n : Nat} {ks ws c x : List Nat} (h1 : ks.length = n) (h2 : ws.length = n) (h3 : c.length = n) (h4 : x.length = n) (f : Nat × Nat × Nat × Nat → Bool) : (ks.zip (ws.zip (c.zip x))).all f = true ↔ ∀ i < n, f (ks.getD i 0, ws.getD i 0, c.getD i 0, x.getD i 0) = true := by
  rw [List.all_eq_true]
  have at_ : ∀ i, i < n → (ks.zip (ws.zip (c.zip x)))[i]? = some (ks.getD i 0, ws.getD i 0, c.getD i 0, x.getD i 0) := fun i hi => by
    refine zip_at ?_ (zip_at ?_ (zip_at ?_ ?_)) <;> rw [List.getD_eq_getElem?_getD, List.getElem?_eq_getElem (by omega)] <;> rfl
  constructor
  · intro h i hi
    exact h _ (List.mem_of_getElem? (at_ i hi))
  · intro h y hy
    obtain ⟨i, hi⟩ := List.mem_iff_getElem?.mp hy
    have hl : i < n := by
      have := (List.getElem?_eq_some_iff.mp hi).1
      rw [List.length_zip] at this; omega
    rw [at_ i hl] at hi
    rw [← Option.some.inj hi]
    exact h i hl
theorem getD_of {l : List Nat} {i n : Nat} (h : l[i]? = some n) : l.getD i 0 = n := by rw [List.getD_eq_getElem?_getD, h]; rfl
theorem fulls_at {m : Limits} {ks x : List Nat} {k : Nat} (hk : k < 8) : ((List.range 8).map fun k => V.bl (full m ks x k))[k]? = some (V.bl (full m ks x k)) := by rw [List.getElem?_map, List.getElem?_range hk]; rfl
theorem pure_is_proof {K : PySem.W.Frag} {C : Addr} (c : CG K C) {vs : List V} {H : Hp} {Q : VK} {E : XK} (h : sp_is_proof K C vs H Q E) : t_is_proof K (sp_fits_worth K C) (sp_full_classes K C) (sp_is_allowed K C) { nx := fun _ H' => Q .non H', rt := Q } (L2.start ["givers", "able", "shares", "limits", "prices", "full", "kind", "giver", "watts", "share"] vs) H := by
  obtain ⟨l, r, u, t, s, gs, row, x, m, pr, rfl, G, hr, hlen, hu, hxl, ht, hm, hs, hpl, k⟩ := h
  have hkl := kinds_length gs
  have hwl := worths_length gs
  have ptake : ∀ j, j < 8 → (pr.take 8).getD j 0 = pr.getD j 0 := fun j hj => by
    rw [List.getD_eq_getElem?_getD, List.getElem?_take, if_pos hj, ← List.getD_eq_getElem?_getD]
  have pat : ∀ j, j < 9 → pr[j]? = some (pr.getD j 0) := fun j hj => by
    rw [List.getD_eq_getElem?_getD, List.getElem?_eq_getElem (by omega)]; rfl
  have hdef : holds m (kinds gs) (worths gs) row x (pr.take 8) (pr.getD 8 0) = (allowed m (kinds gs) row x && (((List.range 8).all fun (k : Nat) => (pr.take 8).getD k 0 == 0 || full m (kinds gs) x k) && ((pr.getD 8 0 == 0 || plantFull m x) && ((kinds gs).zip ((worths gs).zip (row.zip x))).all fun (y : Nat × Nat × Nat × Nat) => fitsN y.2.1 y.2.2.1 y.2.2.2 ((pr.take 8).getD y.1 0 + pr.getD 8 0)))) := rfl
  rw [hdef] at k
  have bad : ∀ {H1 : Hp} {D : Ends} {σ : L2.St}, Ex H H1 → D.rt = Q → (allowed m (kinds gs) row x = false ∨ ((List.range 8).all fun (k : Nat) => (pr.take 8).getD k 0 == 0 || full m (kinds gs) x k) = false ∨ (pr.getD 8 0 == 0 || plantFull m x) = false ∨ (((kinds gs).zip ((worths gs).zip (row.zip x))).all fun (y : Nat × Nat × Nat × Nat) => fitsN y.2.1 y.2.2.1 y.2.2.2 ((pr.take 8).getD y.1 0 + pr.getD 8 0)) = false) → tRet (tC (.bl false)) D σ H1 := fun {H1 D σ} e hD hf => by
    rw [holds_false hf] at k
    exact s_ret ev_c fun H2 e2 => by rw [hD]; exact k H2 (e.trans e2)
  refine q_when (et_not (et_B (ev_call (ea_cons (ev_var rfl) (ea_cons (ev_var rfl) (ea_cons (ev_var rfl) (ea_cons (ev_var rfl) ea_nil)))) (z := .bl (allowed m (kinds gs) row x)) (fun H1 e1 Q2 q _ => ⟨l, r, u, t, gs, row, x, m, rfl, G.mono e1, ex_l e1 hr, hlen, ex_l e1 hu, hxl, ex_l e1 ht, hm, q⟩)))) (fun hb H1 e1 => bad e1 rfl (.inl (by simpa using hb))) (fun hb H1 e1 => ?_)
  have hA : allowed m (kinds gs) row x = true := by simpa using hb
  refine q_asgL (el_call (ea_cons (ev_var rfl) (ea_cons (ev_var rfl) (ea_cons (ev_var rfl) ea_nil))) (xs := (List.range 8).map fun k => V.bl (full m (kinds gs) x k)) (fun H2 e2 Q2 q _ => ⟨l, u, t, gs, x, m, rfl, G.mono (e1.trans e2), ex_l (e1.trans e2) hu, hxl, ex_l (e1.trans e2) ht, hm, q⟩)) fun f H2 hf e2 hf2 => ?_
  have e12 := e1.trans e2
  refine q_forR1 (n := 8) (ea_cons ev_c ea_nil) (by decide) (fun i σ H' => ∃ q, σ = [some (.ref l), some (.ref r), some (.ref u), some (.ref t), some (.ref s), some (.ref f), q, none, none, none] ∧ Ex H2 H' ∧ ∀ j, j < i → ((pr.take 8).getD j 0 == 0 || full m (kinds gs) x j) = true) (fun H3 e3 => ⟨_, rfl, e3, fun j hj => absurd hj (by omega)⟩) ?_ ?_
  · rintro i σ' H3 hi ⟨q, rfl, e3, hk⟩
    have hi8 : i < 8 := by omega
    have ee := e12.trans e3
    refine s_when (et_and (et_test (ev_neN (n := 0) (ev_ixN (ev_var rfl) (ev_var rfl) (ex_l ee hs) (pat i (by omega))) ev_c)) fun _ => et_not (et_B (ev_ixL (ev_var rfl) (ev_var rfl) (sq_of (e3 _ _ hf2)) (fulls_at hi8)))) (fun z H4 e4 => ?_) (fun z H4 e4 => ?_)
    · refine bad (ee.trans e4) rfl (.inr (.inl ?_))
      rw [Bool.eq_false_iff]
      intro hall
      have := List.all_eq_true.mp hall i (List.mem_range.mpr hi8)
      rw [ptake i hi8] at this
      simp only [Bool.and_eq_true, Bool.not_eq_true', decide_eq_false_iff_not] at z
      simp only [Bool.or_eq_true, beq_iff_eq] at this
      rcases this with h | h
      · exact z.1 h
      · rw [z.2] at h; cases h
    · refine ⟨_, rfl, e3.trans e4, fun j hj => ?_⟩
      by_cases cc : j = i
      · subst cc
        rw [ptake j hi8]
        simp only [Bool.and_eq_false_iff, Bool.not_eq_false', decide_eq_true_eq] at z
        simp only [Bool.or_eq_true, beq_iff_eq]
        exact z
      · exact hk j (by omega)
  · rintro σ' H3 ⟨q, rfl, e3, hk⟩
    have ee := e12.trans e3
    refine q_when (et_and (et_test (ev_neN (n := 0) (ev_ixN (n := 8) (ev_var rfl) ev_c (ex_l ee hs) (pat 8 (by omega))) ev_c)) fun _ => et_test (ev_neN (ev_sum (ev_var rfl) (ex_l ee hu)) (ev_ixL (n := 8) (ev_var rfl) ev_c (ex_l ee ht) (lms_plant hm)))) (fun z H4 e4 => ?_) (fun z H4 e4 => ?_)
    · refine bad (ee.trans e4) rfl (.inr (.inr (.inl ?_)))
      simp only [Bool.and_eq_true, Bool.not_eq_true', decide_eq_false_iff_not] at z
      unfold plantFull
      simp only [Bool.or_eq_false_iff, beq_eq_false_iff_ne, ne_eq]
      exact z
    · have e4' := ee.trans e4
      have hC : (pr.getD 8 0 == 0 || plantFull m x) = true := by
        simp only [Bool.and_eq_false_iff, Bool.not_eq_false', decide_eq_true_eq] at z
        unfold plantFull
        simp only [Bool.or_eq_true, beq_iff_eq]
        exact z
      obtain ⟨as, ha, hal, hG⟩ := G.at
      refine q_forZ3 (K := K) (n := gs.length) (ea_cons (ev_var rfl) (ea_cons (ev_var rfl) (ea_cons (ev_var rfl) ea_nil))) (ex_l e4' ha) (ex_l e4' hr) (ex_l e4' hu) (by rw [List.length_map]; exact hal) (by rw [nvs_length]; exact hlen) (by rw [nvs_length]; exact hxl)
        (fun i σ H' => ∃ v w y, σ = [some (.ref l), some (.ref r), some (.ref u), some (.ref t), some (.ref s), some (.ref f), q, v, w, y] ∧ Ex H4 H' ∧ ∀ j, j < i → fitsN ((worths gs).getD j 0) (row.getD j 0) (x.getD j 0) ((pr.take 8).getD ((kinds gs).getD j 0) 0 + pr.getD 8 0) = true) (fun H5 e5 => ⟨_, _, _, rfl, e5, fun j hj => absurd hj (by omega)⟩) (fun i σ' H' hi ⟨_, _, _, _, e, _⟩ => e) ?_ ?_
      · rintro i a1 a2 a3 σ' H5 H6 h1 h2 h3 ⟨v, w, y, rfl, e5, hk2⟩ e6
        obtain ⟨b, hb1, rfl⟩ := refs_get h1
        obtain ⟨cn, hcn, rfl⟩ := nvs_get h2
        obtain ⟨xn, hxn, rfl⟩ := nvs_get h3
        obtain ⟨g, hg, Gi⟩ := hG i b hb1
        have hi : i < gs.length := (List.getElem?_eq_some_iff.mp hg).1
        have e06 := (e4'.trans e5).trans e6
        have hfit : fitsN ((worths gs).getD i 0) (row.getD i 0) (x.getD i 0) ((pr.take 8).getD ((kinds gs).getD i 0) 0 + pr.getD 8 0) = fitsN g.worth cn xn (pr.getD g.kind 0 + pr.getD 8 0) := by
          rw [getD_of (worths_at hg), getD_of hcn, getD_of hxn, getD_of (kinds_at hg), ptake _ Gi.ok.kind]
        refine s_when (et_not (et_B (ev_call (ea_cons (ev_var rfl) (ea_cons (ev_var rfl) (ea_cons (ev_var rfl) (ea_cons (ev_addN (ev_ixN (ev_var rfl) (gv_kind c (Gi.mono e06) (ev_var rfl)) (ex_l e06 hs) (pat _ (by have := Gi.ok.kind; omega))) (ev_ixN (n := 8) (ev_var rfl) ev_c (ex_l e06 hs) (pat 8 (by omega)))) ea_nil)))) (z := .bl (fitsN g.worth cn xn (pr.getD g.kind 0 + pr.getD 8 0))) (fun H7 e7 Q2 q2 _ => ⟨b, g, cn, xn, _, rfl, Gi.mono (e06.trans e7), q2⟩)))) (fun z H7 e7 => ?_) (fun z H7 e7 => ?_)
        · refine bad (e06.trans e7) rfl (.inr (.inr (.inr ?_)))
          rw [Bool.eq_false_iff]
          intro hall
          have := (all_idx hkl hwl hlen hxl _).mp hall i hi
          simp only at this
          rw [hfit] at this
          rw [this] at z
          cases z
        · refine ⟨_, _, _, rfl, (e5.trans e6).trans e7, fun j hj => ?_⟩
          by_cases cc : j = i
          · subst cc
            rw [hfit]
            simpa using z
          · exact hk2 j (by omega)
      · rintro σ' H5 ⟨v, w, y, rfl, e5, hk2⟩
        have hB : ((List.range 8).all fun (k : Nat) => (pr.take 8).getD k 0 == 0 || full m (kinds gs) x k) = true := List.all_eq_true.mpr fun j hj => hk j (by have := List.mem_range.mp hj; omega)
        have hDd := (all_idx hkl hwl hlen hxl (fun (y : Nat × Nat × Nat × Nat) => fitsN y.2.1 y.2.2.1 y.2.2.2 ((pr.take 8).getD y.1 0 + pr.getD 8 0))).mpr fun j hj => hk2 j hj
        rw [hA, hB, hC, hDd] at k
        exact s_ret ev_c fun H6 e6 => k H6 ((e4'.trans e5).trans e6)
end Pp
end
section
set_option Elab.async false
set_option linter.all false
set_option maxRecDepth 100000
set_option maxHeartbeats 2000000
namespace Pp
open PySem PySem.Spec PyProof.Rows L2 Evl VwHand LamX NdefX
open HdSpec (Desk Stand Order inForce broughtDown forces limitsBut kindsOf worthsOf lastsOf inScope ownLoss standsAt couldsAt partedBy quarterOn)
/-! ### prices_told -/
theorem greatest_sel {α : Type} (l : List α) (p : α → Bool) (f : α → Nat) : VwNum.greatest (l.map fun y => if p y = true then f y else 0) = VwNum.greatest ((l.filter p).map f) := by
  have key : ∀ b, VwNum.greatest (l.map fun y => if p y = true then f y else 0) ≤ b ↔ VwNum.greatest ((l.filter p).map f) ≤ b := fun b => by
    rw [greatest_le, greatest_le]
    constructor
    · intro h x hx
      obtain ⟨y, hy, rfl⟩ := List.mem_map.mp hx
      obtain ⟨h1, h2⟩ := List.mem_filter.mp hy
      have := h _ (List.mem_map.mpr ⟨y, h1, rfl⟩)
      rw [if_pos h2] at this
      exact this
    · intro h x hx
      obtain ⟨y, hy, rfl⟩ := List.mem_map.mp hx
      split
      · rename_i h2
        exact h _ (List.mem_map.mpr ⟨y, List.mem_filter.mpr ⟨hy, h2⟩, rfl⟩)
      · exact Nat.zero_le _
  exact Nat.le_antisymm ((key _).mpr (Nat.le_refl _)) ((key _).mp (Nat.le_refl _))
theorem zip4_range {n : Nat} {ks ws c x : List Nat} (h1 : ks.length = n) (h2 : ws.length = n) (h3 : c.length = n) (h4 : x.length = n) : ks.zip (ws.zip (c.zip x)) = (List.range n).map fun i => (ks.getD i 0, ws.getD i 0, c.getD i 0, x.getD i 0) := by
  refine List.ext_getElem? fun i => ?_
  rw [List.getElem?_map]
  by_cases hi : i < n
  · rw [List.getElem?_range hi]
    refine zip_at ?_ (zip_at ?_ (zip_at ?_ ?_)) <;> rw [List.getD_eq_getElem?_getD, List.getElem?_eq_getElem (by omega)] <;> rfl
  · rw [List.getElem?_eq_none (by rw [List.length_zip]; omega), List.getElem?_eq_none (by simpa using hi)]; rfl
/-- the givers that have less than they could give -/
def shorts (n : Nat) (c x : List Nat) : List Nat := (List.range n).filter fun i => decide (x.getD i 0 < c.getD i 0)
theorem wanting_is {n : Nat} {ks ws c x : List Nat} (h1 : ks.length = n) (h2 : ws.length = n) (h3 : c.length = n) (h4 : x.length = n) (mine : Nat → Bool) : wanting mine ks ws c x = VwNum.greatest (((shorts n c x).filter fun i => mine (ks.getD i 0)).map fun i => ws.getD i 0) := by
  unfold wanting shorts
  rw [zip4_range h1 h2 h3 h4, List.map_map, List.filter_filter, ← greatest_sel]
  congr 1
  refine List.map_congr_left fun i _ => ?_
  show (if mine (ks.getD i 0) = true ∧ x.getD i 0 < c.getD i 0 then ws.getD i 0 else 0) = _
  by_cases a : mine (ks.getD i 0) = true <;> by_cases b : x.getD i 0 < c.getD i 0 <;> simp [a, b]
def sp_prices_told (K : PySem.W.Frag) (C : Addr) : Sp := fun vs H Q _ => ∃ (l r u t : Addr) (gs : List PG) (row x : List Nat) (m : Limits), vs = [.ref l, .ref r, .ref u, .ref t] ∧ GiversAt K C H l gs ∧ SqL K H r (nvs row) ∧ row.length = gs.length ∧ SqL K H u (nvs x) ∧ x.length = gs.length ∧ SqL K H t (lms m) ∧ m.classes.length = 8 ∧ RetL (nvs (classPrices m (kinds gs) (worths gs) row x ++ [plantPrice m (kinds gs) (worths gs) row x])) H Q
theorem given_map {n : Nat} {f : Nat → Bool} {as : List Addr} : given n f (fun i => V.ref (as.getD i 0)) = (((List.range n).filter f).map fun i => as.getD i 0).map V.ref := by
  unfold given; rw [List.map_map]; rfl
theorem pure_prices_told {K : PySem.W.Frag} {C : Addr} (c : CG K C) {vs : List V} {H : Hp} {Q : VK} {E : XK} (h : sp_prices_told K C vs H Q E) : t_prices_told K (sp_full_classes K C) { nx := fun _ H' => Q .non H', rt := Q } (L2.start ["givers", "able", "shares", "limits", "full", "short", "plant_price", "prices", "kind", "dearest", "giver", "watts", "share"] vs) H := by
  obtain ⟨l, r, u, t, gs, row, x, m, rfl, G, hr, hlen, hu, hxl, ht, hm, k⟩ := h
  have hkl := kinds_length gs
  have hwl := worths_length gs
  have few := G.few
  refine q_asgL (el_call (ea_cons (ev_var rfl) (ea_cons (ev_var rfl) (ea_cons (ev_var rfl) ea_nil))) (xs := (List.range 8).map fun k => V.bl (full m (kinds gs) x k)) (fun H2 e2 Q2 q _ => ⟨l, u, t, gs, x, m, rfl, G.mono e2, ex_l e2 hu, hxl, ex_l e2 ht, hm, q⟩)) fun f H1 hf e1 hf1 => ?_
  obtain ⟨as, ha, hal, hG⟩ := G.at
  refine q_asgL (el_lcZ3 (n := gs.length) (fun i => decide (x.getD i 0 < row.getD i 0)) (fun i => V.ref (as.getD i 0)) (ea_cons (ev_var rfl) (ea_cons (ev_var rfl) (ea_cons (ev_var rfl) ea_nil))) (ex_l e1 ha) (ex_l e1 hr) (ex_l e1 hu) (by rw [List.length_map]; exact hal) (by rw [nvs_length]; exact hlen) (by rw [nvs_length]; exact hxl) (by omega) (fun x y z => rfl) (fun i a1 a2 a3 H2 e2 h1 h2 h3 => ?_) (fun i a1 a2 a3 H2 e2 h1 h2 h3 _ => ?_)) fun s H2 hs e2 hs2 => ?_
  · obtain ⟨cn, hcn, rfl⟩ := nvs_get h2
    obtain ⟨xn, hxn, rfl⟩ := nvs_get h3
    rw [getD_of hcn, getD_of hxn]
    exact et_test (ev_ltN (ev_var rfl) (ev_var rfl))
  · obtain ⟨b, hb1, rfl⟩ := refs_get h1
    rw [show as.getD i 0 = b by rw [List.getD_eq_getElem?_getD, hb1]; rfl]
    exact ev_var rfl
  have e12 := e1.trans e2
  have esh : given gs.length (fun i => decide (x.getD i 0 < row.getD i 0)) (fun i => V.ref (as.getD i 0)) = (shorts gs.length row x).map fun i => V.ref (as.getD i 0) := rfl
  rw [esh] at hs2
  -- the worths of the short ones of some kinds
  have comp : ∀ {H3 : Hp} {σ : L2.St} {tt : TT} (p : Nat → Bool), Ex H2 H3 → σ[5]? = some (some (V.ref s)) → (∀ x, wipe ((wipe σ [10]).set 10 (some x)) [10] = wipe σ [10]) → ((wipe σ [10]).length = 13) → (∀ (b : Addr) (g : PG) H4, Ex H3 H4 → GiverAt K C H4 b g → EvT tt ((wipe σ [10]).set 10 (some (.ref b))) H4 (p g.kind)) →
      Ev (tCKw (rMaxD K) (tCons (tLc (iList K (tVar 5)) (gName 10) tt (tFld K (tVar 10) "worth") [10]) tNil) (tCons (tC (.int 0)) tNil)) σ H3 (nv (VwNum.greatest (((shorts gs.length row x).filter fun i => p ((kinds gs).getD i 0)).map fun i => (worths gs).getD i 0))) := fun {H3 σ tt} p e3 h5 hw hwl2 ht2 => by
    refine ev_maxDL ?_
    have e : nvs (((shorts gs.length row x).filter fun i => p ((kinds gs).getD i 0)).map fun i => (worths gs).getD i 0) = given ((shorts gs.length row x).map fun i => V.ref (as.getD i 0)).length (fun j => p ((kinds gs).getD ((shorts gs.length row x).getD j 0) 0)) (fun j => nv ((worths gs).getD ((shorts gs.length row x).getD j 0) 0)) := by
      rw [List.length_map, ← given_filter (shorts gs.length row x) (fun i => p ((kinds gs).getD i 0)) (fun i => (worths gs).getD i 0) 0]
    rw [e]
    have get : ∀ (j : Nat) (y : V), ((shorts gs.length row x).map fun i => V.ref (as.getD i 0))[j]? = some y → ∃ b g, y = V.ref b ∧ gs[(shorts gs.length row x).getD j 0]? = some g ∧ GiverAt K C H b g := fun j y hy => by
      rw [List.getElem?_map] at hy
      cases q : (shorts gs.length row x)[j]? with
      | none => rw [q] at hy; cases hy
      | some i =>
        rw [q] at hy
        have hi : i < gs.length := List.mem_range.mp (List.mem_filter.mp (List.mem_of_getElem? q)).1
        obtain ⟨b, hb⟩ : ∃ b, as[i]? = some b := ⟨_, List.getElem?_eq_getElem (by omega)⟩
        obtain ⟨g, hg, Gi⟩ := hG i b hb
        have ei : (shorts gs.length row x).getD j 0 = i := by rw [List.getD_eq_getElem?_getD, q]; rfl
        rw [ei]
        refine ⟨b, g, ?_, hg, Gi⟩
        rw [← Option.some.inj hy]
        show V.ref (as.getD i 0) = V.ref b
        rw [List.getD_eq_getElem?_getD, hb]; rfl
    refine el_lcL _ _ (ev_var h5) (sq_of (e3 _ _ hs2)) (by rw [List.length_map]; unfold shorts; refine Nat.le_trans (List.length_filter_le _ _) ?_; rw [List.length_range]; omega) hw (fun j y H4 e4 hy => ?_) (fun j y H4 e4 hy _ => ?_)
    · obtain ⟨b, g, rfl, hg, Gi⟩ := get j y hy
      rw [getD_of (kinds_at hg)]
      exact ht2 b g H4 e4 (Gi.mono ((e12.trans e3).trans e4))
    · obtain ⟨b, g, rfl, hg, Gi⟩ := get j y hy
      rw [getD_of (worths_at hg)]
      exact gv_worth c (Gi.mono ((e12.trans e3).trans e4)) (ev_var (by rw [List.getElem?_set_self (by omega)]))
  have epp : plantPrice m (kinds gs) (worths gs) row x = _ := wanting_is hkl hwl hlen hxl (fun k => !full m (kinds gs) x k)
  refine q_asg (v := nv (plantPrice m (kinds gs) (worths gs) row x)) (ev_is (comp (fun k => !full m (kinds gs) x k) (Ex.refl _) rfl (fun _ => rfl) rfl (fun b g H4 e4 Gi => ?_)) (congrArg nv epp.symm)) fun H3 e3 => ?_
  · exact et_not (et_B (ev_ixL (ev_var rfl) (gv_kind c Gi (ev_var rfl)) (sq_of ((e2.trans e4) _ _ hf1)) (fulls_at Gi.ok.kind)))
  refine q_asgL (el_lst (vs := []) ea_nil (by decide)) fun pc H4 hpc e4 hpc4 => ?_
  have e14 := (e12.trans e3).trans e4
  have hpc0 := fresh_back (e12.trans e3) hpc
  refine q_forR1 (n := 8) (ea_cons ev_c ea_nil) (by decide) (fun i σ H' => ∃ q q2, σ = [some (.ref l), some (.ref r), some (.ref u), some (.ref t), some (.ref f), some (.ref s), some (nv (plantPrice m (kinds gs) (worths gs) row x)), some (.ref pc), q, q2, none, none, none] ∧ Ex H2 H' ∧ H' pc = some (.lst (nvs ((classPrices m (kinds gs) (worths gs) row x).take i)))) (fun H5 e5 => ⟨_, _, rfl, (e3.trans e4).trans e5, e5 _ _ hpc4⟩) ?_ ?_
  · rintro i σ' H5 hi ⟨q, q2, rfl, e5, hp5⟩
    have hi8 : i < 8 := by omega
    refine q_asg (comp (fun k => full m (kinds gs) x i && decide (k = i)) e5 rfl (fun _ => rfl) rfl (fun b g H6 e6 Gi => ?_)) fun H6 e6 => ?_
    · exact et_and (et_B (ev_ixL (ev_var rfl) (ev_var rfl) (sq_of (((e2.trans e5).trans e6) _ _ hf1)) (fulls_at hi8))) fun _ => et_test (ev_eqN (gv_kind c Gi (ev_var rfl)) (ev_var rfl))
    refine s_app (e6 _ _ hp5) (ev_var rfl) (ev_max2I (j := 0) (ev_subI (ev_var rfl) (ev_var rfl)) ev_c) (by rw [nvs_length, List.length_take]; omega) fun H7 e7 => ⟨_, _, rfl, Ex.mut ((e5.trans e6).trans e7) (fresh_back (e3) hpc), ?_⟩
    have hcp : (classPrices m (kinds gs) (worths gs) row x)[i]? = some (if full m (kinds gs) x i = true then wanting (fun (j : Nat) => j == i) (kinds gs) (worths gs) row x - plantPrice m (kinds gs) (worths gs) row x else 0) := by
      unfold classPrices; rw [List.getElem?_map, List.getElem?_range hi8]; rfl
    rw [upd_same, take_snoc hcp, nvs_append]
    congr 3
    show [V.int _] = [V.int _]
    congr 2
    by_cases hfu : full m (kinds gs) x i = true
    · rw [if_pos hfu]
      have ew : (fun k => full m (kinds gs) x i && decide (k = i)) = fun (j : Nat) => j == i := by funext j; rw [hfu, Bool.true_and]; rfl
      have e9 := wanting_is hkl hwl hlen hxl (fun k => full m (kinds gs) x i && decide (k = i))
      rw [← e9, ew]
      omega
    · rw [if_neg hfu]
      have ew : ((shorts gs.length row x).filter fun z => full m (kinds gs) x i && decide ((kinds gs).getD z 0 = i)) = [] := by
        rw [List.filter_eq_nil_iff]; intro z _; simp [hfu]
      rw [ew]
      show max ((0 : Int) - _) 0 = _
      omega
  · rintro σ' H5 ⟨q, q2, rfl, e5, hp5⟩
    have ecl : (classPrices m (kinds gs) (worths gs) row x).length = 8 := by unfold classPrices; simp
    rw [List.take_of_length_le (by rw [ecl]; decide)] at hp5
    rw [nvs_append] at k
    refine s_retL (el_catR (ev_var rfl) hp5 (el_lst (vs := [nv (plantPrice m (kinds gs) (worths gs) row x)]) (ea_cons (ev_var rfl) ea_nil) (by show 1 ≤ 100000; decide)) (by rw [nvs_length, ecl]; show 8 + 1 ≤ 100000; decide)) fun p H6 hp e6 h6 => k.go (e12.trans e5) hp e6 h6
end Pp
end
section
set_option Elab.async false
set_option linter.all false
set_option maxRecDepth 100000
set_option maxHeartbeats 2000000
namespace Pp
open PySem PySem.Spec PyProof.Rows L2 Evl VwHand LamX NdefX
open HdSpec (Desk Stand Order inForce broughtDown forces limitsBut kindsOf worthsOf lastsOf inScope ownLoss standsAt couldsAt partedBy quarterOn Answer)
/-! ### answers as values -/
def anV (a : Answer) : List V := (HdNeutral.numbers a).map V.int
theorem anV_says (z : Int) : anV (HdSpec.says z) = [.int z] := rfl
theorem anV_tells (n : Nat) (l : List Int) : anV (HdSpec.tells n l) = [nv n, .int ((l.map V.int).length : Int)] ++ l.map V.int := by
  show V.int _ :: V.int (l.length : Int) :: l.map V.int = _
  rw [List.length_map]; rfl
theorem anV_nats (n : Nat) (l : List Nat) : anV (HdSpec.tells n (VwNum.nats l)) = [nv n, .int ((nvs l).length : Int)] ++ nvs l := by
  rw [anV_tells, nvs_ints]; rfl
theorem DeskIn.monoN {K : PySem.W.Frag} {C : Cs} {H H' : Hp} {p : DA} {d : Desk} (I : DeskIn K C H p d) (e : ExN H H') : DeskIn K C H' p d := by
  refine ⟨?_, e.lst I.r, e.lst I.w, e.lst I.a, e.lst I.gv, e.lst I.ge, ?_, e.lst I.tb, e.lst I.ff, e.lst I.ls, I.ok⟩
  · obtain ⟨⟨as, h1, h2, h3⟩⟩ := I.g
    exact ⟨⟨as, e.lst h1, h2, fun i a g x y => (h3 i a g x y).monoN e⟩⟩
  · obtain ⟨⟨as, h1, h2, h3⟩⟩ := I.o
    refine ⟨⟨as, e.lst h1, h2, fun i a g x y => ?_⟩⟩
    obtain ⟨dx, hd⟩ := h3 i a g x y
    exact ⟨dx, e.ins hd⟩
section
variable {K : PySem.W.Frag} {σ : L2.St} {H : Hp} {D : Ends} {ta tb tc td te : TE} {zs xs : List V} {x y u : V} {T : List (Addr × Str)}
theorem el_neg {i : Int} : EvL (tLst (tCons (tUn (rU fun i => .int (-i)) (tC (.int i))) tNil)) σ H [.int (-i)] := el_lst (ea_cons (ev_un ev_c ru_neg) ea_nil) (by show 1 ≤ 100000; decide)
theorem ev_int {b : Bool} (h : Ev te σ H (.bl b)) : Ev (tCB rInt1 (tCons te tNil)) σ H (nv (HdSpec.bit b)) := fun H1 e Q q => h H1 e _ fun H2 e2 => .inr ⟨b, rfl, by
  have e3 : (if b then (1 : Int) else 0) = ((HdSpec.bit b : Nat) : Int) := by cases b <;> rfl
  rw [e3]; exact q H2 e2⟩
/-- with_row(number, row) -/
theorem el_row {z : Int} {a : Addr} {E : XK} (h1 : Ev ta σ H (.int z)) (h2 : Ev tb σ H (.ref a)) (ha : H a = some (.lst xs)) (hz : xs.length ≤ 1000) : EvL (tCall sp_with_row [] E (tCons ta (tCons tb tNil))) σ H ([.int z, .int (xs.length : Int)] ++ xs) :=
  el_call (ea_cons h1 (ea_cons h2 ea_nil)) fun H1 e1 Q q _ => ⟨z, a, xs, rfl, e1 _ _ ha, hz, q⟩
theorem el_rowL {z : Int} {E : XK} (h1 : Ev ta σ H (.int z)) (h2 : EvL tb σ H xs) (hz : xs.length ≤ 1000) : EvL (tCall sp_with_row [] E (tCons ta (tCons tb tNil))) σ H ([.int z, .int (xs.length : Int)] ++ xs) :=
  el_call2L h1 h2 fun p H1 e1 hp Q q _ => ⟨z, p, xs, rfl, hp, hz, q⟩
/-- a call of four arguments, the last a new list -/
theorem ev_call4L {sp : Sp} {E : XK} {z : V} (h1 : Ev ta σ H x) (h2 : Ev tb σ H y) (h3 : Ev tc σ H u) (h4 : EvL td σ H zs) (hs : ∀ p H1, Ex H H1 → H1 p = some (.lst zs) → ∀ Q : VK, RetV z H1 Q → ∀ E : XK, sp [x, y, u, .ref p] H1 Q E) : Ev (tCall sp [] E (tCons ta (tCons tb (tCons tc (tCons td tNil))))) σ H z := fun H0 e0 Q q =>
  h1 H0 e0 _ fun H1 e1 => h2 H1 (e0.trans e1) _ fun H2 e2 => h3 H2 ((e0.trans e1).trans e2) _ fun H3 e3 => h4 H3 (((e0.trans e1).trans e2).trans e3) _ fun p H4 hp e4 hp4 => hs p H4 ((((e0.trans e1).trans e2).trans e3).trans e4) hp4 Q (fun H5 e5 => q H5 ((((e1.trans e2).trans e3).trans e4).trans e5)) E
theorem ev_call5L {sp : Sp} {E : XK} {z w : V} (h1 : Ev ta σ H x) (h2 : Ev tb σ H y) (h3 : Ev tc σ H u) (h4 : EvL td σ H zs) (h5 : Ev te σ H w) (hs : ∀ p H1, Ex H H1 → H1 p = some (.lst zs) → ∀ Q : VK, RetV z H1 Q → ∀ E : XK, sp [x, y, u, .ref p, w] H1 Q E) : Ev (tCall sp [] E (tCons ta (tCons tb (tCons tc (tCons td (tCons te tNil)))))) σ H z := fun H0 e0 Q q =>
  h1 H0 e0 _ fun H1 e1 => h2 H1 (e0.trans e1) _ fun H2 e2 => h3 H2 ((e0.trans e1).trans e2) _ fun H3 e3 => h4 H3 (((e0.trans e1).trans e2).trans e3) _ fun p H4 hp e4 hp4 => h5 H4 ((((e0.trans e1).trans e2).trans e3).trans e4) _ fun H5 e5 =>
    hs p H5 (((((e0.trans e1).trans e2).trans e3).trans e4).trans e5) (e5 _ _ hp4) Q (fun H6 e6 => q H6 (((((e1.trans e2).trans e3).trans e4).trans e5).trans e6)) E
theorem et_call4L {sp : Sp} {E : XK} (h1 : Ev ta σ H x) (h2 : Ev tb σ H y) (h3 : Ev tc σ H u) (h4 : EvL td σ H zs) (hs : ∀ p H1, Ex H H1 → H1 p = some (.lst zs) → ∀ Q : VK, RetLN T xs H1 Q → ∀ E : XK, sp [x, y, u, .ref p] H1 Q E) : EvLT T (tCall sp [] E (tCons ta (tCons tb (tCons tc (tCons td tNil))))) σ H xs := fun Q q =>
  h1 H (Ex.refl H) _ fun H1 e1 => h2 H1 e1 _ fun H2 e2 => h3 H2 (e1.trans e2) _ fun H3 e3 => h4 H3 ((e1.trans e2).trans e3) _ fun p H4 hp e4 hp4 => hs p H4 (((e1.trans e2).trans e3).trans e4) hp4 Q (fun r H5 hr e5 t5 h5 => q r H5 (fresh_back (((e1.trans e2).trans e3).trans e4) hr) ((ExN.of (((e1.trans e2).trans e3).trans e4)).trans e5) t5 h5) E
end
/-! ### could, limits -/
def anCould (d : Desk) (l : List Nat) : Answer := if HdSpec.comes d l = false then HdSpec.says (-1) else HdSpec.tells (VwNum.total (couldsAt d l)) (VwNum.nats (couldsAt d l))
def sp_ask_could (K : PySem.W.Frag) (C : Cs) : Sp := fun vs H Q _ => ∃ (a r : Addr) (d : Desk) (l : List Nat), vs = [.ref a, .ref r] ∧ DeskAt K C H a d ∧ SqL K H r (nvs l) ∧ (∀ x ∈ l, x ≤ 1000000000000000) ∧ RetL (anV (anCould d l)) H Q
theorem comes_iff {d : Desk} {l : List Nat} : HdSpec.comes d l = true ↔ l.length = d.givers.length := by unfold HdSpec.comes; rw [beq_iff_eq]
theorem ev_glen {K : PySem.W.Frag} {C : Cs} (c : CC K C) {H : Hp} {a dx : Addr} {d : Desk} {p : DA} {σ : L2.St} {ta : TE} (h1 : H a = some (.ins C.D dx (dF p d))) (I : DeskIn K C H p d) (h : Ev ta σ H (.ref a)) : Ev (tCB (rLenS K) (tCons (tFld K ta "givers") tNil)) σ H (nv d.givers.length) := by
  obtain ⟨as, ha, hal, hG⟩ := I.givers.at
  exact ev_is (ev_len (dk_givers c.d h1 h) ha) (by rw [List.length_map, hal, List.length_map])
theorem ev_olen {K : PySem.W.Frag} {C : Cs} (c : CC K C) {H : Hp} {a dx : Addr} {d : Desk} {p : DA} {σ : L2.St} {ta : TE} (h1 : H a = some (.ins C.D dx (dF p d))) (I : DeskIn K C H p d) (h : Ev ta σ H (.ref a)) : Ev (tCB (rLenS K) (tCons (tFld K ta "orders") tNil)) σ H (nv d.orders.length) := by
  obtain ⟨as, ha, hal, hG⟩ := I.o.get
  exact ev_is (ev_len (dk_orders c.d h1 h) (sq_of ha)) (by rw [List.length_map, hal])
theorem pure_ask_could {K : PySem.W.Frag} {C : Cs} (c : CC K C) {vs : List V} {H : Hp} {Q : VK} {E : XK} (h : sp_ask_could K C vs H Q E) : t_ask_could K (sp_able_next K C) sp_with_row { nx := fun _ H' => Q .non H', rt := Q } (L2.start ["desk", "coming", "able"] vs) H := by
  obtain ⟨a, r, d, l, rfl, DI, hr, hbig, k⟩ := h
  have hok := DI.ok
  obtain ⟨⟨dx, p, h1, I⟩⟩ := id DI
  unfold anCould at k
  refine q_when (et_test (ev_neN (ev_lenNs (ev_var rfl) hr) (ev_glen c h1 I (ev_var rfl)))) (fun hb H1 e1 => ?_) (fun hb H1 e1 => ?_)
  · have hb' : ¬ l.length = d.givers.length := by simpa using hb
    rw [if_pos (by rw [Bool.eq_false_iff]; exact fun z => hb' (comes_iff.mp z))] at k
    exact s_retL el_neg fun q H2 hq e2 h2 => k.go e1 hq e2 h2
  · have hb' : l.length = d.givers.length := by simpa using hb
    rw [if_neg (by rw [comes_iff.mpr hb']; decide), anV_nats] at k
    refine q_asgL (el_call (ea_cons (ev_var rfl) (ea_cons (ev_var rfl) ea_nil)) (xs := nvs (couldsAt d l)) (fun H2 e2 Q2 q _ => ⟨a, r, d, l, rfl, DI.mono (e1.trans e2), ex_l (e1.trans e2) hr, hb', hbig, q⟩)) fun s H2 hs e2 hs2 => ?_
    exact s_retL (el_row (ev_sum (ev_var rfl) (sq_of hs2)) (ev_var rfl) hs2 (by rw [nvs_length, couldsAt_length hok hb']; have := hok.few; omega)) fun q H3 hq e3 h3 => k.go (e1.trans e2) hq e3 h3
def anLimits (d : Desk) : Answer := HdSpec.tells 0 ((List.range 9).map fun (k : Nat) => if k = HdSpec.ALL then ((HdSpec.limits d).plant : Int) else HdSpec.toldLimit (limitAt (HdSpec.limits d) k))
theorem lms_told {m : Limits} (h : m.classes.length = 8) : ((List.range 9).map fun (k : Nat) => if k = HdSpec.ALL then (m.plant : Int) else HdSpec.toldLimit (limitAt m k)).map V.int = lms m := by
  refine List.ext_getElem? fun i => ?_
  rw [List.map_map, List.getElem?_map]
  unfold HdSpec.ALL
  by_cases h8 : i = 8
  · subst h8; rw [lms_plant h]; rfl
  · by_cases hi : i < 8
    · rw [lms_kind h hi, List.getElem?_range (by omega)]
      show some (V.int (if i = 8 then _ else _)) = _
      rw [if_neg h8]
      cases limitAt m i <;> rfl
    · rw [List.getElem?_eq_none (by simp; omega), List.getElem?_eq_none (by rw [lms_length h]; omega)]; rfl
def sp_ask_limits (K : PySem.W.Frag) (C : Cs) : Sp := fun vs H Q _ => ∃ (a : Addr) (d : Desk), vs = [.ref a] ∧ DeskAt K C H a d ∧ RetL (anV (anLimits d)) H Q
theorem pure_ask_limits {K : PySem.W.Frag} {C : Cs} {vs : List V} {H : Hp} {Q : VK} {E : XK} (h : sp_ask_limits K C vs H Q E) : t_ask_limits K (sp_limits_now K C) sp_with_row { nx := fun _ H' => Q .non H', rt := Q } (L2.start ["desk"] vs) H := by
  obtain ⟨a, d, rfl, DI, k⟩ := h
  have hl : (HdSpec.limits d).classes.length = 8 := limits_len d none
  unfold anLimits at k
  rw [anV_tells, lms_told hl] at k
  exact s_retL (el_rowL (z := 0) ev_c (el_call (ea_cons (ev_var rfl) ea_nil) (fun H2 e2 Q2 q _ => ⟨a, d, rfl, DI.mono e2, q⟩)) (by rw [lms_length hl]; decide)) k
/-! ### parts, judge, prices, proof -/
def anParts (d : Desk) (k : Nat) (c : List Nat) : Answer := if 1 < k ∨ HdSpec.mayBe d c = false then HdSpec.says (-1) else HdSpec.tells (VwNum.total (parted k (HdSpec.limits d) (kindsOf d) (worthsOf d) c)) (VwNum.nats (parted k (HdSpec.limits d) (kindsOf d) (worthsOf d) c))
def sp_ask_parts (K : PySem.W.Frag) (C : Cs) (T : List (Addr × Str)) : Sp := fun vs H Q _ => ∃ (a r : Addr) (d : Desk) (n : Nat) (row : List Nat), vs = [.ref a, nv n, .ref r] ∧ DeskAt K C H a d ∧ SqL K H r (nvs row) ∧ Tabs T H ∧ RetLN T (anV (anParts d n row)) H Q
section
variable {K : PySem.W.Frag} {C : Cs} {a r : Addr} {d : Desk} {row : List Nat} {H : Hp} {σ : L2.St} {ta tb : TE}
theorem ev_able {E : XK} (DI : DeskAt K C H a d) (hr : SqL K H r (nvs row)) (h1 : Ev ta σ H (.ref a)) (h2 : Ev tb σ H (.ref r)) : Ev (tCall (sp_is_able K C) [] E (tCons ta (tCons tb tNil))) σ H (.bl (HdSpec.mayBe d row)) :=
  ev_call (ea_cons h1 (ea_cons h2 ea_nil)) fun H1 e1 Q q _ => ⟨a, r, d, row, rfl, DI.mono e1, ex_l e1 hr, q⟩
theorem el_now {E : XK} (DI : DeskAt K C H a d) (h1 : Ev ta σ H (.ref a)) : EvL (tCall (sp_limits_now K C) [] E (tCons ta tNil)) σ H (lms (HdSpec.limits d)) :=
  el_call (ea_cons h1 ea_nil) fun H1 e1 Q q _ => ⟨a, d, rfl, DI.mono e1, q⟩
end
theorem pure_ask_parts {K : PySem.W.Frag} {C : Cs} {T : List (Addr × Str)} (c : CC K C) {vs : List V} {H : Hp} {Q : VK} {E : XK} (h : sp_ask_parts K C T vs H Q E) : t_ask_parts K (sp_is_able K C) (sp_limits_now K C) (sp_shares_byT K C.G T) sp_with_row { nx := fun _ H' => Q .non H', rt := Q } (L2.start ["desk", "rule", "able", "shares"] vs) H := by
  obtain ⟨a, r, d, n, row, rfl, DI, hr, hT, k⟩ := h
  have hok := DI.ok
  obtain ⟨⟨dx, p, h1, I⟩⟩ := id DI
  unfold anParts at k
  refine q_when (et_or (et_test (ev_gtN (n := 1) (ev_var rfl) ev_c)) fun _ => et_not (et_B (ev_able DI hr (ev_var rfl) (ev_var rfl)))) (fun hb H1 e1 => ?_) (fun hb H1 e1 => ?_)
  · have hb' : 1 < n ∨ HdSpec.mayBe d row = false := by simpa using hb
    rw [if_pos hb'] at k
    exact s_retL el_neg fun q H2 hq e2 h2 => k.go (.of e1) hq (.of e2) (hT.ext (e1.trans e2)) h2
  · have hb' : ¬ (1 < n ∨ HdSpec.mayBe d row = false) := by simpa using hb
    rw [if_neg hb', anV_nats] at k
    have hm : HdSpec.mayBe d row = true := by cases q : HdSpec.mayBe d row with
      | true => rfl
      | false => exact absurd (.inr q) hb'
    obtain ⟨hlen, hlow⟩ := may_be hm
    refine q_asgT (T := T) (et_call4L (xs := nvs (parted n (HdSpec.limits d) (kindsOf d) (worthsOf d) row)) (ev_var (v := nv n) rfl) (dk_givers c.d (e1 _ _ h1) (ev_var rfl)) (ev_var rfl) (el_now (DI.mono e1) (ev_var rfl)) (fun q H2 e2 hq Q2 k2 _ => ⟨n, p.g, r, q, _, row, HdSpec.limits d, rfl, (I.mono (e1.trans e2)).givers, ex_l (e1.trans e2) hr, by rw [List.length_map]; exact hlen, hlow, sq_of hq, limits_len d none, hT.ext (e1.trans e2), by rw [kinds_map, worths_map]; exact k2⟩)) fun s H2 hs e2 t2 hs2 => ?_
    exact s_retL (el_row (ev_sum (ev_var rfl) (sq_of hs2)) (ev_var rfl) hs2 (by rw [nvs_length, parts_length hok n hlen]; have := hok.few; omega)) fun q H3 hq e3 h3 => k.go ((ExN.of e1).trans e2) hq (.of e3) (t2.ext e3) h3
def anJudge (d : Desk) (c x : List Nat) : Answer := if HdSpec.mayBe d c = false ∨ HdSpec.comes d x = false then HdSpec.says (-1) else HdSpec.says (judged (HdSpec.limits d) (kindsOf d) c x : Nat)
def sp_ask_judge (K : PySem.W.Frag) (C : Cs) : Sp := fun vs H Q _ => ∃ (a r u : Addr) (d : Desk) (row x : List Nat), vs = [.ref a, .ref r, .ref u] ∧ DeskAt K C H a d ∧ SqL K H r (nvs row) ∧ SqL K H u (nvs x) ∧ RetL (anV (anJudge d row x)) H Q
theorem pure_ask_judge {K : PySem.W.Frag} {C : Cs} (c : CC K C) {vs : List V} {H : Hp} {Q : VK} {E : XK} (h : sp_ask_judge K C vs H Q E) : t_ask_judge K (sp_is_able K C) (sp_judgement K C.G) (sp_limits_now K C) { nx := fun _ H' => Q .non H', rt := Q } (L2.start ["desk", "able", "shares"] vs) H := by
  obtain ⟨a, r, u, d, row, x, rfl, DI, hr, hu, k⟩ := h
  have hok := DI.ok
  obtain ⟨⟨dx, p, h1, I⟩⟩ := id DI
  unfold anJudge at k
  refine q_when (et_or (et_not (et_B (ev_able DI hr (ev_var rfl) (ev_var rfl)))) fun _ => et_test (ev_neN (ev_lenNs (ev_var rfl) hu) (ev_lenNs (ev_var rfl) hr))) (fun hb H1 e1 => ?_) (fun hb H1 e1 => ?_)
  · have hb' : HdSpec.mayBe d row = false ∨ HdSpec.comes d x = false := by
      rcases Bool.eq_false_or_eq_true (HdSpec.mayBe d row) with q | q
      · right
        rw [Bool.eq_false_iff]
        intro z
        have h2 := comes_iff.mp z
        have h3 := (may_be q).1
        rw [q] at hb
        simp at hb
        omega
      · exact .inl q
    rw [if_pos hb'] at k
    exact s_retL el_neg fun q H2 hq e2 h2 => k.go e1 hq e2 h2
  · simp only [Bool.or_eq_false_iff, Bool.not_eq_false', decide_eq_true_eq] at hb
    obtain ⟨hlen, hlow⟩ := may_be hb.1
    have hx : x.length = d.givers.length := by omega
    rw [if_neg (by rw [hb.1, comes_iff.mpr hx]; simp), anV_says] at k
    exact s_retL (el_lst (ea_cons (ev_call4L (z := nv (judged (HdSpec.limits d) (kindsOf d) row x)) (dk_givers c.d (e1 _ _ h1) (ev_var rfl)) (ev_var rfl) (ev_var rfl) (el_now (DI.mono e1) (ev_var rfl)) (fun q H2 e2 hq Q2 k2 _ => ⟨p.g, r, u, q, _, row, x, HdSpec.limits d, rfl, (I.mono (e1.trans e2)).givers, ex_l (e1.trans e2) hr, by rw [List.length_map]; exact hlen, hlow, ex_l (e1.trans e2) hu, by rw [List.length_map]; exact hx, sq_of hq, limits_len d none, by rw [kinds_map]; exact hok.kinds8, by rw [kinds_map]; exact k2⟩)) ea_nil) (by show 1 ≤ 100000; decide)) fun q H2 hq e2 h2 => k.go e1 hq e2 h2
def anPrices (d : Desk) (c : List Nat) : Answer := if HdSpec.mayBe d c = false then HdSpec.says (-1) else
  HdSpec.tells (losses (worthsOf d) c (leastLost (HdSpec.limits d) (kindsOf d) (worthsOf d) c)) (VwNum.nats (classPrices (HdSpec.limits d) (kindsOf d) (worthsOf d) c (leastLost (HdSpec.limits d) (kindsOf d) (worthsOf d) c) ++ [plantPrice (HdSpec.limits d) (kindsOf d) (worthsOf d) c (leastLost (HdSpec.limits d) (kindsOf d) (worthsOf d) c)]))
def sp_ask_prices (K : PySem.W.Frag) (C : Cs) (T : List (Addr × Str)) : Sp := fun vs H Q _ => ∃ (a r : Addr) (d : Desk) (row : List Nat), vs = [.ref a, .ref r] ∧ DeskAt K C H a d ∧ SqL K H r (nvs row) ∧ Tabs T H ∧ RetLN T (anV (anPrices d row)) H Q
theorem pure_ask_prices {K : PySem.W.Frag} {C : Cs} {T : List (Addr × Str)} (c : CC K C) {vs : List V} {H : Hp} {Q : VK} {E : XK} (h : sp_ask_prices K C T vs H Q E) : t_ask_prices K (sp_is_able K C) (sp_least_losingT K C.G T) (sp_limits_now K C) (sp_loss_of K C.G) (sp_prices_told K C.G) sp_with_row { nx := fun _ H' => Q .non H', rt := Q } (L2.start ["desk", "able", "limits", "shares"] vs) H := by
  obtain ⟨a, r, d, row, rfl, DI, hr, hT, k⟩ := h
  have hok := DI.ok
  obtain ⟨⟨dx, p, h1, I⟩⟩ := id DI
  unfold anPrices at k
  refine q_when (et_not (et_B (ev_able DI hr (ev_var rfl) (ev_var rfl)))) (fun hb H1 e1 => ?_) (fun hb H1 e1 => ?_)
  · have hb' : HdSpec.mayBe d row = false := by simpa using hb
    rw [if_pos hb'] at k
    exact s_retL el_neg fun q H2 hq e2 h2 => k.go (.of e1) hq (.of e2) (hT.ext (e1.trans e2)) h2
  · have hm : HdSpec.mayBe d row = true := by simpa using hb
    rw [if_neg (by rw [hm]; decide), anV_nats] at k
    obtain ⟨hlen, hlow⟩ := may_be hm
    refine q_asgL (el_now (DI.mono e1) (ev_var rfl)) fun m H2 hm2 e2 hm3 => ?_
    have e12 := e1.trans e2
    refine q_asgT (T := T) (et_call (xs := nvs (leastLost (HdSpec.limits d) (kindsOf d) (worthsOf d) row)) (ea_cons (dk_givers c.d (e12 _ _ h1) (ev_var rfl)) (ea_cons (ev_var rfl) (ea_cons (ev_var rfl) ea_nil))) (fun H3 e3 Q2 k2 _ => ⟨p.g, r, m, _, row, HdSpec.limits d, rfl, (I.mono (e12.trans e3)).givers, ex_l (e12.trans e3) hr, by rw [List.length_map]; exact hlen, sq_of (e3 _ _ hm3), limits_len d none, hT.ext (e12.trans e3), by rw [kinds_map, worths_map]; exact k2⟩)) fun s H3 hs e3 t3 hs3 => ?_
    have e13 : ExN H H3 := (ExN.of e12).trans e3
    have I3 := I.monoN e13
    have hr3 := e13.seq hr
    have hm4 := e3.lst hm3
    have hle : Ph.Le (leastLost (HdSpec.limits d) (kindsOf d) (worthsOf d) row) row := least_le _ _ _ _
    have hxl : (leastLost (HdSpec.limits d) (kindsOf d) (worthsOf d) row).length = d.givers.length := hle.length.trans hlen
    have h13 : H3 a = some (.ins C.D dx (dF p d)) := e13.ins h1
    have epl : (classPrices (HdSpec.limits d) (kindsOf d) (worthsOf d) row (leastLost (HdSpec.limits d) (kindsOf d) (worthsOf d) row) ++ [plantPrice (HdSpec.limits d) (kindsOf d) (worthsOf d) row (leastLost (HdSpec.limits d) (kindsOf d) (worthsOf d) row)]).length = 9 := by
      rw [List.length_append]; unfold classPrices; simp
    exact s_retL (el_rowL (ev_call (ea_cons (dk_givers c.d h13 (ev_var rfl)) (ea_cons (ev_var rfl) (ea_cons (ev_var rfl) ea_nil))) (fun H4 e4 Q2 k2 _ => ⟨p.g, r, s, _, row, _, rfl, (I3.mono e4).givers, ex_l e4 hr3, by rw [List.length_map]; exact hlen, hlow, sq_of (e4 _ _ hs3), hle, by rw [worths_map]; exact k2⟩))
      (el_call (ea_cons (dk_givers c.d h13 (ev_var rfl)) (ea_cons (ev_var rfl) (ea_cons (ev_var rfl) (ea_cons (ev_var rfl) ea_nil)))) (fun H4 e4 Q2 k2 _ => ⟨p.g, r, s, m, _, row, _, HdSpec.limits d, rfl, (I3.mono e4).givers, ex_l e4 hr3, by rw [List.length_map]; exact hlen, sq_of (e4 _ _ hs3), by rw [List.length_map]; exact hxl, sq_of (e4 _ _ hm4), limits_len d none, by rw [kinds_map, worths_map]; exact k2⟩)) (by rw [nvs_length, epl]; decide)) fun q H4 hq e4 h4 => k.go e13 hq (.of e4) (t3.ext e4) h4
def anProof (d : Desk) (c x pr : List Nat) : Answer := if HdSpec.mayBe d c = false ∨ HdSpec.comes d x = false ∨ pr.length ≠ 9 then HdSpec.says (-1) else HdSpec.says (HdSpec.bit (holds (HdSpec.limits d) (kindsOf d) (worthsOf d) c x (pr.take 8) (pr.getD 8 0)) : Nat)
def sp_ask_proof (K : PySem.W.Frag) (C : Cs) : Sp := fun vs H Q _ => ∃ (a r u s : Addr) (d : Desk) (row x pr : List Nat), vs = [.ref a, .ref r, .ref u, .ref s] ∧ DeskAt K C H a d ∧ SqL K H r (nvs row) ∧ SqL K H u (nvs x) ∧ SqL K H s (nvs pr) ∧ RetL (anV (anProof d row x pr)) H Q
theorem pure_ask_proof {K : PySem.W.Frag} {C : Cs} (c : CC K C) {vs : List V} {H : Hp} {Q : VK} {E : XK} (h : sp_ask_proof K C vs H Q E) : t_ask_proof K (sp_is_able K C) (sp_is_proof K C.G) (sp_limits_now K C) { nx := fun _ H' => Q .non H', rt := Q } (L2.start ["desk", "able", "shares", "prices"] vs) H := by
  obtain ⟨a, r, u, s, d, row, x, pr, rfl, DI, hr, hu, hs, k⟩ := h
  have hok := DI.ok
  obtain ⟨⟨dx, p, h1, I⟩⟩ := id DI
  unfold anProof at k
  refine q_when (et_or (et_not (et_B (ev_able DI hr (ev_var rfl) (ev_var rfl)))) fun _ => et_or (et_test (ev_neN (ev_lenNs (ev_var rfl) hu) (ev_lenNs (ev_var rfl) hr))) fun _ => et_test (ev_neN (n := 9) (ev_lenNs (ev_var rfl) hs) ev_c)) (fun hb H1 e1 => ?_) (fun hb H1 e1 => ?_)
  · have hb' : HdSpec.mayBe d row = false ∨ HdSpec.comes d x = false ∨ pr.length ≠ 9 := by
      rcases Bool.eq_false_or_eq_true (HdSpec.mayBe d row) with q | q
      · right
        rw [q] at hb
        simp at hb
        rcases hb with h | h
        · left
          rw [Bool.eq_false_iff]
          intro z
          have h2 := comes_iff.mp z
          have h3 := (may_be q).1
          omega
        · exact .inr h
      · exact .inl q
    rw [if_pos hb'] at k
    exact s_retL el_neg fun q H2 hq e2 h2 => k.go e1 hq e2 h2
  · simp only [Bool.or_eq_false_iff, Bool.not_eq_false', decide_eq_true_eq] at hb
    obtain ⟨hlen, hlow⟩ := may_be hb.1
    have hx : x.length = d.givers.length := by omega
    rw [if_neg (by rw [hb.1, comes_iff.mpr hx, hb.2.2]; simp), anV_says] at k
    exact s_retL (el_lst (ea_cons (ev_int (ev_call5L (z := .bl (holds (HdSpec.limits d) (kindsOf d) (worthsOf d) row x (pr.take 8) (pr.getD 8 0))) (dk_givers c.d (e1 _ _ h1) (ev_var rfl)) (ev_var rfl) (ev_var rfl) (el_now (DI.mono e1) (ev_var rfl)) (ev_var rfl) (fun q H2 e2 hq Q2 k2 _ => ⟨p.g, r, u, q, s, _, row, x, HdSpec.limits d, pr, rfl, (I.mono (e1.trans e2)).givers, ex_l (e1.trans e2) hr, by rw [List.length_map]; exact hlen, ex_l (e1.trans e2) hu, by rw [List.length_map]; exact hx, sq_of hq, limits_len d none, ex_l (e1.trans e2) hs, hb.2.2, by rw [kinds_map, worths_map]; exact k2⟩))) ea_nil) (by show 1 ≤ 100000; decide)) fun q H2 hq e2 h2 => k.go e1 hq e2 h2
/-! ### binds, clears -/
def anBinds (d : Desk) (c : List Nat) : Answer := if HdSpec.mayBe d c = false then HdSpec.says (-1) else HdSpec.tells (bindsN d c).length (VwNum.nats (bindsN d c))
def anClears (d : Desk) (c : List Nat) : Answer := if HdSpec.mayBe d c = false then HdSpec.says (-1) else HdSpec.tells (clearsN d c).length (VwNum.nats (clearsN d c))
def sp_ask_binds (K : PySem.W.Frag) (C : Cs) : Sp := fun vs H Q _ => ∃ (a r : Addr) (d : Desk) (row : List Nat), vs = [.ref a, .ref r] ∧ DeskAt K C H a d ∧ SqL K H r (nvs row) ∧ RetL (anV (anBinds d row)) H Q
def sp_ask_clears (K : PySem.W.Frag) (C : Cs) : Sp := fun vs H Q _ => ∃ (a r : Addr) (d : Desk) (row : List Nat), vs = [.ref a, .ref r] ∧ DeskAt K C H a d ∧ SqL K H r (nvs row) ∧ RetL (anV (anClears d row)) H Q
theorem forces_few {d : Desk} (h : DeskOk d) : (forces d none).length ≤ 32 := by
  unfold HdSpec.forces
  refine Nat.le_trans (List.length_filter_le _ _) ?_
  rw [List.length_map, List.length_zipIdx]; exact h.ofew
theorem binds_few {d : Desk} (h : DeskOk d) (c : List Nat) : (bindsN d c).length ≤ 32 := by
  unfold bindsN
  refine Nat.le_trans (List.length_filter_le _ _) ?_
  rw [List.length_map]; exact forces_few h
theorem clears_few {d : Desk} (h : DeskOk d) (c : List Nat) : (clearsN d c).length ≤ 32 := by
  unfold clearsN
  rw [List.length_map]
  exact Nat.le_trans (List.length_filter_le _ _) (forces_few h)
theorem pure_ask_binds {K : PySem.W.Frag} {C : Cs} {vs : List V} {H : Hp} {Q : VK} {E : XK} (h : sp_ask_binds K C vs H Q E) : t_ask_binds K (sp_binding K C) (sp_is_able K C) sp_with_row { nx := fun _ H' => Q .non H', rt := Q } (L2.start ["desk", "able", "numbers"] vs) H := by
  obtain ⟨a, r, d, row, rfl, DI, hr, k⟩ := h
  unfold anBinds at k
  refine q_when (et_not (et_B (ev_able DI hr (ev_var rfl) (ev_var rfl)))) (fun hb H1 e1 => ?_) (fun hb H1 e1 => ?_)
  · rw [if_pos (by simpa using hb)] at k
    exact s_retL el_neg fun q H2 hq e2 h2 => k.go e1 hq e2 h2
  · have hm : HdSpec.mayBe d row = true := by simpa using hb
    rw [if_neg (by rw [hm]; decide), anV_nats] at k
    refine q_asgL (el_call (ea_cons (ev_var rfl) (ea_cons (ev_var rfl) ea_nil)) (xs := nvs (bindsN d row)) (fun H2 e2 Q2 q _ => ⟨a, r, d, row, rfl, DI.mono (e1.trans e2), ex_l (e1.trans e2) hr, (may_be hm).1, q⟩)) fun s H2 hs e2 hs2 => ?_
    exact s_retL (el_row (ev_lenNs (ev_var rfl) (sq_of hs2)) (ev_var rfl) hs2 (by rw [nvs_length]; have := binds_few DI.ok row; omega)) fun q H3 hq e3 h3 => k.go (e1.trans e2) hq e3 h3
theorem pure_ask_clears {K : PySem.W.Frag} {C : Cs} {vs : List V} {H : Hp} {Q : VK} {E : XK} (h : sp_ask_clears K C vs H Q E) : t_ask_clears K (sp_clearing K C) (sp_is_able K C) sp_with_row { nx := fun _ H' => Q .non H', rt := Q } (L2.start ["desk", "able", "numbers"] vs) H := by
  obtain ⟨a, r, d, row, rfl, DI, hr, k⟩ := h
  unfold anClears at k
  refine q_when (et_not (et_B (ev_able DI hr (ev_var rfl) (ev_var rfl)))) (fun hb H1 e1 => ?_) (fun hb H1 e1 => ?_)
  · rw [if_pos (by simpa using hb)] at k
    exact s_retL el_neg fun q H2 hq e2 h2 => k.go e1 hq e2 h2
  · have hm : HdSpec.mayBe d row = true := by simpa using hb
    rw [if_neg (by rw [hm]; decide), anV_nats] at k
    refine q_asgL (el_call (ea_cons (ev_var rfl) (ea_cons (ev_var rfl) ea_nil)) (xs := nvs (clearsN d row)) (fun H2 e2 Q2 q _ => ⟨a, r, d, row, rfl, DI.mono (e1.trans e2), ex_l (e1.trans e2) hr, (may_be hm).1, q⟩)) fun s H2 hs e2 hs2 => ?_
    exact s_retL (el_row (ev_lenNs (ev_var rfl) (sq_of hs2)) (ev_var rfl) hs2 (by rw [nvs_length]; have := clears_few DI.ok row; omega)) fun q H3 hq e3 h3 => k.go (e1.trans e2) hq e3 h3
end Pp
end
section
set_option Elab.async false
set_option linter.all false
set_option maxRecDepth 100000
set_option maxHeartbeats 2000000
namespace Pp
open PySem PySem.Spec PyProof.Rows L2 Evl VwHand LamX NdefX
open HdSpec (Desk Stand Order inForce broughtDown forces limitsBut kindsOf worthsOf lastsOf inScope ownLoss standsAt couldsAt partedBy quarterOn Answer)
/-! ### what the desk holds -/
def anLost (d : Desk) (j : Nat) : Answer := match d.orders[j]? with
  | none => HdSpec.says (-1)
  | some o => HdSpec.tells o.own [(o.force : Int)]
def anTold (d : Desk) (j : Nat) : Answer := match d.orders[j]? with
  | none => HdSpec.says (-1)
  | some o => HdSpec.tells 0 (HdSpec.toldOrder o)
def anState (d : Desk) (i : Nat) : Answer := match d.stands[i]? with
  | none => HdSpec.says (-1)
  | some a => HdSpec.tells (HdSpec.bit a.turn.runs) [(a.turn.waited : Int), (a.last : Int), (a.gave : Int), (HdSpec.bit a.away : Int)]
def anSums (d : Desk) : Answer := HdSpec.tells d.now [(d.could : Int), (d.gave : Int), (d.could - d.gave : Nat)]
def anPasses (d : Desk) (i x : Nat) : Answer := match d.givers[i]? with
  | none => HdSpec.says (-1)
  | some g => HdSpec.says (passes g.inv (x : Rat) : Nat)
def sp_ask_lost (K : PySem.W.Frag) (C : Cs) : Sp := fun vs H Q _ => ∃ (a : Addr) (d : Desk) (j : Nat), vs = [.ref a, nv j] ∧ DeskAt K C H a d ∧ RetL (anV (anLost d j)) H Q
def sp_ask_told (K : PySem.W.Frag) (C : Cs) : Sp := fun vs H Q _ => ∃ (a : Addr) (d : Desk) (j : Nat), vs = [.ref a, nv j] ∧ DeskAt K C H a d ∧ RetL (anV (anTold d j)) H Q
def sp_ask_state (K : PySem.W.Frag) (C : Cs) : Sp := fun vs H Q _ => ∃ (a : Addr) (d : Desk) (i : Nat), vs = [.ref a, nv i] ∧ DeskAt K C H a d ∧ RetL (anV (anState d i)) H Q
def sp_ask_sums (K : PySem.W.Frag) (C : Cs) : Sp := fun vs H Q _ => ∃ (a : Addr) (d : Desk), vs = [.ref a] ∧ DeskAt K C H a d ∧ RetL (anV (anSums d)) H Q
def sp_ask_passes (K : PySem.W.Frag) (C : Cs) : Sp := fun vs H Q _ => ∃ (a : Addr) (d : Desk) (i x : Nat), vs = [.ref a, nv i, nv x] ∧ DeskAt K C H a d ∧ x ≤ 1000000000000000 ∧ RetL (anV (anPasses d i x)) H Q
theorem pure_ask_lost {K : PySem.W.Frag} {C : Cs} (c : CC K C) {vs : List V} {H : Hp} {Q : VK} {E : XK} (h : sp_ask_lost K C vs H Q E) : t_ask_lost K sp_with_row { nx := fun _ H' => Q .non H', rt := Q } (L2.start ["desk", "number"] vs) H := by
  obtain ⟨a, d, j, rfl, ⟨⟨dx, p, h1, I⟩⟩, k⟩ := h
  refine q_when (et_test (ev_geN (m := j) (ev_var rfl) (ev_olen c h1 I (ev_var rfl)))) (fun hb H1 e1 => ?_) (fun hb H1 e1 => ?_)
  · have hb' := of_decide_eq_true hb
    unfold anLost at k
    rw [List.getElem?_eq_none (by omega)] at k
    exact s_retL el_neg fun q H2 hq e2 h2 => k.go e1 hq e2 h2
  · have hb' := of_decide_eq_false hb
    obtain ⟨o, ho⟩ : ∃ o, d.orders[j]? = some o := ⟨_, List.getElem?_eq_getElem (by omega)⟩
    unfold anLost at k
    rw [ho] at k
    refine s_retL (el_rowL (xs := [nv o.force]) (ev_ixN (m := o.own) (dk_losses c.d (e1 _ _ h1) (ev_var rfl)) (ev_var rfl) (sq_of (e1 _ _ I.ls)) (by rw [List.getElem?_map, ho]; rfl)) (el_lst (ea_cons (ev_ixN (m := o.force) (dk_in_force_for c.d (e1 _ _ h1) (ev_var rfl)) (ev_var rfl) (sq_of (e1 _ _ I.ff)) (by rw [List.getElem?_map, ho]; rfl)) ea_nil) (by show 1 ≤ 100000; decide)) (by show 1 ≤ 1000; decide)) fun q H2 hq e2 h2 => k.go e1 hq e2 h2
theorem toldV (o : Order) : (HdSpec.toldOrder o).map V.int = [nv o.scope, nv o.first, nv o.end_, nv o.limit, nv o.came, lo o.back] := by
  unfold HdSpec.toldOrder
  cases o.back <;> rfl
theorem pure_ask_told {K : PySem.W.Frag} {C : Cs} (c : CC K C) {vs : List V} {H : Hp} {Q : VK} {E : XK} (h : sp_ask_told K C vs H Q E) : t_ask_told K sp_with_row { nx := fun _ H' => Q .non H', rt := Q } (L2.start ["desk", "number", "order"] vs) H := by
  obtain ⟨a, d, j, rfl, ⟨⟨dx, p, h1, I⟩⟩, k⟩ := h
  refine q_when (et_test (ev_geN (m := j) (ev_var rfl) (ev_olen c h1 I (ev_var rfl)))) (fun hb H1 e1 => ?_) (fun hb H1 e1 => ?_)
  · have hb' := of_decide_eq_true hb
    unfold anTold at k
    rw [List.getElem?_eq_none (by omega)] at k
    exact s_retL el_neg fun q H2 hq e2 h2 => k.go e1 hq e2 h2
  · have hb' := of_decide_eq_false hb
    obtain ⟨o, ho⟩ : ∃ o, d.orders[j]? = some o := ⟨_, List.getElem?_eq_getElem (by omega)⟩
    obtain ⟨as, ha, hal, hG⟩ := I.o.get
    obtain ⟨b, dx2, hb1, hb2⟩ := hG j o ho
    unfold anTold at k
    rw [ho] at k
    simp only [] at k
    rw [anV_tells, toldV] at k
    refine q_asg (v := .ref b) (ev_ixL (dk_orders c.d (e1 _ _ h1) (ev_var rfl)) (ev_var rfl) (sq_of (e1 _ _ ha)) (refs_at hb1)) fun H2 e2 => ?_
    have e12 := e1.trans e2
    refine s_retL (el_rowL (z := 0) ev_c (el_lst (ea_cons (or_scope c.o (e12 _ _ hb2) (ev_var rfl)) (ea_cons (or_first c.o (e12 _ _ hb2) (ev_var rfl)) (ea_cons (or_end_ c.o (e12 _ _ hb2) (ev_var rfl)) (ea_cons (or_limit c.o (e12 _ _ hb2) (ev_var rfl)) (ea_cons (or_came c.o (e12 _ _ hb2) (ev_var rfl)) (ea_cons (ev_ixL (dk_taken_back c.d (e12 _ _ h1) (ev_var rfl)) (ev_var rfl) (sq_of (e12 _ _ I.tb)) (bks_at ho)) ea_nil)))))) (by show 6 ≤ 100000; decide)) (by show 6 ≤ 1000; decide)) fun q H3 hq e3 h3 => k.go e12 hq e3 h3
theorem pure_ask_state {K : PySem.W.Frag} {C : Cs} (c : CC K C) {vs : List V} {H : Hp} {Q : VK} {E : XK} (h : sp_ask_state K C vs H Q E) : t_ask_state K sp_with_row { nx := fun _ H' => Q .non H', rt := Q } (L2.start ["desk", "number", "runs", "absent"] vs) H := by
  obtain ⟨a, d, i, rfl, ⟨⟨dx, p, h1, I⟩⟩, k⟩ := h
  have hsl := I.ok.slen
  refine q_when (et_test (ev_geN (m := i) (ev_var rfl) (ev_glen c h1 I (ev_var rfl)))) (fun hb H1 e1 => ?_) (fun hb H1 e1 => ?_)
  · have hb' := of_decide_eq_true hb
    unfold anState at k
    rw [List.getElem?_eq_none (by omega)] at k
    exact s_retL el_neg fun q H2 hq e2 h2 => k.go e1 hq e2 h2
  · have hb' := of_decide_eq_false hb
    obtain ⟨s, hs⟩ : ∃ s, d.stands[i]? = some s := ⟨_, List.getElem?_eq_getElem (by omega)⟩
    unfold anState at k
    rw [hs] at k
    simp only [] at k
    rw [anV_tells] at k
    refine q_asg (v := nv (HdSpec.bit s.turn.runs)) (ev_int (ev_ixL (dk_runs c.d (e1 _ _ h1) (ev_var rfl)) (ev_var rfl) (sq_of (e1 _ _ I.r)) (bvs_at (by rw [List.getElem?_map, hs]; rfl)))) fun H2 e2 => ?_
    have e12 := e1.trans e2
    refine q_asg (v := nv (HdSpec.bit s.away)) (ev_int (ev_ixL (dk_absent c.d (e12 _ _ h1) (ev_var rfl)) (ev_var rfl) (sq_of (e12 _ _ I.a)) (bvs_at (by rw [List.getElem?_map, hs]; rfl)))) fun H3 e3 => ?_
    have e13 := e12.trans e3
    refine s_retL (el_rowL (ev_var rfl) (el_lst (ea_cons (ev_ixN (m := s.turn.waited) (dk_waited c.d (e13 _ _ h1) (ev_var rfl)) (ev_var rfl) (sq_of (e13 _ _ I.w)) (by rw [List.getElem?_map, hs]; rfl)) (ea_cons (ev_ixN (m := s.last) (dk_gave c.d (e13 _ _ h1) (ev_var rfl)) (ev_var rfl) (sq_of (e13 _ _ I.gv)) (by unfold HdSpec.lastsOf; rw [List.getElem?_map, hs]; rfl)) (ea_cons (ev_ixN (m := s.gave) (dk_gave_ever c.d (e13 _ _ h1) (ev_var rfl)) (ev_var rfl) (sq_of (e13 _ _ I.ge)) (by rw [List.getElem?_map, hs]; rfl)) (ea_cons (ev_var rfl) ea_nil)))) (by show 4 ≤ 100000; decide)) (by show 4 ≤ 1000; decide)) fun q H4 hq e4 h4 => k.go e13 hq e4 h4
theorem pure_ask_sums {K : PySem.W.Frag} {C : Cs} (c : CC K C) {vs : List V} {H : Hp} {Q : VK} {E : XK} (h : sp_ask_sums K C vs H Q E) : t_ask_sums K sp_with_row { nx := fun _ H' => Q .non H', rt := Q } (L2.start ["desk", "given"] vs) H := by
  obtain ⟨a, d, rfl, ⟨⟨dx, p, h1, I⟩⟩, k⟩ := h
  have hg := I.ok.gave
  have hle := I.ok.less
  unfold anSums at k
  rw [anV_tells] at k
  refine q_asg (v := nv d.gave) (ev_is (ev_sum (dk_gave_ever c.d h1 (ev_var rfl)) (sq_of I.ge)) (by rw [← hg])) fun H1 e1 => ?_
  refine s_retL (el_rowL (dk_quarter c.d (e1 _ _ h1) (ev_var rfl)) (el_lst (ea_cons (dk_could_ever c.d (e1 _ _ h1) (ev_var rfl)) (ea_cons (ev_var rfl) (ea_cons (ev_subN (dk_could_ever c.d (e1 _ _ h1) (ev_var rfl)) (ev_var rfl) hle) ea_nil))) (by show 3 ≤ 100000; decide)) (by show 3 ≤ 1000; decide)) fun q H2 hq e2 h2 => k.go e1 hq e2 h2
theorem pure_ask_passes {K : PySem.W.Frag} {C : Cs} (c : CC K C) {vs : List V} {H : Hp} {Q : VK} {E : XK} (h : sp_ask_passes K C vs H Q E) : t_ask_passes K (sp_passed K C.G) { nx := fun _ H' => Q .non H', rt := Q } (L2.start ["desk", "number", "micros"] vs) H := by
  obtain ⟨a, d, i, x, rfl, ⟨⟨dx, p, h1, I⟩⟩, hx, k⟩ := h
  refine q_when (et_test (ev_geN (m := i) (ev_var rfl) (ev_glen c h1 I (ev_var rfl)))) (fun hb H1 e1 => ?_) (fun hb H1 e1 => ?_)
  · have hb' := of_decide_eq_true hb
    unfold anPasses at k
    rw [List.getElem?_eq_none (by omega)] at k
    exact s_retL el_neg fun q H2 hq e2 h2 => k.go e1 hq e2 h2
  · have hb' := of_decide_eq_false hb
    obtain ⟨g, hg⟩ : ∃ g, d.givers[i]? = some g := ⟨_, List.getElem?_eq_getElem (by omega)⟩
    obtain ⟨as, ha, hal, hG⟩ := I.givers.at
    rw [List.length_map] at hal
    obtain ⟨b, hb1⟩ : ∃ b, as[i]? = some b := ⟨_, List.getElem?_eq_getElem (by omega)⟩
    obtain ⟨g', hg', Gi⟩ := hG i b hb1
    rw [List.getElem?_map, hg] at hg'
    have eg : toPG g = g' := Option.some.inj hg'
    subst eg
    unfold anPasses at k
    rw [hg] at k
    simp only [] at k
    rw [anV_says, pass_is (I.ok.gok g (List.mem_of_getElem? hg))] at k
    exact s_retL (el_lst (ea_cons (ev_call (ea_cons (ev_ixL (dk_givers c.d (e1 _ _ h1) (ev_var rfl)) (ev_var rfl) (ex_l e1 ha) (refs_at hb1)) (ea_cons (ev_var rfl) ea_nil)) (z := nv (passN (toPG g) x)) (fun H2 e2 Q2 k2 _ => ⟨b, toPG g, x, rfl, Gi.mono (e1.trans e2), hx, k2⟩)) ea_nil) (by show 1 ≤ 100000; decide)) fun q H2 hq e2 h2 => k.go e1 hq e2 h2
end Pp
end
section
set_option Elab.async false
set_option linter.all false
set_option maxRecDepth 100000
set_option maxHeartbeats 2000000
namespace Pp
open PySem PySem.Spec PyProof.Rows L2 Evl VwHand LamX NdefX
open HdSpec (Desk Stand Order inForce broughtDown forces limitsBut kindsOf worthsOf lastsOf inScope ownLoss standsAt couldsAt partedBy quarterOn Answer)
/-! ### what stays where one object may change -/
structure Ch (x : Addr) (H H' : Hp) : Prop where
  keep : ∀ b o, b ≠ x → H b = some o → H' b = some o
  nn : ∀ b, H' b = none → H b = none
theorem Ch.of {x : Addr} {H H' : Hp} (e : Ex H H') : Ch x H H' := ⟨fun b o _ h => e b o h, fun b h => fresh_back e h⟩
theorem Ch.refl (x : Addr) (H : Hp) : Ch x H H := .of (Ex.refl H)
theorem Ch.trans {x : Addr} {H H1 H2 : Hp} (a : Ch x H H1) (b : Ch x H1 H2) : Ch x H H2 := ⟨fun c o n h => b.keep c o n (a.keep c o n h), fun c h => a.nn c (b.nn c h)⟩
theorem Ch.then {x : Addr} {H H1 H2 : Hp} (a : Ch x H H1) (b : Ex H1 H2) : Ch x H H2 := a.trans (.of b)
theorem Ch.put {x : Addr} {H H1 : Hp} {o u : HO} (a : Ch x H H1) (h : H1 x = some u) : Ch x H (upd H1 x o) := ⟨fun b v n hb => by rw [upd_ne n]; exact a.keep b v n hb, fun b hb => a.nn b (by
  by_cases q : b = x
  · rw [q, upd_same] at hb; cases hb
  · rw [upd_ne q] at hb; exact hb)⟩
/-- .. and tables may grow -/
structure ChN (x : Addr) (H H' : Hp) : Prop where
  keep : ∀ b o, b ≠ x → H b = some o → (∀ ps, o ≠ .tbl ps) → H' b = some o
  nn : ∀ b, H' b = none → H b = none
theorem Ch.n {x : Addr} {H H' : Hp} (c : Ch x H H') : ChN x H H' := ⟨fun b o n h _ => c.keep b o n h, c.nn⟩
theorem ChN.of {x : Addr} {H H' : Hp} (e : ExN H H') : ChN x H H' := ⟨fun b o _ h n => e.ext b o h n, e.nn⟩
theorem ChN.ex {x : Addr} {H H' : Hp} (e : Ex H H') : ChN x H H' := (Ch.of e).n
theorem ChN.refl (x : Addr) (H : Hp) : ChN x H H := .ex (Ex.refl H)
theorem ChN.trans {x : Addr} {H H1 H2 : Hp} (a : ChN x H H1) (b : ChN x H1 H2) : ChN x H H2 := ⟨fun c o n h t => b.keep c o n (a.keep c o n h t) t, fun c h => a.nn c (b.nn c h)⟩
theorem ChN.then {x : Addr} {H H1 H2 : Hp} (a : ChN x H H1) (b : Ex H1 H2) : ChN x H H2 := a.trans (.ex b)
theorem ChN.put {x : Addr} {H H1 : Hp} {o u : HO} (a : ChN x H H1) (h : H1 x = some u) : ChN x H (upd H1 x o) := a.trans (Ch.put (Ch.refl x H1) h).n
theorem ChN.lst {x : Addr} {H H' : Hp} (c : ChN x H H') {b : Addr} {xs : List V} (n : b ≠ x) (h : H b = some (.lst xs)) : H' b = some (.lst xs) := c.keep b _ n h (fun ps z => nomatch z)
theorem ChN.ins {x : Addr} {H H' : Hp} (c : ChN x H H') {b C dx : Addr} {fs : List (Str × V)} (n : b ≠ x) (h : H b = some (.ins C dx fs)) : H' b = some (.ins C dx fs) := c.keep b _ n h (fun ps z => nomatch z)
/-- the part of the heap that stays: all but S and the tables -/
noncomputable def cut (S : Addr → Prop) (H : Hp) : Hp := fun a => by classical exact if S a ∨ ∃ ps, H a = some (.tbl ps) then none else H a
theorem cut_iff {S : Addr → Prop} {H : Hp} {a : Addr} {o : HO} : cut S H a = some o ↔ ¬ S a ∧ H a = some o ∧ ∀ ps, o ≠ .tbl ps := by
  unfold cut
  split
  · rename_i h
    refine ⟨fun z => (by cases z), fun ⟨h1, h2, h3⟩ => ?_⟩
    rcases h with h | ⟨ps, h⟩
    · exact absurd h h1
    · rw [h2] at h; exact absurd (Option.some.inj h) (h3 ps)
  · rename_i h
    refine ⟨fun z => ⟨fun q => h (.inl q), z, fun ps q => h (.inr ⟨ps, by rw [z, q]⟩)⟩, fun ⟨h1, h2, h3⟩ => h2⟩
theorem cut_sub (S : Addr → Prop) (H : Hp) : Ex (cut S H) H := fun a o h => (cut_iff.mp h).2.1
theorem cut_ex {S : Addr → Prop} {H H' : Hp} (e : Ex H H') : Ex (cut S H) (cut S H') := fun a o h => by
  obtain ⟨h1, h2, h3⟩ := cut_iff.mp h
  exact cut_iff.mpr ⟨h1, e a o h2, h3⟩
theorem cut_ch {S : Addr → Prop} {x : Addr} {H H' : Hp} (hS : S x) (c : ChN x H H') : Ex (cut S H) (cut S H') := fun a o h => by
  obtain ⟨h1, h2, h3⟩ := cut_iff.mp h
  exact cut_iff.mpr ⟨h1, c.keep a o (fun z => h1 (z ▸ hS)) h2 h3, h3⟩
theorem cut_lst {S : Addr → Prop} {H : Hp} {a : Addr} {xs : List V} (h1 : ¬ S a) (h : H a = some (.lst xs)) : cut S H a = some (.lst xs) := cut_iff.mpr ⟨h1, h, fun ps z => nomatch z⟩
theorem cut_ins {S : Addr → Prop} {H : Hp} {a C dx : Addr} {fs : List (Str × V)} (h1 : ¬ S a) (h : H a = some (.ins C dx fs)) : cut S H a = some (.ins C dx fs) := cut_iff.mpr ⟨h1, h, fun ps z => nomatch z⟩
/-! ### attributes set -/
section
variable {K : PySem.W.Frag} {σ : L2.St} {H : Hp} {D : Ends} {tz : TS} {ta te : TE} {x C dx : Addr} {fs : List (Str × V)} {f : Str} {v : V} {xs : List V}
theorem s_fld (hv : Ev te σ H v) (hx : Ev ta σ H (.ref x)) (h : H x = some (.ins C dx fs)) (c : Cls K C) (n : NoAttr K C f) (hl : fs.length < 1000) (k : ∀ H1, Ex H H1 → D.nx σ (upd H1 x (.ins C dx (putF f v fs)))) : sFld K ta te f D σ H :=
  hv H (Ex.refl H) _ fun H1 e1 => hx H1 e1 _ fun H2 e2 => ⟨x, C, dx, fs, rfl, (e1.trans e2) _ _ h, c, n, hl, k H2 (e1.trans e2)⟩
theorem q_fld (hv : Ev te σ H v) (hx : Ev ta σ H (.ref x)) (h : H x = some (.ins C dx fs)) (c : Cls K C) (n : NoAttr K C f) (hl : fs.length < 1000) (k : ∀ H1, Ex H H1 → tz D σ (upd H1 x (.ins C dx (putF f v fs)))) : tSeq (sFld K ta te f) tz D σ H := s_fld (D := { D with nx := tz D }) hv hx h c n hl k
theorem s_fldP {P : Addr → Hp → Prop} (hP : ∀ p H1 H2, P p H1 → Ex H1 H2 → P p H2) (hv : EvP te σ H P) (hx : Ev ta σ H (.ref x)) (h : H x = some (.ins C dx fs)) (c : Cls K C) (n : NoAttr K C f) (hl : fs.length < 1000) (k : ∀ p H1, H p = none → Ex H H1 → P p H1 → D.nx σ (upd H1 x (.ins C dx (putF f (.ref p) fs)))) : sFld K ta te f D σ H :=
  hv H (Ex.refl H) _ fun p H1 hp e1 hp1 => hx H1 e1 _ fun H2 e2 => ⟨x, C, dx, fs, rfl, (e1.trans e2) _ _ h, c, n, hl, k p H2 hp (e1.trans e2) (hP _ _ _ hp1 e2)⟩
theorem q_fldP {P : Addr → Hp → Prop} (hP : ∀ p H1 H2, P p H1 → Ex H1 H2 → P p H2) (hv : EvP te σ H P) (hx : Ev ta σ H (.ref x)) (h : H x = some (.ins C dx fs)) (c : Cls K C) (n : NoAttr K C f) (hl : fs.length < 1000) (k : ∀ p H1, H p = none → Ex H H1 → P p H1 → tz D σ (upd H1 x (.ins C dx (putF f (.ref p) fs)))) : tSeq (sFld K ta te f) tz D σ H := s_fldP (D := { D with nx := tz D }) hP hv hx h c n hl k
theorem s_fldL (hv : EvL te σ H xs) (hx : Ev ta σ H (.ref x)) (h : H x = some (.ins C dx fs)) (c : Cls K C) (n : NoAttr K C f) (hl : fs.length < 1000) (k : ∀ p H1, H p = none → Ex H H1 → H1 p = some (.lst xs) → D.nx σ (upd H1 x (.ins C dx (putF f (.ref p) fs)))) : sFld K ta te f D σ H :=
  s_fldP (P := fun p H1 => H1 p = some (.lst xs)) (fun _ _ _ h e => e _ _ h) (fun H1 e Q q => hv H1 e Q q) hx h c n hl k
theorem q_fldL (hv : EvL te σ H xs) (hx : Ev ta σ H (.ref x)) (h : H x = some (.ins C dx fs)) (c : Cls K C) (n : NoAttr K C f) (hl : fs.length < 1000) (k : ∀ p H1, H p = none → Ex H H1 → H1 p = some (.lst xs) → tz D σ (upd H1 x (.ins C dx (putF f (.ref p) fs)))) : tSeq (sFld K ta te f) tz D σ H := s_fldL (D := { D with nx := tz D }) hv hx h c n hl k
/-- C(..) -/
theorem ep_make {sp : Sp} {E : XK} {tg : TA} {vs : List V} {P : Addr → Hp → Prop} (h : EvA tg σ H vs) (hs : ∀ (H1 H0 : Hp) (x dx : Addr), Ex H H1 → Ex H1 H0 → H1 x = none → H0 x = some (.ins C dx []) → ∀ (Q : VK) (E : XK), (∀ H', Ch x H0 H' → P x H' → Q .non H') → sp (.ref x :: vs) H0 Q E) : EvP (tMake C sp [] E tg) σ H P := fun H0 e0 Q q =>
  h H0 e0 _ fun H1 e1 x dx hx hdx hne => by
    rw [List.append_nil]
    have ex : Ex H1 (upd (upd H1 dx (.own x)) x (.ins C dx [])) := Ex.mut (Ex.new hdx) hx
    refine hs H1 _ x dx (e0.trans e1) ex hx upd_same _ E fun H' hc hP => ⟨rfl, q x H' (fresh_back e1 hx) (e1.trans fun b o hb => hc.keep b o (ne_of_none hb hx) (ex b o hb)) hP⟩
/-- [C(..)], and behind a list -/
def OneP (P : Addr → Hp → Prop) (pre : List V) : Addr → Hp → Prop := fun l H => ∃ x, H l = some (.lst (pre ++ [.ref x])) ∧ P x H
theorem ep_one {P : Addr → Hp → Prop} (hP : ∀ p H1 H2, P p H1 → Ex H1 H2 → P p H2) (h : EvP te σ H P) : EvP (tLst (tCons te tNil)) σ H (OneP P []) := fun H0 e0 Q q =>
  h H0 e0 _ fun x H1 hx e1 hx1 => ⟨by show 1 ≤ sizeLine; decide, fun l hl => q l _ (fresh_back e1 hl) (e1.trans (Ex.new hl)) ⟨x, upd_same, hP _ _ _ hx1 (Ex.new hl)⟩⟩
theorem ep_catP {P : Addr → Hp → Prop} {a : Addr} {tb : TE} (hP : ∀ p H1 H2, P p H1 → Ex H1 H2 → P p H2) (ha : Ev ta σ H (.ref a)) (h : H a = some (.lst xs)) (hb : EvP tb σ H (OneP P [])) (hz : xs.length + 1 ≤ 100000) : EvP (tOp rCat ta tb) σ H (OneP P xs) := fun H1 e Q q =>
  ha H1 e _ fun H2 e2 => hb H2 (e.trans e2) _ fun b H3 hb3 e3 ⟨x, h3, h4⟩ => ⟨a, b, xs, [.ref x], rfl, rfl, ((e.trans e2).trans e3) a _ h, h3, sz_of hz, fun r hr => q r _ (fresh_back (e2.trans e3) hr) ((e2.trans e3).trans (Ex.new hr)) ⟨x, upd_same, hP _ _ _ h4 (Ex.new hr)⟩⟩
end

theorem put_givers (p : DA) (d : Desk) (x : Addr) : putF "givers" (.ref x) (dF p d) = dF { p with g := x } d := rfl
theorem put_runs (p : DA) (d : Desk) (x : Addr) : putF "runs" (.ref x) (dF p d) = dF { p with r := x } d := rfl
theorem put_waited (p : DA) (d : Desk) (x : Addr) : putF "waited" (.ref x) (dF p d) = dF { p with w := x } d := rfl
theorem put_absent (p : DA) (d : Desk) (x : Addr) : putF "absent" (.ref x) (dF p d) = dF { p with a := x } d := rfl
theorem put_gave (p : DA) (d : Desk) (x : Addr) : putF "gave" (.ref x) (dF p d) = dF { p with gv := x } d := rfl
theorem put_gave_ever (p : DA) (d : Desk) (x : Addr) : putF "gave_ever" (.ref x) (dF p d) = dF { p with ge := x } d := rfl
theorem put_orders (p : DA) (d : Desk) (x : Addr) : putF "orders" (.ref x) (dF p d) = dF { p with o := x } d := rfl
theorem put_taken_back (p : DA) (d : Desk) (x : Addr) : putF "taken_back" (.ref x) (dF p d) = dF { p with tb := x } d := rfl
theorem put_in_force_for (p : DA) (d : Desk) (x : Addr) : putF "in_force_for" (.ref x) (dF p d) = dF { p with ff := x } d := rfl
theorem put_losses (p : DA) (d : Desk) (x : Addr) : putF "losses" (.ref x) (dF p d) = dF { p with ls := x } d := rfl
theorem put_up (p : DA) (d : Desk) (n : Nat) : putF "up" (nv n) (dF p d) = dF p { d with up := n } := rfl
theorem put_down (p : DA) (d : Desk) (n : Nat) : putF "down" (nv n) (dF p d) = dF p { d with down := n } := rfl
theorem put_rule (p : DA) (d : Desk) (n : Nat) : putF "rule" (nv n) (dF p d) = dF p { d with rule := n } := rfl
theorem put_quarter (p : DA) (d : Desk) (n : Nat) : putF "quarter" (nv n) (dF p d) = dF p { d with now := n } := rfl
theorem put_could_ever (p : DA) (d : Desk) (n : Nat) : putF "could_ever" (nv n) (dF p d) = dF p { d with could := n } := rfl
theorem dF_few (p : DA) (d : Desk) : (dF p d).length < 1000 := by show 15 < 1000; decide
end Pp
end
section
set_option Elab.async false
set_option linter.all false
set_option maxRecDepth 100000
set_option maxHeartbeats 2000000
namespace Pp
open PySem PySem.Spec PyProof.Rows L2 Evl VwHand LamX NdefX
open HdSpec (Desk Stand Order inForce broughtDown forces limitsBut kindsOf worthsOf lastsOf inScope ownLoss standsAt couldsAt partedBy quarterOn Answer)
/-! ### objects made -/
def sp_Giver (K : PySem.W.Frag) (C : Addr) : Sp := fun vs H Q _ => ∃ (x dx t : Addr) (g : PG), vs = [.ref x, nv g.kind, nv g.most, nv g.start, nv g.stop, nv g.wait, nv g.up, nv g.worth, .ref t] ∧ H x = some (.ins C dx []) ∧ ∀ H', Ch x H H' → H' x = some (.ins C dx (gF g t)) → Q .non H'
theorem pure_Giver__init__ {K : PySem.W.Frag} {C : Addr} (c : CG K C) {vs : List V} {H : Hp} {Q : VK} {E : XK} (h : sp_Giver K C vs H Q E) : t_Giver__init__ K { nx := fun _ H' => Q .non H', rt := Q } (L2.start ["self", "kind", "most", "start", "stop", "wait", "up", "worth", "table"] vs) H := by
  obtain ⟨x, dx, t, g, rfl, h0, k⟩ := h
  refine q_fld (ev_var rfl) (ev_var rfl) h0 c.cl c.kind (by show 0 < 1000; decide) fun H1 e1 => ?_
  have c1 := ((Ch.refl x H).then e1).put (o := .ins C dx ((gF g t).take 1)) (e1 _ _ h0)
  have k1 : (upd H1 x (.ins C dx ((gF g t).take 1))) x = _ := upd_same
  generalize hK1 : upd H1 x (.ins C dx ((gF g t).take 1)) = J1 at c1 k1
  show tSeq _ _ _ _ (upd H1 x (.ins C dx ((gF g t).take 1)))
  rw [hK1]
  refine q_fld (ev_var rfl) (ev_var rfl) k1 c.cl c.most (by show 1 < 1000; decide) fun H2 e2 => ?_
  have c2 := (c1.then e2).put (o := .ins C dx ((gF g t).take 2)) (e2 _ _ k1)
  have k2 : (upd H2 x (.ins C dx ((gF g t).take 2))) x = _ := upd_same
  generalize hK2 : upd H2 x (.ins C dx ((gF g t).take 2)) = J2 at c2 k2
  show tSeq _ _ _ _ (upd H2 x (.ins C dx ((gF g t).take 2)))
  rw [hK2]
  refine q_fld (ev_var rfl) (ev_var rfl) k2 c.cl c.start (by show 2 < 1000; decide) fun H3 e3 => ?_
  have c3 := (c2.then e3).put (o := .ins C dx ((gF g t).take 3)) (e3 _ _ k2)
  have k3 : (upd H3 x (.ins C dx ((gF g t).take 3))) x = _ := upd_same
  generalize hK3 : upd H3 x (.ins C dx ((gF g t).take 3)) = J3 at c3 k3
  show tSeq _ _ _ _ (upd H3 x (.ins C dx ((gF g t).take 3)))
  rw [hK3]
  refine q_fld (ev_var rfl) (ev_var rfl) k3 c.cl c.stop (by show 3 < 1000; decide) fun H4 e4 => ?_
  have c4 := (c3.then e4).put (o := .ins C dx ((gF g t).take 4)) (e4 _ _ k3)
  have k4 : (upd H4 x (.ins C dx ((gF g t).take 4))) x = _ := upd_same
  generalize hK4 : upd H4 x (.ins C dx ((gF g t).take 4)) = J4 at c4 k4
  show tSeq _ _ _ _ (upd H4 x (.ins C dx ((gF g t).take 4)))
  rw [hK4]
  refine q_fld (ev_var rfl) (ev_var rfl) k4 c.cl c.wait (by show 4 < 1000; decide) fun H5 e5 => ?_
  have c5 := (c4.then e5).put (o := .ins C dx ((gF g t).take 5)) (e5 _ _ k4)
  have k5 : (upd H5 x (.ins C dx ((gF g t).take 5))) x = _ := upd_same
  generalize hK5 : upd H5 x (.ins C dx ((gF g t).take 5)) = J5 at c5 k5
  show tSeq _ _ _ _ (upd H5 x (.ins C dx ((gF g t).take 5)))
  rw [hK5]
  refine q_fld (ev_var rfl) (ev_var rfl) k5 c.cl c.up (by show 5 < 1000; decide) fun H6 e6 => ?_
  have c6 := (c5.then e6).put (o := .ins C dx ((gF g t).take 6)) (e6 _ _ k5)
  have k6 : (upd H6 x (.ins C dx ((gF g t).take 6))) x = _ := upd_same
  generalize hK6 : upd H6 x (.ins C dx ((gF g t).take 6)) = J6 at c6 k6
  show tSeq _ _ _ _ (upd H6 x (.ins C dx ((gF g t).take 6)))
  rw [hK6]
  refine q_fld (ev_var rfl) (ev_var rfl) k6 c.cl c.worth (by show 6 < 1000; decide) fun H7 e7 => ?_
  have c7 := (c6.then e7).put (o := .ins C dx ((gF g t).take 7)) (e7 _ _ k6)
  have k7 : (upd H7 x (.ins C dx ((gF g t).take 7))) x = _ := upd_same
  generalize hK7 : upd H7 x (.ins C dx ((gF g t).take 7)) = J7 at c7 k7
  show sFld K _ _ _ _ _ (upd H7 x (.ins C dx ((gF g t).take 7)))
  rw [hK7]
  refine s_fld (ev_var rfl) (ev_var rfl) k7 c.cl c.table (by show 7 < 1000; decide) fun H8 e8 => ?_
  have c8 := (c7.then e8).put (o := .ins C dx ((gF g t).take 8)) (e8 _ _ k7)
  exact k _ c8 upd_same
def sp_Order (K : PySem.W.Frag) (C : Addr) : Sp := fun vs H Q _ => ∃ (x dx : Addr) (r : Order), vs = [.ref x, nv r.scope, nv r.first, nv r.end_, nv r.limit, nv r.came] ∧ H x = some (.ins C dx []) ∧ ∀ H', Ch x H H' → H' x = some (.ins C dx (oF r)) → Q .non H'
theorem pure_Order__init__ {K : PySem.W.Frag} {C : Addr} (c : CO K C) {vs : List V} {H : Hp} {Q : VK} {E : XK} (h : sp_Order K C vs H Q E) : t_Order__init__ K { nx := fun _ H' => Q .non H', rt := Q } (L2.start ["self", "scope", "first", "end", "limit", "came"] vs) H := by
  obtain ⟨x, dx, r, rfl, h0, k⟩ := h
  refine q_fld (ev_var rfl) (ev_var rfl) h0 c.cl c.scope (by show 0 < 1000; decide) fun H1 e1 => ?_
  have c1 := ((Ch.refl x H).then e1).put (o := .ins C dx ((oF r).take 1)) (e1 _ _ h0)
  have k1 : (upd H1 x (.ins C dx ((oF r).take 1))) x = _ := upd_same
  generalize hK1 : upd H1 x (.ins C dx ((oF r).take 1)) = J1 at c1 k1
  show tSeq _ _ _ _ (upd H1 x (.ins C dx ((oF r).take 1)))
  rw [hK1]
  refine q_fld (ev_var rfl) (ev_var rfl) k1 c.cl c.first (by show 1 < 1000; decide) fun H2 e2 => ?_
  have c2 := (c1.then e2).put (o := .ins C dx ((oF r).take 2)) (e2 _ _ k1)
  have k2 : (upd H2 x (.ins C dx ((oF r).take 2))) x = _ := upd_same
  generalize hK2 : upd H2 x (.ins C dx ((oF r).take 2)) = J2 at c2 k2
  show tSeq _ _ _ _ (upd H2 x (.ins C dx ((oF r).take 2)))
  rw [hK2]
  refine q_fld (ev_var rfl) (ev_var rfl) k2 c.cl c.end_ (by show 2 < 1000; decide) fun H3 e3 => ?_
  have c3 := (c2.then e3).put (o := .ins C dx ((oF r).take 3)) (e3 _ _ k2)
  have k3 : (upd H3 x (.ins C dx ((oF r).take 3))) x = _ := upd_same
  generalize hK3 : upd H3 x (.ins C dx ((oF r).take 3)) = J3 at c3 k3
  show tSeq _ _ _ _ (upd H3 x (.ins C dx ((oF r).take 3)))
  rw [hK3]
  refine q_fld (ev_var rfl) (ev_var rfl) k3 c.cl c.limit (by show 3 < 1000; decide) fun H4 e4 => ?_
  have c4 := (c3.then e4).put (o := .ins C dx ((oF r).take 4)) (e4 _ _ k3)
  have k4 : (upd H4 x (.ins C dx ((oF r).take 4))) x = _ := upd_same
  generalize hK4 : upd H4 x (.ins C dx ((oF r).take 4)) = J4 at c4 k4
  show sFld K _ _ _ _ _ (upd H4 x (.ins C dx ((oF r).take 4)))
  rw [hK4]
  refine s_fld (ev_var rfl) (ev_var rfl) k4 c.cl c.came (by show 4 < 1000; decide) fun H5 e5 => ?_
  have c5 := (c4.then e5).put (o := .ins C dx ((oF r).take 5)) (e5 _ _ k4)
  exact k _ c5 upd_same
/-- a new desk stands at x -/
def NewD (K : PySem.W.Frag) (C : Cs) (x : Addr) (H : Hp) : Prop := DeskAt K C H x HdSpec.fresh
theorem newD_in {K : PySem.W.Frag} {C : Cs} {H : Hp} {p : DA} (hg : H p.g = some (.lst [])) (hr : H p.r = some (.lst [])) (hw : H p.w = some (.lst [])) (ha : H p.a = some (.lst [])) (hgv : H p.gv = some (.lst [])) (hge : H p.ge = some (.lst [])) (ho : H p.o = some (.lst [])) (htb : H p.tb = some (.lst [])) (hff : H p.ff = some (.lst [])) (hls : H p.ls = some (.lst [])) : DeskIn K C H p HdSpec.fresh :=
  ⟨⟨⟨[], hg, rfl, fun i a g h => (by simp at h)⟩⟩, hr, hw, ha, hgv, hge, ⟨⟨[], ho, rfl, fun i a g h => (by simp at h)⟩⟩, htb, hff, hls, fresh_ok⟩
def sp_Desk (K : PySem.W.Frag) (C : Cs) : Sp := fun vs H Q _ => ∃ (x dx : Addr), vs = [.ref x] ∧ H x = some (.ins C.D dx []) ∧ ∀ H', Ch x H H' → DeskAt K C (cut (fun b => H b ≠ none ∧ b ≠ x) H') x HdSpec.fresh → Q .non H'
theorem pure_Desk__init__ {K : PySem.W.Frag} {C : Cs} (c : CD K C.D) {vs : List V} {H : Hp} {Q : VK} {E : XK} (h : sp_Desk K C vs H Q E) : t_Desk__init__ K { nx := fun _ H' => Q .non H', rt := Q } (L2.start ["self"] vs) H := by
  obtain ⟨x, dx, rfl, h0, k⟩ := h
  refine q_fldL (xs := []) (el_lst ea_nil (by decide)) (ev_var rfl) h0 c.cl c.givers (by show 0 < 1000; decide) fun a1 H1 n1 e1 l1 => ?_
  have c1 := ((Ch.refl x H).then e1).put (o := .ins C.D dx [(("givers" : Str), V.ref a1)]) (e1 _ _ h0)
  have m1 : a1 ≠ x := (ne_of_none h0 n1).symm
  have q1_1 : (upd H1 x (.ins C.D dx [(("givers" : Str), V.ref a1)])) a1 = some (.lst []) := by rw [upd_ne m1]; exact l1
  have k1 : (upd H1 x (.ins C.D dx [(("givers" : Str), V.ref a1)])) x = _ := upd_same
  generalize hK1 : upd H1 x (.ins C.D dx [(("givers" : Str), V.ref a1)]) = J1 at c1 k1 q1_1
  show tSeq _ _ _ _ (upd H1 x (.ins C.D dx [(("givers" : Str), V.ref a1)]))
  rw [hK1]
  refine q_fldL (xs := []) (el_lst ea_nil (by decide)) (ev_var rfl) k1 c.cl c.runs (by show 1 < 1000; decide) fun a2 H2 n2 e2 l2 => ?_
  have c2 := (c1.then e2).put (o := .ins C.D dx [(("givers" : Str), V.ref a1), (("runs" : Str), V.ref a2)]) (e2 _ _ k1)
  have m2 : a2 ≠ x := (ne_of_none k1 n2).symm
  have q2_1 : (upd H2 x (.ins C.D dx [(("givers" : Str), V.ref a1), (("runs" : Str), V.ref a2)])) a1 = some (.lst []) := by rw [upd_ne m1]; exact e2 _ _ q1_1
  have q2_2 : (upd H2 x (.ins C.D dx [(("givers" : Str), V.ref a1), (("runs" : Str), V.ref a2)])) a2 = some (.lst []) := by rw [upd_ne m2]; exact l2
  have k2 : (upd H2 x (.ins C.D dx [(("givers" : Str), V.ref a1), (("runs" : Str), V.ref a2)])) x = _ := upd_same
  generalize hK2 : upd H2 x (.ins C.D dx [(("givers" : Str), V.ref a1), (("runs" : Str), V.ref a2)]) = J2 at c2 k2 q2_1 q2_2
  show tSeq _ _ _ _ (upd H2 x (.ins C.D dx [(("givers" : Str), V.ref a1), (("runs" : Str), V.ref a2)]))
  rw [hK2]
  refine q_fldL (xs := []) (el_lst ea_nil (by decide)) (ev_var rfl) k2 c.cl c.waited (by show 2 < 1000; decide) fun a3 H3 n3 e3 l3 => ?_
  have c3 := (c2.then e3).put (o := .ins C.D dx [(("givers" : Str), V.ref a1), (("runs" : Str), V.ref a2), (("waited" : Str), V.ref a3)]) (e3 _ _ k2)
  have m3 : a3 ≠ x := (ne_of_none k2 n3).symm
  have q3_1 : (upd H3 x (.ins C.D dx [(("givers" : Str), V.ref a1), (("runs" : Str), V.ref a2), (("waited" : Str), V.ref a3)])) a1 = some (.lst []) := by rw [upd_ne m1]; exact e3 _ _ q2_1
  have q3_2 : (upd H3 x (.ins C.D dx [(("givers" : Str), V.ref a1), (("runs" : Str), V.ref a2), (("waited" : Str), V.ref a3)])) a2 = some (.lst []) := by rw [upd_ne m2]; exact e3 _ _ q2_2
  have q3_3 : (upd H3 x (.ins C.D dx [(("givers" : Str), V.ref a1), (("runs" : Str), V.ref a2), (("waited" : Str), V.ref a3)])) a3 = some (.lst []) := by rw [upd_ne m3]; exact l3
  have k3 : (upd H3 x (.ins C.D dx [(("givers" : Str), V.ref a1), (("runs" : Str), V.ref a2), (("waited" : Str), V.ref a3)])) x = _ := upd_same
  generalize hK3 : upd H3 x (.ins C.D dx [(("givers" : Str), V.ref a1), (("runs" : Str), V.ref a2), (("waited" : Str), V.ref a3)]) = J3 at c3 k3 q3_1 q3_2 q3_3
  show tSeq _ _ _ _ (upd H3 x (.ins C.D dx [(("givers" : Str), V.ref a1), (("runs" : Str), V.ref a2), (("waited" : Str), V.ref a3)]))
  rw [hK3]
  refine q_fldL (xs := []) (el_lst ea_nil (by decide)) (ev_var rfl) k3 c.cl c.absent (by show 3 < 1000; decide) fun a4 H4 n4 e4 l4 => ?_
  have c4 := (c3.then e4).put (o := .ins C.D dx [(("givers" : Str), V.ref a1), (("runs" : Str), V.ref a2), (("waited" : Str), V.ref a3), (("absent" : Str), V.ref a4)]) (e4 _ _ k3)
  have m4 : a4 ≠ x := (ne_of_none k3 n4).symm
  have q4_1 : (upd H4 x (.ins C.D dx [(("givers" : Str), V.ref a1), (("runs" : Str), V.ref a2), (("waited" : Str), V.ref a3), (("absent" : Str), V.ref a4)])) a1 = some (.lst []) := by rw [upd_ne m1]; exact e4 _ _ q3_1
  have q4_2 : (upd H4 x (.ins C.D dx [(("givers" : Str), V.ref a1), (("runs" : Str), V.ref a2), (("waited" : Str), V.ref a3), (("absent" : Str), V.ref a4)])) a2 = some (.lst []) := by rw [upd_ne m2]; exact e4 _ _ q3_2
  have q4_3 : (upd H4 x (.ins C.D dx [(("givers" : Str), V.ref a1), (("runs" : Str), V.ref a2), (("waited" : Str), V.ref a3), (("absent" : Str), V.ref a4)])) a3 = some (.lst []) := by rw [upd_ne m3]; exact e4 _ _ q3_3
  have q4_4 : (upd H4 x (.ins C.D dx [(("givers" : Str), V.ref a1), (("runs" : Str), V.ref a2), (("waited" : Str), V.ref a3), (("absent" : Str), V.ref a4)])) a4 = some (.lst []) := by rw [upd_ne m4]; exact l4
  have k4 : (upd H4 x (.ins C.D dx [(("givers" : Str), V.ref a1), (("runs" : Str), V.ref a2), (("waited" : Str), V.ref a3), (("absent" : Str), V.ref a4)])) x = _ := upd_same
  generalize hK4 : upd H4 x (.ins C.D dx [(("givers" : Str), V.ref a1), (("runs" : Str), V.ref a2), (("waited" : Str), V.ref a3), (("absent" : Str), V.ref a4)]) = J4 at c4 k4 q4_1 q4_2 q4_3 q4_4
  show tSeq _ _ _ _ (upd H4 x (.ins C.D dx [(("givers" : Str), V.ref a1), (("runs" : Str), V.ref a2), (("waited" : Str), V.ref a3), (("absent" : Str), V.ref a4)]))
  rw [hK4]
  refine q_fldL (xs := []) (el_lst ea_nil (by decide)) (ev_var rfl) k4 c.cl c.gave (by show 4 < 1000; decide) fun a5 H5 n5 e5 l5 => ?_
  have c5 := (c4.then e5).put (o := .ins C.D dx [(("givers" : Str), V.ref a1), (("runs" : Str), V.ref a2), (("waited" : Str), V.ref a3), (("absent" : Str), V.ref a4), (("gave" : Str), V.ref a5)]) (e5 _ _ k4)
  have m5 : a5 ≠ x := (ne_of_none k4 n5).symm
  have q5_1 : (upd H5 x (.ins C.D dx [(("givers" : Str), V.ref a1), (("runs" : Str), V.ref a2), (("waited" : Str), V.ref a3), (("absent" : Str), V.ref a4), (("gave" : Str), V.ref a5)])) a1 = some (.lst []) := by rw [upd_ne m1]; exact e5 _ _ q4_1
  have q5_2 : (upd H5 x (.ins C.D dx [(("givers" : Str), V.ref a1), (("runs" : Str), V.ref a2), (("waited" : Str), V.ref a3), (("absent" : Str), V.ref a4), (("gave" : Str), V.ref a5)])) a2 = some (.lst []) := by rw [upd_ne m2]; exact e5 _ _ q4_2
  have q5_3 : (upd H5 x (.ins C.D dx [(("givers" : Str), V.ref a1), (("runs" : Str), V.ref a2), (("waited" : Str), V.ref a3), (("absent" : Str), V.ref a4), (("gave" : Str), V.ref a5)])) a3 = some (.lst []) := by rw [upd_ne m3]; exact e5 _ _ q4_3
  have q5_4 : (upd H5 x (.ins C.D dx [(("givers" : Str), V.ref a1), (("runs" : Str), V.ref a2), (("waited" : Str), V.ref a3), (("absent" : Str), V.ref a4), (("gave" : Str), V.ref a5)])) a4 = some (.lst []) := by rw [upd_ne m4]; exact e5 _ _ q4_4
  have q5_5 : (upd H5 x (.ins C.D dx [(("givers" : Str), V.ref a1), (("runs" : Str), V.ref a2), (("waited" : Str), V.ref a3), (("absent" : Str), V.ref a4), (("gave" : Str), V.ref a5)])) a5 = some (.lst []) := by rw [upd_ne m5]; exact l5
  have k5 : (upd H5 x (.ins C.D dx [(("givers" : Str), V.ref a1), (("runs" : Str), V.ref a2), (("waited" : Str), V.ref a3), (("absent" : Str), V.ref a4), (("gave" : Str), V.ref a5)])) x = _ := upd_same
  generalize hK5 : upd H5 x (.ins C.D dx [(("givers" : Str), V.ref a1), (("runs" : Str), V.ref a2), (("waited" : Str), V.ref a3), (("absent" : Str), V.ref a4), (("gave" : Str), V.ref a5)]) = J5 at c5 k5 q5_1 q5_2 q5_3 q5_4 q5_5
  show tSeq _ _ _ _ (upd H5 x (.ins C.D dx [(("givers" : Str), V.ref a1), (("runs" : Str), V.ref a2), (("waited" : Str), V.ref a3), (("absent" : Str), V.ref a4), (("gave" : Str), V.ref a5)]))
  rw [hK5]
  refine q_fldL (xs := []) (el_lst ea_nil (by decide)) (ev_var rfl) k5 c.cl c.gave_ever (by show 5 < 1000; decide) fun a6 H6 n6 e6 l6 => ?_
  have c6 := (c5.then e6).put (o := .ins C.D dx [(("givers" : Str), V.ref a1), (("runs" : Str), V.ref a2), (("waited" : Str), V.ref a3), (("absent" : Str), V.ref a4), (("gave" : Str), V.ref a5), (("gave_ever" : Str), V.ref a6)]) (e6 _ _ k5)
  have m6 : a6 ≠ x := (ne_of_none k5 n6).symm
  have q6_1 : (upd H6 x (.ins C.D dx [(("givers" : Str), V.ref a1), (("runs" : Str), V.ref a2), (("waited" : Str), V.ref a3), (("absent" : Str), V.ref a4), (("gave" : Str), V.ref a5), (("gave_ever" : Str), V.ref a6)])) a1 = some (.lst []) := by rw [upd_ne m1]; exact e6 _ _ q5_1
  have q6_2 : (upd H6 x (.ins C.D dx [(("givers" : Str), V.ref a1), (("runs" : Str), V.ref a2), (("waited" : Str), V.ref a3), (("absent" : Str), V.ref a4), (("gave" : Str), V.ref a5), (("gave_ever" : Str), V.ref a6)])) a2 = some (.lst []) := by rw [upd_ne m2]; exact e6 _ _ q5_2
  have q6_3 : (upd H6 x (.ins C.D dx [(("givers" : Str), V.ref a1), (("runs" : Str), V.ref a2), (("waited" : Str), V.ref a3), (("absent" : Str), V.ref a4), (("gave" : Str), V.ref a5), (("gave_ever" : Str), V.ref a6)])) a3 = some (.lst []) := by rw [upd_ne m3]; exact e6 _ _ q5_3
  have q6_4 : (upd H6 x (.ins C.D dx [(("givers" : Str), V.ref a1), (("runs" : Str), V.ref a2), (("waited" : Str), V.ref a3), (("absent" : Str), V.ref a4), (("gave" : Str), V.ref a5), (("gave_ever" : Str), V.ref a6)])) a4 = some (.lst []) := by rw [upd_ne m4]; exact e6 _ _ q5_4
  have q6_5 : (upd H6 x (.ins C.D dx [(("givers" : Str), V.ref a1), (("runs" : Str), V.ref a2), (("waited" : Str), V.ref a3), (("absent" : Str), V.ref a4), (("gave" : Str), V.ref a5), (("gave_ever" : Str), V.ref a6)])) a5 = some (.lst []) := by rw [upd_ne m5]; exact e6 _ _ q5_5
  have q6_6 : (upd H6 x (.ins C.D dx [(("givers" : Str), V.ref a1), (("runs" : Str), V.ref a2), (("waited" : Str), V.ref a3), (("absent" : Str), V.ref a4), (("gave" : Str), V.ref a5), (("gave_ever" : Str), V.ref a6)])) a6 = some (.lst []) := by rw [upd_ne m6]; exact l6
  have k6 : (upd H6 x (.ins C.D dx [(("givers" : Str), V.ref a1), (("runs" : Str), V.ref a2), (("waited" : Str), V.ref a3), (("absent" : Str), V.ref a4), (("gave" : Str), V.ref a5), (("gave_ever" : Str), V.ref a6)])) x = _ := upd_same
  generalize hK6 : upd H6 x (.ins C.D dx [(("givers" : Str), V.ref a1), (("runs" : Str), V.ref a2), (("waited" : Str), V.ref a3), (("absent" : Str), V.ref a4), (("gave" : Str), V.ref a5), (("gave_ever" : Str), V.ref a6)]) = J6 at c6 k6 q6_1 q6_2 q6_3 q6_4 q6_5 q6_6
  show tSeq _ _ _ _ (upd H6 x (.ins C.D dx [(("givers" : Str), V.ref a1), (("runs" : Str), V.ref a2), (("waited" : Str), V.ref a3), (("absent" : Str), V.ref a4), (("gave" : Str), V.ref a5), (("gave_ever" : Str), V.ref a6)]))
  rw [hK6]
  refine q_fldL (xs := []) (el_lst ea_nil (by decide)) (ev_var rfl) k6 c.cl c.orders (by show 6 < 1000; decide) fun a7 H7 n7 e7 l7 => ?_
  have c7 := (c6.then e7).put (o := .ins C.D dx [(("givers" : Str), V.ref a1), (("runs" : Str), V.ref a2), (("waited" : Str), V.ref a3), (("absent" : Str), V.ref a4), (("gave" : Str), V.ref a5), (("gave_ever" : Str), V.ref a6), (("orders" : Str), V.ref a7)]) (e7 _ _ k6)
  have m7 : a7 ≠ x := (ne_of_none k6 n7).symm
  have q7_1 : (upd H7 x (.ins C.D dx [(("givers" : Str), V.ref a1), (("runs" : Str), V.ref a2), (("waited" : Str), V.ref a3), (("absent" : Str), V.ref a4), (("gave" : Str), V.ref a5), (("gave_ever" : Str), V.ref a6), (("orders" : Str), V.ref a7)])) a1 = some (.lst []) := by rw [upd_ne m1]; exact e7 _ _ q6_1
  have q7_2 : (upd H7 x (.ins C.D dx [(("givers" : Str), V.ref a1), (("runs" : Str), V.ref a2), (("waited" : Str), V.ref a3), (("absent" : Str), V.ref a4), (("gave" : Str), V.ref a5), (("gave_ever" : Str), V.ref a6), (("orders" : Str), V.ref a7)])) a2 = some (.lst []) := by rw [upd_ne m2]; exact e7 _ _ q6_2
  have q7_3 : (upd H7 x (.ins C.D dx [(("givers" : Str), V.ref a1), (("runs" : Str), V.ref a2), (("waited" : Str), V.ref a3), (("absent" : Str), V.ref a4), (("gave" : Str), V.ref a5), (("gave_ever" : Str), V.ref a6), (("orders" : Str), V.ref a7)])) a3 = some (.lst []) := by rw [upd_ne m3]; exact e7 _ _ q6_3
  have q7_4 : (upd H7 x (.ins C.D dx [(("givers" : Str), V.ref a1), (("runs" : Str), V.ref a2), (("waited" : Str), V.ref a3), (("absent" : Str), V.ref a4), (("gave" : Str), V.ref a5), (("gave_ever" : Str), V.ref a6), (("orders" : Str), V.ref a7)])) a4 = some (.lst []) := by rw [upd_ne m4]; exact e7 _ _ q6_4
  have q7_5 : (upd H7 x (.ins C.D dx [(("givers" : Str), V.ref a1), (("runs" : Str), V.ref a2), (("waited" : Str), V.ref a3), (("absent" : Str), V.ref a4), (("gave" : Str), V.ref a5), (("gave_ever" : Str), V.ref a6), (("orders" : Str), V.ref a7)])) a5 = some (.lst []) := by rw [upd_ne m5]; exact e7 _ _ q6_5
  have q7_6 : (upd H7 x (.ins C.D dx [(("givers" : Str), V.ref a1), (("runs" : Str), V.ref a2), (("waited" : Str), V.ref a3), (("absent" : Str), V.ref a4), (("gave" : Str), V.ref a5), (("gave_ever" : Str), V.ref a6), (("orders" : Str), V.ref a7)])) a6 = some (.lst []) := by rw [upd_ne m6]; exact e7 _ _ q6_6
  have q7_7 : (upd H7 x (.ins C.D dx [(("givers" : Str), V.ref a1), (("runs" : Str), V.ref a2), (("waited" : Str), V.ref a3), (("absent" : Str), V.ref a4), (("gave" : Str), V.ref a5), (("gave_ever" : Str), V.ref a6), (("orders" : Str), V.ref a7)])) a7 = some (.lst []) := by rw [upd_ne m7]; exact l7
  have k7 : (upd H7 x (.ins C.D dx [(("givers" : Str), V.ref a1), (("runs" : Str), V.ref a2), (("waited" : Str), V.ref a3), (("absent" : Str), V.ref a4), (("gave" : Str), V.ref a5), (("gave_ever" : Str), V.ref a6), (("orders" : Str), V.ref a7)])) x = _ := upd_same
  generalize hK7 : upd H7 x (.ins C.D dx [(("givers" : Str), V.ref a1), (("runs" : Str), V.ref a2), (("waited" : Str), V.ref a3), (("absent" : Str), V.ref a4), (("gave" : Str), V.ref a5), (("gave_ever" : Str), V.ref a6), (("orders" : Str), V.ref a7)]) = J7 at c7 k7 q7_1 q7_2 q7_3 q7_4 q7_5 q7_6 q7_7
  show tSeq _ _ _ _ (upd H7 x (.ins C.D dx [(("givers" : Str), V.ref a1), (("runs" : Str), V.ref a2), (("waited" : Str), V.ref a3), (("absent" : Str), V.ref a4), (("gave" : Str), V.ref a5), (("gave_ever" : Str), V.ref a6), (("orders" : Str), V.ref a7)]))
  rw [hK7]
  refine q_fldL (xs := []) (el_lst ea_nil (by decide)) (ev_var rfl) k7 c.cl c.taken_back (by show 7 < 1000; decide) fun a8 H8 n8 e8 l8 => ?_
  have c8 := (c7.then e8).put (o := .ins C.D dx [(("givers" : Str), V.ref a1), (("runs" : Str), V.ref a2), (("waited" : Str), V.ref a3), (("absent" : Str), V.ref a4), (("gave" : Str), V.ref a5), (("gave_ever" : Str), V.ref a6), (("orders" : Str), V.ref a7), (("taken_back" : Str), V.ref a8)]) (e8 _ _ k7)
  have m8 : a8 ≠ x := (ne_of_none k7 n8).symm
  have q8_1 : (upd H8 x (.ins C.D dx [(("givers" : Str), V.ref a1), (("runs" : Str), V.ref a2), (("waited" : Str), V.ref a3), (("absent" : Str), V.ref a4), (("gave" : Str), V.ref a5), (("gave_ever" : Str), V.ref a6), (("orders" : Str), V.ref a7), (("taken_back" : Str), V.ref a8)])) a1 = some (.lst []) := by rw [upd_ne m1]; exact e8 _ _ q7_1
  have q8_2 : (upd H8 x (.ins C.D dx [(("givers" : Str), V.ref a1), (("runs" : Str), V.ref a2), (("waited" : Str), V.ref a3), (("absent" : Str), V.ref a4), (("gave" : Str), V.ref a5), (("gave_ever" : Str), V.ref a6), (("orders" : Str), V.ref a7), (("taken_back" : Str), V.ref a8)])) a2 = some (.lst []) := by rw [upd_ne m2]; exact e8 _ _ q7_2
  have q8_3 : (upd H8 x (.ins C.D dx [(("givers" : Str), V.ref a1), (("runs" : Str), V.ref a2), (("waited" : Str), V.ref a3), (("absent" : Str), V.ref a4), (("gave" : Str), V.ref a5), (("gave_ever" : Str), V.ref a6), (("orders" : Str), V.ref a7), (("taken_back" : Str), V.ref a8)])) a3 = some (.lst []) := by rw [upd_ne m3]; exact e8 _ _ q7_3
  have q8_4 : (upd H8 x (.ins C.D dx [(("givers" : Str), V.ref a1), (("runs" : Str), V.ref a2), (("waited" : Str), V.ref a3), (("absent" : Str), V.ref a4), (("gave" : Str), V.ref a5), (("gave_ever" : Str), V.ref a6), (("orders" : Str), V.ref a7), (("taken_back" : Str), V.ref a8)])) a4 = some (.lst []) := by rw [upd_ne m4]; exact e8 _ _ q7_4
  have q8_5 : (upd H8 x (.ins C.D dx [(("givers" : Str), V.ref a1), (("runs" : Str), V.ref a2), (("waited" : Str), V.ref a3), (("absent" : Str), V.ref a4), (("gave" : Str), V.ref a5), (("gave_ever" : Str), V.ref a6), (("orders" : Str), V.ref a7), (("taken_back" : Str), V.ref a8)])) a5 = some (.lst []) := by rw [upd_ne m5]; exact e8 _ _ q7_5
  have q8_6 : (upd H8 x (.ins C.D dx [(("givers" : Str), V.ref a1), (("runs" : Str), V.ref a2), (("waited" : Str), V.ref a3), (("absent" : Str), V.ref a4), (("gave" : Str), V.ref a5), (("gave_ever" : Str), V.ref a6), (("orders" : Str), V.ref a7), (("taken_back" : Str), V.ref a8)])) a6 = some (.lst []) := by rw [upd_ne m6]; exact e8 _ _ q7_6
  have q8_7 : (upd H8 x (.ins C.D dx [(("givers" : Str), V.ref a1), (("runs" : Str), V.ref a2), (("waited" : Str), V.ref a3), (("absent" : Str), V.ref a4), (("gave" : Str), V.ref a5), (("gave_ever" : Str), V.ref a6), (("orders" : Str), V.ref a7), (("taken_back" : Str), V.ref a8)])) a7 = some (.lst []) := by rw [upd_ne m7]; exact e8 _ _ q7_7
  have q8_8 : (upd H8 x (.ins C.D dx [(("givers" : Str), V.ref a1), (("runs" : Str), V.ref a2), (("waited" : Str), V.ref a3), (("absent" : Str), V.ref a4), (("gave" : Str), V.ref a5), (("gave_ever" : Str), V.ref a6), (("orders" : Str), V.ref a7), (("taken_back" : Str), V.ref a8)])) a8 = some (.lst []) := by rw [upd_ne m8]; exact l8
  have k8 : (upd H8 x (.ins C.D dx [(("givers" : Str), V.ref a1), (("runs" : Str), V.ref a2), (("waited" : Str), V.ref a3), (("absent" : Str), V.ref a4), (("gave" : Str), V.ref a5), (("gave_ever" : Str), V.ref a6), (("orders" : Str), V.ref a7), (("taken_back" : Str), V.ref a8)])) x = _ := upd_same
  generalize hK8 : upd H8 x (.ins C.D dx [(("givers" : Str), V.ref a1), (("runs" : Str), V.ref a2), (("waited" : Str), V.ref a3), (("absent" : Str), V.ref a4), (("gave" : Str), V.ref a5), (("gave_ever" : Str), V.ref a6), (("orders" : Str), V.ref a7), (("taken_back" : Str), V.ref a8)]) = J8 at c8 k8 q8_1 q8_2 q8_3 q8_4 q8_5 q8_6 q8_7 q8_8
  show tSeq _ _ _ _ (upd H8 x (.ins C.D dx [(("givers" : Str), V.ref a1), (("runs" : Str), V.ref a2), (("waited" : Str), V.ref a3), (("absent" : Str), V.ref a4), (("gave" : Str), V.ref a5), (("gave_ever" : Str), V.ref a6), (("orders" : Str), V.ref a7), (("taken_back" : Str), V.ref a8)]))
  rw [hK8]
  refine q_fldL (xs := []) (el_lst ea_nil (by decide)) (ev_var rfl) k8 c.cl c.in_force_for (by show 8 < 1000; decide) fun a9 H9 n9 e9 l9 => ?_
  have c9 := (c8.then e9).put (o := .ins C.D dx [(("givers" : Str), V.ref a1), (("runs" : Str), V.ref a2), (("waited" : Str), V.ref a3), (("absent" : Str), V.ref a4), (("gave" : Str), V.ref a5), (("gave_ever" : Str), V.ref a6), (("orders" : Str), V.ref a7), (("taken_back" : Str), V.ref a8), (("in_force_for" : Str), V.ref a9)]) (e9 _ _ k8)
  have m9 : a9 ≠ x := (ne_of_none k8 n9).symm
  have q9_1 : (upd H9 x (.ins C.D dx [(("givers" : Str), V.ref a1), (("runs" : Str), V.ref a2), (("waited" : Str), V.ref a3), (("absent" : Str), V.ref a4), (("gave" : Str), V.ref a5), (("gave_ever" : Str), V.ref a6), (("orders" : Str), V.ref a7), (("taken_back" : Str), V.ref a8), (("in_force_for" : Str), V.ref a9)])) a1 = some (.lst []) := by rw [upd_ne m1]; exact e9 _ _ q8_1
  have q9_2 : (upd H9 x (.ins C.D dx [(("givers" : Str), V.ref a1), (("runs" : Str), V.ref a2), (("waited" : Str), V.ref a3), (("absent" : Str), V.ref a4), (("gave" : Str), V.ref a5), (("gave_ever" : Str), V.ref a6), (("orders" : Str), V.ref a7), (("taken_back" : Str), V.ref a8), (("in_force_for" : Str), V.ref a9)])) a2 = some (.lst []) := by rw [upd_ne m2]; exact e9 _ _ q8_2
  have q9_3 : (upd H9 x (.ins C.D dx [(("givers" : Str), V.ref a1), (("runs" : Str), V.ref a2), (("waited" : Str), V.ref a3), (("absent" : Str), V.ref a4), (("gave" : Str), V.ref a5), (("gave_ever" : Str), V.ref a6), (("orders" : Str), V.ref a7), (("taken_back" : Str), V.ref a8), (("in_force_for" : Str), V.ref a9)])) a3 = some (.lst []) := by rw [upd_ne m3]; exact e9 _ _ q8_3
  have q9_4 : (upd H9 x (.ins C.D dx [(("givers" : Str), V.ref a1), (("runs" : Str), V.ref a2), (("waited" : Str), V.ref a3), (("absent" : Str), V.ref a4), (("gave" : Str), V.ref a5), (("gave_ever" : Str), V.ref a6), (("orders" : Str), V.ref a7), (("taken_back" : Str), V.ref a8), (("in_force_for" : Str), V.ref a9)])) a4 = some (.lst []) := by rw [upd_ne m4]; exact e9 _ _ q8_4
  have q9_5 : (upd H9 x (.ins C.D dx [(("givers" : Str), V.ref a1), (("runs" : Str), V.ref a2), (("waited" : Str), V.ref a3), (("absent" : Str), V.ref a4), (("gave" : Str), V.ref a5), (("gave_ever" : Str), V.ref a6), (("orders" : Str), V.ref a7), (("taken_back" : Str), V.ref a8), (("in_force_for" : Str), V.ref a9)])) a5 = some (.lst []) := by rw [upd_ne m5]; exact e9 _ _ q8_5
  have q9_6 : (upd H9 x (.ins C.D dx [(("givers" : Str), V.ref a1), (("runs" : Str), V.ref a2), (("waited" : Str), V.ref a3), (("absent" : Str), V.ref a4), (("gave" : Str), V.ref a5), (("gave_ever" : Str), V.ref a6), (("orders" : Str), V.ref a7), (("taken_back" : Str), V.ref a8), (("in_force_for" : Str), V.ref a9)])) a6 = some (.lst []) := by rw [upd_ne m6]; exact e9 _ _ q8_6
  have q9_7 : (upd H9 x (.ins C.D dx [(("givers" : Str), V.ref a1), (("runs" : Str), V.ref a2), (("waited" : Str), V.ref a3), (("absent" : Str), V.ref a4), (("gave" : Str), V.ref a5), (("gave_ever" : Str), V.ref a6), (("orders" : Str), V.ref a7), (("taken_back" : Str), V.ref a8), (("in_force_for" : Str), V.ref a9)])) a7 = some (.lst []) := by rw [upd_ne m7]; exact e9 _ _ q8_7
  have q9_8 : (upd H9 x (.ins C.D dx [(("givers" : Str), V.ref a1), (("runs" : Str), V.ref a2), (("waited" : Str), V.ref a3), (("absent" : Str), V.ref a4), (("gave" : Str), V.ref a5), (("gave_ever" : Str), V.ref a6), (("orders" : Str), V.ref a7), (("taken_back" : Str), V.ref a8), (("in_force_for" : Str), V.ref a9)])) a8 = some (.lst []) := by rw [upd_ne m8]; exact e9 _ _ q8_8
  have q9_9 : (upd H9 x (.ins C.D dx [(("givers" : Str), V.ref a1), (("runs" : Str), V.ref a2), (("waited" : Str), V.ref a3), (("absent" : Str), V.ref a4), (("gave" : Str), V.ref a5), (("gave_ever" : Str), V.ref a6), (("orders" : Str), V.ref a7), (("taken_back" : Str), V.ref a8), (("in_force_for" : Str), V.ref a9)])) a9 = some (.lst []) := by rw [upd_ne m9]; exact l9
  have k9 : (upd H9 x (.ins C.D dx [(("givers" : Str), V.ref a1), (("runs" : Str), V.ref a2), (("waited" : Str), V.ref a3), (("absent" : Str), V.ref a4), (("gave" : Str), V.ref a5), (("gave_ever" : Str), V.ref a6), (("orders" : Str), V.ref a7), (("taken_back" : Str), V.ref a8), (("in_force_for" : Str), V.ref a9)])) x = _ := upd_same
  generalize hK9 : upd H9 x (.ins C.D dx [(("givers" : Str), V.ref a1), (("runs" : Str), V.ref a2), (("waited" : Str), V.ref a3), (("absent" : Str), V.ref a4), (("gave" : Str), V.ref a5), (("gave_ever" : Str), V.ref a6), (("orders" : Str), V.ref a7), (("taken_back" : Str), V.ref a8), (("in_force_for" : Str), V.ref a9)]) = J9 at c9 k9 q9_1 q9_2 q9_3 q9_4 q9_5 q9_6 q9_7 q9_8 q9_9
  show tSeq _ _ _ _ (upd H9 x (.ins C.D dx [(("givers" : Str), V.ref a1), (("runs" : Str), V.ref a2), (("waited" : Str), V.ref a3), (("absent" : Str), V.ref a4), (("gave" : Str), V.ref a5), (("gave_ever" : Str), V.ref a6), (("orders" : Str), V.ref a7), (("taken_back" : Str), V.ref a8), (("in_force_for" : Str), V.ref a9)]))
  rw [hK9]
  refine q_fldL (xs := []) (el_lst ea_nil (by decide)) (ev_var rfl) k9 c.cl c.losses (by show 9 < 1000; decide) fun a10 H10 n10 e10 l10 => ?_
  let P : DA := ⟨a1, a2, a3, a4, a5, a6, a7, a8, a9, a10⟩
  have c10 := (c9.then e10).put (o := .ins C.D dx [(("givers" : Str), V.ref a1), (("runs" : Str), V.ref a2), (("waited" : Str), V.ref a3), (("absent" : Str), V.ref a4), (("gave" : Str), V.ref a5), (("gave_ever" : Str), V.ref a6), (("orders" : Str), V.ref a7), (("taken_back" : Str), V.ref a8), (("in_force_for" : Str), V.ref a9), (("losses" : Str), V.ref a10)]) (e10 _ _ k9)
  have m10 : a10 ≠ x := (ne_of_none k9 n10).symm
  have q10_1 : (upd H10 x (.ins C.D dx [(("givers" : Str), V.ref a1), (("runs" : Str), V.ref a2), (("waited" : Str), V.ref a3), (("absent" : Str), V.ref a4), (("gave" : Str), V.ref a5), (("gave_ever" : Str), V.ref a6), (("orders" : Str), V.ref a7), (("taken_back" : Str), V.ref a8), (("in_force_for" : Str), V.ref a9), (("losses" : Str), V.ref a10)])) a1 = some (.lst []) := by rw [upd_ne m1]; exact e10 _ _ q9_1
  have q10_2 : (upd H10 x (.ins C.D dx [(("givers" : Str), V.ref a1), (("runs" : Str), V.ref a2), (("waited" : Str), V.ref a3), (("absent" : Str), V.ref a4), (("gave" : Str), V.ref a5), (("gave_ever" : Str), V.ref a6), (("orders" : Str), V.ref a7), (("taken_back" : Str), V.ref a8), (("in_force_for" : Str), V.ref a9), (("losses" : Str), V.ref a10)])) a2 = some (.lst []) := by rw [upd_ne m2]; exact e10 _ _ q9_2
  have q10_3 : (upd H10 x (.ins C.D dx [(("givers" : Str), V.ref a1), (("runs" : Str), V.ref a2), (("waited" : Str), V.ref a3), (("absent" : Str), V.ref a4), (("gave" : Str), V.ref a5), (("gave_ever" : Str), V.ref a6), (("orders" : Str), V.ref a7), (("taken_back" : Str), V.ref a8), (("in_force_for" : Str), V.ref a9), (("losses" : Str), V.ref a10)])) a3 = some (.lst []) := by rw [upd_ne m3]; exact e10 _ _ q9_3
  have q10_4 : (upd H10 x (.ins C.D dx [(("givers" : Str), V.ref a1), (("runs" : Str), V.ref a2), (("waited" : Str), V.ref a3), (("absent" : Str), V.ref a4), (("gave" : Str), V.ref a5), (("gave_ever" : Str), V.ref a6), (("orders" : Str), V.ref a7), (("taken_back" : Str), V.ref a8), (("in_force_for" : Str), V.ref a9), (("losses" : Str), V.ref a10)])) a4 = some (.lst []) := by rw [upd_ne m4]; exact e10 _ _ q9_4
  have q10_5 : (upd H10 x (.ins C.D dx [(("givers" : Str), V.ref a1), (("runs" : Str), V.ref a2), (("waited" : Str), V.ref a3), (("absent" : Str), V.ref a4), (("gave" : Str), V.ref a5), (("gave_ever" : Str), V.ref a6), (("orders" : Str), V.ref a7), (("taken_back" : Str), V.ref a8), (("in_force_for" : Str), V.ref a9), (("losses" : Str), V.ref a10)])) a5 = some (.lst []) := by rw [upd_ne m5]; exact e10 _ _ q9_5
  have q10_6 : (upd H10 x (.ins C.D dx [(("givers" : Str), V.ref a1), (("runs" : Str), V.ref a2), (("waited" : Str), V.ref a3), (("absent" : Str), V.ref a4), (("gave" : Str), V.ref a5), (("gave_ever" : Str), V.ref a6), (("orders" : Str), V.ref a7), (("taken_back" : Str), V.ref a8), (("in_force_for" : Str), V.ref a9), (("losses" : Str), V.ref a10)])) a6 = some (.lst []) := by rw [upd_ne m6]; exact e10 _ _ q9_6
  have q10_7 : (upd H10 x (.ins C.D dx [(("givers" : Str), V.ref a1), (("runs" : Str), V.ref a2), (("waited" : Str), V.ref a3), (("absent" : Str), V.ref a4), (("gave" : Str), V.ref a5), (("gave_ever" : Str), V.ref a6), (("orders" : Str), V.ref a7), (("taken_back" : Str), V.ref a8), (("in_force_for" : Str), V.ref a9), (("losses" : Str), V.ref a10)])) a7 = some (.lst []) := by rw [upd_ne m7]; exact e10 _ _ q9_7
  have q10_8 : (upd H10 x (.ins C.D dx [(("givers" : Str), V.ref a1), (("runs" : Str), V.ref a2), (("waited" : Str), V.ref a3), (("absent" : Str), V.ref a4), (("gave" : Str), V.ref a5), (("gave_ever" : Str), V.ref a6), (("orders" : Str), V.ref a7), (("taken_back" : Str), V.ref a8), (("in_force_for" : Str), V.ref a9), (("losses" : Str), V.ref a10)])) a8 = some (.lst []) := by rw [upd_ne m8]; exact e10 _ _ q9_8
  have q10_9 : (upd H10 x (.ins C.D dx [(("givers" : Str), V.ref a1), (("runs" : Str), V.ref a2), (("waited" : Str), V.ref a3), (("absent" : Str), V.ref a4), (("gave" : Str), V.ref a5), (("gave_ever" : Str), V.ref a6), (("orders" : Str), V.ref a7), (("taken_back" : Str), V.ref a8), (("in_force_for" : Str), V.ref a9), (("losses" : Str), V.ref a10)])) a9 = some (.lst []) := by rw [upd_ne m9]; exact e10 _ _ q9_9
  have q10_10 : (upd H10 x (.ins C.D dx [(("givers" : Str), V.ref a1), (("runs" : Str), V.ref a2), (("waited" : Str), V.ref a3), (("absent" : Str), V.ref a4), (("gave" : Str), V.ref a5), (("gave_ever" : Str), V.ref a6), (("orders" : Str), V.ref a7), (("taken_back" : Str), V.ref a8), (("in_force_for" : Str), V.ref a9), (("losses" : Str), V.ref a10)])) a10 = some (.lst []) := by rw [upd_ne m10]; exact l10
  have k10 : (upd H10 x (.ins C.D dx [(("givers" : Str), V.ref a1), (("runs" : Str), V.ref a2), (("waited" : Str), V.ref a3), (("absent" : Str), V.ref a4), (("gave" : Str), V.ref a5), (("gave_ever" : Str), V.ref a6), (("orders" : Str), V.ref a7), (("taken_back" : Str), V.ref a8), (("in_force_for" : Str), V.ref a9), (("losses" : Str), V.ref a10)])) x = _ := upd_same
  generalize hK10 : upd H10 x (.ins C.D dx [(("givers" : Str), V.ref a1), (("runs" : Str), V.ref a2), (("waited" : Str), V.ref a3), (("absent" : Str), V.ref a4), (("gave" : Str), V.ref a5), (("gave_ever" : Str), V.ref a6), (("orders" : Str), V.ref a7), (("taken_back" : Str), V.ref a8), (("in_force_for" : Str), V.ref a9), (("losses" : Str), V.ref a10)]) = J10 at c10 k10 q10_1 q10_2 q10_3 q10_4 q10_5 q10_6 q10_7 q10_8 q10_9 q10_10
  show tSeq _ _ _ _ (upd H10 x (.ins C.D dx [(("givers" : Str), V.ref a1), (("runs" : Str), V.ref a2), (("waited" : Str), V.ref a3), (("absent" : Str), V.ref a4), (("gave" : Str), V.ref a5), (("gave_ever" : Str), V.ref a6), (("orders" : Str), V.ref a7), (("taken_back" : Str), V.ref a8), (("in_force_for" : Str), V.ref a9), (("losses" : Str), V.ref a10)]))
  rw [hK10]
  refine q_fld (v := nv HdSpec.fresh.up) ev_c (ev_var rfl) k10 c.cl c.up (by show 10 < 1000; decide) fun H11 e11 => ?_
  have c11 := (c10.then e11).put (o := .ins C.D dx [(("givers" : Str), V.ref a1), (("runs" : Str), V.ref a2), (("waited" : Str), V.ref a3), (("absent" : Str), V.ref a4), (("gave" : Str), V.ref a5), (("gave_ever" : Str), V.ref a6), (("orders" : Str), V.ref a7), (("taken_back" : Str), V.ref a8), (("in_force_for" : Str), V.ref a9), (("losses" : Str), V.ref a10), (("up" : Str), nv HdSpec.fresh.up)]) (e11 _ _ k10)
  have q11_1 : (upd H11 x (.ins C.D dx [(("givers" : Str), V.ref a1), (("runs" : Str), V.ref a2), (("waited" : Str), V.ref a3), (("absent" : Str), V.ref a4), (("gave" : Str), V.ref a5), (("gave_ever" : Str), V.ref a6), (("orders" : Str), V.ref a7), (("taken_back" : Str), V.ref a8), (("in_force_for" : Str), V.ref a9), (("losses" : Str), V.ref a10), (("up" : Str), nv HdSpec.fresh.up)])) a1 = some (.lst []) := by rw [upd_ne m1]; exact e11 _ _ q10_1
  have q11_2 : (upd H11 x (.ins C.D dx [(("givers" : Str), V.ref a1), (("runs" : Str), V.ref a2), (("waited" : Str), V.ref a3), (("absent" : Str), V.ref a4), (("gave" : Str), V.ref a5), (("gave_ever" : Str), V.ref a6), (("orders" : Str), V.ref a7), (("taken_back" : Str), V.ref a8), (("in_force_for" : Str), V.ref a9), (("losses" : Str), V.ref a10), (("up" : Str), nv HdSpec.fresh.up)])) a2 = some (.lst []) := by rw [upd_ne m2]; exact e11 _ _ q10_2
  have q11_3 : (upd H11 x (.ins C.D dx [(("givers" : Str), V.ref a1), (("runs" : Str), V.ref a2), (("waited" : Str), V.ref a3), (("absent" : Str), V.ref a4), (("gave" : Str), V.ref a5), (("gave_ever" : Str), V.ref a6), (("orders" : Str), V.ref a7), (("taken_back" : Str), V.ref a8), (("in_force_for" : Str), V.ref a9), (("losses" : Str), V.ref a10), (("up" : Str), nv HdSpec.fresh.up)])) a3 = some (.lst []) := by rw [upd_ne m3]; exact e11 _ _ q10_3
  have q11_4 : (upd H11 x (.ins C.D dx [(("givers" : Str), V.ref a1), (("runs" : Str), V.ref a2), (("waited" : Str), V.ref a3), (("absent" : Str), V.ref a4), (("gave" : Str), V.ref a5), (("gave_ever" : Str), V.ref a6), (("orders" : Str), V.ref a7), (("taken_back" : Str), V.ref a8), (("in_force_for" : Str), V.ref a9), (("losses" : Str), V.ref a10), (("up" : Str), nv HdSpec.fresh.up)])) a4 = some (.lst []) := by rw [upd_ne m4]; exact e11 _ _ q10_4
  have q11_5 : (upd H11 x (.ins C.D dx [(("givers" : Str), V.ref a1), (("runs" : Str), V.ref a2), (("waited" : Str), V.ref a3), (("absent" : Str), V.ref a4), (("gave" : Str), V.ref a5), (("gave_ever" : Str), V.ref a6), (("orders" : Str), V.ref a7), (("taken_back" : Str), V.ref a8), (("in_force_for" : Str), V.ref a9), (("losses" : Str), V.ref a10), (("up" : Str), nv HdSpec.fresh.up)])) a5 = some (.lst []) := by rw [upd_ne m5]; exact e11 _ _ q10_5
  have q11_6 : (upd H11 x (.ins C.D dx [(("givers" : Str), V.ref a1), (("runs" : Str), V.ref a2), (("waited" : Str), V.ref a3), (("absent" : Str), V.ref a4), (("gave" : Str), V.ref a5), (("gave_ever" : Str), V.ref a6), (("orders" : Str), V.ref a7), (("taken_back" : Str), V.ref a8), (("in_force_for" : Str), V.ref a9), (("losses" : Str), V.ref a10), (("up" : Str), nv HdSpec.fresh.up)])) a6 = some (.lst []) := by rw [upd_ne m6]; exact e11 _ _ q10_6
  have q11_7 : (upd H11 x (.ins C.D dx [(("givers" : Str), V.ref a1), (("runs" : Str), V.ref a2), (("waited" : Str), V.ref a3), (("absent" : Str), V.ref a4), (("gave" : Str), V.ref a5), (("gave_ever" : Str), V.ref a6), (("orders" : Str), V.ref a7), (("taken_back" : Str), V.ref a8), (("in_force_for" : Str), V.ref a9), (("losses" : Str), V.ref a10), (("up" : Str), nv HdSpec.fresh.up)])) a7 = some (.lst []) := by rw [upd_ne m7]; exact e11 _ _ q10_7
  have q11_8 : (upd H11 x (.ins C.D dx [(("givers" : Str), V.ref a1), (("runs" : Str), V.ref a2), (("waited" : Str), V.ref a3), (("absent" : Str), V.ref a4), (("gave" : Str), V.ref a5), (("gave_ever" : Str), V.ref a6), (("orders" : Str), V.ref a7), (("taken_back" : Str), V.ref a8), (("in_force_for" : Str), V.ref a9), (("losses" : Str), V.ref a10), (("up" : Str), nv HdSpec.fresh.up)])) a8 = some (.lst []) := by rw [upd_ne m8]; exact e11 _ _ q10_8
  have q11_9 : (upd H11 x (.ins C.D dx [(("givers" : Str), V.ref a1), (("runs" : Str), V.ref a2), (("waited" : Str), V.ref a3), (("absent" : Str), V.ref a4), (("gave" : Str), V.ref a5), (("gave_ever" : Str), V.ref a6), (("orders" : Str), V.ref a7), (("taken_back" : Str), V.ref a8), (("in_force_for" : Str), V.ref a9), (("losses" : Str), V.ref a10), (("up" : Str), nv HdSpec.fresh.up)])) a9 = some (.lst []) := by rw [upd_ne m9]; exact e11 _ _ q10_9
  have q11_10 : (upd H11 x (.ins C.D dx [(("givers" : Str), V.ref a1), (("runs" : Str), V.ref a2), (("waited" : Str), V.ref a3), (("absent" : Str), V.ref a4), (("gave" : Str), V.ref a5), (("gave_ever" : Str), V.ref a6), (("orders" : Str), V.ref a7), (("taken_back" : Str), V.ref a8), (("in_force_for" : Str), V.ref a9), (("losses" : Str), V.ref a10), (("up" : Str), nv HdSpec.fresh.up)])) a10 = some (.lst []) := by rw [upd_ne m10]; exact e11 _ _ q10_10
  have k11 : (upd H11 x (.ins C.D dx [(("givers" : Str), V.ref a1), (("runs" : Str), V.ref a2), (("waited" : Str), V.ref a3), (("absent" : Str), V.ref a4), (("gave" : Str), V.ref a5), (("gave_ever" : Str), V.ref a6), (("orders" : Str), V.ref a7), (("taken_back" : Str), V.ref a8), (("in_force_for" : Str), V.ref a9), (("losses" : Str), V.ref a10), (("up" : Str), nv HdSpec.fresh.up)])) x = _ := upd_same
  generalize hK11 : upd H11 x (.ins C.D dx [(("givers" : Str), V.ref a1), (("runs" : Str), V.ref a2), (("waited" : Str), V.ref a3), (("absent" : Str), V.ref a4), (("gave" : Str), V.ref a5), (("gave_ever" : Str), V.ref a6), (("orders" : Str), V.ref a7), (("taken_back" : Str), V.ref a8), (("in_force_for" : Str), V.ref a9), (("losses" : Str), V.ref a10), (("up" : Str), nv HdSpec.fresh.up)]) = J11 at c11 k11 q11_1 q11_2 q11_3 q11_4 q11_5 q11_6 q11_7 q11_8 q11_9 q11_10
  show tSeq _ _ _ _ (upd H11 x (.ins C.D dx [(("givers" : Str), V.ref a1), (("runs" : Str), V.ref a2), (("waited" : Str), V.ref a3), (("absent" : Str), V.ref a4), (("gave" : Str), V.ref a5), (("gave_ever" : Str), V.ref a6), (("orders" : Str), V.ref a7), (("taken_back" : Str), V.ref a8), (("in_force_for" : Str), V.ref a9), (("losses" : Str), V.ref a10), (("up" : Str), nv HdSpec.fresh.up)]))
  rw [hK11]
  refine q_fld (v := nv HdSpec.fresh.down) ev_c (ev_var rfl) k11 c.cl c.down (by show 11 < 1000; decide) fun H12 e12 => ?_
  have c12 := (c11.then e12).put (o := .ins C.D dx [(("givers" : Str), V.ref a1), (("runs" : Str), V.ref a2), (("waited" : Str), V.ref a3), (("absent" : Str), V.ref a4), (("gave" : Str), V.ref a5), (("gave_ever" : Str), V.ref a6), (("orders" : Str), V.ref a7), (("taken_back" : Str), V.ref a8), (("in_force_for" : Str), V.ref a9), (("losses" : Str), V.ref a10), (("up" : Str), nv HdSpec.fresh.up), (("down" : Str), nv HdSpec.fresh.down)]) (e12 _ _ k11)
  have q12_1 : (upd H12 x (.ins C.D dx [(("givers" : Str), V.ref a1), (("runs" : Str), V.ref a2), (("waited" : Str), V.ref a3), (("absent" : Str), V.ref a4), (("gave" : Str), V.ref a5), (("gave_ever" : Str), V.ref a6), (("orders" : Str), V.ref a7), (("taken_back" : Str), V.ref a8), (("in_force_for" : Str), V.ref a9), (("losses" : Str), V.ref a10), (("up" : Str), nv HdSpec.fresh.up), (("down" : Str), nv HdSpec.fresh.down)])) a1 = some (.lst []) := by rw [upd_ne m1]; exact e12 _ _ q11_1
  have q12_2 : (upd H12 x (.ins C.D dx [(("givers" : Str), V.ref a1), (("runs" : Str), V.ref a2), (("waited" : Str), V.ref a3), (("absent" : Str), V.ref a4), (("gave" : Str), V.ref a5), (("gave_ever" : Str), V.ref a6), (("orders" : Str), V.ref a7), (("taken_back" : Str), V.ref a8), (("in_force_for" : Str), V.ref a9), (("losses" : Str), V.ref a10), (("up" : Str), nv HdSpec.fresh.up), (("down" : Str), nv HdSpec.fresh.down)])) a2 = some (.lst []) := by rw [upd_ne m2]; exact e12 _ _ q11_2
  have q12_3 : (upd H12 x (.ins C.D dx [(("givers" : Str), V.ref a1), (("runs" : Str), V.ref a2), (("waited" : Str), V.ref a3), (("absent" : Str), V.ref a4), (("gave" : Str), V.ref a5), (("gave_ever" : Str), V.ref a6), (("orders" : Str), V.ref a7), (("taken_back" : Str), V.ref a8), (("in_force_for" : Str), V.ref a9), (("losses" : Str), V.ref a10), (("up" : Str), nv HdSpec.fresh.up), (("down" : Str), nv HdSpec.fresh.down)])) a3 = some (.lst []) := by rw [upd_ne m3]; exact e12 _ _ q11_3
  have q12_4 : (upd H12 x (.ins C.D dx [(("givers" : Str), V.ref a1), (("runs" : Str), V.ref a2), (("waited" : Str), V.ref a3), (("absent" : Str), V.ref a4), (("gave" : Str), V.ref a5), (("gave_ever" : Str), V.ref a6), (("orders" : Str), V.ref a7), (("taken_back" : Str), V.ref a8), (("in_force_for" : Str), V.ref a9), (("losses" : Str), V.ref a10), (("up" : Str), nv HdSpec.fresh.up), (("down" : Str), nv HdSpec.fresh.down)])) a4 = some (.lst []) := by rw [upd_ne m4]; exact e12 _ _ q11_4
  have q12_5 : (upd H12 x (.ins C.D dx [(("givers" : Str), V.ref a1), (("runs" : Str), V.ref a2), (("waited" : Str), V.ref a3), (("absent" : Str), V.ref a4), (("gave" : Str), V.ref a5), (("gave_ever" : Str), V.ref a6), (("orders" : Str), V.ref a7), (("taken_back" : Str), V.ref a8), (("in_force_for" : Str), V.ref a9), (("losses" : Str), V.ref a10), (("up" : Str), nv HdSpec.fresh.up), (("down" : Str), nv HdSpec.fresh.down)])) a5 = some (.lst []) := by rw [upd_ne m5]; exact e12 _ _ q11_5
  have q12_6 : (upd H12 x (.ins C.D dx [(("givers" : Str), V.ref a1), (("runs" : Str), V.ref a2), (("waited" : Str), V.ref a3), (("absent" : Str), V.ref a4), (("gave" : Str), V.ref a5), (("gave_ever" : Str), V.ref a6), (("orders" : Str), V.ref a7), (("taken_back" : Str), V.ref a8), (("in_force_for" : Str), V.ref a9), (("losses" : Str), V.ref a10), (("up" : Str), nv HdSpec.fresh.up), (("down" : Str), nv HdSpec.fresh.down)])) a6 = some (.lst []) := by rw [upd_ne m6]; exact e12 _ _ q11_6
  have q12_7 : (upd H12 x (.ins C.D dx [(("givers" : Str), V.ref a1), (("runs" : Str), V.ref a2), (("waited" : Str), V.ref a3), (("absent" : Str), V.ref a4), (("gave" : Str), V.ref a5), (("gave_ever" : Str), V.ref a6), (("orders" : Str), V.ref a7), (("taken_back" : Str), V.ref a8), (("in_force_for" : Str), V.ref a9), (("losses" : Str), V.ref a10), (("up" : Str), nv HdSpec.fresh.up), (("down" : Str), nv HdSpec.fresh.down)])) a7 = some (.lst []) := by rw [upd_ne m7]; exact e12 _ _ q11_7
  have q12_8 : (upd H12 x (.ins C.D dx [(("givers" : Str), V.ref a1), (("runs" : Str), V.ref a2), (("waited" : Str), V.ref a3), (("absent" : Str), V.ref a4), (("gave" : Str), V.ref a5), (("gave_ever" : Str), V.ref a6), (("orders" : Str), V.ref a7), (("taken_back" : Str), V.ref a8), (("in_force_for" : Str), V.ref a9), (("losses" : Str), V.ref a10), (("up" : Str), nv HdSpec.fresh.up), (("down" : Str), nv HdSpec.fresh.down)])) a8 = some (.lst []) := by rw [upd_ne m8]; exact e12 _ _ q11_8
  have q12_9 : (upd H12 x (.ins C.D dx [(("givers" : Str), V.ref a1), (("runs" : Str), V.ref a2), (("waited" : Str), V.ref a3), (("absent" : Str), V.ref a4), (("gave" : Str), V.ref a5), (("gave_ever" : Str), V.ref a6), (("orders" : Str), V.ref a7), (("taken_back" : Str), V.ref a8), (("in_force_for" : Str), V.ref a9), (("losses" : Str), V.ref a10), (("up" : Str), nv HdSpec.fresh.up), (("down" : Str), nv HdSpec.fresh.down)])) a9 = some (.lst []) := by rw [upd_ne m9]; exact e12 _ _ q11_9
  have q12_10 : (upd H12 x (.ins C.D dx [(("givers" : Str), V.ref a1), (("runs" : Str), V.ref a2), (("waited" : Str), V.ref a3), (("absent" : Str), V.ref a4), (("gave" : Str), V.ref a5), (("gave_ever" : Str), V.ref a6), (("orders" : Str), V.ref a7), (("taken_back" : Str), V.ref a8), (("in_force_for" : Str), V.ref a9), (("losses" : Str), V.ref a10), (("up" : Str), nv HdSpec.fresh.up), (("down" : Str), nv HdSpec.fresh.down)])) a10 = some (.lst []) := by rw [upd_ne m10]; exact e12 _ _ q11_10
  have k12 : (upd H12 x (.ins C.D dx [(("givers" : Str), V.ref a1), (("runs" : Str), V.ref a2), (("waited" : Str), V.ref a3), (("absent" : Str), V.ref a4), (("gave" : Str), V.ref a5), (("gave_ever" : Str), V.ref a6), (("orders" : Str), V.ref a7), (("taken_back" : Str), V.ref a8), (("in_force_for" : Str), V.ref a9), (("losses" : Str), V.ref a10), (("up" : Str), nv HdSpec.fresh.up), (("down" : Str), nv HdSpec.fresh.down)])) x = _ := upd_same
  generalize hK12 : upd H12 x (.ins C.D dx [(("givers" : Str), V.ref a1), (("runs" : Str), V.ref a2), (("waited" : Str), V.ref a3), (("absent" : Str), V.ref a4), (("gave" : Str), V.ref a5), (("gave_ever" : Str), V.ref a6), (("orders" : Str), V.ref a7), (("taken_back" : Str), V.ref a8), (("in_force_for" : Str), V.ref a9), (("losses" : Str), V.ref a10), (("up" : Str), nv HdSpec.fresh.up), (("down" : Str), nv HdSpec.fresh.down)]) = J12 at c12 k12 q12_1 q12_2 q12_3 q12_4 q12_5 q12_6 q12_7 q12_8 q12_9 q12_10
  show tSeq _ _ _ _ (upd H12 x (.ins C.D dx [(("givers" : Str), V.ref a1), (("runs" : Str), V.ref a2), (("waited" : Str), V.ref a3), (("absent" : Str), V.ref a4), (("gave" : Str), V.ref a5), (("gave_ever" : Str), V.ref a6), (("orders" : Str), V.ref a7), (("taken_back" : Str), V.ref a8), (("in_force_for" : Str), V.ref a9), (("losses" : Str), V.ref a10), (("up" : Str), nv HdSpec.fresh.up), (("down" : Str), nv HdSpec.fresh.down)]))
  rw [hK12]
  refine q_fld (v := nv HdSpec.fresh.rule) ev_c (ev_var rfl) k12 c.cl c.rule (by show 12 < 1000; decide) fun H13 e13 => ?_
  have c13 := (c12.then e13).put (o := .ins C.D dx [(("givers" : Str), V.ref a1), (("runs" : Str), V.ref a2), (("waited" : Str), V.ref a3), (("absent" : Str), V.ref a4), (("gave" : Str), V.ref a5), (("gave_ever" : Str), V.ref a6), (("orders" : Str), V.ref a7), (("taken_back" : Str), V.ref a8), (("in_force_for" : Str), V.ref a9), (("losses" : Str), V.ref a10), (("up" : Str), nv HdSpec.fresh.up), (("down" : Str), nv HdSpec.fresh.down), (("rule" : Str), nv HdSpec.fresh.rule)]) (e13 _ _ k12)
  have q13_1 : (upd H13 x (.ins C.D dx [(("givers" : Str), V.ref a1), (("runs" : Str), V.ref a2), (("waited" : Str), V.ref a3), (("absent" : Str), V.ref a4), (("gave" : Str), V.ref a5), (("gave_ever" : Str), V.ref a6), (("orders" : Str), V.ref a7), (("taken_back" : Str), V.ref a8), (("in_force_for" : Str), V.ref a9), (("losses" : Str), V.ref a10), (("up" : Str), nv HdSpec.fresh.up), (("down" : Str), nv HdSpec.fresh.down), (("rule" : Str), nv HdSpec.fresh.rule)])) a1 = some (.lst []) := by rw [upd_ne m1]; exact e13 _ _ q12_1
  have q13_2 : (upd H13 x (.ins C.D dx [(("givers" : Str), V.ref a1), (("runs" : Str), V.ref a2), (("waited" : Str), V.ref a3), (("absent" : Str), V.ref a4), (("gave" : Str), V.ref a5), (("gave_ever" : Str), V.ref a6), (("orders" : Str), V.ref a7), (("taken_back" : Str), V.ref a8), (("in_force_for" : Str), V.ref a9), (("losses" : Str), V.ref a10), (("up" : Str), nv HdSpec.fresh.up), (("down" : Str), nv HdSpec.fresh.down), (("rule" : Str), nv HdSpec.fresh.rule)])) a2 = some (.lst []) := by rw [upd_ne m2]; exact e13 _ _ q12_2
  have q13_3 : (upd H13 x (.ins C.D dx [(("givers" : Str), V.ref a1), (("runs" : Str), V.ref a2), (("waited" : Str), V.ref a3), (("absent" : Str), V.ref a4), (("gave" : Str), V.ref a5), (("gave_ever" : Str), V.ref a6), (("orders" : Str), V.ref a7), (("taken_back" : Str), V.ref a8), (("in_force_for" : Str), V.ref a9), (("losses" : Str), V.ref a10), (("up" : Str), nv HdSpec.fresh.up), (("down" : Str), nv HdSpec.fresh.down), (("rule" : Str), nv HdSpec.fresh.rule)])) a3 = some (.lst []) := by rw [upd_ne m3]; exact e13 _ _ q12_3
  have q13_4 : (upd H13 x (.ins C.D dx [(("givers" : Str), V.ref a1), (("runs" : Str), V.ref a2), (("waited" : Str), V.ref a3), (("absent" : Str), V.ref a4), (("gave" : Str), V.ref a5), (("gave_ever" : Str), V.ref a6), (("orders" : Str), V.ref a7), (("taken_back" : Str), V.ref a8), (("in_force_for" : Str), V.ref a9), (("losses" : Str), V.ref a10), (("up" : Str), nv HdSpec.fresh.up), (("down" : Str), nv HdSpec.fresh.down), (("rule" : Str), nv HdSpec.fresh.rule)])) a4 = some (.lst []) := by rw [upd_ne m4]; exact e13 _ _ q12_4
  have q13_5 : (upd H13 x (.ins C.D dx [(("givers" : Str), V.ref a1), (("runs" : Str), V.ref a2), (("waited" : Str), V.ref a3), (("absent" : Str), V.ref a4), (("gave" : Str), V.ref a5), (("gave_ever" : Str), V.ref a6), (("orders" : Str), V.ref a7), (("taken_back" : Str), V.ref a8), (("in_force_for" : Str), V.ref a9), (("losses" : Str), V.ref a10), (("up" : Str), nv HdSpec.fresh.up), (("down" : Str), nv HdSpec.fresh.down), (("rule" : Str), nv HdSpec.fresh.rule)])) a5 = some (.lst []) := by rw [upd_ne m5]; exact e13 _ _ q12_5
  have q13_6 : (upd H13 x (.ins C.D dx [(("givers" : Str), V.ref a1), (("runs" : Str), V.ref a2), (("waited" : Str), V.ref a3), (("absent" : Str), V.ref a4), (("gave" : Str), V.ref a5), (("gave_ever" : Str), V.ref a6), (("orders" : Str), V.ref a7), (("taken_back" : Str), V.ref a8), (("in_force_for" : Str), V.ref a9), (("losses" : Str), V.ref a10), (("up" : Str), nv HdSpec.fresh.up), (("down" : Str), nv HdSpec.fresh.down), (("rule" : Str), nv HdSpec.fresh.rule)])) a6 = some (.lst []) := by rw [upd_ne m6]; exact e13 _ _ q12_6
  have q13_7 : (upd H13 x (.ins C.D dx [(("givers" : Str), V.ref a1), (("runs" : Str), V.ref a2), (("waited" : Str), V.ref a3), (("absent" : Str), V.ref a4), (("gave" : Str), V.ref a5), (("gave_ever" : Str), V.ref a6), (("orders" : Str), V.ref a7), (("taken_back" : Str), V.ref a8), (("in_force_for" : Str), V.ref a9), (("losses" : Str), V.ref a10), (("up" : Str), nv HdSpec.fresh.up), (("down" : Str), nv HdSpec.fresh.down), (("rule" : Str), nv HdSpec.fresh.rule)])) a7 = some (.lst []) := by rw [upd_ne m7]; exact e13 _ _ q12_7
  have q13_8 : (upd H13 x (.ins C.D dx [(("givers" : Str), V.ref a1), (("runs" : Str), V.ref a2), (("waited" : Str), V.ref a3), (("absent" : Str), V.ref a4), (("gave" : Str), V.ref a5), (("gave_ever" : Str), V.ref a6), (("orders" : Str), V.ref a7), (("taken_back" : Str), V.ref a8), (("in_force_for" : Str), V.ref a9), (("losses" : Str), V.ref a10), (("up" : Str), nv HdSpec.fresh.up), (("down" : Str), nv HdSpec.fresh.down), (("rule" : Str), nv HdSpec.fresh.rule)])) a8 = some (.lst []) := by rw [upd_ne m8]; exact e13 _ _ q12_8
  have q13_9 : (upd H13 x (.ins C.D dx [(("givers" : Str), V.ref a1), (("runs" : Str), V.ref a2), (("waited" : Str), V.ref a3), (("absent" : Str), V.ref a4), (("gave" : Str), V.ref a5), (("gave_ever" : Str), V.ref a6), (("orders" : Str), V.ref a7), (("taken_back" : Str), V.ref a8), (("in_force_for" : Str), V.ref a9), (("losses" : Str), V.ref a10), (("up" : Str), nv HdSpec.fresh.up), (("down" : Str), nv HdSpec.fresh.down), (("rule" : Str), nv HdSpec.fresh.rule)])) a9 = some (.lst []) := by rw [upd_ne m9]; exact e13 _ _ q12_9
  have q13_10 : (upd H13 x (.ins C.D dx [(("givers" : Str), V.ref a1), (("runs" : Str), V.ref a2), (("waited" : Str), V.ref a3), (("absent" : Str), V.ref a4), (("gave" : Str), V.ref a5), (("gave_ever" : Str), V.ref a6), (("orders" : Str), V.ref a7), (("taken_back" : Str), V.ref a8), (("in_force_for" : Str), V.ref a9), (("losses" : Str), V.ref a10), (("up" : Str), nv HdSpec.fresh.up), (("down" : Str), nv HdSpec.fresh.down), (("rule" : Str), nv HdSpec.fresh.rule)])) a10 = some (.lst []) := by rw [upd_ne m10]; exact e13 _ _ q12_10
  have k13 : (upd H13 x (.ins C.D dx [(("givers" : Str), V.ref a1), (("runs" : Str), V.ref a2), (("waited" : Str), V.ref a3), (("absent" : Str), V.ref a4), (("gave" : Str), V.ref a5), (("gave_ever" : Str), V.ref a6), (("orders" : Str), V.ref a7), (("taken_back" : Str), V.ref a8), (("in_force_for" : Str), V.ref a9), (("losses" : Str), V.ref a10), (("up" : Str), nv HdSpec.fresh.up), (("down" : Str), nv HdSpec.fresh.down), (("rule" : Str), nv HdSpec.fresh.rule)])) x = _ := upd_same
  generalize hK13 : upd H13 x (.ins C.D dx [(("givers" : Str), V.ref a1), (("runs" : Str), V.ref a2), (("waited" : Str), V.ref a3), (("absent" : Str), V.ref a4), (("gave" : Str), V.ref a5), (("gave_ever" : Str), V.ref a6), (("orders" : Str), V.ref a7), (("taken_back" : Str), V.ref a8), (("in_force_for" : Str), V.ref a9), (("losses" : Str), V.ref a10), (("up" : Str), nv HdSpec.fresh.up), (("down" : Str), nv HdSpec.fresh.down), (("rule" : Str), nv HdSpec.fresh.rule)]) = J13 at c13 k13 q13_1 q13_2 q13_3 q13_4 q13_5 q13_6 q13_7 q13_8 q13_9 q13_10
  show tSeq _ _ _ _ (upd H13 x (.ins C.D dx [(("givers" : Str), V.ref a1), (("runs" : Str), V.ref a2), (("waited" : Str), V.ref a3), (("absent" : Str), V.ref a4), (("gave" : Str), V.ref a5), (("gave_ever" : Str), V.ref a6), (("orders" : Str), V.ref a7), (("taken_back" : Str), V.ref a8), (("in_force_for" : Str), V.ref a9), (("losses" : Str), V.ref a10), (("up" : Str), nv HdSpec.fresh.up), (("down" : Str), nv HdSpec.fresh.down), (("rule" : Str), nv HdSpec.fresh.rule)]))
  rw [hK13]
  refine q_fld (v := nv HdSpec.fresh.now) ev_c (ev_var rfl) k13 c.cl c.quarter (by show 13 < 1000; decide) fun H14 e14 => ?_
  have c14 := (c13.then e14).put (o := .ins C.D dx [(("givers" : Str), V.ref a1), (("runs" : Str), V.ref a2), (("waited" : Str), V.ref a3), (("absent" : Str), V.ref a4), (("gave" : Str), V.ref a5), (("gave_ever" : Str), V.ref a6), (("orders" : Str), V.ref a7), (("taken_back" : Str), V.ref a8), (("in_force_for" : Str), V.ref a9), (("losses" : Str), V.ref a10), (("up" : Str), nv HdSpec.fresh.up), (("down" : Str), nv HdSpec.fresh.down), (("rule" : Str), nv HdSpec.fresh.rule), (("quarter" : Str), nv HdSpec.fresh.now)]) (e14 _ _ k13)
  have q14_1 : (upd H14 x (.ins C.D dx [(("givers" : Str), V.ref a1), (("runs" : Str), V.ref a2), (("waited" : Str), V.ref a3), (("absent" : Str), V.ref a4), (("gave" : Str), V.ref a5), (("gave_ever" : Str), V.ref a6), (("orders" : Str), V.ref a7), (("taken_back" : Str), V.ref a8), (("in_force_for" : Str), V.ref a9), (("losses" : Str), V.ref a10), (("up" : Str), nv HdSpec.fresh.up), (("down" : Str), nv HdSpec.fresh.down), (("rule" : Str), nv HdSpec.fresh.rule), (("quarter" : Str), nv HdSpec.fresh.now)])) a1 = some (.lst []) := by rw [upd_ne m1]; exact e14 _ _ q13_1
  have q14_2 : (upd H14 x (.ins C.D dx [(("givers" : Str), V.ref a1), (("runs" : Str), V.ref a2), (("waited" : Str), V.ref a3), (("absent" : Str), V.ref a4), (("gave" : Str), V.ref a5), (("gave_ever" : Str), V.ref a6), (("orders" : Str), V.ref a7), (("taken_back" : Str), V.ref a8), (("in_force_for" : Str), V.ref a9), (("losses" : Str), V.ref a10), (("up" : Str), nv HdSpec.fresh.up), (("down" : Str), nv HdSpec.fresh.down), (("rule" : Str), nv HdSpec.fresh.rule), (("quarter" : Str), nv HdSpec.fresh.now)])) a2 = some (.lst []) := by rw [upd_ne m2]; exact e14 _ _ q13_2
  have q14_3 : (upd H14 x (.ins C.D dx [(("givers" : Str), V.ref a1), (("runs" : Str), V.ref a2), (("waited" : Str), V.ref a3), (("absent" : Str), V.ref a4), (("gave" : Str), V.ref a5), (("gave_ever" : Str), V.ref a6), (("orders" : Str), V.ref a7), (("taken_back" : Str), V.ref a8), (("in_force_for" : Str), V.ref a9), (("losses" : Str), V.ref a10), (("up" : Str), nv HdSpec.fresh.up), (("down" : Str), nv HdSpec.fresh.down), (("rule" : Str), nv HdSpec.fresh.rule), (("quarter" : Str), nv HdSpec.fresh.now)])) a3 = some (.lst []) := by rw [upd_ne m3]; exact e14 _ _ q13_3
  have q14_4 : (upd H14 x (.ins C.D dx [(("givers" : Str), V.ref a1), (("runs" : Str), V.ref a2), (("waited" : Str), V.ref a3), (("absent" : Str), V.ref a4), (("gave" : Str), V.ref a5), (("gave_ever" : Str), V.ref a6), (("orders" : Str), V.ref a7), (("taken_back" : Str), V.ref a8), (("in_force_for" : Str), V.ref a9), (("losses" : Str), V.ref a10), (("up" : Str), nv HdSpec.fresh.up), (("down" : Str), nv HdSpec.fresh.down), (("rule" : Str), nv HdSpec.fresh.rule), (("quarter" : Str), nv HdSpec.fresh.now)])) a4 = some (.lst []) := by rw [upd_ne m4]; exact e14 _ _ q13_4
  have q14_5 : (upd H14 x (.ins C.D dx [(("givers" : Str), V.ref a1), (("runs" : Str), V.ref a2), (("waited" : Str), V.ref a3), (("absent" : Str), V.ref a4), (("gave" : Str), V.ref a5), (("gave_ever" : Str), V.ref a6), (("orders" : Str), V.ref a7), (("taken_back" : Str), V.ref a8), (("in_force_for" : Str), V.ref a9), (("losses" : Str), V.ref a10), (("up" : Str), nv HdSpec.fresh.up), (("down" : Str), nv HdSpec.fresh.down), (("rule" : Str), nv HdSpec.fresh.rule), (("quarter" : Str), nv HdSpec.fresh.now)])) a5 = some (.lst []) := by rw [upd_ne m5]; exact e14 _ _ q13_5
  have q14_6 : (upd H14 x (.ins C.D dx [(("givers" : Str), V.ref a1), (("runs" : Str), V.ref a2), (("waited" : Str), V.ref a3), (("absent" : Str), V.ref a4), (("gave" : Str), V.ref a5), (("gave_ever" : Str), V.ref a6), (("orders" : Str), V.ref a7), (("taken_back" : Str), V.ref a8), (("in_force_for" : Str), V.ref a9), (("losses" : Str), V.ref a10), (("up" : Str), nv HdSpec.fresh.up), (("down" : Str), nv HdSpec.fresh.down), (("rule" : Str), nv HdSpec.fresh.rule), (("quarter" : Str), nv HdSpec.fresh.now)])) a6 = some (.lst []) := by rw [upd_ne m6]; exact e14 _ _ q13_6
  have q14_7 : (upd H14 x (.ins C.D dx [(("givers" : Str), V.ref a1), (("runs" : Str), V.ref a2), (("waited" : Str), V.ref a3), (("absent" : Str), V.ref a4), (("gave" : Str), V.ref a5), (("gave_ever" : Str), V.ref a6), (("orders" : Str), V.ref a7), (("taken_back" : Str), V.ref a8), (("in_force_for" : Str), V.ref a9), (("losses" : Str), V.ref a10), (("up" : Str), nv HdSpec.fresh.up), (("down" : Str), nv HdSpec.fresh.down), (("rule" : Str), nv HdSpec.fresh.rule), (("quarter" : Str), nv HdSpec.fresh.now)])) a7 = some (.lst []) := by rw [upd_ne m7]; exact e14 _ _ q13_7
  have q14_8 : (upd H14 x (.ins C.D dx [(("givers" : Str), V.ref a1), (("runs" : Str), V.ref a2), (("waited" : Str), V.ref a3), (("absent" : Str), V.ref a4), (("gave" : Str), V.ref a5), (("gave_ever" : Str), V.ref a6), (("orders" : Str), V.ref a7), (("taken_back" : Str), V.ref a8), (("in_force_for" : Str), V.ref a9), (("losses" : Str), V.ref a10), (("up" : Str), nv HdSpec.fresh.up), (("down" : Str), nv HdSpec.fresh.down), (("rule" : Str), nv HdSpec.fresh.rule), (("quarter" : Str), nv HdSpec.fresh.now)])) a8 = some (.lst []) := by rw [upd_ne m8]; exact e14 _ _ q13_8
  have q14_9 : (upd H14 x (.ins C.D dx [(("givers" : Str), V.ref a1), (("runs" : Str), V.ref a2), (("waited" : Str), V.ref a3), (("absent" : Str), V.ref a4), (("gave" : Str), V.ref a5), (("gave_ever" : Str), V.ref a6), (("orders" : Str), V.ref a7), (("taken_back" : Str), V.ref a8), (("in_force_for" : Str), V.ref a9), (("losses" : Str), V.ref a10), (("up" : Str), nv HdSpec.fresh.up), (("down" : Str), nv HdSpec.fresh.down), (("rule" : Str), nv HdSpec.fresh.rule), (("quarter" : Str), nv HdSpec.fresh.now)])) a9 = some (.lst []) := by rw [upd_ne m9]; exact e14 _ _ q13_9
  have q14_10 : (upd H14 x (.ins C.D dx [(("givers" : Str), V.ref a1), (("runs" : Str), V.ref a2), (("waited" : Str), V.ref a3), (("absent" : Str), V.ref a4), (("gave" : Str), V.ref a5), (("gave_ever" : Str), V.ref a6), (("orders" : Str), V.ref a7), (("taken_back" : Str), V.ref a8), (("in_force_for" : Str), V.ref a9), (("losses" : Str), V.ref a10), (("up" : Str), nv HdSpec.fresh.up), (("down" : Str), nv HdSpec.fresh.down), (("rule" : Str), nv HdSpec.fresh.rule), (("quarter" : Str), nv HdSpec.fresh.now)])) a10 = some (.lst []) := by rw [upd_ne m10]; exact e14 _ _ q13_10
  have k14 : (upd H14 x (.ins C.D dx [(("givers" : Str), V.ref a1), (("runs" : Str), V.ref a2), (("waited" : Str), V.ref a3), (("absent" : Str), V.ref a4), (("gave" : Str), V.ref a5), (("gave_ever" : Str), V.ref a6), (("orders" : Str), V.ref a7), (("taken_back" : Str), V.ref a8), (("in_force_for" : Str), V.ref a9), (("losses" : Str), V.ref a10), (("up" : Str), nv HdSpec.fresh.up), (("down" : Str), nv HdSpec.fresh.down), (("rule" : Str), nv HdSpec.fresh.rule), (("quarter" : Str), nv HdSpec.fresh.now)])) x = _ := upd_same
  generalize hK14 : upd H14 x (.ins C.D dx [(("givers" : Str), V.ref a1), (("runs" : Str), V.ref a2), (("waited" : Str), V.ref a3), (("absent" : Str), V.ref a4), (("gave" : Str), V.ref a5), (("gave_ever" : Str), V.ref a6), (("orders" : Str), V.ref a7), (("taken_back" : Str), V.ref a8), (("in_force_for" : Str), V.ref a9), (("losses" : Str), V.ref a10), (("up" : Str), nv HdSpec.fresh.up), (("down" : Str), nv HdSpec.fresh.down), (("rule" : Str), nv HdSpec.fresh.rule), (("quarter" : Str), nv HdSpec.fresh.now)]) = J14 at c14 k14 q14_1 q14_2 q14_3 q14_4 q14_5 q14_6 q14_7 q14_8 q14_9 q14_10
  show sFld K _ _ _ _ _ (upd H14 x (.ins C.D dx [(("givers" : Str), V.ref a1), (("runs" : Str), V.ref a2), (("waited" : Str), V.ref a3), (("absent" : Str), V.ref a4), (("gave" : Str), V.ref a5), (("gave_ever" : Str), V.ref a6), (("orders" : Str), V.ref a7), (("taken_back" : Str), V.ref a8), (("in_force_for" : Str), V.ref a9), (("losses" : Str), V.ref a10), (("up" : Str), nv HdSpec.fresh.up), (("down" : Str), nv HdSpec.fresh.down), (("rule" : Str), nv HdSpec.fresh.rule), (("quarter" : Str), nv HdSpec.fresh.now)]))
  rw [hK14]
  refine s_fld (v := nv HdSpec.fresh.could) ev_c (ev_var rfl) k14 c.cl c.could_ever (by show 14 < 1000; decide) fun H15 e15 => ?_
  have c15 := (c14.then e15).put (o := .ins C.D dx [(("givers" : Str), V.ref a1), (("runs" : Str), V.ref a2), (("waited" : Str), V.ref a3), (("absent" : Str), V.ref a4), (("gave" : Str), V.ref a5), (("gave_ever" : Str), V.ref a6), (("orders" : Str), V.ref a7), (("taken_back" : Str), V.ref a8), (("in_force_for" : Str), V.ref a9), (("losses" : Str), V.ref a10), (("up" : Str), nv HdSpec.fresh.up), (("down" : Str), nv HdSpec.fresh.down), (("rule" : Str), nv HdSpec.fresh.rule), (("quarter" : Str), nv HdSpec.fresh.now), (("could_ever" : Str), nv HdSpec.fresh.could)]) (e15 _ _ k14)
  have q15_1 : (upd H15 x (.ins C.D dx [(("givers" : Str), V.ref a1), (("runs" : Str), V.ref a2), (("waited" : Str), V.ref a3), (("absent" : Str), V.ref a4), (("gave" : Str), V.ref a5), (("gave_ever" : Str), V.ref a6), (("orders" : Str), V.ref a7), (("taken_back" : Str), V.ref a8), (("in_force_for" : Str), V.ref a9), (("losses" : Str), V.ref a10), (("up" : Str), nv HdSpec.fresh.up), (("down" : Str), nv HdSpec.fresh.down), (("rule" : Str), nv HdSpec.fresh.rule), (("quarter" : Str), nv HdSpec.fresh.now), (("could_ever" : Str), nv HdSpec.fresh.could)])) a1 = some (.lst []) := by rw [upd_ne m1]; exact e15 _ _ q14_1
  have q15_2 : (upd H15 x (.ins C.D dx [(("givers" : Str), V.ref a1), (("runs" : Str), V.ref a2), (("waited" : Str), V.ref a3), (("absent" : Str), V.ref a4), (("gave" : Str), V.ref a5), (("gave_ever" : Str), V.ref a6), (("orders" : Str), V.ref a7), (("taken_back" : Str), V.ref a8), (("in_force_for" : Str), V.ref a9), (("losses" : Str), V.ref a10), (("up" : Str), nv HdSpec.fresh.up), (("down" : Str), nv HdSpec.fresh.down), (("rule" : Str), nv HdSpec.fresh.rule), (("quarter" : Str), nv HdSpec.fresh.now), (("could_ever" : Str), nv HdSpec.fresh.could)])) a2 = some (.lst []) := by rw [upd_ne m2]; exact e15 _ _ q14_2
  have q15_3 : (upd H15 x (.ins C.D dx [(("givers" : Str), V.ref a1), (("runs" : Str), V.ref a2), (("waited" : Str), V.ref a3), (("absent" : Str), V.ref a4), (("gave" : Str), V.ref a5), (("gave_ever" : Str), V.ref a6), (("orders" : Str), V.ref a7), (("taken_back" : Str), V.ref a8), (("in_force_for" : Str), V.ref a9), (("losses" : Str), V.ref a10), (("up" : Str), nv HdSpec.fresh.up), (("down" : Str), nv HdSpec.fresh.down), (("rule" : Str), nv HdSpec.fresh.rule), (("quarter" : Str), nv HdSpec.fresh.now), (("could_ever" : Str), nv HdSpec.fresh.could)])) a3 = some (.lst []) := by rw [upd_ne m3]; exact e15 _ _ q14_3
  have q15_4 : (upd H15 x (.ins C.D dx [(("givers" : Str), V.ref a1), (("runs" : Str), V.ref a2), (("waited" : Str), V.ref a3), (("absent" : Str), V.ref a4), (("gave" : Str), V.ref a5), (("gave_ever" : Str), V.ref a6), (("orders" : Str), V.ref a7), (("taken_back" : Str), V.ref a8), (("in_force_for" : Str), V.ref a9), (("losses" : Str), V.ref a10), (("up" : Str), nv HdSpec.fresh.up), (("down" : Str), nv HdSpec.fresh.down), (("rule" : Str), nv HdSpec.fresh.rule), (("quarter" : Str), nv HdSpec.fresh.now), (("could_ever" : Str), nv HdSpec.fresh.could)])) a4 = some (.lst []) := by rw [upd_ne m4]; exact e15 _ _ q14_4
  have q15_5 : (upd H15 x (.ins C.D dx [(("givers" : Str), V.ref a1), (("runs" : Str), V.ref a2), (("waited" : Str), V.ref a3), (("absent" : Str), V.ref a4), (("gave" : Str), V.ref a5), (("gave_ever" : Str), V.ref a6), (("orders" : Str), V.ref a7), (("taken_back" : Str), V.ref a8), (("in_force_for" : Str), V.ref a9), (("losses" : Str), V.ref a10), (("up" : Str), nv HdSpec.fresh.up), (("down" : Str), nv HdSpec.fresh.down), (("rule" : Str), nv HdSpec.fresh.rule), (("quarter" : Str), nv HdSpec.fresh.now), (("could_ever" : Str), nv HdSpec.fresh.could)])) a5 = some (.lst []) := by rw [upd_ne m5]; exact e15 _ _ q14_5
  have q15_6 : (upd H15 x (.ins C.D dx [(("givers" : Str), V.ref a1), (("runs" : Str), V.ref a2), (("waited" : Str), V.ref a3), (("absent" : Str), V.ref a4), (("gave" : Str), V.ref a5), (("gave_ever" : Str), V.ref a6), (("orders" : Str), V.ref a7), (("taken_back" : Str), V.ref a8), (("in_force_for" : Str), V.ref a9), (("losses" : Str), V.ref a10), (("up" : Str), nv HdSpec.fresh.up), (("down" : Str), nv HdSpec.fresh.down), (("rule" : Str), nv HdSpec.fresh.rule), (("quarter" : Str), nv HdSpec.fresh.now), (("could_ever" : Str), nv HdSpec.fresh.could)])) a6 = some (.lst []) := by rw [upd_ne m6]; exact e15 _ _ q14_6
  have q15_7 : (upd H15 x (.ins C.D dx [(("givers" : Str), V.ref a1), (("runs" : Str), V.ref a2), (("waited" : Str), V.ref a3), (("absent" : Str), V.ref a4), (("gave" : Str), V.ref a5), (("gave_ever" : Str), V.ref a6), (("orders" : Str), V.ref a7), (("taken_back" : Str), V.ref a8), (("in_force_for" : Str), V.ref a9), (("losses" : Str), V.ref a10), (("up" : Str), nv HdSpec.fresh.up), (("down" : Str), nv HdSpec.fresh.down), (("rule" : Str), nv HdSpec.fresh.rule), (("quarter" : Str), nv HdSpec.fresh.now), (("could_ever" : Str), nv HdSpec.fresh.could)])) a7 = some (.lst []) := by rw [upd_ne m7]; exact e15 _ _ q14_7
  have q15_8 : (upd H15 x (.ins C.D dx [(("givers" : Str), V.ref a1), (("runs" : Str), V.ref a2), (("waited" : Str), V.ref a3), (("absent" : Str), V.ref a4), (("gave" : Str), V.ref a5), (("gave_ever" : Str), V.ref a6), (("orders" : Str), V.ref a7), (("taken_back" : Str), V.ref a8), (("in_force_for" : Str), V.ref a9), (("losses" : Str), V.ref a10), (("up" : Str), nv HdSpec.fresh.up), (("down" : Str), nv HdSpec.fresh.down), (("rule" : Str), nv HdSpec.fresh.rule), (("quarter" : Str), nv HdSpec.fresh.now), (("could_ever" : Str), nv HdSpec.fresh.could)])) a8 = some (.lst []) := by rw [upd_ne m8]; exact e15 _ _ q14_8
  have q15_9 : (upd H15 x (.ins C.D dx [(("givers" : Str), V.ref a1), (("runs" : Str), V.ref a2), (("waited" : Str), V.ref a3), (("absent" : Str), V.ref a4), (("gave" : Str), V.ref a5), (("gave_ever" : Str), V.ref a6), (("orders" : Str), V.ref a7), (("taken_back" : Str), V.ref a8), (("in_force_for" : Str), V.ref a9), (("losses" : Str), V.ref a10), (("up" : Str), nv HdSpec.fresh.up), (("down" : Str), nv HdSpec.fresh.down), (("rule" : Str), nv HdSpec.fresh.rule), (("quarter" : Str), nv HdSpec.fresh.now), (("could_ever" : Str), nv HdSpec.fresh.could)])) a9 = some (.lst []) := by rw [upd_ne m9]; exact e15 _ _ q14_9
  have q15_10 : (upd H15 x (.ins C.D dx [(("givers" : Str), V.ref a1), (("runs" : Str), V.ref a2), (("waited" : Str), V.ref a3), (("absent" : Str), V.ref a4), (("gave" : Str), V.ref a5), (("gave_ever" : Str), V.ref a6), (("orders" : Str), V.ref a7), (("taken_back" : Str), V.ref a8), (("in_force_for" : Str), V.ref a9), (("losses" : Str), V.ref a10), (("up" : Str), nv HdSpec.fresh.up), (("down" : Str), nv HdSpec.fresh.down), (("rule" : Str), nv HdSpec.fresh.rule), (("quarter" : Str), nv HdSpec.fresh.now), (("could_ever" : Str), nv HdSpec.fresh.could)])) a10 = some (.lst []) := by rw [upd_ne m10]; exact e15 _ _ q14_10
  exact k _ c15 ⟨⟨dx, P, cut_ins (fun z => z.2 rfl) upd_same, newD_in (cut_lst (fun z => z.1 n1) q15_1) (cut_lst (fun z => z.1 (c1.nn _ n2)) q15_2) (cut_lst (fun z => z.1 (c2.nn _ n3)) q15_3) (cut_lst (fun z => z.1 (c3.nn _ n4)) q15_4) (cut_lst (fun z => z.1 (c4.nn _ n5)) q15_5) (cut_lst (fun z => z.1 (c5.nn _ n6)) q15_6) (cut_lst (fun z => z.1 (c6.nn _ n7)) q15_7) (cut_lst (fun z => z.1 (c7.nn _ n8)) q15_8) (cut_lst (fun z => z.1 (c8.nn _ n9)) q15_9) (cut_lst (fun z => z.1 (c9.nn _ n10)) q15_10)⟩⟩
end Pp
end
section
set_option Elab.async false
set_option linter.all false
set_option maxRecDepth 100000
set_option maxHeartbeats 2000000
namespace Pp
open PySem PySem.Spec PyProof.Rows L2 Evl VwHand LamX NdefX
open HdSpec (Desk Stand Order inForce broughtDown forces limitsBut kindsOf worthsOf lastsOf inScope ownLoss standsAt couldsAt partedBy quarterOn Answer)
/-! ### with_one, copy_of -/
def sp_with_one (K : PySem.W.Frag) : Sp := fun vs H Q _ => ∃ (a : Addr) (xs : List V) (j : Nat) (v : V), vs = [.ref a, nv j, v] ∧ SqL K H a xs ∧ j < xs.length ∧ RetL (xs.set j v) H Q
theorem pure_with_one {K : PySem.W.Frag} {vs : List V} {H : Hp} {Q : VK} {E : XK} (h : sp_with_one K vs H Q E) : t_with_one K { nx := fun _ H' => Q .non H', rt := Q } (L2.start ["row", "place", "value", "changed"] vs) H := by
  obtain ⟨a, xs, j, v, rfl, ha, hj, k⟩ := h
  refine q_asgL (el_list (ev_var rfl) ha) fun m H1 hm e1 hm1 => ?_
  refine q_setL (j := j) (v := v) hm1 (ev_var rfl) (ev_var rfl) (ev_var rfl) hj fun H2 e2 => ?_
  exact s_ret (v := .ref m) (ev_var rfl) fun H3 e3 => k m H3 hm ((Ex.mut (e1.trans e2) hm).trans e3) (e3 _ _ upd_same)
def sp_copy_of (K : PySem.W.Frag) (C : Cs) : Sp := fun vs H Q _ => ∃ (a dx : Addr) (p : DA) (d : Desk), vs = [.ref a] ∧ H a = some (.ins C.D dx (dF p d)) ∧ ∀ b dx2 H2, H b = none → Ex H H2 → H2 b = some (.ins C.D dx2 (dF p d)) → Q (.ref b) H2
theorem cut_less {S S' : Addr → Prop} {H : Hp} (h : ∀ b, S' b → S b) : Ex (cut S H) (cut S' H) := fun b o hb => by
  obtain ⟨h1, h2, h3⟩ := cut_iff.mp hb
  exact cut_iff.mpr ⟨fun z => h1 (h b z), h2, h3⟩
/-- a new desk, which shares nothing with what stood -/
def FreshD (K : PySem.W.Frag) (C : Cs) (H : Hp) (x : Addr) (H2 : Hp) : Prop := DeskAt K C (cut (fun b => H b ≠ none) H2) x HdSpec.fresh
theorem freshD_mono {K : PySem.W.Frag} {C : Cs} {H : Hp} : ∀ p H1 H2, FreshD K C H p H1 → Ex H1 H2 → FreshD K C H p H2 := fun p H1 H2 h e => DeskAt.mono h (cut_ex e)
theorem ep_deskS {K : PySem.W.Frag} {C : Cs} {σ : L2.St} {H : Hp} {E : XK} : EvP (tMake C.D (sp_Desk K C) [] E tNil) σ H (FreshD K C H) :=
  ep_make ea_nil fun H1 H0 x dx e1 e2 hx h0 Q E q => ⟨x, dx, rfl, h0, fun H' hc hd => q H' hc (DeskAt.mono hd (cut_less fun b hb => ⟨fun z => hb (fresh_back (e1.trans e2) z), fun z => hb (by rw [z]; exact fresh_back e1 hx)⟩))⟩
theorem ep_desk {K : PySem.W.Frag} {C : Cs} {σ : L2.St} {H : Hp} {E : XK} : EvP (tMake C.D (sp_Desk K C) [] E tNil) σ H (NewD K C) := fun H1 e1 Q q =>
  ep_deskS H1 e1 Q fun p H2 hp e2 hd => q p H2 hp e2 (DeskAt.mono hd (cut_sub _ _))
theorem pure_copy_of {K : PySem.W.Frag} {C : Cs} (c : CC K C) {vs : List V} {H : Hp} {Q : VK} {E : XK} (h : sp_copy_of K C vs H Q E) : t_copy_of K C.D (sp_Desk K C) { nx := fun _ H' => Q .non H', rt := Q } (L2.start ["desk", "other"] vs) H := by
  obtain ⟨a, dx, p, d, rfl, ha, k⟩ := h
  refine q_asgP ep_desk fun b H1 hb e1 ⟨⟨dx2, p0, k0, _⟩⟩ => ?_
  have nab : a ≠ b := ne_of_none ha hb
  have ha0 := e1 _ _ ha
  have c0 : Ch b H1 H1 := Ch.refl b H1
  refine q_fld (v := .ref p.g) (dk_givers c.d ha0 (ev_var rfl)) (ev_var rfl) k0 c.d.cl c.d.givers (dF_few _ _) fun I1 e2 => ?_
  have c1 := (c0.then e2).put (o := .ins C.D dx2 (dF (⟨p.g, p0.r, p0.w, p0.a, p0.gv, p0.ge, p0.o, p0.tb, p0.ff, p0.ls⟩ : DA) ({ HdSpec.fresh with up := HdSpec.fresh.up, down := HdSpec.fresh.down, rule := HdSpec.fresh.rule, now := HdSpec.fresh.now, could := HdSpec.fresh.could } : Desk))) (e2 _ _ k0)
  have k1 : (upd I1 b (.ins C.D dx2 (dF (⟨p.g, p0.r, p0.w, p0.a, p0.gv, p0.ge, p0.o, p0.tb, p0.ff, p0.ls⟩ : DA) ({ HdSpec.fresh with up := HdSpec.fresh.up, down := HdSpec.fresh.down, rule := HdSpec.fresh.rule, now := HdSpec.fresh.now, could := HdSpec.fresh.could } : Desk)))) b = _ := upd_same
  have ha1 : (upd I1 b (.ins C.D dx2 (dF (⟨p.g, p0.r, p0.w, p0.a, p0.gv, p0.ge, p0.o, p0.tb, p0.ff, p0.ls⟩ : DA) ({ HdSpec.fresh with up := HdSpec.fresh.up, down := HdSpec.fresh.down, rule := HdSpec.fresh.rule, now := HdSpec.fresh.now, could := HdSpec.fresh.could } : Desk)))) a = some (.ins C.D dx (dF p d)) := by rw [upd_ne nab]; exact e2 _ _ ha0
  generalize hK1 : upd I1 b (.ins C.D dx2 (dF (⟨p.g, p0.r, p0.w, p0.a, p0.gv, p0.ge, p0.o, p0.tb, p0.ff, p0.ls⟩ : DA) ({ HdSpec.fresh with up := HdSpec.fresh.up, down := HdSpec.fresh.down, rule := HdSpec.fresh.rule, now := HdSpec.fresh.now, could := HdSpec.fresh.could } : Desk))) = J1 at c1 k1 ha1
  show tSeq _ _ _ _ (upd I1 b (.ins C.D dx2 (dF (⟨p.g, p0.r, p0.w, p0.a, p0.gv, p0.ge, p0.o, p0.tb, p0.ff, p0.ls⟩ : DA) ({ HdSpec.fresh with up := HdSpec.fresh.up, down := HdSpec.fresh.down, rule := HdSpec.fresh.rule, now := HdSpec.fresh.now, could := HdSpec.fresh.could } : Desk))))
  rw [hK1]
  refine q_fld (v := .ref p.r) (dk_runs c.d ha1 (ev_var rfl)) (ev_var rfl) k1 c.d.cl c.d.runs (dF_few _ _) fun I2 e3 => ?_
  have c2 := (c1.then e3).put (o := .ins C.D dx2 (dF (⟨p.g, p.r, p0.w, p0.a, p0.gv, p0.ge, p0.o, p0.tb, p0.ff, p0.ls⟩ : DA) ({ HdSpec.fresh with up := HdSpec.fresh.up, down := HdSpec.fresh.down, rule := HdSpec.fresh.rule, now := HdSpec.fresh.now, could := HdSpec.fresh.could } : Desk))) (e3 _ _ k1)
  have k2 : (upd I2 b (.ins C.D dx2 (dF (⟨p.g, p.r, p0.w, p0.a, p0.gv, p0.ge, p0.o, p0.tb, p0.ff, p0.ls⟩ : DA) ({ HdSpec.fresh with up := HdSpec.fresh.up, down := HdSpec.fresh.down, rule := HdSpec.fresh.rule, now := HdSpec.fresh.now, could := HdSpec.fresh.could } : Desk)))) b = _ := upd_same
  have ha2 : (upd I2 b (.ins C.D dx2 (dF (⟨p.g, p.r, p0.w, p0.a, p0.gv, p0.ge, p0.o, p0.tb, p0.ff, p0.ls⟩ : DA) ({ HdSpec.fresh with up := HdSpec.fresh.up, down := HdSpec.fresh.down, rule := HdSpec.fresh.rule, now := HdSpec.fresh.now, could := HdSpec.fresh.could } : Desk)))) a = some (.ins C.D dx (dF p d)) := by rw [upd_ne nab]; exact e3 _ _ ha1
  generalize hK2 : upd I2 b (.ins C.D dx2 (dF (⟨p.g, p.r, p0.w, p0.a, p0.gv, p0.ge, p0.o, p0.tb, p0.ff, p0.ls⟩ : DA) ({ HdSpec.fresh with up := HdSpec.fresh.up, down := HdSpec.fresh.down, rule := HdSpec.fresh.rule, now := HdSpec.fresh.now, could := HdSpec.fresh.could } : Desk))) = J2 at c2 k2 ha2
  show tSeq _ _ _ _ (upd I2 b (.ins C.D dx2 (dF (⟨p.g, p.r, p0.w, p0.a, p0.gv, p0.ge, p0.o, p0.tb, p0.ff, p0.ls⟩ : DA) ({ HdSpec.fresh with up := HdSpec.fresh.up, down := HdSpec.fresh.down, rule := HdSpec.fresh.rule, now := HdSpec.fresh.now, could := HdSpec.fresh.could } : Desk))))
  rw [hK2]
  refine q_fld (v := .ref p.w) (dk_waited c.d ha2 (ev_var rfl)) (ev_var rfl) k2 c.d.cl c.d.waited (dF_few _ _) fun I3 e4 => ?_
  have c3 := (c2.then e4).put (o := .ins C.D dx2 (dF (⟨p.g, p.r, p.w, p0.a, p0.gv, p0.ge, p0.o, p0.tb, p0.ff, p0.ls⟩ : DA) ({ HdSpec.fresh with up := HdSpec.fresh.up, down := HdSpec.fresh.down, rule := HdSpec.fresh.rule, now := HdSpec.fresh.now, could := HdSpec.fresh.could } : Desk))) (e4 _ _ k2)
  have k3 : (upd I3 b (.ins C.D dx2 (dF (⟨p.g, p.r, p.w, p0.a, p0.gv, p0.ge, p0.o, p0.tb, p0.ff, p0.ls⟩ : DA) ({ HdSpec.fresh with up := HdSpec.fresh.up, down := HdSpec.fresh.down, rule := HdSpec.fresh.rule, now := HdSpec.fresh.now, could := HdSpec.fresh.could } : Desk)))) b = _ := upd_same
  have ha3 : (upd I3 b (.ins C.D dx2 (dF (⟨p.g, p.r, p.w, p0.a, p0.gv, p0.ge, p0.o, p0.tb, p0.ff, p0.ls⟩ : DA) ({ HdSpec.fresh with up := HdSpec.fresh.up, down := HdSpec.fresh.down, rule := HdSpec.fresh.rule, now := HdSpec.fresh.now, could := HdSpec.fresh.could } : Desk)))) a = some (.ins C.D dx (dF p d)) := by rw [upd_ne nab]; exact e4 _ _ ha2
  generalize hK3 : upd I3 b (.ins C.D dx2 (dF (⟨p.g, p.r, p.w, p0.a, p0.gv, p0.ge, p0.o, p0.tb, p0.ff, p0.ls⟩ : DA) ({ HdSpec.fresh with up := HdSpec.fresh.up, down := HdSpec.fresh.down, rule := HdSpec.fresh.rule, now := HdSpec.fresh.now, could := HdSpec.fresh.could } : Desk))) = J3 at c3 k3 ha3
  show tSeq _ _ _ _ (upd I3 b (.ins C.D dx2 (dF (⟨p.g, p.r, p.w, p0.a, p0.gv, p0.ge, p0.o, p0.tb, p0.ff, p0.ls⟩ : DA) ({ HdSpec.fresh with up := HdSpec.fresh.up, down := HdSpec.fresh.down, rule := HdSpec.fresh.rule, now := HdSpec.fresh.now, could := HdSpec.fresh.could } : Desk))))
  rw [hK3]
  refine q_fld (v := .ref p.a) (dk_absent c.d ha3 (ev_var rfl)) (ev_var rfl) k3 c.d.cl c.d.absent (dF_few _ _) fun I4 e5 => ?_
  have c4 := (c3.then e5).put (o := .ins C.D dx2 (dF (⟨p.g, p.r, p.w, p.a, p0.gv, p0.ge, p0.o, p0.tb, p0.ff, p0.ls⟩ : DA) ({ HdSpec.fresh with up := HdSpec.fresh.up, down := HdSpec.fresh.down, rule := HdSpec.fresh.rule, now := HdSpec.fresh.now, could := HdSpec.fresh.could } : Desk))) (e5 _ _ k3)
  have k4 : (upd I4 b (.ins C.D dx2 (dF (⟨p.g, p.r, p.w, p.a, p0.gv, p0.ge, p0.o, p0.tb, p0.ff, p0.ls⟩ : DA) ({ HdSpec.fresh with up := HdSpec.fresh.up, down := HdSpec.fresh.down, rule := HdSpec.fresh.rule, now := HdSpec.fresh.now, could := HdSpec.fresh.could } : Desk)))) b = _ := upd_same
  have ha4 : (upd I4 b (.ins C.D dx2 (dF (⟨p.g, p.r, p.w, p.a, p0.gv, p0.ge, p0.o, p0.tb, p0.ff, p0.ls⟩ : DA) ({ HdSpec.fresh with up := HdSpec.fresh.up, down := HdSpec.fresh.down, rule := HdSpec.fresh.rule, now := HdSpec.fresh.now, could := HdSpec.fresh.could } : Desk)))) a = some (.ins C.D dx (dF p d)) := by rw [upd_ne nab]; exact e5 _ _ ha3
  generalize hK4 : upd I4 b (.ins C.D dx2 (dF (⟨p.g, p.r, p.w, p.a, p0.gv, p0.ge, p0.o, p0.tb, p0.ff, p0.ls⟩ : DA) ({ HdSpec.fresh with up := HdSpec.fresh.up, down := HdSpec.fresh.down, rule := HdSpec.fresh.rule, now := HdSpec.fresh.now, could := HdSpec.fresh.could } : Desk))) = J4 at c4 k4 ha4
  show tSeq _ _ _ _ (upd I4 b (.ins C.D dx2 (dF (⟨p.g, p.r, p.w, p.a, p0.gv, p0.ge, p0.o, p0.tb, p0.ff, p0.ls⟩ : DA) ({ HdSpec.fresh with up := HdSpec.fresh.up, down := HdSpec.fresh.down, rule := HdSpec.fresh.rule, now := HdSpec.fresh.now, could := HdSpec.fresh.could } : Desk))))
  rw [hK4]
  refine q_fld (v := .ref p.gv) (dk_gave c.d ha4 (ev_var rfl)) (ev_var rfl) k4 c.d.cl c.d.gave (dF_few _ _) fun I5 e6 => ?_
  have c5 := (c4.then e6).put (o := .ins C.D dx2 (dF (⟨p.g, p.r, p.w, p.a, p.gv, p0.ge, p0.o, p0.tb, p0.ff, p0.ls⟩ : DA) ({ HdSpec.fresh with up := HdSpec.fresh.up, down := HdSpec.fresh.down, rule := HdSpec.fresh.rule, now := HdSpec.fresh.now, could := HdSpec.fresh.could } : Desk))) (e6 _ _ k4)
  have k5 : (upd I5 b (.ins C.D dx2 (dF (⟨p.g, p.r, p.w, p.a, p.gv, p0.ge, p0.o, p0.tb, p0.ff, p0.ls⟩ : DA) ({ HdSpec.fresh with up := HdSpec.fresh.up, down := HdSpec.fresh.down, rule := HdSpec.fresh.rule, now := HdSpec.fresh.now, could := HdSpec.fresh.could } : Desk)))) b = _ := upd_same
  have ha5 : (upd I5 b (.ins C.D dx2 (dF (⟨p.g, p.r, p.w, p.a, p.gv, p0.ge, p0.o, p0.tb, p0.ff, p0.ls⟩ : DA) ({ HdSpec.fresh with up := HdSpec.fresh.up, down := HdSpec.fresh.down, rule := HdSpec.fresh.rule, now := HdSpec.fresh.now, could := HdSpec.fresh.could } : Desk)))) a = some (.ins C.D dx (dF p d)) := by rw [upd_ne nab]; exact e6 _ _ ha4
  generalize hK5 : upd I5 b (.ins C.D dx2 (dF (⟨p.g, p.r, p.w, p.a, p.gv, p0.ge, p0.o, p0.tb, p0.ff, p0.ls⟩ : DA) ({ HdSpec.fresh with up := HdSpec.fresh.up, down := HdSpec.fresh.down, rule := HdSpec.fresh.rule, now := HdSpec.fresh.now, could := HdSpec.fresh.could } : Desk))) = J5 at c5 k5 ha5
  show tSeq _ _ _ _ (upd I5 b (.ins C.D dx2 (dF (⟨p.g, p.r, p.w, p.a, p.gv, p0.ge, p0.o, p0.tb, p0.ff, p0.ls⟩ : DA) ({ HdSpec.fresh with up := HdSpec.fresh.up, down := HdSpec.fresh.down, rule := HdSpec.fresh.rule, now := HdSpec.fresh.now, could := HdSpec.fresh.could } : Desk))))
  rw [hK5]
  refine q_fld (v := .ref p.ge) (dk_gave_ever c.d ha5 (ev_var rfl)) (ev_var rfl) k5 c.d.cl c.d.gave_ever (dF_few _ _) fun I6 e7 => ?_
  have c6 := (c5.then e7).put (o := .ins C.D dx2 (dF (⟨p.g, p.r, p.w, p.a, p.gv, p.ge, p0.o, p0.tb, p0.ff, p0.ls⟩ : DA) ({ HdSpec.fresh with up := HdSpec.fresh.up, down := HdSpec.fresh.down, rule := HdSpec.fresh.rule, now := HdSpec.fresh.now, could := HdSpec.fresh.could } : Desk))) (e7 _ _ k5)
  have k6 : (upd I6 b (.ins C.D dx2 (dF (⟨p.g, p.r, p.w, p.a, p.gv, p.ge, p0.o, p0.tb, p0.ff, p0.ls⟩ : DA) ({ HdSpec.fresh with up := HdSpec.fresh.up, down := HdSpec.fresh.down, rule := HdSpec.fresh.rule, now := HdSpec.fresh.now, could := HdSpec.fresh.could } : Desk)))) b = _ := upd_same
  have ha6 : (upd I6 b (.ins C.D dx2 (dF (⟨p.g, p.r, p.w, p.a, p.gv, p.ge, p0.o, p0.tb, p0.ff, p0.ls⟩ : DA) ({ HdSpec.fresh with up := HdSpec.fresh.up, down := HdSpec.fresh.down, rule := HdSpec.fresh.rule, now := HdSpec.fresh.now, could := HdSpec.fresh.could } : Desk)))) a = some (.ins C.D dx (dF p d)) := by rw [upd_ne nab]; exact e7 _ _ ha5
  generalize hK6 : upd I6 b (.ins C.D dx2 (dF (⟨p.g, p.r, p.w, p.a, p.gv, p.ge, p0.o, p0.tb, p0.ff, p0.ls⟩ : DA) ({ HdSpec.fresh with up := HdSpec.fresh.up, down := HdSpec.fresh.down, rule := HdSpec.fresh.rule, now := HdSpec.fresh.now, could := HdSpec.fresh.could } : Desk))) = J6 at c6 k6 ha6
  show tSeq _ _ _ _ (upd I6 b (.ins C.D dx2 (dF (⟨p.g, p.r, p.w, p.a, p.gv, p.ge, p0.o, p0.tb, p0.ff, p0.ls⟩ : DA) ({ HdSpec.fresh with up := HdSpec.fresh.up, down := HdSpec.fresh.down, rule := HdSpec.fresh.rule, now := HdSpec.fresh.now, could := HdSpec.fresh.could } : Desk))))
  rw [hK6]
  refine q_fld (v := .ref p.o) (dk_orders c.d ha6 (ev_var rfl)) (ev_var rfl) k6 c.d.cl c.d.orders (dF_few _ _) fun I7 e8 => ?_
  have c7 := (c6.then e8).put (o := .ins C.D dx2 (dF (⟨p.g, p.r, p.w, p.a, p.gv, p.ge, p.o, p0.tb, p0.ff, p0.ls⟩ : DA) ({ HdSpec.fresh with up := HdSpec.fresh.up, down := HdSpec.fresh.down, rule := HdSpec.fresh.rule, now := HdSpec.fresh.now, could := HdSpec.fresh.could } : Desk))) (e8 _ _ k6)
  have k7 : (upd I7 b (.ins C.D dx2 (dF (⟨p.g, p.r, p.w, p.a, p.gv, p.ge, p.o, p0.tb, p0.ff, p0.ls⟩ : DA) ({ HdSpec.fresh with up := HdSpec.fresh.up, down := HdSpec.fresh.down, rule := HdSpec.fresh.rule, now := HdSpec.fresh.now, could := HdSpec.fresh.could } : Desk)))) b = _ := upd_same
  have ha7 : (upd I7 b (.ins C.D dx2 (dF (⟨p.g, p.r, p.w, p.a, p.gv, p.ge, p.o, p0.tb, p0.ff, p0.ls⟩ : DA) ({ HdSpec.fresh with up := HdSpec.fresh.up, down := HdSpec.fresh.down, rule := HdSpec.fresh.rule, now := HdSpec.fresh.now, could := HdSpec.fresh.could } : Desk)))) a = some (.ins C.D dx (dF p d)) := by rw [upd_ne nab]; exact e8 _ _ ha6
  generalize hK7 : upd I7 b (.ins C.D dx2 (dF (⟨p.g, p.r, p.w, p.a, p.gv, p.ge, p.o, p0.tb, p0.ff, p0.ls⟩ : DA) ({ HdSpec.fresh with up := HdSpec.fresh.up, down := HdSpec.fresh.down, rule := HdSpec.fresh.rule, now := HdSpec.fresh.now, could := HdSpec.fresh.could } : Desk))) = J7 at c7 k7 ha7
  show tSeq _ _ _ _ (upd I7 b (.ins C.D dx2 (dF (⟨p.g, p.r, p.w, p.a, p.gv, p.ge, p.o, p0.tb, p0.ff, p0.ls⟩ : DA) ({ HdSpec.fresh with up := HdSpec.fresh.up, down := HdSpec.fresh.down, rule := HdSpec.fresh.rule, now := HdSpec.fresh.now, could := HdSpec.fresh.could } : Desk))))
  rw [hK7]
  refine q_fld (v := .ref p.tb) (dk_taken_back c.d ha7 (ev_var rfl)) (ev_var rfl) k7 c.d.cl c.d.taken_back (dF_few _ _) fun I8 e9 => ?_
  have c8 := (c7.then e9).put (o := .ins C.D dx2 (dF (⟨p.g, p.r, p.w, p.a, p.gv, p.ge, p.o, p.tb, p0.ff, p0.ls⟩ : DA) ({ HdSpec.fresh with up := HdSpec.fresh.up, down := HdSpec.fresh.down, rule := HdSpec.fresh.rule, now := HdSpec.fresh.now, could := HdSpec.fresh.could } : Desk))) (e9 _ _ k7)
  have k8 : (upd I8 b (.ins C.D dx2 (dF (⟨p.g, p.r, p.w, p.a, p.gv, p.ge, p.o, p.tb, p0.ff, p0.ls⟩ : DA) ({ HdSpec.fresh with up := HdSpec.fresh.up, down := HdSpec.fresh.down, rule := HdSpec.fresh.rule, now := HdSpec.fresh.now, could := HdSpec.fresh.could } : Desk)))) b = _ := upd_same
  have ha8 : (upd I8 b (.ins C.D dx2 (dF (⟨p.g, p.r, p.w, p.a, p.gv, p.ge, p.o, p.tb, p0.ff, p0.ls⟩ : DA) ({ HdSpec.fresh with up := HdSpec.fresh.up, down := HdSpec.fresh.down, rule := HdSpec.fresh.rule, now := HdSpec.fresh.now, could := HdSpec.fresh.could } : Desk)))) a = some (.ins C.D dx (dF p d)) := by rw [upd_ne nab]; exact e9 _ _ ha7
  generalize hK8 : upd I8 b (.ins C.D dx2 (dF (⟨p.g, p.r, p.w, p.a, p.gv, p.ge, p.o, p.tb, p0.ff, p0.ls⟩ : DA) ({ HdSpec.fresh with up := HdSpec.fresh.up, down := HdSpec.fresh.down, rule := HdSpec.fresh.rule, now := HdSpec.fresh.now, could := HdSpec.fresh.could } : Desk))) = J8 at c8 k8 ha8
  show tSeq _ _ _ _ (upd I8 b (.ins C.D dx2 (dF (⟨p.g, p.r, p.w, p.a, p.gv, p.ge, p.o, p.tb, p0.ff, p0.ls⟩ : DA) ({ HdSpec.fresh with up := HdSpec.fresh.up, down := HdSpec.fresh.down, rule := HdSpec.fresh.rule, now := HdSpec.fresh.now, could := HdSpec.fresh.could } : Desk))))
  rw [hK8]
  refine q_fld (v := .ref p.ff) (dk_in_force_for c.d ha8 (ev_var rfl)) (ev_var rfl) k8 c.d.cl c.d.in_force_for (dF_few _ _) fun I9 e10 => ?_
  have c9 := (c8.then e10).put (o := .ins C.D dx2 (dF (⟨p.g, p.r, p.w, p.a, p.gv, p.ge, p.o, p.tb, p.ff, p0.ls⟩ : DA) ({ HdSpec.fresh with up := HdSpec.fresh.up, down := HdSpec.fresh.down, rule := HdSpec.fresh.rule, now := HdSpec.fresh.now, could := HdSpec.fresh.could } : Desk))) (e10 _ _ k8)
  have k9 : (upd I9 b (.ins C.D dx2 (dF (⟨p.g, p.r, p.w, p.a, p.gv, p.ge, p.o, p.tb, p.ff, p0.ls⟩ : DA) ({ HdSpec.fresh with up := HdSpec.fresh.up, down := HdSpec.fresh.down, rule := HdSpec.fresh.rule, now := HdSpec.fresh.now, could := HdSpec.fresh.could } : Desk)))) b = _ := upd_same
  have ha9 : (upd I9 b (.ins C.D dx2 (dF (⟨p.g, p.r, p.w, p.a, p.gv, p.ge, p.o, p.tb, p.ff, p0.ls⟩ : DA) ({ HdSpec.fresh with up := HdSpec.fresh.up, down := HdSpec.fresh.down, rule := HdSpec.fresh.rule, now := HdSpec.fresh.now, could := HdSpec.fresh.could } : Desk)))) a = some (.ins C.D dx (dF p d)) := by rw [upd_ne nab]; exact e10 _ _ ha8
  generalize hK9 : upd I9 b (.ins C.D dx2 (dF (⟨p.g, p.r, p.w, p.a, p.gv, p.ge, p.o, p.tb, p.ff, p0.ls⟩ : DA) ({ HdSpec.fresh with up := HdSpec.fresh.up, down := HdSpec.fresh.down, rule := HdSpec.fresh.rule, now := HdSpec.fresh.now, could := HdSpec.fresh.could } : Desk))) = J9 at c9 k9 ha9
  show tSeq _ _ _ _ (upd I9 b (.ins C.D dx2 (dF (⟨p.g, p.r, p.w, p.a, p.gv, p.ge, p.o, p.tb, p.ff, p0.ls⟩ : DA) ({ HdSpec.fresh with up := HdSpec.fresh.up, down := HdSpec.fresh.down, rule := HdSpec.fresh.rule, now := HdSpec.fresh.now, could := HdSpec.fresh.could } : Desk))))
  rw [hK9]
  refine q_fld (v := .ref p.ls) (dk_losses c.d ha9 (ev_var rfl)) (ev_var rfl) k9 c.d.cl c.d.losses (dF_few _ _) fun I10 e11 => ?_
  have c10 := (c9.then e11).put (o := .ins C.D dx2 (dF (⟨p.g, p.r, p.w, p.a, p.gv, p.ge, p.o, p.tb, p.ff, p.ls⟩ : DA) ({ HdSpec.fresh with up := HdSpec.fresh.up, down := HdSpec.fresh.down, rule := HdSpec.fresh.rule, now := HdSpec.fresh.now, could := HdSpec.fresh.could } : Desk))) (e11 _ _ k9)
  have k10 : (upd I10 b (.ins C.D dx2 (dF (⟨p.g, p.r, p.w, p.a, p.gv, p.ge, p.o, p.tb, p.ff, p.ls⟩ : DA) ({ HdSpec.fresh with up := HdSpec.fresh.up, down := HdSpec.fresh.down, rule := HdSpec.fresh.rule, now := HdSpec.fresh.now, could := HdSpec.fresh.could } : Desk)))) b = _ := upd_same
  have ha10 : (upd I10 b (.ins C.D dx2 (dF (⟨p.g, p.r, p.w, p.a, p.gv, p.ge, p.o, p.tb, p.ff, p.ls⟩ : DA) ({ HdSpec.fresh with up := HdSpec.fresh.up, down := HdSpec.fresh.down, rule := HdSpec.fresh.rule, now := HdSpec.fresh.now, could := HdSpec.fresh.could } : Desk)))) a = some (.ins C.D dx (dF p d)) := by rw [upd_ne nab]; exact e11 _ _ ha9
  generalize hK10 : upd I10 b (.ins C.D dx2 (dF (⟨p.g, p.r, p.w, p.a, p.gv, p.ge, p.o, p.tb, p.ff, p.ls⟩ : DA) ({ HdSpec.fresh with up := HdSpec.fresh.up, down := HdSpec.fresh.down, rule := HdSpec.fresh.rule, now := HdSpec.fresh.now, could := HdSpec.fresh.could } : Desk))) = J10 at c10 k10 ha10
  show tSeq _ _ _ _ (upd I10 b (.ins C.D dx2 (dF (⟨p.g, p.r, p.w, p.a, p.gv, p.ge, p.o, p.tb, p.ff, p.ls⟩ : DA) ({ HdSpec.fresh with up := HdSpec.fresh.up, down := HdSpec.fresh.down, rule := HdSpec.fresh.rule, now := HdSpec.fresh.now, could := HdSpec.fresh.could } : Desk))))
  rw [hK10]
  refine q_fld (v := nv d.up) (dk_up c.d ha10 (ev_var rfl)) (ev_var rfl) k10 c.d.cl c.d.up (dF_few _ _) fun I11 e12 => ?_
  have c11 := (c10.then e12).put (o := .ins C.D dx2 (dF (⟨p.g, p.r, p.w, p.a, p.gv, p.ge, p.o, p.tb, p.ff, p.ls⟩ : DA) ({ HdSpec.fresh with up := d.up, down := HdSpec.fresh.down, rule := HdSpec.fresh.rule, now := HdSpec.fresh.now, could := HdSpec.fresh.could } : Desk))) (e12 _ _ k10)
  have k11 : (upd I11 b (.ins C.D dx2 (dF (⟨p.g, p.r, p.w, p.a, p.gv, p.ge, p.o, p.tb, p.ff, p.ls⟩ : DA) ({ HdSpec.fresh with up := d.up, down := HdSpec.fresh.down, rule := HdSpec.fresh.rule, now := HdSpec.fresh.now, could := HdSpec.fresh.could } : Desk)))) b = _ := upd_same
  have ha11 : (upd I11 b (.ins C.D dx2 (dF (⟨p.g, p.r, p.w, p.a, p.gv, p.ge, p.o, p.tb, p.ff, p.ls⟩ : DA) ({ HdSpec.fresh with up := d.up, down := HdSpec.fresh.down, rule := HdSpec.fresh.rule, now := HdSpec.fresh.now, could := HdSpec.fresh.could } : Desk)))) a = some (.ins C.D dx (dF p d)) := by rw [upd_ne nab]; exact e12 _ _ ha10
  generalize hK11 : upd I11 b (.ins C.D dx2 (dF (⟨p.g, p.r, p.w, p.a, p.gv, p.ge, p.o, p.tb, p.ff, p.ls⟩ : DA) ({ HdSpec.fresh with up := d.up, down := HdSpec.fresh.down, rule := HdSpec.fresh.rule, now := HdSpec.fresh.now, could := HdSpec.fresh.could } : Desk))) = J11 at c11 k11 ha11
  show tSeq _ _ _ _ (upd I11 b (.ins C.D dx2 (dF (⟨p.g, p.r, p.w, p.a, p.gv, p.ge, p.o, p.tb, p.ff, p.ls⟩ : DA) ({ HdSpec.fresh with up := d.up, down := HdSpec.fresh.down, rule := HdSpec.fresh.rule, now := HdSpec.fresh.now, could := HdSpec.fresh.could } : Desk))))
  rw [hK11]
  refine q_fld (v := nv d.down) (dk_down c.d ha11 (ev_var rfl)) (ev_var rfl) k11 c.d.cl c.d.down (dF_few _ _) fun I12 e13 => ?_
  have c12 := (c11.then e13).put (o := .ins C.D dx2 (dF (⟨p.g, p.r, p.w, p.a, p.gv, p.ge, p.o, p.tb, p.ff, p.ls⟩ : DA) ({ HdSpec.fresh with up := d.up, down := d.down, rule := HdSpec.fresh.rule, now := HdSpec.fresh.now, could := HdSpec.fresh.could } : Desk))) (e13 _ _ k11)
  have k12 : (upd I12 b (.ins C.D dx2 (dF (⟨p.g, p.r, p.w, p.a, p.gv, p.ge, p.o, p.tb, p.ff, p.ls⟩ : DA) ({ HdSpec.fresh with up := d.up, down := d.down, rule := HdSpec.fresh.rule, now := HdSpec.fresh.now, could := HdSpec.fresh.could } : Desk)))) b = _ := upd_same
  have ha12 : (upd I12 b (.ins C.D dx2 (dF (⟨p.g, p.r, p.w, p.a, p.gv, p.ge, p.o, p.tb, p.ff, p.ls⟩ : DA) ({ HdSpec.fresh with up := d.up, down := d.down, rule := HdSpec.fresh.rule, now := HdSpec.fresh.now, could := HdSpec.fresh.could } : Desk)))) a = some (.ins C.D dx (dF p d)) := by rw [upd_ne nab]; exact e13 _ _ ha11
  generalize hK12 : upd I12 b (.ins C.D dx2 (dF (⟨p.g, p.r, p.w, p.a, p.gv, p.ge, p.o, p.tb, p.ff, p.ls⟩ : DA) ({ HdSpec.fresh with up := d.up, down := d.down, rule := HdSpec.fresh.rule, now := HdSpec.fresh.now, could := HdSpec.fresh.could } : Desk))) = J12 at c12 k12 ha12
  show tSeq _ _ _ _ (upd I12 b (.ins C.D dx2 (dF (⟨p.g, p.r, p.w, p.a, p.gv, p.ge, p.o, p.tb, p.ff, p.ls⟩ : DA) ({ HdSpec.fresh with up := d.up, down := d.down, rule := HdSpec.fresh.rule, now := HdSpec.fresh.now, could := HdSpec.fresh.could } : Desk))))
  rw [hK12]
  refine q_fld (v := nv d.rule) (dk_rule c.d ha12 (ev_var rfl)) (ev_var rfl) k12 c.d.cl c.d.rule (dF_few _ _) fun I13 e14 => ?_
  have c13 := (c12.then e14).put (o := .ins C.D dx2 (dF (⟨p.g, p.r, p.w, p.a, p.gv, p.ge, p.o, p.tb, p.ff, p.ls⟩ : DA) ({ HdSpec.fresh with up := d.up, down := d.down, rule := d.rule, now := HdSpec.fresh.now, could := HdSpec.fresh.could } : Desk))) (e14 _ _ k12)
  have k13 : (upd I13 b (.ins C.D dx2 (dF (⟨p.g, p.r, p.w, p.a, p.gv, p.ge, p.o, p.tb, p.ff, p.ls⟩ : DA) ({ HdSpec.fresh with up := d.up, down := d.down, rule := d.rule, now := HdSpec.fresh.now, could := HdSpec.fresh.could } : Desk)))) b = _ := upd_same
  have ha13 : (upd I13 b (.ins C.D dx2 (dF (⟨p.g, p.r, p.w, p.a, p.gv, p.ge, p.o, p.tb, p.ff, p.ls⟩ : DA) ({ HdSpec.fresh with up := d.up, down := d.down, rule := d.rule, now := HdSpec.fresh.now, could := HdSpec.fresh.could } : Desk)))) a = some (.ins C.D dx (dF p d)) := by rw [upd_ne nab]; exact e14 _ _ ha12
  generalize hK13 : upd I13 b (.ins C.D dx2 (dF (⟨p.g, p.r, p.w, p.a, p.gv, p.ge, p.o, p.tb, p.ff, p.ls⟩ : DA) ({ HdSpec.fresh with up := d.up, down := d.down, rule := d.rule, now := HdSpec.fresh.now, could := HdSpec.fresh.could } : Desk))) = J13 at c13 k13 ha13
  show tSeq _ _ _ _ (upd I13 b (.ins C.D dx2 (dF (⟨p.g, p.r, p.w, p.a, p.gv, p.ge, p.o, p.tb, p.ff, p.ls⟩ : DA) ({ HdSpec.fresh with up := d.up, down := d.down, rule := d.rule, now := HdSpec.fresh.now, could := HdSpec.fresh.could } : Desk))))
  rw [hK13]
  refine q_fld (v := nv d.now) (dk_quarter c.d ha13 (ev_var rfl)) (ev_var rfl) k13 c.d.cl c.d.quarter (dF_few _ _) fun I14 e15 => ?_
  have c14 := (c13.then e15).put (o := .ins C.D dx2 (dF (⟨p.g, p.r, p.w, p.a, p.gv, p.ge, p.o, p.tb, p.ff, p.ls⟩ : DA) ({ HdSpec.fresh with up := d.up, down := d.down, rule := d.rule, now := d.now, could := HdSpec.fresh.could } : Desk))) (e15 _ _ k13)
  have k14 : (upd I14 b (.ins C.D dx2 (dF (⟨p.g, p.r, p.w, p.a, p.gv, p.ge, p.o, p.tb, p.ff, p.ls⟩ : DA) ({ HdSpec.fresh with up := d.up, down := d.down, rule := d.rule, now := d.now, could := HdSpec.fresh.could } : Desk)))) b = _ := upd_same
  have ha14 : (upd I14 b (.ins C.D dx2 (dF (⟨p.g, p.r, p.w, p.a, p.gv, p.ge, p.o, p.tb, p.ff, p.ls⟩ : DA) ({ HdSpec.fresh with up := d.up, down := d.down, rule := d.rule, now := d.now, could := HdSpec.fresh.could } : Desk)))) a = some (.ins C.D dx (dF p d)) := by rw [upd_ne nab]; exact e15 _ _ ha13
  generalize hK14 : upd I14 b (.ins C.D dx2 (dF (⟨p.g, p.r, p.w, p.a, p.gv, p.ge, p.o, p.tb, p.ff, p.ls⟩ : DA) ({ HdSpec.fresh with up := d.up, down := d.down, rule := d.rule, now := d.now, could := HdSpec.fresh.could } : Desk))) = J14 at c14 k14 ha14
  show tSeq _ _ _ _ (upd I14 b (.ins C.D dx2 (dF (⟨p.g, p.r, p.w, p.a, p.gv, p.ge, p.o, p.tb, p.ff, p.ls⟩ : DA) ({ HdSpec.fresh with up := d.up, down := d.down, rule := d.rule, now := d.now, could := HdSpec.fresh.could } : Desk))))
  rw [hK14]
  refine q_fld (v := nv d.could) (dk_could_ever c.d ha14 (ev_var rfl)) (ev_var rfl) k14 c.d.cl c.d.could_ever (dF_few _ _) fun I15 e16 => ?_
  have c15 := (c14.then e16).put (o := .ins C.D dx2 (dF (⟨p.g, p.r, p.w, p.a, p.gv, p.ge, p.o, p.tb, p.ff, p.ls⟩ : DA) ({ HdSpec.fresh with up := d.up, down := d.down, rule := d.rule, now := d.now, could := d.could } : Desk))) (e16 _ _ k14)
  have k15 : (upd I15 b (.ins C.D dx2 (dF (⟨p.g, p.r, p.w, p.a, p.gv, p.ge, p.o, p.tb, p.ff, p.ls⟩ : DA) ({ HdSpec.fresh with up := d.up, down := d.down, rule := d.rule, now := d.now, could := d.could } : Desk)))) b = _ := upd_same
  have ha15 : (upd I15 b (.ins C.D dx2 (dF (⟨p.g, p.r, p.w, p.a, p.gv, p.ge, p.o, p.tb, p.ff, p.ls⟩ : DA) ({ HdSpec.fresh with up := d.up, down := d.down, rule := d.rule, now := d.now, could := d.could } : Desk)))) a = some (.ins C.D dx (dF p d)) := by rw [upd_ne nab]; exact e16 _ _ ha14
  generalize hK15 : upd I15 b (.ins C.D dx2 (dF (⟨p.g, p.r, p.w, p.a, p.gv, p.ge, p.o, p.tb, p.ff, p.ls⟩ : DA) ({ HdSpec.fresh with up := d.up, down := d.down, rule := d.rule, now := d.now, could := d.could } : Desk))) = J15 at c15 k15 ha15
  show tRet _ _ _ (upd I15 b (.ins C.D dx2 (dF (⟨p.g, p.r, p.w, p.a, p.gv, p.ge, p.o, p.tb, p.ff, p.ls⟩ : DA) ({ HdSpec.fresh with up := d.up, down := d.down, rule := d.rule, now := d.now, could := d.could } : Desk))))
  rw [hK15]
  refine s_ret (v := .ref b) (ev_var rfl) fun H2 e => k b dx2 H2 hb (fun z u hz => e _ _ (c15.keep z u (ne_of_none hz hb) (e1 _ _ hz))) (e _ _ k15)
/-! ### a desk apart from an object of a few attributes -/
theorem off_lst {H : Hp} {x Cx dx : Addr} {fs : List (Str × V)} (h : H x = some (.ins Cx dx fs)) {b : Addr} {xs : List V} (hb : H b = some (.lst xs)) : cut (fun b => b = x) H b = some (.lst xs) := cut_lst (ne_of hb h (fun z => nomatch z)) hb
theorem off_sq {K : PySem.W.Frag} {H : Hp} {x Cx dx : Addr} {fs : List (Str × V)} (h : H x = some (.ins Cx dx fs)) {b : Addr} {xs : List V} (hb : SqL K H b xs) : SqL K (cut (fun b => b = x) H) b xs := by
  rcases hb with (hb | ⟨o, hb⟩) | hb
  · exact .inl (.inl (off_lst h hb))
  · exact .inl (.inr ⟨o, cut_iff.mpr ⟨ne_of hb h (fun z => nomatch z), hb, fun ps z => nomatch z⟩⟩)
  · exact .inr hb
theorem off_ins {H : Hp} {x Cx dx : Addr} {fs : List (Str × V)} (h : H x = some (.ins Cx dx fs)) (hl : fs.length ≤ 3) {b Cb db : Addr} {gs : List (Str × V)} (hb : H b = some (.ins Cb db gs)) (hg : 3 < gs.length) : cut (fun b => b = x) H b = some (.ins Cb db gs) := cut_ins (ne_of hb h (fun z => by
  cases z; omega)) hb
theorem DeskAt.off {K : PySem.W.Frag} {C : Cs} {H : Hp} {x Cx dx a : Addr} {fs : List (Str × V)} {d : Desk} (D : DeskAt K C H a d) (h : H x = some (.ins Cx dx fs)) (hl : fs.length ≤ 3) : DeskAt K C (cut (fun b => b = x) H) a d := by
  obtain ⟨⟨dx2, p, h1, I⟩⟩ := D
  refine ⟨⟨dx2, p, off_ins h hl h1 (by show 3 < 15; decide), ?_, off_lst h I.r, off_lst h I.w, off_lst h I.a, off_lst h I.gv, off_lst h I.ge, ?_, off_lst h I.tb, off_lst h I.ff, off_lst h I.ls, I.ok⟩⟩
  · obtain ⟨⟨as, g1, g2, g3⟩⟩ := I.g
    refine ⟨⟨as, off_lst h g1, g2, fun i b g hb hg => ?_⟩⟩
    obtain ⟨⟨dx3, t, q1, q2⟩, ok⟩ := g3 i b g hb hg
    exact ⟨⟨dx3, t, off_ins h hl q1 (by show 3 < 8; decide), off_sq h q2⟩, ok⟩
  · obtain ⟨⟨as, g1, g2, g3⟩⟩ := I.o
    refine ⟨⟨as, off_lst h g1, g2, fun i b g hb hg => ?_⟩⟩
    obtain ⟨dx3, q1⟩ := g3 i b g hb hg
    exact ⟨dx3, off_ins h hl q1 (by show 3 < 5; decide)⟩
theorem off_upd {H : Hp} {x : Addr} {o : HO} : Ex (cut (fun b => b = x) H) (upd H x o) := fun b u hb => by
  obtain ⟨h1, h2, _⟩ := cut_iff.mp hb
  rw [upd_ne h1]; exact h2
/-! ### the memory -/
def mF (d e u : Addr) : List (Str × V) := [("desk", .ref d), ("earlier", .ref e), ("undone", .ref u)]
/-- what a new memory is -/
structure NewM (K : PySem.W.Frag) (C : Cs) (x : Addr) (H : Hp) : Prop where
  ex : ∃ dx d e u, H x = some (.ins C.M dx (mF d e u)) ∧ DeskAt K C (cut (fun b => b = x ∨ b = e ∨ b = u) H) d HdSpec.fresh ∧ H e = some (.lst []) ∧ H u = some (.lst []) ∧ e ≠ u
theorem ne_ins_lst {H : Hp} {x b C dx : Addr} {fs : List (Str × V)} {xs : List V} (h : H x = some (.ins C dx fs)) (hb : H b = some (.lst xs)) : b ≠ x := ne_of hb h (fun z => nomatch z)
def sp_Memory (K : PySem.W.Frag) (C : Cs) : Sp := fun vs H Q _ => ∃ (x dx : Addr), vs = [.ref x] ∧ H x = some (.ins C.M dx []) ∧ ∀ H', Ch x H H' → NewM K C x H' → Q .non H'
theorem newD_mono {K : PySem.W.Frag} {C : Cs} : ∀ p H1 H2, NewD K C p H1 → Ex H1 H2 → NewD K C p H2 := fun p H1 H2 h e => DeskAt.mono h e
theorem pure_Memory__init__ {K : PySem.W.Frag} {C : Cs} (c : CC K C) {vs : List V} {H : Hp} {Q : VK} {E : XK} (h : sp_Memory K C vs H Q E) : t_Memory__init__ K C.D (sp_Desk K C) { nx := fun _ H' => Q .non H', rt := Q } (L2.start ["self"] vs) H := by
  obtain ⟨x, dx, rfl, h0, k⟩ := h
  refine q_fldP newD_mono ep_desk (ev_var rfl) h0 c.m.cl c.m.desk (by decide) fun d H1 hd e1 hd1 => ?_
  have c1 := ((Ch.refl x H).then e1).put (o := .ins C.M dx [(("desk" : Str), V.ref d)]) (e1 _ _ h0)
  have k1 : (upd H1 x (.ins C.M dx [(("desk" : Str), V.ref d)])) x = _ := upd_same
  have d1 : NewD K C d (upd H1 x (.ins C.M dx [(("desk" : Str), V.ref d)])) := DeskAt.mono (DeskAt.off hd1 (e1 _ _ h0) (by decide)) off_upd
  generalize hK1 : upd H1 x (.ins C.M dx [(("desk" : Str), V.ref d)]) = J1 at c1 k1 d1
  show tSeq _ _ _ _ (upd H1 x (.ins C.M dx [(("desk" : Str), V.ref d)]))
  rw [hK1]
  refine q_fldL (xs := []) (el_lst ea_nil (by decide)) (ev_var rfl) k1 c.m.cl c.m.earlier (by show 1 < 1000; decide) fun e H2 he e2 he2 => ?_
  have c2 := (c1.then e2).put (o := .ins C.M dx [(("desk" : Str), V.ref d), (("earlier" : Str), V.ref e)]) (e2 _ _ k1)
  have k2 : (upd H2 x (.ins C.M dx [(("desk" : Str), V.ref d), (("earlier" : Str), V.ref e)])) x = _ := upd_same
  have d2 : NewD K C d (upd H2 x (.ins C.M dx [(("desk" : Str), V.ref d), (("earlier" : Str), V.ref e)])) := DeskAt.mono (DeskAt.off (DeskAt.mono d1 e2) (e2 _ _ k1) (by show 1 ≤ 3; decide)) off_upd
  have l2 : (upd H2 x (.ins C.M dx [(("desk" : Str), V.ref d), (("earlier" : Str), V.ref e)])) e = some (.lst []) := by rw [upd_ne (ne_ins_lst (e2 _ _ k1) he2)]; exact he2
  generalize hK2 : upd H2 x (.ins C.M dx [(("desk" : Str), V.ref d), (("earlier" : Str), V.ref e)]) = J2 at c2 k2 d2 l2
  show sFld K _ _ _ _ _ (upd H2 x (.ins C.M dx [(("desk" : Str), V.ref d), (("earlier" : Str), V.ref e)]))
  rw [hK2]
  refine s_fldL (xs := []) (el_lst ea_nil (by decide)) (ev_var rfl) k2 c.m.cl c.m.undone (by show 2 < 1000; decide) fun u H3 hu e3 hu3 => ?_
  have c3 := (c2.then e3).put (o := .ins C.M dx (mF d e u)) (e3 _ _ k2)
  have nu1 : J1 u = none := fresh_back e2 (by
    cases z : H2 u with
    | none => rfl
    | some o =>
      by_cases q : u = x
      · rw [q, k2] at hu; cases hu
      · have : J2 u = some o := by rw [← hK2, upd_ne q]; exact z
        rw [this] at hu; cases hu)
  have ex3 : Ex (cut (fun b => b = x) J1) (cut (fun b => b = x ∨ b = e ∨ b = u) (upd H3 x (.ins C.M dx (mF d e u)))) := fun b o hb => by
    obtain ⟨h1, h2, h3⟩ := cut_iff.mp hb
    refine cut_iff.mpr ⟨fun z => ?_, ?_, h3⟩
    · rcases z with z | z | z
      · exact h1 z
      · rw [z, he] at h2; cases h2
      · rw [z, nu1] at h2; cases h2
    · rw [upd_ne h1]
      refine e3 _ _ ?_
      rw [← hK2, upd_ne h1]
      exact e2 _ _ h2
  refine k _ c3 ⟨⟨dx, d, e, u, upd_same, DeskAt.mono (DeskAt.off d1 k1 (by show 1 ≤ 3; decide)) ex3, ?_, ?_, ne_of_none l2 hu⟩⟩
  · show (upd H3 x _) e = _
    rw [upd_ne (ne_ins_lst (e3 _ _ k2) (e3 _ _ l2))]; exact e3 _ _ l2
  · show (upd H3 x _) u = _
    rw [upd_ne (ne_ins_lst (e3 _ _ k2) hu3)]; exact hu3
end Pp
end
section
set_option Elab.async false
set_option linter.all false
set_option maxRecDepth 100000
set_option maxHeartbeats 2000000
namespace Pp
open PySem PySem.Spec PyProof.Rows L2 Evl VwHand LamX NdefX
open HdSpec (Desk Stand Order inForce broughtDown forces limitsBut kindsOf worthsOf lastsOf inScope ownLoss standsAt couldsAt partedBy quarterOn Answer)
/-! ### a desk that is being changed -/
structure DeskM (K : PySem.W.Frag) (C : Cs) (T : List (Addr × Str)) (S : Addr → Prop) (H : Hp) (a dx : Addr) (p : DA) (d : Desk) : Prop where
  sa : S a
  dom : ∀ b, S b → H b ≠ none
  at_ : H a = some (.ins C.D dx (dF p d))
  in_ : DeskIn K C (cut S H) p d
  tab : Tabs T H
def RetC (K : PySem.W.Frag) (C : Cs) (T : List (Addr × Str)) (S : Addr → Prop) (a dx : Addr) (xs : List V) (d' : Desk) (H : Hp) (Q : VK) : Prop := ∀ q p' H2, H q = none → ChN a H H2 → Tabs T H2 → H2 q = some (.lst xs) → H2 a = some (.ins C.D dx (dF p' d')) → DeskIn K C (cut S H2) p' d' → Q (.ref q) H2
/-- how far the change is -/
structure Ms (C : Cs) (T : List (Addr × Str)) (a dx : Addr) (H J : Hp) (p : DA) (d : Desk) : Prop where
  ch : ChN a H J
  at_ : J a = some (.ins C.D dx (dF p d))
  tab : Tabs T J
section
variable {K : PySem.W.Frag} {C : Cs} {T : List (Addr × Str)} {S : Addr → Prop} {H J J1 J2 : Hp} {a dx : Addr} {p p' : DA} {d d' : Desk} {σ : L2.St} {D : Ends} {tz : TS} {ta te : TE} {f : Str} {v : V} {xs : List V} {Q : VK}
theorem DeskM.start (M : DeskM K C T S H a dx p d) : Ms C T a dx H H p d := ⟨ChN.refl a H, M.at_, M.tab⟩
theorem Ms.ext (m : Ms C T a dx H J p d) (e : Ex J J1) : Ms C T a dx H J1 p d := ⟨m.ch.then e, e _ _ m.at_, m.tab.ext e⟩
theorem Ms.extN (m : Ms C T a dx H J p d) (e : ExN J J1) (t : Tabs T J1) : Ms C T a dx H J1 p d := ⟨m.ch.trans (.of e), e.ins m.at_, t⟩
theorem Ms.put (m : Ms C T a dx H J p d) : Ms C T a dx H (upd J a (.ins C.D dx (dF p' d'))) p' d' := ⟨m.ch.put m.at_, upd_same, Tabs.insU m.tab m.at_⟩
theorem DeskM.full (M : DeskM K C T S H a dx p d) : DeskIn K C H p d := M.in_.mono (cut_sub S H)
theorem DeskM.desk (M : DeskM K C T S H a dx p d) : DeskAt K C H a d := ⟨⟨dx, p, M.at_, M.full⟩⟩
/-- what stood in the part that stays stands there still -/
theorem DeskM.kept (M : DeskM K C T S H a dx p d) (m : ChN a H J) : DeskIn K C (cut S J) p d := M.in_.mono (cut_ch M.sa m)
theorem DeskM.new {x : Addr} (M : DeskM K C T S H a dx p d) (hx : H x = none) : ¬ S x := fun z => M.dom x z hx
theorem RetC.refuse (M : DeskM K C T S H a dx p d) (k : RetC K C T S a dx xs d H Q) (e : Ex H J) {q : Addr} (hq : J q = none) (e2 : Ex J J1) (h : J1 q = some (.lst xs)) : Q (.ref q) J1 :=
  k q p J1 (fresh_back e hq) (.ex (e.trans e2)) (M.tab.ext (e.trans e2)) h ((e.trans e2) _ _ M.at_) (M.kept (.ex (e.trans e2)))
/-- an answer that is a new list, behind the change -/
theorem RetC.done (k : RetC K C T S a dx xs d' H Q) (m : Ms C T a dx H J p' d') (e : Ex J J1) {q : Addr} (hq : J q = none) (h : J1 q = some (.lst xs)) (hI : ∀ {J2}, ChN a H J2 → Ex J J2 → DeskIn K C (cut S J2) p' d') : Q (.ref q) J1 :=
  k q p' J1 (m.ch.nn q hq) (m.ch.then e) (m.tab.ext e) h (e _ _ m.at_) (hI (m.ch.then e) e)
theorem q_msL (m : Ms C T a dx H J p d) (c : CD K C.D) (n : NoAttr K C.D f) (hv : EvL te σ J xs) (ha : Ev ta σ J (.ref a)) (p' : Addr → DA) (hput : ∀ x, putF f (.ref x) (dF p d) = dF (p' x) d)
    (k : ∀ x J1, J x = none → J1 x = some (.lst xs) → Ms C T a dx H J1 (p' x) d → ChN a J J1 → tz D σ J1) : tSeq (sFld K ta te f) tz D σ J :=
  q_fldL hv ha m.at_ c.cl n (dF_few _ _) fun x H1 hx e1 hx1 => by
    rw [hput]
    have m1 := m.ext e1
    exact k x _ hx (by rw [upd_ne (ne_ins_lst m1.at_ hx1)]; exact hx1) m1.put ((ChN.ex e1).put m1.at_)
theorem s_msL (m : Ms C T a dx H J p d) (c : CD K C.D) (n : NoAttr K C.D f) (hv : EvL te σ J xs) (ha : Ev ta σ J (.ref a)) (p' : Addr → DA) (hput : ∀ x, putF f (.ref x) (dF p d) = dF (p' x) d)
    (k : ∀ x J1, J x = none → J1 x = some (.lst xs) → Ms C T a dx H J1 (p' x) d → ChN a J J1 → D.nx σ J1) : sFld K ta te f D σ J :=
  s_fldL hv ha m.at_ c.cl n (dF_few _ _) fun x H1 hx e1 hx1 => by
    rw [hput]
    have m1 := m.ext e1
    exact k x _ hx (by rw [upd_ne (ne_ins_lst m1.at_ hx1)]; exact hx1) m1.put ((ChN.ex e1).put m1.at_)
theorem q_msV (m : Ms C T a dx H J p d) (c : CD K C.D) (n : NoAttr K C.D f) (hv : Ev te σ J v) (ha : Ev ta σ J (.ref a)) (hput : putF f v (dF p d) = dF p' d')
    (k : ∀ J1, Ms C T a dx H J1 p' d' → ChN a J J1 → tz D σ J1) : tSeq (sFld K ta te f) tz D σ J :=
  q_fld hv ha m.at_ c.cl n (dF_few _ _) fun H1 e1 => by
    rw [hput]
    have m1 := m.ext e1
    exact k _ m1.put ((ChN.ex e1).put m1.at_)
theorem q_msP {P : Addr → Hp → Prop} (m : Ms C T a dx H J p d) (c : CD K C.D) (n : NoAttr K C.D f) (hP : ∀ p H1 H2, P p H1 → Ex H1 H2 → P p H2) (hP2 : ∀ x H1 o, P x H1 → H1 a = some (.ins C.D dx (dF p d)) → P x (upd H1 a o)) (hv : EvP te σ J P) (ha : Ev ta σ J (.ref a)) (p' : Addr → DA) (hput : ∀ x, putF f (.ref x) (dF p d) = dF (p' x) d)
    (k : ∀ x J1, J x = none → P x J1 → Ms C T a dx H J1 (p' x) d → ChN a J J1 → tz D σ J1) : tSeq (sFld K ta te f) tz D σ J :=
  q_fldP hP hv ha m.at_ c.cl n (dF_few _ _) fun x H1 hx e1 hx1 => by
    rw [hput]
    have m1 := m.ext e1
    exact k x _ hx (hP2 _ _ _ hx1 m1.at_) m1.put ((ChN.ex e1).put m1.at_)
theorem el_zero : EvL (tLst (tCons (tC (.int 0)) tNil)) σ H [.int 0] := el_lst (ea_cons ev_c ea_nil) (by show 1 ≤ 100000; decide)
theorem keepL {x : Addr} {b : Addr} {xs : List V} (c : ChN a J J1) (m : J a = some (.ins C.D dx (dF p d))) (h : J b = some (.lst xs)) : J1 b = some (.lst xs) := c.lst (ne_ins_lst m h) h
end
/-! ### ramps, rule -/
def sp_tell_ramps (K : PySem.W.Frag) (C : Cs) (T : List (Addr × Str)) : Sp := fun vs H Q _ => ∃ (S : Addr → Prop) (a dx : Addr) (p : DA) (d : Desk) (up down : Nat), vs = [.ref a, nv up, nv down] ∧ DeskM K C T S H a dx p d ∧ RetC K C T S a dx (anV (HdSpec.says 0)) { d with up := up, down := down } H Q
theorem pure_tell_ramps {K : PySem.W.Frag} {C : Cs} {T : List (Addr × Str)} (c : CC K C) {vs : List V} {H : Hp} {Q : VK} {E : XK} (h : sp_tell_ramps K C T vs H Q E) : t_tell_ramps K { nx := fun _ H' => Q .non H', rt := Q } (L2.start ["desk", "up", "down"] vs) H := by
  obtain ⟨S, a, dx, p, d, up, down, rfl, M, k⟩ := h
  refine q_msV M.start c.d c.d.up (ev_var rfl) (ev_var rfl) (put_up p d up) fun J1 m1 _ => ?_
  refine q_msV m1 c.d c.d.down (ev_var rfl) (ev_var rfl) (put_down p _ down) fun J2 m2 _ => ?_
  refine s_retL el_zero fun q J3 hq e3 h3 => k.done m2 e3 hq h3 fun hc _ => ?_
  have I := M.kept hc
  have ok := I.ok
  exact ⟨I.g, I.r, I.w, I.a, I.gv, I.ge, I.o, I.tb, I.ff, I.ls, ⟨ok.few, ok.gok, ok.slen, ok.ofew, ok.scope, ok.turn, ok.gave, ok.less⟩⟩
def sp_tell_rule (K : PySem.W.Frag) (C : Cs) (T : List (Addr × Str)) : Sp := fun vs H Q _ => ∃ (S : Addr → Prop) (a dx : Addr) (p : DA) (d : Desk) (n : Nat), vs = [.ref a, nv n] ∧ DeskM K C T S H a dx p d ∧ RetC K C T S a dx (anV (if 1 < n then HdSpec.says (-1) else HdSpec.says 0)) (if 1 < n then d else { d with rule := n }) H Q
theorem pure_tell_rule {K : PySem.W.Frag} {C : Cs} {T : List (Addr × Str)} (c : CC K C) {vs : List V} {H : Hp} {Q : VK} {E : XK} (h : sp_tell_rule K C T vs H Q E) : t_tell_rule K { nx := fun _ H' => Q .non H', rt := Q } (L2.start ["desk", "rule"] vs) H := by
  obtain ⟨S, a, dx, p, d, n, rfl, M, k⟩ := h
  refine q_when (et_test (ev_gtN (n := 1) (ev_var rfl) ev_c)) (fun hb H1 e1 => ?_) (fun hb H1 e1 => ?_)
  · have hb' := of_decide_eq_true hb
    rw [if_pos hb', if_pos hb'] at k
    exact s_retL el_neg fun q J3 hq e3 h3 => k.refuse M e1 hq e3 h3
  · have hb' := of_decide_eq_false hb
    rw [if_neg hb', if_neg hb'] at k
    refine q_msV (M.start.ext e1) c.d c.d.rule (ev_var rfl) (ev_var rfl) (put_rule p d n) fun J1 m1 _ => ?_
    refine s_retL el_zero fun q J3 hq e3 h3 => k.done m1 e3 hq h3 fun hc _ => ?_
    have I := M.kept hc
    have ok := I.ok
    exact ⟨I.g, I.r, I.w, I.a, I.gv, I.ge, I.o, I.tb, I.ff, I.ls, ⟨ok.few, ok.gok, ok.slen, ok.ofew, ok.scope, ok.turn, ok.gave, ok.less⟩⟩
end Pp
end
section
set_option Elab.async false
set_option linter.all false
set_option maxRecDepth 100000
set_option maxHeartbeats 2000000
namespace Pp
open PySem PySem.Spec PyProof.Rows L2 Evl VwHand LamX NdefX
open HdSpec (Desk Stand Order inForce broughtDown forces limitsBut kindsOf worthsOf lastsOf inScope ownLoss standsAt couldsAt partedBy quarterOn Answer)
/-! ### away -/
theorem modify_at {α : Type} (l : List α) (i j : Nat) (f : α → α) : (l.modify i f)[j]? = if i = j then (l[j]?).map f else l[j]? := by
  rw [List.getElem?_modify]
  by_cases e : i = j
  · rw [if_pos e]; cases l[j]? with
    | none => rfl
    | some a => show some (if i = j then f a else a) = some (f a); rw [if_pos e]
  · rw [if_neg e]; cases l[j]? with
    | none => rfl
    | some a => show some (if i = j then f a else a) = some a; rw [if_neg e]
theorem map_modify {α β : Type} {l : List α} {i : Nat} {f : α → α} {g : α → β} {s : α} (h : l[i]? = some s) : (l.modify i f).map g = (l.map g).set i (g (f s)) := by
  refine List.ext_getElem? fun j => ?_
  rw [List.getElem?_map, modify_at, List.getElem?_set, List.getElem?_map]
  have hi := (List.getElem?_eq_some_iff.mp h).1
  by_cases e : i = j
  · subst e; rw [if_pos rfl, h, if_pos rfl, if_pos (by rw [List.length_map]; exact hi)]; rfl
  · rw [if_neg e, if_neg e]
theorem map_modify_same {α β : Type} {l : List α} {i : Nat} {f : α → α} {g : α → β} (h : ∀ a, g (f a) = g a) : (l.modify i f).map g = l.map g := by
  refine List.ext_getElem? fun j => ?_
  rw [List.getElem?_map, modify_at, List.getElem?_map]
  by_cases e : i = j
  · rw [if_pos e]
    cases l[j]? with
    | none => rfl
    | some a => show some (g (f a)) = some (g a); rw [h]
  · rw [if_neg e]
def awayF (b : Nat) (a : Stand) : Stand := if b = 1 then { a with turn := still, away := true } else { a with away := false }
def deskAway (d : Desk) (i b : Nat) : Desk := { d with stands := d.stands.modify i (awayF b) }
theorem away_ok {d : Desk} {i b : Nat} (h : DeskOk d) : DeskOk (deskAway d i b) := by
  refine ⟨h.few, h.gok, by show (d.stands.modify i _).length = _; rw [List.length_modify]; exact h.slen, h.ofew, h.scope, ?_, ?_, h.less⟩
  · intro j g s hg hs
    have hs' : (d.stands.modify i (awayF b))[j]? = some s := hs
    rw [modify_at] at hs'
    have hgo := h.gok g (List.mem_of_getElem? hg)
    cases q : d.stands[j]? with
    | none => rw [q] at hs'; split at hs' <;> cases hs'
    | some s0 =>
      rw [q] at hs'
      have t0 := h.turn j g s0 hg q
      by_cases e : i = j
      · rw [if_pos e] at hs'
        have e2 := Option.some.inj hs'
        rw [← e2]
        unfold awayF
        split
        · exact ⟨hgo.wait0, fun _ => rfl⟩
        · exact t0
      · rw [if_neg e] at hs'
        have e2 := Option.some.inj hs'
        rw [← e2]
        exact t0
  · show d.gave = VwNum.total ((d.stands.modify i (awayF b)).map (·.gave))
    rw [map_modify_same (fun a => by unfold awayF; split <;> rfl)]
    exact h.gave
def anAway (d : Desk) (i b : Nat) : Answer := if 1 < b then HdSpec.says (-1) else if d.givers.length ≤ i then HdSpec.says (-2) else HdSpec.says 0
def afAway (d : Desk) (i b : Nat) : Desk := if 1 < b then d else if d.givers.length ≤ i then d else deskAway d i b
def sp_tell_away (K : PySem.W.Frag) (C : Cs) (T : List (Addr × Str)) : Sp := fun vs H Q _ => ∃ (S : Addr → Prop) (a dx : Addr) (p : DA) (d : Desk) (i b : Nat), vs = [.ref a, nv i, nv b] ∧ DeskM K C T S H a dx p d ∧ RetC K C T S a dx (anV (anAway d i b)) (afAway d i b) H Q
theorem el_with {K : PySem.W.Frag} {σ : L2.St} {H : Hp} {ta tb tc : TE} {a : Addr} {xs : List V} {j : Nat} {v : V} {E : XK} (h1 : Ev ta σ H (.ref a)) (h2 : Ev tb σ H (nv j)) (h3 : Ev tc σ H v) (hx : SqL K H a xs) (hj : j < xs.length) : EvL (tCall (sp_with_one K) [] E (tCons ta (tCons tb (tCons tc tNil)))) σ H (xs.set j v) :=
  el_call (ea_cons h1 (ea_cons h2 (ea_cons h3 ea_nil))) fun H1 e1 Q q _ => ⟨a, xs, j, v, rfl, ex_l e1 hx, hj, q⟩
theorem bvs_set (l : List Bool) (i : Nat) (b : Bool) : bvs (l.set i b) = (bvs l).set i (.bl b) := by unfold bvs; rw [List.map_set]
theorem pure_tell_away {K : PySem.W.Frag} {C : Cs} {T : List (Addr × Str)} (c : CC K C) {vs : List V} {H : Hp} {Q : VK} {E : XK} (h : sp_tell_away K C T vs H Q E) : t_tell_away K (sp_with_one K) { nx := fun _ H' => Q .non H', rt := Q } (L2.start ["desk", "number", "away"] vs) H := by
  obtain ⟨S, a, dx, p, d, i, b, rfl, M, k⟩ := h
  have I0 := M.full
  have hok := I0.ok
  unfold anAway afAway at k
  refine q_when (et_test (ev_gtN (n := 1) (ev_var rfl) ev_c)) (fun hb H1 e1 => ?_) (fun hb H1 e1 => ?_)
  · have hb' := of_decide_eq_true hb
    rw [if_pos hb', if_pos hb'] at k
    exact s_retL el_neg fun q J3 hq e3 h3 => k.refuse M e1 hq e3 h3
  have hb' := of_decide_eq_false hb
  rw [if_neg hb', if_neg hb'] at k
  refine q_when (et_test (ev_geN (m := i) (ev_var rfl) (ev_glen c (e1 _ _ M.at_) (I0.mono e1) (ev_var rfl)))) (fun hb2 H2 e2 => ?_) (fun hb2 H2 e2 => ?_)
  · have hb2' := of_decide_eq_true hb2
    rw [if_pos hb2', if_pos hb2'] at k
    exact s_retL el_neg fun q J3 hq e3 h3 => k.refuse M (e1.trans e2) hq e3 h3
  have hb2' := of_decide_eq_false hb2
  rw [if_neg hb2', if_neg hb2'] at k
  have hi : i < d.stands.length := by rw [hok.slen]; omega
  obtain ⟨s, hs⟩ : ∃ s, d.stands[i]? = some s := ⟨_, List.getElem?_eq_getElem hi⟩
  have e12 := e1.trans e2
  have m0 := M.start.ext e12
  refine q_msL m0 c.d c.d.absent (el_with (dk_absent c.d m0.at_ (ev_var rfl)) (ev_var rfl) (ev_eqN (n := 1) (ev_var rfl) ev_c) (sq_of (e12 _ _ I0.a)) (by rw [bvs_length, List.length_map]; exact hi)) (ev_var rfl) (fun x => { p with a := x }) (fun x => put_absent p d x) fun x J1 hx hx1 m1 ch1 => ?_
  have nx : ¬ S x := M.new (fresh_back e12 hx)
  have r1 : J1 p.r = _ := keepL (x := a) ch1 m0.at_ (e12 _ _ I0.r)
  have w1 : J1 p.w = _ := keepL (x := a) ch1 m0.at_ (e12 _ _ I0.w)
  have fin : ∀ {J : Hp} {D : Ends} {σ : L2.St} (p' : DA), Ms C T a dx H J p' d → D.rt = Q → (∀ {J2}, ChN a H J2 → Ex J J2 → DeskIn K C (cut S J2) p' (deskAway d i b)) → tRet (tLst (tCons (tC (.int 0)) tNil)) D σ J := fun {J D σ} p' m hD hI =>
    s_retL el_zero fun q J3 hq e3 h3 => by
      rw [hD]
      have m' : Ms C T a dx H J p' (deskAway d i b) := ⟨m.ch, m.at_, m.tab⟩
      exact k.done m' e3 hq h3 hI
  have eaw : bvs ((deskAway d i b).stands.map (·.away)) = (bvs (d.stands.map (·.away))).set i (.bl (decide (b = 1))) := by
    show bvs ((d.stands.modify i (awayF b)).map (·.away)) = _
    rw [map_modify hs, bvs_set]
    congr 2
    unfold awayF
    by_cases e : b = 1 <;> simp [e]
  have egv : lastsOf (deskAway d i b) = lastsOf d := map_modify_same (fun a => by unfold awayF; split <;> rfl)
  have ege : (deskAway d i b).stands.map (·.gave) = d.stands.map (·.gave) := map_modify_same (fun a => by unfold awayF; split <;> rfl)
  by_cases e1' : b = 1
  · refine q_if (b := true) (et_is (et_test (ev_eqN (n := 1) (ev_var rfl) ev_c)) (decide_eq_true e1')) (fun _ J2 e2' => ?_) (fun z => nomatch z)
    have m2 := m1.ext e2'
    refine q_msL m2 c.d c.d.runs (el_with (dk_runs c.d m2.at_ (ev_var rfl)) (ev_var rfl) ev_c (sq_of (e2' _ _ r1)) (by rw [bvs_length, List.length_map]; exact hi)) (ev_var rfl) (fun y => { p with a := x, r := y }) (fun y => put_runs _ d y) fun y J3 hy hy3 m3 ch3 => ?_
    refine s_msL m3 c.d c.d.waited (el_with (v := nv 0) (dk_waited c.d m3.at_ (ev_var rfl)) (ev_var rfl) ev_c (sq_of (keepL (x := a) ch3 m2.at_ (e2' _ _ w1))) (by rw [nvs_length, List.length_map]; exact hi)) (ev_var rfl) (fun z => { p with a := x, r := y, w := z }) (fun z => put_waited _ d z) fun z J4 hz hz4 m4 ch4 => ?_
    have ny : ¬ S y := M.new (m2.ch.nn _ hy)
    have nz : ¬ S z := M.new (m3.ch.nn _ hz)
    show tRet (tLst (tCons (tC (.int 0)) tNil)) { nx := fun _ H' => Q .non H', rt := Q } [] J4
    refine fin _ m4 rfl fun hc e5 => ?_
    have I := M.kept hc
    have x4 := e5 _ _ (keepL (x := a) ch4 m3.at_ (keepL (x := a) ch3 m2.at_ (e2' _ _ hx1)))
    have y4 := e5 _ _ (keepL (x := a) ch4 m3.at_ hy3)
    refine ⟨I.g, ?_, ?_, ?_, by rw [egv]; exact I.gv, by rw [ege]; exact I.ge, I.o, I.tb, I.ff, I.ls, away_ok I.ok⟩
    · show cut S _ y = _
      rw [cut_lst ny y4]
      show _ = some (HO.lst (bvs ((d.stands.modify i (awayF b)).map (·.turn.runs))))
      rw [map_modify hs, bvs_set]
      congr 3
      unfold awayF; rw [if_pos e1']; rfl
    · show cut S _ z = _
      rw [cut_lst nz (e5 _ _ hz4)]
      show _ = some (HO.lst (nvs ((d.stands.modify i (awayF b)).map (·.turn.waited))))
      rw [map_modify hs, nvs_set]
      congr 3
      unfold awayF; rw [if_pos e1']; rfl
    · show cut S _ x = _
      rw [eaw]
      exact cut_lst nx x4
  · refine q_if (b := false) (et_is (et_test (ev_eqN (n := 1) (ev_var rfl) ev_c)) (decide_eq_false e1')) (fun z => nomatch z) (fun _ J2 e2' => ?_)
    show tRet (tLst (tCons (tC (.int 0)) tNil)) { nx := fun _ H' => Q .non H', rt := Q } [] J2
    refine fin _ (m1.ext e2') rfl fun hc e5 => ?_
    have I := M.kept hc
    refine ⟨I.g, ?_, ?_, ?_, by rw [egv]; exact I.gv, by rw [ege]; exact I.ge, I.o, I.tb, I.ff, I.ls, away_ok I.ok⟩
    · have e : (deskAway d i b).stands.map (·.turn.runs) = d.stands.map (·.turn.runs) := map_modify_same (fun a => by unfold awayF; rw [if_neg e1'])
      rw [e]; exact I.r
    · have e : (deskAway d i b).stands.map (·.turn.waited) = d.stands.map (·.turn.waited) := map_modify_same (fun a => by unfold awayF; rw [if_neg e1'])
      rw [e]; exact I.w
    · show cut S _ x = _
      rw [eaw]
      exact cut_lst nx (e5 _ _ (e2' _ _ hx1))
/-! ### back -/
def deskBack (d : Desk) (j : Nat) (o : Order) : Desk := { d with orders := d.orders.set j { o with back := some d.now } }
def anBack (d : Desk) (j : Nat) : Answer := match d.orders[j]? with
  | none => HdSpec.says (-1)
  | some o => if o.back.isSome = true ∨ o.end_ ≤ d.now then HdSpec.says (-2) else HdSpec.says 0
def afBack (d : Desk) (j : Nat) : Desk := match d.orders[j]? with
  | none => d
  | some o => if o.back.isSome = true ∨ o.end_ ≤ d.now then d else deskBack d j o
theorem map_set_same {α β : Type} {l : List α} {i : Nat} {g : α → β} {s t : α} (h : l[i]? = some s) (e : g t = g s) : (l.set i t).map g = l.map g := by
  refine List.ext_getElem? fun j => ?_
  rw [List.getElem?_map, List.getElem?_set, List.getElem?_map]
  by_cases q : i = j
  · subst q; rw [if_pos rfl, if_pos (List.getElem?_eq_some_iff.mp h).1, h]; show some (g t) = some (g s); rw [e]
  · rw [if_neg q]
def sp_tell_back (K : PySem.W.Frag) (C : Cs) (T : List (Addr × Str)) : Sp := fun vs H Q _ => ∃ (S : Addr → Prop) (a dx : Addr) (p : DA) (d : Desk) (j : Nat), vs = [.ref a, nv j] ∧ DeskM K C T S H a dx p d ∧ RetC K C T S a dx (anV (anBack d j)) (afBack d j) H Q
theorem back_ok {d : Desk} {j : Nat} {o : Order} (h : DeskOk d) (ho : d.orders[j]? = some o) : DeskOk (deskBack d j o) := by
  refine ⟨h.few, h.gok, h.slen, by show (d.orders.set j _).length ≤ 32; rw [List.length_set]; exact h.ofew, fun q hq => ?_, h.turn, h.gave, h.less⟩
  rcases List.mem_or_eq_of_mem_set (show q ∈ d.orders.set j _ from hq) with z | z
  · exact h.scope q z
  · rw [z]; exact h.scope o (List.mem_of_getElem? ho)
theorem pure_tell_back {K : PySem.W.Frag} {C : Cs} {T : List (Addr × Str)} (c : CC K C) {vs : List V} {H : Hp} {Q : VK} {E : XK} (h : sp_tell_back K C T vs H Q E) : t_tell_back K (sp_with_one K) { nx := fun _ H' => Q .non H', rt := Q } (L2.start ["desk", "number"] vs) H := by
  obtain ⟨S, a, dx, p, d, j, rfl, M, k⟩ := h
  have I0 := M.full
  have hok := I0.ok
  unfold anBack afBack at k
  refine q_when (et_test (ev_geN (m := j) (ev_var rfl) (ev_olen c M.at_ I0 (ev_var rfl)))) (fun hb H1 e1 => ?_) (fun hb H1 e1 => ?_)
  · have hb' := of_decide_eq_true hb
    rw [List.getElem?_eq_none (by omega)] at k
    exact s_retL el_neg fun q J3 hq e3 h3 => k.refuse M e1 hq e3 h3
  have hb' := of_decide_eq_false hb
  obtain ⟨o, ho⟩ : ∃ o, d.orders[j]? = some o := ⟨_, List.getElem?_eq_getElem (by omega)⟩
  rw [ho] at k
  simp only [] at k
  obtain ⟨as, ha, hal, hG⟩ := I0.o.get
  obtain ⟨b, dx2, hb1, hb2⟩ := hG j o ho
  obtain ⟨z, hz, hz2⟩ := lo_neg o.back
  have at2 := bks_at ho
  rw [hz] at at2
  refine q_when (et_or (et_test (ev_neI (j := -1) (ev_ixL (dk_taken_back c.d (e1 _ _ M.at_) (ev_var rfl)) (ev_var rfl) (sq_of (e1 _ _ I0.tb)) at2) ev_c)) fun _ => et_test (ev_leN (or_end_ c.o (e1 _ _ hb2) (ev_ixL (dk_orders c.d (e1 _ _ M.at_) (ev_var rfl)) (ev_var rfl) (sq_of (e1 _ _ ha)) (refs_at hb1))) (dk_quarter c.d (e1 _ _ M.at_) (ev_var rfl)))) (fun hb3 H2 e2 => ?_) (fun hb3 H2 e2 => ?_)
  · rw [hz2] at hb3
    have hb3' : o.back.isSome = true ∨ o.end_ ≤ d.now := by
      simp only [Bool.or_eq_true, Bool.not_eq_true', decide_eq_true_eq] at hb3
      rcases hb3 with q | q
      · left; cases hbk : o.back with
        | none => rw [hbk] at q; cases q
        | some n => rfl
      · exact .inr q
    rw [if_pos hb3', if_pos hb3'] at k
    exact s_retL el_neg fun q J3 hq e3 h3 => k.refuse M (e1.trans e2) hq e3 h3
  · rw [hz2] at hb3
    have hb3' : ¬ (o.back.isSome = true ∨ o.end_ ≤ d.now) := by
      simp only [Bool.or_eq_false_iff, Bool.not_eq_false', decide_eq_false_iff_not] at hb3
      rintro (q | q)
      · rw [Option.isNone_iff_eq_none.mp hb3.1] at q; cases q
      · exact hb3.2 q
    rw [if_neg hb3', if_neg hb3'] at k
    have e12 := e1.trans e2
    have m0 := M.start.ext e12
    refine q_msL m0 c.d c.d.taken_back (el_with (dk_taken_back c.d m0.at_ (ev_var rfl)) (ev_var rfl) (dk_quarter c.d m0.at_ (ev_var rfl)) (sq_of (e12 _ _ I0.tb)) (by unfold bks; rw [List.length_map, List.length_map]; omega)) (ev_var rfl) (fun x => { p with tb := x }) (fun x => put_taken_back p d x) fun x J1 hx hx1 m1 ch1 => ?_
    have nx : ¬ S x := M.new (fresh_back e12 hx)
    refine s_retL el_zero fun q J3 hq e3 h3 => k.done (p' := { p with tb := x }) ⟨m1.ch, m1.at_, m1.tab⟩ e3 hq h3 fun hc e5 => ?_
    have I := M.kept hc
    have ebk : bks (deskBack d j o) = (bks d).set j (nv d.now) := by
      show ((d.orders.set j { o with back := some d.now }).map (·.back)).map lo = _
      rw [List.map_set, List.map_set]; rfl
    have eff : (deskBack d j o).orders.map (·.force) = d.orders.map (·.force) := map_set_same ho rfl
    have els : (deskBack d j o).orders.map (·.own) = d.orders.map (·.own) := map_set_same ho rfl
    refine ⟨I.g, I.r, I.w, I.a, I.gv, I.ge, ?_, by rw [ebk]; exact cut_lst nx (e5 _ _ hx1), by rw [eff]; exact I.ff, by rw [els]; exact I.ls, back_ok I.ok ho⟩
    obtain ⟨⟨as', g1, g2, g3⟩⟩ := I.o
    refine ⟨⟨as', g1, by rw [g2]; show _ = (d.orders.set j _).length; rw [List.length_set], fun i b' q' hb' hq' => ?_⟩⟩
    have hq2 : (d.orders.set j { o with back := some d.now })[i]? = some q' := hq'
    rw [List.getElem?_set] at hq2
    by_cases e : j = i
    · subst e
      rw [if_pos rfl, if_pos (by omega)] at hq2
      have e2 := Option.some.inj hq2
      rw [← e2]
      exact g3 j b' o hb' ho
    · rw [if_neg e] at hq2
      exact g3 i b' q' hb' hq2
end Pp
end
section
set_option Elab.async false
set_option linter.all false
set_option maxRecDepth 100000
set_option maxHeartbeats 2000000
namespace Pp
open PySem PySem.Spec PyProof.Rows L2 Evl VwHand LamX NdefX
open HdSpec (Desk Stand Order inForce broughtDown forces limitsBut kindsOf worthsOf lastsOf inScope ownLoss standsAt couldsAt partedBy quarterOn Answer)
/-! ### order -/
def newO (d : Desk) (s f e l : Nat) : Order := ⟨s, f, e, l, d.now, none, 0, 0⟩
def deskOrder (d : Desk) (s f e l : Nat) : Desk := { d with orders := d.orders ++ [newO d s f e l] }
def anOrder (d : Desk) (s f e l : Nat) : Answer := if HdSpec.ALL < s ∨ e ≤ f then HdSpec.says (-1) else if e ≤ d.now then HdSpec.says (-2) else if HdSpec.ORDERS ≤ d.orders.length then HdSpec.says (-3) else HdSpec.says (d.orders.length : Int)
def afOrder (d : Desk) (s f e l : Nat) : Desk := if HdSpec.ALL < s ∨ e ≤ f then d else if e ≤ d.now then d else if HdSpec.ORDERS ≤ d.orders.length then d else deskOrder d s f e l
def sp_tell_order (K : PySem.W.Frag) (C : Cs) (T : List (Addr × Str)) : Sp := fun vs H Q _ => ∃ (S : Addr → Prop) (a dx : Addr) (p : DA) (d : Desk) (s f e l : Nat), vs = [.ref a, nv s, nv f, nv e, nv l] ∧ DeskM K C T S H a dx p d ∧ RetC K C T S a dx (anV (anOrder d s f e l)) (afOrder d s f e l) H Q
def OrdP (S : Addr → Prop) (C : Addr) (r : Order) : Addr → Hp → Prop := fun x H => ¬ S x ∧ ∃ dx, H x = some (.ins C dx (oF r))
theorem oF_dF {C C' x y : Addr} {r : Order} {p : DA} {d : Desk} : HO.ins C x (oF r) ≠ HO.ins C' y (dF p d) := fun z => by
  injection z with z1 z2 z3
  exact absurd (congrArg List.length z3) (by show ¬ (5 = 15); decide)
theorem gF_dF {C C' x y t : Addr} {g : PG} {p : DA} {d : Desk} : HO.ins C x (gF g t) ≠ HO.ins C' y (dF p d) := fun z => by
  injection z with z1 z2 z3
  exact absurd (congrArg List.length z3) (by show ¬ (8 = 15); decide)
theorem ordP_mono {S : Addr → Prop} {C : Addr} {r : Order} : ∀ p H1 H2, OrdP S C r p H1 → Ex H1 H2 → OrdP S C r p H2 := fun p H1 H2 ⟨n, dx, h⟩ e => ⟨n, dx, e _ _ h⟩
theorem oneP_mono {P : Addr → Hp → Prop} {pre : List V} (hP : ∀ p H1 H2, P p H1 → Ex H1 H2 → P p H2) : ∀ p H1 H2, OneP P pre p H1 → Ex H1 H2 → OneP P pre p H2 := fun p H1 H2 ⟨x, h1, h2⟩ e => ⟨x, e _ _ h1, hP _ _ _ h2 e⟩
theorem order_ok {d : Desk} {s f e l : Nat} (h : DeskOk d) (hs : s ≤ 8) (ho : d.orders.length < 32) : DeskOk (deskOrder d s f e l) := by
  refine ⟨h.few, h.gok, h.slen, by show (d.orders ++ _).length ≤ 32; rw [List.length_append]; show d.orders.length + 1 ≤ 32; omega, fun q hq => ?_, h.turn, h.gave, h.less⟩
  rcases List.mem_append.mp (show q ∈ d.orders ++ [newO d s f e l] from hq) with z | z
  · exact h.scope q z
  · rw [List.mem_singleton.mp z]; exact hs
theorem snoc_get {α : Type} {l : List α} {x y : α} {i : Nat} (h : (l ++ [x])[i]? = some y) : (l[i]? = some y) ∨ (i = l.length ∧ y = x) := by
  by_cases hi : i < l.length
  · rw [List.getElem?_append_left hi] at h; exact .inl h
  · rw [List.getElem?_append_right (by omega)] at h
    by_cases e : i - l.length = 0
    · rw [e] at h; exact .inr ⟨by omega, (Option.some.inj h).symm⟩
    · rw [List.getElem?_eq_none (by simp; omega)] at h; cases h
theorem pure_tell_order {K : PySem.W.Frag} {C : Cs} {T : List (Addr × Str)} (c : CC K C) {vs : List V} {H : Hp} {Q : VK} {E : XK} (h : sp_tell_order K C T vs H Q E) : t_tell_order K C.O (sp_Order K C.O) { nx := fun _ H' => Q .non H', rt := Q } (L2.start ["desk", "scope", "first", "end", "limit"] vs) H := by
  obtain ⟨S, a, dx, p, d, s, f, e, l, rfl, M, k⟩ := h
  have I0 := M.full
  have hok := I0.ok
  unfold anOrder afOrder HdSpec.ALL HdSpec.ORDERS at k
  refine q_when (et_or (et_test (ev_gtN (n := 8) (ev_var rfl) ev_c)) fun _ => et_test (ev_leN (m := e) (n := f) (ev_var rfl) (ev_var rfl))) (fun hb H1 e1 => ?_) (fun hb H1 e1 => ?_)
  · have hb' : 8 < s ∨ e ≤ f := by simpa using hb
    rw [if_pos hb', if_pos hb'] at k
    exact s_retL el_neg fun q J3 hq e3 h3 => k.refuse M e1 hq e3 h3
  have hb' : ¬ (8 < s ∨ e ≤ f) := by simpa using hb
  rw [if_neg hb', if_neg hb'] at k
  refine q_when (et_test (ev_leN (m := e) (ev_var rfl) (dk_quarter c.d (e1 _ _ M.at_) (ev_var rfl)))) (fun hb2 H2 e2 => ?_) (fun hb2 H2 e2 => ?_)
  · have hb2' := of_decide_eq_true hb2
    rw [if_pos hb2', if_pos hb2'] at k
    exact s_retL el_neg fun q J3 hq e3 h3 => k.refuse M (e1.trans e2) hq e3 h3
  have hb2' := of_decide_eq_false hb2
  rw [if_neg hb2', if_neg hb2'] at k
  have e12 := e1.trans e2
  have hof := hok.ofew
  refine q_when (et_test (ev_eqN (n := 32) (ev_olen c (e12 _ _ M.at_) (I0.mono e12) (ev_var rfl)) ev_c)) (fun hb3 H3 e3 => ?_) (fun hb3 H3 e3 => ?_)
  · have hb3' := of_decide_eq_true hb3
    rw [if_pos (by omega), if_pos (by omega)] at k
    exact s_retL el_neg fun q J3 hq e4 h3 => k.refuse M (e12.trans e3) hq e4 h3
  have hb3' := of_decide_eq_false hb3
  rw [if_neg (by omega), if_neg (by omega)] at k
  have e13 := e12.trans e3
  have m0 := M.start.ext e13
  obtain ⟨⟨as, ha', hal, hG⟩⟩ := M.in_.o
  have ha := cut_sub S H _ _ ha'
  have ol : (as.map V.ref).length = d.orders.length := by rw [List.length_map, hal]
  refine q_msP (P := OneP (OrdP S C.O (newO d s f e l)) (as.map V.ref)) m0 c.d c.d.orders (oneP_mono ordP_mono) (fun x H1 o ⟨y, g1, ny, dy, g2⟩ hA => ⟨y, by rw [upd_ne (ne_ins_lst hA g1)]; exact g1, ny, dy, by rw [upd_ne (ne_of g2 hA oF_dF)]; exact g2⟩)
    (ep_catP ordP_mono (dk_orders c.d m0.at_ (ev_var rfl)) (e13 _ _ ha) (ep_one ordP_mono (ep_make (ea_cons (ev_var rfl) (ea_cons (ev_var rfl) (ea_cons (ev_var rfl) (ea_cons (ev_var rfl) (ea_cons (dk_quarter c.d m0.at_ (ev_var rfl)) ea_nil))))) fun H1 H0 x dy ea _ hx h0 Q2 E2 q => ⟨x, dy, newO d s f e l, rfl, h0, fun H' hc hp => q H' hc ⟨M.new (fresh_back (e13.trans ea) hx), dy, hp⟩⟩)) (by rw [ol]; omega)) (ev_var rfl) (fun x => { p with o := x }) (fun x => put_orders p d x) fun x1 J1 hx1 hP1 m1 ch1 => ?_
  obtain ⟨ob, ob1, nobS, odx, ob2⟩ := hP1
  refine q_msL m1 c.d c.d.taken_back (el_catR (ys := [.int (-1)]) (dk_taken_back c.d m1.at_ (ev_var rfl)) (keepL (x := a) ch1 m0.at_ (e13 _ _ I0.tb)) (el_lst (ea_cons ev_c ea_nil) (by show 1 ≤ 100000; decide)) (by unfold bks; rw [List.length_map, List.length_map]; show _ + 1 ≤ 100000; omega)) (ev_var rfl) (fun x => { p with o := x1, tb := x }) (fun x => put_taken_back _ d x) fun x2 J2 hx2 hl2 m2 ch2 => ?_
  refine q_msL m2 c.d c.d.in_force_for (el_catR (ys := [nv 0]) (dk_in_force_for c.d m2.at_ (ev_var rfl)) (keepL (x := a) ch2 m1.at_ (keepL (x := a) ch1 m0.at_ (e13 _ _ I0.ff))) (el_lst (ea_cons ev_c ea_nil) (by show 1 ≤ 100000; decide)) (by rw [nvs_length, List.length_map]; show _ + 1 ≤ 100000; omega)) (ev_var rfl) (fun x => { p with o := x1, tb := x2, ff := x }) (fun x => put_in_force_for _ d x) fun x3 J3 hx3 hl3 m3 ch3 => ?_
  refine q_msL m3 c.d c.d.losses (el_catR (ys := [nv 0]) (dk_losses c.d m3.at_ (ev_var rfl)) (keepL (x := a) ch3 m2.at_ (keepL (x := a) ch2 m1.at_ (keepL (x := a) ch1 m0.at_ (e13 _ _ I0.ls)))) (el_lst (ea_cons ev_c ea_nil) (by show 1 ≤ 100000; decide)) (by rw [nvs_length, List.length_map]; show _ + 1 ≤ 100000; omega)) (ev_var rfl) (fun x => { p with o := x1, tb := x2, ff := x3, ls := x }) (fun x => put_losses _ d x) fun x4 J4 hx4 hl4 m4 ch4 => ?_
  have nob : ob ≠ a := ne_of ob2 m1.at_ oF_dF
  have o4 := keepL (x := a) ch4 m3.at_ (keepL (x := a) ch3 m2.at_ (keepL (x := a) ch2 m1.at_ ob1))
  have ob4 := ch4.ins nob (ch3.ins nob (ch2.ins nob ob2))
  refine s_retL (el_lst (ea_cons (ev_subN (n := 1) (ev_is (ev_len (dk_orders c.d m4.at_ (ev_var rfl)) (sq_of o4)) (w := nv (d.orders.length + 1)) (by rw [List.length_append, ol]; rfl)) ev_c (by omega)) ea_nil) (by show 1 ≤ 100000; decide)) fun q J5 hq e5 h5 => k.done (p' := { p with o := x1, tb := x2, ff := x3, ls := x4 }) ⟨m4.ch, m4.at_, m4.tab⟩ e5 hq h5 fun hc e6 => ?_
  have I := M.kept hc
  have n1 : ¬ S x1 := M.new (fresh_back e13 hx1)
  have n2 : ¬ S x2 := M.new (m1.ch.nn _ hx2)
  have n3 : ¬ S x3 := M.new (m2.ch.nn _ hx3)
  have n4 : ¬ S x4 := M.new (m3.ch.nn _ hx4)
  refine ⟨I.g, I.r, I.w, I.a, I.gv, I.ge, ?_, ?_, ?_, ?_, order_ok I.ok (by omega) (by omega)⟩
  · refine ⟨⟨as ++ [ob], ?_, ?_, fun i b r hb hr => ?_⟩⟩
    · show cut S _ x1 = _
      rw [List.map_append]
      exact cut_lst n1 (e6 _ _ o4)
    · show _ = (d.orders ++ [_]).length
      rw [List.length_append, List.length_append, hal]; rfl
    · have hr' : (d.orders ++ [newO d s f e l])[i]? = some r := hr
      rcases snoc_get hr' with z | ⟨z1, z2⟩
      · have hi := (List.getElem?_eq_some_iff.mp z).1
        rw [List.getElem?_append_left (by omega)] at hb
        obtain ⟨dy, g⟩ := hG i b r hb z
        exact ⟨dy, cut_ch M.sa hc _ _ g⟩
      · rw [List.getElem?_append_right (by omega), z1, hal, Nat.sub_self] at hb
        have : ob = b := Option.some.inj hb
        rw [← this, z2]
        exact ⟨odx, cut_ins nobS (e6 _ _ ob4)⟩
  · show cut S _ x2 = _
    rw [cut_lst n2 (e6 _ _ (keepL (x := a) ch4 m3.at_ (keepL (x := a) ch3 m2.at_ hl2)))]
    show _ = some (HO.lst (((d.orders ++ [newO d s f e l]).map (·.back)).map lo))
    rw [List.map_append, List.map_append]; rfl
  · show cut S _ x3 = _
    rw [cut_lst n3 (e6 _ _ (keepL (x := a) ch4 m3.at_ hl3))]
    show _ = some (HO.lst (nvs ((d.orders ++ [newO d s f e l]).map (·.force))))
    rw [List.map_append, nvs_append]; rfl
  · show cut S _ x4 = _
    rw [cut_lst n4 (e6 _ _ hl4)]
    show _ = some (HO.lst (nvs ((d.orders ++ [newO d s f e l]).map (·.own))))
    rw [List.map_append, nvs_append]; rfl
end Pp
end
section
set_option Elab.async false
set_option linter.all false
set_option maxRecDepth 100000
set_option maxHeartbeats 2000000
namespace Pp
open PySem PySem.Spec PyProof.Rows L2 Evl VwHand LamX NdefX
open HdSpec (Desk Stand Order inForce broughtDown forces limitsBut kindsOf worthsOf lastsOf inScope ownLoss standsAt couldsAt partedBy quarterOn Answer)
/-! ### giver -/
def newG (kind most start stop wait up worth : Nat) (t : List (Nat × Nat)) : HdSpec.Giver := ⟨kind, worth, ⟨t, most, start, stop, wait, up⟩⟩
def deskGiver (d : Desk) (g : HdSpec.Giver) : Desk := { d with givers := d.givers ++ [g], stands := d.stands ++ [HdSpec.new] }
def anGiver (d : Desk) (kind most start stop wait up worth : Nat) (row : List Nat) : Answer := if HdSpec.giverBad kind most start stop wait up worth = true then HdSpec.says (-1) else match VwNum.tableOf HdSpec.POINTS row with
  | none => HdSpec.says (-2)
  | some t => if HdSpec.GIVERS ≤ d.givers.length then HdSpec.says (-3) else HdSpec.says (d.givers.length : Int)
def afGiver (d : Desk) (kind most start stop wait up worth : Nat) (row : List Nat) : Desk := if HdSpec.giverBad kind most start stop wait up worth = true then d else match VwNum.tableOf HdSpec.POINTS row with
  | none => d
  | some t => if HdSpec.GIVERS ≤ d.givers.length then d else deskGiver d (newG kind most start stop wait up worth t)
def sp_tell_giver (K : PySem.W.Frag) (C : Cs) (T : List (Addr × Str)) : Sp := fun vs H Q _ => ∃ (S : Addr → Prop) (a dx : Addr) (p : DA) (d : Desk) (nm tb : Addr) (kind most start stop wait up worth : Nat) (row : List Nat), vs = [.ref a, .ref nm, .ref tb] ∧ DeskM K C T S H a dx p d ∧ SqL K H nm (nvs [kind, most, start, stop, wait, up, worth]) ∧ SqL K (cut S H) tb (nvs row) ∧ row.length ≤ 20000 ∧ (∀ x ∈ row, x < 4294967296) ∧
  RetC K C T S a dx (anV (anGiver d kind most start stop wait up worth row)) (afGiver d kind most start stop wait up worth row) H Q
def GivP (S : Addr → Prop) (C : Addr) (g : PG) (t : Addr) : Addr → Hp → Prop := fun x H => ¬ S x ∧ ∃ dx, H x = some (.ins C dx (gF g t))
theorem givP_mono {S : Addr → Prop} {C : Addr} {g : PG} {t : Addr} : ∀ p H1 H2, GivP S C g t p H1 → Ex H1 H2 → GivP S C g t p H2 := fun p H1 H2 ⟨n, dx, h⟩ e => ⟨n, dx, e _ _ h⟩
theorem giver_ok {d : Desk} {g : HdSpec.Giver} (h : DeskOk d) (hg : GOk (toPG g)) (hl : d.givers.length < 24) : DeskOk (deskGiver d g) := by
  refine ⟨by show (d.givers ++ [g]).length ≤ 24; rw [List.length_append]; show _ + 1 ≤ 24; omega, fun q hq => ?_, by show (d.stands ++ [_]).length = (d.givers ++ [g]).length; rw [List.length_append, List.length_append, h.slen]; rfl, h.ofew, h.scope, fun i q s hq hs => ?_, ?_, h.less⟩
  · rcases List.mem_append.mp (show q ∈ d.givers ++ [g] from hq) with z | z
    · exact h.gok q z
    · rw [List.mem_singleton.mp z]; exact hg
  · have hq' : (d.givers ++ [g])[i]? = some q := hq
    have hs' : (d.stands ++ [HdSpec.new])[i]? = some s := hs
    rcases snoc_get hq' with z | ⟨z1, z2⟩
    · have hi := (List.getElem?_eq_some_iff.mp z).1
      rcases snoc_get hs' with y | ⟨y1, y2⟩
      · exact h.turn i q s z y
      · rw [h.slen] at y1; omega
    · rcases snoc_get hs' with y | ⟨y1, y2⟩
      · have hi := (List.getElem?_eq_some_iff.mp y).1
        rw [h.slen] at hi; omega
      · rw [y2, z2]; exact ⟨hg.wait0, fun _ => rfl⟩
  · show d.gave = VwNum.total ((d.stands ++ [HdSpec.new]).map (·.gave))
    rw [List.map_append, Ph.total_append, ← h.gave]; rfl
theorem pure_tell_giver {K : PySem.W.Frag} {C : Cs} {T : List (Addr × Str)} (c : CC K C) {vs : List V} {H : Hp} {Q : VK} {E : XK} (h : sp_tell_giver K C T vs H Q E) : t_tell_giver K C.G (sp_Giver K C.G) sp_is_giver (sp_is_table K) { nx := fun _ H' => Q .non H', rt := Q } (L2.start ["desk", "numbers", "table", "kind", "most", "start", "stop", "wait", "up", "worth"] vs) H := by
  obtain ⟨S, a, dx, p, d, nm, tb, kind, most, start, stop, wait, up, worth, row, rfl, M, hn, ht, hrl, hrlow, k⟩ := h
  have I0 := M.full
  have hok := I0.ok
  unfold anGiver afGiver at k
  refine q_asg (ev_ixN (n := 0) (m := kind) (ev_var rfl) ev_c hn rfl) fun H1 e1 => ?_
  refine q_asg (ev_ixN (n := 1) (m := most) (ev_var rfl) ev_c (ex_l e1 hn) rfl) fun H2 e2 => ?_
  have e12 := e1.trans e2
  refine q_asg (ev_ixN (n := 2) (m := start) (ev_var rfl) ev_c (ex_l e12 hn) rfl) fun H3 e3 => ?_
  have e13 := e12.trans e3
  refine q_asg (ev_ixN (n := 3) (m := stop) (ev_var rfl) ev_c (ex_l e13 hn) rfl) fun H4 e4 => ?_
  have e14 := e13.trans e4
  refine q_asg (ev_ixN (n := 4) (m := wait) (ev_var rfl) ev_c (ex_l e14 hn) rfl) fun H5 e5 => ?_
  have e15 := e14.trans e5
  refine q_asg (ev_ixN (n := 5) (m := up) (ev_var rfl) ev_c (ex_l e15 hn) rfl) fun H6 e6 => ?_
  have e16 := e15.trans e6
  refine q_asg (ev_ixN (n := 6) (m := worth) (ev_var rfl) ev_c (ex_l e16 hn) rfl) fun H7 e7 => ?_
  have e17 := e16.trans e7
  have bi := bad_iff kind most start stop wait up worth
  refine q_when (et_not (et_B (ev_call (ea_cons (ev_var rfl) (ea_cons (ev_var rfl) (ea_cons (ev_var rfl) (ea_cons (ev_var rfl) (ea_cons (ev_var rfl) (ea_cons (ev_var rfl) (ea_cons (ev_var rfl) ea_nil))))))) (z := .bl (!HdSpec.giverBad kind most start stop wait up worth)) (fun H8 e8 Q2 q _ => ⟨kind, most, start, stop, wait, up, worth, rfl, fun b hb => by
    have eb : b = !HdSpec.giverBad kind most start stop wait up worth := by
      rw [Bool.eq_iff_iff, hb, ← bi]; simp
    rw [eb]; exact q⟩)))) (fun hb H8 e8 => ?_) (fun hb H8 e8 => ?_)
  · have hb' : HdSpec.giverBad kind most start stop wait up worth = true := by simpa using hb
    rw [if_pos hb', if_pos hb'] at k
    exact s_retL el_neg fun q J3 hq ee h3 => k.refuse M (e17.trans e8) hq ee h3
  have hb' : ¬ HdSpec.giverBad kind most start stop wait up worth = true := by simpa using hb
  rw [if_neg hb', if_neg hb'] at k
  have hnb : ¬ gBad kind most start stop wait up worth := fun z => hb' (bi.mpr z)
  have e18 := e17.trans e8
  have htH : SqL K H tb (nvs row) := ex_l (cut_sub S H) ht
  refine q_when (et_not (et_B (ev_call (ea_cons (ev_var rfl) ea_nil) (z := .bl (VwNum.tableOf HdSpec.POINTS row).isSome) (fun H9 e9 Q2 q _ => ⟨tb, row, rfl, ex_l (e18.trans e9) htH, hrl, fun b hb2 => by
    have eb : b = (VwNum.tableOf HdSpec.POINTS row).isSome := by
      rw [Bool.eq_iff_iff, hb2]
      cases q2 : VwNum.tableOf HdSpec.POINTS row with
      | none => exact ⟨fun z => absurd z (table_none q2), fun z => nomatch z⟩
      | some t => exact ⟨fun _ => rfl, fun _ => (table_some q2 hrlow).1⟩
    rw [eb]; exact q⟩)))) (fun hb2 H9 e9 => ?_) (fun hb2 H9 e9 => ?_)
  · cases q2 : VwNum.tableOf HdSpec.POINTS row with
    | some t => rw [q2] at hb2; cases hb2
    | none =>
      rw [q2] at k
      exact s_retL el_neg fun q J3 hq ee h3 => k.refuse M (e18.trans e9) hq ee h3
  cases q2 : VwNum.tableOf HdSpec.POINTS row with
  | none => rw [q2] at hb2; cases hb2
  | some t =>
  rw [q2] at k
  simp only [] at k
  unfold HdSpec.GIVERS at k
  obtain ⟨_, hfl, hTab⟩ := table_some q2 hrlow
  have e19 := e18.trans e9
  have few := hok.few
  refine q_when (et_test (ev_eqN (n := 24) (ev_glen c (e19 _ _ M.at_) (I0.mono e19) (ev_var rfl)) ev_c)) (fun hb3 H10 e10 => ?_) (fun hb3 H10 e10 => ?_)
  · have hb3' := of_decide_eq_true hb3
    rw [if_pos (by omega), if_pos (by omega)] at k
    exact s_retL el_neg fun q J3 hq ee h3 => k.refuse M (e19.trans e10) hq ee h3
  have hb3' := of_decide_eq_false hb3
  rw [if_neg (by omega), if_neg (by omega)] at k
  have e20 := e19.trans e10
  have m0 := M.start.ext e20
  obtain ⟨⟨as, ha', hal, hG⟩⟩ := M.in_.g
  rw [List.length_map] at hal
  have ha := cut_sub S H _ _ ha'
  have ol : (as.map V.ref).length = d.givers.length := by rw [List.length_map, hal]
  have slen := hok.slen
  refine q_msP (P := OneP (GivP S C.G (toPG (newG kind most start stop wait up worth t)) tb) (as.map V.ref)) m0 c.d c.d.givers (oneP_mono givP_mono) (fun x H1 o ⟨y, g1, ny, dy, g2⟩ hA => ⟨y, by rw [upd_ne (ne_ins_lst hA g1)]; exact g1, ny, dy, by rw [upd_ne (ne_of g2 hA gF_dF)]; exact g2⟩)
    (ep_catP givP_mono (dk_givers c.d m0.at_ (ev_var rfl)) (e20 _ _ ha) (ep_one givP_mono (ep_make (ea_cons (ev_var rfl) (ea_cons (ev_var rfl) (ea_cons (ev_var rfl) (ea_cons (ev_var rfl) (ea_cons (ev_var rfl) (ea_cons (ev_var rfl) (ea_cons (ev_var rfl) (ea_cons (ev_var rfl) ea_nil)))))))) fun H1 H0 x dy ea _ hx h0 Q2 E2 q => ⟨x, dy, tb, toPG (newG kind most start stop wait up worth t), rfl, h0, fun H' hc hp => q H' hc ⟨M.new (fresh_back (e20.trans ea) hx), dy, hp⟩⟩)) (by rw [ol]; omega)) (ev_var rfl) (fun x => { p with g := x }) (fun x => put_givers p d x) fun x1 J1 hx1 hP1 m1 ch1 => ?_
  obtain ⟨ob, ob1, nobS, odx, ob2⟩ := hP1
  refine q_msL m1 c.d c.d.runs (el_catR (ys := [.bl false]) (dk_runs c.d m1.at_ (ev_var rfl)) (keepL (x := a) ch1 m0.at_ (e20 _ _ I0.r)) (el_lst (ea_cons ev_c ea_nil) (by show 1 ≤ 100000; decide)) (by rw [bvs_length, List.length_map]; show _ + 1 ≤ 100000; omega)) (ev_var rfl) (fun x => { p with g := x1, r := x }) (fun x => put_runs _ d x) fun x2 J2 hx2 hl2 m2 ch2 => ?_
  refine q_msL m2 c.d c.d.waited (el_catR (ys := [nv 0]) (dk_waited c.d m2.at_ (ev_var rfl)) (keepL (x := a) ch2 m1.at_ (keepL (x := a) ch1 m0.at_ (e20 _ _ I0.w))) (el_lst (ea_cons ev_c ea_nil) (by show 1 ≤ 100000; decide)) (by rw [nvs_length, List.length_map]; show _ + 1 ≤ 100000; omega)) (ev_var rfl) (fun x => { p with g := x1, r := x2, w := x }) (fun x => put_waited _ d x) fun x3 J3 hx3 hl3 m3 ch3 => ?_
  refine q_msL m3 c.d c.d.absent (el_catR (ys := [.bl false]) (dk_absent c.d m3.at_ (ev_var rfl)) (keepL (x := a) ch3 m2.at_ (keepL (x := a) ch2 m1.at_ (keepL (x := a) ch1 m0.at_ (e20 _ _ I0.a)))) (el_lst (ea_cons ev_c ea_nil) (by show 1 ≤ 100000; decide)) (by rw [bvs_length, List.length_map]; show _ + 1 ≤ 100000; omega)) (ev_var rfl) (fun x => { p with g := x1, r := x2, w := x3, a := x }) (fun x => put_absent _ d x) fun x4 J4 hx4 hl4 m4 ch4 => ?_
  refine q_msL m4 c.d c.d.gave (el_catR (ys := [nv 0]) (dk_gave c.d m4.at_ (ev_var rfl)) (keepL (x := a) ch4 m3.at_ (keepL (x := a) ch3 m2.at_ (keepL (x := a) ch2 m1.at_ (keepL (x := a) ch1 m0.at_ (e20 _ _ I0.gv))))) (el_lst (ea_cons ev_c ea_nil) (by show 1 ≤ 100000; decide)) (by rw [nvs_length, lasts_len hok]; show _ + 1 ≤ 100000; omega)) (ev_var rfl) (fun x => { p with g := x1, r := x2, w := x3, a := x4, gv := x }) (fun x => put_gave _ d x) fun x5 J5 hx5 hl5 m5 ch5 => ?_
  refine q_msL m5 c.d c.d.gave_ever (el_catR (ys := [nv 0]) (dk_gave_ever c.d m5.at_ (ev_var rfl)) (keepL (x := a) ch5 m4.at_ (keepL (x := a) ch4 m3.at_ (keepL (x := a) ch3 m2.at_ (keepL (x := a) ch2 m1.at_ (keepL (x := a) ch1 m0.at_ (e20 _ _ I0.ge)))))) (el_lst (ea_cons ev_c ea_nil) (by show 1 ≤ 100000; decide)) (by rw [nvs_length, List.length_map]; show _ + 1 ≤ 100000; omega)) (ev_var rfl) (fun x => { p with g := x1, r := x2, w := x3, a := x4, gv := x5, ge := x }) (fun x => put_gave_ever _ d x) fun x6 J6 hx6 hl6 m6 ch6 => ?_
  have nob : ob ≠ a := ne_of ob2 m1.at_ gF_dF
  have k26 : ChN a J1 J6 := (((ch2.trans ch3).trans ch4).trans ch5).trans ch6
  have o6 := keepL (x := a) k26 m1.at_ ob1
  have ob6 := k26.ins nob ob2
  refine s_retL (el_lst (ea_cons (ev_subN (n := 1) (ev_is (ev_len (dk_givers c.d m6.at_ (ev_var rfl)) (sq_of o6)) (w := nv (d.givers.length + 1)) (by rw [List.length_append, ol]; rfl)) ev_c (by omega)) ea_nil) (by show 1 ≤ 100000; decide)) fun q J7 hq e7' h7 => k.done (p' := { p with g := x1, r := x2, w := x3, a := x4, gv := x5, ge := x6 }) ⟨m6.ch, m6.at_, m6.tab⟩ e7' hq h7 fun hc ee => ?_
  have I := M.kept hc
  have n1 : ¬ S x1 := M.new (fresh_back e20 hx1)
  have n2 : ¬ S x2 := M.new (m1.ch.nn _ hx2)
  have n3 : ¬ S x3 := M.new (m2.ch.nn _ hx3)
  have n4 : ¬ S x4 := M.new (m3.ch.nn _ hx4)
  have n5 : ¬ S x5 := M.new (m4.ch.nn _ hx5)
  have n6 : ¬ S x6 := M.new (m5.ch.nn _ hx6)
  have hGok : GOk (toPG (newG kind most start stop wait up worth t)) := by
    unfold gBad at hnb
    exact ⟨hTab, by show kind < 8; omega, by show most ≤ _; omega, by show start ≤ _; omega, by show stop ≤ start; omega, by show 1 ≤ wait; omega, by show wait ≤ 96; omega, by show up ≤ _; omega, by show worth ≤ _; omega⟩
  refine ⟨?_, ?_, ?_, ?_, ?_, ?_, I.o, I.tb, I.ff, I.ls, giver_ok I.ok hGok (by omega)⟩
  · refine ⟨⟨as ++ [ob], ?_, ?_, fun i b r hb hr => ?_⟩⟩
    · show cut S _ x1 = _
      rw [List.map_append]
      exact cut_lst n1 (ee _ _ o6)
    · show _ = ((d.givers ++ [_]).map toPG).length
      rw [List.length_map, List.length_append, List.length_append, hal]; rfl
    · have hr' : (d.givers.map toPG ++ [toPG (newG kind most start stop wait up worth t)])[i]? = some r := by
        have e9 : (deskGiver d (newG kind most start stop wait up worth t)).givers.map toPG = d.givers.map toPG ++ [toPG (newG kind most start stop wait up worth t)] := by
          show (d.givers ++ [_]).map toPG = _
          rw [List.map_append]; rfl
        rw [← e9]; exact hr
      rcases snoc_get hr' with z | ⟨z1, z2⟩
      · have hi := (List.getElem?_eq_some_iff.mp z).1
        rw [List.length_map] at hi
        rw [List.getElem?_append_left (by omega)] at hb
        exact (hG i b r hb z).mono (cut_ch M.sa hc)
      · rw [List.length_map] at z1
        rw [List.getElem?_append_right (by omega), z1, hal, Nat.sub_self] at hb
        have : ob = b := Option.some.inj hb
        rw [← this, z2]
        refine ⟨⟨odx, tb, cut_ins nobS (ee _ _ ob6), ?_⟩, hGok⟩
        show SqL K _ tb (nvs (flat t))
        rw [hfl]
        exact ex_l (cut_ch M.sa hc) ht
  · show cut S _ x2 = _
    rw [cut_lst n2 (ee _ _ (keepL (x := a) (((ch3.trans ch4).trans ch5).trans ch6) m2.at_ hl2))]
    show _ = some (HO.lst (bvs ((d.stands ++ [HdSpec.new]).map (·.turn.runs))))
    rw [List.map_append]; unfold bvs; rw [List.map_append]; rfl
  · show cut S _ x3 = _
    rw [cut_lst n3 (ee _ _ (keepL (x := a) ((ch4.trans ch5).trans ch6) m3.at_ hl3))]
    show _ = some (HO.lst (nvs ((d.stands ++ [HdSpec.new]).map (·.turn.waited))))
    rw [List.map_append, nvs_append]; rfl
  · show cut S _ x4 = _
    rw [cut_lst n4 (ee _ _ (keepL (x := a) (ch5.trans ch6) m4.at_ hl4))]
    show _ = some (HO.lst (bvs ((d.stands ++ [HdSpec.new]).map (·.away))))
    rw [List.map_append]; unfold bvs; rw [List.map_append]; rfl
  · show cut S _ x5 = _
    rw [cut_lst n5 (ee _ _ (keepL (x := a) ch6 m5.at_ hl5))]
    show _ = some (HO.lst (nvs ((d.stands ++ [HdSpec.new]).map (·.last))))
    rw [List.map_append, nvs_append]; rfl
  · show cut S _ x6 = _
    rw [cut_lst n6 (ee _ _ hl6)]
    show _ = some (HO.lst (nvs ((d.stands ++ [HdSpec.new]).map (·.gave))))
    rw [List.map_append, nvs_append]; rfl
end Pp
end
section
set_option Elab.async false
set_option linter.all false
set_option maxRecDepth 100000
set_option maxHeartbeats 2000000
namespace Pp
open PySem PySem.Spec PyProof.Rows L2 Evl VwHand LamX NdefX
open HdSpec (Desk Stand Order inForce broughtDown forces limitsBut kindsOf worthsOf lastsOf inScope ownLoss standsAt couldsAt partedBy quarterOn Answer)
/-! ### count_orders -/
def sp_count_orders (K : PySem.W.Frag) (C : Cs) (T : List (Addr × Str)) : Sp := fun vs H Q _ => ∃ (a dx l : Addr) (p : DA) (d : Desk) (ls : List (Nat × Nat)) (F L : List Nat), vs = [.ref a, .ref l] ∧ H a = some (.ins C.D dx (dF p d)) ∧ Tabs T H ∧ H p.ff = some (.lst (nvs F)) ∧ H p.ls = some (.lst (nvs L)) ∧ PairsAt K ls l H ∧ (∀ y ∈ ls, y.1 < F.length ∧ y.1 < L.length) ∧
  ∀ x y H2, H x = none → H y = none → ChN a H H2 → Tabs T H2 → H2 a = some (.ins C.D dx (dF { p with ff := x, ls := y } d)) → H2 x = some (.lst (nvs (addAll (ls.map fun y => (y.1, 1)) F))) → H2 y = some (.lst (nvs (addAll ls L))) → Q .non H2
theorem pure_count_orders {K : PySem.W.Frag} {C : Cs} {T : List (Addr × Str)} (c : CC K C) {vs : List V} {H : Hp} {Q : VK} {E : XK} (h : sp_count_orders K C T vs H Q E) : t_count_orders K { nx := fun _ H' => Q .non H', rt := Q } (L2.start ["desk", "losses", "in_force_for", "added", "number", "loss"] vs) H := by
  obtain ⟨a, dx, l, p, d, ls, F, L, rfl, h1, hT, hF, hL, ⟨ts, hl1, hl2, hl3⟩, hb, k⟩ := h
  refine q_asgL (el_list (dk_in_force_for c.d h1 (ev_var rfl)) (sq_of hF)) fun x H1 hx e1 hx1 => ?_
  refine q_asgL (el_list (dk_losses c.d (e1 _ _ h1) (ev_var rfl)) (sq_of (e1 _ _ hL))) fun y H2 hy e2 hy2 => ?_
  have e12 := e1.trans e2
  have hy0 := fresh_back e1 hy
  have nxy : x ≠ y := ne_of_none hx1 hy
  refine q_forL (K := K) (ev_var rfl) (sq_of (e12 _ _ hl1)) (fun i σ H' => ∃ v w, σ = [some (.ref a), some (.ref l), some (.ref x), some (.ref y), v, w] ∧ Ex H H' ∧ H' x = some (.lst (nvs (addAll ((ls.take i).map fun y => (y.1, 1)) F))) ∧ H' y = some (.lst (nvs (addAll (ls.take i) L))))
    (fun H3 e3 => ⟨_, _, rfl, e12.trans e3, e3 _ _ (e2 _ _ hx1), e3 _ _ hy2⟩) (fun i σ' H' hi ⟨_, _, _, e, _⟩ => sq_of (e _ _ hl1)) ?_ ?_
  · rintro i z σ' H' hz ⟨v, w, rfl, e, hX, hY⟩
    obtain ⟨t, ht, rfl⟩ := refs_get hz
    have hi : i < ls.length := by have := (List.getElem?_eq_some_iff.mp ht).1; omega
    obtain ⟨q, hq⟩ : ∃ q, ls[i]? = some q := ⟨_, List.getElem?_eq_getElem hi⟩
    have hTt := ex_t e (hl3 i t ht)
    unfold pairV at hTt
    rw [show ls.getD i (0, 0) = q by rw [List.getD_eq_getElem?_getD, hq]; rfl] at hTt
    refine g_pair hTt ?_
    obtain ⟨b1, b2⟩ := hb q (List.mem_of_getElem? hq)
    have htk : ls.take (i + 1) = ls.take i ++ [q] := by rw [List.take_add_one, hq]; rfl
    obtain ⟨u, hu⟩ : ∃ u, (addAll ((ls.take i).map fun y => (y.1, 1)) F)[q.1]? = some u := ⟨_, List.getElem?_eq_getElem (by rw [addAll_length]; exact b1)⟩
    obtain ⟨u2, hu2⟩ : ∃ u, (addAll (ls.take i) L)[q.1]? = some u := ⟨_, List.getElem?_eq_getElem (by rw [addAll_length]; exact b2)⟩
    refine q_augL (j := q.1) (x := (u : Int)) (y := 1) hX (ev_var rfl) (ev_var rfl) (nvs_at hu) ev_c fun H3 e3 => ?_
    have y3 : (upd H3 x (.lst ((nvs (addAll ((ls.take i).map fun y => (y.1, 1)) F)).set q.1 (.int ((u : Int) + 1))))) y = some (.lst (nvs (addAll (ls.take i) L))) := by rw [upd_ne nxy.symm]; exact e3 _ _ hY
    have x3 : (upd H3 x (.lst ((nvs (addAll ((ls.take i).map fun y => (y.1, 1)) F)).set q.1 (.int ((u : Int) + 1))))) x = some (.lst (nvs (addAll ((ls.take (i + 1)).map fun y => (y.1, 1)) F))) := by
      rw [upd_same, htk, List.map_append]
      show _ = some (HO.lst (nvs (addAll (_ ++ [(q.1, 1)]) F)))
      rw [addAll_snoc, nvs_set, getD_of hu]
      rfl
    have ee3 : Ex H (upd H3 x (.lst ((nvs (addAll ((ls.take i).map fun y => (y.1, 1)) F)).set q.1 (.int ((u : Int) + 1))))) := Ex.mut (e.trans e3) hx
    generalize upd H3 x (.lst ((nvs (addAll ((ls.take i).map fun y => (y.1, 1)) F)).set q.1 (.int ((u : Int) + 1)))) = H4 at y3 x3 ee3 ⊢
    refine s_augL (j := q.1) (x := (u2 : Int)) (y := (q.2 : Int)) y3 (ev_var rfl) (ev_var rfl) (nvs_at hu2) (ev_var rfl) fun H5 e5 => ⟨_, _, rfl, Ex.mut (ee3.trans e5) hy0, ?_, ?_⟩
    · rw [upd_ne nxy]; exact e5 _ _ x3
    · rw [upd_same, htk, addAll_snoc, nvs_set, getD_of hu2]; rfl
  · rintro σ' H' ⟨v, w, rfl, e, hX, hY⟩
    rw [List.length_map, hl2, List.take_length] at hX hY
    have m0 : Ms C T a dx H H' p d := ⟨.ex e, e _ _ h1, hT.ext e⟩
    refine q_msV (p' := { p with ff := x }) m0 c.d c.d.in_force_for (ev_var rfl) (ev_var rfl) (put_in_force_for p d x) fun J1 m1 ch1 => ?_
    refine s_fld (v := .ref y) (ev_var rfl) (ev_var rfl) m1.at_ c.d.cl c.d.losses (dF_few _ _) fun J2 e2' => ?_
    rw [put_losses]
    have m2 := (m1.ext e2').put (p' := { p with ff := x, ls := y }) (d' := d)
    have x1 := e2' _ _ (keepL (x := a) ch1 m0.at_ hX)
    have y1 := e2' _ _ (keepL (x := a) ch1 m0.at_ hY)
    exact k x y _ hx hy0 m2.ch m2.tab m2.at_ (by rw [upd_ne (ne_ins_lst (m1.ext e2').at_ x1)]; exact x1) (by rw [upd_ne (ne_ins_lst (m1.ext e2').at_ y1)]; exact y1)
/-! ### what a quarter makes of a desk -/
section
variable {d : Desk} {l : List Nat}
theorem zip_map {α : Type} (f : Stand → α) (hf : ∀ (s : Stand) (n : Nat), f { s with last := n, gave := s.gave + n } = f s) : ∀ (ss : List Stand) (x : List Nat), ss.length = x.length → ((ss.zip x).map fun (y : Stand × Nat) => { y.1 with last := y.2, gave := y.1.gave + y.2 }).map f = ss.map f
  | [], [], _ => rfl
  | [], _ :: _, h => by simp at h
  | _ :: _, [], h => by simp at h
  | s :: ss, n :: x, h => by
    have ih := zip_map f hf ss x (by simpa using h)
    rw [List.zip_cons_cons, List.map_cons, List.map_cons, List.map_cons, ih, hf]
theorem zip_last : ∀ (ss : List Stand) (x : List Nat), ss.length = x.length → ((ss.zip x).map fun (y : Stand × Nat) => { y.1 with last := y.2, gave := y.1.gave + y.2 }).map (·.last) = x
  | [], [], _ => rfl
  | [], _ :: _, h => by simp at h
  | _ :: _, [], h => by simp at h
  | s :: ss, n :: x, h => by
    have ih := zip_last ss x (by simpa using h)
    rw [List.zip_cons_cons, List.map_cons, List.map_cons, ih]
theorem zip_gave : ∀ (ss : List Stand) (x : List Nat), ss.length = x.length → ((ss.zip x).map fun (y : Stand × Nat) => { y.1 with last := y.2, gave := y.1.gave + y.2 }).map (·.gave) = (List.range x.length).map fun i => (ss.map (·.gave)).getD i 0 + x.getD i 0
  | [], [], _ => rfl
  | [], _ :: _, h => by simp at h
  | _ :: _, [], h => by simp at h
  | s :: ss, n :: x, h => by
    have ih := zip_gave ss x (by simpa using h)
    rw [List.zip_cons_cons, List.map_cons, List.map_cons, ih, List.length_cons, List.range_succ_eq_map, List.map_cons, List.map_map]
    rfl
theorem stands_away (h : DeskOk d) (hl : l.length = d.givers.length) : (standsAt d l).map (·.away) = d.stands.map (·.away) := by
  refine List.ext_getElem? fun i => ?_
  rw [List.getElem?_map, List.getElem?_map]
  by_cases hi : i < d.givers.length
  · obtain ⟨g, hg⟩ : ∃ g, d.givers[i]? = some g := ⟨_, List.getElem?_eq_getElem hi⟩
    obtain ⟨a, ha⟩ : ∃ a, d.stands[i]? = some a := ⟨_, List.getElem?_eq_getElem (by rw [h.slen]; exact hi)⟩
    obtain ⟨z, hz⟩ : ∃ z, l[i]? = some z := ⟨_, List.getElem?_eq_getElem (by omega)⟩
    rw [standsAt_at i hg ha hz, ha]; rfl
  · rw [List.getElem?_eq_none (by rw [standsAt_length h hl]; omega), List.getElem?_eq_none (by rw [h.slen]; omega)]
theorem quarter_orders (i : Nat) {r : Order} (h : (quarterOn d l).orders[i]? = some r) : ∃ o, d.orders[i]? = some o ∧ oF r = oF o ∧ r.back = o.back := by
  have h' : (d.orders.zipIdx.map fun (y : Order × Nat) => if inForce d y.1 = true then { y.1 with force := y.1.force + 1, own := y.1.own + ownLoss d (couldsAt d l) y.2 } else y.1)[i]? = some r := h
  rw [List.getElem?_map, List.getElem?_zipIdx] at h'
  cases q : d.orders[i]? with
  | none => rw [q] at h'; cases h'
  | some o =>
    rw [q] at h'
    have e := Option.some.inj h'
    rw [← e]
    refine ⟨o, rfl, ?_, ?_⟩
    · simp only []; split <;> rfl
    · simp only []; split <;> rfl
theorem quarter_bks : bks (quarterOn d l) = bks d := by
  unfold bks
  congr 1
  refine List.ext_getElem? fun i => ?_
  rw [List.getElem?_map, List.getElem?_map]
  cases q : (quarterOn d l).orders[i]? with
  | none =>
    have : d.orders[i]? = none := by
      rw [List.getElem?_eq_none_iff] at q ⊢
      have e : (quarterOn d l).orders.length = d.orders.length := by show (d.orders.zipIdx.map _).length = _; rw [List.length_map, List.length_zipIdx]
      omega
    rw [this]
  | some r =>
    obtain ⟨o, h1, h2, h3⟩ := quarter_orders i q
    rw [h1]
    show some r.back = some o.back
    rw [h3]
end
theorem ExN.tupS {K : PySem.W.Frag} {H H' : Hp} (e : ExN H H') {a : Addr} {xs : List V} (h : SqT K H a xs) : SqT K H' a xs := by
  rcases h with (h | ⟨o, h⟩) | h
  · exact .inl (.inl (e.ext a _ h (fun ps z => nomatch z)))
  · exact .inl (.inr ⟨o, e.ext a _ h (fun ps z => nomatch z)⟩)
  · exact .inr h
theorem TupsAt.monoN {K : PySem.W.Frag} {n : Nat} {tv : Nat → List V} {p : Addr} {H H' : Hp} (h : TupsAt K n tv p H) (e : ExN H H') : TupsAt K n tv p H' := by
  obtain ⟨ts, h1, h2, h3⟩ := h
  exact ⟨ts, e.lst h1, h2, fun i t ht => e.tupS (h3 i t ht)⟩
theorem ChN.tupS {K : PySem.W.Frag} {x C dx : Addr} {fs : List (Str × V)} {H H' : Hp} (c : ChN x H H') (hx : H x = some (.ins C dx fs)) {a : Addr} {xs : List V} (h : SqT K H a xs) : SqT K H' a xs := by
  rcases h with (h | ⟨o, h⟩) | h
  · exact .inl (.inl (c.keep a _ (ne_of h hx (fun z => nomatch z)) h (fun ps z => nomatch z)))
  · exact .inl (.inr ⟨o, c.keep a _ (ne_of h hx (fun z => nomatch z)) h (fun ps z => nomatch z)⟩)
  · exact .inr h
theorem TupsAt.ch {K : PySem.W.Frag} {x C dx : Addr} {fs : List (Str × V)} {n : Nat} {tv : Nat → List V} {p : Addr} {H H' : Hp} (h : TupsAt K n tv p H) (c : ChN x H H') (hx : H x = some (.ins C dx fs)) : TupsAt K n tv p H' := by
  obtain ⟨ts, h1, h2, h3⟩ := h
  exact ⟨ts, c.lst (ne_ins_lst hx h1) h1, h2, fun i t ht => c.tupS hx (h3 i t ht)⟩
end Pp
end
section
set_option Elab.async false
set_option linter.all false
set_option maxRecDepth 100000
set_option maxHeartbeats 2000000
namespace Pp
open PySem PySem.Spec PyProof.Rows L2 Evl VwHand LamX NdefX
open HdSpec (Desk Stand Order inForce broughtDown forces limitsBut kindsOf worthsOf lastsOf inScope ownLoss standsAt couldsAt partedBy quarterOn Answer)
section
variable {K : PySem.W.Frag} {C : Cs} {T : List (Addr × Str)} {H J : Hp} {a dx : Addr} {p p' : DA} {d d' : Desk} {σ : L2.St} {D : Ends} {tz : TS} {ta tb te : TE} {f : Str} {x : V}
/-- f(x, a new object) by itself -/
theorem q_dropC {sp : Sp} {P : Addr → Hp → Prop} {E : XK} (h1 : Ev ta σ H x) (h2 : EvP tb σ H P) (k : ∀ p H1, Ex H H1 → P p H1 → sp [x, .ref p] H1 (fun _ H2 => tz D σ H2) E) : tSeq (tDrop (tCall sp [] E (tCons ta (tCons tb tNil)))) tz D σ H :=
  h1 H (Ex.refl H) _ fun H1 e1 => h2 H1 e1 _ fun p H2 hp e2 hp2 => k p H2 (e1.trans e2) hp2
/-- o.f += n -/
theorem q_msAug {k n : Nat} (m : Ms C T a dx H J p d) (c : CD K C.D) (na : NoAttr K C.D f) (ha : Ev ta σ J (.ref a)) (hv : Ev te σ J (nv n)) (hl : (dF p d).lookup f = some (nv k)) (hput : putF f (nv (k + n)) (dF p d) = dF p' d')
    (kk : ∀ J1, Ms C T a dx H J1 p' d' → ChN a J J1 → tz D σ J1) : tSeq (sFldAug K ta te rAdd f) tz D σ J :=
  ha J (Ex.refl J) _ fun H1 e1 => ⟨a, C.D, dx, dF p d, nv k, rfl, e1 _ _ m.at_, c.cl, na, hl, hv H1 e1 _ fun H2 e2 => ⟨(k : Int), (n : Int), rfl, rfl, dx, dF p d, (e1.trans e2) _ _ m.at_, dF_few _ _, by
    have e : V.int ((k : Int) + (n : Int)) = nv (k + n) := by rw [nv]; congr 1
    rw [e, hput]
    have m1 := m.ext (e1.trans e2)
    exact kk _ m1.put ((ChN.ex (e1.trans e2)).put m1.at_)⟩⟩
end
/-! ### go_through -/
def sp_go_through (K : PySem.W.Frag) (C : Cs) (T : List (Addr × Str)) : Sp := fun vs H Q _ => ∃ (S : Addr → Prop) (a dx : Addr) (p : DA) (d : Desk) (r : Addr) (l : List Nat), vs = [.ref a, .ref r] ∧ DeskM K C T S H a dx p d ∧ SqL K H r (nvs l) ∧ l.length = d.givers.length ∧ (∀ x ∈ l, x ≤ 1000000000000000) ∧ RetC K C T S a dx (nvs (partedBy d (couldsAt d l))) (quarterOn d l) H Q
theorem turn_list {α : Type} (ts : List Turn) (f : Turn → α) : (List.range ts.length).map (fun i => f (ts.getD i still)) = ts.map f := by
  rw [← map_range_getD ts still]
  conv => rhs; rw [List.map_map]
  rw [map_range_getD ts still]; rfl
theorem pure_go_through {K : PySem.W.Frag} {C : Cs} {T : List (Addr × Str)} (c : CC K C) {vs : List V} {H : Hp} {Q : VK} {E : XK} (h : sp_go_through K C T vs H Q E) : t_go_through K (sp_able_after K C) (sp_brought_down K C) (sp_count_orders K C T) (sp_limits_under K C) (sp_own_losses K C) (sp_shares_byT K C.G T) (sp_steps K C) { nx := fun _ H' => Q .non H', rt := Q } (L2.start ["desk", "coming", "taken", "able", "lows", "shares", "pair", "before", "share"] vs) H := by
  obtain ⟨S, a, dx, p, d, r, l, rfl, M, hr, hlen, hbig, k⟩ := h
  have I0 := M.full
  have hok := I0.ok
  have few := hok.few
  have ofew := hok.ofew
  have hcl := couldsAt_length hok hlen
  have hsl := standsAt_length hok hlen
  have hpl : (partedBy d (couldsAt d l)).length = d.givers.length := parts_length hok d.rule hcl
  have htl : (turnsOf d l).length = d.givers.length := by unfold turnsOf; rw [List.length_map]; exact hsl
  have DIm : ∀ {H1}, Ex H H1 → DeskAt K C H1 a d := fun e => M.desk.mono e
  refine q_asgP (ep_call (P := TurnsAt K (turnsOf d l)) (ea_cons (ev_var rfl) (ea_cons (ev_var rfl) ea_nil)) (fun H1 e1 Q2 q _ => ⟨a, r, d, l, rfl, DIm e1, ex_l e1 hr, hlen, q⟩)) fun t H1 ht e1 hT1 => ?_
  refine q_asgL (el_call (ea_cons (ev_var rfl) (ea_cons (ev_var rfl) (ea_cons (ev_var rfl) ea_nil))) (xs := nvs (couldsAt d l)) (fun H2 e2 Q2 q _ => ⟨a, t, r, d, l, rfl, DIm (e1.trans e2), hT1.mono e2, ex_l (e1.trans e2) hr, hlen, hbig, q⟩)) fun ab H2 hab e2 hab2 => ?_
  have e12 := e1.trans e2
  refine q_asgP (ep_call (P := LowsAt K (lowsOf d)) (ea_cons (ev_var rfl) ea_nil) (fun H3 e3 Q2 q _ => ⟨a, d, rfl, DIm (e12.trans e3), q⟩)) fun lw H3 hlw e3 hL3 => ?_
  have e13 := e12.trans e3
  refine q_asgT (T := T) (et_call4L (xs := nvs (partedBy d (couldsAt d l))) (dk_rule c.d (e13 _ _ M.at_) (ev_var rfl)) (dk_givers c.d (e13 _ _ M.at_) (ev_var rfl)) (ev_var rfl) (el_call (xs := lms (HdSpec.limits d)) (ea_cons (ev_var rfl) (ea_cons (ev_var rfl) ea_nil)) (fun H4 e4 Q2 q _ => ⟨a, lw, d, rfl, DIm (e13.trans e4), hL3.mono e4, q⟩))
    (fun q H4 e4 hq Q2 k2 _ => ⟨d.rule, p.g, ab, q, _, couldsAt d l, HdSpec.limits d, rfl, (I0.mono (e13.trans e4)).givers, sq_of ((e3.trans e4) _ _ hab2), by rw [List.length_map]; exact hcl, coulds_low hok hlen, sq_of hq, limits_len d none, M.tab.ext (e13.trans e4), by rw [kinds_map, worths_map]; exact k2⟩)) fun sh H4 hsh e4 t4 hsh4 => ?_
  have e14 : ExN H H4 := (ExN.of e13).trans e4
  have I4 := I0.monoN e14
  have a4 : H4 a = some (.ins C.D dx (dF p d)) := e14.ins M.at_
  have ab4 := e4.lst (e3 _ _ hab2)
  have hL4 := hL3.monoN e4
  have hT4 := ((hT1.mono (e2.trans e3))).monoN e4
  have hsh0 : H sh = none := fresh_back e13 hsh
  -- the orders counted
  refine q_dropC (P := PairsAt K (lossOf d (couldsAt d l))) (ev_var rfl) (ep_call (ea_cons (ev_var rfl) (ea_cons (ev_var rfl) (ea_cons (ev_var rfl) ea_nil))) (fun H5 e5 Q2 q _ => ⟨a, lw, ab, d, couldsAt d l, rfl, ⟨⟨dx, p, e5 _ _ a4, I4.mono e5⟩⟩, hL4.mono e5, sq_of (e5 _ _ ab4), hcl, q⟩)) fun pr H5 e5 hpr => ?_
  refine ⟨a, dx, pr, p, d, lossOf d (couldsAt d l), d.orders.map (·.force), d.orders.map (·.own), rfl, e5 _ _ a4, t4.ext e5, e5 _ _ I4.ff, e5 _ _ I4.ls, hpr, fun y hy => ?_, fun xf xl H6 hxf hxl ch6 t6 a6 hxf6 hxl6 => ?_⟩
  · obtain ⟨z, hz, rfl⟩ := List.mem_map.mp (show y ∈ (lowsOf d).map _ from hy)
    have := (lows_scope hok.scope hz).2
    rw [List.length_map, List.length_map]; exact ⟨this, this⟩
  have a5 := e5 _ _ a4
  have m6 : Ms C T a dx H H6 { p with ff := xf, ls := xl } d := ⟨((ChN.of e14).then e5).trans ch6, a6, t6⟩
  have T6 : TupsAt K (turnsOf d l).length (turnV (turnsOf d l)) t H6 := (hT4.mono e5).ch ch6 a5
  have sh6 : H6 sh = some (.lst (nvs (partedBy d (couldsAt d l)))) := keepL (x := a) ch6 a5 (e5 _ _ hsh4)
  have ab6 : H6 ab = some (.lst (nvs (couldsAt d l))) := keepL (x := a) ch6 a5 (e5 _ _ ab4)
  have ge6 : H6 p.ge = some (.lst (nvs (d.stands.map (·.gave)))) := keepL (x := a) ch6 a5 (e5 _ _ I4.ge)
  have nxf : ¬ S xf := M.new (e14.nn _ (fresh_back e5 hxf))
  have nxl : ¬ S xl := M.new (e14.nn _ (fresh_back e5 hxl))
  have nsh : ¬ S sh := M.new hsh0
  -- runs, waited
  obtain ⟨ts, g1, g2, g3⟩ := id T6
  have comp : ∀ {J : Hp} {σ : L2.St} {n : Nat} (v : Turn → V), ChN a H6 J → σ[2]? = some (some (V.ref t)) → (∀ x, wipe ((wipe σ [6]).set 6 (some x)) [6] = wipe σ [6]) → 6 < (wipe σ [6]).length → (∀ tn : Turn, ([.bl tn.runs, nv tn.waited] : List V)[n]? = some (v tn)) → EvL (tLc (iList K (tVar 2)) (gName 6) tYes (tOp (rIxT K) (tVar 6) (tC (.int (n : Int)))) [6]) σ J ((turnsOf d l).map v) := fun {J σ n} v hc h2 hw hwl hn => by
    have e : (turnsOf d l).map v = given (ts.map V.ref).length (fun _ => true) (fun i => v ((turnsOf d l).getD i still)) := by
      rw [given_all, List.length_map, g2, turn_list]
    rw [e]
    refine el_lcL _ _ (ev_var h2) (sq_of (hc.lst (ne_ins_lst a6 g1) g1)) (by rw [List.length_map]; omega) hw (fun i x H7 e7 hx => et_yes) (fun i x H7 e7 hx _ => ?_)
    obtain ⟨b, hb, rfl⟩ := refs_get hx
    exact ev_ixT (n := n) (ev_var (by rw [List.getElem?_set_self hwl])) ev_c (ex_t e7 (hc.tupS a6 (g3 i b hb))) (hn _)
  refine q_msL (xs := (turnsOf d l).map fun tn => V.bl tn.runs) m6 c.d c.d.runs (comp (n := 0) (fun tn => .bl tn.runs) (ChN.refl a H6) rfl (fun _ => rfl) (by show 6 < 9; decide) (fun _ => rfl)) (ev_var rfl) (fun x => { p with ff := xf, ls := xl, r := x }) (fun x => put_runs _ d x) fun x1 J1 hx1 hl1 m1 ch1 => ?_
  refine q_msL (xs := (turnsOf d l).map fun tn => nv tn.waited) m1 c.d c.d.waited (comp (n := 1) (fun tn => nv tn.waited) ch1 rfl (fun _ => rfl) (by show 6 < 9; decide) (fun _ => rfl)) (ev_var rfl) (fun x => { p with ff := xf, ls := xl, r := x1, w := x }) (fun x => put_waited _ d x) fun x2 J2 hx2 hl2 m2 ch2 => ?_
  have k62 := ch1.trans ch2
  refine q_msV (p' := { p with ff := xf, ls := xl, r := x1, w := x2, gv := sh }) m2 c.d c.d.gave (ev_var rfl) (ev_var rfl) (put_gave _ d sh) fun J3 m3 ch3 => ?_
  have k63 := k62.trans ch3
  have sh3 := keepL (x := a) k63 a6 sh6
  have ge3 := keepL (x := a) k63 a6 ge6
  refine q_msL (xs := nvs ((List.range d.givers.length).map fun i => (d.stands.map (·.gave)).getD i 0 + (partedBy d (couldsAt d l)).getD i 0)) m3 c.d c.d.gave_ever ?_ (ev_var rfl) (fun x => { p with ff := xf, ls := xl, r := x1, w := x2, gv := sh, ge := x }) (fun x => put_gave_ever _ d x) fun x4 J4 hx4 hl4 m4 ch4 => ?_
  · have e : nvs ((List.range d.givers.length).map fun i => (d.stands.map (·.gave)).getD i 0 + (partedBy d (couldsAt d l)).getD i 0) = given d.givers.length (fun _ => true) (fun i => nv ((d.stands.map (·.gave)).getD i 0 + (partedBy d (couldsAt d l)).getD i 0)) := by
      rw [given_all]; unfold nvs; rw [List.map_map]; rfl
    rw [e]
    refine el_lcZ _ _ (ea_cons (dk_gave_ever c.d m3.at_ (ev_var rfl)) (ea_cons (ev_var rfl) ea_nil)) (sq_of ge3) (sq_of sh3) (by rw [nvs_length, nvs_length, List.length_map, hok.slen, hpl]; omega) (by omega) (fun x y => rfl) (fun i x y H7 e7 hx hy => et_yes) (fun i x y H7 e7 hx hy _ => ?_)
    obtain ⟨n1, hn1, rfl⟩ := nvs_get hx
    obtain ⟨n2, hn2, rfl⟩ := nvs_get hy
    rw [getD_of hn1, getD_of hn2]
    exact ev_addN (ev_var rfl) (ev_var rfl)
  have k64 := k63.trans ch4
  have ab4' := keepL (x := a) k64 a6 ab6
  refine q_msAug (p' := { p with ff := xf, ls := xl, r := x1, w := x2, gv := sh, ge := x4 }) (k := d.could) (n := VwNum.total (couldsAt d l)) m4 c.d c.d.could_ever (ev_var rfl) (ev_sum (ev_var rfl) (sq_of ab4')) rfl (put_could_ever _ d _) fun J5 m5 ch5 => ?_
  refine q_msAug (p' := { p with ff := xf, ls := xl, r := x1, w := x2, gv := sh, ge := x4 }) (k := d.now) (n := 1) m5 c.d c.d.quarter (ev_var rfl) ev_c rfl (put_quarter _ _ _) fun J6 m7 ch6' => ?_
  have k66 := (k64.trans ch5).trans ch6'
  have m8 : Ms C T a dx H J6 { p with ff := xf, ls := xl, r := x1, w := x2, gv := sh, ge := x4 } (quarterOn d l) := ⟨m7.ch, m7.at_, m7.tab⟩
  refine s_retL (el_list (ev_var rfl) (sq_of (keepL (x := a) k66 a6 sh6))) fun q J7 hq e7 h7 => k.done m8 e7 hq h7 fun hc ee => ?_
  have I := M.kept hc
  have n1 : ¬ S x1 := M.new (m6.ch.nn _ hx1)
  have n2 : ¬ S x2 := M.new (m1.ch.nn _ hx2)
  have n4 : ¬ S x4 := M.new (m3.ch.nn _ hx4)
  have ess : (quarterOn d l).stands = ((standsAt d l).zip (partedBy d (couldsAt d l))).map fun (y : Stand × Nat) => { y.1 with last := y.2, gave := y.1.gave + y.2 } := rfl
  have hzl : (standsAt d l).length = (partedBy d (couldsAt d l)).length := by omega
  have k16 : ChN a J1 J6 := ((((ch2.trans ch3).trans ch4).trans ch5).trans ch6')
  refine ⟨I.g, ?_, ?_, ?_, ?_, ?_, ?_, ?_, ?_, ?_, quarter_ok I.ok hlen⟩
  · show cut S _ x1 = _
    rw [cut_lst n1 (ee _ _ (keepL (x := a) k16 m1.at_ hl1)), ess, zip_map (fun s => s.turn.runs) (fun _ _ => rfl) _ _ hzl]
    unfold turnsOf bvs
    rw [List.map_map, List.map_map]; rfl
  · show cut S _ x2 = _
    rw [cut_lst n2 (ee _ _ (keepL (x := a) (((ch3.trans ch4).trans ch5).trans ch6') m2.at_ hl2)), ess, zip_map (fun s => s.turn.waited) (fun _ _ => rfl) _ _ hzl]
    unfold turnsOf nvs
    rw [List.map_map, List.map_map]; rfl
  · rw [ess, zip_map (fun s => s.away) (fun _ _ => rfl) _ _ hzl, stands_away hok hlen]
    exact I.a
  · show cut S _ sh = _
    have e9 : lastsOf (quarterOn d l) = partedBy d (couldsAt d l) := by
      unfold HdSpec.lastsOf
      rw [ess]; exact zip_last _ _ hzl
    rw [e9]
    exact cut_lst nsh (ee _ _ (keepL (x := a) k66 a6 sh6))
  · show cut S _ x4 = _
    rw [ess, zip_gave _ _ hzl, stands_gave hok hlen, hpl]
    exact cut_lst n4 (ee _ _ (keepL (x := a) (ch5.trans ch6') m4.at_ hl4))
  · obtain ⟨⟨as', q1, q2, q3⟩⟩ := I.o
    refine ⟨⟨as', q1, by rw [q2]; show _ = (d.orders.zipIdx.map _).length; rw [List.length_map, List.length_zipIdx], fun i b r' hb hr' => ?_⟩⟩
    obtain ⟨o, ho, eo, _⟩ := quarter_orders i hr'
    obtain ⟨dy, hy⟩ := q3 i b o hb ho
    exact ⟨dy, by rw [eo]; exact hy⟩
  · rw [quarter_bks]; exact I.tb
  · show cut S _ xf = _
    rw [← orders_force]
    exact cut_lst nxf (ee _ _ (keepL (x := a) k66 a6 hxf6))
  · show cut S _ xl = _
    rw [← orders_own]
    exact cut_lst nxl (ee _ _ (keepL (x := a) k66 a6 hxl6))
end Pp
end
section
set_option Elab.async false
set_option linter.all false
set_option maxRecDepth 100000
set_option maxHeartbeats 2000000
namespace Pp
open PySem PySem.Spec PyProof.Rows L2 Evl VwHand LamX NdefX
open HdSpec (Desk Stand Order inForce broughtDown forces limitsBut kindsOf worthsOf lastsOf inScope ownLoss standsAt couldsAt partedBy quarterOn Answer)
/-! ### quarter -/
def anQuarter (d : Desk) (l : List Nat) : Answer := if HdSpec.comes d l = false then HdSpec.says (-1) else HdSpec.tells (VwNum.total (partedBy d (couldsAt d l))) (VwNum.nats (partedBy d (couldsAt d l)))
def afQuarter (d : Desk) (l : List Nat) : Desk := if HdSpec.comes d l = false then d else quarterOn d l
def sp_tell_quarter (K : PySem.W.Frag) (C : Cs) (T : List (Addr × Str)) : Sp := fun vs H Q _ => ∃ (S : Addr → Prop) (a dx : Addr) (p : DA) (d : Desk) (r : Addr) (l : List Nat), vs = [.ref a, .ref r] ∧ DeskM K C T S H a dx p d ∧ SqL K H r (nvs l) ∧ (∀ x ∈ l, x ≤ 1000000000000000) ∧ RetC K C T S a dx (anV (anQuarter d l)) (afQuarter d l) H Q
theorem pure_tell_quarter {K : PySem.W.Frag} {C : Cs} {T : List (Addr × Str)} (c : CC K C) {vs : List V} {H : Hp} {Q : VK} {E : XK} (h : sp_tell_quarter K C T vs H Q E) : t_tell_quarter K (sp_go_through K C T) sp_with_row { nx := fun _ H' => Q .non H', rt := Q } (L2.start ["desk", "coming", "shares"] vs) H := by
  obtain ⟨S, a, dx, p, d, r, l, rfl, M, hr, hbig, k⟩ := h
  have I0 := M.full
  have hok := I0.ok
  unfold anQuarter afQuarter at k
  refine q_when (et_test (ev_neN (ev_lenNs (ev_var rfl) hr) (ev_glen c M.at_ I0 (ev_var rfl)))) (fun hb H1 e1 => ?_) (fun hb H1 e1 => ?_)
  · have hb' : ¬ l.length = d.givers.length := by simpa using hb
    have hc : HdSpec.comes d l = false := by rw [Bool.eq_false_iff]; exact fun z => hb' (comes_iff.mp z)
    rw [if_pos hc, if_pos hc] at k
    exact s_retL el_neg fun q H2 hq e2 h2 => k.refuse M e1 hq e2 h2
  · have hb' : l.length = d.givers.length := by simpa using hb
    have hc : ¬ HdSpec.comes d l = false := by rw [comes_iff.mpr hb']; decide
    rw [if_neg hc, if_neg hc, anV_nats] at k
    have M1 : DeskM K C T S H1 a dx p d := ⟨M.sa, fun b z q => M.dom b z (fresh_back e1 q), e1 _ _ M.at_, M.in_.mono (cut_ex e1), M.tab.ext e1⟩
    show tCall (sp_go_through K C T) [] C8.E0 (tCons (tVar 0) (tCons (tVar 1) tNil)) _ H1 _
    refine (ea_cons (ev_var rfl) (ea_cons (ev_var rfl) ea_nil) : EvA _ _ _ [.ref a, .ref r]) H1 (Ex.refl H1) _ fun H2 e2 => ?_
    have M2 : DeskM K C T S H2 a dx p d := ⟨M.sa, fun b z q => M1.dom b z (fresh_back e2 q), e2 _ _ M1.at_, M1.in_.mono (cut_ex e2), M1.tab.ext e2⟩
    refine ⟨S, a, dx, p, d, r, l, rfl, M2, ex_l (e1.trans e2) hr, hb', hbig, fun s p' H3 hs ch3 t3 hs3 a3 I3 => ?_⟩
    have m3 : Ms C T a dx H H3 p' (quarterOn d l) := ⟨(ChN.ex (e1.trans e2)).trans ch3, a3, t3⟩
    have hpl : (partedBy d (couldsAt d l)).length = d.givers.length := parts_length hok d.rule (couldsAt_length hok hb')
    exact s_retL (el_row (ev_sum (ev_var rfl) (sq_of hs3)) (ev_var rfl) hs3 (by rw [nvs_length, hpl]; have := hok.few; omega)) fun q H4 hq e4 h4 => k.done m3 e4 hq h4 fun _ e5 => I3.mono (cut_ex e5)
/-! ### calls -/
abbrev Cl := HdSpec.Call
def codeN : Cl → Nat
  | .giver .. => 0 | .away .. => 1 | .ramps .. => 2 | .rule _ => 3 | .order .. => 4 | .back _ => 5 | .quarter _ => 6 | .could _ => 7 | .limits => 8 | .parts .. => 9 | .judge .. => 10 | .prices _ => 11 | .proof .. => 12 | .lost _ => 13 | .told _ => 14 | .binds _ => 15 | .clears _ => 16 | .state _ => 17 | .sums => 18 | .passes .. => 19 | .undo => 20 | .redo => 21 | .begin_ => 22
def numsN : Cl → List Nat
  | .giver k m s h w u o _ => [k, m, s, h, w, u, o] | .away i b => [i, b] | .ramps u w => [u, w] | .rule k => [k] | .order s f e l => [s, f, e, l] | .back o => [o] | .parts k _ => [k] | .lost o => [o] | .told o => [o] | .state i => [i] | .passes i x => [i, x] | _ => []
def rowsN : Cl → List (List Nat)
  | .giver _ _ _ _ _ _ _ t => [t] | .quarter l => [l] | .could l => [l] | .parts _ c => [c] | .judge c x => [c, x] | .prices c => [c] | .proof c x p => [c, x, p] | .binds c => [c] | .clears c => [c] | _ => []
/-- what is known of a call that may be handed in -/
def CallOk : Cl → Prop
  | .giver _ _ _ _ _ _ _ t => t.length ≤ 20000 ∧ ∀ x ∈ t, x < 4294967296
  | .quarter l => ∀ x ∈ l, x ≤ 1000000000000000
  | .could l => ∀ x ∈ l, x ≤ 1000000000000000
  | .passes _ x => x ≤ 1000000000000000
  | _ => True
def anC (d : Desk) : Cl → Answer
  | .giver k m s h w u o t => anGiver d k m s h w u o t | .away i b => anAway d i b | .ramps u w => HdSpec.says 0 | .rule n => if 1 < n then HdSpec.says (-1) else HdSpec.says 0 | .order s f e l => anOrder d s f e l | .back j => anBack d j | .quarter l => anQuarter d l
  | .could l => anCould d l | .limits => anLimits d | .parts k c => anParts d k c | .judge c x => anJudge d c x | .prices c => anPrices d c | .proof c x p => anProof d c x p | .lost j => anLost d j | .told j => anTold d j | .binds c => anBinds d c | .clears c => anClears d c | .state i => anState d i | .sums => anSums d | .passes i x => anPasses d i x
  | _ => HdSpec.says 0
def afC (d : Desk) : Cl → Desk
  | .giver k m s h w u o t => afGiver d k m s h w u o t | .away i b => afAway d i b | .ramps u w => { d with up := u, down := w } | .rule n => if 1 < n then d else { d with rule := n } | .order s f e l => afOrder d s f e l | .back j => afBack d j | .quarter l => afQuarter d l | _ => d
structure RowsAt (K : PySem.W.Frag) (H : Hp) (w : Addr) (rs : List (List Nat)) : Prop where
  ex : ∃ as : List Addr, SqL K H w (as.map V.ref) ∧ as.length = rs.length ∧ ∀ (i : Nat) (a : Addr) (r : List Nat), as[i]? = some a → rs[i]? = some r → SqL K H a (nvs r)
theorem RowsAt.mono {K : PySem.W.Frag} {H H' : Hp} {w : Addr} {rs : List (List Nat)} (h : RowsAt K H w rs) (e : Ex H H') : RowsAt K H' w rs := by
  obtain ⟨⟨as, h1, h2, h3⟩⟩ := h
  exact ⟨⟨as, ex_l e h1, h2, fun i a r x y => ex_l e (h3 i a r x y)⟩⟩
theorem RowsAt.get {K : PySem.W.Frag} {H : Hp} {w : Addr} {rs : List (List Nat)} (h : RowsAt K H w rs) {i : Nat} {r : List Nat} (hr : rs[i]? = some r) : ∃ xs a, SqL K H w xs ∧ xs[i]? = some (V.ref a) ∧ SqL K H a (nvs r) := by
  obtain ⟨⟨as, h1, h2, h3⟩⟩ := h
  obtain ⟨a, ha⟩ : ∃ a, as[i]? = some a := ⟨_, List.getElem?_eq_getElem (by have := (List.getElem?_eq_some_iff.mp hr).1; omega)⟩
  exact ⟨_, a, h1, refs_at ha, h3 i a r ha hr⟩
section
variable {K : PySem.W.Frag} {σ : L2.St} {H : Hp} {D : Ends} {tu tz : TS} {k n : Nat}
theorem q_skip (h : σ[1]? = some (some (nv n))) (hne : ¬ n = k) (kk : ∀ H1, Ex H H1 → tz D σ H1) : tSeq (tIfS (tTest (tOp rEq (tVar 1) (tC (.int (k : Int))))) tu tNext) tz D σ H :=
  q_when (et_test (ev_eqN (ev_var h) ev_c)) (fun hb => absurd (of_decide_eq_true hb) hne) (fun _ => kk)
theorem q_hit (h : σ[1]? = some (some (nv n))) (heq : n = k) (kk : ∀ H1, Ex H H1 → tu { D with nx := tz D } σ H1) : tSeq (tIfS (tTest (tOp rEq (tVar 1) (tC (.int (k : Int))))) tu tNext) tz D σ H :=
  q_when (et_test (ev_eqN (ev_var h) ev_c)) (fun _ => kk) (fun hb => absurd heq (of_decide_eq_false hb))
end

/-! ### answer_record -/
def isRec : Cl → Prop
  | .lost _ => True | .told _ => True | .state _ => True | .sums => True | .passes .. => True | _ => False
def sp_answer_record (K : PySem.W.Frag) (C : Cs) : Sp := fun vs H Q _ => ∃ (a nm : Addr) (d : Desk) (c : Cl), isRec c ∧ CallOk c ∧ vs = [.ref a, nv (codeN c), .ref nm] ∧ DeskAt K C H a d ∧ SqL K H nm (nvs (numsN c)) ∧ RetL (anV (anC d c)) H Q
theorem pure_answer_record {K : PySem.W.Frag} {C : Cs} {vs : List V} {H : Hp} {Q : VK} {E : XK} (h : sp_answer_record K C vs H Q E) : t_answer_record K (sp_ask_lost K C) (sp_ask_passes K C) (sp_ask_state K C) (sp_ask_sums K C) (sp_ask_told K C) { nx := fun _ H' => Q .non H', rt := Q } (L2.start ["desk", "call", "numbers"] vs) H := by
  obtain ⟨a, nm, d, c, hc, hok, rfl, DI, hn, k⟩ := h
  cases c <;> try exact hc.elim
  case lost o =>
    refine q_hit (k := 13) (n := 13) rfl (by decide) fun H1 e1 => ?_
    have EE := e1
    exact s_retL (el_call (ea_cons (ev_var rfl) (ea_cons (ev_ixN (n := 0) (m := o) (ev_var rfl) ev_c (ex_l EE hn) rfl) ea_nil)) (fun H9 e9 Q2 q _ => ⟨a, d, o, rfl, DI.mono (EE.trans e9), q⟩)) fun q9 H9 hq e9 h9 => k.go EE hq e9 h9
  case told o =>
    refine q_skip (k := 13) (n := 14) rfl (by decide) fun H1 e1 => ?_
    refine q_hit (k := 14) (n := 14) rfl (by decide) fun H2 e2 => ?_
    have EE := (e1.trans e2)
    exact s_retL (el_call (ea_cons (ev_var rfl) (ea_cons (ev_ixN (n := 0) (m := o) (ev_var rfl) ev_c (ex_l EE hn) rfl) ea_nil)) (fun H9 e9 Q2 q _ => ⟨a, d, o, rfl, DI.mono (EE.trans e9), q⟩)) fun q9 H9 hq e9 h9 => k.go EE hq e9 h9
  case state i =>
    refine q_skip (k := 13) (n := 17) rfl (by decide) fun H1 e1 => ?_
    refine q_skip (k := 14) (n := 17) rfl (by decide) fun H2 e2 => ?_
    refine q_hit (k := 17) (n := 17) rfl (by decide) fun H3 e3 => ?_
    have EE := ((e1.trans e2).trans e3)
    exact s_retL (el_call (ea_cons (ev_var rfl) (ea_cons (ev_ixN (n := 0) (m := i) (ev_var rfl) ev_c (ex_l EE hn) rfl) ea_nil)) (fun H9 e9 Q2 q _ => ⟨a, d, i, rfl, DI.mono (EE.trans e9), q⟩)) fun q9 H9 hq e9 h9 => k.go EE hq e9 h9
  case sums =>
    refine q_skip (k := 13) (n := 18) rfl (by decide) fun H1 e1 => ?_
    refine q_skip (k := 14) (n := 18) rfl (by decide) fun H2 e2 => ?_
    refine q_skip (k := 17) (n := 18) rfl (by decide) fun H3 e3 => ?_
    refine q_hit (k := 18) (n := 18) rfl (by decide) fun H4 e4 => ?_
    have EE := (((e1.trans e2).trans e3).trans e4)
    exact s_retL (el_call (ea_cons (ev_var rfl) ea_nil) (fun H9 e9 Q2 q _ => ⟨a, d, rfl, DI.mono (EE.trans e9), q⟩)) fun q9 H9 hq e9 h9 => k.go EE hq e9 h9
  case passes i x =>
    refine q_skip (k := 13) (n := 19) rfl (by decide) fun H1 e1 => ?_
    refine q_skip (k := 14) (n := 19) rfl (by decide) fun H2 e2 => ?_
    refine q_skip (k := 17) (n := 19) rfl (by decide) fun H3 e3 => ?_
    refine q_skip (k := 18) (n := 19) rfl (by decide) fun H4 e4 => ?_
    have EE := (((e1.trans e2).trans e3).trans e4)
    exact s_retL (el_call (ea_cons (ev_var rfl) (ea_cons (ev_ixN (n := 0) (m := i) (ev_var rfl) ev_c (ex_l EE hn) rfl) (ea_cons (ev_ixN (n := 1) (m := x) (ev_var rfl) ev_c (ex_l EE hn) rfl) ea_nil))) (fun H9 e9 Q2 q _ => ⟨a, d, i, x, rfl, DI.mono (EE.trans e9), hok, q⟩)) fun q9 H9 hq e9 h9 => k.go EE hq e9 h9
/-! ### answer_question -/
def isAsk : Cl → Prop
  | .could _ => True | .limits => True | .parts .. => True | .judge .. => True | .prices _ => True | .proof .. => True | .binds _ => True | .clears _ => True | _ => False
def sp_answer_question (K : PySem.W.Frag) (C : Cs) (T : List (Addr × Str)) : Sp := fun vs H Q _ => ∃ (a nm w : Addr) (d : Desk) (c : Cl), isAsk c ∧ CallOk c ∧ vs = [.ref a, nv (codeN c), .ref nm, .ref w] ∧ DeskAt K C H a d ∧ SqL K H nm (nvs (numsN c)) ∧ RowsAt K H w (rowsN c) ∧ Tabs T H ∧ RetLN T (anV (anC d c)) H Q
theorem pure_answer_question {K : PySem.W.Frag} {C : Cs} {T : List (Addr × Str)} {vs : List V} {H : Hp} {Q : VK} {E : XK} (h : sp_answer_question K C T vs H Q E) : t_answer_question K (sp_ask_binds K C) (sp_ask_clears K C) (sp_ask_could K C) (sp_ask_judge K C) (sp_ask_limits K C) (sp_ask_parts K C T) (sp_ask_prices K C T) (sp_ask_proof K C) { nx := fun _ H' => Q .non H', rt := Q } (L2.start ["desk", "call", "numbers", "rows"] vs) H := by
  obtain ⟨a, nm, w, d, c, hc, hok, rfl, DI, hn, hw, hT, k⟩ := h
  cases c <;> try exact hc.elim
  case could l =>
    obtain ⟨x0, r0, w0, g0, s0⟩ := hw.get (i := 0) (r := l) rfl
    refine q_hit (k := 7) (n := 7) rfl (by decide) fun H1 e1 => ?_
    have EE := e1
    exact s_retL (el_call (ea_cons (ev_var rfl) (ea_cons (ev_ixL (n := 0) (ev_var rfl) ev_c (ex_l EE w0) g0) ea_nil)) (fun H9 e9 Q2 q _ => ⟨a, r0, d, l, rfl, DI.mono (EE.trans e9), ex_l (EE.trans e9) s0, hok, q⟩)) fun q9 H9 hq e9 h9 => k.go (.of EE) hq (.of e9) (hT.ext (EE.trans e9)) h9
  case limits =>
    refine q_skip (k := 7) (n := 8) rfl (by decide) fun H1 e1 => ?_
    refine q_hit (k := 8) (n := 8) rfl (by decide) fun H2 e2 => ?_
    have EE := (e1.trans e2)
    exact s_retL (el_call (ea_cons (ev_var rfl) ea_nil) (fun H9 e9 Q2 q _ => ⟨a, d, rfl, DI.mono (EE.trans e9), q⟩)) fun q9 H9 hq e9 h9 => k.go (.of EE) hq (.of e9) (hT.ext (EE.trans e9)) h9
  case parts n c =>
    obtain ⟨x0, r0, w0, g0, s0⟩ := hw.get (i := 0) (r := c) rfl
    refine q_skip (k := 7) (n := 9) rfl (by decide) fun H1 e1 => ?_
    refine q_skip (k := 8) (n := 9) rfl (by decide) fun H2 e2 => ?_
    refine q_hit (k := 9) (n := 9) rfl (by decide) fun H3 e3 => ?_
    have EE := ((e1.trans e2).trans e3)
    exact s_retT (T := T) (et_call (T := T) (ea_cons (ev_var rfl) (ea_cons (ev_ixN (n := 0) (m := n) (ev_var rfl) ev_c (ex_l EE hn) rfl) (ea_cons (ev_ixL (n := 0) (ev_var rfl) ev_c (ex_l EE w0) g0) ea_nil))) (fun H9 e9 Q2 q _ => ⟨a, r0, d, n, c, rfl, DI.mono (EE.trans e9), ex_l (EE.trans e9) s0, hT.ext (EE.trans e9), q⟩)) fun q9 H9 hq e9 t9 h9 => k.go (.of EE) hq e9 t9 h9
  case judge c x =>
    obtain ⟨x0, r0, w0, g0, s0⟩ := hw.get (i := 0) (r := c) rfl
    obtain ⟨x1, r1, w1, g1, s1⟩ := hw.get (i := 1) (r := x) rfl
    refine q_skip (k := 7) (n := 10) rfl (by decide) fun H1 e1 => ?_
    refine q_skip (k := 8) (n := 10) rfl (by decide) fun H2 e2 => ?_
    refine q_skip (k := 9) (n := 10) rfl (by decide) fun H3 e3 => ?_
    refine q_hit (k := 10) (n := 10) rfl (by decide) fun H4 e4 => ?_
    have EE := (((e1.trans e2).trans e3).trans e4)
    exact s_retL (el_call (ea_cons (ev_var rfl) (ea_cons (ev_ixL (n := 0) (ev_var rfl) ev_c (ex_l EE w0) g0) (ea_cons (ev_ixL (n := 1) (ev_var rfl) ev_c (ex_l EE w1) g1) ea_nil))) (fun H9 e9 Q2 q _ => ⟨a, r0, r1, d, c, x, rfl, DI.mono (EE.trans e9), ex_l (EE.trans e9) s0, ex_l (EE.trans e9) s1, q⟩)) fun q9 H9 hq e9 h9 => k.go (.of EE) hq (.of e9) (hT.ext (EE.trans e9)) h9
  case prices c =>
    obtain ⟨x0, r0, w0, g0, s0⟩ := hw.get (i := 0) (r := c) rfl
    refine q_skip (k := 7) (n := 11) rfl (by decide) fun H1 e1 => ?_
    refine q_skip (k := 8) (n := 11) rfl (by decide) fun H2 e2 => ?_
    refine q_skip (k := 9) (n := 11) rfl (by decide) fun H3 e3 => ?_
    refine q_skip (k := 10) (n := 11) rfl (by decide) fun H4 e4 => ?_
    refine q_hit (k := 11) (n := 11) rfl (by decide) fun H5 e5 => ?_
    have EE := ((((e1.trans e2).trans e3).trans e4).trans e5)
    exact s_retT (T := T) (et_call (T := T) (ea_cons (ev_var rfl) (ea_cons (ev_ixL (n := 0) (ev_var rfl) ev_c (ex_l EE w0) g0) ea_nil)) (fun H9 e9 Q2 q _ => ⟨a, r0, d, c, rfl, DI.mono (EE.trans e9), ex_l (EE.trans e9) s0, hT.ext (EE.trans e9), q⟩)) fun q9 H9 hq e9 t9 h9 => k.go (.of EE) hq e9 t9 h9
  case proof c x p =>
    obtain ⟨x0, r0, w0, g0, s0⟩ := hw.get (i := 0) (r := c) rfl
    obtain ⟨x1, r1, w1, g1, s1⟩ := hw.get (i := 1) (r := x) rfl
    obtain ⟨x2, r2, w2, g2, s2⟩ := hw.get (i := 2) (r := p) rfl
    refine q_skip (k := 7) (n := 12) rfl (by decide) fun H1 e1 => ?_
    refine q_skip (k := 8) (n := 12) rfl (by decide) fun H2 e2 => ?_
    refine q_skip (k := 9) (n := 12) rfl (by decide) fun H3 e3 => ?_
    refine q_skip (k := 10) (n := 12) rfl (by decide) fun H4 e4 => ?_
    refine q_skip (k := 11) (n := 12) rfl (by decide) fun H5 e5 => ?_
    refine q_hit (k := 12) (n := 12) rfl (by decide) fun H6 e6 => ?_
    have EE := (((((e1.trans e2).trans e3).trans e4).trans e5).trans e6)
    exact s_retL (el_call (ea_cons (ev_var rfl) (ea_cons (ev_ixL (n := 0) (ev_var rfl) ev_c (ex_l EE w0) g0) (ea_cons (ev_ixL (n := 1) (ev_var rfl) ev_c (ex_l EE w1) g1) (ea_cons (ev_ixL (n := 2) (ev_var rfl) ev_c (ex_l EE w2) g2) ea_nil)))) (fun H9 e9 Q2 q _ => ⟨a, r0, r1, r2, d, c, x, p, rfl, DI.mono (EE.trans e9), ex_l (EE.trans e9) s0, ex_l (EE.trans e9) s1, ex_l (EE.trans e9) s2, q⟩)) fun q9 H9 hq e9 h9 => k.go (.of EE) hq (.of e9) (hT.ext (EE.trans e9)) h9
  case binds c =>
    obtain ⟨x0, r0, w0, g0, s0⟩ := hw.get (i := 0) (r := c) rfl
    refine q_skip (k := 7) (n := 15) rfl (by decide) fun H1 e1 => ?_
    refine q_skip (k := 8) (n := 15) rfl (by decide) fun H2 e2 => ?_
    refine q_skip (k := 9) (n := 15) rfl (by decide) fun H3 e3 => ?_
    refine q_skip (k := 10) (n := 15) rfl (by decide) fun H4 e4 => ?_
    refine q_skip (k := 11) (n := 15) rfl (by decide) fun H5 e5 => ?_
    refine q_skip (k := 12) (n := 15) rfl (by decide) fun H6 e6 => ?_
    refine q_hit (k := 15) (n := 15) rfl (by decide) fun H7 e7 => ?_
    have EE := ((((((e1.trans e2).trans e3).trans e4).trans e5).trans e6).trans e7)
    exact s_retL (el_call (ea_cons (ev_var rfl) (ea_cons (ev_ixL (n := 0) (ev_var rfl) ev_c (ex_l EE w0) g0) ea_nil)) (fun H9 e9 Q2 q _ => ⟨a, r0, d, c, rfl, DI.mono (EE.trans e9), ex_l (EE.trans e9) s0, q⟩)) fun q9 H9 hq e9 h9 => k.go (.of EE) hq (.of e9) (hT.ext (EE.trans e9)) h9
  case clears c =>
    obtain ⟨x0, r0, w0, g0, s0⟩ := hw.get (i := 0) (r := c) rfl
    refine q_skip (k := 7) (n := 16) rfl (by decide) fun H1 e1 => ?_
    refine q_skip (k := 8) (n := 16) rfl (by decide) fun H2 e2 => ?_
    refine q_skip (k := 9) (n := 16) rfl (by decide) fun H3 e3 => ?_
    refine q_skip (k := 10) (n := 16) rfl (by decide) fun H4 e4 => ?_
    refine q_skip (k := 11) (n := 16) rfl (by decide) fun H5 e5 => ?_
    refine q_skip (k := 12) (n := 16) rfl (by decide) fun H6 e6 => ?_
    refine q_skip (k := 15) (n := 16) rfl (by decide) fun H7 e7 => ?_
    have EE := ((((((e1.trans e2).trans e3).trans e4).trans e5).trans e6).trans e7)
    exact s_retL (el_call (ea_cons (ev_var rfl) (ea_cons (ev_ixL (n := 0) (ev_var rfl) ev_c (ex_l EE w0) g0) ea_nil)) (fun H9 e9 Q2 q _ => ⟨a, r0, d, c, rfl, DI.mono (EE.trans e9), ex_l (EE.trans e9) s0, q⟩)) fun q9 H9 hq e9 h9 => k.go (.of EE) hq (.of e9) (hT.ext (EE.trans e9)) h9
/-! ### answer_change -/
def isChg : Cl → Prop
  | .giver .. => True | .away .. => True | .ramps .. => True | .rule _ => True | .order .. => True | .back _ => True | .quarter _ => True | _ => False
def sp_answer_change (K : PySem.W.Frag) (C : Cs) (T : List (Addr × Str)) : Sp := fun vs H Q _ => ∃ (S : Addr → Prop) (a dx : Addr) (p : DA) (d : Desk) (nm w : Addr) (c : Cl), isChg c ∧ CallOk c ∧ vs = [.ref a, nv (codeN c), .ref nm, .ref w] ∧ DeskM K C T S H a dx p d ∧ SqL K H nm (nvs (numsN c)) ∧ RowsAt K (cut S H) w (rowsN c) ∧ RetC K C T S a dx (anV (anC d c)) (afC d c) H Q
section
variable {K : PySem.W.Frag} {C : Cs} {T : List (Addr × Str)} {S : Addr → Prop} {H H1 : Hp} {a dx : Addr} {p : DA} {d d' : Desk} {σ : L2.St} {D : Ends} {tg : TA} {xs : List V} {Q : VK}
theorem DeskM.ext (M : DeskM K C T S H a dx p d) (e : Ex H H1) : DeskM K C T S H1 a dx p d := ⟨M.sa, fun b z q => M.dom b z (fresh_back e q), e _ _ M.at_, M.in_.mono (cut_ex e), M.tab.ext e⟩
theorem RetC.ext (k : RetC K C T S a dx xs d' H Q) (e : Ex H H1) : RetC K C T S a dx xs d' H1 Q := fun q p' H2 hq ch t h1 h2 h3 => k q p' H2 (fresh_back e hq) ((ChN.ex e).trans ch) t h1 h2 h3
theorem s_retC {sp : Sp} {vs : List V} {E : XK} (h : EvA tg σ H vs) (k : ∀ H1, Ex H H1 → sp vs H1 D.rt E) : tRet (tCall sp [] E tg) D σ H := h H (Ex.refl H) _ fun H1 e => by
  rw [List.append_nil]; exact k H1 e
end
theorem pure_answer_change {K : PySem.W.Frag} {C : Cs} {T : List (Addr × Str)} {vs : List V} {H : Hp} {Q : VK} {E : XK} (h : sp_answer_change K C T vs H Q E) : t_answer_change K (sp_tell_away K C T) (sp_tell_back K C T) (sp_tell_giver K C T) (sp_tell_order K C T) (sp_tell_quarter K C T) (sp_tell_ramps K C T) (sp_tell_rule K C T) { nx := fun _ H' => Q .non H', rt := Q } (L2.start ["desk", "call", "numbers", "rows"] vs) H := by
  obtain ⟨S, a, dx, p, d, nm, w, c, hc, hok, rfl, M, hn, hw, k⟩ := h
  cases c <;> try exact hc.elim
  case giver ki mo st ha wa up wo t =>
    obtain ⟨x0, r0, w0, g0, s0⟩ := hw.get (i := 0) (r := t) rfl
    refine q_hit (k := 0) (n := 0) rfl (by decide) fun H1 e1 => ?_
    have EE := e1
    exact s_retC (ea_cons (ev_var rfl) (ea_cons (ev_var rfl) (ea_cons (ev_ixL (n := 0) (ev_var rfl) ev_c (ex_l ((cut_sub S H).trans EE) w0) g0) ea_nil))) fun H9 e9 => by
      have EF := EE.trans e9
      exact ⟨S, a, dx, p, d, nm, r0, ki, mo, st, ha, wa, up, wo, t, rfl, M.ext EF, ex_l EF hn, ex_l (cut_ex EF) s0, hok.1, hok.2, k.ext EF⟩
  case away i b =>
    refine q_skip (k := 0) (n := 1) rfl (by decide) fun H1 e1 => ?_
    refine q_hit (k := 1) (n := 1) rfl (by decide) fun H2 e2 => ?_
    have EE := (e1.trans e2)
    exact s_retC (ea_cons (ev_var rfl) (ea_cons (ev_ixN (n := 0) (m := i) (ev_var rfl) ev_c (ex_l EE hn) rfl) (ea_cons (ev_ixN (n := 1) (m := b) (ev_var rfl) ev_c (ex_l EE hn) rfl) ea_nil))) fun H9 e9 => by
      have EF := EE.trans e9
      exact ⟨S, a, dx, p, d, i, b, rfl, M.ext EF, k.ext EF⟩
  case ramps u v =>
    refine q_skip (k := 0) (n := 2) rfl (by decide) fun H1 e1 => ?_
    refine q_skip (k := 1) (n := 2) rfl (by decide) fun H2 e2 => ?_
    refine q_hit (k := 2) (n := 2) rfl (by decide) fun H3 e3 => ?_
    have EE := ((e1.trans e2).trans e3)
    exact s_retC (ea_cons (ev_var rfl) (ea_cons (ev_ixN (n := 0) (m := u) (ev_var rfl) ev_c (ex_l EE hn) rfl) (ea_cons (ev_ixN (n := 1) (m := v) (ev_var rfl) ev_c (ex_l EE hn) rfl) ea_nil))) fun H9 e9 => by
      have EF := EE.trans e9
      exact ⟨S, a, dx, p, d, u, v, rfl, M.ext EF, k.ext EF⟩
  case rule n =>
    refine q_skip (k := 0) (n := 3) rfl (by decide) fun H1 e1 => ?_
    refine q_skip (k := 1) (n := 3) rfl (by decide) fun H2 e2 => ?_
    refine q_skip (k := 2) (n := 3) rfl (by decide) fun H3 e3 => ?_
    refine q_hit (k := 3) (n := 3) rfl (by decide) fun H4 e4 => ?_
    have EE := (((e1.trans e2).trans e3).trans e4)
    exact s_retC (ea_cons (ev_var rfl) (ea_cons (ev_ixN (n := 0) (m := n) (ev_var rfl) ev_c (ex_l EE hn) rfl) ea_nil)) fun H9 e9 => by
      have EF := EE.trans e9
      exact ⟨S, a, dx, p, d, n, rfl, M.ext EF, k.ext EF⟩
  case order s f e l =>
    refine q_skip (k := 0) (n := 4) rfl (by decide) fun H1 e1 => ?_
    refine q_skip (k := 1) (n := 4) rfl (by decide) fun H2 e2 => ?_
    refine q_skip (k := 2) (n := 4) rfl (by decide) fun H3 e3 => ?_
    refine q_skip (k := 3) (n := 4) rfl (by decide) fun H4 e4 => ?_
    refine q_hit (k := 4) (n := 4) rfl (by decide) fun H5 e5 => ?_
    have EE := ((((e1.trans e2).trans e3).trans e4).trans e5)
    exact s_retC (ea_cons (ev_var rfl) (ea_cons (ev_ixN (n := 0) (m := s) (ev_var rfl) ev_c (ex_l EE hn) rfl) (ea_cons (ev_ixN (n := 1) (m := f) (ev_var rfl) ev_c (ex_l EE hn) rfl) (ea_cons (ev_ixN (n := 2) (m := e) (ev_var rfl) ev_c (ex_l EE hn) rfl) (ea_cons (ev_ixN (n := 3) (m := l) (ev_var rfl) ev_c (ex_l EE hn) rfl) ea_nil))))) fun H9 e9 => by
      have EF := EE.trans e9
      exact ⟨S, a, dx, p, d, s, f, e, l, rfl, M.ext EF, k.ext EF⟩
  case back j =>
    refine q_skip (k := 0) (n := 5) rfl (by decide) fun H1 e1 => ?_
    refine q_skip (k := 1) (n := 5) rfl (by decide) fun H2 e2 => ?_
    refine q_skip (k := 2) (n := 5) rfl (by decide) fun H3 e3 => ?_
    refine q_skip (k := 3) (n := 5) rfl (by decide) fun H4 e4 => ?_
    refine q_skip (k := 4) (n := 5) rfl (by decide) fun H5 e5 => ?_
    refine q_hit (k := 5) (n := 5) rfl (by decide) fun H6 e6 => ?_
    have EE := (((((e1.trans e2).trans e3).trans e4).trans e5).trans e6)
    exact s_retC (ea_cons (ev_var rfl) (ea_cons (ev_ixN (n := 0) (m := j) (ev_var rfl) ev_c (ex_l EE hn) rfl) ea_nil)) fun H9 e9 => by
      have EF := EE.trans e9
      exact ⟨S, a, dx, p, d, j, rfl, M.ext EF, k.ext EF⟩
  case quarter l =>
    obtain ⟨x0, r0, w0, g0, s0⟩ := hw.get (i := 0) (r := l) rfl
    refine q_skip (k := 0) (n := 6) rfl (by decide) fun H1 e1 => ?_
    refine q_skip (k := 1) (n := 6) rfl (by decide) fun H2 e2 => ?_
    refine q_skip (k := 2) (n := 6) rfl (by decide) fun H3 e3 => ?_
    refine q_skip (k := 3) (n := 6) rfl (by decide) fun H4 e4 => ?_
    refine q_skip (k := 4) (n := 6) rfl (by decide) fun H5 e5 => ?_
    refine q_skip (k := 5) (n := 6) rfl (by decide) fun H6 e6 => ?_
    have EE := (((((e1.trans e2).trans e3).trans e4).trans e5).trans e6)
    exact s_retC (ea_cons (ev_var rfl) (ea_cons (ev_ixL (n := 0) (ev_var rfl) ev_c (ex_l ((cut_sub S H).trans EE) w0) g0) ea_nil)) fun H9 e9 => by
      have EF := EE.trans e9
      exact ⟨S, a, dx, p, d, r0, l, rfl, M.ext EF, ex_l ((cut_sub S H).trans EF) s0, hok, k.ext EF⟩
end Pp
end
section
set_option Elab.async false
set_option linter.all false
set_option maxRecDepth 100000
set_option maxHeartbeats 2000000
namespace Pp
open PySem PySem.Spec PyProof.Rows L2 Evl VwHand LamX NdefX
open HdSpec (Desk Stand Order inForce broughtDown forces limitsBut kindsOf worthsOf lastsOf inScope ownLoss standsAt couldsAt partedBy quarterOn Answer)
/-! ### what a call does, told by its answer -/
theorem step_ask (s : HdSpec.State) (c : Cl) (h : isAsk c ∨ isRec c) : HdSpec.step s c = (s, anC s.desk c) := by
  cases c <;> first | rfl | exact (h.elim id id).elim
theorem step_chg (s : HdSpec.State) (c : Cl) (hch : isChg c) : HdSpec.step s c = if 0 ≤ (anC s.desk c).ret then HdSpec.changed s (afC s.desk c) (anC s.desk c) else (s, anC s.desk c) := by
  cases c <;> try exact hch.elim
  case giver k m st h w u o t =>
    show (if HdSpec.giverBad k m st h w u o = true then _ else _) = if 0 ≤ (anGiver s.desk k m st h w u o t).ret then HdSpec.changed s (afGiver s.desk k m st h w u o t) (anGiver s.desk k m st h w u o t) else (s, anGiver s.desk k m st h w u o t)
    unfold anGiver afGiver
    by_cases c1 : HdSpec.giverBad k m st h w u o = true
    · simp only [if_pos c1]; rfl
    · simp only [if_neg c1]
      cases VwNum.tableOf HdSpec.POINTS t with
      | none => rfl
      | some t' =>
        by_cases c2 : HdSpec.GIVERS ≤ s.desk.givers.length
        · simp only [c2, if_true]; rfl
        · simp only [c2, if_false]
          rw [if_pos (by show (0 : Int) ≤ (s.desk.givers.length : Int); omega)]; rfl
  case away i b =>
    show (if 1 < b then _ else _) = if 0 ≤ (anAway s.desk i b).ret then HdSpec.changed s (afAway s.desk i b) (anAway s.desk i b) else (s, anAway s.desk i b)
    unfold anAway afAway
    by_cases c1 : 1 < b
    · simp only [c1, if_true]; rfl
    · simp only [c1, if_false]
      by_cases c2 : s.desk.givers.length ≤ i
      · simp only [c2, if_true]; rfl
      · simp only [c2, if_false]; rfl
  case ramps u w => rfl
  case rule n =>
    show (if 1 < n then _ else _) = if 0 ≤ (if 1 < n then HdSpec.says (-1) else HdSpec.says 0).ret then HdSpec.changed s (if 1 < n then s.desk else { s.desk with rule := n }) (if 1 < n then HdSpec.says (-1) else HdSpec.says 0) else (s, if 1 < n then HdSpec.says (-1) else HdSpec.says 0)
    by_cases c1 : 1 < n
    · simp only [c1, if_true]; rfl
    · simp only [c1, if_false]; rfl
  case order k f e l =>
    show (if HdSpec.ALL < k ∨ e ≤ f then _ else _) = if 0 ≤ (anOrder s.desk k f e l).ret then HdSpec.changed s (afOrder s.desk k f e l) (anOrder s.desk k f e l) else (s, anOrder s.desk k f e l)
    unfold anOrder afOrder
    by_cases c1 : HdSpec.ALL < k ∨ e ≤ f
    · simp only [c1, if_true]; rfl
    · simp only [c1, if_false]
      by_cases c2 : e ≤ s.desk.now
      · simp only [c2, if_true]; rfl
      · simp only [c2, if_false]
        by_cases c3 : HdSpec.ORDERS ≤ s.desk.orders.length
        · simp only [c3, if_true]; rfl
        · simp only [c3, if_false]
          rw [if_pos (by show (0 : Int) ≤ (s.desk.orders.length : Int); omega)]; rfl
  case back j =>
    show (match s.desk.orders[j]? with | none => _ | some o => _) = if 0 ≤ (anBack s.desk j).ret then HdSpec.changed s (afBack s.desk j) (anBack s.desk j) else (s, anBack s.desk j)
    unfold anBack afBack
    cases s.desk.orders[j]? with
    | none => rfl
    | some o =>
      by_cases c1 : o.back.isSome = true ∨ o.end_ ≤ s.desk.now
      · simp only [c1, if_true]; rfl
      · simp only [c1, if_false]; rfl
  case quarter l =>
    show (if HdSpec.comes s.desk l = false then _ else _) = if 0 ≤ (anQuarter s.desk l).ret then HdSpec.changed s (afQuarter s.desk l) (anQuarter s.desk l) else (s, anQuarter s.desk l)
    unfold anQuarter afQuarter
    by_cases c1 : HdSpec.comes s.desk l = false
    · simp only [if_pos c1]; rfl
    · simp only [if_neg c1]
      rw [if_pos (by show (0 : Int) ≤ ((VwNum.total _ : Nat) : Int); omega)]
theorem anV_first (a : Answer) : (anV a)[0]? = some (.int a.ret) := by
  unfold anV HdNeutral.numbers
  cases a.told <;> rfl
theorem anV_few (a : Answer) : ∃ x xs, anV a = .int x :: xs := by
  unfold anV HdNeutral.numbers
  cases a.told <;> exact ⟨_, _, rfl⟩
/-! ### the memory as it stands -/
structure DesksAt (K : PySem.W.Frag) (C : Cs) (F : Hp) (as : List Addr) (ds : List Desk) : Prop where
  len : as.length = ds.length
  at_ : ∀ (i : Nat) (a : Addr) (d : Desk), as[i]? = some a → ds[i]? = some d → DeskAt K C F a d
theorem DesksAt.mono {K : PySem.W.Frag} {C : Cs} {F F' : Hp} {as : List Addr} {ds : List Desk} (h : DesksAt K C F as ds) (e : Ex F F') : DesksAt K C F' as ds := ⟨h.len, fun i a d x y => (h.at_ i a d x y).mono e⟩
theorem DesksAt.snoc {K : PySem.W.Frag} {C : Cs} {F : Hp} {as : List Addr} {ds : List Desk} {a : Addr} {d : Desk} (h : DesksAt K C F as ds) (hd : DeskAt K C F a d) : DesksAt K C F (as ++ [a]) (ds ++ [d]) := by
  refine ⟨by rw [List.length_append, List.length_append, h.len]; rfl, fun i b q hb hq => ?_⟩
  rcases snoc_get hb with z | ⟨z1, z2⟩
  · rcases snoc_get hq with y | ⟨y1, y2⟩
    · exact h.at_ i b q z y
    · have := (List.getElem?_eq_some_iff.mp z).1
      have := h.len; omega
  · rcases snoc_get hq with y | ⟨y1, y2⟩
    · have := (List.getElem?_eq_some_iff.mp y).1
      have := h.len; omega
    · rw [z2, y2]; exact hd
theorem DesksAt.drop {K : PySem.W.Frag} {C : Cs} {F : Hp} {as : List Addr} {ds : List Desk} (h : DesksAt K C F as ds) (n : Nat) : DesksAt K C F (as.drop n) (ds.drop n) :=
  ⟨by rw [List.length_drop, List.length_drop, h.len], fun i a d x y => h.at_ (n + i) a d (by rw [List.getElem?_drop] at x; exact x) (by rw [List.getElem?_drop] at y; exact y)⟩
theorem DesksAt.last {K : PySem.W.Frag} {C : Cs} {F : Hp} {as : List Addr} {ds : List Desk} {d : Desk} (h : DesksAt K C F as (ds ++ [d])) : ∃ as0 a, as = as0 ++ [a] ∧ DesksAt K C F as0 ds ∧ DeskAt K C F a d := by
  have hl := h.len
  rw [List.length_append] at hl
  have hl' : as.length = ds.length + 1 := hl
  have hne : as ≠ [] := fun z => by rw [z] at hl'; simp at hl'
  refine ⟨as.dropLast, as.getLast hne, (List.dropLast_concat_getLast hne).symm, ⟨by rw [List.length_dropLast]; omega, fun i b q hb hq => ?_⟩, ?_⟩
  · have hi := (List.getElem?_eq_some_iff.mp hq).1
    refine h.at_ i b q ?_ (by rw [List.getElem?_append_left hi]; exact hq)
    rw [List.getElem?_dropLast, if_pos (by omega)] at hb
    exact hb
  · refine h.at_ ds.length _ d ?_ (by rw [List.getElem?_append_right (Nat.le_refl _), Nat.sub_self]; rfl)
    rw [List.getLast_eq_getElem, ← List.getElem?_eq_getElem]
    congr 1; omega
structure MemAt (K : PySem.W.Frag) (C : Cs) (T : List (Addr × Str)) (S : Addr → Prop) (H : Hp) (m t : Addr) (xs : List V) (dxm d e u : Addr) (es us : List Addr) (s : HdSpec.State) : Prop where
  dom : ∀ b, S b → H b ≠ none
  tab : Tabs T H
  sm : S m
  st : S t
  se : S e
  su : S u
  tm : t ≠ m
  te : t ≠ e
  tu : t ≠ u
  eu : e ≠ u
  at_ : H m = some (.ins C.M dxm (mF d e u))
  lt : H t = some (.lst xs)
  le : H e = some (.lst (es.map V.ref))
  lu : H u = some (.lst (us.map V.ref))
  desk : DeskAt K C (cut S H) d s.desk
  ed : DesksAt K C (cut S H) es s.undone.reverse
  ud : DesksAt K C (cut S H) us s.redone.reverse
  few : s.undone.length + s.redone.length ≤ 16
def RetM (K : PySem.W.Frag) (C : Cs) (T : List (Addr × Str)) (S : Addr → Prop) (m t : Addr) (xs : List V) (dxm : Addr) (ans : List V) (s' : HdSpec.State) (H : Hp) (Q : VK) : Prop := ∀ q S' d' e' u' es' us' H2, H q = none → H2 q = some (.lst ans) → ¬ S' q → Ex (cut S H) (cut S' H2) → MemAt K C T S' H2 m t xs dxm d' e' u' es' us' s' → Q (.ref q) H2
section
variable {K : PySem.W.Frag} {C : Cs} {H : Hp} {m dxm d e u : Addr} {σ : L2.St} {ta : TE}
theorem me_desk (c : CM K C.M) (h : H m = some (.ins C.M dxm (mF d e u))) (hv : Ev ta σ H (.ref m)) : Ev (tFld K ta "desk") σ H (.ref d) := ev_fld hv h c.cl c.desk rfl
theorem me_earlier (c : CM K C.M) (h : H m = some (.ins C.M dxm (mF d e u))) (hv : Ev ta σ H (.ref m)) : Ev (tFld K ta "earlier") σ H (.ref e) := ev_fld hv h c.cl c.earlier rfl
theorem me_undone (c : CM K C.M) (h : H m = some (.ins C.M dxm (mF d e u))) (hv : Ev ta σ H (.ref m)) : Ev (tFld K ta "undone") σ H (.ref u) := ev_fld hv h c.cl c.undone rfl
theorem put_desk (x : Addr) : putF "desk" (.ref x) (mF d e u) = mF x e u := rfl
theorem put_earlier (x : Addr) : putF "earlier" (.ref x) (mF d e u) = mF d x u := rfl
theorem put_undone (x : Addr) : putF "undone" (.ref x) (mF d e u) = mF d e x := rfl
end
/-! ### take_over -/
theorem cut16 (xs : List V) : cutV xs (some (-16)) none = xs.drop (xs.length - 16) := by
  unfold cutV
  have e1 : HT.sIx xs.length 0 (some (-16)) = xs.length - 16 := by
    show (if (-16 : Int) < 0 then ((-16 : Int) + (xs.length : Int)).toNat else min (-16 : Int).toNat xs.length) = _
    rw [if_pos (by decide)]; omega
  have e2 : HT.sIx xs.length xs.length none = xs.length := rfl
  rw [e1, e2]
  exact List.take_of_length_le (by rw [List.length_drop]; omega)
def sp_take_over (K : PySem.W.Frag) (C : Cs) : Sp := fun vs H Q _ => ∃ (m dxm d e u x : Addr) (es : List Addr), vs = [.ref m, .ref x] ∧ H m = some (.ins C.M dxm (mF d e u)) ∧ H e = some (.lst (es.map V.ref)) ∧ es.length ≤ 16 ∧
  ∀ e' u' H2, H e' = none → H u' = none → e' ≠ u' → Ch m H H2 → H2 m = some (.ins C.M dxm (mF x e' u')) → H2 e' = some (.lst (((es ++ [d]).drop (es.length + 1 - 16)).map V.ref)) → H2 u' = some (.lst []) → Q .non H2
theorem pure_take_over {K : PySem.W.Frag} {C : Cs} (c : CC K C) {vs : List V} {H : Hp} {Q : VK} {E : XK} (h : sp_take_over K C vs H Q E) : t_take_over K { nx := fun _ H' => Q .non H', rt := Q } (L2.start ["memory", "changed"] vs) H := by
  obtain ⟨m, dxm, d, e, u, x, es, rfl, hm, he, hes, k⟩ := h
  have sl : EvL (tSl (rSlL K) (tOp rCat (tFld K (tVar 0) "earlier") (tLst (tCons (tFld K (tVar 0) "desk") tNil))) (tPart (tUn (rU fun i => .int (-i)) (tC (.int 16)))) tNoPart) [some (.ref m), some (.ref x)] H (((es ++ [d]).drop (es.length + 1 - 16)).map V.ref) := fun H1 e1 Q1 q => by
    refine el_catR (xs := es.map V.ref) (ys := [.ref d]) (me_earlier c.m hm (ev_var rfl)) he (el_lst (ea_cons (me_desk c.m hm (ev_var rfl)) ea_nil) (by show 1 ≤ 100000; decide)) (by rw [List.length_map]; show _ + 1 ≤ 100000; omega) H1 e1 _ fun p H2 hp e2 h2 => ?_
    refine eo_some (i := -16) (ev_un ev_c ru_neg) H2 (e1.trans e2) _ fun H3 e3 => ?_
    refine ⟨p, es.map V.ref ++ [.ref d], rfl, sq_of (e3 _ _ h2), fun r hr => q r _ (fresh_back (e2.trans e3) hr) ((e2.trans e3).trans (Ex.new hr)) ?_⟩
    rw [upd_same, cut16, List.length_append, List.length_map, List.map_drop, List.map_append]; rfl
  refine q_fldL sl (ev_var rfl) hm c.m.cl c.m.earlier (by show 3 < 1000; decide) fun e' H1 he' e1 h1 => ?_
  rw [put_earlier]
  have c1 := ((Ch.refl m H).then e1).put (o := .ins C.M dxm (mF d e' u)) (e1 _ _ hm)
  have k1 : (upd H1 m (.ins C.M dxm (mF d e' u))) m = some (.ins C.M dxm (mF d e' u)) := upd_same
  have l1 : (upd H1 m (.ins C.M dxm (mF d e' u))) e' = some (.lst (((es ++ [d]).drop (es.length + 1 - 16)).map V.ref)) := by rw [upd_ne (ne_ins_lst (e1 _ _ hm) h1)]; exact h1
  generalize upd H1 m (.ins C.M dxm (mF d e' u)) = J1 at c1 k1 l1 ⊢
  refine q_fldL (xs := []) (el_lst ea_nil (by decide)) (ev_var rfl) k1 c.m.cl c.m.undone (by show 3 < 1000; decide) fun u' H2 hu' e2 h2 => ?_
  rw [put_undone]
  have c2 := (c1.then e2).put (o := .ins C.M dxm (mF d e' u')) (e2 _ _ k1)
  have k2 : (upd H2 m (.ins C.M dxm (mF d e' u'))) m = some (.ins C.M dxm (mF d e' u')) := upd_same
  have l2 : (upd H2 m (.ins C.M dxm (mF d e' u'))) e' = some (.lst (((es ++ [d]).drop (es.length + 1 - 16)).map V.ref)) := by rw [upd_ne (ne_ins_lst (e2 _ _ k1) (e2 _ _ l1))]; exact e2 _ _ l1
  have v2 : (upd H2 m (.ins C.M dxm (mF d e' u'))) u' = some (.lst []) := by rw [upd_ne (ne_ins_lst (e2 _ _ k1) h2)]; exact h2
  generalize upd H2 m (.ins C.M dxm (mF d e' u')) = J2 at c2 k2 l2 v2 ⊢
  refine s_fld (v := .ref x) (ev_var rfl) (ev_var rfl) k2 c.m.cl c.m.desk (by show 3 < 1000; decide) fun H3 e3 => ?_
  rw [put_desk]
  exact k e' u' _ he' (c1.nn _ hu') (ne_of_none l1 hu') ((c2.then e3).put (e3 _ _ k2)) upd_same (by rw [upd_ne (ne_ins_lst (e3 _ _ k2) (e3 _ _ l2))]; exact e3 _ _ l2) (by rw [upd_ne (ne_ins_lst (e3 _ _ k2) (e3 _ _ v2))]; exact e3 _ _ v2)
end Pp
end
section
set_option Elab.async false
set_option linter.all false
set_option maxRecDepth 100000
set_option maxHeartbeats 2000000
namespace Pp
open PySem PySem.Spec PyProof.Rows L2 Evl VwHand LamX NdefX
open HdSpec (Desk Stand Order inForce broughtDown forces limitsBut kindsOf worthsOf lastsOf inScope ownLoss standsAt couldsAt partedBy quarterOn Answer)
section
variable {K : PySem.W.Frag} {σ : L2.St} {H : Hp} {D : Ends} {tz : TS} {ta tp : TE} {x C dx pe : Addr} {fs : List (Str × V)} {f : Str} {y : V} {ys : List V}
/-- o.f = xs.pop() -/
theorem q_fldPop (hp : Ev tp σ H (.ref pe)) (hpe : H pe = some (.lst ys)) (hy : ys[ys.length - 1]? = some y) (hx : σ[0]? = some (some (.ref x))) (h : H x = some (.ins C dx fs)) (c : Cls K C) (n : NoAttr K C f) (hl : fs.length < 1000) (k : ∀ H1 H2, Ex H H1 → Ex (upd H1 pe (.lst ys.dropLast)) H2 → tz D σ (upd H2 x (.ins C dx (putF f y fs)))) : tSeq (sFld K (tVar 0) (tBM0 K "list" rPop tp) f) tz D σ H :=
  hp H (Ex.refl H) _ fun H1 e1 => ⟨.inl ⟨rfl, _, sq_of (e1 _ _ hpe)⟩, pe, ys, y, rfl, rfl, e1 _ _ hpe, hy, ⟨.ref x, hx, x, C, dx, fs, rfl, by rw [upd_ne (ne_ins_lst h hpe).symm]; exact e1 _ _ h, c, n, hl, k H1 _ e1 (Ex.refl _)⟩⟩
end
/-! ### undo, redo: a desk from the end of one list, the other list longer by one -/
theorem swap_lists {K : PySem.W.Frag} {C : Cs} (c : CC K C) {fp fq : Str} {H : Hp} {Q : VK} {m dxm d e u pe pu : Addr} {ps qs : List Addr} (hm : H m = some (.ins C.M dxm (mF d e u)))
    (hp : ∀ {H1 : Hp} {d1 : Addr}, H1 m = some (.ins C.M dxm (mF d1 e u)) → Ev (tFld K (tVar 0) fp) [some (.ref m)] H1 (.ref pe)) (hq : ∀ {H1 : Hp} {d1 : Addr}, H1 m = some (.ins C.M dxm (mF d1 e u)) → Ev (tFld K (tVar 0) fq) [some (.ref m)] H1 (.ref pu))
    (lp : H pe = some (.lst (ps.map V.ref))) (lq : H pu = some (.lst (qs.map V.ref))) (ne : pe ≠ pu) (few : qs.length ≤ 1000)
    (k1 : ps = [] → RetL [.int (-2)] H Q) (k2 : ∀ ps0 d0, ps = ps0 ++ [d0] → ∀ q H2, H q = none → H2 q = some (.lst [.int 0]) → H2 m = some (.ins C.M dxm (mF d0 e u)) → H2 pe = some (.lst (ps0.map V.ref)) → H2 pu = some (.lst ((qs ++ [d]).map V.ref)) → (∀ b o, b ≠ m → b ≠ pe → b ≠ pu → H b = some o → H2 b = some o) → (∀ b, H2 b = none → H b = none) → Q (.ref q) H2) :
    (tSeq (tIfS (tTest (tOp rEq (tCB (rLenS K) (tCons (tFld K (tVar 0) fp) tNil)) (tC (.int 0)))) (tRet (tLst (tCons (tUn (rU fun i => .int (-i)) (tC (.int 2))) tNil))) tNext) (tSeq (tDrop (tBM K "list" rAppend (tFld K (tVar 0) fq) (tCons (tFld K (tVar 0) "desk") tNil))) (tSeq (sFld K (tVar 0) (tBM0 K "list" rPop (tFld K (tVar 0) fp)) "desk") (tRet (tLst (tCons (tC (.int 0)) tNil)))))) { nx := fun _ H' => Q .non H', rt := Q } [some (.ref m)] H := by
  refine q_when (et_test (ev_eqN (m := ps.length) (n := 0) (ev_is (ev_len (hp hm) (sq_of lp)) (by rw [List.length_map])) ev_c)) (fun hb H1 e1 => ?_) (fun hb H1 e1 => ?_)
  · have hb' : ps = [] := List.eq_nil_of_length_eq_zero (of_decide_eq_true hb)
    exact s_retL el_neg fun q H2 hq e2 h2 => (k1 hb').go e1 hq e2 h2
  have hb' : ps.length ≠ 0 := of_decide_eq_false hb
  obtain ⟨ps0, d0, rfl⟩ : ∃ ps0 d0, ps = ps0 ++ [d0] := by
    have hne : ps ≠ [] := fun z => hb' (by rw [z]; rfl)
    exact ⟨ps.dropLast, ps.getLast hne, (List.dropLast_concat_getLast hne).symm⟩
  refine q_app (e1 _ _ lq) (hq (e1 _ _ hm)) (me_desk c.m (e1 _ _ hm) (ev_var rfl)) (by rw [List.length_map]; omega) fun H2 e2 => ?_
  have e12 := e1.trans e2
  have nmu : m ≠ pu := (ne_ins_lst hm lq).symm
  have nme : m ≠ pe := (ne_ins_lst hm lp).symm
  have m2 : (upd H2 pu (.lst (qs.map V.ref ++ [V.ref d]))) m = some (.ins C.M dxm (mF d e u)) := by rw [upd_ne nmu]; exact e12 _ _ hm
  have p2 : (upd H2 pu (.lst (qs.map V.ref ++ [V.ref d]))) pe = some (.lst ((ps0 ++ [d0]).map V.ref)) := by rw [upd_ne ne]; exact e12 _ _ lp
  have q2 : (upd H2 pu (.lst (qs.map V.ref ++ [V.ref d]))) pu = some (.lst ((qs ++ [d]).map V.ref)) := by rw [upd_same, List.map_append]; rfl
  have f2 : ∀ b o, b ≠ m → b ≠ pe → b ≠ pu → H b = some o → (upd H2 pu (.lst (qs.map V.ref ++ [V.ref d]))) b = some o := fun b o _ _ n3 h => by rw [upd_ne n3]; exact e12 _ _ h
  have n2 : ∀ b, (upd H2 pu (.lst (qs.map V.ref ++ [V.ref d]))) b = none → H b = none := fun b h => by
    by_cases z : b = pu
    · rw [z, upd_same] at h; cases h
    · rw [upd_ne z] at h; exact fresh_back e12 h
  generalize upd H2 pu (.lst (qs.map V.ref ++ [V.ref d])) = J2 at m2 p2 q2 f2 n2 ⊢
  refine q_fldPop (y := .ref d0) (hp m2) p2 ?_ rfl m2 c.m.cl c.m.desk (by show 3 < 1000; decide) fun H3 H4 e3 e4 => ?_
  · rw [List.length_map, List.length_append, List.map_append, List.getElem?_append_right (by rw [List.length_map]; exact Nat.le_refl _), List.length_map]
    simp
  have m3 : (upd H3 pe (.lst ((ps0 ++ [d0]).map V.ref).dropLast)) m = some (.ins C.M dxm (mF d e u)) := by rw [upd_ne nme]; exact e3 _ _ m2
  have p3 : (upd H3 pe (.lst ((ps0 ++ [d0]).map V.ref).dropLast)) pe = some (.lst (ps0.map V.ref)) := by
    rw [upd_same, List.map_append]
    show some (HO.lst (ps0.map V.ref ++ [V.ref d0]).dropLast) = _
    rw [List.dropLast_concat]
  have q3 : (upd H3 pe (.lst ((ps0 ++ [d0]).map V.ref).dropLast)) pu = some (.lst ((qs ++ [d]).map V.ref)) := by rw [upd_ne ne.symm]; exact e3 _ _ q2
  have f3 : ∀ b o, b ≠ m → b ≠ pe → b ≠ pu → H b = some o → (upd H3 pe (.lst ((ps0 ++ [d0]).map V.ref).dropLast)) b = some o := fun b o n1 n2' n3 h => by rw [upd_ne n2']; exact e3 _ _ (f2 b o n1 n2' n3 h)
  have n3 : ∀ b, (upd H3 pe (.lst ((ps0 ++ [d0]).map V.ref).dropLast)) b = none → H b = none := fun b h => by
    by_cases z : b = pe
    · rw [z, upd_same] at h; cases h
    · rw [upd_ne z] at h; exact n2 b (fresh_back e3 h)
  generalize upd H3 pe (.lst ((ps0 ++ [d0]).map V.ref).dropLast) = J3 at m3 p3 q3 f3 n3 e4
  rw [put_desk]
  refine s_retL el_zero fun q H5 hq5 e5 h5 => k2 ps0 d0 rfl q H5 ?_ h5 (e5 _ _ upd_same) (e5 _ _ (by rw [upd_ne nme.symm]; exact e4 _ _ p3)) (e5 _ _ (by rw [upd_ne nmu.symm]; exact e4 _ _ q3)) (fun b o n1 n2' n3' h => e5 _ _ (by rw [upd_ne n1]; exact e4 _ _ (f3 b o n1 n2' n3' h))) (fun b h => ?_)
  · by_cases z : q = m
    · rw [z, upd_same] at hq5; cases hq5
    · rw [upd_ne z] at hq5; exact n3 q (fresh_back e4 hq5)
  · have h' := fresh_back e5 h
    by_cases z : b = m
    · rw [z, upd_same] at h'; cases h'
    · rw [upd_ne z] at h'; exact n3 b (fresh_back e4 h')
def isTurn : Cl → Prop
  | .undo => True | .redo => True | .begin_ => True | _ => False
/-- what the three calls of the memory promise -/
def sp_turn (K : PySem.W.Frag) (C : Cs) (T : List (Addr × Str)) (call : Cl) : Sp := fun vs H Q _ => ∃ (S : Addr → Prop) (m t dxm d e u : Addr) (xs : List V) (es us : List Addr) (s : HdSpec.State), vs = [.ref m] ∧ MemAt K C T S H m t xs dxm d e u es us s ∧ RetM K C T S m t xs dxm (anV (HdSpec.step s call).2) (HdSpec.step s call).1 H Q
section
variable {K : PySem.W.Frag} {C : Cs} {T : List (Addr × Str)} {S : Addr → Prop} {H H1 H2 : Hp} {m t dxm d e u : Addr} {xs ans : List V} {es us : List Addr} {s s' : HdSpec.State} {Q : VK}
theorem MemAt.ext (M : MemAt K C T S H m t xs dxm d e u es us s) (x : Ex H H1) : MemAt K C T S H1 m t xs dxm d e u es us s :=
  ⟨fun b z q => M.dom b z (fresh_back x q), M.tab.ext x, M.sm, M.st, M.se, M.su, M.tm, M.te, M.tu, M.eu, x _ _ M.at_, x _ _ M.lt, x _ _ M.le, x _ _ M.lu, M.desk.mono (cut_ex x), M.ed.mono (cut_ex x), M.ud.mono (cut_ex x), M.few⟩
theorem MemAt.extN (M : MemAt K C T S H m t xs dxm d e u es us s) (x : ExN H H1) (tb : Tabs T H1) : MemAt K C T S H1 m t xs dxm d e u es us s := by
  have cx : Ex (cut S H) (cut S H1) := fun b o hb => by
    obtain ⟨h1, h2, h3⟩ := cut_iff.mp hb
    exact cut_iff.mpr ⟨h1, x.ext b o h2 h3, h3⟩
  exact ⟨fun b z q => M.dom b z (x.nn b q), tb, M.sm, M.st, M.se, M.su, M.tm, M.te, M.tu, M.eu, x.ins M.at_, x.lst M.lt, x.lst M.le, x.lst M.lu, M.desk.mono cx, M.ed.mono cx, M.ud.mono cx, M.few⟩
/-- nothing has changed but that an answer is there -/
theorem RetM.same (k : RetM K C T S m t xs dxm ans s H Q) (M : MemAt K C T S H m t xs dxm d e u es us s) (x : ExN H H2) (tb : Tabs T H2) {q : Addr} (hq : H q = none) (h : H2 q = some (.lst ans)) : Q (.ref q) H2 :=
  k q S d e u es us H2 hq h (fun z => M.dom q z hq) (fun b o hb => by
    obtain ⟨h1, h2, h3⟩ := cut_iff.mp hb
    exact cut_iff.mpr ⟨h1, x.ext b o h2 h3, h3⟩) (M.extN x tb)
theorem tabs3 (tb : Tabs T H) (hm : H m = some (.ins C.M dxm (mF d e u))) {pe pu : Addr} {ys zs : List V} (hp : H pe = some (.lst ys)) (hq : H pu = some (.lst zs)) (f : ∀ b o, b ≠ m → b ≠ pe → b ≠ pu → H b = some o → H2 b = some o) : Tabs T H2 := fun p hp' => by
  obtain ⟨ps, h1, h2, h3⟩ := tb p hp'
  refine ⟨ps, f _ _ (ne_of h1 hm (fun z => nomatch z)) (ne_of h1 hp (fun z => nomatch z)) (ne_of h1 hq (fun z => nomatch z)) h1, h2, fun pos cv hc => ?_⟩
  obtain ⟨c, e1, e2⟩ := h3 pos cv hc
  refine ⟨c, e1, f _ _ (ne_of e2 hm (fun z => by unfold CodeO at z; cases z)) (ne_of e2 hp (fun z => by unfold CodeO at z; cases z)) (ne_of e2 hq (fun z => by unfold CodeO at z; cases z)) e2⟩
theorem cut3 {pe pu : Addr} (sm : S m) (sp : S pe) (sq : S pu) (f : ∀ b o, b ≠ m → b ≠ pe → b ≠ pu → H b = some o → H2 b = some o) : Ex (cut S H) (cut S H2) := fun b o hb => by
  obtain ⟨h1, h2, h3⟩ := cut_iff.mp hb
  exact cut_iff.mpr ⟨h1, f b o (fun z => h1 (z ▸ sm)) (fun z => h1 (z ▸ sp)) (fun z => h1 (z ▸ sq)) h2, h3⟩
end
theorem pure_tell_undo {K : PySem.W.Frag} {C : Cs} {T : List (Addr × Str)} (c : CC K C) {vs : List V} {H : Hp} {Q : VK} {E : XK} (h : sp_turn K C T .undo vs H Q E) : t_tell_undo K { nx := fun _ H' => Q .non H', rt := Q } (L2.start ["memory"] vs) H := by
  obtain ⟨S, m, t, dxm, d, e, u, xs, es, us, s, rfl, M, k⟩ := h
  have few := M.few
  have hul : us.length = s.redone.length := by rw [M.ud.len, List.length_reverse]
  refine swap_lists c M.at_ (fun h => me_earlier c.m h (ev_var rfl)) (fun h => me_undone c.m h (ev_var rfl)) M.le M.lu M.eu (by omega) (fun hnil => ?_) (fun ps0 d0 hps q H2 hq hq2 m2 p2 q2 f2 n2 => ?_)
  · have hz : s.undone = [] := by
      have := M.ed.len
      rw [hnil, List.length_reverse] at this
      exact List.eq_nil_of_length_eq_zero this.symm
    have est : HdSpec.step s .undo = (s, HdSpec.says (-2)) := by unfold HdSpec.step; rw [hz]
    rw [est] at k
    exact fun q H2 hq e2 h2 => k.same M (.of e2) (M.tab.ext e2) hq h2
  · have hl := M.ed.len
    rw [hps, List.length_append, List.length_reverse] at hl
    obtain ⟨dk, rest, hd⟩ : ∃ dk rest, s.undone = dk :: rest := by
      cases q : s.undone with
      | nil => rw [q] at hl; simp at hl
      | cons a r => exact ⟨a, r, rfl⟩
    have est : HdSpec.step s .undo = (⟨dk, rest, s.desk :: s.redone⟩, HdSpec.says 0) := by unfold HdSpec.step; rw [hd]
    rw [est] at k
    have hed := M.ed
    rw [hd, List.reverse_cons, hps] at hed
    obtain ⟨as0, a0, ea, D0, d0'⟩ := hed.last
    obtain ⟨rfl, ea2⟩ := List.append_inj' ea rfl
    have : d0 = a0 := by cases ea2; rfl
    subst this
    have cx := cut3 M.sm M.se M.su f2
    refine k q S d0 e u ps0 (us ++ [d]) H2 hq hq2 (fun z => M.dom q z hq) cx ⟨fun b z q' => M.dom b z (n2 b q'), tabs3 M.tab M.at_ M.le M.lu f2, M.sm, M.st, M.se, M.su, M.tm, M.te, M.tu, M.eu, m2, f2 _ _ M.tm M.te M.tu M.lt, p2, q2, d0'.mono cx, D0.mono cx, ?_, ?_⟩
    · show DesksAt K C _ _ (s.desk :: s.redone).reverse
      rw [List.reverse_cons]
      exact (M.ud.mono cx).snoc (M.desk.mono cx)
    · show rest.length + (s.desk :: s.redone).length ≤ 16
      rw [hd] at few
      simp only [List.length_cons] at few ⊢; omega
theorem pure_tell_redo {K : PySem.W.Frag} {C : Cs} {T : List (Addr × Str)} (c : CC K C) {vs : List V} {H : Hp} {Q : VK} {E : XK} (h : sp_turn K C T .redo vs H Q E) : t_tell_redo K { nx := fun _ H' => Q .non H', rt := Q } (L2.start ["memory"] vs) H := by
  obtain ⟨S, m, t, dxm, d, e, u, xs, es, us, s, rfl, M, k⟩ := h
  have few := M.few
  have hel : es.length = s.undone.length := by rw [M.ed.len, List.length_reverse]
  refine swap_lists c M.at_ (fun h => me_undone c.m h (ev_var rfl)) (fun h => me_earlier c.m h (ev_var rfl)) M.lu M.le M.eu.symm (by omega) (fun hnil => ?_) (fun ps0 d0 hps q H2 hq hq2 m2 p2 q2 f2 n2 => ?_)
  · have hz : s.redone = [] := by
      have := M.ud.len
      rw [hnil, List.length_reverse] at this
      exact List.eq_nil_of_length_eq_zero this.symm
    have est : HdSpec.step s .redo = (s, HdSpec.says (-2)) := by unfold HdSpec.step; rw [hz]
    rw [est] at k
    exact fun q H2 hq e2 h2 => k.same M (.of e2) (M.tab.ext e2) hq h2
  · have hl := M.ud.len
    rw [hps, List.length_append, List.length_reverse] at hl
    obtain ⟨dk, rest, hd⟩ : ∃ dk rest, s.redone = dk :: rest := by
      cases q : s.redone with
      | nil => rw [q] at hl; simp at hl
      | cons a r => exact ⟨a, r, rfl⟩
    rw [hd] at few
    simp only [List.length_cons] at few
    have est : HdSpec.step s .redo = (⟨dk, s.desk :: s.undone, rest⟩, HdSpec.says 0) := by
      unfold HdSpec.step; rw [hd]
      show ((⟨dk, (s.desk :: s.undone).take 16, rest⟩ : HdSpec.State), HdSpec.says 0) = _
      rw [List.take_of_length_le (by simp only [List.length_cons]; omega)]
    rw [est] at k
    have hud := M.ud
    rw [hd, List.reverse_cons, hps] at hud
    obtain ⟨as0, a0, ea, D0, d0'⟩ := hud.last
    obtain ⟨rfl, ea2⟩ := List.append_inj' ea rfl
    have : d0 = a0 := by cases ea2; rfl
    subst this
    have f2' : ∀ b o, b ≠ m → b ≠ e → b ≠ u → H b = some o → H2 b = some o := fun b o a1 a2 a3 h => f2 b o a1 a3 a2 h
    have cx := cut3 M.sm M.se M.su f2'
    refine k q S d0 e u (es ++ [d]) ps0 H2 hq hq2 (fun z => M.dom q z hq) cx ⟨fun b z q' => M.dom b z (n2 b q'), tabs3 M.tab M.at_ M.le M.lu f2', M.sm, M.st, M.se, M.su, M.tm, M.te, M.tu, M.eu, m2, f2' _ _ M.tm M.te M.tu M.lt, q2, p2, d0'.mono cx, ?_, D0.mono cx, ?_⟩
    · show DesksAt K C _ _ (s.desk :: s.undone).reverse
      rw [List.reverse_cons]
      exact (M.ed.mono cx).snoc (M.desk.mono cx)
    · show (s.desk :: s.undone).length + rest.length ≤ 16
      simp only [List.length_cons]; omega
end Pp
end
section
set_option Elab.async false
set_option linter.all false
set_option maxRecDepth 100000
set_option maxHeartbeats 2000000
namespace Pp
open PySem PySem.Spec PyProof.Rows L2 Evl VwHand LamX NdefX
open HdSpec (Desk Stand Order inForce broughtDown forces limitsBut kindsOf worthsOf lastsOf inScope ownLoss standsAt couldsAt partedBy quarterOn Answer)
/-! ### begin -/
theorem Tabs.ch {T : List (Addr × Str)} {H H' : Hp} {x C dx : Addr} {fs : List (Str × V)} (t : Tabs T H) (hx : H x = some (.ins C dx fs)) (c : Ch x H H') : Tabs T H' := fun p hp => by
  obtain ⟨ps, h1, h2, h3⟩ := t p hp
  refine ⟨ps, c.keep _ _ (ne_of h1 hx (fun z => nomatch z)) h1, h2, fun pos cv hc => ?_⟩
  obtain ⟨q, e1, e2⟩ := h3 pos cv hc
  exact ⟨q, e1, c.keep _ _ (ne_of e2 hx (fun z => by unfold CodeO at z; cases z)) e2⟩
theorem pure_tell_begin {K : PySem.W.Frag} {C : Cs} {T : List (Addr × Str)} (c : CC K C) {vs : List V} {H : Hp} {Q : VK} {E : XK} (h : sp_turn K C T .begin_ vs H Q E) : t_tell_begin K C.D (sp_Desk K C) { nx := fun _ H' => Q .non H', rt := Q } (L2.start ["memory"] vs) H := by
  obtain ⟨S, m, t, dxm, d, e, u, xs, es, us, s, rfl, M, k⟩ := h
  refine q_fldP freshD_mono ep_deskS (ev_var rfl) M.at_ c.m.cl c.m.desk (by show 3 < 1000; decide) fun d' H1 hd' e1 hD => ?_
  rw [put_desk]
  have c1 := ((Ch.refl m H).then e1).put (o := .ins C.M dxm (mF d' e u)) (e1 _ _ M.at_)
  have k1 : (upd H1 m (.ins C.M dxm (mF d' e u))) m = some (.ins C.M dxm (mF d' e u)) := upd_same
  have g1 : Ch m H1 (upd H1 m (.ins C.M dxm (mF d' e u))) := (Ch.refl m H1).put (e1 _ _ M.at_)
  generalize upd H1 m (.ins C.M dxm (mF d' e u)) = J1 at c1 k1 g1 ⊢
  refine q_fldL (xs := []) (el_lst ea_nil (by decide)) (ev_var rfl) k1 c.m.cl c.m.earlier (by show 3 < 1000; decide) fun e' H2 he' e2 h2 => ?_
  rw [put_earlier]
  have c2 := (c1.then e2).put (o := .ins C.M dxm (mF d' e' u)) (e2 _ _ k1)
  have k2 : (upd H2 m (.ins C.M dxm (mF d' e' u))) m = some (.ins C.M dxm (mF d' e' u)) := upd_same
  have g2 : Ch m J1 (upd H2 m (.ins C.M dxm (mF d' e' u))) := ((Ch.refl m J1).then e2).put (e2 _ _ k1)
  have l2 : (upd H2 m (.ins C.M dxm (mF d' e' u))) e' = some (.lst []) := by rw [upd_ne (ne_ins_lst (e2 _ _ k1) h2)]; exact h2
  generalize upd H2 m (.ins C.M dxm (mF d' e' u)) = J2 at c2 k2 g2 l2 ⊢
  refine q_fldL (xs := []) (el_lst ea_nil (by decide)) (ev_var rfl) k2 c.m.cl c.m.undone (by show 3 < 1000; decide) fun u' H3 hu' e3 h3 => ?_
  rw [put_undone]
  have c3 := (c2.then e3).put (o := .ins C.M dxm (mF d' e' u')) (e3 _ _ k2)
  have k3 : (upd H3 m (.ins C.M dxm (mF d' e' u'))) m = some (.ins C.M dxm (mF d' e' u')) := upd_same
  have g3 : Ch m J2 (upd H3 m (.ins C.M dxm (mF d' e' u'))) := ((Ch.refl m J2).then e3).put (e3 _ _ k2)
  have l3 : (upd H3 m (.ins C.M dxm (mF d' e' u'))) u' = some (.lst []) := by rw [upd_ne (ne_ins_lst (e3 _ _ k2) h3)]; exact h3
  generalize upd H3 m (.ins C.M dxm (mF d' e' u')) = J3 at c3 k3 g3 l3 ⊢
  have ne' : e' ≠ m := ne_ins_lst k2 l2
  have l3e := g3.keep _ _ ne' l2
  have eu' : e' ≠ u' := ne_of_none l2 hu'
  have he0 : H e' = none := c1.nn _ he'
  have hu0 : H u' = none := c2.nn _ hu'
  refine s_retL el_zero fun q H4 hq e4 h4 => ?_
  have cx : Ex (cut S H) (cut (fun b => S b ∨ b = e' ∨ b = u') H4) := fun b o hb => by
    obtain ⟨h1, h2', h3'⟩ := cut_iff.mp hb
    refine cut_iff.mpr ⟨fun z => ?_, e4 _ _ (c3.keep b o (fun z => h1 (z ▸ M.sm)) h2'), h3'⟩
    rcases z with z | z | z
    · exact h1 z
    · rw [z, he0] at h2'; cases h2'
    · rw [z, hu0] at h2'; cases h2'
  have cd : Ex (cut (fun b => H b ≠ none) H1) (cut (fun b => S b ∨ b = e' ∨ b = u') H4) := fun b o hb => by
    obtain ⟨h1, h2', h3'⟩ := cut_iff.mp hb
    have nbm : b ≠ m := fun z => h1 (by rw [z]; exact M.dom m M.sm)
    have j1 := g1.keep b o nbm h2'
    have j2 := g2.keep b o nbm j1
    refine cut_iff.mpr ⟨fun z => ?_, e4 _ _ (g3.keep b o nbm j2), h3'⟩
    rcases z with z | z | z
    · exact h1 (M.dom b z)
    · rw [z, he'] at j1; cases j1
    · rw [z, hu'] at j2; cases j2
  have nq : ¬ (S q ∨ q = e' ∨ q = u') := fun z => by
    rcases z with z | z | z
    · exact M.dom q z (c3.nn _ hq)
    · rw [z, l3e] at hq; cases hq
    · rw [z, l3] at hq; cases hq
  refine k q (fun b => S b ∨ b = e' ∨ b = u') d' e' u' [] [] H4 (c3.nn _ hq) h4 nq cx ⟨fun b z q' => ?_, LamX.Tabs.ext (Tabs.ch M.tab M.at_ c3) e4, .inl M.sm, .inl M.st, .inr (.inl rfl), .inr (.inr rfl), M.tm, ?_, ?_, eu', e4 _ _ k3, e4 _ _ (c3.keep _ _ M.tm M.lt), e4 _ _ l3e, e4 _ _ l3, DeskAt.mono hD cd, ⟨rfl, fun i a d' h => (by simp at h)⟩, ⟨rfl, fun i a d' h => (by simp at h)⟩, by show 0 + 0 ≤ 16; decide⟩
  · rcases z with z | z | z
    · exact M.dom b z (c3.nn _ (fresh_back e4 q'))
    · rw [z, e4 _ _ l3e] at q'; cases q'
    · rw [z, e4 _ _ l3] at q'; cases q'
  · exact ne_of_none M.lt he0
  · exact ne_of_none M.lt hu0
/-! ### answer_turn -/
theorem RetM.ext {K : PySem.W.Frag} {C : Cs} {T : List (Addr × Str)} {S : Addr → Prop} {H H1 : Hp} {m t dxm : Addr} {xs ans : List V} {s' : HdSpec.State} {Q : VK} (k : RetM K C T S m t xs dxm ans s' H Q) (x : Ex H H1) : RetM K C T S m t xs dxm ans s' H1 Q := fun q S' d' e' u' es' us' H2 hq h nq cx M => k q S' d' e' u' es' us' H2 (fresh_back x hq) h nq ((cut_ex x).trans cx) M
def sp_answer_turn (K : PySem.W.Frag) (C : Cs) (T : List (Addr × Str)) : Sp := fun vs H Q _ => ∃ (S : Addr → Prop) (m t dxm d e u : Addr) (xs : List V) (es us : List Addr) (s : HdSpec.State) (c : Cl), isTurn c ∧ vs = [.ref m, nv (codeN c)] ∧ MemAt K C T S H m t xs dxm d e u es us s ∧ RetM K C T S m t xs dxm (anV (HdSpec.step s c).2) (HdSpec.step s c).1 H Q
theorem pure_answer_turn {K : PySem.W.Frag} {C : Cs} {T : List (Addr × Str)} {vs : List V} {H : Hp} {Q : VK} {E : XK} (h : sp_answer_turn K C T vs H Q E) : t_answer_turn K (sp_turn K C T .begin_) (sp_turn K C T .redo) (sp_turn K C T .undo) { nx := fun _ H' => Q .non H', rt := Q } (L2.start ["memory", "call"] vs) H := by
  obtain ⟨S, m, t, dxm, d, e, u, xs, es, us, s, c, hc, rfl, M, k⟩ := h
  cases c <;> try exact hc.elim
  case undo =>
    refine q_hit (k := 20) (n := 20) rfl (by decide) fun H1 e1 => ?_
    exact s_retC (ea_cons (ev_var rfl) ea_nil) fun H9 e9 => ⟨S, m, t, dxm, d, e, u, xs, es, us, s, rfl, M.ext (e1.trans e9), k.ext (e1.trans e9)⟩
  case redo =>
    refine q_skip (k := 20) (n := 21) rfl (by decide) fun H1 e1 => ?_
    refine q_hit (k := 21) (n := 21) rfl (by decide) fun H2 e2 => ?_
    exact s_retC (ea_cons (ev_var rfl) ea_nil) fun H9 e9 => ⟨S, m, t, dxm, d, e, u, xs, es, us, s, rfl, M.ext ((e1.trans e2).trans e9), k.ext ((e1.trans e2).trans e9)⟩
  case begin_ =>
    refine q_skip (k := 20) (n := 22) rfl (by decide) fun H1 e1 => ?_
    refine q_skip (k := 21) (n := 22) rfl (by decide) fun H2 e2 => ?_
    exact s_retC (ea_cons (ev_var rfl) ea_nil) fun H9 e9 => ⟨S, m, t, dxm, d, e, u, xs, es, us, s, rfl, M.ext ((e1.trans e2).trans e9), k.ext ((e1.trans e2).trans e9)⟩
/-! ### answer_remembered -/
section
variable {K : PySem.W.Frag} {σ : L2.St} {H : Hp} {D : Ends} {tz : TS} {tg : TA} {sp : Sp} {vs : List V} {E : XK} {i : Nat}
theorem q_asgC (h : EvA tg σ H vs) (k : ∀ H1, Ex H H1 → sp vs H1 (fun v H2 => tz D (σ.set i (some v)) H2) E) : tSeq (tAsg (tCall sp [] E tg) (gName i)) tz D σ H := h H (Ex.refl H) _ fun H1 e => by
  rw [List.append_nil]; exact k H1 e
theorem s_dropV (h : EvA tg σ H vs) (k : ∀ H1, Ex H H1 → sp vs H1 (fun _ H2 => D.nx σ H2) E) : tDrop (tCall sp [] E tg) D σ H := h H (Ex.refl H) _ fun H1 e => by
  rw [List.append_nil]; exact k H1 e
end
def sp_answer_remembered (K : PySem.W.Frag) (C : Cs) (T : List (Addr × Str)) : Sp := fun vs H Q _ => ∃ (S : Addr → Prop) (m t dxm d e u nm w : Addr) (xs : List V) (es us : List Addr) (s : HdSpec.State) (c : Cl), isChg c ∧ CallOk c ∧ vs = [.ref m, nv (codeN c), .ref nm, .ref w] ∧ MemAt K C T S H m t xs dxm d e u es us s ∧ SqL K (cut S H) nm (nvs (numsN c)) ∧ RowsAt K (cut S H) w (rowsN c) ∧ RetM K C T S m t xs dxm (anV (HdSpec.step s c).2) (HdSpec.step s c).1 H Q
theorem rev_take (dk : Desk) (l : List Desk) : ((dk :: l).take HdSpec.UNDOS).reverse = (l.reverse ++ [dk]).drop (l.length + 1 - 16) := by
  rw [List.reverse_take, List.reverse_cons]; rfl
theorem pure_answer_remembered {K : PySem.W.Frag} {C : Cs} {T : List (Addr × Str)} (c : CC K C) {vs : List V} {H : Hp} {Q : VK} {E : XK} (h : sp_answer_remembered K C T vs H Q E) : t_answer_remembered K (sp_answer_change K C T) (sp_copy_of K C) (sp_take_over K C) { nx := fun _ H' => Q .non H', rt := Q } (L2.start ["memory", "call", "numbers", "rows", "changed", "answer"] vs) H := by
  obtain ⟨S, m, t, dxm, d, e, u, nm, w, xs, es, us, s, cl, hcl, hcok, rfl, M, hn, hw, k⟩ := h
  rw [step_chg s cl hcl] at k
  obtain ⟨⟨dx, p, hd, I⟩⟩ := id M.desk
  have hdH := cut_sub S H _ _ hd
  have few := M.few
  have hel : es.length = s.undone.length := by rw [M.ed.len, List.length_reverse]
  refine q_asgC (ea_cons (me_desk c.m M.at_ (ev_var rfl)) ea_nil) fun H1 e1 => ⟨d, dx, p, s.desk, rfl, e1 _ _ hdH, fun b dx2 H2 hb e2 hb2 => ?_⟩
  have e12 := e1.trans e2
  have hb0 : H b = none := fresh_back e1 hb
  have nSb : ¬ S b := fun z => M.dom b z hb0
  -- what is being changed is b
  have grow : ∀ {J : Hp}, ChN b H2 J → Ex (cut S H) (cut (fun z => S z ∨ z = b) J) := fun {J} hc z o hz => by
    obtain ⟨h1, h2, h3⟩ := cut_iff.mp hz
    have nzb : z ≠ b := ne_of_none h2 hb0
    exact cut_iff.mpr ⟨fun q => q.elim h1 nzb, hc.keep z o nzb (e12 _ _ h2) h3, h3⟩
  have g0 := grow (ChN.refl b H2)
  have MM : DeskM K C T (fun z => S z ∨ z = b) H2 b dx2 p s.desk := by
    refine ⟨.inr rfl, fun z hz q => ?_, hb2, I.mono g0, M.tab.ext e12⟩
    rcases hz with hz | hz
    · exact M.dom z hz (fresh_back e12 q)
    · rw [hz, hb2] at q; cases q
  refine q_asgC (ea_cons (ev_var rfl) (ea_cons (ev_var rfl) (ea_cons (ev_var rfl) (ea_cons (ev_var rfl) ea_nil)))) fun H3 e3 => ⟨_, b, dx2, p, s.desk, nm, w, cl, hcl, hcok, rfl, MM.ext e3, ex_l ((g0.trans (cut_sub _ _)).trans e3) hn, hw.mono (g0.trans (cut_ex e3)), fun q p' H4 hq ch t4 hq4 hb4 I4 => ?_⟩
  have ch24 : ChN b H2 H4 := (ChN.ex e3).trans ch
  have keepH : ∀ z o, H z = some o → (∀ ps, o ≠ .tbl ps) → H4 z = some o := fun z o hz n => ch24.keep z o (ne_of_none hz hb0) (e12 _ _ hz) n
  have nnH : ∀ z, H4 z = none → H z = none := fun z hz => fresh_back e12 (ch24.nn z hz)
  have xN : ExN H H4 := ⟨keepH, nnH⟩
  have hq0 : H q = none := fresh_back e12 (fresh_back e3 hq)
  refine q_if (b := decide (0 ≤ (anC s.desk cl).ret)) (et_test (ev_geI (i := (anC s.desk cl).ret) (j := 0) (ev_ixL (n := 0) (ev_var rfl) ev_c (sq_of hq4) (anV_first _)) ev_c)) (fun hb' H5 e5 => ?_) (fun hb' H5 e5 => ?_)
  · have hge : 0 ≤ (anC s.desk cl).ret := of_decide_eq_true hb'
    rw [if_pos hge] at k
    refine s_dropV (ea_cons (ev_var rfl) (ea_cons (ev_var rfl) ea_nil)) fun H6 e6 => ?_
    have e56 := e5.trans e6
    have m6 := e56 _ _ (xN.ins M.at_)
    refine ⟨m, dxm, d, e, u, b, es, rfl, m6, e56 _ _ (xN.lst M.le), by omega, fun e' u' H7 he' hu' neu ch7 m7 l7 v7 => ?_⟩
    refine s_ret (v := .ref q) (ev_var rfl) fun H8 e8 => ?_
    have he4 := fresh_back e56 he'
    have hu4 := fresh_back e56 hu'
    have he0 := nnH _ he4
    have hu0 := nnH _ hu4
    have to8 : ∀ z o, z ≠ m → H4 z = some o → H8 z = some o := fun z o nz hz => e8 _ _ (ch7.keep z o nz (e56 _ _ hz))
    have cx : Ex (cut S H) (cut (fun z => S z ∨ z = e' ∨ z = u') H8) := fun z o hz => by
      obtain ⟨h1, h2, h3⟩ := cut_iff.mp hz
      refine cut_iff.mpr ⟨fun y => ?_, to8 z o (fun y => h1 (y ▸ M.sm)) (keepH z o h2 h3), h3⟩
      rcases y with y | y | y
      · exact h1 y
      · rw [y, he0] at h2; cases h2
      · rw [y, hu0] at h2; cases h2
    have cd : Ex (cut (fun z => S z ∨ z = b) H4) (cut (fun z => S z ∨ z = e' ∨ z = u') H8) := fun z o hz => by
      obtain ⟨h1, h2, h3⟩ := cut_iff.mp hz
      refine cut_iff.mpr ⟨fun y => ?_, to8 z o (fun y => h1 (.inl (y ▸ M.sm))) h2, h3⟩
      rcases y with y | y | y
      · exact h1 (.inl y)
      · rw [y, he4] at h2; cases h2
      · rw [y, hu4] at h2; cases h2
    have nqm : q ≠ m := fun z => by rw [z, M.at_] at hq0; cases hq0
    have nbm : b ≠ m := fun z => by rw [z, M.at_] at hb0; cases hb0
    have nb' : ¬ (S b ∨ b = e' ∨ b = u') := fun y => by
      rcases y with y | y | y
      · exact nSb y
      · rw [← y, hb4] at he4; cases he4
      · rw [← y, hb4] at hu4; cases hu4
    refine k q (fun z => S z ∨ z = e' ∨ z = u') b e' u' ((es ++ [d]).drop (es.length + 1 - 16)) [] H8 hq0 (to8 _ _ nqm hq4) (fun y => ?_) cx ⟨fun z hz q' => ?_, LamX.Tabs.ext (Tabs.ch (t4.ext e56) m6 ch7) e8, .inl M.sm, .inl M.st, .inr (.inl rfl), .inr (.inr rfl), M.tm, ne_of_none M.lt he0, ne_of_none M.lt hu0, neu, e8 _ _ m7, to8 _ _ M.tm (xN.lst M.lt), e8 _ _ l7, e8 _ _ v7, ⟨⟨dx2, p', cut_ins nb' (to8 _ _ nbm hb4), I4.mono cd⟩⟩, ?_, ⟨rfl, fun i a d' h => (by simp at h)⟩, ?_⟩
    · rcases y with y | y | y
      · exact M.dom q y hq0
      · rw [← y, hq4] at he4; cases he4
      · rw [← y, hq4] at hu4; cases hu4
    · rcases hz with hz | hz | hz
      · exact M.dom z hz (nnH _ (fresh_back e56 (ch7.nn _ (fresh_back e8 q'))))
      · rw [hz, e8 _ _ l7] at q'; cases q'
      · rw [hz, e8 _ _ v7] at q'; cases q'
    · show DesksAt K C _ _ ((s.desk :: s.undone).take HdSpec.UNDOS).reverse
      rw [rev_take, ← hel]
      exact ((M.ed.mono cx).snoc (M.desk.mono cx)).drop _
    · show ((s.desk :: s.undone).take HdSpec.UNDOS).length + 0 ≤ 16
      rw [List.length_take]; unfold HdSpec.UNDOS; omega
  · have hlt : ¬ 0 ≤ (anC s.desk cl).ret := of_decide_eq_false hb'
    rw [if_neg hlt] at k
    refine s_ret (v := .ref q) (ev_var rfl) fun H8 e8 => ?_
    have e58 := e5.trans e8
    exact k.same M (xN.then e58) (t4.ext e58) hq0 (e58 _ _ hq4)
end Pp
end
section
set_option Elab.async false
set_option linter.all false
set_option maxRecDepth 100000
set_option maxHeartbeats 2000000
namespace Pp
open PySem PySem.Spec PyProof.Rows L2 Evl VwHand LamX NdefX
open HdSpec (Desk Stand Order inForce broughtDown forces limitsBut kindsOf worthsOf lastsOf inScope ownLoss standsAt couldsAt partedBy quarterOn Answer)
/-! ### answer_call -/
def recV : List V := [.int 13, .int 14, .int 17, .int 18, .int 19]
theorem kinds_of (c : Cl) : (isChg c ∧ codeN c ≤ 6) ∨ (isTurn c ∧ ¬ codeN c ≤ 6 ∧ 20 ≤ codeN c) ∨ (isRec c ∧ ¬ codeN c ≤ 6 ∧ ¬ 20 ≤ codeN c ∧ inV (nv (codeN c)) recV = true) ∨ (isAsk c ∧ ¬ codeN c ≤ 6 ∧ ¬ 20 ≤ codeN c ∧ inV (nv (codeN c)) recV = false) := by
  cases c
  all_goals first
    | exact .inl ⟨trivial, Nat.le_of_ble_eq_true rfl⟩
    | exact .inr (.inl ⟨trivial, Nat.not_le_of_gt (Nat.le_of_ble_eq_true rfl), Nat.le_of_ble_eq_true rfl⟩)
    | exact .inr (.inr (.inl ⟨trivial, Nat.not_le_of_gt (Nat.le_of_ble_eq_true rfl), Nat.not_le_of_gt (Nat.le_of_ble_eq_true rfl), rfl⟩))
    | exact .inr (.inr (.inr ⟨trivial, Nat.not_le_of_gt (Nat.le_of_ble_eq_true rfl), Nat.not_le_of_gt (Nat.le_of_ble_eq_true rfl), rfl⟩))
def sp_answer_call (K : PySem.W.Frag) (C : Cs) (T : List (Addr × Str)) : Sp := fun vs H Q _ => ∃ (S : Addr → Prop) (m t dxm d e u nm w : Addr) (xs : List V) (es us : List Addr) (s : HdSpec.State) (c : Cl), CallOk c ∧ vs = [.ref m, nv (codeN c), .ref nm, .ref w] ∧ MemAt K C T S H m t xs dxm d e u es us s ∧ SqL K (cut S H) nm (nvs (numsN c)) ∧ RowsAt K (cut S H) w (rowsN c) ∧ RetM K C T S m t xs dxm (anV (HdSpec.step s c).2) (HdSpec.step s c).1 H Q
theorem pure_answer_call {K : PySem.W.Frag} {C : Cs} {T : List (Addr × Str)} (c : CC K C) {vs : List V} {H : Hp} {Q : VK} {E : XK} (h : sp_answer_call K C T vs H Q E) : t_answer_call K (sp_answer_question K C T) (sp_answer_record K C) (sp_answer_remembered K C T) (sp_answer_turn K C T) { nx := fun _ H' => Q .non H', rt := Q } (L2.start ["memory", "call", "numbers", "rows"] vs) H := by
  obtain ⟨S, m, t, dxm, d, e, u, nm, w, xs, es, us, s, cl, hok, rfl, M, hn, hw, k⟩ := h
  have hd : ∀ {H1}, Ex H H1 → DeskAt K C H1 d s.desk := fun x => M.desk.mono ((cut_sub S H).trans x)
  rcases kinds_of cl with ⟨h1, h2⟩ | ⟨h1, h2, h3⟩ | ⟨h1, h2, h3, h4⟩ | ⟨h1, h2, h3, h4⟩
  · refine q_when (et_test (ev_leN (n := 6) (ev_var rfl) ev_c)) (fun hb H1 e1 => ?_) (fun hb => absurd h2 (of_decide_eq_false hb))
    exact s_retC (ea_cons (ev_var rfl) (ea_cons (ev_var rfl) (ea_cons (ev_var rfl) (ea_cons (ev_var rfl) ea_nil)))) fun H9 e9 => ⟨S, m, t, dxm, d, e, u, nm, w, xs, es, us, s, cl, h1, hok, rfl, M.ext (e1.trans e9), ex_l (cut_ex (e1.trans e9)) hn, hw.mono (cut_ex (e1.trans e9)), k.ext (e1.trans e9)⟩
  · refine q_when (et_test (ev_leN (n := 6) (ev_var rfl) ev_c)) (fun hb => absurd (of_decide_eq_true hb) h2) (fun hb H1 e1 => ?_)
    refine q_when (et_test (ev_geN (n := 20) (ev_var rfl) ev_c)) (fun hb2 H2 e2 => ?_) (fun hb2 => absurd h3 (of_decide_eq_false hb2))
    exact s_retC (ea_cons (ev_var rfl) (ea_cons (ev_var rfl) ea_nil)) fun H9 e9 => ⟨S, m, t, dxm, d, e, u, xs, es, us, s, cl, h1, rfl, M.ext ((e1.trans e2).trans e9), k.ext ((e1.trans e2).trans e9)⟩
  · rw [step_ask s cl (.inr h1)] at k
    refine q_when (et_test (ev_leN (n := 6) (ev_var rfl) ev_c)) (fun hb => absurd (of_decide_eq_true hb) h2) (fun hb H1 e1 => ?_)
    refine q_when (et_test (ev_geN (n := 20) (ev_var rfl) ev_c)) (fun hb2 => absurd (of_decide_eq_true hb2) h3) (fun hb2 H2 e2 => ?_)
    have e12 := e1.trans e2
    refine q_when (b := true) (et_is (et_test (ev_inU (xs := recV) (ev_var rfl) (eu_tup (ea_cons ev_c (ea_cons ev_c (ea_cons ev_c (ea_cons ev_c (ea_cons ev_c ea_nil))))) (by show 5 ≤ 100000; decide)) rfl rfl)) h4) (fun _ H3 e3 => ?_) (fun z => nomatch z)
    have e13 := e12.trans e3
    exact s_retL (el_call (ea_cons (me_desk c.m (e13 _ _ M.at_) (ev_var rfl)) (ea_cons (ev_var rfl) (ea_cons (ev_var rfl) ea_nil))) (fun H9 e9 Q2 q _ => ⟨d, nm, s.desk, cl, h1, hok, rfl, hd (e13.trans e9), ex_l ((cut_sub S H).trans (e13.trans e9)) hn, q⟩)) fun q H9 hq e9 h9 => k.same M (.of (e13.trans e9)) (M.tab.ext (e13.trans e9)) (fresh_back e13 hq) h9
  · rw [step_ask s cl (.inl h1)] at k
    refine q_when (et_test (ev_leN (n := 6) (ev_var rfl) ev_c)) (fun hb => absurd (of_decide_eq_true hb) h2) (fun hb H1 e1 => ?_)
    refine q_when (et_test (ev_geN (n := 20) (ev_var rfl) ev_c)) (fun hb2 => absurd (of_decide_eq_true hb2) h3) (fun hb2 H2 e2 => ?_)
    have e12 := e1.trans e2
    refine q_when (b := false) (et_is (et_test (ev_inU (xs := recV) (ev_var rfl) (eu_tup (ea_cons ev_c (ea_cons ev_c (ea_cons ev_c (ea_cons ev_c (ea_cons ev_c ea_nil))))) (by show 5 ≤ 100000; decide)) rfl rfl)) h4) (fun z => nomatch z) (fun _ H3 e3 => ?_)
    have e13 := e12.trans e3
    exact s_retT (T := T) (et_call (ea_cons (me_desk c.m (e13 _ _ M.at_) (ev_var rfl)) (ea_cons (ev_var rfl) (ea_cons (ev_var rfl) (ea_cons (ev_var rfl) ea_nil)))) (fun H9 e9 Q2 q _ => ⟨d, nm, w, s.desk, cl, h1, hok, rfl, hd (e13.trans e9), ex_l ((cut_sub S H).trans (e13.trans e9)) hn, hw.mono ((cut_sub S H).trans (e13.trans e9)), M.tab.ext (e13.trans e9), q⟩)) fun q H9 hq e9 t9 h9 => k.same M ((ExN.of e13).trans e9) t9 (fresh_back e13 hq) h9
/-! ### read_rows -/
theorem cut_nat (xs : List V) {lo n : Nat} (h : lo + n ≤ xs.length) : cutV xs (some (lo : Int)) (some ((lo + n : Nat) : Int)) = (xs.drop lo).take n := by
  unfold cutV
  rw [HT.sIx_nat, HT.sIx_nat, Nat.min_eq_left (by omega), Nat.min_eq_left (by omega), Nat.add_sub_cancel_left]
def sp_read_rows (K : PySem.W.Frag) : Sp := fun vs H Q _ => ∃ (a : Addr) (p k : Nat) (ns : List Int) (rs : List (List Int)) (rest : List Int), vs = [.ref a, nv p, nv k] ∧ SqL K H a (ns.map V.int) ∧ ns.length ≤ 20000 ∧ (∀ x ∈ ns, 0 ≤ x) ∧ k ≤ 100 ∧ p ≤ ns.length ∧ PyFlat.rows k (ns.drop p) = some (rs, rest) ∧
  ∀ (q w : Addr) (as : List Addr) (p' : Nat) (H2 : Hp), H q = none → Ex H H2 → H2 q = some (.tup [.ref w, nv p']) → H w = none → H2 w = some (.lst (as.map V.ref)) → as.length = rs.length → (∀ (i : Nat) (b : Addr) (r : List Int), as[i]? = some b → rs[i]? = some r → H b = none ∧ H2 b = some (.lst (r.map V.int))) → ns.drop p' = rest → p ≤ p' → p' ≤ ns.length → Q (.ref q) H2
theorem rows_succ {k : Nat} {l : List Int} {rs : List (List Int)} {rest : List Int} (h : PyFlat.rows (k + 1) l = some (rs, rest)) : ∃ (n : Int) (r : List Int) (rs' : List (List Int)), l = n :: r ∧ 0 ≤ n ∧ n.toNat ≤ r.length ∧ rs = r.take n.toNat :: rs' ∧ PyFlat.rows k (r.drop n.toNat) = some (rs', rest) := by
  cases l with
  | nil => simp [PyFlat.rows, PyFlat.row] at h
  | cons n r =>
    rw [PyFlat.rows, PyFlat.row] at h
    by_cases c : 0 ≤ n ∧ n.toNat ≤ r.length
    · rw [if_pos c] at h
      simp only at h
      cases q : PyFlat.rows k (r.drop n.toNat) with
      | none => rw [q] at h; cases h
      | some z =>
        obtain ⟨xs, t⟩ := z
        rw [q] at h
        have h' := Option.some.inj h
        cases h'
        exact ⟨n, r, xs, rfl, c.1, c.2, rfl, q⟩
    · rw [if_neg c] at h; cases h
theorem pure_read_rows {K : PySem.W.Frag} {vs : List V} {H : Hp} {Q : VK} {E : XK} (h : sp_read_rows K vs H Q E) : t_read_rows K { nx := fun _ H' => Q .non H', rt := Q } (L2.start ["calls", "at", "how_many", "rows", "row", "end"] vs) H := by
  obtain ⟨a, p, k, ns, rs, rest, rfl, ha, hlen, hpos, hk, hp, hrows, kk⟩ := h
  refine q_asgL (el_lst (vs := []) ea_nil (by decide)) fun w H1 hw e1 hw1 => ?_
  refine q_forR1 (n := (k : Int)) (ea_cons (ev_var rfl) ea_nil) (by omega) (fun i σ H' => ∃ (v v2 : Option V) (pi : Nat) (as : List Addr), σ = [some (.ref a), some (nv pi), some (nv k), some (.ref w), v, v2] ∧ Ex H H' ∧ p ≤ pi ∧ pi ≤ ns.length ∧ PyFlat.rows (k - i) (ns.drop pi) = some (rs.drop i, rest) ∧ H' w = some (.lst (as.map V.ref)) ∧ as.length = i ∧ i ≤ rs.length ∧ ∀ (j : Nat) (b : Addr) (r : List Int), as[j]? = some b → rs[j]? = some r → H b = none ∧ b ≠ w ∧ H' b = some (.lst (r.map V.int)))
    (fun H2 e2 => ⟨_, _, p, [], rfl, e1.trans e2, Nat.le_refl _, hp, hrows, e2 _ _ hw1, rfl, Nat.zero_le _, fun j b r h => (by simp at h)⟩) ?_ ?_
  · rintro i σ' H2 hi ⟨v, v2, pi, as, rfl, e2, hpi, hpl, hr, hw2, hal, hil, hG⟩
    have hi' : i < k := by omega
    rw [show k - i = (k - (i + 1)) + 1 by omega] at hr
    obtain ⟨n, r, rs', hdr, hn0, hnl, hrs, hr2⟩ := rows_succ hr
    have hdl : (ns.drop pi).length = r.length + 1 := by rw [hdr]; rfl
    rw [List.length_drop] at hdl
    have hat : ns[pi]? = some n := by
      have : (ns.drop pi)[0]? = some n := by rw [hdr]; rfl
      rw [List.getElem?_drop] at this
      exact this
    have hr' : r = ns.drop (pi + 1) := by
      have : (ns.drop pi).drop 1 = r := by rw [hdr]; rfl
      rw [List.drop_drop] at this
      exact this.symm
    obtain ⟨N, hN⟩ : ∃ N : Nat, n = (N : Int) := ⟨n.toNat, by omega⟩
    subst hN
    rw [Int.toNat_natCast] at hnl hrs hr2
    have ha2 := ex_l e2 ha
    have hat2 : (ns.map V.int)[pi]? = some (nv N) := by rw [List.getElem?_map, hat]; rfl
    refine q_asg (v := nv (pi + 1 + N)) (ev_addN (ev_addN (n := 1) (ev_var rfl) ev_c) (ev_ixL (ev_var rfl) (ev_var rfl) ha2 hat2)) fun H3 e3 => ?_
    have e23 := e2.trans e3
    have hsl : EvL (tSl (rSlL K) (tVar 0) (tPart (tOp qAdd (tVar 1) (tC (.int 1)))) (tPart (tVar 5))) [some (.ref a), some (nv pi), some (nv k), some (.ref w), some (nv i), some (nv (pi + 1 + N))] H3 ((r.take N).map V.int) := by
      have e : (r.take N).map V.int = cutV (ns.map V.int) (some ((pi + 1 : Nat) : Int)) (some ((pi + 1 + N : Nat) : Int)) := by
        rw [cut_nat _ (by rw [List.length_map]; omega), ← List.map_drop, ← List.map_take, hr']
      rw [e]
      exact el_sl (ev_var rfl) (eo_some (ev_addN (n := 1) (ev_var rfl) ev_c)) (eo_some (ev_var rfl)) (ex_l e23 ha)
    refine q_appL (e3 _ _ hw2) (ev_var rfl) hsl (by rw [List.length_map]; omega) fun b H4 hb e4 hb4 => ?_
    have nbw : b ≠ w := fun z => by rw [z, e3 _ _ hw2] at hb; cases hb
    have hb0 : H b = none := fresh_back e23 hb
    refine s_asg (v := nv (pi + 1 + N)) (ev_var rfl) fun H5 e5 => ⟨_, _, pi + 1 + N, as ++ [b], rfl, (Ex.mut (e23.trans e4) hw).trans e5, by omega, by omega, ?_, ?_, by rw [List.length_append, hal]; rfl, ?_, fun j c q hc hq => ?_⟩
    · have e6 : rs.drop (i + 1) = rs' := by
        have : (rs.drop i).drop 1 = rs' := by rw [hrs]; rfl
        rw [List.drop_drop] at this; exact this
      rw [e6]
      rw [hr', List.drop_drop] at hr2
      exact hr2
    · rw [e5 _ _ upd_same, List.map_append]; rfl
    · have : (rs.drop i).length = rs'.length + 1 := by rw [hrs]; rfl
      rw [List.length_drop] at this; omega
    · rcases snoc_get hc with z | ⟨z1, z2⟩
      · obtain ⟨g1, g0, g2⟩ := hG j c q z hq
        exact ⟨g1, g0, e5 _ _ (by rw [upd_ne g0]; exact (e3.trans e4) _ _ g2)⟩
      · have hq' : rs[i]? = some (r.take N) := by
          have : (rs.drop i)[0]? = some (r.take N) := by rw [hrs]; rfl
          rw [List.getElem?_drop] at this; exact this
        rw [z1, hal] at hq
        rw [hq'] at hq
        have e7 := Option.some.inj hq
        rw [z2, ← e7]
        exact ⟨hb0, nbw, e5 _ _ (by rw [upd_ne nbw]; exact hb4)⟩
  · rintro σ' H2 ⟨v, v2, pi, as, rfl, e2, hpi, hpl, hr, hw2, hal, hil, hG⟩
    rw [Int.toNat_natCast] at hr hal hil
    rw [Nat.sub_self] at hr
    have hr' := Option.some.inj hr
    have e1' : ([] : List (List Int)) = rs.drop k := congrArg Prod.fst hr'
    have e2' : ns.drop pi = rest := congrArg Prod.snd hr'
    have hrl : rs.length = k := by
      have := congrArg List.length e1'
      rw [List.length_drop] at this
      simp at this; omega
    refine s_retU (eu_tup (ea_cons (ev_var rfl) (ea_cons (ev_var rfl) ea_nil)) (by show 2 ≤ 100000; decide)) fun q H3 hq e3 h3 => kk q w as pi H3 (fresh_back e2 hq) (e2.trans e3) h3 hw (e3 _ _ hw2) (by omega) (fun i b r hb hr => ⟨(hG i b r hb hr).1, e3 _ _ (hG i b r hb hr).2.2⟩) e2' hpi hpl
end Pp
end
section
set_option Elab.async false
set_option linter.all false
set_option maxRecDepth 100000
set_option maxHeartbeats 2000000
namespace Pp
open PySem PySem.Spec PyProof.Rows L2 Evl VwHand LamX NdefX
/-! ### which call a row of numbers is -/
theorem len0 {α : Type} {l : List α} (h : l.length = 0) : l = [] := List.eq_nil_of_length_eq_zero h
theorem lenS {α : Type} {l : List α} {n : Nat} (h : l.length = n + 1) : ∃ x r, l = x :: r ∧ r.length = n := by
  cases l with
  | nil => simp at h
  | cons x r => exact ⟨x, r, rfl, by simpa using h⟩
theorem within_iff {lo hi z : Int} : PyInside.within lo hi z = true ↔ lo ≤ z ∧ z ≤ hi := by unfold PyInside.within; simp
theorem lists1 {lo hi : Int} {least most : Nat} {r : List Int} (h : PyInside.lists [(lo, hi, least, most)] [r] = true) : r.length ≤ most ∧ ∀ x ∈ r, lo ≤ x ∧ x ≤ hi := by
  rw [PyInside.lists] at h
  simp only [Bool.and_eq_true, decide_eq_true_eq, List.all_eq_true] at h
  exact ⟨h.1.1.2, fun x hx => within_iff.mp (h.1.2 x hx)⟩
theorem low_nat {r : List Int} {b : Nat} (h : ∀ x ∈ r, 0 ≤ x ∧ x ≤ (b : Int)) : ∀ y ∈ r.map Int.toNat, y ≤ b := fun y hy => by
  obtain ⟨x, hx, rfl⟩ := List.mem_map.mp hy
  have := h x hx
  omega
/-- what a call's numbers tell -/
structure Read (p : Int) (a : List Int) (rs : List (List Int)) (cl : Cl) : Prop where
  call : HdNeutral.callOf (PyWrvwhd.whole ((p :: a) :: rs)) = some cl
  code : p = ((codeN cl : Nat) : Int)
  nums : a.map Int.toNat = numsN cl
  rows : rs.map (fun r => r.map Int.toNat) = rowsN cl
  ok : CallOk cl
theorem read_0 (x0 x1 x2 x3 x4 x5 x6 : Int) (r0 : List Int) (h : PyInside.call PyWrvwhd.bound ((0 :: [x0, x1, x2, x3, x4, x5, x6]) :: [r0]) = true) : Read 0 [x0, x1, x2, x3, x4, x5, x6] [r0] (.giver x0.toNat x1.toNat x2.toNat x3.toNat x4.toNat x5.toNat x6.toNat (HdNeutral.natsOf r0)) := by
  have hl : PyInside.lists [(0, 4294967295, 0, 20000)] [r0] = true := by
    have h' : (PyInside.each (PyWrvwhd.bound 0).1 [x0, x1, x2, x3, x4, x5, x6] && PyInside.lists (PyWrvwhd.bound 0).2 [r0]) = true := h
    rw [Bool.and_eq_true] at h'; exact h'.2
  obtain ⟨h1, h2⟩ := lists1 hl
  exact ⟨rfl, rfl, rfl, rfl, by show (r0.map Int.toNat).length ≤ 20000; rw [List.length_map]; exact h1, fun y hy => Nat.lt_succ_of_le (low_nat (b := 4294967295) h2 y hy)⟩
theorem read_1 (x0 x1 : Int) : Read 1 [x0, x1] [] (.away x0.toNat x1.toNat) := ⟨rfl, rfl, rfl, rfl, trivial⟩
theorem read_2 (x0 x1 : Int) : Read 2 [x0, x1] [] (.ramps x0.toNat x1.toNat) := ⟨rfl, rfl, rfl, rfl, trivial⟩
theorem read_3 (x0 : Int) : Read 3 [x0] [] (.rule x0.toNat) := ⟨rfl, rfl, rfl, rfl, trivial⟩
theorem read_4 (x0 x1 x2 x3 : Int) : Read 4 [x0, x1, x2, x3] [] (.order x0.toNat x1.toNat x2.toNat x3.toNat) := ⟨rfl, rfl, rfl, rfl, trivial⟩
theorem read_5 (x0 : Int) : Read 5 [x0] [] (.back x0.toNat) := ⟨rfl, rfl, rfl, rfl, trivial⟩
theorem read_6 (r0 : List Int) (h : PyInside.call PyWrvwhd.bound ((6 :: []) :: [r0]) = true) : Read 6 [] [r0] (.quarter (HdNeutral.natsOf r0)) := by
  have hl : PyInside.lists [(0, 1000000000000000, 0, 20000)] [r0] = true := by
    have h' : (PyInside.each (PyWrvwhd.bound 6).1 [] && PyInside.lists (PyWrvwhd.bound 6).2 [r0]) = true := h
    rw [Bool.and_eq_true] at h'; exact h'.2
  exact ⟨rfl, rfl, rfl, rfl, low_nat (b := 1000000000000000) (lists1 hl).2⟩
theorem read_7 (r0 : List Int) (h : PyInside.call PyWrvwhd.bound ((7 :: []) :: [r0]) = true) : Read 7 [] [r0] (.could (HdNeutral.natsOf r0)) := by
  have hl : PyInside.lists [(0, 1000000000000000, 0, 20000)] [r0] = true := by
    have h' : (PyInside.each (PyWrvwhd.bound 7).1 [] && PyInside.lists (PyWrvwhd.bound 7).2 [r0]) = true := h
    rw [Bool.and_eq_true] at h'; exact h'.2
  exact ⟨rfl, rfl, rfl, rfl, low_nat (b := 1000000000000000) (lists1 hl).2⟩
theorem read_8 : Read 8 [] [] (.limits) := ⟨rfl, rfl, rfl, rfl, trivial⟩
theorem read_9 (x0 : Int) (r0 : List Int) : Read 9 [x0] [r0] (.parts x0.toNat (HdNeutral.natsOf r0)) := ⟨rfl, rfl, rfl, rfl, trivial⟩
theorem read_10 (r0 r1 : List Int) : Read 10 [] [r0, r1] (.judge (HdNeutral.natsOf r0) (HdNeutral.natsOf r1)) := ⟨rfl, rfl, rfl, rfl, trivial⟩
theorem read_11 (r0 : List Int) : Read 11 [] [r0] (.prices (HdNeutral.natsOf r0)) := ⟨rfl, rfl, rfl, rfl, trivial⟩
theorem read_12 (r0 r1 r2 : List Int) : Read 12 [] [r0, r1, r2] (.proof (HdNeutral.natsOf r0) (HdNeutral.natsOf r1) (HdNeutral.natsOf r2)) := ⟨rfl, rfl, rfl, rfl, trivial⟩
theorem read_13 (x0 : Int) : Read 13 [x0] [] (.lost x0.toNat) := ⟨rfl, rfl, rfl, rfl, trivial⟩
theorem read_14 (x0 : Int) : Read 14 [x0] [] (.told x0.toNat) := ⟨rfl, rfl, rfl, rfl, trivial⟩
theorem read_15 (r0 : List Int) : Read 15 [] [r0] (.binds (HdNeutral.natsOf r0)) := ⟨rfl, rfl, rfl, rfl, trivial⟩
theorem read_16 (r0 : List Int) : Read 16 [] [r0] (.clears (HdNeutral.natsOf r0)) := ⟨rfl, rfl, rfl, rfl, trivial⟩
theorem read_17 (x0 : Int) : Read 17 [x0] [] (.state x0.toNat) := ⟨rfl, rfl, rfl, rfl, trivial⟩
theorem read_18 : Read 18 [] [] (.sums) := ⟨rfl, rfl, rfl, rfl, trivial⟩
theorem read_19 (x0 x1 : Int) (h : PyInside.call PyWrvwhd.bound ((19 :: [x0, x1]) :: []) = true) : Read 19 [x0, x1] [] (.passes x0.toNat x1.toNat) := by
  have hl : PyInside.each [(0, 4294967295), (0, 1000000000000000)] [x0, x1] = true := by
    have h' : (PyInside.each (PyWrvwhd.bound 19).1 [x0, x1] && _) = true := h
    rw [Bool.and_eq_true] at h'; exact h'.1
  rw [PyInside.each, PyInside.each] at hl
  simp only [Bool.and_eq_true] at hl
  have := within_iff.mp hl.2.1
  exact ⟨rfl, rfl, rfl, rfl, by show x1.toNat ≤ 1000000000000000; omega⟩
theorem read_20 : Read 20 [] [] (.undo) := ⟨rfl, rfl, rfl, rfl, trivial⟩
theorem read_21 : Read 21 [] [] (.redo) := ⟨rfl, rfl, rfl, rfl, trivial⟩
theorem read_22 : Read 22 [] [] (.begin_) := ⟨rfl, rfl, rfl, rfl, trivial⟩
theorem read_call {p : Int} {a : List Int} {rs : List (List Int)} (hs : PyWrvwhd.shape p = some (a.length, rs.length)) (hin : PyInside.call PyWrvwhd.bound ((p :: a) :: rs) = true) : ∃ cl, Read p a rs cl ∧ p < 23 := by
  unfold PyWrvwhd.shape at hs
  by_cases c0 : p = 0
  · subst c0
    rw [if_pos rfl] at hs
    have e := Option.some.inj hs
    have ea : a.length = 7 := (congrArg Prod.fst e).symm
    have er : rs.length = 1 := (congrArg Prod.snd e).symm
    clear e hs
    obtain ⟨x0, a0, rfl, ea0⟩ := lenS ea
    obtain ⟨x1, a1, rfl, ea1⟩ := lenS ea0
    obtain ⟨x2, a2, rfl, ea2⟩ := lenS ea1
    obtain ⟨x3, a3, rfl, ea3⟩ := lenS ea2
    obtain ⟨x4, a4, rfl, ea4⟩ := lenS ea3
    obtain ⟨x5, a5, rfl, ea5⟩ := lenS ea4
    obtain ⟨x6, a6, rfl, ea6⟩ := lenS ea5
    obtain rfl := len0 ea6
    obtain ⟨r0, rs0, rfl, er0⟩ := lenS er
    obtain rfl := len0 er0
    exact ⟨_, read_0 x0 x1 x2 x3 x4 x5 x6 r0 hin, by decide⟩
  rw [if_neg c0] at hs
  by_cases c1 : p = 1
  · subst c1
    rw [if_pos rfl] at hs
    have e := Option.some.inj hs
    have ea : a.length = 2 := (congrArg Prod.fst e).symm
    have er : rs.length = 0 := (congrArg Prod.snd e).symm
    clear e hs
    obtain ⟨x0, a0, rfl, ea0⟩ := lenS ea
    obtain ⟨x1, a1, rfl, ea1⟩ := lenS ea0
    obtain rfl := len0 ea1
    obtain rfl := len0 er
    exact ⟨_, read_1 x0 x1, by decide⟩
  rw [if_neg c1] at hs
  by_cases c2 : p = 2
  · subst c2
    rw [if_pos rfl] at hs
    have e := Option.some.inj hs
    have ea : a.length = 2 := (congrArg Prod.fst e).symm
    have er : rs.length = 0 := (congrArg Prod.snd e).symm
    clear e hs
    obtain ⟨x0, a0, rfl, ea0⟩ := lenS ea
    obtain ⟨x1, a1, rfl, ea1⟩ := lenS ea0
    obtain rfl := len0 ea1
    obtain rfl := len0 er
    exact ⟨_, read_2 x0 x1, by decide⟩
  rw [if_neg c2] at hs
  by_cases c3 : p = 3
  · subst c3
    rw [if_pos rfl] at hs
    have e := Option.some.inj hs
    have ea : a.length = 1 := (congrArg Prod.fst e).symm
    have er : rs.length = 0 := (congrArg Prod.snd e).symm
    clear e hs
    obtain ⟨x0, a0, rfl, ea0⟩ := lenS ea
    obtain rfl := len0 ea0
    obtain rfl := len0 er
    exact ⟨_, read_3 x0, by decide⟩
  rw [if_neg c3] at hs
  by_cases c4 : p = 4
  · subst c4
    rw [if_pos rfl] at hs
    have e := Option.some.inj hs
    have ea : a.length = 4 := (congrArg Prod.fst e).symm
    have er : rs.length = 0 := (congrArg Prod.snd e).symm
    clear e hs
    obtain ⟨x0, a0, rfl, ea0⟩ := lenS ea
    obtain ⟨x1, a1, rfl, ea1⟩ := lenS ea0
    obtain ⟨x2, a2, rfl, ea2⟩ := lenS ea1
    obtain ⟨x3, a3, rfl, ea3⟩ := lenS ea2
    obtain rfl := len0 ea3
    obtain rfl := len0 er
    exact ⟨_, read_4 x0 x1 x2 x3, by decide⟩
  rw [if_neg c4] at hs
  by_cases c5 : p = 5
  · subst c5
    rw [if_pos rfl] at hs
    have e := Option.some.inj hs
    have ea : a.length = 1 := (congrArg Prod.fst e).symm
    have er : rs.length = 0 := (congrArg Prod.snd e).symm
    clear e hs
    obtain ⟨x0, a0, rfl, ea0⟩ := lenS ea
    obtain rfl := len0 ea0
    obtain rfl := len0 er
    exact ⟨_, read_5 x0, by decide⟩
  rw [if_neg c5] at hs
  by_cases c6 : p = 6
  · subst c6
    rw [if_pos rfl] at hs
    have e := Option.some.inj hs
    have ea : a.length = 0 := (congrArg Prod.fst e).symm
    have er : rs.length = 1 := (congrArg Prod.snd e).symm
    clear e hs
    obtain rfl := len0 ea
    obtain ⟨r0, rs0, rfl, er0⟩ := lenS er
    obtain rfl := len0 er0
    exact ⟨_, read_6 r0 hin, by decide⟩
  rw [if_neg c6] at hs
  by_cases c7 : p = 7
  · subst c7
    rw [if_pos rfl] at hs
    have e := Option.some.inj hs
    have ea : a.length = 0 := (congrArg Prod.fst e).symm
    have er : rs.length = 1 := (congrArg Prod.snd e).symm
    clear e hs
    obtain rfl := len0 ea
    obtain ⟨r0, rs0, rfl, er0⟩ := lenS er
    obtain rfl := len0 er0
    exact ⟨_, read_7 r0 hin, by decide⟩
  rw [if_neg c7] at hs
  by_cases c8 : p = 8
  · subst c8
    rw [if_pos rfl] at hs
    have e := Option.some.inj hs
    have ea : a.length = 0 := (congrArg Prod.fst e).symm
    have er : rs.length = 0 := (congrArg Prod.snd e).symm
    clear e hs
    obtain rfl := len0 ea
    obtain rfl := len0 er
    exact ⟨_, read_8, by decide⟩
  rw [if_neg c8] at hs
  by_cases c9 : p = 9
  · subst c9
    rw [if_pos rfl] at hs
    have e := Option.some.inj hs
    have ea : a.length = 1 := (congrArg Prod.fst e).symm
    have er : rs.length = 1 := (congrArg Prod.snd e).symm
    clear e hs
    obtain ⟨x0, a0, rfl, ea0⟩ := lenS ea
    obtain rfl := len0 ea0
    obtain ⟨r0, rs0, rfl, er0⟩ := lenS er
    obtain rfl := len0 er0
    exact ⟨_, read_9 x0 r0, by decide⟩
  rw [if_neg c9] at hs
  by_cases c10 : p = 10
  · subst c10
    rw [if_pos rfl] at hs
    have e := Option.some.inj hs
    have ea : a.length = 0 := (congrArg Prod.fst e).symm
    have er : rs.length = 2 := (congrArg Prod.snd e).symm
    clear e hs
    obtain rfl := len0 ea
    obtain ⟨r0, rs0, rfl, er0⟩ := lenS er
    obtain ⟨r1, rs1, rfl, er1⟩ := lenS er0
    obtain rfl := len0 er1
    exact ⟨_, read_10 r0 r1, by decide⟩
  rw [if_neg c10] at hs
  by_cases c11 : p = 11
  · subst c11
    rw [if_pos rfl] at hs
    have e := Option.some.inj hs
    have ea : a.length = 0 := (congrArg Prod.fst e).symm
    have er : rs.length = 1 := (congrArg Prod.snd e).symm
    clear e hs
    obtain rfl := len0 ea
    obtain ⟨r0, rs0, rfl, er0⟩ := lenS er
    obtain rfl := len0 er0
    exact ⟨_, read_11 r0, by decide⟩
  rw [if_neg c11] at hs
  by_cases c12 : p = 12
  · subst c12
    rw [if_pos rfl] at hs
    have e := Option.some.inj hs
    have ea : a.length = 0 := (congrArg Prod.fst e).symm
    have er : rs.length = 3 := (congrArg Prod.snd e).symm
    clear e hs
    obtain rfl := len0 ea
    obtain ⟨r0, rs0, rfl, er0⟩ := lenS er
    obtain ⟨r1, rs1, rfl, er1⟩ := lenS er0
    obtain ⟨r2, rs2, rfl, er2⟩ := lenS er1
    obtain rfl := len0 er2
    exact ⟨_, read_12 r0 r1 r2, by decide⟩
  rw [if_neg c12] at hs
  by_cases c13 : p = 13
  · subst c13
    rw [if_pos rfl] at hs
    have e := Option.some.inj hs
    have ea : a.length = 1 := (congrArg Prod.fst e).symm
    have er : rs.length = 0 := (congrArg Prod.snd e).symm
    clear e hs
    obtain ⟨x0, a0, rfl, ea0⟩ := lenS ea
    obtain rfl := len0 ea0
    obtain rfl := len0 er
    exact ⟨_, read_13 x0, by decide⟩
  rw [if_neg c13] at hs
  by_cases c14 : p = 14
  · subst c14
    rw [if_pos rfl] at hs
    have e := Option.some.inj hs
    have ea : a.length = 1 := (congrArg Prod.fst e).symm
    have er : rs.length = 0 := (congrArg Prod.snd e).symm
    clear e hs
    obtain ⟨x0, a0, rfl, ea0⟩ := lenS ea
    obtain rfl := len0 ea0
    obtain rfl := len0 er
    exact ⟨_, read_14 x0, by decide⟩
  rw [if_neg c14] at hs
  by_cases c15 : p = 15
  · subst c15
    rw [if_pos rfl] at hs
    have e := Option.some.inj hs
    have ea : a.length = 0 := (congrArg Prod.fst e).symm
    have er : rs.length = 1 := (congrArg Prod.snd e).symm
    clear e hs
    obtain rfl := len0 ea
    obtain ⟨r0, rs0, rfl, er0⟩ := lenS er
    obtain rfl := len0 er0
    exact ⟨_, read_15 r0, by decide⟩
  rw [if_neg c15] at hs
  by_cases c16 : p = 16
  · subst c16
    rw [if_pos rfl] at hs
    have e := Option.some.inj hs
    have ea : a.length = 0 := (congrArg Prod.fst e).symm
    have er : rs.length = 1 := (congrArg Prod.snd e).symm
    clear e hs
    obtain rfl := len0 ea
    obtain ⟨r0, rs0, rfl, er0⟩ := lenS er
    obtain rfl := len0 er0
    exact ⟨_, read_16 r0, by decide⟩
  rw [if_neg c16] at hs
  by_cases c17 : p = 17
  · subst c17
    rw [if_pos rfl] at hs
    have e := Option.some.inj hs
    have ea : a.length = 1 := (congrArg Prod.fst e).symm
    have er : rs.length = 0 := (congrArg Prod.snd e).symm
    clear e hs
    obtain ⟨x0, a0, rfl, ea0⟩ := lenS ea
    obtain rfl := len0 ea0
    obtain rfl := len0 er
    exact ⟨_, read_17 x0, by decide⟩
  rw [if_neg c17] at hs
  by_cases c18 : p = 18
  · subst c18
    rw [if_pos rfl] at hs
    have e := Option.some.inj hs
    have ea : a.length = 0 := (congrArg Prod.fst e).symm
    have er : rs.length = 0 := (congrArg Prod.snd e).symm
    clear e hs
    obtain rfl := len0 ea
    obtain rfl := len0 er
    exact ⟨_, read_18, by decide⟩
  rw [if_neg c18] at hs
  by_cases c19 : p = 19
  · subst c19
    rw [if_pos rfl] at hs
    have e := Option.some.inj hs
    have ea : a.length = 2 := (congrArg Prod.fst e).symm
    have er : rs.length = 0 := (congrArg Prod.snd e).symm
    clear e hs
    obtain ⟨x0, a0, rfl, ea0⟩ := lenS ea
    obtain ⟨x1, a1, rfl, ea1⟩ := lenS ea0
    obtain rfl := len0 ea1
    obtain rfl := len0 er
    exact ⟨_, read_19 x0 x1 hin, by decide⟩
  rw [if_neg c19] at hs
  by_cases c20 : p = 20
  · subst c20
    rw [if_pos rfl] at hs
    have e := Option.some.inj hs
    have ea : a.length = 0 := (congrArg Prod.fst e).symm
    have er : rs.length = 0 := (congrArg Prod.snd e).symm
    clear e hs
    obtain rfl := len0 ea
    obtain rfl := len0 er
    exact ⟨_, read_20, by decide⟩
  rw [if_neg c20] at hs
  by_cases c21 : p = 21
  · subst c21
    rw [if_pos rfl] at hs
    have e := Option.some.inj hs
    have ea : a.length = 0 := (congrArg Prod.fst e).symm
    have er : rs.length = 0 := (congrArg Prod.snd e).symm
    clear e hs
    obtain rfl := len0 ea
    obtain rfl := len0 er
    exact ⟨_, read_21, by decide⟩
  rw [if_neg c21] at hs
  by_cases c22 : p = 22
  · subst c22
    rw [if_pos rfl] at hs
    have e := Option.some.inj hs
    have ea : a.length = 0 := (congrArg Prod.fst e).symm
    have er : rs.length = 0 := (congrArg Prod.snd e).symm
    clear e hs
    obtain rfl := len0 ea
    obtain rfl := len0 er
    exact ⟨_, read_22, by decide⟩
  rw [if_neg c22] at hs
  cases hs
/-- one step of the reading -/
theorem calls_cons {f : Nat} {p : Int} {r : List Int} {raw : List (List (List Int))} (h : PyFlat.calls PyWrvwhd.shape f (p :: r) = some raw) : ∃ f' n k rows rest cs, PyWrvwhd.shape p = some (n, k) ∧ n ≤ r.length ∧ PyFlat.rows k (r.drop n) = some (rows, rest) ∧ rows.length = k ∧ raw = ((p :: r.take n) :: rows) :: cs ∧ PyFlat.calls PyWrvwhd.shape f' rest = some cs := by
  cases f with
  | zero => cases h
  | succ f =>
    rw [PyFlat.calls] at h
    cases q : PyFlat.call PyWrvwhd.shape (p :: r) with
    | none => rw [q] at h; cases h
    | some z =>
      obtain ⟨c, t⟩ := z
      rw [q] at h
      simp only at h
      cases q2 : PyFlat.calls PyWrvwhd.shape f t with
      | none => rw [q2] at h; cases h
      | some cs =>
        rw [q2] at h
        have e := Option.some.inj h
        rw [PyFlat.call] at q
        cases q3 : PyWrvwhd.shape p with
        | none => rw [q3] at q; cases q
        | some nk =>
          obtain ⟨n, k⟩ := nk
          rw [q3] at q
          simp only at q
          by_cases hl : r.length < n
          · rw [if_pos hl] at q; cases q
          · rw [if_neg hl] at q
            cases q4 : PyFlat.rows k (r.drop n) with
            | none => rw [q4] at q; cases q
            | some z2 =>
              obtain ⟨xs, t2⟩ := z2
              rw [q4] at q
              have e2 := Option.some.inj q
              have e3 : (p :: r.take n) :: xs = c := congrArg Prod.fst e2
              have e4 : t2 = t := congrArg Prod.snd e2
              subst e3 e4
              exact ⟨f, n, k, xs, t2, cs, rfl, by omega, q4, (PyFlat.rows_inv k _ xs t2 q4).2, e.symm, q2⟩
end Pp
end
section
set_option Elab.async false
set_option linter.all false
set_option maxRecDepth 100000
set_option maxHeartbeats 2000000
namespace Pp
open PySem PySem.Spec PyProof.Rows L2 Evl VwHand LamX NdefX
/-! ### answers -/
/-- the table of the calls' forms -/
structure Fms (K : PySem.W.Frag) (aF : Addr) : Prop where
  ex : ∃ fs : List Addr, fs.length = 23 ∧ (∀ H, SqT K H aF (fs.map V.ref)) ∧ ∀ (i : Nat) (f : Addr) (n k : Nat), fs[i]? = some f → PyWrvwhd.shape (i : Int) = some (n, k) → ∀ H, SqT K H f [nv n, nv k]
def sp_answers (K : PySem.W.Frag) (T : List (Addr × Str)) : Sp := fun vs H Q _ => ∃ (a : Addr) (ns : List Int), vs = [.ref a] ∧ SqL K H a (ns.map V.int) ∧ Tabs T H ∧ ns.length ≤ 20000 ∧ (∀ x ∈ ns, 0 ≤ x) ∧ PyWrvwhd.answers_asked ns = true ∧ ∀ (H' : Hp) (p : Addr), H' p = some (.lst ((PyWrvwhd.answers ns).map V.int)) → Tabs T H' → Q (.ref p) H'
theorem ep_mem {K : PySem.W.Frag} {C : Cs} {σ : L2.St} {H : Hp} {E : XK} : EvP (tMake C.M (sp_Memory K C) [] E tNil) σ H (NewM K C) :=
  ep_make ea_nil fun H1 H0 x dx e1 e2 hx h0 Q E q => ⟨x, dx, rfl, h0, q⟩
section
variable {K : PySem.W.Frag} {C : Cs} {T : List (Addr × Str)} {S : Addr → Prop} {H H1 H2 : Hp} {m t dxm d e u : Addr} {xs ys : List V} {es us : List Addr} {s : HdSpec.State}
theorem cut_upd {o : HO} (hS : S t) : Ex (cut S H) (cut S (upd H t o)) := fun b v hb => by
  obtain ⟨h1, h2, h3⟩ := cut_iff.mp hb
  exact cut_iff.mpr ⟨h1, by rw [upd_ne (fun (z : b = t) => h1 (by rw [z]; exact hS))]; exact h2, h3⟩
/-- the told list grows -/
theorem MemAt.told (M : MemAt K C T S H m t xs dxm d e u es us s) : MemAt K C T S (upd H t (.lst ys)) m t ys dxm d e u es us s := by
  have cx := cut_upd (H := H) (o := .lst ys) M.st
  refine ⟨fun b z q => ?_, Tabs.upd M.tab M.lt, M.sm, M.st, M.se, M.su, M.tm, M.te, M.tu, M.eu, by rw [upd_ne M.tm.symm]; exact M.at_, upd_same, by rw [upd_ne M.te.symm]; exact M.le, by rw [upd_ne M.tu.symm]; exact M.lu, M.desk.mono cx, M.ed.mono cx, M.ud.mono cx, M.few⟩
  by_cases z' : b = t
  · rw [z', upd_same] at q; cases q
  · rw [upd_ne z'] at q; exact M.dom b z q
end
section
variable {K : PySem.W.Frag} {σ : L2.St} {H : Hp} {D : Ends} {tz : TS} {ta te : TE} {l b : Addr} {xs zs : List V}
theorem q_ext (hl : H l = some (.lst xs)) (ha : Ev ta σ H (.ref l)) (h : Ev te σ H (.ref b)) (hb : H b = some (.lst zs)) (hz : xs.length + zs.length ≤ sizeLine) (k : ∀ H1, Ex H H1 → tz D σ (upd H1 l (.lst (xs ++ zs)))) : tSeq (tDrop (tBM K "list" rExtend ta (tCons te tNil))) tz D σ H :=
  ha H (Ex.refl H) _ fun H1 e1 => ⟨.inl ⟨rfl, _, sq_of (e1 _ _ hl)⟩, h H1 e1 _ fun H2 e2 => ⟨l, b, xs, zs, rfl, rfl, (e1.trans e2) _ _ hl, (e1.trans e2) _ _ hb, hz, k H2 (e1.trans e2)⟩⟩
theorem q_appBig {v : V} (hl : H l = some (.lst xs)) (ha : Ev ta σ H (.ref l)) (h : Ev te σ H v) (hz : xs.length < sizeLine) (k : ∀ H1, Ex H H1 → tz D σ (upd H1 l (.lst (xs ++ [v])))) : tSeq (tDrop (tBM K "list" rAppend ta (tCons te tNil))) tz D σ H :=
  ha H (Ex.refl H) _ fun H1 e1 => ⟨.inl ⟨rfl, _, sq_of (e1 _ _ hl)⟩, h H1 e1 _ fun H2 e2 => ⟨l, xs, v, rfl, rfl, (e1.trans e2) _ _ hl, hz, k H2 (e1.trans e2)⟩⟩
end
theorem q_asgC4 {σ : L2.St} {H : Hp} {D : Ends} {tz : TS} {ta tb tc td : TE} {x y z : V} {zs : List V} {sp : Sp} {E : XK} {i : Nat} (h1 : Ev ta σ H x) (h2 : Ev tb σ H y) (h3 : EvL tc σ H zs) (h4 : Ev td σ H z) (k : ∀ nm H1, H nm = none → Ex H H1 → H1 nm = some (.lst zs) → sp [x, y, .ref nm, z] H1 (fun v H2 => tz D (σ.set i (some v)) H2) E) : tSeq (tAsg (tCall sp [] E (tCons ta (tCons tb (tCons tc (tCons td tNil))))) (gName i)) tz D σ H :=
  h1 H (Ex.refl H) _ fun H1 e1 => h2 H1 e1 _ fun H2 e2 => h3 H2 (e1.trans e2) _ fun nm H3 hn e3 hn3 => h4 H3 ((e1.trans e2).trans e3) _ fun H4 e4 => k nm H4 (fresh_back (e1.trans e2) hn) (((e1.trans e2).trans e3).trans e4) (e4 _ _ hn3)
theorem nums_nats {r : List Int} (h : ∀ x ∈ r, 0 ≤ x) : r.map V.int = nvs (r.map Int.toNat) := by
  unfold nvs
  rw [List.map_map]
  refine List.map_congr_left fun x hx => ?_
  show V.int x = V.int ((x.toNat : Nat) : Int)
  have := h x hx
  congr 1; omega
theorem rows_mem {k : Nat} : ∀ {l : List Int} {rs : List (List Int)} {rest : List Int}, PyFlat.rows k l = some (rs, rest) → ∀ r ∈ rs, ∀ x ∈ r, x ∈ l := by
  induction k with
  | zero =>
    intro l rs rest h r hr
    have e := Option.some.inj h
    have : rs = [] := (congrArg Prod.fst e).symm
    rw [this] at hr; cases hr
  | succ k ih =>
    intro l rs rest h r hr x hx
    obtain ⟨n, r0, rs', rfl, hn, hl, hrs, h2⟩ := rows_succ h
    rw [hrs] at hr
    rcases List.mem_cons.mp hr with z | z
    · rw [z] at hx; exact List.mem_cons_of_mem _ (List.mem_of_mem_take hx)
    · exact List.mem_cons_of_mem _ (List.mem_of_mem_drop (ih h2 r z x hx))
theorem rows_few (c : Cl) : (rowsN c).length ≤ 3 := by cases c <;> exact Nat.le_of_ble_eq_true rfl
/-- what the loop knows -/
structure Lp (K : PySem.W.Frag) (C : Cs) (T : List (Addr × Str)) (a m t dxm : Addr) (ns : List Int) (pl : Nat) (H : Hp) : Prop where
  ex : ∃ (S : Addr → Prop) (d e u : Addr) (es us : List Addr) (s : HdSpec.State) (ts : List Int) (f : Nat) (raw : List (List (List Int))), MemAt K C T S H m t (ts.map V.int) dxm d e u es us s ∧ SqL K (cut S H) a (ns.map V.int) ∧ PyFlat.calls PyWrvwhd.shape f (ns.drop pl) = some raw ∧ (∀ c ∈ raw, PyInside.call PyWrvwhd.bound c = true) ∧ ts ++ PyFlat.told (PyFlat.played HdNeutral.step s (raw.map PyWrvwhd.whole)) = PyWrvwhd.answers ns
theorem sq_off {K : PySem.W.Frag} {H : Hp} {S : Addr → Prop} {a : Addr} {ns : List Int} (hne : ns ≠ []) (h : SqL K H a (ns.map V.int)) (hS : ∀ b, S b → H b = some (.lst []) ∨ (∃ C dx fs, H b = some (.ins C dx fs))) : SqL K (cut S H) a (ns.map V.int) := by
  have key : ∀ o : HO, H a = some o → o ≠ .lst [] → (∀ C dx fs, o ≠ .ins C dx fs) → (∀ ps, o ≠ .tbl ps) → cut S H a = some o := fun o ho h1 h2 h3 => cut_iff.mpr ⟨fun z => by
    rcases hS a z with q | ⟨C, dx, fs, q⟩
    · rw [ho] at q; exact h1 (Option.some.inj q)
    · rw [ho] at q; exact h2 _ _ _ (Option.some.inj q), ho, h3⟩
  rcases h with (h | ⟨o, h⟩) | h
  · refine .inl (.inl (key _ h (fun z => ?_) (fun _ _ _ z => nomatch z) (fun _ z => nomatch z)))
    cases ns with
    | nil => exact hne rfl
    | cons x r => cases z
  · exact .inl (.inr ⟨o, key _ h (fun z => nomatch z) (fun _ _ _ z => nomatch z) (fun _ z => nomatch z)⟩)
  · exact .inr h
theorem pure_answers {K : PySem.W.Frag} {C : Cs} {T : List (Addr × Str)} {aF : Addr} (c : CC K C) (hF : Fms K aF) {vs : List V} {H : Hp} {Q : VK} {E : XK} (h : sp_answers K T vs H Q E) : t_answers K aF C.M (sp_Memory K C) (sp_answer_call K C T) (sp_read_rows K) { nx := fun _ H' => Q .non H', rt := Q } (L2.start ["calls", "memory", "told", "at", "call", "form", "behind", "rows_end", "answer"] vs) H := by
  obtain ⟨a, ns, rfl, ha, hT, hlen, hpos, hask, k⟩ := h
  obtain ⟨fs, hfl, hfF, hff⟩ := hF.ex
  -- what is asked
  obtain ⟨raw, hraw, hne, hin, hshort⟩ : ∃ raw, PyFlat.calls PyWrvwhd.shape ns.length ns = some raw ∧ ns ≠ [] ∧ (∀ c ∈ raw, PyInside.call PyWrvwhd.bound c = true) ∧ (PyWrvwhd.answers ns).length ≤ 10000000 := by
    unfold PyWrvwhd.answers_asked at hask
    cases q : PyFlat.calls PyWrvwhd.shape ns.length ns with
    | none => rw [q] at hask; cases hask
    | some raw =>
      rw [q] at hask
      simp only [Bool.and_eq_true] at hask
      obtain ⟨⟨⟨⟨h1, _⟩, h3⟩, _⟩, h5⟩ := hask
      refine ⟨raw, rfl, fun z => ?_, fun c hc => List.all_eq_true.mp h3 c hc, of_decide_eq_true h5⟩
      rw [z] at q
      have : raw = [] := (Option.some.inj q).symm
      rw [this] at h1; cases h1
  have hans : PyWrvwhd.answers ns = PyFlat.told (PyFlat.played HdNeutral.step HdNeutral.start (raw.map PyWrvwhd.whole)) := by
    unfold PyWrvwhd.answers PyWrvwhd.calls
    rw [hraw]
  refine q_asgP ep_mem fun m H1 hm e1 ⟨⟨dxm, d, e, u, hm1, hD, he, hu, neu⟩⟩ => ?_
  refine q_asgL (el_lst (vs := []) ea_nil (by decide)) fun t H2 ht e2 ht2 => ?_
  refine q_asg (v := nv 0) ev_c fun H3 e3 => ?_
  have e13 := (e1.trans e2).trans e3
  have e23 := e2.trans e3
  -- the loop
  have L0 : Lp K C T a m t dxm ns 0 H3 := by
    have tm : t ≠ m := (ne_of_none hm1 ht).symm
    have te : t ≠ e := (ne_of_none he ht).symm
    have tu : t ≠ u := (ne_of_none hu ht).symm
    refine ⟨⟨fun b => b = m ∨ b = e ∨ b = u ∨ b = t, d, e, u, [], [], HdSpec.start, [], ns.length, raw, ⟨fun b z q => ?_, hT.ext e13, .inl rfl, .inr (.inr (.inr rfl)), .inr (.inl rfl), .inr (.inr (.inl rfl)), tm, te, tu, neu, e23 _ _ hm1, e3 _ _ ht2, e23 _ _ he, e23 _ _ hu, hD.mono (fun b o hb => ?_), ⟨rfl, fun i a d h => (by simp at h)⟩, ⟨rfl, fun i a d h => (by simp at h)⟩, by decide⟩, sq_off hne (ex_l e13 ha) (fun b z => ?_), hraw, hin, hans.symm⟩⟩
    · rcases z with z | z | z | z <;> rw [z] at q
      · rw [e23 _ _ hm1] at q; cases q
      · rw [e23 _ _ he] at q; cases q
      · rw [e23 _ _ hu] at q; cases q
      · rw [e3 _ _ ht2] at q; cases q
    · obtain ⟨h1, h2, h3⟩ := cut_iff.mp hb
      refine cut_iff.mpr ⟨fun z => ?_, e23 _ _ h2, h3⟩
      rcases z with z | z | z | z
      · exact h1 (.inl z)
      · exact h1 (.inr (.inl z))
      · exact h1 (.inr (.inr z))
      · rw [z, ht] at h2; cases h2
    · rcases z with z | z | z | z <;> rw [z]
      · exact .inr ⟨_, _, _, e23 _ _ hm1⟩
      · exact .inl (e23 _ _ he)
      · exact .inl (e23 _ _ hu)
      · exact .inl (e3 _ _ ht2)
  refine q_while (fun n σ H' => ∃ pl v4 v5 v6 v7 v8, σ = [some (.ref a), some (.ref m), some (.ref t), some (nv pl), v4, v5, v6, v7, v8] ∧ n = ns.length - pl ∧ pl ≤ ns.length ∧ Lp K C T a m t dxm ns pl H') ns.length ⟨0, _, _, _, _, _, rfl, rfl, Nat.zero_le _, L0⟩ ?_
  rintro n σ' H4 ⟨pl, v4, v5, v6, v7, v8, rfl, rfl, hpl, ⟨⟨S, d, e, u, es, us, s, ts, f, raw, M, hS, hcalls, hins, hfin⟩⟩⟩
  have haH : ∀ {H5}, Ex H4 H5 → SqL K H5 a (ns.map V.int) := fun x => ex_l ((cut_sub S H4).trans x) hS
  refine ⟨decide (pl < ns.length), et_test (ev_ltN (ev_var rfl) (ev_is (ev_len (ev_var rfl) (haH (Ex.refl H4))) (by rw [List.length_map]))), fun hb H5 e5 => ?_, fun hb H5 e5 => ?_⟩
  · -- one call more
    have hlt := of_decide_eq_true hb
    obtain ⟨p, hp⟩ : ∃ p, ns[pl]? = some p := ⟨_, List.getElem?_eq_getElem hlt⟩
    have hdr : ns.drop pl = p :: ns.drop (pl + 1) := drop_one hp
    rw [hdr] at hcalls
    obtain ⟨f', n, kk, rows, rest, cs, hsh, hnl, hrows, hrl, hrw, hcs⟩ := calls_cons hcalls
    rw [List.length_drop] at hnl
    rw [List.drop_drop] at hrows
    have htl : ((ns.drop (pl + 1)).take n).length = n := by rw [List.length_take, List.length_drop]; omega
    have hin1 := hins _ (by rw [hrw]; exact List.mem_cons_self)
    obtain ⟨cl, R, hp23⟩ := read_call (p := p) (a := (ns.drop (pl + 1)).take n) (rs := rows) (by rw [htl, hrl]; exact hsh) hin1
    have hcode := R.code
    have hc23 : codeN cl < 23 := by omega
    obtain ⟨fa, hfa⟩ : ∃ fa, fs[codeN cl]? = some fa := ⟨_, List.getElem?_eq_getElem (by omega)⟩
    have hform := hff (codeN cl) fa n kk hfa (by rw [← hcode]; exact hsh)
    have hnn : ∀ x ∈ (ns.drop (pl + 1)).take n, 0 ≤ x := fun x hx => hpos x (List.mem_of_mem_drop (List.mem_of_mem_take hx))
    have hrn : ∀ r ∈ rows, ∀ x ∈ r, 0 ≤ x := fun r hr x hx => hpos x (List.mem_of_mem_drop (rows_mem hrows r hr x hx))
    have hkk : kk ≤ 100 := by
      have h1 := rows_few cl
      rw [← R.rows, List.length_map] at h1
      omega
    refine ⟨fun σ2 H2' => ∃ pl' v4 v5 v6 v7 v8, σ2 = [some (.ref a), some (.ref m), some (.ref t), some (nv pl'), v4, v5, v6, v7, v8] ∧ pl < pl' ∧ pl' ≤ ns.length ∧ Lp K C T a m t dxm ns pl' H2', fun σ2 H2' ⟨pl', w4, w5, w6, w7, w8, q1, q2, q3, q4⟩ => ⟨ns.length - pl', by omega, pl', w4, w5, w6, w7, w8, q1, rfl, q3, q4⟩, ?_⟩
    refine q_asg (v := nv (codeN cl)) (ev_ixL (ev_var rfl) (ev_var rfl) (haH e5) (by rw [List.getElem?_map, hp, hcode]; rfl)) fun H6 e6 => ?_
    refine q_asg (v := .ref fa) (ev_ixT ev_c (ev_var rfl) (hfF _) (refs_at hfa)) fun H7 e7 => ?_
    refine q_asg (v := nv (pl + 1 + n)) (ev_addN (ev_addN (n := 1) (ev_var rfl) ev_c) (ev_ixT (n := 0) (ev_var rfl) ev_c (hform _) rfl)) fun H8 e8 => ?_
    have e48 := ((e5.trans e6).trans e7).trans e8
    refine q_asgC (ea_cons (ev_var rfl) (ea_cons (ev_var rfl) (ea_cons (ev_ixT (n := 1) (ev_var rfl) ev_c (hform _) rfl) ea_nil))) fun H9 e9 => ?_
    have e49 := e48.trans e9
    refine ⟨a, pl + 1 + n, kk, ns, rows, rest, rfl, haH e49, hlen, hpos, hkk, by omega, hrows, fun re w as p' J1 hre x1 hre1 hw hw1 hal hrow hrest hp1 hp2 => ?_⟩
    have x41 := e49.trans x1
    have M1 := M.ext x41
    have hfresh : ∀ {b : Addr}, H9 b = none → ¬ S b := fun hb z => M.dom _ z (fresh_back e49 hb)
    -- the call answered
    have hnums : EvL (tSl (rSlL K) (tVar 0) (tPart (tOp qAdd (tVar 3) (tC (.int 1)))) (tPart (tVar 6))) [some (.ref a), some (.ref m), some (.ref t), some (nv pl), some (nv (codeN cl)), some (.ref fa), some (nv (pl + 1 + n)), some (.ref re), v8] J1 (nvs (numsN cl)) := by
      have e : nvs (numsN cl) = cutV (ns.map V.int) (some ((pl + 1 : Nat) : Int)) (some ((pl + 1 + n : Nat) : Int)) := by
        rw [cut_nat _ (by rw [List.length_map]; omega), ← List.map_drop, ← List.map_take, nums_nats hnn, R.nums]
      rw [e]
      exact el_sl (ev_var rfl) (eo_some (ev_addN (n := 1) (ev_var rfl) ev_c)) (eo_some (ev_var rfl)) (haH x41)
    refine q_asgC4 (ev_var (v := .ref m) rfl) (ev_var (v := nv (codeN cl)) rfl) hnums (ev_ixT (n := 0) (v := .ref w) (ev_var rfl) ev_c (st_of hre1) rfl) fun nm J5 hnm x15 hnm5 => ?_
    have M5 := M1.ext x15
    have nnm : ¬ S nm := fun z => M1.dom _ z hnm
    refine ⟨S, m, t, dxm, d, e, u, nm, w, ts.map V.int, es, us, s, cl, R.ok, rfl, M5, sq_of (cut_lst nnm hnm5), ⟨⟨as, sq_of (cut_lst (hfresh hw) (x15 _ _ hw1)), ?_, fun i b r hb hr => ?_⟩⟩, fun q S' d' e' u' es' us' J6 hq hq6 nq cx M6 => ?_⟩
    · rw [hal, ← R.rows, List.length_map]
    · rw [← R.rows, List.getElem?_map] at hr
      cases q : rows[i]? with
      | none => rw [q] at hr; cases hr
      | some r0 =>
        rw [q] at hr
        have er := Option.some.inj hr
        obtain ⟨g1, g2⟩ := hrow i b r0 hb q
        rw [← er, ← nums_nats (hrn r0 (List.mem_of_getElem? q))]
        exact sq_of (cut_lst (hfresh g1) (x15 _ _ g2))
    -- told
    have hstep : HdNeutral.step s (PyWrvwhd.whole ((p :: (ns.drop (pl + 1)).take n) :: rows)) = ((HdSpec.step s cl).1, HdNeutral.numbers (HdSpec.step s cl).2) := by
      unfold HdNeutral.step
      rw [R.call]
    have hfin2 : ts ++ (((HdNeutral.numbers (HdSpec.step s cl).2).length : Int) :: (HdNeutral.numbers (HdSpec.step s cl).2 ++ PyFlat.told (PyFlat.played HdNeutral.step (HdSpec.step s cl).1 (cs.map PyWrvwhd.whole)))) = PyWrvwhd.answers ns := by
      rw [← hfin, hrw, List.map_cons, PyFlat.played, hstep]
      rfl
    have hbig : ts.length + 1 + (HdNeutral.numbers (HdSpec.step s cl).2).length ≤ 10000000 := by
      have := congrArg List.length hfin2
      rw [List.length_append, List.length_cons, List.length_append] at this
      omega
    have hav : anV (HdSpec.step s cl).2 = (HdNeutral.numbers (HdSpec.step s cl).2).map V.int := rfl
    refine q_appBig M6.lt (ev_var rfl) (ev_len (ev_var rfl) (sq_of hq6)) (by rw [List.length_map, sizeLine_eq]; omega) fun J7 x7 => ?_
    have M7 := (M6.ext x7).told (ys := ts.map V.int ++ [V.int ((anV (HdSpec.step s cl).2).length : Int)])
    have nqt : q ≠ t := fun z => nq (by rw [z]; exact M6.st)
    have q7 : (upd J7 t (.lst (ts.map V.int ++ [V.int ((anV (HdSpec.step s cl).2).length : Int)]))) q = some (.lst (anV (HdSpec.step s cl).2)) := by rw [upd_ne nqt]; exact x7 _ _ hq6
    have c7 : Ex (cut S J5) (cut S' (upd J7 t (.lst (ts.map V.int ++ [V.int ((anV (HdSpec.step s cl).2).length : Int)])))) := (cx.trans (cut_ex x7)).trans (cut_upd M6.st)
    generalize upd J7 t (.lst (ts.map V.int ++ [V.int ((anV (HdSpec.step s cl).2).length : Int)])) = J8 at M7 q7 c7 ⊢
    refine q_ext M7.lt (ev_var rfl) (ev_var rfl) q7 (by rw [List.length_append, List.length_map, sizeLine_eq, hav, List.length_map]; show ts.length + 1 + _ ≤ _; omega) fun J9 x9 => ?_
    have M9 := (M7.ext x9).told (ys := ts.map V.int ++ [V.int ((anV (HdSpec.step s cl).2).length : Int)] ++ anV (HdSpec.step s cl).2)
    have c9 : Ex (cut S J5) (cut S' (upd J9 t (.lst (ts.map V.int ++ [V.int ((anV (HdSpec.step s cl).2).length : Int)] ++ anV (HdSpec.step s cl).2)))) := (c7.trans (cut_ex x9)).trans (cut_upd M7.st)
    generalize upd J9 t (.lst (ts.map V.int ++ [V.int ((anV (HdSpec.step s cl).2).length : Int)] ++ anV (HdSpec.step s cl).2)) = J10 at M9 c9 ⊢
    have re5 : cut S J5 re = some (.tup [.ref w, nv p']) := cut_iff.mpr ⟨hfresh hre, x15 _ _ hre1, fun ps z => nomatch z⟩
    have re10 : J10 re = some (.tup [.ref w, nv p']) := cut_sub _ _ _ _ (c9 _ _ re5)
    refine s_asg (v := nv p') (ev_ixT (n := 1) (ev_var rfl) ev_c (st_of re10) rfl) fun J11 x11 => ⟨p', _, _, _, _, _, rfl, by omega, hp2, ?_⟩
    have eall : ts.map V.int ++ [V.int ((anV (HdSpec.step s cl).2).length : Int)] ++ anV (HdSpec.step s cl).2 = (ts ++ (((HdNeutral.numbers (HdSpec.step s cl).2).length : Int) :: HdNeutral.numbers (HdSpec.step s cl).2)).map V.int := by
      rw [hav, List.length_map, List.map_append, List.map_cons, List.append_assoc]; rfl
    rw [eall] at M9
    refine ⟨⟨S', d', e', u', es', us', (HdSpec.step s cl).1, _, f', cs, M9.ext x11, ex_l (((cut_ex (x41.trans x15)).trans c9).trans (cut_ex x11)) hS, by rw [hrest]; exact hcs, fun c hc => hins c (by rw [hrw]; exact List.mem_cons_of_mem _ hc), ?_⟩⟩
    rw [← hfin2, List.append_assoc]; rfl
  · -- the end
    have hge : pl = ns.length := by have := of_decide_eq_false hb; omega
    rw [hge, List.drop_length] at hcalls
    have hr0 : raw = [] := by cases f <;> exact (Option.some.inj hcalls).symm
    rw [hr0] at hfin
    have hts : ts = PyWrvwhd.answers ns := by
      rw [← hfin]; exact (List.append_nil ts).symm
    have M5 := M.ext e5
    refine s_ret (v := .ref t) (ev_var rfl) fun H6 e6 => k H6 t ?_ ((M5.ext e6).tab)
    rw [← hts]; exact e6 _ _ M5.lt
end Pp
end
section
set_option Elab.async false
set_option linter.all false
set_option maxRecDepth 100000
set_option maxHeartbeats 2000000
/-! ### the end of a row against a function, where one table of code objects may grow -/
namespace Pp
open PySem PySem.Spec PyProof.Rows L2 LamX
open PySem.W (WData WellAll ReadsW Codec OpenSpec)
/-- what the head gives of the table at Pt of the code object at cd -/
structure TabH (K : PySem.W.Frag) (hp : Heap) (cd Pt : Addr) : Prop where
  empt : hp.get? Pt = some { cls := .none, data := .fields #[] }
  free : K.lookup Pt = none
  code : PySem.W.CodeHd hp cd Pt
section
variable {Pg : Program} {wd : World} {K : PySem.W.Frag} {mg mb : Str → Option Value} {k : Nat} {fa cd Pt : Addr} {fd : FuncData} {ps : List Str} {sp : Sp} {sh : Shared} {vals : List Value} {ds : List WData} {Rc : PySem.W.WRecords} {cls : Str → Option Addr} {due : WData}
theorem call_withTab (KX : K.In sh.heap) (nsM : sh.heap.Ns mainGlobals mg) (nsB : sh.heap.Ns builtinsNs mb) (bts : ∀ x : Str, x ≠ "__name__" → mb x = bootBuiltins x) (nl : sh.heap.NoLimit) (ng : sh.gens = #[])
    (bm : ∃ (b : Addr) (ob : Obj), mg "__builtins__" = some (.ref b) ∧ b ≠ builtinsNs ∧ sh.heap.get? b = some ob ∧ ob.cls = .type "module" ∧ ob.dict = some builtinsNs ∧ ob.data = .plain)
    (wl : WellAll wd.params sh.heap vals ds) (plain : plWs ds = true) (light : ∀ x ∈ ds, x.weight ≤ 1048576) (room : Room k callerA) (tb : TabH K sh.heap cd Pt)
    (fn : ∀ base : Heap, K.In base → base.Ns mainGlobals mg → TabB base mg cd Pt → FnOk Pg wd K mg base C8.CX0 k fa fd ps sp) (bind : ∀ (s : Shared) (us : List Value), us.length = ps.length → BindsTo s fd ⟨us, []⟩ (ps.zip us)) (nargs : ds.length = ps.length)
    (main : ∀ (H0 H : Hp) (xs : List V), Evl.Ex H0 H → H Pt = some (.tbl #[]) → DwAll K H0 xs ds → sp xs H (fun v H' => Dw K H' v due) fun _ _ _ => False) :
    codeAny (model Pg wd) callerA (.call (.ref fa) ⟨vals, []⟩) (fun r s' => ∃ u as, r = .ok (.ret u) ∧ ReadsW Rc cls s'.heap u due as ∧ OldK sh.heap s'.heap ∧ s'.os = sh.os ∧ AllBare s'.gens) sh := by
  obtain ⟨A, okA, arA⟩ := area_all ds vals wl plain light
  have frz := argH_only (K := K) arA
  have told := dw_all KX arA ds vals wl plain okA
  have rel := vals_toV okA
  have isA : ∀ {b : Addr} {v : HO}, argH K sh.heap A b = some v → K.lookup b = none ∧ ∃ us : List Value, ∃ cl : Value, sh.heap.get? b = some { cls := cl, data := .seq us.toArray } := fun {b v} q => by
    obtain ⟨n, us, _, _, ⟨g, _⟩ | ⟨g, _⟩⟩ := argH_is arA q
    · exact ⟨n, us, _, g⟩
    · exact ⟨n, us, _, g⟩
  have offT : argH K sh.heap A Pt = none := by
    cases q : argH K sh.heap A Pt with
    | none => rfl
    | some v =>
      obtain ⟨_, us, cl, g⟩ := isA q
      rw [tb.empt] at g
      cases g
  -- what is tracked: the arguments, and the table
  have inH : ∀ {b : Addr} {v : HO}, upd (argH K sh.heap A) Pt (.tbl #[]) b = some v → (b = Pt ∧ v = .tbl #[]) ∨ (b ≠ Pt ∧ argH K sh.heap A b = some v) := fun {b v} q => by
    by_cases z : b = Pt
    · subst z; rw [upd_same] at q; exact .inl ⟨rfl, (Option.some.inj q).symm⟩
    · rw [upd_ne z] at q; exact .inr ⟨z, q⟩
  have okH : HOk Pg wd (upd (argH K sh.heap A) Pt (.tbl #[])) sh.heap := fun b v q => by
    rcases inH q with ⟨z, y⟩ | ⟨_, q2⟩
    · subst z y; exact tb.empt
    · obtain ⟨_, us, l1, l2, ⟨g, y⟩ | ⟨g, y⟩⟩ := argH_is arA q2
      · subst y; exact ⟨g, by rw [List.length_map]; exact l1, us, _, vals_toV l2, g⟩
      · subst y; exact ⟨g, by rw [List.length_map]; exact l1, us, vals_toV l2, _, g, rfl, _, rfl⟩
  have hid : ∀ {b : Addr} {o : Obj}, sh.heap.get? b = some o → (∀ us n, o.data ≠ .seq us n) → o.data ≠ .fields #[] → upd (argH K sh.heap A) Pt (.tbl #[]) b = none := fun {b o} g n1 n2 => by
    cases q : upd (argH K sh.heap A) Pt (.tbl #[]) b with
    | none => rfl
    | some v =>
      rcases inH q with ⟨z, _⟩ | ⟨_, q2⟩
      · rw [z, tb.empt] at g; cases g; exact absurd rfl n2
      · obtain ⟨_, us, cl, g2⟩ := isA q2
        rw [g] at g2; cases g2; exact absurd rfl (n1 _ _)
  have notK : ∀ b o, K.lookup b = some o → upd (argH K sh.heap A) Pt (.tbl #[]) b = none := fun b o g => by
    cases q : upd (argH K sh.heap A) Pt (.tbl #[]) b with
    | none => rfl
    | some v =>
      rcases inH q with ⟨z, _⟩ | ⟨_, q2⟩
      · rw [z, tb.free] at g; cases g
      · rw [(isA q2).1] at g; cases g
  have ext : Evl.Ex (argH K sh.heap A) (upd (argH K sh.heap A) Pt (.tbl #[])) := Evl.Ex.new offT
  have atT : upd (argH K sh.heap A) Pt (.tbl #[]) Pt = some (.tbl #[]) := upd_same
  have oldT : ∀ b, b ≠ Pt → upd (argH K sh.heap A) Pt (.tbl #[]) b = argH K sh.heap A b := fun b z => upd_ne z
  generalize hH : upd (argH K sh.heap A) Pt (.tbl #[]) = H at okH hid notK ext atT oldT
  have toB : ∀ {b : Addr} {o : Obj}, sh.heap.get? b = some o → H b = none → (hidT sh.heap H).get? b = some o := fun g n => hidT_get g n
  have noDict : ∀ {b : Addr} {o : Obj} {es : Array DictEntry} {ep : Nat}, sh.heap.get? b = some o → o.data = .dict es ep → H b = none := fun g q => hid g (fun us n z => by rw [q] at z; cases z) (fun z => by rw [q] at z; cases z)
  have toNs : ∀ {b : Addr} {f : Str → Option Value}, sh.heap.Ns b f → (hidT sh.heap H).Ns b f := fun {b f} x => by
    obtain ⟨o, es, ep, g, q, r⟩ := x
    exact ⟨o, es, ep, toB g (noDict g q), q, r⟩
  have KB : K.In (hidT sh.heap H) := fun b o g => toB (KX b o g) (notK b o g)
  have md : Mod K mg (hidT sh.heap H) := by
    obtain ⟨mc, n1, n2⟩ := nl
    exact ⟨KB, toNs nsM, ⟨mb, toNs nsB, bts⟩, ⟨mc, toNs n1, n2⟩⟩
  have tbB : TabB (hidT sh.heap H) mg cd Pt := by
    refine ⟨?_, ?_, fun z => ?_⟩
    · obtain ⟨o, us, fl, tf, fg, tg, iF, tx, tt, g, r1, r2, r3, r4, r5, r6, r7, r8, r9⟩ := tb.code
      refine ⟨o, us, fl, tf, fg, tg, iF, tx, tt, toB g (hid g (fun vs n z => ?_) fun z => ?_), r1, r2, r3, r4, r5, r6, r7, r8, r9⟩
      · rw [r2] at z; cases z
      · rw [r2] at z; cases z; simp at r3
    · obtain ⟨b, ob, b1, b2, b3, b4, b5, b6⟩ := bm
      refine ⟨b, ob, b1, b2, fun z => ?_, fun z => ?_, toB b3 (hid b3 (fun vs n z => ?_) fun z => ?_), b4, b5, b6⟩
      · obtain ⟨o, es, ep, g, q, _⟩ := nsM
        rw [z, g] at b3; cases b3; rw [q] at b6; cases b6
      · rw [z, tb.empt] at b3; cases b3; cases b6
      · rw [b6] at z; cases z
      · rw [b6] at z; cases z
    · obtain ⟨o, es, ep, g, q, _⟩ := nsM
      rw [z, tb.empt] at g; cases g; cases q
  have env : Env0 Pg wd K mg (hidT sh.heap H) callerA [] sh H := ⟨rfl, md, fun b o g => of_hidT g, Nat.le_of_eq (hidT_size _ _), trivial, fun b hb => absurd (show b ∈ ([] : List Addr) from hb) (by simp), okH, .of_eq ng⟩
  have nv' : vals.length = ps.length := by rw [wellAll_len wl]; exact nargs
  refine codeAny_mono ((fn _ KB (toNs nsM) tbB).run callerA [] sh H ⟨vals, []⟩ vals (vals.map toV) _ _ room env (bind sh vals nv') rel (main _ H _ ext atT told)) fun r s' x => ?_
  cases r with
  | error err => exact (show False from x).elim
  | ok fl =>
    cases fl with
    | next => exact (show False from x).elim
    | brk => exact (show False from x).elim
    | cont => exact (show False from x).elim
    | ret u =>
      obtain ⟨v, H', os, bare, un, ok', r', q⟩ := x
      have kept : ∀ b o, b ≠ Pt → sh.heap.get? b = some o → s'.heap.get? b = some o := fun b o nb g => by
        cases q2 : H b with
        | none => exact un.keep b o g q2 (by intro z; exact absurd (show b ∈ ([] : List Addr) from z) (by simp)) (by simp)
        | some u2 =>
          rcases frz b with z | ⟨ob, u3, z⟩
          · rw [← oldT b nb, q2] at z; cases z
          · rw [← oldT b nb] at z
            obtain ⟨g1, _⟩ := okH b _ z
            obtain ⟨g2, _⟩ := ok' b _ (un.frzs b ob _ z)
            rw [g] at g1; cases g1
            exact g2
      have nKT : ∀ b o, K.lookup b = some o → b ≠ Pt := fun b o g z => by rw [z, tb.free] at g; cases g
      have KX' : K.In s'.heap := fun b o g => kept b o (nKT b o g) (KX b o g)
      obtain ⟨as, rd⟩ := Dw.reads (R := Rc) (cl := cls) ok' KX' due v u q r'
      obtain ⟨more, gr⟩ := un.tbls Pt #[] atT
      have gr' := ok' Pt _ gr
      refine ⟨u, as, rfl, rd, ⟨fun b o g => ?_, fun b o g => ?_⟩, os, bare⟩
      · by_cases z : b = Pt
        · rw [z, tb.empt] at g
          cases g
          rw [z]
          exact .inr (.inl ⟨(tb.code.tab tb.empt).isCodeTable, rfl, #[], more, rfl, gr'⟩)
        · exact .inl (kept b o z g)
      · by_cases z : b = Pt
        · rw [z]; exact ⟨_, gr'⟩
        · exact ⟨o, kept b o z g⟩
end
theorem spec_end {r : OpenSpec} {k : Nat} {q : Program} {loose : List Str} {XP : (Str → Option Value) → Heap → Prop} {YP : World → Heap → Prop} {d : DefRec} {Kf : Params → PySem.W.Frag} {ps : List Str} {sp : PySem.W.Frag → List (Addr × Str) → Sp} {x0 ql : Str}
    (said : r.wellSaid = true) (nd : d.params.defaults = []) (nargs : r.args.length = ps.length) (room : Room k callerA) (rec : ∃ dt : DefRec, (recsOf q).find? (fun e => e.name == x0) = some dt)
    (inK : ∀ (w : World) (h : Heap), YP w h → (Kf w.params).In h)
    (fn : ∀ (w : World) (mg : Str → Option Value) (fa : Addr) (h : Heap), (Kf w.params).In h → h.Ns mainGlobals mg → mg d.name = some (.ref fa) →
      ∃ (fd : FuncData) (cd Pt : Addr), PySem.W.tabIn (Kf w.params) x0 = some (cd, Pt) ∧ (Kf w.params).lookup Pt = none ∧ (∀ (s : Shared) (us : List Value), us.length = ps.length → BindsTo s fd ⟨us, []⟩ (ps.zip us)) ∧
        ∀ base : Heap, (Kf w.params).In base → base.Ns mainGlobals mg → TabB base mg cd Pt → FnOk r.prog w (Kf w.params) mg base C8.CX0 k fa fd ps (sp (Kf w.params) [(Pt, ql)]))
    (main : ∀ (K : PySem.W.Frag) (Pt : Addr) (H0 H : Hp) (xs : List V) (a : Codec.denoteAll r.args), Evl.Ex H0 H → H Pt = some (.tbl #[]) → Codec.withinAll r.args a = true → Codec.app r.args r.asked a = true → DwAll K H0 xs (Codec.encAll r.args a) →
      sp K [(Pt, ql)] xs H (fun v H' => Dw K H' v (r.ret.enc (Codec.app r.args r.f a))) fun _ _ _ => False) :
    PySem.W.WalkOS q loose XP YP r d [] (fun f vs => PySem.call f vs) := by
  intro w s0 s1 mg mb G Y fa o pm cd doc dV kV _ _ _ _ hmg ng args vals as pre lay _ wl _
  obtain ⟨a, e1, e2⟩ := PySem.W.os_pre_some pre
  obtain ⟨e3, wi⟩ := Codec.encAll_of_decAll r.args args a e1
  subst e3
  have KX := inK w _ Y
  obtain ⟨fd, c0, Pt, ht, hf, hb, hF⟩ := fn w mg fa _ KX G.T.g hmg
  obtain ⟨dt, hdt⟩ := rec
  obtain ⟨t1, t2⟩ := PySem.W.tab_of G.T KX hdt ht
  refine PySem.W.enter_call (codeAny_mono (call_withTab (Rc := []) (cls := classAt s0.heap) (due := r.ret.enc (Codec.app r.args r.f a)) KX G.T.g G.T.b G.T.builtins G.T.nolimit ng G.T.bmain wl (pl_encAll _ _) (layable_weight lay) room ⟨t2, hf, t1⟩ hF hb (by rw [encAll_len]; exact nargs)
    (fun H0 H xs ex hT hS => main _ Pt H0 H xs a ex hT wi e2 hS)) fun r' s' hq => ?_)
  obtain ⟨u, as', rfl, h1, h2, h3, h4⟩ := hq
  exact ⟨.inl ⟨u, _, as', rfl, fun _ => rfl, h1, (PySem.W.OpenSpec.post_iff said wi _ _).mpr rfl, fun z => Bool.noConfusion (show false = true from z)⟩, h2, h3, h4⟩
end Pp
end
section
set_option Elab.async false
set_option linter.all false
set_option maxRecDepth 100000
set_option maxHeartbeats 2000000
/-! ### every def keeps its promise: from what the top has left -/
namespace Pp
open PySem PySem.Spec PyProof.Rows L2 LamX
structure DefF (K : PySem.W.Frag) (mg : Str → Option Value) (x : Str) (st : Stmt) : Prop where
  ex : ∃ (f : Addr) (oc : Value) (od : Option Addr) (kV doc pm : Value) (an : Option Addr) (cd ct : Value) (osl : Array (Option Value)), K.lookup f = some ⟨oc, od, .func (PySem.W.fnOf x x (C8.fnArgs st) (C8.fnBody st) (C8.fnScope st) .none kV doc pm an cd ct), osl⟩ ∧ PySem.W.codeIn K cd x = true ∧ mg x = some (.ref f) ∧ PySem.W.keepIn K (.ref f) = true
theorem DefF.of {K : PySem.W.Frag} {h : Heap} {mg : Str → Option Value} {x : Str} {st : Stmt} {f : Addr} {oc : Value} {od : Option Addr} {kV doc pm : Value} {an : Option Addr} {cd ct : Value} {osl : Array (Option Value)} (X : K.In h) (G : h.Ns mainGlobals mg) (a : PySem.W.nsIn K mainGlobals x = some (some (.ref f)))
    (l : K.lookup f = some ⟨oc, od, .func (PySem.W.fnOf x x (C8.fnArgs st) (C8.fnBody st) (C8.fnScope st) .none kV doc pm an cd ct), osl⟩) (c : PySem.W.codeIn K cd x = true) (k : PySem.W.keepIn K (.ref f) = true) : DefF K mg x st :=
  ⟨f, oc, od, kV, doc, pm, an, cd, ct, osl, l, c, PySem.W.mg_of X G a, k⟩
structure ClsF (K : PySem.W.Frag) (mg : Str → Option Value) (x q : Str) (C : Addr) (st : Stmt) : Prop where
  hm : mg x = some (.ref C)
  ex : ∃ (f : Addr) (oc : Value) (od : Option Addr) (kV doc pm : Value) (an : Option Addr) (cd ct : Value) (osl : Array (Option Value)), K.lookup f = some ⟨oc, od, .func (PySem.W.fnOf "__init__" q (C8.fnArgs st) (C8.fnBody st) (C8.fnScope st) .none kV doc pm an cd ct), osl⟩ ∧ PySem.W.codeIn K cd q = true ∧ Mk K C f
theorem ClsF.of {K : PySem.W.Frag} {h : Heap} {mg : Str → Option Value} {x q : Str} {C : Addr} {st : Stmt} {f : Addr} {oc : Value} {od : Option Addr} {kV doc pm : Value} {an : Option Addr} {cd ct : Value} {osl : Array (Option Value)} (X : K.In h) (G : h.Ns mainGlobals mg) (a : PySem.W.nsIn K mainGlobals x = some (some (.ref C)))
    (fi : PySem.W.findIn K (.ref C) "__init__" = some (some (.ref f))) (i : PySem.W.isFn K (.ref f) = true) (l : K.lookup f = some ⟨oc, od, .func (PySem.W.fnOf "__init__" q (C8.fnArgs st) (C8.fnBody st) (C8.fnScope st) .none kV doc pm an cd ct), osl⟩) (c : PySem.W.codeIn K cd q = true) (mk : PySem.W.makesIn K C = true) (kc : PySem.W.keepIn K (.ref C) = true) : ClsF K mg x q C st :=
  ⟨PySem.W.mg_of X G a, f, oc, od, kV, doc, pm, an, cd, ct, osl, l, c, ⟨mk, fi, i, kc⟩⟩
/-- by_worth, whose lambda's code objects stand in a table -/
structure LamF (K : PySem.W.Frag) (mg : Str → Option Value) (c : Addr) : Prop where
  ex : ∃ (f : Addr) (oc : Value) (od : Option Addr) (kV doc pm : Value) (an : Option Addr) (ct : Value) (osl : Array (Option Value)), K.lookup f = some ⟨oc, od, .func (PySem.W.fnOf "by_worth" "by_worth" (C8.fnArgs s_by_worth) (C8.fnBody s_by_worth) (C8.fnScope s_by_worth) .none kV doc pm an (.ref c) ct), osl⟩ ∧ PySem.W.codeIn K (.ref c) "by_worth" = true ∧ mg "by_worth" = some (.ref f) ∧ PySem.W.keepIn K (.ref f) = true
section
variable {P : Program} {w : World} {K : PySem.W.Frag} {mg : Str → Option Value} {base : Heap}
theorem cal_of {x : Str} {st : Stmt} {N ps : List Str} {k : Nat} {sp : Sp} (D : DefF K mg x st) (S : FnScope N ps (C8.fnScope st)) (hb : ∀ (kV doc pm : Value) (an : Option Addr) (cdv ct : Value) (us : List Value), us.length = ps.length → bindArgs (PySem.W.fnOf x x (C8.fnArgs st) (C8.fnBody st) (C8.fnScope st) .none kV doc pm an cdv ct) ⟨us, []⟩ = pure (ps.zip us)) (len : ∀ vs H Q E, sp vs H Q E → vs.length = ps.length)
    (body : ∀ (f : Addr) (cdv : Value) (A : Around) (outer : List Env) (s : Shared) (H : Hp) (vs : List V) (Q : VK) (E : XK), Room k (A.deeper (envOfC x (C8.fnScope st) s.heap.objs.size f cdv)) → sp vs H Q E → ∃ t, PSs (cxOf C8.CX0 P w K mg base N x (C8.fnScope st) f cdv A outer s H E).nox (C8.fnBody st) t ∧ t { nx := fun _ H' => Q .non H', rt := Q } (L2.start N vs) H) : C8.Cal P w K mg base (k + 1) x sp [] := by
  obtain ⟨f, oc, od, kV, doc, pm, an, cd, ct, osl, l, c, hm, kp⟩ := D.ex
  have F : C8.Fun K x x st f (PySem.W.fnOf x x (C8.fnArgs st) (C8.fnBody st) (C8.fnScope st) .none kV doc pm an cd ct) := ⟨oc, od, _, kV, doc, pm, an, cd, ct, osl, rfl, l, c⟩
  exact C8.cal0 ⟨F, hm, kp⟩ (F.binds rfl hb) .nil S len (fun cdv A outer s H vs Q E hr h => body f cdv A outer s H vs Q E hr h)
theorem mak_of {x q : Str} {C : Addr} {st : Stmt} {N ps : List Str} {k : Nat} {sp : Sp} (D : ClsF K mg x q C st) (S : FnScope N ps (C8.fnScope st)) (hb : ∀ (kV doc pm : Value) (an : Option Addr) (cdv ct : Value) (us : List Value), us.length = ps.length → bindArgs (PySem.W.fnOf "__init__" q (C8.fnArgs st) (C8.fnBody st) (C8.fnScope st) .none kV doc pm an cdv ct) ⟨us, []⟩ = pure (ps.zip us)) (len : ∀ vs H Q E, sp vs H Q E → vs.length = ps.length)
    (body : ∀ (f : Addr) (cdv : Value) (A : Around) (outer : List Env) (s : Shared) (H : Hp) (vs : List V) (Q : VK) (E : XK), Room k (A.deeper (envOfC q (C8.fnScope st) s.heap.objs.size f cdv)) → sp vs H Q E → ∃ t, PSs (cxOf C8.CX0 P w K mg base N q (C8.fnScope st) f cdv A outer s H E).nox (C8.fnBody st) t ∧ t { nx := fun _ H' => Q .non H', rt := Q } (L2.start N vs) H) : C8.Mak P w K mg base (k + 1) x C sp [] := by
  obtain ⟨f, oc, od, kV, doc, pm, an, cd, ct, osl, l, c, M⟩ := D.ex
  have F : C8.Fun K "__init__" q st f (PySem.W.fnOf "__init__" q (C8.fnArgs st) (C8.fnBody st) (C8.fnScope st) .none kV doc pm an cd ct) := ⟨oc, od, _, kV, doc, pm, an, cd, ct, osl, rfl, l, c⟩
  exact C8.mak0 M D.hm F (F.binds rfl hb) .nil S len (fun cdv A outer s H vs Q E hr h => body f cdv A outer s H vs Q E hr h)
end
/-- all that is known of the top -/
structure AllF (K : PySem.W.Frag) (mg : Str → Option Value) (C : Cs) (aF c Pt : Addr) : Prop where
  txt : Txt K mg
  cc : CC K C
  forms : Fms K aF
  hF : ∃ u, mg "FORMS" = some u ∧ RelV (.ref aF) u
  lam : LamF K mg c
  d_with_row : DefF K mg "with_row" s_with_row
  d_is_table : DefF K mg "is_table" s_is_table
  d_loss_at : DefF K mg "loss_at" s_loss_at
  d_left_after_loss : DefF K mg "left_after_loss" s_left_after_loss
  d_is_giver : DefF K mg "is_giver" s_is_giver
  d_passed : DefF K mg "passed" s_passed
  d_step : DefF K mg "step" s_step
  d_could_give : DefF K mg "could_give" s_could_give
  d_class_sums : DefF K mg "class_sums" s_class_sums
  d_scope_sums : DefF K mg "scope_sums" s_scope_sums
  d_under : DefF K mg "under" s_under
  d_given_in_all : DefF K mg "given_in_all" s_given_in_all
  d_level_and_rest : DefF K mg "level_and_rest" s_level_and_rest
  d_levelled : DefF K mg "levelled" s_levelled
  d_with_class_levelled : DefF K mg "with_class_levelled" s_with_class_levelled
  d_fairest : DefF K mg "fairest" s_fairest
  d_least_losing : DefF K mg "least_losing" s_least_losing
  d_shares_by : DefF K mg "shares_by" s_shares_by
  d_copy_of : DefF K mg "copy_of" s_copy_of
  d_with_one : DefF K mg "with_one" s_with_one
  d_in_force : DefF K mg "in_force" s_in_force
  d_brought_down : DefF K mg "brought_down" s_brought_down
  d_limits_without : DefF K mg "limits_without" s_limits_without
  d_limits_under : DefF K mg "limits_under" s_limits_under
  d_limits_now : DefF K mg "limits_now" s_limits_now
  d_own_losses : DefF K mg "own_losses" s_own_losses
  d_binding : DefF K mg "binding" s_binding
  d_clearing : DefF K mg "clearing" s_clearing
  d_steps : DefF K mg "steps" s_steps
  d_able_after : DefF K mg "able_after" s_able_after
  d_able_next : DefF K mg "able_next" s_able_next
  d_count_orders : DefF K mg "count_orders" s_count_orders
  d_go_through : DefF K mg "go_through" s_go_through
  d_tell_giver : DefF K mg "tell_giver" s_tell_giver
  d_tell_away : DefF K mg "tell_away" s_tell_away
  d_tell_ramps : DefF K mg "tell_ramps" s_tell_ramps
  d_tell_rule : DefF K mg "tell_rule" s_tell_rule
  d_tell_order : DefF K mg "tell_order" s_tell_order
  d_tell_back : DefF K mg "tell_back" s_tell_back
  d_tell_quarter : DefF K mg "tell_quarter" s_tell_quarter
  d_take_over : DefF K mg "take_over" s_take_over
  d_tell_undo : DefF K mg "tell_undo" s_tell_undo
  d_tell_redo : DefF K mg "tell_redo" s_tell_redo
  d_tell_begin : DefF K mg "tell_begin" s_tell_begin
  d_is_allowed : DefF K mg "is_allowed" s_is_allowed
  d_judgement : DefF K mg "judgement" s_judgement
  d_loss_of : DefF K mg "loss_of" s_loss_of
  d_full_classes : DefF K mg "full_classes" s_full_classes
  d_prices_told : DefF K mg "prices_told" s_prices_told
  d_fits_worth : DefF K mg "fits_worth" s_fits_worth
  d_is_proof : DefF K mg "is_proof" s_is_proof
  d_is_able : DefF K mg "is_able" s_is_able
  d_ask_could : DefF K mg "ask_could" s_ask_could
  d_ask_limits : DefF K mg "ask_limits" s_ask_limits
  d_ask_parts : DefF K mg "ask_parts" s_ask_parts
  d_ask_judge : DefF K mg "ask_judge" s_ask_judge
  d_ask_prices : DefF K mg "ask_prices" s_ask_prices
  d_ask_proof : DefF K mg "ask_proof" s_ask_proof
  d_ask_binds : DefF K mg "ask_binds" s_ask_binds
  d_ask_clears : DefF K mg "ask_clears" s_ask_clears
  d_ask_lost : DefF K mg "ask_lost" s_ask_lost
  d_ask_told : DefF K mg "ask_told" s_ask_told
  d_ask_state : DefF K mg "ask_state" s_ask_state
  d_ask_sums : DefF K mg "ask_sums" s_ask_sums
  d_ask_passes : DefF K mg "ask_passes" s_ask_passes
  d_read_rows : DefF K mg "read_rows" s_read_rows
  d_answer_change : DefF K mg "answer_change" s_answer_change
  d_answer_remembered : DefF K mg "answer_remembered" s_answer_remembered
  d_answer_question : DefF K mg "answer_question" s_answer_question
  d_answer_record : DefF K mg "answer_record" s_answer_record
  d_answer_turn : DefF K mg "answer_turn" s_answer_turn
  d_answer_call : DefF K mg "answer_call" s_answer_call
  d_answers : DefF K mg "answers" s_answers
  k_Giver : ClsF K mg "Giver" "Giver.__init__" C.G s_Giver__init__
  k_Order : ClsF K mg "Order" "Order.__init__" C.O s_Order__init__
  k_Desk : ClsF K mg "Desk" "Desk.__init__" C.D s_Desk__init__
  k_Memory : ClsF K mg "Memory" "Memory.__init__" C.M s_Memory__init__
section
variable {P : Program} {w : World} {K : PySem.W.Frag} {mg : Str → Option Value} {base : Heap} {C : Cs} {aF c Pt : Addr}
theorem ok_with_row (A : AllF K mg C aF c Pt) (TB : TabB base mg c Pt) : C8.Cal P w K mg base 1 "with_row" (sp_with_row) [] := by
  have cc := A.cc
  refine cal_of (k := 0) A.d_with_row sc_with_row (fun _ _ _ _ _ _ us hl => match us, hl with | [_, _], _ => rfl) (fun vs H Q E h => ?_) (fun f cdv A1 outer s H vs Q E hr h => ⟨_, dv_with_row A.txt hr, pure_with_row h⟩)
  obtain ⟨_, _, _, rfl, _⟩ := h
  rfl
theorem ok_is_table (A : AllF K mg C aF c Pt) (TB : TabB base mg c Pt) : C8.Cal P w K mg base 1 "is_table" (sp_is_table K) [] := by
  have cc := A.cc
  refine cal_of (k := 0) A.d_is_table sc_is_table (fun _ _ _ _ _ _ us hl => match us, hl with | [_], _ => rfl) (fun vs H Q E h => ?_) (fun f cdv A1 outer s H vs Q E hr h => ⟨_, dv_is_table A.txt hr, pure_is_table h⟩)
  obtain ⟨_, _, rfl, _⟩ := h
  rfl
theorem ok_loss_at (A : AllF K mg C aF c Pt) (TB : TabB base mg c Pt) : C8.Cal P w K mg base 1 "loss_at" (sp_loss_at K) [] := by
  have cc := A.cc
  refine cal_of (k := 0) A.d_loss_at sc_loss_at (fun _ _ _ _ _ _ us hl => match us, hl with | [_, _], _ => rfl) (fun vs H Q E h => ?_) (fun f cdv A1 outer s H vs Q E hr h => ⟨_, dv_loss_at A.txt hr, pure_loss_at h⟩)
  obtain ⟨_, _, _, rfl, _⟩ := h
  rfl
theorem ok_left_after_loss (A : AllF K mg C aF c Pt) (TB : TabB base mg c Pt) : C8.Cal P w K mg base 2 "left_after_loss" (sp_left_after_loss K) [] := by
  have cc := A.cc
  refine cal_of (k := 1) A.d_left_after_loss sc_left_after_loss (fun _ _ _ _ _ _ us hl => match us, hl with | [_, _], _ => rfl) (fun vs H Q E h => ?_) (fun f cdv A1 outer s H vs Q E hr h => ⟨_, dv_left_after_loss A.txt hr (ok_loss_at A TB), pure_left_after_loss h⟩)
  obtain ⟨_, _, _, rfl, _⟩ := h
  rfl
theorem ok_Giver (A : AllF K mg C aF c Pt) (TB : TabB base mg c Pt) : C8.Mak P w K mg base 1 "Giver" C.G (sp_Giver K C.G) [] := by
  have cc := A.cc
  refine mak_of (k := 0) A.k_Giver sc_Giver__init__ (fun _ _ _ _ _ _ us hl => match us, hl with | [_, _, _, _, _, _, _, _, _], _ => rfl) (fun vs H Q E h => ?_) (fun f cdv A1 outer s H vs Q E hr h => ⟨_, dv_Giver__init__ A.txt hr, pure_Giver__init__ cc.g h⟩)
  obtain ⟨_, _, _, _, rfl, _⟩ := h
  rfl
theorem ok_is_giver (A : AllF K mg C aF c Pt) (TB : TabB base mg c Pt) : C8.Cal P w K mg base 1 "is_giver" (sp_is_giver) [] := by
  have cc := A.cc
  refine cal_of (k := 0) A.d_is_giver sc_is_giver (fun _ _ _ _ _ _ us hl => match us, hl with | [_, _, _, _, _, _, _], _ => rfl) (fun vs H Q E h => ?_) (fun f cdv A1 outer s H vs Q E hr h => ⟨_, dv_is_giver A.txt hr, pure_is_giver h⟩)
  obtain ⟨_, _, _, _, _, _, _, rfl, _⟩ := h
  rfl
theorem ok_passed (A : AllF K mg C aF c Pt) (TB : TabB base mg c Pt) : C8.Cal P w K mg base 3 "passed" (sp_passed K C.G) [] := by
  have cc := A.cc
  refine cal_of (k := 2) A.d_passed sc_passed (fun _ _ _ _ _ _ us hl => match us, hl with | [_, _], _ => rfl) (fun vs H Q E h => ?_) (fun f cdv A1 outer s H vs Q E hr h => ⟨_, dv_passed A.txt hr (ok_left_after_loss A TB), pure_passed cc.g h⟩)
  obtain ⟨_, _, _, rfl, _⟩ := h
  rfl
theorem ok_step (A : AllF K mg C aF c Pt) (TB : TabB base mg c Pt) : C8.Cal P w K mg base 1 "step" (sp_step K C.G) [] := by
  have cc := A.cc
  refine cal_of (k := 0) A.d_step sc_step (fun _ _ _ _ _ _ us hl => match us, hl with | [_, _, _, _], _ => rfl) (fun vs H Q E h => ?_) (fun f cdv A1 outer s H vs Q E hr h => ⟨_, dv_step A.txt hr, pure_step cc.g h⟩)
  obtain ⟨_, _, _, _, _, rfl, _⟩ := h
  rfl
theorem ok_could_give (A : AllF K mg C aF c Pt) (TB : TabB base mg c Pt) : C8.Cal P w K mg base 4 "could_give" (sp_could_give K C.G) [] := by
  have cc := A.cc
  refine cal_of (k := 3) A.d_could_give sc_could_give (fun _ _ _ _ _ _ us hl => match us, hl with | [_, _, _, _], _ => rfl) (fun vs H Q E h => ?_) (fun f cdv A1 outer s H vs Q E hr h => ⟨_, dv_could_give A.txt hr (ok_passed A TB), pure_could_give cc.g h⟩)
  obtain ⟨_, _, _, _, _, rfl, _⟩ := h
  rfl
theorem ok_class_sums (A : AllF K mg C aF c Pt) (TB : TabB base mg c Pt) : C8.Cal P w K mg base 1 "class_sums" (sp_class_sums K C.G) [] := by
  have cc := A.cc
  refine cal_of (k := 0) A.d_class_sums sc_class_sums (fun _ _ _ _ _ _ us hl => match us, hl with | [_, _], _ => rfl) (fun vs H Q E h => ?_) (fun f cdv A1 outer s H vs Q E hr h => ⟨_, dv_class_sums A.txt hr, pure_class_sums cc.g h⟩)
  obtain ⟨_, _, _, _, rfl, _⟩ := h
  rfl
theorem ok_scope_sums (A : AllF K mg C aF c Pt) (TB : TabB base mg c Pt) : C8.Cal P w K mg base 2 "scope_sums" (sp_scope_sums K C.G) [] := by
  have cc := A.cc
  refine cal_of (k := 1) A.d_scope_sums sc_scope_sums (fun _ _ _ _ _ _ us hl => match us, hl with | [_, _], _ => rfl) (fun vs H Q E h => ?_) (fun f cdv A1 outer s H vs Q E hr h => ⟨_, dv_scope_sums A.txt hr (ok_class_sums A TB), pure_scope_sums h⟩)
  obtain ⟨_, _, _, _, rfl, _⟩ := h
  rfl
theorem ok_under (A : AllF K mg C aF c Pt) (TB : TabB base mg c Pt) : C8.Cal P w K mg base 1 "under" (sp_under) [] := by
  have cc := A.cc
  refine cal_of (k := 0) A.d_under sc_under (fun _ _ _ _ _ _ us hl => match us, hl with | [_, _], _ => rfl) (fun vs H Q E h => ?_) (fun f cdv A1 outer s H vs Q E hr h => ⟨_, dv_under A.txt hr, pure_under h⟩)
  obtain ⟨_, _, rfl, _⟩ := h
  rfl
theorem ok_given_in_all (A : AllF K mg C aF c Pt) (TB : TabB base mg c Pt) : C8.Cal P w K mg base 2 "given_in_all" (sp_given_in_all K C.G) [] := by
  have cc := A.cc
  refine cal_of (k := 1) A.d_given_in_all sc_given_in_all (fun _ _ _ _ _ _ us hl => match us, hl with | [_, _, _], _ => rfl) (fun vs H Q E h => ?_) (fun f cdv A1 outer s H vs Q E hr h => ⟨_, dv_given_in_all A.txt hr (ok_class_sums A TB) (ok_under A TB), pure_given_in_all h⟩)
  obtain ⟨_, _, _, _, _, _, rfl, _⟩ := h
  rfl
theorem ok_level_and_rest (A : AllF K mg C aF c Pt) (TB : TabB base mg c Pt) : C8.Cal P w K mg base 1 "level_and_rest" (sp_level_and_rest K) [] := by
  have cc := A.cc
  refine cal_of (k := 0) A.d_level_and_rest sc_level_and_rest (fun _ _ _ _ _ _ us hl => match us, hl with | [_, _], _ => rfl) (fun vs H Q E h => ?_) (fun f cdv A1 outer s H vs Q E hr h => ⟨_, dv_level_and_rest A.txt hr, pure_level_and_rest h⟩)
  obtain ⟨_, _, _, rfl, _⟩ := h
  rfl
theorem ok_levelled (A : AllF K mg C aF c Pt) (TB : TabB base mg c Pt) : C8.Cal P w K mg base 2 "levelled" (sp_levelled K) [] := by
  have cc := A.cc
  refine cal_of (k := 1) A.d_levelled sc_levelled (fun _ _ _ _ _ _ us hl => match us, hl with | [_, _], _ => rfl) (fun vs H Q E h => ?_) (fun f cdv A1 outer s H vs Q E hr h => ⟨_, dv_levelled A.txt hr (ok_level_and_rest A TB), pure_levelled h⟩)
  obtain ⟨_, _, _, rfl, _⟩ := h
  rfl
theorem ok_with_class_levelled (A : AllF K mg C aF c Pt) (TB : TabB base mg c Pt) : C8.Cal P w K mg base 3 "with_class_levelled" (sp_with_class_levelled K C.G) [] := by
  have cc := A.cc
  refine cal_of (k := 2) A.d_with_class_levelled sc_with_class_levelled (fun _ _ _ _ _ _ us hl => match us, hl with | [_, _, _, _], _ => rfl) (fun vs H Q E h => ?_) (fun f cdv A1 outer s H vs Q E hr h => ⟨_, dv_with_class_levelled A.txt hr (ok_levelled A TB), pure_with_class_levelled cc.g h⟩)
  obtain ⟨_, _, _, _, _, _, rfl, _⟩ := h
  rfl
theorem ok_fairest (A : AllF K mg C aF c Pt) (TB : TabB base mg c Pt) : C8.Cal P w K mg base 4 "fairest" (sp_fairest K C.G) [] := by
  have cc := A.cc
  refine cal_of (k := 3) A.d_fairest sc_fairest (fun _ _ _ _ _ _ us hl => match us, hl with | [_, _, _], _ => rfl) (fun vs H Q E h => ?_) (fun f cdv A1 outer s H vs Q E hr h => ⟨_, dv_fairest A.txt hr (ok_levelled A TB) (ok_with_class_levelled A TB), pure_fairest h⟩)
  obtain ⟨_, _, _, _, _, _, rfl, _⟩ := h
  rfl
theorem ok_by_worth' (A : AllF K mg C aF c Pt) (TB : TabB base mg c Pt) : C8.Cal P w K mg base 4 "by_worth" (sp_by_worthT K C.G [(Pt, qLam)]) [] := by
  obtain ⟨f, oc, od, kV, doc, pm, an, ct, osl, l, cd, hm, kp⟩ := A.lam.ex
  exact ok_by_worth l cd hm kp (.all fun us hl => match us, hl with | [_], _ => rfl) A.txt A.cc.g TB
theorem ok_least_losing (A : AllF K mg C aF c Pt) (TB : TabB base mg c Pt) : C8.Cal P w K mg base 5 "least_losing" (sp_least_losingT K C.G [(Pt, qLam)]) [] := by
  have cc := A.cc
  refine cal_of (k := 4) A.d_least_losing sc_least_losing (fun _ _ _ _ _ _ us hl => match us, hl with | [_, _, _], _ => rfl) (fun vs H Q E h => ?_) (fun f cdv A1 outer s H vs Q E hr h => ⟨_, dv_least_losing A.txt hr (ok_by_worth' A TB) (ok_under A TB), pure_least_losingT cc.g h⟩)
  obtain ⟨_, _, _, _, _, _, rfl, _⟩ := h
  rfl
theorem ok_shares_by (A : AllF K mg C aF c Pt) (TB : TabB base mg c Pt) : C8.Cal P w K mg base 6 "shares_by" (sp_shares_byT K C.G [(Pt, qLam)]) [] := by
  have cc := A.cc
  refine cal_of (k := 5) A.d_shares_by sc_shares_by (fun _ _ _ _ _ _ us hl => match us, hl with | [_, _, _, _], _ => rfl) (fun vs H Q E h => ?_) (fun f cdv A1 outer s H vs Q E hr h => ⟨_, dv_shares_by A.txt hr (ok_fairest A TB) (ok_least_losing A TB), pure_shares_byT h⟩)
  obtain ⟨_, _, _, _, _, _, _, rfl, _⟩ := h
  rfl
theorem ok_Order (A : AllF K mg C aF c Pt) (TB : TabB base mg c Pt) : C8.Mak P w K mg base 1 "Order" C.O (sp_Order K C.O) [] := by
  have cc := A.cc
  refine mak_of (k := 0) A.k_Order sc_Order__init__ (fun _ _ _ _ _ _ us hl => match us, hl with | [_, _, _, _, _, _], _ => rfl) (fun vs H Q E h => ?_) (fun f cdv A1 outer s H vs Q E hr h => ⟨_, dv_Order__init__ A.txt hr, pure_Order__init__ cc.o h⟩)
  obtain ⟨_, _, _, rfl, _⟩ := h
  rfl
theorem ok_Desk (A : AllF K mg C aF c Pt) (TB : TabB base mg c Pt) : C8.Mak P w K mg base 1 "Desk" C.D (sp_Desk K C) [] := by
  have cc := A.cc
  refine mak_of (k := 0) A.k_Desk sc_Desk__init__ (fun _ _ _ _ _ _ us hl => match us, hl with | [_], _ => rfl) (fun vs H Q E h => ?_) (fun f cdv A1 outer s H vs Q E hr h => ⟨_, dv_Desk__init__ A.txt hr, pure_Desk__init__ cc.d h⟩)
  obtain ⟨_, _, rfl, _⟩ := h
  rfl
theorem ok_copy_of (A : AllF K mg C aF c Pt) (TB : TabB base mg c Pt) : C8.Cal P w K mg base 3 "copy_of" (sp_copy_of K C) [] := by
  have cc := A.cc
  refine cal_of (k := 2) A.d_copy_of sc_copy_of (fun _ _ _ _ _ _ us hl => match us, hl with | [_], _ => rfl) (fun vs H Q E h => ?_) (fun f cdv A1 outer s H vs Q E hr h => ⟨_, dv_copy_of A.txt hr (ok_Desk A TB), pure_copy_of cc h⟩)
  obtain ⟨_, _, _, _, rfl, _⟩ := h
  rfl
theorem ok_with_one (A : AllF K mg C aF c Pt) (TB : TabB base mg c Pt) : C8.Cal P w K mg base 1 "with_one" (sp_with_one K) [] := by
  have cc := A.cc
  refine cal_of (k := 0) A.d_with_one sc_with_one (fun _ _ _ _ _ _ us hl => match us, hl with | [_, _, _], _ => rfl) (fun vs H Q E h => ?_) (fun f cdv A1 outer s H vs Q E hr h => ⟨_, dv_with_one A.txt hr, pure_with_one h⟩)
  obtain ⟨_, _, _, _, rfl, _⟩ := h
  rfl
theorem ok_in_force (A : AllF K mg C aF c Pt) (TB : TabB base mg c Pt) : C8.Cal P w K mg base 1 "in_force" (sp_in_force K C) [] := by
  have cc := A.cc
  refine cal_of (k := 0) A.d_in_force sc_in_force (fun _ _ _ _ _ _ us hl => match us, hl with | [_, _], _ => rfl) (fun vs H Q E h => ?_) (fun f cdv A1 outer s H vs Q E hr h => ⟨_, dv_in_force A.txt hr, pure_in_force cc h⟩)
  obtain ⟨_, _, _, _, rfl, _⟩ := h
  rfl
theorem ok_brought_down (A : AllF K mg C aF c Pt) (TB : TabB base mg c Pt) : C8.Cal P w K mg base 3 "brought_down" (sp_brought_down K C) [] := by
  have cc := A.cc
  refine cal_of (k := 2) A.d_brought_down sc_brought_down (fun _ _ _ _ _ _ us hl => match us, hl with | [_], _ => rfl) (fun vs H Q E h => ?_) (fun f cdv A1 outer s H vs Q E hr h => ⟨_, dv_brought_down A.txt hr (ok_in_force A TB) (ok_scope_sums A TB), pure_brought_down cc h⟩)
  obtain ⟨_, _, rfl, _⟩ := h
  rfl
theorem ok_limits_without (A : AllF K mg C aF c Pt) (TB : TabB base mg c Pt) : C8.Cal P w K mg base 1 "limits_without" (sp_limits_without K C) [] := by
  have cc := A.cc
  refine cal_of (k := 0) A.d_limits_without sc_limits_without (fun _ _ _ _ _ _ us hl => match us, hl with | [_, _, _], _ => rfl) (fun vs H Q E h => ?_) (fun f cdv A1 outer s H vs Q E hr h => ⟨_, dv_limits_without A.txt hr, pure_limits_without cc h⟩)
  obtain ⟨_, _, _, _, _, rfl, _⟩ := h
  rfl
theorem ok_limits_under (A : AllF K mg C aF c Pt) (TB : TabB base mg c Pt) : C8.Cal P w K mg base 2 "limits_under" (sp_limits_under K C) [] := by
  have cc := A.cc
  refine cal_of (k := 1) A.d_limits_under sc_limits_under (fun _ _ _ _ _ _ us hl => match us, hl with | [_, _], _ => rfl) (fun vs H Q E h => ?_) (fun f cdv A1 outer s H vs Q E hr h => ⟨_, dv_limits_under A.txt hr (ok_limits_without A TB), pure_limits_under h⟩)
  obtain ⟨_, _, _, rfl, _⟩ := h
  rfl
theorem ok_limits_now (A : AllF K mg C aF c Pt) (TB : TabB base mg c Pt) : C8.Cal P w K mg base 4 "limits_now" (sp_limits_now K C) [] := by
  have cc := A.cc
  refine cal_of (k := 3) A.d_limits_now sc_limits_now (fun _ _ _ _ _ _ us hl => match us, hl with | [_], _ => rfl) (fun vs H Q E h => ?_) (fun f cdv A1 outer s H vs Q E hr h => ⟨_, dv_limits_now A.txt hr (ok_brought_down A TB) (ok_limits_under A TB), pure_limits_now h⟩)
  obtain ⟨_, _, rfl, _⟩ := h
  rfl
theorem ok_own_losses (A : AllF K mg C aF c Pt) (TB : TabB base mg c Pt) : C8.Cal P w K mg base 3 "own_losses" (sp_own_losses K C) [] := by
  have cc := A.cc
  refine cal_of (k := 2) A.d_own_losses sc_own_losses (fun _ _ _ _ _ _ us hl => match us, hl with | [_, _, _], _ => rfl) (fun vs H Q E h => ?_) (fun f cdv A1 outer s H vs Q E hr h => ⟨_, dv_own_losses A.txt hr (ok_given_in_all A TB) (ok_limits_under A TB) (ok_limits_without A TB), pure_own_losses cc h⟩)
  obtain ⟨_, _, _, _, _, rfl, _⟩ := h
  rfl
theorem ok_binding (A : AllF K mg C aF c Pt) (TB : TabB base mg c Pt) : C8.Cal P w K mg base 4 "binding" (sp_binding K C) [] := by
  have cc := A.cc
  refine cal_of (k := 3) A.d_binding sc_binding (fun _ _ _ _ _ _ us hl => match us, hl with | [_, _], _ => rfl) (fun vs H Q E h => ?_) (fun f cdv A1 outer s H vs Q E hr h => ⟨_, dv_binding A.txt hr (ok_brought_down A TB) (ok_own_losses A TB), pure_binding h⟩)
  obtain ⟨_, _, _, _, rfl, _⟩ := h
  rfl
theorem ok_clearing (A : AllF K mg C aF c Pt) (TB : TabB base mg c Pt) : C8.Cal P w K mg base 4 "clearing" (sp_clearing K C) [] := by
  have cc := A.cc
  refine cal_of (k := 3) A.d_clearing sc_clearing (fun _ _ _ _ _ _ us hl => match us, hl with | [_, _], _ => rfl) (fun vs H Q E h => ?_) (fun f cdv A1 outer s H vs Q E hr h => ⟨_, dv_clearing A.txt hr (ok_brought_down A TB) (ok_scope_sums A TB), pure_clearing cc h⟩)
  obtain ⟨_, _, _, _, rfl, _⟩ := h
  rfl
theorem ok_steps (A : AllF K mg C aF c Pt) (TB : TabB base mg c Pt) : C8.Cal P w K mg base 2 "steps" (sp_steps K C) [] := by
  have cc := A.cc
  refine cal_of (k := 1) A.d_steps sc_steps (fun _ _ _ _ _ _ us hl => match us, hl with | [_, _], _ => rfl) (fun vs H Q E h => ?_) (fun f cdv A1 outer s H vs Q E hr h => ⟨_, dv_steps A.txt hr (ok_step A TB), pure_steps cc h⟩)
  obtain ⟨_, _, _, _, rfl, _⟩ := h
  rfl
theorem ok_able_after (A : AllF K mg C aF c Pt) (TB : TabB base mg c Pt) : C8.Cal P w K mg base 5 "able_after" (sp_able_after K C) [] := by
  have cc := A.cc
  refine cal_of (k := 4) A.d_able_after sc_able_after (fun _ _ _ _ _ _ us hl => match us, hl with | [_, _, _], _ => rfl) (fun vs H Q E h => ?_) (fun f cdv A1 outer s H vs Q E hr h => ⟨_, dv_able_after A.txt hr (ok_could_give A TB), pure_able_after cc h⟩)
  obtain ⟨_, _, _, _, _, rfl, _⟩ := h
  rfl
theorem ok_able_next (A : AllF K mg C aF c Pt) (TB : TabB base mg c Pt) : C8.Cal P w K mg base 6 "able_next" (sp_able_next K C) [] := by
  have cc := A.cc
  refine cal_of (k := 5) A.d_able_next sc_able_next (fun _ _ _ _ _ _ us hl => match us, hl with | [_, _], _ => rfl) (fun vs H Q E h => ?_) (fun f cdv A1 outer s H vs Q E hr h => ⟨_, dv_able_next A.txt hr (ok_able_after A TB) (ok_steps A TB), pure_able_next h⟩)
  obtain ⟨_, _, _, _, rfl, _⟩ := h
  rfl
theorem ok_count_orders (A : AllF K mg C aF c Pt) (TB : TabB base mg c Pt) : C8.Cal P w K mg base 1 "count_orders" (sp_count_orders K C [(Pt, qLam)]) [] := by
  have cc := A.cc
  refine cal_of (k := 0) A.d_count_orders sc_count_orders (fun _ _ _ _ _ _ us hl => match us, hl with | [_, _], _ => rfl) (fun vs H Q E h => ?_) (fun f cdv A1 outer s H vs Q E hr h => ⟨_, dv_count_orders A.txt hr, pure_count_orders cc h⟩)
  obtain ⟨_, _, _, _, _, _, _, _, rfl, _⟩ := h
  rfl
theorem ok_go_through (A : AllF K mg C aF c Pt) (TB : TabB base mg c Pt) : C8.Cal P w K mg base 7 "go_through" (sp_go_through K C [(Pt, qLam)]) [] := by
  have cc := A.cc
  refine cal_of (k := 6) A.d_go_through sc_go_through (fun _ _ _ _ _ _ us hl => match us, hl with | [_, _], _ => rfl) (fun vs H Q E h => ?_) (fun f cdv A1 outer s H vs Q E hr h => ⟨_, dv_go_through A.txt hr (ok_able_after A TB) (ok_brought_down A TB) (ok_count_orders A TB) (ok_limits_under A TB) (ok_own_losses A TB) (ok_shares_by A TB) (ok_steps A TB), pure_go_through cc h⟩)
  obtain ⟨_, _, _, _, _, _, _, rfl, _⟩ := h
  rfl
theorem ok_tell_giver (A : AllF K mg C aF c Pt) (TB : TabB base mg c Pt) : C8.Cal P w K mg base 3 "tell_giver" (sp_tell_giver K C [(Pt, qLam)]) [] := by
  have cc := A.cc
  refine cal_of (k := 2) A.d_tell_giver sc_tell_giver (fun _ _ _ _ _ _ us hl => match us, hl with | [_, _, _], _ => rfl) (fun vs H Q E h => ?_) (fun f cdv A1 outer s H vs Q E hr h => ⟨_, dv_tell_giver A.txt hr (ok_Giver A TB) (ok_is_giver A TB) (ok_is_table A TB), pure_tell_giver cc h⟩)
  obtain ⟨_, _, _, _, _, _, _, _, _, _, _, _, _, _, _, rfl, _⟩ := h
  rfl
theorem ok_tell_away (A : AllF K mg C aF c Pt) (TB : TabB base mg c Pt) : C8.Cal P w K mg base 2 "tell_away" (sp_tell_away K C [(Pt, qLam)]) [] := by
  have cc := A.cc
  refine cal_of (k := 1) A.d_tell_away sc_tell_away (fun _ _ _ _ _ _ us hl => match us, hl with | [_, _, _], _ => rfl) (fun vs H Q E h => ?_) (fun f cdv A1 outer s H vs Q E hr h => ⟨_, dv_tell_away A.txt hr (ok_with_one A TB), pure_tell_away cc h⟩)
  obtain ⟨_, _, _, _, _, _, _, rfl, _⟩ := h
  rfl
theorem ok_tell_ramps (A : AllF K mg C aF c Pt) (TB : TabB base mg c Pt) : C8.Cal P w K mg base 1 "tell_ramps" (sp_tell_ramps K C [(Pt, qLam)]) [] := by
  have cc := A.cc
  refine cal_of (k := 0) A.d_tell_ramps sc_tell_ramps (fun _ _ _ _ _ _ us hl => match us, hl with | [_, _, _], _ => rfl) (fun vs H Q E h => ?_) (fun f cdv A1 outer s H vs Q E hr h => ⟨_, dv_tell_ramps A.txt hr, pure_tell_ramps cc h⟩)
  obtain ⟨_, _, _, _, _, _, _, rfl, _⟩ := h
  rfl
theorem ok_tell_rule (A : AllF K mg C aF c Pt) (TB : TabB base mg c Pt) : C8.Cal P w K mg base 1 "tell_rule" (sp_tell_rule K C [(Pt, qLam)]) [] := by
  have cc := A.cc
  refine cal_of (k := 0) A.d_tell_rule sc_tell_rule (fun _ _ _ _ _ _ us hl => match us, hl with | [_, _], _ => rfl) (fun vs H Q E h => ?_) (fun f cdv A1 outer s H vs Q E hr h => ⟨_, dv_tell_rule A.txt hr, pure_tell_rule cc h⟩)
  obtain ⟨_, _, _, _, _, _, rfl, _⟩ := h
  rfl
theorem ok_tell_order (A : AllF K mg C aF c Pt) (TB : TabB base mg c Pt) : C8.Cal P w K mg base 3 "tell_order" (sp_tell_order K C [(Pt, qLam)]) [] := by
  have cc := A.cc
  refine cal_of (k := 2) A.d_tell_order sc_tell_order (fun _ _ _ _ _ _ us hl => match us, hl with | [_, _, _, _, _], _ => rfl) (fun vs H Q E h => ?_) (fun f cdv A1 outer s H vs Q E hr h => ⟨_, dv_tell_order A.txt hr (ok_Order A TB), pure_tell_order cc h⟩)
  obtain ⟨_, _, _, _, _, _, _, _, _, rfl, _⟩ := h
  rfl
theorem ok_tell_back (A : AllF K mg C aF c Pt) (TB : TabB base mg c Pt) : C8.Cal P w K mg base 2 "tell_back" (sp_tell_back K C [(Pt, qLam)]) [] := by
  have cc := A.cc
  refine cal_of (k := 1) A.d_tell_back sc_tell_back (fun _ _ _ _ _ _ us hl => match us, hl with | [_, _], _ => rfl) (fun vs H Q E h => ?_) (fun f cdv A1 outer s H vs Q E hr h => ⟨_, dv_tell_back A.txt hr (ok_with_one A TB), pure_tell_back cc h⟩)
  obtain ⟨_, _, _, _, _, _, rfl, _⟩ := h
  rfl
theorem ok_tell_quarter (A : AllF K mg C aF c Pt) (TB : TabB base mg c Pt) : C8.Cal P w K mg base 8 "tell_quarter" (sp_tell_quarter K C [(Pt, qLam)]) [] := by
  have cc := A.cc
  refine cal_of (k := 7) A.d_tell_quarter sc_tell_quarter (fun _ _ _ _ _ _ us hl => match us, hl with | [_, _], _ => rfl) (fun vs H Q E h => ?_) (fun f cdv A1 outer s H vs Q E hr h => ⟨_, dv_tell_quarter A.txt hr (ok_go_through A TB) (ok_with_row A TB), pure_tell_quarter cc h⟩)
  obtain ⟨_, _, _, _, _, _, _, rfl, _⟩ := h
  rfl
theorem ok_Memory (A : AllF K mg C aF c Pt) (TB : TabB base mg c Pt) : C8.Mak P w K mg base 3 "Memory" C.M (sp_Memory K C) [] := by
  have cc := A.cc
  refine mak_of (k := 2) A.k_Memory sc_Memory__init__ (fun _ _ _ _ _ _ us hl => match us, hl with | [_], _ => rfl) (fun vs H Q E h => ?_) (fun f cdv A1 outer s H vs Q E hr h => ⟨_, dv_Memory__init__ A.txt hr (ok_Desk A TB), pure_Memory__init__ cc h⟩)
  obtain ⟨_, _, rfl, _⟩ := h
  rfl
theorem ok_take_over (A : AllF K mg C aF c Pt) (TB : TabB base mg c Pt) : C8.Cal P w K mg base 1 "take_over" (sp_take_over K C) [] := by
  have cc := A.cc
  refine cal_of (k := 0) A.d_take_over sc_take_over (fun _ _ _ _ _ _ us hl => match us, hl with | [_, _], _ => rfl) (fun vs H Q E h => ?_) (fun f cdv A1 outer s H vs Q E hr h => ⟨_, dv_take_over A.txt hr, pure_take_over cc h⟩)
  obtain ⟨_, _, _, _, _, _, _, rfl, _⟩ := h
  rfl
theorem ok_tell_undo (A : AllF K mg C aF c Pt) (TB : TabB base mg c Pt) : C8.Cal P w K mg base 1 "tell_undo" (sp_turn K C [(Pt, qLam)] .undo) [] := by
  have cc := A.cc
  refine cal_of (k := 0) A.d_tell_undo sc_tell_undo (fun _ _ _ _ _ _ us hl => match us, hl with | [_], _ => rfl) (fun vs H Q E h => ?_) (fun f cdv A1 outer s H vs Q E hr h => ⟨_, dv_tell_undo A.txt hr, pure_tell_undo cc h⟩)
  obtain ⟨_, _, _, _, _, _, _, _, _, _, _, rfl, _⟩ := h
  rfl
theorem ok_tell_redo (A : AllF K mg C aF c Pt) (TB : TabB base mg c Pt) : C8.Cal P w K mg base 1 "tell_redo" (sp_turn K C [(Pt, qLam)] .redo) [] := by
  have cc := A.cc
  refine cal_of (k := 0) A.d_tell_redo sc_tell_redo (fun _ _ _ _ _ _ us hl => match us, hl with | [_], _ => rfl) (fun vs H Q E h => ?_) (fun f cdv A1 outer s H vs Q E hr h => ⟨_, dv_tell_redo A.txt hr, pure_tell_redo cc h⟩)
  obtain ⟨_, _, _, _, _, _, _, _, _, _, _, rfl, _⟩ := h
  rfl
theorem ok_tell_begin (A : AllF K mg C aF c Pt) (TB : TabB base mg c Pt) : C8.Cal P w K mg base 3 "tell_begin" (sp_turn K C [(Pt, qLam)] .begin_) [] := by
  have cc := A.cc
  refine cal_of (k := 2) A.d_tell_begin sc_tell_begin (fun _ _ _ _ _ _ us hl => match us, hl with | [_], _ => rfl) (fun vs H Q E h => ?_) (fun f cdv A1 outer s H vs Q E hr h => ⟨_, dv_tell_begin A.txt hr (ok_Desk A TB), pure_tell_begin cc h⟩)
  obtain ⟨_, _, _, _, _, _, _, _, _, _, _, rfl, _⟩ := h
  rfl
theorem ok_is_allowed (A : AllF K mg C aF c Pt) (TB : TabB base mg c Pt) : C8.Cal P w K mg base 2 "is_allowed" (sp_is_allowed K C.G) [] := by
  have cc := A.cc
  refine cal_of (k := 1) A.d_is_allowed sc_is_allowed (fun _ _ _ _ _ _ us hl => match us, hl with | [_, _, _, _], _ => rfl) (fun vs H Q E h => ?_) (fun f cdv A1 outer s H vs Q E hr h => ⟨_, dv_is_allowed A.txt hr (ok_class_sums A TB), pure_is_allowed h⟩)
  obtain ⟨_, _, _, _, _, _, _, _, rfl, _⟩ := h
  rfl
theorem ok_judgement (A : AllF K mg C aF c Pt) (TB : TabB base mg c Pt) : C8.Cal P w K mg base 5 "judgement" (sp_judgement K C.G) [] := by
  have cc := A.cc
  refine cal_of (k := 4) A.d_judgement sc_judgement (fun _ _ _ _ _ _ us hl => match us, hl with | [_, _, _, _], _ => rfl) (fun vs H Q E h => ?_) (fun f cdv A1 outer s H vs Q E hr h => ⟨_, dv_judgement A.txt hr (ok_fairest A TB) (ok_is_allowed A TB), pure_judgement h⟩)
  obtain ⟨_, _, _, _, _, _, _, _, rfl, _⟩ := h
  rfl
theorem ok_loss_of (A : AllF K mg C aF c Pt) (TB : TabB base mg c Pt) : C8.Cal P w K mg base 1 "loss_of" (sp_loss_of K C.G) [] := by
  have cc := A.cc
  refine cal_of (k := 0) A.d_loss_of sc_loss_of (fun _ _ _ _ _ _ us hl => match us, hl with | [_, _, _], _ => rfl) (fun vs H Q E h => ?_) (fun f cdv A1 outer s H vs Q E hr h => ⟨_, dv_loss_of A.txt hr, pure_loss_of cc.g h⟩)
  obtain ⟨_, _, _, _, _, _, rfl, _⟩ := h
  rfl
theorem ok_full_classes (A : AllF K mg C aF c Pt) (TB : TabB base mg c Pt) : C8.Cal P w K mg base 2 "full_classes" (sp_full_classes K C.G) [] := by
  have cc := A.cc
  refine cal_of (k := 1) A.d_full_classes sc_full_classes (fun _ _ _ _ _ _ us hl => match us, hl with | [_, _, _], _ => rfl) (fun vs H Q E h => ?_) (fun f cdv A1 outer s H vs Q E hr h => ⟨_, dv_full_classes A.txt hr (ok_class_sums A TB), pure_full_classes h⟩)
  obtain ⟨_, _, _, _, _, _, rfl, _⟩ := h
  rfl
theorem ok_prices_told (A : AllF K mg C aF c Pt) (TB : TabB base mg c Pt) : C8.Cal P w K mg base 3 "prices_told" (sp_prices_told K C.G) [] := by
  have cc := A.cc
  refine cal_of (k := 2) A.d_prices_told sc_prices_told (fun _ _ _ _ _ _ us hl => match us, hl with | [_, _, _, _], _ => rfl) (fun vs H Q E h => ?_) (fun f cdv A1 outer s H vs Q E hr h => ⟨_, dv_prices_told A.txt hr (ok_full_classes A TB), pure_prices_told cc.g h⟩)
  obtain ⟨_, _, _, _, _, _, _, _, rfl, _⟩ := h
  rfl
theorem ok_fits_worth (A : AllF K mg C aF c Pt) (TB : TabB base mg c Pt) : C8.Cal P w K mg base 1 "fits_worth" (sp_fits_worth K C.G) [] := by
  have cc := A.cc
  refine cal_of (k := 0) A.d_fits_worth sc_fits_worth (fun _ _ _ _ _ _ us hl => match us, hl with | [_, _, _, _], _ => rfl) (fun vs H Q E h => ?_) (fun f cdv A1 outer s H vs Q E hr h => ⟨_, dv_fits_worth A.txt hr, pure_fits_worth cc.g h⟩)
  obtain ⟨_, _, _, _, _, rfl, _⟩ := h
  rfl
theorem ok_is_proof (A : AllF K mg C aF c Pt) (TB : TabB base mg c Pt) : C8.Cal P w K mg base 3 "is_proof" (sp_is_proof K C.G) [] := by
  have cc := A.cc
  refine cal_of (k := 2) A.d_is_proof sc_is_proof (fun _ _ _ _ _ _ us hl => match us, hl with | [_, _, _, _, _], _ => rfl) (fun vs H Q E h => ?_) (fun f cdv A1 outer s H vs Q E hr h => ⟨_, dv_is_proof A.txt hr (ok_fits_worth A TB) (ok_full_classes A TB) (ok_is_allowed A TB), pure_is_proof cc.g h⟩)
  obtain ⟨_, _, _, _, _, _, _, _, _, _, rfl, _⟩ := h
  rfl
theorem ok_is_able (A : AllF K mg C aF c Pt) (TB : TabB base mg c Pt) : C8.Cal P w K mg base 1 "is_able" (sp_is_able K C) [] := by
  have cc := A.cc
  refine cal_of (k := 0) A.d_is_able sc_is_able (fun _ _ _ _ _ _ us hl => match us, hl with | [_, _], _ => rfl) (fun vs H Q E h => ?_) (fun f cdv A1 outer s H vs Q E hr h => ⟨_, dv_is_able A.txt hr, pure_is_able cc h⟩)
  obtain ⟨_, _, _, _, rfl, _⟩ := h
  rfl
theorem ok_ask_could (A : AllF K mg C aF c Pt) (TB : TabB base mg c Pt) : C8.Cal P w K mg base 7 "ask_could" (sp_ask_could K C) [] := by
  have cc := A.cc
  refine cal_of (k := 6) A.d_ask_could sc_ask_could (fun _ _ _ _ _ _ us hl => match us, hl with | [_, _], _ => rfl) (fun vs H Q E h => ?_) (fun f cdv A1 outer s H vs Q E hr h => ⟨_, dv_ask_could A.txt hr (ok_able_next A TB) (ok_with_row A TB), pure_ask_could cc h⟩)
  obtain ⟨_, _, _, _, rfl, _⟩ := h
  rfl
theorem ok_ask_limits (A : AllF K mg C aF c Pt) (TB : TabB base mg c Pt) : C8.Cal P w K mg base 5 "ask_limits" (sp_ask_limits K C) [] := by
  have cc := A.cc
  refine cal_of (k := 4) A.d_ask_limits sc_ask_limits (fun _ _ _ _ _ _ us hl => match us, hl with | [_], _ => rfl) (fun vs H Q E h => ?_) (fun f cdv A1 outer s H vs Q E hr h => ⟨_, dv_ask_limits A.txt hr (ok_limits_now A TB) (ok_with_row A TB), pure_ask_limits h⟩)
  obtain ⟨_, _, rfl, _⟩ := h
  rfl
theorem ok_ask_parts (A : AllF K mg C aF c Pt) (TB : TabB base mg c Pt) : C8.Cal P w K mg base 7 "ask_parts" (sp_ask_parts K C [(Pt, qLam)]) [] := by
  have cc := A.cc
  refine cal_of (k := 6) A.d_ask_parts sc_ask_parts (fun _ _ _ _ _ _ us hl => match us, hl with | [_, _, _], _ => rfl) (fun vs H Q E h => ?_) (fun f cdv A1 outer s H vs Q E hr h => ⟨_, dv_ask_parts A.txt hr (ok_is_able A TB) (ok_limits_now A TB) (ok_shares_by A TB) (ok_with_row A TB), pure_ask_parts cc h⟩)
  obtain ⟨_, _, _, _, _, rfl, _⟩ := h
  rfl
theorem ok_ask_judge (A : AllF K mg C aF c Pt) (TB : TabB base mg c Pt) : C8.Cal P w K mg base 6 "ask_judge" (sp_ask_judge K C) [] := by
  have cc := A.cc
  refine cal_of (k := 5) A.d_ask_judge sc_ask_judge (fun _ _ _ _ _ _ us hl => match us, hl with | [_, _, _], _ => rfl) (fun vs H Q E h => ?_) (fun f cdv A1 outer s H vs Q E hr h => ⟨_, dv_ask_judge A.txt hr (ok_is_able A TB) (ok_judgement A TB) (ok_limits_now A TB), pure_ask_judge cc h⟩)
  obtain ⟨_, _, _, _, _, _, rfl, _⟩ := h
  rfl
theorem ok_ask_prices (A : AllF K mg C aF c Pt) (TB : TabB base mg c Pt) : C8.Cal P w K mg base 6 "ask_prices" (sp_ask_prices K C [(Pt, qLam)]) [] := by
  have cc := A.cc
  refine cal_of (k := 5) A.d_ask_prices sc_ask_prices (fun _ _ _ _ _ _ us hl => match us, hl with | [_, _], _ => rfl) (fun vs H Q E h => ?_) (fun f cdv A1 outer s H vs Q E hr h => ⟨_, dv_ask_prices A.txt hr (ok_is_able A TB) (ok_least_losing A TB) (ok_limits_now A TB) (ok_loss_of A TB) (ok_prices_told A TB) (ok_with_row A TB), pure_ask_prices cc h⟩)
  obtain ⟨_, _, _, _, rfl, _⟩ := h
  rfl
theorem ok_ask_proof (A : AllF K mg C aF c Pt) (TB : TabB base mg c Pt) : C8.Cal P w K mg base 5 "ask_proof" (sp_ask_proof K C) [] := by
  have cc := A.cc
  refine cal_of (k := 4) A.d_ask_proof sc_ask_proof (fun _ _ _ _ _ _ us hl => match us, hl with | [_, _, _, _], _ => rfl) (fun vs H Q E h => ?_) (fun f cdv A1 outer s H vs Q E hr h => ⟨_, dv_ask_proof A.txt hr (ok_is_able A TB) (ok_is_proof A TB) (ok_limits_now A TB), pure_ask_proof cc h⟩)
  obtain ⟨_, _, _, _, _, _, _, _, rfl, _⟩ := h
  rfl
theorem ok_ask_binds (A : AllF K mg C aF c Pt) (TB : TabB base mg c Pt) : C8.Cal P w K mg base 5 "ask_binds" (sp_ask_binds K C) [] := by
  have cc := A.cc
  refine cal_of (k := 4) A.d_ask_binds sc_ask_binds (fun _ _ _ _ _ _ us hl => match us, hl with | [_, _], _ => rfl) (fun vs H Q E h => ?_) (fun f cdv A1 outer s H vs Q E hr h => ⟨_, dv_ask_binds A.txt hr (ok_binding A TB) (ok_is_able A TB) (ok_with_row A TB), pure_ask_binds h⟩)
  obtain ⟨_, _, _, _, rfl, _⟩ := h
  rfl
theorem ok_ask_clears (A : AllF K mg C aF c Pt) (TB : TabB base mg c Pt) : C8.Cal P w K mg base 5 "ask_clears" (sp_ask_clears K C) [] := by
  have cc := A.cc
  refine cal_of (k := 4) A.d_ask_clears sc_ask_clears (fun _ _ _ _ _ _ us hl => match us, hl with | [_, _], _ => rfl) (fun vs H Q E h => ?_) (fun f cdv A1 outer s H vs Q E hr h => ⟨_, dv_ask_clears A.txt hr (ok_clearing A TB) (ok_is_able A TB) (ok_with_row A TB), pure_ask_clears h⟩)
  obtain ⟨_, _, _, _, rfl, _⟩ := h
  rfl
theorem ok_ask_lost (A : AllF K mg C aF c Pt) (TB : TabB base mg c Pt) : C8.Cal P w K mg base 2 "ask_lost" (sp_ask_lost K C) [] := by
  have cc := A.cc
  refine cal_of (k := 1) A.d_ask_lost sc_ask_lost (fun _ _ _ _ _ _ us hl => match us, hl with | [_, _], _ => rfl) (fun vs H Q E h => ?_) (fun f cdv A1 outer s H vs Q E hr h => ⟨_, dv_ask_lost A.txt hr (ok_with_row A TB), pure_ask_lost cc h⟩)
  obtain ⟨_, _, _, rfl, _⟩ := h
  rfl
theorem ok_ask_told (A : AllF K mg C aF c Pt) (TB : TabB base mg c Pt) : C8.Cal P w K mg base 2 "ask_told" (sp_ask_told K C) [] := by
  have cc := A.cc
  refine cal_of (k := 1) A.d_ask_told sc_ask_told (fun _ _ _ _ _ _ us hl => match us, hl with | [_, _], _ => rfl) (fun vs H Q E h => ?_) (fun f cdv A1 outer s H vs Q E hr h => ⟨_, dv_ask_told A.txt hr (ok_with_row A TB), pure_ask_told cc h⟩)
  obtain ⟨_, _, _, rfl, _⟩ := h
  rfl
theorem ok_ask_state (A : AllF K mg C aF c Pt) (TB : TabB base mg c Pt) : C8.Cal P w K mg base 2 "ask_state" (sp_ask_state K C) [] := by
  have cc := A.cc
  refine cal_of (k := 1) A.d_ask_state sc_ask_state (fun _ _ _ _ _ _ us hl => match us, hl with | [_, _], _ => rfl) (fun vs H Q E h => ?_) (fun f cdv A1 outer s H vs Q E hr h => ⟨_, dv_ask_state A.txt hr (ok_with_row A TB), pure_ask_state cc h⟩)
  obtain ⟨_, _, _, rfl, _⟩ := h
  rfl
theorem ok_ask_sums (A : AllF K mg C aF c Pt) (TB : TabB base mg c Pt) : C8.Cal P w K mg base 2 "ask_sums" (sp_ask_sums K C) [] := by
  have cc := A.cc
  refine cal_of (k := 1) A.d_ask_sums sc_ask_sums (fun _ _ _ _ _ _ us hl => match us, hl with | [_], _ => rfl) (fun vs H Q E h => ?_) (fun f cdv A1 outer s H vs Q E hr h => ⟨_, dv_ask_sums A.txt hr (ok_with_row A TB), pure_ask_sums cc h⟩)
  obtain ⟨_, _, rfl, _⟩ := h
  rfl
theorem ok_ask_passes (A : AllF K mg C aF c Pt) (TB : TabB base mg c Pt) : C8.Cal P w K mg base 4 "ask_passes" (sp_ask_passes K C) [] := by
  have cc := A.cc
  refine cal_of (k := 3) A.d_ask_passes sc_ask_passes (fun _ _ _ _ _ _ us hl => match us, hl with | [_, _, _], _ => rfl) (fun vs H Q E h => ?_) (fun f cdv A1 outer s H vs Q E hr h => ⟨_, dv_ask_passes A.txt hr (ok_passed A TB), pure_ask_passes cc h⟩)
  obtain ⟨_, _, _, _, rfl, _⟩ := h
  rfl
theorem ok_read_rows (A : AllF K mg C aF c Pt) (TB : TabB base mg c Pt) : C8.Cal P w K mg base 1 "read_rows" (sp_read_rows K) [] := by
  have cc := A.cc
  refine cal_of (k := 0) A.d_read_rows sc_read_rows (fun _ _ _ _ _ _ us hl => match us, hl with | [_, _, _], _ => rfl) (fun vs H Q E h => ?_) (fun f cdv A1 outer s H vs Q E hr h => ⟨_, dv_read_rows A.txt hr, pure_read_rows h⟩)
  obtain ⟨_, _, _, _, _, _, rfl, _⟩ := h
  rfl
theorem ok_answer_change (A : AllF K mg C aF c Pt) (TB : TabB base mg c Pt) : C8.Cal P w K mg base 9 "answer_change" (sp_answer_change K C [(Pt, qLam)]) [] := by
  have cc := A.cc
  refine cal_of (k := 8) A.d_answer_change sc_answer_change (fun _ _ _ _ _ _ us hl => match us, hl with | [_, _, _, _], _ => rfl) (fun vs H Q E h => ?_) (fun f cdv A1 outer s H vs Q E hr h => ⟨_, dv_answer_change A.txt hr (ok_tell_away A TB) (ok_tell_back A TB) (ok_tell_giver A TB) (ok_tell_order A TB) (ok_tell_quarter A TB) (ok_tell_ramps A TB) (ok_tell_rule A TB), pure_answer_change h⟩)
  obtain ⟨_, _, _, _, _, _, _, _, _, _, rfl, _⟩ := h
  rfl
theorem ok_answer_remembered (A : AllF K mg C aF c Pt) (TB : TabB base mg c Pt) : C8.Cal P w K mg base 10 "answer_remembered" (sp_answer_remembered K C [(Pt, qLam)]) [] := by
  have cc := A.cc
  refine cal_of (k := 9) A.d_answer_remembered sc_answer_remembered (fun _ _ _ _ _ _ us hl => match us, hl with | [_, _, _, _], _ => rfl) (fun vs H Q E h => ?_) (fun f cdv A1 outer s H vs Q E hr h => ⟨_, dv_answer_remembered A.txt hr (ok_answer_change A TB) (ok_copy_of A TB) (ok_take_over A TB), pure_answer_remembered cc h⟩)
  obtain ⟨_, _, _, _, _, _, _, _, _, _, _, _, _, _, _, _, rfl, _⟩ := h
  rfl
theorem ok_answer_question (A : AllF K mg C aF c Pt) (TB : TabB base mg c Pt) : C8.Cal P w K mg base 8 "answer_question" (sp_answer_question K C [(Pt, qLam)]) [] := by
  have cc := A.cc
  refine cal_of (k := 7) A.d_answer_question sc_answer_question (fun _ _ _ _ _ _ us hl => match us, hl with | [_, _, _, _], _ => rfl) (fun vs H Q E h => ?_) (fun f cdv A1 outer s H vs Q E hr h => ⟨_, dv_answer_question A.txt hr (ok_ask_binds A TB) (ok_ask_clears A TB) (ok_ask_could A TB) (ok_ask_judge A TB) (ok_ask_limits A TB) (ok_ask_parts A TB) (ok_ask_prices A TB) (ok_ask_proof A TB), pure_answer_question h⟩)
  obtain ⟨_, _, _, _, _, _, _, rfl, _⟩ := h
  rfl
theorem ok_answer_record (A : AllF K mg C aF c Pt) (TB : TabB base mg c Pt) : C8.Cal P w K mg base 5 "answer_record" (sp_answer_record K C) [] := by
  have cc := A.cc
  refine cal_of (k := 4) A.d_answer_record sc_answer_record (fun _ _ _ _ _ _ us hl => match us, hl with | [_, _, _], _ => rfl) (fun vs H Q E h => ?_) (fun f cdv A1 outer s H vs Q E hr h => ⟨_, dv_answer_record A.txt hr (ok_ask_lost A TB) (ok_ask_passes A TB) (ok_ask_state A TB) (ok_ask_sums A TB) (ok_ask_told A TB), pure_answer_record h⟩)
  obtain ⟨_, _, _, _, _, _, rfl, _⟩ := h
  rfl
theorem ok_answer_turn (A : AllF K mg C aF c Pt) (TB : TabB base mg c Pt) : C8.Cal P w K mg base 4 "answer_turn" (sp_answer_turn K C [(Pt, qLam)]) [] := by
  have cc := A.cc
  refine cal_of (k := 3) A.d_answer_turn sc_answer_turn (fun _ _ _ _ _ _ us hl => match us, hl with | [_, _], _ => rfl) (fun vs H Q E h => ?_) (fun f cdv A1 outer s H vs Q E hr h => ⟨_, dv_answer_turn A.txt hr (ok_tell_begin A TB) (ok_tell_redo A TB) (ok_tell_undo A TB), pure_answer_turn h⟩)
  obtain ⟨_, _, _, _, _, _, _, _, _, _, _, _, _, rfl, _⟩ := h
  rfl
theorem ok_answer_call (A : AllF K mg C aF c Pt) (TB : TabB base mg c Pt) : C8.Cal P w K mg base 11 "answer_call" (sp_answer_call K C [(Pt, qLam)]) [] := by
  have cc := A.cc
  refine cal_of (k := 10) A.d_answer_call sc_answer_call (fun _ _ _ _ _ _ us hl => match us, hl with | [_, _, _, _], _ => rfl) (fun vs H Q E h => ?_) (fun f cdv A1 outer s H vs Q E hr h => ⟨_, dv_answer_call A.txt hr (ok_answer_question A TB) (ok_answer_record A TB) (ok_answer_remembered A TB) (ok_answer_turn A TB), pure_answer_call cc h⟩)
  obtain ⟨_, _, _, _, _, _, _, _, _, _, _, _, _, _, _, rfl, _⟩ := h
  rfl
theorem ok_answers (A : AllF K mg C aF c Pt) (TB : TabB base mg c Pt) : C8.Cal P w K mg base 12 "answers" (sp_answers K [(Pt, qLam)]) [] := by
  have cc := A.cc
  refine cal_of (k := 11) A.d_answers sc_answers (fun _ _ _ _ _ _ us hl => match us, hl with | [_], _ => rfl) (fun vs H Q E h => ?_) (fun f cdv A1 outer s H vs Q E hr h => ⟨_, dv_answers A.txt hr A.hF (ok_Memory A TB) (ok_answer_call A TB) (ok_read_rows A TB), pure_answers cc A.forms h⟩)
  obtain ⟨_, _, rfl, _⟩ := h
  rfl
end
end Pp
end
section
set_option Elab.async false
set_option linter.all false
set_option maxRecDepth 100000
set_option maxHeartbeats 2000000
namespace Pp
open PySem PySem.Spec PyProof.Rows L2 Evl LamX
open PySem.W (WData Codec)
/-! ### the last facts of the top, and the call -/
section
variable {K : PySem.W.Frag} {h : Heap} {mg : Str → Option Value}
theorem cst_of {x : Str} {v : Int} {t : Tok} (X : K.In h) (G : h.Ns mainGlobals mg) (e : PySem.W.nsIn K mainGlobals x = some (some (.int v t))) : ∃ u, mg x = some u ∧ RelV (.int v) u := ⟨_, PySem.W.mg_of X G e, t, rfl⟩
theorem ref_of {x : Str} {a : Addr} (X : K.In h) (G : h.Ns mainGlobals mg) (e : PySem.W.nsIn K mainGlobals x = some (some (.ref a))) : ∃ u, mg x = some u ∧ RelV (.ref a) u := ⟨_, PySem.W.mg_of X G e, rfl⟩
theorem LamF.of {f c : Addr} {oc : Value} {od : Option Addr} {kV doc pm : Value} {an : Option Addr} {ct : Value} {osl : Array (Option Value)} (X : K.In h) (G : h.Ns mainGlobals mg) (a : PySem.W.nsIn K mainGlobals "by_worth" = some (some (.ref f)))
    (l : K.lookup f = some ⟨oc, od, .func (PySem.W.fnOf "by_worth" "by_worth" (C8.fnArgs s_by_worth) (C8.fnBody s_by_worth) (C8.fnScope s_by_worth) .none kV doc pm an (.ref c) ct), osl⟩) (cd : PySem.W.codeIn K (.ref c) "by_worth" = true) (k : PySem.W.keepIn K (.ref f) = true) : LamF K mg c :=
  ⟨f, oc, od, kV, doc, pm, an, ct, osl, l, cd, PySem.W.mg_of X G a, k⟩
theorem tab_mk {x : Str} {f c Pt : Addr} {o1 o2 : Value} {d1 d2 : Option Addr} {s1 s2 : Array (Option Value)} {fd : FuncData} {us : Array Value} (a : PySem.W.nsIn K mainGlobals x = some (some (.ref f))) (l : K.lookup f = some ⟨o1, d1, .func fd, s1⟩) (hc : fd.code = .ref c) (lc : K.lookup c = some ⟨o2, d2, .fields us, s2⟩) (hv : us[11]? = some (.ref Pt)) : PySem.W.tabIn K x = some (c, Pt) := by
  unfold PySem.W.tabIn
  rw [a]
  simp only []
  rw [l]
  simp only []
  rw [hc]
  simp only []
  rw [lc]
  simp only []
  rw [hv]
end
/-- a pair of numbers of the module's own -/
def TupF (K : PySem.W.Frag) (f : Addr) (n k : Nat) : Prop := ∃ (od : Option Addr) (sl : Array (Option Value)) (m : Nat) (t1 t2 : Tok), K.lookup f = some ⟨.type "tuple", od, .seq #[.int (n : Int) t1, .int (k : Int) t2] m, sl⟩
theorem TupF.of {K : PySem.W.Frag} {f : Addr} {n k : Nat} {od : Option Addr} {sl : Array (Option Value)} {m : Nat} {t1 t2 : Tok} (l : K.lookup f = some ⟨.type "tuple", od, .seq #[.int (n : Int) t1, .int (k : Int) t2] m, sl⟩) : TupF K f n k := ⟨od, sl, m, t1, t2, l⟩
theorem TupF.sq {K : PySem.W.Frag} {f : Addr} {n k : Nat} (h : TupF K f n k) (H : Hp) : SqT K H f [nv n, nv k] := by
  obtain ⟨od, sl, m, t1, t2, l⟩ := h
  exact .inr ⟨_, _, _, l, rfl, rfl, by show 2 ≤ sizeLine; decide, .cons ⟨t1, rfl⟩ (.cons ⟨t2, rfl⟩ .nil)⟩
theorem vals_refs : ∀ as : List Addr, Vals (as.map V.ref) (as.map Value.ref)
  | [] => .nil
  | a :: as => .cons rfl (vals_refs as)
theorem fms_of {K : PySem.W.Frag} {aF b : Addr} {od : Option Addr} {sl : Array (Option Value)} {m : Nat} {us : Array Value} (l : K.lookup aF = some ⟨.type "tuple", od, .seq us m, sl⟩) (hu : us.toList = ((List.range 23).map fun i => b + i).map Value.ref)
    (h0 : TupF K (b + 0) 7 1) (h1 : TupF K (b + 1) 2 0) (h2 : TupF K (b + 2) 2 0) (h3 : TupF K (b + 3) 1 0) (h4 : TupF K (b + 4) 4 0) (h5 : TupF K (b + 5) 1 0) (h6 : TupF K (b + 6) 0 1) (h7 : TupF K (b + 7) 0 1) (h8 : TupF K (b + 8) 0 0) (h9 : TupF K (b + 9) 1 1) (h10 : TupF K (b + 10) 0 2) (h11 : TupF K (b + 11) 0 1) (h12 : TupF K (b + 12) 0 3) (h13 : TupF K (b + 13) 1 0) (h14 : TupF K (b + 14) 1 0) (h15 : TupF K (b + 15) 0 1) (h16 : TupF K (b + 16) 0 1) (h17 : TupF K (b + 17) 1 0) (h18 : TupF K (b + 18) 0 0) (h19 : TupF K (b + 19) 2 0) (h20 : TupF K (b + 20) 0 0) (h21 : TupF K (b + 21) 0 0) (h22 : TupF K (b + 22) 0 0) : Fms K aF := by
  refine ⟨(List.range 23).map fun i => b + i, by simp, fun H => .inr ⟨_, us, m, l, rfl, rfl, ?_, by rw [hu]; exact vals_refs _⟩, fun i f n k hf hs H => ?_⟩
  · have : us.size = 23 := by rw [← Array.length_toList, hu]; simp
    rw [this, sizeLine_eq]; decide
  · have hi : i < 23 := by have := (List.getElem?_eq_some_iff.mp hf).1; simpa using this
    rw [List.getElem?_map, List.getElem?_range hi] at hf
    have ef : b + i = f := Option.some.inj hf
    subst ef
    match i, hs with
    | 0, hs => cases (show (some (7, 1) : Option (Nat × Nat)) = some (n, k) from hs); exact h0.sq H
    | 1, hs => cases (show (some (2, 0) : Option (Nat × Nat)) = some (n, k) from hs); exact h1.sq H
    | 2, hs => cases (show (some (2, 0) : Option (Nat × Nat)) = some (n, k) from hs); exact h2.sq H
    | 3, hs => cases (show (some (1, 0) : Option (Nat × Nat)) = some (n, k) from hs); exact h3.sq H
    | 4, hs => cases (show (some (4, 0) : Option (Nat × Nat)) = some (n, k) from hs); exact h4.sq H
    | 5, hs => cases (show (some (1, 0) : Option (Nat × Nat)) = some (n, k) from hs); exact h5.sq H
    | 6, hs => cases (show (some (0, 1) : Option (Nat × Nat)) = some (n, k) from hs); exact h6.sq H
    | 7, hs => cases (show (some (0, 1) : Option (Nat × Nat)) = some (n, k) from hs); exact h7.sq H
    | 8, hs => cases (show (some (0, 0) : Option (Nat × Nat)) = some (n, k) from hs); exact h8.sq H
    | 9, hs => cases (show (some (1, 1) : Option (Nat × Nat)) = some (n, k) from hs); exact h9.sq H
    | 10, hs => cases (show (some (0, 2) : Option (Nat × Nat)) = some (n, k) from hs); exact h10.sq H
    | 11, hs => cases (show (some (0, 1) : Option (Nat × Nat)) = some (n, k) from hs); exact h11.sq H
    | 12, hs => cases (show (some (0, 3) : Option (Nat × Nat)) = some (n, k) from hs); exact h12.sq H
    | 13, hs => cases (show (some (1, 0) : Option (Nat × Nat)) = some (n, k) from hs); exact h13.sq H
    | 14, hs => cases (show (some (1, 0) : Option (Nat × Nat)) = some (n, k) from hs); exact h14.sq H
    | 15, hs => cases (show (some (0, 1) : Option (Nat × Nat)) = some (n, k) from hs); exact h15.sq H
    | 16, hs => cases (show (some (0, 1) : Option (Nat × Nat)) = some (n, k) from hs); exact h16.sq H
    | 17, hs => cases (show (some (1, 0) : Option (Nat × Nat)) = some (n, k) from hs); exact h17.sq H
    | 18, hs => cases (show (some (0, 0) : Option (Nat × Nat)) = some (n, k) from hs); exact h18.sq H
    | 19, hs => cases (show (some (2, 0) : Option (Nat × Nat)) = some (n, k) from hs); exact h19.sq H
    | 20, hs => cases (show (some (0, 0) : Option (Nat × Nat)) = some (n, k) from hs); exact h20.sq H
    | 21, hs => cases (show (some (0, 0) : Option (Nat × Nat)) = some (n, k) from hs); exact h21.sq H
    | 22, hs => cases (show (some (0, 0) : Option (Nat × Nat)) = some (n, k) from hs); exact h22.sq H
    | j + 23, _ => omega
theorem fin_ok {Pg : Program} {w : World} {K : PySem.W.Frag} {mg : Str → Option Value} {C : Cs} {aF c Pt fa : Addr} (A : AllF K mg C aF c Pt) (hfa : mg "answers" = some (.ref fa)) :
    ∃ fd : FuncData, (∀ (s : Shared) (us : List Value), us.length = (["calls"] : List Str).length → BindsTo s fd ⟨us, []⟩ ((["calls"] : List Str).zip us)) ∧ ∀ base : Heap, K.In base → base.Ns mainGlobals mg → TabB base mg c Pt → FnOk Pg w K mg base C8.CX0 12 fa fd ["calls"] (sp_answers K [(Pt, qLam)]) := by
  obtain ⟨f, oc, od, kV, doc, pm, an, cd, ct, osl, l, hc, hm, kp⟩ := A.d_answers.ex
  have e : f = fa := by rw [hm] at hfa; cases hfa; rfl
  subst e
  refine ⟨_, fun s us hu => match us, hu with | [_], _ => .of_eq rfl, fun base hK hns TB => C8.fn0 (st := s_answers) ⟨oc, od, _, kV, doc, pm, an, cd, ct, osl, rfl, l, hc⟩ sc_answers (fun vs H Q E h => ?_) (fun cdv A1 outer s H vs Q E hr h => ⟨_, dv_answers A.txt hr A.hF (ok_Memory A TB) (ok_answer_call A TB) (ok_read_rows A TB), pure_answers A.cc A.forms h⟩)⟩
  obtain ⟨_, _, rfl, _⟩ := h
  rfl
theorem tabs_new {Pt : Addr} {q : Str} {H : Hp} (h : H Pt = some (.tbl #[])) : Tabs [(Pt, q)] H := fun p hp => by
  rw [List.mem_singleton.mp hp]
  exact ⟨#[], h, trivial, fun pos cv z => nomatch z⟩
theorem fin_main (K : PySem.W.Frag) (Pt : Addr) (H0 H : Hp) (xs : List V) (a : Codec.denoteAll PySem.Challenge.rw_plantshand_s01_answers.args) (ex : Evl.Ex H0 H) (hT : H Pt = some (.tbl #[])) (hwi : Codec.withinAll PySem.Challenge.rw_plantshand_s01_answers.args a = true) (hask : Codec.app PySem.Challenge.rw_plantshand_s01_answers.args PySem.Challenge.rw_plantshand_s01_answers.asked a = true)
    (hx : DwAll K H0 xs (Codec.encAll PySem.Challenge.rw_plantshand_s01_answers.args a)) : sp_answers K [(Pt, qLam)] xs H (fun v H' => Dw K H' v (PySem.Challenge.rw_plantshand_s01_answers.ret.enc (Codec.app PySem.Challenge.rw_plantshand_s01_answers.args PySem.Challenge.rw_plantshand_s01_answers.f a))) fun _ _ _ => False := by
  cases hx with
  | cons h1 h2 =>
    cases h2
    cases h1 with
    | lst hs ha =>
      have e := L2.ints_dw a.1 _ ha
      subst e
      have q : ((Codec.inLen 0 20000 a.1 && a.1.all (Codec.inInt 0 1000000000000000)) && true) = true := hwi
      rw [Bool.and_eq_true, Bool.and_eq_true] at q
      exact ⟨_, a.1, rfl, ex_l ex hs, tabs_new hT, (Codec.inNat_iff.mp q.1.1).2, fun x hx => (Codec.inInt_iff.mp (List.all_eq_true.mp q.1.2 x hx)).1, hask, fun H' p hp _ => .lst (L2.SqL.of hp) (L2.dw_ints _)⟩
end Pp
end
set_option Elab.async false
open PySem PySem.W PyProof.Rows
set_option maxRecDepth 100000 in
set_option maxHeartbeats 8000000 in
theorem PySem.Challenge.cw_plantshand_s01_answers_holds : PySem.Challenge.rw_plantshand_s01_answers.Holds := by
  w_on; k_headS; (case hw => exact ⟨[.list [.int 8]], by decide +kernel, by decide +kernel⟩)
  k_fillS
  refine Pp.spec_end (r := PySem.Challenge.rw_plantshand_s01_answers) (k := 12) (ps := ["calls"]) (sp := Pp.sp_answers) (x0 := "by_worth") (ql := Pp.qLam) (by decide +kernel) rfl rfl ⟨rfl, by decide, by decide⟩ ?rec (fun w h Y => PySem.W.kIn_of Y) ?fn (fun K Pt H0 H xs a e1 e2 e3 e4 e5 => Pp.fin_main K Pt H0 H xs a e1 e2 e3 e4 e5)
  case rec => exact ⟨_, rfl⟩
  case fn =>
    intro w mg fa h KX G hmg
    have b_enumerate : mg "enumerate" = none := by refine' PySem.W.mg_none_of KX G ?e; (case e => k_is)
    have b_int : mg "int" = none := by refine' PySem.W.mg_none_of KX G ?e; (case e => k_is)
    have b_len : mg "len" = none := by refine' PySem.W.mg_none_of KX G ?e; (case e => k_is)
    have b_list : mg "list" = none := by refine' PySem.W.mg_none_of KX G ?e; (case e => k_is)
    have b_max : mg "max" = none := by refine' PySem.W.mg_none_of KX G ?e; (case e => k_is)
    have b_min : mg "min" = none := by refine' PySem.W.mg_none_of KX G ?e; (case e => k_is)
    have b_range : mg "range" = none := by refine' PySem.W.mg_none_of KX G ?e; (case e => k_is)
    have b_sorted : mg "sorted" = none := by refine' PySem.W.mg_none_of KX G ?e; (case e => k_is)
    have b_sum : mg "sum" = none := by refine' PySem.W.mg_none_of KX G ?e; (case e => k_is)
    have b_zip : mg "zip" = none := by refine' PySem.W.mg_none_of KX G ?e; (case e => k_is)
    have c_MICROS : ∃ u, mg "MICROS" = some u ∧ L2.RelV (.int 1000000) u := by refine' Pp.cst_of KX G ?e; (case e => k_is)
    have c_MOST_POINTS : ∃ u, mg "MOST_POINTS" = some u ∧ L2.RelV (.int 24) u := by refine' Pp.cst_of KX G ?e; (case e => k_is)
    have c_MOST_GIVERS : ∃ u, mg "MOST_GIVERS" = some u ∧ L2.RelV (.int 24) u := by refine' Pp.cst_of KX G ?e; (case e => k_is)
    have c_MOST_CLASS : ∃ u, mg "MOST_CLASS" = some u ∧ L2.RelV (.int 7) u := by refine' Pp.cst_of KX G ?e; (case e => k_is)
    have c_MOST_WATTS : ∃ u, mg "MOST_WATTS" = some u ∧ L2.RelV (.int 10000000) u := by refine' Pp.cst_of KX G ?e; (case e => k_is)
    have c_MOST_WAIT : ∃ u, mg "MOST_WAIT" = some u ∧ L2.RelV (.int 96) u := by refine' Pp.cst_of KX G ?e; (case e => k_is)
    have c_MOST_WORTH : ∃ u, mg "MOST_WORTH" = some u ∧ L2.RelV (.int 65535) u := by refine' Pp.cst_of KX G ?e; (case e => k_is)
    have c_CLASSES : ∃ u, mg "CLASSES" = some u ∧ L2.RelV (.int 8) u := by refine' Pp.cst_of KX G ?e; (case e => k_is)
    have c_PLANT : ∃ u, mg "PLANT" = some u ∧ L2.RelV (.int 8) u := by refine' Pp.cst_of KX G ?e; (case e => k_is)
    have c_NO_LIMIT : ∃ u, mg "NO_LIMIT" = some u ∧ L2.RelV (.int (-1)) u := by refine' Pp.cst_of KX G ?e; (case e => k_is)
    have c_FAIREST : ∃ u, mg "FAIREST" = some u ∧ L2.RelV (.int 0) u := by refine' Pp.cst_of KX G ?e; (case e => k_is)
    have c_MOST_RULE : ∃ u, mg "MOST_RULE" = some u ∧ L2.RelV (.int 1) u := by refine' Pp.cst_of KX G ?e; (case e => k_is)
    have c_MOST_NUMBER : ∃ u, mg "MOST_NUMBER" = some u ∧ L2.RelV (.int 4294967295) u := by refine' Pp.cst_of KX G ?e; (case e => k_is)
    have c_NOT_BACK : ∃ u, mg "NOT_BACK" = some u ∧ L2.RelV (.int (-1)) u := by refine' Pp.cst_of KX G ?e; (case e => k_is)
    have c_NO_ORDER : ∃ u, mg "NO_ORDER" = some u ∧ L2.RelV (.int (-1)) u := by refine' Pp.cst_of KX G ?e; (case e => k_is)
    have c_MOST_ORDERS : ∃ u, mg "MOST_ORDERS" = some u ∧ L2.RelV (.int 32) u := by refine' Pp.cst_of KX G ?e; (case e => k_is)
    have c_MOST_REMEMBERED : ∃ u, mg "MOST_REMEMBERED" = some u ∧ L2.RelV (.int 16) u := by refine' Pp.cst_of KX G ?e; (case e => k_is)
    have c_NOT_ALLOWED : ∃ u, mg "NOT_ALLOWED" = some u ∧ L2.RelV (.int 0) u := by refine' Pp.cst_of KX G ?e; (case e => k_is)
    have c_ALLOWED_ONLY : ∃ u, mg "ALLOWED_ONLY" = some u ∧ L2.RelV (.int 1) u := by refine' Pp.cst_of KX G ?e; (case e => k_is)
    have c_FAIREST_ALSO : ∃ u, mg "FAIREST_ALSO" = some u ∧ L2.RelV (.int 2) u := by refine' Pp.cst_of KX G ?e; (case e => k_is)
    have c_FAIREST_TOLD : ∃ u, mg "FAIREST_TOLD" = some u ∧ L2.RelV (.int 3) u := by refine' Pp.cst_of KX G ?e; (case e => k_is)
    have c_PRICES_ASKED : ∃ u, mg "PRICES_ASKED" = some u ∧ L2.RelV (.int 9) u := by refine' Pp.cst_of KX G ?e; (case e => k_is)
    have c_GIVER : ∃ u, mg "GIVER" = some u ∧ L2.RelV (.int 0) u := by refine' Pp.cst_of KX G ?e; (case e => k_is)
    have c_AWAY : ∃ u, mg "AWAY" = some u ∧ L2.RelV (.int 1) u := by refine' Pp.cst_of KX G ?e; (case e => k_is)
    have c_RAMPS : ∃ u, mg "RAMPS" = some u ∧ L2.RelV (.int 2) u := by refine' Pp.cst_of KX G ?e; (case e => k_is)
    have c_RULE : ∃ u, mg "RULE" = some u ∧ L2.RelV (.int 3) u := by refine' Pp.cst_of KX G ?e; (case e => k_is)
    have c_ORDER : ∃ u, mg "ORDER" = some u ∧ L2.RelV (.int 4) u := by refine' Pp.cst_of KX G ?e; (case e => k_is)
    have c_BACK : ∃ u, mg "BACK" = some u ∧ L2.RelV (.int 5) u := by refine' Pp.cst_of KX G ?e; (case e => k_is)
    have c_QUARTER : ∃ u, mg "QUARTER" = some u ∧ L2.RelV (.int 6) u := by refine' Pp.cst_of KX G ?e; (case e => k_is)
    have c_COULD : ∃ u, mg "COULD" = some u ∧ L2.RelV (.int 7) u := by refine' Pp.cst_of KX G ?e; (case e => k_is)
    have c_LIMITS : ∃ u, mg "LIMITS" = some u ∧ L2.RelV (.int 8) u := by refine' Pp.cst_of KX G ?e; (case e => k_is)
    have c_PARTS : ∃ u, mg "PARTS" = some u ∧ L2.RelV (.int 9) u := by refine' Pp.cst_of KX G ?e; (case e => k_is)
    have c_JUDGE : ∃ u, mg "JUDGE" = some u ∧ L2.RelV (.int 10) u := by refine' Pp.cst_of KX G ?e; (case e => k_is)
    have c_PRICES : ∃ u, mg "PRICES" = some u ∧ L2.RelV (.int 11) u := by refine' Pp.cst_of KX G ?e; (case e => k_is)
    have c_PROOF : ∃ u, mg "PROOF" = some u ∧ L2.RelV (.int 12) u := by refine' Pp.cst_of KX G ?e; (case e => k_is)
    have c_LOST : ∃ u, mg "LOST" = some u ∧ L2.RelV (.int 13) u := by refine' Pp.cst_of KX G ?e; (case e => k_is)
    have c_TOLD : ∃ u, mg "TOLD" = some u ∧ L2.RelV (.int 14) u := by refine' Pp.cst_of KX G ?e; (case e => k_is)
    have c_BINDS : ∃ u, mg "BINDS" = some u ∧ L2.RelV (.int 15) u := by refine' Pp.cst_of KX G ?e; (case e => k_is)
    have c_STATE : ∃ u, mg "STATE" = some u ∧ L2.RelV (.int 17) u := by refine' Pp.cst_of KX G ?e; (case e => k_is)
    have c_SUMS : ∃ u, mg "SUMS" = some u ∧ L2.RelV (.int 18) u := by refine' Pp.cst_of KX G ?e; (case e => k_is)
    have c_PASSES : ∃ u, mg "PASSES" = some u ∧ L2.RelV (.int 19) u := by refine' Pp.cst_of KX G ?e; (case e => k_is)
    have c_UNDO : ∃ u, mg "UNDO" = some u ∧ L2.RelV (.int 20) u := by refine' Pp.cst_of KX G ?e; (case e => k_is)
    have c_REDO : ∃ u, mg "REDO" = some u ∧ L2.RelV (.int 21) u := by refine' Pp.cst_of KX G ?e; (case e => k_is)
    have txt : Pp.Txt (PySem.Challenge.cw_plantshand_s01_answers_holds.heap_1 w.params) mg := ⟨b_enumerate, b_int, b_len, b_list, b_max, b_min, b_range, b_sorted, b_sum, b_zip, c_MICROS, c_MOST_POINTS, c_MOST_GIVERS, c_MOST_CLASS, c_MOST_WATTS, c_MOST_WAIT, c_MOST_WORTH, c_CLASSES, c_PLANT, c_NO_LIMIT, c_FAIREST, c_MOST_RULE, c_MOST_NUMBER, c_NOT_BACK, c_NO_ORDER, c_MOST_ORDERS, c_MOST_REMEMBERED, c_NOT_ALLOWED, c_ALLOWED_ONLY, c_FAIREST_ALSO, c_FAIREST_TOLD, c_PRICES_ASKED, c_GIVER, c_AWAY, c_RAMPS, c_RULE, c_ORDER, c_BACK, c_QUARTER, c_COULD, c_LIMITS, c_PARTS, c_JUDGE, c_PRICES, c_PROOF, c_LOST, c_TOLD, c_BINDS, c_STATE, c_SUMS, c_PASSES, c_UNDO, c_REDO⟩
    have d_with_row : Pp.DefF (PySem.Challenge.cw_plantshand_s01_answers_holds.heap_1 w.params) mg "with_row" Pp.s_with_row := by refine' Pp.DefF.of KX G ?a ?l ?c ?k; (case a => k_is); (case l => k_is); (case c => k_is); (case k => k_is)
    have d_is_table : Pp.DefF (PySem.Challenge.cw_plantshand_s01_answers_holds.heap_1 w.params) mg "is_table" Pp.s_is_table := by refine' Pp.DefF.of KX G ?a ?l ?c ?k; (case a => k_is); (case l => k_is); (case c => k_is); (case k => k_is)
    have d_loss_at : Pp.DefF (PySem.Challenge.cw_plantshand_s01_answers_holds.heap_1 w.params) mg "loss_at" Pp.s_loss_at := by refine' Pp.DefF.of KX G ?a ?l ?c ?k; (case a => k_is); (case l => k_is); (case c => k_is); (case k => k_is)
    have d_left_after_loss : Pp.DefF (PySem.Challenge.cw_plantshand_s01_answers_holds.heap_1 w.params) mg "left_after_loss" Pp.s_left_after_loss := by refine' Pp.DefF.of KX G ?a ?l ?c ?k; (case a => k_is); (case l => k_is); (case c => k_is); (case k => k_is)
    have d_is_giver : Pp.DefF (PySem.Challenge.cw_plantshand_s01_answers_holds.heap_1 w.params) mg "is_giver" Pp.s_is_giver := by refine' Pp.DefF.of KX G ?a ?l ?c ?k; (case a => k_is); (case l => k_is); (case c => k_is); (case k => k_is)
    have d_passed : Pp.DefF (PySem.Challenge.cw_plantshand_s01_answers_holds.heap_1 w.params) mg "passed" Pp.s_passed := by refine' Pp.DefF.of KX G ?a ?l ?c ?k; (case a => k_is); (case l => k_is); (case c => k_is); (case k => k_is)
    have d_step : Pp.DefF (PySem.Challenge.cw_plantshand_s01_answers_holds.heap_1 w.params) mg "step" Pp.s_step := by refine' Pp.DefF.of KX G ?a ?l ?c ?k; (case a => k_is); (case l => k_is); (case c => k_is); (case k => k_is)
    have d_could_give : Pp.DefF (PySem.Challenge.cw_plantshand_s01_answers_holds.heap_1 w.params) mg "could_give" Pp.s_could_give := by refine' Pp.DefF.of KX G ?a ?l ?c ?k; (case a => k_is); (case l => k_is); (case c => k_is); (case k => k_is)
    have d_class_sums : Pp.DefF (PySem.Challenge.cw_plantshand_s01_answers_holds.heap_1 w.params) mg "class_sums" Pp.s_class_sums := by refine' Pp.DefF.of KX G ?a ?l ?c ?k; (case a => k_is); (case l => k_is); (case c => k_is); (case k => k_is)
    have d_scope_sums : Pp.DefF (PySem.Challenge.cw_plantshand_s01_answers_holds.heap_1 w.params) mg "scope_sums" Pp.s_scope_sums := by refine' Pp.DefF.of KX G ?a ?l ?c ?k; (case a => k_is); (case l => k_is); (case c => k_is); (case k => k_is)
    have d_under : Pp.DefF (PySem.Challenge.cw_plantshand_s01_answers_holds.heap_1 w.params) mg "under" Pp.s_under := by refine' Pp.DefF.of KX G ?a ?l ?c ?k; (case a => k_is); (case l => k_is); (case c => k_is); (case k => k_is)
    have d_given_in_all : Pp.DefF (PySem.Challenge.cw_plantshand_s01_answers_holds.heap_1 w.params) mg "given_in_all" Pp.s_given_in_all := by refine' Pp.DefF.of KX G ?a ?l ?c ?k; (case a => k_is); (case l => k_is); (case c => k_is); (case k => k_is)
    have d_level_and_rest : Pp.DefF (PySem.Challenge.cw_plantshand_s01_answers_holds.heap_1 w.params) mg "level_and_rest" Pp.s_level_and_rest := by refine' Pp.DefF.of KX G ?a ?l ?c ?k; (case a => k_is); (case l => k_is); (case c => k_is); (case k => k_is)
    have d_levelled : Pp.DefF (PySem.Challenge.cw_plantshand_s01_answers_holds.heap_1 w.params) mg "levelled" Pp.s_levelled := by refine' Pp.DefF.of KX G ?a ?l ?c ?k; (case a => k_is); (case l => k_is); (case c => k_is); (case k => k_is)
    have d_with_class_levelled : Pp.DefF (PySem.Challenge.cw_plantshand_s01_answers_holds.heap_1 w.params) mg "with_class_levelled" Pp.s_with_class_levelled := by refine' Pp.DefF.of KX G ?a ?l ?c ?k; (case a => k_is); (case l => k_is); (case c => k_is); (case k => k_is)
    have d_fairest : Pp.DefF (PySem.Challenge.cw_plantshand_s01_answers_holds.heap_1 w.params) mg "fairest" Pp.s_fairest := by refine' Pp.DefF.of KX G ?a ?l ?c ?k; (case a => k_is); (case l => k_is); (case c => k_is); (case k => k_is)
    have d_least_losing : Pp.DefF (PySem.Challenge.cw_plantshand_s01_answers_holds.heap_1 w.params) mg "least_losing" Pp.s_least_losing := by refine' Pp.DefF.of KX G ?a ?l ?c ?k; (case a => k_is); (case l => k_is); (case c => k_is); (case k => k_is)
    have d_shares_by : Pp.DefF (PySem.Challenge.cw_plantshand_s01_answers_holds.heap_1 w.params) mg "shares_by" Pp.s_shares_by := by refine' Pp.DefF.of KX G ?a ?l ?c ?k; (case a => k_is); (case l => k_is); (case c => k_is); (case k => k_is)
    have d_copy_of : Pp.DefF (PySem.Challenge.cw_plantshand_s01_answers_holds.heap_1 w.params) mg "copy_of" Pp.s_copy_of := by refine' Pp.DefF.of KX G ?a ?l ?c ?k; (case a => k_is); (case l => k_is); (case c => k_is); (case k => k_is)
    have d_with_one : Pp.DefF (PySem.Challenge.cw_plantshand_s01_answers_holds.heap_1 w.params) mg "with_one" Pp.s_with_one := by refine' Pp.DefF.of KX G ?a ?l ?c ?k; (case a => k_is); (case l => k_is); (case c => k_is); (case k => k_is)
    have d_in_force : Pp.DefF (PySem.Challenge.cw_plantshand_s01_answers_holds.heap_1 w.params) mg "in_force" Pp.s_in_force := by refine' Pp.DefF.of KX G ?a ?l ?c ?k; (case a => k_is); (case l => k_is); (case c => k_is); (case k => k_is)
    have d_brought_down : Pp.DefF (PySem.Challenge.cw_plantshand_s01_answers_holds.heap_1 w.params) mg "brought_down" Pp.s_brought_down := by refine' Pp.DefF.of KX G ?a ?l ?c ?k; (case a => k_is); (case l => k_is); (case c => k_is); (case k => k_is)
    have d_limits_without : Pp.DefF (PySem.Challenge.cw_plantshand_s01_answers_holds.heap_1 w.params) mg "limits_without" Pp.s_limits_without := by refine' Pp.DefF.of KX G ?a ?l ?c ?k; (case a => k_is); (case l => k_is); (case c => k_is); (case k => k_is)
    have d_limits_under : Pp.DefF (PySem.Challenge.cw_plantshand_s01_answers_holds.heap_1 w.params) mg "limits_under" Pp.s_limits_under := by refine' Pp.DefF.of KX G ?a ?l ?c ?k; (case a => k_is); (case l => k_is); (case c => k_is); (case k => k_is)
    have d_limits_now : Pp.DefF (PySem.Challenge.cw_plantshand_s01_answers_holds.heap_1 w.params) mg "limits_now" Pp.s_limits_now := by refine' Pp.DefF.of KX G ?a ?l ?c ?k; (case a => k_is); (case l => k_is); (case c => k_is); (case k => k_is)
    have d_own_losses : Pp.DefF (PySem.Challenge.cw_plantshand_s01_answers_holds.heap_1 w.params) mg "own_losses" Pp.s_own_losses := by refine' Pp.DefF.of KX G ?a ?l ?c ?k; (case a => k_is); (case l => k_is); (case c => k_is); (case k => k_is)
    have d_binding : Pp.DefF (PySem.Challenge.cw_plantshand_s01_answers_holds.heap_1 w.params) mg "binding" Pp.s_binding := by refine' Pp.DefF.of KX G ?a ?l ?c ?k; (case a => k_is); (case l => k_is); (case c => k_is); (case k => k_is)
    have d_clearing : Pp.DefF (PySem.Challenge.cw_plantshand_s01_answers_holds.heap_1 w.params) mg "clearing" Pp.s_clearing := by refine' Pp.DefF.of KX G ?a ?l ?c ?k; (case a => k_is); (case l => k_is); (case c => k_is); (case k => k_is)
    have d_steps : Pp.DefF (PySem.Challenge.cw_plantshand_s01_answers_holds.heap_1 w.params) mg "steps" Pp.s_steps := by refine' Pp.DefF.of KX G ?a ?l ?c ?k; (case a => k_is); (case l => k_is); (case c => k_is); (case k => k_is)
    have d_able_after : Pp.DefF (PySem.Challenge.cw_plantshand_s01_answers_holds.heap_1 w.params) mg "able_after" Pp.s_able_after := by refine' Pp.DefF.of KX G ?a ?l ?c ?k; (case a => k_is); (case l => k_is); (case c => k_is); (case k => k_is)
    have d_able_next : Pp.DefF (PySem.Challenge.cw_plantshand_s01_answers_holds.heap_1 w.params) mg "able_next" Pp.s_able_next := by refine' Pp.DefF.of KX G ?a ?l ?c ?k; (case a => k_is); (case l => k_is); (case c => k_is); (case k => k_is)
    have d_count_orders : Pp.DefF (PySem.Challenge.cw_plantshand_s01_answers_holds.heap_1 w.params) mg "count_orders" Pp.s_count_orders := by refine' Pp.DefF.of KX G ?a ?l ?c ?k; (case a => k_is); (case l => k_is); (case c => k_is); (case k => k_is)
    have d_go_through : Pp.DefF (PySem.Challenge.cw_plantshand_s01_answers_holds.heap_1 w.params) mg "go_through" Pp.s_go_through := by refine' Pp.DefF.of KX G ?a ?l ?c ?k; (case a => k_is); (case l => k_is); (case c => k_is); (case k => k_is)
    have d_tell_giver : Pp.DefF (PySem.Challenge.cw_plantshand_s01_answers_holds.heap_1 w.params) mg "tell_giver" Pp.s_tell_giver := by refine' Pp.DefF.of KX G ?a ?l ?c ?k; (case a => k_is); (case l => k_is); (case c => k_is); (case k => k_is)
    have d_tell_away : Pp.DefF (PySem.Challenge.cw_plantshand_s01_answers_holds.heap_1 w.params) mg "tell_away" Pp.s_tell_away := by refine' Pp.DefF.of KX G ?a ?l ?c ?k; (case a => k_is); (case l => k_is); (case c => k_is); (case k => k_is)
    have d_tell_ramps : Pp.DefF (PySem.Challenge.cw_plantshand_s01_answers_holds.heap_1 w.params) mg "tell_ramps" Pp.s_tell_ramps := by refine' Pp.DefF.of KX G ?a ?l ?c ?k; (case a => k_is); (case l => k_is); (case c => k_is); (case k => k_is)
    have d_tell_rule : Pp.DefF (PySem.Challenge.cw_plantshand_s01_answers_holds.heap_1 w.params) mg "tell_rule" Pp.s_tell_rule := by refine' Pp.DefF.of KX G ?a ?l ?c ?k; (case a => k_is); (case l => k_is); (case c => k_is); (case k => k_is)
    have d_tell_order : Pp.DefF (PySem.Challenge.cw_plantshand_s01_answers_holds.heap_1 w.params) mg "tell_order" Pp.s_tell_order := by refine' Pp.DefF.of KX G ?a ?l ?c ?k; (case a => k_is); (case l => k_is); (case c => k_is); (case k => k_is)
    have d_tell_back : Pp.DefF (PySem.Challenge.cw_plantshand_s01_answers_holds.heap_1 w.params) mg "tell_back" Pp.s_tell_back := by refine' Pp.DefF.of KX G ?a ?l ?c ?k; (case a => k_is); (case l => k_is); (case c => k_is); (case k => k_is)
    have d_tell_quarter : Pp.DefF (PySem.Challenge.cw_plantshand_s01_answers_holds.heap_1 w.params) mg "tell_quarter" Pp.s_tell_quarter := by refine' Pp.DefF.of KX G ?a ?l ?c ?k; (case a => k_is); (case l => k_is); (case c => k_is); (case k => k_is)
    have d_take_over : Pp.DefF (PySem.Challenge.cw_plantshand_s01_answers_holds.heap_1 w.params) mg "take_over" Pp.s_take_over := by refine' Pp.DefF.of KX G ?a ?l ?c ?k; (case a => k_is); (case l => k_is); (case c => k_is); (case k => k_is)
    have d_tell_undo : Pp.DefF (PySem.Challenge.cw_plantshand_s01_answers_holds.heap_1 w.params) mg "tell_undo" Pp.s_tell_undo := by refine' Pp.DefF.of KX G ?a ?l ?c ?k; (case a => k_is); (case l => k_is); (case c => k_is); (case k => k_is)
    have d_tell_redo : Pp.DefF (PySem.Challenge.cw_plantshand_s01_answers_holds.heap_1 w.params) mg "tell_redo" Pp.s_tell_redo := by refine' Pp.DefF.of KX G ?a ?l ?c ?k; (case a => k_is); (case l => k_is); (case c => k_is); (case k => k_is)
    have d_tell_begin : Pp.DefF (PySem.Challenge.cw_plantshand_s01_answers_holds.heap_1 w.params) mg "tell_begin" Pp.s_tell_begin := by refine' Pp.DefF.of KX G ?a ?l ?c ?k; (case a => k_is); (case l => k_is); (case c => k_is); (case k => k_is)
    have d_is_allowed : Pp.DefF (PySem.Challenge.cw_plantshand_s01_answers_holds.heap_1 w.params) mg "is_allowed" Pp.s_is_allowed := by refine' Pp.DefF.of KX G ?a ?l ?c ?k; (case a => k_is); (case l => k_is); (case c => k_is); (case k => k_is)
    have d_judgement : Pp.DefF (PySem.Challenge.cw_plantshand_s01_answers_holds.heap_1 w.params) mg "judgement" Pp.s_judgement := by refine' Pp.DefF.of KX G ?a ?l ?c ?k; (case a => k_is); (case l => k_is); (case c => k_is); (case k => k_is)
    have d_loss_of : Pp.DefF (PySem.Challenge.cw_plantshand_s01_answers_holds.heap_1 w.params) mg "loss_of" Pp.s_loss_of := by refine' Pp.DefF.of KX G ?a ?l ?c ?k; (case a => k_is); (case l => k_is); (case c => k_is); (case k => k_is)
    have d_full_classes : Pp.DefF (PySem.Challenge.cw_plantshand_s01_answers_holds.heap_1 w.params) mg "full_classes" Pp.s_full_classes := by refine' Pp.DefF.of KX G ?a ?l ?c ?k; (case a => k_is); (case l => k_is); (case c => k_is); (case k => k_is)
    have d_prices_told : Pp.DefF (PySem.Challenge.cw_plantshand_s01_answers_holds.heap_1 w.params) mg "prices_told" Pp.s_prices_told := by refine' Pp.DefF.of KX G ?a ?l ?c ?k; (case a => k_is); (case l => k_is); (case c => k_is); (case k => k_is)
    have d_fits_worth : Pp.DefF (PySem.Challenge.cw_plantshand_s01_answers_holds.heap_1 w.params) mg "fits_worth" Pp.s_fits_worth := by refine' Pp.DefF.of KX G ?a ?l ?c ?k; (case a => k_is); (case l => k_is); (case c => k_is); (case k => k_is)
    have d_is_proof : Pp.DefF (PySem.Challenge.cw_plantshand_s01_answers_holds.heap_1 w.params) mg "is_proof" Pp.s_is_proof := by refine' Pp.DefF.of KX G ?a ?l ?c ?k; (case a => k_is); (case l => k_is); (case c => k_is); (case k => k_is)
    have d_is_able : Pp.DefF (PySem.Challenge.cw_plantshand_s01_answers_holds.heap_1 w.params) mg "is_able" Pp.s_is_able := by refine' Pp.DefF.of KX G ?a ?l ?c ?k; (case a => k_is); (case l => k_is); (case c => k_is); (case k => k_is)
    have d_ask_could : Pp.DefF (PySem.Challenge.cw_plantshand_s01_answers_holds.heap_1 w.params) mg "ask_could" Pp.s_ask_could := by refine' Pp.DefF.of KX G ?a ?l ?c ?k; (case a => k_is); (case l => k_is); (case c => k_is); (case k => k_is)
    have d_ask_limits : Pp.DefF (PySem.Challenge.cw_plantshand_s01_answers_holds.heap_1 w.params) mg "ask_limits" Pp.s_ask_limits := by refine' Pp.DefF.of KX G ?a ?l ?c ?k; (case a => k_is); (case l => k_is); (case c => k_is); (case k => k_is)
    have d_ask_parts : Pp.DefF (PySem.Challenge.cw_plantshand_s01_answers_holds.heap_1 w.params) mg "ask_parts" Pp.s_ask_parts := by refine' Pp.DefF.of KX G ?a ?l ?c ?k; (case a => k_is); (case l => k_is); (case c => k_is); (case k => k_is)
    have d_ask_judge : Pp.DefF (PySem.Challenge.cw_plantshand_s01_answers_holds.heap_1 w.params) mg "ask_judge" Pp.s_ask_judge := by refine' Pp.DefF.of KX G ?a ?l ?c ?k; (case a => k_is); (case l => k_is); (case c => k_is); (case k => k_is)
    have d_ask_prices : Pp.DefF (PySem.Challenge.cw_plantshand_s01_answers_holds.heap_1 w.params) mg "ask_prices" Pp.s_ask_prices := by refine' Pp.DefF.of KX G ?a ?l ?c ?k; (case a => k_is); (case l => k_is); (case c => k_is); (case k => k_is)
    have d_ask_proof : Pp.DefF (PySem.Challenge.cw_plantshand_s01_answers_holds.heap_1 w.params) mg "ask_proof" Pp.s_ask_proof := by refine' Pp.DefF.of KX G ?a ?l ?c ?k; (case a => k_is); (case l => k_is); (case c => k_is); (case k => k_is)
    have d_ask_binds : Pp.DefF (PySem.Challenge.cw_plantshand_s01_answers_holds.heap_1 w.params) mg "ask_binds" Pp.s_ask_binds := by refine' Pp.DefF.of KX G ?a ?l ?c ?k; (case a => k_is); (case l => k_is); (case c => k_is); (case k => k_is)
    have d_ask_clears : Pp.DefF (PySem.Challenge.cw_plantshand_s01_answers_holds.heap_1 w.params) mg "ask_clears" Pp.s_ask_clears := by refine' Pp.DefF.of KX G ?a ?l ?c ?k; (case a => k_is); (case l => k_is); (case c => k_is); (case k => k_is)
    have d_ask_lost : Pp.DefF (PySem.Challenge.cw_plantshand_s01_answers_holds.heap_1 w.params) mg "ask_lost" Pp.s_ask_lost := by refine' Pp.DefF.of KX G ?a ?l ?c ?k; (case a => k_is); (case l => k_is); (case c => k_is); (case k => k_is)
    have d_ask_told : Pp.DefF (PySem.Challenge.cw_plantshand_s01_answers_holds.heap_1 w.params) mg "ask_told" Pp.s_ask_told := by refine' Pp.DefF.of KX G ?a ?l ?c ?k; (case a => k_is); (case l => k_is); (case c => k_is); (case k => k_is)
    have d_ask_state : Pp.DefF (PySem.Challenge.cw_plantshand_s01_answers_holds.heap_1 w.params) mg "ask_state" Pp.s_ask_state := by refine' Pp.DefF.of KX G ?a ?l ?c ?k; (case a => k_is); (case l => k_is); (case c => k_is); (case k => k_is)
    have d_ask_sums : Pp.DefF (PySem.Challenge.cw_plantshand_s01_answers_holds.heap_1 w.params) mg "ask_sums" Pp.s_ask_sums := by refine' Pp.DefF.of KX G ?a ?l ?c ?k; (case a => k_is); (case l => k_is); (case c => k_is); (case k => k_is)
    have d_ask_passes : Pp.DefF (PySem.Challenge.cw_plantshand_s01_answers_holds.heap_1 w.params) mg "ask_passes" Pp.s_ask_passes := by refine' Pp.DefF.of KX G ?a ?l ?c ?k; (case a => k_is); (case l => k_is); (case c => k_is); (case k => k_is)
    have d_read_rows : Pp.DefF (PySem.Challenge.cw_plantshand_s01_answers_holds.heap_1 w.params) mg "read_rows" Pp.s_read_rows := by refine' Pp.DefF.of KX G ?a ?l ?c ?k; (case a => k_is); (case l => k_is); (case c => k_is); (case k => k_is)
    have d_answer_change : Pp.DefF (PySem.Challenge.cw_plantshand_s01_answers_holds.heap_1 w.params) mg "answer_change" Pp.s_answer_change := by refine' Pp.DefF.of KX G ?a ?l ?c ?k; (case a => k_is); (case l => k_is); (case c => k_is); (case k => k_is)
    have d_answer_remembered : Pp.DefF (PySem.Challenge.cw_plantshand_s01_answers_holds.heap_1 w.params) mg "answer_remembered" Pp.s_answer_remembered := by refine' Pp.DefF.of KX G ?a ?l ?c ?k; (case a => k_is); (case l => k_is); (case c => k_is); (case k => k_is)
    have d_answer_question : Pp.DefF (PySem.Challenge.cw_plantshand_s01_answers_holds.heap_1 w.params) mg "answer_question" Pp.s_answer_question := by refine' Pp.DefF.of KX G ?a ?l ?c ?k; (case a => k_is); (case l => k_is); (case c => k_is); (case k => k_is)
    have d_answer_record : Pp.DefF (PySem.Challenge.cw_plantshand_s01_answers_holds.heap_1 w.params) mg "answer_record" Pp.s_answer_record := by refine' Pp.DefF.of KX G ?a ?l ?c ?k; (case a => k_is); (case l => k_is); (case c => k_is); (case k => k_is)
    have d_answer_turn : Pp.DefF (PySem.Challenge.cw_plantshand_s01_answers_holds.heap_1 w.params) mg "answer_turn" Pp.s_answer_turn := by refine' Pp.DefF.of KX G ?a ?l ?c ?k; (case a => k_is); (case l => k_is); (case c => k_is); (case k => k_is)
    have d_answer_call : Pp.DefF (PySem.Challenge.cw_plantshand_s01_answers_holds.heap_1 w.params) mg "answer_call" Pp.s_answer_call := by refine' Pp.DefF.of KX G ?a ?l ?c ?k; (case a => k_is); (case l => k_is); (case c => k_is); (case k => k_is)
    have d_answers : Pp.DefF (PySem.Challenge.cw_plantshand_s01_answers_holds.heap_1 w.params) mg "answers" Pp.s_answers := by refine' Pp.DefF.of KX G ?a ?l ?c ?k; (case a => k_is); (case l => k_is); (case c => k_is); (case k => k_is)
    have lam : Pp.LamF (PySem.Challenge.cw_plantshand_s01_answers_holds.heap_1 w.params) mg 149 := by refine' Pp.LamF.of KX G ?a ?l ?c ?k; (case a => k_is); (case l => k_is); (case c => k_is); (case k => k_is)
    have tab : PySem.W.tabIn (PySem.Challenge.cw_plantshand_s01_answers_holds.heap_1 w.params) "by_worth" = some (149, 145) := by refine' Pp.tab_mk ?z1 ?z2 ?z3 ?z4 ?z5; (case z1 => k_is); (case z2 => k_is); (case z3 => rfl); (case z4 => k_is); (case z5 => rfl)
    have free : (PySem.Challenge.cw_plantshand_s01_answers_holds.heap_1 w.params).lookup 145 = none := by kernel_rfl
    have k_Giver : Pp.ClsF (PySem.Challenge.cw_plantshand_s01_answers_holds.heap_1 w.params) mg "Giver" "Giver.__init__" 59 Pp.s_Giver__init__ := by refine' Pp.ClsF.of KX G ?a ?fi ?i ?l ?c ?mk ?kc; (case a => k_is); (case fi => k_is); (case i => k_is); (case l => k_is); (case c => k_is); (case mk => k_is); (case kc => k_is)
    have cl_Giver : L2.Cls (PySem.Challenge.cw_plantshand_s01_answers_holds.heap_1 w.params) 59 := by refine' ⟨?pg, ?hd, ?po, ?sa⟩; (case pg => k_is); (case hd => k_is); (case po => k_is); (case sa => k_is)
    have k_Order : Pp.ClsF (PySem.Challenge.cw_plantshand_s01_answers_holds.heap_1 w.params) mg "Order" "Order.__init__" 181 Pp.s_Order__init__ := by refine' Pp.ClsF.of KX G ?a ?fi ?i ?l ?c ?mk ?kc; (case a => k_is); (case fi => k_is); (case i => k_is); (case l => k_is); (case c => k_is); (case mk => k_is); (case kc => k_is)
    have cl_Order : L2.Cls (PySem.Challenge.cw_plantshand_s01_answers_holds.heap_1 w.params) 181 := by refine' ⟨?pg, ?hd, ?po, ?sa⟩; (case pg => k_is); (case hd => k_is); (case po => k_is); (case sa => k_is)
    have k_Desk : Pp.ClsF (PySem.Challenge.cw_plantshand_s01_answers_holds.heap_1 w.params) mg "Desk" "Desk.__init__" 202 Pp.s_Desk__init__ := by refine' Pp.ClsF.of KX G ?a ?fi ?i ?l ?c ?mk ?kc; (case a => k_is); (case fi => k_is); (case i => k_is); (case l => k_is); (case c => k_is); (case mk => k_is); (case kc => k_is)
    have cl_Desk : L2.Cls (PySem.Challenge.cw_plantshand_s01_answers_holds.heap_1 w.params) 202 := by refine' ⟨?pg, ?hd, ?po, ?sa⟩; (case pg => k_is); (case hd => k_is); (case po => k_is); (case sa => k_is)
    have k_Memory : Pp.ClsF (PySem.Challenge.cw_plantshand_s01_answers_holds.heap_1 w.params) mg "Memory" "Memory.__init__" 371 Pp.s_Memory__init__ := by refine' Pp.ClsF.of KX G ?a ?fi ?i ?l ?c ?mk ?kc; (case a => k_is); (case fi => k_is); (case i => k_is); (case l => k_is); (case c => k_is); (case mk => k_is); (case kc => k_is)
    have cl_Memory : L2.Cls (PySem.Challenge.cw_plantshand_s01_answers_holds.heap_1 w.params) 371 := by refine' ⟨?pg, ?hd, ?po, ?sa⟩; (case pg => k_is); (case hd => k_is); (case po => k_is); (case sa => k_is)
    have n_Giver_kind : L2.NoAttr (PySem.Challenge.cw_plantshand_s01_answers_holds.heap_1 w.params) 59 "kind" := by show PySem.W.findIn _ _ _ = _; k_is
    have n_Giver_most : L2.NoAttr (PySem.Challenge.cw_plantshand_s01_answers_holds.heap_1 w.params) 59 "most" := by show PySem.W.findIn _ _ _ = _; k_is
    have n_Giver_start : L2.NoAttr (PySem.Challenge.cw_plantshand_s01_answers_holds.heap_1 w.params) 59 "start" := by show PySem.W.findIn _ _ _ = _; k_is
    have n_Giver_stop : L2.NoAttr (PySem.Challenge.cw_plantshand_s01_answers_holds.heap_1 w.params) 59 "stop" := by show PySem.W.findIn _ _ _ = _; k_is
    have n_Giver_wait : L2.NoAttr (PySem.Challenge.cw_plantshand_s01_answers_holds.heap_1 w.params) 59 "wait" := by show PySem.W.findIn _ _ _ = _; k_is
    have n_Giver_up : L2.NoAttr (PySem.Challenge.cw_plantshand_s01_answers_holds.heap_1 w.params) 59 "up" := by show PySem.W.findIn _ _ _ = _; k_is
    have n_Giver_worth : L2.NoAttr (PySem.Challenge.cw_plantshand_s01_answers_holds.heap_1 w.params) 59 "worth" := by show PySem.W.findIn _ _ _ = _; k_is
    have n_Giver_table : L2.NoAttr (PySem.Challenge.cw_plantshand_s01_answers_holds.heap_1 w.params) 59 "table" := by show PySem.W.findIn _ _ _ = _; k_is
    have n_Order_scope : L2.NoAttr (PySem.Challenge.cw_plantshand_s01_answers_holds.heap_1 w.params) 181 "scope" := by show PySem.W.findIn _ _ _ = _; k_is
    have n_Order_first : L2.NoAttr (PySem.Challenge.cw_plantshand_s01_answers_holds.heap_1 w.params) 181 "first" := by show PySem.W.findIn _ _ _ = _; k_is
    have n_Order_end : L2.NoAttr (PySem.Challenge.cw_plantshand_s01_answers_holds.heap_1 w.params) 181 "end" := by show PySem.W.findIn _ _ _ = _; k_is
    have n_Order_limit : L2.NoAttr (PySem.Challenge.cw_plantshand_s01_answers_holds.heap_1 w.params) 181 "limit" := by show PySem.W.findIn _ _ _ = _; k_is
    have n_Order_came : L2.NoAttr (PySem.Challenge.cw_plantshand_s01_answers_holds.heap_1 w.params) 181 "came" := by show PySem.W.findIn _ _ _ = _; k_is
    have n_Desk_givers : L2.NoAttr (PySem.Challenge.cw_plantshand_s01_answers_holds.heap_1 w.params) 202 "givers" := by show PySem.W.findIn _ _ _ = _; k_is
    have n_Desk_runs : L2.NoAttr (PySem.Challenge.cw_plantshand_s01_answers_holds.heap_1 w.params) 202 "runs" := by show PySem.W.findIn _ _ _ = _; k_is
    have n_Desk_waited : L2.NoAttr (PySem.Challenge.cw_plantshand_s01_answers_holds.heap_1 w.params) 202 "waited" := by show PySem.W.findIn _ _ _ = _; k_is
    have n_Desk_absent : L2.NoAttr (PySem.Challenge.cw_plantshand_s01_answers_holds.heap_1 w.params) 202 "absent" := by show PySem.W.findIn _ _ _ = _; k_is
    have n_Desk_gave : L2.NoAttr (PySem.Challenge.cw_plantshand_s01_answers_holds.heap_1 w.params) 202 "gave" := by show PySem.W.findIn _ _ _ = _; k_is
    have n_Desk_gave_ever : L2.NoAttr (PySem.Challenge.cw_plantshand_s01_answers_holds.heap_1 w.params) 202 "gave_ever" := by show PySem.W.findIn _ _ _ = _; k_is
    have n_Desk_orders : L2.NoAttr (PySem.Challenge.cw_plantshand_s01_answers_holds.heap_1 w.params) 202 "orders" := by show PySem.W.findIn _ _ _ = _; k_is
    have n_Desk_taken_back : L2.NoAttr (PySem.Challenge.cw_plantshand_s01_answers_holds.heap_1 w.params) 202 "taken_back" := by show PySem.W.findIn _ _ _ = _; k_is
    have n_Desk_in_force_for : L2.NoAttr (PySem.Challenge.cw_plantshand_s01_answers_holds.heap_1 w.params) 202 "in_force_for" := by show PySem.W.findIn _ _ _ = _; k_is
    have n_Desk_losses : L2.NoAttr (PySem.Challenge.cw_plantshand_s01_answers_holds.heap_1 w.params) 202 "losses" := by show PySem.W.findIn _ _ _ = _; k_is
    have n_Desk_up : L2.NoAttr (PySem.Challenge.cw_plantshand_s01_answers_holds.heap_1 w.params) 202 "up" := by show PySem.W.findIn _ _ _ = _; k_is
    have n_Desk_down : L2.NoAttr (PySem.Challenge.cw_plantshand_s01_answers_holds.heap_1 w.params) 202 "down" := by show PySem.W.findIn _ _ _ = _; k_is
    have n_Desk_rule : L2.NoAttr (PySem.Challenge.cw_plantshand_s01_answers_holds.heap_1 w.params) 202 "rule" := by show PySem.W.findIn _ _ _ = _; k_is
    have n_Desk_quarter : L2.NoAttr (PySem.Challenge.cw_plantshand_s01_answers_holds.heap_1 w.params) 202 "quarter" := by show PySem.W.findIn _ _ _ = _; k_is
    have n_Desk_could_ever : L2.NoAttr (PySem.Challenge.cw_plantshand_s01_answers_holds.heap_1 w.params) 202 "could_ever" := by show PySem.W.findIn _ _ _ = _; k_is
    have n_Memory_desk : L2.NoAttr (PySem.Challenge.cw_plantshand_s01_answers_holds.heap_1 w.params) 371 "desk" := by show PySem.W.findIn _ _ _ = _; k_is
    have n_Memory_earlier : L2.NoAttr (PySem.Challenge.cw_plantshand_s01_answers_holds.heap_1 w.params) 371 "earlier" := by show PySem.W.findIn _ _ _ = _; k_is
    have n_Memory_undone : L2.NoAttr (PySem.Challenge.cw_plantshand_s01_answers_holds.heap_1 w.params) 371 "undone" := by show PySem.W.findIn _ _ _ = _; k_is
    have cc : Pp.CC (PySem.Challenge.cw_plantshand_s01_answers_holds.heap_1 w.params) ⟨59, 181, 202, 371⟩ := ⟨⟨cl_Giver, n_Giver_kind, n_Giver_most, n_Giver_start, n_Giver_stop, n_Giver_wait, n_Giver_up, n_Giver_worth, n_Giver_table⟩, ⟨cl_Order, n_Order_scope, n_Order_first, n_Order_end, n_Order_limit, n_Order_came⟩, ⟨cl_Desk, n_Desk_givers, n_Desk_runs, n_Desk_waited, n_Desk_absent, n_Desk_gave, n_Desk_gave_ever, n_Desk_orders, n_Desk_taken_back, n_Desk_in_force_for, n_Desk_losses, n_Desk_up, n_Desk_down, n_Desk_rule, n_Desk_quarter, n_Desk_could_ever⟩, ⟨cl_Memory, n_Memory_desk, n_Memory_earlier, n_Memory_undone⟩⟩
    have f_0 : Pp.TupF (PySem.Challenge.cw_plantshand_s01_answers_holds.heap_1 w.params) (545 + 0) 7 1 := by refine' Pp.TupF.of ?e; (case e => k_is)
    have f_1 : Pp.TupF (PySem.Challenge.cw_plantshand_s01_answers_holds.heap_1 w.params) (545 + 1) 2 0 := by refine' Pp.TupF.of ?e; (case e => k_is)
    have f_2 : Pp.TupF (PySem.Challenge.cw_plantshand_s01_answers_holds.heap_1 w.params) (545 + 2) 2 0 := by refine' Pp.TupF.of ?e; (case e => k_is)
    have f_3 : Pp.TupF (PySem.Challenge.cw_plantshand_s01_answers_holds.heap_1 w.params) (545 + 3) 1 0 := by refine' Pp.TupF.of ?e; (case e => k_is)
    have f_4 : Pp.TupF (PySem.Challenge.cw_plantshand_s01_answers_holds.heap_1 w.params) (545 + 4) 4 0 := by refine' Pp.TupF.of ?e; (case e => k_is)
    have f_5 : Pp.TupF (PySem.Challenge.cw_plantshand_s01_answers_holds.heap_1 w.params) (545 + 5) 1 0 := by refine' Pp.TupF.of ?e; (case e => k_is)
    have f_6 : Pp.TupF (PySem.Challenge.cw_plantshand_s01_answers_holds.heap_1 w.params) (545 + 6) 0 1 := by refine' Pp.TupF.of ?e; (case e => k_is)
    have f_7 : Pp.TupF (PySem.Challenge.cw_plantshand_s01_answers_holds.heap_1 w.params) (545 + 7) 0 1 := by refine' Pp.TupF.of ?e; (case e => k_is)
    have f_8 : Pp.TupF (PySem.Challenge.cw_plantshand_s01_answers_holds.heap_1 w.params) (545 + 8) 0 0 := by refine' Pp.TupF.of ?e; (case e => k_is)
    have f_9 : Pp.TupF (PySem.Challenge.cw_plantshand_s01_answers_holds.heap_1 w.params) (545 + 9) 1 1 := by refine' Pp.TupF.of ?e; (case e => k_is)
    have f_10 : Pp.TupF (PySem.Challenge.cw_plantshand_s01_answers_holds.heap_1 w.params) (545 + 10) 0 2 := by refine' Pp.TupF.of ?e; (case e => k_is)
    have f_11 : Pp.TupF (PySem.Challenge.cw_plantshand_s01_answers_holds.heap_1 w.params) (545 + 11) 0 1 := by refine' Pp.TupF.of ?e; (case e => k_is)
    have f_12 : Pp.TupF (PySem.Challenge.cw_plantshand_s01_answers_holds.heap_1 w.params) (545 + 12) 0 3 := by refine' Pp.TupF.of ?e; (case e => k_is)
    have f_13 : Pp.TupF (PySem.Challenge.cw_plantshand_s01_answers_holds.heap_1 w.params) (545 + 13) 1 0 := by refine' Pp.TupF.of ?e; (case e => k_is)
    have f_14 : Pp.TupF (PySem.Challenge.cw_plantshand_s01_answers_holds.heap_1 w.params) (545 + 14) 1 0 := by refine' Pp.TupF.of ?e; (case e => k_is)
    have f_15 : Pp.TupF (PySem.Challenge.cw_plantshand_s01_answers_holds.heap_1 w.params) (545 + 15) 0 1 := by refine' Pp.TupF.of ?e; (case e => k_is)
    have f_16 : Pp.TupF (PySem.Challenge.cw_plantshand_s01_answers_holds.heap_1 w.params) (545 + 16) 0 1 := by refine' Pp.TupF.of ?e; (case e => k_is)
    have f_17 : Pp.TupF (PySem.Challenge.cw_plantshand_s01_answers_holds.heap_1 w.params) (545 + 17) 1 0 := by refine' Pp.TupF.of ?e; (case e => k_is)
    have f_18 : Pp.TupF (PySem.Challenge.cw_plantshand_s01_answers_holds.heap_1 w.params) (545 + 18) 0 0 := by refine' Pp.TupF.of ?e; (case e => k_is)
    have f_19 : Pp.TupF (PySem.Challenge.cw_plantshand_s01_answers_holds.heap_1 w.params) (545 + 19) 2 0 := by refine' Pp.TupF.of ?e; (case e => k_is)
    have f_20 : Pp.TupF (PySem.Challenge.cw_plantshand_s01_answers_holds.heap_1 w.params) (545 + 20) 0 0 := by refine' Pp.TupF.of ?e; (case e => k_is)
    have f_21 : Pp.TupF (PySem.Challenge.cw_plantshand_s01_answers_holds.heap_1 w.params) (545 + 21) 0 0 := by refine' Pp.TupF.of ?e; (case e => k_is)
    have f_22 : Pp.TupF (PySem.Challenge.cw_plantshand_s01_answers_holds.heap_1 w.params) (545 + 22) 0 0 := by refine' Pp.TupF.of ?e; (case e => k_is)
    have fms : Pp.Fms (PySem.Challenge.cw_plantshand_s01_answers_holds.heap_1 w.params) 568 := by refine' Pp.fms_of (b := 545) ?l ?hu f_0 f_1 f_2 f_3 f_4 f_5 f_6 f_7 f_8 f_9 f_10 f_11 f_12 f_13 f_14 f_15 f_16 f_17 f_18 f_19 f_20 f_21 f_22; (case l => k_is); (case hu => rfl)
    have hF : ∃ u, mg "FORMS" = some u ∧ L2.RelV (.ref 568) u := by refine' Pp.ref_of KX G ?e; (case e => k_is)
    have A : Pp.AllF (PySem.Challenge.cw_plantshand_s01_answers_holds.heap_1 w.params) mg ⟨59, 181, 202, 371⟩ 568 149 145 := ⟨txt, cc, fms, hF, lam, d_with_row, d_is_table, d_loss_at, d_left_after_loss, d_is_giver, d_passed, d_step, d_could_give, d_class_sums, d_scope_sums, d_under, d_given_in_all, d_level_and_rest, d_levelled, d_with_class_levelled, d_fairest, d_least_losing, d_shares_by, d_copy_of, d_with_one, d_in_force, d_brought_down, d_limits_without, d_limits_under, d_limits_now, d_own_losses, d_binding, d_clearing, d_steps, d_able_after, d_able_next, d_count_orders, d_go_through, d_tell_giver, d_tell_away, d_tell_ramps, d_tell_rule, d_tell_order, d_tell_back, d_tell_quarter, d_take_over, d_tell_undo, d_tell_redo, d_tell_begin, d_is_allowed, d_judgement, d_loss_of, d_full_classes, d_prices_told, d_fits_worth, d_is_proof, d_is_able, d_ask_could, d_ask_limits, d_ask_parts, d_ask_judge, d_ask_prices, d_ask_proof, d_ask_binds, d_ask_clears, d_ask_lost, d_ask_told, d_ask_state, d_ask_sums, d_ask_passes, d_read_rows, d_answer_change, d_answer_remembered, d_answer_question, d_answer_record, d_answer_turn, d_answer_call, d_answers, k_Giver, k_Order, k_Desk, k_Memory⟩
    obtain ⟨fd, hb, hf⟩ := Pp.fin_ok (Pg := PySem.Challenge.rw_plantshand_s01_answers.prog) (w := w) A hmg
    exact ⟨fd, 149, 145, tab, free, hb, hf⟩
#print axioms PySem.Challenge.cw_plantshand_s01_answers_holds
