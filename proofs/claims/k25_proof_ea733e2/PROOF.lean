import PyProof.Rows.All
import Wide.All
import OpenK.AllK
import Wide.FinOn
import HandS.Base
import HandS.Call
import HandS.List
import HandS.Comp
import HandS.Ends
import HandS.Dict
import HandS.Iter
import HandS.Text
import HandS.Words
import HandS.WordsList
import HandS.WordsDict
import HandS.Wide
import HandS.Codes
import HandS.Conv
import HandS.More
import HandS.Style
import HandS.Strs
import HandS.SetFor
import HandS.IsInst
import HandS.Zip
import HandS.EndOwn
import KE.KNestM
import KE.KExcLine
import PySem.Challenge.RW_findforests_k25_powers_and_choices
set_option Elab.async false
set_option linter.all false
set_option maxRecDepth 100000
set_option maxHeartbeats 4000000
/-! The mathematics of finds: forests as parent functions below n, with a rank that falls towards the roots. -/
namespace Ff
structure Fo (n : Nat) (p : Nat → Nat) (r : Nat → Nat) : Prop where
  lt : ∀ x, x < n → p x < n
  up : ∀ x, x < n → p x = x ∨ r (p x) < r x
  rb : ∀ x, x < n → r x < n
def root (p : Nat → Nat) : Nat → Nat → Nat
  | 0, x => x
  | k + 1, x => if p x = x then x else root p k (p x)
def ups (p : Nat → Nat) : Nat → Nat → List Nat
  | 0, _ => []
  | k + 1, x => if p x = x then [] else x :: ups p k (p x)
def path (p : Nat → Nat) (k x : Nat) : List Nat := ups p k x ++ [root p k x]
theorem root_of {p : Nat → Nat} {x : Nat} (h : p x = x) : ∀ k, root p k x = x
  | 0 => rfl
  | k + 1 => by show (if p x = x then x else _) = x; rw [if_pos h]
theorem ups_of {p : Nat → Nat} {x : Nat} (h : p x = x) : ∀ k, ups p k x = []
  | 0 => rfl
  | k + 1 => by show (if p x = x then [] else _) = []; rw [if_pos h]
theorem root_step {p : Nat → Nat} {x k : Nat} (h : p x ≠ x) : root p (k + 1) x = root p k (p x) := by
  show (if p x = x then x else _) = _; rw [if_neg h]
theorem ups_step {p : Nat → Nat} {x k : Nat} (h : p x ≠ x) : ups p (k + 1) x = x :: ups p k (p x) := by
  show (if p x = x then [] else _) = _; rw [if_neg h]
section
variable {n : Nat} {p : Nat → Nat} {r : Nat → Nat}
/-- enough steps: more of them change nothing -/
theorem root_more (F : Fo n p r) : ∀ (k x : Nat), x < n → r x ≤ k → root p (k + 1) x = root p k x
  | k, x, hx, hr => by
    by_cases h : p x = x
    · rw [root_of h, root_of h]
    · have u := (F.up x hx).resolve_left h
      cases k with
      | zero => omega
      | succ k => rw [root_step h, root_step h]; exact root_more F k (p x) (F.lt x hx) (by omega)
theorem ups_more (F : Fo n p r) : ∀ (k x : Nat), x < n → r x ≤ k → ups p (k + 1) x = ups p k x
  | k, x, hx, hr => by
    by_cases h : p x = x
    · rw [ups_of h, ups_of h]
    · have u := (F.up x hx).resolve_left h
      cases k with
      | zero => omega
      | succ k => rw [ups_step h, ups_step h]; rw [ups_more F k (p x) (F.lt x hx) (by omega)]
theorem root_n (F : Fo n p r) {x : Nat} (hx : x < n) (h : p x ≠ x) : root p n x = root p n (p x) := by
  have := F.rb x hx
  have e := (F.up x hx).resolve_left h
  rw [← root_more F n x hx (by omega), root_step h]
theorem ups_n (F : Fo n p r) {x : Nat} (hx : x < n) (h : p x ≠ x) : ups p n x = x :: ups p n (p x) := by
  have := F.rb x hx
  have e := (F.up x hx).resolve_left h
  rw [← ups_more F n x hx (by omega), ups_step h]
/-- induction from the roots -/
theorem Fo.ind (F : Fo n p r) {C : Nat → Prop} (h0 : ∀ x, x < n → p x = x → C x) (h1 : ∀ x, x < n → p x ≠ x → C (p x) → C x) : ∀ x, x < n → C x := by
  have : ∀ k x, r x ≤ k → x < n → C x := by
    intro k
    induction k with
    | zero =>
      intro x hr hx
      by_cases h : p x = x
      · exact h0 x hx h
      · have := (F.up x hx).resolve_left h; omega
    | succ k ih =>
      intro x hr hx
      by_cases h : p x = x
      · exact h0 x hx h
      · have := (F.up x hx).resolve_left h
        exact h1 x hx h (ih (p x) (by omega) (F.lt x hx))
  exact fun x hx => this (r x) x (Nat.le_refl _) hx
theorem root_lt (F : Fo n p r) : ∀ x, x < n → root p n x < n :=
  F.ind (fun x hx h => by rw [root_of h]; exact hx) (fun x hx h ih => by rw [root_n F hx h]; exact ih)
theorem root_fix (F : Fo n p r) : ∀ x, x < n → p (root p n x) = root p n x :=
  F.ind (fun x hx h => by rw [root_of h]; exact h) (fun x hx h ih => by rw [root_n F hx h]; exact ih)
theorem root_rank (F : Fo n p r) : ∀ x, x < n → root p n x = x ∨ r (root p n x) < r x :=
  F.ind (fun x hx h => .inl (root_of h n)) (fun x hx h ih => by
    have u := (F.up x hx).resolve_left h
    rw [root_n F hx h]
    rcases ih with e | e
    · rw [e]; exact .inr u
    · exact .inr (by omega))
theorem root_ne (F : Fo n p r) {x : Nat} (hx : x < n) (h : p x ≠ x) : root p n x ≠ x := fun e => h (by have z := root_fix F x hx; rw [e] at z; exact z)
theorem ups_lt (F : Fo n p r) : ∀ x, x < n → ∀ v ∈ ups p n x, v < n ∧ p v ≠ v ∧ root p n v = root p n x ∧ r v ≤ r x :=
  F.ind (fun x hx h v hv => by rw [ups_of h] at hv; cases hv) (fun x hx h ih v hv => by
    have u := (F.up x hx).resolve_left h
    rw [ups_n F hx h] at hv
    rcases List.mem_cons.mp hv with e | e
    · subst e; exact ⟨hx, h, rfl, Nat.le_refl _⟩
    · have z := ih v e
      refine ⟨z.1, z.2.1, z.2.2.1.trans (root_n F hx h).symm, by omega⟩)
theorem ups_len (F : Fo n p r) : ∀ x, x < n → (ups p n x).length ≤ r x :=
  F.ind (fun x hx h => by rw [ups_of h]; exact Nat.zero_le _) (fun x hx h ih => by
    have u := (F.up x hx).resolve_left h
    rw [ups_n F hx h, List.length_cons]; omega)
theorem ups_nodup (F : Fo n p r) : ∀ x, x < n → (ups p n x).Nodup :=
  F.ind (fun x hx h => by rw [ups_of h]; exact List.nodup_nil) (fun x hx h ih => by
    have u := (F.up x hx).resolve_left h
    rw [ups_n F hx h]
    refine List.nodup_cons.mpr ⟨fun hm => ?_, ih⟩
    have z := (ups_lt F (p x) (F.lt x hx) x hm).2.2.2
    omega)
theorem self_ups (F : Fo n p r) {x : Nat} (hx : x < n) (h : p x ≠ x) : x ∈ ups p n x := by rw [ups_n F hx h]; exact List.mem_cons_self
/-- a set of nodes with all nodes above them but the roots -/
def Closed (n : Nat) (p : Nat → Nat) (S : Nat → Bool) : Prop := ∀ v, v < n → S v = true → p v ≠ v ∧ (p (p v) = p v ∨ S (p v) = true)
def after (n : Nat) (p : Nat → Nat) (S : Nat → Bool) : Nat → Nat := fun v => if S v = true then root p n v else p v
theorem closed_ups (F : Fo n p r) {S : Nat → Bool} (C : Closed n p S) : ∀ x, x < n → S x = true → ∀ v ∈ ups p n x, S v = true :=
  F.ind (fun x hx h hS v hv => by rw [ups_of h] at hv; cases hv) (fun x hx h ih hS v hv => by
    rw [ups_n F hx h] at hv
    rcases List.mem_cons.mp hv with e | e
    · subst e; exact hS
    · rcases (C x hx hS).2 with z | z
      · rw [ups_of z] at e; cases e
      · exact ih z v e)
theorem after_fo (F : Fo n p r) {S : Nat → Bool} (C : Closed n p S) : Fo n (after n p S) r where
  lt := fun x hx => by unfold after; split; exact root_lt F x hx; exact F.lt x hx
  up := fun x hx => by
    unfold after; split
    · exact root_rank F x hx
    · exact F.up x hx
  rb := F.rb
theorem after_root (F : Fo n p r) {S : Nat → Bool} (C : Closed n p S) {x : Nat} (hx : x < n) (h : p x = x) : after n p S x = x := by
  unfold after; split
  · exact root_of h n
  · exact h
theorem after_nonroot (F : Fo n p r) {S : Nat → Bool} (C : Closed n p S) {x : Nat} (hx : x < n) (h : p x ≠ x) : after n p S x ≠ x := by
  unfold after; split
  · exact root_ne F hx h
  · exact h
theorem after_same_root (F : Fo n p r) {S : Nat → Bool} (C : Closed n p S) : ∀ x, x < n → root (after n p S) n x = root p n x :=
  F.ind (fun x hx h => by rw [root_of h, root_of (after_root F C hx h)]) (fun x hx h ih => by
    have hq := after_nonroot F C hx h
    rw [root_n (after_fo F C) hx hq]
    by_cases hS : S x = true
    · have e : after n p S x = root p n x := by unfold after; rw [if_pos hS]
      rw [e]
      exact root_of (after_root F C (root_lt F x hx) (root_fix F x hx)) n
    · have e : after n p S x = p x := by unfold after; rw [if_neg hS]
      rw [e, ih, root_n F hx h])
theorem after_ups (F : Fo n p r) {S : Nat → Bool} (C : Closed n p S) : ∀ x, x < n →
    (∀ v ∈ ups (after n p S) n x, v ∈ ups p n x) ∧ (∀ v ∈ ups p n x, S v = true ∨ v ∈ ups (after n p S) n x) :=
  F.ind (fun x hx h => by rw [ups_of h, ups_of (after_root F C hx h)]; exact ⟨fun _ z => z, fun _ z => .inr z⟩) (fun x hx h ih => by
    have hq := after_nonroot F C hx h
    have G := after_fo F C
    rw [ups_n G hx hq]
    by_cases hS : S x = true
    · have e : after n p S x = root p n x := by unfold after; rw [if_pos hS]
      rw [e, ups_of (after_root F C (root_lt F x hx) (root_fix F x hx))]
      refine ⟨fun v hv => ?_, fun v hv => .inl (closed_ups F C x hx hS v hv)⟩
      rw [List.mem_singleton.mp hv]; exact self_ups F hx h
    · have e : after n p S x = p x := by unfold after; rw [if_neg hS]
      rw [e, ups_n F hx h]
      refine ⟨fun v hv => ?_, fun v hv => ?_⟩
      · rcases List.mem_cons.mp hv with z | z
        · rw [z]; exact List.mem_cons_self
        · exact List.mem_cons_of_mem _ (ih.1 v z)
      · rcases List.mem_cons.mp hv with z | z
        · exact .inr (by rw [z]; exact List.mem_cons_self)
        · rcases ih.2 v z with y | y
          · exact .inl y
          · exact .inr (List.mem_cons_of_mem _ y))
def low (p : Nat → Nat) (x : Nat) : Nat := if p x = x then 0 else 1
def deep (p : Nat → Nat) (v : Nat) : Bool := decide (p (p v) ≠ p v)
theorem after_cost (F : Fo n p r) {S : Nat → Bool} (C : Closed n p S) : ∀ x, x < n →
    (ups (after n p S) n x).length = low p x + (ups p n x).countP (fun v => deep p v && !S v) :=
  F.ind (fun x hx h => by rw [ups_of h, ups_of (after_root F C hx h)]; unfold low; rw [if_pos h]; rfl) (fun x hx h ih => by
    have hq := after_nonroot F C hx h
    have G := after_fo F C
    rw [ups_n G hx hq, List.length_cons]
    have hl : low p x = 1 := by unfold low; rw [if_neg h]
    rw [hl]
    by_cases hS : S x = true
    · have e : after n p S x = root p n x := by unfold after; rw [if_pos hS]
      rw [e, ups_of (after_root F C (root_lt F x hx) (root_fix F x hx))]
      have z : (ups p n x).countP (fun v => deep p v && !S v) = 0 := by
        refine List.countP_eq_zero.mpr fun v hv => ?_
        rw [closed_ups F C x hx hS v hv]; simp
      rw [z]; rfl
    · have e : after n p S x = p x := by unfold after; rw [if_neg hS]
      have eS : S x = false := by simpa using hS
      rw [e, ih, ups_n F hx h, List.countP_cons, eS]
      unfold low deep
      by_cases hd : p (p x) = p x
      · rw [if_pos hd]; simp [hd]; omega
      · rw [if_neg hd]; simp [hd]; omega)
def join (S T : Nat → Bool) : Nat → Bool := fun v => S v || T v
def upB (p : Nat → Nat) (n x : Nat) : Nat → Bool := fun v => (ups p n x).contains v
theorem upB_iff {v x : Nat} : upB p n x v = true ↔ v ∈ ups p n x := by unfold upB; exact List.contains_iff_mem
theorem ups_above (F : Fo n p r) : ∀ x, x < n → ∀ v ∈ ups p n x, p (p v) = p v ∨ p v ∈ ups p n x :=
  F.ind (fun x hx h v hv => by rw [ups_of h] at hv; cases hv) (fun x hx h ih v hv => by
    rw [ups_n F hx h] at hv ⊢
    rcases List.mem_cons.mp hv with e | e
    · subst e
      by_cases hp : p (p v) = p v
      · exact .inl hp
      · exact .inr (List.mem_cons_of_mem _ (self_ups F (F.lt v hx) hp))
    · rcases ih v e with z | z
      · exact .inl z
      · exact .inr (List.mem_cons_of_mem _ z))
theorem closed_join (F : Fo n p r) {S : Nat → Bool} (C : Closed n p S) {x : Nat} (hx : x < n) : Closed n p (join S (upB p n x)) := fun v hv h => by
  unfold join at h ⊢
  rcases Bool.or_eq_true _ _ |>.mp h with z | z
  · refine ⟨(C v hv z).1, ?_⟩
    rcases (C v hv z).2 with y | y
    · exact .inl y
    · exact .inr (by rw [y]; rfl)
  · have m := upB_iff.mp z
    refine ⟨(ups_lt F x hx v m).2.1, ?_⟩
    rcases ups_above F x hx v m with y | y
    · exact .inl y
    · exact .inr (by rw [upB_iff.mpr y, Bool.or_true])
theorem closed_no : Closed n p (fun _ => false) := fun v _ h => by cases h
def fnd (n : Nat) (p : Nat → Nat) (x : Nat) : Nat → Nat := fun v => if v ∈ path p n x then root p n x else p v
theorem fnd_after (F : Fo n p r) {S : Nat → Bool} (C : Closed n p S) {x : Nat} (hx : x < n) {v : Nat} (hv : v < n) : fnd n (after n p S) x v = after n p (join S (upB p n x)) v := by
  unfold fnd path
  rw [after_same_root F C x hx]
  have A := after_ups F C x hx
  have R := root_fix F x hx
  have Rl := root_lt F x hx
  by_cases h1 : v ∈ ups (after n p S) n x
  · rw [if_pos (List.mem_append_left _ h1)]
    have m := A.1 v h1
    unfold after join
    rw [if_pos (by rw [upB_iff.mpr m, Bool.or_true])]
    exact ((ups_lt F x hx v m).2.2.1).symm
  · by_cases h2 : v = root p n x
    · rw [if_pos (List.mem_append_right _ (List.mem_singleton.mpr h2))]
      subst h2
      exact (after_root F (closed_join F C hx) Rl R).symm
    · rw [if_neg (fun z => by
        rcases List.mem_append.mp z with y | y
        · exact h1 y
        · exact h2 (List.mem_singleton.mp y))]
      by_cases h3 : v ∈ ups p n x
      · have s := (A.2 v h3).resolve_right h1
        unfold after join
        rw [if_pos s, if_pos (by rw [s]; rfl)]
      · unfold after join
        have e : upB p n x v = false := by
          cases hb : upB p n x v with
          | false => rfl
          | true => exact absurd (upB_iff.mp hb) h3
        rw [e, Bool.or_false]
/-- a parent function below n alone matters -/
theorem root_congr {q : Nat → Nat} (hl : ∀ x, x < n → p x < n) (h : ∀ v, v < n → q v = p v) : ∀ k x, x < n → root q k x = root p k x
  | 0, _, _ => rfl
  | k + 1, x, hx => by
    show (if q x = x then x else root q k (q x)) = (if p x = x then x else root p k (p x))
    rw [h x hx, root_congr hl h k (p x) (hl x hx)]
theorem ups_congr {q : Nat → Nat} (hl : ∀ x, x < n → p x < n) (h : ∀ v, v < n → q v = p v) : ∀ k x, x < n → ups q k x = ups p k x
  | 0, _, _ => rfl
  | k + 1, x, hx => by
    show (if q x = x then [] else x :: ups q k (q x)) = (if p x = x then [] else x :: ups p k (p x))
    rw [h x hx, ups_congr hl h k (p x) (hl x hx)]
theorem fnd_congr {q : Nat → Nat} (hl : ∀ x, x < n → p x < n) (h : ∀ v, v < n → q v = p v) {x v : Nat} (hx : x < n) (hv : v < n) : fnd n q x v = fnd n p x v := by
  unfold fnd path
  rw [root_congr hl h n x hx, ups_congr hl h n x hx, h v hv]
theorem Fo.congr {q : Nat → Nat} (F : Fo n p r) (h : ∀ v, v < n → q v = p v) : Fo n q r where
  lt := fun x hx => by rw [h x hx]; exact F.lt x hx
  up := fun x hx => by rw [h x hx]; exact F.up x hx
  rb := F.rb
theorem fnd_fo (F : Fo n p r) {x : Nat} (hx : x < n) : Fo n (fnd n p x) r := by
  have e : ∀ v, v < n → after n p (fun _ => false) v = p v := fun v _ => rfl
  have A := after_fo F (closed_join F closed_no hx)
  exact A.congr fun v hv => (fnd_congr F.lt e hx hv).symm.trans (fnd_after F closed_no hx hv)
end
def fndAll (n : Nat) : List Nat → (Nat → Nat) → Nat → Nat
  | [], p => p
  | x :: l, p => fndAll n l (fnd n p x)
def costs (n : Nat) : List Nat → (Nat → Nat) → List Nat
  | [], _ => []
  | x :: l, p => (ups p n x).length :: costs n l (fnd n p x)
theorem fndAll_snoc (n : Nat) : ∀ (l : List Nat) (x : Nat) (p : Nat → Nat), fndAll n (l ++ [x]) p = fnd n (fndAll n l p) x
  | [], _, _ => rfl
  | y :: l, x, p => fndAll_snoc n l x (fnd n p y)
theorem costs_snoc (n : Nat) : ∀ (l : List Nat) (x : Nat) (p : Nat → Nat), costs n (l ++ [x]) p = costs n l p ++ [(ups (fndAll n l p) n x).length]
  | [], _, _ => rfl
  | y :: l, x, p => by show _ :: costs n (l ++ [x]) (fnd n p y) = _ :: (costs n l (fnd n p y) ++ [_]); rw [costs_snoc n l x (fnd n p y)]; rfl
theorem costs_len (n : Nat) : ∀ (l : List Nat) (p : Nat → Nat), (costs n l p).length = l.length
  | [], _ => rfl
  | y :: l, p => by show (costs n l (fnd n p y)).length + 1 = l.length + 1; rw [costs_len n l]
def markB (n : Nat) (p : Nat → Nat) (l : List Nat) : Nat → Bool := fun v => l.any fun x => upB p n x v
section
variable {n : Nat} {p : Nat → Nat} {r : Nat → Nat}
theorem fndAll_fo (F : Fo n p r) : ∀ (l : List Nat), (∀ x ∈ l, x < n) → ∀ q, Fo n q r → Fo n (fndAll n l q) r
  | [], _, q, G => G
  | x :: l, h, q, G => fndAll_fo F l (fun y hy => h y (List.mem_cons_of_mem _ hy)) _ (fnd_fo G (h x List.mem_cons_self))
theorem fndAll_after (F : Fo n p r) : ∀ (l : List Nat), (∀ x ∈ l, x < n) → ∀ S, Closed n p S → ∀ q, (∀ v, v < n → q v = after n p S v) → ∀ v, v < n → fndAll n l q v = after n p (join S (markB n p l)) v
  | [], _, S, C, q, hq, v, hv => by
    show q v = _
    rw [hq v hv]
    unfold after join markB
    simp
  | x :: l, h, S, C, q, hq, v, hv => by
    have hx := h x List.mem_cons_self
    have G := after_fo F C
    show fndAll n l (fnd n q x) v = _
    rw [fndAll_after F l (fun y hy => h y (List.mem_cons_of_mem _ hy)) (join S (upB p n x)) (closed_join F C hx) (fnd n q x) (fun u hu => (fnd_congr G.lt hq hx hu).trans (fnd_after F C hx hu)) v hv]
    have e : join (join S (upB p n x)) (markB n p l) = join S (markB n p (x :: l)) := by
      funext u
      show ((S u || upB p n x u) || l.any _) = (S u || (upB p n x u || l.any _))
      rw [Bool.or_assoc]
    rw [e]
theorem behind_eq (F : Fo n p r) (l : List Nat) (h : ∀ x ∈ l, x < n) (v : Nat) (hv : v < n) : fndAll n l p v = if markB n p l v = true then root p n v else p v := by
  rw [fndAll_after F l h (fun _ => false) closed_no p (fun u _ => rfl) v hv]
  unfold after join
  simp
theorem countP_split (f g : Nat → Bool) : ∀ l : List Nat, l.countP (fun v => f v && !g v) + l.countP (fun v => f v && g v) = l.countP f
  | [] => rfl
  | x :: l => by
    have ih := countP_split f g l
    rw [List.countP_cons, List.countP_cons, List.countP_cons, ← ih]
    cases f x <;> cases g x <;> simp <;> omega
theorem count_range (F : Fo n p r) {x : Nat} (hx : x < n) (f : Nat → Bool) : (ups p n x).countP f = (List.range n).countP (fun v => upB p n x v && f v) := by
  have P : (ups p n x).Perm ((List.range n).filter (upB p n x)) := by
    refine (List.perm_ext_iff_of_nodup (ups_nodup F x hx) (List.Nodup.sublist List.filter_sublist List.nodup_range)).mpr fun v => ?_
    rw [List.mem_filter, List.mem_range, upB_iff]
    exact ⟨fun h => ⟨(ups_lt F x hx v h).1, h⟩, fun h => h.2⟩
  rw [P.countP_eq, List.countP_filter]
  exact List.countP_congr fun v _ => by rw [Bool.and_comm]
theorem cost_sum (F : Fo n p r) : ∀ (l : List Nat), (∀ x ∈ l, x < n) → ∀ S, Closed n p S → ∀ q, (∀ v, v < n → q v = after n p S v) →
    (costs n l q).sum = (l.map (low p)).sum + (List.range n).countP (fun v => (deep p v && !S v) && markB n p l v)
  | [], _, S, C, q, hq => by
    have e : (List.range n).countP (fun v => (deep p v && !S v) && markB n p [] v) = 0 := List.countP_eq_zero.mpr fun v _ => by unfold markB; simp
    rw [e]; rfl
  | x :: l, h, S, C, q, hq => by
    have hx := h x List.mem_cons_self
    have G := after_fo F C
    show (ups q n x).length + (costs n l (fnd n q x)).sum = (low p x + (l.map (low p)).sum) + _
    rw [cost_sum F l (fun y hy => h y (List.mem_cons_of_mem _ hy)) (join S (upB p n x)) (closed_join F C hx) (fnd n q x) (fun u hu => (fnd_congr G.lt hq hx hu).trans (fnd_after F C hx hu))]
    rw [ups_congr G.lt hq n x hx, after_cost F C x hx, count_range F hx]
    have e := countP_split (fun v => (deep p v && !S v) && markB n p (x :: l) v) (upB p n x) (List.range n)
    rw [← e]
    have e1 : (List.range n).countP (fun v => ((deep p v && !S v) && markB n p (x :: l) v) && upB p n x v) = (List.range n).countP (fun v => upB p n x v && (deep p v && !S v)) := List.countP_congr fun v _ => by
      show (((deep p v && !S v) && (upB p n x v || markB n p l v)) && upB p n x v) = true ↔ (upB p n x v && (deep p v && !S v)) = true
      cases upB p n x v <;> cases deep p v <;> cases S v <;> simp
    have e2 : (List.range n).countP (fun v => ((deep p v && !S v) && markB n p (x :: l) v) && !upB p n x v) = (List.range n).countP (fun v => (deep p v && !join S (upB p n x) v) && markB n p l v) := List.countP_congr fun v _ => by
      show (((deep p v && !S v) && (upB p n x v || markB n p l v)) && !upB p n x v) = true ↔ ((deep p v && !(S v || upB p n x v)) && markB n p l v) = true
      cases upB p n x v <;> cases deep p v <;> cases S v <;> simp
    rw [e1, e2]
    omega
theorem cost_total (F : Fo n p r) (l : List Nat) (h : ∀ x ∈ l, x < n) : (costs n l p).sum = (l.map (low p)).sum + (List.range n).countP (fun v => deep p v && markB n p l v) := by
  rw [cost_sum F l h (fun _ => false) closed_no p (fun u _ => rfl)]
  congr 1
  exact List.countP_congr fun v _ => by simp
theorem mark_same {l m : List Nat} (h : ∀ x, x ∈ l ↔ x ∈ m) (v : Nat) : markB n p l v = markB n p m v := by
  unfold markB
  refine Bool.eq_iff_iff.mpr ?_
  rw [List.any_eq_true, List.any_eq_true]
  exact ⟨fun ⟨x, a, b⟩ => ⟨x, (h x).mp a, b⟩, fun ⟨x, a, b⟩ => ⟨x, (h x).mpr a, b⟩⟩
theorem behind_same (F : Fo n p r) {l m : List Nat} (hl : ∀ x ∈ l, x < n) (h : ∀ x, x ∈ l ↔ x ∈ m) (v : Nat) (hv : v < n) : fndAll n m p v = fndAll n l p v := by
  rw [behind_eq F m (fun x hx => hl x ((h x).mpr hx)) v hv, behind_eq F l hl v hv, mark_same h]
theorem cost_same (F : Fo n p r) {l m : List Nat} (hl : ∀ x ∈ l, x < n) (h : l.Perm m) : (costs n m p).sum = (costs n l p).sum := by
  rw [cost_total F m (fun x hx => hl x (h.mem_iff.mpr hx)), cost_total F l hl, (h.map (low p)).sum_nat]
  congr 1
  exact List.countP_congr fun v _ => by rw [mark_same (fun x => h.mem_iff) v]
end
end Ff
namespace Ff
theorem path_cons {p : Nat → Nat} {k x : Nat} (h : p x ≠ x) : path p (k + 1) x = x :: path p k (p x) := by
  unfold path
  rw [ups_step h, root_step h]
  rfl
theorem path_of {p : Nat → Nat} {k x : Nat} (h : p x = x) : path p k x = [x] := by
  unfold path
  rw [ups_of h, root_of h]
  rfl
theorem path_succ (p : Nat → Nat) : ∀ k x, path p (k + 1) x = if p (root p k x) = root p k x then path p k x else path p k x ++ [p (root p k x)]
  | 0, x => by
    by_cases h : p x = x
    · rw [path_of h, if_pos (show p (root p 0 x) = root p 0 x from h)]; rfl
    · rw [path_cons h, if_neg (show ¬ p (root p 0 x) = root p 0 x from h)]; rfl
  | k + 1, x => by
    by_cases h : p x = x
    · rw [path_of h, root_of h, if_pos h, path_of h]
    · rw [path_cons h, root_step h, path_succ p k (p x), path_cons h]
      split <;> rfl
theorem path_fixed {p : Nat → Nat} {i x : Nat} (h : p (root p i x) = root p i x) : ∀ j, path p (i + j) x = path p i x ∧ root p (i + j) x = root p i x
  | 0 => ⟨rfl, rfl⟩
  | j + 1 => by
    have ih := path_fixed h j
    have e : path p (i + (j + 1)) x = path p i x := by
      show path p ((i + j) + 1) x = _
      rw [path_succ, ih.2, if_pos h]
      exact ih.1
    refine ⟨e, ?_⟩
    unfold path at e
    have z := congrArg List.getLast? e
    rw [List.getLast?_append, List.getLast?_append] at z
    simpa using z
theorem root_lt0 {n : Nat} {p : Nat → Nat} (hl : ∀ x, x < n → p x < n) : ∀ k x, x < n → root p k x < n
  | 0, _, h => h
  | k + 1, x, h => by
    show (if p x = x then x else root p k (p x)) < n
    split
    · exact h
    · exact root_lt0 hl k (p x) (hl x h)
theorem ups_len0 (p : Nat → Nat) : ∀ k x, (ups p k x).length ≤ k
  | 0, _ => Nat.le_refl _
  | k + 1, x => by
    show (if p x = x then [] else x :: ups p k (p x)).length ≤ k + 1
    split
    · exact Nat.zero_le _
    · have := ups_len0 p k (p x)
      rw [List.length_cons]; omega
theorem path_len0 (p : Nat → Nat) (k x : Nat) : (path p k x).length ≤ k + 1 := by
  unfold path
  have := ups_len0 p k x
  rw [List.length_append, List.length_singleton]; omega
end Ff
namespace Ff
theorem root_succ (p : Nat → Nat) : ∀ k x, root p (k + 1) x = p (root p k x)
  | 0, x => by
    by_cases h : p x = x
    · rw [root_of h]; show x = p x; rw [h]
    · rw [root_step h]; rfl
  | k + 1, x => by
    by_cases h : p x = x
    · rw [root_of h, root_of h, h]
    · rw [root_step h, root_step h, root_succ p k (p x)]
theorem ups_succ (p : Nat → Nat) : ∀ k x, ups p (k + 1) x = if p (root p k x) = root p k x then ups p k x else ups p k x ++ [root p k x]
  | 0, x => by
    by_cases h : p x = x
    · rw [ups_of h, if_pos (show p (root p 0 x) = root p 0 x from h)]; rfl
    · rw [ups_step h, if_neg (show ¬ p (root p 0 x) = root p 0 x from h)]; rfl
  | k + 1, x => by
    by_cases h : p x = x
    · rw [ups_of h, root_of h, if_pos h, ups_of h]
    · rw [ups_step h, root_step h, ups_succ p k (p x), ups_step h]
      split <;> rfl
end Ff

/-! Ways between forests: changed nodes, needed nodes. -/
namespace Ff
def chg (p q : Nat → Nat) (v : Nat) : Bool := decide (p v ≠ q v)
/-- finds lead from p to q -/
def Way (n : Nat) (p q : Nat → Nat) : Prop := ∀ v, v < n → chg p q v = true → ∀ u ∈ ups p n v, q u = root p n u
def needB (n : Nat) (p q : Nat → Nat) (v : Nat) : Bool := chg p q v && !(List.range n).any fun u => chg p q u && (decide (v ≠ u) && (ups p n u).contains v)
def needS (n : Nat) (p q : Nat → Nat) : List Nat := (List.range n).filter (needB n p q)
theorem chg_iff {p q : Nat → Nat} {v : Nat} : chg p q v = true ↔ p v ≠ q v := by unfold chg; exact decide_eq_true_iff
theorem needB_iff {n : Nat} {p q : Nat → Nat} {v : Nat} : needB n p q v = true ↔ p v ≠ q v ∧ ∀ u, u < n → p u ≠ q u → v ≠ u → v ∉ ups p n u := by
  unfold needB
  rw [Bool.and_eq_true, chg_iff, Bool.not_eq_true']
  refine and_congr_right fun _ => ?_
  rw [List.any_eq_false]
  constructor
  · intro h u hu hc hn hm
    refine h u (List.mem_range.mpr hu) ?_
    rw [Bool.and_eq_true, Bool.and_eq_true, chg_iff]
    exact ⟨hc, decide_eq_true hn, List.contains_iff_mem.mpr hm⟩
  · intro h u hu z
    rw [Bool.and_eq_true, Bool.and_eq_true, chg_iff] at z
    exact h u (List.mem_range.mp hu) z.1 (of_decide_eq_true z.2.1) (List.contains_iff_mem.mp z.2.2)
theorem needS_mem {n : Nat} {p q : Nat → Nat} {v : Nat} : v ∈ needS n p q ↔ v < n ∧ needB n p q v = true := by
  unfold needS; rw [List.mem_filter, List.mem_range]
theorem needS_nodup (n : Nat) (p q : Nat → Nat) : (needS n p q).Nodup := List.Nodup.sublist List.filter_sublist List.nodup_range
theorem needS_len (n : Nat) (p q : Nat → Nat) : (needS n p q).length ≤ n := Nat.le_trans (List.length_filter_le _ _) (by rw [List.length_range]; exact Nat.le_refl _)
section
variable {n : Nat} {p r : Nat → Nat}
theorem ups_trans (F : Fo n p r) {u v : Nat} : ∀ x, x < n → u ∈ ups p n x → v ∈ ups p n u → v ∈ ups p n x :=
  F.ind (C := fun x => u ∈ ups p n x → v ∈ ups p n u → v ∈ ups p n x) (fun x hx h a _ => by rw [ups_of h] at a; cases a) (fun x hx h ih a b => by
    rw [ups_n F hx h] at a
    rcases List.mem_cons.mp a with e | e
    · subst e; exact b
    · rw [ups_n F hx h]; exact List.mem_cons_of_mem _ (ih e b))
theorem ups_rank (F : Fo n p r) {v x : Nat} (hx : x < n) (h : v ∈ ups p n x) (ne : v ≠ x) : r v < r x := by
  by_cases e : p x = x
  · rw [ups_of e] at h; cases h
  · rw [ups_n F hx e] at h
    rcases List.mem_cons.mp h with z | z
    · exact absurd z ne
    · have := (ups_lt F (p x) (F.lt x hx) v z).2.2.2
      have := (F.up x hx).resolve_left e
      omega
theorem mark_iff {l : List Nat} {v : Nat} : markB n p l v = true ↔ ∃ x ∈ l, v ∈ ups p n x := by
  unfold markB
  rw [List.any_eq_true]
  exact ⟨fun ⟨x, a, b⟩ => ⟨x, a, upB_iff.mp b⟩, fun ⟨x, a, b⟩ => ⟨x, a, upB_iff.mpr b⟩⟩
theorem mark_closed (F : Fo n p r) {l : List Nat} (h : ∀ x ∈ l, x < n) : Closed n p (markB n p l) := fun v hv hm => by
  obtain ⟨x, hx, m⟩ := mark_iff.mp hm
  refine ⟨(ups_lt F x (h x hx) v m).2.1, ?_⟩
  rcases ups_above F x (h x hx) v m with y | y
  · exact .inl y
  · exact .inr (mark_iff.mpr ⟨x, hx, y⟩)
/-- behind finds: what is changed was marked -/
theorem behind_chg (F : Fo n p r) {l : List Nat} (h : ∀ x ∈ l, x < n) {v : Nat} (hv : v < n) (hc : p v ≠ fndAll n l p v) : markB n p l v = true ∧ fndAll n l p v = root p n v ∧ p v ≠ root p n v := by
  have e := behind_eq F l h v hv
  by_cases m : markB n p l v = true
  · rw [if_pos m] at e
    exact ⟨m, e, by rw [← e]; exact hc⟩
  · rw [if_neg m] at e
    exact absurd e.symm hc
theorem way_behind (F : Fo n p r) {l : List Nat} (h : ∀ x ∈ l, x < n) : Way n p (fndAll n l p) := fun v hv hc u hu => by
  have m := (behind_chg F h hv (chg_iff.mp hc)).1
  have hun := (ups_lt F v hv u hu).1
  obtain ⟨x, hx, mx⟩ := mark_iff.mp m
  rw [behind_eq F l h u hun, if_pos (mark_iff.mpr ⟨x, hx, ups_trans F x (h x hx) mx hu⟩)]
/-- whoever is above another one is no child of the root's -/
theorem above_deep (F : Fo n p r) {x v : Nat} (hx : x < n) (h : v ∈ ups p n x) (ne : v ≠ x) : p x ≠ root p n x := by
  have hr : p x ≠ x := fun e => by rw [ups_of e] at h; cases h
  rw [ups_n F hx hr] at h
  rcases List.mem_cons.mp h with z | z
  · exact absurd z ne
  · intro e
    have f := root_fix F x hx
    rw [← e] at f
    rw [ups_of f] at z
    cases z
theorem need_found (F : Fo n p r) {l : List Nat} (h : ∀ x ∈ l, x < n) {v : Nat} (hv : v < n) (hn : needB n p (fndAll n l p) v = true) : v ∈ l := by
  obtain ⟨hc, ho⟩ := needB_iff.mp hn
  obtain ⟨m, _, _⟩ := behind_chg F h hv hc
  obtain ⟨x, hx, mx⟩ := mark_iff.mp m
  by_cases e : v = x
  · rw [e]; exact hx
  · have hxn := h x hx
    have hr : p x ≠ x := fun z => by rw [ups_of z] at mx; cases mx
    have bx : fndAll n l p x = root p n x := by rw [behind_eq F l h x hxn, if_pos (mark_iff.mpr ⟨x, hx, self_ups F hxn hr⟩)]
    exact absurd mx (ho x hxn (by rw [bx]; exact above_deep F hxn mx e) e)
/-- above a needed one, or needed -/
theorem need_below (F : Fo n p r) {q : Nat → Nat} (hq : ∀ v, v < n → p v = v → q v = v) : ∀ k v, n - r v ≤ k → v < n → p v ≠ q v → ∃ u, u < n ∧ needB n p q u = true ∧ v ∈ ups p n u := by
  intro k
  induction k with
  | zero => intro v hk hv _; have := F.rb v hv; omega
  | succ k ih =>
    intro v hk hv hc
    have nr : p v ≠ v := fun e => hc (by rw [hq v hv e]; exact e)
    cases hb : needB n p q v with
    | true => exact ⟨v, hv, hb, self_ups F hv nr⟩
    | false =>
      have z : ¬ (p v ≠ q v ∧ ∀ u, u < n → p u ≠ q u → v ≠ u → v ∉ ups p n u) := fun y => by rw [needB_iff.mpr y] at hb; cases hb
      have : ∃ u, u < n ∧ p u ≠ q u ∧ v ≠ u ∧ v ∈ ups p n u := by
        refine Classical.byContradiction fun y => z ⟨hc, fun u a b c d => y ⟨u, a, b, c, d⟩⟩
      obtain ⟨u, hu, cu, ne, mu⟩ := this
      have rk := ups_rank F hu mu ne
      obtain ⟨w, hw, nw, mw⟩ := ih u (by have := F.rb u hu; omega) hu cu
      exact ⟨w, hw, nw, ups_trans F w hw mw mu⟩
/-- a way: finds of the needed ones lead there -/
theorem need_leads (F : Fo n p r) {q : Nat → Nat} (hq : ∀ v, v < n → p v = v → q v = v) (W : Way n p q) (v : Nat) (hv : v < n) : fndAll n (needS n p q) p v = q v := by
  have hl : ∀ x ∈ needS n p q, x < n := fun x hx => (needS_mem.mp hx).1
  rw [behind_eq F _ hl v hv]
  by_cases m : markB n p (needS n p q) v = true
  · rw [if_pos m]
    obtain ⟨x, hx, mx⟩ := mark_iff.mp m
    have hb := needS_mem.mp hx
    exact (W x hb.1 (chg_iff.mpr (needB_iff.mp hb.2).1) v mx).symm
  · rw [if_neg m]
    refine Classical.byContradiction fun hc => ?_
    obtain ⟨u, hu, nu, mu⟩ := need_below F hq n v (by omega) hv hc
    exact m (mark_iff.mpr ⟨u, needS_mem.mpr ⟨hu, nu⟩, mu⟩)
theorem behind_root (F : Fo n p r) {l : List Nat} (h : ∀ x ∈ l, x < n) (v : Nat) (hv : v < n) (e : p v = v) : fndAll n l p v = v := by
  rw [behind_eq F l h v hv]
  split
  · exact root_of e n
  · exact e
theorem filter_single {f : Nat → Bool} {m : Nat} (hm : m < n) (h : ∀ v, v < n → (f v = true ↔ v = m)) : (List.range n).filter f = [m] := by
  have e : (List.range n).filter f = (List.range n).filter (fun v => v == m) := by
    refine List.filter_congr fun v hv => ?_
    have := h v (List.mem_range.mp hv)
    by_cases z : v = m
    · rw [this.mpr z, z]; simp
    · have y : f v = false := by
        cases hf : f v with
        | false => rfl
        | true => exact absurd (this.mp hf) z
      rw [y]; simp [z]
  rw [e]
  have c : (List.range n).filter (fun v => v == m) = List.replicate ((List.range n).count m) m := List.filter_beq _
  rw [c, (List.nodup_range (n := n)).count, if_pos (List.mem_range.mpr hm)]
  rfl
/-- all but one of the needed ones do not suffice -/
theorem rest_needs (F : Fo n p r) {q : Nat → Nat} (hq : ∀ v, v < n → p v = v → q v = v) (W : Way n p q) {rest : List Nat} {m : Nat} (hmn : m < n) (hm : needB n p q m = true)
    (hr : ∀ x ∈ rest, x ∈ needS n p q ∧ x ≠ m) (hall : ∀ x ∈ needS n p q, x = m ∨ x ∈ rest) :
    fndAll n rest p m ≠ q m ∧ Way n (fndAll n rest p) q ∧ needS n (fndAll n rest p) q = [m] := by
  have hl : ∀ x ∈ rest, x < n := fun x hx => (needS_mem.mp (hr x hx).1).1
  obtain ⟨cm, om⟩ := needB_iff.mp hm
  have C := mark_closed F hl
  have hS : ∀ v, v < n → fndAll n rest p v = after n p (markB n p rest) v := fun v hv => by rw [behind_eq F rest hl v hv]; rfl
  have G := after_fo F C
  have hm0 : markB n p rest m ≠ true := fun z => by
    obtain ⟨x, hx, mx⟩ := mark_iff.mp z
    have hb := needS_mem.mp (hr x hx).1
    exact om x hb.1 (needB_iff.mp hb.2).1 (fun e => (hr x hx).2 e.symm) mx
  have rm : fndAll n rest p m = p m := by rw [behind_eq F rest hl m hmn, if_neg hm0]
  have mchg : fndAll n rest p m ≠ q m := by rw [rm]; exact cm
  have uc : ∀ x, x < n → ups (fndAll n rest p) n x = ups (after n p (markB n p rest)) n x := fun x hx => ups_congr G.lt hS n x hx
  have rc : ∀ x, x < n → root (fndAll n rest p) n x = root p n x := fun x hx => (root_congr G.lt hS n x hx).trans (after_same_root F C x hx)
  -- what is still changed
  have still : ∀ v, v < n → fndAll n rest p v ≠ q v → markB n p rest v ≠ true ∧ p v ≠ q v ∧ v ∈ ups p n m := fun v hv hc => by
    have e := behind_eq F rest hl v hv
    by_cases mv : markB n p rest v = true
    · rw [if_pos mv] at e
      obtain ⟨x, hx, mx⟩ := mark_iff.mp mv
      have hb := needS_mem.mp (hr x hx).1
      exact absurd (e.trans (W x hb.1 (chg_iff.mpr (needB_iff.mp hb.2).1) v mx).symm) hc
    · rw [if_neg mv] at e
      have pc : p v ≠ q v := by rw [← e]; exact hc
      obtain ⟨u, hu, nu, mu⟩ := need_below F hq n v (by omega) hv pc
      rcases hall u (needS_mem.mpr ⟨hu, nu⟩) with z | z
      · exact ⟨mv, pc, z ▸ mu⟩
      · exact absurd (mark_iff.mpr ⟨u, z, mu⟩) mv
  refine ⟨mchg, fun v hv hc u hu => ?_, filter_single hmn fun v hv => ?_⟩
  · obtain ⟨_, pc, _⟩ := still v hv (chg_iff.mp hc)
    rw [uc v hv] at hu
    have hu' := (after_ups F C v hv).1 u hu
    rw [rc u (ups_lt F v hv u hu').1]
    exact W v hv (chg_iff.mpr pc) u hu'
  · rw [needB_iff]
    constructor
    · rintro ⟨hc, ho⟩
      refine Classical.byContradiction fun ne => ?_
      obtain ⟨mv, _, vm⟩ := still v hv hc
      refine ho m hmn mchg ne ?_
      rw [uc m hmn]
      exact ((after_ups F C m hmn).2 v vm).resolve_left mv
    · rintro rfl
      refine ⟨mchg, fun u hu hc ne hm2 => ?_⟩
      obtain ⟨_, _, um⟩ := still u hu hc
      rw [uc u hu] at hm2
      have a := ups_rank F hu ((after_ups F C u hu).1 v hm2) ne
      have b := ups_rank F hmn um (fun e => ne e.symm)
      omega
end
end Ff
namespace Ff
section
variable {n : Nat} {p r : Nat → Nat}
theorem fndAll_append (n : Nat) : ∀ (l m : List Nat) (p : Nat → Nat), fndAll n (l ++ m) p = fndAll n m (fndAll n l p)
  | [], _, _ => rfl
  | x :: l, m, p => fndAll_append n l m (fnd n p x)
theorem behind_same_root (F : Fo n p r) {l : List Nat} (h : ∀ x ∈ l, x < n) (v : Nat) (hv : v < n) : root (fndAll n l p) n v = root p n v := by
  have C := mark_closed F h
  have hS : ∀ v, v < n → fndAll n l p v = after n p (markB n p l) v := fun v hv => by rw [behind_eq F l h v hv]; rfl
  exact (root_congr (after_fo F C).lt hS n v hv).trans (after_same_root F C v hv)
theorem behind_ups (F : Fo n p r) {l : List Nat} (h : ∀ x ∈ l, x < n) {x v : Nat} (hx : x < n) (hv : v ∈ ups (fndAll n l p) n x) : v ∈ ups p n x := by
  have C := mark_closed F h
  have hS : ∀ v, v < n → fndAll n l p v = after n p (markB n p l) v := fun v hv => by rw [behind_eq F l h v hv]; rfl
  rw [ups_congr (after_fo F C).lt hS n x hx] at hv
  exact (after_ups F C x hx).1 v hv
/-- a node keeps its parent or hangs on its root -/
theorem behind_or (F : Fo n p r) {l : List Nat} (h : ∀ x ∈ l, x < n) (v : Nat) (hv : v < n) : fndAll n l p v = p v ∨ fndAll n l p v = root p n v := by
  rw [behind_eq F l h v hv]
  split
  · exact .inr rfl
  · exact .inl rfl
/-- what is needed over two ways is needed over one of them -/
theorem need_two (F : Fo n p r) {l m : List Nat} (hl : ∀ x ∈ l, x < n) (hm : ∀ x ∈ m, x < n) {v : Nat} (hv : v < n) (hn : needB n p (fndAll n m (fndAll n l p)) v = true) :
    needB n p (fndAll n l p) v = true ∨ needB n (fndAll n l p) (fndAll n m (fndAll n l p)) v = true := by
  have G : Fo n (fndAll n l p) r := fndAll_fo F l hl p F
  obtain ⟨hc, ho⟩ := needB_iff.mp hn
  -- once on the root, always on the root
  have stay : ∀ u, u < n → fndAll n l p u = root p n u → fndAll n m (fndAll n l p) u = root p n u := fun u hu e => by
    rcases behind_or G hm u hu with z | z
    · rw [z, e]
    · rw [z, behind_same_root F hl u hu]
  by_cases h1 : p v = fndAll n l p v
  · refine .inr (needB_iff.mpr ⟨by rw [← h1]; exact hc, fun u hu hcu ne hmu => ?_⟩)
    refine ho u hu ?_ ne (behind_ups F hl hu hmu)
    rcases behind_or F hl u hu with z | z
    · rw [← z]; exact hcu
    · exact absurd (z.trans (stay u hu z).symm) hcu
  · refine .inl (needB_iff.mpr ⟨h1, fun u hu hcu ne hmu => ?_⟩)
    refine ho u hu ?_ ne hmu
    have z := (behind_or F hl u hu).resolve_left (fun e => hcu e.symm)
    rw [stay u hu z, ← z]; exact hcu
theorem flat_fo (F : Fo n p r) : Fo n (fun v => root p n v) r where
  lt := root_lt F
  up := root_rank F
  rb := F.rb
theorem flat_way (F : Fo n p r) : Way n p (fun v => root p n v) := fun _ _ _ _ _ => rfl
theorem flat_roots (F : Fo n p r) (v : Nat) (hv : v < n) : p v = v ↔ root p n v = v :=
  ⟨fun e => root_of e n, fun e => Classical.byContradiction fun z => root_ne F hv z e⟩
theorem flat_ups (F : Fo n p r) (v : Nat) (hv : v < n) : (ups (fun v => root p n v) n v).length ≤ 1 := by
  by_cases e : root p n v = v
  · rw [ups_of (p := fun v => root p n v) e]; exact Nat.zero_le _
  · rw [ups_n (flat_fo F) hv e]
    have f : root p n (root p n v) = root p n v := root_of (root_fix F v hv) n
    rw [ups_of (p := fun v => root p n v) f]
    exact Nat.le_refl _
theorem deep_chg (F : Fo n p r) (v : Nat) (hv : v < n) : decide (2 ≤ (ups p n v).length) = chg p (fun v => root p n v) v := by
  unfold chg
  refine decide_eq_decide.mpr ?_
  show 2 ≤ (ups p n v).length ↔ p v ≠ root p n v
  by_cases e : p v = v
  · rw [ups_of e, root_of e]; simp [e]
  · rw [ups_n F hv e, root_n F hv e, List.length_cons]
    constructor
    · intro h z
      rw [ups_of (by rw [z]; exact root_fix F (p v) (F.lt v hv))] at h
      simp at h
    · intro h
      have e2 : p (p v) ≠ p v := fun z => h (root_of z n).symm
      rw [ups_n F (F.lt v hv) e2, List.length_cons]; omega
/-- no way back -/
theorem no_way_back (F : Fo n p r) {l : List Nat} (hl : ∀ x ∈ l, x < n) : Way n (fndAll n l p) p ↔ ∀ v, v < n → p v = fndAll n l p v := by
  have G : Fo n (fndAll n l p) r := fndAll_fo F l hl p F
  constructor
  · intro W v hv
    refine Classical.byContradiction fun hc => ?_
    have z := (behind_or F hl v hv).resolve_left (fun e => hc e.symm)
    have nr : fndAll n l p v ≠ v := by
      intro e
      rw [z] at e
      have pr : p v = v := by
        have y := root_fix F v hv
        rw [e] at y; exact y
      exact hc (by rw [z, e, pr])
    have := W v hv (chg_iff.mpr fun e => hc e.symm) v (self_ups G hv nr)
    rw [behind_same_root F hl v hv, ← z] at this
    exact hc this
  · intro h v hv hc
    exact absurd (h v hv).symm (chg_iff.mp hc)
end
end Ff

/-! Falling products and choices. -/
namespace Ff
def fallN (s : Int) : Nat → Int
  | 0 => 1
  | k + 1 => fallN s k * (if s - (k : Int) > 0 then s - (k : Int) else 0)
def fall (s c : Int) : Int := if c < 0 then 0 else fallN s c.toNat
def binom (s c : Int) : Int := if c < 0 then 0 else fall s c / fall c c
def choose : Nat → Nat → Nat
  | _, 0 => 1
  | 0, _ + 1 => 0
  | n + 1, k + 1 => choose n k + choose n (k + 1)
def fact : Nat → Nat
  | 0 => 1
  | k + 1 => (k + 1) * fact k
theorem fact_pos : ∀ k, 0 < fact k
  | 0 => Nat.one_pos
  | k + 1 => Nat.mul_pos (Nat.succ_pos k) (fact_pos k)
theorem choose_zero (n : Nat) : choose n 0 = 1 := by cases n <;> rfl
/-- (n + 1 choose k + 1) (k + 1) = (n + 1) (n choose k) -/
theorem choose_succ : ∀ n k, choose (n + 1) (k + 1) * (k + 1) = (n + 1) * choose n k
  | 0, 0 => rfl
  | 0, k + 1 => by show (0 + 0) * (k + 1 + 1) = (0 + 1) * 0; simp
  | n + 1, 0 => by
    have h := choose_succ n 0
    rw [choose_zero] at h
    rw [choose_zero]
    show (choose (n + 1) 0 + choose (n + 1) (0 + 1)) * (0 + 1) = (n + 1 + 1) * 1
    rw [choose_zero]
    omega
  | n + 1, k + 1 => by
    have h1 := choose_succ n k
    have h2 := choose_succ n (k + 1)
    show (choose (n + 1) (k + 1) + choose (n + 1) (k + 1 + 1)) * (k + 1 + 1) = (n + 1 + 1) * choose (n + 1) (k + 1)
    have e : choose (n + 1) (k + 1) = choose n k + choose n (k + 1) := rfl
    have e1 : choose (n + 1) (k + 1) * (k + 1 + 1) = (n + 1) * choose n k + choose (n + 1) (k + 1) := by rw [Nat.mul_add, Nat.mul_one, h1]
    have e2 : (n + 1 + 1) * choose (n + 1) (k + 1) = ((n + 1) * choose n k + (n + 1) * choose n (k + 1)) + choose (n + 1) (k + 1) := by rw [Nat.add_mul, Nat.one_mul, e, Nat.mul_add]
    rw [Nat.add_mul, h2, e1, e2]
    generalize (n + 1) * choose n k = x
    generalize (n + 1) * choose n (k + 1) = y
    omega
theorem fall_rec (n : Nat) : ∀ k : Nat, fallN ((n + 1 : Nat) : Int) (k + 1) = ((n + 1 : Nat) : Int) * fallN (n : Int) k
  | 0 => by
    show 1 * (if ((n + 1 : Nat) : Int) - ((0 : Nat) : Int) > 0 then ((n + 1 : Nat) : Int) - ((0 : Nat) : Int) else 0) = ((n + 1 : Nat) : Int) * 1
    rw [if_pos (by omega)]; omega
  | k + 1 => by
    show fallN ((n + 1 : Nat) : Int) (k + 1) * (if ((n + 1 : Nat) : Int) - ((k + 1 : Nat) : Int) > 0 then ((n + 1 : Nat) : Int) - ((k + 1 : Nat) : Int) else 0) = ((n + 1 : Nat) : Int) * (fallN (n : Int) k * (if (n : Int) - (k : Int) > 0 then (n : Int) - (k : Int) else 0))
    rw [fall_rec n k, Int.mul_assoc]
    congr 2
    rw [show ((n + 1 : Nat) : Int) - ((k + 1 : Nat) : Int) = (n : Int) - (k : Int) by omega]
theorem fall_choose : ∀ k n : Nat, fallN (n : Int) k = ((choose n k * fact k : Nat) : Int)
  | 0, n => by show (1 : Int) = ((choose n 0 * fact 0 : Nat) : Int); cases n <;> rfl
  | k + 1, 0 => by
    show fallN 0 k * (if ((0 : Nat) : Int) - (k : Int) > 0 then ((0 : Nat) : Int) - (k : Int) else 0) = ((0 * fact (k + 1) : Nat) : Int)
    rw [if_neg (by omega), Int.mul_zero, Nat.zero_mul]; rfl
  | k + 1, n + 1 => by
    rw [fall_rec, fall_choose k n]
    have h := choose_succ n k
    show ((n + 1 : Nat) : Int) * ((choose n k * fact k : Nat) : Int) = ((choose (n + 1) (k + 1) * ((k + 1) * fact k) : Nat) : Int)
    rw [← Int.natCast_mul, ← Nat.mul_assoc, ← Nat.mul_assoc, h]
theorem choose_self : ∀ n, choose n n = 1 ∧ ∀ k, n < k → choose n k = 0
  | 0 => ⟨rfl, fun k h => by cases k with | zero => omega | succ k => rfl⟩
  | n + 1 => by
    have ih := choose_self n
    refine ⟨?_, fun k h => ?_⟩
    · show choose n n + choose n (n + 1) = 1
      rw [ih.1, ih.2 (n + 1) (by omega)]
    · cases k with
      | zero => omega
      | succ k => show choose n k + choose n (k + 1) = 0; rw [ih.2 k (by omega), ih.2 (k + 1) (by omega)]
theorem binom_nat (n k : Nat) : binom (n : Int) (k : Int) = (choose n k : Int) := by
  unfold binom fall
  rw [if_neg (by omega), if_neg (by omega), if_neg (by omega), Int.toNat_natCast, fall_choose, fall_choose, (choose_self k).1, Nat.one_mul, Int.natCast_mul]
  exact Int.mul_ediv_cancel _ (by have := fact_pos k; omega)
/-- sums of neighbours -/
theorem pascal (s c : Int) (h : 0 < s) : binom s c = binom (s - 1) (c - 1) + binom (s - 1) c := by
  obtain ⟨n, rfl⟩ : ∃ n : Nat, s = ((n + 1 : Nat) : Int) := ⟨(s - 1).toNat, by omega⟩
  rw [show ((n + 1 : Nat) : Int) - 1 = (n : Int) by omega]
  by_cases hc : c < 0
  · unfold binom
    rw [if_pos hc, if_pos (by omega), if_pos hc]; rfl
  · by_cases h0 : c = 0
    · subst h0
      have e1 := binom_nat (n + 1) 0
      have e2 := binom_nat n 0
      have e3 : binom (n : Int) (0 - 1) = 0 := by unfold binom; rw [if_pos (by omega)]
      rw [e3]
      rw [choose_zero] at e1 e2
      show binom ((n + 1 : Nat) : Int) ((0 : Nat) : Int) = 0 + binom (n : Int) ((0 : Nat) : Int)
      rw [e1, e2]; rfl
    · obtain ⟨k, rfl⟩ : ∃ k : Nat, c = ((k + 1 : Nat) : Int) := ⟨(c - 1).toNat, by omega⟩
      rw [show ((k + 1 : Nat) : Int) - 1 = (k : Int) by omega, binom_nat, binom_nat, binom_nat]
      show ((choose n k + choose n (k + 1) : Nat) : Int) = _
      omega
end Ff

namespace Ff
open PySem PySem.Spec PyProof.Rows L2
def topS (i : Nat) : Stmt := PySem.Challenge.pw_findforests_k25_powers_and_choices.main.body.getD i (.Pass ⟨0, 0, 0, 0⟩)
/-- all but what stands at d is as it was -/
def Sb (d : Addr) (H H' : Hp) : Prop := ∀ b o, b ≠ d → H b = some o → H' b = some o
theorem Sb.refl {d : Addr} {H : Hp} : Sb d H H := fun _ _ _ h => h
theorem Sb.trans {d : Addr} {H H1 H2 : Hp} (a : Sb d H H1) (b : Sb d H1 H2) : Sb d H H2 := fun c o n h => b c o n (a c o n h)
theorem Sb.of {d : Addr} {H H' : Hp} (s : Same H H') : Sb d H H' := fun b o _ h => s b o h
theorem Sb.put {d : Addr} {H : Hp} {o : HO} : Sb d H (upd H d o) := fun b u n h => by rw [upd_ne n]; exact h
theorem same_new {H : Hp} {p : Addr} {o : HO} (h : H p = none) : Same H (upd H p o) := fun b x e => by
  rw [upd_ne (ne_of_none e h)]
  exact e
theorem same_sqt {H : Hp} {K : PySem.W.Frag} {a : Addr} {xs : List V} {H' : Hp} (e : Same H H') (h : SqT K H a xs) : SqT K H' a xs := by
  rcases h with (h | ⟨o, h⟩) | h
  · exact .inl (.inl (e _ _ h))
  · exact .inl (.inr ⟨o, e _ _ h⟩)
  · exact .inr h
/-- the state of the draws: a list of a list of ints and three ints -/
def DrawAt (H : Hp) (d l : Addr) : Prop := ∃ (ns : List Int) (i j k : Int),
  H d = some (.lst [.ref l, .int i, .int j, .int k]) ∧ H l = some (.lst (ns.map V.int)) ∧ 0 ≤ i ∧ 0 ≤ k ∧ k < 2305843009213693951
theorem draw_ne {H : Hp} {d l : Addr} {ns : List Int} {i j k : Int} (h : H d = some (.lst [.ref l, .int i, .int j, .int k])) (h' : H l = some (.lst (ns.map V.int))) : l ≠ d :=
  ne_of h' h (by
    intro z
    cases ns with
    | nil => cases z
    | cons a r => injection z with z; injection z with z _; cases z)
theorem DrawAt.same {H H' : Hp} {d l : Addr} (D : DrawAt H d l) (s : Same H H') : DrawAt H' d l := by
  obtain ⟨ns, i, j, k, h, h', r⟩ := D
  exact ⟨ns, i, j, k, s _ _ h, s _ _ h', r⟩
def spTake : Sp := fun vs H Q _ => ∃ (d l : Addr) (m : Int), vs = [.ref d, .int m] ∧ DrawAt H d l ∧ 1 ≤ m ∧ m.natAbs < 2 ^ 1000 ∧
  ∀ (r : Nat) H', (r : Int) < m → DrawAt H' d l → Sb d H H' → Q (.int r) H'
section
variable {P : Program} {w : World} {K : PySem.W.Frag} {mg : Str → Option Value} {base : Heap}
theorem dix {K : PySem.W.Frag} {H : Hp} {d : Addr} {xs : List V} (h : H d = some (.lst xs)) {k : Nat} {v : V} (e : xs[k]? = some v) : SqL K H d xs ∧ atI xs (k : Int) = some v := ⟨SqL.of h, atI_nat e⟩
end
theorem Sb.sql {K : PySem.W.Frag} {d a : Addr} {H H' : Hp} {xs : List V} (e : Sb d H H') (n : a ≠ d) (h : SqL K H a xs) : SqL K H' a xs := by
  rcases h with (h | ⟨o, h⟩) | h
  · exact .inl (.inl (e _ _ n h))
  · exact .inl (.inr ⟨o, e _ _ n h⟩)
  · exact .inr h
theorem Sb.sqt {K : PySem.W.Frag} {d a : Addr} {H H' : Hp} {xs : List V} (e : Sb d H H') (n : a ≠ d) (h : SqT K H a xs) : SqT K H' a xs := by
  rcases h with (h | ⟨o, h⟩) | h
  · exact .inl (.inl (e _ _ n h))
  · exact .inl (.inr ⟨o, e _ _ n h⟩)
  · exact .inr h
theorem DrawAt.ne {H : Hp} {d l p : Addr} (D : DrawAt H d l) (h : H p = none) : p ≠ d := by
  obtain ⟨ns, i, j, k, e, _⟩ := D
  exact (ne_of_none e h).symm
theorem DrawAt.nel {H : Hp} {d l p : Addr} (D : DrawAt H d l) (h : H p = none) : p ≠ l := by
  obtain ⟨ns, i, j, k, _, e, _⟩ := D
  exact (ne_of_none e h).symm
theorem DrawAt.put {H : Hp} {d l p : Addr} {o : HO} (D : DrawAt H d l) (h : p ≠ d) (h2 : p ≠ l) : DrawAt (upd H p o) d l := by
  obtain ⟨ns, i, j, k, g, g', r⟩ := D
  exact ⟨ns, i, j, k, by rw [upd_ne h.symm]; exact g, by rw [upd_ne h2.symm]; exact g', r⟩
theorem DrawAt.new {H : Hp} {d l p : Addr} {o : HO} (D : DrawAt H d l) (h : H p = none) : DrawAt (upd H p o) d l := D.same (same_new h)
theorem Sb.over {d p : Addr} {H H' : Hp} {o : HO} (e : Sb d H H') (h : H p = none) : Sb d H (upd H' p o) := fun b u n hb => by
  rw [upd_ne (ne_of_none hb h)]
  exact e b u n hb
theorem same_over {p : Addr} {H H' : Hp} {o : HO} (e : Same H H') (h : H p = none) : Same H (upd H' p o) := fun b u hb => by
  rw [upd_ne (ne_of_none hb h)]
  exact e b u hb
theorem Sb.free {d : Addr} {H H' : Hp} (e : Sb d H H') {p : Addr} (n : p ≠ d) (h : H' p = none) : H p = none := by
  cases z : H p with
  | none => rfl
  | some o => rw [e p o n z] at h; cases h
structure Tx (mg : Str → Option Value) : Prop where
  len : mg "len" = none
  range : mg "range" = none
  list : mg "list" = none
  tuple : mg "tuple" = none
  max : mg "max" = none
  min : mg "min" = none
def spOf (K : PySem.W.Frag) : Sp := fun vs H Q _ => ∃ (d l a : Addr) (xs : List V), vs = [.ref d, .ref a] ∧ DrawAt H d l ∧ a ≠ d ∧ SqL K H a xs ∧ 1 ≤ xs.length ∧ xs.length ≤ 1000 ∧
  ∀ (i : Nat) (v : V) H', xs[i]? = some v → DrawAt H' d l → Sb d H H' → Q v H'
def spShuf (K : PySem.W.Frag) : Sp := fun vs H Q _ => ∃ (d l a : Addr) (xs : List V), vs = [.ref d, .ref a] ∧ DrawAt H d l ∧ a ≠ d ∧ SqL K H a xs ∧ xs.length ≤ 1000 ∧
  ∀ (p : Addr) (ys : List V) H', ys.Perm xs → H p = none → p ≠ d → H' p = some (.lst ys) → DrawAt H' d l → Sb d H H' → Q (.ref p) H'
def spSize : Sp := fun vs H Q _ => ∃ (d l : Addr) (m : Nat), vs = [.ref d, .int m] ∧ DrawAt H d l ∧ m ≤ 1000 ∧
  ∀ (r : Nat) H', r ≤ m → DrawAt H' d l → Sb d H H' → Q (.int r) H'
def spStart (K : PySem.W.Frag) : Sp := fun vs H Q _ => ∃ (a : Addr) (ns : List Int), vs = [.ref a] ∧ SqL K H a (ns.map V.int) ∧ ns.length ≤ 63 ∧
  ∀ (d l : Addr) H', H d = none → DrawAt H' d l → Same H H' → Q (.ref d) H'
section
variable {P : Program} {w : World} {K : PySem.W.Frag} {mg : Str → Option Value} {base : Heap}
theorem insert_perm {xs : List V} (i : Nat) (y : V) : (xs.take i ++ [y] ++ xs.drop i).Perm (xs ++ [y]) := by
  rw [List.append_assoc]
  refine (List.Perm.append_left _ (List.perm_append_comm)).trans ?_
  rw [← List.append_assoc, List.take_append_drop]
end
abbrev vi (n : Nat) : V := .int (n : Int)
def natsV (l : List Nat) : List V := l.map vi
def tupOf (n : Nat) (p : Nat → Nat) : List V := (List.range n).map fun v => vi (p v)
theorem tupOf_len (n : Nat) (p : Nat → Nat) : (tupOf n p).length = n := by unfold tupOf; rw [List.length_map, List.length_range]
theorem tupOf_at {n : Nat} {p : Nat → Nat} {i : Nat} (h : i < n) : (tupOf n p)[i]? = some (vi (p i)) := by
  unfold tupOf
  rw [List.getElem?_map, List.getElem?_range h]
  rfl
theorem tupOf_congr {n : Nat} {p q : Nat → Nat} (h : ∀ v, v < n → p v = q v) : tupOf n p = tupOf n q := by
  unfold tupOf
  exact List.map_congr_left fun v hv => by rw [h v (List.mem_range.mp hv)]
theorem tupOf_set {n : Nat} {p : Nat → Nat} {i y : Nat} : (tupOf n p).set i (vi y) = tupOf n (fun v => if v = i then y else p v) := by
  refine List.ext_getElem? fun j => ?_
  rw [List.getElem?_set]
  by_cases hj : j < n
  · rw [tupOf_at hj, tupOf_at hj, tupOf_len]
    by_cases e : i = j
    · subst e
      rw [if_pos rfl, if_pos hj, if_pos rfl]
    · rw [if_neg e, if_neg (fun z => e z.symm)]
  · have z1 : (tupOf n p)[j]? = none := List.getElem?_eq_none (by rw [tupOf_len]; omega)
    have z2 : (tupOf n (fun v => if v = i then y else p v))[j]? = none := List.getElem?_eq_none (by rw [tupOf_len]; omega)
    rw [z1, z2, tupOf_len]
    by_cases e : i = j
    · rw [if_pos e, if_neg (by omega)]
    · rw [if_neg e]
theorem natsV_len (l : List Nat) : (natsV l).length = l.length := List.length_map _
theorem natsV_last (p : Nat → Nat) (k x : Nat) : atI (natsV (path p k x)) (-1) = some (vi (root p k x)) := by
  unfold natsV path
  rw [List.map_append]
  exact atI_last _ _
/-- a list or a tuple that is read -/
def Sq (K : PySem.W.Frag) (H : Hp) (a : Addr) (xs : List V) : Prop := SqL K H a xs ∨ SqT K H a xs
theorem Sq.same {K : PySem.W.Frag} {H H' : Hp} {a : Addr} {xs : List V} (h : Sq K H a xs) (e : Same H H') : Sq K H' a xs := h.imp (fun z => e.seq z) (fun z => same_sqt e z)
theorem Sq.sb {K : PySem.W.Frag} {d : Addr} {H H' : Hp} {a : Addr} {xs : List V} (h : Sq K H a xs) (e : Sb d H H') (n : a ≠ d) : Sq K H' a xs := h.imp (fun z => e.sql n z) (fun z => e.sqt n z)
theorem Sq.ix {K : PySem.W.Frag} {H : Hp} {a : Addr} {xs : List V} (h : Sq K H a xs) {i : Int} {v : V} {Q : VK} (e : atI xs i = some v) (q : Q v H) : rIx K (.ref a) (.int i) H Q := by
  rcases h with z | z
  · exact .inl ⟨a, xs, i, v, rfl, rfl, z, e, q⟩
  · exact .inr (.inl ⟨a, xs, i, v, rfl, rfl, z, e, q⟩)
def spChk (K : PySem.W.Frag) : Sp := fun vs H Q _ => ∃ (a : Addr) (xs : List V) (x : Nat), vs = [.ref a, vi x] ∧ Sq K H a xs ∧ x < xs.length ∧ Q .non H
/-- path_of, and the law's own -/
def spPath (K : PySem.W.Frag) : Sp := fun vs H Q _ => ∃ (a : Addr) (n : Nat) (p : Nat → Nat) (x : Nat), vs = [.ref a, vi x] ∧ Sq K H a (tupOf n p) ∧ n ≤ 1000 ∧ (∀ v, v < n → p v < n) ∧ x < n ∧
  ∀ (q : Addr) H', H q = none → H' q = some (.lst (natsV (path p n x))) → Same H H' → Q (.ref q) H'
def spPathOf (K : PySem.W.Frag) : Sp := fun vs H Q _ => ∃ (a : Addr) (n : Nat) (p r : Nat → Nat) (x : Nat), vs = [.ref a, vi x] ∧ Sq K H a (tupOf n p) ∧ n ≤ 1000 ∧ Fo n p r ∧ x < n ∧
  ∀ (q : Addr) H', H q = none → H' q = some (.lst (natsV (path p n x))) → Same H H' → Q (.ref q) H'
def spRoot (K : PySem.W.Frag) : Sp := fun vs H Q _ => ∃ (a : Addr) (n : Nat) (p : Nat → Nat) (x : Nat), vs = [.ref a, vi x] ∧ Sq K H a (tupOf n p) ∧ n ≤ 1000 ∧ (∀ v, v < n → p v < n) ∧ x < n ∧
  ∀ H', Same H H' → Q (vi (root p n x)) H'
def spFind (K : PySem.W.Frag) : Sp := fun vs H Q _ => ∃ (a : Addr) (n : Nat) (p r : Nat → Nat) (x : Nat), vs = [.ref a, vi x] ∧ Sq K H a (tupOf n p) ∧ n ≤ 1000 ∧ Fo n p r ∧ x < n ∧
  ∀ (t g : Addr) H', H t = none → H g = none → H' t = some (.tup [.ref g, vi (ups p n x).length]) → H' g = some (.tup (tupOf n (fnd n p x))) → Same H H' → Q (.ref t) H'
def spFindAll (K : PySem.W.Frag) : Sp := fun vs H Q _ => ∃ (a b : Addr) (n : Nat) (p r : Nat → Nat) (xs : List Nat), vs = [.ref a, .ref b] ∧ SqT K H a (tupOf n p) ∧ SqL K H b (natsV xs) ∧ n ≤ 1000 ∧ xs.length ≤ 1000 ∧ Fo n p r ∧ (∀ x ∈ xs, x < n) ∧
  ∀ (t g c : Addr) H', H t = none → H c = none → (g = a ∨ H g = none) → H' t = some (.tup [.ref g, .ref c]) → SqT K H' g (tupOf n (fndAll n xs p)) → H' c = some (.lst (natsV (costs n xs p))) → Same H H' → Q (.ref t) H'
def setAll (y : Nat) : List Nat → (Nat → Nat) → Nat → Nat
  | [], p => p
  | v :: l, p => setAll y l (fun u => if u = v then y else p u)
theorem setAll_snoc (y v : Nat) : ∀ (l : List Nat) (p : Nat → Nat), setAll y (l ++ [v]) p = fun u => if u = v then y else setAll y l p u
  | [], _ => rfl
  | a :: l, p => setAll_snoc y v l _
theorem setAll_eq (y : Nat) : ∀ (l : List Nat) (p : Nat → Nat) (u : Nat), setAll y l p u = if u ∈ l then y else p u
  | [], p, u => by rw [if_neg (List.not_mem_nil)]; rfl
  | a :: l, p, u => by
    show setAll y l _ u = _
    rw [setAll_eq y l]
    by_cases h1 : u ∈ l
    · rw [if_pos h1, if_pos (List.mem_cons_of_mem _ h1)]
    · rw [if_neg h1]
      by_cases h2 : u = a
      · rw [if_pos h2, if_pos (by rw [h2]; exact List.mem_cons_self)]
      · rw [if_neg h2, if_neg (fun z => (List.mem_cons.mp z).elim h2 h1)]
theorem fnd_setAll (n : Nat) (p : Nat → Nat) (x : Nat) : setAll (root p n x) (path p n x) p = fnd n p x := by
  funext u
  rw [setAll_eq]
  rfl
theorem path_lt {n : Nat} {p r : Nat → Nat} (F : Fo n p r) {x : Nat} (hx : x < n) : ∀ v ∈ path p n x, v < n := fun v hv => by
  unfold path at hv
  rcases List.mem_append.mp hv with h | h
  · exact (ups_lt F x hx v h).1
  · rw [List.mem_singleton.mp h]; exact root_lt F x hx
theorem ixN_nat {n i : Nat} (h : i < n) : ixN n (i : Int) = some i := by
  unfold ixN
  rw [if_pos (by omega), if_pos (by omega)]
  simp
theorem perm_of_map {α β : Type} {f : α → β} {zs ys : List β} (h : zs.Perm ys) : ∀ l : List α, zs = l.map f → ∃ l' : List α, ys = l'.map f ∧ l.Perm l' := by
  induction h with
  | nil => intro l e; exact ⟨l, e, List.Perm.refl _⟩
  | cons x h ih =>
    intro l e
    cases l with
    | nil => cases e
    | cons a r =>
      injection e with e1 e2
      obtain ⟨l', h1, h2⟩ := ih r e2
      exact ⟨a :: l', by rw [h1, e1]; rfl, h2.cons a⟩
  | swap x y l0 =>
    intro l e
    match l, e with
    | a :: b :: r, e =>
      injection e with e1 e2
      injection e2 with e2 e3
      exact ⟨b :: a :: r, by rw [e1, e2, e3]; rfl, List.Perm.swap _ _ _⟩
  | trans h1 h2 ih1 ih2 =>
    intro l e
    obtain ⟨l1, a, b⟩ := ih1 l e
    obtain ⟨l2, c, d⟩ := ih2 l1 a
    exact ⟨l2, c, b.trans d⟩
theorem rgV_nat (n : Nat) : rgV 0 (n : Int) = natsV (List.range n) := by
  unfold rgV natsV
  rw [show ((n : Int) - 0).toNat = n by omega]
  exact List.map_congr_left fun i _ => by show V.int (0 + (i : Int)) = V.int (i : Int); rw [Int.zero_add]
theorem rgOk_nat {n : Nat} (h : n ≤ 1000) : RgOk 0 (n : Int) := ⟨by decide, by decide, by omega, by omega, by omega⟩
theorem shuf_nats {l : List Nat} {ys : List V} (h : ys.Perm (natsV l)) : ∃ ks : List Nat, ys = natsV ks ∧ ks.Perm l := by
  obtain ⟨l', e, p⟩ := perm_of_map h.symm l rfl
  exact ⟨l', e, p.symm⟩
/-- the assignments of the renaming -/
def asg (ks ps : List Nat) : Nat → Nat → Nat
  | 0 => fun _ => 0
  | i + 1 => fun v => if v = ks.getD i 0 then ks.getD (ps.getD i 0) 0 else asg ks ps i v
theorem getD_inj {ks : List Nat} (nd : ks.Nodup) {i j : Nat} (hi : i < ks.length) (hj : j < ks.length) (e : ks.getD i 0 = ks.getD j 0) : i = j := by
  rw [List.getD_eq_getElem?_getD, List.getD_eq_getElem?_getD, List.getElem?_eq_getElem hi, List.getElem?_eq_getElem hj] at e
  exact (List.getElem_inj nd).mp e
theorem asg_at {ks ps : List Nat} (nd : ks.Nodup) : ∀ i, i ≤ ks.length → ∀ j, j < i → asg ks ps i (ks.getD j 0) = ks.getD (ps.getD j 0) 0
  | 0, _, j, h => by omega
  | i + 1, hi, j, h => by
    show (if ks.getD j 0 = ks.getD i 0 then _ else _) = _
    by_cases e : j = i
    · subst e; rw [if_pos rfl]
    · rw [if_neg (fun z => e (getD_inj nd (by omega) (by omega) z))]
      exact asg_at nd i (by omega) j (by omega)
theorem renamed_fo {ks ps : List Nat} {n : Nat} (hk : ks.Perm (List.range n)) (hp : ∀ j, j < n → ps.getD j 0 ≤ j) : ∃ r, Fo n (asg ks ps n) r := by
  have nd : ks.Nodup := hk.nodup_iff.mpr List.nodup_range
  have hl : ks.length = n := by rw [hk.length_eq, List.length_range]
  have hm : ∀ v, v < n → ∃ j, j < n ∧ ks.getD j 0 = v := fun v hv => by
    obtain ⟨j, hj, e⟩ := List.getElem_of_mem (hk.mem_iff.mpr (List.mem_range.mpr hv))
    exact ⟨j, by omega, by rw [List.getD_eq_getElem?_getD, List.getElem?_eq_getElem hj]; exact e⟩
  have hb : ∀ j, j < n → ks.getD j 0 < n := fun j hj => by
    have hj' : j < ks.length := by omega
    rw [List.getD_eq_getElem?_getD, List.getElem?_eq_getElem hj']
    exact List.mem_range.mp (hk.mem_iff.mp (List.getElem_mem hj'))
  have hi : ∀ j, j < n → ks.idxOf (ks.getD j 0) = j := fun j hj => by
    have hj' : j < ks.length := by omega
    have hmem : ks.getD j 0 ∈ ks := by
      rw [List.getD_eq_getElem?_getD, List.getElem?_eq_getElem hj']
      exact List.getElem_mem hj'
    have h1 := List.idxOf_lt_length_of_mem hmem
    refine getD_inj nd h1 hj' ?_
    rw [List.getD_eq_getElem?_getD, List.getElem?_eq_getElem h1]
    exact List.getElem_idxOf h1
  refine ⟨fun v => ks.idxOf v, fun v hv => ?_, fun v hv => ?_, fun v hv => ?_⟩
  · obtain ⟨j, hj, rfl⟩ := hm v hv
    rw [asg_at nd n (by omega) j hj]
    have := hp j hj
    exact hb _ (by omega)
  · obtain ⟨j, hj, rfl⟩ := hm v hv
    rw [asg_at nd n (by omega) j hj]
    have h1 := hp j hj
    by_cases e : ps.getD j 0 = j
    · exact .inl (by rw [e])
    · exact .inr (by show ks.idxOf _ < ks.idxOf _; rw [hi _ (by omega), hi _ hj]; omega)
  · obtain ⟨j, hj, rfl⟩ := hm v hv
    show ks.idxOf _ < n
    rw [hi j hj]; exact hj
/-- a new forest -/
def spRen (K : PySem.W.Frag) : Sp := fun vs H Q _ => ∃ (d l a : Addr) (ps : List Nat), vs = [.ref d, .ref a] ∧ DrawAt H d l ∧ a ≠ d ∧ SqL K H a (natsV ps) ∧ ps.length ≤ 1000 ∧ (∀ j, j < ps.length → ps.getD j 0 ≤ j) ∧
  ∀ (t : Addr) (p r : Nat → Nat) H', H t = none → H' t = some (.tup (tupOf ps.length p)) → Fo ps.length p r → DrawAt H' d l → Sb d H H' → Q (.ref t) H'
def spFor : Sp := fun vs H Q _ => ∃ (d l : Addr) (n m : Nat), vs = [.ref d, vi n, vi m] ∧ DrawAt H d l ∧ n ≤ 1000 ∧
  ∀ (t : Addr) (p r : Nat → Nat) H', H t = none → H' t = some (.tup (tupOf n p)) → Fo n p r → DrawAt H' d l → Sb d H H' → Q (.ref t) H'
def spSome : Sp := fun vs H Q _ => ∃ (d l : Addr) (m : Nat), vs = [.ref d, vi m] ∧ DrawAt H d l ∧ m ≤ 1000 ∧
  ∀ (t : Addr) (n : Nat) (p r : Nat → Nat) H', n ≤ m → H t = none → H' t = some (.tup (tupOf n p)) → Fo n p r → DrawAt H' d l → Sb d H H' → Q (.ref t) H'
def spNodes : Sp := fun vs H Q _ => ∃ (d l : Addr) (n m : Nat), vs = [.ref d, vi n, vi m] ∧ DrawAt H d l ∧ n ≤ 1000 ∧ m ≤ 500 ∧
  ∀ (a : Addr) (xs : List Nat) H', H a = none → H' a = some (.lst (natsV xs)) → (∀ x ∈ xs, x < n) → xs.length ≤ m → DrawAt H' d l → Sb d H H' → Q (.ref a) H'
theorem rep0 (n : Nat) : (List.replicate n [V.int 0]).flatten = tupOf n (fun _ => 0) := by
  refine List.ext_getElem? fun i => ?_
  have e : (List.replicate n [V.int 0]).flatten = List.replicate n (V.int 0) := by
    induction n with
    | zero => rfl
    | succ n ih => rw [List.replicate_succ, List.flatten_cons, ih]; rfl
  rw [e]
  by_cases h : i < n
  · rw [tupOf_at h, List.getElem?_replicate, if_pos h]; rfl
  · rw [List.getElem?_eq_none (by rw [List.length_replicate]; omega), List.getElem?_eq_none (by rw [tupOf_len]; omega)]
theorem natsV_at {l : List Nat} {i : Nat} (h : i < l.length) : (natsV l)[i]? = some (vi (l.getD i 0)) := by
  unfold natsV
  rw [List.getElem?_map, List.getElem?_eq_getElem h, List.getD_eq_getElem?_getD, List.getElem?_eq_getElem h]
  rfl
section
variable {P : Program} {w : World} {A : Around} {E : Value → Shared → Prop} {s : Shared}
/-- an empty set, new -/
abbrev newSet (w : World) : Obj := { cls := .type "set", dict := none, data := .set #[] 0 (.fresh 0 0 (!w.params.followText "set-order")) }
end
section
variable {P : Program} {w : World} {A : Around} {E : Value → Shared → Prop} {s : Shared}
theorem set_of_ints {l : Addr} {items : Array Value} (ns : List Int) {Q : Value → Shared → Prop} (hh : A.handled = none) (hl : s.heap.IsList l items) (hit : IntsAre items.toList ns) (hb : ns.length + 1 < scanBound)
    (fin : ∀ (h' : Heap) (tk c : Nat), SetR w h' s.heap.objs.size (fun j => decide (j ∈ ns)) c → c ≤ ns.length → (∀ b o, s.heap.get? b = some o → h'.get? b = some o) → Q (.ref s.heap.objs.size) { s with heap := h', toks := tk }) :
    wpAny (model P w) A (call (.type "set") [.ref l]) Q E s := by
  have size_eq : items.size = ns.length := by rw [← Array.length_toList]; exact IntsAre.length hit
  obtain ⟨c, tl, hmro⟩ := F.called_set.mro; have hmade := F.called_set.made; have hsub := F.called_set.sub
  refine wpAny_call (codeAny_of_tree ?_); show wpAny _ _ (callAny (.type "set") _) _ _ _
  refine wpAny_pure ⟨Code.quiet_builtin _ (by decide +kernel), codeAny_builtin F.entry_type_call ?_⟩; rw [Around.under_plain (weight_type_call_type "set" [.ref l] []) rfl]
  have h1 := F.called_set.notType; have h2 := F.called_set.canCreate; have hct := F.typeCall_set_1 (.ref l)
  (repeat (any_goals (first | assumption | wp_step)))
  refine codeAny_mono (code_set_led1 (.ref l) (E := E) (Q₁ := fun obj s1 => obj = .ref s.heap.objs.size ∧ s1 = { s with heap := s.heap.push (newSet w) }) ⟨rfl, rfl⟩) fun r s1 hr => ?_
  match r, hr with
  | .error e, hr => exact hr
  | .ok (.ret obj), hr =>
      obtain ⟨rfl, rfl⟩ := hr
      have at0 : (s.heap.push (newSet w)).get? s.heap.objs.size = some (newSet w) := Heap.get?_push_size _ rfl
      have ty0 : Shared.TypeIs { s with heap := s.heap.push (newSet w) } (.ref s.heap.objs.size) "set" := ⟨_, at0, rfl⟩
      have hli := F.called_set.init.lookup; have hbi := F.called_set.init.bind (.ref s.heap.objs.size)
      (repeat (any_goals (first | assumption | wp_step)))
      refine codeAny_mono (codeAny_call_builtin (R := wants (fun r s2 => r = .none ∧ ∃ h' tk c, s2 = { s with heap := h', toks := tk } ∧ SetR w h' s.heap.objs.size (fun j => decide (j ∈ ns)) c ∧ c ≤ ns.length ∧ (∀ b o, s.heap.get? b = some o → h'.get? b = some o)) E) F.called_set.init.plain F.entry_set_init (check_set_init_1 ty0 ?_)) fun r2 s2 hr2 => ?_
      · obtain ⟨⟨kl, dl, el, sl⟩, hol, hcl, nl, hdl⟩ := hl
        simp only at hcl hdl; subst hcl; subst hdl
        have at1 : (s.heap.push (newSet w)).get? l = some { cls := .type "list", dict := dl, data := .seq items nl, slots := sl } := Heap.get?_push_of_some _ hol
        have hsls := F.sub_list_set; have hslf := F.sub_list_frozenset; have hne : (Value.type "list" == Value.type "dict") = false := by decide
        have isl : (s.heap.push (newSet w)).IsList l items := ⟨_, at1, rfl, nl, rfl⟩
        unfold Builtin.«set.__init__» noKeywords Builtin.Frozenset.updateFrom; generalize hPI : pyIter = PI; wp_walk; subst hPI
        refine wpAny_pyIter_list isl (wpAny_bind (wpAny_runValue ?_))
        have lt0 : l < s.heap.objs.size := Heap.lt_size hol
        have hd3 : A.in1.in1.in1.handled = none := by simp [hh]
        have sz1 : (s.heap.push (newSet w)).objs.size = s.heap.objs.size + 1 := Heap.size_push ..
        have nel : l ≠ (s.heap.push (newSet w)).objs.size := by rw [sz1]; exact Nat.ne_of_lt (Nat.lt_succ_of_lt lt0)
        have out0 : s.heap.objs.size ∉ [(s.heap.push (newSet w)).objs.size, l] := by
          rw [sz1]; intro z
          rcases List.mem_cons.mp z with z | z
          · exact Nat.ne_of_lt (Nat.lt_succ_self _) z
          · exact Nat.ne_of_gt lt0 (List.mem_singleton.mp z)
        have val : ∀ (i : Nat) (v : Value), items[i]? = some v → ∃ k t, ns[i]? = some k ∧ v = .int k t := fun i v hv => by
          have hi : i < ns.length := by rw [← size_eq]; exact (Array.getElem?_eq_some_iff.mp hv).1
          obtain ⟨t, e⟩ := IntsAre.int_at hit i v (by rw [Array.getElem?_toList]; exact hv)
          refine ⟨ns[i], t, List.getElem?_eq_getElem hi, ?_⟩
          rw [e, List.getD_eq_getElem?_getD, List.getElem?_eq_getElem hi]; rfl
        refine set_update_ints ((Walks.list hd3 _ l nel items).toS) s.heap.objs.size out0 ns size_eq hb val (items.size - 0) 0 _ (by omega) (Nat.zero_le _) ⟨⟨_, Heap.get?_push_size _ rfl, rfl, rfl⟩, (isl.push _)⟩ ⟨0, Nat.le_refl 0, setR_new_at (Heap.get?_push_of_some _ at0)⟩ ?_
        rintro ⟨h', g2, d2, t2, o2⟩ c' hm hc' hS'
        obtain rfl : g2 = s.gens := hm.gens
        obtain rfl : d2 = s.drawn := hm.drawn
        obtain rfl : o2 = s.os := hm.os
        show wpAny _ _ _ _ _ _; refine wpAny_pure ?_; show wpAny _ _ (ret Value.none) _ _ _
        refine wpAny_pure ⟨rfl, h', t2, c', rfl, hS', by omega, fun b o e => ?_⟩
        have b0 : b < s.heap.objs.size := Heap.lt_size e
        refine hm.heap b o (fun z => ?_) (Heap.get?_push_of_some _ (Heap.get?_push_of_some _ e))
        rcases List.mem_cons.mp z with z | z
        · exact Nat.ne_of_lt b0 z
        · exact Nat.ne_of_lt (Nat.lt_succ_of_lt b0) ((List.mem_singleton.mp z).trans sz1)
      · match r2, hr2 with
        | .error e, hr2 => exact hr2
        | .ok (.ret r), hr2 =>
            obtain ⟨rfl, h', tk, c', rfl, hS', hc', hk'⟩ := hr2
            (repeat (any_goals (first | assumption | wp_step)))
            exact fin _ _ _ hS' hc' hk'
end
/-- set(xs), a list of ints -/
def rSetI (K : PySem.W.Frag) (w : World) : List V → Hp → VK → Prop := fun xs H Q => ∃ (l : Addr) (ns : List Int), xs = [V.ref l] ∧ SqL K H l (ns.map V.int) ∧ ns.length < 64 ∧
  ∀ (a : Addr) (c : Nat), H a = none → c ≤ ns.length → Q (.ref a) (upd H a (SetO w a (fun j => decide (j ∈ ns)) c))
theorem cr_setI {X : Cx} (hc : X.calm = true) : CallR X (.type "set") (rSetI X.K X.w) := by
  intro pins s σ H xs us Q I r h
  obtain ⟨l, ns, rfl, hl, hf, q⟩ := h
  rw [Vals.ref1 r]
  obtain ⟨its, rv, pl, hz⟩ := I.list hl
  refine set_of_ints (P := X.prog) (w := X.w) ns (I.ok.hd hc) pl.isList (ints_of_vals rv) (by unfold scanBound; omega) fun h' tk c R cl k => ?_
  exact ⟨.ref s.heap.objs.size, upd H s.heap.objs.size (SetO X.w s.heap.objs.size (fun j => decide (j ∈ ns)) c), I.laid (t' := tk) k (Nat.le_refl _) (setO_new R), rfl, q _ c (I.hok.fresh (Nat.le_refl _)) cl⟩
theorem dpAll_ints {K : PySem.W.Frag} {H : Hp} : ∀ l : List Int, DpAll K H (l.map V.int) (l.map PyData.int)
  | [] => .nil
  | x :: r => .cons (.int x) (dpAll_ints r)
theorem lay_ints : ∀ l : List Int, PyData.canLayAll0 (l.map PyData.int) = true
  | [] => by simp [PyData.canLayAll0]
  | x :: r => by simp [PyData.canLayAll0, PyData.canLay0, lay_ints r]
theorem depth_ints : ∀ l : List Int, PyData.depthAll (l.map PyData.int) ≤ 1
  | [] => by simp [PyData.depthAll]
  | x :: r => by
    have := depth_ints r
    simp [PyData.depthAll, PyData.depth]
    omega
theorem shaped_tup (l : List Int) : SeqAt.shaped (.tuple (l.map PyData.int)) = true := by
  unfold SeqAt.shaped
  have := depth_ints l
  simp [PyData.canLay0, lay_ints, PyData.depth]
  omega
def intsOf (n : Nat) (p : Nat → Nat) : List Int := (List.range n).map fun v => (p v : Int)
theorem tupOf_ints (n : Nat) (p : Nat → Nat) : tupOf n p = (intsOf n p).map V.int := by
  unfold tupOf intsOf
  rw [List.map_map]
  rfl
theorem eqv_tup (l : List Int) : PyData.eqv (.tuple (l.map PyData.int)) (.tuple (l.map PyData.int)) = true := SeqAt.eqv_refl _ (SeqAt.canLay_of_shaped (shaped_tup l))
theorem natsV_ints (l : List Nat) : natsV l = (l.map fun n : Nat => (n : Int)).map V.int := by
  unfold natsV
  rw [List.map_map]
  rfl
theorem sum_cast : ∀ l : List Nat, (l.map fun n : Nat => (n : Int)).sum = (l.sum : Nat)
  | [] => rfl
  | x :: r => by
    rw [List.map_cons, List.sum_cons, List.sum_cons, sum_cast r]
    omega
def spLaw (K : PySem.W.Frag) : Sp := fun vs H Q _ => ∃ (a : Addr) (ns : List Int), vs = [.ref a] ∧ SqL K H a (ns.map V.int) ∧ ns.length ≤ 63 ∧ ∀ H', Q (.bl true) H'
theorem DrawAt.net {H : Hp} {d l t : Addr} {xs : List V} (D : DrawAt H d l) (h : H t = some (.tup xs)) : t ≠ d := by
  obtain ⟨ns, i, j, k, e, _⟩ := D
  exact ne_of h e (by intro z; cases z)
theorem cut_last (l : List Nat) (y : Nat) : cutV (natsV (l ++ [y])) none (some (-1)) = natsV l := by
  unfold cutV
  have e1 : HT.sIx (natsV (l ++ [y])).length (natsV (l ++ [y])).length (some (-1)) = l.length := by
    rw [natsV_len, List.length_append, List.length_singleton]
    unfold HT.sIx
    simp
    omega
  rw [e1, HT.sIx_none]
  unfold natsV
  rw [List.map_append]
  simp
theorem flat_nats (l : List Nat) : (natsV l).all flatV = true := by
  unfold natsV
  rw [List.all_eq_true]
  intro v hv
  obtain ⟨n, _, rfl⟩ := List.mem_map.mp hv
  rfl
theorem inV_nats (l : List Nat) (v : Nat) : inV (vi v) (natsV l) = decide (v ∈ l) := by
  unfold inV natsV
  rw [List.any_map]
  refine Bool.eq_iff_iff.mpr ?_
  rw [List.any_eq_true, decide_eq_true_eq]
  constructor
  · rintro ⟨x, hx, e⟩
    have z : ((x : Int) == (v : Int)) = true := e
    have : x = v := by have := eq_of_beq z; omega
    rw [← this]; exact hx
  · intro h
    exact ⟨v, h, by show ((v : Int) == (v : Int)) = true; simp⟩
def markL (n : Nat) (p : Nat → Nat) (l : List Nat) : List Nat := l.flatMap fun x => ups p n x
theorem markL_mem {n : Nat} {p : Nat → Nat} {l : List Nat} {v : Nat} : v ∈ markL n p l ↔ markB n p l v = true := by
  unfold markL markB
  rw [List.mem_flatMap, List.any_eq_true]
  exact ⟨fun ⟨x, a, b⟩ => ⟨x, a, upB_iff.mpr b⟩, fun ⟨x, a, b⟩ => ⟨x, a, upB_iff.mp b⟩⟩
theorem markL_len (n : Nat) (p : Nat → Nat) : ∀ l : List Nat, (markL n p l).length ≤ l.length * n
  | [] => Nat.zero_le _
  | x :: r => by
    have h1 := markL_len n p r
    have h2 := ups_len0 p n x
    show (ups p n x ++ markL n p r).length ≤ (r.length + 1) * n
    rw [List.length_append, Nat.add_mul]
    omega
theorem ints_perm {l : List Nat} {ns : List Int} (h : ns.Perm (l.map fun n : Nat => (n : Int))) : ∃ ys : List Nat, ns.map V.int = natsV ys ∧ ys.Perm l := by
  obtain ⟨ys, e, p⟩ := perm_of_map h.symm l rfl
  exact ⟨ys, by rw [natsV_ints, e], p.symm⟩
theorem ints_of_mem : ∀ {ns : List Int}, (∀ k ∈ ns, ∃ m : Nat, k = (m : Int)) → ∃ ys : List Nat, ns = ys.map fun n : Nat => (n : Int)
  | [], _ => ⟨[], rfl⟩
  | k :: r, h => by
    obtain ⟨m, e⟩ := h k List.mem_cons_self
    obtain ⟨ys, e2⟩ := ints_of_mem (ns := r) fun j hj => h j (List.mem_cons_of_mem _ hj)
    exact ⟨m :: ys, by rw [e, e2]; rfl⟩
/-- a def of the text as the top has left it -/
def DefF (K : PySem.W.Frag) (x : Str) (st : Stmt) : Prop := ∃ (f : Addr) (oc : Value) (od an : Option Addr) (sl : Array (Option Value)) (kV dc pm cd ct : Value),
  PySem.W.nsIn K mainGlobals x = some (some (.ref f)) ∧ K.lookup f = some ⟨oc, od, .func (PySem.W.fnOf x x (defArgs st) (defBody st) (defScope st) .none kV dc pm an cd ct), sl⟩ ∧ PySem.W.codeIn K cd x = true ∧ PySem.W.keepIn K (.ref f) = true
theorem DefF.by {K : PySem.W.Frag} {x : Str} {st : Stmt} {f : Addr} {oc : Value} {od an : Option Addr} {sl : Array (Option Value)} {kV dc pm cd ct : Value} (a : PySem.W.nsIn K mainGlobals x = some (some (.ref f)))
    (l : K.lookup f = some ⟨oc, od, .func (PySem.W.fnOf x x (defArgs st) (defBody st) (defScope st) .none kV dc pm an cd ct), sl⟩) (c : PySem.W.codeIn K cd x = true) (k : PySem.W.keepIn K (.ref f) = true) : DefF K x st := ⟨f, oc, od, an, sl, kV, dc, pm, cd, ct, a, l, c, k⟩
theorem DefF.get {K : PySem.W.Frag} {h : Heap} {mg : Str → Option Value} {x : Str} {st : Stmt} (D : DefF K x st) (X : K.In h) (G : h.Ns mainGlobals mg) : ∃ f fd, Fun K x x st f fd ∧ mg x = some (.ref f) := by
  obtain ⟨f, oc, od, an, sl, kV, dc, pm, cd, ct, a, l, c, k⟩ := D
  exact ⟨f, _, fun_mk (st := st) l c k, PySem.W.mg_of X G a⟩
abbrev sameN : List Str := ["_law_found", "_law_due", "_law_one", "_law_other"]
/-- plain data of at most so many storeys -/
inductive Sm : Nat → PyData → Prop
  | non (n : Nat) : Sm n .none
  | bl (n : Nat) (b : Bool) : Sm n (.bool b)
  | int (n : Nat) (i : Int) : Sm n (.int i)
  | str (n : Nat) (x : Str) : Sm n (.str x)
  | lst {n : Nat} {ds : List PyData} (h : ds.length ≤ 1000) (k : ∀ d ∈ ds, Sm n d) : Sm (n + 1) (.list ds)
  | tup {n : Nat} {ds : List PyData} (h : ds.length ≤ 1000) (k : ∀ d ∈ ds, Sm n d) : Sm (n + 1) (.tuple ds)
def spSame (K : PySem.W.Frag) (n : Nat) : Sp := fun vs H Q _ => ∃ (v u : V) (d : PyData), vs = [v, u] ∧ Dp K H v d ∧ Dp K H u d ∧ Sm n d ∧ ∀ H', Same H H' → Q (.bl true) H'
structure TxS (mg : Str → Option Value) : Prop where
  isinstance : mg "isinstance" = none
  list : mg "list" = none
  tuple : mg "tuple" = none
  bool : mg "bool" = none
  int : mg "int" = none
  str : mg "str" = none
  len : mg "len" = none
  all : mg "all" = none
  zip : mg "zip" = none
section
variable {X : Cx}
theorem pe_ty {x : Str} {n : String} {pos : Pos} (hg : Gl X x) (hm : X.mg x = none) (hv : bootBuiltins x = some (.type n)) (h1 : x ≠ "__name__" := by decide) (h2 : (x == ("__debug__" : Str)) = false := by decide) : PE X (.Name x pos) (tC (.ty n)) := pe_bltn hg hm hv rfl h1 h2
end
theorem kit2 {K : PySem.W.Frag} {t a b : String} {r s : Bool} (h1 : kitB t a = some r) (h2 : kitB t b = some s) : PySem.W.kitAny K (.type t) [.type a, .type b] = some (r || s) :=
  kitAny_cons (kit_ty h1) (fun e => kitAny_cons (kit_ty h2) (fun e2 => by rw [e, e2]; rfl) (fun e2 => by rw [e2, Bool.or_true])) (fun e => by rw [e]; rfl)
theorem dpl_len {K : PySem.W.Frag} {H : Hp} : ∀ {xs : List V} {ds : List PyData}, DpAll K H xs ds → xs.length = ds.length
  | _, _, .nil => rfl
  | _, _, .cons _ r => by rw [List.length_cons, List.length_cons, dpl_len r]
theorem dpl_at {K : PySem.W.Frag} {H : Hp} : ∀ {xs : List V} {ds : List PyData}, DpAll K H xs ds → ∀ {i : Nat} {x : V}, xs[i]? = some x → ∃ d, ds[i]? = some d ∧ Dp K H x d
  | _, _, .cons h r, 0, x, e => ⟨_, rfl, (Option.some.inj e) ▸ h⟩
  | _, _, .cons h r, i + 1, x, e => dpl_at r (i := i) e
mutual
theorem dp_same {K : PySem.W.Frag} {H H' : Hp} (e : Same H H') : ∀ {v : V} {d : PyData}, Dp K H v d → Dp K H' v d
  | _, _, .non => .non
  | _, _, .bl b => .bl b
  | _, _, .int i => .int i
  | _, _, .str x => .str x
  | _, _, .lst s r => .lst (e.seq s) (dpl_same e r)
  | _, _, .tup s r => .tup (same_sqt e s) (dpl_same e r)
theorem dpl_same {K : PySem.W.Frag} {H H' : Hp} (e : Same H H') : ∀ {vs : List V} {ds : List PyData}, DpAll K H vs ds → DpAll K H' vs ds
  | _, _, .nil => .nil
  | _, _, .cons h r => .cons (dp_same e h) (dpl_same e r)
end
theorem tyL {K : PySem.W.Frag} {H : Hp} {a : Addr} {xs : List V} (h : SqL K H a xs) : TyX K H (.ref a) (.type "list") := by
  rcases h with (h | ⟨o, h⟩) | ⟨o, _, _, h, c, _⟩
  · exact .base (.lst h)
  · exact .base (.frz h)
  · exact .kList h c
theorem tyT {K : PySem.W.Frag} {H : Hp} {a : Addr} {xs : List V} (h : SqT K H a xs) : TyX K H (.ref a) (.type "tuple") := by
  rcases h with (h | ⟨o, h⟩) | ⟨o, _, _, h, c, _⟩
  · exact .base (.tup h)
  · exact .fTuple h
  · exact .kTuple h c
abbrev markedN : List Str := ["forest", "nodes", "marked", "node", "passed"]
abbrev afterN : List Str := ["forest", "nodes", "parents", "node"]
abbrev totalN : List Str := ["forest", "nodes", "deep", "lower", "node"]
/-- a def whose promise is known -/
structure Kn (P : Program) (w : World) (K : PySem.W.Frag) (mg : Str → Option Value) (base : Heap) (k : Nat) (x : Str) (st : Stmt) (ps : List Str) (sp : Sp) (f : Addr) (fd : FuncData) : Prop where
  F : Fun K x x st f fd
  G : FnOk P w K mg base CX0 k f fd ps sp
  b : Binds K fd ps []
  g : mg x = some (.ref f)
def spRootOf (K : PySem.W.Frag) : Sp := fun vs H Q _ => ∃ (a : Addr) (n : Nat) (p r : Nat → Nat) (x : Nat), vs = [.ref a, vi x] ∧ Sq K H a (tupOf n p) ∧ n ≤ 1000 ∧ Fo n p r ∧ x < n ∧ ∀ H', Same H H' → Q (vi (root p n x)) H'
def spDepthOf (K : PySem.W.Frag) : Sp := fun vs H Q _ => ∃ (a : Addr) (n : Nat) (p r : Nat → Nat) (x : Nat), vs = [.ref a, vi x] ∧ Sq K H a (tupOf n p) ∧ n ≤ 1000 ∧ Fo n p r ∧ x < n ∧ ∀ H', Same H H' → Q (vi (ups p n x).length) H'
def markS (n : Nat) (p : Nat → Nat) (l : List Nat) : List Nat := (List.range n).filter (markB n p l)
def spMarked (K : PySem.W.Frag) : Sp := fun vs H Q _ => ∃ (a b : Addr) (n : Nat) (p r : Nat → Nat) (xs : List Nat), vs = [.ref a, .ref b] ∧ Sq K H a (tupOf n p) ∧ SqL K H b (natsV xs) ∧ n ≤ 60 ∧ xs.length ≤ 1000 ∧ Fo n p r ∧ (∀ x ∈ xs, x < n) ∧
  ∀ (q : Addr) H', H q = none → H' q = some (.lst (natsV (markS n p xs))) → Same H H' → Q (.ref q) H'
def spAfter (K : PySem.W.Frag) : Sp := fun vs H Q _ => ∃ (a b : Addr) (n : Nat) (p r : Nat → Nat) (xs : List Nat), vs = [.ref a, .ref b] ∧ Sq K H a (tupOf n p) ∧ SqL K H b (natsV xs) ∧ n ≤ 60 ∧ xs.length ≤ 1000 ∧ Fo n p r ∧ (∀ x ∈ xs, x < n) ∧
  ∀ (q : Addr) H', H q = none → H' q = some (.tup (tupOf n (fndAll n xs p))) → Same H H' → Q (.ref q) H'
def spTotal (K : PySem.W.Frag) : Sp := fun vs H Q _ => ∃ (a b : Addr) (n : Nat) (p r : Nat → Nat) (xs : List Nat), vs = [.ref a, .ref b] ∧ Sq K H a (tupOf n p) ∧ SqL K H b (natsV xs) ∧ n ≤ 60 ∧ xs.length ≤ 1000 ∧ Fo n p r ∧ (∀ x ∈ xs, x < n) ∧
  ∀ H', Same H H' → Q (vi (costs n xs p).sum) H'
theorem rise_eq : ∀ {l m : List Int}, l.Pairwise (· < ·) → m.Pairwise (· < ·) → (∀ k, k ∈ l ↔ k ∈ m) → l = m
  | [], [], _, _, _ => rfl
  | [], b :: m, _, _, h => by have := (h b).mpr List.mem_cons_self; cases this
  | a :: l, [], _, _, h => by have := (h a).mp List.mem_cons_self; cases this
  | a :: l, b :: m, hl, hm, h => by
    obtain ⟨h1, h2⟩ := List.pairwise_cons.mp hl
    obtain ⟨g1, g2⟩ := List.pairwise_cons.mp hm
    have e : a = b := by
      rcases List.mem_cons.mp ((h a).mp List.mem_cons_self) with z | z
      · exact z
      · rcases List.mem_cons.mp ((h b).mpr List.mem_cons_self) with y | y
        · exact y.symm
        · have := g1 a z
          have := h1 b y
          omega
    subst e
    rw [rise_eq h2 g2 fun k => ?_]
    constructor
    · intro z
      rcases List.mem_cons.mp ((h k).mp (List.mem_cons_of_mem _ z)) with y | y
      · have := h1 k z; omega
      · exact y
    · intro z
      rcases List.mem_cons.mp ((h k).mpr (List.mem_cons_of_mem _ z)) with y | y
      · have := g1 k z; omega
      · exact y
theorem rise_filter (n : Nat) (f : Nat → Bool) : (((List.range n).filter f).map fun v : Nat => (v : Int)).Pairwise (· < ·) := by
  rw [List.pairwise_map]
  refine List.Pairwise.imp (fun {a b} h => by omega) ((List.pairwise_lt_range (n := n)).filter f)
theorem count_up {n k : Nat} {f g : Nat → Bool} (hk : k < n) (h1 : f k = false) (h2 : ∀ v, g v = (f v || decide (v = k))) : (List.range n).countP g = (List.range n).countP f + 1 := by
  have e := countP_split g f (List.range n)
  have e1 : (List.range n).countP (fun v => g v && f v) = (List.range n).countP f := List.countP_congr fun v _ => by
    rw [h2 v]; cases f v <;> simp
  have e2 : (List.range n).countP (fun v => g v && !f v) = 1 := by
    have z : ∀ v, (g v && !f v) = (v == k) := fun v => by
      rw [h2 v]
      by_cases hv : v = k
      · subst hv; rw [h1]; simp
      · have : (v == k) = false := beq_eq_false_iff_ne.mpr hv
        rw [this]; simp [hv]
    rw [List.countP_congr (q := fun v => v == k) fun v _ => by rw [z v]]
    have c := (List.nodup_range (n := n)).count (a := k)
    rw [if_pos (List.mem_range.mpr hk)] at c
    exact c
  omega
/-- the marked ones hung on their roots, one by one -/
def hang (n : Nat) (p : Nat → Nat) : List Nat → (Nat → Nat) → Nat → Nat
  | [], q => q
  | v :: l, q => hang n p l (fun u => if u = v then root p n v else q u)
theorem hang_snoc (n : Nat) (p : Nat → Nat) (v : Nat) : ∀ (l : List Nat) (q : Nat → Nat), hang n p (l ++ [v]) q = fun u => if u = v then root p n v else hang n p l q u
  | [], _ => rfl
  | a :: l, q => hang_snoc n p v l _
theorem hang_eq (n : Nat) (p : Nat → Nat) : ∀ (l : List Nat) (q : Nat → Nat) (u : Nat), hang n p l q u = if u ∈ l then root p n u else q u
  | [], q, u => by rw [if_neg (List.not_mem_nil)]; rfl
  | a :: l, q, u => by
    show hang n p l _ u = _
    rw [hang_eq n p l]
    by_cases h1 : u ∈ l
    · rw [if_pos h1, if_pos (List.mem_cons_of_mem _ h1)]
    · rw [if_neg h1]
      by_cases h2 : u = a
      · subst h2; rw [if_pos rfl, if_pos List.mem_cons_self]
      · rw [if_neg h2, if_neg (fun z => (List.mem_cons.mp z).elim h2 h1)]
theorem markS_mem {n : Nat} {p : Nat → Nat} {l : List Nat} {v : Nat} : v ∈ markS n p l ↔ v < n ∧ markB n p l v = true := by
  unfold markS
  rw [List.mem_filter, List.mem_range]
theorem markS_len (n : Nat) (p : Nat → Nat) (l : List Nat) : (markS n p l).length ≤ n := by
  unfold markS
  exact Nat.le_trans (List.length_filter_le _ _) (by rw [List.length_range]; exact Nat.le_refl _)
theorem mark_nonroot {n : Nat} {p r : Nat → Nat} (F : Fo n p r) {l : List Nat} (h : ∀ x ∈ l, x < n) {v : Nat} (hm : markB n p l v = true) : v < n ∧ p v ≠ v := by
  unfold markB at hm
  obtain ⟨x, hx, e⟩ := List.any_eq_true.mp hm
  have z := ups_lt F x (h x hx) v (upB_iff.mp e)
  exact ⟨z.1, z.2.1⟩
theorem deep_iff {n : Nat} {p r : Nat → Nat} (F : Fo n p r) {v : Nat} (hv : v < n) (h : p v ≠ v) : deep p v = decide (2 ≤ (ups p n v).length) := by
  unfold deep
  rw [ups_n F hv h]
  refine decide_eq_decide.mpr ?_
  rw [List.length_cons]
  constructor
  · intro z
    rw [ups_n F (F.lt v hv) z, List.length_cons]
    omega
  · intro z e
    rw [ups_of e] at z
    simp at z
structure Pair (K : PySem.W.Frag) (H : Hp) (a b : Addr) (n : Nat) (p q r r' : Nat → Nat) : Prop where
  sa : SqT K H a (tupOf n p)
  sb : SqT K H b (tupOf n q)
  le : n ≤ 60
  fa : Fo n p r
  fb : Fo n q r'
  ro : ∀ v, v < n → (p v = v ↔ q v = v)
theorem Pair.same {K : PySem.W.Frag} {H H' : Hp} {a b : Addr} {n : Nat} {p q r r' : Nat → Nat} (h : Pair K H a b n p q r r') (e : Same H H') : Pair K H' a b n p q r r' := ⟨same_sqt e h.sa, same_sqt e h.sb, h.le, h.fa, h.fb, h.ro⟩
def spNeeded (K : PySem.W.Frag) : Sp := fun vs H Q _ => ∃ (a b : Addr) (n : Nat) (p q r r' : Nat → Nat), vs = [.ref a, .ref b] ∧ Pair K H a b n p q r r' ∧ Way n p q ∧
  ∀ (l : Addr) H', H l = none → H' l = some (.lst (natsV (needS n p q))) → Same H H' → Q (.ref l) H'
def spBar (K : PySem.W.Frag) : Sp := fun vs H Q _ => ∃ (a b : Addr) (n : Nat) (p q r r' : Nat → Nat), vs = [.ref a, .ref b] ∧ Pair K H a b n p q r r' ∧
  (Way n p q → ∀ H', Same H H' → Q .non H') ∧ (¬ Way n p q → ∀ (t : Addr) (x y : Nat) H', H' t = some (.tup [vi x, vi y]) → Same H H' → Q (.ref t) H')
def spWayCost (K : PySem.W.Frag) : Sp := fun vs H Q _ => ∃ (a b : Addr) (n : Nat) (p q r r' : Nat → Nat), vs = [.ref a, .ref b] ∧ Pair K H a b n p q r r' ∧ Way n p q ∧
  ∀ H', Same H H' → Q (vi (costs n (needS n p q) p).sum) H'
theorem behind_roots {n : Nat} {p r : Nat → Nat} (F : Fo n p r) {l : List Nat} (h : ∀ x ∈ l, x < n) (v : Nat) (hv : v < n) : p v = v ↔ fndAll n l p v = v := by
  constructor
  · exact behind_root F h v hv
  · intro e
    rw [behind_eq F l h v hv] at e
    by_cases m : markB n p l v = true
    · rw [if_pos m] at e
      refine Classical.byContradiction fun z => root_ne F hv z e
    · rw [if_neg m] at e; exact e
theorem eqv_ints : ∀ l m : List Int, PyData.eqvAll (l.map PyData.int) (m.map PyData.int) = decide (l = m)
  | [], [] => by simp [PyData.eqvAll]
  | [], b :: m => by simp [PyData.eqvAll]
  | a :: l, [] => by simp [PyData.eqvAll]
  | a :: l, b :: m => by
    rw [List.map_cons, List.map_cons, PyData.eqvAll, eqv_ints l m]
    by_cases e : a = b
    · subst e
      by_cases f : l = m
      · subst f; simp [PyData.eqv]
      · simp [PyData.eqv, f]
    · simp [PyData.eqv, e]
theorem eqv_tups (l m : List Int) : PyData.eqv (.tuple (l.map PyData.int)) (.tuple (m.map PyData.int)) = decide (l = m) := by
  rw [← eqv_ints l m]
  simp [PyData.eqv]
theorem eqv_lsts (l m : List Int) : PyData.eqv (.list (l.map PyData.int)) (.list (m.map PyData.int)) = decide (l = m) := by
  rw [← eqv_ints l m]
  simp [PyData.eqv]
theorem shaped_lst (l : List Int) : SeqAt.shaped (.list (l.map PyData.int)) = true := by
  unfold SeqAt.shaped
  have := depth_ints l
  simp [PyData.canLay0, lay_ints, PyData.depth]
  omega
theorem intsOf_inj {n : Nat} {p q : Nat → Nat} (h : intsOf n p = intsOf n q) {v : Nat} (hv : v < n) : p v = q v := by
  have e := congrArg (fun l : List Int => l[v]?) h
  unfold intsOf at e
  simp only [List.getElem?_map, List.getElem?_range hv, Option.map_some] at e
  have := Option.some.inj e
  omega
theorem natsI (l : List Nat) : natsV l = (l.map fun n : Nat => (n : Int)).map V.int := natsV_ints l
theorem castI {l m : List Nat} (h : (l.map fun n : Nat => (n : Int)) = m.map fun n : Nat => (n : Int)) : l = m := by
  refine List.map_inj_right (f := fun n : Nat => (n : Int)) (fun a b e => by omega) |>.mp h
abbrev Kx (P : Program) (w : World) (K : PySem.W.Frag) (mg : Str → Option Value) (base : Heap) (k : Nat) (x : Str) (st : Stmt) (ps : List Str) (sp : Sp) : Prop := ∃ f fd, Kn P w K mg base k x st ps sp f fd
section
variable {X : Cx} {CX : CXT} {k : Nat} {f : Addr} {fd : FuncData} {ps ks : List Str} {sp : Sp} {g : List Value → List Value → List Value} {gV : List V → List V → List V} {E : XK} {x : Str} {p pos : Pos} {kws : List Keyword} {tk : TA}
theorem pe_kws (F : FnOk X.prog X.w X.K X.mg X.base CX k f fd ps sp) (hr : Room k X.A) (hg : Gl X x) (hm : X.mg x = some (.ref f)) (hk : PySem.W.keepIn X.K (.ref f) = true) (hb : KBinds X.K fd ps ks g gV) (hx : Passes CX X E) (hkw : PK X kws tk)
    (hall : (backToKw pos (keywordEach kws X.env)).all (·.1.isSome) = true := by rfl) (hks : (backToKw pos (keywordEach kws X.env)).filterMap (·.1) = ks := by rfl) (hdb : (x == ("__debug__" : Str)) = false := by decide)
    (hpl : ((backTo pos (starEach [] X.env)).any (·.1) || (backToKw pos (keywordEach kws X.env)).any (·.1.isNone)) = false := by rfl) : PE X (.Call (.Name x p) [] kws pos) (tCallK sp gV E tNil tk) := by
  refine ⟨fun pins s σ H Q I h => wpAny_Call_Name_kw (ld_glob I hg hm (PySem.W.callWith_KW0 (h₀ := X.base) I.ok.mod.kin hk hall ?_ hpl) hdb)⟩
  refine thn (hkw.run pos pins s σ H _ I h) fun ws s2 ⟨zs, H2, I2, rz, q2⟩ => ⟨I2.kIn, ?_⟩
  rw [hks]; exact run_fnk (us := []) (vs := []) F hr hb hx I2 .nil rz q2
end
/-- two parameters, given by keywords in the other order -/
def sw2 {α : Type} : List α → List α → List α
  | [], [b, a] => [a, b]
  | _, _ => []
theorem sw2_rel {vs : List V} {us : List Value} {zs : List V} {ws : List Value} (r : Vals vs us) (s : Vals zs ws) : Vals (sw2 vs zs) (sw2 us ws) := by
  cases r with
  | cons _ _ => exact .nil
  | nil =>
    cases s with
    | nil => exact .nil
    | cons h1 t1 =>
      cases t1 with
      | nil => exact .nil
      | cons h2 t2 =>
        cases t2 with
        | nil => exact .cons h2 (.cons h1 .nil)
        | cons _ _ => exact .nil
theorem Fun.sw {K : PySem.W.Frag} {x qual : Str} {st : Stmt} {f : Addr} {fd : FuncData} {a b : Str} (F : Fun K x qual st f fd)
    (h : ∀ (kV doc pm : Value) (an : Option Addr) (cdv ct : Value) (u v : Value), bindArgs (PySem.W.fnOf x qual (defArgs st) (defBody st) (defScope st) .none kV doc pm an cdv ct) ⟨[], [(b, u), (a, v)]⟩ = pure [(a, v), (b, u)]) : KBinds K fd [a, b] [b, a] sw2 sw2 := by
  obtain ⟨oc, od, kV, doc, pm, an, cdv, ct, osl, rfl, lk, hcd⟩ := F.ex
  refine ⟨fun s us ws _ hl => ?_, sw2_rel⟩
  match us, ws, hl with
  | [], [u, v], _ => exact .of_eq (h kV doc pm an cdv ct u v)
abbrev sTake : Stmt := topS 6
abbrev sStart : Stmt := topS 5
abbrev sOf : Stmt := topS 7
abbrev sSame : Stmt := topS 8
theorem scTake : FnScope ["_law_draw", "_law_many", "_law_cell", "_law_digit", "_law_square"] ["_law_draw", "_law_many"] (defScope sTake) := ⟨rfl, rfl, rfl, by decide +kernel, rfl, by decide +kernel, by decide +kernel⟩
theorem scStart : FnScope ["_law_script"] ["_law_script"] (defScope sStart) := ⟨rfl, rfl, rfl, by decide +kernel, rfl, by decide +kernel, by decide +kernel⟩
theorem scOf : FnScope ["_law_draw", "_law_some"] ["_law_draw", "_law_some"] (defScope sOf) := ⟨rfl, rfl, rfl, by decide +kernel, rfl, by decide +kernel, by decide +kernel⟩
theorem scSame : FnScope sameN ["_law_found", "_law_due"] (defScope sSame) := ⟨rfl, rfl, rfl, by decide +kernel, rfl, by decide +kernel, by decide +kernel⟩
section
variable {P : Program} {w : World} {K : PySem.W.Frag} {mg : Str → Option Value} {base : Heap}
theorem ok_take {f : Addr} {fd : FuncData} {k : Nat} (F : Fun K "_law_take" "_law_take" sTake f fd) (ml : mg "len" = none) : FnOk P w K mg base CX0 (k + 1) f fd ["_law_draw", "_law_many"] spTake := by
  refine F.ok scTake (fun vs H Q E h => ?_) (fun cdv A outer s H vs Q E hr h => ?_)
  · obtain ⟨d, l, m, rfl, _⟩ := h
    rfl
  · obtain ⟨d, l, m, rfl, hD, hm1, hm2, q⟩ := h
    have c61 : (0 : Int) < 2305843009213693951 := by decide
    refine ⟨_, C8.pss_cut (ps_if (PW.pt (pw_and (pt_cmpR op_lt (pe_ix ix_list (pv 0) pe_int (fun _ _ => rfl)) (pv 1) (nomark _))
        (pw_and1 (pt_cmpR op_lt (pe_ix ix_list (pv 0) pe_int (fun _ _ => rfl)) (pe_callB call_len_seq (by rfl) ml PySem.boot_len (pa_cons (pe_ix ix_list (pv 0) pe_int (fun _ _ => rfl)) pa_nil)) (nomark _)))))
        (pss_cons (ps_set (i := 2) scTake.nd rfl (.inl rfl) (pe_ix ix_list (pe_ix ix_list (pv 0) pe_int (fun _ _ => rfl)) (pe_ix ix_list (pv 0) pe_int (fun _ _ => rfl)) (fun _ _ => rfl)))
        (pss_cons (ps_asg (pe_op op_add (pe_ix ix_list (pv 0) pe_int (fun _ _ => rfl)) pe_int) (pg_sub (pv 0) pe_int set_list))
        (pss_cons (ps_asg pe_int (pg_sub (pv 0) pe_int set_list))
        (C8.pss_cut (ps_if (pt_cmpR op_ge (pv 2) (pe_op op_pow pe_int pe_int) (nomark _)) (pss_one (ps_asg (pv 2) (pg_sub (pv 0) pe_int set_list))) pss_nil)
        (pss_one (ps_asg (pe_op op_mod (pe_op op_add (pe_op op_add (pe_op op_mul (pe_ix ix_list (pv 0) pe_int (fun _ _ => rfl)) pe_int) (pe_op op_mul (pe_op op_mod (pv 2) pe_int) pe_int)) (pe_ix ix_list (pv 0) pe_int (fun _ _ => rfl))) pe_int) (pg_sub (pv 0) pe_int set_list))))))) pss_nil)
      (pss_cons (ps_if (pt_cmpR op_ge (pe_ix ix_list (pv 0) pe_int (fun _ _ => rfl)) (pv 1) (nomark _))
        (pss_cons (ps_set (i := 3) scTake.nd rfl (.inl rfl) (pe_op op_mod (pe_ix ix_list (pv 0) pe_int (fun _ _ => rfl)) (pv 1)))
        (pss_cons (ps_asg (pe_op op_fdivW (pe_ix ix_list (pv 0) pe_int (fun _ _ => rfl)) (pv 1)) (pg_sub (pv 0) pe_int set_list))
        (pss_one (ps_ret (pv 3))))) pss_nil)
      (pss_cons (ps_set (i := 4) scTake.nd rfl (.inl rfl) (pe_op op_mod (pe_op op_mul (pe_ix ix_list (pv 0) pe_int (fun _ _ => rfl)) (pe_ix ix_list (pv 0) pe_int (fun _ _ => rfl))) pe_int))
      (pss_cons (ps_asg (pe_op op_mod (pe_op op_add (pe_op op_add (pe_op op_mul (pv 4) pe_int) (pe_op op_mul (pe_ix ix_list (pv 0) pe_int (fun _ _ => rfl)) pe_int)) pe_int) pe_int) (pg_sub (pv 0) pe_int set_list))
      (pss_one (ps_ret (pe_op op_mod (pe_op op_fdiv (pe_ix ix_list (pv 0) pe_int (fun _ _ => rfl)) pe_int) (pv 1))))))), ?_⟩
    refine ⟨fun σ H' => (∃ c, σ = [some (.ref d), some (.int m), c, none, none]) ∧ DrawAt H' d l ∧ Sb d H H', ?_, ?_⟩
    · obtain ⟨ns, i, j, c, h1, h2, h3, h4, h5⟩ := hD
      have ne := draw_ne h1 h2
      have x1 : atI [V.ref l, V.int i, V.int j, V.int c] 0 = some (.ref l) := rfl
      have x2 : atI [V.ref l, V.int i, V.int j, V.int c] 1 = some (.int i) := rfl
      have x3 : atI [V.ref l, V.int i, V.int j, V.int c] 2 = some (.int j) := rfl
      have x4 : atI [V.ref l, V.int i, V.int j, V.int c] 3 = some (.int c) := rfl
      refine ⟨_, rfl, d, _, _, _, rfl, rfl, SqL.of h1, x3, _, rfl, _, _, rfl, rfl, _, rfl, ite2 (fun e1 => ?_) (fun e1 => ?_)⟩
      · refine ⟨_, rfl, d, _, _, _, rfl, rfl, SqL.of h1, x2, _, rfl, d, _, _, _, rfl, rfl, SqL.of h1, x1, l, _, rfl, .inl (SqL.of h2), _, _, rfl, rfl, _, rfl, ite2 (fun e2 => ?_) (fun e2 => ?_)⟩
        · have hi : i < ((ns.map V.int).length : Int) := of_decide_eq_true e2
          rw [List.length_map] at hi
          obtain ⟨u, rfl⟩ : ∃ u : Nat, i = u := ⟨i.toNat, by omega⟩
          have hu : u < ns.length := by omega
          have gu : (ns.map V.int)[u]? = some (.int ns[u]) := by rw [List.getElem?_map, List.getElem?_eq_getElem hu]; rfl
          refine ⟨_, rfl, d, _, _, _, rfl, rfl, SqL.of h1, x1, _, rfl, d, _, _, _, rfl, rfl, SqL.of h1, x2, l, _, _, _, rfl, rfl, SqL.of h2, atI_nat gu, ?_⟩
          refine ⟨_, rfl, d, _, _, _, rfl, rfl, SqL.of h1, x2, _, _, rfl, rfl, _, rfl, d, _, _, 1, rfl, rfl, h1, rfl, ?_⟩
          refine ⟨_, rfl, d, _, _, 2, rfl, rfl, upd_same, rfl, ?_⟩
          refine ⟨fun σ H' => σ = [some (.ref d), some (.int m), some (.int ns[u]), none, none] ∧ (∃ jj : Int, H' d = some (.lst [.ref l, .int ((u : Int) + 1), .int jj, .int c])) ∧ H' l = some (.lst (ns.map V.int)) ∧ Sb d H H', ?_, ?_⟩
          · refine ⟨_, rfl, _, _, rfl, rfl, ⟨by decide, by decide, by decide⟩, _, _, rfl, rfl, _, rfl, ite2 (fun e3 => ?_) (fun e3 => ?_)⟩
            · refine ⟨_, rfl, _, rfl, d, _, _, 2, rfl, rfl, upd_same, rfl, rfl, ⟨ns[u], upd_same⟩, ?_, ?_⟩
              · rw [upd_ne ne, upd_ne ne, upd_ne ne]; exact h2
              · exact (Sb.put.trans Sb.put).trans Sb.put
            · refine ⟨rfl, ⟨0, upd_same⟩, ?_, ?_⟩
              · rw [upd_ne ne, upd_ne ne]; exact h2
              · exact Sb.put.trans Sb.put
          · rintro σ H2 ⟨rfl, ⟨jj, g1⟩, g2, g3⟩
            have y2 : atI [V.ref l, V.int ((u : Int) + 1), V.int jj, V.int c] 1 = some (.int ((u : Int) + 1)) := rfl
            have y4 : atI [V.ref l, V.int ((u : Int) + 1), V.int jj, V.int c] 3 = some (.int c) := rfl
            refine ⟨_, rfl, d, _, _, _, rfl, rfl, SqL.of g1, y4, _, _, rfl, rfl, .inl ⟨by omega, by omega⟩, _, rfl, _, _, rfl, rfl, c61, _, _, rfl, rfl, .inr ⟨by decide, by decide⟩, _, _, rfl, rfl, _, rfl, d, _, _, _, rfl, rfl, SqL.of g1, y2, _, _, rfl, rfl, _, _, rfl, rfl, c61, _, rfl, d, _, _, 3, rfl, rfl, g1, rfl, ⟨_, rfl⟩, ?_, g3.trans Sb.put⟩
            exact ⟨ns, _, jj, _, upd_same, by rw [upd_ne ne]; exact g2, by omega, Int.emod_nonneg _ (by omega), Int.emod_lt_of_pos _ c61⟩
        · exact ⟨⟨_, rfl⟩, ⟨ns, i, j, c, h1, h2, h3, h4, h5⟩, Sb.refl⟩
      · exact ⟨⟨_, rfl⟩, ⟨ns, i, j, c, h1, h2, h3, h4, h5⟩, Sb.refl⟩
    · rintro σ H1 ⟨⟨c0, rfl⟩, ⟨ns, i, j, c, h1, h2, h3, h4, h5⟩, sb⟩
      have ne := draw_ne h1 h2
      have x3 : atI [V.ref l, V.int i, V.int j, V.int c] 2 = some (.int j) := rfl
      have x4 : atI [V.ref l, V.int i, V.int j, V.int c] 3 = some (.int c) := rfl
      refine ⟨_, rfl, d, _, _, _, rfl, rfl, SqL.of h1, x3, _, rfl, _, _, rfl, rfl, _, rfl, ite2 (fun e1 => ?_) (fun e1 => ?_)⟩
      · have hj : m ≤ j := of_decide_eq_true e1
        refine ⟨_, rfl, d, _, _, _, rfl, rfl, SqL.of h1, x3, _, rfl, _, _, rfl, rfl, (by show (0:Int) < m; omega), ?_⟩
        refine ⟨_, rfl, d, _, _, _, rfl, rfl, SqL.of h1, x3, _, rfl, _, _, rfl, rfl, wide_div (b := 1000) (by omega) hm2 (by decide) (by decide), _, rfl, d, _, _, 2, rfl, rfl, h1, rfl, ?_⟩
        have hb : 0 ≤ j % m := Int.emod_nonneg _ (by omega)
        have hb2 : j % m < m := Int.emod_lt_of_pos _ (by omega)
        obtain ⟨r, er⟩ : ∃ r : Nat, j % m = r := ⟨(j % m).toNat, by omega⟩
        refine ⟨_, rfl, ?_⟩
        show Q (.int (j % m)) _
        rw [er]
        refine q r _ (by omega) ⟨ns, i, j / m, c, upd_same, by rw [upd_ne ne]; exact h2, h3, h4, h5⟩ (sb.trans Sb.put)
      · refine ⟨_, rfl, d, _, _, _, rfl, rfl, SqL.of h1, x4, _, rfl, d, _, _, _, rfl, rfl, SqL.of h1, x4, _, _, rfl, rfl, .inl ⟨by omega, by omega⟩, _, _, rfl, rfl, c61, ?_⟩
        have s0 : 0 ≤ c * c % 2305843009213693951 := Int.emod_nonneg _ (by omega)
        have s1 : c * c % 2305843009213693951 < 2305843009213693951 := Int.emod_lt_of_pos _ c61
        generalize hsq : c * c % 2305843009213693951 = sq at s0 s1
        refine ⟨.int (c * c % 2305843009213693951), rfl, _, _, rfl, rfl, .inl ⟨by rw [hsq]; omega, by rw [hsq]; omega⟩, _, rfl, d, _, _, _, rfl, rfl, SqL.of h1, x4, _, _, rfl, rfl, .inl ⟨by omega, by omega⟩, _, _, rfl, rfl, _, _, rfl, rfl, _, _, rfl, rfl, c61, _, rfl, d, _, _, 3, rfl, rfl, h1, rfl, ?_⟩
        have t0 : 0 ≤ (c * c % 2305843009213693951 * 48271 + c * 16807 + 12345) % 2305843009213693951 := Int.emod_nonneg _ (by omega)
        have t1 : (c * c % 2305843009213693951 * 48271 + c * 16807 + 12345) % 2305843009213693951 < 2305843009213693951 := Int.emod_lt_of_pos _ c61
        refine ⟨_, rfl, d, _, _, _, rfl, rfl, SqL.of upd_same, rfl, _, _, rfl, rfl, ⟨by decide, by decide⟩, _, rfl, _, _, rfl, rfl, (by show (0:Int) < m; omega), ?_⟩
        generalize hz : (c * c % 2305843009213693951 * 48271 + c * 16807 + 12345) % 2305843009213693951 = z at t0 t1
        have b0 : 0 ≤ (z / 1021) % m := Int.emod_nonneg _ (by omega)
        have b1 : (z / 1021) % m < m := Int.emod_lt_of_pos _ (by omega)
        obtain ⟨r, er⟩ : ∃ r : Nat, (z / 1021) % m = r := ⟨((z / 1021) % m).toNat, by omega⟩
        show Q (.int (z / 1021 % m)) _
        rw [er]
        refine q r _ (by omega) ⟨ns, i, j, z, ?_, by rw [upd_ne ne]; exact h2, h3, t0, t1⟩ (sb.trans Sb.put)
        rw [upd_same, ← hz]
        rfl
end
section
variable {P : Program} {w : World} {K : PySem.W.Frag} {mg : Str → Option Value} {base : Heap}
theorem ok_start {f : Addr} {fd : FuncData} {k : Nat} (F : Fun K "_law_start" "_law_start" sStart f fd) (T : Tx mg) : FnOk P w K mg base CX0 (k + 1) f fd ["_law_script"] (spStart K) := by
  refine F.ok scStart (fun vs H Q E h => ?_) (fun cdv A outer s H vs Q E hr h => ?_)
  · obtain ⟨a, ns, rfl, _⟩ := h
    rfl
  · obtain ⟨a, ns, rfl, hS, hlen, q⟩ := h
    refine ⟨_, pss_one (ps_ret (pe_lst (pa_cons (pe_callTy call_list_of (by rfl) T.list (by decide +kernel) (pa_cons (pe_slice sl_list (pv 0) po_none (po_some pe_int)) pa_nil))
      (pa_cons pe_int (pa_cons pe_int (pa_cons (pe_op op_add pe_int (pe_op op_mul pe_int (pe_callB call_len_seq (by rfl) T.len PySem.boot_len (pa_cons (pe_slice sl_list (pv 0) po_none (po_some pe_int)) pa_nil)))) pa_nil)))))), ?_⟩
    have cut : ∃ ms : List Int, cutV (ns.map V.int) none (some 63) = ms.map V.int ∧ ms.length ≤ ns.length := by
      refine ⟨(ns.drop (HT.sIx (ns.map V.int).length 0 none)).take (HT.sIx (ns.map V.int).length (ns.map V.int).length (some 63) - HT.sIx (ns.map V.int).length 0 none), ?_, ?_⟩
      · unfold cutV
        rw [List.map_take, List.map_drop]
      · rw [List.length_take, List.length_drop]
        omega
    obtain ⟨ms, em, hml⟩ := cut
    refine ⟨_, rfl, 63, rfl, a, _, rfl, hS, fun c nc => ?_⟩
    rw [em]
    have s1 : Same H (upd H c (.lst (ms.map V.int))) := same_new nc
    refine ⟨c, _, rfl, .inl (SqL.of upd_same), fun l nl => ?_⟩
    have s2 : Same (upd H c (.lst (ms.map V.int))) (upd (upd H c (.lst (ms.map V.int))) l (.lst (ms.map V.int))) := same_new nl
    refine ⟨_, rfl, 63, rfl, a, _, rfl, s2.seq (s1.seq hS), fun c2 nc2 => ?_⟩
    rw [em]
    have s3 := same_new (o := .lst (ms.map V.int)) nc2
    refine ⟨c2, _, rfl, .inl (SqL.of upd_same), _, _, rfl, rfl, .inl ⟨by decide, by decide⟩, _, _, rfl, rfl, ?_⟩
    refine ⟨by show 4 ≤ sizeLine; decide, fun d nd => ?_⟩
    have s4 := same_new (o := .lst [V.ref l, V.int 0, V.int 0, V.int (9494 + 37 * ((ms.map V.int).length : Int))]) nd
    refine q d l _ (((s1.trans s2).trans s3).free nd) ⟨ms, 0, 0, 9494 + 37 * ((ms.map V.int).length : Int), upd_same, ?_, by omega, by omega, by rw [List.length_map]; omega⟩ (((s1.trans s2).trans s3).trans s4)
    exact s4 _ _ (s3 _ _ upd_same)
end
section
variable {P : Program} {w : World} {K : PySem.W.Frag} {mg : Str → Option Value} {base : Heap}
theorem ok_of {f fT : Addr} {fd fdT : FuncData} (F : Fun K "_law_of" "_law_of" sOf f fd) (GT : FnOk P w K mg base CX0 1 fT fdT ["_law_draw", "_law_many"] spTake) (FT : Fun K "_law_take" "_law_take" sTake fT fdT) (bT : Binds K fdT ["_law_draw", "_law_many"] []) (gT : mg "_law_take" = some (.ref fT)) (T : Tx mg) :
    FnOk P w K mg base CX0 2 f fd ["_law_draw", "_law_some"] (spOf K) := by
  refine F.ok scOf (fun vs H Q E h => ?_) (fun cdv A outer s H vs Q E hr h => ?_)
  · obtain ⟨d, l, a, xs, rfl, _⟩ := h
    rfl
  · obtain ⟨d, l, a, xs, rfl, hD, ne, hS, h1, h2, q⟩ := h
    refine ⟨_, pss_one (ps_ret (pe_ix ix_list (pv 1) (pe_call GT hr (by rfl) gT FT.kp bT .nil pass0 (pa_cons (pv 0) (pa_cons (pe_callB call_len_seq (by rfl) T.len PySem.boot_len (pa_cons (pv 1) pa_nil)) pa_nil))) (fun _ _ => rfl))), ?_⟩
    refine ⟨_, rfl, _, rfl, _, rfl, a, xs, rfl, .inl hS, d, l, xs.length, rfl, hD, by omega, Nat.lt_of_le_of_lt (show _ ≤ 1000 by omega) (by decide +kernel), fun r H' hr' hD' sb => ?_⟩
    have hr2 : r < xs.length := by omega
    exact ⟨a, xs, _, xs[r], rfl, rfl, sb.sql ne hS, atI_nat (List.getElem?_eq_getElem hr2), q r _ H' (List.getElem?_eq_getElem hr2) hD' sb⟩
end
section
variable {P : Program} {w : World} {K : PySem.W.Frag} {mg : Str → Option Value} {base : Heap}
theorem ok_same {f : Addr} {fd : FuncData} (F : Fun K "_law_same" "_law_same" sSame f fd) (T : TxS mg) (b : Binds K fd ["_law_found", "_law_due"] []) (g : mg "_law_same" = some (.ref f)) :
    ∀ n, FnOk P w K mg base CX0 (n + 1) f fd ["_law_found", "_law_due"] (spSame K n) := by
  intro n
  induction n with
  | zero =>
    refine F.ok scSame (fun vs H Q E h => ?_) (fun cdv A outer s H vs Q E hr h => ?_)
    · obtain ⟨v, u, d, rfl, _⟩ := h
      rfl
    · obtain ⟨v, u, d, rfl, hv, hu, hd, q⟩ := h
      refine ⟨_, pss_cons (ps_if (pt_cmpR op_isN (pv 1) pe_non (nomark _)) (pss_one (ps_ret (pe_cmpR op_isN (pv 0) pe_non (nomark _)))) pss_nil)
        (pss_cons (ps_if (pt_val (pe_callB call_isiT (by rfl) T.isinstance (by decide +kernel) (pa_cons (pv 1) (pa_cons (pe_tup (pa_cons (pe_ty (n := "list") (by rfl) T.list (by decide +kernel)) (pa_cons (pe_ty (n := "tuple") (by rfl) T.tuple (by decide +kernel)) pa_nil))) pa_nil))))
          pss_never pss_nil)
        (pss_cons (ps_if (PW.pt (pw_or
              (pt_cmpR op_ne (pe_callB call_isi (by rfl) T.isinstance (by decide +kernel) (pa_cons (pv 1) (pa_cons (pe_ty (n := "bool") (by rfl) T.bool (by decide +kernel)) pa_nil))) (pe_callB call_isi (by rfl) T.isinstance (by decide +kernel) (pa_cons (pv 0) (pa_cons (pe_ty (n := "bool") (by rfl) T.bool (by decide +kernel)) pa_nil))) (nomark _))
              (pw_or1 (pt_cmpR op_ne (pe_callB call_isi (by rfl) T.isinstance (by decide +kernel) (pa_cons (pv 1) (pa_cons (pe_ty (n := "int") (by rfl) T.int (by decide +kernel)) pa_nil))) (pe_callB call_isi (by rfl) T.isinstance (by decide +kernel) (pa_cons (pv 0) (pa_cons (pe_ty (n := "int") (by rfl) T.int (by decide +kernel)) pa_nil))) (nomark _))))) (pss_one (ps_ret pe_bl)) pss_nil)
        (pss_one (ps_ret (pe_and (pe_cmpR op_eq (pe_callB call_isi (by rfl) T.isinstance (by decide +kernel) (pa_cons (pv 1) (pa_cons (pe_ty (n := "str") (by rfl) T.str (by decide +kernel)) pa_nil))) (pe_callB call_isi (by rfl) T.isinstance (by decide +kernel) (pa_cons (pv 0) (pa_cons (pe_ty (n := "str") (by rfl) T.str (by decide +kernel)) pa_nil))) (nomark _))
          (pe_one (pe_cmpR op_eq (pv 0) (pv 1) (nomark _)))))))), ?_⟩
      cases hd with
      | non =>
        cases hv; cases hu
        exact ⟨_, rfl, rfl, _, rfl, _, rfl, rfl, q H (Same.refl H)⟩
      | bl _ x =>
        cases hv; cases hu
        refine ⟨_, rfl, rfl, _, rfl, _, rfl, by show 2 ≤ sizeLine; decide, fun tp ntp => ?_⟩
        refine ⟨_, tp, _, _, _, _, rfl, upd_same, .cons (.ty _) (.cons (.ty _) .nil), .base (.bl x), kit2 (r := false) (s := false) (by decide +kernel) (by decide +kernel), _, rfl, ?_⟩
        refine ⟨_, rfl, _, _, _, _, _, rfl, .ty _, .base (.bl x), kit_ty (r := true) (by decide +kernel), _, rfl, _, _, _, _, _, rfl, .ty _, .base (.bl x), kit_ty (r := true) (by decide +kernel), rfl, _, rfl, ?_⟩
        refine ⟨_, rfl, _, _, _, _, _, rfl, .ty _, .base (.bl x), kit_ty (r := true) (by decide +kernel), _, rfl, _, _, _, _, _, rfl, .ty _, .base (.bl x), kit_ty (r := true) (by decide +kernel), rfl, _, rfl, ?_⟩
        refine ⟨_, rfl, _, _, _, _, _, rfl, .ty _, .base (.bl x), kit_ty (r := false) (by decide +kernel), _, rfl, _, _, _, _, _, rfl, .ty _, .base (.bl x), kit_ty (r := false) (by decide +kernel), rfl, _, rfl, ?_⟩
        refine ⟨_, rfl, _, rfl, rfl, ?_⟩
        show Q (.bl (decide (V.bl x = V.bl x))) _
        rw [decide_eq_true rfl]
        exact q _ (same_new ntp)
      | int _ x =>
        cases hv; cases hu
        refine ⟨_, rfl, rfl, _, rfl, _, rfl, by show 2 ≤ sizeLine; decide, fun tp ntp => ?_⟩
        refine ⟨_, tp, _, _, _, _, rfl, upd_same, .cons (.ty _) (.cons (.ty _) .nil), .base (.int x), kit2 (r := false) (s := false) (by decide +kernel) (by decide +kernel), _, rfl, ?_⟩
        refine ⟨_, rfl, _, _, _, _, _, rfl, .ty _, .base (.int x), kit_ty (r := false) (by decide +kernel), _, rfl, _, _, _, _, _, rfl, .ty _, .base (.int x), kit_ty (r := false) (by decide +kernel), rfl, _, rfl, ?_⟩
        refine ⟨_, rfl, _, _, _, _, _, rfl, .ty _, .base (.int x), kit_ty (r := true) (by decide +kernel), _, rfl, _, _, _, _, _, rfl, .ty _, .base (.int x), kit_ty (r := true) (by decide +kernel), rfl, _, rfl, ?_⟩
        refine ⟨_, rfl, _, _, _, _, _, rfl, .ty _, .base (.int x), kit_ty (r := false) (by decide +kernel), _, rfl, _, _, _, _, _, rfl, .ty _, .base (.int x), kit_ty (r := false) (by decide +kernel), rfl, _, rfl, ?_⟩
        refine ⟨_, rfl, _, rfl, rfl, ?_⟩
        show Q (.bl (decide (V.int x = V.int x))) _
        rw [decide_eq_true rfl]
        exact q _ (same_new ntp)
      | str _ x =>
        cases hv; cases hu
        refine ⟨_, rfl, rfl, _, rfl, _, rfl, by show 2 ≤ sizeLine; decide, fun tp ntp => ?_⟩
        refine ⟨_, tp, _, _, _, _, rfl, upd_same, .cons (.ty _) (.cons (.ty _) .nil), .base (.str x), kit2 (r := false) (s := false) (by decide +kernel) (by decide +kernel), _, rfl, ?_⟩
        refine ⟨_, rfl, _, _, _, _, _, rfl, .ty _, .base (.str x), kit_ty (r := false) (by decide +kernel), _, rfl, _, _, _, _, _, rfl, .ty _, .base (.str x), kit_ty (r := false) (by decide +kernel), rfl, _, rfl, ?_⟩
        refine ⟨_, rfl, _, _, _, _, _, rfl, .ty _, .base (.str x), kit_ty (r := false) (by decide +kernel), _, rfl, _, _, _, _, _, rfl, .ty _, .base (.str x), kit_ty (r := false) (by decide +kernel), rfl, _, rfl, ?_⟩
        refine ⟨_, rfl, _, _, _, _, _, rfl, .ty _, .base (.str x), kit_ty (r := true) (by decide +kernel), _, rfl, _, _, _, _, _, rfl, .ty _, .base (.str x), kit_ty (r := true) (by decide +kernel), rfl, _, rfl, ?_⟩
        refine ⟨_, rfl, _, rfl, rfl, ?_⟩
        show Q (.bl (decide (V.str x = V.str x))) _
        rw [decide_eq_true rfl]
        exact q _ (same_new ntp)
  | succ n ih =>
    refine F.ok scSame (fun vs H Q E h => ?_) (fun cdv A outer s H vs Q E hr h => ?_)
    · obtain ⟨v, u, d, rfl, _⟩ := h
      rfl
    · obtain ⟨v, u, d, rfl, hv, hu, hd, q⟩ := h
      refine ⟨_, pss_cons (ps_if (pt_cmpR op_isN (pv 1) pe_non (nomark _)) (pss_one (ps_ret (pe_cmpR op_isN (pv 0) pe_non (nomark _)))) pss_nil)
        (pss_cons (ps_if (pt_val (pe_callB call_isiT (by rfl) T.isinstance (by decide +kernel) (pa_cons (pv 1) (pa_cons (pe_tup (pa_cons (pe_ty (n := "list") (by rfl) T.list (by decide +kernel)) (pa_cons (pe_ty (n := "tuple") (by rfl) T.tuple (by decide +kernel)) pa_nil))) pa_nil))))
          (pss_cons (ps_if (PW.pt (pw_or
              (pt_cmpR op_ne (pe_callB call_isi (by rfl) T.isinstance (by decide +kernel) (pa_cons (pv 0) (pa_cons (pe_ty (n := "list") (by rfl) T.list (by decide +kernel)) pa_nil))) (pe_callB call_isi (by rfl) T.isinstance (by decide +kernel) (pa_cons (pv 1) (pa_cons (pe_ty (n := "list") (by rfl) T.list (by decide +kernel)) pa_nil))) (nomark _))
              (pw_or1 (pt_cmpR op_ne (pe_callB call_isi (by rfl) T.isinstance (by decide +kernel) (pa_cons (pv 0) (pa_cons (pe_ty (n := "tuple") (by rfl) T.tuple (by decide +kernel)) pa_nil))) (pe_callB call_isi (by rfl) T.isinstance (by decide +kernel) (pa_cons (pv 1) (pa_cons (pe_ty (n := "tuple") (by rfl) T.tuple (by decide +kernel)) pa_nil))) (nomark _))))) (pss_one (ps_ret pe_bl)) pss_nil)
          (pss_one (ps_ret (pe_and (pe_cmpR op_eq (pe_callB call_len_seq (by rfl) T.len PySem.boot_len (pa_cons (pv 0) pa_nil)) (pe_callB call_len_seq (by rfl) T.len PySem.boot_len (pa_cons (pv 1) pa_nil)) (nomark _))
            (pe_one (pe_callB (cr_all rfl) (by rfl) T.all (by decide +kernel) (pa_cons (pe_lc (own := [("_law_one", 2), ("_law_other", 3)]) (g := gTup K 2 (gCons (gName 2) (gCons (gName 3) gNil))) (by rfl) scSame.nd (RZ.pi_zipA (by rfl) T.zip (pa_cons (pv 0) (pa_cons (pv 1) pa_nil)))
              (blkOk_by (own := [("_law_one", 2), ("_law_other", 3)]) (N := sameN) (sc := defScope sSame) (by decide +kernel)) (fun _ _ _ _ _ => pg_tup rfl (pgs_cons (pg_name (i := 2) scSame.nd rfl (.inl rfl)) (pgs_cons (pg_name (i := 3) scSame.nd rfl (.inl rfl)) pgs_nil))) (fun _ _ _ _ _ => pts_nil)
              (fun _ _ _ _ _ => pe_call ih hr (by rfl) g F.kp b .nil pass0 (pa_cons (pv 2) (pa_cons (pv 3) pa_nil)))) pa_nil))))))) pss_nil)
        (pss_cons (ps_if (PW.pt (pw_or
              (pt_cmpR op_ne (pe_callB call_isi (by rfl) T.isinstance (by decide +kernel) (pa_cons (pv 1) (pa_cons (pe_ty (n := "bool") (by rfl) T.bool (by decide +kernel)) pa_nil))) (pe_callB call_isi (by rfl) T.isinstance (by decide +kernel) (pa_cons (pv 0) (pa_cons (pe_ty (n := "bool") (by rfl) T.bool (by decide +kernel)) pa_nil))) (nomark _))
              (pw_or1 (pt_cmpR op_ne (pe_callB call_isi (by rfl) T.isinstance (by decide +kernel) (pa_cons (pv 1) (pa_cons (pe_ty (n := "int") (by rfl) T.int (by decide +kernel)) pa_nil))) (pe_callB call_isi (by rfl) T.isinstance (by decide +kernel) (pa_cons (pv 0) (pa_cons (pe_ty (n := "int") (by rfl) T.int (by decide +kernel)) pa_nil))) (nomark _))))) (pss_one (ps_ret pe_bl)) pss_nil)
        (pss_one (ps_ret (pe_and (pe_cmpR op_eq (pe_callB call_isi (by rfl) T.isinstance (by decide +kernel) (pa_cons (pv 1) (pa_cons (pe_ty (n := "str") (by rfl) T.str (by decide +kernel)) pa_nil))) (pe_callB call_isi (by rfl) T.isinstance (by decide +kernel) (pa_cons (pv 0) (pa_cons (pe_ty (n := "str") (by rfl) T.str (by decide +kernel)) pa_nil))) (nomark _))
          (pe_one (pe_cmpR op_eq (pv 0) (pv 1) (nomark _)))))))), ?_⟩
      cases hd with
      | non =>
        cases hv; cases hu
        exact ⟨_, rfl, rfl, _, rfl, _, rfl, rfl, q H (Same.refl H)⟩
      | bl _ x =>
        cases hv; cases hu
        refine ⟨_, rfl, rfl, _, rfl, _, rfl, by show 2 ≤ sizeLine; decide, fun tp ntp => ?_⟩
        refine ⟨_, tp, _, _, _, _, rfl, upd_same, .cons (.ty _) (.cons (.ty _) .nil), .base (.bl x), kit2 (r := false) (s := false) (by decide +kernel) (by decide +kernel), _, rfl, ?_⟩
        refine ⟨_, rfl, _, _, _, _, _, rfl, .ty _, .base (.bl x), kit_ty (r := true) (by decide +kernel), _, rfl, _, _, _, _, _, rfl, .ty _, .base (.bl x), kit_ty (r := true) (by decide +kernel), rfl, _, rfl, ?_⟩
        refine ⟨_, rfl, _, _, _, _, _, rfl, .ty _, .base (.bl x), kit_ty (r := true) (by decide +kernel), _, rfl, _, _, _, _, _, rfl, .ty _, .base (.bl x), kit_ty (r := true) (by decide +kernel), rfl, _, rfl, ?_⟩
        refine ⟨_, rfl, _, _, _, _, _, rfl, .ty _, .base (.bl x), kit_ty (r := false) (by decide +kernel), _, rfl, _, _, _, _, _, rfl, .ty _, .base (.bl x), kit_ty (r := false) (by decide +kernel), rfl, _, rfl, ?_⟩
        refine ⟨_, rfl, _, rfl, rfl, ?_⟩
        show Q (.bl (decide (V.bl x = V.bl x))) _
        rw [decide_eq_true rfl]
        exact q _ (same_new ntp)
      | int _ x =>
        cases hv; cases hu
        refine ⟨_, rfl, rfl, _, rfl, _, rfl, by show 2 ≤ sizeLine; decide, fun tp ntp => ?_⟩
        refine ⟨_, tp, _, _, _, _, rfl, upd_same, .cons (.ty _) (.cons (.ty _) .nil), .base (.int x), kit2 (r := false) (s := false) (by decide +kernel) (by decide +kernel), _, rfl, ?_⟩
        refine ⟨_, rfl, _, _, _, _, _, rfl, .ty _, .base (.int x), kit_ty (r := false) (by decide +kernel), _, rfl, _, _, _, _, _, rfl, .ty _, .base (.int x), kit_ty (r := false) (by decide +kernel), rfl, _, rfl, ?_⟩
        refine ⟨_, rfl, _, _, _, _, _, rfl, .ty _, .base (.int x), kit_ty (r := true) (by decide +kernel), _, rfl, _, _, _, _, _, rfl, .ty _, .base (.int x), kit_ty (r := true) (by decide +kernel), rfl, _, rfl, ?_⟩
        refine ⟨_, rfl, _, _, _, _, _, rfl, .ty _, .base (.int x), kit_ty (r := false) (by decide +kernel), _, rfl, _, _, _, _, _, rfl, .ty _, .base (.int x), kit_ty (r := false) (by decide +kernel), rfl, _, rfl, ?_⟩
        refine ⟨_, rfl, _, rfl, rfl, ?_⟩
        show Q (.bl (decide (V.int x = V.int x))) _
        rw [decide_eq_true rfl]
        exact q _ (same_new ntp)
      | str _ x =>
        cases hv; cases hu
        refine ⟨_, rfl, rfl, _, rfl, _, rfl, by show 2 ≤ sizeLine; decide, fun tp ntp => ?_⟩
        refine ⟨_, tp, _, _, _, _, rfl, upd_same, .cons (.ty _) (.cons (.ty _) .nil), .base (.str x), kit2 (r := false) (s := false) (by decide +kernel) (by decide +kernel), _, rfl, ?_⟩
        refine ⟨_, rfl, _, _, _, _, _, rfl, .ty _, .base (.str x), kit_ty (r := false) (by decide +kernel), _, rfl, _, _, _, _, _, rfl, .ty _, .base (.str x), kit_ty (r := false) (by decide +kernel), rfl, _, rfl, ?_⟩
        refine ⟨_, rfl, _, _, _, _, _, rfl, .ty _, .base (.str x), kit_ty (r := false) (by decide +kernel), _, rfl, _, _, _, _, _, rfl, .ty _, .base (.str x), kit_ty (r := false) (by decide +kernel), rfl, _, rfl, ?_⟩
        refine ⟨_, rfl, _, _, _, _, _, rfl, .ty _, .base (.str x), kit_ty (r := true) (by decide +kernel), _, rfl, _, _, _, _, _, rfl, .ty _, .base (.str x), kit_ty (r := true) (by decide +kernel), rfl, _, rfl, ?_⟩
        refine ⟨_, rfl, _, rfl, rfl, ?_⟩
        show Q (.bl (decide (V.str x = V.str x))) _
        rw [decide_eq_true rfl]
        exact q _ (same_new ntp)
      | lst hl hk =>
        cases hv with
        | @lst a xs _ sa ra =>
        cases hu with
        | @lst b ys _ sb rb =>
        refine ⟨_, rfl, rfl, _, rfl, _, rfl, by show 2 ≤ sizeLine; decide, fun tp ntp => ?_⟩
        have s1 := same_new (o := .tup [V.ty "list", V.ty "tuple"]) ntp
        have sa1 := Same.seq (s1) sa
        have sb1 := Same.seq (s1) sb
        refine ⟨_, tp, _, _, _, _, rfl, upd_same, .cons (.ty _) (.cons (.ty _) .nil), tyL sb1, kit2 (r := true) (s := false) (by decide +kernel) (by decide +kernel), _, rfl, ?_⟩
        refine ⟨_, rfl, _, _, _, _, _, rfl, .ty _, tyL sa1, kit_ty (r := true) (by decide +kernel), _, rfl, _, _, _, _, _, rfl, .ty _, tyL sb1, kit_ty (r := true) (by decide +kernel), rfl, _, rfl, ?_⟩
        refine ⟨_, rfl, _, _, _, _, _, rfl, .ty _, tyL sa1, kit_ty (r := false) (by decide +kernel), _, rfl, _, _, _, _, _, rfl, .ty _, tyL sb1, kit_ty (r := false) (by decide +kernel), rfl, _, rfl, ?_⟩
        have la := dpl_len ra
        have lb := dpl_len rb
        refine ⟨_, rfl, a, _, rfl, .inl sa1, _, rfl, b, _, rfl, .inl sb1, rfl, _, rfl, ?_⟩
        have el : decide (V.int (xs.length : Int) = V.int (ys.length : Int)) = true := decide_eq_true (by rw [la, lb])
        rw [el]
        refine ⟨_, rfl, _, rfl, a, b, xs, ys, rfl, .inl ⟨sa1, sb1, fun D nD => ?_⟩⟩
        have s2 := same_new (o := .lst []) nD
        refine ⟨fun i m H' => m = xs.length - i ∧ i ≤ xs.length ∧ H' D = some (.lst ((List.replicate i true).map V.bl)) ∧ Same (upd H tp (.tup [V.ty "list", V.ty "tuple"])) H', ⟨xs.length, rfl, Nat.zero_le _, upd_same, s2⟩, ?_⟩
        rintro i m H' ⟨rfl, hi, hD, sm⟩
        have sa2 := Same.seq (sm) sa1
        have sb2 := Same.seq (sm) sb1
        by_cases hlt : i < xs.length
        · have hlt2 : i < ys.length := by omega
          refine .inr ⟨⟨xs, ys, xs[i], ys[i], sa2, sb2, List.getElem?_eq_getElem hlt, List.getElem?_eq_getElem hlt2⟩, fun H2 => H2 D = some (.lst ((List.replicate (i + 1) true).map V.bl)) ∧ Same (upd H tp (.tup [V.ty "list", V.ty "tuple"])) H2, fun H2 z => ⟨xs.length - (i + 1), by omega, rfl, hlt, z.1, z.2⟩, ?_⟩
          rintro vv H2 ⟨tt, x, y, rfl, ntt, rfl, hx, hy⟩
          have ex := hx _ sa2
          have ey := hy _ sb2
          have s3 := same_new (o := .tup [x, y]) ntt
          refine ⟨tt, _, rfl, SqT.of upd_same, rfl, _, _, rfl, _, _, rfl, rfl, rfl, ?_⟩
          obtain ⟨d1, e1, p1⟩ := dpl_at ra ex
          obtain ⟨d2, e2, p2⟩ := dpl_at rb ey
          obtain rfl : d1 = d2 := Option.some.inj (e1.symm.trans e2)
          have s13 := (s1.trans sm).trans s3
          refine ⟨_, rfl, _, rfl, x, y, d1, rfl, dp_same s13 p1, dp_same s13 p2, hk d1 (List.mem_of_getElem? e1), fun H4 s4 => ?_⟩
          have nDt : D ≠ tt := ne_of_none hD ntt
          refine ⟨_, s4 _ _ (s3 _ _ hD), by rw [List.length_map, List.length_replicate]; exact Nat.lt_of_lt_of_le (show i < 1001 by omega) (by decide), ?_, same_over ((sm.trans s3).trans s4) nD⟩
          rw [upd_same, List.replicate_succ', List.map_append]
          rfl
        · have ei : i = xs.length := by omega
          refine .inl ⟨⟨xs, ys, sa2, sb2, .inl (by omega)⟩, D, List.replicate i true, rfl, SqL.of hD, ?_⟩
          have ea : (List.replicate i true).all id = true := List.all_eq_true.mpr fun z hz => (List.mem_replicate.mp hz).2
          rw [ea]
          exact q H' (s1.trans sm)
      | tup hl hk =>
        cases hv with
        | @tup a xs _ sa ra =>
        cases hu with
        | @tup b ys _ sb rb =>
        refine ⟨_, rfl, rfl, _, rfl, _, rfl, by show 2 ≤ sizeLine; decide, fun tp ntp => ?_⟩
        have s1 := same_new (o := .tup [V.ty "list", V.ty "tuple"]) ntp
        have sa1 := same_sqt (s1) sa
        have sb1 := same_sqt (s1) sb
        refine ⟨_, tp, _, _, _, _, rfl, upd_same, .cons (.ty _) (.cons (.ty _) .nil), tyT sb1, kit2 (r := false) (s := true) (by decide +kernel) (by decide +kernel), _, rfl, ?_⟩
        refine ⟨_, rfl, _, _, _, _, _, rfl, .ty _, tyT sa1, kit_ty (r := false) (by decide +kernel), _, rfl, _, _, _, _, _, rfl, .ty _, tyT sb1, kit_ty (r := false) (by decide +kernel), rfl, _, rfl, ?_⟩
        refine ⟨_, rfl, _, _, _, _, _, rfl, .ty _, tyT sa1, kit_ty (r := true) (by decide +kernel), _, rfl, _, _, _, _, _, rfl, .ty _, tyT sb1, kit_ty (r := true) (by decide +kernel), rfl, _, rfl, ?_⟩
        have la := dpl_len ra
        have lb := dpl_len rb
        refine ⟨_, rfl, a, _, rfl, .inr sa1, _, rfl, b, _, rfl, .inr sb1, rfl, _, rfl, ?_⟩
        have el : decide (V.int (xs.length : Int) = V.int (ys.length : Int)) = true := decide_eq_true (by rw [la, lb])
        rw [el]
        refine ⟨_, rfl, _, rfl, a, b, xs, ys, rfl, .inr ⟨sa1, sb1, fun D nD => ?_⟩⟩
        have s2 := same_new (o := .lst []) nD
        refine ⟨fun i m H' => m = xs.length - i ∧ i ≤ xs.length ∧ H' D = some (.lst ((List.replicate i true).map V.bl)) ∧ Same (upd H tp (.tup [V.ty "list", V.ty "tuple"])) H', ⟨xs.length, rfl, Nat.zero_le _, upd_same, s2⟩, ?_⟩
        rintro i m H' ⟨rfl, hi, hD, sm⟩
        have sa2 := same_sqt (sm) sa1
        have sb2 := same_sqt (sm) sb1
        by_cases hlt : i < xs.length
        · have hlt2 : i < ys.length := by omega
          refine .inr ⟨⟨xs, ys, xs[i], ys[i], sa2, sb2, List.getElem?_eq_getElem hlt, List.getElem?_eq_getElem hlt2⟩, fun H2 => H2 D = some (.lst ((List.replicate (i + 1) true).map V.bl)) ∧ Same (upd H tp (.tup [V.ty "list", V.ty "tuple"])) H2, fun H2 z => ⟨xs.length - (i + 1), by omega, rfl, hlt, z.1, z.2⟩, ?_⟩
          rintro vv H2 ⟨tt, x, y, rfl, ntt, rfl, hx, hy⟩
          have ex := hx _ sa2
          have ey := hy _ sb2
          have s3 := same_new (o := .tup [x, y]) ntt
          refine ⟨tt, _, rfl, SqT.of upd_same, rfl, _, _, rfl, _, _, rfl, rfl, rfl, ?_⟩
          obtain ⟨d1, e1, p1⟩ := dpl_at ra ex
          obtain ⟨d2, e2, p2⟩ := dpl_at rb ey
          obtain rfl : d1 = d2 := Option.some.inj (e1.symm.trans e2)
          have s13 := (s1.trans sm).trans s3
          refine ⟨_, rfl, _, rfl, x, y, d1, rfl, dp_same s13 p1, dp_same s13 p2, hk d1 (List.mem_of_getElem? e1), fun H4 s4 => ?_⟩
          have nDt : D ≠ tt := ne_of_none hD ntt
          refine ⟨_, s4 _ _ (s3 _ _ hD), by rw [List.length_map, List.length_replicate]; exact Nat.lt_of_lt_of_le (show i < 1001 by omega) (by decide), ?_, same_over ((sm.trans s3).trans s4) nD⟩
          rw [upd_same, List.replicate_succ', List.map_append]
          rfl
        · have ei : i = xs.length := by omega
          refine .inl ⟨⟨xs, ys, sa2, sb2, .inl (by omega)⟩, D, List.replicate i true, rfl, SqL.of hD, ?_⟩
          have ea : (List.replicate i true).all id = true := List.all_eq_true.mpr fun z hz => (List.mem_replicate.mp hz).2
          rw [ea]
          exact q H' (s1.trans sm)
end
end Ff

namespace Ff
open PySem PySem.Spec PyProof.Rows L2
/-- x *= e -/
def ipW : TIp := fun x y H Q => ∃ i j, x = .int i ∧ y = .int j ∧ CMulW i j ∧ Q (.int (i * j)) H
theorem ip_mulW {X : Cx} : PIp X .Mult ipW := by
  intro pins s σ H x y v u Q I r1 r2 h
  obtain ⟨i, j, e1, e2, hm, q⟩ := h
  subst e1; subst e2
  obtain ⟨t, rfl⟩ := r1
  obtain ⟨t', rfl⟩ := r2
  exact imul_int ⟨.int _, H, I.tok _, ⟨_, rfl⟩, q⟩ hm.ok
def spFalling : Sp := fun vs H Q _ => ∃ s c : Int, vs = [.int s, .int c] ∧ s ≤ 200 ∧ c ≤ 200 ∧ ∀ H', Same H H' → Q (.int (fall s c)) H'
def spBinomial : Sp := fun vs H Q _ => ∃ s c : Int, vs = [.int s, .int c] ∧ s ≤ 200 ∧ c ≤ 200 ∧ ∀ H', Same H H' → Q (.int (binom s c)) H'
def spPower : Sp := fun vs H Q _ => ∃ (b : Int) (e : Nat), vs = [.int b, .int e] ∧ -1000 ≤ b ∧ b ≤ 1000 ∧ e ≤ 200 ∧ ∀ H', Same H H' → Q (.int (b ^ e)) H'
abbrev sPower : Stmt := topS 1
abbrev powerN : List Str := ["base", "exponent", "product", "turn"]
theorem scPower : FnScope powerN ["base", "exponent"] (defScope sPower) := ⟨rfl, rfl, rfl, by decide +kernel, rfl, by decide +kernel, by decide +kernel⟩
abbrev sFalling : Stmt := topS 2
abbrev fallingN : List Str := ["size", "chosen", "product", "taken"]
theorem scFalling : FnScope fallingN ["size", "chosen"] (defScope sFalling) := ⟨rfl, rfl, rfl, by decide +kernel, rfl, by decide +kernel, by decide +kernel⟩
abbrev sBinomial : Stmt := topS 3
abbrev binomialN : List Str := ["size", "chosen"]
theorem scBinomial : FnScope binomialN ["size", "chosen"] (defScope sBinomial) := ⟨rfl, rfl, rfl, by decide +kernel, rfl, by decide +kernel, by decide +kernel⟩
theorem fallN_lt {s : Int} (h : s ≤ 200) : ∀ k, 0 ≤ fallN s k ∧ (fallN s k).natAbs < 2 ^ (8 * k + 1)
  | 0 => ⟨by show (0 : Int) ≤ 1; decide, by show (1 : Int).natAbs < 2 ^ 1; decide⟩
  | k + 1 => by
    obtain ⟨h0, h1⟩ := fallN_lt h k
    have hf : 0 ≤ (if s - (k : Int) > 0 then s - (k : Int) else 0) ∧ (if s - (k : Int) > 0 then s - (k : Int) else 0) ≤ 200 := by split <;> omega
    refine ⟨Int.mul_nonneg h0 hf.1, ?_⟩
    show (fallN s k * (if s - (k : Int) > 0 then s - (k : Int) else 0)).natAbs < 2 ^ (8 * (k + 1) + 1)
    have := wide_lt (b := 8) h1 (show (if s - (k : Int) > 0 then s - (k : Int) else 0).natAbs < 2 ^ 8 by omega)
    rw [show 8 * (k + 1) + 1 = 8 * k + 1 + 8 by omega]
    exact this
theorem fallN_zero {s : Int} : ∀ {k : Nat}, (s < (k : Int)) → 0 < k → fallN s k = 0
  | 0, _, h => by omega
  | k + 1, h, _ => by
    show fallN s k * _ = 0
    by_cases e : s - (k : Int) > 0
    · rw [fallN_zero (by omega) (by omega), Int.zero_mul]
    · rw [if_neg e, Int.mul_zero]
theorem fallN_self_pos : ∀ (s k : Nat), k ≤ s → 0 < fallN (s : Int) k
  | s, 0, _ => by show (0 : Int) < 1; decide
  | s, k + 1, h => by
    show 0 < fallN (s : Int) k * _
    rw [if_pos (by omega)]
    exact Int.mul_pos (fallN_self_pos s k (by omega)) (by omega)
theorem pow_small {b : Int} (h1 : -1000 ≤ b) (h2 : b ≤ 1000) : ∀ e : Nat, (b ^ e).natAbs < 2 ^ (10 * e + 1)
  | 0 => by rw [Int.pow_zero]; decide
  | e + 1 => by
    have := wide_lt (b := 10) (pow_small h1 h2 e) (show b.natAbs < 2 ^ 10 by omega)
    rw [Int.pow_succ, show 10 * (e + 1) + 1 = 10 * e + 1 + 10 by omega]
    exact this
section
variable {P : Program} {w : World} {K : PySem.W.Frag} {mg : Str → Option Value} {base : Heap}
theorem ok_power {f : Addr} {fd : FuncData} {k : Nat} (F : Fun K "power_of" "power_of" sPower f fd) (T : Tx mg) : FnOk P w K mg base CX0 (k + 1) f fd ["base", "exponent"] spPower := by
  refine F.ok scPower (fun vs H Q E h => ?_) (fun cdv A outer s H vs Q E hr h => ?_)
  · obtain ⟨b, e, rfl, _⟩ := h
    rfl
  · obtain ⟨b, e, rfl, hb1, hb2, he, q⟩ := h
    refine ⟨_, (pss_cons (ps_set (i := 2) scPower.nd rfl (.inl rfl) pe_int)
      (pss_cons (ps_for PassesOwn.never rfl (pi_range1 (by rfl) T.range (pa_cons (pv 1) pa_nil)) (pg_name (i := 3) scPower.nd rfl (.inl rfl))
        (pss_one (ps_aug (i := 2) scPower.nd rfl (.inl rfl) (pv 0) ip_mulW)))
      (pss_one (ps_ret (pv 2))))), ?_⟩
    refine ⟨_, rfl, _, rfl, by omega, by omega, ?_⟩
    refine for_range (lo := 0) (n := ((e : Nat) : Int).toNat) (fun i σ H' => (∃ y, σ = [some (.int b), some (.int e), some (.int (b ^ i)), y]) ∧ H' = H) ⟨⟨none, by rw [Int.pow_zero]; rfl⟩, rfl⟩ ?_ ?_
    · rintro i σ H' hi ⟨⟨y, rfl⟩, rfl⟩
      refine ⟨_, rfl, _, rfl, _, _, rfl, rfl, wide_mul (pow_small hb1 hb2 i) (b := 10) (by omega) (by omega) (by decide) (by omega), ⟨some (.int (0 + (i : Int))), ?_⟩, rfl⟩
      rw [Int.pow_succ]
      rfl
    · rintro σ H' ⟨⟨y, rfl⟩, rfl⟩
      refine ⟨_, rfl, ?_⟩
      rw [show ((e : Nat) : Int).toNat = e by omega]
      exact q _ (Same.refl _)
theorem ok_falling {f : Addr} {fd : FuncData} {k : Nat} (F : Fun K "falling" "falling" sFalling f fd) (T : Tx mg) : FnOk P w K mg base CX0 (k + 1) f fd ["size", "chosen"] spFalling := by
  refine F.ok scFalling (fun vs H Q E h => ?_) (fun cdv A outer s H vs Q E hr h => ?_)
  · obtain ⟨b, e, rfl, _⟩ := h
    rfl
  · obtain ⟨sz, ch, rfl, hb1, hb2, q⟩ := h
    refine ⟨_, (pss_cons (ps_if (PW.pt (pw_or (pt_cmpR op_lt (pv 1) pe_int (nomark _)) (pw_or1 (pt_cmpR op_gt (pv 1) (pe_callB (call_max2 rfl) (by rfl) T.max (by decide +kernel) (pa_cons (pv 0) (pa_cons pe_int pa_nil))) (nomark _)))))
        (pss_one (ps_ret pe_int)) pss_nil)
      (pss_cons (ps_set (i := 2) scFalling.nd rfl (.inl rfl) pe_int)
      (pss_cons (ps_for PassesOwn.never rfl (pi_range1 (by rfl) T.range (pa_cons (pv 1) pa_nil)) (pg_name (i := 3) scFalling.nd rfl (.inl rfl))
        (pss_one (ps_aug (i := 2) scFalling.nd rfl (.inl rfl) (pe_op op_sub (pv 0) (pv 3)) ip_mulW)))
      (pss_one (ps_ret (pv 2)))))), ?_⟩
    have q0 := q H (Same.refl _)
    unfold fall at q0
    refine ⟨_, rfl, _, _, rfl, rfl, _, rfl, ite2 (fun e => ?_) (fun e => ?_)⟩
    · have e1 : ch < 0 := of_decide_eq_true e
      rw [if_pos e1] at q0
      exact q0
    have e1 : ¬ ch < 0 := fun z => e (decide_eq_true z)
    rw [if_neg e1] at q0
    refine ⟨_, rfl, _, rfl, _, _, rfl, _, _, rfl, rfl, _, rfl, ite2 (fun e => ?_) (fun e => ?_)⟩
    · have e2 : (if (0 : Int) > sz then (0 : Int) else sz) < ch := of_decide_eq_true e
      rw [fallN_zero (s := sz) (by split at e2 <;> omega) (by split at e2 <;> omega)] at q0
      exact q0
    have e2 : ¬ (if (0 : Int) > sz then (0 : Int) else sz) < ch := fun z => e (decide_eq_true z)
    refine ⟨_, rfl, _, rfl, by omega, by omega, ?_⟩
    refine for_range (lo := 0) (n := ch.toNat) (fun i σ H' => (∃ y, σ = [some (.int sz), some (.int ch), some (.int (fallN sz i)), y]) ∧ H' = H) ⟨⟨_, rfl⟩, rfl⟩ ?_ ?_
    · rintro i σ H' hi ⟨⟨y, rfl⟩, rfl⟩
      have hp : sz - (i : Int) > 0 := by split at e2 <;> omega
      refine ⟨_, rfl, _, rfl, _, rfl, _, _, rfl, rfl, _, _, rfl, rfl, wide_mul (fallN_lt hb1 i).2 (b := 8) (by omega) (by omega) (by decide) (by omega), ⟨some (.int (0 + (i : Int))), ?_⟩, rfl⟩
      show [some (V.int sz), some (V.int ch), some (V.int (fallN sz i * (sz - (0 + (i : Int))))), some (V.int (0 + (i : Int)))] = [some (V.int sz), some (V.int ch), some (V.int (fallN sz i * (if sz - (i : Int) > 0 then sz - (i : Int) else 0))), some (V.int (0 + (i : Int)))]
      rw [if_pos hp, Int.zero_add]
    · rintro σ H' ⟨⟨y, rfl⟩, rfl⟩
      exact ⟨_, rfl, q0⟩
theorem ok_binomial {f f1 : Addr} {fd fd1 : FuncData} (F : Fun K "binomial" "binomial" sBinomial f fd) (k1 : Kn P w K mg base 1 "falling" sFalling ["size", "chosen"] spFalling f1 fd1) : FnOk P w K mg base CX0 2 f fd ["size", "chosen"] spBinomial := by
  refine F.ok scBinomial (fun vs H Q E h => ?_) (fun cdv A outer s H vs Q E hr h => ?_)
  · obtain ⟨b, e, rfl, _⟩ := h
    rfl
  · obtain ⟨sz, ch, rfl, hb1, hb2, q⟩ := h
    refine ⟨_, (pss_cons (ps_if (pt_cmpR op_lt (pv 1) pe_int (nomark _))
        (pss_one (ps_ret pe_int)) pss_nil)
      (pss_one (ps_ret (pe_op op_fdivW (pe_call k1.G hr (by rfl) k1.g k1.F.kp k1.b .nil pass0 (pa_cons (pv 0) (pa_cons (pv 1) pa_nil))) (pe_call k1.G hr (by rfl) k1.g k1.F.kp k1.b .nil pass0 (pa_cons (pv 1) (pa_cons (pv 1) pa_nil))))))), ?_⟩
    unfold binom at q
    refine ⟨_, rfl, _, _, rfl, rfl, _, rfl, ite2 (fun e => ?_) (fun e => ?_)⟩
    · have e1 : ch < 0 := of_decide_eq_true e
      rw [if_pos e1] at q
      exact q H (Same.refl _)
    have e1 : ¬ ch < 0 := fun z => e (decide_eq_true z)
    rw [if_neg e1] at q
    refine ⟨_, rfl, _, rfl, sz, ch, rfl, hb1, hb2, fun H1 s1 => ⟨_, rfl, _, rfl, ch, ch, rfl, hb2, hb2, fun H2 s2 => ⟨_, _, rfl, rfl, ?_, q H2 (s1.trans s2)⟩⟩⟩
    obtain ⟨m, hm⟩ : ∃ m : Nat, ch = m := ⟨ch.toNat, by omega⟩
    subst hm
    have hp := fallN_self_pos m m (Nat.le_refl _)
    have hl := (fallN_lt hb2 m).2
    have ef : fall (m : Int) (m : Int) = fallN (m : Int) m := by
      unfold fall
      rw [if_neg e1]; rfl
    rw [ef]
    exact wide_div hp hl (by omega) (by omega)
end
end Ff

namespace Ff
open PySem PySem.Spec PyProof.Rows L2
abbrev sLaw : Stmt := topS 9
abbrev lawN : List Str := ["_law_script", "_law_draw", "_law_turn", "_law_base_in", "_law_size_in", "_law_chosen_in", "_law_due", "_law_k", "_law_exponent_in", "_law_whole", "_law_found"]
theorem scLaw : FnScope lawN ["_law_script"] (defScope sLaw) := ⟨rfl, rfl, rfl, by decide +kernel, rfl, by decide +kernel, by decide +kernel⟩
theorem two_same {K : PySem.W.Frag} {H : Hp} {l1 l2 : Addr} {x y : Int} (h1 : H l1 = some (.lst [.int x, .int y])) (h2 : H l2 = some (.lst [.int x, .int y])) : Dp K H (.ref l1) (.list [.int x, .int y]) ∧ Dp K H (.ref l2) (.list [.int x, .int y]) ∧ Sm 1 (.list [.int x, .int y]) :=
  ⟨.lst (SqL.of h1) (.cons (.int _) (.cons (.int _) .nil)), .lst (SqL.of h2) (.cons (.int _) (.cons (.int _) .nil)), .lst (by show 2 ≤ 1000; decide) fun d hd => by
    rcases List.mem_cons.mp hd with z | z
    · rw [z]; exact .int _ _
    · rw [List.mem_singleton.mp z]; exact .int _ _⟩
section
variable {P : Program} {w : World} {K : PySem.W.Frag} {mg : Str → Option Value} {base : Heap}
theorem ok_law {f : Addr} {fd : FuncData} (F : Fun K "law" "law" sLaw f fd) (T : Tx mg)
    (k1 : Kx P w K mg base 1 "_law_start" sStart ["_law_script"] (spStart K)) (k2 : Kx P w K mg base 1 "_law_take" sTake ["_law_draw", "_law_many"] spTake) (k3 : Kx P w K mg base 2 "_law_of" sOf ["_law_draw", "_law_some"] (spOf K))
    (k4 : Kx P w K mg base 2 "_law_same" sSame ["_law_found", "_law_due"] (spSame K 1)) (k5 : Kx P w K mg base 1 "falling" sFalling ["size", "chosen"] spFalling) (k6 : Kx P w K mg base 2 "binomial" sBinomial ["size", "chosen"] spBinomial) (k7 : Kx P w K mg base 1 "power_of" sPower ["base", "exponent"] spPower) :
    FnOk P w K mg base CX0 6 f fd ["_law_script"] (spLaw K) := by
  obtain ⟨_, _, k1⟩ := k1
  obtain ⟨_, _, k2⟩ := k2
  obtain ⟨_, _, k3⟩ := k3
  obtain ⟨_, _, k4⟩ := k4
  obtain ⟨_, _, k5⟩ := k5
  obtain ⟨_, _, k6⟩ := k6
  obtain ⟨_, _, k7⟩ := k7
  have kb5 : KBinds K _ ["size", "chosen"] ["chosen", "size"] sw2 sw2 := Fun.sw k5.F fun _ _ _ _ _ _ _ _ => rfl
  have kb7 : KBinds K _ ["base", "exponent"] ["exponent", "base"] sw2 sw2 := Fun.sw k7.F fun _ _ _ _ _ _ _ _ => rfl
  refine F.ok scLaw (fun vs H Q E h => ?_) (fun cdv A outer s H vs Q E hr h => ?_)
  · obtain ⟨a, ns, rfl, _⟩ := h
    rfl
  · obtain ⟨a, ns, rfl, hS, hlen, q⟩ := h
    have hrm : ∀ {j : Nat}, j ≤ 5 → Room j (A.deeper (envOfC "law" (defScope sLaw) s.heap.objs.size f cdv)) := fun h => hr.mono h
    have r1 := hrm (j := 1) (by decide)
    have r2 := hrm (j := 2) (by decide)
    refine ⟨_, pss_cons (ps_set (i := 1) scLaw.nd rfl (.inl rfl) (pe_call k1.G r1 (by rfl) k1.g k1.F.kp k1.b .nil pass0 (pa_cons (pv 0) pa_nil)))
      (pss_cons (ps_for PassesOwn.never rfl (pi_range1 (by rfl) T.range (pa_cons pe_int pa_nil)) (pg_name (i := 2) scLaw.nd rfl (.inl rfl))
        (pss_cons (ps_par3 (i := 3) (j := 4) (l := 5) (by rfl) scLaw.nd rfl rfl rfl (by decide) (by decide) (by decide) rfl rfl rfl
            (pa_cons (pe_op op_sub (pe_call k2.G r1 (by rfl) k2.g k2.F.kp k2.b .nil pass0 (pa_cons (pv 1) (pa_cons pe_int pa_nil))) pe_int) (pa_cons (pe_op op_sub (pe_call k2.G r1 (by rfl) k2.g k2.F.kp k2.b .nil pass0 (pa_cons (pv 1) (pa_cons pe_int pa_nil))) pe_int) (pa_cons (pe_op op_sub (pe_call k2.G r1 (by rfl) k2.g k2.F.kp k2.b .nil pass0 (pa_cons (pv 1) (pa_cons pe_int pa_nil))) pe_int) pa_nil))) (by rfl))
        (pss_cons (ps_set (i := 5) scLaw.nd rfl (.inl rfl) (pe_call k3.G r2 (by rfl) k3.g k3.F.kp k3.b .nil pass0 (pa_cons (pv 1) (pa_cons (pe_lst (pa_cons (pv 5) (pa_cons (pv 4) (pa_cons (pe_op op_sub (pv 4) pe_int) (pa_cons (pe_op op_add (pv 4) pe_int) (pa_cons (pe_call k2.G r1 (by rfl) k2.g k2.F.kp k2.b .nil pass0 (pa_cons (pv 1) (pa_cons pe_int pa_nil))) pa_nil)))))) pa_nil))))
        (pss_cons (ps_par (i := 4) (j := 5) (by rfl) scLaw.nd rfl rfl (by decide) rfl rfl (pa_cons (pe_callB (call_min2 rfl) (by rfl) T.min (by decide +kernel) (pa_cons (pv 4) (pa_cons pe_int pa_nil))) (pa_cons (pe_callB (call_min2 rfl) (by rfl) T.min (by decide +kernel) (pa_cons (pv 5) (pa_cons pe_int pa_nil))) pa_nil)) (by rfl))
        (pss_cons (ps_set (i := 6) scLaw.nd rfl (.inl rfl) pe_int)
        (pss_cons (ps_for PassesOwn.never rfl (pi_range1 (by rfl) T.range (pa_cons (pe_callB (call_max2 rfl) (by rfl) T.max (by decide +kernel) (pa_cons pe_int (pa_cons (pv 5) pa_nil))) pa_nil)) (pg_name (i := 7) scLaw.nd rfl (.inl rfl))
          (pss_one (ps_set (i := 6) scLaw.nd rfl (.inl rfl) (pe_op op_mul (pv 6) (pe_callB (call_max2 rfl) (by rfl) T.max (by decide +kernel) (pa_cons pe_int (pa_cons (pe_op op_sub (pv 4) (pv 7)) pa_nil)))))))
        (pss_cons (ps_set (i := 6) scLaw.nd rfl (.inl rfl) (pe_ifExp (pt_cmpR op_lt (pv 5) pe_int (nomark _)) pe_int (pv 6)))
        (pss_cons (ps_if (pt_not (pt_val (pe_call k4.G r2 (by rfl) k4.g k4.F.kp k4.b .nil pass0 (pa_cons (pe_lst (pa_cons (pe_call k5.G r1 (by rfl) k5.g k5.F.kp k5.b .nil pass0 (pa_cons (pv 4) (pa_cons (pv 5) pa_nil))) (pa_cons (pe_kws k5.G r1 (by rfl) k5.g k5.F.kp kb5 pass0 (pk_cons (pv 5) (pk_cons (pv 4) pk_nil))) pa_nil))) (pa_cons (pe_lst (pa_cons (pv 6) (pa_cons (pv 6) pa_nil))) pa_nil))))) (pss_one (ps_ret pe_bl)) pss_nil)
        (C8.pss_cut (ps_if (PW.pt (pw_and (pt_cmpR op_gt (pv 4) pe_int (nomark _)) (pw_and1 (pt_cmpR op_ne (pe_call k6.G r2 (by rfl) k6.g k6.F.kp k6.b .nil pass0 (pa_cons (pv 4) (pa_cons (pv 5) pa_nil))) (pe_op op_add (pe_call k6.G r2 (by rfl) k6.g k6.F.kp k6.b .nil pass0 (pa_cons (pe_op op_sub (pv 4) pe_int) (pa_cons (pe_op op_sub (pv 5) pe_int) pa_nil))) (pe_call k6.G r2 (by rfl) k6.g k6.F.kp k6.b .nil pass0 (pa_cons (pe_op op_sub (pv 4) pe_int) (pa_cons (pv 5) pa_nil)))) (nomark _))))) (pss_one (ps_ret pe_bl)) pss_nil)
        (pss_cons (ps_par (i := 8) (j := 9) (by rfl) scLaw.nd rfl rfl (by decide) rfl rfl (pa_cons (pe_call k2.G r1 (by rfl) k2.g k2.F.kp k2.b .nil pass0 (pa_cons (pv 1) (pa_cons pe_int pa_nil))) (pa_cons pe_int pa_nil)) (by rfl))
        (pss_cons (ps_for PassesOwn.never rfl (pi_range1 (by rfl) T.range (pa_cons (pv 8) pa_nil)) (pg_name (i := 7) scLaw.nd rfl (.inl rfl)) (pss_one (ps_set (i := 9) scLaw.nd rfl (.inl rfl) (pe_op op_mul (pv 9) (pv 3)))))
        (pss_one (ps_if (pt_not (pt_val (pe_call k4.G r2 (by rfl) k4.g k4.F.kp k4.b .nil pass0 (pa_cons (pe_lst (pa_cons (pe_call k7.G r1 (by rfl) k7.g k7.F.kp k7.b .nil pass0 (pa_cons (pv 3) (pa_cons (pv 8) pa_nil))) (pa_cons (pe_kws k7.G r1 (by rfl) k7.g k7.F.kp kb7 pass0 (pk_cons (pe_op op_add (pv 8) pe_int) (pk_cons (pv 3) pk_nil))) pa_nil))) (pa_cons (pe_lst (pa_cons (pv 9) (pa_cons (pe_op op_mul (pv 9) (pv 3)) pa_nil))) pa_nil))))) (pss_one (ps_ret pe_bl)) pss_nil)))))))))))))
      (pss_cons (ps_set (i := 10) scLaw.nd rfl (.inl rfl) (pe_lst (pa_cons (pe_call k6.G r2 (by rfl) k6.g k6.F.kp k6.b .nil pass0 (pa_cons pe_int (pa_cons pe_int pa_nil))) (pa_cons (pe_call k6.G r2 (by rfl) k6.g k6.F.kp k6.b .nil pass0 (pa_cons pe_int (pa_cons pe_int pa_nil))) (pa_cons (pe_call k6.G r2 (by rfl) k6.g k6.F.kp k6.b .nil pass0 (pa_cons pe_int (pa_cons (pe_op op_sub pe_int pe_int) pa_nil)))
          (pa_cons (pe_cmpR op_gt (pe_call k6.G r2 (by rfl) k6.g k6.F.kp k6.b .nil pass0 (pa_cons pe_int (pa_cons pe_int pa_nil))) (pe_op op_pow pe_int pe_int) (nomark _)) (pa_cons (pe_call k5.G r1 (by rfl) k5.g k5.F.kp k5.b .nil pass0 (pa_cons (pe_op op_sub pe_int pe_int) (pa_cons pe_int pa_nil))) (pa_cons (pe_call k7.G r1 (by rfl) k7.g k7.F.kp k7.b .nil pass0 (pa_cons pe_int (pa_cons pe_int pa_nil))) pa_nil))))))))
      (pss_cons (ps_set (i := 10) scLaw.nd rfl (.inl rfl) (pe_op op_cat (pv 10) (pe_lst (pa_cons (pe_call k6.G r2 (by rfl) k6.g k6.F.kp k6.b .nil pass0 (pa_cons (pe_op op_sub pe_int pe_int) (pa_cons pe_int pa_nil))) (pa_cons (pe_call k6.G r2 (by rfl) k6.g k6.F.kp k6.b .nil pass0 (pa_cons (pe_op op_sub pe_int pe_int) (pa_cons pe_int pa_nil))) (pa_cons (pe_call k6.G r2 (by rfl) k6.g k6.F.kp k6.b .nil pass0 (pa_cons (pe_op op_sub pe_int pe_int) (pa_cons (pe_op op_sub pe_int pe_int) pa_nil))) pa_nil))))))
      (pss_one (ps_ret (pe_call k4.G r2 (by rfl) k4.g k4.F.kp k4.b .nil pass0 (pa_cons (pv 10) (pa_cons (pe_lst (pa_cons pe_int (pa_cons pe_int (pa_cons pe_int (pa_cons pe_bl (pa_cons pe_int (pa_cons pe_int (pa_cons pe_int (pa_cons pe_int (pa_cons pe_int pa_nil)))))))))) pa_nil)))))))), ?_⟩
    refine ⟨_, rfl, a, ns, rfl, hS, hlen, fun d l H0 nd hD0 s0 => ?_⟩
    refine ⟨_, rfl, by decide, by decide, ?_⟩
    refine for_range (lo := 0) (n := 6) (fun i σ H' => (∃ y2 y3 y4 y5 y6 y7 y8 y9 y10, σ = [some (.ref a), some (.ref d), y2, y3, y4, y5, y6, y7, y8, y9, y10]) ∧ DrawAt H' d l) ⟨⟨_, _, _, _, _, _, _, _, _, rfl⟩, hD0⟩ ?_ ?_
    · rintro i σ H' hi ⟨⟨y2, y3, y4, y5, y6, y7, y8, y9, y10, rfl⟩, hD⟩
      refine ⟨_, rfl, d, l, 400, rfl, hD, by decide, by decide +kernel, fun b0 H1 hb0 hD1 sb1 => ⟨_, _, rfl, rfl, ?_⟩⟩
      refine ⟨_, rfl, d, l, 204, rfl, hD1, by decide, by decide +kernel, fun s0 H2 hs0 hD2 sb2 => ⟨_, _, rfl, rfl, ?_⟩⟩
      refine ⟨_, rfl, d, l, 204, rfl, hD2, by decide, by decide +kernel, fun c0 H3 hc0 hD3 sb3 => ⟨_, _, rfl, rfl, _, _, _, rfl, ?_⟩⟩
      refine ⟨_, rfl, _, rfl, _, rfl, _, rfl, _, _, rfl, rfl, _, rfl, _, _, rfl, rfl, _, rfl, d, l, 9, rfl, hD3, by decide, by decide +kernel, fun e0 H4 he0 hD4 sb4 => ?_⟩
      refine ⟨by show 5 ≤ sizeLine; decide, fun p5 np5 => ?_⟩
      refine ⟨d, l, p5, _, rfl, hD4.new np5, hD4.ne np5, SqL.of upd_same, by show 1 ≤ 5; decide, by show 5 ≤ 1000; decide, fun j v H5 hv hD5 sb5 => ?_⟩
      have hvi : ∃ c : Int, v = .int c ∧ -5 ≤ c ∧ c ≤ 300 := by
        match j, hv with
        | 0, hv => exact ⟨_, (Option.some.inj hv).symm, by omega, by omega⟩
        | 1, hv => exact ⟨_, (Option.some.inj hv).symm, by omega, by omega⟩
        | 2, hv => exact ⟨_, (Option.some.inj hv).symm, by omega, by omega⟩
        | 3, hv => exact ⟨_, (Option.some.inj hv).symm, by omega, by omega⟩
        | 4, hv => exact ⟨_, (Option.some.inj hv).symm, by omega, by omega⟩
      obtain ⟨c1, rfl, hc1, hc2⟩ := hvi
      refine ⟨_, rfl, _, _, rfl, _, rfl, _, _, rfl, _, _, rfl, ?_⟩
      generalize hsz : (if (200 : Int) < (s0 : Int) - 3 then (200 : Int) else (s0 : Int) - 3) = sz
      generalize hch : (if (200 : Int) < c1 then (200 : Int) else c1) = ch
      have hsz1 : -3 ≤ sz ∧ sz ≤ 200 := by rw [← hsz]; split <;> omega
      have hch1 : -5 ≤ ch ∧ ch ≤ 200 := by rw [← hch]; split <;> omega
      obtain ⟨ba, hba⟩ : ∃ ba, ba = (b0 : Int) - 200 := ⟨_, rfl⟩
      have hba1 : -200 ≤ ba ∧ ba < 200 := by omega
      -- due
      refine ⟨_, rfl, _, _, rfl, _, rfl, ?_, ?_, ?_⟩
      · show (-(2 ^ 62) : Int) ≤ if ch > 0 then ch else 0
        split <;> omega
      · show (if ch > 0 then ch else 0) < (2 ^ 62 : Int)
        split <;> omega
      refine for_range (lo := 0) (n := (if ch > 0 then ch else 0).toNat) (fun j σ H' => (∃ y2 y7, σ = [some (.ref a), some (.ref d), y2, some (.int ba), some (.int sz), some (.int ch), some (.int (fallN sz j)), y7, y8, y9, y10]) ∧ H' = H5) ⟨⟨some (.int (0 + (i : Int))), y7, by rw [hba]; rfl⟩, rfl⟩ ?_ ?_
      · rintro j σ H6 hj ⟨⟨z2, y7, rfl⟩, rfl⟩
        refine ⟨_, rfl, _, rfl, _, rfl, _, _, rfl, rfl, _, _, rfl, _, _, rfl, rfl, .inr ⟨?_, ?_⟩, ⟨z2, some (.int (0 + (j : Int))), ?_⟩, rfl⟩
        · show (-(2 ^ 64) : Int) < if sz - (0 + (j : Int)) > 0 then sz - (0 + (j : Int)) else 0
          split <;> omega
        · show (if sz - (0 + (j : Int)) > 0 then sz - (0 + (j : Int)) else 0) < (2 ^ 64 : Int)
          split <;> omega
        · show [some (.ref a), some (.ref d), z2, some (.int ba), some (.int sz), some (.int ch), some (.int (fallN sz j * (if sz - (0 + (j : Int)) > 0 then sz - (0 + (j : Int)) else 0))), some (.int (0 + (j : Int))), y8, y9, y10] = _
          rw [Int.zero_add]
          rfl
      rintro σ H6 ⟨⟨z2, y7, rfl⟩, rfl⟩
      -- due = 0 if chosen < 0 else due
      refine ⟨_, rfl, _, _, rfl, rfl, _, rfl, ?_⟩
      have key : ∀ R : V → Prop, R (.int (fall sz ch)) → if decide (ch < 0) = true then R (.int 0) else (∃ v, ([some (V.ref a), some (V.ref d), z2, some (V.int ba), some (V.int sz), some (V.int ch), some (V.int (fallN sz (if ch > 0 then ch else 0).toNat)), y7, y8, y9, y10] : L2.St)[6]? = some (some v) ∧ R v) := fun R hR => by
        unfold fall at hR
        by_cases hc : ch < 0
        · rw [if_pos hc] at hR
          rw [decide_eq_true hc, if_pos rfl]; exact hR
        · rw [if_neg hc] at hR
          rw [decide_eq_false hc, if_neg (by decide)]
          refine ⟨_, rfl, ?_⟩
          have e : (if ch > 0 then ch else 0) = ch := by split <;> omega
          rw [e]; exact hR
      refine key (fun v => _) ?_
      -- falling
      refine ⟨_, rfl, _, rfl, sz, ch, rfl, by omega, by omega, fun H7 s7 => ?_⟩
      refine ⟨_, rfl, _, rfl, sz, ch, rfl, by omega, by omega, fun H8 s8 => ?_⟩
      refine ⟨by show 2 ≤ sizeLine; decide, fun l1 nl1 => ?_⟩
      have s9 := same_new (o := .lst [V.int (fall sz ch), V.int (fall sz ch)]) nl1
      refine ⟨_, rfl, _, rfl, by show 2 ≤ sizeLine; decide, fun l2 nl2 => ?_⟩
      have s10 := same_new (o := .lst [V.int (fall sz ch), V.int (fall sz ch)]) nl2
      obtain ⟨q1, q2, q3⟩ := two_same (K := K) (s10 _ _ (upd_same (H := H8) (a := l1) (o := .lst [V.int (fall sz ch), V.int (fall sz ch)]))) (upd_same (H := upd H8 l1 (.lst [V.int (fall sz ch), V.int (fall sz ch)])) (a := l2) (o := .lst [V.int (fall sz ch), V.int (fall sz ch)]))
      refine ⟨_, _, _, rfl, q1, q2, q3, fun H11 s11 => ⟨_, rfl, ?_⟩⟩
      have sA := (((s7.trans s8).trans s9).trans s10).trans s11
      have hD11 := hD5.same sA
      -- binomial
      refine ⟨fun σ H' => σ = [some (.ref a), some (.ref d), z2, some (.int ba), some (.int sz), some (.int ch), some (.int (fall sz ch)), y7, y8, y9, y10] ∧ DrawAt H' d l, ?_, ?_⟩
      · refine ⟨_, rfl, _, _, rfl, rfl, _, rfl, ite2 (fun e => ?_) (fun e => ?_)⟩
        · have hpos : 0 < sz := of_decide_eq_true e
          refine ⟨_, rfl, _, rfl, sz, ch, rfl, by omega, by omega, fun H12 s12 => ?_⟩
          refine ⟨_, rfl, _, _, rfl, rfl, _, rfl, _, _, rfl, rfl, sz - 1, ch - 1, rfl, by omega, by omega, fun H13 s13 => ?_⟩
          refine ⟨_, rfl, _, _, rfl, rfl, _, rfl, sz - 1, ch, rfl, by omega, by omega, fun H14 s14 => ?_⟩
          refine ⟨_, _, rfl, rfl, rfl, _, rfl, ?_⟩
          have e2 : V.int (binom sz ch) = V.int (binom (sz - 1) (ch - 1) + binom (sz - 1) ch) := by rw [pascal sz ch hpos]
          show if (!decide (V.int (binom sz ch) = V.int (binom (sz - 1) (ch - 1) + binom (sz - 1) ch))) = true then _ else _
          rw [decide_eq_true e2]
          exact ⟨rfl, hD11.same ((s12.trans s13).trans s14)⟩
        · exact ⟨rfl, hD11⟩
      rintro σ H12 ⟨rfl, hD12⟩
      -- powers
      refine ⟨_, rfl, d, l, 200, rfl, hD12, by decide, by decide +kernel, fun ex H13 hex hD13 sb13 => ⟨_, _, rfl, ?_⟩⟩
      refine ⟨_, rfl, _, rfl, by omega, by omega, ?_⟩
      refine for_range (lo := 0) (n := ((ex : Nat) : Int).toNat) (fun j σ H' => (∃ z2 y7, σ = [some (.ref a), some (.ref d), z2, some (.int ba), some (.int sz), some (.int ch), some (.int (fall sz ch)), y7, some (vi ex), some (.int (ba ^ j)), y10]) ∧ H' = H13) ⟨⟨z2, y7, by rw [Int.pow_zero]; rfl⟩, rfl⟩ ?_ ?_
      · rintro j σ H14 hj ⟨⟨z2, y7, rfl⟩, rfl⟩
        refine ⟨_, rfl, _, rfl, _, _, rfl, rfl, .inr ⟨by omega, by omega⟩, ⟨z2, some (.int (0 + (j : Int))), ?_⟩, rfl⟩
        rw [Int.pow_succ]
        rfl
      rintro σ H14 ⟨⟨z2, y7, rfl⟩, rfl⟩
      have een : ((ex : Nat) : Int).toNat = ex := by omega
      rw [een]
      refine ⟨_, rfl, _, rfl, ba, ex, rfl, by omega, by omega, by omega, fun H15 s15 => ?_⟩
      refine ⟨_, rfl, _, _, rfl, rfl, _, rfl, ba, ex + 1, ?_, by omega, by omega, by omega, fun H16 s16 => ?_⟩
      · show [V.int ba, V.int ((ex : Int) + 1)] = [V.int ba, V.int ((ex + 1 : Nat) : Int)]
        rw [show ((ex + 1 : Nat) : Int) = (ex : Int) + 1 by omega]
      refine ⟨by show 2 ≤ sizeLine; decide, fun l1 nl1 => ?_⟩
      have s17 := same_new (o := .lst [V.int (ba ^ ex), V.int (ba ^ (ex + 1))]) nl1
      refine ⟨_, rfl, _, rfl, _, rfl, _, _, rfl, rfl, .inr ⟨by omega, by omega⟩, by show 2 ≤ sizeLine; decide, fun l2 nl2 => ?_⟩
      have s18 := same_new (o := .lst [V.int (ba ^ ex), V.int (ba ^ ex * ba)]) nl2
      have hl1 := s18 _ _ (upd_same (H := H16) (a := l1) (o := .lst [V.int (ba ^ ex), V.int (ba ^ (ex + 1))]))
      have hl2 : (upd (upd H16 l1 (.lst [V.int (ba ^ ex), V.int (ba ^ (ex + 1))])) l2 (.lst [V.int (ba ^ ex), V.int (ba ^ ex * ba)])) l2 = some (.lst [V.int (ba ^ ex), V.int (ba ^ (ex + 1))]) := by rw [upd_same, Int.pow_succ]
      obtain ⟨q1, q2, q3⟩ := two_same (K := K) hl1 hl2
      refine ⟨_, _, _, rfl, q1, q2, q3, fun H19 s19 => ⟨_, rfl, ?_⟩⟩
      exact ⟨⟨_, _, _, _, _, _, _, _, _, rfl⟩, hD13.same ((((s15.trans s16).trans s17).trans s18).trans s19)⟩
    · rintro σ H' ⟨⟨y2, y3, y4, y5, y6, y7, y8, y9, y10, rfl⟩, hD⟩
      refine ⟨0, 0, rfl, by decide, by decide, fun H1 s1 => ?_⟩
      refine ⟨3, 4, rfl, by decide, by decide, fun H2 s2 => ?_⟩
      refine ⟨_, _, rfl, rfl, 4, -1, rfl, by decide, by decide, fun H3 s3 => ?_⟩
      refine ⟨200, 100, rfl, by decide, by decide, fun H4 s4 => ?_⟩
      refine ⟨_, _, rfl, rfl, ⟨by decide, by decide, by decide⟩, _, _, rfl, rfl, ?_⟩
      refine ⟨_, _, rfl, rfl, -3, 0, rfl, by decide, by decide, fun H5 s5 => ?_⟩
      refine ⟨0, 0, rfl, by decide, by decide, by decide, fun H6 s6 => ?_⟩
      refine ⟨by show 6 ≤ sizeLine; decide, fun l1 nl1 => ?_⟩
      have n1 : binom 0 0 = 1 := by decide +kernel
      have n2 : binom 3 4 = 0 := by decide +kernel
      have n3 : binom 4 (-1) = 0 := by decide +kernel
      have n4 : decide ((10 : Int) ^ (58 : Int).toNat < binom 200 100) = true := by decide +kernel
      have n5 : fall (-3) 0 = 1 := by decide +kernel
      have n6 : (0 : Int) ^ 0 = 1 := rfl
      have n7 : binom (-3) 0 = 1 := by decide +kernel
      have n8 : binom (-3) 2 = 0 := by decide +kernel
      have n9 : binom (-1) (-1) = 0 := by decide +kernel
      show tSeq _ _ _ _ (upd H6 l1 (.lst [V.int (binom 0 0), V.int (binom 3 4), V.int (binom 4 (-1)), V.bl (decide ((10 : Int) ^ (58 : Int).toNat < binom 200 100)), V.int (fall (-3) 0), V.int ((0 : Int) ^ 0)]))
      rw [n1, n2, n3, n4, n5, n6]
      refine ⟨_, rfl, _, _, rfl, rfl, -3, 0, rfl, by decide, by decide, fun H7 s7 => ?_⟩
      refine ⟨_, _, rfl, rfl, -3, 2, rfl, by decide, by decide, fun H8 s8 => ?_⟩
      refine ⟨_, _, rfl, rfl, _, _, rfl, rfl, -1, -1, rfl, by decide, by decide, fun H9 s9 => ?_⟩
      rw [n7, n8, n9]
      have hl1 := ((s7.trans s8).trans s9) _ _ (upd_same (H := H6) (a := l1) (o := .lst [V.int 1, V.int 0, V.int 0, V.bl true, V.int 1, V.int 1]))
      refine ⟨by show 3 ≤ sizeLine; decide, fun l2 nl2 => ?_⟩
      have s10 := same_new (o := .lst [V.int 1, V.int 0, V.int 0]) nl2
      refine ⟨l1, l2, _, _, rfl, rfl, s10 _ _ hl1, upd_same, by show 9 ≤ sizeLine; decide, fun l3 nl3 => ?_⟩
      refine ⟨_, rfl, by show 9 ≤ sizeLine; decide, fun l4 nl4 => ?_⟩
      have s12 := same_new (o := .lst [V.int 1, V.int 0, V.int 0, V.bl true, V.int 1, V.int 1, V.int 1, V.int 0, V.int 0]) nl4
      refine ⟨_, _, .list [.int 1, .int 0, .int 0, .bool true, .int 1, .int 1, .int 1, .int 0, .int 0], rfl, .lst (SqL.of (s12 _ _ upd_same)) ?_, .lst (SqL.of upd_same) ?_, .lst (by show 9 ≤ 1000; decide) ?_, fun H' _ => q H'⟩
      · exact .cons (.int _) (.cons (.int _) (.cons (.int _) (.cons (.bl _) (.cons (.int _) (.cons (.int _) (.cons (.int _) (.cons (.int _) (.cons (.int _) .nil))))))))
      · exact .cons (.int _) (.cons (.int _) (.cons (.int _) (.cons (.bl _) (.cons (.int _) (.cons (.int _) (.cons (.int _) (.cons (.int _) (.cons (.int _) .nil))))))))
      · intro d hd
        simp only [List.mem_cons, List.not_mem_nil, or_false] at hd
        rcases hd with z | z | z | z | z | z | z | z | z <;> rw [z] <;> first | exact .int _ _ | exact .bl _ _
end
end Ff

namespace Ff
open PySem PySem.Spec PyProof.Rows L2
theorem all_mk {l : PySem.W.OpenLaw} {w : World} {K : PySem.W.Frag} {h : Heap} {mg : Str → Option Value} {fa : Addr} (X : K.In h) (G : h.Ns mainGlobals mg) (hfa : mg "law" = some (.ref fa))
    (d0 : DefF K "power_of" sPower)
    (d1 : DefF K "falling" sFalling)
    (d2 : DefF K "binomial" sBinomial)
    (d3 : DefF K "_law_start" sStart)
    (d4 : DefF K "_law_take" sTake)
    (d5 : DefF K "_law_of" sOf)
    (d6 : DefF K "_law_same" sSame)
    (d7 : DefF K "law" sLaw)
    (z_len : PySem.W.nsIn K mainGlobals "len" = some none)
    (z_range : PySem.W.nsIn K mainGlobals "range" = some none)
    (z_list : PySem.W.nsIn K mainGlobals "list" = some none)
    (z_tuple : PySem.W.nsIn K mainGlobals "tuple" = some none)
    (z_max : PySem.W.nsIn K mainGlobals "max" = some none)
    (z_min : PySem.W.nsIn K mainGlobals "min" = some none)
    (z_isinstance : PySem.W.nsIn K mainGlobals "isinstance" = some none)
    (z_bool : PySem.W.nsIn K mainGlobals "bool" = some none)
    (z_int : PySem.W.nsIn K mainGlobals "int" = some none)
    (z_str : PySem.W.nsIn K mainGlobals "str" = some none)
    (z_all : PySem.W.nsIn K mainGlobals "all" = some none)
    (z_zip : PySem.W.nsIn K mainGlobals "zip" = some none)
    (z_set : PySem.W.nsIn K mainGlobals "set" = some none)
    (z_sorted : PySem.W.nsIn K mainGlobals "sorted" = some none)
    (z_sum : PySem.W.nsIn K mainGlobals "sum" = some none)
    : ∃ fd : FuncData, (∀ (s : Shared) (v : Value), BindsTo s fd ⟨[v], []⟩ [("_law_script", v)]) ∧ ∀ base : Heap, K.In base → base.Ns mainGlobals mg → FnOk l.prog w K mg base CX0 6 fa fd ["_law_script"] (spLaw K) := by
  obtain ⟨f_0, fd_0, F_0, g_0⟩ := d0.get X G
  obtain ⟨f_1, fd_1, F_1, g_1⟩ := d1.get X G
  obtain ⟨f_2, fd_2, F_2, g_2⟩ := d2.get X G
  obtain ⟨f_3, fd_3, F_3, g_3⟩ := d3.get X G
  obtain ⟨f_4, fd_4, F_4, g_4⟩ := d4.get X G
  obtain ⟨f_5, fd_5, F_5, g_5⟩ := d5.get X G
  obtain ⟨f_6, fd_6, F_6, g_6⟩ := d6.get X G
  obtain ⟨fL, oc, od, an, sl, kV, dc, pm, cd, ct, a, lk, c, k⟩ := d7
  have e := hfa.symm.trans (PySem.W.mg_of X G a)
  cases e
  have FL := fun_mk (st := sLaw) lk c k
  replace z_len := PySem.W.mg_none_of X G z_len
  replace z_range := PySem.W.mg_none_of X G z_range
  replace z_list := PySem.W.mg_none_of X G z_list
  replace z_tuple := PySem.W.mg_none_of X G z_tuple
  replace z_max := PySem.W.mg_none_of X G z_max
  replace z_min := PySem.W.mg_none_of X G z_min
  replace z_isinstance := PySem.W.mg_none_of X G z_isinstance
  replace z_bool := PySem.W.mg_none_of X G z_bool
  replace z_int := PySem.W.mg_none_of X G z_int
  replace z_str := PySem.W.mg_none_of X G z_str
  replace z_all := PySem.W.mg_none_of X G z_all
  replace z_zip := PySem.W.mg_none_of X G z_zip
  replace z_set := PySem.W.mg_none_of X G z_set
  replace z_sorted := PySem.W.mg_none_of X G z_sorted
  replace z_sum := PySem.W.mg_none_of X G z_sum
  have T : Tx mg := ⟨z_len, z_range, z_list, z_tuple, z_max, z_min⟩
  have TS : TxS mg := ⟨z_isinstance, z_list, z_tuple, z_bool, z_int, z_str, z_len, z_all, z_zip⟩
  refine ⟨PySem.W.fnOf "law" "law" (defArgs sLaw) (defBody sLaw) (defScope sLaw) .none kV dc pm an cd ct, fun s v => .of_eq rfl, fun base _ _ => ?_⟩
  have b_0 := F_0.binds (ps := ["base", "exponent"]) fun _ _ _ _ _ _ us hl => match us, hl with | [_, _], _ => rfl
  have b_1 := F_1.binds (ps := ["size", "chosen"]) fun _ _ _ _ _ _ us hl => match us, hl with | [_, _], _ => rfl
  have b_2 := F_2.binds (ps := ["size", "chosen"]) fun _ _ _ _ _ _ us hl => match us, hl with | [_, _], _ => rfl
  have b_3 := F_3.binds (ps := ["_law_script"]) fun _ _ _ _ _ _ us hl => match us, hl with | [_], _ => rfl
  have b_4 := F_4.binds (ps := ["_law_draw", "_law_many"]) fun _ _ _ _ _ _ us hl => match us, hl with | [_, _], _ => rfl
  have b_5 := F_5.binds (ps := ["_law_draw", "_law_some"]) fun _ _ _ _ _ _ us hl => match us, hl with | [_, _], _ => rfl
  have b_6 := F_6.binds (ps := ["_law_found", "_law_due"]) fun _ _ _ _ _ _ us hl => match us, hl with | [_, _], _ => rfl
  have k_0 : Kn l.prog w K mg base 1 "power_of" sPower ["base", "exponent"] spPower f_0 fd_0 := ⟨F_0, ok_power F_0 T, b_0, g_0⟩
  have k_1 : Kn l.prog w K mg base 1 "falling" sFalling ["size", "chosen"] spFalling f_1 fd_1 := ⟨F_1, ok_falling F_1 T, b_1, g_1⟩
  have k_2 : Kn l.prog w K mg base 2 "binomial" sBinomial ["size", "chosen"] spBinomial f_2 fd_2 := ⟨F_2, ok_binomial F_2 k_1, b_2, g_2⟩
  have k_3 : Kn l.prog w K mg base 1 "_law_start" sStart ["_law_script"] (spStart K) f_3 fd_3 := ⟨F_3, ok_start F_3 T, b_3, g_3⟩
  have k_4 : Kn l.prog w K mg base 1 "_law_take" sTake ["_law_draw", "_law_many"] spTake f_4 fd_4 := ⟨F_4, ok_take F_4 T.len, b_4, g_4⟩
  have k_5 : Kn l.prog w K mg base 2 "_law_of" sOf ["_law_draw", "_law_some"] (spOf K) f_5 fd_5 := ⟨F_5, ok_of F_5 k_4.G k_4.F k_4.b k_4.g T, b_5, g_5⟩
  have k_6 : Kn l.prog w K mg base 2 "_law_same" sSame ["_law_found", "_law_due"] (spSame K 1) f_6 fd_6 := ⟨F_6, ok_same F_6 TS b_6 g_6 1, b_6, g_6⟩
  exact ok_law FL T ⟨_, _, k_3⟩ ⟨_, _, k_4⟩ ⟨_, _, k_5⟩ ⟨_, _, k_6⟩ ⟨_, _, k_1⟩ ⟨_, _, k_2⟩ ⟨_, _, k_0⟩
end Ff
open PySem PySem.W PyProof.Rows
set_option maxHeartbeats 0 in
theorem PySem.Challenge.cw_findforests_k25_powers_and_choices_holds : PySem.Challenge.rw_findforests_k25_powers_and_choices.Holds := by
  w_on; o_law; k_head; (case hw => w_witness2)
  k_fill
  refine L2.walk_of (l := PySem.Challenge.rw_findforests_k25_powers_and_choices) (n := 63) (k := 6) (x := "_law_script") (CX := fun _ => L2.CX0) (sp := fun w => Ff.spLaw _) rfl (by decide) rfl ⟨rfl, by decide, by decide⟩ (fun w h Y => PySem.W.kIn_of Y) ?F (fun _ _ a ns hl _ hS => ⟨a, ns, rfl, hS, hl, fun _ => rfl⟩) (fun _ _ _ _ _ h => h)
  case F =>
    intro w mg fa h KX G hmg
    refine' Ff.all_mk KX G hmg ?d0 ?d1 ?d2 ?d3 ?d4 ?d5 ?d6 ?d7 ?z_len ?z_range ?z_list ?z_tuple ?z_max ?z_min ?z_isinstance ?z_bool ?z_int ?z_str ?z_all ?z_zip ?z_set ?z_sorted ?z_sum
    (case z_len => k_is); (case z_range => k_is); (case z_list => k_is); (case z_tuple => k_is); (case z_max => k_is); (case z_min => k_is); (case z_isinstance => k_is); (case z_bool => k_is); (case z_int => k_is); (case z_str => k_is); (case z_all => k_is); (case z_zip => k_is); (case z_set => k_is); (case z_sorted => k_is); (case z_sum => k_is)
    all_goals (refine' Ff.DefF.by ?a ?l ?c ?k; (case a => k_is); (case l => k_is); (case c => k_is); (case k => k_is))

