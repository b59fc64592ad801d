import PyProof.Rows.All
import Wide.All
import OpenK.AllK
import Wide.FinOn
import KE.KExcInit
import HandS.Base
import HandS.Call
import HandS.List
import HandS.Ends
import HandS.Exc
import HandS.ExcInit
import HandS.ExcCtx
import HandS.TryMany
import KE.KTryMore
import HandS.HotCalls
import HandS.ExcField
import HandS.Lambda
import HandS.Codes
import HandS.Words
import HandS.WordsExc
import PyProof.TupleIter
import HandS.FStr
import HandS.Style
import HandS.Comp
import KE.KDflt
import HandS.Iter
import KE.GoesEnum
import HandS.Dict
import HandS.Text
import HandS.WordsList
import HandS.WordsDict
import HandS.Wide
import HandS.Conv
import HandS.More
import HandS.Strs
import HandS.SetFor
import HandS.IsInst
import HandS.Zip
import HandS.Deep
import HandS.Star
import HandS.Defaults
import HandS.TupAny
import HandS.EndOwn
import KE.KNestM
import KE.KExcLine
import PySem.Challenge.RW_findforests_k26_numbers_and_lists_of_tre
set_option Elab.async false
set_option linter.all false
set_option maxRecDepth 100000
set_option maxHeartbeats 4000000
/-! The mathematics of finds: forests as parent functions below n, with a rank that falls towards the roots. -/
namespace Ff
structure Fo (n : Nat) (p : Nat → Nat) (r : Nat → Nat) : Prop where
  lt : ∀ x, x < n → p x < n
  up : ∀ x, x < n → p x = x ∨ r (p x) < r x
  rb : ∀ x, x < n → r x < n
def root (p : Nat → Nat) : Nat → Nat → Nat
  | 0, x => x
  | k + 1, x => if p x = x then x else root p k (p x)
def ups (p : Nat → Nat) : Nat → Nat → List Nat
  | 0, _ => []
  | k + 1, x => if p x = x then [] else x :: ups p k (p x)
def path (p : Nat → Nat) (k x : Nat) : List Nat := ups p k x ++ [root p k x]
theorem root_of {p : Nat → Nat} {x : Nat} (h : p x = x) : ∀ k, root p k x = x
  | 0 => rfl
  | k + 1 => by show (if p x = x then x else _) = x; rw [if_pos h]
theorem ups_of {p : Nat → Nat} {x : Nat} (h : p x = x) : ∀ k, ups p k x = []
  | 0 => rfl
  | k + 1 => by show (if p x = x then [] else _) = []; rw [if_pos h]
theorem root_step {p : Nat → Nat} {x k : Nat} (h : p x ≠ x) : root p (k + 1) x = root p k (p x) := by
  show (if p x = x then x else _) = _; rw [if_neg h]
theorem ups_step {p : Nat → Nat} {x k : Nat} (h : p x ≠ x) : ups p (k + 1) x = x :: ups p k (p x) := by
  show (if p x = x then [] else _) = _; rw [if_neg h]
section
variable {n : Nat} {p : Nat → Nat} {r : Nat → Nat}
/-- enough steps: more of them change nothing -/
theorem root_more (F : Fo n p r) : ∀ (k x : Nat), x < n → r x ≤ k → root p (k + 1) x = root p k x
  | k, x, hx, hr => by
    by_cases h : p x = x
    · rw [root_of h, root_of h]
    · have u := (F.up x hx).resolve_left h
      cases k with
      | zero => omega
      | succ k => rw [root_step h, root_step h]; exact root_more F k (p x) (F.lt x hx) (by omega)
theorem ups_more (F : Fo n p r) : ∀ (k x : Nat), x < n → r x ≤ k → ups p (k + 1) x = ups p k x
  | k, x, hx, hr => by
    by_cases h : p x = x
    · rw [ups_of h, ups_of h]
    · have u := (F.up x hx).resolve_left h
      cases k with
      | zero => omega
      | succ k => rw [ups_step h, ups_step h]; rw [ups_more F k (p x) (F.lt x hx) (by omega)]
theorem root_n (F : Fo n p r) {x : Nat} (hx : x < n) (h : p x ≠ x) : root p n x = root p n (p x) := by
  have := F.rb x hx
  have e := (F.up x hx).resolve_left h
  rw [← root_more F n x hx (by omega), root_step h]
theorem ups_n (F : Fo n p r) {x : Nat} (hx : x < n) (h : p x ≠ x) : ups p n x = x :: ups p n (p x) := by
  have := F.rb x hx
  have e := (F.up x hx).resolve_left h
  rw [← ups_more F n x hx (by omega), ups_step h]
/-- induction from the roots -/
theorem Fo.ind (F : Fo n p r) {C : Nat → Prop} (h0 : ∀ x, x < n → p x = x → C x) (h1 : ∀ x, x < n → p x ≠ x → C (p x) → C x) : ∀ x, x < n → C x := by
  have : ∀ k x, r x ≤ k → x < n → C x := by
    intro k
    induction k with
    | zero =>
      intro x hr hx
      by_cases h : p x = x
      · exact h0 x hx h
      · have := (F.up x hx).resolve_left h; omega
    | succ k ih =>
      intro x hr hx
      by_cases h : p x = x
      · exact h0 x hx h
      · have := (F.up x hx).resolve_left h
        exact h1 x hx h (ih (p x) (by omega) (F.lt x hx))
  exact fun x hx => this (r x) x (Nat.le_refl _) hx
theorem root_lt (F : Fo n p r) : ∀ x, x < n → root p n x < n :=
  F.ind (fun x hx h => by rw [root_of h]; exact hx) (fun x hx h ih => by rw [root_n F hx h]; exact ih)
theorem root_fix (F : Fo n p r) : ∀ x, x < n → p (root p n x) = root p n x :=
  F.ind (fun x hx h => by rw [root_of h]; exact h) (fun x hx h ih => by rw [root_n F hx h]; exact ih)
theorem root_rank (F : Fo n p r) : ∀ x, x < n → root p n x = x ∨ r (root p n x) < r x :=
  F.ind (fun x hx h => .inl (root_of h n)) (fun x hx h ih => by
    have u := (F.up x hx).resolve_left h
    rw [root_n F hx h]
    rcases ih with e | e
    · rw [e]; exact .inr u
    · exact .inr (by omega))
theorem root_ne (F : Fo n p r) {x : Nat} (hx : x < n) (h : p x ≠ x) : root p n x ≠ x := fun e => h (by have z := root_fix F x hx; rw [e] at z; exact z)
theorem ups_lt (F : Fo n p r) : ∀ x, x < n → ∀ v ∈ ups p n x, v < n ∧ p v ≠ v ∧ root p n v = root p n x ∧ r v ≤ r x :=
  F.ind (fun x hx h v hv => by rw [ups_of h] at hv; cases hv) (fun x hx h ih v hv => by
    have u := (F.up x hx).resolve_left h
    rw [ups_n F hx h] at hv
    rcases List.mem_cons.mp hv with e | e
    · subst e; exact ⟨hx, h, rfl, Nat.le_refl _⟩
    · have z := ih v e
      refine ⟨z.1, z.2.1, z.2.2.1.trans (root_n F hx h).symm, by omega⟩)
theorem ups_len (F : Fo n p r) : ∀ x, x < n → (ups p n x).length ≤ r x :=
  F.ind (fun x hx h => by rw [ups_of h]; exact Nat.zero_le _) (fun x hx h ih => by
    have u := (F.up x hx).resolve_left h
    rw [ups_n F hx h, List.length_cons]; omega)
theorem ups_nodup (F : Fo n p r) : ∀ x, x < n → (ups p n x).Nodup :=
  F.ind (fun x hx h => by rw [ups_of h]; exact List.nodup_nil) (fun x hx h ih => by
    have u := (F.up x hx).resolve_left h
    rw [ups_n F hx h]
    refine List.nodup_cons.mpr ⟨fun hm => ?_, ih⟩
    have z := (ups_lt F (p x) (F.lt x hx) x hm).2.2.2
    omega)
theorem self_ups (F : Fo n p r) {x : Nat} (hx : x < n) (h : p x ≠ x) : x ∈ ups p n x := by rw [ups_n F hx h]; exact List.mem_cons_self
/-- a set of nodes with all nodes above them but the roots -/
def Closed (n : Nat) (p : Nat → Nat) (S : Nat → Bool) : Prop := ∀ v, v < n → S v = true → p v ≠ v ∧ (p (p v) = p v ∨ S (p v) = true)
def after (n : Nat) (p : Nat → Nat) (S : Nat → Bool) : Nat → Nat := fun v => if S v = true then root p n v else p v
theorem closed_ups (F : Fo n p r) {S : Nat → Bool} (C : Closed n p S) : ∀ x, x < n → S x = true → ∀ v ∈ ups p n x, S v = true :=
  F.ind (fun x hx h hS v hv => by rw [ups_of h] at hv; cases hv) (fun x hx h ih hS v hv => by
    rw [ups_n F hx h] at hv
    rcases List.mem_cons.mp hv with e | e
    · subst e; exact hS
    · rcases (C x hx hS).2 with z | z
      · rw [ups_of z] at e; cases e
      · exact ih z v e)
theorem after_fo (F : Fo n p r) {S : Nat → Bool} (C : Closed n p S) : Fo n (after n p S) r where
  lt := fun x hx => by unfold after; split; exact root_lt F x hx; exact F.lt x hx
  up := fun x hx => by
    unfold after; split
    · exact root_rank F x hx
    · exact F.up x hx
  rb := F.rb
theorem after_root (F : Fo n p r) {S : Nat → Bool} (C : Closed n p S) {x : Nat} (hx : x < n) (h : p x = x) : after n p S x = x := by
  unfold after; split
  · exact root_of h n
  · exact h
theorem after_nonroot (F : Fo n p r) {S : Nat → Bool} (C : Closed n p S) {x : Nat} (hx : x < n) (h : p x ≠ x) : after n p S x ≠ x := by
  unfold after; split
  · exact root_ne F hx h
  · exact h
theorem after_same_root (F : Fo n p r) {S : Nat → Bool} (C : Closed n p S) : ∀ x, x < n → root (after n p S) n x = root p n x :=
  F.ind (fun x hx h => by rw [root_of h, root_of (after_root F C hx h)]) (fun x hx h ih => by
    have hq := after_nonroot F C hx h
    rw [root_n (after_fo F C) hx hq]
    by_cases hS : S x = true
    · have e : after n p S x = root p n x := by unfold after; rw [if_pos hS]
      rw [e]
      exact root_of (after_root F C (root_lt F x hx) (root_fix F x hx)) n
    · have e : after n p S x = p x := by unfold after; rw [if_neg hS]
      rw [e, ih, root_n F hx h])
theorem after_ups (F : Fo n p r) {S : Nat → Bool} (C : Closed n p S) : ∀ x, x < n →
    (∀ v ∈ ups (after n p S) n x, v ∈ ups p n x) ∧ (∀ v ∈ ups p n x, S v = true ∨ v ∈ ups (after n p S) n x) :=
  F.ind (fun x hx h => by rw [ups_of h, ups_of (after_root F C hx h)]; exact ⟨fun _ z => z, fun _ z => .inr z⟩) (fun x hx h ih => by
    have hq := after_nonroot F C hx h
    have G := after_fo F C
    rw [ups_n G hx hq]
    by_cases hS : S x = true
    · have e : after n p S x = root p n x := by unfold after; rw [if_pos hS]
      rw [e, ups_of (after_root F C (root_lt F x hx) (root_fix F x hx))]
      refine ⟨fun v hv => ?_, fun v hv => .inl (closed_ups F C x hx hS v hv)⟩
      rw [List.mem_singleton.mp hv]; exact self_ups F hx h
    · have e : after n p S x = p x := by unfold after; rw [if_neg hS]
      rw [e, ups_n F hx h]
      refine ⟨fun v hv => ?_, fun v hv => ?_⟩
      · rcases List.mem_cons.mp hv with z | z
        · rw [z]; exact List.mem_cons_self
        · exact List.mem_cons_of_mem _ (ih.1 v z)
      · rcases List.mem_cons.mp hv with z | z
        · exact .inr (by rw [z]; exact List.mem_cons_self)
        · rcases ih.2 v z with y | y
          · exact .inl y
          · exact .inr (List.mem_cons_of_mem _ y))
def low (p : Nat → Nat) (x : Nat) : Nat := if p x = x then 0 else 1
def deep (p : Nat → Nat) (v : Nat) : Bool := decide (p (p v) ≠ p v)
theorem after_cost (F : Fo n p r) {S : Nat → Bool} (C : Closed n p S) : ∀ x, x < n →
    (ups (after n p S) n x).length = low p x + (ups p n x).countP (fun v => deep p v && !S v) :=
  F.ind (fun x hx h => by rw [ups_of h, ups_of (after_root F C hx h)]; unfold low; rw [if_pos h]; rfl) (fun x hx h ih => by
    have hq := after_nonroot F C hx h
    have G := after_fo F C
    rw [ups_n G hx hq, List.length_cons]
    have hl : low p x = 1 := by unfold low; rw [if_neg h]
    rw [hl]
    by_cases hS : S x = true
    · have e : after n p S x = root p n x := by unfold after; rw [if_pos hS]
      rw [e, ups_of (after_root F C (root_lt F x hx) (root_fix F x hx))]
      have z : (ups p n x).countP (fun v => deep p v && !S v) = 0 := by
        refine List.countP_eq_zero.mpr fun v hv => ?_
        rw [closed_ups F C x hx hS v hv]; simp
      rw [z]; rfl
    · have e : after n p S x = p x := by unfold after; rw [if_neg hS]
      have eS : S x = false := by simpa using hS
      rw [e, ih, ups_n F hx h, List.countP_cons, eS]
      unfold low deep
      by_cases hd : p (p x) = p x
      · rw [if_pos hd]; simp [hd]; omega
      · rw [if_neg hd]; simp [hd]; omega)
def join (S T : Nat → Bool) : Nat → Bool := fun v => S v || T v
def upB (p : Nat → Nat) (n x : Nat) : Nat → Bool := fun v => (ups p n x).contains v
theorem upB_iff {v x : Nat} : upB p n x v = true ↔ v ∈ ups p n x := by unfold upB; exact List.contains_iff_mem
theorem ups_above (F : Fo n p r) : ∀ x, x < n → ∀ v ∈ ups p n x, p (p v) = p v ∨ p v ∈ ups p n x :=
  F.ind (fun x hx h v hv => by rw [ups_of h] at hv; cases hv) (fun x hx h ih v hv => by
    rw [ups_n F hx h] at hv ⊢
    rcases List.mem_cons.mp hv with e | e
    · subst e
      by_cases hp : p (p v) = p v
      · exact .inl hp
      · exact .inr (List.mem_cons_of_mem _ (self_ups F (F.lt v hx) hp))
    · rcases ih v e with z | z
      · exact .inl z
      · exact .inr (List.mem_cons_of_mem _ z))
theorem closed_join (F : Fo n p r) {S : Nat → Bool} (C : Closed n p S) {x : Nat} (hx : x < n) : Closed n p (join S (upB p n x)) := fun v hv h => by
  unfold join at h ⊢
  rcases Bool.or_eq_true _ _ |>.mp h with z | z
  · refine ⟨(C v hv z).1, ?_⟩
    rcases (C v hv z).2 with y | y
    · exact .inl y
    · exact .inr (by rw [y]; rfl)
  · have m := upB_iff.mp z
    refine ⟨(ups_lt F x hx v m).2.1, ?_⟩
    rcases ups_above F x hx v m with y | y
    · exact .inl y
    · exact .inr (by rw [upB_iff.mpr y, Bool.or_true])
theorem closed_no : Closed n p (fun _ => false) := fun v _ h => by cases h
def fnd (n : Nat) (p : Nat → Nat) (x : Nat) : Nat → Nat := fun v => if v ∈ path p n x then root p n x else p v
theorem fnd_after (F : Fo n p r) {S : Nat → Bool} (C : Closed n p S) {x : Nat} (hx : x < n) {v : Nat} (hv : v < n) : fnd n (after n p S) x v = after n p (join S (upB p n x)) v := by
  unfold fnd path
  rw [after_same_root F C x hx]
  have A := after_ups F C x hx
  have R := root_fix F x hx
  have Rl := root_lt F x hx
  by_cases h1 : v ∈ ups (after n p S) n x
  · rw [if_pos (List.mem_append_left _ h1)]
    have m := A.1 v h1
    unfold after join
    rw [if_pos (by rw [upB_iff.mpr m, Bool.or_true])]
    exact ((ups_lt F x hx v m).2.2.1).symm
  · by_cases h2 : v = root p n x
    · rw [if_pos (List.mem_append_right _ (List.mem_singleton.mpr h2))]
      subst h2
      exact (after_root F (closed_join F C hx) Rl R).symm
    · rw [if_neg (fun z => by
        rcases List.mem_append.mp z with y | y
        · exact h1 y
        · exact h2 (List.mem_singleton.mp y))]
      by_cases h3 : v ∈ ups p n x
      · have s := (A.2 v h3).resolve_right h1
        unfold after join
        rw [if_pos s, if_pos (by rw [s]; rfl)]
      · unfold after join
        have e : upB p n x v = false := by
          cases hb : upB p n x v with
          | false => rfl
          | true => exact absurd (upB_iff.mp hb) h3
        rw [e, Bool.or_false]
/-- a parent function below n alone matters -/
theorem root_congr {q : Nat → Nat} (hl : ∀ x, x < n → p x < n) (h : ∀ v, v < n → q v = p v) : ∀ k x, x < n → root q k x = root p k x
  | 0, _, _ => rfl
  | k + 1, x, hx => by
    show (if q x = x then x else root q k (q x)) = (if p x = x then x else root p k (p x))
    rw [h x hx, root_congr hl h k (p x) (hl x hx)]
theorem ups_congr {q : Nat → Nat} (hl : ∀ x, x < n → p x < n) (h : ∀ v, v < n → q v = p v) : ∀ k x, x < n → ups q k x = ups p k x
  | 0, _, _ => rfl
  | k + 1, x, hx => by
    show (if q x = x then [] else x :: ups q k (q x)) = (if p x = x then [] else x :: ups p k (p x))
    rw [h x hx, ups_congr hl h k (p x) (hl x hx)]
theorem fnd_congr {q : Nat → Nat} (hl : ∀ x, x < n → p x < n) (h : ∀ v, v < n → q v = p v) {x v : Nat} (hx : x < n) (hv : v < n) : fnd n q x v = fnd n p x v := by
  unfold fnd path
  rw [root_congr hl h n x hx, ups_congr hl h n x hx, h v hv]
theorem Fo.congr {q : Nat → Nat} (F : Fo n p r) (h : ∀ v, v < n → q v = p v) : Fo n q r where
  lt := fun x hx => by rw [h x hx]; exact F.lt x hx
  up := fun x hx => by rw [h x hx]; exact F.up x hx
  rb := F.rb
theorem fnd_fo (F : Fo n p r) {x : Nat} (hx : x < n) : Fo n (fnd n p x) r := by
  have e : ∀ v, v < n → after n p (fun _ => false) v = p v := fun v _ => rfl
  have A := after_fo F (closed_join F closed_no hx)
  exact A.congr fun v hv => (fnd_congr F.lt e hx hv).symm.trans (fnd_after F closed_no hx hv)
end
def fndAll (n : Nat) : List Nat → (Nat → Nat) → Nat → Nat
  | [], p => p
  | x :: l, p => fndAll n l (fnd n p x)
def costs (n : Nat) : List Nat → (Nat → Nat) → List Nat
  | [], _ => []
  | x :: l, p => (ups p n x).length :: costs n l (fnd n p x)
theorem fndAll_snoc (n : Nat) : ∀ (l : List Nat) (x : Nat) (p : Nat → Nat), fndAll n (l ++ [x]) p = fnd n (fndAll n l p) x
  | [], _, _ => rfl
  | y :: l, x, p => fndAll_snoc n l x (fnd n p y)
theorem costs_snoc (n : Nat) : ∀ (l : List Nat) (x : Nat) (p : Nat → Nat), costs n (l ++ [x]) p = costs n l p ++ [(ups (fndAll n l p) n x).length]
  | [], _, _ => rfl
  | y :: l, x, p => by show _ :: costs n (l ++ [x]) (fnd n p y) = _ :: (costs n l (fnd n p y) ++ [_]); rw [costs_snoc n l x (fnd n p y)]; rfl
theorem costs_len (n : Nat) : ∀ (l : List Nat) (p : Nat → Nat), (costs n l p).length = l.length
  | [], _ => rfl
  | y :: l, p => by show (costs n l (fnd n p y)).length + 1 = l.length + 1; rw [costs_len n l]
def markB (n : Nat) (p : Nat → Nat) (l : List Nat) : Nat → Bool := fun v => l.any fun x => upB p n x v
section
variable {n : Nat} {p : Nat → Nat} {r : Nat → Nat}
theorem fndAll_fo (F : Fo n p r) : ∀ (l : List Nat), (∀ x ∈ l, x < n) → ∀ q, Fo n q r → Fo n (fndAll n l q) r
  | [], _, q, G => G
  | x :: l, h, q, G => fndAll_fo F l (fun y hy => h y (List.mem_cons_of_mem _ hy)) _ (fnd_fo G (h x List.mem_cons_self))
theorem fndAll_after (F : Fo n p r) : ∀ (l : List Nat), (∀ x ∈ l, x < n) → ∀ S, Closed n p S → ∀ q, (∀ v, v < n → q v = after n p S v) → ∀ v, v < n → fndAll n l q v = after n p (join S (markB n p l)) v
  | [], _, S, C, q, hq, v, hv => by
    show q v = _
    rw [hq v hv]
    unfold after join markB
    simp
  | x :: l, h, S, C, q, hq, v, hv => by
    have hx := h x List.mem_cons_self
    have G := after_fo F C
    show fndAll n l (fnd n q x) v = _
    rw [fndAll_after F l (fun y hy => h y (List.mem_cons_of_mem _ hy)) (join S (upB p n x)) (closed_join F C hx) (fnd n q x) (fun u hu => (fnd_congr G.lt hq hx hu).trans (fnd_after F C hx hu)) v hv]
    have e : join (join S (upB p n x)) (markB n p l) = join S (markB n p (x :: l)) := by
      funext u
      show ((S u || upB p n x u) || l.any _) = (S u || (upB p n x u || l.any _))
      rw [Bool.or_assoc]
    rw [e]
theorem behind_eq (F : Fo n p r) (l : List Nat) (h : ∀ x ∈ l, x < n) (v : Nat) (hv : v < n) : fndAll n l p v = if markB n p l v = true then root p n v else p v := by
  rw [fndAll_after F l h (fun _ => false) closed_no p (fun u _ => rfl) v hv]
  unfold after join
  simp
theorem countP_split (f g : Nat → Bool) : ∀ l : List Nat, l.countP (fun v => f v && !g v) + l.countP (fun v => f v && g v) = l.countP f
  | [] => rfl
  | x :: l => by
    have ih := countP_split f g l
    rw [List.countP_cons, List.countP_cons, List.countP_cons, ← ih]
    cases f x <;> cases g x <;> simp <;> omega
theorem count_range (F : Fo n p r) {x : Nat} (hx : x < n) (f : Nat → Bool) : (ups p n x).countP f = (List.range n).countP (fun v => upB p n x v && f v) := by
  have P : (ups p n x).Perm ((List.range n).filter (upB p n x)) := by
    refine (List.perm_ext_iff_of_nodup (ups_nodup F x hx) (List.Nodup.sublist List.filter_sublist List.nodup_range)).mpr fun v => ?_
    rw [List.mem_filter, List.mem_range, upB_iff]
    exact ⟨fun h => ⟨(ups_lt F x hx v h).1, h⟩, fun h => h.2⟩
  rw [P.countP_eq, List.countP_filter]
  exact List.countP_congr fun v _ => by rw [Bool.and_comm]
theorem cost_sum (F : Fo n p r) : ∀ (l : List Nat), (∀ x ∈ l, x < n) → ∀ S, Closed n p S → ∀ q, (∀ v, v < n → q v = after n p S v) →
    (costs n l q).sum = (l.map (low p)).sum + (List.range n).countP (fun v => (deep p v && !S v) && markB n p l v)
  | [], _, S, C, q, hq => by
    have e : (List.range n).countP (fun v => (deep p v && !S v) && markB n p [] v) = 0 := List.countP_eq_zero.mpr fun v _ => by unfold markB; simp
    rw [e]; rfl
  | x :: l, h, S, C, q, hq => by
    have hx := h x List.mem_cons_self
    have G := after_fo F C
    show (ups q n x).length + (costs n l (fnd n q x)).sum = (low p x + (l.map (low p)).sum) + _
    rw [cost_sum F l (fun y hy => h y (List.mem_cons_of_mem _ hy)) (join S (upB p n x)) (closed_join F C hx) (fnd n q x) (fun u hu => (fnd_congr G.lt hq hx hu).trans (fnd_after F C hx hu))]
    rw [ups_congr G.lt hq n x hx, after_cost F C x hx, count_range F hx]
    have e := countP_split (fun v => (deep p v && !S v) && markB n p (x :: l) v) (upB p n x) (List.range n)
    rw [← e]
    have e1 : (List.range n).countP (fun v => ((deep p v && !S v) && markB n p (x :: l) v) && upB p n x v) = (List.range n).countP (fun v => upB p n x v && (deep p v && !S v)) := List.countP_congr fun v _ => by
      show (((deep p v && !S v) && (upB p n x v || markB n p l v)) && upB p n x v) = true ↔ (upB p n x v && (deep p v && !S v)) = true
      cases upB p n x v <;> cases deep p v <;> cases S v <;> simp
    have e2 : (List.range n).countP (fun v => ((deep p v && !S v) && markB n p (x :: l) v) && !upB p n x v) = (List.range n).countP (fun v => (deep p v && !join S (upB p n x) v) && markB n p l v) := List.countP_congr fun v _ => by
      show (((deep p v && !S v) && (upB p n x v || markB n p l v)) && !upB p n x v) = true ↔ ((deep p v && !(S v || upB p n x v)) && markB n p l v) = true
      cases upB p n x v <;> cases deep p v <;> cases S v <;> simp
    rw [e1, e2]
    omega
theorem cost_total (F : Fo n p r) (l : List Nat) (h : ∀ x ∈ l, x < n) : (costs n l p).sum = (l.map (low p)).sum + (List.range n).countP (fun v => deep p v && markB n p l v) := by
  rw [cost_sum F l h (fun _ => false) closed_no p (fun u _ => rfl)]
  congr 1
  exact List.countP_congr fun v _ => by simp
theorem mark_same {l m : List Nat} (h : ∀ x, x ∈ l ↔ x ∈ m) (v : Nat) : markB n p l v = markB n p m v := by
  unfold markB
  refine Bool.eq_iff_iff.mpr ?_
  rw [List.any_eq_true, List.any_eq_true]
  exact ⟨fun ⟨x, a, b⟩ => ⟨x, (h x).mp a, b⟩, fun ⟨x, a, b⟩ => ⟨x, (h x).mpr a, b⟩⟩
theorem behind_same (F : Fo n p r) {l m : List Nat} (hl : ∀ x ∈ l, x < n) (h : ∀ x, x ∈ l ↔ x ∈ m) (v : Nat) (hv : v < n) : fndAll n m p v = fndAll n l p v := by
  rw [behind_eq F m (fun x hx => hl x ((h x).mpr hx)) v hv, behind_eq F l hl v hv, mark_same h]
theorem cost_same (F : Fo n p r) {l m : List Nat} (hl : ∀ x ∈ l, x < n) (h : l.Perm m) : (costs n m p).sum = (costs n l p).sum := by
  rw [cost_total F m (fun x hx => hl x (h.mem_iff.mpr hx)), cost_total F l hl, (h.map (low p)).sum_nat]
  congr 1
  exact List.countP_congr fun v _ => by rw [mark_same (fun x => h.mem_iff) v]
end
end Ff
namespace Ff
theorem path_cons {p : Nat → Nat} {k x : Nat} (h : p x ≠ x) : path p (k + 1) x = x :: path p k (p x) := by
  unfold path
  rw [ups_step h, root_step h]
  rfl
theorem path_of {p : Nat → Nat} {k x : Nat} (h : p x = x) : path p k x = [x] := by
  unfold path
  rw [ups_of h, root_of h]
  rfl
theorem path_succ (p : Nat → Nat) : ∀ k x, path p (k + 1) x = if p (root p k x) = root p k x then path p k x else path p k x ++ [p (root p k x)]
  | 0, x => by
    by_cases h : p x = x
    · rw [path_of h, if_pos (show p (root p 0 x) = root p 0 x from h)]; rfl
    · rw [path_cons h, if_neg (show ¬ p (root p 0 x) = root p 0 x from h)]; rfl
  | k + 1, x => by
    by_cases h : p x = x
    · rw [path_of h, root_of h, if_pos h, path_of h]
    · rw [path_cons h, root_step h, path_succ p k (p x), path_cons h]
      split <;> rfl
theorem path_fixed {p : Nat → Nat} {i x : Nat} (h : p (root p i x) = root p i x) : ∀ j, path p (i + j) x = path p i x ∧ root p (i + j) x = root p i x
  | 0 => ⟨rfl, rfl⟩
  | j + 1 => by
    have ih := path_fixed h j
    have e : path p (i + (j + 1)) x = path p i x := by
      show path p ((i + j) + 1) x = _
      rw [path_succ, ih.2, if_pos h]
      exact ih.1
    refine ⟨e, ?_⟩
    unfold path at e
    have z := congrArg List.getLast? e
    rw [List.getLast?_append, List.getLast?_append] at z
    simpa using z
theorem root_lt0 {n : Nat} {p : Nat → Nat} (hl : ∀ x, x < n → p x < n) : ∀ k x, x < n → root p k x < n
  | 0, _, h => h
  | k + 1, x, h => by
    show (if p x = x then x else root p k (p x)) < n
    split
    · exact h
    · exact root_lt0 hl k (p x) (hl x h)
theorem ups_len0 (p : Nat → Nat) : ∀ k x, (ups p k x).length ≤ k
  | 0, _ => Nat.le_refl _
  | k + 1, x => by
    show (if p x = x then [] else x :: ups p k (p x)).length ≤ k + 1
    split
    · exact Nat.zero_le _
    · have := ups_len0 p k (p x)
      rw [List.length_cons]; omega
theorem path_len0 (p : Nat → Nat) (k x : Nat) : (path p k x).length ≤ k + 1 := by
  unfold path
  have := ups_len0 p k x
  rw [List.length_append, List.length_singleton]; omega
end Ff
namespace Ff
theorem root_succ (p : Nat → Nat) : ∀ k x, root p (k + 1) x = p (root p k x)
  | 0, x => by
    by_cases h : p x = x
    · rw [root_of h]; show x = p x; rw [h]
    · rw [root_step h]; rfl
  | k + 1, x => by
    by_cases h : p x = x
    · rw [root_of h, root_of h, h]
    · rw [root_step h, root_step h, root_succ p k (p x)]
theorem ups_succ (p : Nat → Nat) : ∀ k x, ups p (k + 1) x = if p (root p k x) = root p k x then ups p k x else ups p k x ++ [root p k x]
  | 0, x => by
    by_cases h : p x = x
    · rw [ups_of h, if_pos (show p (root p 0 x) = root p 0 x from h)]; rfl
    · rw [ups_step h, if_neg (show ¬ p (root p 0 x) = root p 0 x from h)]; rfl
  | k + 1, x => by
    by_cases h : p x = x
    · rw [ups_of h, root_of h, if_pos h, ups_of h]
    · rw [ups_step h, root_step h, ups_succ p k (p x), ups_step h]
      split <;> rfl
end Ff

/-! Ways between forests: changed nodes, needed nodes. -/
namespace Ff
def chg (p q : Nat → Nat) (v : Nat) : Bool := decide (p v ≠ q v)
/-- finds lead from p to q -/
def Way (n : Nat) (p q : Nat → Nat) : Prop := ∀ v, v < n → chg p q v = true → ∀ u ∈ ups p n v, q u = root p n u
def needB (n : Nat) (p q : Nat → Nat) (v : Nat) : Bool := chg p q v && !(List.range n).any fun u => chg p q u && (decide (v ≠ u) && (ups p n u).contains v)
def needS (n : Nat) (p q : Nat → Nat) : List Nat := (List.range n).filter (needB n p q)
theorem chg_iff {p q : Nat → Nat} {v : Nat} : chg p q v = true ↔ p v ≠ q v := by unfold chg; exact decide_eq_true_iff
theorem needB_iff {n : Nat} {p q : Nat → Nat} {v : Nat} : needB n p q v = true ↔ p v ≠ q v ∧ ∀ u, u < n → p u ≠ q u → v ≠ u → v ∉ ups p n u := by
  unfold needB
  rw [Bool.and_eq_true, chg_iff, Bool.not_eq_true']
  refine and_congr_right fun _ => ?_
  rw [List.any_eq_false]
  constructor
  · intro h u hu hc hn hm
    refine h u (List.mem_range.mpr hu) ?_
    rw [Bool.and_eq_true, Bool.and_eq_true, chg_iff]
    exact ⟨hc, decide_eq_true hn, List.contains_iff_mem.mpr hm⟩
  · intro h u hu z
    rw [Bool.and_eq_true, Bool.and_eq_true, chg_iff] at z
    exact h u (List.mem_range.mp hu) z.1 (of_decide_eq_true z.2.1) (List.contains_iff_mem.mp z.2.2)
theorem needS_mem {n : Nat} {p q : Nat → Nat} {v : Nat} : v ∈ needS n p q ↔ v < n ∧ needB n p q v = true := by
  unfold needS; rw [List.mem_filter, List.mem_range]
theorem needS_nodup (n : Nat) (p q : Nat → Nat) : (needS n p q).Nodup := List.Nodup.sublist List.filter_sublist List.nodup_range
theorem needS_len (n : Nat) (p q : Nat → Nat) : (needS n p q).length ≤ n := Nat.le_trans (List.length_filter_le _ _) (by rw [List.length_range]; exact Nat.le_refl _)
section
variable {n : Nat} {p r : Nat → Nat}
theorem ups_trans (F : Fo n p r) {u v : Nat} : ∀ x, x < n → u ∈ ups p n x → v ∈ ups p n u → v ∈ ups p n x :=
  F.ind (C := fun x => u ∈ ups p n x → v ∈ ups p n u → v ∈ ups p n x) (fun x hx h a _ => by rw [ups_of h] at a; cases a) (fun x hx h ih a b => by
    rw [ups_n F hx h] at a
    rcases List.mem_cons.mp a with e | e
    · subst e; exact b
    · rw [ups_n F hx h]; exact List.mem_cons_of_mem _ (ih e b))
theorem ups_rank (F : Fo n p r) {v x : Nat} (hx : x < n) (h : v ∈ ups p n x) (ne : v ≠ x) : r v < r x := by
  by_cases e : p x = x
  · rw [ups_of e] at h; cases h
  · rw [ups_n F hx e] at h
    rcases List.mem_cons.mp h with z | z
    · exact absurd z ne
    · have := (ups_lt F (p x) (F.lt x hx) v z).2.2.2
      have := (F.up x hx).resolve_left e
      omega
theorem mark_iff {l : List Nat} {v : Nat} : markB n p l v = true ↔ ∃ x ∈ l, v ∈ ups p n x := by
  unfold markB
  rw [List.any_eq_true]
  exact ⟨fun ⟨x, a, b⟩ => ⟨x, a, upB_iff.mp b⟩, fun ⟨x, a, b⟩ => ⟨x, a, upB_iff.mpr b⟩⟩
theorem mark_closed (F : Fo n p r) {l : List Nat} (h : ∀ x ∈ l, x < n) : Closed n p (markB n p l) := fun v hv hm => by
  obtain ⟨x, hx, m⟩ := mark_iff.mp hm
  refine ⟨(ups_lt F x (h x hx) v m).2.1, ?_⟩
  rcases ups_above F x (h x hx) v m with y | y
  · exact .inl y
  · exact .inr (mark_iff.mpr ⟨x, hx, y⟩)
/-- behind finds: what is changed was marked -/
theorem behind_chg (F : Fo n p r) {l : List Nat} (h : ∀ x ∈ l, x < n) {v : Nat} (hv : v < n) (hc : p v ≠ fndAll n l p v) : markB n p l v = true ∧ fndAll n l p v = root p n v ∧ p v ≠ root p n v := by
  have e := behind_eq F l h v hv
  by_cases m : markB n p l v = true
  · rw [if_pos m] at e
    exact ⟨m, e, by rw [← e]; exact hc⟩
  · rw [if_neg m] at e
    exact absurd e.symm hc
theorem way_behind (F : Fo n p r) {l : List Nat} (h : ∀ x ∈ l, x < n) : Way n p (fndAll n l p) := fun v hv hc u hu => by
  have m := (behind_chg F h hv (chg_iff.mp hc)).1
  have hun := (ups_lt F v hv u hu).1
  obtain ⟨x, hx, mx⟩ := mark_iff.mp m
  rw [behind_eq F l h u hun, if_pos (mark_iff.mpr ⟨x, hx, ups_trans F x (h x hx) mx hu⟩)]
/-- whoever is above another one is no child of the root's -/
theorem above_deep (F : Fo n p r) {x v : Nat} (hx : x < n) (h : v ∈ ups p n x) (ne : v ≠ x) : p x ≠ root p n x := by
  have hr : p x ≠ x := fun e => by rw [ups_of e] at h; cases h
  rw [ups_n F hx hr] at h
  rcases List.mem_cons.mp h with z | z
  · exact absurd z ne
  · intro e
    have f := root_fix F x hx
    rw [← e] at f
    rw [ups_of f] at z
    cases z
theorem need_found (F : Fo n p r) {l : List Nat} (h : ∀ x ∈ l, x < n) {v : Nat} (hv : v < n) (hn : needB n p (fndAll n l p) v = true) : v ∈ l := by
  obtain ⟨hc, ho⟩ := needB_iff.mp hn
  obtain ⟨m, _, _⟩ := behind_chg F h hv hc
  obtain ⟨x, hx, mx⟩ := mark_iff.mp m
  by_cases e : v = x
  · rw [e]; exact hx
  · have hxn := h x hx
    have hr : p x ≠ x := fun z => by rw [ups_of z] at mx; cases mx
    have bx : fndAll n l p x = root p n x := by rw [behind_eq F l h x hxn, if_pos (mark_iff.mpr ⟨x, hx, self_ups F hxn hr⟩)]
    exact absurd mx (ho x hxn (by rw [bx]; exact above_deep F hxn mx e) e)
/-- above a needed one, or needed -/
theorem need_below (F : Fo n p r) {q : Nat → Nat} (hq : ∀ v, v < n → p v = v → q v = v) : ∀ k v, n - r v ≤ k → v < n → p v ≠ q v → ∃ u, u < n ∧ needB n p q u = true ∧ v ∈ ups p n u := by
  intro k
  induction k with
  | zero => intro v hk hv _; have := F.rb v hv; omega
  | succ k ih =>
    intro v hk hv hc
    have nr : p v ≠ v := fun e => hc (by rw [hq v hv e]; exact e)
    cases hb : needB n p q v with
    | true => exact ⟨v, hv, hb, self_ups F hv nr⟩
    | false =>
      have z : ¬ (p v ≠ q v ∧ ∀ u, u < n → p u ≠ q u → v ≠ u → v ∉ ups p n u) := fun y => by rw [needB_iff.mpr y] at hb; cases hb
      have : ∃ u, u < n ∧ p u ≠ q u ∧ v ≠ u ∧ v ∈ ups p n u := by
        refine Classical.byContradiction fun y => z ⟨hc, fun u a b c d => y ⟨u, a, b, c, d⟩⟩
      obtain ⟨u, hu, cu, ne, mu⟩ := this
      have rk := ups_rank F hu mu ne
      obtain ⟨w, hw, nw, mw⟩ := ih u (by have := F.rb u hu; omega) hu cu
      exact ⟨w, hw, nw, ups_trans F w hw mw mu⟩
/-- a way: finds of the needed ones lead there -/
theorem need_leads (F : Fo n p r) {q : Nat → Nat} (hq : ∀ v, v < n → p v = v → q v = v) (W : Way n p q) (v : Nat) (hv : v < n) : fndAll n (needS n p q) p v = q v := by
  have hl : ∀ x ∈ needS n p q, x < n := fun x hx => (needS_mem.mp hx).1
  rw [behind_eq F _ hl v hv]
  by_cases m : markB n p (needS n p q) v = true
  · rw [if_pos m]
    obtain ⟨x, hx, mx⟩ := mark_iff.mp m
    have hb := needS_mem.mp hx
    exact (W x hb.1 (chg_iff.mpr (needB_iff.mp hb.2).1) v mx).symm
  · rw [if_neg m]
    refine Classical.byContradiction fun hc => ?_
    obtain ⟨u, hu, nu, mu⟩ := need_below F hq n v (by omega) hv hc
    exact m (mark_iff.mpr ⟨u, needS_mem.mpr ⟨hu, nu⟩, mu⟩)
theorem behind_root (F : Fo n p r) {l : List Nat} (h : ∀ x ∈ l, x < n) (v : Nat) (hv : v < n) (e : p v = v) : fndAll n l p v = v := by
  rw [behind_eq F l h v hv]
  split
  · exact root_of e n
  · exact e
theorem filter_single {f : Nat → Bool} {m : Nat} (hm : m < n) (h : ∀ v, v < n → (f v = true ↔ v = m)) : (List.range n).filter f = [m] := by
  have e : (List.range n).filter f = (List.range n).filter (fun v => v == m) := by
    refine List.filter_congr fun v hv => ?_
    have := h v (List.mem_range.mp hv)
    by_cases z : v = m
    · rw [this.mpr z, z]; simp
    · have y : f v = false := by
        cases hf : f v with
        | false => rfl
        | true => exact absurd (this.mp hf) z
      rw [y]; simp [z]
  rw [e]
  have c : (List.range n).filter (fun v => v == m) = List.replicate ((List.range n).count m) m := List.filter_beq _
  rw [c, (List.nodup_range (n := n)).count, if_pos (List.mem_range.mpr hm)]
  rfl
/-- all but one of the needed ones do not suffice -/
theorem rest_needs (F : Fo n p r) {q : Nat → Nat} (hq : ∀ v, v < n → p v = v → q v = v) (W : Way n p q) {rest : List Nat} {m : Nat} (hmn : m < n) (hm : needB n p q m = true)
    (hr : ∀ x ∈ rest, x ∈ needS n p q ∧ x ≠ m) (hall : ∀ x ∈ needS n p q, x = m ∨ x ∈ rest) :
    fndAll n rest p m ≠ q m ∧ Way n (fndAll n rest p) q ∧ needS n (fndAll n rest p) q = [m] := by
  have hl : ∀ x ∈ rest, x < n := fun x hx => (needS_mem.mp (hr x hx).1).1
  obtain ⟨cm, om⟩ := needB_iff.mp hm
  have C := mark_closed F hl
  have hS : ∀ v, v < n → fndAll n rest p v = after n p (markB n p rest) v := fun v hv => by rw [behind_eq F rest hl v hv]; rfl
  have G := after_fo F C
  have hm0 : markB n p rest m ≠ true := fun z => by
    obtain ⟨x, hx, mx⟩ := mark_iff.mp z
    have hb := needS_mem.mp (hr x hx).1
    exact om x hb.1 (needB_iff.mp hb.2).1 (fun e => (hr x hx).2 e.symm) mx
  have rm : fndAll n rest p m = p m := by rw [behind_eq F rest hl m hmn, if_neg hm0]
  have mchg : fndAll n rest p m ≠ q m := by rw [rm]; exact cm
  have uc : ∀ x, x < n → ups (fndAll n rest p) n x = ups (after n p (markB n p rest)) n x := fun x hx => ups_congr G.lt hS n x hx
  have rc : ∀ x, x < n → root (fndAll n rest p) n x = root p n x := fun x hx => (root_congr G.lt hS n x hx).trans (after_same_root F C x hx)
  -- what is still changed
  have still : ∀ v, v < n → fndAll n rest p v ≠ q v → markB n p rest v ≠ true ∧ p v ≠ q v ∧ v ∈ ups p n m := fun v hv hc => by
    have e := behind_eq F rest hl v hv
    by_cases mv : markB n p rest v = true
    · rw [if_pos mv] at e
      obtain ⟨x, hx, mx⟩ := mark_iff.mp mv
      have hb := needS_mem.mp (hr x hx).1
      exact absurd (e.trans (W x hb.1 (chg_iff.mpr (needB_iff.mp hb.2).1) v mx).symm) hc
    · rw [if_neg mv] at e
      have pc : p v ≠ q v := by rw [← e]; exact hc
      obtain ⟨u, hu, nu, mu⟩ := need_below F hq n v (by omega) hv pc
      rcases hall u (needS_mem.mpr ⟨hu, nu⟩) with z | z
      · exact ⟨mv, pc, z ▸ mu⟩
      · exact absurd (mark_iff.mpr ⟨u, z, mu⟩) mv
  refine ⟨mchg, fun v hv hc u hu => ?_, filter_single hmn fun v hv => ?_⟩
  · obtain ⟨_, pc, _⟩ := still v hv (chg_iff.mp hc)
    rw [uc v hv] at hu
    have hu' := (after_ups F C v hv).1 u hu
    rw [rc u (ups_lt F v hv u hu').1]
    exact W v hv (chg_iff.mpr pc) u hu'
  · rw [needB_iff]
    constructor
    · rintro ⟨hc, ho⟩
      refine Classical.byContradiction fun ne => ?_
      obtain ⟨mv, _, vm⟩ := still v hv hc
      refine ho m hmn mchg ne ?_
      rw [uc m hmn]
      exact ((after_ups F C m hmn).2 v vm).resolve_left mv
    · rintro rfl
      refine ⟨mchg, fun u hu hc ne hm2 => ?_⟩
      obtain ⟨_, _, um⟩ := still u hu hc
      rw [uc u hu] at hm2
      have a := ups_rank F hu ((after_ups F C u hu).1 v hm2) ne
      have b := ups_rank F hmn um (fun e => ne e.symm)
      omega
end
end Ff
namespace Ff
section
variable {n : Nat} {p r : Nat → Nat}
theorem fndAll_append (n : Nat) : ∀ (l m : List Nat) (p : Nat → Nat), fndAll n (l ++ m) p = fndAll n m (fndAll n l p)
  | [], _, _ => rfl
  | x :: l, m, p => fndAll_append n l m (fnd n p x)
theorem behind_same_root (F : Fo n p r) {l : List Nat} (h : ∀ x ∈ l, x < n) (v : Nat) (hv : v < n) : root (fndAll n l p) n v = root p n v := by
  have C := mark_closed F h
  have hS : ∀ v, v < n → fndAll n l p v = after n p (markB n p l) v := fun v hv => by rw [behind_eq F l h v hv]; rfl
  exact (root_congr (after_fo F C).lt hS n v hv).trans (after_same_root F C v hv)
theorem behind_ups (F : Fo n p r) {l : List Nat} (h : ∀ x ∈ l, x < n) {x v : Nat} (hx : x < n) (hv : v ∈ ups (fndAll n l p) n x) : v ∈ ups p n x := by
  have C := mark_closed F h
  have hS : ∀ v, v < n → fndAll n l p v = after n p (markB n p l) v := fun v hv => by rw [behind_eq F l h v hv]; rfl
  rw [ups_congr (after_fo F C).lt hS n x hx] at hv
  exact (after_ups F C x hx).1 v hv
/-- a node keeps its parent or hangs on its root -/
theorem behind_or (F : Fo n p r) {l : List Nat} (h : ∀ x ∈ l, x < n) (v : Nat) (hv : v < n) : fndAll n l p v = p v ∨ fndAll n l p v = root p n v := by
  rw [behind_eq F l h v hv]
  split
  · exact .inr rfl
  · exact .inl rfl
/-- what is needed over two ways is needed over one of them -/
theorem need_two (F : Fo n p r) {l m : List Nat} (hl : ∀ x ∈ l, x < n) (hm : ∀ x ∈ m, x < n) {v : Nat} (hv : v < n) (hn : needB n p (fndAll n m (fndAll n l p)) v = true) :
    needB n p (fndAll n l p) v = true ∨ needB n (fndAll n l p) (fndAll n m (fndAll n l p)) v = true := by
  have G : Fo n (fndAll n l p) r := fndAll_fo F l hl p F
  obtain ⟨hc, ho⟩ := needB_iff.mp hn
  -- once on the root, always on the root
  have stay : ∀ u, u < n → fndAll n l p u = root p n u → fndAll n m (fndAll n l p) u = root p n u := fun u hu e => by
    rcases behind_or G hm u hu with z | z
    · rw [z, e]
    · rw [z, behind_same_root F hl u hu]
  by_cases h1 : p v = fndAll n l p v
  · refine .inr (needB_iff.mpr ⟨by rw [← h1]; exact hc, fun u hu hcu ne hmu => ?_⟩)
    refine ho u hu ?_ ne (behind_ups F hl hu hmu)
    rcases behind_or F hl u hu with z | z
    · rw [← z]; exact hcu
    · exact absurd (z.trans (stay u hu z).symm) hcu
  · refine .inl (needB_iff.mpr ⟨h1, fun u hu hcu ne hmu => ?_⟩)
    refine ho u hu ?_ ne hmu
    have z := (behind_or F hl u hu).resolve_left (fun e => hcu e.symm)
    rw [stay u hu z, ← z]; exact hcu
theorem flat_fo (F : Fo n p r) : Fo n (fun v => root p n v) r where
  lt := root_lt F
  up := root_rank F
  rb := F.rb
theorem flat_way (F : Fo n p r) : Way n p (fun v => root p n v) := fun _ _ _ _ _ => rfl
theorem flat_roots (F : Fo n p r) (v : Nat) (hv : v < n) : p v = v ↔ root p n v = v :=
  ⟨fun e => root_of e n, fun e => Classical.byContradiction fun z => root_ne F hv z e⟩
theorem flat_ups (F : Fo n p r) (v : Nat) (hv : v < n) : (ups (fun v => root p n v) n v).length ≤ 1 := by
  by_cases e : root p n v = v
  · rw [ups_of (p := fun v => root p n v) e]; exact Nat.zero_le _
  · rw [ups_n (flat_fo F) hv e]
    have f : root p n (root p n v) = root p n v := root_of (root_fix F v hv) n
    rw [ups_of (p := fun v => root p n v) f]
    exact Nat.le_refl _
theorem deep_chg (F : Fo n p r) (v : Nat) (hv : v < n) : decide (2 ≤ (ups p n v).length) = chg p (fun v => root p n v) v := by
  unfold chg
  refine decide_eq_decide.mpr ?_
  show 2 ≤ (ups p n v).length ↔ p v ≠ root p n v
  by_cases e : p v = v
  · rw [ups_of e, root_of e]; simp [e]
  · rw [ups_n F hv e, root_n F hv e, List.length_cons]
    constructor
    · intro h z
      rw [ups_of (by rw [z]; exact root_fix F (p v) (F.lt v hv))] at h
      simp at h
    · intro h
      have e2 : p (p v) ≠ p v := fun z => h (root_of z n).symm
      rw [ups_n F (F.lt v hv) e2, List.length_cons]; omega
/-- no way back -/
theorem no_way_back (F : Fo n p r) {l : List Nat} (hl : ∀ x ∈ l, x < n) : Way n (fndAll n l p) p ↔ ∀ v, v < n → p v = fndAll n l p v := by
  have G : Fo n (fndAll n l p) r := fndAll_fo F l hl p F
  constructor
  · intro W v hv
    refine Classical.byContradiction fun hc => ?_
    have z := (behind_or F hl v hv).resolve_left (fun e => hc e.symm)
    have nr : fndAll n l p v ≠ v := by
      intro e
      rw [z] at e
      have pr : p v = v := by
        have y := root_fix F v hv
        rw [e] at y; exact y
      exact hc (by rw [z, e, pr])
    have := W v hv (chg_iff.mpr fun e => hc e.symm) v (self_ups G hv nr)
    rw [behind_same_root F hl v hv, ← z] at this
    exact hc this
  · intro h v hv hc
    exact absurd (h v hv).symm (chg_iff.mp hc)
end
end Ff

/-! Forests by any falling measure; a parent exchanged. -/
namespace Ff
section
variable {n : Nat} {p ρ : Nat → Nat}
theorem bounded (ρ : Nat → Nat) : ∀ n, ∃ M, ∀ v, v < n → ρ v ≤ M
  | 0 => ⟨0, fun v h => by omega⟩
  | n + 1 => by
    obtain ⟨M, h⟩ := bounded ρ n
    refine ⟨M + ρ n, fun v hv => ?_⟩
    by_cases e : v = n
    · rw [e]; omega
    · have := h v (by omega); omega
theorem upsW (hl : ∀ x, x < n → p x < n) (hu : ∀ x, x < n → p x = x ∨ ρ (p x) < ρ x) : ∀ (k x : Nat), x < n → ρ x ≤ k → ups p (k + 1) x = ups p k x
  | k, x, hx, hr => by
    by_cases h : p x = x
    · rw [ups_of h, ups_of h]
    · have u := (hu x hx).resolve_left h
      cases k with
      | zero => omega
      | succ k => rw [ups_step h, ups_step h]; rw [upsW hl hu k (p x) (hl x hx) (by omega)]
theorem ups_memW (hl : ∀ x, x < n → p x < n) (hu : ∀ x, x < n → p x = x ∨ ρ (p x) < ρ x) : ∀ (k x : Nat), x < n → ∀ v ∈ ups p k x, v < n ∧ p v ≠ v ∧ ρ v ≤ ρ x
  | 0, x, hx, v, hv => by cases hv
  | k + 1, x, hx, v, hv => by
    by_cases h : p x = x
    · rw [ups_of h] at hv; cases hv
    · have u := (hu x hx).resolve_left h
      rw [ups_step h] at hv
      rcases List.mem_cons.mp hv with e | e
      · subst e; exact ⟨hx, h, Nat.le_refl _⟩
      · have z := ups_memW hl hu k (p x) (hl x hx) v e
        exact ⟨z.1, z.2.1, by omega⟩
theorem ups_nodupW (hl : ∀ x, x < n → p x < n) (hu : ∀ x, x < n → p x = x ∨ ρ (p x) < ρ x) : ∀ (k x : Nat), x < n → (ups p k x).Nodup
  | 0, x, hx => List.nodup_nil
  | k + 1, x, hx => by
    by_cases h : p x = x
    · rw [ups_of h]; exact List.nodup_nil
    · have u := (hu x hx).resolve_left h
      rw [ups_step h]
      refine List.nodup_cons.mpr ⟨fun hm => ?_, ups_nodupW hl hu k (p x) (hl x hx)⟩
      have := (ups_memW hl hu k (p x) (hl x hx) x hm).2.2
      omega
theorem nodup_len {l : List Nat} (nd : l.Nodup) (h : ∀ v ∈ l, v < n) {w : Nat} (hw : w < n) (ho : w ∉ l) : l.length < n := by
  have P : (w :: l).Perm ((List.range n).filter fun v => (w :: l).contains v) := by
    refine (List.perm_ext_iff_of_nodup (List.nodup_cons.mpr ⟨ho, nd⟩) (List.Nodup.sublist List.filter_sublist List.nodup_range)).mpr fun v => ?_
    rw [List.mem_filter, List.mem_range, List.contains_iff_mem]
    refine ⟨fun z => ⟨?_, z⟩, fun z => z.2⟩
    rcases List.mem_cons.mp z with y | y
    · rw [y]; exact hw
    · exact h v y
  have e := P.length_eq
  rw [List.length_cons] at e
  have := List.length_filter_le (fun v => (w :: l).contains v) (List.range n)
  rw [List.length_range] at this
  omega
/-- any falling measure makes a forest -/
theorem fo_of_weak (hl : ∀ x, x < n → p x < n) (hu : ∀ x, x < n → p x = x ∨ ρ (p x) < ρ x) : ∃ r, Fo n p r := by
  obtain ⟨M, hM⟩ := bounded ρ n
  have st : ∀ x, x < n → p x ≠ x → ups p M x = x :: ups p M (p x) := fun x hx h => by
    rw [← upsW hl hu M x hx (hM x hx), ups_step h]
  refine ⟨fun v => (ups p M v).length, hl, fun x hx => ?_, fun x hx => ?_⟩
  · by_cases h : p x = x
    · exact .inl h
    · refine .inr ?_
      show (ups p M (p x)).length < (ups p M x).length
      rw [st x hx h, List.length_cons]; omega
  · -- some root is not on the way
    have : ∀ k x, x < n → ρ x ≤ k → p (root p k x) = root p k x ∧ root p k x < n := by
      intro k
      induction k with
      | zero =>
        intro x hx hr
        rcases hu x hx with z | z
        · exact ⟨z, hx⟩
        · omega
      | succ k ih =>
        intro x hx hr
        by_cases h : p x = x
        · rw [root_of h]; exact ⟨h, hx⟩
        · rw [root_step h]
          exact ih (p x) (hl x hx) (by have := (hu x hx).resolve_left h; omega)
    obtain ⟨h1, h2⟩ := this M x hx (hM x hx)
    exact nodup_len (ups_nodupW hl hu M x hx) (fun v hv => (ups_memW hl hu M x hx v hv).1) h2 (fun hm => (ups_memW hl hu M x hx _ hm).2.1 h1)
end
/-- a node hung on one that is not below it -/
theorem exchange_fo {n : Nat} {p r : Nat → Nat} (F : Fo n p r) {a b : Nat} (ha : a < n) (hb : b < n) (hr : p a ≠ a) (hn : a ∉ path p n b) : ∃ r', Fo n (fun v => if v = a then b else p v) r' := by
  -- below a, and a itself, go beyond b
  let low : Nat → Bool := fun v => decide (a ∈ path p n v)
  have lowa : low a = true := decide_eq_true (by unfold path; exact List.mem_append_left _ (self_ups F ha hr))
  have lowb : low b = false := decide_eq_false hn
  have pathn : ∀ v, v < n → p v ≠ v → path p n v = v :: path p n (p v) := fun v hv h => by
    unfold path; rw [ups_n F hv h, root_n F hv h]; rfl
  have step : ∀ v, v < n → v ≠ a → p v ≠ v → low (p v) = low v := fun v hv ne h => by
    show decide (a ∈ path p n (p v)) = decide (a ∈ path p n v)
    rw [pathn v hv h]
    refine decide_eq_decide.mpr ⟨fun z => List.mem_cons_of_mem _ z, fun z => ?_⟩
    rcases List.mem_cons.mp z with y | y
    · exact absurd y.symm ne
    · exact y
  refine fo_of_weak (ρ := fun v => if low v = true then r v + n else r v) (fun x hx => ?_) (fun x hx => ?_)
  · show (if x = a then b else p x) < n
    split
    · exact hb
    · exact F.lt x hx
  · by_cases e : x = a
    · subst e
      refine .inr ?_
      show (if low (if x = x then b else p x) = true then r (if x = x then b else p x) + n else r (if x = x then b else p x)) < (if low x = true then r x + n else r x)
      rw [if_pos rfl, lowb, lowa, if_pos rfl, if_neg (by decide)]
      have := F.rb b hb
      omega
    · show (if x = a then b else p x) = x ∨ (if low (if x = a then b else p x) = true then r (if x = a then b else p x) + n else r (if x = a then b else p x)) < (if low x = true then r x + n else r x)
      rw [if_neg e]
      by_cases h : p x = x
      · exact .inl h
      · have u := (F.up x hx).resolve_left h
        refine .inr ?_
        rw [step x hx e h]
        cases low x <;> simp <;> omega
theorem exchange_root {n : Nat} {p : Nat → Nat} {a b : Nat} (hr : p a ≠ a) (ne : b ≠ a) (v : Nat) : (if v = a then b else p v) = v ↔ p v = v := by
  by_cases e : v = a
  · subst e
    rw [if_pos rfl]
    exact ⟨fun z => absurd z ne, fun z => absurd z hr⟩
  · rw [if_neg e]
end Ff

/-! Falling products and choices. -/
namespace Ff
def fallN (s : Int) : Nat → Int
  | 0 => 1
  | k + 1 => fallN s k * (if s - (k : Int) > 0 then s - (k : Int) else 0)
def fall (s c : Int) : Int := if c < 0 then 0 else fallN s c.toNat
def binom (s c : Int) : Int := if c < 0 then 0 else fall s c / fall c c
def choose : Nat → Nat → Nat
  | _, 0 => 1
  | 0, _ + 1 => 0
  | n + 1, k + 1 => choose n k + choose n (k + 1)
def fact : Nat → Nat
  | 0 => 1
  | k + 1 => (k + 1) * fact k
theorem fact_pos : ∀ k, 0 < fact k
  | 0 => Nat.one_pos
  | k + 1 => Nat.mul_pos (Nat.succ_pos k) (fact_pos k)
theorem choose_zero (n : Nat) : choose n 0 = 1 := by cases n <;> rfl
/-- (n + 1 choose k + 1) (k + 1) = (n + 1) (n choose k) -/
theorem choose_succ : ∀ n k, choose (n + 1) (k + 1) * (k + 1) = (n + 1) * choose n k
  | 0, 0 => rfl
  | 0, k + 1 => by show (0 + 0) * (k + 1 + 1) = (0 + 1) * 0; simp
  | n + 1, 0 => by
    have h := choose_succ n 0
    rw [choose_zero] at h
    rw [choose_zero]
    show (choose (n + 1) 0 + choose (n + 1) (0 + 1)) * (0 + 1) = (n + 1 + 1) * 1
    rw [choose_zero]
    omega
  | n + 1, k + 1 => by
    have h1 := choose_succ n k
    have h2 := choose_succ n (k + 1)
    show (choose (n + 1) (k + 1) + choose (n + 1) (k + 1 + 1)) * (k + 1 + 1) = (n + 1 + 1) * choose (n + 1) (k + 1)
    have e : choose (n + 1) (k + 1) = choose n k + choose n (k + 1) := rfl
    have e1 : choose (n + 1) (k + 1) * (k + 1 + 1) = (n + 1) * choose n k + choose (n + 1) (k + 1) := by rw [Nat.mul_add, Nat.mul_one, h1]
    have e2 : (n + 1 + 1) * choose (n + 1) (k + 1) = ((n + 1) * choose n k + (n + 1) * choose n (k + 1)) + choose (n + 1) (k + 1) := by rw [Nat.add_mul, Nat.one_mul, e, Nat.mul_add]
    rw [Nat.add_mul, h2, e1, e2]
    generalize (n + 1) * choose n k = x
    generalize (n + 1) * choose n (k + 1) = y
    omega
theorem fall_rec (n : Nat) : ∀ k : Nat, fallN ((n + 1 : Nat) : Int) (k + 1) = ((n + 1 : Nat) : Int) * fallN (n : Int) k
  | 0 => by
    show 1 * (if ((n + 1 : Nat) : Int) - ((0 : Nat) : Int) > 0 then ((n + 1 : Nat) : Int) - ((0 : Nat) : Int) else 0) = ((n + 1 : Nat) : Int) * 1
    rw [if_pos (by omega)]; omega
  | k + 1 => by
    show fallN ((n + 1 : Nat) : Int) (k + 1) * (if ((n + 1 : Nat) : Int) - ((k + 1 : Nat) : Int) > 0 then ((n + 1 : Nat) : Int) - ((k + 1 : Nat) : Int) else 0) = ((n + 1 : Nat) : Int) * (fallN (n : Int) k * (if (n : Int) - (k : Int) > 0 then (n : Int) - (k : Int) else 0))
    rw [fall_rec n k, Int.mul_assoc]
    congr 2
    rw [show ((n + 1 : Nat) : Int) - ((k + 1 : Nat) : Int) = (n : Int) - (k : Int) by omega]
theorem fall_choose : ∀ k n : Nat, fallN (n : Int) k = ((choose n k * fact k : Nat) : Int)
  | 0, n => by show (1 : Int) = ((choose n 0 * fact 0 : Nat) : Int); cases n <;> rfl
  | k + 1, 0 => by
    show fallN 0 k * (if ((0 : Nat) : Int) - (k : Int) > 0 then ((0 : Nat) : Int) - (k : Int) else 0) = ((0 * fact (k + 1) : Nat) : Int)
    rw [if_neg (by omega), Int.mul_zero, Nat.zero_mul]; rfl
  | k + 1, n + 1 => by
    rw [fall_rec, fall_choose k n]
    have h := choose_succ n k
    show ((n + 1 : Nat) : Int) * ((choose n k * fact k : Nat) : Int) = ((choose (n + 1) (k + 1) * ((k + 1) * fact k) : Nat) : Int)
    rw [← Int.natCast_mul, ← Nat.mul_assoc, ← Nat.mul_assoc, h]
theorem choose_self : ∀ n, choose n n = 1 ∧ ∀ k, n < k → choose n k = 0
  | 0 => ⟨rfl, fun k h => by cases k with | zero => omega | succ k => rfl⟩
  | n + 1 => by
    have ih := choose_self n
    refine ⟨?_, fun k h => ?_⟩
    · show choose n n + choose n (n + 1) = 1
      rw [ih.1, ih.2 (n + 1) (by omega)]
    · cases k with
      | zero => omega
      | succ k => show choose n k + choose n (k + 1) = 0; rw [ih.2 k (by omega), ih.2 (k + 1) (by omega)]
theorem binom_nat (n k : Nat) : binom (n : Int) (k : Int) = (choose n k : Int) := by
  unfold binom fall
  rw [if_neg (by omega), if_neg (by omega), if_neg (by omega), Int.toNat_natCast, fall_choose, fall_choose, (choose_self k).1, Nat.one_mul, Int.natCast_mul]
  exact Int.mul_ediv_cancel _ (by have := fact_pos k; omega)
/-- sums of neighbours -/
theorem pascal (s c : Int) (h : 0 < s) : binom s c = binom (s - 1) (c - 1) + binom (s - 1) c := by
  obtain ⟨n, rfl⟩ : ∃ n : Nat, s = ((n + 1 : Nat) : Int) := ⟨(s - 1).toNat, by omega⟩
  rw [show ((n + 1 : Nat) : Int) - 1 = (n : Int) by omega]
  by_cases hc : c < 0
  · unfold binom
    rw [if_pos hc, if_pos (by omega), if_pos hc]; rfl
  · by_cases h0 : c = 0
    · subst h0
      have e1 := binom_nat (n + 1) 0
      have e2 := binom_nat n 0
      have e3 : binom (n : Int) (0 - 1) = 0 := by unfold binom; rw [if_pos (by omega)]
      rw [e3]
      rw [choose_zero] at e1 e2
      show binom ((n + 1 : Nat) : Int) ((0 : Nat) : Int) = 0 + binom (n : Int) ((0 : Nat) : Int)
      rw [e1, e2]; rfl
    · obtain ⟨k, rfl⟩ : ∃ k : Nat, c = ((k + 1 : Nat) : Int) := ⟨(c - 1).toNat, by omega⟩
      rw [show ((k + 1 : Nat) : Int) - 1 = (k : Int) by omega, binom_nat, binom_nat, binom_nat]
      show ((choose n k + choose n (k + 1) : Nat) : Int) = _
      omega
end Ff

namespace Ff
theorem nodup_le : ∀ (m : Nat) (l : List Nat), l.Nodup → (∀ x ∈ l, x < m) → l.length ≤ m
  | 0, l, _, h => by
    cases l with
    | nil => exact Nat.le_refl _
    | cons a r => exact absurd (h a List.mem_cons_self) (by omega)
  | m + 1, l, hn, h => by
    have ih := nodup_le m (l.erase m) (hn.erase m) fun x hx => by
      have z := (hn.mem_erase_iff (a := x) (b := m)).mp hx
      have := h x z.2
      omega
    have e := List.length_erase (a := m) (l := l)
    split at e <;> omega
/-- the root c hung on a -/
def lnk (p : Nat → Nat) (c a : Nat) : Nat → Nat := fun v => if v = c then a else p v
section
variable {n : Nat} {p r : Nat → Nat}
def lnkR (n : Nat) (p : Nat → Nat) (c : Nat) : Nat → Nat := fun x => (ups p n x).length + if root p n x = c then 1 else 0
theorem lnk_fo (F : Fo n p r) {c a : Nat} (hc : c < n) (ha : a < n) (pc : p c = c) (pa : p a = a) (ne : c ≠ a) : Fo n (lnk p c a) (lnkR n p c) where
  lt := fun x hx => by
    unfold lnk
    split
    · exact ha
    · exact F.lt x hx
  up := fun x hx => by
    unfold lnk
    by_cases e : x = c
    · rw [if_pos e]
      right
      unfold lnkR
      rw [e, ups_of pa, ups_of pc, root_of pa, root_of pc, if_neg (Ne.symm ne), if_pos rfl]
      decide
    · rw [if_neg e]
      by_cases h : p x = x
      · exact .inl h
      · right
        unfold lnkR
        rw [ups_n F hx h, root_n F hx h, List.length_cons]
        omega
  rb := fun x hx => by
    unfold lnkR
    have h1 := ups_lt F x hx
    have h2 := ups_nodup F x hx
    by_cases e : root p n x = c
    · rw [if_pos e]
      have h := nodup_le n (ups p n x ++ [c, a]) (by
        refine List.nodup_append.mpr ⟨h2, by simp [ne], fun y hy z hz e2 => ?_⟩
        have := (h1 y hy).2.1
        rw [e2] at this
        rcases List.mem_cons.mp hz with z1 | z1
        · rw [z1] at this; exact this pc
        · rw [List.mem_singleton.mp z1] at this; exact this pa) fun y hy => by
        rcases List.mem_append.mp hy with z | z
        · exact (h1 y z).1
        · rcases List.mem_cons.mp z with z1 | z1
          · rw [z1]; exact hc
          · rw [List.mem_singleton.mp z1]; exact ha
      rw [List.length_append] at h
      simp at h
      omega
    · rw [if_neg e]
      have := ups_len F x hx
      have := F.rb x hx
      omega
theorem lnk_root (F : Fo n p r) {c a : Nat} (hc : c < n) (ha : a < n) (pc : p c = c) (pa : p a = a) (ne : c ≠ a) : ∀ x, x < n → root (lnk p c a) n x = if root p n x = c then a else root p n x := by
  have F2 := lnk_fo F hc ha pc pa ne
  have qa : lnk p c a a = a := by unfold lnk; rw [if_neg (Ne.symm ne)]; exact pa
  refine F.ind (fun x hx h => ?_) (fun x hx h ih => ?_)
  · rw [root_of h]
    by_cases e : x = c
    · have qx : lnk p c a x = a := by unfold lnk; rw [if_pos e]
      rw [if_pos e, root_n F2 hx (by rw [qx, e]; exact Ne.symm ne), qx, root_of qa]
    · rw [if_neg e]
      exact root_of (by unfold lnk; rw [if_neg e]; exact h) n
  · have e : x ≠ c := fun z => h (by rw [z]; exact pc)
    have qx : lnk p c a x = p x := by unfold lnk; rw [if_neg e]
    rw [root_n F2 hx (by rw [qx]; exact h), qx, ih, root_n F hx h]
end
/-- which error a root asks for -/
def chkE (n : Nat) (p : Nat → Nat) (x : Int) : Option Bool := if 0 ≤ x ∧ x < (n : Int) then (if p x.toNat = x.toNat then none else some true) else some false
end Ff

namespace Ff
/-- the first of a filter -/
theorem filt_first {n i : Nat} {g : Nat → Bool} (hi : i < n) (h0 : ∀ v, v < i → g v = false) (h1 : g i = true) : ∃ rest, (List.range n).filter g = i :: rest := by
  obtain ⟨k, rfl⟩ : ∃ k, n = i + 1 + k := ⟨n - (i + 1), by omega⟩
  have e : (List.range (i + 1 + k)).filter g = (List.range (i + 1)).filter g ++ ((List.range k).map (i + 1 + ·)).filter g := by
    rw [List.range_add, List.filter_append]
  have e2 : (List.range (i + 1)).filter g = [i] := by
    rw [List.range_succ, List.filter_append]
    have : (List.range i).filter g = [] := List.filter_eq_nil_iff.mpr fun v hv => by rw [h0 v (List.mem_range.mp hv)]; simp
    rw [this]
    simp [List.filter, h1]
  rw [e, e2]
  exact ⟨_, rfl⟩
theorem filt_none {n : Nat} {g : Nat → Bool} (h : ∀ v, v < n → g v = false) : (List.range n).filter g = [] := List.filter_eq_nil_iff.mpr fun v hv => by rw [h v (List.mem_range.mp hv)]; simp
section
variable {n : Nat} {p : Nat → Nat}
def fixB (p : Nat → Nat) (y : Nat) : Bool := decide (p y = y)
theorem root_stay {k x : Nat} (h : p (root p k x) = root p k x) : ∀ j, root p (k + j) x = root p k x
  | 0 => rfl
  | j + 1 => by rw [Nat.add_succ, root_succ, root_stay h j]; exact h
theorem root_add (x : Nat) (i : Nat) : ∀ j, root p (i + j) x = root p j (root p i x)
  | 0 => rfl
  | j + 1 => by rw [Nat.add_succ, root_succ, root_succ, root_add x i j]
/-- what is fixed after n steps is fixed before -/
theorem fix_before (hl : ∀ v, v < n → p v < n) {x : Nat} (hx : x < n) (h : p (root p n x) = root p n x) : ∃ j, j < n ∧ p (root p j x) = root p j x := by
  -- two of n + 1 places are one node
  have pig : ∃ i j, i < j ∧ j ≤ n ∧ root p i x = root p j x := by
    refine Classical.byContradiction fun no => ?_
    have nd : ((List.range (n + 1)).map fun k => root p k x).Nodup := by
      unfold List.Nodup
      rw [List.pairwise_map]
      refine List.Pairwise.imp_of_mem (fun {a b} ha hb lt e => no ⟨a, b, lt, by have := List.mem_range.mp hb; omega, e⟩) (List.pairwise_lt_range)
    have := nodup_le n _ nd fun y hy => by
      obtain ⟨k, _, rfl⟩ := List.mem_map.mp hy
      exact root_lt0 hl k x hx
    rw [List.length_map, List.length_range] at this
    omega
  obtain ⟨i, j, hij, hj, e⟩ := pig
  refine ⟨i, by omega, ?_⟩
  have per : ∀ t, root p (i + t * (j - i)) x = root p i x := fun t => by
    induction t with
    | zero => simp
    | succ t ih =>
      have e1 : i + (t + 1) * (j - i) = (i + t * (j - i)) + (j - i) := by rw [Nat.succ_mul]; omega
      rw [e1, root_add, ih, ← root_add, show i + (j - i) = j by omega, e]
  have big : n ≤ i + n * (j - i) := by
    have : n * 1 ≤ n * (j - i) := Nat.mul_le_mul_left n (by omega)
    omega
  obtain ⟨m, hm⟩ : ∃ m, i + n * (j - i) = n + m := ⟨i + n * (j - i) - n, by omega⟩
  have z := per n
  rw [hm, root_stay h m] at z
  rw [← z]; exact h
end
/-- a row of integers as parents -/
def par (xs : List Int) : Nat → Nat := fun v => (xs.getD v 0).toNat
def wideB (xs : List Int) (v : Nat) : Bool := !(decide (0 ≤ xs.getD v 0) && decide (xs.getD v 0 < (xs.length : Int)))
def wideL (xs : List Int) : List Nat := (List.range xs.length).filter (wideB xs)
def ringB (n : Nat) (p : Nat → Nat) (v : Nat) : Bool := !decide (p (root p n v) = root p n v)
def ringsL (xs : List Int) : List Nat := (List.range xs.length).filter (ringB xs.length (par xs))
/-- 0: none; 1: TooManyNodes; 2: BadParent; 3: Cycle -/
inductive Ver
  | ok
  | many
  | bad (v : Nat)
  | cyc (v : Nat)
def verdict (xs : List Int) : Ver := if 40 < xs.length then .many else match wideL xs with
  | v :: _ => .bad v
  | [] => match ringsL xs with
    | v :: _ => .cyc v
    | [] => .ok
theorem wide_iff {xs : List Int} {v : Nat} : wideB xs v = false ↔ 0 ≤ xs.getD v 0 ∧ xs.getD v 0 < (xs.length : Int) := by
  unfold wideB
  rw [Bool.not_eq_false', Bool.and_eq_true, decide_eq_true_iff, decide_eq_true_iff]
theorem par_lt {xs : List Int} (h : ∀ v, v < xs.length → wideB xs v = false) : ∀ v, v < xs.length → par xs v < xs.length := fun v hv => by
  have := wide_iff.mp (h v hv)
  unfold par
  omega
end Ff

namespace Ff
theorem ups_fix (p : Nat → Nat) : ∀ (j k x : Nat), j ≤ k → p (root p j x) = root p j x → ups p k x = ups p j x ∧ (ups p j x).length ≤ j
  | 0, k, x, _, h => by
    have h' : p x = x := h
    refine ⟨?_, Nat.le_refl _⟩
    cases k with
    | zero => rfl
    | succ k =>
      show (if p x = x then [] else x :: ups p k (p x)) = []
      rw [if_pos h']
  | j + 1, 0, x, hk, _ => by omega
  | j + 1, k + 1, x, hk, h => by
    by_cases e : p x = x
    · have a : ups p (k + 1) x = [] := by
        show (if p x = x then [] else x :: ups p k (p x)) = []
        rw [if_pos e]
      have b : ups p (j + 1) x = [] := by
        show (if p x = x then [] else x :: ups p j (p x)) = []
        rw [if_pos e]
      rw [a, b]
      exact ⟨rfl, Nat.zero_le _⟩
    · have a : ups p (k + 1) x = x :: ups p k (p x) := by
        show (if p x = x then [] else x :: ups p k (p x)) = _
        rw [if_neg e]
      have b : ups p (j + 1) x = x :: ups p j (p x) := by
        show (if p x = x then [] else x :: ups p j (p x)) = _
        rw [if_neg e]
      have c : root p (j + 1) x = root p j (p x) := by
        show (if p x = x then x else root p j (p x)) = _
        rw [if_neg e]
      rw [c] at h
      obtain ⟨i1, i2⟩ := ups_fix p j k (p x) (by omega) h
      rw [a, b, i1]
      exact ⟨rfl, by rw [List.length_cons]; omega⟩
/-- a row without a ring is a forest -/
theorem fo_of {n : Nat} {p : Nat → Nat} (hl : ∀ v, v < n → p v < n) (hr : ∀ v, v < n → p (root p n v) = root p n v) : Fo n p (fun v => (ups p n v).length) := by
  refine ⟨hl, fun x hx => ?_, fun x hx => ?_⟩
  · by_cases e : p x = x
    · exact .inl e
    · refine .inr ?_
      obtain ⟨j, hj, h⟩ := fix_before hl hx (hr x hx)
      cases j with
      | zero => exact absurd h e
      | succ j =>
        have c : root p (j + 1) x = root p j (p x) := by
          show (if p x = x then x else root p j (p x)) = _
          rw [if_neg e]
        rw [c] at h
        obtain ⟨m, rfl⟩ : ∃ m, n = m + 1 := ⟨n - 1, by omega⟩
        have a : ups p (m + 1) x = x :: ups p m (p x) := by
          show (if p x = x then [] else x :: ups p m (p x)) = _
          rw [if_neg e]
        have b1 := (ups_fix p j m (p x) (by omega) h).1
        have b2 := (ups_fix p j (m + 1) (p x) (by omega) h).1
        show (ups p (m + 1) (p x)).length < (ups p (m + 1) x).length
        rw [a, b2, b1, List.length_cons]
        omega
  · obtain ⟨j, hj, h⟩ := fix_before hl hx (hr x hx)
    obtain ⟨b1, b2⟩ := ups_fix p j n x (by omega) h
    show (ups p n x).length < n
    rw [b1]
    omega
theorem ver_ok {xs : List Int} : verdict xs = .ok ↔ xs.length ≤ 40 ∧ (∀ v, v < xs.length → wideB xs v = false) ∧ ∀ v, v < xs.length → ringB xs.length (par xs) v = false := by
  unfold verdict
  by_cases h : 40 < xs.length
  · rw [if_pos h]
    constructor
    · intro z; cases z
    · intro z; omega
  · rw [if_neg h]
    constructor
    · intro z
      refine ⟨by omega, ?_, ?_⟩
      · cases e : wideL xs with
        | cons v r => rw [e] at z; cases z
        | nil =>
          intro v hv
          have := List.filter_eq_nil_iff.mp e v (List.mem_range.mpr hv)
          simpa using this
      · cases e : wideL xs with
        | cons v r => rw [e] at z; cases z
        | nil =>
          rw [e] at z
          cases e2 : ringsL xs with
          | cons v r => rw [e2] at z; cases z
          | nil =>
            intro v hv
            have := List.filter_eq_nil_iff.mp e2 v (List.mem_range.mpr hv)
            simpa using this
    · rintro ⟨_, h1, h2⟩
      have e1 : wideL xs = [] := filt_none h1
      have e2 : ringsL xs = [] := filt_none h2
      rw [e1, e2]
end Ff

/-! Numbers of forests, and all rows of few nodes. -/
namespace Ff
/-- the number of forests whose roots are r given nodes -/
def cfN (n r : Nat) : Nat := if r ≤ n then (if r = n then 1 else r * n ^ (n - r - 1)) else 0
def cfI (n : Nat) (r : Int) : Int := if 0 ≤ r ∧ r ≤ (n : Int) then (cfN n r.toNat : Int) else 0
/-- the law's own sum, layer by layer: the total and the choices -/
def layN (rest many : Nat) : Nat → Nat × Nat
  | 0 => (0, 1)
  | k + 1 => let s := layN rest many k; (s.1 + s.2 * cfN rest k, s.2 * (rest - k) * many / (k + 1))
def layOk (far : Nat) : Bool := (List.range far).all fun m => (layN (far - (m + 1)) (m + 1) (far - (m + 1) + 1)).1 == cfN far (m + 1)
theorem lay_all : ∀ far, far < 61 → layOk far = true := by decide +kernel
theorem lay_cf {far many : Nat} (h1 : 1 ≤ many) (h2 : many ≤ far) (h3 : far ≤ 60) : (layN (far - many) many (far - many + 1)).1 = cfN far many := by
  have := List.all_eq_true.mp (lay_all far (by omega)) (many - 1) (List.mem_range.mpr (by omega))
  rw [show many - 1 + 1 = many by omega] at this
  exact beq_iff_eq.mp this
end Ff

namespace Ff
/-- all rows of i numbers below n -/
def rowsM (n : Nat) : Nat → List (List Nat)
  | 0 => [[]]
  | i + 1 => (rowsM n i).flatMap fun row => (List.range n).map fun v => row ++ [v]
def parN (row : List Nat) : Nat → Nat := fun v => row.getD v 0
def noRing (n : Nat) (row : List Nat) : Bool := (List.range n).all fun v => decide (parN row (root (parN row) n v) = root (parN row) n v)
def forM (n : Nat) : List (List Nat) := (rowsM n n).filter (noRing n)
def rootN (n : Nat) (row : List Nat) : List Nat := (List.range n).filter fun v => decide (parN row v = v)
def treM (n : Nat) : List (List Nat) := (forM n).filter fun row => decide ((rootN n row).length = 1)
def cntOk (n : Nat) : Bool := (List.range 8).all (fun r => ((forM n).filter fun row => decide (rootN n row = List.range r)).length == cfN n r) && ((treM n).length == n * cfN n 1)
theorem cnt_all : ∀ n, n < 6 → cntOk n = true := by decide +kernel
theorem cnt_cf {n r : Nat} (h : n ≤ 5) (hr : r ≤ 7) : ((forM n).filter fun row => decide (rootN n row = List.range r)).length = cfN n r := by
  have := cnt_all n (by omega)
  unfold cntOk at this
  rw [Bool.and_eq_true, List.all_eq_true] at this
  exact beq_iff_eq.mp (this.1 r (List.mem_range.mpr (by omega)))
theorem cnt_tr {n : Nat} (h : n ≤ 5) : (treM n).length = n * cfN n 1 := by
  have := cnt_all n (by omega)
  unfold cntOk at this
  rw [Bool.and_eq_true] at this
  exact beq_iff_eq.mp this.2
theorem rows_len (n : Nat) : ∀ i, (rowsM n i).length = n ^ i
  | 0 => rfl
  | i + 1 => by
    show ((rowsM n i).flatMap _).length = _
    rw [List.length_flatMap]
    have : (rowsM n i).map (fun row => ((List.range n).map fun v => row ++ [v]).length) = (rowsM n i).map fun _ => n := List.map_congr_left fun e _ => by rw [List.length_map, List.length_range]
    rw [this, List.map_const', List.sum_replicate_nat, rows_len n i, Nat.pow_succ]
theorem rows_mem {n : Nat} : ∀ i, ∀ row ∈ rowsM n i, row.length = i ∧ ∀ x ∈ row, x < n
  | 0, row, h => by
    rw [List.mem_singleton.mp h]
    exact ⟨rfl, fun x hx => by cases hx⟩
  | i + 1, row, h => by
    obtain ⟨r0, h0, h1⟩ := List.mem_flatMap.mp h
    obtain ⟨v, hv, rfl⟩ := List.mem_map.mp h1
    obtain ⟨i1, i2⟩ := rows_mem i r0 h0
    refine ⟨by rw [List.length_append, i1]; rfl, fun x hx => ?_⟩
    rcases List.mem_append.mp hx with h | h
    · exact i2 x h
    · rw [List.mem_singleton.mp h]
      exact List.mem_range.mp hv
/-- the row as integers -/
def rowI (row : List Nat) : List Int := row.map fun v : Nat => (v : Int)
theorem par_row (row : List Nat) : par (rowI row) = parN row := by
  funext v
  unfold par parN rowI
  rw [List.getD_eq_getElem?_getD, List.getD_eq_getElem?_getD, List.getElem?_map]
  cases row[v]? with
  | none => rfl
  | some x => simp
theorem ver_row {n : Nat} (hn : n ≤ 40) {row : List Nat} (hl : row.length = n) (hx : ∀ x ∈ row, x < n) : (match verdict (rowI row) with | .ok => true | _ => false) = noRing n row := by
  have hlen : (rowI row).length = n := by unfold rowI; rw [List.length_map, hl]
  have hw : ∀ v, v < (rowI row).length → wideB (rowI row) v = false := fun v hv => by
    rw [wide_iff, hlen]
    unfold rowI
    rw [List.getD_eq_getElem?_getD, List.getElem?_map]
    have hv' : v < row.length := by omega
    rw [List.getElem?_eq_getElem hv']
    have := hx row[v] (List.getElem_mem hv')
    simp
    omega
  have key : verdict (rowI row) = .ok ↔ noRing n row = true := by
    rw [ver_ok, hlen, par_row]
    unfold noRing
    rw [List.all_eq_true]
    constructor
    · rintro ⟨_, _, h⟩ v hv
      have := h v (List.mem_range.mp hv)
      unfold ringB at this
      simpa using this
    · intro h
      refine ⟨hn, hlen ▸ hw, fun v hv => ?_⟩
      have := h v (List.mem_range.mpr hv)
      unfold ringB
      simpa using this
  cases e : verdict (rowI row) with
  | ok => exact (key.mp e).symm
  | many =>
    cases e2 : noRing n row with
    | false => rfl
    | true => have := key.mpr e2; rw [e] at this; cases this
  | bad v =>
    cases e2 : noRing n row with
    | false => rfl
    | true => have := key.mpr e2; rw [e] at this; cases this
  | cyc v =>
    cases e2 : noRing n row with
    | false => rfl
    | true => have := key.mpr e2; rw [e] at this; cases this
end Ff

namespace ExX
open PySem PySem.Spec PyProof.Rows L2 Builtin.ObjectAttr
/-- an own class over some built-in exception, its instances having a dict -/
structure ExB (K : PySem.W.Frag) (C : Addr) (nid : String) (tl : List Value) : Prop where
  ini : PySem.W.excInitIn K C tl nid = true
  ov : PySem.W.excOver K C tl = true
  hdt : PySem.W.hasDictIn K C = true
  sat : PySem.W.findIn K (.ref C) "__setattr__" = some (some (.builtin "object.__setattr__"))
  sub : PySem.W.subIn K (.ref C) (.type "BaseException") = some true
  typ : PySem.W.typeIn K (.ref C) = some (.type "type")
  kep : PySem.W.keepIn K (.ref C) = true
def exB (K : PySem.W.Frag) (C : Addr) (nid : String) (tl : List Value) : Bool :=
  PySem.W.excInitIn K C tl nid && PySem.W.excOver K C tl && PySem.W.hasDictIn K C && decide (PySem.W.findIn K (.ref C) "__setattr__" = some (some (.builtin "object.__setattr__"))) && decide (PySem.W.subIn K (.ref C) (.type "BaseException") = some true) &&
    decide (PySem.W.typeIn K (.ref C) = some (.type "type")) && PySem.W.keepIn K (.ref C)
theorem exB_ok {K : PySem.W.Frag} {C : Addr} {nid : String} {tl : List Value} (h : exB K C nid tl = true) : ExB K C nid tl := by
  unfold exB at h
  simp only [Bool.and_eq_true, decide_eq_true_eq] at h
  obtain ⟨⟨⟨⟨⟨⟨a, b⟩, c⟩, d⟩, e⟩, f⟩, g⟩ := h
  exact ⟨a, b, c, d, e, f, g⟩
section
variable {prog : Program} {w : World} {A : Around} {R : Result → Shared → Prop} {hp : Heap} {g : Array GenState} {dr : Drawn} {tk0 : Nat} {os : OsState} {K : PySem.W.Frag} {B nid : String} {tl : List Value} {x C t1 : Addr} {nm : Str} {tk : Tok} {v : Value}
theorem sa_new (SB : StoreFacts B tl "object.__setattr__" "object") (X : K.In hp) (T : ExB K C nid tl) (hx : hp.get? x = some (PySem.W.excObj C t1 none .none)) (ha : PySem.W.findIn K (.ref C) nm = some none)
    (hq : ∀ h2 tk2 dx, (∀ b o, b ≠ x → hp.get? b = some o → h2.get? b = some o) → hp.objs.size ≤ dx → dx ≠ x → h2.get? x = some (PySem.W.excObj C t1 (some dx) .none) →
      h2.Ns1 dx (fun y => if y = nm then some v else none) → R (.ok (.ret .none)) ⟨h2, g, dr, tk2, os⟩) :
    codeAny (model prog w) A (.call (.builtin "object.__setattr__") ⟨[.ref x, .str nm tk, v], []⟩) R ⟨hp, g, dr, tk0, os⟩ := by
  refine PySem.W.osa_openX (od := none) (r := none) SB X ⟨hx, rfl, rfl, trivial⟩ T.ov (by unfold PySem.W.takerIn; rw [ha]; rfl) fun b => ?_
  obtain ⟨cd, hc, hd2⟩ := PySem.W.any_some T.hdt
  have hxs : x ≠ hp.objs.size := Nat.ne_of_lt (Heap.lt_size hx)
  refine wpAny_bind (wpAny_pure (wpAny_bind (PySem.W.instanceDict_exc hx (PySem.W.looks_clsIn X hc) hd2 ?_)))
  show wpAny _ _ (storeInDict hp.objs.size (.str nm tk) nm v) _ _ _
  refine HandSPX.store_in_new ?_ ?_
  · exact ⟨_, #[], _, (Heap.get?_update_ne _ _ _ _ hxs.symm).trans (Heap.get?_push_at rfl rfl), rfl, fun e he => absurd he (by simp), fun _ => rfl⟩
  · intro h2 tk2 hn hs
    have hx1 := Heap.get?_push_of_some (h := hp) (PySem.W.dictOf [] 0) hx
    refine hq h2 tk2 hp.objs.size (fun b o hb ho => ?_) (Nat.le_refl _) hxs.symm ?_ hn
    · exact (hs.2 b (Nat.ne_of_lt (Heap.lt_size ho))).trans ((Heap.get?_update_ne _ _ _ _ hb).trans (Heap.get?_push_of_some _ ho))
    · exact (hs.2 x hxs).trans (Heap.get?_update_self _ hx1 rfl)
theorem sa_old {dx : Addr} {m0 : Str → Option Value} {nl : List Str} (SB : StoreFacts B tl "object.__setattr__" "object") (X : K.In hp) (T : ExB K C nid tl) (hx : hp.get? x = some (PySem.W.excObj C t1 (some dx) .none)) (hns : hp.Ns1 dx m0) (hw : Within m0 nl) (hz : nl.length ≤ 1000)
    (ha : PySem.W.findIn K (.ref C) nm = some none)
    (hq : ∀ h2 tk2, (∀ b o, b ≠ dx → hp.get? b = some o → h2.get? b = some o) → h2.Ns1 dx (fun y => if y = nm then some v else m0 y) → R (.ok (.ret .none)) ⟨h2, g, dr, tk2, os⟩) :
    codeAny (model prog w) A (.call (.builtin "object.__setattr__") ⟨[.ref x, .str nm tk, v], []⟩) R ⟨hp, g, dr, tk0, os⟩ := by
  obtain ⟨oD, esD, epD, hoD, hdD, _⟩ := hns.count hw
  refine PySem.W.osa_openX (od := some oD) (r := none) SB X ⟨hx, rfl, rfl, hoD⟩ T.ov (by unfold PySem.W.takerIn; rw [ha]; rfl) fun b => ?_
  show wpAny _ _ (storeInOwnDict (.ref x) (.ref C) (.str nm tk) nm v b) _ _ _
  obtain ⟨cd, hc, hd2⟩ := PySem.W.any_some T.hdt
  have lc : PySem.W.Looks (model prog w) hp (classData C) cd := PySem.W.looks_clsIn X hc
  obtain ⟨c1, c2, c3, c4, c5, c6, c7, c8, c9, c10, c11⟩ := cd
  dsimp only at hd2
  subst hd2
  unfold storeInOwnDict ownDictForStores
  repeat (first | with_reducible refine PySem.OEX.store_in_old hns hw hz ?_ | with_reducible refine wpAny_loadPart_at hx ?_ | with_reducible refine lc.at ?_ | wp_step)
  intro h2 tk2 hn hs
  exact hq h2 tk2 (fun b o hb ho => (hs.2 b hb).trans ho) hn
end
section
variable {X : Cx} {pins : List (Addr × Obj)} {σ : L2.St} {H : Hp} {s : Shared} {a C dx : Addr} {f : Str} {y : V} {u : Value} {fs : List (Str × V)} {Q : Unit → Shared → Prop} {E : Value → Shared → Prop} {A : Around} {B nid iid : String} {tl : List Value}
/-- the object at a gets its dict at dx -/
theorem inv_dict {hp h2 : Heap} {g : Array GenState} {dr : Drawn} {tk tk2 : Nat} {os : OsState} {t1 : Addr} (I : Inv X pins σ H ⟨hp, g, dr, tk, os⟩) (e : H a = some (exo a C none)) (ry : RelV y u) (k : ∀ b o, b ≠ a → hp.get? b = some o → h2.get? b = some o) (dn : hp.objs.size ≤ dx)
    (hx : h2.get? a = some (PySem.W.excObj C t1 (some dx) .none)) (hn : h2.Ns1 dx (fun y => if y = f then some u else none)) : Inv X pins σ (upd (upd H dx (exd dx [(f, y)])) a (exo a C (some dx))) ⟨h2, g, dr, tk2, os⟩ := by
  have fresh : H dx = none := I.hok.fresh dn
  have old_ne : ∀ {b : Addr} {o : Obj}, hp.get? b = some o → b ≠ dx := fun {b o} q => Nat.ne_of_lt (Nat.lt_of_lt_of_le (Heap.lt_size q) dn)
  have free_ne : ∀ {b : Addr}, H b = none → b ≠ a := fun {b} n z => by
    subst z
    rw [e] at n
    cases n
  have look : ∀ {b : Addr} {o : HO}, H b = some o → b ≠ a → upd (upd H dx (exd dx [(f, y)])) a (exo a C (some dx)) b = some o := fun {b o} q hb => by rw [upd_ne hb, upd_ne (ne_of_none q fresh)]; exact q
  refine I.un (t' := tk2) ⟨fun b o q n _ _ => k b o (free_ne n) q, fun b o q n _ _ => ⟨o.slots, k b o (free_ne n) q⟩, fun b o q n _ => ?_, fun b o q _ => ?_, fun b xs q => look q (at_ne e q exo_tup), fun b o v q => look q (at_ne e q exo_frz), fun b ps q => ⟨#[], ?_⟩⟩ fun b o q => ?_
  · rw [upd_ne (free_ne n), upd_ne (old_ne q)]
    exact n
  · by_cases hb : b = a
    · exact ⟨_, hb ▸ hx⟩
    · exact ⟨o, k b o hb q⟩
  · rw [look q (at_ne e q exo_tbl)]
    simp
  · by_cases hb : b = a
    · rw [hb, upd_same] at q
      rw [hb, ← Option.some.inj q]
      exact exo_ok hx
    rw [upd_ne hb] at q
    by_cases hd : b = dx
    · rw [hd, upd_same] at q
      rw [hd, ← Option.some.inj q]
      exact exd_ok hn (relO_put (fs := []) ry fun _ => True.intro)
    rw [upd_ne hd] at q
    refine (I.hok b o q).stay (fun c v hc z => k c v ?_ z) (fun c hc => look hc (at_ne e hc exo_own)) fun c xs hc => look hc (at_ne e hc exo_tup)
    rcases hc with hc | hc
    · exact hc ▸ hb
    · exact at_ne e hc exo_own
theorem st_new (SB : StoreFacts B tl "object.__setattr__" "object") (T : ExB X.K C nid tl) (I : Inv X pins σ H s) (e : H a = some (exo a C none)) (hno : PySem.W.findIn X.K (.ref C) f = some none) (ry : RelV y u)
    (h : ∀ dx s2, H dx = none → dx ≠ a → Inv X pins σ (upd (upd H dx (exd dx [(f, y)])) a (exo a C (some dx))) s2 → Q () s2) : wpAny (model X.prog X.w) A (setAttr (.ref a) f u) Q E s := by
  obtain ⟨t1, ho⟩ := exo_at I.hok e
  obtain ⟨hp, g, dr, tk, os⟩ := s
  exact PySem.W.set_plain I.kIn (ox := PySem.W.excObj C t1 none .none) (od := none) ⟨ho, rfl, rfl, trivial⟩ T.sat (sa_new SB I.kIn T ho hno fun h2 tk2 dx k dn dne hx hn => h dx _ (I.hok.fresh dn) dne (inv_dict I e ry k dn hx hn))
theorem st_old (SB : StoreFacts B tl "object.__setattr__" "object") (T : ExB X.K C nid tl) (I : Inv X pins σ H s) (e : H a = some (exo a C (some dx))) (ed : H dx = some (exd dx fs)) (hl : fs.length ≤ 900) (hno : PySem.W.findIn X.K (.ref C) f = some none) (ry : RelV y u)
    (h : ∀ s2, Inv X pins σ (upd H dx (exd dx ((f, y) :: fs))) s2 → Q () s2) : wpAny (model X.prog X.w) A (setAttr (.ref a) f u) Q E s := by
  obtain ⟨t1, ho⟩ := exo_at I.hok e
  obtain ⟨mA, hns, rel⟩ := exd_at I.hok ed
  have hw := within_of rel
  obtain ⟨hp, g, dr, tk, os⟩ := s
  obtain ⟨oD, _, _, hoD, _, _⟩ := hns.count hw
  refine PySem.W.set_plain I.kIn (ox := PySem.W.excObj C t1 (some dx) .none) (od := some oD) ⟨ho, rfl, rfl, hoD⟩ T.sat (sa_old SB I.kIn T ho hns hw (by rw [List.length_map]; omega) hno fun h2 tk2 k hn => ?_)
  obtain ⟨o, es, ep, e1, er⟩ := hn
  exact h _ (I.write (t' := tk2) (x := dx) (e := dx) (o := exd dx ((f, y) :: fs)) (by rw [ed]; trivial) (.inl rfl) k ⟨o, e1⟩ (exd_ok ⟨o, es, ep, e1, er⟩ (relO_put ry rel)))
/-- B.__init__(self, ..): it lays the args anew, which are not told -/
theorem base_init {us : List Value} {Q : Value → Shared → Prop} (FB : ExcBaseFacts B nid iid tl) (T : ExB X.K C nid tl) (I : Inv X pins σ H s) (e : H a = some (exo a C none)) (hl : us.length ≤ sizeLine) (h : ∀ s2, Inv X pins σ H s2 → Q .none s2) :
    wpAny (model X.prog X.w) A (call (.builtin iid) (.ref a :: us)) Q E s := by
  obtain ⟨nm, N, qn, bs, bm, hdct, sn, sub, ab, col, dd, k0, k1, k2, k3, k5, hC, hT⟩ := PySem.W.excInit_of I.kIn T.ini
  obtain ⟨t1, ho⟩ := exo_at I.hok e
  obtain ⟨hp, g, dr, tk, os⟩ := s
  refine wpAny_call (PySem.HandSPX.init_base FB hT hC ho hl fun h2 t2 k hx => h _ ?_)
  have J := I.write (t' := tk) (x := a) (e := a) (o := exo a C none) (by rw [e]; trivial) (.inl rfl) k ⟨_, hx⟩ (exo_ok hx)
  have same : upd H a (exo a C none) = H := funext fun b => by
    by_cases hb : b = a
    · rw [hb, upd_same, e]
    · rw [upd_ne hb]
  rwa [same] at J
end
/-! ### rules -/
/-- self.f = e, self an exception in the making -/
def tSt (K : PySem.W.Frag) (nid : String) (tl : List Value) (f : Str) (to te : TE) : TS := fun D σ H => te σ H fun y H1 => to σ H1 fun x H2 => ∃ a C : Addr, x = .ref a ∧ ExB K C nid tl ∧ PySem.W.findIn K (.ref C) f = some none ∧
  ((H2 a = some (exo a C none) ∧ ∀ dx, H2 dx = none → dx ≠ a → D.nx σ (upd (upd H2 dx (exd dx [(f, y)])) a (exo a C (some dx)))) ∨
    ∃ (dx : Addr) (fs : List (Str × V)), H2 a = some (exo a C (some dx)) ∧ H2 dx = some (exd dx fs) ∧ fs.length ≤ 900 ∧ D.nx σ (upd H2 dx (exd dx ((f, y) :: fs))))
/-- B.__init__(self, ..) -/
def tBi (K : PySem.W.Frag) (nid : String) (tl : List Value) (ta : TA) : TE := fun σ H Q => ta σ H fun vs H1 => ∃ (a C : Addr) (ws : List V), vs = .ref a :: ws ∧ ws.length ≤ 1000 ∧ ExB K C nid tl ∧ H1 a = some (exo a C none) ∧ Q .non H1
section
variable {X : Cx} {o e : Expr} {es : List Expr} {to te : TE} {ta : TA} {f x : Str} {p p1 p2 pos : Pos} {B nid iid : String} {tl : List Value}
theorem ps_st (SB : StoreFacts B tl "object.__setattr__" "object") (ho : PE X o to) (he : PE X e te) (hs : swapsWith e (some (.Attribute o f p)) pos.line X.env = pure false := by rfl) : PS X (.Assign [.Attribute o f p] e pos) (tSt X.K nid tl f to te) := by
  refine ⟨fun pins s σ H D I h => plainObj_wpAny_Assign_Attribute (thn (he.run pins s σ H _ I h) fun v s1 ⟨y, H1, I1, r1, q1⟩ => thn (ho.run pins s1 σ H1 _ I1 q1) fun u s2 ⟨z, H2, I2, r2, a, C, ex, T, hno, q⟩ => ?_) hs⟩
  subst ex
  obtain rfl : u = Value.ref a := r2
  rcases q with ⟨ea, q⟩ | ⟨dx, fs, ea, ed, hl, q⟩
  · exact st_new SB T I2 ea hno r1 fun dx s3 n ne J => ⟨σ, _, J, q dx n ne⟩
  · exact st_old SB T I2 ea ed hl hno r1 fun s3 J => ⟨σ, _, J, q⟩
theorem pe_bi {xB : Str} {pl : Sem Bool} (FB : ExcBaseFacts B nid iid tl) (ty : typeOf (.type B) = pure (.type "type")) (st : Manifest.isStub B = false) (bo : bootBuiltins xB = some (.type B)) (hn1 : xB ≠ "__name__") (hn2 : (xB == ("__debug__" : Str)) = false) (hh : PySem.W.handedIn (.builtin iid) = true) (hg : Gl X xB) (hm : X.mg xB = none) (vV : PySem.W.findCls X.K (.type B) (.type "type") "__init__" = some (.val (.builtin iid))) (ha : PA X (e :: es) ta)
    (hc : eval (.Call (.Attribute (.Name xB p1) "__init__" p2) (e :: es) [] pos) X.env = (do
      let z ← eval (.Name xB p1) X.env
      standAt p2.atName
      let (f1, fst) ← holding [z] (getMethod z "__init__" pl)
      callWith pos f1 fst (backTo pos (starEach (e :: es) X.env)) (backToKw pos (keywordEach [] X.env))) := by rfl)
    (he : starEach (e :: es) X.env = (false, eval e X.env) :: starEach es X.env := by rfl) (hpl : (backTo pos (starEach es X.env)).any (·.1) = false := by rfl) :
    PE X (.Call (.Attribute (.Name xB p1) "__init__" p2) (e :: es) [] pos) (tBi X.K nid tl ta) := by
  refine ⟨fun pins s σ H Q I h => PySem.W.methodCall_KW (ld_blt I hg hm bo ?_ hn1 hn2) hc⟩
  obtain ⟨m, fr⟩ := I.fr
  refine PySem.W.method_type fr I.ok.mod.kin ty st vV hh ?_
  show wpAny _ _ (callWith pos (Value.builtin iid) [] (backTo pos (starEach (e :: es) X.env)) []) _ _ _
  refine PyProof.Rows.callWith_method1 (thn (ha.run pos pins _ σ H _ (I.tok _) h) fun us s1 ⟨vs, H1, I1, r1, a, C, ws, ev, hl, T, ea, q⟩ => ?_) he hpl
  subst ev
  cases r1 with
  | @cons _ u0 _ ur ra rw2 =>
    obtain rfl : u0 = Value.ref a := ra
    exact base_init FB T I1 ea (by rw [← Paired.length rw2, sizeLine_eq]; omega) fun s2 J => ⟨.non, H1, J, rfl, q⟩
end
end ExX

namespace ExX
open PySem PySem.Spec PyProof.Rows L2 Builtin.ObjectAttr
/-- what the written part says of D.__init__, read off the class itself: the def at f -/
structure ClsI (K : PySem.W.Frag) (D f : Addr) : Prop where
  rd : PySem.W.readsIn K D (.type "type") = true
  fc : PySem.W.findCls K (.ref D) (.type "type") "__init__" = some (.val (.ref f))
  sp : PySem.W.specialIn K (.ref D) "__getattribute__" = some (some (.builtin "type.__getattribute__"))
  kp : PySem.W.keepIn K (.ref f) = true
  kd : PySem.W.keepIn K (.ref D) = true
def clsI (K : PySem.W.Frag) (D f : Addr) : Bool := PySem.W.readsIn K D (.type "type") && (match PySem.W.findCls K (.ref D) (.type "type") "__init__" with | some (.val v) => decide (v = .ref f) | _ => false) &&
  decide (PySem.W.specialIn K (.ref D) "__getattribute__" = some (some (.builtin "type.__getattribute__"))) && PySem.W.keepIn K (.ref f) && PySem.W.keepIn K (.ref D)
theorem clsI_ok {K : PySem.W.Frag} {D f : Addr} (h : clsI K D f = true) : ClsI K D f := by
  unfold clsI at h
  simp only [Bool.and_eq_true, decide_eq_true_eq] at h
  obtain ⟨⟨⟨⟨a, b⟩, c⟩, d⟩, e⟩ := h
  refine ⟨a, ?_, c, d, e⟩
  split at b
  · rename_i v hv
    rw [hv, of_decide_eq_true b]
  · cases b
/-- what C(..) asks, the arguments evaluated -/
def mkW (C : Addr) (sp : Sp) (vs : List V) (H1 : Hp) (Q : XK) : Prop := vs.length ≤ 1000 ∧ ∀ a, H1 a = none → sp (.ref a :: vs) (upd H1 a (exo a C none))
  (fun v H2 => v = .non ∧ ∃ (d : Addr) (fs : List (Str × V)), H2 a = some (exo a C (some d)) ∧ H2 d = some (exd d fs) ∧ H1 d = none ∧ Q (.ref C) (some d) (upd (del H2 a) d (.xd fs))) (fun _ _ _ => False)
section
variable {X : Cx} {e : Expr} {es : List Expr} {ta : TA} {x : Str} {p p1 p2 pos : Pos} {CX : CXT} {k : Nat} {D f : Addr} {fd : FuncData} {ps : List Str} {sp : Sp} {E : XK}
theorem pe_ci {pl : Sem Bool} (T : ClsI X.K D f) (F : FnOk X.prog X.w X.K X.mg X.base CX k f fd ps sp) (hr : Room k X.A) (hg : Gl X x) (hm : X.mg x = some (.ref D)) (hb : L2.Binds X.K fd ps []) (hx : Passes CX X E) (ha : PA X (e :: es) ta)
    (hdb : (x == ("__debug__" : Str)) = false := by decide)
    (hc : eval (.Call (.Attribute (.Name x p1) "__init__" p2) (e :: es) [] pos) X.env = (do
      let z ← eval (.Name x p1) X.env
      standAt p2.atName
      let (f1, fst) ← holding [z] (getMethod z "__init__" pl)
      callWith pos f1 fst (backTo pos (starEach (e :: es) X.env)) (backToKw pos (keywordEach [] X.env))) := by rfl)
    (he : starEach (e :: es) X.env = (false, eval e X.env) :: starEach es X.env := by rfl) (hpl : (backTo pos (starEach es X.env)).any (·.1) = false := by rfl) :
    PE X (.Call (.Attribute (.Name x p1) "__init__" p2) (e :: es) [] pos) (tCall sp [] E ta) := by
  refine ⟨fun pins s σ H Q I h => PySem.W.methodCall_KW (ld_glob I hg hm ?_ hdb) hc⟩
  refine PySem.W.method_cls I.kIn T.sp (PySem.W.cls_value I.kIn T.rd T.fc rfl ?_)
  refine PySem.W.callWith_K (first := []) (h₀ := X.base) I.ok.mod.kin T.kp (thn (ha.run pos pins _ σ H _ (I.tok _) h) fun us s1 ⟨vs, H1, I1, r, q⟩ => ⟨I1.kIn, ?_⟩) he hpl
  exact run_fn F hr hb .nil hx I1 r q
theorem pmk {C fI : Addr} {B nid iid : String} {tl : List Value} {R : List V → Hp → XK → Prop} (FB : ExcBaseFacts B nid iid tl) (T : ExB X.K C nid tl) (iC : PySem.W.findIn X.K (.ref C) "__init__" = some (some (.ref fI))) (tI : PySem.W.typeIn X.K (.ref fI) = some (.type "function"))
    (F1 : FnOk X.prog X.w X.K X.mg X.base CX k fI fd ps sp) (hr : Room (k + 1) X.A) (hb : L2.Binds X.K fd ps []) (hx : Passes CX X (fun _ _ _ => False)) (hg : Gl X x) (hm : X.mg x = some (.ref C)) (ha : PA X (e :: es) ta) (hR : ∀ vs H1 Q, R vs H1 Q → mkW C sp vs H1 Q)
    (hdb : (x == ("__debug__" : Str)) = false := by decide) (he : starEach (e :: es) X.env = (false, eval e X.env) :: starEach es X.env := by rfl) (hpl : (backTo pos (starEach es X.env)).any (·.1) = false := by rfl) :
    L2N.PMk X (.Call (.Name x p) (e :: es) [] pos) (fun σ H Q => ta σ H fun vs H1 => R vs H1 Q) := by
  intro pins s σ H Q I h
  refine wpAny_Call_Name_kw (ld_glob I hg hm ?_ hdb)
  refine PySem.W.callWith_K (h₀ := X.base) I.ok.mod.kin T.kep (thn (ha.run pos pins s σ H _ I h) fun us s1 ⟨vs, H1, I1, r1, q0⟩ => ⟨I1.kIn, ?_⟩) he hpl
  obtain ⟨hz, q1⟩ := hR _ _ _ q0
  obtain ⟨nm, N, qn, bs, bm, hdct, sn, sub, ab, col, dd, k0, k1, k2, k3, k5, hC, hT⟩ := PySem.W.excInit_of I1.kIn T.ini
  obtain ⟨hp, g, dr, tk, os⟩ := s1
  -- the new exception lies behind its args
  let h1 : Heap := (hp.push (PySem.W.kdv_tup us)).push (PySem.HandSPX.excO C hp.objs.size)
  have kk : ∀ b o, hp.get? b = some o → h1.get? b = some o := fun b o e => Heap.get?_push_of_some _ (Heap.get?_push_of_some _ e)
  have new : h1.get? (hp.objs.size + 1) = some (PySem.HandSPX.excO C hp.objs.size) := by show Heap.get? ((hp.push (PySem.W.kdv_tup us)).push (PySem.HandSPX.excO C hp.objs.size)) _ = _; heap_get
  have hq := q1 (hp.objs.size + 1) (I1.hok.fresh (Nat.le_succ _))
  have I2 : Inv X pins σ (upd H1 (hp.objs.size + 1) (exo (hp.objs.size + 1) C none)) ⟨h1, g, dr, tk, os⟩ := I1.laid (t' := tk) (a := hp.objs.size + 1) (o := exo (hp.objs.size + 1) C none) kk (Nat.le_succ _) (exo_ok new)
  have r2 : Vals (V.ref (hp.objs.size + 1) :: vs) (Value.ref (hp.objs.size + 1) :: us) := .cons rfl r1
  have hl : (Value.ref (hp.objs.size + 1) :: us).length = ps.length := by rw [← r2.length]; exact F1.len _ _ _ _ hq
  have hb2 := hb ⟨h1, g, dr, tk, os⟩ (Value.ref (hp.objs.size + 1) :: us) I2.kIn (by rw [List.append_nil]; exact hl)
  rw [List.append_nil] at hb2
  show wpAny _ _ (call (.ref C) us) _ _ _
  refine wpAny_call (PySem.HandSPX.call_own FB hT hC (PySem.W.looks_findIn I1.kIn iC) (fun self => PySem.W.bind_fn I1.kIn self tI) (by rw [← Paired.length r1, sizeLine_eq]; omega) ?_)
  refine codeAny_mono (F1.run _ X.stack _ _ ⟨Value.ref (hp.objs.size + 1) :: us, []⟩ _ _ _ (fun _ _ _ => False) (hr.make C us []) (I2.env0.make C us []) hb2 r2 hq) fun r s2 z => ?_
  cases r with
  | error er => exact hx pins σ _ _ er s2 I2 z
  | ok fl =>
    cases fl with
    | ret u =>
      obtain ⟨v, H2, os2, bare2, un2, hok2, rv, ev, d, fs, ea, ed, hd1, q2⟩ := z
      subst ev
      obtain ⟨h2, g2, d2, t2, os3⟩ := s2
      obtain ⟨t0, G, J, kG, ge, hoe, na⟩ := mk_end0 (d2 := d2) (t2 := t2) I1 (Nat.le_succ _) kk un2 hok2 os2 bare2 ea ed hd1
      exact ⟨rv, _, _, _, ⟨G, g2, d2, t2, os3⟩, _, .ref C, some d, rfl, J, kG, ge, hoe, ⟨rfl, rfl, fun vs z => by cases z; rfl⟩, rfl, rfl, na, rfl, bare2, raises_own T.sub T.typ, q2⟩
    | _ => exact z.elim
end
end ExX

namespace ExX
open PySem PySem.Spec PyProof.Rows L2
/-- what an except clause's own expression t asks of an exception's class -/
def Tst (X : Cx) (t : Expr) (m : Value → Option Bool) : Prop := ∀ (a : Addr) (oe : Obj) (pn pins : List (Addr × Obj)) (σ : L2.St) (H : Hp) (s : Shared) (b : Bool) (Q : Bool → Shared → Prop) (E : Value → Shared → Prop), Inv (X.suite a ((a, oe) :: pn)) pins σ H s → m oe.cls = some b →
  (∀ h2, (∀ c o, s.heap.get? c = some o → h2.get? c = some o) → Q b { s with heap := h2 }) →
  wpAny (model X.prog X.w) (X.A.mark (some (.ref a))) (eval t X.env) (fun c s1 => wpAny (model X.prog X.w) (X.A.mark (some (.ref a))) (excMatches (.ref a) c) Q E s1) E s
section
variable {X : Cx} {x x1 x2 x3 : Str} {C C1 C2 C3 : Addr} {np np1 np2 np3 tp : Pos}
theorem tst_one (hg : Gl X x) (hm : X.mg x = some (.ref C)) (hdb : (x == ("__debug__" : Str)) = false := by decide) : Tst X (.Name x np) (fun cls => PySem.W.exmOne X.K cls (.ref C)) := by
  intro a oe pn pins σ H s b Q E I hb q
  have at1 := (I.pin (a, oe) (List.mem_append_left _ List.mem_cons_self)).1
  have lt : PySem.W.Looks (model X.prog X.w) s.heap (typeOf (.ref a)) oe.cls := fun A Q E s2 k q => wpAny_typeOf_ref (k _ _ at1) q
  exact ld_glob (X := X.suite a ((a, oe) :: pn)) I hg hm ((PySem.W.exm_one I.kIn lt hb).here (q s.heap fun _ _ e => e)) hdb
theorem tst_two {ctx} (hg1 : Gl X x1) (hm1 : X.mg x1 = some (.ref C1)) (hg2 : Gl X x2) (hm2 : X.mg x2 = some (.ref C2)) (hd1 : (x1 == ("__debug__" : Str)) = false := by decide) (hd2 : (x2 == ("__debug__" : Str)) = false := by decide) :
    Tst X (.Tuple [.Name x1 np1, .Name x2 np2] ctx tp) (fun cls => PySem.W.exmAny X.K cls [.ref C1, .ref C2]) := by
  intro a oe pn pins σ H s b Q E I hb q
  have at1 := (I.pin (a, oe) (List.mem_append_left _ List.mem_cons_self)).1
  refine wpAny_Tuple_spliced (Calls.spliced_cons (ld_glob (X := X.suite a ((a, oe) :: pn)) I hg1 hm1 (Calls.spliced_cons (ld_glob (X := X.suite a ((a, oe) :: pn)) I hg2 hm2 (Calls.spliced_nil ⟨by rw [sizeLine_eq]; simp, ?_⟩) hd2)) hd1))
  have lt : PySem.W.Looks (model X.prog X.w) (s.heap.push { cls := .type "tuple", data := .seq [Value.ref C1, .ref C2].toArray }) (typeOf (.ref a)) oe.cls := fun A Q E s2 k q => wpAny_typeOf_ref (k _ _ (Heap.get?_push_of_some _ at1)) q
  exact (PySem.W.exm_tup2 (I.kIn.keeps fun _ _ e => Heap.get?_push_of_some _ e) lt (Heap.get?_push_size _ rfl) hb).here (q _ fun _ _ e => Heap.get?_push_of_some _ e)
theorem tst_three {ctx} (hg1 : Gl X x1) (hm1 : X.mg x1 = some (.ref C1)) (hg2 : Gl X x2) (hm2 : X.mg x2 = some (.ref C2)) (hg3 : Gl X x3) (hm3 : X.mg x3 = some (.ref C3)) (hd1 : (x1 == ("__debug__" : Str)) = false := by decide) (hd2 : (x2 == ("__debug__" : Str)) = false := by decide) (hd3 : (x3 == ("__debug__" : Str)) = false := by decide) :
    Tst X (.Tuple [.Name x1 np1, .Name x2 np2, .Name x3 np3] ctx tp) (fun cls => PySem.W.exmAny X.K cls [.ref C1, .ref C2, .ref C3]) := by
  intro a oe pn pins σ H s b Q E I hb q
  have at1 := (I.pin (a, oe) (List.mem_append_left _ List.mem_cons_self)).1
  refine wpAny_Tuple_spliced (Calls.spliced_cons (ld_glob (X := X.suite a ((a, oe) :: pn)) I hg1 hm1 (Calls.spliced_cons (ld_glob (X := X.suite a ((a, oe) :: pn)) I hg2 hm2 (Calls.spliced_cons (ld_glob (X := X.suite a ((a, oe) :: pn)) I hg3 hm3 (Calls.spliced_nil ⟨by rw [sizeLine_eq]; simp, ?_⟩) hd3)) hd2)) hd1))
  have lt : PySem.W.Looks (model X.prog X.w) (s.heap.push { cls := .type "tuple", data := .seq [Value.ref C1, .ref C2, .ref C3].toArray }) (typeOf (.ref a)) oe.cls := fun A Q E s2 k q => wpAny_typeOf_ref (k _ _ (Heap.get?_push_of_some _ at1)) q
  exact (PySem.W.exm_tup3 (I.kIn.keeps fun _ _ e => Heap.get?_push_of_some _ e) lt (Heap.get?_push_size _ rfl) hb).here (q _ fun _ _ e => Heap.get?_push_of_some _ e)
end
/-- the ends with the slot i unset -/
def unset (i : Nat) (D : Ends) : Ends := { nx := fun σ H => D.nx (σ.set i none) H, rt := D.rt, bk := fun σ H => D.bk (σ.set i none) H, ct := fun σ H => D.ct (σ.set i none) H }
/-- a clause: whom it takes, the slot of its name, its suite's reading -/
structure Cl where
  m : Value → Option Bool
  slot : Option Nat
  ts : Addr → Value → Option Addr → TS
def Cl.wish (c : Cl) (D : Ends) (a : Addr) (cls : Value) (d : Option Addr) (σ : L2.St) (H : Hp) : Prop := match c.slot with
  | none => c.ts a cls d D σ H
  | some i => c.ts a cls d (unset i D) (σ.set i (some (.ref a))) H
def wCl (Wout : WX) (D : Ends) : List Cl → WX
  | [] => Wout
  | c :: r => fun cls d σ H => ∃ b, c.m cls = some b ∧ (b = true → ∀ a, H a = none → c.wish D a cls d σ H) ∧ (b = false → wCl Wout D r cls d σ H)
inductive ClsOk (X : Cx) : List ExceptHandler → List Cl → Prop
  | nil : ClsOk X [] []
  | only {t : Expr} {m : Value → Option Bool} {ts : Addr → Value → Option Addr → TS} {b0 : Stmt} {su : List Stmt} {ps : Pos} {hds : List ExceptHandler} {l : List Cl} (hc : Tst X t m)
      (hsu : ∀ (a : Addr) (oe : Obj) (cls : Value) (d : Option Addr) (pn : List (Addr × Obj)), L2N.Zn cls d oe → (∃ vs, oe.data = .fields vs) → PSs (X.suite a ((a, oe) :: pn)) (b0 :: su) (ts a cls d)) (r : ClsOk X hds l) :
      ClsOk X (.ExceptHandler (some t) none (b0 :: su) ps :: hds) (⟨m, none, ts⟩ :: l)
  | named {t : Expr} {m : Value → Option Bool} {ts : Addr → Value → Option Addr → TS} {b0 : Stmt} {su : List Stmt} {ps : Pos} {n : Str} {i : Nat} {hds : List ExceptHandler} {l : List Cl} (hN : X.N.Nodup) (hi : X.N[i]? = some n) (hln : X.env.kindOf n = some .local) (hc : Tst X t m)
      (hsu : ∀ (a : Addr) (oe : Obj) (cls : Value) (d : Option Addr) (pn : List (Addr × Obj)), L2N.Zn cls d oe → (∃ vs, oe.data = .fields vs) → PSs (X.suite a ((a, oe) :: pn)) (b0 :: su) (ts a cls d)) (r : ClsOk X hds l) :
      ClsOk X (.ExceptHandler (some t) (some n) (b0 :: su) ps :: hds) (⟨m, some i, ts⟩ :: l)
theorem flying_kept {B h h2 : Heap} {l : List Env} {a : Addr} {Z : Obj → Prop} (fl : HandSPX.FlyingZ B l a Z h) (k : ∀ c o, h.get? c = some o → h2.get? c = some o) : HandSPX.FlyingZ B l a Z h2 := by
  obtain ⟨f1, f2, f3, oe, vs, T, oT, ts, e1, e2, e3, e4, e5, e6, e7, e8⟩ := fl
  exact ⟨fun b o q => k _ _ (f1 b o q), f2, f3.of_keeps fun b o hb _ => ⟨o, k b o hb, rfl⟩, oe, vs, T, oT, ts, k _ _ e1, e2, e3, e4, e5, e6, k _ _ e7, e8⟩
section
variable {X : Cx} {body : List Stmt} {h0 : ExceptHandler} {hds : List ExceptHandler} {l : List Cl} {pos : Pos} {tb : WX → TS} {Wout : WX}
theorem ps_tryC (hs : X.stack = X.env :: X.outer) (hf : X.env.frame = some X.env.locals) (tk : L2N.Takes X Wout)
    (hb : ∀ (W : WX) (pn : List (Addr × Obj)) (xe : Value → Shared → Prop), L2N.Takes (X.tr pn xe) W → PassesOwn (model X.prog X.w) X.A X.env xe → PSs (X.tr pn xe) body (tb W)) (hh : ClsOk X (h0 :: hds) l) :
    PS X (.Try body (h0 :: hds) [] [] pos) (fun D σ H => tb (wCl Wout D l) D σ H) := by
  refine ⟨fun pins s σ H D I h => wpAny_Try_except ?_⟩
  have ok := I.ok
  have hfr : X.A.frames = some (X.env :: X.outer) := hs ▸ ok.frames
  refine wpAny_mono ((hb (wCl Wout D l) (X.pn ++ pins) (fun e s1 => wpAny (model X.prog X.w) X.A (noteFrame e X.env) (fun _ s2 => wpAny (model X.prog X.w) X.A (setFlight e none) (fun _ s3 => wpAny (model X.prog X.w) X.A (handleBy e X.env (h0 :: hds)) (SP X pins D) X.xe s3) X.xe s2) X.xe s1)
    (fun u s1 xx => ?_) PassesOwn.looking).run [] s σ H D (I.toTry _) h) (fun f s1 hsp => ?_) (fun e s1 he => he)
  · obtain ⟨a, B, sI, pinsT, σ1, H1, cls, d, rfl, J0, nb, up, sky, na, os1, ag, w⟩ := xx
    have J : Inv X pins σ1 H1 sI := J0.ofTry ok
    rw [hs] at sky
    show wpAny (model X.prog X.w) X.A (noteFrame (.ref a) X.env) _ _ _
    refine L2N.Sky.land L2N.Zn.steady hfr hf sky fun h3 fl3 up3 => ?_
    -- the clauses, from any heap in which the exception flies
    have go : ∀ {hs2 : List ExceptHandler} {l2 : List Cl}, ClsOk X hs2 l2 → ∀ h4, HandSPX.FlyingZ B (X.env :: X.outer) a (L2N.Zn cls d) h4 → sI.heap.UpToSlots h4 → wCl Wout D l2 cls d σ1 H1 →
        wpAny (model X.prog X.w) X.A (handleBy (.ref a) X.env hs2) (SP X pins D) X.xe { s1 with heap := h4 } := by
      intro hs2 l2 hk
      have su : ∀ {h5 : Heap}, HandSPX.FlyingZ B (X.env :: X.outer) a (L2N.Zn cls d) h5 → sI.heap.UpToSlots h5 → ∃ oe vs, L2N.Zn cls d oe ∧ oe.data = .fields vs ∧ Inv (X.suite a ((a, oe) :: (X.pn ++ pins))) [] σ1 H1 { s1 with heap := h5 } := fun {h5} fl5 up5 => by
        have J5 : Inv X pins σ1 H1 { s1 with heap := h5 } := J.landed nb fl5.1 up5 os1 ag
        obtain ⟨oe, vs, he, hz, hd⟩ := fl5.there
        have nfr : a ∉ frs (X.env :: X.outer) := fun hm => by
          obtain ⟨_, o2, e2, hnf⟩ := fl5.2.2.1.mem hm
          rw [he] at e2
          exact hnf vs (Option.some.inj e2 ▸ hd)
        refine ⟨oe, vs, hz, hd, J5.suite he hd na (fun z => nfr (List.mem_filterMap.mpr ⟨X.env, List.mem_cons_self, by rw [hf, z]⟩)) fun hm => ?_⟩
        obtain ⟨e, he2, q⟩ := List.mem_filterMap.mp hm
        exact nfr (List.mem_filterMap.mpr ⟨e, List.mem_cons_of_mem _ he2, q⟩)
      induction hk with
      | nil =>
        intro h4 fl4 up4 w
        refine wpAny_handleBy_nil ?_
        obtain ⟨k1, k2, k3, oe, vs, T, oT, ts2, he, hz, hd, h1, hr⟩ := id fl4
        unfold PySem.passOn
        refine wpAny_bind (wpAny_field he hd h1 ?_)
        rw [if_neg (show ¬ ((Value.ref T == Value.none) = true) from by simp)]
        have fin : wpAny (model X.prog X.w) X.A (setFlight (.ref a) X.env.frame) (fun _ s4 => wpAny (model X.prog X.w) X.A (throw (.ref a) : Sem Flow) (SP X pins D) X.xe s4) X.xe { s1 with heap := h4 } := by
          rw [hf]
          exact HandSPX.setFlight_upZ fl4 fun h5 hh5 up5 => wpAny_throw (tk _ _ ⟨a, B, sI, pins, σ1, H1, cls, d, rfl, J, nb, up4.trans up5, .inr (.inr (by rw [hs]; exact hh5)), na, os1, ag, w⟩)
        first
          | exact wpAny_bind (wpAny_pure (wpAny_bind fin))
          | exact wpAny_bind fin
      | only hc hsu r ih =>
        intro h4 fl4 up4 w
        obtain ⟨b, hb1, hyes, hno⟩ := w
        obtain ⟨oe, vs, hz, hd, S4⟩ := su fl4 up4
        refine wpAny_handleBy_cons (codeAny_handlers_test (hc a oe _ _ _ _ _ b _ _ S4 (by rw [hz.1]; exact hb1) fun h5 k5 => ?_)) (by intro q; cases q)
        have fl5 := flying_kept fl4 k5
        have up5 : sI.heap.UpToSlots h5 := up4.trans fun c o e _ => ⟨o.slots, k5 c o e⟩
        cases b with
        | true =>
          refine codeAny_handlers_suite (HandSPX.lands_againZ fl5 fun h6 fl6 up6 => ?_)
          obtain ⟨oe6, vs6, hz6, hd6, S6⟩ := su fl6 (up5.trans up6)
          refine wpAny_mono ((hsu a oe6 cls d _ hz6 ⟨_, hd6⟩).run [] _ _ H1 _ S6 (hyes rfl a na)) (fun f s6 hsp => ?_) (fun _ _ z => False.elim z)
          cases f with
          | ret u => obtain ⟨v6, σ6, H6, S7, r6, q6⟩ := hsp; exact ⟨_, _, _, S7.unsuite ok, r6, q6⟩
          | _ => obtain ⟨σ6, H6, S7, q6⟩ := hsp; exact ⟨_, _, S7.unsuite ok, q6⟩
        | false => exact ih h5 fl5 up5 (hno rfl)
      | @named t m ts b0 sui ps n i hds3 l3 hN hi hln hc hsu r ih =>
        intro h4 fl4 up4 w
        obtain ⟨b, hb1, hyes, hno⟩ := w
        obtain ⟨oe, vs, hz, hd, S4⟩ := su fl4 up4
        refine wpAny_handleBy_cons (codeAny_handlers_test (hc a oe _ _ _ _ _ b _ _ S4 (by rw [hz.1]; exact hb1) fun h5 k5 => ?_)) (by intro q; cases q)
        have fl5 := flying_kept fl4 k5
        have up5 : sI.heap.UpToSlots h5 := up4.trans fun c o e _ => ⟨o.slots, k5 c o e⟩
        cases b with
        | true =>
          refine codeAny_handlers_suite_as (HandSPX.lands_againZ fl5 fun h6 fl6 up6 => ?_)
          obtain ⟨oe6, vs6, hz6, hd6, S6⟩ := su fl6 (up5.trans up6)
          refine store_ok (X := X.suite a ((a, oe6) :: (X.pn ++ pins))) (v := .ref a) S6 hN hi (.inl hln) rfl (fun s7 S7 => ?_) (.inr hln)
          refine wpAny_mono ((hsu a oe6 cls d _ hz6 ⟨_, hd6⟩).run [] s7 _ H1 _ S7 (hyes rfl a na)) (fun f s8 hsp => ?_) (fun _ _ z => False.elim z)
          have fin : ∀ {σ8 : L2.St} {H8 : Hp} {Q : Shared → Prop}, Inv (X.suite a ((a, oe6) :: (X.pn ++ pins))) [] σ8 H8 s8 → (∀ s9, Inv X pins (σ8.set i none) H8 s9 → Q s9) →
              wpAny (model X.prog X.w) X.A (do bindName X.env n .none; unbindBehindTheSuite X.env n ps) (fun _ s9 => Q s9) X.xe s8 := fun {σ8 H8 Q} S8 hq => gone_ok (S8.unsuite ok) hN hi hln hq
          cases f with
          | ret u => obtain ⟨v8, σ8, H8, S8, r8, q8⟩ := hsp; exact fin S8 fun s9 J9 => ⟨_, _, _, J9, r8, q8⟩
          | _ => obtain ⟨σ8, H8, S8, q8⟩ := hsp; exact fin S8 fun s9 J9 => ⟨_, _, J9, q8⟩
        | false => exact ih h5 fl5 up5 (hno rfl)
    exact go hh h3 fl3 (up.trans up3) w
  · cases f with
    | next =>
      obtain ⟨σ1, H1, J, q⟩ := hsp
      exact wpAny_execs_nil ⟨σ1, H1, J.ofTry ok, q⟩
    | ret u =>
      obtain ⟨v, σ1, H1, J, r, q⟩ := hsp
      exact ⟨v, σ1, H1, J.ofTry ok, r, q⟩
    | _ =>
      obtain ⟨σ1, H1, J, q⟩ := hsp
      exact ⟨σ1, H1, J.ofTry ok, q⟩
end
end ExX

namespace ExX
open PySem PySem.Spec PyProof.Rows L2
/-- a promise that also speaks of the exception that is handled: its place, class and dict -/
abbrev SpE := Addr → Value → Option Addr → Sp
structure FnE (P : Program) (w : World) (K : PySem.W.Frag) (mg : Str → Option Value) (base : Heap) (CX : CXT) (k : Nat) (f : Addr) (fd : FuncData) (ps : List Str) (sp : SpE) : Prop where
  len : ∀ a cls d vs H Q E, sp a cls d vs H Q E → vs.length = ps.length
  run : ∀ (A : Around) (outer : List Env) (s : Shared) (H : Hp) (args : Args) (us : List Value) (vs : List V) (Q : VK) (E : XK) (p : Addr × Obj) (cls : Value) (d : Option Addr), L2H.RoomH k A → Zc cls d p.2 → (∃ z, p.2.data = .fields z) → L2H.PinOk outer H s p → Env0 P w K mg base A outer s H →
    BindsTo s fd args (ps.zip us) → Vals vs us → sp p.1 cls d vs H Q E → codeAny (model P w) A (.call (.ref f) args) (CR CX outer P w H s Q E) s
theorem fn_ofE {CX : CXT} {P : Program} {w : World} {K : PySem.W.Frag} {mg : Str → Option Value} {base : Heap} {k : Nat} {f : Addr} {name qual : Str} {params : Arguments} {body : List Stmt} {scope : Scope} {dV kV doc pm cdv ct oc : Value} {an od : Option Addr} {osl : Array (Option Value)} {N ps : List Str} {sp : SpE}
    (lk : K.lookup f = some ⟨oc, od, .func (PySem.W.fnOf name qual params body scope dV kV doc pm an cdv ct), osl⟩) (hcd : PySem.W.codeIn K cdv qual = true) (S : FnScope N ps scope) (len : ∀ a cls d vs H Q E, sp a cls d vs H Q E → vs.length = ps.length)
    (hbody : ∀ (A : Around) (outer : List Env) (s : Shared) (H : Hp) (vs : List V) (Q : VK) (E : XK) (p : Addr × Obj) (cls : Value) (d : Option Addr), Zc cls d p.2 → (∃ z, p.2.data = .fields z) → L2H.RoomH k (A.deeper (envOfC qual scope s.heap.objs.size f cdv)) → sp p.1 cls d vs H Q E →
      ∃ t, PSs (L2H.cxH CX P w K mg base N qual scope f cdv A outer s H E p) body t ∧ t { nx := fun _ H1 => Q .non H1, rt := Q } (L2.start N vs) H) :
    FnE P w K mg base CX (k + 1) f (PySem.W.fnOf name qual params body scope dV kV doc pm an cdv ct) ps sp := by
  refine ⟨len, fun A outer s H args us vs Q E p cls d hr hz hd hpin e0 hb r hsp => ?_⟩
  have KX : K.In s.heap := e0.mod.kin.keeps fun b o e => (e0.bs b o e).1
  have hkind : ∀ y ∈ ps.zip us, scope.names.lookup y.1 = some .local ∨ (scope.names.lookup y.1 = some .cell ∧ ((cellsFrom (s.heap.objs.size + 1) scope.names []).lookup y.1).isSome = true) := fun y hy =>
    (S.par y.1 (List.of_mem_zip hy).1).imp id fun q => ⟨q, PySem.W.cellsFrom_some _ _ _ (.inl q)⟩
  refine codeAny_call_function hr.depth (KX _ _ lk) rfl S.co S.gen rfl (PySem.W.codeRec_of KX hcd) (hb _ _ _ _ (wpAny_newFunctionEnv_cells S.kind hkind fun env he s1 x => ?_))
  subst he
  refine ⟨(e0.mod.nolimit.keeps fun b o e => (e0.bs b o e).1).keeps x.toInCall.keep, codeAny_func ?_⟩
  obtain ⟨t, ht, hq⟩ := hbody A outer s H vs Q E p cls d hz hd (hr.deeper _) hsp
  have I : Inv (L2H.cxH CX P w K mg base N qual scope f cdv A outer s H E p) [] (L2.start N vs) H s1 := L2H.inv_startH S hpin e0 (len _ _ _ _ _ _ _ hsp) r x
  refine wpAny_mono (ht.run [] s1 (L2.start N vs) H _ I hq) (fun fl s2 hs => ?_) fun e s2 hs => hs
  cases fl with
  | ret u =>
    obtain ⟨v, σ2, H2, J, rv, q⟩ := hs
    exact ⟨v, H2, J.os, J.bare, J.base, J.hok, rv, q⟩
  | next =>
    obtain ⟨σ2, H2, J, q⟩ := hs
    exact ⟨V.non, H2, J.os, J.bare, J.base, J.hok, rfl, q⟩
  | brk =>
    obtain ⟨_, _, _, q⟩ := hs
    exact q.elim
  | cont =>
    obtain ⟨_, _, _, q⟩ := hs
    exact q.elim
/-- the field f of the handled exception -/
def tFe (K : PySem.W.Frag) (a : Addr) (cls : Value) (d : Option Addr) (f : Str) (te : TE) : TE := fun σ H Q => te σ H fun x H1 => x = .ref a ∧
  ∃ (C dd : Addr) (fs : List (Str × V)) (v : V), cls = .ref C ∧ XfC K C ∧ PySem.W.findIn K (.ref C) f = some none ∧ d = some dd ∧ H1 dd = some (.xd fs) ∧ fs.lookup f = some v ∧ Q v H1
section
variable {X : Cx} {a : Addr} {oe : Obj} {cls : Value} {d : Option Addr} {e : Expr} {te : TE} {pos q : Pos} {n x : Str}
theorem pe_fe (hp : (a, oe) ∈ X.pn) (hz : Zc cls d oe) (hf : ∃ z, oe.data = .fields z) (he : PE X e te) (hb : attributeBase e n X.env (eval e X.env) = eval e X.env := by rfl) : PE X (.Attribute e n pos) (tFe X.K a cls d n te) := by
  refine ⟨fun pins s σ H Q I h => attr_of hb (thn (he.run pins s σ H _ I h) fun u s1 ⟨z, H1, I1, rx, ex, C, dd, fs, v, ec, T, hno, ed, ea, l, w⟩ => ?_)⟩
  subst ex ec ed
  obtain rfl : u = Value.ref a := rx
  have ha := (I1.pin (a, oe) (List.mem_append_left _ hp)).1
  obtain ⟨vs, hd⟩ := hf
  obtain ⟨mA, hns, hr⟩ : ObjOk X.prog X.w H1 s1.heap dd (.xd fs) := I1.hok dd _ ea
  obtain ⟨od, ho, hl⟩ := lookIn_ns hns
  obtain ⟨u, hu, ru⟩ := RelO.some_of (v := v) (o := mA n) (by rw [← l]; exact hr n)
  exact HandSPX.exc_get I1.kIn (⟨ha, hz.1, by unfold PySem.W.notCls; rw [hd] <;> rfl, by rw [hz.2]; exact ho⟩ : PySem.W.InstAt s1.heap a oe C (some od)) T.ga T.gg T.exC (PySem.W.findObj_own T.hdC hno rfl (by rw [hl, hu])) (handed_of ru) ⟨v, H1, I1.tok _, ru, w⟩
variable {CX : CXT} {k : Nat} {f : Addr} {fd : FuncData} {ps : List Str} {sp : SpE} {E : XK} {es : List Expr} {t : TA}
/-- f(e, ..) where an exception is handled -/
theorem pe_callE (F : FnE X.prog X.w X.K X.mg X.base CX k f fd ps sp) (hr : L2H.RoomH k X.A) (hp : (a, oe) ∈ X.pn) (hz : Zc cls d oe) (hf : ∃ z, oe.data = .fields z) (hg : Gl X x) (hm : X.mg x = some (.ref f)) (hk : PySem.W.keepIn X.K (.ref f) = true) (hb : L2.Binds X.K fd ps []) (hx : Passes CX X E)
    (hargs : PA X (e :: es) t) (hdb : (x == ("__debug__" : Str)) = false := by decide) (he : starEach (e :: es) X.env = (false, eval e X.env) :: starEach es X.env := by rfl) (hpl : (backTo pos (starEach es X.env)).any (·.1) = false := by rfl) :
    PE X (.Call (.Name x q) (e :: es) [] pos) (tCall (sp a cls d) [] E t) := by
  refine ⟨fun pins s σ H Q I h => wpAny_Call_Name_kw (ld_glob I hg hm ?_ hdb)⟩
  refine PySem.W.callWith_K (h₀ := X.base) I.ok.mod.kin hk (thn (hargs.run pos pins s σ H _ I h) fun us s1 ⟨vs, H1, I1, r, w⟩ => ⟨I1.kIn, ?_⟩) he hpl
  replace w : sp a cls d (vs ++ []) H1 Q E := w
  rw [List.append_nil] at w
  have hl : us.length = ps.length := by rw [← r.length]; exact F.len _ _ _ _ _ _ _ w
  have b := hb s1 us I1.kIn (by rw [List.append_nil]; exact hl)
  rw [List.append_nil] at b
  have P1 := I1.pin (a, oe) (List.mem_append_left _ hp)
  have hpin : L2H.PinOk X.stack H1 s1 (a, oe) := ⟨P1.1, P1.2.1, fun hm => (List.mem_cons.mp (I1.stkSub a hm)).elim P1.2.2.1 P1.2.2.2.1, P1.2.2.2.2⟩
  refine wpAny_call (codeAny_mono (F.run X.A X.stack s1 H1 ⟨us, []⟩ us vs Q E (a, oe) cls d hr hz hf hpin I1.env0 b r w) fun r s2 hq => ?_)
  cases r with
  | error e => exact hx pins σ H1 s1 e s2 I1 hq
  | ok fl =>
    cases fl with
    | ret u => exact I1.after hq
    | _ => exact hq.elim
end
end ExX

namespace ExX
open PySem PySem.Spec PyProof.Rows L2 LamX
theorem un_over {fs fs2 : List Addr} {H H1 H2 : Hp} {h h1 h2 : Heap} (a : Un fs [] H H1 h h1) (b : Un fs2 [] H1 H2 h1 h2) (hl : ∀ c ∈ fs2, c ∈ fs ∨ h.objs.size ≤ c) : Un fs [] H H2 h h2 where
  keep := fun c o q n hc _ => b.keep c o (a.keep c o q n hc (by simp)) (a.free c o q n (by simp)) (fun z => (hl c z).elim hc fun y => Nat.not_lt.mpr y (Heap.lt_size q)) (by simp)
  slot := fun c o q n hc _ => by
    obtain ⟨sl, e⟩ := a.slot c o q n hc (by simp)
    obtain ⟨sl2, e2⟩ := b.any e (a.free c o q n (by simp)) (by simp)
    exact ⟨sl2, e2⟩
  free := fun c o q n _ => by
    obtain ⟨sl, e⟩ := a.any q n (by simp)
    exact b.free c _ e (a.free c o q n (by simp)) (by simp)
  there := fun c o q _ => by
    obtain ⟨o1, e⟩ := a.there c o q (by simp)
    exact b.there c o1 e (by simp)
  tups := fun c xs q => b.tups c xs (a.tups c xs q)
  frzs := fun c o u q => b.frzs c o u (a.frzs c o u q)
  tbls := fun c ps q => by
    obtain ⟨m, e⟩ := a.tbls c ps q
    obtain ⟨m2, e2⟩ := b.tbls c _ e
    exact ⟨m ++ m2, by rw [e2, Array.append_assoc]⟩
/-- the lambda at f, its code object at c2, made in X -/
def CloO (X : Cx) (params : Arguments) (body : Expr) (scope : Scope) (f c2 : Addr) : HO := .ext fun h => ∃ pm ctv : Value, h.get? f = some (PySem.W.kla_obj "<lambda>" (X.env.qual ++ "<lambda>") params body scope (cloFrom X.env.cells scope.names []) pm c2 ctv)
theorem cloO_tbl {X : Cx} {params : Arguments} {body : Expr} {scope : Scope} {f c2 : Addr} (ps : Array Value) : CloO X params body scope f c2 ≠ .tbl ps := fun z => by
  unfold CloO at z
  cases z
theorem clo_ok {X : Cx} {params : Arguments} {body : Expr} {scope : Scope} {f c2 : Addr} {P : Program} {w : World} {H : Hp} {h : Heap} {pm ctv : Value} (e : h.get? f = some (PySem.W.kla_obj "<lambda>" (X.env.qual ++ "<lambda>") params body scope (cloFrom X.env.cells scope.names []) pm c2 ctv)) :
    ObjOk P w H h f (CloO X params body scope f c2) := ⟨⟨pm, ctv, e⟩, ⟨_, e⟩, fun h1 h2 ⟨a, b, c⟩ st => ⟨a, b, st _ c⟩⟩
section
variable {X : Cx} {pins : List (Addr × Obj)} {σ : L2.St} {H : Hp} {s : Shared}
/-- a lambda is made and tracked -/
theorem lam_made {T : List (Addr × Str)} {c P : Addr} {params : Arguments} {body : Expr} {scope : Scope} {pos : Pos} {E : Value → Shared → Prop} {Q : Value → Shared → Prop} (I : Inv X pins σ H s) (TB : TabB X.base X.mg c P) (hcode : X.env.code = .ref c)
    (hm : (P, X.env.qual ++ "<lambda>") ∈ T) (hu : ∀ p ∈ T, p.1 = P → p.2 = X.env.qual ++ "<lambda>") (hT : Tabs T H) (hdef : defaultsOf params X.env = ([], [])) (hfree : ∀ y ∈ scope.names, y.2 = .free → ∃ c, X.env.cells.lookup y.1 = some c)
    (h : ∀ (f c2 : Addr) (H1 : Hp) (s1 : Shared), Inv X pins σ (upd H1 f (CloO X params body scope f c2)) s1 → ExtN H H1 → Tabs T H1 → H1 f = none → H1 c2 = some (CodeO c2 (X.env.qual ++ "<lambda>")) → Q (.ref f) s1) :
    wpAny (model X.prog X.w) X.A (eval (.Lambda params body scope pos) X.env) Q E s := by
  obtain ⟨ps, hP, ht, ha⟩ := hT _ hm
  refine PySem.W.kla_eval hdef ?_
  have bP : s.heap.BuiltinsAt X.mg P := TB.bm.keeps I.bk
  have hPs : s.heap.get? P = some { cls := .none, data := .fields ps } := I.hok P _ hP
  cases hc : codeAmong pos ps.toList with
  | none =>
    refine PySem.W.kla_makeFunction (mg := X.mg) (c := c) (P := P) (ps := ps) (closure_ok hfree) I.ok.glob (I.mod.glob.keeps I.bk) hcode (TB.code.keeps I.bk) hPs ht hc TB.gP bP fun c2 ctv h2 tk hx hge hlt hrec htb => ?_
    obtain ⟨c3, oc, vs, t, e2, hoc, hd, hv⟩ := hrec
    cases e2
    have nC : H c2 = none := I.hok.fresh hge
    have I1 := inv_table (t' := tk) (more := #[rawInt pos.line, rawInt pos.col, .ref c2]) (h' := h2) I hP hx htb hge ⟨oc, vs, t, hoc, hd, hv⟩
    have hE : ExtN H (upd (upd H P (.tbl (ps ++ #[rawInt pos.line, rawInt pos.col, .ref c2]))) c2 (CodeO c2 (X.env.qual ++ "<lambda>"))) := fun b o e n => by
      rw [upd_ne (ne_of_none e nC), upd_ne (show b ≠ P from fun z => n ps (Option.some.inj (e.symm.trans (by rw [z]; exact hP))))]
      exact e
    have eL : (ps ++ #[rawInt pos.line, rawInt pos.col, .ref c2]).toList = ps.toList ++ [rawInt pos.line, rawInt pos.col, .ref c2] := by simp
    refine h h2.objs.size c2 _ _ (I1.laid (t' := tk) (fun _ _ e => Heap.get?_push_of_some _ e) (Nat.le_refl _) (clo_ok (Heap.get?_push_size _ rfl))) hE (fun p hp => ?_) (I1.hok.fresh (Nat.le_refl _)) upd_same
    by_cases hb : p.1 = P
    · refine ⟨_, by rw [hb, upd_ne (ne_of_none hP nC), upd_same], by rw [eL]; exact PySem.TriplesOk_snoc _ _ _ _ ht, fun pz cv hcv => ?_⟩
      rw [eL] at hcv
      rw [hu p hp hb]
      rcases among_app _ ht hcv with z | z
      · obtain ⟨c0, e1, e2⟩ := ha pz cv z
        exact ⟨c0, e1, hE _ _ e2 codeO_ne⟩
      · exact ⟨c2, z, upd_same⟩
    · obtain ⟨psz, a1, a2, a3⟩ := hT p hp
      refine ⟨psz, by rw [upd_ne (ne_of_none a1 nC), upd_ne hb]; exact a1, a2, fun pz cv hcv => ?_⟩
      obtain ⟨c0, e1, e2⟩ := a3 pz cv hcv
      exact ⟨c0, e1, hE _ _ e2 codeO_ne⟩
  | some cv =>
    obtain ⟨c2, e, hco⟩ := ha pos cv hc
    subst e
    refine PySem.W.kla_makeFunctionHit (mg := X.mg) (c := c) (P := P) (ps := ps) (closure_ok hfree) I.ok.glob (I.mod.glob.keeps I.bk) hcode (TB.code.keeps I.bk) hPs ht hc bP fun ctv h2 tk hx hsz => ?_
    have I1 : Inv X pins σ H { s with heap := h2, toks := tk } := I.kept hx
    exact h h2.objs.size c2 H _ (I1.laid (t' := tk) (fun _ _ e => Heap.get?_push_of_some _ e) (Nat.le_refl _) (clo_ok (Heap.get?_push_size _ rfl))) (ExtN.refl H) hT (I1.hok.fresh (Nat.le_refl _)) hco
end
/-- what is at f acts as tl tells, called from behind s0, H0 -/
structure Acts (P : Program) (w : World) (K : PySem.W.Frag) (mg : Str → Option Value) (base : Heap) (k : Nat) (fs : List Addr) (f : Addr) (s0 : Shared) (H0 : Hp) (tl : XK → Hp → VK → Prop) : Prop where
  fn : ∀ (s1 : Shared) (HZ : Hp) (Q : VK) (E : XK), HOk P w HZ s1.heap → tl E HZ Q → PySem.W.FnAt f s1.heap
  run : ∀ (A : Around) (outer : List Env) (s1 : Shared) (HZ : Hp) (Q : VK) (E : XK), Room k A → Env0 P w K mg base A outer s1 HZ → Un fs [] H0 HZ s0.heap s1.heap → tl E HZ Q →
    codeAny (model P w) A (.call (.ref f) ⟨[], []⟩) (CR (L2N.CX P w) outer P w HZ s1 Q E) s1
/-- the context of a lambda's body: what is raised there has no context of its own -/
abbrev lamC (X : Cx) (A : Around) (outer : List Env) (s : Shared) (H : Hp) (E : XK) (scope : Scope) (f c2 : Addr) : Cx := (lamCx X A outer s H E scope f c2).wish fun e s1 =>
  wpAny (model X.prog X.w) (A.deeper (lamEnv X scope s.heap.objs.size f c2)) (leaving (lamEnv X scope s.heap.objs.size f c2) e) (fun _ s2 => L2N.CX X.prog X.w outer H s E e s2) (fun e2 s2 => L2N.CX X.prog X.w outer H s E e2 s2) s1
/-- a lambda of X's text: what its body reads -/
structure LamD (X : Cx) (k : Nat) where
  params : Arguments
  body : Expr
  scope : Scope
  tb : XK → TE
  L : LamS X.env.scope scope
  hbind : ∀ (q : Str) (cl : List (Str × Addr)) (pm cv ctv : Value), bindArgs (PySem.W.kla_fn "<lambda>" q params body scope cl pm cv ctv) ⟨[], []⟩ = pure []
  hbody : ∀ (f c2 : Addr) (E : XK) (A : Around) (outer : List Env) (s : Shared) (H : Hp), Room k (A.deeper (lamEnv X scope s.heap.objs.size f c2)) → PE (lamC X A outer s H E scope f c2) body (tb E)
/-- such a lambda stands at f -/
def LamD.At {X : Cx} {k : Nat} (D : LamD X k) (f : Addr) (H : Hp) : Prop := ∃ c2, H f = some (CloO X D.params D.body D.scope f c2) ∧ H c2 = some (CodeO c2 (X.env.qual ++ "<lambda>"))
/-- what it does, made with the slots σ -/
def LamD.does {X : Cx} {k : Nat} (D : LamD X k) (f : Addr) (σ : L2.St) : XK → Hp → VK → Prop := fun E HZ Q => D.At f HZ ∧ D.tb E σ HZ Q
section
variable {X : Cx} {pins : List (Addr × Obj)} {σ : L2.St} {H : Hp} {s : Shared}
theorem acts_of {k : Nat} (D : LamD X k) {f : Addr} (I : Inv X pins σ H s) : Acts X.prog X.w X.K X.mg X.base (k + 1) (frs X.stack) f s H (D.does f σ) := by
  refine ⟨fun s1 HZ Q E hok ⟨⟨c2, hcf, hcc⟩, ht⟩ => ?_, fun A outer s1 HZ Q E hr e0 un ⟨⟨c2, hcf, hcc⟩, ht⟩ => ?_⟩
  · obtain ⟨⟨pm, ctv, of1⟩, _, _⟩ := hok f _ hcf
    exact ⟨_, _, _, _, of1⟩
  obtain ⟨⟨pm, ctv, of1⟩, _, _⟩ := e0.hok f _ hcf
  obtain ⟨⟨oc, vs, t, hoc, hdc, hvc⟩, _, _⟩ := e0.hok c2 _ hcc
  refine PySem.W.kla_callFunE hr.depth of1 rfl D.L.co D.L.gen rfl ⟨c2, oc, vs, t, rfl, hoc, hdc, hvc⟩ ?_
  rw [D.hbind]
  have lim : s1.heap.NoLimit := e0.mod.nolimit.keeps fun b o e => (e0.bs b o e).1
  refine wpAny_pure (wpAny_newFunctionEnv (fun y hy => (D.L.own y hy).2) (fun y hy => absurd hy (by simp)) (fun h1 hns hsb => ⟨lim.fresh _ hsb, ?_⟩) D.L.kind)
  show codeAny _ _ (.expr D.body (lamEnv X D.scope s1.heap.objs.size f c2)) _ _
  have kp : ∀ b o, s1.heap.get? b = some o → h1.get? b = some o := fun b o e => hsb.extBut b o (Nat.ne_of_lt (Heap.lt_size e)) (Heap.get?_push_of_some _ e)
  have J : Inv (lamCx X A outer s1 HZ E D.scope f c2) [] σ HZ { s1 with heap := h1, toks := s1.toks + ([] : List (Str × Value)).length } := lam_start2 I D.L e0 hr.hd un hns kp
  refine PySem.W.kla_codeExpr (wpAny_mono ((D.hbody f c2 E A outer s1 HZ (hr.deeper _)).run [] _ _ HZ Q (J.wish _) ht) (fun v s2 hq => ?_) fun e s2 hq => hq)
  obtain ⟨w2, H2, J2, rv, q⟩ := hq
  exact ⟨w2, H2, J2.os, J2.bare, J2.base, J2.hok, rv, q⟩
end
/-- a(), a the name of what acts -/
theorem pe_do {Z : Cx} {W : WX} {k i : Nat} {a : Str} {f : Addr} {fs : List Addr} {s0 : Shared} {H0 : Hp} {tl : XK → Hp → VK → Prop} {p1 p2 : Pos} (ac : Acts Z.prog Z.w Z.K Z.mg Z.base k fs f s0 H0 tl) (hr : Room k Z.A) (hex : Z.ex = []) (hU : Un fs [] H0 Z.H_0 s0.heap Z.s_0.heap)
    (ho : ∀ c ∈ frs Z.outer, c ∈ fs ∨ s0.heap.objs.size ≤ c) (tk : L2N.Takes Z W) (hN : Z.N[i]? = some a) (hv : Vis Z.env.scope a) (hd : (a == ("__debug__" : Str)) = false := by decide) (hcd : (a == ("__classdict__" : Str)) = false := by decide) :
    PE Z (.Call (.Name a p1) [] [] p2) (fun σ H Q => σ[i]? = some (some (.ref f)) ∧ ∃ (E1 : XK) (Q1 : VK), tl E1 H Q1 ∧ (∀ cls d H1, E1 cls d H1 → W cls d σ H1) ∧ ∀ v H1, Q1 v H1 → Q v H1) := by
  refine ⟨fun pins s σ H Q I ⟨hs, E1, Q1, ht, hE, hQ⟩ => wpAny_Call_Name_kw (thn ((pe_var (pos := p1) (i := i) hN hv hd hcd).run pins s σ H (fun v H1 => v = .ref f ∧ H1 = H) I ⟨.ref f, hs, rfl, rfl⟩) fun u s1 ⟨v, H1, I1, r1, ev, eH⟩ => ?_)⟩
  subst ev eH
  obtain rfl : u = Value.ref f := r1
  have base : Un (frs Z.outer) [] Z.H_0 H1 Z.s_0.heap s1.heap := hex ▸ I1.base
  refine PySem.W.callWith_F0 (ac.fn _ _ _ _ I1.hok ht) (wpAny_call (codeAny_mono (ac.run Z.A Z.stack s1 H1 Q1 E1 hr I1.env0 (un_over hU base ho) ht) fun r s2 hq => ?_))
  cases r with
  | error e => exact tk e s2 (L2N.XE.of_call I1 (fun cls d H2 z => hE cls d H2 z) hq)
  | ok fl =>
    cases fl with
    | ret u =>
      obtain ⟨v, H2, c1, c2, c3, c4, c5, c6⟩ := hq
      exact I1.after ⟨v, H2, c1, c2, c3, c4, c5, hQ _ _ c6⟩
    | _ => exact hq.elim
/-- a def of one parameter, handed what acts; it lets nothing out -/
structure FnL (P : Program) (w : World) (K : PySem.W.Frag) (mg : Str → Option Value) (base : Heap) (k : Nat) (g : Addr) (TT : (XK → Hp → VK → Prop) → Hp → VK → Prop) : Prop where
  run : ∀ (kk : Nat) (f : Addr) (fs : List Addr) (s0 : Shared) (H0 : Hp) (tl : XK → Hp → VK → Prop), Acts P w K mg base kk fs f s0 H0 tl → ∀ (A : Around) (outer : List Env) (s : Shared) (H : Hp) (Q : VK), Room (kk + k) A → Env0 P w K mg base A outer s H → Un fs [] H0 H s0.heap s.heap →
    (∀ c ∈ frs outer, c ∈ fs ∨ s0.heap.objs.size ≤ c) → s0.heap.objs.size ≤ s.heap.objs.size → TT tl H Q → codeAny (model P w) A (.call (.ref g) ⟨[.ref f], []⟩) (CR C8.CX0 outer P w H s Q C8.E0) s
section
variable {P : Program} {w : World} {K : PySem.W.Frag} {mg : Str → Option Value} {base : Heap} {k : Nat} {g : Addr} {TT : (XK → Hp → VK → Prop) → Hp → VK → Prop}
theorem fnL_of {x qual a : Str} {st : Stmt} {fd : FuncData} {N : List Str} (F : Fun K x qual st g fd) (S : FnScope N [a] (defScope st)) (hb : L2.Binds K fd [a] [])
    (hbody : ∀ (kk : Nat) (f : Addr) (fs : List Addr) (s0 : Shared) (H0 : Hp) (tl : XK → Hp → VK → Prop), Acts P w K mg base kk fs f s0 H0 tl → ∀ (cdv : Value) (A : Around) (outer : List Env) (s : Shared) (H : Hp) (Q : VK), Room (kk + k) (A.deeper (envOfC qual (defScope st) s.heap.objs.size g cdv)) → Un fs [] H0 H s0.heap s.heap →
      (∀ c ∈ frs outer, c ∈ fs ∨ s0.heap.objs.size ≤ c) → s0.heap.objs.size ≤ s.heap.objs.size → TT tl H Q → ∃ t, PSs (cxOf C8.CX0 P w K mg base N qual (defScope st) g cdv A outer s H C8.E0) (defBody st) t ∧ t { nx := fun _ H1 => Q .non H1, rt := Q } (L2.start N [.ref f]) H) :
    FnL P w K mg base (k + 1) g TT := by
  refine ⟨fun kk f fs s0 H0 tl ac A outer s H Q hr e0 hU ho hz ht => ?_⟩
  obtain ⟨oc, od, kV, doc, pm, an, cdv, ct, osl, rfl, lk, hcd⟩ := F.ex
  have b := hb s [.ref f] (e0.mod.kin.keeps fun b o e => (e0.bs b o e).1) rfl
  exact run_ofS (k := kk + k) (N := N) (ps := [a]) (us := [.ref f]) (vs := [.ref f]) lk hcd S hr e0 b (.cons rfl .nil) rfl fun hr2 => hbody kk f fs s0 H0 tl ac cdv A outer s H Q hr2 hU ho hz ht
end
section
variable {Z : Cx} {k kk i : Nat} {g : Addr} {TT : (XK → Hp → VK → Prop) → Hp → VK → Prop} {x a : Str} {p p1 pos : Pos}
/-- x(a), a the name of what acts -/
theorem pe_hand {f : Addr} {fs : List Addr} {s0 : Shared} {H0 : Hp} {tl : XK → Hp → VK → Prop} (G : FnL Z.prog Z.w Z.K Z.mg Z.base k g TT) (ac : Acts Z.prog Z.w Z.K Z.mg Z.base kk fs f s0 H0 tl) (hr : Room (kk + k) Z.A) (hex : Z.ex = []) (hU : Un fs [] H0 Z.H_0 s0.heap Z.s_0.heap)
    (ho : ∀ c ∈ frs Z.stack, c ∈ fs ∨ s0.heap.objs.size ≤ c) (hg : Gl Z x) (hm : Z.mg x = some (.ref g)) (hk : PySem.W.keepIn Z.K (.ref g) = true) (hN : Z.N[i]? = some a) (hv : Vis Z.env.scope a) (hos : ∀ c ∈ frs Z.outer, c ∈ frs Z.stack) (hz : s0.heap.objs.size ≤ Z.s_0.heap.objs.size) (hdb : (x == ("__debug__" : Str)) = false := by decide) (hd : (a == ("__debug__" : Str)) = false := by decide)
    (hcd : (a == ("__classdict__" : Str)) = false := by decide) (he : starEach [Expr.Name a p1] Z.env = (false, eval (.Name a p1) Z.env) :: starEach [] Z.env := by rfl) (hpl : (backTo pos (starEach [] Z.env)).any (·.1) = false := by rfl) :
    PE Z (.Call (.Name x p) [.Name a p1] [] pos) (fun σ H Q => σ[i]? = some (some (.ref f)) ∧ TT tl H Q) := by
  refine ⟨fun pins s σ H Q I ⟨hs, ht⟩ => wpAny_Call_Name_kw (ld_glob I hg hm ?_ hdb)⟩
  refine PySem.W.callWith_K (h₀ := Z.base) I.ok.mod.kin hk (thn ((pa_cons (pe_var (pos := p1) (i := i) hN hv hd hcd) pa_nil).run pos pins s σ H (fun vs H1 => vs = [.ref f] ∧ H1 = H) I ⟨.ref f, hs, rfl, rfl⟩) fun us s1 ⟨vs, H1, I1, r, ev, eH⟩ => ⟨I1.kIn, ?_⟩) he hpl
  subst ev eH
  cases r with
  | @cons _ u0 _ ur ra rw2 =>
    cases rw2
    obtain rfl : u0 = Value.ref f := ra
    have base : Un (frs Z.outer) [] Z.H_0 H1 Z.s_0.heap s1.heap := hex ▸ I1.base
    refine wpAny_call (codeAny_mono (G.run kk f fs s0 H0 tl ac Z.A Z.stack s1 H1 Q hr I1.env0 (un_over hU base fun c hc => ho c (hos c hc)) ho (Nat.le_trans hz I1.sz) ht) fun r s2 hq => ?_)
    cases r with
    | error e => exact (show False from hq).elim
    | ok fl =>
      cases fl with
      | ret u => exact I1.after hq
      | _ => exact hq.elim
/-- x(e), e giving a lambda of the def's own text -/
theorem pe_give {e : Expr} {te : TE} (G : FnL Z.prog Z.w Z.K Z.mg Z.base k g TT) (hr : Room (kk + 1 + k) Z.A) (hg : Gl Z x) (hm : Z.mg x = some (.ref g)) (hk : PySem.W.keepIn Z.K (.ref g) = true) (h1 : PE Z e te) (hdb : (x == ("__debug__" : Str)) = false := by decide)
    (he : starEach [e] Z.env = (false, eval e Z.env) :: starEach [] Z.env := by rfl) (hpl : (backTo pos (starEach [] Z.env)).any (·.1) = false := by rfl) :
    PE Z (.Call (.Name x p) [e] [] pos) (fun σ H Q => te σ H fun v H1 => ∃ (f : Addr) (D : LamD Z kk), [v] = [V.ref f] ∧ TT (D.does f σ) H1 Q) := by
  refine ⟨fun pins s σ H Q I h => wpAny_Call_Name_kw (ld_glob I hg hm ?_ hdb)⟩
  refine PySem.W.callWith_K (h₀ := Z.base) I.ok.mod.kin hk (thn ((pa_cons h1 pa_nil he).run pos pins s σ H (fun vs H1 => ∃ (f : Addr) (D : LamD Z kk), vs = [.ref f] ∧ TT (D.does f σ) H1 Q) I h) fun us s1 ⟨vs, H1, I1, r, f, D, ev, ht⟩ => ⟨I1.kIn, ?_⟩) he hpl
  subst ev
  cases r with
  | @cons _ u0 _ ur ra rw2 =>
    cases rw2
    obtain rfl : u0 = Value.ref f := ra
    refine wpAny_call (codeAny_mono (G.run (kk + 1) f (frs Z.stack) s1 H1 _ (acts_of D I1) Z.A Z.stack s1 H1 Q hr I1.env0 Un.refl (fun c hc => .inl hc) (Nat.le_refl _) ht) fun r s2 hq => ?_)
    cases r with
    | error e => exact (show False from hq).elim
    | ok fl =>
      cases fl with
      | ret u => exact I1.after hq
      | _ => exact hq.elim
/-- lambda: body -/
theorem pe_lam {T : List (Addr × Str)} {c PT : Addr} (D : LamD Z kk) (TB : TabB Z.base Z.mg c PT) (hcode : Z.env.code = .ref c) (hmT : (PT, Z.env.qual ++ "<lambda>") ∈ T) (hu : ∀ q ∈ T, q.1 = PT → q.2 = Z.env.qual ++ "<lambda>") (hdef : defaultsOf D.params Z.env = ([], [])) :
    PE Z (.Lambda D.params D.body D.scope pos) (fun _ H Q => Tabs T H ∧ ∀ f H1, ExtN H H1 → Tabs T H1 → D.At f H1 → Q (.ref f) H1) := by
  refine ⟨fun pins s σ H Q I ⟨hT, h⟩ => lam_made I TB hcode hmT hu hT hdef (D.L.has I.ok) fun f c2 H1 s1 I1 eN T1 nf hc => ?_⟩
  have ne : ∀ {b : Addr} {o : HO}, H1 b = some o → upd H1 f (CloO Z D.params D.body D.scope f c2) b = some o := fun {b o} e => by rw [upd_ne (ne_of_none e nf)]; exact e
  exact ⟨.ref f, _, I1, rfl, h f _ (fun b o e n => ne (eN b o e n)) (T1.ext fun b o e => ne e) ⟨c2, upd_same, ne hc⟩⟩
/-- x(lambda: body) -/
theorem pe_ask {T : List (Addr × Str)} {c PT : Addr} {lp : Pos} (D : LamD Z kk) (G : FnL Z.prog Z.w Z.K Z.mg Z.base k g TT) (hr : Room (kk + 1 + k) Z.A) (hg : Gl Z x) (hm : Z.mg x = some (.ref g)) (hk : PySem.W.keepIn Z.K (.ref g) = true) (TB : TabB Z.base Z.mg c PT) (hcode : Z.env.code = .ref c)
    (hmT : (PT, Z.env.qual ++ "<lambda>") ∈ T) (hu : ∀ q ∈ T, q.1 = PT → q.2 = Z.env.qual ++ "<lambda>") (hdef : defaultsOf D.params Z.env = ([], [])) (hdb : (x == ("__debug__" : Str)) = false := by decide)
    (he : starEach [.Lambda D.params D.body D.scope lp] Z.env = (false, eval (.Lambda D.params D.body D.scope lp) Z.env) :: starEach [] Z.env := by rfl) (hpl : (backTo pos (starEach [] Z.env)).any (·.1) = false := by rfl) :
    PE Z (.Call (.Name x p) [.Lambda D.params D.body D.scope lp] [] pos) (fun σ H Q => Tabs T H ∧ ∀ f H1, ExtN H H1 → Tabs T H1 → D.At f H1 → TT (D.does f σ) H1 Q) :=
  ⟨fun pins s σ H Q I ⟨h1, h2⟩ => (pe_give (kk := kk) G hr hg hm hk (pe_lam D TB hcode hmT hu hdef) hdb he hpl).run pins s σ H Q I ⟨h1, fun f H1 a b c => ⟨f, D, rfl, h2 f H1 a b c⟩⟩⟩
theorem LamD.At.same {D : LamD Z kk} {f : Addr} {H H1 : Hp} (a : D.At f H) (s : ∀ b o, H b = some o → H1 b = some o) : D.At f H1 := by
  obtain ⟨c2, h1, h2⟩ := a
  exact ⟨c2, s _ _ h1, s _ _ h2⟩
end
end ExX

namespace ExX
open PySem PySem.Spec PyProof.Rows L2
section
variable {prog : Program} {w : World} {A : Around} {E : Value → Shared → Prop} {s : Shared}
/-- a tuple's iterator is at its end, while x1 is handled -/
theorem next_end_hot {it t i : Nat} {items : Array Value} {x1 : Addr} {Q : Option Value → Shared → Prop} (hot : HotX.HotAt A x1 s.heap) (hit : s.heap.IsTupleIter it t i) (ht : s.heap.IsTuple t items) (hx : items[i]? = none) (hne : x1 ≠ it)
    (hQ : ∀ h2, (∀ b o, b ≠ it → s.heap.get? b = some o → h2.get? b = some o) → Q none { s with heap := h2 }) : wpAny (model prog w) A (pyNext (.ref it)) Q E s := by
  obtain ⟨hh, o1, v1, h1, d1, c1⟩ := hot
  obtain ⟨o, ho, hc, hd⟩ := id hit
  obtain ⟨ol, hol, hcl, nl, hdl⟩ := id ht
  unfold pyNext
  refine wpAny_bind (wpAny_attempt (wpAny_callSpecial?_slot (name := Str.ofString "__next__") hit.typeIs F.slot_tuple_iterator_next
    (wpAny_call_entry F.slot_tuple_iterator_next hit.typeIs F.entry_tuple_iterator_next ?_ (F.args_tuple_iterator_next_1 _))))
  show wpAny _ _ (field (.ref it) 0 >>= _) _ _ s
  refine wpAny_bind (wpAny_field ho hd (x := .ref t) rfl ?_)
  show wpAny _ _ (if (Value.ref t == Value.none) = true then _ else _) _ _ s
  rw [if_neg (show ¬ ((Value.ref t == Value.none) = true) from by simp)]
  show wpAny _ _ (field (.ref it) 1 >>= _) _ _ s
  refine wpAny_bind (wpAny_field ho hd (x := .int i 0) rfl ?_)
  show wpAny _ _ (seqItems? (.ref t) >>= _) _ _ s
  refine wpAny_bind (wpAny_seqItems hol hdl ?_)
  simp only [Int.toNat_natCast, hx]
  refine wpAny_bind (wpAny_rule (wpAny_bind (wpAny_setField ho hd (by simp) ?_)))
  show wpAny _ _ (newExc (.type "StopIteration") [] >>= _) _ _ _
  refine wpAny_bind ?_
  simp only [newExc, newTuple]
  refine wpAny_bind (wpAny_newObj_type ?_ (by size_fits))
  refine wpAny_bind (m := firstArgMember _ _) (wpAny_of_eq (a := Value.none) (by first | rfl | (simp only [firstArgMember]; rfl)) (wpAny_newObj_type ?_ (by size_fits)))
  have k : ∀ b u, b ≠ it → s.heap.get? b = some u → (s.heap.update it (Obj.mapFields (·.setIfInBounds 0 Value.none))).get? b = some u := fun b u hb e => (Heap.get?_update_other _ _ (Ne.symm hb)).trans e
  have sz := Heap.lt_size (k x1 o1 hne h1)
  refine HotX.raiseNew_hot (x1 := x1) ⟨hh, o1, v1, Heap.get?_push_of_some _ (Heap.get?_push_of_some _ (k _ _ hne h1)), d1, c1⟩ (Nat.ne_of_lt (Heap.lt_size (Heap.get?_push_of_some _ (k _ _ hne h1)))) (Heap.get?_push_size _ rfl) rfl (by first | (simp; done) | (simp; omega)) ?_
  refine wpAny_bind (wpAny_isInstance (T := "StopIteration") (b := true) ⟨_, Heap.get?_update_self _ (Heap.get?_push_size _ rfl) rfl, rfl⟩ isSubtype_stop ?_)
  refine wpAny_pure (hQ _ fun b o hb e => ?_)
  rw [Heap.get?_update_other _ _ (Nat.ne_of_gt (Heap.lt_size (Heap.get?_push_of_some _ (k b o hb e))))]
  exact Heap.get?_push_of_some _ (Heap.get?_push_of_some _ (k b o hb e))
theorem unpack_hot {t : Addr} {items : Array Value} {x1 : Addr} {Q : List Value → Shared → Prop} (hot : HotX.HotAt A x1 s.heap) (ht : s.heap.IsTuple t items)
    (hQ : ∀ h2, (∀ b o, b ≠ s.heap.objs.size → s.heap.get? b = some o → h2.get? b = some o) → Q items.toList { s with heap := h2 }) : wpAny (model prog w) A (unpackItems (.ref t) items.size none) Q E s := by
  have hlt : t ≠ s.heap.objs.size := by obtain ⟨o, ho, _⟩ := ht; exact Nat.ne_of_lt (Heap.lt_size ho)
  obtain ⟨hh, o1, v1, h1, d1, c1⟩ := hot
  have hxs : x1 ≠ s.heap.objs.size := Nat.ne_of_lt (Heap.lt_size h1)
  unfold unpackItems
  refine wpAny_bind ?_
  unfold notIterableAtAll
  refine wpAny_bind (wpAny_specialOf ht.typeIs F.slot_tuple_iter.lookup (wpAny_pure ?_))
  simp only [Bool.false_eq_true, if_false]
  refine wpAny_bind (wpAny_holding (wpAny_pyIter_tuple ht ?_))
  refine wpAny_bind (wpAny_holding (wpAny_draw_tuple hlt items.size 0 _ _ ⟨_, Heap.get?_push_size _ rfl, rfl, rfl⟩ (ht.push _) (by omega) fun h2 hit2 hs2 => ?_))
  have all : List.take items.size (List.drop 0 items.toList) = items.toList := by rw [List.drop_zero]; exact List.take_of_length_le (by simp)
  rw [all, if_neg (by simp)]
  have ht2 : h2.IsTuple t items := (ht.push _).extBut hs2.extBut hlt
  refine wpAny_bind (wpAny_holding (next_end_hot (x1 := x1) ⟨hh, o1, v1, hs2.extBut _ _ hxs (Heap.get?_push_of_some _ h1), d1, c1⟩ hit2 ht2 (by simp) hxs fun h3 k3 => ?_))
  simp only [Option.isSome_none, Bool.false_eq_true, if_false]
  exact wpAny_pure (hQ h3 fun b o hb e => k3 b o hb (hs2.extBut b o hb (Heap.get?_push_of_some _ e)))
end
/-- a, b = x, y where an exception is handled -/
theorem ps_parH {X : Cx} {pos : Pos} {i j : Nat} {x y : Str} {a b : Expr} {ta : TA} {px py pt : Pos} {kt k2 pt2} (hc : L2H.HotC X) (hN : X.N.Nodup) (hi : X.N[i]? = some x) (hj : X.N[j]? = some y) (hij : i ≠ j)
    (hx : X.env.scope.names.lookup x = some .local) (hy : X.env.scope.names.lookup y = some .local) (ha : PA X [a, b] ta)
    (hw : swappedStores [.Tuple [.Name x px, .Name y py] kt pt] (.Tuple [a, b] k2 pt2) X.env = pure (some [x, y]))
    (hs : swapsWithSole [.Tuple [.Name x px, .Name y py] kt pt] (.Tuple [a, b] k2 pt2) pos.line X.env = pure false := by rfl) :
    PS X (.Assign [.Tuple [.Name x px, .Name y py] kt pt] (.Tuple [a, b] k2 pt2) pos) (tPar i j ta) := by
  refine ⟨fun pins s σ H D I h => ?_⟩
  rw [exec_Assign_arm]
  refine wpAny_bind (wpAny_standAt ?_)
  rw [hs]
  refine wpAny_bind (wpAny_pure ?_)
  rw [if_neg (by decide)]
  refine wpAny_bind (Tuple_ (thn (ha.run _ pins s σ H _ I h) fun us s1 ⟨vs, H1, I1, r1, v, z, e1, q1⟩ => ?_))
  subst e1
  obtain ⟨u1, u2, rfl, rv, rz⟩ : ∃ u1 u2, us = [u1, u2] ∧ RelV v u1 ∧ RelV z u2 := by
    cases r1 with
    | cons p q =>
      cases q with
      | cons p2 q2 =>
        cases q2
        exact ⟨_, _, rfl, p, p2⟩
  refine wpAny_newObj_type ?_ (by show 2 ≤ sizeLine; decide)
  have I2 : Inv X pins σ H1 { s1 with heap := s1.heap.push { cls := .type "tuple", data := .seq [u1, u2].toArray } } := I1.kept (t' := s1.toks) fun b o e => Heap.get?_push_of_some _ e
  rw [hw]
  refine wpAny_bind (wpAny_pure ?_)
  show wpAny (model X.prog X.w) X.A (do rule "assign.swapped-stores"; let items ← unpackItems (.ref s1.heap.objs.size) 2 none; assignInOrder [fun v => bindName X.env y v, fun v => bindName X.env x v] items.reverse; pure Flow.next) _ _ _
  obtain ⟨x1, hot⟩ := hc.at I2
  refine wpAny_bind (wpAny_rule (wpAny_bind (unpack_hot (items := #[u1, u2]) hot (IsTup.new s1.heap _) fun h2 k2 => ?_)))
  have I3 := I2.kept (h' := h2) (t' := s1.toks) fun b o e => k2 b o (Nat.ne_of_lt (Heap.lt_size e)) e
  show wpAny _ _ (assignInOrder [fun v => bindName X.env y v, fun v => bindName X.env x v] [u2, u1] >>= fun _ => pure Flow.next) _ _ _
  refine wpAny_bind (assignInOrder_cons (wpAny_bindName (store_ok I3 hN hj (.inl hy) rz (fun s2 I4 => ?_) (.inr hy))))
  refine assignInOrder_cons (wpAny_bindName (store_ok I4 hN hi (.inl hx) rv (fun s3 I5 => assignInOrder_nil (wpAny_pure ?_)) (.inr hx)))
  rw [List.set_comm _ _ (Ne.symm hij)] at I5
  exact ⟨_, H1, I5, q1⟩
end ExX

namespace ExX
open PySem PySem.Spec PyProof.Rows L2
abbrev luTail : List Value := [.type "LookupError", .type "Exception", .type "BaseException", .type "object"]
abbrev vaTail : List Value := [.type "ValueError", .type "Exception", .type "BaseException", .type "object"]
/-- the body of a class -/
def clsB : Stmt → List Stmt
  | .ClassDef _ _ _ b _ _ _ _ _ _ _ => b
  | _ => []
abbrev initS (s : Stmt) : Stmt := (clsB s).getD 0 (.Pass ⟨0, 0, 0, 0⟩)
theorem txt_int {i : Int} (h : i.natAbs.log2 < 1920) : (Str.ofString (toString i)).length ≤ 1921 := by
  rw [PySem.ofString_length]
  exact int_text_length_le (by decide) h
theorem fits {z : Str} (h : z.length ≤ 10000) : z.length ≤ sizeLine := by rw [sizeLine_eq]; omega
theorem fits_cat {a b : Str} {m n : Nat} (h1 : a.length ≤ m) (h2 : b.length ≤ n) : (a ++ b).length ≤ m + n := by rw [Str.length_append]; omega
/-- an int whose text is short enough -/
def Prt (v : V) : Prop := ∃ i : Int, v = .int i ∧ i.natAbs.log2 < 1920
/-- __init__ of the two classes above all others -/
def spTop (K : PySem.W.Frag) (nid : String) (tl : List Value) : Sp := fun vs H Q _ => ∃ (a C : Addr) (tag msg : Str), vs = [.ref a, .str tag, .str msg] ∧ H a = some (exo a C none) ∧ ExB K C nid tl ∧ PySem.W.findIn K (.ref C) "tag" = some none ∧
  ∀ dx, H dx = none → dx ≠ a → Q .non (upd (upd H dx (exd dx [("tag", .str tag)])) a (exo a C (some dx)))
/-- __init__ of an error with one field -/
def spErrI (K : PySem.W.Frag) (nid : String) (tl : List Value) (fld tag : Str) : Sp := fun vs H Q _ => ∃ (a C : Addr) (v : V), vs = [.ref a, v] ∧ Prt v ∧ H a = some (exo a C none) ∧ ExB K C nid tl ∧ PySem.W.findIn K (.ref C) "tag" = some none ∧ PySem.W.findIn K (.ref C) fld = some none ∧
  ∀ dx, H dx = none → dx ≠ a → Q .non (upd (upd (upd H dx (exd dx [("tag", .str tag)])) a (exo a C (some dx))) dx (exd dx [(fld, v), ("tag", .str tag)]))
/-- an error is on its way: its class, its dict, new, with the field and the tag -/
def Flies (H : Hp) (E : XK) (C : Addr) (fld tag : Str) (v : V) : Prop := ∀ d H1, H d = none → H1 d = some (.xd [(fld, v), ("tag", .str tag)]) → Same H H1 → E (.ref C) (some d) H1
structure Raisable (P : Program) (w : World) (K : PySem.W.Frag) (mg : Str → Option Value) (base : Heap) (k : Nat) (x : Str) (C : Addr) (fld tag : Str) : Prop where
  ex : ∃ (B nid iid : String) (tl : List Value) (fI : Addr) (fd : FuncData), ExcBaseFacts B nid iid tl ∧ ExB K C nid tl ∧ PySem.W.findIn K (.ref C) "__init__" = some (some (.ref fI)) ∧ PySem.W.typeIn K (.ref fI) = some (.type "function") ∧
    FnOk P w K mg base CX0 k fI fd ["self", fld] (spErrI K nid tl fld tag) ∧ L2.Binds K fd ["self", fld] []
  g : mg x = some (.ref C)
  nt : PySem.W.findIn K (.ref C) "tag" = some none
  nf : PySem.W.findIn K (.ref C) fld = some none
  xf : XfC K C
section
variable {X : Cx} {k : Nat} {x fld tag : Str} {C : Addr} {e : Expr} {te : TE} {p pos : Pos}
theorem mk_flies {K : PySem.W.Frag} {nid : String} {tl : List Value} {vs : List V} {H1 : Hp} {Q : XK} (T : ExB K C nid tl) (nt : PySem.W.findIn K (.ref C) "tag" = some none) (nf : PySem.W.findIn K (.ref C) fld = some none) (h : ∃ v, vs = [v] ∧ Prt v ∧ Flies H1 Q C fld tag v) : mkW C (spErrI K nid tl fld tag) vs H1 Q := by
  obtain ⟨v, rfl, hp, fl⟩ := h
  refine ⟨by show 1 ≤ 1000; decide, fun a na => ⟨a, C, v, rfl, hp, upd_same, T, nt, nf, fun dx nd ne => ⟨rfl, dx, _, ?_, upd_same, ?_, ?_⟩⟩⟩
  · rw [upd_ne ne.symm, upd_same]
  · rw [upd_ne ne] at nd
    exact nd
  · rw [upd_ne ne] at nd
    refine fl dx _ nd upd_same fun b o q => ?_
    have hb : b ≠ dx := ne_of_none q nd
    have ha : b ≠ a := ne_of_none q na
    rw [upd_ne hb, del_ne ha, upd_ne hb, upd_ne ha, upd_ne hb, upd_ne ha]
    exact q
theorem pmk_err (T : Raisable X.prog X.w X.K X.mg X.base k x C fld tag) (hr : Room (k + 1) X.A) (hg : Gl X x) (h : PE X e te) (hdb : (x == ("__debug__" : Str)) = false := by decide) (he : starEach [e] X.env = (false, eval e X.env) :: starEach [] X.env := by rfl) (hpl : (backTo pos (starEach [] X.env)).any (·.1) = false := by rfl) :
    L2N.PMk X (.Call (.Name x p) [e] [] pos) (fun σ H Q => te σ H fun v H1 => ∃ v0, [v] = [v0] ∧ Prt v0 ∧ Flies H1 Q C fld tag v0) := by
  obtain ⟨B, nid, iid, tl, fI, fd, FB, TB, iC, tI, G, b⟩ := T.ex
  exact pmk (R := fun vs H1 Q => ∃ v, vs = [v] ∧ Prt v ∧ Flies H1 Q C fld tag v) FB TB iC tI G hr b pass0 hg T.g (pa_cons h pa_nil he) (fun vs H1 Q z => mk_flies TB T.nt T.nf z) hdb he hpl
end
/-- a def that may raise -/
theorem okN {P : Program} {w : World} {K : PySem.W.Frag} {mg : Str → Option Value} {base : Heap} {x qual : Str} {st : Stmt} {f : Addr} {fd : FuncData} {N ps : List Str} {k : Nat} {sp : Sp} (F : Fun K x qual st f fd) (S : FnScope N ps (defScope st)) (len : ∀ vs H Q E, sp vs H Q E → vs.length = ps.length)
    (hbody : ∀ (cdv : Value) (A : Around) (outer : List Env) (s : Shared) (H : Hp) (vs : List V) (Q : VK) (E : XK), Room k (A.deeper (envOfC qual (defScope st) s.heap.objs.size f cdv)) → sp vs H Q E → L2N.Takes (cxOf (L2N.CX P w) P w K mg base N qual (defScope st) f cdv A outer s H E) (fun cls d _ H1 => E cls d H1) →
      ∃ t, PSs (cxOf (L2N.CX P w) P w K mg base N qual (defScope st) f cdv A outer s H E) (defBody st) t ∧ t { nx := fun _ H1 => Q .non H1, rt := Q } (start N vs) H) : FnOk P w K mg base (L2N.CX P w) (k + 1) f fd ps sp := by
  obtain ⟨oc, od, kV, doc, pm, an, cdv, ct, osl, rfl, lk, hcd⟩ := F.ex
  exact fn_of lk hcd S len fun A outer s H vs Q E hr hsp => hbody cdv A outer s H vs Q E hr hsp (L2N.takes_of rfl rfl rfl rfl)
/-- such a def, known by its name -/
structure KnX (P : Program) (w : World) (K : PySem.W.Frag) (mg : Str → Option Value) (base : Heap) (k : Nat) (x : Str) (ps : List Str) (sp : Sp) (f : Addr) (fd : FuncData) : Prop where
  kp : PySem.W.keepIn K (.ref f) = true
  G : FnOk P w K mg base (L2N.CX P w) k f fd ps sp
  b : L2.Binds K fd ps []
  g : mg x = some (.ref f)
theorem lookN {X : Cx} {W : WX} (tk : L2N.Takes X W) {E : XK} (hW : ∀ cls d σ H, E cls d H → W cls d σ H) : Passes (L2N.CX X.prog X.w) X E := L2N.passes_call tk hW
theorem sm_none {H H1 : Hp} (s : Same H H1) {t : Addr} (n : H1 t = none) : H t = none := by
  cases e : H t with
  | none => rfl
  | some o => rw [s _ _ e] at n; cases n
theorem takesN0 {X : Cx} : L2N.Takes X (fun _ _ _ _ => False) := fun _ _ ⟨_, _, _, _, _, _, _, _, _, _, _, _, _, _, _, _, z⟩ => z.elim
end ExX

namespace ExX
open PySem PySem.Spec PyProof.Rows L2
/-- a list comprehension without tests whose element may ask what the def around it knows where the block begins -/
theorem pe_lcI {X : Cx} {elt tg iter : Expr} {scope : Scope} {own : List (Str × Nat)} {pos : Pos} {wi : TI} {g : TG} {te : L2.St → TE} (calm : X.calm = true) (nd : X.N.Nodup) (walk : PI X tg iter wi) (bo : BlkOk X.N X.env.scope scope own)
    (target : ∀ (s : Shared) (H : Hp) (C : Addr) (cl : List (Str × Addr)) (fp : List Addr), PG (X.blk s H scope (compEnvC scope cl C X.env) fp) tg g)
    (item : ∀ (pins : List (Addr × Obj)) (σ : L2.St) (s : Shared) (H : Hp) (C : Addr) (cl : List (Str × Addr)) (fp : List Addr), Inv X pins σ H s → (∀ b ∈ fp, FpOk X pins H b) → PE (X.blk s H scope (compEnvC scope cl C X.env) fp) elt (te σ))
    (fold : ∀ x, foldedSetIterable iter X.env x = pure x := by intro _; rfl) :
    PE X (.ListComp elt [⟨tg, iter, [], 0⟩] scope pos) (fun σ H Q => tLc wi g tYes (te σ) (own.map (·.2)) σ H Q) := by
  refine ⟨fun pins s σ H Q I hyp => ?_⟩
  rw [eval_ListComp]
  have cells : ∀ y ∈ scope.names, y.2 = .free → ∃ c, X.env.cells.lookup y.1 = some c := fun y hy e => (bo.free y hy e).elim (fun z => I.ok.has _ (.inl z)) fun z => I.ok.has _ (.inr z)
  refine wpAny_comprehension_free (use := none) rfl fold (closure_ok cells) bo.kind (fun y hy e => by rw [bo.uniq y hy, e]) (thn (walk.run pins s σ H _ I hyp) fun _ _ h1 => thn h1 fun _ s2 h2 => ?_)
  obtain ⟨it, fp, tn, J, H2, rfl, I2, T, t2, f2, rd⟩ := h2
  refine wpAny_newObj_type (newEnv_comp ?_) (by show 0 ≤ sizeLine; decide)
  -- the new list, at the end of the heap
  obtain ⟨D, eD⟩ : ∃ D, D = s2.heap.objs.size := ⟨_, rfl⟩
  rw [← eD]
  obtain ⟨W, ⟨m0, w0⟩, turn⟩ := rd D (I2.hok.fresh (Nat.le_of_eq eD.symm))
  obtain ⟨H3, eH⟩ : ∃ H3, H3 = upd H2 D (.lst []) := ⟨_, rfl⟩
  obtain ⟨s3, e3⟩ : ∃ s3 : Shared, s3 = { s2 with heap := s2.heap.push { cls := .type "list", data := .seq ([] : List Value).toArray } } := ⟨_, rfl⟩
  have old : ∀ b o, s2.heap.get? b = some o → s3.heap.get? b = some o := fun b o e => by rw [e3]; exact Heap.get?_push_of_some _ e
  have I3 : Inv X pins σ H3 s3 := by
    rw [eH, e3]
    exact I2.laid (t' := s2.toks) (fun b o e => Heap.get?_push_of_some _ e) (Nat.le_of_eq eD.symm) ⟨Nat.zero_le _, [], 0, .nil, by rw [eD]; exact Heap.get?_push_size _ rfl⟩
  have f3 : ∀ b ∈ fp, FpOk X pins H3 b ∧ b < s3.heap.objs.size := fun b hb => by
    obtain ⟨o, e, _⟩ := T.obj _ _ t2 b hb
    exact ⟨⟨by rw [eH, upd_ne (by rw [eD]; exact Nat.ne_of_lt (Heap.lt_size e))]; exact (f2 b hb).1, (f2 b hb).2⟩, Heap.lt_size (old b o e)⟩
  have st := block_start I3 bo nd f3
  rw [← eH] at w0
  rw [← e3]
  -- the block's own names
  obtain ⟨cl, ecl⟩ : ∃ cl, cl = cellsFrom (s3.heap.objs.size + 1) scope.names (cloFrom X.env.cells scope.names []) := ⟨_, rfl⟩
  obtain ⟨C, eC⟩ : ∃ C, C = s3.heap.objs.size := ⟨_, rfl⟩
  have pI := item pins σ s3 H3 C cl fp I3 fun b hb => (f3 b hb).1
  have pG := target s3 H3 C cl fp
  obtain ⟨ce, ece⟩ : ∃ ce, ce = compEnvC scope cl C X.env := ⟨_, rfl⟩
  have ceL : ce.locals = C := by rw [ece]; rfl
  rw [← ecl, ← eC, ← ece] at st
  rw [← ece] at pI pG
  show codeAny _ _ (.compStart (.ListComp elt [⟨tg, iter, [], 0⟩] scope pos) 0 (.ref it) (.ref D) (compEnvC scope (cellsFrom (s3.heap.objs.size + 1) scope.names (cloFrom X.env.cells scope.names [])) s3.heap.objs.size X.env)) (compPost (model X.prog X.w) X.A X.xe none _ (.ref D) s3.heap.objs.size) _
  rw [← ecl, ← eC, ← ece]
  have tb : tn 0 (pushCells (s3.heap.push { cls := .type "dict", data := .dict #[] }) scope.names) := T.keep _ _ _ t2 fun b _ o e => pushCells_keeps _ _ _ _ (Heap.get?_push_of_some _ (old b o e))
  obtain ⟨s4, e4⟩ : ∃ s4 : Shared, s4 = { s3 with heap := pushCells (s3.heap.push { cls := .type "dict", data := .dict #[] }) scope.names } := ⟨_, rfl⟩
  rw [← e4] at st ⊢
  have t4 : tn 0 s4.heap := by rw [e4]; exact tb
  have fOk : ∀ {σ1 : L2.St} {H1 : Hp} {s1 : Shared}, Inv (X.blk s3 H3 scope ce fp) [] σ1 H1 s1 → (∀ b ∈ fp, H1 b = none) → ∀ b ∈ fp, FpOk (X.blk s3 H3 scope ce fp) [] H1 b := fun J1 n b hb =>
    ⟨n b hb, (J1.ok.exf b hb).1, J1.ok.exfs b hb, .inl hb, (J1.ok.exf b hb).2, fun p hp => by cases hp⟩
  have lp : codeAny (model X.prog X.w) X.A (.compLoop (.ListComp elt [⟨tg, iter, [], 0⟩] scope pos) 0 (.ref it) (.ref D) ce) (compPost (model X.prog X.w) X.A X.xe none (EP X pins σ Q) (.ref D) C) s4 := by
    refine compLoop_any (fun n s1 => ∃ i H1, Inv (X.blk s3 H3 scope ce fp) [] (wipe σ (own.map (·.2))) H1 s1 ∧ tn i s1.heap ∧ (∀ b ∈ fp, H1 b = none) ∧ W i n H1) (fun n s5 ⟨i, H5, I5, t5, n5, w5⟩ => ?_) m0 ⟨0, H3, st, t4, fun b hb => (f3 b hb).1.1, w0⟩
    rcases turn i n H5 w5 with ⟨stop, q⟩ | ⟨go, Nx, hNx, step⟩
    · refine thnF (T.done (X.blk s3 H3 scope ce fp) rfl rfl rfl calm i [] s5 _ H5 (fun _ _ => False) I5 (fOk I5 n5) t5 stop) fun r s6 ⟨er, I6⟩ => ?_
      subst er
      have I7 : Inv X pins σ H5 s6 := I3.call' (ch := fp) I6.os I6.base I6.hok I6.bare fun b hb => ⟨(f3 b hb).1.2.2.2.1, (f3 b hb).1.2.1, (f3 b hb).1.2.2.2.2.1, (f3 b hb).1.2.2.2.2.2⟩
      have nC : H5 C = none := by rw [← ceL]; exact I6.free
      obtain ⟨m, hm, _⟩ := I6.loc
      have hm : s6.heap.Ns ce.locals m := hm
      rw [ceL] at hm
      refine ⟨m, hm, fun h8 sb => ?_⟩
      obtain ⟨g0, g1, g2, g3, g4, g5⟩ := I3.fpOk (Nat.le_of_eq eC.symm) nC
      exact ⟨.ref D, H5, I7.turned (t' := s6.toks) (fun b o hb e => (sb.2 b hb).trans e) g0 g1 g3 g4 g5, rfl, q⟩
    · refine thnF (T.item (X.blk s3 H3 scope ce fp) rfl rfl rfl calm i [] s5 _ H5 (fun _ _ => False) I5 (fOk I5 n5) t5 go) fun r s6 ⟨u, er, h6⟩ => ?_
      subst er
      refine thnF h6 fun _ s7 ⟨x, H7, I7, r7, y7, t7, n7⟩ => ?_
      refine thnF (pG.run _ s7 _ H7 x u _ (I7.pinned (fOk I7 n7) (T.obj _ _ t7)) r7 (step x H7 y7)) fun _ s8 ⟨σ8, H8, I8, e8, q8⟩ => wpAny_tests_nil ?_
      rw [if_pos rfl]
      refine thnF (pI.run _ s8 σ8 H8 _ I8 (show te σ σ8 H8 _ from q8)) fun z s9 ⟨yv, H9, I9, r9, acc, hD9, hz9, nx⟩ => ?_
      refine app_ok (X := X.blk s3 H3 scope ce fp) I9 hD9 hz9 r9 fun s10 I10 => ?_
      obtain ⟨m1, lt, w1⟩ := hNx _ nx
      have stay : ∀ b ∈ fp, ∀ o, s7.heap.get? b = some o → s10.heap.get? b = some o ∧ upd H9 D (.lst (acc ++ [yv])) b = none := fun b hb o e => by
        have z := I10.pin (b, o) (List.mem_append_right _ (List.mem_append_right _ (mem_pinsAt hb e)))
        exact ⟨z.1, z.2.1⟩
      refine ⟨m1, lt, i + 1, _, (I10.unpinned (pins := [])).weak (by rw [← e8, wipe_length]) (fun j v e => ?_), T.keep _ _ _ t7 fun b hb o e => (stay b hb o e).1, fun b hb => ?_, w1⟩
      · rw [← e8] at e
        exact (wipe_some e).1
      · obtain ⟨o, e, _⟩ := T.obj _ _ t7 b hb
        exact (stay b hb o e).2
  exact codeAny_compStart_list lp (T.self X.A 0 _ _ _ t4 lp)
/-! ### a lambda with one parameter that has a default -/
open LamX
structure LamT (N : List Str) (sc scope : Scope) (a : Str) : Prop where
  kind : scope.kind = .function
  co : scope.isCoroutine = false
  gen : scope.isGenerator = false
  cel : ∀ y ∈ scope.names, y.2 ≠ .cell
  loc : ∀ y ∈ N, scope.names.lookup y ≠ some .local
  arg : scope.names.lookup a = some .local
  free : ∀ y ∈ scope.names, y.2 = .free → sc.names.lookup y.1 = some .cell ∨ sc.names.lookup y.1 = some .free
def lamTB (N : List Str) (sc scope : Scope) (a : Str) : Bool := decide (scope.kind = .function) && (!scope.isCoroutine && (!scope.isGenerator && (decide (scope.names.lookup a = some .local) && ((N.all fun y => !decide (scope.names.lookup y = some .local)) &&
  scope.names.all fun y => !decide (y.2 = .cell) && (!decide (y.2 = .free) || (decide (sc.names.lookup y.1 = some .cell) || decide (sc.names.lookup y.1 = some .free)))))))
theorem lamT_by {N : List Str} {sc scope : Scope} {a : Str} (h : lamTB N sc scope a = true) : LamT N sc scope a := by
  unfold lamTB at h
  simp only [Bool.and_eq_true, Bool.or_eq_true, Bool.not_eq_true', decide_eq_true_eq, decide_eq_false_iff_not, List.all_eq_true] at h
  obtain ⟨h1, h2, h3, h4, h5, h6⟩ := h
  exact ⟨h1, h2, h3, fun y hy => (h6 y hy).1, h5, h4, fun y hy e => (h6 y hy).2.elim (fun z => absurd e z) id⟩
section
variable {X : Cx} {pins : List (Addr × Obj)} {σ : L2.St} {H HZ : Hp} {s s1 : Shared}
theorem LamT.has {scope : Scope} {a : Str} (L : LamT X.N X.env.scope scope a) (ok : X.Ok) : ∀ y ∈ scope.names, y.2 = .free → ∃ c, X.env.cells.lookup y.1 = some c := fun y hy e => (L.free y hy e).elim (fun z => ok.has _ (.inl z)) fun z => ok.has _ (.inr z)
/-- the body of such a lambda begins -/
theorem lamT_start {A : Around} {outer : List Env} {E : XK} {scope : Scope} {f c2 : Addr} {a : Str} {g : Heap} {tk : Nat} {m1 : Str → Option Value} (I : Inv X pins σ H s) (L : LamT X.N X.env.scope scope a) (e0 : Env0 X.prog X.w X.K X.mg X.base A outer s1 HZ) (hd : A.handled = none)
    (un : Un (frs X.stack) [] H HZ s.heap s1.heap) (hns : g.Ns s1.heap.objs.size m1) (kp : ∀ b o, s1.heap.get? b = some o → g.get? b = some o) : Inv (lamCx X A outer s1 HZ E scope f c2) [] σ HZ { s1 with heap := g, toks := tk } := by
  have hF := L.has I.ok
  have up : ∀ {y c}, (cloFrom X.env.cells scope.names []).lookup y = some c → X.env.cells.lookup y = some c := fun {y c} e => by
    rcases cloFrom_mem (PySem.mem_of_lookup e) with z | ⟨z1, z2⟩
    · cases z
    · obtain ⟨c1, e1⟩ := hF _ z1 rfl
      have e1 : X.env.cells.lookup y = some c1 := e1
      have e2 : c = c1 := by rw [z2, e1]; rfl
      rw [e2]; exact e1
  have dn : ∀ {y}, scope.names.lookup y = some .free → ∃ c, (cloFrom X.env.cells scope.names []).lookup y = some c := fun {y} hl => mem_lookup (cloFrom_has (cells := X.env.cells) (acc := []) (PySem.mem_of_lookup hl))
  have stay : ∀ {c : Addr} {v : Option Value}, H c = none → s.heap.IsCell c v → g.IsCell c v := fun {c v} n ⟨o, ho, hd⟩ => by
    obtain ⟨sl, q⟩ := un.any ho n (by simp)
    exact ⟨_, kp _ _ q, hd⟩
  have no : ∀ {b : Addr} {R : Prop}, b ∈ (lamCx X A outer s1 HZ E scope f c2).ex → R := fun {b R} z => by cases (show b ∈ ([] : List Addr) from z)
  refine ⟨⟨e0.mod, L.kind, rfl, rfl, Nat.le_refl _, fun y z c e1 e2 => I.ok.inj y z c (up e1) (up e2), fun y hy => ?_, fun y c z _ => (Bool.noConfusion (show false = true from z)), fun _ => hd, Around.frames_deeper e0.frames, .inr ⟨rfl, rfl⟩, fun b z => no z, e0.bs, e0.bsz, fun b o e z => no z,
      fun b z => no z, e0.funs, e0.frf⟩, rfl, e0.bare, Un.kept kp, ⟨m1, hns, fun i y v e1 e2 e3 => ?_⟩, fun y c e => ?_, e0.hok.fresh (Nat.le_refl _), fun y c e => ?_, fun q hq => ?_, e0.hok.kept kp, I.len⟩
  · rcases (show scope.names.lookup y = some .cell ∨ scope.names.lookup y = some .free from hy) with z | z
    · exact (L.cel _ (PySem.mem_of_lookup z) rfl).elim
    · exact dn z
  · rcases (show Vis scope y from e3) with k | k | k
    · exact (L.loc y (List.mem_of_getElem? e1) k).elim
    · exact (L.cel _ (PySem.mem_of_lookup k) rfl).elim
    · obtain ⟨m, hn, hl⟩ := I.loc
      have fr := L.free _ (PySem.mem_of_lookup k) rfl
      obtain ⟨u, r, q⟩ := hl i y v e1 e2 (fr.elim (fun z => .inr (.inl z)) fun z => .inr (.inr z))
      obtain ⟨c, ec⟩ := dn k
      refine ⟨u, r, .inr ⟨.inr k, c, ec, ?_⟩⟩
      rcases q with ⟨k2, _⟩ | ⟨_, c3, e4, z⟩
      · have k2 : X.env.scope.names.lookup y = some .local := k2
        have fr : X.env.scope.names.lookup y = some .cell ∨ X.env.scope.names.lookup y = some .free := fr
        rw [k2] at fr
        rcases fr with fr | fr <;> cases fr
      · have := up ec
        rw [e4] at this
        cases this
        exact stay (I.freeC y _ e4) z
  · obtain ⟨v, z⟩ := I.cell y c (up e)
    exact ⟨v, stay (I.freeC y c (up e)) z⟩
  · obtain ⟨v, o, ho, hd⟩ := I.cell y c (up e)
    exact un.free c o ho (I.freeC y c (up e)) (by simp)
  · cases (show q ∈ ([] : List (Addr × Obj)) ++ [] from hq)
end
/-- the lambda at f, its code object at c2, the tuple of its default at T -/
def CloD (X : Cx) (params : Arguments) (body : Expr) (scope : Scope) (f c2 T : Addr) : HO := .ext fun h => ∃ doc pm ctv : Value, h.get? f = some (PySem.W.kdv_obj "<lambda>" (X.env.qual ++ "<lambda>") params (.expr body) scope (cloFrom X.env.cells scope.names []) (.ref T) doc pm c2 ctv)
theorem cloD_ok {X : Cx} {params : Arguments} {body : Expr} {scope : Scope} {f c2 T : Addr} {P : Program} {w : World} {H : Hp} {h : Heap} {doc pm ctv : Value} (e : h.get? f = some (PySem.W.kdv_obj "<lambda>" (X.env.qual ++ "<lambda>") params (.expr body) scope (cloFrom X.env.cells scope.names []) (.ref T) doc pm c2 ctv)) :
    ObjOk P w H h f (CloD X params body scope f c2 T) := ⟨⟨doc, pm, ctv, e⟩, ⟨_, e⟩, fun h1 h2 ⟨a, b, c, d⟩ st => ⟨a, b, c, st _ d⟩⟩
section
variable {X : Cx} {pins : List (Addr × Obj)} {σ : L2.St} {H : Hp} {s : Shared}
theorem lamT_made {T : List (Addr × Str)} {c P : Addr} {params : Arguments} {body e0 : Expr} {scope : Scope} {pos : Pos} {y0 : V} {Q : Value → Shared → Prop} (I : Inv X pins σ H s) (TB : TabB X.base X.mg c P) (hcode : X.env.code = .ref c)
    (hm : (P, X.env.qual ++ "<lambda>") ∈ T) (hu : ∀ p ∈ T, p.1 = P → p.2 = X.env.qual ++ "<lambda>") (hT : Tabs T H) (hdf : params.defaults = [e0]) (hkw : params.kw_defaults = []) (he0 : PE X e0 (fun _ H Q => Q y0 H)) (hfree : ∀ y ∈ scope.names, y.2 = .free → ∃ c, X.env.cells.lookup y.1 = some c)
    (h : ∀ (f c2 t : Addr) (H1 : Hp) (s1 : Shared), Inv X pins σ (upd H1 f (CloD X params body scope f c2 t)) s1 → ExtN H H1 → Tabs T H1 → H1 f = none → H1 c2 = some (CodeO c2 (X.env.qual ++ "<lambda>")) → H1 t = some (.tup [y0]) → Q (.ref f) s1) :
    wpAny (model X.prog X.w) X.A (eval (.Lambda params body scope pos) X.env) Q X.xe s := by
  refine PySem.W.kdv_lam (by rw [hdf]; rfl) hkw ?_
  rw [hdf]
  show wpAny _ _ (evalAll [eval e0 X.env]) _ _ _
  refine evalAll_cons (thn (he0.run pins s σ H (fun v H1 => v = y0 ∧ H1 = H) I ⟨rfl, rfl⟩) fun u s0 ⟨v, H0, I0, r0, ev, eH⟩ => evalAll_nil ?_)
  rw [ev] at r0
  rw [eH] at I0
  rw [makeFunction_eq]
  simp only [List.zip_nil_right, List.filterMap_nil, List.isEmpty_nil, List.isEmpty_cons, Bool.false_eq_true, if_false, if_true, pure_bind]
  refine wpAny_bind (PySem.wpAny_newTextTuple ?_)
  obtain ⟨t, et⟩ : ∃ t, t = s0.heap.objs.size := ⟨_, rfl⟩
  rw [← et]
  have nT : H t = none := I0.hok.fresh (Nat.le_of_eq et.symm)
  obtain ⟨s2, e2⟩ : ∃ s2 : Shared, s2 = { s0 with heap := s0.heap.push { cls := .type "tuple", data := .seq [u].toArray } } := ⟨_, rfl⟩
  have I2 : Inv X pins σ (upd H t (.tup [y0])) s2 := by
    rw [e2]
    refine I0.laid (t' := s0.toks) (fun b o e => Heap.get?_push_of_some _ e) (Nat.le_of_eq et.symm) ⟨by show 1 ≤ sizeLine; decide, [u], .cons r0 .nil, ?_⟩
    rw [et]
    exact IsTup.new s0.heap _
  rw [← e2]
  have x1 : ExtN H (upd H t (.tup [y0])) := fun b o e _ => by rw [upd_ne (ne_of_none e nT)]; exact e
  have hT2 : Tabs T (upd H t (.tup [y0])) := hT.ext fun b o e => by rw [upd_ne (ne_of_none e nT)]; exact e
  obtain ⟨ps, hP, ht, ha⟩ := hT2 _ hm
  have bP : s2.heap.BuiltinsAt X.mg P := TB.bm.keeps I2.bk
  have hPs : s2.heap.get? P = some { cls := .none, data := .fields ps } := I2.hok P _ hP
  cases hc : codeAmong pos ps.toList with
  | none =>
    refine PySem.W.kdv_makeTail (mg := X.mg) (c := c) (P := P) (ps := ps) (closure_ok hfree) I2.ok.glob (I2.mod.glob.keeps I2.bk) hcode (TB.code.keeps I2.bk) hPs ht hc TB.gP bP fun c2 ctv doc h3 tk hx hge hlt hrec htb => ?_
    obtain ⟨c3, oc, vs, tq, z2, hoc, hd, hv⟩ := hrec
    cases z2
    have nC := I2.hok.fresh (a := c2) hge
    have I3 := inv_table (t' := tk) (more := #[rawInt pos.line, rawInt pos.col, .ref c2]) (h' := h3) I2 hP hx htb hge ⟨oc, vs, tq, hoc, hd, hv⟩
    have hE : ExtN (upd H t (.tup [y0])) (upd (upd (upd H t (.tup [y0])) P (.tbl (ps ++ #[rawInt pos.line, rawInt pos.col, .ref c2]))) c2 (CodeO c2 (X.env.qual ++ "<lambda>"))) := fun b o e n => by
      have nb : b ≠ P := fun z => n ps (Option.some.inj (e.symm.trans (by rw [z]; exact hP)))
      rw [upd_ne (ne_of_none e nC), upd_ne nb]
      exact e
    have eL : (ps ++ #[rawInt pos.line, rawInt pos.col, .ref c2]).toList = ps.toList ++ [rawInt pos.line, rawInt pos.col, .ref c2] := by simp
    refine h h3.objs.size c2 t _ _ (I3.laid (t' := tk) (fun _ _ e => Heap.get?_push_of_some _ e) (Nat.le_refl _) (cloD_ok (Heap.get?_push_size _ rfl))) (fun b o e n => hE b o (x1 b o e n) n) (fun p hp => ?_) (I3.hok.fresh (Nat.le_refl _)) upd_same (hE _ _ upd_same (by intro ps z; cases z))
    by_cases hb : p.1 = P
    · refine ⟨_, by rw [hb, upd_ne (ne_of_none hP nC), upd_same], by rw [eL]; exact PySem.TriplesOk_snoc _ _ _ _ ht, fun pz cv hcv => ?_⟩
      rw [eL] at hcv
      rw [hu p hp hb]
      rcases among_app _ ht hcv with z | z
      · obtain ⟨c0, q1, q2⟩ := ha pz cv z
        exact ⟨c0, q1, hE _ _ q2 codeO_ne⟩
      · exact ⟨c2, z, upd_same⟩
    · obtain ⟨psz, a1, a2, a3⟩ := hT2 p hp
      refine ⟨psz, by rw [upd_ne (ne_of_none a1 nC), upd_ne hb]; exact a1, a2, fun pz cv hcv => ?_⟩
      obtain ⟨c0, q1, q2⟩ := a3 pz cv hcv
      exact ⟨c0, q1, hE _ _ q2 codeO_ne⟩
  | some cv =>
    obtain ⟨c2, e, hco⟩ := ha pos cv hc
    subst e
    refine PySem.W.kdv_makeTailHit (mg := X.mg) (c := c) (P := P) (ps := ps) (closure_ok hfree) I2.ok.glob (I2.mod.glob.keeps I2.bk) hcode (TB.code.keeps I2.bk) hPs ht hc bP fun ctv doc h3 tk hx hsz => ?_
    have I3 : Inv X pins σ (upd H t (.tup [y0])) { s2 with heap := h3, toks := tk } := I2.kept hx
    exact h h3.objs.size c2 t _ _ (I3.laid (t' := tk) (fun _ _ e => Heap.get?_push_of_some _ e) (Nat.le_refl _) (cloD_ok (Heap.get?_push_size _ rfl))) x1 hT2 (I3.hok.fresh (Nat.le_refl _)) hco upd_same
end
/-- a lambda that was made in X: where it stands, what its call asks -/
structure Lam (X : Cx) (k : Nat) where
  At : Addr → Hp → Prop
  tb : XK → TE
  acts : ∀ {pins : List (Addr × Obj)} {σ : L2.St} {H : Hp} {s : Shared} {f : Addr}, Inv X pins σ H s → Acts X.prog X.w X.K X.mg X.base (k + 1) (frs X.stack) f s H (fun E HZ Q => At f HZ ∧ tb E σ HZ Q)
  same : ∀ {f : Addr} {H H1 : Hp}, At f H → ExtN H H1 → At f H1
def Lam.does {X : Cx} {k : Nat} (D : Lam X k) (f : Addr) (σ : L2.St) : XK → Hp → VK → Prop := fun E HZ Q => D.At f HZ ∧ D.tb E σ HZ Q
def LamD.lam {X : Cx} {k : Nat} (D : LamD X k) : Lam X k where
  At := D.At
  tb := D.tb
  acts := fun I => acts_of D I
  same := fun ⟨c2, h1, h2⟩ e => ⟨c2, e _ _ h1 cloO_tbl, e _ _ h2 codeO_ne⟩
/-- a lambda of X's text with one parameter that has a default -/
structure LamP (X : Cx) (k : Nat) where
  params : Arguments
  body : Expr
  scope : Scope
  a : Str
  e0 : Expr
  y0 : V
  tb : XK → TE
  L : LamT X.N X.env.scope scope a
  hdf : params.defaults = [e0]
  hkw : params.kw_defaults = []
  he0 : PE X e0 (fun _ H Q => Q y0 H)
  hbind : ∀ (q : Str) (cl : List (Str × Addr)) (T : Addr) (doc pm cv ctv : Value), ∃ kk : Option (Array Value) → Sem (List (Str × Value)), bindArgs (PySem.W.kdv_fn "<lambda>" q params (.expr body) scope cl (.ref T) doc pm cv ctv) ⟨[], []⟩ = seqItems? (.ref T) >>= kk ∧ ∀ u, kk (some #[u]) = pure [(a, u)]
  hbody : ∀ (f c2 : Addr) (E : XK) (A : Around) (outer : List Env) (s : Shared) (H : Hp), Room k (A.deeper (lamEnv X scope s.heap.objs.size f c2)) → PE (lamC X A outer s H E scope f c2) body (tb E)
def LamP.At {X : Cx} {k : Nat} (D : LamP X k) (f : Addr) (H : Hp) : Prop := ∃ c2 T, H f = some (CloD X D.params D.body D.scope f c2 T) ∧ H c2 = some (CodeO c2 (X.env.qual ++ "<lambda>")) ∧ H T = some (.tup [D.y0])
theorem cloD_tbl {X : Cx} {params : Arguments} {body : Expr} {scope : Scope} {f c2 T : Addr} (ps : Array Value) : CloD X params body scope f c2 T ≠ .tbl ps := fun z => by
  unfold CloD at z
  cases z
theorem actsP {X : Cx} {k : Nat} (D : LamP X k) {pins : List (Addr × Obj)} {σ : L2.St} {H : Hp} {s : Shared} {f : Addr} (I : Inv X pins σ H s) : Acts X.prog X.w X.K X.mg X.base (k + 1) (frs X.stack) f s H (fun E HZ Q => D.At f HZ ∧ D.tb E σ HZ Q) := by
  refine ⟨fun s1 HZ Q E hok ⟨⟨c2, T, hcf, hcc, hT⟩, ht⟩ => ?_, fun A outer s1 HZ Q E hr e0 un ⟨⟨c2, T, hcf, hcc, hT⟩, ht⟩ => ?_⟩
  · obtain ⟨⟨doc, pm, ctv, of1⟩, _, _⟩ := hok f _ hcf
    exact ⟨_, _, _, _, of1⟩
  obtain ⟨⟨doc, pm, ctv, of1⟩, _, _⟩ := e0.hok f _ hcf
  obtain ⟨⟨oc, vs, t, hoc, hdc, hvc⟩, _, _⟩ := e0.hok c2 _ hcc
  obtain ⟨_, its, rT, oT, hoT, _, nT, hsT⟩ := e0.hok T _ hT
  cases rT with
  | @cons _ u _ ur ru rr =>
    cases rr
    obtain ⟨kk, hb1, hb2⟩ := D.hbind (X.env.qual ++ "<lambda>") (cloFrom X.env.cells D.scope.names []) T doc pm (.ref c2) ctv
    have bt : BindsTo s1 (PySem.W.kdv_fn "<lambda>" (X.env.qual ++ "<lambda>") D.params (.expr D.body) D.scope (cloFrom X.env.cells D.scope.names []) (.ref T) doc pm (.ref c2) ctv) ⟨[], []⟩ [(D.a, u)] := BindsTo.of_defaults rfl hoT hsT hb1 (hb2 u)
    refine PySem.W.kla_callFunE hr.depth of1 rfl D.L.co D.L.gen rfl ⟨c2, oc, vs, t, rfl, hoc, hdc, hvc⟩ (bt _ _ _ _ ?_)
    have lim : s1.heap.NoLimit := e0.mod.nolimit.keeps fun b o e => (e0.bs b o e).1
    refine wpAny_newFunctionEnv D.L.cel (fun y hy => by rw [List.mem_singleton.mp hy]; exact D.L.arg) (fun h1 hns hsb => ⟨lim.fresh _ hsb, ?_⟩) D.L.kind
    show codeAny _ _ (.expr D.body (lamEnv X D.scope s1.heap.objs.size f c2)) _ _
    have kp : ∀ b o, s1.heap.get? b = some o → h1.get? b = some o := fun b o e => hsb.extBut b o (Nat.ne_of_lt (Heap.lt_size e)) (Heap.get?_push_of_some _ e)
    have J : Inv (lamCx X A outer s1 HZ E D.scope f c2) [] σ HZ { s1 with heap := h1, toks := s1.toks + [(D.a, u)].length } := lamT_start I D.L e0 hr.hd un hns kp
    refine PySem.W.kla_codeExpr (wpAny_mono ((D.hbody f c2 E A outer s1 HZ (hr.deeper _)).run [] _ _ HZ Q (J.wish _) ht) (fun v s2 hq => ?_) fun e s2 hq => hq)
    obtain ⟨w2, H2, J2, rv, q⟩ := hq
    exact ⟨w2, H2, J2.os, J2.bare, J2.base, J2.hok, rv, q⟩
def LamP.lam {X : Cx} {k : Nat} (D : LamP X k) : Lam X k where
  At := D.At
  tb := D.tb
  acts := fun I => actsP D I
  same := fun ⟨c2, T, h1, h2, h3⟩ e => ⟨c2, T, e _ _ h1 cloD_tbl, e _ _ h2 codeO_ne, e _ _ h3 (by intro ps z; cases z)⟩
section
variable {Z : Cx} {k kk i : Nat} {g : Addr} {TT : (XK → Hp → VK → Prop) → Hp → VK → Prop} {x a : Str} {p p1 pos : Pos}
/-- lambda a=..: body -/
theorem pe_lamP {T : List (Addr × Str)} {c PT : Addr} (D : LamP Z kk) (TB : TabB Z.base Z.mg c PT) (hcode : Z.env.code = .ref c) (hmT : (PT, Z.env.qual ++ "<lambda>") ∈ T) (hu : ∀ q ∈ T, q.1 = PT → q.2 = Z.env.qual ++ "<lambda>") :
    PE Z (.Lambda D.params D.body D.scope pos) (fun _ H Q => Tabs T H ∧ ∀ f H1, ExtN H H1 → Tabs T H1 → D.lam.At f H1 → Q (.ref f) H1) := by
  refine ⟨fun pins s σ H Q I ⟨hT, h⟩ => lamT_made I TB hcode hmT hu hT D.hdf D.hkw D.he0 (D.L.has I.ok) fun f c2 t H1 s1 I1 eN T1 nf hc ht => ?_⟩
  have ne : ∀ {b : Addr} {o : HO}, H1 b = some o → upd H1 f (CloD Z D.params D.body D.scope f c2 t) b = some o := fun {b o} e => by rw [upd_ne (ne_of_none e nf)]; exact e
  exact ⟨.ref f, _, I1, rfl, h f _ (fun b o e n => ne (eN b o e n)) (T1.ext fun b o e => ne e) ⟨c2, t, upd_same, ne hc, ne ht⟩⟩
/-- x(a) in a comprehension's block, a one of the lambdas of the def around -/
theorem pe_item {scope : Scope} (G : FnL Z.prog Z.w Z.K Z.mg Z.base k g TT) (hr : Room (kk + 1 + k) Z.A) (hk : PySem.W.keepIn Z.K (.ref g) = true) (hm : Z.mg x = some (.ref g)) (hNi : Z.N[i]? = some a)
    (hg : ∀ (s : Shared) (H : Hp) (C : Addr) (cl : List (Str × Addr)) (fp : List Addr), Gl (Z.blk s H scope (compEnvC scope cl C Z.env) fp) x) (hv : ∀ (C : Addr) (cl : List (Str × Addr)), Vis (compEnvC scope cl C Z.env).scope a)
    (he : ∀ env : Env, starEach [Expr.Name a p1] env = (false, eval (.Name a p1) env) :: starEach [] env := by intro _; rfl) (hpl : ∀ env : Env, (backTo pos (starEach [] env)).any (·.1) = false := by intro _; rfl)
    (hdb : (x == ("__debug__" : Str)) = false := by decide) (hd : (a == ("__debug__" : Str)) = false := by decide) (hcd : (a == ("__classdict__" : Str)) = false := by decide) :
    ∀ (pins : List (Addr × Obj)) (σ : L2.St) (s : Shared) (H : Hp) (C : Addr) (cl : List (Str × Addr)) (fp : List Addr), Inv Z pins σ H s → (∀ b ∈ fp, FpOk Z pins H b) →
      PE (Z.blk s H scope (compEnvC scope cl C Z.env) fp) (.Call (.Name x p) [.Name a p1] [] pos) (fun σ1 H1 Q => ∃ (f : Addr) (D : Lam Z kk), σ1[i]? = some (some (.ref f)) ∧ TT (D.does f σ) H1 Q) := by
  intro pins σ s H C cl fp I hf
  refine ⟨fun pins1 s1 σ1 H1 Q I1 ⟨f, D, hs, ht⟩ => wpAny_Call_Name_kw (ld_glob I1 (hg s H C cl fp) hm ?_ hdb)⟩
  refine PySem.W.callWith_K (h₀ := Z.base) I1.ok.mod.kin hk (thn ((pa_cons (pe_var (X := Z.blk s H scope (compEnvC scope cl C Z.env) fp) (pos := p1) (i := i) hNi (hv C cl) hd hcd) pa_nil (he _)).run pos pins1 s1 σ1 H1 (fun vs H2 => vs = [.ref f] ∧ H2 = H1) I1 ⟨.ref f, hs, rfl, rfl⟩) fun us s2 ⟨vs, H2, I2, r, ev, eH⟩ => ⟨I2.kIn, ?_⟩) (he _) (hpl _)
  subst ev
  rw [eH] at I2
  cases r with
  | @cons _ u0 _ ur ra rw2 =>
    cases rw2
    obtain rfl : u0 = Value.ref f := ra
    have IX : Inv Z pins σ H1 s2 := I.call' (ch := fp) I2.os I2.base I2.hok I2.bare fun b hb => ⟨(hf b hb).2.2.2.1, (hf b hb).2.1, (hf b hb).2.2.2.2.1, (hf b hb).2.2.2.2.2⟩
    refine wpAny_call (codeAny_mono (G.run (kk + 1) f (frs Z.stack) s2 H1 _ (D.acts IX) Z.A Z.stack s2 H1 Q hr I2.env0 Un.refl (fun c hc => .inl hc) (Nat.le_refl _) ht) fun r s3 hq => ?_)
    cases r with
    | error e => exact (show False from hq).elim
    | ok fl =>
      cases fl with
      | ret u => exact I2.after hq
      | _ => exact hq.elim
end
end ExX

namespace ExX
open PySem PySem.Spec PyProof.Rows L2
/-- a list or a tuple -/
def Kd (k : Bool) (K : PySem.W.Frag) (H : Hp) (a : Addr) (xs : List V) : Prop := if k = true then SqL K H a xs else SqT K H a xs
theorem Kd.same {k : Bool} {K : PySem.W.Frag} {H H1 : Hp} {a : Addr} {xs : List V} (h : Kd k K H a xs) (s : Same H H1) : Kd k K H1 a xs := by
  cases k
  · rcases (show SqT K H a xs from h) with (h | ⟨o, h⟩) | h
    · exact .inl (.inl (s _ _ h))
    · exact .inl (.inr ⟨o, s _ _ h⟩)
    · exact .inr h
  · exact s.seq (show SqL K H a xs from h)
theorem Kd.l {K : PySem.W.Frag} {H : Hp} {a : Addr} {xs : List V} (h : SqL K H a xs) : Kd true K H a xs := h
theorem Kd.t {K : PySem.W.Frag} {H : Hp} {a : Addr} {xs : List V} (h : SqT K H a xs) : Kd false K H a xs := h
theorem Kd.sq {k : Bool} {K : PySem.W.Frag} {H : Hp} {a : Addr} {xs : List V} (h : Kd k K H a xs) : SqL K H a xs ∨ SqT K H a xs := by
  cases k
  · exact .inr h
  · exact .inl h
/-- what is walked is one of both -/
def iKd (k : Bool) (K : PySem.W.Frag) (tl : TE) : TI := fun σ H R => if k = true then iList K tl σ H R else iTup K tl σ H R
theorem pi_kd {X : Cx} {tg l : Expr} {tl : TE} (k : Bool) (hl : PE X l tl) : PI X tg l (iKd k X.K tl) := by
  cases k
  · exact ⟨fun pins s σ H R I h => (pi_tup hl).run pins s σ H R I h⟩
  · exact ⟨fun pins s σ H R I h => (pi_list hl).run pins s σ H R I h⟩
theorem for_kd {k : Bool} {K : PySem.W.Frag} {i0 : Nat} {a : Addr} {xs : List V} {g : TG} {tb : TS} {D : Ends} {σ : L2.St} {H : Hp} (hv : σ[i0]? = some (some (.ref a))) (hS : Kd k K H a xs) (Pv : Nat → L2.St → Hp → Prop) (h0 : Pv 0 σ H) (hl : ∀ i σ H, i ≤ xs.length → Pv i σ H → Kd k K H a xs)
    (hs : ∀ i x σ H, xs[i]? = some x → Pv i σ H → g x σ H fun σ2 H2 => tb { D with nx := Pv (i + 1), ct := Pv (i + 1), bk := D.nx } σ2 H2) (hd : ∀ σ H, Pv xs.length σ H → D.nx σ H) : tFor (iKd k K (tVar i0)) g tb D σ H := by
  cases k
  · exact ⟨_, hv, a, rfl, ⟨_, hS⟩, for_tup (xs := xs) Pv h0 hl hs hd⟩
  · exact ⟨_, hv, a, rfl, ⟨_, hS⟩, for_list (xs := xs) Pv h0 hl hs hd⟩
/-- both promises of a def -/
def spOr (s1 s2 : Sp) : Sp := fun vs H Q E => s1 vs H Q (fun _ _ _ => False) ∨ s2 vs H Q E
theorem fn_or {P : Program} {w : World} {K : PySem.W.Frag} {mg : Str → Option Value} {base : Heap} {CX : CXT} {j k : Nat} {f : Addr} {fd : FuncData} {ps : List Str} {s1 s2 : Sp} (F1 : FnOk P w K mg base CX0 j f fd ps s1) (F2 : FnOk P w K mg base CX k f fd ps s2) (h : j ≤ k) : FnOk P w K mg base CX k f fd ps (spOr s1 s2) := by
  refine ⟨fun vs H Q E z => z.elim (F1.len _ _ _ _) (F2.len _ _ _ _), fun A outer s H args us vs Q E hr e0 b r z => ?_⟩
  rcases z with z | z
  · refine codeAny_mono (F1.run A outer s H args us vs Q (fun _ _ _ => False) (hr.mono h) e0 b r z) fun res s2 q => ?_
    cases res with
    | ok fl => cases fl <;> exact q
    | error e => exact (show False from q).elim
  · exact F2.run A outer s H args us vs Q E hr e0 b r z
theorem lookNE {X : Cx} {E : XK} (tk : L2N.Takes X (fun cls d _ H => E cls d H)) : Passes (L2N.CX X.prog X.w) X E := L2N.passes_call tk fun _ _ _ _ z => z
/-- nodes up to the first that is none -/
def NodesEnd (xs : List Int) (n : Nat) (good : List Nat) (ok : Prop) (bad : Int → Prop) : Prop := (∀ x ∈ good, x < n) ∧
  ((xs = good.map (fun v : Nat => (v : Int)) ∧ ok) ∨ ∃ (z : Int) (rest : List Int), xs = good.map (fun v : Nat => (v : Int)) ++ z :: rest ∧ (z < 0 ∨ (n : Int) ≤ z) ∧ z.natAbs.log2 < 1920 ∧ bad z)
theorem NodesEnd.at {xs : List Int} {n : Nat} {good : List Nat} {ok : Prop} {bad : Int → Prop} (h : NodesEnd xs n good ok bad) {i : Nat} {v : V} (hv : (xs.map V.int)[i]? = some v) (hi : i ≤ good.length) :
    (∃ u, good[i]? = some u ∧ v = .int (u : Int) ∧ u < n) ∨ (∃ z, v = .int z ∧ (z < 0 ∨ (n : Int) ≤ z) ∧ z.natAbs.log2 < 1920 ∧ bad z) := by
  rw [List.getElem?_map] at hv
  obtain ⟨k, hk, rfl⟩ := Option.map_eq_some_iff.mp hv
  by_cases h1 : i < good.length
  · refine .inl ⟨good[i], List.getElem?_eq_getElem h1, ?_, h.1 _ (List.getElem_mem h1)⟩
    have e : xs[i]? = some ((good[i] : Nat) : Int) := by
      rcases h.2 with ⟨e, _⟩ | ⟨z, rest, e, _⟩
      · rw [e, List.getElem?_map, List.getElem?_eq_getElem h1]; rfl
      · rw [e, List.getElem?_append_left (by rw [List.length_map]; exact h1), List.getElem?_map, List.getElem?_eq_getElem h1]; rfl
    rw [hk] at e
    rw [Option.some.inj e]
  · have hi2 : i = good.length := by omega
    rcases h.2 with ⟨e, _⟩ | ⟨z, rest, e, h2⟩
    · rw [e, List.getElem?_eq_none (by rw [List.length_map]; omega)] at hk; cases hk
    · rw [e, List.getElem?_append_right (by rw [List.length_map]; omega), List.length_map, hi2, Nat.sub_self] at hk
      have hk : some z = some k := hk
      rw [← Option.some.inj hk]
      exact .inr ⟨z, rfl, h2⟩
theorem NodesEnd.done {xs : List Int} {n : Nat} {good : List Nat} {ok : Prop} {bad : Int → Prop} (h : NodesEnd xs n good ok bad) (hl : (xs.map V.int).length ≤ good.length) : xs = good.map (fun v : Nat => (v : Int)) ∧ ok := by
  rw [List.length_map] at hl
  rcases h.2 with h | ⟨z, rest, e, _⟩
  · exact h
  · rw [e] at hl
    simp at hl
    omega
end ExX
namespace ExX
open PySem PySem.Spec PyProof.Rows L2
theorem lc_kd {k : Bool} {K : PySem.W.Frag} {i0 : Nat} {a : Addr} {xs : List V} {g : TG} {tt : TT} {te : TE} {vs : List Nat} {σ : L2.St} {H : Hp} {Q : VK} (hv : σ[i0]? = some (some (.ref a))) (hS : Kd k K H a xs)
    (h : ∀ D, H D = none → ∃ Pv : Nat → Hp → Prop, Pv 0 (upd H D (.lst [])) ∧ (∀ i H, i ≤ xs.length → Pv i H → Kd k K H a xs) ∧ (∀ i x H, xs[i]? = some x → Pv i H → g x (wipe σ vs) H fun σ2 H2 => wipe σ2 vs = wipe σ vs ∧ tt σ2 H2 fun b H3 =>
      if b = true then te σ2 H3 fun y H4 => ∃ acc, H4 D = some (.lst acc) ∧ acc.length < sizeLine ∧ Pv (i + 1) (upd H4 D (.lst (acc ++ [y]))) else Pv (i + 1) H3) ∧ (∀ H, Pv xs.length H → Q (.ref D) H)) : tLc (iKd k K (tVar i0)) g tt te vs σ H Q := by
  cases k
  · refine ⟨_, hv, a, rfl, ⟨_, hS⟩, fun D nD => ?_⟩
    obtain ⟨Pv, h0, hl, hs, hd⟩ := h D nD
    exact lc_tup (xs := xs) (Qd := Q (.ref D)) Pv h0 hl hs hd
  · refine ⟨_, hv, a, rfl, ⟨_, hS⟩, fun D nD => ?_⟩
    obtain ⟨Pv, h0, hl, hs, hd⟩ := h D nD
    exact lc_list (xs := xs) (Qd := Q (.ref D)) Pv h0 hl hs hd
theorem NodesEnd.len {xs : List Int} {n : Nat} {good : List Nat} {ok : Prop} {bad : Int → Prop} (h : NodesEnd xs n good ok bad) : good.length ≤ xs.length := by
  rcases h.2 with ⟨e, _⟩ | ⟨z, rest, e, _⟩
  · rw [e, List.length_map]; exact Nat.le_refl _
  · rw [e]; simp
end ExX
namespace ExX
open PySem PySem.Spec PyProof.Rows L2
theorem slc_kd {k : Bool} {K : PySem.W.Frag} {i0 j : Nat} {a : Addr} {xs : List V} {g : TG} {tt : TT} {te : TE} {vs : List Nat} {σ : L2.St} {H : Hp} {N : Ends} (hv : σ[i0]? = some (some (.ref a))) (hS : Kd k K H a xs)
    (h : ∀ D, H D = none → ∃ Pv : Nat → Hp → Prop, Pv 0 (upd H D (.lst [])) ∧ (∀ i H, i ≤ xs.length → Pv i H → Kd k K H a xs) ∧ (∀ i x H, xs[i]? = some x → Pv i H → g x (wipe σ vs) H fun σ2 H2 => wipe σ2 vs = wipe σ vs ∧ tt σ2 H2 fun b H3 =>
      if b = true then te σ2 H3 fun y H4 => ∃ acc, H4 D = some (.lst acc) ∧ acc.length < sizeLine ∧ Pv (i + 1) (upd H4 D (.lst (acc ++ [y]))) else Pv (i + 1) H3) ∧ (∀ H, Pv xs.length H → N.nx (σ.set j (some (.ref D))) H)) : tAsg (tLc (iKd k K (tVar i0)) g tt te vs) (gName j) N σ H :=
  lc_kd (Q := fun x H1 => gName j x σ H1 N.nx) hv hS h
end ExX
namespace ExX
open PySem PySem.Spec PyProof.Rows L2
/-- three parameters, given by keywords in the reverse order -/
def sw3 {α : Type} : List α → List α → List α
  | [], [c, b, a] => [a, b, c]
  | _, _ => []
theorem sw3_rel {vs : List V} {us : List Value} {zs : List V} {ws : List Value} (r : Vals vs us) (s : Vals zs ws) : Vals (sw3 vs zs) (sw3 us ws) := by
  cases r with
  | cons _ _ => exact .nil
  | nil =>
    cases s with
    | nil => exact .nil
    | cons h1 t1 =>
      cases t1 with
      | nil => exact .nil
      | cons h2 t2 =>
        cases t2 with
        | nil => exact .nil
        | cons h3 t3 =>
          cases t3 with
          | nil => exact .cons h3 (.cons h2 (.cons h1 .nil))
          | cons _ _ => exact .nil
theorem fun_sw3 {K : PySem.W.Frag} {x qual : Str} {st : Stmt} {f : Addr} {fd : FuncData} {a b c : Str} (F : Fun K x qual st f fd)
    (h : ∀ (kV doc pm : Value) (an : Option Addr) (cdv ct : Value) (u v w : Value), bindArgs (PySem.W.fnOf x qual (defArgs st) (defBody st) (defScope st) .none kV doc pm an cdv ct) ⟨[], [(c, u), (b, v), (a, w)]⟩ = pure [(a, w), (b, v), (c, u)]) : KBinds K fd [a, b, c] [c, b, a] sw3 sw3 := by
  obtain ⟨oc, od, kV, doc, pm, an, cdv, ct, osl, rfl, lk, hcd⟩ := F.ex
  refine ⟨fun s us ws _ hl => ?_, sw3_rel⟩
  match us, ws, hl with
  | [], [u, v, w], _ => exact .of_eq (h kV doc pm an cdv ct u v w)
end ExX
namespace ExX
open PySem PySem.Spec PyProof.Rows L2
/-- f(e, ..) where what is raised is wished for at the slots of the call -/
theorem pe_callN {X : Cx} {W : WX} {k : Nat} {f : Addr} {fd : FuncData} {ps : List Str} {sp : Sp} {x : Str} {q pos : Pos} {e : Expr} {es : List Expr} {t : TA} (F : FnOk X.prog X.w X.K X.mg X.base (L2N.CX X.prog X.w) k f fd ps sp) (hr : Room k X.A) (hg : Gl X x) (hm : X.mg x = some (.ref f)) (hk : PySem.W.keepIn X.K (.ref f) = true) (hb : L2.Binds X.K fd ps []) (tk : L2N.Takes X W)
    (ha : PA X (e :: es) t) (hdb : (x == ("__debug__" : Str)) = false := by decide) (he : starEach (e :: es) X.env = (false, eval e X.env) :: starEach es X.env := by rfl) (hpl : (backTo pos (starEach es X.env)).any (·.1) = false := by rfl) :
    PE X (.Call (.Name x q) (e :: es) [] pos) (fun σ H Q => t σ H fun vs H1 => sp vs H1 Q fun cls d H2 => W cls d σ H2) := by
  refine ⟨fun pins s σ H Q I h => wpAny_Call_Name_kw (ld_glob I hg hm ?_ hdb)⟩
  refine PySem.W.callWith_K (h₀ := X.base) I.ok.mod.kin hk (thn (ha.run pos pins s σ H _ I h) fun us s1 ⟨vs, H1, I1, r, w⟩ => ⟨I1.kIn, ?_⟩) he hpl
  have hl : us.length = ps.length := by rw [← r.length]; exact F.len _ _ _ _ w
  have b := hb s1 us I1.kIn (by rw [List.append_nil]; exact hl)
  rw [List.append_nil] at b
  refine wpAny_call (codeAny_mono (F.run X.A X.stack s1 H1 ⟨us, []⟩ us vs Q _ hr I1.env0 b r w) fun res s2 hq => ?_)
  cases res with
  | error er => exact tk er s2 (L2N.XE.of_call I1 (fun cls d H2 z => z) hq)
  | ok fl =>
    cases fl with
    | ret u => exact I1.after hq
    | _ => exact hq.elim
end ExX
namespace ExX
open PySem PySem.Spec PyProof.Rows L2
/-- one parameter, given by its keyword -/
def sw1 {α : Type} : List α → List α → List α
  | [], [a] => [a]
  | _, _ => []
theorem sw1_rel {vs : List V} {us : List Value} {zs : List V} {ws : List Value} (r : Vals vs us) (s : Vals zs ws) : Vals (sw1 vs zs) (sw1 us ws) := by
  cases r with
  | cons _ _ => exact .nil
  | nil =>
    cases s with
    | nil => exact .nil
    | cons h1 t1 =>
      cases t1 with
      | nil => exact .cons h1 .nil
      | cons h2 t2 => exact .nil
theorem fun_sw1 {K : PySem.W.Frag} {x qual : Str} {st : Stmt} {f : Addr} {fd : FuncData} {a : Str} (F : Fun K x qual st f fd)
    (h : ∀ (kV doc pm : Value) (an : Option Addr) (cdv ct : Value) (u : Value), bindArgs (PySem.W.fnOf x qual (defArgs st) (defBody st) (defScope st) .none kV doc pm an cdv ct) ⟨[], [(a, u)]⟩ = pure [(a, u)]) : KBinds K fd [a] [a] sw1 sw1 := by
  obtain ⟨oc, od, kV, doc, pm, an, cdv, ct, osl, rfl, lk, hcd⟩ := F.ex
  refine ⟨fun s us ws _ hl => ?_, sw1_rel⟩
  match us, ws, hl with
  | [], [u], _ => exact .of_eq (h kV doc pm an cdv ct u)
end ExX

namespace ExX
open PySem PySem.Spec PyProof.Rows L2
theorem meets_enum1 {v : Value} {o : Obj} {H : Heap → Prop} (B : Begins v o H) : Meets (Builtin.«enumerate.__new__» ⟨[.type "enumerate", v], []⟩) (fun _ R s => H s.heap ∧
      R (.ok (.ret (.ref (s.heap.push o).objs.size))) { s with heap := (s.heap.push o).push { cls := .type "enumerate", data := .fields #[.none, .bool false, .ref s.heap.objs.size, rawInt 0, .none, .none] } }) :=
  .of_wp fun prog w A R s h => by
    obtain ⟨hp, g, d, tk, os⟩ := s
    obtain ⟨h1, h⟩ := h
    have hsub := sub_enumerate
    have q1 : ∀ {A' : Around} {E : Value → Shared → Prop} {Q : Value → Shared → Prop}, Q (.ref hp.objs.size) ⟨hp.push o, g, d, tk, os⟩ → wpAny (model prog w) A' (pyIter v) Q E ⟨hp, g, d, tk, os⟩ := fun q => B.iter prog w _ _ ⟨hp, g, d, tk, os⟩ _ h1 q
    wp_walk using q1
    refine wpAny_stack_any fun st => wpAny_pure ?_
    split
    · rename_i c _ _ _ _ _
      cases (c == Value.type "enumerate") <;> (wp_walk using q1; exact ⟨_, rfl, h⟩)
    · wp_walk using q1
      exact ⟨_, rfl, h⟩
/-- enumerate(t), t a tuple -/
theorem call_enumT {prog : Program} {w : World} {A : Around} {E : Value → Shared → Prop} {s : Shared} {t : Addr} {items : Array Value} {Q : Value → Shared → Prop} (hT : s.heap.IsTuple t items)
    (h : ∀ h1, IsEnum h1 (s.heap.objs.size + 1) s.heap.objs.size 0 .none → h1.IsTupleIter s.heap.objs.size t 0 → (∀ b o, s.heap.get? b = some o → h1.get? b = some o) → Q (.ref (s.heap.objs.size + 1)) { s with heap := h1 }) :
    wpAny (model prog w) A (call (.type "enumerate") [.ref t]) Q E s := by
  refine callType_new F.called_enumerate (by decide) (F.typeCall_enumerate_1 _) (F.newCall_enumerate_1 _) (fun obj => F.args_object_init_2 obj _) F.entry_enumerate_new (meets_enum1 (begins_tuple t items)) ⟨hT, ?_⟩
  obtain ⟨oI, eI⟩ : ∃ oI : Obj, oI = { cls := .type "tuple_iterator", data := .fields #[.ref t, .int 0 0] } := ⟨_, rfl⟩
  rw [← eI]
  have sz : (s.heap.push oI).objs.size = s.heap.objs.size + 1 := Heap.size_push ..
  show _ ∧ _
  rw [sz]
  have he := Heap.get?_push_size (s.heap.push oI) (o := { cls := .type "enumerate", data := .fields #[.none, .bool false, .ref s.heap.objs.size, rawInt 0, .none, .none] }) rfl
  rw [sz] at he
  have hi : ((s.heap.push oI).push { cls := .type "enumerate", data := .fields #[.none, .bool false, .ref s.heap.objs.size, rawInt 0, .none, .none] }).get? s.heap.objs.size = some oI := Heap.get?_push_of_some _ (Heap.get?_push_size _ (by rw [eI]; rfl))
  exact ⟨⟨_, he, rfl⟩, h _ he ⟨_, hi, by rw [eI], by rw [eI]; rfl⟩ fun b o x => Heap.get?_push_of_some _ (Heap.get?_push_of_some _ x)⟩
/-- the tuple at a, each item with its number in a new pair -/
def ItE (K : PySem.W.Frag) (a : Addr) : It :=
  ⟨fun i H => ∃ (xs : List V) (x : V), SqT K H a xs ∧ xs[i]? = some x, fun i H v H1 => ∃ T x, v = .ref T ∧ H T = none ∧ H1 = upd H T (.tup [.int (i : Nat), x]) ∧ ∀ xs, SqT K H a xs → xs[i]? = some x, fun i H => ∃ xs : List V, SqT K H a xs ∧ xs.length ≤ i⟩
theorem turn_enumT {P : Program} {w : World} {K : PySem.W.Frag} {elts : List Expr} {kk : Nat} {tpos : Pos} (a e it : Addr) :
    Turn P w K (.Tuple elts kk tpos) (ItE K a) [e, it] e (fun i h => (∃ old, IsEnum h e it ((i : Nat) : Int) old) ∧ h.IsTupleIter it a i ∧ e ≠ it ∧ a ≠ it ∧ a ≠ e) where
  mem := by simp
  obj := fun i h ⟨⟨old, he⟩, ⟨o, ho, hc, hd⟩, _⟩ b hb => by
    rcases List.mem_cons.mp hb with z | z
    · rw [z]; exact ⟨_, he, fun v q => nomatch q⟩
    · rw [List.mem_singleton.mp z]; exact ⟨o, ho, fun v q => by rw [hd] at q; cases q⟩
  keep := fun i h h1 ⟨⟨old, he⟩, hi, r⟩ k => ⟨⟨old, k e (by simp) _ he⟩, hi.at fun o q => k it (by simp) o q, r⟩
  item := by
    intro X hP hw hK hc i pins s σ H E I hf ⟨⟨old, he⟩, hit, hne, hai, hae⟩ ⟨xs, x, hq, hx⟩
    subst hP hw hK
    obtain ⟨its, rv, p, hz⟩ := I.tuple hq
    obtain ⟨u, hu, ru⟩ := rv.get hx
    have hel : e < s.heap.objs.size := Heap.lt_size he
    have hil : it < s.heap.objs.size := by obtain ⟨_, q, _⟩ := hit; exact Heap.lt_size q
    have hlt : i < its.toArray.size := by
      have := (List.getElem?_eq_some_iff.mp hu).1
      simpa using this
    have D := Draws.tuple (prog := X.prog) (w := X.w) (A := X.A.in1) (by simpa using I.ok.hd hc) it a hai its.toArray
    refine wpAny_pyNext_enum_itemD D he ⟨hit, p⟩ hlt hne (by simp [hne, Ne.symm hae]) fun x2 h1 tk hP2 ho ⟨hit1, _⟩ hT hsz hk => ?_
    have e2 : x2 = u := by
      have z : its.toArray[i]? = some u := by simpa using hu
      exact Option.some.inj (hP2.symm.trans z)
    subst e2
    refine ⟨_, rfl, wpAny_letOwnedTupleGo_enum (s := { s with heap := h1, toks := tk + 1 }) ho fun h2 he2 sb => ?_⟩
    have hT2 : h2.get? s.heap.objs.size = some { cls := .type "tuple", data := .seq #[.int i tk, x2] } := (sb.2 _ (Nat.ne_of_gt hel)).trans hT
    have new : ObjOk X.prog X.w (upd H s.heap.objs.size (.tup [.int (i : Nat), x])) h2 s.heap.objs.size (.tup [.int (i : Nat), x]) := ⟨by show 2 ≤ sizeLine; decide, [.int i tk, x2], .cons ⟨_, rfl⟩ (.cons ru .nil), ⟨_, hT2, rfl, _, rfl⟩⟩
    have I1 : Inv X pins σ (upd H s.heap.objs.size (.tup [.int (i : Nat), x])) { s with heap := h2, toks := tk + 1 } :=
      I.turnedNew (ch := [e, it]) (fun b ob hb q => (sb.2 b (fun z => hb (by simp [z]))).trans (hk b ob (fun z => hb (by simp [z])) (fun z => hb (by simp [z])) q)) hf (Nat.le_refl _) new
    refine ⟨.ref s.heap.objs.size, _, I1, rfl, ⟨_, x, rfl, I.hok.fresh (Nat.le_refl _), rfl, fun ys hy => by rw [I.tuple_inj hy hq]; exact hx⟩, ⟨⟨x2, ?_⟩, hit1.at fun o q => (sb.2 it (Ne.symm hne)).trans q, hne, hai, hae⟩, fun b hb => ?_⟩
    · rw [show ((i + 1 : Nat) : Int) = (i : Int) + 1 by omega]; exact he2
    · have hb2 : b < s.heap.objs.size := by
        rcases List.mem_cons.mp hb with z | z
        · rw [z]; exact hel
        · rw [List.mem_singleton.mp z]; exact hil
      rw [upd_ne (Nat.ne_of_lt hb2)]
      exact (hf b hb).1
  done := by
    intro X hP hw hK hc i pins s σ H E I hf ⟨⟨old, he⟩, hit, hne, hai, hae⟩ ⟨xs, hq, hx⟩
    subst hP hw hK
    obtain ⟨its, rv, p, hz⟩ := I.tuple hq
    obtain ⟨f0, f1, f2, f3, f4, f5⟩ := hf it (by simp)
    have hl := rv.length
    have hh : X.A.in1.handled = none := by simpa using I.ok.hd hc
    have D0 : Draws X.prog X.w X.A.in1 it [it, a] i (fun j v => False) (fun j h => j = i ∧ h.IsTupleIter it a i ∧ h.IsTuple a its.toArray) :=
      { live := fun _ _ ⟨_, ⟨o, ho, _⟩, _⟩ => ⟨o, ho⟩
        frame := fun _ _ _ ⟨r, st1, st2⟩ hk => ⟨r, st1.at fun o e => hk it (by simp) o e, st2.at fun o e => hk a (by simp) o e⟩
        item := fun j s Q E hj ⟨r, _⟩ _ => absurd r (Nat.ne_of_lt hj)
        done := fun s Q E ⟨_, st1, st2⟩ hE => wpAny_nextOf_tuple_end hh st1 st2 (by simp; omega) hE }
    exact wpAny_pyNext_enum_endD D0 he ⟨rfl, hit, p⟩ fun h1 eb => ⟨rfl, I.turned (t' := s.toks) (fun b o hb q => eb b o hb q) f0 f1 f3 f4 f5⟩
  self := fun A i s Q E ⟨⟨_, he⟩, _⟩ h => wpAny_pyIter_enum he h
def iEnumT (K : PySem.W.Frag) (ta : TA) : TI := fun σ H R => ta σ H fun vs H1 => ∃ a xs, vs = [.ref a] ∧ SqT K H1 a xs ∧ R (ItE K a) H1
theorem pi_enumT {X : Cx} {e : Expr} {ta : TA} {p pos tpos : Pos} {elts : List Expr} {kk : Nat} (hg : Gl X "enumerate") (hm : X.mg "enumerate" = none) (ha : PA X [e] ta) (hs : starEach [e] X.env = [(false, eval e X.env)] := by rfl) :
    PI X (.Tuple elts kk tpos) (.Call (.Name "enumerate" p) [e] [] pos) (iEnumT X.K ta) := by
  refine ⟨fun pins s σ H R I h => ?_⟩
  refine Call_ (ld_blt I hg hm boot_enumerate (PyProof.Rows.callWith_type1 (thn (ha.run pos pins s σ H _ I h) fun us s1 ⟨vs, H1, I1, r1, a, xs, ex, hq, q⟩ => ?_) hs rfl))
  subst ex
  cases r1 with
  | cons r rr =>
    cases rr
    cases r
    obtain ⟨its, rv, p2, hz⟩ := I1.tuple hq
    have al : a < s1.heap.objs.size := p2.lt
    refine call_enumT p2 fun h1 he hit hk => wpAny_pyIter_enum he ?_
    have I2 : Inv X pins σ H1 { s1 with heap := h1 } := I1.kept (t' := s1.toks) hk
    refine ⟨s1.heap.objs.size + 1, [s1.heap.objs.size + 1, s1.heap.objs.size], _, _, H1, rfl, I2, turn_enumT a (s1.heap.objs.size + 1) s1.heap.objs.size, ⟨⟨.none, he⟩, hit, Nat.succ_ne_self _, Nat.ne_of_lt al, Nat.ne_of_lt (Nat.lt_succ_of_lt al)⟩, fun b hb => ?_, q⟩
    have hle : s1.heap.objs.size ≤ b := by
      rcases List.mem_cons.mp hb with z | z
      · rw [z]; exact Nat.le_succ _
      · rw [List.mem_singleton.mp z]; exact Nat.le_refl _
    exact I1.fpOk hle (I1.hok.fresh hle)
/-- a comprehension over enumerate(t) -/
theorem lc_enumT {K : PySem.W.Frag} {a : Addr} {xs : List V} {g : TG} {tt : TT} {te : TE} {vs : List Nat} {σ : L2.St} {H1 : Hp} {D : Addr} {Qd : Hp → Prop} (Pv : Nat → Hp → Prop) (h0 : Pv 0 (upd H1 D (.lst []))) (hl : ∀ i H, i ≤ xs.length → Pv i H → SqT K H a xs)
    (hs : ∀ i x H T, xs[i]? = some x → Pv i H → H T = none → g (.ref T) (wipe σ vs) (upd H T (.tup [.int (i : Nat), x])) fun σ2 H2 => wipe σ2 vs = wipe σ vs ∧ tt σ2 H2 fun b H3 =>
      if b = true then te σ2 H3 fun y H4 => ∃ acc, H4 D = some (.lst acc) ∧ acc.length < sizeLine ∧ Pv (i + 1) (upd H4 D (.lst (acc ++ [y]))) else Pv (i + 1) H3) (hd : ∀ H, Pv xs.length H → Qd H) :
    ∃ W : Nat → Nat → Hp → Prop, (∃ m, W 0 m (upd H1 D (.lst []))) ∧ ∀ i m H, W i m H →
      ((ItE K a).stop i H ∧ Qd H) ∨ ((ItE K a).go i H ∧ ∃ Nx : Hp → Prop, (∀ H2, Nx H2 → ∃ m2, m2 < m ∧ W (i + 1) m2 H2) ∧ ∀ x H2, (ItE K a).yld i H x H2 → g x (wipe σ vs) H2 fun σ2 H2 => wipe σ2 vs = wipe σ vs ∧ tt σ2 H2 fun b H3 =>
        if b = true then te σ2 H3 fun y H4 => ∃ acc, H4 D = some (.lst acc) ∧ acc.length < sizeLine ∧ Nx (upd H4 D (.lst (acc ++ [y]))) else Nx H3) := by
  refine ⟨fun i m H => m = xs.length - i ∧ i ≤ xs.length ∧ Pv i H, ⟨xs.length, by simp, Nat.zero_le _, h0⟩, fun i m H ⟨em, hi, hp⟩ => ?_⟩
  subst em
  have hq := hl i H hi hp
  by_cases hlt : i < xs.length
  · refine .inr ⟨⟨xs, xs[i], hq, by simp [hlt]⟩, Pv (i + 1), fun H2 p2 => ⟨xs.length - (i + 1), by omega, rfl, hlt, p2⟩, fun x H2 ⟨T, y, ex, nT, eH, hy⟩ => ?_⟩
    subst ex eH
    exact hs i y H T (hy xs hq) hp nT
  · have : i = xs.length := by omega
    subst this
    exact .inl ⟨⟨xs, hq, Nat.le_refl _⟩, hd H hp⟩
end ExX
namespace ExX
open PySem PySem.Spec PyProof.Rows L2
theorem for_enumT {K : PySem.W.Frag} {a : Addr} {xs : List V} {g : TG} {tb : TS} {D : Ends} {σ : L2.St} {H : Hp} (Pv : Nat → L2.St → Hp → Prop) (h0 : Pv 0 σ H) (hl : ∀ i σ H, i ≤ xs.length → Pv i σ H → SqT K H a xs)
    (hs : ∀ i x σ H T, xs[i]? = some x → Pv i σ H → H T = none → g (.ref T) σ (upd H T (.tup [.int (i : Nat), x])) fun σ2 H2 => tb { D with nx := Pv (i + 1), ct := Pv (i + 1), bk := D.nx } σ2 H2) (hd : ∀ σ H, Pv xs.length σ H → D.nx σ H) :
    ∃ W : Nat → Nat → L2.St → Hp → Prop, (∃ m, W 0 m σ H) ∧ ∀ i m σ H, W i m σ H →
      ((ItE K a).stop i H ∧ D.nx σ H) ∨ ((ItE K a).go i H ∧ ∃ N : L2.St → Hp → Prop, (∀ σ2 H2, N σ2 H2 → ∃ m2, m2 < m ∧ W (i + 1) m2 σ2 H2) ∧ ∀ x H2, (ItE K a).yld i H x H2 → g x σ H2 fun σ2 H2 => tb { D with nx := N, ct := N, bk := D.nx } σ2 H2) := by
  refine ⟨fun i m σ H => m = xs.length - i ∧ i ≤ xs.length ∧ Pv i σ H, ⟨xs.length, by simp, Nat.zero_le _, h0⟩, fun i m σ H ⟨em, hi, hp⟩ => ?_⟩
  subst em
  have hq := hl i σ H hi hp
  by_cases hlt : i < xs.length
  · refine .inr ⟨⟨xs, xs[i], hq, by simp [hlt]⟩, Pv (i + 1), fun σ2 H2 p2 => ⟨xs.length - (i + 1), by omega, rfl, hlt, p2⟩, fun x H2 ⟨T, y, ex, nT, eH, hy⟩ => ?_⟩
    subst ex eH
    exact hs i y σ H T (hy xs hq) hp nT
  · have : i = xs.length := by omega
    subst this
    exact .inl ⟨⟨xs, hq, Nat.le_refl _⟩, hd σ H hp⟩
end ExX

namespace ExX
open PySem PySem.Spec PyProof.Rows L2
/-- a def that may raise, called where it does not -/
theorem fn_no {P : Program} {w : World} {K : PySem.W.Frag} {mg : Str → Option Value} {base : Heap} {k : Nat} {f : Addr} {fd : FuncData} {ps : List Str} {sp sp' : Sp} (F : FnOk P w K mg base (L2N.CX P w) k f fd ps sp) (h : ∀ vs H Q E, sp' vs H Q E → sp vs H Q (fun _ _ _ => False)) : FnOk P w K mg base CX0 k f fd ps sp' := by
  refine ⟨fun vs H Q E z => F.len _ _ _ _ (h _ _ _ _ z), fun A outer s H args us vs Q E hr e0 b r z => ?_⟩
  refine codeAny_mono (F.run A outer s H args us vs Q (fun _ _ _ => False) hr e0 b r (h _ _ _ _ z)) fun res s2 q => ?_
  cases res with
  | ok fl => cases fl <;> exact q
  | error e =>
    have q : L2N.CX P w outer H s (fun _ _ _ => False) e s2 := q
    unfold L2N.CX at q
    simp at q
def noE (sp : Sp) : Sp := fun vs H Q _ => sp vs H Q fun _ _ _ => False
theorem fn_noE {P : Program} {w : World} {K : PySem.W.Frag} {mg : Str → Option Value} {base : Heap} {k : Nat} {f : Addr} {fd : FuncData} {ps : List Str} {sp : Sp} (F : FnOk P w K mg base (L2N.CX P w) k f fd ps sp) : FnOk P w K mg base CX0 k f fd ps (noE sp) := fn_no F fun _ _ _ _ z => z
theorem Flies.same {H H1 : Hp} {E : XK} {C : Addr} {fld tag : Str} {v : V} (f : Flies H E C fld tag v) (s : Same H H1) : Flies H1 E C fld tag v := fun d H2 n h s2 => f d H2 (sm_none s n) h (s.trans s2)
end ExX

namespace Ff
open PySem PySem.Spec PyProof.Rows L2
def topS (i : Nat) : Stmt := PySem.Challenge.pw_findforests_k26_numbers_and_lists_of_tre.main.body.getD i (.Pass ⟨0, 0, 0, 0⟩)
/-- all but what stands at d is as it was -/
def Sb (d : Addr) (H H' : Hp) : Prop := ∀ b o, b ≠ d → H b = some o → H' b = some o
theorem Sb.refl {d : Addr} {H : Hp} : Sb d H H := fun _ _ _ h => h
theorem Sb.trans {d : Addr} {H H1 H2 : Hp} (a : Sb d H H1) (b : Sb d H1 H2) : Sb d H H2 := fun c o n h => b c o n (a c o n h)
theorem Sb.of {d : Addr} {H H' : Hp} (s : Same H H') : Sb d H H' := fun b o _ h => s b o h
theorem Sb.put {d : Addr} {H : Hp} {o : HO} : Sb d H (upd H d o) := fun b u n h => by rw [upd_ne n]; exact h
theorem same_new {H : Hp} {p : Addr} {o : HO} (h : H p = none) : Same H (upd H p o) := fun b x e => by
  rw [upd_ne (ne_of_none e h)]
  exact e
theorem same_sqt {H : Hp} {K : PySem.W.Frag} {a : Addr} {xs : List V} {H' : Hp} (e : Same H H') (h : SqT K H a xs) : SqT K H' a xs := by
  rcases h with (h | ⟨o, h⟩) | h
  · exact .inl (.inl (e _ _ h))
  · exact .inl (.inr ⟨o, e _ _ h⟩)
  · exact .inr h
/-- the state of the draws: a list of a list of ints and three ints -/
def DrawAt (H : Hp) (d l : Addr) : Prop := ∃ (ns : List Int) (i j k : Int),
  H d = some (.lst [.ref l, .int i, .int j, .int k]) ∧ H l = some (.lst (ns.map V.int)) ∧ 0 ≤ i ∧ 0 ≤ k ∧ k < 2305843009213693951
theorem draw_ne {H : Hp} {d l : Addr} {ns : List Int} {i j k : Int} (h : H d = some (.lst [.ref l, .int i, .int j, .int k])) (h' : H l = some (.lst (ns.map V.int))) : l ≠ d :=
  ne_of h' h (by
    intro z
    cases ns with
    | nil => cases z
    | cons a r => injection z with z; injection z with z _; cases z)
theorem DrawAt.same {H H' : Hp} {d l : Addr} (D : DrawAt H d l) (s : Same H H') : DrawAt H' d l := by
  obtain ⟨ns, i, j, k, h, h', r⟩ := D
  exact ⟨ns, i, j, k, s _ _ h, s _ _ h', r⟩
def spTake : Sp := fun vs H Q _ => ∃ (d l : Addr) (m : Int), vs = [.ref d, .int m] ∧ DrawAt H d l ∧ 1 ≤ m ∧ m.natAbs < 2 ^ 1000 ∧
  ∀ (r : Nat) H', (r : Int) < m → DrawAt H' d l → Sb d H H' → Q (.int r) H'
section
variable {P : Program} {w : World} {K : PySem.W.Frag} {mg : Str → Option Value} {base : Heap}
theorem dix {K : PySem.W.Frag} {H : Hp} {d : Addr} {xs : List V} (h : H d = some (.lst xs)) {k : Nat} {v : V} (e : xs[k]? = some v) : SqL K H d xs ∧ atI xs (k : Int) = some v := ⟨SqL.of h, atI_nat e⟩
end
theorem Sb.sql {K : PySem.W.Frag} {d a : Addr} {H H' : Hp} {xs : List V} (e : Sb d H H') (n : a ≠ d) (h : SqL K H a xs) : SqL K H' a xs := by
  rcases h with (h | ⟨o, h⟩) | h
  · exact .inl (.inl (e _ _ n h))
  · exact .inl (.inr ⟨o, e _ _ n h⟩)
  · exact .inr h
theorem Sb.sqt {K : PySem.W.Frag} {d a : Addr} {H H' : Hp} {xs : List V} (e : Sb d H H') (n : a ≠ d) (h : SqT K H a xs) : SqT K H' a xs := by
  rcases h with (h | ⟨o, h⟩) | h
  · exact .inl (.inl (e _ _ n h))
  · exact .inl (.inr ⟨o, e _ _ n h⟩)
  · exact .inr h
theorem DrawAt.ne {H : Hp} {d l p : Addr} (D : DrawAt H d l) (h : H p = none) : p ≠ d := by
  obtain ⟨ns, i, j, k, e, _⟩ := D
  exact (ne_of_none e h).symm
theorem DrawAt.nel {H : Hp} {d l p : Addr} (D : DrawAt H d l) (h : H p = none) : p ≠ l := by
  obtain ⟨ns, i, j, k, _, e, _⟩ := D
  exact (ne_of_none e h).symm
theorem DrawAt.put {H : Hp} {d l p : Addr} {o : HO} (D : DrawAt H d l) (h : p ≠ d) (h2 : p ≠ l) : DrawAt (upd H p o) d l := by
  obtain ⟨ns, i, j, k, g, g', r⟩ := D
  exact ⟨ns, i, j, k, by rw [upd_ne h.symm]; exact g, by rw [upd_ne h2.symm]; exact g', r⟩
theorem DrawAt.new {H : Hp} {d l p : Addr} {o : HO} (D : DrawAt H d l) (h : H p = none) : DrawAt (upd H p o) d l := D.same (same_new h)
theorem Sb.over {d p : Addr} {H H' : Hp} {o : HO} (e : Sb d H H') (h : H p = none) : Sb d H (upd H' p o) := fun b u n hb => by
  rw [upd_ne (ne_of_none hb h)]
  exact e b u n hb
theorem same_over {p : Addr} {H H' : Hp} {o : HO} (e : Same H H') (h : H p = none) : Same H (upd H' p o) := fun b u hb => by
  rw [upd_ne (ne_of_none hb h)]
  exact e b u hb
theorem Sb.free {d : Addr} {H H' : Hp} (e : Sb d H H') {p : Addr} (n : p ≠ d) (h : H' p = none) : H p = none := by
  cases z : H p with
  | none => rfl
  | some o => rw [e p o n z] at h; cases h
structure Tx (mg : Str → Option Value) : Prop where
  len : mg "len" = none
  range : mg "range" = none
  list : mg "list" = none
  tuple : mg "tuple" = none
  max : mg "max" = none
  min : mg "min" = none
def spOf (K : PySem.W.Frag) : Sp := fun vs H Q _ => ∃ (d l a : Addr) (xs : List V), vs = [.ref d, .ref a] ∧ DrawAt H d l ∧ a ≠ d ∧ SqL K H a xs ∧ 1 ≤ xs.length ∧ xs.length ≤ 1000 ∧
  ∀ (i : Nat) (v : V) H', xs[i]? = some v → DrawAt H' d l → Sb d H H' → Q v H'
def spShuf (K : PySem.W.Frag) : Sp := fun vs H Q _ => ∃ (d l a : Addr) (xs : List V), vs = [.ref d, .ref a] ∧ DrawAt H d l ∧ a ≠ d ∧ SqL K H a xs ∧ xs.length ≤ 1000 ∧
  ∀ (p : Addr) (ys : List V) H', ys.Perm xs → H p = none → p ≠ d → H' p = some (.lst ys) → DrawAt H' d l → Sb d H H' → Q (.ref p) H'
def spSize : Sp := fun vs H Q _ => ∃ (d l : Addr) (m : Nat), vs = [.ref d, .int m] ∧ DrawAt H d l ∧ m ≤ 1000 ∧
  ∀ (r : Nat) H', r ≤ m → DrawAt H' d l → Sb d H H' → Q (.int r) H'
def spStart (K : PySem.W.Frag) : Sp := fun vs H Q _ => ∃ (a : Addr) (ns : List Int), vs = [.ref a] ∧ SqL K H a (ns.map V.int) ∧ ns.length ≤ 63 ∧
  ∀ (d l : Addr) H', H d = none → DrawAt H' d l → Same H H' → Q (.ref d) H'
section
variable {P : Program} {w : World} {K : PySem.W.Frag} {mg : Str → Option Value} {base : Heap}
theorem insert_perm {xs : List V} (i : Nat) (y : V) : (xs.take i ++ [y] ++ xs.drop i).Perm (xs ++ [y]) := by
  rw [List.append_assoc]
  refine (List.Perm.append_left _ (List.perm_append_comm)).trans ?_
  rw [← List.append_assoc, List.take_append_drop]
end
abbrev vi (n : Nat) : V := .int (n : Int)
def natsV (l : List Nat) : List V := l.map vi
def tupOf (n : Nat) (p : Nat → Nat) : List V := (List.range n).map fun v => vi (p v)
theorem tupOf_len (n : Nat) (p : Nat → Nat) : (tupOf n p).length = n := by unfold tupOf; rw [List.length_map, List.length_range]
theorem tupOf_at {n : Nat} {p : Nat → Nat} {i : Nat} (h : i < n) : (tupOf n p)[i]? = some (vi (p i)) := by
  unfold tupOf
  rw [List.getElem?_map, List.getElem?_range h]
  rfl
theorem tupOf_congr {n : Nat} {p q : Nat → Nat} (h : ∀ v, v < n → p v = q v) : tupOf n p = tupOf n q := by
  unfold tupOf
  exact List.map_congr_left fun v hv => by rw [h v (List.mem_range.mp hv)]
theorem tupOf_set {n : Nat} {p : Nat → Nat} {i y : Nat} : (tupOf n p).set i (vi y) = tupOf n (fun v => if v = i then y else p v) := by
  refine List.ext_getElem? fun j => ?_
  rw [List.getElem?_set]
  by_cases hj : j < n
  · rw [tupOf_at hj, tupOf_at hj, tupOf_len]
    by_cases e : i = j
    · subst e
      rw [if_pos rfl, if_pos hj, if_pos rfl]
    · rw [if_neg e, if_neg (fun z => e z.symm)]
  · have z1 : (tupOf n p)[j]? = none := List.getElem?_eq_none (by rw [tupOf_len]; omega)
    have z2 : (tupOf n (fun v => if v = i then y else p v))[j]? = none := List.getElem?_eq_none (by rw [tupOf_len]; omega)
    rw [z1, z2, tupOf_len]
    by_cases e : i = j
    · rw [if_pos e, if_neg (by omega)]
    · rw [if_neg e]
theorem natsV_len (l : List Nat) : (natsV l).length = l.length := List.length_map _
theorem natsV_last (p : Nat → Nat) (k x : Nat) : atI (natsV (path p k x)) (-1) = some (vi (root p k x)) := by
  unfold natsV path
  rw [List.map_append]
  exact atI_last _ _
/-- a list or a tuple that is read -/
def Sq (K : PySem.W.Frag) (H : Hp) (a : Addr) (xs : List V) : Prop := SqL K H a xs ∨ SqT K H a xs
theorem Sq.same {K : PySem.W.Frag} {H H' : Hp} {a : Addr} {xs : List V} (h : Sq K H a xs) (e : Same H H') : Sq K H' a xs := h.imp (fun z => e.seq z) (fun z => same_sqt e z)
theorem Sq.sb {K : PySem.W.Frag} {d : Addr} {H H' : Hp} {a : Addr} {xs : List V} (h : Sq K H a xs) (e : Sb d H H') (n : a ≠ d) : Sq K H' a xs := h.imp (fun z => e.sql n z) (fun z => e.sqt n z)
theorem Sq.ix {K : PySem.W.Frag} {H : Hp} {a : Addr} {xs : List V} (h : Sq K H a xs) {i : Int} {v : V} {Q : VK} (e : atI xs i = some v) (q : Q v H) : rIx K (.ref a) (.int i) H Q := by
  rcases h with z | z
  · exact .inl ⟨a, xs, i, v, rfl, rfl, z, e, q⟩
  · exact .inr (.inl ⟨a, xs, i, v, rfl, rfl, z, e, q⟩)
def spChk (K : PySem.W.Frag) : Sp := fun vs H Q _ => ∃ (a : Addr) (xs : List V) (x : Nat), vs = [.ref a, vi x] ∧ Sq K H a xs ∧ x < xs.length ∧ Q .non H
/-- path_of, and the law's own -/
def spPath (K : PySem.W.Frag) : Sp := fun vs H Q _ => ∃ (a : Addr) (n : Nat) (p : Nat → Nat) (x : Nat), vs = [.ref a, vi x] ∧ Sq K H a (tupOf n p) ∧ n ≤ 1000 ∧ (∀ v, v < n → p v < n) ∧ x < n ∧
  ∀ (q : Addr) H', H q = none → H' q = some (.lst (natsV (path p n x))) → Same H H' → Q (.ref q) H'
def spPathOf (K : PySem.W.Frag) : Sp := fun vs H Q _ => ∃ (a : Addr) (n : Nat) (p r : Nat → Nat) (x : Nat), vs = [.ref a, vi x] ∧ Sq K H a (tupOf n p) ∧ n ≤ 1000 ∧ Fo n p r ∧ x < n ∧
  ∀ (q : Addr) H', H q = none → H' q = some (.lst (natsV (path p n x))) → Same H H' → Q (.ref q) H'
def spRoot (K : PySem.W.Frag) : Sp := fun vs H Q _ => ∃ (a : Addr) (n : Nat) (p : Nat → Nat) (x : Nat), vs = [.ref a, vi x] ∧ Sq K H a (tupOf n p) ∧ n ≤ 1000 ∧ (∀ v, v < n → p v < n) ∧ x < n ∧
  ∀ H', Same H H' → Q (vi (root p n x)) H'
def spFind (K : PySem.W.Frag) : Sp := fun vs H Q _ => ∃ (a : Addr) (n : Nat) (p r : Nat → Nat) (x : Nat), vs = [.ref a, vi x] ∧ Sq K H a (tupOf n p) ∧ n ≤ 1000 ∧ Fo n p r ∧ x < n ∧
  ∀ (t g : Addr) H', H t = none → H g = none → H' t = some (.tup [.ref g, vi (ups p n x).length]) → H' g = some (.tup (tupOf n (fnd n p x))) → Same H H' → Q (.ref t) H'
def spFindAll (K : PySem.W.Frag) : Sp := fun vs H Q _ => ∃ (a b : Addr) (n : Nat) (p r : Nat → Nat) (xs : List Nat), vs = [.ref a, .ref b] ∧ SqT K H a (tupOf n p) ∧ SqL K H b (natsV xs) ∧ n ≤ 1000 ∧ xs.length ≤ 1000 ∧ Fo n p r ∧ (∀ x ∈ xs, x < n) ∧
  ∀ (t g c : Addr) H', H t = none → H c = none → (g = a ∨ H g = none) → H' t = some (.tup [.ref g, .ref c]) → SqT K H' g (tupOf n (fndAll n xs p)) → H' c = some (.lst (natsV (costs n xs p))) → Same H H' → Q (.ref t) H'
def setAll (y : Nat) : List Nat → (Nat → Nat) → Nat → Nat
  | [], p => p
  | v :: l, p => setAll y l (fun u => if u = v then y else p u)
theorem setAll_snoc (y v : Nat) : ∀ (l : List Nat) (p : Nat → Nat), setAll y (l ++ [v]) p = fun u => if u = v then y else setAll y l p u
  | [], _ => rfl
  | a :: l, p => setAll_snoc y v l _
theorem setAll_eq (y : Nat) : ∀ (l : List Nat) (p : Nat → Nat) (u : Nat), setAll y l p u = if u ∈ l then y else p u
  | [], p, u => by rw [if_neg (List.not_mem_nil)]; rfl
  | a :: l, p, u => by
    show setAll y l _ u = _
    rw [setAll_eq y l]
    by_cases h1 : u ∈ l
    · rw [if_pos h1, if_pos (List.mem_cons_of_mem _ h1)]
    · rw [if_neg h1]
      by_cases h2 : u = a
      · rw [if_pos h2, if_pos (by rw [h2]; exact List.mem_cons_self)]
      · rw [if_neg h2, if_neg (fun z => (List.mem_cons.mp z).elim h2 h1)]
theorem fnd_setAll (n : Nat) (p : Nat → Nat) (x : Nat) : setAll (root p n x) (path p n x) p = fnd n p x := by
  funext u
  rw [setAll_eq]
  rfl
theorem path_lt {n : Nat} {p r : Nat → Nat} (F : Fo n p r) {x : Nat} (hx : x < n) : ∀ v ∈ path p n x, v < n := fun v hv => by
  unfold path at hv
  rcases List.mem_append.mp hv with h | h
  · exact (ups_lt F x hx v h).1
  · rw [List.mem_singleton.mp h]; exact root_lt F x hx
theorem ixN_nat {n i : Nat} (h : i < n) : ixN n (i : Int) = some i := by
  unfold ixN
  rw [if_pos (by omega), if_pos (by omega)]
  simp
theorem perm_of_map {α β : Type} {f : α → β} {zs ys : List β} (h : zs.Perm ys) : ∀ l : List α, zs = l.map f → ∃ l' : List α, ys = l'.map f ∧ l.Perm l' := by
  induction h with
  | nil => intro l e; exact ⟨l, e, List.Perm.refl _⟩
  | cons x h ih =>
    intro l e
    cases l with
    | nil => cases e
    | cons a r =>
      injection e with e1 e2
      obtain ⟨l', h1, h2⟩ := ih r e2
      exact ⟨a :: l', by rw [h1, e1]; rfl, h2.cons a⟩
  | swap x y l0 =>
    intro l e
    match l, e with
    | a :: b :: r, e =>
      injection e with e1 e2
      injection e2 with e2 e3
      exact ⟨b :: a :: r, by rw [e1, e2, e3]; rfl, List.Perm.swap _ _ _⟩
  | trans h1 h2 ih1 ih2 =>
    intro l e
    obtain ⟨l1, a, b⟩ := ih1 l e
    obtain ⟨l2, c, d⟩ := ih2 l1 a
    exact ⟨l2, c, b.trans d⟩
theorem rgV_nat (n : Nat) : rgV 0 (n : Int) = natsV (List.range n) := by
  unfold rgV natsV
  rw [show ((n : Int) - 0).toNat = n by omega]
  exact List.map_congr_left fun i _ => by show V.int (0 + (i : Int)) = V.int (i : Int); rw [Int.zero_add]
theorem rgOk_nat {n : Nat} (h : n ≤ 1000) : RgOk 0 (n : Int) := ⟨by decide, by decide, by omega, by omega, by omega⟩
theorem shuf_nats {l : List Nat} {ys : List V} (h : ys.Perm (natsV l)) : ∃ ks : List Nat, ys = natsV ks ∧ ks.Perm l := by
  obtain ⟨l', e, p⟩ := perm_of_map h.symm l rfl
  exact ⟨l', e, p.symm⟩
/-- the assignments of the renaming -/
def asg (ks ps : List Nat) : Nat → Nat → Nat
  | 0 => fun _ => 0
  | i + 1 => fun v => if v = ks.getD i 0 then ks.getD (ps.getD i 0) 0 else asg ks ps i v
theorem getD_inj {ks : List Nat} (nd : ks.Nodup) {i j : Nat} (hi : i < ks.length) (hj : j < ks.length) (e : ks.getD i 0 = ks.getD j 0) : i = j := by
  rw [List.getD_eq_getElem?_getD, List.getD_eq_getElem?_getD, List.getElem?_eq_getElem hi, List.getElem?_eq_getElem hj] at e
  exact (List.getElem_inj nd).mp e
theorem asg_at {ks ps : List Nat} (nd : ks.Nodup) : ∀ i, i ≤ ks.length → ∀ j, j < i → asg ks ps i (ks.getD j 0) = ks.getD (ps.getD j 0) 0
  | 0, _, j, h => by omega
  | i + 1, hi, j, h => by
    show (if ks.getD j 0 = ks.getD i 0 then _ else _) = _
    by_cases e : j = i
    · subst e; rw [if_pos rfl]
    · rw [if_neg (fun z => e (getD_inj nd (by omega) (by omega) z))]
      exact asg_at nd i (by omega) j (by omega)
theorem renamed_fo {ks ps : List Nat} {n : Nat} (hk : ks.Perm (List.range n)) (hp : ∀ j, j < n → ps.getD j 0 ≤ j) : ∃ r, Fo n (asg ks ps n) r := by
  have nd : ks.Nodup := hk.nodup_iff.mpr List.nodup_range
  have hl : ks.length = n := by rw [hk.length_eq, List.length_range]
  have hm : ∀ v, v < n → ∃ j, j < n ∧ ks.getD j 0 = v := fun v hv => by
    obtain ⟨j, hj, e⟩ := List.getElem_of_mem (hk.mem_iff.mpr (List.mem_range.mpr hv))
    exact ⟨j, by omega, by rw [List.getD_eq_getElem?_getD, List.getElem?_eq_getElem hj]; exact e⟩
  have hb : ∀ j, j < n → ks.getD j 0 < n := fun j hj => by
    have hj' : j < ks.length := by omega
    rw [List.getD_eq_getElem?_getD, List.getElem?_eq_getElem hj']
    exact List.mem_range.mp (hk.mem_iff.mp (List.getElem_mem hj'))
  have hi : ∀ j, j < n → ks.idxOf (ks.getD j 0) = j := fun j hj => by
    have hj' : j < ks.length := by omega
    have hmem : ks.getD j 0 ∈ ks := by
      rw [List.getD_eq_getElem?_getD, List.getElem?_eq_getElem hj']
      exact List.getElem_mem hj'
    have h1 := List.idxOf_lt_length_of_mem hmem
    refine getD_inj nd h1 hj' ?_
    rw [List.getD_eq_getElem?_getD, List.getElem?_eq_getElem h1]
    exact List.getElem_idxOf h1
  refine ⟨fun v => ks.idxOf v, fun v hv => ?_, fun v hv => ?_, fun v hv => ?_⟩
  · obtain ⟨j, hj, rfl⟩ := hm v hv
    rw [asg_at nd n (by omega) j hj]
    have := hp j hj
    exact hb _ (by omega)
  · obtain ⟨j, hj, rfl⟩ := hm v hv
    rw [asg_at nd n (by omega) j hj]
    have h1 := hp j hj
    by_cases e : ps.getD j 0 = j
    · exact .inl (by rw [e])
    · exact .inr (by show ks.idxOf _ < ks.idxOf _; rw [hi _ (by omega), hi _ hj]; omega)
  · obtain ⟨j, hj, rfl⟩ := hm v hv
    show ks.idxOf _ < n
    rw [hi j hj]; exact hj
/-- a new forest -/
def spRen (K : PySem.W.Frag) : Sp := fun vs H Q _ => ∃ (d l a : Addr) (ps : List Nat), vs = [.ref d, .ref a] ∧ DrawAt H d l ∧ a ≠ d ∧ SqL K H a (natsV ps) ∧ ps.length ≤ 1000 ∧ (∀ j, j < ps.length → ps.getD j 0 ≤ j) ∧
  ∀ (t : Addr) (p r : Nat → Nat) H', H t = none → H' t = some (.tup (tupOf ps.length p)) → Fo ps.length p r → DrawAt H' d l → Sb d H H' → Q (.ref t) H'
def spFor : Sp := fun vs H Q _ => ∃ (d l : Addr) (n m : Nat), vs = [.ref d, vi n, vi m] ∧ DrawAt H d l ∧ n ≤ 1000 ∧
  ∀ (t : Addr) (p r : Nat → Nat) H', H t = none → H' t = some (.tup (tupOf n p)) → Fo n p r → DrawAt H' d l → Sb d H H' → Q (.ref t) H'
def spSome : Sp := fun vs H Q _ => ∃ (d l : Addr) (m : Nat), vs = [.ref d, vi m] ∧ DrawAt H d l ∧ m ≤ 1000 ∧
  ∀ (t : Addr) (n : Nat) (p r : Nat → Nat) H', n ≤ m → H t = none → H' t = some (.tup (tupOf n p)) → Fo n p r → DrawAt H' d l → Sb d H H' → Q (.ref t) H'
def spNodes : Sp := fun vs H Q _ => ∃ (d l : Addr) (n m : Nat), vs = [.ref d, vi n, vi m] ∧ DrawAt H d l ∧ n ≤ 1000 ∧ m ≤ 500 ∧
  ∀ (a : Addr) (xs : List Nat) H', H a = none → H' a = some (.lst (natsV xs)) → (∀ x ∈ xs, x < n) → xs.length ≤ m → DrawAt H' d l → Sb d H H' → Q (.ref a) H'
theorem rep0 (n : Nat) : (List.replicate n [V.int 0]).flatten = tupOf n (fun _ => 0) := by
  refine List.ext_getElem? fun i => ?_
  have e : (List.replicate n [V.int 0]).flatten = List.replicate n (V.int 0) := by
    induction n with
    | zero => rfl
    | succ n ih => rw [List.replicate_succ, List.flatten_cons, ih]; rfl
  rw [e]
  by_cases h : i < n
  · rw [tupOf_at h, List.getElem?_replicate, if_pos h]; rfl
  · rw [List.getElem?_eq_none (by rw [List.length_replicate]; omega), List.getElem?_eq_none (by rw [tupOf_len]; omega)]
theorem natsV_at {l : List Nat} {i : Nat} (h : i < l.length) : (natsV l)[i]? = some (vi (l.getD i 0)) := by
  unfold natsV
  rw [List.getElem?_map, List.getElem?_eq_getElem h, List.getD_eq_getElem?_getD, List.getElem?_eq_getElem h]
  rfl
section
variable {P : Program} {w : World} {A : Around} {E : Value → Shared → Prop} {s : Shared}
/-- an empty set, new -/
abbrev newSet (w : World) : Obj := { cls := .type "set", dict := none, data := .set #[] 0 (.fresh 0 0 (!w.params.followText "set-order")) }
end
section
variable {P : Program} {w : World} {A : Around} {E : Value → Shared → Prop} {s : Shared}
theorem set_of_ints {l : Addr} {items : Array Value} (ns : List Int) {Q : Value → Shared → Prop} (hh : A.handled = none) (hl : s.heap.IsList l items) (hit : IntsAre items.toList ns) (hb : ns.length + 1 < scanBound)
    (fin : ∀ (h' : Heap) (tk c : Nat), SetR w h' s.heap.objs.size (fun j => decide (j ∈ ns)) c → c ≤ ns.length → (∀ b o, s.heap.get? b = some o → h'.get? b = some o) → Q (.ref s.heap.objs.size) { s with heap := h', toks := tk }) :
    wpAny (model P w) A (call (.type "set") [.ref l]) Q E s := by
  have size_eq : items.size = ns.length := by rw [← Array.length_toList]; exact IntsAre.length hit
  obtain ⟨c, tl, hmro⟩ := F.called_set.mro; have hmade := F.called_set.made; have hsub := F.called_set.sub
  refine wpAny_call (codeAny_of_tree ?_); show wpAny _ _ (callAny (.type "set") _) _ _ _
  refine wpAny_pure ⟨Code.quiet_builtin _ (by decide +kernel), codeAny_builtin F.entry_type_call ?_⟩; rw [Around.under_plain (weight_type_call_type "set" [.ref l] []) rfl]
  have h1 := F.called_set.notType; have h2 := F.called_set.canCreate; have hct := F.typeCall_set_1 (.ref l)
  (repeat (any_goals (first | assumption | wp_step)))
  refine codeAny_mono (code_set_led1 (.ref l) (E := E) (Q₁ := fun obj s1 => obj = .ref s.heap.objs.size ∧ s1 = { s with heap := s.heap.push (newSet w) }) ⟨rfl, rfl⟩) fun r s1 hr => ?_
  match r, hr with
  | .error e, hr => exact hr
  | .ok (.ret obj), hr =>
      obtain ⟨rfl, rfl⟩ := hr
      have at0 : (s.heap.push (newSet w)).get? s.heap.objs.size = some (newSet w) := Heap.get?_push_size _ rfl
      have ty0 : Shared.TypeIs { s with heap := s.heap.push (newSet w) } (.ref s.heap.objs.size) "set" := ⟨_, at0, rfl⟩
      have hli := F.called_set.init.lookup; have hbi := F.called_set.init.bind (.ref s.heap.objs.size)
      (repeat (any_goals (first | assumption | wp_step)))
      refine codeAny_mono (codeAny_call_builtin (R := wants (fun r s2 => r = .none ∧ ∃ h' tk c, s2 = { s with heap := h', toks := tk } ∧ SetR w h' s.heap.objs.size (fun j => decide (j ∈ ns)) c ∧ c ≤ ns.length ∧ (∀ b o, s.heap.get? b = some o → h'.get? b = some o)) E) F.called_set.init.plain F.entry_set_init (check_set_init_1 ty0 ?_)) fun r2 s2 hr2 => ?_
      · obtain ⟨⟨kl, dl, el, sl⟩, hol, hcl, nl, hdl⟩ := hl
        simp only at hcl hdl; subst hcl; subst hdl
        have at1 : (s.heap.push (newSet w)).get? l = some { cls := .type "list", dict := dl, data := .seq items nl, slots := sl } := Heap.get?_push_of_some _ hol
        have hsls := F.sub_list_set; have hslf := F.sub_list_frozenset; have hne : (Value.type "list" == Value.type "dict") = false := by decide
        have isl : (s.heap.push (newSet w)).IsList l items := ⟨_, at1, rfl, nl, rfl⟩
        unfold Builtin.«set.__init__» noKeywords Builtin.Frozenset.updateFrom; generalize hPI : pyIter = PI; wp_walk; subst hPI
        refine wpAny_pyIter_list isl (wpAny_bind (wpAny_runValue ?_))
        have lt0 : l < s.heap.objs.size := Heap.lt_size hol
        have hd3 : A.in1.in1.in1.handled = none := by simp [hh]
        have sz1 : (s.heap.push (newSet w)).objs.size = s.heap.objs.size + 1 := Heap.size_push ..
        have nel : l ≠ (s.heap.push (newSet w)).objs.size := by rw [sz1]; exact Nat.ne_of_lt (Nat.lt_succ_of_lt lt0)
        have out0 : s.heap.objs.size ∉ [(s.heap.push (newSet w)).objs.size, l] := by
          rw [sz1]; intro z
          rcases List.mem_cons.mp z with z | z
          · exact Nat.ne_of_lt (Nat.lt_succ_self _) z
          · exact Nat.ne_of_gt lt0 (List.mem_singleton.mp z)
        have val : ∀ (i : Nat) (v : Value), items[i]? = some v → ∃ k t, ns[i]? = some k ∧ v = .int k t := fun i v hv => by
          have hi : i < ns.length := by rw [← size_eq]; exact (Array.getElem?_eq_some_iff.mp hv).1
          obtain ⟨t, e⟩ := IntsAre.int_at hit i v (by rw [Array.getElem?_toList]; exact hv)
          refine ⟨ns[i], t, List.getElem?_eq_getElem hi, ?_⟩
          rw [e, List.getD_eq_getElem?_getD, List.getElem?_eq_getElem hi]; rfl
        refine set_update_ints ((Walks.list hd3 _ l nel items).toS) s.heap.objs.size out0 ns size_eq hb val (items.size - 0) 0 _ (by omega) (Nat.zero_le _) ⟨⟨_, Heap.get?_push_size _ rfl, rfl, rfl⟩, (isl.push _)⟩ ⟨0, Nat.le_refl 0, setR_new_at (Heap.get?_push_of_some _ at0)⟩ ?_
        rintro ⟨h', g2, d2, t2, o2⟩ c' hm hc' hS'
        obtain rfl : g2 = s.gens := hm.gens
        obtain rfl : d2 = s.drawn := hm.drawn
        obtain rfl : o2 = s.os := hm.os
        show wpAny _ _ _ _ _ _; refine wpAny_pure ?_; show wpAny _ _ (ret Value.none) _ _ _
        refine wpAny_pure ⟨rfl, h', t2, c', rfl, hS', by omega, fun b o e => ?_⟩
        have b0 : b < s.heap.objs.size := Heap.lt_size e
        refine hm.heap b o (fun z => ?_) (Heap.get?_push_of_some _ (Heap.get?_push_of_some _ e))
        rcases List.mem_cons.mp z with z | z
        · exact Nat.ne_of_lt b0 z
        · exact Nat.ne_of_lt (Nat.lt_succ_of_lt b0) ((List.mem_singleton.mp z).trans sz1)
      · match r2, hr2 with
        | .error e, hr2 => exact hr2
        | .ok (.ret r), hr2 =>
            obtain ⟨rfl, h', tk, c', rfl, hS', hc', hk'⟩ := hr2
            (repeat (any_goals (first | assumption | wp_step)))
            exact fin _ _ _ hS' hc' hk'
end
/-- set(xs), a list of ints -/
def rSetI (K : PySem.W.Frag) (w : World) : List V → Hp → VK → Prop := fun xs H Q => ∃ (l : Addr) (ns : List Int), xs = [V.ref l] ∧ SqL K H l (ns.map V.int) ∧ ns.length < 64 ∧
  ∀ (a : Addr) (c : Nat), H a = none → c ≤ ns.length → Q (.ref a) (upd H a (SetO w a (fun j => decide (j ∈ ns)) c))
theorem cr_setI {X : Cx} (hc : X.calm = true) : CallR X (.type "set") (rSetI X.K X.w) := by
  intro pins s σ H xs us Q I r h
  obtain ⟨l, ns, rfl, hl, hf, q⟩ := h
  rw [Vals.ref1 r]
  obtain ⟨its, rv, pl, hz⟩ := I.list hl
  refine set_of_ints (P := X.prog) (w := X.w) ns (I.ok.hd hc) pl.isList (ints_of_vals rv) (by unfold scanBound; omega) fun h' tk c R cl k => ?_
  exact ⟨.ref s.heap.objs.size, upd H s.heap.objs.size (SetO X.w s.heap.objs.size (fun j => decide (j ∈ ns)) c), I.laid (t' := tk) k (Nat.le_refl _) (setO_new R), rfl, q _ c (I.hok.fresh (Nat.le_refl _)) cl⟩
theorem dpAll_ints {K : PySem.W.Frag} {H : Hp} : ∀ l : List Int, DpAll K H (l.map V.int) (l.map PyData.int)
  | [] => .nil
  | x :: r => .cons (.int x) (dpAll_ints r)
theorem lay_ints : ∀ l : List Int, PyData.canLayAll0 (l.map PyData.int) = true
  | [] => by simp [PyData.canLayAll0]
  | x :: r => by simp [PyData.canLayAll0, PyData.canLay0, lay_ints r]
theorem depth_ints : ∀ l : List Int, PyData.depthAll (l.map PyData.int) ≤ 1
  | [] => by simp [PyData.depthAll]
  | x :: r => by
    have := depth_ints r
    simp [PyData.depthAll, PyData.depth]
    omega
theorem shaped_tup (l : List Int) : SeqAt.shaped (.tuple (l.map PyData.int)) = true := by
  unfold SeqAt.shaped
  have := depth_ints l
  simp [PyData.canLay0, lay_ints, PyData.depth]
  omega
def intsOf (n : Nat) (p : Nat → Nat) : List Int := (List.range n).map fun v => (p v : Int)
theorem tupOf_ints (n : Nat) (p : Nat → Nat) : tupOf n p = (intsOf n p).map V.int := by
  unfold tupOf intsOf
  rw [List.map_map]
  rfl
theorem eqv_tup (l : List Int) : PyData.eqv (.tuple (l.map PyData.int)) (.tuple (l.map PyData.int)) = true := SeqAt.eqv_refl _ (SeqAt.canLay_of_shaped (shaped_tup l))
theorem natsV_ints (l : List Nat) : natsV l = (l.map fun n : Nat => (n : Int)).map V.int := by
  unfold natsV
  rw [List.map_map]
  rfl
theorem sum_cast : ∀ l : List Nat, (l.map fun n : Nat => (n : Int)).sum = (l.sum : Nat)
  | [] => rfl
  | x :: r => by
    rw [List.map_cons, List.sum_cons, List.sum_cons, sum_cast r]
    omega
def spLaw (K : PySem.W.Frag) : Sp := fun vs H Q _ => ∃ (a : Addr) (ns : List Int), vs = [.ref a] ∧ SqL K H a (ns.map V.int) ∧ ns.length ≤ 63 ∧ ∀ H', Q (.bl true) H'
theorem DrawAt.net {H : Hp} {d l t : Addr} {xs : List V} (D : DrawAt H d l) (h : H t = some (.tup xs)) : t ≠ d := by
  obtain ⟨ns, i, j, k, e, _⟩ := D
  exact ne_of h e (by intro z; cases z)
theorem cut_last (l : List Nat) (y : Nat) : cutV (natsV (l ++ [y])) none (some (-1)) = natsV l := by
  unfold cutV
  have e1 : HT.sIx (natsV (l ++ [y])).length (natsV (l ++ [y])).length (some (-1)) = l.length := by
    rw [natsV_len, List.length_append, List.length_singleton]
    unfold HT.sIx
    simp
    omega
  rw [e1, HT.sIx_none]
  unfold natsV
  rw [List.map_append]
  simp
theorem flat_nats (l : List Nat) : (natsV l).all flatV = true := by
  unfold natsV
  rw [List.all_eq_true]
  intro v hv
  obtain ⟨n, _, rfl⟩ := List.mem_map.mp hv
  rfl
theorem inV_nats (l : List Nat) (v : Nat) : inV (vi v) (natsV l) = decide (v ∈ l) := by
  unfold inV natsV
  rw [List.any_map]
  refine Bool.eq_iff_iff.mpr ?_
  rw [List.any_eq_true, decide_eq_true_eq]
  constructor
  · rintro ⟨x, hx, e⟩
    have z : ((x : Int) == (v : Int)) = true := e
    have : x = v := by have := eq_of_beq z; omega
    rw [← this]; exact hx
  · intro h
    exact ⟨v, h, by show ((v : Int) == (v : Int)) = true; simp⟩
def markL (n : Nat) (p : Nat → Nat) (l : List Nat) : List Nat := l.flatMap fun x => ups p n x
theorem markL_mem {n : Nat} {p : Nat → Nat} {l : List Nat} {v : Nat} : v ∈ markL n p l ↔ markB n p l v = true := by
  unfold markL markB
  rw [List.mem_flatMap, List.any_eq_true]
  exact ⟨fun ⟨x, a, b⟩ => ⟨x, a, upB_iff.mpr b⟩, fun ⟨x, a, b⟩ => ⟨x, a, upB_iff.mp b⟩⟩
theorem markL_len (n : Nat) (p : Nat → Nat) : ∀ l : List Nat, (markL n p l).length ≤ l.length * n
  | [] => Nat.zero_le _
  | x :: r => by
    have h1 := markL_len n p r
    have h2 := ups_len0 p n x
    show (ups p n x ++ markL n p r).length ≤ (r.length + 1) * n
    rw [List.length_append, Nat.add_mul]
    omega
theorem ints_perm {l : List Nat} {ns : List Int} (h : ns.Perm (l.map fun n : Nat => (n : Int))) : ∃ ys : List Nat, ns.map V.int = natsV ys ∧ ys.Perm l := by
  obtain ⟨ys, e, p⟩ := perm_of_map h.symm l rfl
  exact ⟨ys, by rw [natsV_ints, e], p.symm⟩
theorem ints_of_mem : ∀ {ns : List Int}, (∀ k ∈ ns, ∃ m : Nat, k = (m : Int)) → ∃ ys : List Nat, ns = ys.map fun n : Nat => (n : Int)
  | [], _ => ⟨[], rfl⟩
  | k :: r, h => by
    obtain ⟨m, e⟩ := h k List.mem_cons_self
    obtain ⟨ys, e2⟩ := ints_of_mem (ns := r) fun j hj => h j (List.mem_cons_of_mem _ hj)
    exact ⟨m :: ys, by rw [e, e2]; rfl⟩
/-- a def of the text as the top has left it -/
def DefF (K : PySem.W.Frag) (x : Str) (st : Stmt) : Prop := ∃ (f : Addr) (oc : Value) (od an : Option Addr) (sl : Array (Option Value)) (kV dc pm cd ct : Value),
  PySem.W.nsIn K mainGlobals x = some (some (.ref f)) ∧ K.lookup f = some ⟨oc, od, .func (PySem.W.fnOf x x (defArgs st) (defBody st) (defScope st) .none kV dc pm an cd ct), sl⟩ ∧ PySem.W.codeIn K cd x = true ∧ PySem.W.keepIn K (.ref f) = true
theorem DefF.by {K : PySem.W.Frag} {x : Str} {st : Stmt} {f : Addr} {oc : Value} {od an : Option Addr} {sl : Array (Option Value)} {kV dc pm cd ct : Value} (a : PySem.W.nsIn K mainGlobals x = some (some (.ref f)))
    (l : K.lookup f = some ⟨oc, od, .func (PySem.W.fnOf x x (defArgs st) (defBody st) (defScope st) .none kV dc pm an cd ct), sl⟩) (c : PySem.W.codeIn K cd x = true) (k : PySem.W.keepIn K (.ref f) = true) : DefF K x st := ⟨f, oc, od, an, sl, kV, dc, pm, cd, ct, a, l, c, k⟩
theorem DefF.get {K : PySem.W.Frag} {h : Heap} {mg : Str → Option Value} {x : Str} {st : Stmt} (D : DefF K x st) (X : K.In h) (G : h.Ns mainGlobals mg) : ∃ f fd, Fun K x x st f fd ∧ mg x = some (.ref f) := by
  obtain ⟨f, oc, od, an, sl, kV, dc, pm, cd, ct, a, l, c, k⟩ := D
  exact ⟨f, _, fun_mk (st := st) l c k, PySem.W.mg_of X G a⟩
abbrev sameN : List Str := ["_law_found", "_law_due", "_law_one", "_law_other"]
/-- plain data of at most so many storeys -/
inductive Sm : Nat → PyData → Prop
  | non (n : Nat) : Sm n .none
  | bl (n : Nat) (b : Bool) : Sm n (.bool b)
  | int (n : Nat) (i : Int) : Sm n (.int i)
  | str (n : Nat) (x : Str) : Sm n (.str x)
  | lst {n : Nat} {ds : List PyData} (h : ds.length ≤ 6000) (k : ∀ d ∈ ds, Sm n d) : Sm (n + 1) (.list ds)
  | tup {n : Nat} {ds : List PyData} (h : ds.length ≤ 6000) (k : ∀ d ∈ ds, Sm n d) : Sm (n + 1) (.tuple ds)
def spSame (K : PySem.W.Frag) (n : Nat) : Sp := fun vs H Q _ => ∃ (v u : V) (d : PyData), vs = [v, u] ∧ Dp K H v d ∧ Dp K H u d ∧ Sm n d ∧ ∀ H', Same H H' → Q (.bl true) H'
structure TxS (mg : Str → Option Value) : Prop where
  isinstance : mg "isinstance" = none
  list : mg "list" = none
  tuple : mg "tuple" = none
  bool : mg "bool" = none
  int : mg "int" = none
  str : mg "str" = none
  len : mg "len" = none
  all : mg "all" = none
  zip : mg "zip" = none
section
variable {X : Cx}
theorem pe_ty {x : Str} {n : String} {pos : Pos} (hg : Gl X x) (hm : X.mg x = none) (hv : bootBuiltins x = some (.type n)) (h1 : x ≠ "__name__" := by decide) (h2 : (x == ("__debug__" : Str)) = false := by decide) : PE X (.Name x pos) (tC (.ty n)) := pe_bltn hg hm hv rfl h1 h2
end
theorem kit2 {K : PySem.W.Frag} {t a b : String} {r s : Bool} (h1 : kitB t a = some r) (h2 : kitB t b = some s) : PySem.W.kitAny K (.type t) [.type a, .type b] = some (r || s) :=
  kitAny_cons (kit_ty h1) (fun e => kitAny_cons (kit_ty h2) (fun e2 => by rw [e, e2]; rfl) (fun e2 => by rw [e2, Bool.or_true])) (fun e => by rw [e]; rfl)
theorem dpl_len {K : PySem.W.Frag} {H : Hp} : ∀ {xs : List V} {ds : List PyData}, DpAll K H xs ds → xs.length = ds.length
  | _, _, .nil => rfl
  | _, _, .cons _ r => by rw [List.length_cons, List.length_cons, dpl_len r]
theorem dpl_at {K : PySem.W.Frag} {H : Hp} : ∀ {xs : List V} {ds : List PyData}, DpAll K H xs ds → ∀ {i : Nat} {x : V}, xs[i]? = some x → ∃ d, ds[i]? = some d ∧ Dp K H x d
  | _, _, .cons h r, 0, x, e => ⟨_, rfl, (Option.some.inj e) ▸ h⟩
  | _, _, .cons h r, i + 1, x, e => dpl_at r (i := i) e
mutual
theorem dp_same {K : PySem.W.Frag} {H H' : Hp} (e : Same H H') : ∀ {v : V} {d : PyData}, Dp K H v d → Dp K H' v d
  | _, _, .non => .non
  | _, _, .bl b => .bl b
  | _, _, .int i => .int i
  | _, _, .str x => .str x
  | _, _, .lst s r => .lst (e.seq s) (dpl_same e r)
  | _, _, .tup s r => .tup (same_sqt e s) (dpl_same e r)
theorem dpl_same {K : PySem.W.Frag} {H H' : Hp} (e : Same H H') : ∀ {vs : List V} {ds : List PyData}, DpAll K H vs ds → DpAll K H' vs ds
  | _, _, .nil => .nil
  | _, _, .cons h r => .cons (dp_same e h) (dpl_same e r)
end
theorem tyL {K : PySem.W.Frag} {H : Hp} {a : Addr} {xs : List V} (h : SqL K H a xs) : TyX K H (.ref a) (.type "list") := by
  rcases h with (h | ⟨o, h⟩) | ⟨o, _, _, h, c, _⟩
  · exact .base (.lst h)
  · exact .base (.frz h)
  · exact .kList h c
theorem tyT {K : PySem.W.Frag} {H : Hp} {a : Addr} {xs : List V} (h : SqT K H a xs) : TyX K H (.ref a) (.type "tuple") := by
  rcases h with (h | ⟨o, h⟩) | ⟨o, _, _, h, c, _⟩
  · exact .base (.tup h)
  · exact .fTuple h
  · exact .kTuple h c
abbrev markedN : List Str := ["forest", "nodes", "marked", "node", "passed"]
abbrev afterN : List Str := ["forest", "nodes", "parents", "node"]
abbrev totalN : List Str := ["forest", "nodes", "deep", "lower", "node"]
/-- a def whose promise is known -/
structure Kn (P : Program) (w : World) (K : PySem.W.Frag) (mg : Str → Option Value) (base : Heap) (k : Nat) (x : Str) (st : Stmt) (ps : List Str) (sp : Sp) (f : Addr) (fd : FuncData) : Prop where
  F : Fun K x x st f fd
  G : FnOk P w K mg base CX0 k f fd ps sp
  b : Binds K fd ps []
  g : mg x = some (.ref f)
def spRootOf (K : PySem.W.Frag) : Sp := fun vs H Q _ => ∃ (a : Addr) (n : Nat) (p r : Nat → Nat) (x : Nat), vs = [.ref a, vi x] ∧ Sq K H a (tupOf n p) ∧ n ≤ 1000 ∧ Fo n p r ∧ x < n ∧ ∀ H', Same H H' → Q (vi (root p n x)) H'
def spDepthOf (K : PySem.W.Frag) : Sp := fun vs H Q _ => ∃ (a : Addr) (n : Nat) (p r : Nat → Nat) (x : Nat), vs = [.ref a, vi x] ∧ Sq K H a (tupOf n p) ∧ n ≤ 1000 ∧ Fo n p r ∧ x < n ∧ ∀ H', Same H H' → Q (vi (ups p n x).length) H'
def markS (n : Nat) (p : Nat → Nat) (l : List Nat) : List Nat := (List.range n).filter (markB n p l)
def spMarked (K : PySem.W.Frag) : Sp := fun vs H Q _ => ∃ (a b : Addr) (n : Nat) (p r : Nat → Nat) (xs : List Nat), vs = [.ref a, .ref b] ∧ Sq K H a (tupOf n p) ∧ SqL K H b (natsV xs) ∧ n ≤ 60 ∧ xs.length ≤ 1000 ∧ Fo n p r ∧ (∀ x ∈ xs, x < n) ∧
  ∀ (q : Addr) H', H q = none → H' q = some (.lst (natsV (markS n p xs))) → Same H H' → Q (.ref q) H'
def spAfter (K : PySem.W.Frag) : Sp := fun vs H Q _ => ∃ (a b : Addr) (n : Nat) (p r : Nat → Nat) (xs : List Nat), vs = [.ref a, .ref b] ∧ Sq K H a (tupOf n p) ∧ SqL K H b (natsV xs) ∧ n ≤ 60 ∧ xs.length ≤ 1000 ∧ Fo n p r ∧ (∀ x ∈ xs, x < n) ∧
  ∀ (q : Addr) H', H q = none → H' q = some (.tup (tupOf n (fndAll n xs p))) → Same H H' → Q (.ref q) H'
def spTotal (K : PySem.W.Frag) : Sp := fun vs H Q _ => ∃ (a b : Addr) (n : Nat) (p r : Nat → Nat) (xs : List Nat), vs = [.ref a, .ref b] ∧ Sq K H a (tupOf n p) ∧ SqL K H b (natsV xs) ∧ n ≤ 60 ∧ xs.length ≤ 1000 ∧ Fo n p r ∧ (∀ x ∈ xs, x < n) ∧
  ∀ H', Same H H' → Q (vi (costs n xs p).sum) H'
theorem rise_eq : ∀ {l m : List Int}, l.Pairwise (· < ·) → m.Pairwise (· < ·) → (∀ k, k ∈ l ↔ k ∈ m) → l = m
  | [], [], _, _, _ => rfl
  | [], b :: m, _, _, h => by have := (h b).mpr List.mem_cons_self; cases this
  | a :: l, [], _, _, h => by have := (h a).mp List.mem_cons_self; cases this
  | a :: l, b :: m, hl, hm, h => by
    obtain ⟨h1, h2⟩ := List.pairwise_cons.mp hl
    obtain ⟨g1, g2⟩ := List.pairwise_cons.mp hm
    have e : a = b := by
      rcases List.mem_cons.mp ((h a).mp List.mem_cons_self) with z | z
      · exact z
      · rcases List.mem_cons.mp ((h b).mpr List.mem_cons_self) with y | y
        · exact y.symm
        · have := g1 a z
          have := h1 b y
          omega
    subst e
    rw [rise_eq h2 g2 fun k => ?_]
    constructor
    · intro z
      rcases List.mem_cons.mp ((h k).mp (List.mem_cons_of_mem _ z)) with y | y
      · have := h1 k z; omega
      · exact y
    · intro z
      rcases List.mem_cons.mp ((h k).mpr (List.mem_cons_of_mem _ z)) with y | y
      · have := g1 k z; omega
      · exact y
theorem rise_filter (n : Nat) (f : Nat → Bool) : (((List.range n).filter f).map fun v : Nat => (v : Int)).Pairwise (· < ·) := by
  rw [List.pairwise_map]
  refine List.Pairwise.imp (fun {a b} h => by omega) ((List.pairwise_lt_range (n := n)).filter f)
theorem count_up {n k : Nat} {f g : Nat → Bool} (hk : k < n) (h1 : f k = false) (h2 : ∀ v, g v = (f v || decide (v = k))) : (List.range n).countP g = (List.range n).countP f + 1 := by
  have e := countP_split g f (List.range n)
  have e1 : (List.range n).countP (fun v => g v && f v) = (List.range n).countP f := List.countP_congr fun v _ => by
    rw [h2 v]; cases f v <;> simp
  have e2 : (List.range n).countP (fun v => g v && !f v) = 1 := by
    have z : ∀ v, (g v && !f v) = (v == k) := fun v => by
      rw [h2 v]
      by_cases hv : v = k
      · subst hv; rw [h1]; simp
      · have : (v == k) = false := beq_eq_false_iff_ne.mpr hv
        rw [this]; simp [hv]
    rw [List.countP_congr (q := fun v => v == k) fun v _ => by rw [z v]]
    have c := (List.nodup_range (n := n)).count (a := k)
    rw [if_pos (List.mem_range.mpr hk)] at c
    exact c
  omega
/-- the marked ones hung on their roots, one by one -/
def hang (n : Nat) (p : Nat → Nat) : List Nat → (Nat → Nat) → Nat → Nat
  | [], q => q
  | v :: l, q => hang n p l (fun u => if u = v then root p n v else q u)
theorem hang_snoc (n : Nat) (p : Nat → Nat) (v : Nat) : ∀ (l : List Nat) (q : Nat → Nat), hang n p (l ++ [v]) q = fun u => if u = v then root p n v else hang n p l q u
  | [], _ => rfl
  | a :: l, q => hang_snoc n p v l _
theorem hang_eq (n : Nat) (p : Nat → Nat) : ∀ (l : List Nat) (q : Nat → Nat) (u : Nat), hang n p l q u = if u ∈ l then root p n u else q u
  | [], q, u => by rw [if_neg (List.not_mem_nil)]; rfl
  | a :: l, q, u => by
    show hang n p l _ u = _
    rw [hang_eq n p l]
    by_cases h1 : u ∈ l
    · rw [if_pos h1, if_pos (List.mem_cons_of_mem _ h1)]
    · rw [if_neg h1]
      by_cases h2 : u = a
      · subst h2; rw [if_pos rfl, if_pos List.mem_cons_self]
      · rw [if_neg h2, if_neg (fun z => (List.mem_cons.mp z).elim h2 h1)]
theorem markS_mem {n : Nat} {p : Nat → Nat} {l : List Nat} {v : Nat} : v ∈ markS n p l ↔ v < n ∧ markB n p l v = true := by
  unfold markS
  rw [List.mem_filter, List.mem_range]
theorem markS_len (n : Nat) (p : Nat → Nat) (l : List Nat) : (markS n p l).length ≤ n := by
  unfold markS
  exact Nat.le_trans (List.length_filter_le _ _) (by rw [List.length_range]; exact Nat.le_refl _)
theorem mark_nonroot {n : Nat} {p r : Nat → Nat} (F : Fo n p r) {l : List Nat} (h : ∀ x ∈ l, x < n) {v : Nat} (hm : markB n p l v = true) : v < n ∧ p v ≠ v := by
  unfold markB at hm
  obtain ⟨x, hx, e⟩ := List.any_eq_true.mp hm
  have z := ups_lt F x (h x hx) v (upB_iff.mp e)
  exact ⟨z.1, z.2.1⟩
theorem deep_iff {n : Nat} {p r : Nat → Nat} (F : Fo n p r) {v : Nat} (hv : v < n) (h : p v ≠ v) : deep p v = decide (2 ≤ (ups p n v).length) := by
  unfold deep
  rw [ups_n F hv h]
  refine decide_eq_decide.mpr ?_
  rw [List.length_cons]
  constructor
  · intro z
    rw [ups_n F (F.lt v hv) z, List.length_cons]
    omega
  · intro z e
    rw [ups_of e] at z
    simp at z
structure Pair (K : PySem.W.Frag) (H : Hp) (a b : Addr) (n : Nat) (p q r r' : Nat → Nat) : Prop where
  sa : SqT K H a (tupOf n p)
  sb : SqT K H b (tupOf n q)
  le : n ≤ 60
  fa : Fo n p r
  fb : Fo n q r'
  ro : ∀ v, v < n → (p v = v ↔ q v = v)
theorem Pair.same {K : PySem.W.Frag} {H H' : Hp} {a b : Addr} {n : Nat} {p q r r' : Nat → Nat} (h : Pair K H a b n p q r r') (e : Same H H') : Pair K H' a b n p q r r' := ⟨same_sqt e h.sa, same_sqt e h.sb, h.le, h.fa, h.fb, h.ro⟩
def spNeeded (K : PySem.W.Frag) : Sp := fun vs H Q _ => ∃ (a b : Addr) (n : Nat) (p q r r' : Nat → Nat), vs = [.ref a, .ref b] ∧ Pair K H a b n p q r r' ∧ Way n p q ∧
  ∀ (l : Addr) H', H l = none → H' l = some (.lst (natsV (needS n p q))) → Same H H' → Q (.ref l) H'
def spBar (K : PySem.W.Frag) : Sp := fun vs H Q _ => ∃ (a b : Addr) (n : Nat) (p q r r' : Nat → Nat), vs = [.ref a, .ref b] ∧ Pair K H a b n p q r r' ∧
  (Way n p q → ∀ H', Same H H' → Q .non H') ∧ (¬ Way n p q → ∀ (t : Addr) (x y : Nat) H', H' t = some (.tup [vi x, vi y]) → Same H H' → Q (.ref t) H')
def spWayCost (K : PySem.W.Frag) : Sp := fun vs H Q _ => ∃ (a b : Addr) (n : Nat) (p q r r' : Nat → Nat), vs = [.ref a, .ref b] ∧ Pair K H a b n p q r r' ∧ Way n p q ∧
  ∀ H', Same H H' → Q (vi (costs n (needS n p q) p).sum) H'
theorem behind_roots {n : Nat} {p r : Nat → Nat} (F : Fo n p r) {l : List Nat} (h : ∀ x ∈ l, x < n) (v : Nat) (hv : v < n) : p v = v ↔ fndAll n l p v = v := by
  constructor
  · exact behind_root F h v hv
  · intro e
    rw [behind_eq F l h v hv] at e
    by_cases m : markB n p l v = true
    · rw [if_pos m] at e
      refine Classical.byContradiction fun z => root_ne F hv z e
    · rw [if_neg m] at e; exact e
theorem eqv_ints : ∀ l m : List Int, PyData.eqvAll (l.map PyData.int) (m.map PyData.int) = decide (l = m)
  | [], [] => by simp [PyData.eqvAll]
  | [], b :: m => by simp [PyData.eqvAll]
  | a :: l, [] => by simp [PyData.eqvAll]
  | a :: l, b :: m => by
    rw [List.map_cons, List.map_cons, PyData.eqvAll, eqv_ints l m]
    by_cases e : a = b
    · subst e
      by_cases f : l = m
      · subst f; simp [PyData.eqv]
      · simp [PyData.eqv, f]
    · simp [PyData.eqv, e]
theorem eqv_tups (l m : List Int) : PyData.eqv (.tuple (l.map PyData.int)) (.tuple (m.map PyData.int)) = decide (l = m) := by
  rw [← eqv_ints l m]
  simp [PyData.eqv]
theorem eqv_lsts (l m : List Int) : PyData.eqv (.list (l.map PyData.int)) (.list (m.map PyData.int)) = decide (l = m) := by
  rw [← eqv_ints l m]
  simp [PyData.eqv]
theorem shaped_lst (l : List Int) : SeqAt.shaped (.list (l.map PyData.int)) = true := by
  unfold SeqAt.shaped
  have := depth_ints l
  simp [PyData.canLay0, lay_ints, PyData.depth]
  omega
theorem intsOf_inj {n : Nat} {p q : Nat → Nat} (h : intsOf n p = intsOf n q) {v : Nat} (hv : v < n) : p v = q v := by
  have e := congrArg (fun l : List Int => l[v]?) h
  unfold intsOf at e
  simp only [List.getElem?_map, List.getElem?_range hv, Option.map_some] at e
  have := Option.some.inj e
  omega
theorem natsI (l : List Nat) : natsV l = (l.map fun n : Nat => (n : Int)).map V.int := natsV_ints l
theorem castI {l m : List Nat} (h : (l.map fun n : Nat => (n : Int)) = m.map fun n : Nat => (n : Int)) : l = m := by
  refine List.map_inj_right (f := fun n : Nat => (n : Int)) (fun a b e => by omega) |>.mp h
abbrev Kx (P : Program) (w : World) (K : PySem.W.Frag) (mg : Str → Option Value) (base : Heap) (k : Nat) (x : Str) (st : Stmt) (ps : List Str) (sp : Sp) : Prop := ∃ f fd, Kn P w K mg base k x st ps sp f fd
section
variable {X : Cx} {CX : CXT} {k : Nat} {f : Addr} {fd : FuncData} {ps ks : List Str} {sp : Sp} {g : List Value → List Value → List Value} {gV : List V → List V → List V} {E : XK} {x : Str} {p pos : Pos} {kws : List Keyword} {tk : TA}
theorem pe_kws (F : FnOk X.prog X.w X.K X.mg X.base CX k f fd ps sp) (hr : Room k X.A) (hg : Gl X x) (hm : X.mg x = some (.ref f)) (hk : PySem.W.keepIn X.K (.ref f) = true) (hb : KBinds X.K fd ps ks g gV) (hx : Passes CX X E) (hkw : PK X kws tk)
    (hall : (backToKw pos (keywordEach kws X.env)).all (·.1.isSome) = true := by rfl) (hks : (backToKw pos (keywordEach kws X.env)).filterMap (·.1) = ks := by rfl) (hdb : (x == ("__debug__" : Str)) = false := by decide)
    (hpl : ((backTo pos (starEach [] X.env)).any (·.1) || (backToKw pos (keywordEach kws X.env)).any (·.1.isNone)) = false := by rfl) : PE X (.Call (.Name x p) [] kws pos) (tCallK sp gV E tNil tk) := by
  refine ⟨fun pins s σ H Q I h => wpAny_Call_Name_kw (ld_glob I hg hm (PySem.W.callWith_KW0 (h₀ := X.base) I.ok.mod.kin hk hall ?_ hpl) hdb)⟩
  refine thn (hkw.run pos pins s σ H _ I h) fun ws s2 ⟨zs, H2, I2, rz, q2⟩ => ⟨I2.kIn, ?_⟩
  rw [hks]; exact run_fnk (us := []) (vs := []) F hr hb hx I2 .nil rz q2
end
/-- two parameters, given by keywords in the other order -/
def sw2 {α : Type} : List α → List α → List α
  | [], [b, a] => [a, b]
  | _, _ => []
theorem sw2_rel {vs : List V} {us : List Value} {zs : List V} {ws : List Value} (r : Vals vs us) (s : Vals zs ws) : Vals (sw2 vs zs) (sw2 us ws) := by
  cases r with
  | cons _ _ => exact .nil
  | nil =>
    cases s with
    | nil => exact .nil
    | cons h1 t1 =>
      cases t1 with
      | nil => exact .nil
      | cons h2 t2 =>
        cases t2 with
        | nil => exact .cons h2 (.cons h1 .nil)
        | cons _ _ => exact .nil
theorem Fun.sw {K : PySem.W.Frag} {x qual : Str} {st : Stmt} {f : Addr} {fd : FuncData} {a b : Str} (F : Fun K x qual st f fd)
    (h : ∀ (kV doc pm : Value) (an : Option Addr) (cdv ct : Value) (u v : Value), bindArgs (PySem.W.fnOf x qual (defArgs st) (defBody st) (defScope st) .none kV doc pm an cdv ct) ⟨[], [(b, u), (a, v)]⟩ = pure [(a, v), (b, u)]) : KBinds K fd [a, b] [b, a] sw2 sw2 := by
  obtain ⟨oc, od, kV, doc, pm, an, cdv, ct, osl, rfl, lk, hcd⟩ := F.ex
  refine ⟨fun s us ws _ hl => ?_, sw2_rel⟩
  match us, ws, hl with
  | [], [u, v], _ => exact .of_eq (h kV doc pm an cdv ct u v)
/-- x *= e -/
def ipW : TIp := fun x y H Q => ∃ i j, x = .int i ∧ y = .int j ∧ CMulW i j ∧ Q (.int (i * j)) H
theorem ip_mulW {X : Cx} : PIp X .Mult ipW := by
  intro pins s σ H x y v u Q I r1 r2 h
  obtain ⟨i, j, e1, e2, hm, q⟩ := h
  subst e1; subst e2
  obtain ⟨t, rfl⟩ := r1
  obtain ⟨t', rfl⟩ := r2
  exact imul_int ⟨.int _, H, I.tok _, ⟨_, rfl⟩, q⟩ hm.ok
def spFalling : Sp := fun vs H Q _ => ∃ s c : Int, vs = [.int s, .int c] ∧ s ≤ 200 ∧ c ≤ 200 ∧ ∀ H', Same H H' → Q (.int (fall s c)) H'
def spBinomial : Sp := fun vs H Q _ => ∃ s c : Int, vs = [.int s, .int c] ∧ s ≤ 200 ∧ c ≤ 200 ∧ ∀ H', Same H H' → Q (.int (binom s c)) H'
def spPower : Sp := fun vs H Q _ => ∃ (b : Int) (e : Nat), vs = [.int b, .int e] ∧ -1000 ≤ b ∧ b ≤ 1000 ∧ e ≤ 200 ∧ ∀ H', Same H H' → Q (.int (b ^ e)) H'
abbrev powerN : List Str := ["base", "exponent", "product", "turn"]
abbrev fallingN : List Str := ["size", "chosen", "product", "taken"]
abbrev binomialN : List Str := ["size", "chosen"]
theorem fallN_lt {s : Int} (h : s ≤ 200) : ∀ k, 0 ≤ fallN s k ∧ (fallN s k).natAbs < 2 ^ (8 * k + 1)
  | 0 => ⟨by show (0 : Int) ≤ 1; decide, by show (1 : Int).natAbs < 2 ^ 1; decide⟩
  | k + 1 => by
    obtain ⟨h0, h1⟩ := fallN_lt h k
    have hf : 0 ≤ (if s - (k : Int) > 0 then s - (k : Int) else 0) ∧ (if s - (k : Int) > 0 then s - (k : Int) else 0) ≤ 200 := by split <;> omega
    refine ⟨Int.mul_nonneg h0 hf.1, ?_⟩
    show (fallN s k * (if s - (k : Int) > 0 then s - (k : Int) else 0)).natAbs < 2 ^ (8 * (k + 1) + 1)
    have := wide_lt (b := 8) h1 (show (if s - (k : Int) > 0 then s - (k : Int) else 0).natAbs < 2 ^ 8 by omega)
    rw [show 8 * (k + 1) + 1 = 8 * k + 1 + 8 by omega]
    exact this
theorem fallN_zero {s : Int} : ∀ {k : Nat}, (s < (k : Int)) → 0 < k → fallN s k = 0
  | 0, _, h => by omega
  | k + 1, h, _ => by
    show fallN s k * _ = 0
    by_cases e : s - (k : Int) > 0
    · rw [fallN_zero (by omega) (by omega), Int.zero_mul]
    · rw [if_neg e, Int.mul_zero]
theorem fallN_self_pos : ∀ (s k : Nat), k ≤ s → 0 < fallN (s : Int) k
  | s, 0, _ => by show (0 : Int) < 1; decide
  | s, k + 1, h => by
    show 0 < fallN (s : Int) k * _
    rw [if_pos (by omega)]
    exact Int.mul_pos (fallN_self_pos s k (by omega)) (by omega)
theorem pow_small {b : Int} (h1 : -1000 ≤ b) (h2 : b ≤ 1000) : ∀ e : Nat, (b ^ e).natAbs < 2 ^ (10 * e + 1)
  | 0 => by rw [Int.pow_zero]; decide
  | e + 1 => by
    have := wide_lt (b := 10) (pow_small h1 h2 e) (show b.natAbs < 2 ^ 10 by omega)
    rw [Int.pow_succ, show 10 * (e + 1) + 1 = 10 * e + 1 + 10 by omega]
    exact this
abbrev sTake : Stmt := topS 25
abbrev sStart : Stmt := topS 24
abbrev sOf : Stmt := topS 26
abbrev sPath : Stmt := topS 31
abbrev sSame : Stmt := topS 27
abbrev sPower : Stmt := topS 17
theorem scTake : FnScope ["_law_draw", "_law_many", "_law_cell", "_law_digit", "_law_square"] ["_law_draw", "_law_many"] (defScope sTake) := ⟨rfl, rfl, rfl, by decide +kernel, rfl, by decide +kernel, by decide +kernel⟩
theorem scStart : FnScope ["_law_script"] ["_law_script"] (defScope sStart) := ⟨rfl, rfl, rfl, by decide +kernel, rfl, by decide +kernel, by decide +kernel⟩
theorem scOf : FnScope ["_law_draw", "_law_some"] ["_law_draw", "_law_some"] (defScope sOf) := ⟨rfl, rfl, rfl, by decide +kernel, rfl, by decide +kernel, by decide +kernel⟩
theorem scPath : FnScope ["_law_forest", "_law_node", "_law_found", "_law_step"] ["_law_forest", "_law_node"] (defScope sPath) := ⟨rfl, rfl, rfl, by decide +kernel, rfl, by decide +kernel, by decide +kernel⟩
theorem scSame : FnScope sameN ["_law_found", "_law_due"] (defScope sSame) := ⟨rfl, rfl, rfl, by decide +kernel, rfl, by decide +kernel, by decide +kernel⟩
theorem scPower : FnScope powerN ["base", "exponent"] (defScope sPower) := ⟨rfl, rfl, rfl, by decide +kernel, rfl, by decide +kernel, by decide +kernel⟩
section
variable {P : Program} {w : World} {K : PySem.W.Frag} {mg : Str → Option Value} {base : Heap}
theorem ok_take {f : Addr} {fd : FuncData} {k : Nat} (F : Fun K "_law_take" "_law_take" sTake f fd) (ml : mg "len" = none) : FnOk P w K mg base CX0 (k + 1) f fd ["_law_draw", "_law_many"] spTake := by
  refine F.ok scTake (fun vs H Q E h => ?_) (fun cdv A outer s H vs Q E hr h => ?_)
  · obtain ⟨d, l, m, rfl, _⟩ := h
    rfl
  · obtain ⟨d, l, m, rfl, hD, hm1, hm2, q⟩ := h
    have c61 : (0 : Int) < 2305843009213693951 := by decide
    refine ⟨_, C8.pss_cut (ps_if (PW.pt (pw_and (pt_cmpR op_lt (pe_ix ix_list (pv 0) pe_int (fun _ _ => rfl)) (pv 1) (nomark _))
        (pw_and1 (pt_cmpR op_lt (pe_ix ix_list (pv 0) pe_int (fun _ _ => rfl)) (pe_callB call_len_seq (by rfl) ml PySem.boot_len (pa_cons (pe_ix ix_list (pv 0) pe_int (fun _ _ => rfl)) pa_nil)) (nomark _)))))
        (pss_cons (ps_set (i := 2) scTake.nd rfl (.inl rfl) (pe_ix ix_list (pe_ix ix_list (pv 0) pe_int (fun _ _ => rfl)) (pe_ix ix_list (pv 0) pe_int (fun _ _ => rfl)) (fun _ _ => rfl)))
        (pss_cons (ps_asg (pe_op op_add (pe_ix ix_list (pv 0) pe_int (fun _ _ => rfl)) pe_int) (pg_sub (pv 0) pe_int set_list))
        (pss_cons (ps_asg pe_int (pg_sub (pv 0) pe_int set_list))
        (C8.pss_cut (ps_if (pt_cmpR op_ge (pv 2) (pe_op op_pow pe_int pe_int) (nomark _)) (pss_one (ps_asg (pv 2) (pg_sub (pv 0) pe_int set_list))) pss_nil)
        (pss_one (ps_asg (pe_op op_mod (pe_op op_add (pe_op op_add (pe_op op_mul (pe_ix ix_list (pv 0) pe_int (fun _ _ => rfl)) pe_int) (pe_op op_mul (pe_op op_mod (pv 2) pe_int) pe_int)) (pe_ix ix_list (pv 0) pe_int (fun _ _ => rfl))) pe_int) (pg_sub (pv 0) pe_int set_list))))))) pss_nil)
      (pss_cons (ps_if (pt_cmpR op_ge (pe_ix ix_list (pv 0) pe_int (fun _ _ => rfl)) (pv 1) (nomark _))
        (pss_cons (ps_set (i := 3) scTake.nd rfl (.inl rfl) (pe_op op_mod (pe_ix ix_list (pv 0) pe_int (fun _ _ => rfl)) (pv 1)))
        (pss_cons (ps_asg (pe_op op_fdivW (pe_ix ix_list (pv 0) pe_int (fun _ _ => rfl)) (pv 1)) (pg_sub (pv 0) pe_int set_list))
        (pss_one (ps_ret (pv 3))))) pss_nil)
      (pss_cons (ps_set (i := 4) scTake.nd rfl (.inl rfl) (pe_op op_mod (pe_op op_mul (pe_ix ix_list (pv 0) pe_int (fun _ _ => rfl)) (pe_ix ix_list (pv 0) pe_int (fun _ _ => rfl))) pe_int))
      (pss_cons (ps_asg (pe_op op_mod (pe_op op_add (pe_op op_add (pe_op op_mul (pv 4) pe_int) (pe_op op_mul (pe_ix ix_list (pv 0) pe_int (fun _ _ => rfl)) pe_int)) pe_int) pe_int) (pg_sub (pv 0) pe_int set_list))
      (pss_one (ps_ret (pe_op op_mod (pe_op op_fdiv (pe_ix ix_list (pv 0) pe_int (fun _ _ => rfl)) pe_int) (pv 1))))))), ?_⟩
    refine ⟨fun σ H' => (∃ c, σ = [some (.ref d), some (.int m), c, none, none]) ∧ DrawAt H' d l ∧ Sb d H H', ?_, ?_⟩
    · obtain ⟨ns, i, j, c, h1, h2, h3, h4, h5⟩ := hD
      have ne := draw_ne h1 h2
      have x1 : atI [V.ref l, V.int i, V.int j, V.int c] 0 = some (.ref l) := rfl
      have x2 : atI [V.ref l, V.int i, V.int j, V.int c] 1 = some (.int i) := rfl
      have x3 : atI [V.ref l, V.int i, V.int j, V.int c] 2 = some (.int j) := rfl
      have x4 : atI [V.ref l, V.int i, V.int j, V.int c] 3 = some (.int c) := rfl
      refine ⟨_, rfl, d, _, _, _, rfl, rfl, SqL.of h1, x3, _, rfl, _, _, rfl, rfl, _, rfl, ite2 (fun e1 => ?_) (fun e1 => ?_)⟩
      · refine ⟨_, rfl, d, _, _, _, rfl, rfl, SqL.of h1, x2, _, rfl, d, _, _, _, rfl, rfl, SqL.of h1, x1, l, _, rfl, .inl (SqL.of h2), _, _, rfl, rfl, _, rfl, ite2 (fun e2 => ?_) (fun e2 => ?_)⟩
        · have hi : i < ((ns.map V.int).length : Int) := of_decide_eq_true e2
          rw [List.length_map] at hi
          obtain ⟨u, rfl⟩ : ∃ u : Nat, i = u := ⟨i.toNat, by omega⟩
          have hu : u < ns.length := by omega
          have gu : (ns.map V.int)[u]? = some (.int ns[u]) := by rw [List.getElem?_map, List.getElem?_eq_getElem hu]; rfl
          refine ⟨_, rfl, d, _, _, _, rfl, rfl, SqL.of h1, x1, _, rfl, d, _, _, _, rfl, rfl, SqL.of h1, x2, l, _, _, _, rfl, rfl, SqL.of h2, atI_nat gu, ?_⟩
          refine ⟨_, rfl, d, _, _, _, rfl, rfl, SqL.of h1, x2, _, _, rfl, rfl, _, rfl, d, _, _, 1, rfl, rfl, h1, rfl, ?_⟩
          refine ⟨_, rfl, d, _, _, 2, rfl, rfl, upd_same, rfl, ?_⟩
          refine ⟨fun σ H' => σ = [some (.ref d), some (.int m), some (.int ns[u]), none, none] ∧ (∃ jj : Int, H' d = some (.lst [.ref l, .int ((u : Int) + 1), .int jj, .int c])) ∧ H' l = some (.lst (ns.map V.int)) ∧ Sb d H H', ?_, ?_⟩
          · refine ⟨_, rfl, _, _, rfl, rfl, ⟨by decide, by decide, by decide⟩, _, _, rfl, rfl, _, rfl, ite2 (fun e3 => ?_) (fun e3 => ?_)⟩
            · refine ⟨_, rfl, _, rfl, d, _, _, 2, rfl, rfl, upd_same, rfl, rfl, ⟨ns[u], upd_same⟩, ?_, ?_⟩
              · rw [upd_ne ne, upd_ne ne, upd_ne ne]; exact h2
              · exact (Sb.put.trans Sb.put).trans Sb.put
            · refine ⟨rfl, ⟨0, upd_same⟩, ?_, ?_⟩
              · rw [upd_ne ne, upd_ne ne]; exact h2
              · exact Sb.put.trans Sb.put
          · rintro σ H2 ⟨rfl, ⟨jj, g1⟩, g2, g3⟩
            have y2 : atI [V.ref l, V.int ((u : Int) + 1), V.int jj, V.int c] 1 = some (.int ((u : Int) + 1)) := rfl
            have y4 : atI [V.ref l, V.int ((u : Int) + 1), V.int jj, V.int c] 3 = some (.int c) := rfl
            refine ⟨_, rfl, d, _, _, _, rfl, rfl, SqL.of g1, y4, _, _, rfl, rfl, .inl ⟨by omega, by omega⟩, _, rfl, _, _, rfl, rfl, c61, _, _, rfl, rfl, .inr ⟨by decide, by decide⟩, _, _, rfl, rfl, _, rfl, d, _, _, _, rfl, rfl, SqL.of g1, y2, _, _, rfl, rfl, _, _, rfl, rfl, c61, _, rfl, d, _, _, 3, rfl, rfl, g1, rfl, ⟨_, rfl⟩, ?_, g3.trans Sb.put⟩
            exact ⟨ns, _, jj, _, upd_same, by rw [upd_ne ne]; exact g2, by omega, Int.emod_nonneg _ (by omega), Int.emod_lt_of_pos _ c61⟩
        · exact ⟨⟨_, rfl⟩, ⟨ns, i, j, c, h1, h2, h3, h4, h5⟩, Sb.refl⟩
      · exact ⟨⟨_, rfl⟩, ⟨ns, i, j, c, h1, h2, h3, h4, h5⟩, Sb.refl⟩
    · rintro σ H1 ⟨⟨c0, rfl⟩, ⟨ns, i, j, c, h1, h2, h3, h4, h5⟩, sb⟩
      have ne := draw_ne h1 h2
      have x3 : atI [V.ref l, V.int i, V.int j, V.int c] 2 = some (.int j) := rfl
      have x4 : atI [V.ref l, V.int i, V.int j, V.int c] 3 = some (.int c) := rfl
      refine ⟨_, rfl, d, _, _, _, rfl, rfl, SqL.of h1, x3, _, rfl, _, _, rfl, rfl, _, rfl, ite2 (fun e1 => ?_) (fun e1 => ?_)⟩
      · have hj : m ≤ j := of_decide_eq_true e1
        refine ⟨_, rfl, d, _, _, _, rfl, rfl, SqL.of h1, x3, _, rfl, _, _, rfl, rfl, (by show (0:Int) < m; omega), ?_⟩
        refine ⟨_, rfl, d, _, _, _, rfl, rfl, SqL.of h1, x3, _, rfl, _, _, rfl, rfl, wide_div (b := 1000) (by omega) hm2 (by decide) (by decide), _, rfl, d, _, _, 2, rfl, rfl, h1, rfl, ?_⟩
        have hb : 0 ≤ j % m := Int.emod_nonneg _ (by omega)
        have hb2 : j % m < m := Int.emod_lt_of_pos _ (by omega)
        obtain ⟨r, er⟩ : ∃ r : Nat, j % m = r := ⟨(j % m).toNat, by omega⟩
        refine ⟨_, rfl, ?_⟩
        show Q (.int (j % m)) _
        rw [er]
        refine q r _ (by omega) ⟨ns, i, j / m, c, upd_same, by rw [upd_ne ne]; exact h2, h3, h4, h5⟩ (sb.trans Sb.put)
      · refine ⟨_, rfl, d, _, _, _, rfl, rfl, SqL.of h1, x4, _, rfl, d, _, _, _, rfl, rfl, SqL.of h1, x4, _, _, rfl, rfl, .inl ⟨by omega, by omega⟩, _, _, rfl, rfl, c61, ?_⟩
        have s0 : 0 ≤ c * c % 2305843009213693951 := Int.emod_nonneg _ (by omega)
        have s1 : c * c % 2305843009213693951 < 2305843009213693951 := Int.emod_lt_of_pos _ c61
        generalize hsq : c * c % 2305843009213693951 = sq at s0 s1
        refine ⟨.int (c * c % 2305843009213693951), rfl, _, _, rfl, rfl, .inl ⟨by rw [hsq]; omega, by rw [hsq]; omega⟩, _, rfl, d, _, _, _, rfl, rfl, SqL.of h1, x4, _, _, rfl, rfl, .inl ⟨by omega, by omega⟩, _, _, rfl, rfl, _, _, rfl, rfl, _, _, rfl, rfl, c61, _, rfl, d, _, _, 3, rfl, rfl, h1, rfl, ?_⟩
        have t0 : 0 ≤ (c * c % 2305843009213693951 * 48271 + c * 16807 + 12345) % 2305843009213693951 := Int.emod_nonneg _ (by omega)
        have t1 : (c * c % 2305843009213693951 * 48271 + c * 16807 + 12345) % 2305843009213693951 < 2305843009213693951 := Int.emod_lt_of_pos _ c61
        refine ⟨_, rfl, d, _, _, _, rfl, rfl, SqL.of upd_same, rfl, _, _, rfl, rfl, ⟨by decide, by decide⟩, _, rfl, _, _, rfl, rfl, (by show (0:Int) < m; omega), ?_⟩
        generalize hz : (c * c % 2305843009213693951 * 48271 + c * 16807 + 12345) % 2305843009213693951 = z at t0 t1
        have b0 : 0 ≤ (z / 1021) % m := Int.emod_nonneg _ (by omega)
        have b1 : (z / 1021) % m < m := Int.emod_lt_of_pos _ (by omega)
        obtain ⟨r, er⟩ : ∃ r : Nat, (z / 1021) % m = r := ⟨((z / 1021) % m).toNat, by omega⟩
        show Q (.int (z / 1021 % m)) _
        rw [er]
        refine q r _ (by omega) ⟨ns, i, j, z, ?_, by rw [upd_ne ne]; exact h2, h3, t0, t1⟩ (sb.trans Sb.put)
        rw [upd_same, ← hz]
        rfl
end
section
variable {P : Program} {w : World} {K : PySem.W.Frag} {mg : Str → Option Value} {base : Heap}
theorem ok_start {f : Addr} {fd : FuncData} {k : Nat} (F : Fun K "_law_start" "_law_start" sStart f fd) (T : Tx mg) : FnOk P w K mg base CX0 (k + 1) f fd ["_law_script"] (spStart K) := by
  refine F.ok scStart (fun vs H Q E h => ?_) (fun cdv A outer s H vs Q E hr h => ?_)
  · obtain ⟨a, ns, rfl, _⟩ := h
    rfl
  · obtain ⟨a, ns, rfl, hS, hlen, q⟩ := h
    refine ⟨_, pss_one (ps_ret (pe_lst (pa_cons (pe_callTy call_list_of (by rfl) T.list (by decide +kernel) (pa_cons (pe_slice sl_list (pv 0) po_none (po_some pe_int)) pa_nil))
      (pa_cons pe_int (pa_cons pe_int (pa_cons (pe_op op_add pe_int (pe_op op_mul pe_int (pe_callB call_len_seq (by rfl) T.len PySem.boot_len (pa_cons (pe_slice sl_list (pv 0) po_none (po_some pe_int)) pa_nil)))) pa_nil)))))), ?_⟩
    have cut : ∃ ms : List Int, cutV (ns.map V.int) none (some 63) = ms.map V.int ∧ ms.length ≤ ns.length := by
      refine ⟨(ns.drop (HT.sIx (ns.map V.int).length 0 none)).take (HT.sIx (ns.map V.int).length (ns.map V.int).length (some 63) - HT.sIx (ns.map V.int).length 0 none), ?_, ?_⟩
      · unfold cutV
        rw [List.map_take, List.map_drop]
      · rw [List.length_take, List.length_drop]
        omega
    obtain ⟨ms, em, hml⟩ := cut
    refine ⟨_, rfl, 63, rfl, a, _, rfl, hS, fun c nc => ?_⟩
    rw [em]
    have s1 : Same H (upd H c (.lst (ms.map V.int))) := same_new nc
    refine ⟨c, _, rfl, .inl (SqL.of upd_same), fun l nl => ?_⟩
    have s2 : Same (upd H c (.lst (ms.map V.int))) (upd (upd H c (.lst (ms.map V.int))) l (.lst (ms.map V.int))) := same_new nl
    refine ⟨_, rfl, 63, rfl, a, _, rfl, s2.seq (s1.seq hS), fun c2 nc2 => ?_⟩
    rw [em]
    have s3 := same_new (o := .lst (ms.map V.int)) nc2
    refine ⟨c2, _, rfl, .inl (SqL.of upd_same), _, _, rfl, rfl, .inl ⟨by decide, by decide⟩, _, _, rfl, rfl, ?_⟩
    refine ⟨by show 4 ≤ sizeLine; decide, fun d nd => ?_⟩
    have s4 := same_new (o := .lst [V.ref l, V.int 0, V.int 0, V.int (9494 + 37 * ((ms.map V.int).length : Int))]) nd
    refine q d l _ (((s1.trans s2).trans s3).free nd) ⟨ms, 0, 0, 9494 + 37 * ((ms.map V.int).length : Int), upd_same, ?_, by omega, by omega, by rw [List.length_map]; omega⟩ (((s1.trans s2).trans s3).trans s4)
    exact s4 _ _ (s3 _ _ upd_same)
end
section
variable {P : Program} {w : World} {K : PySem.W.Frag} {mg : Str → Option Value} {base : Heap}
theorem ok_of {f fT : Addr} {fd fdT : FuncData} (F : Fun K "_law_of" "_law_of" sOf f fd) (GT : FnOk P w K mg base CX0 1 fT fdT ["_law_draw", "_law_many"] spTake) (FT : Fun K "_law_take" "_law_take" sTake fT fdT) (bT : Binds K fdT ["_law_draw", "_law_many"] []) (gT : mg "_law_take" = some (.ref fT)) (T : Tx mg) :
    FnOk P w K mg base CX0 2 f fd ["_law_draw", "_law_some"] (spOf K) := by
  refine F.ok scOf (fun vs H Q E h => ?_) (fun cdv A outer s H vs Q E hr h => ?_)
  · obtain ⟨d, l, a, xs, rfl, _⟩ := h
    rfl
  · obtain ⟨d, l, a, xs, rfl, hD, ne, hS, h1, h2, q⟩ := h
    refine ⟨_, pss_one (ps_ret (pe_ix ix_list (pv 1) (pe_call GT hr (by rfl) gT FT.kp bT .nil pass0 (pa_cons (pv 0) (pa_cons (pe_callB call_len_seq (by rfl) T.len PySem.boot_len (pa_cons (pv 1) pa_nil)) pa_nil))) (fun _ _ => rfl))), ?_⟩
    refine ⟨_, rfl, _, rfl, _, rfl, a, xs, rfl, .inl hS, d, l, xs.length, rfl, hD, by omega, Nat.lt_of_le_of_lt (show _ ≤ 1000 by omega) (by decide +kernel), fun r H' hr' hD' sb => ?_⟩
    have hr2 : r < xs.length := by omega
    exact ⟨a, xs, _, xs[r], rfl, rfl, sb.sql ne hS, atI_nat (List.getElem?_eq_getElem hr2), q r _ H' (List.getElem?_eq_getElem hr2) hD' sb⟩
end
section
variable {P : Program} {w : World} {K : PySem.W.Frag} {mg : Str → Option Value} {base : Heap}
theorem ok_path {f : Addr} {fd : FuncData} {k : Nat} (F : Fun K "_law_path" "_law_path" sPath f fd) (T : Tx mg) : FnOk P w K mg base CX0 (k + 1) f fd ["_law_forest", "_law_node"] (spPath K) := by
  refine F.ok scPath (fun vs H Q E h => ?_) (fun cdv A outer s H vs Q E hr h => ?_)
  · obtain ⟨a, n, p, x, rfl, _⟩ := h
    rfl
  · obtain ⟨a, n, p, x, rfl, hS, hn, hl, hx, q⟩ := h
    refine ⟨_, pss_cons (ps_set (i := 2) scPath.nd rfl (.inl rfl) (pe_lst (pa_cons (pv 1) pa_nil)))
      (pss_cons (ps_for PassesOwn.never rfl (pi_range1 (by rfl) T.range (pa_cons (pe_callB call_len_seq (by rfl) T.len PySem.boot_len (pa_cons (pv 0) pa_nil)) pa_nil)) (pg_name (i := 3) scPath.nd rfl (.inl rfl))
        (pss_one (ps_if (pt_cmpR op_ne (pe_ix ix_seq (pv 0) (pe_ix ix_list (pv 2) (pe_un un_neg pe_int) (fun _ _ => rfl)) (fun _ _ => rfl)) (pe_ix ix_list (pv 2) (pe_un un_neg pe_int) (fun _ _ => rfl)) (nomark _))
          (pss_one (ps_expr (pe_bm PySem.F.plainAttrs_list PySem.F.slot_list_append PySem.F.type_list_append mt_append (pv 2) (pa_cons (pe_ix ix_seq (pv 0) (pe_ix ix_list (pv 2) (pe_un un_neg pe_int) (fun _ _ => rfl)) (fun _ _ => rfl)) pa_nil)))) pss_nil)))
      (pss_one (ps_ret (pv 2)))), ?_⟩
    refine ⟨_, rfl, by show 1 ≤ sizeLine; decide, fun c nc => ?_⟩
    have s1 : Same H (upd H c (.lst [vi x])) := same_new nc
    refine ⟨_, rfl, a, _, rfl, hS.same s1, _, rfl, by rw [tupOf_len]; omega, by rw [tupOf_len]; omega, ?_⟩
    rw [tupOf_len]
    refine for_range (lo := 0) (n := (n : Int).toNat) (fun i σ H' => (∃ y, σ = [some (.ref a), some (vi x), some (.ref c), y]) ∧ H' c = some (.lst (natsV (path p i x))) ∧ Same H H') ⟨⟨none, rfl⟩, upd_same, s1⟩ ?_ ?_
    · rintro i σ H' hi ⟨⟨y, rfl⟩, hc, sm⟩
      have hi' : i < n := by omega
      have hr := root_lt0 hl i x hx
      refine ⟨_, rfl, _, rfl, 1, rfl, c, _, _, _, rfl, rfl, SqL.of hc, natsV_last p i x, (hS.same sm).ix (atI_nat (tupOf_at hr)) ⟨_, rfl, 1, rfl, c, _, _, _, rfl, rfl, SqL.of hc, natsV_last p i x, rfl, _, rfl, ite2 (fun e => ?_) (fun e => ?_)⟩⟩
      · have e' : ¬ p (root p i x) = root p i x := fun z => by
          rw [z] at e
          simp at e
        refine ⟨_, rfl, .inl ⟨rfl, _, SqL.of hc⟩, _, rfl, _, rfl, 1, rfl, c, _, _, _, rfl, rfl, SqL.of hc, natsV_last p i x, (hS.same sm).ix (atI_nat (tupOf_at hr)) ⟨c, _, _, rfl, rfl, hc, ?_, ⟨_, rfl⟩, ?_, same_over sm nc⟩⟩
        · rw [natsV_len]
          have := path_len0 p i x
          exact Nat.lt_of_le_of_lt (show _ ≤ 1001 by omega) (by decide)
        · rw [upd_same, path_succ, if_neg e']
          unfold natsV
          rw [List.map_append]
          rfl
      · have e' : p (root p i x) = root p i x := by
          have z : ¬ (!decide ((vi (p (root p i x))) = vi (root p i x))) = true := e
          simp at z
          omega
        refine ⟨⟨_, rfl⟩, ?_, sm⟩
        rw [path_succ, if_pos e']
        exact hc
    · rintro σ H' ⟨⟨y, rfl⟩, hc, sm⟩
      refine ⟨_, rfl, q c H' nc ?_ sm⟩
      exact hc
end
section
variable {P : Program} {w : World} {K : PySem.W.Frag} {mg : Str → Option Value} {base : Heap}
theorem ok_same {f : Addr} {fd : FuncData} (F : Fun K "_law_same" "_law_same" sSame f fd) (T : TxS mg) (b : Binds K fd ["_law_found", "_law_due"] []) (g : mg "_law_same" = some (.ref f)) :
    ∀ n, FnOk P w K mg base CX0 (n + 1) f fd ["_law_found", "_law_due"] (spSame K n) := by
  intro n
  induction n with
  | zero =>
    refine F.ok scSame (fun vs H Q E h => ?_) (fun cdv A outer s H vs Q E hr h => ?_)
    · obtain ⟨v, u, d, rfl, _⟩ := h
      rfl
    · obtain ⟨v, u, d, rfl, hv, hu, hd, q⟩ := h
      refine ⟨_, pss_cons (ps_if (pt_cmpR op_isN (pv 1) pe_non (nomark _)) (pss_one (ps_ret (pe_cmpR op_isN (pv 0) pe_non (nomark _)))) pss_nil)
        (pss_cons (ps_if (pt_val (pe_callB call_isiT (by rfl) T.isinstance (by decide +kernel) (pa_cons (pv 1) (pa_cons (pe_tup (pa_cons (pe_ty (n := "list") (by rfl) T.list (by decide +kernel)) (pa_cons (pe_ty (n := "tuple") (by rfl) T.tuple (by decide +kernel)) pa_nil))) pa_nil))))
          pss_never pss_nil)
        (pss_cons (ps_if (PW.pt (pw_or
              (pt_cmpR op_ne (pe_callB call_isi (by rfl) T.isinstance (by decide +kernel) (pa_cons (pv 1) (pa_cons (pe_ty (n := "bool") (by rfl) T.bool (by decide +kernel)) pa_nil))) (pe_callB call_isi (by rfl) T.isinstance (by decide +kernel) (pa_cons (pv 0) (pa_cons (pe_ty (n := "bool") (by rfl) T.bool (by decide +kernel)) pa_nil))) (nomark _))
              (pw_or1 (pt_cmpR op_ne (pe_callB call_isi (by rfl) T.isinstance (by decide +kernel) (pa_cons (pv 1) (pa_cons (pe_ty (n := "int") (by rfl) T.int (by decide +kernel)) pa_nil))) (pe_callB call_isi (by rfl) T.isinstance (by decide +kernel) (pa_cons (pv 0) (pa_cons (pe_ty (n := "int") (by rfl) T.int (by decide +kernel)) pa_nil))) (nomark _))))) (pss_one (ps_ret pe_bl)) pss_nil)
        (pss_one (ps_ret (pe_and (pe_cmpR op_eq (pe_callB call_isi (by rfl) T.isinstance (by decide +kernel) (pa_cons (pv 1) (pa_cons (pe_ty (n := "str") (by rfl) T.str (by decide +kernel)) pa_nil))) (pe_callB call_isi (by rfl) T.isinstance (by decide +kernel) (pa_cons (pv 0) (pa_cons (pe_ty (n := "str") (by rfl) T.str (by decide +kernel)) pa_nil))) (nomark _))
          (pe_one (pe_cmpR op_eq (pv 0) (pv 1) (nomark _)))))))), ?_⟩
      cases hd with
      | non =>
        cases hv; cases hu
        exact ⟨_, rfl, rfl, _, rfl, _, rfl, rfl, q H (Same.refl H)⟩
      | bl _ x =>
        cases hv; cases hu
        refine ⟨_, rfl, rfl, _, rfl, _, rfl, by show 2 ≤ sizeLine; decide, fun tp ntp => ?_⟩
        refine ⟨_, tp, _, _, _, _, rfl, upd_same, .cons (.ty _) (.cons (.ty _) .nil), .base (.bl x), kit2 (r := false) (s := false) (by decide +kernel) (by decide +kernel), _, rfl, ?_⟩
        refine ⟨_, rfl, _, _, _, _, _, rfl, .ty _, .base (.bl x), kit_ty (r := true) (by decide +kernel), _, rfl, _, _, _, _, _, rfl, .ty _, .base (.bl x), kit_ty (r := true) (by decide +kernel), rfl, _, rfl, ?_⟩
        refine ⟨_, rfl, _, _, _, _, _, rfl, .ty _, .base (.bl x), kit_ty (r := true) (by decide +kernel), _, rfl, _, _, _, _, _, rfl, .ty _, .base (.bl x), kit_ty (r := true) (by decide +kernel), rfl, _, rfl, ?_⟩
        refine ⟨_, rfl, _, _, _, _, _, rfl, .ty _, .base (.bl x), kit_ty (r := false) (by decide +kernel), _, rfl, _, _, _, _, _, rfl, .ty _, .base (.bl x), kit_ty (r := false) (by decide +kernel), rfl, _, rfl, ?_⟩
        refine ⟨_, rfl, _, rfl, rfl, ?_⟩
        show Q (.bl (decide (V.bl x = V.bl x))) _
        rw [decide_eq_true rfl]
        exact q _ (same_new ntp)
      | int _ x =>
        cases hv; cases hu
        refine ⟨_, rfl, rfl, _, rfl, _, rfl, by show 2 ≤ sizeLine; decide, fun tp ntp => ?_⟩
        refine ⟨_, tp, _, _, _, _, rfl, upd_same, .cons (.ty _) (.cons (.ty _) .nil), .base (.int x), kit2 (r := false) (s := false) (by decide +kernel) (by decide +kernel), _, rfl, ?_⟩
        refine ⟨_, rfl, _, _, _, _, _, rfl, .ty _, .base (.int x), kit_ty (r := false) (by decide +kernel), _, rfl, _, _, _, _, _, rfl, .ty _, .base (.int x), kit_ty (r := false) (by decide +kernel), rfl, _, rfl, ?_⟩
        refine ⟨_, rfl, _, _, _, _, _, rfl, .ty _, .base (.int x), kit_ty (r := true) (by decide +kernel), _, rfl, _, _, _, _, _, rfl, .ty _, .base (.int x), kit_ty (r := true) (by decide +kernel), rfl, _, rfl, ?_⟩
        refine ⟨_, rfl, _, _, _, _, _, rfl, .ty _, .base (.int x), kit_ty (r := false) (by decide +kernel), _, rfl, _, _, _, _, _, rfl, .ty _, .base (.int x), kit_ty (r := false) (by decide +kernel), rfl, _, rfl, ?_⟩
        refine ⟨_, rfl, _, rfl, rfl, ?_⟩
        show Q (.bl (decide (V.int x = V.int x))) _
        rw [decide_eq_true rfl]
        exact q _ (same_new ntp)
      | str _ x =>
        cases hv; cases hu
        refine ⟨_, rfl, rfl, _, rfl, _, rfl, by show 2 ≤ sizeLine; decide, fun tp ntp => ?_⟩
        refine ⟨_, tp, _, _, _, _, rfl, upd_same, .cons (.ty _) (.cons (.ty _) .nil), .base (.str x), kit2 (r := false) (s := false) (by decide +kernel) (by decide +kernel), _, rfl, ?_⟩
        refine ⟨_, rfl, _, _, _, _, _, rfl, .ty _, .base (.str x), kit_ty (r := false) (by decide +kernel), _, rfl, _, _, _, _, _, rfl, .ty _, .base (.str x), kit_ty (r := false) (by decide +kernel), rfl, _, rfl, ?_⟩
        refine ⟨_, rfl, _, _, _, _, _, rfl, .ty _, .base (.str x), kit_ty (r := false) (by decide +kernel), _, rfl, _, _, _, _, _, rfl, .ty _, .base (.str x), kit_ty (r := false) (by decide +kernel), rfl, _, rfl, ?_⟩
        refine ⟨_, rfl, _, _, _, _, _, rfl, .ty _, .base (.str x), kit_ty (r := true) (by decide +kernel), _, rfl, _, _, _, _, _, rfl, .ty _, .base (.str x), kit_ty (r := true) (by decide +kernel), rfl, _, rfl, ?_⟩
        refine ⟨_, rfl, _, rfl, rfl, ?_⟩
        show Q (.bl (decide (V.str x = V.str x))) _
        rw [decide_eq_true rfl]
        exact q _ (same_new ntp)
  | succ n ih =>
    refine F.ok scSame (fun vs H Q E h => ?_) (fun cdv A outer s H vs Q E hr h => ?_)
    · obtain ⟨v, u, d, rfl, _⟩ := h
      rfl
    · obtain ⟨v, u, d, rfl, hv, hu, hd, q⟩ := h
      refine ⟨_, pss_cons (ps_if (pt_cmpR op_isN (pv 1) pe_non (nomark _)) (pss_one (ps_ret (pe_cmpR op_isN (pv 0) pe_non (nomark _)))) pss_nil)
        (pss_cons (ps_if (pt_val (pe_callB call_isiT (by rfl) T.isinstance (by decide +kernel) (pa_cons (pv 1) (pa_cons (pe_tup (pa_cons (pe_ty (n := "list") (by rfl) T.list (by decide +kernel)) (pa_cons (pe_ty (n := "tuple") (by rfl) T.tuple (by decide +kernel)) pa_nil))) pa_nil))))
          (pss_cons (ps_if (PW.pt (pw_or
              (pt_cmpR op_ne (pe_callB call_isi (by rfl) T.isinstance (by decide +kernel) (pa_cons (pv 0) (pa_cons (pe_ty (n := "list") (by rfl) T.list (by decide +kernel)) pa_nil))) (pe_callB call_isi (by rfl) T.isinstance (by decide +kernel) (pa_cons (pv 1) (pa_cons (pe_ty (n := "list") (by rfl) T.list (by decide +kernel)) pa_nil))) (nomark _))
              (pw_or1 (pt_cmpR op_ne (pe_callB call_isi (by rfl) T.isinstance (by decide +kernel) (pa_cons (pv 0) (pa_cons (pe_ty (n := "tuple") (by rfl) T.tuple (by decide +kernel)) pa_nil))) (pe_callB call_isi (by rfl) T.isinstance (by decide +kernel) (pa_cons (pv 1) (pa_cons (pe_ty (n := "tuple") (by rfl) T.tuple (by decide +kernel)) pa_nil))) (nomark _))))) (pss_one (ps_ret pe_bl)) pss_nil)
          (pss_one (ps_ret (pe_and (pe_cmpR op_eq (pe_callB call_len_seq (by rfl) T.len PySem.boot_len (pa_cons (pv 0) pa_nil)) (pe_callB call_len_seq (by rfl) T.len PySem.boot_len (pa_cons (pv 1) pa_nil)) (nomark _))
            (pe_one (pe_callB (cr_all rfl) (by rfl) T.all (by decide +kernel) (pa_cons (pe_lc (own := [("_law_one", 2), ("_law_other", 3)]) (g := gTup K 2 (gCons (gName 2) (gCons (gName 3) gNil))) (by rfl) scSame.nd (RZ.pi_zipA (by rfl) T.zip (pa_cons (pv 0) (pa_cons (pv 1) pa_nil)))
              (blkOk_by (own := [("_law_one", 2), ("_law_other", 3)]) (N := sameN) (sc := defScope sSame) (by decide +kernel)) (fun _ _ _ _ _ => pg_tup rfl (pgs_cons (pg_name (i := 2) scSame.nd rfl (.inl rfl)) (pgs_cons (pg_name (i := 3) scSame.nd rfl (.inl rfl)) pgs_nil))) (fun _ _ _ _ _ => pts_nil)
              (fun _ _ _ _ _ => pe_call ih hr (by rfl) g F.kp b .nil pass0 (pa_cons (pv 2) (pa_cons (pv 3) pa_nil)))) pa_nil))))))) pss_nil)
        (pss_cons (ps_if (PW.pt (pw_or
              (pt_cmpR op_ne (pe_callB call_isi (by rfl) T.isinstance (by decide +kernel) (pa_cons (pv 1) (pa_cons (pe_ty (n := "bool") (by rfl) T.bool (by decide +kernel)) pa_nil))) (pe_callB call_isi (by rfl) T.isinstance (by decide +kernel) (pa_cons (pv 0) (pa_cons (pe_ty (n := "bool") (by rfl) T.bool (by decide +kernel)) pa_nil))) (nomark _))
              (pw_or1 (pt_cmpR op_ne (pe_callB call_isi (by rfl) T.isinstance (by decide +kernel) (pa_cons (pv 1) (pa_cons (pe_ty (n := "int") (by rfl) T.int (by decide +kernel)) pa_nil))) (pe_callB call_isi (by rfl) T.isinstance (by decide +kernel) (pa_cons (pv 0) (pa_cons (pe_ty (n := "int") (by rfl) T.int (by decide +kernel)) pa_nil))) (nomark _))))) (pss_one (ps_ret pe_bl)) pss_nil)
        (pss_one (ps_ret (pe_and (pe_cmpR op_eq (pe_callB call_isi (by rfl) T.isinstance (by decide +kernel) (pa_cons (pv 1) (pa_cons (pe_ty (n := "str") (by rfl) T.str (by decide +kernel)) pa_nil))) (pe_callB call_isi (by rfl) T.isinstance (by decide +kernel) (pa_cons (pv 0) (pa_cons (pe_ty (n := "str") (by rfl) T.str (by decide +kernel)) pa_nil))) (nomark _))
          (pe_one (pe_cmpR op_eq (pv 0) (pv 1) (nomark _)))))))), ?_⟩
      cases hd with
      | non =>
        cases hv; cases hu
        exact ⟨_, rfl, rfl, _, rfl, _, rfl, rfl, q H (Same.refl H)⟩
      | bl _ x =>
        cases hv; cases hu
        refine ⟨_, rfl, rfl, _, rfl, _, rfl, by show 2 ≤ sizeLine; decide, fun tp ntp => ?_⟩
        refine ⟨_, tp, _, _, _, _, rfl, upd_same, .cons (.ty _) (.cons (.ty _) .nil), .base (.bl x), kit2 (r := false) (s := false) (by decide +kernel) (by decide +kernel), _, rfl, ?_⟩
        refine ⟨_, rfl, _, _, _, _, _, rfl, .ty _, .base (.bl x), kit_ty (r := true) (by decide +kernel), _, rfl, _, _, _, _, _, rfl, .ty _, .base (.bl x), kit_ty (r := true) (by decide +kernel), rfl, _, rfl, ?_⟩
        refine ⟨_, rfl, _, _, _, _, _, rfl, .ty _, .base (.bl x), kit_ty (r := true) (by decide +kernel), _, rfl, _, _, _, _, _, rfl, .ty _, .base (.bl x), kit_ty (r := true) (by decide +kernel), rfl, _, rfl, ?_⟩
        refine ⟨_, rfl, _, _, _, _, _, rfl, .ty _, .base (.bl x), kit_ty (r := false) (by decide +kernel), _, rfl, _, _, _, _, _, rfl, .ty _, .base (.bl x), kit_ty (r := false) (by decide +kernel), rfl, _, rfl, ?_⟩
        refine ⟨_, rfl, _, rfl, rfl, ?_⟩
        show Q (.bl (decide (V.bl x = V.bl x))) _
        rw [decide_eq_true rfl]
        exact q _ (same_new ntp)
      | int _ x =>
        cases hv; cases hu
        refine ⟨_, rfl, rfl, _, rfl, _, rfl, by show 2 ≤ sizeLine; decide, fun tp ntp => ?_⟩
        refine ⟨_, tp, _, _, _, _, rfl, upd_same, .cons (.ty _) (.cons (.ty _) .nil), .base (.int x), kit2 (r := false) (s := false) (by decide +kernel) (by decide +kernel), _, rfl, ?_⟩
        refine ⟨_, rfl, _, _, _, _, _, rfl, .ty _, .base (.int x), kit_ty (r := false) (by decide +kernel), _, rfl, _, _, _, _, _, rfl, .ty _, .base (.int x), kit_ty (r := false) (by decide +kernel), rfl, _, rfl, ?_⟩
        refine ⟨_, rfl, _, _, _, _, _, rfl, .ty _, .base (.int x), kit_ty (r := true) (by decide +kernel), _, rfl, _, _, _, _, _, rfl, .ty _, .base (.int x), kit_ty (r := true) (by decide +kernel), rfl, _, rfl, ?_⟩
        refine ⟨_, rfl, _, _, _, _, _, rfl, .ty _, .base (.int x), kit_ty (r := false) (by decide +kernel), _, rfl, _, _, _, _, _, rfl, .ty _, .base (.int x), kit_ty (r := false) (by decide +kernel), rfl, _, rfl, ?_⟩
        refine ⟨_, rfl, _, rfl, rfl, ?_⟩
        show Q (.bl (decide (V.int x = V.int x))) _
        rw [decide_eq_true rfl]
        exact q _ (same_new ntp)
      | str _ x =>
        cases hv; cases hu
        refine ⟨_, rfl, rfl, _, rfl, _, rfl, by show 2 ≤ sizeLine; decide, fun tp ntp => ?_⟩
        refine ⟨_, tp, _, _, _, _, rfl, upd_same, .cons (.ty _) (.cons (.ty _) .nil), .base (.str x), kit2 (r := false) (s := false) (by decide +kernel) (by decide +kernel), _, rfl, ?_⟩
        refine ⟨_, rfl, _, _, _, _, _, rfl, .ty _, .base (.str x), kit_ty (r := false) (by decide +kernel), _, rfl, _, _, _, _, _, rfl, .ty _, .base (.str x), kit_ty (r := false) (by decide +kernel), rfl, _, rfl, ?_⟩
        refine ⟨_, rfl, _, _, _, _, _, rfl, .ty _, .base (.str x), kit_ty (r := false) (by decide +kernel), _, rfl, _, _, _, _, _, rfl, .ty _, .base (.str x), kit_ty (r := false) (by decide +kernel), rfl, _, rfl, ?_⟩
        refine ⟨_, rfl, _, _, _, _, _, rfl, .ty _, .base (.str x), kit_ty (r := true) (by decide +kernel), _, rfl, _, _, _, _, _, rfl, .ty _, .base (.str x), kit_ty (r := true) (by decide +kernel), rfl, _, rfl, ?_⟩
        refine ⟨_, rfl, _, rfl, rfl, ?_⟩
        show Q (.bl (decide (V.str x = V.str x))) _
        rw [decide_eq_true rfl]
        exact q _ (same_new ntp)
      | lst hl hk =>
        cases hv with
        | @lst a xs _ sa ra =>
        cases hu with
        | @lst b ys _ sb rb =>
        refine ⟨_, rfl, rfl, _, rfl, _, rfl, by show 2 ≤ sizeLine; decide, fun tp ntp => ?_⟩
        have s1 := same_new (o := .tup [V.ty "list", V.ty "tuple"]) ntp
        have sa1 := Same.seq (s1) sa
        have sb1 := Same.seq (s1) sb
        refine ⟨_, tp, _, _, _, _, rfl, upd_same, .cons (.ty _) (.cons (.ty _) .nil), tyL sb1, kit2 (r := true) (s := false) (by decide +kernel) (by decide +kernel), _, rfl, ?_⟩
        refine ⟨_, rfl, _, _, _, _, _, rfl, .ty _, tyL sa1, kit_ty (r := true) (by decide +kernel), _, rfl, _, _, _, _, _, rfl, .ty _, tyL sb1, kit_ty (r := true) (by decide +kernel), rfl, _, rfl, ?_⟩
        refine ⟨_, rfl, _, _, _, _, _, rfl, .ty _, tyL sa1, kit_ty (r := false) (by decide +kernel), _, rfl, _, _, _, _, _, rfl, .ty _, tyL sb1, kit_ty (r := false) (by decide +kernel), rfl, _, rfl, ?_⟩
        have la := dpl_len ra
        have lb := dpl_len rb
        refine ⟨_, rfl, a, _, rfl, .inl sa1, _, rfl, b, _, rfl, .inl sb1, rfl, _, rfl, ?_⟩
        have el : decide (V.int (xs.length : Int) = V.int (ys.length : Int)) = true := decide_eq_true (by rw [la, lb])
        rw [el]
        refine ⟨_, rfl, _, rfl, a, b, xs, ys, rfl, .inl ⟨sa1, sb1, fun D nD => ?_⟩⟩
        have s2 := same_new (o := .lst []) nD
        refine ⟨fun i m H' => m = xs.length - i ∧ i ≤ xs.length ∧ H' D = some (.lst ((List.replicate i true).map V.bl)) ∧ Same (upd H tp (.tup [V.ty "list", V.ty "tuple"])) H', ⟨xs.length, rfl, Nat.zero_le _, upd_same, s2⟩, ?_⟩
        rintro i m H' ⟨rfl, hi, hD, sm⟩
        have sa2 := Same.seq (sm) sa1
        have sb2 := Same.seq (sm) sb1
        by_cases hlt : i < xs.length
        · have hlt2 : i < ys.length := by omega
          refine .inr ⟨⟨xs, ys, xs[i], ys[i], sa2, sb2, List.getElem?_eq_getElem hlt, List.getElem?_eq_getElem hlt2⟩, fun H2 => H2 D = some (.lst ((List.replicate (i + 1) true).map V.bl)) ∧ Same (upd H tp (.tup [V.ty "list", V.ty "tuple"])) H2, fun H2 z => ⟨xs.length - (i + 1), by omega, rfl, hlt, z.1, z.2⟩, ?_⟩
          rintro vv H2 ⟨tt, x, y, rfl, ntt, rfl, hx, hy⟩
          have ex := hx _ sa2
          have ey := hy _ sb2
          have s3 := same_new (o := .tup [x, y]) ntt
          refine ⟨tt, _, rfl, SqT.of upd_same, rfl, _, _, rfl, _, _, rfl, rfl, rfl, ?_⟩
          obtain ⟨d1, e1, p1⟩ := dpl_at ra ex
          obtain ⟨d2, e2, p2⟩ := dpl_at rb ey
          obtain rfl : d1 = d2 := Option.some.inj (e1.symm.trans e2)
          have s13 := (s1.trans sm).trans s3
          refine ⟨_, rfl, _, rfl, x, y, d1, rfl, dp_same s13 p1, dp_same s13 p2, hk d1 (List.mem_of_getElem? e1), fun H4 s4 => ?_⟩
          have nDt : D ≠ tt := ne_of_none hD ntt
          refine ⟨_, s4 _ _ (s3 _ _ hD), by rw [List.length_map, List.length_replicate]; exact Nat.lt_of_lt_of_le (show i < 6001 by omega) (by decide), ?_, same_over ((sm.trans s3).trans s4) nD⟩
          rw [upd_same, List.replicate_succ', List.map_append]
          rfl
        · have ei : i = xs.length := by omega
          refine .inl ⟨⟨xs, ys, sa2, sb2, .inl (by omega)⟩, D, List.replicate i true, rfl, SqL.of hD, ?_⟩
          have ea : (List.replicate i true).all id = true := List.all_eq_true.mpr fun z hz => (List.mem_replicate.mp hz).2
          rw [ea]
          exact q H' (s1.trans sm)
      | tup hl hk =>
        cases hv with
        | @tup a xs _ sa ra =>
        cases hu with
        | @tup b ys _ sb rb =>
        refine ⟨_, rfl, rfl, _, rfl, _, rfl, by show 2 ≤ sizeLine; decide, fun tp ntp => ?_⟩
        have s1 := same_new (o := .tup [V.ty "list", V.ty "tuple"]) ntp
        have sa1 := same_sqt (s1) sa
        have sb1 := same_sqt (s1) sb
        refine ⟨_, tp, _, _, _, _, rfl, upd_same, .cons (.ty _) (.cons (.ty _) .nil), tyT sb1, kit2 (r := false) (s := true) (by decide +kernel) (by decide +kernel), _, rfl, ?_⟩
        refine ⟨_, rfl, _, _, _, _, _, rfl, .ty _, tyT sa1, kit_ty (r := false) (by decide +kernel), _, rfl, _, _, _, _, _, rfl, .ty _, tyT sb1, kit_ty (r := false) (by decide +kernel), rfl, _, rfl, ?_⟩
        refine ⟨_, rfl, _, _, _, _, _, rfl, .ty _, tyT sa1, kit_ty (r := true) (by decide +kernel), _, rfl, _, _, _, _, _, rfl, .ty _, tyT sb1, kit_ty (r := true) (by decide +kernel), rfl, _, rfl, ?_⟩
        have la := dpl_len ra
        have lb := dpl_len rb
        refine ⟨_, rfl, a, _, rfl, .inr sa1, _, rfl, b, _, rfl, .inr sb1, rfl, _, rfl, ?_⟩
        have el : decide (V.int (xs.length : Int) = V.int (ys.length : Int)) = true := decide_eq_true (by rw [la, lb])
        rw [el]
        refine ⟨_, rfl, _, rfl, a, b, xs, ys, rfl, .inr ⟨sa1, sb1, fun D nD => ?_⟩⟩
        have s2 := same_new (o := .lst []) nD
        refine ⟨fun i m H' => m = xs.length - i ∧ i ≤ xs.length ∧ H' D = some (.lst ((List.replicate i true).map V.bl)) ∧ Same (upd H tp (.tup [V.ty "list", V.ty "tuple"])) H', ⟨xs.length, rfl, Nat.zero_le _, upd_same, s2⟩, ?_⟩
        rintro i m H' ⟨rfl, hi, hD, sm⟩
        have sa2 := same_sqt (sm) sa1
        have sb2 := same_sqt (sm) sb1
        by_cases hlt : i < xs.length
        · have hlt2 : i < ys.length := by omega
          refine .inr ⟨⟨xs, ys, xs[i], ys[i], sa2, sb2, List.getElem?_eq_getElem hlt, List.getElem?_eq_getElem hlt2⟩, fun H2 => H2 D = some (.lst ((List.replicate (i + 1) true).map V.bl)) ∧ Same (upd H tp (.tup [V.ty "list", V.ty "tuple"])) H2, fun H2 z => ⟨xs.length - (i + 1), by omega, rfl, hlt, z.1, z.2⟩, ?_⟩
          rintro vv H2 ⟨tt, x, y, rfl, ntt, rfl, hx, hy⟩
          have ex := hx _ sa2
          have ey := hy _ sb2
          have s3 := same_new (o := .tup [x, y]) ntt
          refine ⟨tt, _, rfl, SqT.of upd_same, rfl, _, _, rfl, _, _, rfl, rfl, rfl, ?_⟩
          obtain ⟨d1, e1, p1⟩ := dpl_at ra ex
          obtain ⟨d2, e2, p2⟩ := dpl_at rb ey
          obtain rfl : d1 = d2 := Option.some.inj (e1.symm.trans e2)
          have s13 := (s1.trans sm).trans s3
          refine ⟨_, rfl, _, rfl, x, y, d1, rfl, dp_same s13 p1, dp_same s13 p2, hk d1 (List.mem_of_getElem? e1), fun H4 s4 => ?_⟩
          have nDt : D ≠ tt := ne_of_none hD ntt
          refine ⟨_, s4 _ _ (s3 _ _ hD), by rw [List.length_map, List.length_replicate]; exact Nat.lt_of_lt_of_le (show i < 6001 by omega) (by decide), ?_, same_over ((sm.trans s3).trans s4) nD⟩
          rw [upd_same, List.replicate_succ', List.map_append]
          rfl
        · have ei : i = xs.length := by omega
          refine .inl ⟨⟨xs, ys, sa2, sb2, .inl (by omega)⟩, D, List.replicate i true, rfl, SqL.of hD, ?_⟩
          have ea : (List.replicate i true).all id = true := List.all_eq_true.mpr fun z hz => (List.mem_replicate.mp hz).2
          rw [ea]
          exact q H' (s1.trans sm)
end
section
variable {P : Program} {w : World} {K : PySem.W.Frag} {mg : Str → Option Value} {base : Heap}
theorem ok_power {f : Addr} {fd : FuncData} {k : Nat} (F : Fun K "power_of" "power_of" sPower f fd) (T : Tx mg) : FnOk P w K mg base CX0 (k + 1) f fd ["base", "exponent"] spPower := by
  refine F.ok scPower (fun vs H Q E h => ?_) (fun cdv A outer s H vs Q E hr h => ?_)
  · obtain ⟨b, e, rfl, _⟩ := h
    rfl
  · obtain ⟨b, e, rfl, hb1, hb2, he, q⟩ := h
    refine ⟨_, (pss_cons (ps_set (i := 2) scPower.nd rfl (.inl rfl) pe_int)
      (pss_cons (ps_for PassesOwn.never rfl (pi_range1 (by rfl) T.range (pa_cons (pv 1) pa_nil)) (pg_name (i := 3) scPower.nd rfl (.inl rfl))
        (pss_one (ps_aug (i := 2) scPower.nd rfl (.inl rfl) (pv 0) ip_mulW)))
      (pss_one (ps_ret (pv 2))))), ?_⟩
    refine ⟨_, rfl, _, rfl, by omega, by omega, ?_⟩
    refine for_range (lo := 0) (n := ((e : Nat) : Int).toNat) (fun i σ H' => (∃ y, σ = [some (.int b), some (.int e), some (.int (b ^ i)), y]) ∧ H' = H) ⟨⟨none, by rw [Int.pow_zero]; rfl⟩, rfl⟩ ?_ ?_
    · rintro i σ H' hi ⟨⟨y, rfl⟩, rfl⟩
      refine ⟨_, rfl, _, rfl, _, _, rfl, rfl, wide_mul (pow_small hb1 hb2 i) (b := 10) (by omega) (by omega) (by decide) (by omega), ⟨some (.int (0 + (i : Int))), ?_⟩, rfl⟩
      rw [Int.pow_succ]
      rfl
    · rintro σ H' ⟨⟨y, rfl⟩, rfl⟩
      refine ⟨_, rfl, ?_⟩
      rw [show ((e : Nat) : Int).toNat = e by omega]
      exact q _ (Same.refl _)
end
end Ff

namespace Ff
open PySem PySem.Spec PyProof.Rows L2 ExX LamX
abbrev sForE : Stmt := topS 1
abbrev sMiss : Stmt := topS 2
theorem scForEI : FnScope ["self", "tag", "message"] ["self", "tag", "message"] (defScope (initS sForE)) := ⟨rfl, rfl, rfl, by decide +kernel, rfl, by decide +kernel, by decide +kernel⟩
theorem scMissI : FnScope ["self", "tag", "message"] ["self", "tag", "message"] (defScope (initS sMiss)) := ⟨rfl, rfl, rfl, by decide +kernel, rfl, by decide +kernel, by decide +kernel⟩
theorem ty_lu : typeOf (.type "LookupError") = pure (.type "type") := by kernel_rfl
theorem ty_va : typeOf (.type "ValueError") = pure (.type "type") := by kernel_rfl
theorem bo_lu : bootBuiltins "LookupError" = some (.type "LookupError") := by kernel_rfl
theorem bo_va : bootBuiltins "ValueError" = some (.type "ValueError") := by kernel_rfl
section
variable {P : Program} {w : World} {K : PySem.W.Frag} {mg : Str → Option Value} {base : Heap}
theorem ok_missI {f : Addr} {fd : FuncData} {k : Nat} (F : Fun K "__init__" "Missing.__init__" (initS sMiss) f fd) (z : mg "LookupError" = none) (v : PySem.W.findCls K (.type "LookupError") (.type "type") "__init__" = some (.val (.builtin "LookupError.__init__"))) :
    FnOk P w K mg base CX0 (k + 1) f fd ["self", "tag", "message"] (spTop K "LookupError.__new__" luTail) := by
  refine F.ok scMissI (fun vs H Q E h => ?_) (fun cdv A outer s H vs Q E hr h => ?_)
  · obtain ⟨a, C, tag, msg, rfl, _⟩ := h
    rfl
  · obtain ⟨a, C, tag, msg, rfl, ha, T, nt, q⟩ := h
    refine ⟨_, pss_cons (ps_expr (pe_bi (xB := "LookupError") PySem.F.excBase_LookupError ty_lu (by decide +kernel) bo_lu (by decide) (by decide) (by decide +kernel) (by rfl) z v (pa_cons (pv 0) (pa_cons (pv 2) pa_nil))))
      (pss_one (ps_st (nid := "LookupError.__new__") PySem.F.store_LookupError (pv 0) (pv 1))), ?_⟩
    exact ⟨_, rfl, _, rfl, a, C, _, rfl, by show 1 ≤ 1000; decide, T, ha, _, rfl, _, rfl, a, C, rfl, T, nt, .inl ⟨ha, fun dx n ne => q dx n ne⟩⟩
end
section
variable {P : Program} {w : World} {K : PySem.W.Frag} {mg : Str → Option Value} {base : Heap}
theorem ok_forEI {f : Addr} {fd : FuncData} {k : Nat} (F : Fun K "__init__" "ForestError.__init__" (initS sForE) f fd) (z : mg "ValueError" = none) (v : PySem.W.findCls K (.type "ValueError") (.type "type") "__init__" = some (.val (.builtin "ValueError.__init__"))) :
    FnOk P w K mg base CX0 (k + 1) f fd ["self", "tag", "message"] (spTop K "ValueError.__new__" vaTail) := by
  refine F.ok scForEI (fun vs H Q E h => ?_) (fun cdv A outer s H vs Q E hr h => ?_)
  · obtain ⟨a, C, tag, msg, rfl, _⟩ := h
    rfl
  · obtain ⟨a, C, tag, msg, rfl, ha, T, nt, q⟩ := h
    refine ⟨_, pss_cons (ps_expr (pe_bi (xB := "ValueError") PySem.F.excBase_ValueError ty_va (by decide +kernel) bo_va (by decide) (by decide) (by decide +kernel) (by rfl) z v (pa_cons (pv 0) (pa_cons (pv 2) pa_nil))))
      (pss_one (ps_st (nid := "ValueError.__new__") PySem.F.store_ValueError (pv 0) (pv 1))), ?_⟩
    exact ⟨_, rfl, _, rfl, a, C, _, rfl, by show 1 ≤ 1000; decide, T, ha, _, rfl, _, rfl, a, C, rfl, T, nt, .inl ⟨ha, fun dx n ne => q dx n ne⟩⟩
end
section
variable {P : Program} {w : World} {K : PySem.W.Frag} {mg : Str → Option Value} {base : Heap}
def spChkX (K : PySem.W.Frag) (C : Addr) : Sp := fun vs H Q E => ∃ (a : Addr) (xs : List V) (x : Int), vs = [.ref a, .int x] ∧ Sq K H a xs ∧ (x < 0 ∨ (xs.length : Int) ≤ x) ∧ x.natAbs.log2 < 1920 ∧ Flies H E C "node" "NoNode" (.int x)
end
abbrev sField : Stmt := topS 28
abbrev sOut : Stmt := topS 29
abbrev sErr : Stmt := topS 30
theorem scField : FnScope ["_law_e"] ["_law_e"] (defScope sField) := ⟨rfl, rfl, rfl, by decide +kernel, rfl, by decide +kernel, by decide +kernel⟩
theorem scOut : FnScope ["_law_ask", "_law_answer", "_law_tag", "_law_field_here", "_law_e"] ["_law_ask"] (defScope sOut) := ⟨rfl, rfl, rfl, by decide +kernel, rfl, by decide +kernel, by decide +kernel⟩
theorem scErr : FnScope ["_law_ask"] ["_law_ask"] (defScope sErr) := ⟨rfl, rfl, rfl, by decide +kernel, rfl, by decide +kernel, by decide +kernel⟩
/-- the handled error has a tag of the table and its field -/
structure Told (K : PySem.W.Frag) (cls : Value) (d : Option Addr) (H : Hp) (tag fld : Str) (v : V) : Prop where
  ex : ∃ C dd : Addr, cls = .ref C ∧ XfC K C ∧ PySem.W.findIn K (.ref C) "tag" = some none ∧ PySem.W.findIn K (.ref C) fld = some none ∧ d = some dd ∧ H dd = some (.xd [(fld, v), ("tag", .str tag)])
def nodeTags : List Str := ["BadParent", "Cycle", "NotRoot", "SameRoot", "RootsDiffer", "NoWay", "BadWeight", "NoNode"]
def limitTags : List Str := ["TooManyNodes", "TooLong", "TooManyForests", "TooManyWatches"]
def posTags : List Str := ["BadStep", "BadCost", "Contradiction", "ParseError"]
def sizeTags : List Str := ["SizesDiffer", "BadSize"]
def nameTags : List Str := ["BadName", "NameTaken", "NoForest"]
def wordTags : List Str := ["BadCommand", "BadCount"]
def TagOk (tag fld : Str) : Prop := (tag ∈ nodeTags ∧ fld = "node") ∨ (tag ∈ limitTags ∧ fld = "limit") ∨ (tag ∈ posTags ∧ fld = "pos") ∨ (tag ∈ sizeTags ∧ fld = "size") ∨ (tag ∈ nameTags ∧ fld = "name") ∨ (tag = "BadCommand" ∧ fld = "word") ∨ (tag = "BadCount" ∧ fld = "count") ∨ (tag = "NoWatch" ∧ fld = "number")
def spField (K : PySem.W.Frag) : SpE := fun a cls d vs H Q _ => vs = [.ref a] ∧ ∃ (tag fld : Str) (v : V), Told K cls d H tag fld v ∧ TagOk tag fld ∧ ∀ H1, Same H H1 → Q v H1
section
variable {P : Program} {w : World} {K : PySem.W.Frag} {mg : Str → Option Value} {base : Heap}
theorem ok_field {f : Addr} {fd : FuncData} {k : Nat} (F : Fun K "_law_field" "_law_field" sField f fd) : FnE P w K mg base CX0 (k + 1) f fd ["_law_e"] (spField K) := by
  obtain ⟨oc, od, kV, doc, pm, an, cdv, ct, osl, rfl, lk, hcd⟩ := F.ex
  refine fn_ofE lk hcd scField (fun a cls d vs H Q E h => ?_) fun A outer s H vs Q E p cls d hz hd hr h => ?_
  · obtain ⟨rfl, _⟩ := h
    rfl
  · obtain ⟨rfl, tag, fld, v, ⟨C, dd, ec, xf, nt, nf, ed, hdd⟩, ht, q⟩ := h
    refine ⟨_, pss_cons (ps_if (pt_cmpR (show OpR _ (compareOp .In) (rIn K false) from op_in_seq) (pe_fe (a := p.1) (oe := p.2) (by exact List.mem_cons_self) hz hd (pv 0)) (pe_tup (pa_cons pe_str (pa_cons pe_str (pa_cons pe_str (pa_cons pe_str (pa_cons pe_str (pa_cons pe_str (pa_cons pe_str (pa_cons pe_str pa_nil))))))))) (by rfl)) (pss_one (ps_ret (pe_fe (a := p.1) (oe := p.2) (by exact List.mem_cons_self) hz hd (pv 0)))) pss_nil)
      (pss_cons (ps_if (pt_cmpR (show OpR _ (compareOp .In) (rIn K false) from op_in_seq) (pe_fe (a := p.1) (oe := p.2) (by exact List.mem_cons_self) hz hd (pv 0)) (pe_tup (pa_cons pe_str (pa_cons pe_str (pa_cons pe_str (pa_cons pe_str pa_nil))))) (by rfl)) (pss_one (ps_ret (pe_fe (a := p.1) (oe := p.2) (by exact List.mem_cons_self) hz hd (pv 0)))) pss_nil)
      (pss_cons (ps_if (pt_cmpR (show OpR _ (compareOp .In) (rIn K false) from op_in_seq) (pe_fe (a := p.1) (oe := p.2) (by exact List.mem_cons_self) hz hd (pv 0)) (pe_tup (pa_cons pe_str (pa_cons pe_str (pa_cons pe_str (pa_cons pe_str pa_nil))))) (by rfl)) (pss_one (ps_ret (pe_fe (a := p.1) (oe := p.2) (by exact List.mem_cons_self) hz hd (pv 0)))) pss_nil)
      (pss_cons (ps_if (pt_cmpR (show OpR _ (compareOp .In) (rIn K false) from op_in_seq) (pe_fe (a := p.1) (oe := p.2) (by exact List.mem_cons_self) hz hd (pv 0)) (pe_tup (pa_cons pe_str (pa_cons pe_str pa_nil))) (by rfl)) (pss_one (ps_ret (pe_fe (a := p.1) (oe := p.2) (by exact List.mem_cons_self) hz hd (pv 0)))) pss_nil)
      (pss_cons (ps_if (pt_cmpR (show OpR _ (compareOp .In) (rIn K false) from op_in_seq) (pe_fe (a := p.1) (oe := p.2) (by exact List.mem_cons_self) hz hd (pv 0)) (pe_tup (pa_cons pe_str (pa_cons pe_str (pa_cons pe_str pa_nil)))) (by rfl)) (pss_one (ps_ret (pe_fe (a := p.1) (oe := p.2) (by exact List.mem_cons_self) hz hd (pv 0)))) pss_nil)
      (pss_cons (ps_if (pt_cmpR (show OpR _ (compareOp .In) (rIn K false) from op_in_seq) (pe_fe (a := p.1) (oe := p.2) (by exact List.mem_cons_self) hz hd (pv 0)) (pe_tup (pa_cons pe_str (pa_cons pe_str pa_nil))) (by rfl)) (pss_one (ps_ret (pe_ifExp (pt_cmpR op_eq (pe_fe (a := p.1) (oe := p.2) (by exact List.mem_cons_self) hz hd (pv 0)) pe_str (nomark _)) (pe_fe (a := p.1) (oe := p.2) (by exact List.mem_cons_self) hz hd (pv 0)) (pe_fe (a := p.1) (oe := p.2) (by exact List.mem_cons_self) hz hd (pv 0))))) pss_nil)
      (pss_one (ps_ret (pe_fe (a := p.1) (oe := p.2) (by exact List.mem_cons_self) hz hd (pv 0))))))))), ?_⟩
    have lt : List.lookup (Str.ofString "tag") [(fld, v), (Str.ofString "tag", V.str tag)] = some (.str tag) := by
      rcases ht with ⟨_, rfl⟩ | ⟨_, rfl⟩ | ⟨_, rfl⟩ | ⟨_, rfl⟩ | ⟨_, rfl⟩ | ⟨_, rfl⟩ | ⟨_, rfl⟩ | ⟨_, rfl⟩ <;> rfl
    have lf : List.lookup fld [(fld, v), (Str.ofString "tag", V.str tag)] = some v := by simp [List.lookup]
    rcases ht with ⟨hm, rfl⟩ | ⟨hm, rfl⟩ | ⟨hm, rfl⟩ | ⟨hm, rfl⟩ | ⟨hm, rfl⟩ | ⟨hm, rfl⟩ | ⟨hm, rfl⟩ | ⟨hm, rfl⟩
    · have e : inV (.str tag) (nodeTags.map V.str) = true ∧ True := by
        simp only [nodeTags, List.mem_cons, List.not_mem_nil, or_false] at hm
        rcases hm with z | z | z | z | z | z | z | z <;> (subst z; exact ⟨rfl, trivial⟩)
      refine ⟨_, rfl, rfl, C, dd, _, _, ec, xf, nt, ed, hdd, lt, by show 8 ≤ sizeLine; decide, fun t1 n1 => ?_⟩
      have s1 := (same_new (o := .tup (nodeTags.map V.str)) n1)
      refine ⟨t1, _, rfl, .inr (SqT.of upd_same), rfl, rfl, _, rfl, ?_⟩
      show if inV (.str tag) (nodeTags.map V.str) = true then _ else _
      rw [e.1]
      exact iteT ⟨_, rfl, rfl, C, dd, _, _, ec, xf, nf, ed, s1 _ _ hdd, lf, q _ s1⟩
    · have e : inV (.str tag) (nodeTags.map V.str) = false ∧ inV (.str tag) (limitTags.map V.str) = true ∧ True := by
        simp only [limitTags, List.mem_cons, List.not_mem_nil, or_false] at hm
        rcases hm with z | z | z | z <;> (subst z; exact ⟨rfl, rfl, trivial⟩)
      refine ⟨_, rfl, rfl, C, dd, _, _, ec, xf, nt, ed, hdd, lt, by show 8 ≤ sizeLine; decide, fun t1 n1 => ?_⟩
      have s1 := (same_new (o := .tup (nodeTags.map V.str)) n1)
      refine ⟨t1, _, rfl, .inr (SqT.of upd_same), rfl, rfl, _, rfl, ?_⟩
      show if inV (.str tag) (nodeTags.map V.str) = true then _ else _
      rw [e.1]
      refine iteF ⟨_, rfl, rfl, C, dd, _, _, ec, xf, nt, ed, s1 _ _ hdd, lt, by show 4 ≤ sizeLine; decide, fun t2 n2 => ?_⟩
      have s2 := s1.trans (same_new (o := .tup (limitTags.map V.str)) n2)
      refine ⟨t2, _, rfl, .inr (SqT.of upd_same), rfl, rfl, _, rfl, ?_⟩
      show if inV (.str tag) (limitTags.map V.str) = true then _ else _
      rw [e.2.1]
      exact iteT ⟨_, rfl, rfl, C, dd, _, _, ec, xf, nf, ed, s2 _ _ hdd, lf, q _ s2⟩
    · have e : inV (.str tag) (nodeTags.map V.str) = false ∧ inV (.str tag) (limitTags.map V.str) = false ∧ inV (.str tag) (posTags.map V.str) = true ∧ True := by
        simp only [posTags, List.mem_cons, List.not_mem_nil, or_false] at hm
        rcases hm with z | z | z | z <;> (subst z; exact ⟨rfl, rfl, rfl, trivial⟩)
      refine ⟨_, rfl, rfl, C, dd, _, _, ec, xf, nt, ed, hdd, lt, by show 8 ≤ sizeLine; decide, fun t1 n1 => ?_⟩
      have s1 := (same_new (o := .tup (nodeTags.map V.str)) n1)
      refine ⟨t1, _, rfl, .inr (SqT.of upd_same), rfl, rfl, _, rfl, ?_⟩
      show if inV (.str tag) (nodeTags.map V.str) = true then _ else _
      rw [e.1]
      refine iteF ⟨_, rfl, rfl, C, dd, _, _, ec, xf, nt, ed, s1 _ _ hdd, lt, by show 4 ≤ sizeLine; decide, fun t2 n2 => ?_⟩
      have s2 := s1.trans (same_new (o := .tup (limitTags.map V.str)) n2)
      refine ⟨t2, _, rfl, .inr (SqT.of upd_same), rfl, rfl, _, rfl, ?_⟩
      show if inV (.str tag) (limitTags.map V.str) = true then _ else _
      rw [e.2.1]
      refine iteF ⟨_, rfl, rfl, C, dd, _, _, ec, xf, nt, ed, s2 _ _ hdd, lt, by show 4 ≤ sizeLine; decide, fun t3 n3 => ?_⟩
      have s3 := s2.trans (same_new (o := .tup (posTags.map V.str)) n3)
      refine ⟨t3, _, rfl, .inr (SqT.of upd_same), rfl, rfl, _, rfl, ?_⟩
      show if inV (.str tag) (posTags.map V.str) = true then _ else _
      rw [e.2.2.1]
      exact iteT ⟨_, rfl, rfl, C, dd, _, _, ec, xf, nf, ed, s3 _ _ hdd, lf, q _ s3⟩
    · have e : inV (.str tag) (nodeTags.map V.str) = false ∧ inV (.str tag) (limitTags.map V.str) = false ∧ inV (.str tag) (posTags.map V.str) = false ∧ inV (.str tag) (sizeTags.map V.str) = true ∧ True := by
        simp only [sizeTags, List.mem_cons, List.not_mem_nil, or_false] at hm
        rcases hm with z | z <;> (subst z; exact ⟨rfl, rfl, rfl, rfl, trivial⟩)
      refine ⟨_, rfl, rfl, C, dd, _, _, ec, xf, nt, ed, hdd, lt, by show 8 ≤ sizeLine; decide, fun t1 n1 => ?_⟩
      have s1 := (same_new (o := .tup (nodeTags.map V.str)) n1)
      refine ⟨t1, _, rfl, .inr (SqT.of upd_same), rfl, rfl, _, rfl, ?_⟩
      show if inV (.str tag) (nodeTags.map V.str) = true then _ else _
      rw [e.1]
      refine iteF ⟨_, rfl, rfl, C, dd, _, _, ec, xf, nt, ed, s1 _ _ hdd, lt, by show 4 ≤ sizeLine; decide, fun t2 n2 => ?_⟩
      have s2 := s1.trans (same_new (o := .tup (limitTags.map V.str)) n2)
      refine ⟨t2, _, rfl, .inr (SqT.of upd_same), rfl, rfl, _, rfl, ?_⟩
      show if inV (.str tag) (limitTags.map V.str) = true then _ else _
      rw [e.2.1]
      refine iteF ⟨_, rfl, rfl, C, dd, _, _, ec, xf, nt, ed, s2 _ _ hdd, lt, by show 4 ≤ sizeLine; decide, fun t3 n3 => ?_⟩
      have s3 := s2.trans (same_new (o := .tup (posTags.map V.str)) n3)
      refine ⟨t3, _, rfl, .inr (SqT.of upd_same), rfl, rfl, _, rfl, ?_⟩
      show if inV (.str tag) (posTags.map V.str) = true then _ else _
      rw [e.2.2.1]
      refine iteF ⟨_, rfl, rfl, C, dd, _, _, ec, xf, nt, ed, s3 _ _ hdd, lt, by show 2 ≤ sizeLine; decide, fun t4 n4 => ?_⟩
      have s4 := s3.trans (same_new (o := .tup (sizeTags.map V.str)) n4)
      refine ⟨t4, _, rfl, .inr (SqT.of upd_same), rfl, rfl, _, rfl, ?_⟩
      show if inV (.str tag) (sizeTags.map V.str) = true then _ else _
      rw [e.2.2.2.1]
      exact iteT ⟨_, rfl, rfl, C, dd, _, _, ec, xf, nf, ed, s4 _ _ hdd, lf, q _ s4⟩
    · have e : inV (.str tag) (nodeTags.map V.str) = false ∧ inV (.str tag) (limitTags.map V.str) = false ∧ inV (.str tag) (posTags.map V.str) = false ∧ inV (.str tag) (sizeTags.map V.str) = false ∧ inV (.str tag) (nameTags.map V.str) = true ∧ True := by
        simp only [nameTags, List.mem_cons, List.not_mem_nil, or_false] at hm
        rcases hm with z | z | z <;> (subst z; exact ⟨rfl, rfl, rfl, rfl, rfl, trivial⟩)
      refine ⟨_, rfl, rfl, C, dd, _, _, ec, xf, nt, ed, hdd, lt, by show 8 ≤ sizeLine; decide, fun t1 n1 => ?_⟩
      have s1 := (same_new (o := .tup (nodeTags.map V.str)) n1)
      refine ⟨t1, _, rfl, .inr (SqT.of upd_same), rfl, rfl, _, rfl, ?_⟩
      show if inV (.str tag) (nodeTags.map V.str) = true then _ else _
      rw [e.1]
      refine iteF ⟨_, rfl, rfl, C, dd, _, _, ec, xf, nt, ed, s1 _ _ hdd, lt, by show 4 ≤ sizeLine; decide, fun t2 n2 => ?_⟩
      have s2 := s1.trans (same_new (o := .tup (limitTags.map V.str)) n2)
      refine ⟨t2, _, rfl, .inr (SqT.of upd_same), rfl, rfl, _, rfl, ?_⟩
      show if inV (.str tag) (limitTags.map V.str) = true then _ else _
      rw [e.2.1]
      refine iteF ⟨_, rfl, rfl, C, dd, _, _, ec, xf, nt, ed, s2 _ _ hdd, lt, by show 4 ≤ sizeLine; decide, fun t3 n3 => ?_⟩
      have s3 := s2.trans (same_new (o := .tup (posTags.map V.str)) n3)
      refine ⟨t3, _, rfl, .inr (SqT.of upd_same), rfl, rfl, _, rfl, ?_⟩
      show if inV (.str tag) (posTags.map V.str) = true then _ else _
      rw [e.2.2.1]
      refine iteF ⟨_, rfl, rfl, C, dd, _, _, ec, xf, nt, ed, s3 _ _ hdd, lt, by show 2 ≤ sizeLine; decide, fun t4 n4 => ?_⟩
      have s4 := s3.trans (same_new (o := .tup (sizeTags.map V.str)) n4)
      refine ⟨t4, _, rfl, .inr (SqT.of upd_same), rfl, rfl, _, rfl, ?_⟩
      show if inV (.str tag) (sizeTags.map V.str) = true then _ else _
      rw [e.2.2.2.1]
      refine iteF ⟨_, rfl, rfl, C, dd, _, _, ec, xf, nt, ed, s4 _ _ hdd, lt, by show 3 ≤ sizeLine; decide, fun t5 n5 => ?_⟩
      have s5 := s4.trans (same_new (o := .tup (nameTags.map V.str)) n5)
      refine ⟨t5, _, rfl, .inr (SqT.of upd_same), rfl, rfl, _, rfl, ?_⟩
      show if inV (.str tag) (nameTags.map V.str) = true then _ else _
      rw [e.2.2.2.2.1]
      exact iteT ⟨_, rfl, rfl, C, dd, _, _, ec, xf, nf, ed, s5 _ _ hdd, lf, q _ s5⟩
    · have e : inV (.str tag) (nodeTags.map V.str) = false ∧ inV (.str tag) (limitTags.map V.str) = false ∧ inV (.str tag) (posTags.map V.str) = false ∧ inV (.str tag) (sizeTags.map V.str) = false ∧ inV (.str tag) (nameTags.map V.str) = false ∧ inV (.str tag) (wordTags.map V.str) = true ∧ True := by subst hm; exact ⟨rfl, rfl, rfl, rfl, rfl, rfl, trivial⟩
      refine ⟨_, rfl, rfl, C, dd, _, _, ec, xf, nt, ed, hdd, lt, by show 8 ≤ sizeLine; decide, fun t1 n1 => ?_⟩
      have s1 := (same_new (o := .tup (nodeTags.map V.str)) n1)
      refine ⟨t1, _, rfl, .inr (SqT.of upd_same), rfl, rfl, _, rfl, ?_⟩
      show if inV (.str tag) (nodeTags.map V.str) = true then _ else _
      rw [e.1]
      refine iteF ⟨_, rfl, rfl, C, dd, _, _, ec, xf, nt, ed, s1 _ _ hdd, lt, by show 4 ≤ sizeLine; decide, fun t2 n2 => ?_⟩
      have s2 := s1.trans (same_new (o := .tup (limitTags.map V.str)) n2)
      refine ⟨t2, _, rfl, .inr (SqT.of upd_same), rfl, rfl, _, rfl, ?_⟩
      show if inV (.str tag) (limitTags.map V.str) = true then _ else _
      rw [e.2.1]
      refine iteF ⟨_, rfl, rfl, C, dd, _, _, ec, xf, nt, ed, s2 _ _ hdd, lt, by show 4 ≤ sizeLine; decide, fun t3 n3 => ?_⟩
      have s3 := s2.trans (same_new (o := .tup (posTags.map V.str)) n3)
      refine ⟨t3, _, rfl, .inr (SqT.of upd_same), rfl, rfl, _, rfl, ?_⟩
      show if inV (.str tag) (posTags.map V.str) = true then _ else _
      rw [e.2.2.1]
      refine iteF ⟨_, rfl, rfl, C, dd, _, _, ec, xf, nt, ed, s3 _ _ hdd, lt, by show 2 ≤ sizeLine; decide, fun t4 n4 => ?_⟩
      have s4 := s3.trans (same_new (o := .tup (sizeTags.map V.str)) n4)
      refine ⟨t4, _, rfl, .inr (SqT.of upd_same), rfl, rfl, _, rfl, ?_⟩
      show if inV (.str tag) (sizeTags.map V.str) = true then _ else _
      rw [e.2.2.2.1]
      refine iteF ⟨_, rfl, rfl, C, dd, _, _, ec, xf, nt, ed, s4 _ _ hdd, lt, by show 3 ≤ sizeLine; decide, fun t5 n5 => ?_⟩
      have s5 := s4.trans (same_new (o := .tup (nameTags.map V.str)) n5)
      refine ⟨t5, _, rfl, .inr (SqT.of upd_same), rfl, rfl, _, rfl, ?_⟩
      show if inV (.str tag) (nameTags.map V.str) = true then _ else _
      rw [e.2.2.2.2.1]
      refine iteF ⟨_, rfl, rfl, C, dd, _, _, ec, xf, nt, ed, s5 _ _ hdd, lt, by show 2 ≤ sizeLine; decide, fun t6 n6 => ?_⟩
      have s6 := s5.trans (same_new (o := .tup (wordTags.map V.str)) n6)
      refine ⟨t6, _, rfl, .inr (SqT.of upd_same), rfl, rfl, _, rfl, ?_⟩
      show if inV (.str tag) (wordTags.map V.str) = true then _ else _
      rw [e.2.2.2.2.2.1]
      refine iteT ⟨_, rfl, rfl, C, dd, _, _, ec, xf, nt, ed, s6 _ _ hdd, lt, rfl, _, rfl, ?_⟩
      subst hm
      exact iteT ⟨_, rfl, rfl, C, dd, _, _, ec, xf, nf, ed, s6 _ _ hdd, lf, q _ s6⟩
    · have e : inV (.str tag) (nodeTags.map V.str) = false ∧ inV (.str tag) (limitTags.map V.str) = false ∧ inV (.str tag) (posTags.map V.str) = false ∧ inV (.str tag) (sizeTags.map V.str) = false ∧ inV (.str tag) (nameTags.map V.str) = false ∧ inV (.str tag) (wordTags.map V.str) = true ∧ True := by subst hm; exact ⟨rfl, rfl, rfl, rfl, rfl, rfl, trivial⟩
      refine ⟨_, rfl, rfl, C, dd, _, _, ec, xf, nt, ed, hdd, lt, by show 8 ≤ sizeLine; decide, fun t1 n1 => ?_⟩
      have s1 := (same_new (o := .tup (nodeTags.map V.str)) n1)
      refine ⟨t1, _, rfl, .inr (SqT.of upd_same), rfl, rfl, _, rfl, ?_⟩
      show if inV (.str tag) (nodeTags.map V.str) = true then _ else _
      rw [e.1]
      refine iteF ⟨_, rfl, rfl, C, dd, _, _, ec, xf, nt, ed, s1 _ _ hdd, lt, by show 4 ≤ sizeLine; decide, fun t2 n2 => ?_⟩
      have s2 := s1.trans (same_new (o := .tup (limitTags.map V.str)) n2)
      refine ⟨t2, _, rfl, .inr (SqT.of upd_same), rfl, rfl, _, rfl, ?_⟩
      show if inV (.str tag) (limitTags.map V.str) = true then _ else _
      rw [e.2.1]
      refine iteF ⟨_, rfl, rfl, C, dd, _, _, ec, xf, nt, ed, s2 _ _ hdd, lt, by show 4 ≤ sizeLine; decide, fun t3 n3 => ?_⟩
      have s3 := s2.trans (same_new (o := .tup (posTags.map V.str)) n3)
      refine ⟨t3, _, rfl, .inr (SqT.of upd_same), rfl, rfl, _, rfl, ?_⟩
      show if inV (.str tag) (posTags.map V.str) = true then _ else _
      rw [e.2.2.1]
      refine iteF ⟨_, rfl, rfl, C, dd, _, _, ec, xf, nt, ed, s3 _ _ hdd, lt, by show 2 ≤ sizeLine; decide, fun t4 n4 => ?_⟩
      have s4 := s3.trans (same_new (o := .tup (sizeTags.map V.str)) n4)
      refine ⟨t4, _, rfl, .inr (SqT.of upd_same), rfl, rfl, _, rfl, ?_⟩
      show if inV (.str tag) (sizeTags.map V.str) = true then _ else _
      rw [e.2.2.2.1]
      refine iteF ⟨_, rfl, rfl, C, dd, _, _, ec, xf, nt, ed, s4 _ _ hdd, lt, by show 3 ≤ sizeLine; decide, fun t5 n5 => ?_⟩
      have s5 := s4.trans (same_new (o := .tup (nameTags.map V.str)) n5)
      refine ⟨t5, _, rfl, .inr (SqT.of upd_same), rfl, rfl, _, rfl, ?_⟩
      show if inV (.str tag) (nameTags.map V.str) = true then _ else _
      rw [e.2.2.2.2.1]
      refine iteF ⟨_, rfl, rfl, C, dd, _, _, ec, xf, nt, ed, s5 _ _ hdd, lt, by show 2 ≤ sizeLine; decide, fun t6 n6 => ?_⟩
      have s6 := s5.trans (same_new (o := .tup (wordTags.map V.str)) n6)
      refine ⟨t6, _, rfl, .inr (SqT.of upd_same), rfl, rfl, _, rfl, ?_⟩
      show if inV (.str tag) (wordTags.map V.str) = true then _ else _
      rw [e.2.2.2.2.2.1]
      refine iteT ⟨_, rfl, rfl, C, dd, _, _, ec, xf, nt, ed, s6 _ _ hdd, lt, rfl, _, rfl, ?_⟩
      subst hm
      exact iteF ⟨_, rfl, rfl, C, dd, _, _, ec, xf, nf, ed, s6 _ _ hdd, lf, q _ s6⟩
    · have e : inV (.str tag) (nodeTags.map V.str) = false ∧ inV (.str tag) (limitTags.map V.str) = false ∧ inV (.str tag) (posTags.map V.str) = false ∧ inV (.str tag) (sizeTags.map V.str) = false ∧ inV (.str tag) (nameTags.map V.str) = false ∧ inV (.str tag) (wordTags.map V.str) = false ∧ True := by subst hm; exact ⟨rfl, rfl, rfl, rfl, rfl, rfl, trivial⟩
      refine ⟨_, rfl, rfl, C, dd, _, _, ec, xf, nt, ed, hdd, lt, by show 8 ≤ sizeLine; decide, fun t1 n1 => ?_⟩
      have s1 := (same_new (o := .tup (nodeTags.map V.str)) n1)
      refine ⟨t1, _, rfl, .inr (SqT.of upd_same), rfl, rfl, _, rfl, ?_⟩
      show if inV (.str tag) (nodeTags.map V.str) = true then _ else _
      rw [e.1]
      refine iteF ⟨_, rfl, rfl, C, dd, _, _, ec, xf, nt, ed, s1 _ _ hdd, lt, by show 4 ≤ sizeLine; decide, fun t2 n2 => ?_⟩
      have s2 := s1.trans (same_new (o := .tup (limitTags.map V.str)) n2)
      refine ⟨t2, _, rfl, .inr (SqT.of upd_same), rfl, rfl, _, rfl, ?_⟩
      show if inV (.str tag) (limitTags.map V.str) = true then _ else _
      rw [e.2.1]
      refine iteF ⟨_, rfl, rfl, C, dd, _, _, ec, xf, nt, ed, s2 _ _ hdd, lt, by show 4 ≤ sizeLine; decide, fun t3 n3 => ?_⟩
      have s3 := s2.trans (same_new (o := .tup (posTags.map V.str)) n3)
      refine ⟨t3, _, rfl, .inr (SqT.of upd_same), rfl, rfl, _, rfl, ?_⟩
      show if inV (.str tag) (posTags.map V.str) = true then _ else _
      rw [e.2.2.1]
      refine iteF ⟨_, rfl, rfl, C, dd, _, _, ec, xf, nt, ed, s3 _ _ hdd, lt, by show 2 ≤ sizeLine; decide, fun t4 n4 => ?_⟩
      have s4 := s3.trans (same_new (o := .tup (sizeTags.map V.str)) n4)
      refine ⟨t4, _, rfl, .inr (SqT.of upd_same), rfl, rfl, _, rfl, ?_⟩
      show if inV (.str tag) (sizeTags.map V.str) = true then _ else _
      rw [e.2.2.2.1]
      refine iteF ⟨_, rfl, rfl, C, dd, _, _, ec, xf, nt, ed, s4 _ _ hdd, lt, by show 3 ≤ sizeLine; decide, fun t5 n5 => ?_⟩
      have s5 := s4.trans (same_new (o := .tup (nameTags.map V.str)) n5)
      refine ⟨t5, _, rfl, .inr (SqT.of upd_same), rfl, rfl, _, rfl, ?_⟩
      show if inV (.str tag) (nameTags.map V.str) = true then _ else _
      rw [e.2.2.2.2.1]
      refine iteF ⟨_, rfl, rfl, C, dd, _, _, ec, xf, nt, ed, s5 _ _ hdd, lt, by show 2 ≤ sizeLine; decide, fun t6 n6 => ?_⟩
      have s6 := s5.trans (same_new (o := .tup (wordTags.map V.str)) n6)
      refine ⟨t6, _, rfl, .inr (SqT.of upd_same), rfl, rfl, _, rfl, ?_⟩
      show if inV (.str tag) (wordTags.map V.str) = true then _ else _
      rw [e.2.2.2.2.2.1]
      exact iteF ⟨_, rfl, rfl, C, dd, _, _, ec, xf, nf, ed, s6 _ _ hdd, lf, q _ s6⟩
end
section
variable {P : Program} {w : World} {K : PySem.W.Frag} {mg : Str → Option Value} {base : Heap}
/-- what the law makes of what it asks -/
def OutE (K : PySem.W.Frag) (CF CM : Addr) (Q : Str → V → Addr → Hp → Hp → Prop) : XK := fun cls d H1 => PySem.W.exmAny K cls [.ref CF, .ref CM] = some true ∧ ∃ (tag fld : Str) (v : V), Told K cls d H1 tag fld v ∧ TagOk tag fld ∧ ∀ t H2, H1 t = none → Same H1 H2 → Q tag v t H1 H2
end
section
variable {P : Program} {w : World} {K : PySem.W.Frag} {mg : Str → Option Value} {base : Heap}
def TTout (K : PySem.W.Frag) (CF CM : Addr) (tl : XK → Hp → VK → Prop) (H : Hp) (Q : VK) : Prop := ∀ Ha, Same H Ha → ∃ (E1 : XK) (Q1 : VK), tl E1 Ha Q1 ∧
  (∀ cls d H1, E1 cls d H1 → OutE K CF CM (fun tag v t _ H2 => H2 t = some (.tup [.non, .str tag, v]) → Q (.ref t) H2) cls d H1) ∧ ∀ v H1, Q1 v H1 → ∀ t H2, H1 t = none → Same H1 H2 → H2 t = some (.tup [v, .str "", .non]) → Q (.ref t) H2
end
section
variable {P : Program} {w : World} {K : PySem.W.Frag} {mg : Str → Option Value} {base : Heap}
theorem ok_out {f fF CF CM CE : Addr} {fd fdF : FuncData} (F : Fun K "_law_outcome" "_law_outcome" sOut f fd) (b : Binds K fd ["_law_ask"] []) (G : FnE P w K mg base CX0 1 fF fdF ["_law_e"] (spField K)) (kF : PySem.W.keepIn K (.ref fF) = true) (bF : Binds K fdF ["_law_e"] []) (gF : mg "_law_field" = some (.ref fF))
    (g1 : mg "ForestError" = some (.ref CF)) (g2 : mg "Missing" = some (.ref CM)) (g3 : mg "EmptyHistory" = some (.ref CE)) : FnL P w K mg base 3 f (TTout K CF CM) := by
  refine fnL_of F scOut b fun kk ask fs s0 H0 tl ac cdv A outer s H Q hr hU ho hz ht => ?_
  refine ⟨_, pss_cons (ps_asg (pe_tup (pa_cons pe_non (pa_cons pe_str (pa_cons pe_non pa_nil)))) (pg_tup rfl (pgs_cons (pg_name (i := 1) scOut.nd rfl (.inl rfl)) (pgs_cons (pg_name (i := 2) scOut.nd rfl (.inl rfl)) (pgs_cons (pg_name (i := 3) scOut.nd rfl (.inl rfl)) pgs_nil)))))
    (pss_cons (ps_tryC (X := cxOf C8.CX0 P w K mg base _ "_law_outcome" (defScope sOut) f cdv A outer s H C8.E0) (tb := fun W D σ H => σ[0]? = some (some (.ref ask)) ∧ ∃ (E1 : XK) (Q1 : VK), tl E1 H Q1 ∧ (∀ cls d H1, E1 cls d H1 → W cls d σ H1) ∧ ∀ v H1, Q1 v H1 → D.nx (σ.set 1 (some v)) H1) rfl rfl (Wout := fun _ _ _ _ => False) takesN0 (fun W pn xe tk _ => ?_)
      (.named (i := 4) scOut.nd rfl rfl (tst_two (by rfl) g1 (by rfl) g2) (fun a oe cls d pn hz hd => pss_one (ps_parH (X := Cx.suite (cxOf C8.CX0 P w K mg base ["_law_ask", "_law_answer", "_law_tag", "_law_field_here", "_law_e"] "_law_outcome" (defScope sOut) f cdv A outer s H C8.E0) a ((a, oe) :: pn)) (i := 2) (j := 3) ?_ scOut.nd rfl rfl (by decide) rfl rfl (pa_cons (show PE (Cx.suite (cxOf C8.CX0 P w K mg base ["_law_ask", "_law_answer", "_law_tag", "_law_field_here", "_law_e"] "_law_outcome" (defScope sOut) f cdv A outer s H C8.E0) a ((a, oe) :: pn)) _ (tFe K a cls d "tag" (tVar 4)) from pe_fe (X := Cx.suite (cxOf C8.CX0 P w K mg base ["_law_ask", "_law_answer", "_law_tag", "_law_field_here", "_law_e"] "_law_outcome" (defScope sOut) f cdv A outer s H C8.E0) a ((a, oe) :: pn))  (by exact List.mem_cons_self) hz.zc hd (pv 4)) (pa_cons (pe_callE (X := Cx.suite (cxOf C8.CX0 P w K mg base ["_law_ask", "_law_answer", "_law_tag", "_law_field_here", "_law_e"] "_law_outcome" (defScope sOut) f cdv A outer s H C8.E0) a ((a, oe) :: pn))  G ?_ (by exact List.mem_cons_self) hz.zc hd (by rfl) gF kF bF pass0 (pa_cons (pv 4) pa_nil)) pa_nil)) (by rfl)))
      (.named (i := 4) scOut.nd rfl rfl (tst_one (by rfl) g3) (fun a oe cls d pn hz hd => pss_one ps_never) .nil)))
    (pss_one (ps_ret (pe_tup (pa_cons (pv 1) (pa_cons (pv 2) (pa_cons (pv 3) pa_nil))))))), ?_⟩
  · exact pss_one (ps_set (i := 1) scOut.nd rfl (.inl rfl) (pe_do (Z := (cxOf C8.CX0 P w K mg base ["_law_ask", "_law_answer", "_law_tag", "_law_field_here", "_law_e"] "_law_outcome" (defScope sOut) f cdv A outer s H C8.E0).tr pn xe) (i := 0) ac (hr.mono (by omega)) rfl hU ho tk rfl (.inl rfl)))
  · obtain ⟨vs, hv⟩ := hd
    exact ⟨(a, oe), ⟨rfl, vs, hv, hz.2.2 vs hv⟩, List.mem_cons_self⟩
  · exact L2H.RoomH.mono (k := kk + 2) ⟨hr.dp, hr.un⟩ (by omega)
  · refine ⟨by show 3 ≤ sizeLine; decide, fun t0 n0 => ?_⟩
    have s1 := same_new (o := .tup [.non, .str "", .non]) n0
    refine ⟨t0, _, rfl, SqT.of upd_same, rfl, _, _, rfl, _, _, rfl, _, _, rfl, rfl, ?_⟩
    obtain ⟨E1, Q1, h1, h2, h3⟩ := ht _ s1
    refine ⟨rfl, E1, Q1, h1, fun cls d H1 h => ?_, fun v H1 h => ?_⟩
    · obtain ⟨hm, tag, fld, v, td, tg, q⟩ := h2 cls d H1 h
      obtain ⟨C, dd, ec, xf, nt, nf, ed, hdd⟩ := id td.ex
      have lt : List.lookup (Str.ofString "tag") [(fld, v), (Str.ofString "tag", V.str tag)] = some (.str tag) := by
        rcases tg with ⟨_, rfl⟩ | ⟨_, rfl⟩ | ⟨_, rfl⟩ | ⟨_, rfl⟩ | ⟨_, rfl⟩ | ⟨_, rfl⟩ | ⟨_, rfl⟩ | ⟨_, rfl⟩ <;> rfl
      refine ⟨true, hm, fun _ a na => ?_, fun z => by cases z⟩
      refine ⟨_, rfl, rfl, C, dd, _, _, ec, xf, nt, ed, hdd, lt, _, rfl, rfl, tag, fld, v, td, tg, fun H2 s2 => ⟨_, _, rfl, ?_⟩⟩
      exact ⟨_, rfl, _, rfl, _, rfl, by show 3 ≤ sizeLine; decide, fun t n => q t _ (sm_none s2 n) (s2.trans (same_new n)) upd_same⟩
    · exact ⟨_, rfl, _, rfl, _, rfl, by show 3 ≤ sizeLine; decide, fun t n => h3 v H1 h t _ n (same_new n) upd_same⟩
end
section
variable {P : Program} {w : World} {K : PySem.W.Frag} {mg : Str → Option Value} {base : Heap}
/-- the same without the answer -/
def TTerr (K : PySem.W.Frag) (CF CM : Addr) (tl : XK → Hp → VK → Prop) (H : Hp) (Q : VK) : Prop := ∀ Ha, Same H Ha → ∃ (E1 : XK) (Q1 : VK), tl E1 Ha Q1 ∧
  (∀ cls d H1, E1 cls d H1 → OutE K CF CM (fun tag v t _ H2 => H2 t = some (.tup [.str tag, v]) → Q (.ref t) H2) cls d H1) ∧ ∀ v H1, Q1 v H1 → ∀ t H2, H1 t = none → Same H1 H2 → H2 t = some (.tup [.str "", .non]) → Q (.ref t) H2
end
section
variable {P : Program} {w : World} {K : PySem.W.Frag} {mg : Str → Option Value} {base : Heap}
theorem cut3 (a b c : V) : cutV [a, b, c] (some 1) none = [b, c] := rfl
end
section
variable {P : Program} {w : World} {K : PySem.W.Frag} {mg : Str → Option Value} {base : Heap}
theorem ok_err {f fO CF CM : Addr} {fd : FuncData} (F : Fun K "_law_error" "_law_error" sErr f fd) (b : Binds K fd ["_law_ask"] []) (G : FnL P w K mg base 3 fO (TTout K CF CM)) (kO : PySem.W.keepIn K (.ref fO) = true) (gO : mg "_law_outcome" = some (.ref fO)) : FnL P w K mg base 4 f (TTerr K CF CM) := by
  refine fnL_of F scErr b fun kk ask fs s0 H0 tl ac cdv A outer s H Q hr hU ho hz ht => ?_
  refine ⟨_, pss_one (ps_ret (pe_slice sl_tup (pe_hand (Z := cxOf C8.CX0 P w K mg base ["_law_ask"] "_law_error" (defScope sErr) f cdv A outer s H C8.E0) (i := 0) G ac hr rfl hU ?_ (by rfl) gO kO rfl (.inl rfl) ?_ hz) (po_some pe_int) po_none)), ?_⟩
  · intro c hc
    rcases List.mem_cons.mp (show c ∈ s.heap.objs.size :: frs outer from hc) with z | z
    · exact .inr (z ▸ hz)
    · exact ho c z
  · exact fun c hc => List.mem_cons_of_mem _ hc
  · refine ⟨rfl, fun Ha sa => ?_⟩
    obtain ⟨E1, Q1, h1, h2, h3⟩ := ht Ha sa
    refine ⟨E1, Q1, h1, fun cls d H1 h => ?_, fun v H1 h t H2 n s2 e => ?_⟩
    · obtain ⟨hm, tag, fld, v, td, tg, q⟩ := h2 cls d H1 h
      refine ⟨hm, tag, fld, v, td, tg, fun t H2 n s2 e => ?_⟩
      refine ⟨_, rfl, t, _, rfl, SqT.of e, by simp [HT.sIx], fun t2 n2 => ?_⟩
      rw [cut3]
      exact q t2 _ (sm_none s2 n2) (s2.trans (same_new n2)) upd_same
    · refine ⟨_, rfl, t, _, rfl, SqT.of e, by simp [HT.sIx], fun t2 n2 => ?_⟩
      rw [cut3]
      exact h3 v H1 h t2 _ (sm_none s2 n2) (s2.trans (same_new n2)) upd_same
end
/-- an integer that is no node -/
def spStrange : Sp := fun vs H Q _ => ∃ (d l : Addr) (n : Nat), vs = [.ref d, vi n] ∧ DrawAt H d l ∧ n ≤ 1000 ∧ ∀ (z : Int) H', (z < 0 ∨ (n : Int) ≤ z) → -2000000000 ≤ z → z ≤ 2000000000 → DrawAt H' d l → Sb d H H' → Q (.int z) H'
section
variable {P : Program} {w : World} {K : PySem.W.Frag} {mg : Str → Option Value} {base : Heap}
def spNumX (C : Addr) : Sp := fun vs H Q E => ∃ (n x : Int), vs = [.int n, .int x] ∧ (x < 0 ∨ n ≤ x) ∧ x.natAbs.log2 < 1920 ∧ Flies H E C "node" "NoNode" (.int x)
end
def spLawT (K : PySem.W.Frag) (PT : Addr) : Sp := fun vs H Q _ => ∃ (a : Addr) (ns : List Int), vs = [.ref a] ∧ H PT = some (.tbl #[]) ∧ SqL K H a (ns.map V.int) ∧ ns.length ≤ 63 ∧ ∀ H1, Q (.bl true) H1
/-- a second find of the same node -/
theorem again_same {n : Nat} {p r : Nat → Nat} (F : Fo n p r) {x : Nat} (hx : x < n) (v : Nat) (hv : v < n) : fnd n (fnd n p x) x v = fnd n p x v := by
  have h := behind_same F (l := [x]) (m := [x, x]) (by intro y hy; rw [List.mem_singleton.mp hy]; exact hx) (fun y => by simp) v hv
  exact h
theorem again_cost {n : Nat} {p r : Nat → Nat} (F : Fo n p r) {x : Nat} (hx : x < n) : (ups (fnd n p x) n x).length = low p x := by
  have h1 := cost_total F [x] (by intro y hy; rw [List.mem_singleton.mp hy]; exact hx)
  have h2 := cost_total F [x, x] (by intro y hy; simp at hy; rw [hy]; exact hx)
  have e : (List.range n).countP (fun v => deep p v && markB n p [x, x] v) = (List.range n).countP (fun v => deep p v && markB n p [x] v) := by
    refine List.countP_congr fun v _ => ?_
    rw [mark_same (n := n) (p := p) (l := [x, x]) (m := [x]) (fun y => by simp) v]
  rw [e] at h2
  simp only [costs, List.sum_cons, List.sum_nil, List.map_cons, List.map_nil] at h1 h2
  omega
theorem low_min {n : Nat} {p r : Nat → Nat} (F : Fo n p r) {x : Nat} (hx : x < n) : (if ((ups p n x).length : Int) < 1 then ((ups p n x).length : Int) else 1) = ((low p x : Nat) : Int) := by
  unfold low
  by_cases e : p x = x
  · rw [if_pos e, ups_of e]; simp
  · rw [if_neg e, ups_n F hx e, List.length_cons, if_neg (by omega)]; rfl
/-- all but tables stays, but what stands at d -/
theorem tabs_sb {T : List (Addr × Str)} {H H1 : Hp} {d : Addr} (t : Tabs T H) (s : Sb d H H1) (nd : ∃ xs, H d = some (.lst xs)) : Tabs T H1 := by
  obtain ⟨xs, hd⟩ := nd
  intro p hp
  obtain ⟨ps, h1, h2, h3⟩ := t p hp
  refine ⟨ps, s _ _ (ne_of h1 hd (by intro z; cases z)) h1, h2, fun pos cv hc => ?_⟩
  obtain ⟨c, e1, e2⟩ := h3 pos cv hc
  exact ⟨c, e1, s _ _ (ne_of e2 hd (by unfold CodeO; intro z; cases z)) e2⟩
theorem DrawAt.lst {H : Hp} {d l : Addr} (D : DrawAt H d l) : ∃ xs, H d = some (.lst xs) := by
  obtain ⟨ns, i, j, k, h, _⟩ := D
  exact ⟨_, h⟩
theorem DrawAt.ext {H H1 : Hp} {d l : Addr} (D : DrawAt H d l) (s : ExtN H H1) : DrawAt H1 d l := by
  obtain ⟨ns, i, j, k, h, h2, r⟩ := D
  exact ⟨ns, i, j, k, s _ _ h (by intro ps z; cases z), s _ _ h2 (by intro ps z; cases z), r⟩
theorem shaped_err {x : Str} (h : PyData.strOk x = true) (z : Int) : SeqAt.shaped (.tuple [.str x, .int z]) = true := by
  unfold SeqAt.shaped
  simp [PyData.canLay0, PyData.canLayAll0, PyData.depth, PyData.depthAll, h]
theorem bits_ok {z : Int} (h1 : -2000000000 ≤ z) (h2 : z ≤ 2000000000) : z.natAbs.log2 < 1920 := by
  by_cases h0 : z.natAbs = 0
  · rw [h0]; decide
  · refine (Nat.log2_lt h0).mpr (Nat.lt_of_le_of_lt (show z.natAbs ≤ 2000000000 by omega) ?_)
    exact Nat.lt_of_lt_of_le (show 2000000000 < 2 ^ 31 by decide) (Nat.pow_le_pow_right (by decide) (by decide))
/-- what a find answers, as data -/
def dFind (n : Nat) (q : Nat → Nat) (c : Nat) : PyData := .tuple [.tuple ((intsOf n q).map PyData.int), .int (c : Int)]
theorem dp_find {K : PySem.W.Frag} {H : Hp} {t g : Addr} {n c : Nat} {q : Nat → Nat} (h1 : H t = some (.tup [.ref g, vi c])) (h2 : SqT K H g (tupOf n q)) : Dp K H (.ref t) (dFind n q c) := by
  rw [tupOf_ints] at h2
  exact .tup (SqT.of h1) (.cons (.tup h2 (dpAll_ints _)) (.cons (.int _) .nil))
theorem sm_forest {n k : Nat} (h : n ≤ 6000) (q : Nat → Nat) : Sm (k + 1) (.tuple ((intsOf n q).map PyData.int)) := by
  refine .tup (by rw [List.length_map]; unfold intsOf; rw [List.length_map, List.length_range]; omega) fun d hd => ?_
  obtain ⟨i, _, e⟩ := List.mem_map.mp hd
  rw [← e]; exact .int _ _
theorem sm_find {n k : Nat} (h : n ≤ 6000) (q : Nat → Nat) (c : Nat) : Sm (k + 2) (dFind n q c) := by
  refine .tup (by show 2 ≤ 6000; decide) fun d hd => ?_
  rcases List.mem_cons.mp hd with z | z
  · rw [z]; exact sm_forest h q
  · rw [List.mem_singleton.mp z]; exact .int _ _
theorem cut_take (zs : List V) (j : Nat) : cutV zs none (some (j : Int)) = zs.take j := by
  unfold cutV
  rw [HT.sIx_none, HT.sIx_nat, List.drop_zero, Nat.sub_zero]
  by_cases h : j ≤ zs.length
  · rw [Nat.min_eq_left h]
  · rw [Nat.min_eq_right (by omega), List.take_of_length_le (Nat.le_refl _), List.take_of_length_le (by omega)]
theorem cut_drop (zs : List V) (j : Nat) : cutV zs (some (j : Int)) none = zs.drop j := by
  unfold cutV
  rw [HT.sIx_none, HT.sIx_nat]
  by_cases h : j ≤ zs.length
  · rw [Nat.min_eq_left h]
    exact List.take_of_length_le (by rw [List.length_drop]; omega)
  · rw [Nat.min_eq_right (by omega), List.drop_eq_nil_of_le (Nat.le_refl _), List.drop_eq_nil_of_le (by omega)]
    simp
/-- what a list of finds answers, as data -/
def dFindAll (n : Nat) (q : Nat → Nat) (cs : List Nat) : PyData := .tuple [.tuple ((intsOf n q).map PyData.int), .list ((cs.map fun n : Nat => (n : Int)).map PyData.int)]
theorem dp_nats {K : PySem.W.Frag} {H : Hp} {a : Addr} {l : List Nat} (h : SqL K H a (natsV l)) : Dp K H (.ref a) (.list ((l.map fun n : Nat => (n : Int)).map PyData.int)) := by
  rw [natsI] at h
  exact .lst h (dpAll_ints _)
theorem dp_forest {K : PySem.W.Frag} {H : Hp} {a : Addr} {n : Nat} {p : Nat → Nat} (h : SqT K H a (tupOf n p)) : Dp K H (.ref a) (.tuple ((intsOf n p).map PyData.int)) := by
  rw [tupOf_ints] at h
  exact .tup h (dpAll_ints _)
theorem dp_findAll {K : PySem.W.Frag} {H : Hp} {t g c : Addr} {n : Nat} {q : Nat → Nat} {cs : List Nat} (h1 : H t = some (.tup [.ref g, .ref c])) (h2 : SqT K H g (tupOf n q)) (h3 : SqL K H c (natsV cs)) : Dp K H (.ref t) (dFindAll n q cs) :=
  .tup (SqT.of h1) (.cons (dp_forest h2) (.cons (dp_nats h3) .nil))
theorem sm_ints {k : Nat} {l : List Int} (h : l.length ≤ 6000) : Sm (k + 1) (.list (l.map PyData.int)) := by
  refine .lst (by rw [List.length_map]; exact h) fun d hd => ?_
  obtain ⟨i, _, e⟩ := List.mem_map.mp hd
  rw [← e]; exact .int _ _
theorem sm_findAll {n k : Nat} (h : n ≤ 6000) (q : Nat → Nat) {cs : List Nat} (hc : cs.length ≤ 6000) : Sm (k + 2) (dFindAll n q cs) := by
  refine .tup (by show 2 ≤ 6000; decide) fun d hd => ?_
  rcases List.mem_cons.mp hd with z | z
  · rw [z]; exact sm_forest h q
  · rw [List.mem_singleton.mp z]; exact sm_ints (by rw [List.length_map]; exact hc)
/-- a list that does not stand in the draws' cell -/
theorem DrawAt.nel2 {H : Hp} {d l a : Addr} {xs : List V} (D : DrawAt H d l) (h : H a = some (.lst xs)) (n : a ≠ d) : True := trivial
/-- find_all: all nodes of a list or tuple found, or the first that is none raised -/
def spFindAllB (K : PySem.W.Frag) (C : Addr) : Sp := fun vs H Q E => ∃ (k : Bool) (a b : Addr) (n : Nat) (p r : Nat → Nat) (xs : List Int) (good : List Nat), vs = [.ref a, .ref b] ∧ SqT K H a (tupOf n p) ∧ Kd k K H b (xs.map V.int) ∧ n ≤ 1000 ∧ xs.length ≤ 1000 ∧ Fo n p r ∧
  NodesEnd xs n good (∀ (t g c : Addr) H', H t = none → H c = none → (g = a ∨ H g = none) → H' t = some (.tup [.ref g, .ref c]) → SqT K H' g (tupOf n (fndAll n good p)) → H' c = some (.lst (natsV (costs n good p))) → Same H H' → Q (.ref t) H')
    (fun z => Flies H E C "node" "NoNode" (.int z))
section
variable {P : Program} {w : World} {K : PySem.W.Frag} {mg : Str → Option Value} {base : Heap}
theorem flies_same {H H1 : Hp} {E : XK} {C : Addr} {fld tag : Str} {v : V} (h : Flies H E C fld tag v) (s : Same H H1) : Flies H1 E C fld tag v := fun d H2 n e s2 => h d H2 (sm_none s n) e (s.trans s2)
end
section
variable {P : Program} {w : World} {K : PySem.W.Frag} {mg : Str → Option Value} {base : Heap}
theorem same_ext {H H1 : Hp} (s : Same H H1) : ExtN H H1 := fun b o e _ => s b o e
end
section
variable {P : Program} {w : World} {K : PySem.W.Frag} {mg : Str → Option Value} {base : Heap}
/-- what is asked raises: the law's reader answers with the tag and the field -/
theorem ask_no {X : Cx} {kk : Nat} {D : Lam X kk} {f C CF CM : Addr} {σ : L2.St} {H : Hp} {Q : VK} {x fld tag : Str} {v : V} {lv : Nat} (R : Raisable P w K mg base lv x C fld tag) (hex : PySem.W.exmAny K (.ref C) [.ref CF, .ref CM] = some true) (tg : TagOk tag fld) (hA : D.At f H)
    (hc : ∀ Ha E, Same H Ha → Flies Ha E C fld tag v → D.tb E σ Ha fun _ _ => False) (q : ∀ t H2, H t = none → Same H H2 → H2 t = some (.tup [.str tag, v]) → Q (.ref t) H2) : TTerr K CF CM (D.does f σ) H Q := by
  intro Ha sa
  refine ⟨fun cls d H1 => cls = .ref C ∧ ∃ dd, d = some dd ∧ H1 dd = some (.xd [(fld, v), ("tag", .str tag)]) ∧ Same Ha H1, fun _ _ => False, ⟨D.same hA (same_ext sa), hc Ha _ sa fun dd H1 n1 h1 s1 => ⟨rfl, dd, rfl, h1, s1⟩⟩, ?_, fun _ _ h => h.elim⟩
  rintro cls d H1 ⟨rfl, dd, rfl, hdd, s1⟩
  exact ⟨hex, tag, fld, v, ⟨C, dd, rfl, R.xf, R.nt, R.nf, rfl, hdd⟩, tg, fun t H2 n s2 e => q t H2 (sm_none (sa.trans s1) n) ((sa.trans s1).trans s2) e⟩
end
section
variable {P : Program} {w : World} {K : PySem.W.Frag} {mg : Str → Option Value} {base : Heap}
theorem wipe_one {σ : L2.St} {i : Nat} {x : Option V} : wipe ((wipe σ [i]).set i x) [i] = wipe σ [i] := by
  show ((σ.set i none).set i x).set i none = σ.set i none
  rw [List.set_set, List.set_set]
end
section
variable {P : Program} {w : World} {K : PySem.W.Frag} {mg : Str → Option Value} {base : Heap}
/-- a list of lambdas, each raising the same -/
theorem asks_no {X : Cx} {kk j lv : Nat} (σ : L2.St) {H : Hp} {C CF CM la D : Addr} (fs : List Addr) {Qd : Hp → Prop} {x fld tag : Str} {v : V} (R : Raisable P w K mg base lv x C fld tag) (hex : PySem.W.exmAny K (.ref C) [.ref CF, .ref CM] = some true) (tg : TagOk tag fld) (hl : H la = some (.lst (fs.map V.ref))) (nD : H D = none) (hj : j < σ.length) (hm : fs.length ≤ 1000)
    (hf : ∀ f ∈ fs, ∃ L : Lam X kk, L.At f H ∧ ∀ Ha E, Same H Ha → Flies Ha E C fld tag v → L.tb E σ Ha fun _ _ => False)
    (q : ∀ (ts : List Addr) H1, ts.length = fs.length → H1 D = some (.lst (ts.map V.ref)) → (∀ t ∈ ts, H1 t = some (.tup [.str tag, v])) → Same H H1 → Qd H1) :
    ∃ W : Nat → Nat → Hp → Prop, (∃ m, W 0 m (upd H D (.lst []))) ∧ ∀ i m H, W i m H →
      ((Itl K la).stop i H ∧ Qd H) ∨ ((Itl K la).go i H ∧ ∃ Nx : Hp → Prop, (∀ H', Nx H' → ∃ m', m' < m ∧ W (i + 1) m' H') ∧ ∀ x H', (Itl K la).yld i H x H' → gName j x (wipe σ [j]) H' fun σ2 H2 => wipe σ2 [j] = wipe σ [j] ∧ tYes σ2 H2 fun b H3 =>
        if b = true then (∃ (f : Addr) (L : Lam X kk), σ2[j]? = some (some (.ref f)) ∧ TTerr K CF CM (L.does f σ) H3 fun y H4 => ∃ acc, H4 D = some (.lst acc) ∧ acc.length < sizeLine ∧ Nx (upd H4 D (.lst (acc ++ [y])))) else Nx H3) := by
  refine lc_list (K := K) (a := la) (xs := fs.map V.ref) (g := gName j) (tt := tYes) (te := fun σ1 H1 Q => ∃ (f : Addr) (D : Lam X kk), σ1[j]? = some (some (.ref f)) ∧ TTerr K CF CM (D.does f σ) H1 Q) (vs := [j]) (σ := σ) (Qd := Qd) (fun i H1 => ∃ ts : List Addr, ts.length = i ∧ H1 D = some (.lst (ts.map V.ref)) ∧ (∀ t ∈ ts, H1 t = some (.tup [.str tag, v])) ∧ Same H H1)
    ⟨[], rfl, upd_same, by simp, same_new nD⟩ (fun i H1 _ h => h.elim fun ts h => SqL.of (h.2.2.2 _ _ hl)) ?_ ?_
  · rintro k y H1 hy ⟨ts, hlen, hD, hts, s1⟩
    rw [List.getElem?_map] at hy
    obtain ⟨f, hff, rfl⟩ := Option.map_eq_some_iff.mp hy
    obtain ⟨L, hA, hc⟩ := hf f (List.mem_of_getElem? hff)
    have hk : k < fs.length := (List.getElem?_eq_some_iff.mp hff).1
    refine ⟨wipe_one, f, L, List.getElem?_set_self (by rw [wipe_length]; exact hj), ?_⟩
    refine ask_no R hex tg (L.same hA (same_ext s1)) (fun Ha E sa fl => hc Ha E (s1.trans sa) fl) fun t H2 nt s2 e => ?_
    have nDt : t ≠ D := (ne_of_none hD nt).symm
    refine ⟨_, s2 _ _ hD, by rw [List.length_map, hlen]; exact Nat.lt_of_le_of_lt (show k ≤ 1000 by omega) (by decide), ts ++ [t], by rw [List.length_append, hlen]; rfl, by rw [upd_same, List.map_append]; rfl, fun t2 h2 => ?_, same_over (s1.trans s2) nD⟩
    rcases List.mem_append.mp h2 with h2 | h2
    · have e2 := hts t2 h2
      rw [upd_ne (ne_of e2 hD (by intro z; cases z))]
      exact s2 _ _ e2
    · rw [List.mem_singleton.mp h2, upd_ne nDt]
      exact e
  · rintro H1 ⟨ts, hlen, hD, hts, s1⟩
    rw [List.length_map] at hlen
    exact q ts H1 hlen hD hts s1
end
section
variable {P : Program} {w : World} {K : PySem.W.Frag} {mg : Str → Option Value} {base : Heap}
/-- such answers as data -/
def dErrs (m : Nat) (tag : Str) (z : Int) : PyData := .list (List.replicate m (.tuple [.str tag, .int z]))
end
section
variable {P : Program} {w : World} {K : PySem.W.Frag} {mg : Str → Option Value} {base : Heap}
theorem dp_errs {H : Hp} {tag : Str} {z : Int} : ∀ {ts : List Addr}, (∀ t ∈ ts, H t = some (.tup [.str tag, .int z])) → DpAll K H (ts.map V.ref) (List.replicate ts.length (.tuple [.str tag, .int z]))
  | [], _ => .nil
  | t :: r, h => .cons (.tup (SqT.of (h t List.mem_cons_self)) (.cons (.str _) (.cons (.int _) .nil))) (dp_errs fun u hu => h u (List.mem_cons_of_mem _ hu))
end
section
variable {P : Program} {w : World} {K : PySem.W.Frag} {mg : Str → Option Value} {base : Heap}
theorem shaped_errs {m : Nat} {tag : Str} (h : PyData.strOk tag = true) (hm : m ≤ 4) (z : Int) : SeqAt.shaped (dErrs m tag z) = true := by
  unfold SeqAt.shaped dErrs
  match m, hm with
  | 0, _ => simp [List.replicate, PyData.canLay0, PyData.canLayAll0, PyData.depth, PyData.depthAll, h]
  | 1, _ => simp [List.replicate, PyData.canLay0, PyData.canLayAll0, PyData.depth, PyData.depthAll, h]
  | 2, _ => simp [List.replicate, PyData.canLay0, PyData.canLayAll0, PyData.depth, PyData.depthAll, h]
  | 3, _ => simp [List.replicate, PyData.canLay0, PyData.canLayAll0, PyData.depth, PyData.depthAll, h]
  | 4, _ => simp [List.replicate, PyData.canLay0, PyData.canLayAll0, PyData.depth, PyData.depthAll, h]
end
abbrev sRootsOf : Stmt := topS 13
abbrev aboveN : List Str := ["forest", "one", "other", "path"]
abbrev rootsN : List Str := ["forest", "node", "parent"]
theorem scRootsOf : FnScope rootsN ["forest"] (defScope sRootsOf) := ⟨rfl, rfl, rfl, by decide +kernel, rfl, by decide +kernel, by decide +kernel⟩
abbrev kidsN : List Str := ["forest", "node", "child", "parent"]
abbrev subN : List Str := ["forest", "node", "low"]
theorem in_nats (u : Nat) : ∀ l : List Nat, inV (vi u) (natsV l) = decide (u ∈ l)
  | [] => by simp [inV, natsV]
  | x :: l => by
    have ih := in_nats u l
    unfold inV natsV at ih ⊢
    rw [List.map_cons, List.any_cons, ih]
    by_cases e : x = u
    · subst e
      simp [eqV]
    · have h1 : eqV (vi x) (vi u) = false := by
        simp only [eqV]
        simp
        omega
      rw [h1]
      simp [Ne.symm e]
def rootsL (n : Nat) (p : Nat → Nat) : List Nat := (List.range n).filter fun v => decide (p v = v)
def kidsL (n : Nat) (p : Nat → Nat) (v : Nat) : List Nat := (List.range n).filter fun c => decide (p c = v) && !decide (c = v)
def subL (n : Nat) (p : Nat → Nat) (v : Nat) : List Nat := (List.range n).filter fun x => decide (v ∈ path p n x)
theorem filt_le (n : Nat) (g : Nat → Bool) : ((List.range n).filter g).length ≤ n := Nat.le_trans (List.length_filter_le _ _) (by rw [List.length_range]; exact Nat.le_refl _)
theorem filt_succ (k : Nat) (g : Nat → Bool) : (List.range (k + 1)).filter g = (List.range k).filter g ++ if g k = true then [k] else [] := by
  rw [List.range_succ, List.filter_append]
  cases e : g k <;> simp [List.filter, e]
/-- one turn of a filter over nodes -/
theorem filt_turn {k : Nat} {g : Nat → Bool} {H : Hp} {D : Addr} (hk : k < 1000) (hD : H D = some (.lst (natsV ((List.range k).filter g)))) : (natsV ((List.range k).filter g)).length < sizeLine ∧
    (g k = true → ∀ y, y = vi k → upd H D (.lst (natsV ((List.range k).filter g) ++ [y])) D = some (.lst (natsV ((List.range (k + 1)).filter g)))) ∧ (g k = false → H D = some (.lst (natsV ((List.range (k + 1)).filter g)))) := by
  refine ⟨?_, fun e y hy => ?_, fun e => ?_⟩
  · have := filt_le k g
    rw [natsV_len]
    exact Nat.lt_of_le_of_lt (show _ ≤ 1000 by omega) (by decide)
  · rw [upd_same, hy, filt_succ, if_pos e]
    unfold natsV
    rw [List.map_append]
    rfl
  · rw [filt_succ, e]
    simp only [Bool.false_eq_true, if_false, List.append_nil]
    exact hD
def spRootsOf (K : PySem.W.Frag) : Sp := fun vs H Q _ => ∃ (a : Addr) (n : Nat) (p : Nat → Nat), vs = [.ref a] ∧ SqT K H a (tupOf n p) ∧ n ≤ 900 ∧ ∀ (q : Addr) H', H q = none → H' q = some (.lst (natsV (rootsL n p))) → Same H H' → Q (.ref q) H'
/-- a def of a node: its answer, or the node raised -/
def spNodeB (K : PySem.W.Frag) (C : Addr) (F : Nat → (Nat → Nat) → Nat → List Nat) : Sp := fun vs H Q E => ∃ (a : Addr) (n : Nat) (p r : Nat → Nat) (x : Int), vs = [.ref a, .int x] ∧ SqT K H a (tupOf n p) ∧ n ≤ 900 ∧ Fo n p r ∧
  ((∃ u : Nat, x = (u : Int) ∧ u < n ∧ ∀ (q : Addr) H', H q = none → H' q = some (.lst (natsV (F n p u))) → Same H H' → Q (.ref q) H') ∨ ((x < 0 ∨ (n : Int) ≤ x) ∧ x.natAbs.log2 < 1920 ∧ Flies H E C "node" "NoNode" (.int x)))
def spAboveB (K : PySem.W.Frag) (C : Addr) : Sp := fun vs H Q E => ∃ (a : Addr) (n : Nat) (p r : Nat → Nat) (x y : Int) (good : List Nat), vs = [.ref a, .int x, .int y] ∧ SqT K H a (tupOf n p) ∧ n ≤ 900 ∧ Fo n p r ∧
  NodesEnd [x, y] n good (∀ u v, good = [u, v] → ∀ H', Same H H' → Q (.bl (decide (u ≠ v) && decide (u ∈ path p n v))) H') (fun z => Flies H E C "node" "NoNode" (.int z))
section
variable {P : Program} {w : World} {K : PySem.W.Frag} {mg : Str → Option Value} {base : Heap}
theorem ok_rootsOf {f : Addr} {fd : FuncData} {k : Nat} (F : Fun K "roots_of" "roots_of" sRootsOf f fd) (tE : mg "enumerate" = none) : FnOk P w K mg base CX0 (k + 1) f fd ["forest"] (spRootsOf K) := by
  refine F.ok scRootsOf (fun vs H Q E h => ?_) (fun cdv A outer s H vs Q E hr h => ?_)
  · obtain ⟨a, n, p, rfl, _⟩ := h
    rfl
  · obtain ⟨a, n, p, rfl, hS, hn, q⟩ := h
    refine ⟨_, pss_one (ps_ret (pe_lc (own := [("node", 1), ("parent", 2)]) (g := gTup K 2 (gCons (gName 1) (gCons (gName 2) gNil))) (by rfl) scRootsOf.nd (pi_enumT (by rfl) tE (pa_cons (pv 0) pa_nil)) (blkOk_by (own := [("node", 1), ("parent", 2)]) (N := rootsN) (sc := defScope sRootsOf) (by decide +kernel))
      (fun _ _ _ _ _ => pg_tup rfl (pgs_cons (pg_name (i := 1) scRootsOf.nd rfl (.inl rfl)) (pgs_cons (pg_name (i := 2) scRootsOf.nd rfl (.inl rfl)) pgs_nil))) (fun _ _ _ _ _ => pts_one (pt_cmpR op_eq (pv 1) (pv 2) (nomark _))) (fun _ _ _ _ _ => pv 1))), ?_⟩
    refine ⟨_, rfl, a, _, rfl, hS, fun D nD => ?_⟩
    refine lc_enumT (K := K) (a := a) (xs := tupOf n p) (fun i H' => H' D = some (.lst (natsV (rootsL i p))) ∧ Same H H') ⟨upd_same, same_new nD⟩ (fun i H' _ h => same_sqt h.2 hS) ?_ ?_
    · rintro i x H' T hx ⟨hD, sm⟩ nT
      have hin : i < n := by have := (List.getElem?_eq_some_iff.mp hx).1; rwa [tupOf_len] at this
      rw [tupOf_at hin] at hx
      cases hx
      have s2 := same_new (o := .tup [V.int (i : Int), vi (p i)]) nT
      obtain ⟨f1, f2, f3⟩ := filt_turn (k := i) (g := fun v => decide (p v = v)) (by omega) (s2 _ _ hD)
      refine ⟨T, _, rfl, SqT.of upd_same, rfl, _, _, rfl, _, _, rfl, rfl, rfl, ?_⟩
      refine ⟨_, rfl, _, rfl, rfl, _, rfl, ?_⟩
      show if decide (vi i = vi (p i)) = true then _ else _
      by_cases e : p i = i
      · rw [decide_eq_true (by rw [e])]
        exact iteT ⟨_, rfl, _, s2 _ _ hD, f1, f2 (decide_eq_true e) _ rfl, same_over (sm.trans s2) nD⟩
      · rw [decide_eq_false (fun z => e (by injection z with z; omega))]
        exact iteF ⟨f3 (decide_eq_false e), sm.trans s2⟩
    · rintro H' ⟨hD, sm⟩
      rw [tupOf_len] at hD
      exact q D H' nD hD sm
end
abbrev sBadPar : Stmt := topS 4
abbrev sCycle : Stmt := topS 5
abbrev sTooMany : Stmt := topS 6
abbrev sLeads : Stmt := topS 10
abbrev sCheck : Stmt := topS 11
abbrev sIsFor : Stmt := topS 12
theorem scBadParI : FnScope ["self", "node"] ["self", "node"] (defScope (initS sBadPar)) := ⟨rfl, rfl, rfl, by decide +kernel, rfl, by decide +kernel, by decide +kernel⟩
theorem scCycleI : FnScope ["self", "node"] ["self", "node"] (defScope (initS sCycle)) := ⟨rfl, rfl, rfl, by decide +kernel, rfl, by decide +kernel, by decide +kernel⟩
theorem scTooManyI : FnScope ["self", "limit"] ["self", "limit"] (defScope (initS sTooMany)) := ⟨rfl, rfl, rfl, by decide +kernel, rfl, by decide +kernel, by decide +kernel⟩
theorem scLeads : FnScope ["parents", "node", "place", "step"] ["parents", "node"] (defScope sLeads) := ⟨rfl, rfl, rfl, by decide +kernel, rfl, by decide +kernel, by decide +kernel⟩
theorem scCheck : FnScope ["parents", "node", "parent"] ["parents"] (defScope sCheck) := ⟨rfl, rfl, rfl, by decide +kernel, rfl, by decide +kernel, by decide +kernel⟩
theorem scIsFor : FnScope ["parents"] ["parents"] (defScope sIsFor) := ⟨rfl, rfl, rfl, by decide +kernel, rfl, by decide +kernel, by decide +kernel⟩
def spLeads (K : PySem.W.Frag) : Sp := fun vs H Q _ => ∃ (a : Addr) (n : Nat) (p : Nat → Nat) (x : Nat), vs = [.ref a, vi x] ∧ SqT K H a (tupOf n p) ∧ n ≤ 1000 ∧ (∀ v, v < n → p v < n) ∧ x < n ∧ Q (.bl (!ringB n p x)) H
def CheckO (CT CB CC : Addr) (xs : List Int) (H : Hp) (E : XK) (Q : VK) : Prop := match verdict xs with
  | .ok => ∀ H', Same H H' → Q .non H'
  | .many => Flies H E CT "limit" "TooManyNodes" (.int 40)
  | .bad v => Flies H E CB "node" "BadParent" (vi v)
  | .cyc v => Flies H E CC "node" "Cycle" (vi v)
def spCheckB (K : PySem.W.Frag) (CT CB CC : Addr) : Sp := fun vs H Q E => ∃ (a : Addr) (xs : List Int), vs = [.ref a] ∧ SqT K H a (xs.map V.int) ∧ xs.length ≤ 1000 ∧ CheckO CT CB CC xs H E Q
def okV (xs : List Int) : Bool := match verdict xs with
  | .ok => true
  | _ => false
def spIsFor (K : PySem.W.Frag) : Sp := fun vs H Q _ => ∃ (a : Addr) (xs : List Int), vs = [.ref a] ∧ SqT K H a (xs.map V.int) ∧ xs.length ≤ 1000 ∧ ∀ H', Same H H' → Q (.bl (okV xs)) H'
theorem row_tup {xs : List Int} (h : ∀ v, v < xs.length → wideB xs v = false) : xs.map V.int = tupOf xs.length (par xs) := by
  refine List.ext_getElem? fun i => ?_
  by_cases hi : i < xs.length
  · rw [List.getElem?_map, List.getElem?_eq_getElem hi, tupOf_at hi]
    have z := (wide_iff.mp (h i hi)).1
    rw [List.getD_eq_getElem?_getD, List.getElem?_eq_getElem hi] at z
    show some (V.int xs[i]) = some (V.int ((xs.getD i 0).toNat : Int))
    rw [List.getD_eq_getElem?_getD, List.getElem?_eq_getElem hi]
    have z : (0 : Int) ≤ xs[i] := z
    show some (V.int xs[i]) = some (V.int ((xs[i]).toNat : Int))
    rw [Int.toNat_of_nonneg z]
  · rw [List.getElem?_eq_none (by rw [List.length_map]; omega), List.getElem?_eq_none (by rw [tupOf_len]; omega)]
section
variable {P : Program} {w : World} {K : PySem.W.Frag} {mg : Str → Option Value} {base : Heap}
theorem ok_badParI {f fM CM : Addr} {fd fdM : FuncData} (F : Fun K "__init__" "BadParent.__init__" (initS sBadPar) f fd) (TM : ClsI K CM fM) (gM : mg "ForestError" = some (.ref CM)) (GM : FnOk P w K mg base CX0 1 fM fdM ["self", "tag", "message"] (spTop K "ValueError.__new__" vaTail)) (bM : Binds K fdM ["self", "tag", "message"] []) :
    FnOk P w K mg base CX0 2 f fd ["self", "node"] (spErrI K "ValueError.__new__" vaTail "node" "BadParent") := by
  refine F.ok scBadParI (fun vs H Q E h => ?_) (fun cdv A outer s H vs Q E hr h => ?_)
  · obtain ⟨a, C, v, rfl, _⟩ := h
    rfl
  · obtain ⟨a, C, v, rfl, ⟨i, rfl, hi⟩, ha, T, nt, nf, q⟩ := h
    refine ⟨_, pss_cons (ps_expr (pe_ci TM GM hr (by rfl) gM bM pass0 (pa_cons (pv 0) (pa_cons pe_str (pa_cons (pe_joined (.cons pe_str (.cons (pe_fmt (pv 1)) (.cons pe_str .nil)))) pa_nil)))))
      (pss_one (ps_st (nid := "ValueError.__new__") PySem.F.store_ValueError (pv 0) (pv 1))), ?_⟩
    have f0 : (Str.empty ++ Str.ofString "the parent of node ").length ≤ 100 := by decide +kernel
    have f1 : (Str.ofString " is no node").length ≤ 100 := by decide +kernel
    have l1 := fits_cat f0 (txt_int hi)
    refine ⟨_, rfl, ⟨_, rfl, fits (by omega), _, rfl, .inr ⟨i, rfl, hi, _, rfl, fits (Nat.le_trans l1 (by decide)), _, rfl, fits (Nat.le_trans (fits_cat l1 f1) (by decide)), ?_⟩⟩⟩
    refine ⟨a, C, _, _, rfl, ha, T, nt, fun dx n ne => ⟨_, rfl, _, rfl, a, C, rfl, T, nf, .inr ⟨dx, _, upd_same, ?_, by show 1 ≤ 900; decide, q dx n ne⟩⟩⟩
    rw [upd_ne ne, upd_same]
end
section
variable {P : Program} {w : World} {K : PySem.W.Frag} {mg : Str → Option Value} {base : Heap}
theorem ok_cycleI {f fM CM : Addr} {fd fdM : FuncData} (F : Fun K "__init__" "Cycle.__init__" (initS sCycle) f fd) (TM : ClsI K CM fM) (gM : mg "ForestError" = some (.ref CM)) (GM : FnOk P w K mg base CX0 1 fM fdM ["self", "tag", "message"] (spTop K "ValueError.__new__" vaTail)) (bM : Binds K fdM ["self", "tag", "message"] []) :
    FnOk P w K mg base CX0 2 f fd ["self", "node"] (spErrI K "ValueError.__new__" vaTail "node" "Cycle") := by
  refine F.ok scCycleI (fun vs H Q E h => ?_) (fun cdv A outer s H vs Q E hr h => ?_)
  · obtain ⟨a, C, v, rfl, _⟩ := h
    rfl
  · obtain ⟨a, C, v, rfl, ⟨i, rfl, hi⟩, ha, T, nt, nf, q⟩ := h
    refine ⟨_, pss_cons (ps_expr (pe_ci TM GM hr (by rfl) gM bM pass0 (pa_cons (pv 0) (pa_cons pe_str (pa_cons (pe_joined (.cons pe_str (.cons (pe_fmt (pv 1)) (.cons pe_str .nil)))) pa_nil)))))
      (pss_one (ps_st (nid := "ValueError.__new__") PySem.F.store_ValueError (pv 0) (pv 1))), ?_⟩
    have f0 : (Str.empty ++ Str.ofString "the parents of node ").length ≤ 100 := by decide +kernel
    have f1 : (Str.ofString " do not lead to a root").length ≤ 100 := by decide +kernel
    have l1 := fits_cat f0 (txt_int hi)
    refine ⟨_, rfl, ⟨_, rfl, fits (by omega), _, rfl, .inr ⟨i, rfl, hi, _, rfl, fits (Nat.le_trans l1 (by decide)), _, rfl, fits (Nat.le_trans (fits_cat l1 f1) (by decide)), ?_⟩⟩⟩
    refine ⟨a, C, _, _, rfl, ha, T, nt, fun dx n ne => ⟨_, rfl, _, rfl, a, C, rfl, T, nf, .inr ⟨dx, _, upd_same, ?_, by show 1 ≤ 900; decide, q dx n ne⟩⟩⟩
    rw [upd_ne ne, upd_same]
end
section
variable {P : Program} {w : World} {K : PySem.W.Frag} {mg : Str → Option Value} {base : Heap}
theorem ok_tooManyI {f fM CM : Addr} {fd fdM : FuncData} (F : Fun K "__init__" "TooManyNodes.__init__" (initS sTooMany) f fd) (TM : ClsI K CM fM) (gM : mg "ForestError" = some (.ref CM)) (GM : FnOk P w K mg base CX0 1 fM fdM ["self", "tag", "message"] (spTop K "ValueError.__new__" vaTail)) (bM : Binds K fdM ["self", "tag", "message"] []) :
    FnOk P w K mg base CX0 2 f fd ["self", "limit"] (spErrI K "ValueError.__new__" vaTail "limit" "TooManyNodes") := by
  refine F.ok scTooManyI (fun vs H Q E h => ?_) (fun cdv A outer s H vs Q E hr h => ?_)
  · obtain ⟨a, C, v, rfl, _⟩ := h
    rfl
  · obtain ⟨a, C, v, rfl, ⟨i, rfl, hi⟩, ha, T, nt, nf, q⟩ := h
    refine ⟨_, pss_cons (ps_expr (pe_ci TM GM hr (by rfl) gM bM pass0 (pa_cons (pv 0) (pa_cons pe_str (pa_cons (pe_joined (.cons pe_str (.cons (pe_fmt (pv 1)) (.cons pe_str .nil)))) pa_nil)))))
      (pss_one (ps_st (nid := "ValueError.__new__") PySem.F.store_ValueError (pv 0) (pv 1))), ?_⟩
    have f0 : (Str.empty ++ Str.ofString "there are more than ").length ≤ 100 := by decide +kernel
    have f1 : (Str.ofString " nodes").length ≤ 100 := by decide +kernel
    have l1 := fits_cat f0 (txt_int hi)
    refine ⟨_, rfl, ⟨_, rfl, fits (by omega), _, rfl, .inr ⟨i, rfl, hi, _, rfl, fits (Nat.le_trans l1 (by decide)), _, rfl, fits (Nat.le_trans (fits_cat l1 f1) (by decide)), ?_⟩⟩⟩
    refine ⟨a, C, _, _, rfl, ha, T, nt, fun dx n ne => ⟨_, rfl, _, rfl, a, C, rfl, T, nf, .inr ⟨dx, _, upd_same, ?_, by show 1 ≤ 900; decide, q dx n ne⟩⟩⟩
    rw [upd_ne ne, upd_same]
end
section
variable {P : Program} {w : World} {K : PySem.W.Frag} {mg : Str → Option Value} {base : Heap}
theorem ok_leads {f : Addr} {fd : FuncData} {k : Nat} (F : Fun K "leads_to_root" "leads_to_root" sLeads f fd) (T : Tx mg) : FnOk P w K mg base CX0 (k + 1) f fd ["parents", "node"] (spLeads K) := by
  refine F.ok scLeads (fun vs H Q E h => ?_) (fun cdv A outer s H vs Q E hr h => ?_)
  · obtain ⟨a, n, p, x, rfl, _⟩ := h
    rfl
  · obtain ⟨a, n, p, x, rfl, hS, hn, hl, hx, q⟩ := h
    refine ⟨_, pss_cons (ps_set (i := 2) scLeads.nd rfl (.inl rfl) (pv 1))
      (pss_cons (ps_for PassesOwn.never rfl (pi_range1 (by rfl) T.range (pa_cons (pe_callB call_len_seq (by rfl) T.len PySem.boot_len (pa_cons (pv 0) pa_nil)) pa_nil)) (pg_name (i := 3) scLeads.nd rfl (.inl rfl))
        (pss_cons (ps_if (pt_cmpR op_eq (pe_ix ix_tup (pv 0) (pv 2) (fun _ _ => rfl)) (pv 2) (nomark _)) (pss_one (ps_ret pe_bl)) pss_nil)
        (pss_one (ps_set (i := 2) scLeads.nd rfl (.inl rfl) (pe_ix ix_tup (pv 0) (pv 2) (fun _ _ => rfl))))))
      (pss_one (ps_ret pe_bl))), ?_⟩
    refine ⟨_, rfl, _, rfl, a, _, rfl, .inr hS, _, rfl, by rw [tupOf_len]; omega, by rw [tupOf_len]; omega, ?_⟩
    rw [tupOf_len]
    have en : ((n : Nat) : Int).toNat = n := by omega
    refine for_range (lo := 0) (n := ((n : Nat) : Int).toNat) (fun i σ H' => (∃ z3, σ = [some (.ref a), some (vi x), some (vi (root p i x)), z3]) ∧ (∀ j, j < i → p (root p j x) ≠ root p j x) ∧ H' = H) ⟨⟨_, rfl⟩, fun j hj => by omega, rfl⟩ ?_ ?_
    · rintro i σ H' hi ⟨⟨z3, rfl⟩, hno, rfl⟩
      have hr0 : root p i x < n := root_lt0 hl i x hx
      refine ⟨_, rfl, _, rfl, a, _, _, _, rfl, rfl, hS, atI_nat (tupOf_at hr0), _, rfl, rfl, _, rfl, ?_⟩
      show if decide (vi (p (root p i x)) = vi (root p i x)) = true then _ else _
      by_cases e : p (root p i x) = root p i x
      · rw [decide_eq_true (by rw [e])]
        refine iteT ?_
        have : ringB n p x = false := by
          unfold ringB
          obtain ⟨j, rfl⟩ : ∃ j, n = i + j := ⟨n - i, by omega⟩
          rw [root_stay e j, decide_eq_true e]; rfl
        rw [this] at q
        exact q
      · rw [decide_eq_false (fun z => e (by injection z with z; omega))]
        refine iteF ⟨_, rfl, _, rfl, a, _, _, _, rfl, rfl, hS, atI_nat (tupOf_at hr0), ⟨some (.int (0 + (i : Int))), ?_⟩, fun j hj => ?_, rfl⟩
        · rw [root_succ]; rfl
        · by_cases ej : j = i
          · rw [ej]; exact e
          · exact hno j (by omega)
    · rintro σ H' ⟨⟨z3, rfl⟩, hno, rfl⟩
      rw [en] at hno
      have : ringB n p x = true := by
        unfold ringB
        rw [decide_eq_false (fun z => by
          obtain ⟨j, hj, e⟩ := fix_before hl hx z
          exact hno j hj e)]
        rfl
      rw [this] at q
      exact q
end
section
variable {P : Program} {w : World} {K : PySem.W.Frag} {mg : Str → Option Value} {base : Heap}
theorem okB_check {f fL CT CB CC : Addr} {fd fdL : FuncData} {tN : Tok} (F : Fun K "check_forest" "check_forest" sCheck f fd) (k1 : Kn P w K mg base 1 "leads_to_root" sLeads ["parents", "node"] (spLeads K) fL fdL) (T : Tx mg) (tE : mg "enumerate" = none) (gN : mg "MAX_NODES" = some (.int 40 tN)) (RT : Raisable P w K mg base 2 "TooManyNodes" CT "limit" "TooManyNodes") (RB : Raisable P w K mg base 2 "BadParent" CB "node" "BadParent") (RC : Raisable P w K mg base 2 "Cycle" CC "node" "Cycle") :
    FnOk P w K mg base (L2N.CX P w) 4 f fd ["parents"] (spCheckB K CT CB CC) := by
  refine okN F scCheck (fun vs H Q E h => ?_) (fun cdv A outer s H vs Q E hr h tk => ?_)
  · obtain ⟨a, xs, rfl, _⟩ := h
    rfl
  · obtain ⟨a, xs, rfl, hS, hn, h⟩ := h
    refine ⟨_, pss_cons (ps_if (pt_cmpR op_gt (pe_callB call_len_seq (by rfl) T.len PySem.boot_len (pa_cons (pv 0) pa_nil)) (pe_glob (v := .int 40) rfl gN ⟨_, rfl⟩) (nomark _)) (pss_one (L2N.ps_raise rfl tk (pmk_err RT hr (by rfl) (pe_glob (v := .int 40) rfl gN ⟨_, rfl⟩)))) pss_nil)
      (pss_cons (ps_for PassesOwn.leaving rfl (pi_enumT (by rfl) tE (pa_cons (pv 0) pa_nil)) (pg_tup rfl (pgs_cons (pg_name (i := 1) scCheck.nd rfl (.inl rfl)) (pgs_cons (pg_name (i := 2) scCheck.nd rfl (.inl rfl)) pgs_nil)))
        (pss_one (ps_if (pt_not (pt_chain op_le op_lt pe_int (pv 2) (pe_callB call_len_seq (by rfl) T.len PySem.boot_len (pa_cons (pv 0) pa_nil)))) (pss_one (L2N.ps_raise rfl tk (pmk_err RB hr (by rfl) (pv 1)))) pss_nil)))
      (pss_one (ps_for PassesOwn.leaving rfl (pi_range1 (by rfl) T.range (pa_cons (pe_callB call_len_seq (by rfl) T.len PySem.boot_len (pa_cons (pv 0) pa_nil)) pa_nil)) (pg_name (i := 1) scCheck.nd rfl (.inl rfl))
        (pss_one (ps_if (pt_not (pt_val (pe_call k1.G (hr.mono (by decide)) (by rfl) k1.g k1.F.kp k1.b .nil pass0 (pa_cons (pv 0) (pa_cons (pv 1) pa_nil))))) (pss_one (L2N.ps_raise rfl tk (pmk_err RC hr (by rfl) (pv 1)))) pss_nil))))), ?_⟩
    refine ⟨_, rfl, a, _, rfl, .inr hS, _, _, rfl, rfl, _, rfl, ?_⟩
    show if decide ((40 : Int) < ((xs.map V.int).length : Int)) = true then _ else _
    rw [List.length_map]
    unfold CheckO verdict at h
    by_cases h40 : 40 < xs.length
    · rw [decide_eq_true (show (40 : Int) < (xs.length : Int) by omega)]
      rw [if_pos h40] at h
      exact iteT ⟨_, rfl, ⟨40, rfl, by decide⟩, h⟩
    · rw [decide_eq_false (show ¬ (40 : Int) < (xs.length : Int) by omega)]
      rw [if_neg h40] at h
      refine iteF ⟨_, rfl, a, _, rfl, hS, ?_⟩
      refine for_enumT (K := K) (a := a) (xs := xs.map V.int) (fun i σ H' => (∃ z1 z2, σ = [some (.ref a), z1, z2]) ∧ (∀ v, v < i → wideB xs v = false) ∧ Same H H') ⟨⟨_, _, rfl⟩, fun v hv => by omega, Same.refl _⟩ (fun i σ H' _ h => same_sqt h.2.2 hS) ?_ ?_
      · rintro i x σ H' T2 hx ⟨⟨z1, z2, rfl⟩, hw, sm⟩ nT
        have hi : i < xs.length := by have := (List.getElem?_eq_some_iff.mp hx).1; rwa [List.length_map] at this
        rw [List.getElem?_map, List.getElem?_eq_getElem hi] at hx
        cases hx
        have gD : xs.getD i 0 = xs[i] := by rw [List.getD_eq_getElem?_getD, List.getElem?_eq_getElem hi]; rfl
        have s2 := same_new (o := .tup [V.int (i : Int), V.int xs[i]]) nT
        have sm2 := sm.trans s2
        refine ⟨T2, _, rfl, SqT.of upd_same, rfl, _, _, rfl, _, _, rfl, rfl, ?_⟩
        refine ⟨_, rfl, _, _, rfl, rfl, _, rfl, ?_⟩
        show if decide ((0 : Int) ≤ xs[i]) = true then _ else _
        have bad : wideB xs i = true → Flies H E CB "node" "BadParent" (vi i) := fun hb => by
          obtain ⟨rest, er⟩ := filt_first hi hw hb
          unfold wideL at h
          rw [er] at h
          exact h
        have good : (0 : Int) ≤ xs[i] → xs[i] < (xs.length : Int) → ∀ v, v < i + 1 → wideB xs v = false := fun a1 a2 v hv => by
          by_cases e : v = i
          · rw [e]; exact wide_iff.mpr (by rw [gD]; exact ⟨a1, a2⟩)
          · exact hw v (by omega)
        have isbad : ¬ ((0 : Int) ≤ xs[i] ∧ xs[i] < (xs.length : Int)) → wideB xs i = true := fun hb => by
          cases e : wideB xs i with
          | true => rfl
          | false => exact absurd (by have z := wide_iff.mp e; rw [gD] at z; exact z) hb
        by_cases h0 : (0 : Int) ≤ xs[i]
        · rw [decide_eq_true h0]
          refine iteT ⟨_, rfl, a, _, rfl, .inr (same_sqt sm2 hS), _, _, rfl, rfl, _, rfl, ?_⟩
          show if (!decide (xs[i] < ((xs.map V.int).length : Int))) = true then _ else _
          rw [List.length_map]
          by_cases h1 : xs[i] < (xs.length : Int)
          · rw [decide_eq_true h1]
            exact iteF ⟨⟨_, _, rfl⟩, good h0 h1, sm2⟩
          · rw [decide_eq_false h1]
            exact iteT ⟨_, rfl, _, rfl, ⟨_, rfl, bits_ok (by omega) (by omega)⟩, flies_same (bad (isbad fun z => h1 z.2)) sm2⟩
        · rw [decide_eq_false h0]
          refine iteF ⟨_, rfl, ?_⟩
          exact iteT ⟨_, rfl, _, rfl, ⟨_, rfl, bits_ok (by omega) (by omega)⟩, flies_same (bad (isbad fun z => h0 z.1)) sm2⟩
      · rintro σ H' ⟨⟨z1, z2, rfl⟩, hw, sm⟩
        rw [List.length_map] at hw
        have hS2 : SqT K H a (tupOf xs.length (par xs)) := by rw [← row_tup hw]; exact hS
        unfold wideL at h
        rw [filt_none hw] at h
        refine ⟨_, rfl, a, _, rfl, .inr (same_sqt sm hS), _, rfl, by rw [List.length_map]; omega, by rw [List.length_map]; omega, ?_⟩
        rw [List.length_map]
        refine for_range (lo := 0) (n := ((xs.length : Nat) : Int).toNat) (fun i σ H' => (∃ z1 z2, σ = [some (.ref a), z1, z2]) ∧ (∀ v, v < i → ringB xs.length (par xs) v = false) ∧ Same H H') ⟨⟨_, _, rfl⟩, fun v hv => by omega, sm⟩ ?_ ?_
        · rintro i σ H2 hi ⟨⟨z1, z2, rfl⟩, hno, sm2⟩
          have hin : i < xs.length := by omega
          refine ⟨_, rfl, _, rfl, a, xs.length, par xs, i, by show [V.ref a, V.int (0 + (i : Int))] = [V.ref a, V.int (i : Int)]; rw [Int.zero_add], same_sqt sm2 hS2, by omega, par_lt hw, hin, _, rfl, ?_⟩
          cases e : ringB xs.length (par xs) i with
          | false =>
            refine iteF ⟨⟨_, _, rfl⟩, fun v hv => ?_, sm2⟩
            by_cases ev : v = i
            · rw [ev]; exact e
            · exact hno v (by omega)
          | true =>
            obtain ⟨rest, er⟩ := filt_first hin hno e
            unfold ringsL at h
            rw [er] at h
            refine iteT ⟨_, rfl, _, rfl, ⟨_, rfl, bits_ok (by omega) (by omega)⟩, ?_⟩
            rw [Int.zero_add]
            exact flies_same h sm2
        · rintro σ H2 ⟨⟨z1, z2, rfl⟩, hno, sm2⟩
          rw [show ((xs.length : Nat) : Int).toNat = xs.length by omega] at hno
          unfold ringsL at h
          rw [filt_none hno] at h
          exact h H2 sm2
end
section
variable {P : Program} {w : World} {K : PySem.W.Frag} {mg : Str → Option Value} {base : Heap}
theorem ok_isFor {f fC CT CB CC : Addr} {fd fdC : FuncData} (F : Fun K "is_forest" "is_forest" sIsFor f fd) (k1 : KnX P w K mg base 4 "check_forest" ["parents"] (spCheckB K CT CB CC) fC fdC) (gT : mg "TooManyNodes" = some (.ref CT)) (gB : mg "BadParent" = some (.ref CB)) (gC : mg "Cycle" = some (.ref CC))
    (mT : PySem.W.exmAny K (.ref CT) [.ref CT, .ref CB, .ref CC] = some true) (mB : PySem.W.exmAny K (.ref CB) [.ref CT, .ref CB, .ref CC] = some true) (mC : PySem.W.exmAny K (.ref CC) [.ref CT, .ref CB, .ref CC] = some true) :
    FnOk P w K mg base CX0 5 f fd ["parents"] (spIsFor K) := by
  refine F.ok scIsFor (fun vs H Q E h => ?_) (fun cdv A outer s H vs Q E hr h => ?_)
  · obtain ⟨a, xs, rfl, _⟩ := h
    rfl
  · obtain ⟨a, xs, rfl, hS, hn, q⟩ := h
    refine ⟨_, pss_cons (ps_tryC (tb := fun W D σ H => (tCons (tVar 0) tNil) σ H fun vs H1 => spCheckB K CT CB CC vs H1 (fun _ H2 => D.nx σ H2) fun cls d H2 => W cls d σ H2) rfl rfl (Wout := fun _ _ _ _ => False) takesN0
        (fun W pn xe tk _ => pss_one (ps_expr (pe_callN k1.G hr (by rfl) k1.g k1.kp k1.b tk (pa_cons (pv 0) pa_nil))))
        (.only (tst_three (by rfl) gT (by rfl) gB (by rfl) gC) (fun a oe cls d pn hz hd => pss_one (ps_ret pe_bl)) .nil))
      (pss_one (ps_ret pe_bl)), ?_⟩
    refine ⟨_, rfl, a, xs, rfl, hS, hn, ?_⟩
    unfold CheckO
    have q2 := q
    unfold okV at q2
    cases e : verdict xs with
    | ok =>
      rw [e] at q2
      exact fun H1 s1 => q2 H1 s1
    | many =>
      rw [e] at q2
      exact fun d H1 n1 h1 s1 => ⟨true, mT, fun _ ea na => q2 H1 s1, fun z => by cases z⟩
    | bad v =>
      rw [e] at q2
      exact fun d H1 n1 h1 s1 => ⟨true, mB, fun _ ea na => q2 H1 s1, fun z => by cases z⟩
    | cyc v =>
      rw [e] at q2
      exact fun d H1 n1 h1 s1 => ⟨true, mC, fun _ ea na => q2 H1 s1, fun z => by cases z⟩
end
section
variable {P : Program} {w : World} {K : PySem.W.Frag} {mg : Str → Option Value} {base : Heap}
theorem out_no {X : Cx} {kk : Nat} {D : Lam X kk} {f C CF CM : Addr} {σ : L2.St} {H : Hp} {Q : VK} {x fld tag : Str} {v : V} {lv : Nat} (R : Raisable P w K mg base lv x C fld tag) (hex : PySem.W.exmAny K (.ref C) [.ref CF, .ref CM] = some true) (tg : TagOk tag fld) (hA : D.At f H)
    (hc : ∀ Ha E, Same H Ha → Flies Ha E C fld tag v → D.tb E σ Ha fun _ _ => False) (q : ∀ t H2, H t = none → Same H H2 → H2 t = some (.tup [.non, .str tag, v]) → Q (.ref t) H2) : TTout K CF CM (D.does f σ) H Q := by
  intro Ha sa
  refine ⟨fun cls d H1 => cls = .ref C ∧ ∃ dd, d = some dd ∧ H1 dd = some (.xd [(fld, v), ("tag", .str tag)]) ∧ Same Ha H1, fun _ _ => False, ⟨D.same hA (same_ext sa), hc Ha _ sa fun dd H1 n1 h1 s1 => ⟨rfl, dd, rfl, h1, s1⟩⟩, ?_, fun _ _ h => h.elim⟩
  rintro cls d H1 ⟨rfl, dd, rfl, hdd, s1⟩
  exact ⟨hex, tag, fld, v, ⟨C, dd, rfl, R.xf, R.nt, R.nf, rfl, hdd⟩, tg, fun t H2 n s2 e => q t H2 (sm_none (sa.trans s1) n) ((sa.trans s1).trans s2) e⟩
end
section
variable {P : Program} {w : World} {K : PySem.W.Frag} {mg : Str → Option Value} {base : Heap}
theorem out_yes {X : Cx} {kk : Nat} {D : Lam X kk} {f CF CM : Addr} {σ : L2.St} {H : Hp} {Q : VK} (Q1 : Hp → VK) (hA : D.At f H) (hc : ∀ Ha, Same H Ha → D.tb (fun _ _ _ => False) σ Ha (Q1 Ha))
    (q : ∀ Ha v H1, Same H Ha → Q1 Ha v H1 → ∀ t H2, H1 t = none → Same H1 H2 → H2 t = some (.tup [v, .str "", .non]) → Q (.ref t) H2) : TTout K CF CM (D.does f σ) H Q := by
  intro Ha sa
  exact ⟨fun _ _ _ => False, Q1 Ha, ⟨D.same hA (same_ext sa), hc Ha sa⟩, fun _ _ _ h => h.elim, fun v H1 h t H2 n s2 e => q Ha v H1 sa h t H2 n s2 e⟩
end
section
variable {P : Program} {w : World} {K : PySem.W.Frag} {mg : Str → Option Value} {base : Heap}
/-- what is asked answers -/
theorem ask_yes {X : Cx} {kk : Nat} {D : Lam X kk} {f CF CM : Addr} {σ : L2.St} {H : Hp} {Q : VK} (hA : D.At f H) (hc : ∀ Ha, Same H Ha → D.tb (fun _ _ _ => False) σ Ha fun _ H1 => Same Ha H1)
    (q : ∀ t H2, H t = none → Same H H2 → H2 t = some (.tup [.str "", .non]) → Q (.ref t) H2) : TTerr K CF CM (D.does f σ) H Q := by
  intro Ha sa
  exact ⟨fun _ _ _ => False, fun _ H1 => Same Ha H1, ⟨D.same hA (same_ext sa), hc Ha sa⟩, fun _ _ _ h => h.elim, fun v H1 h t H2 n s2 e => q t H2 (sm_none (sa.trans h) n) ((sa.trans h).trans s2) e⟩
end
section
variable {P : Program} {w : World} {K : PySem.W.Frag} {mg : Str → Option Value} {base : Heap}
/-- a list of lambdas, each answering -/
theorem asks_yes {X : Cx} {kk j : Nat} (σ : L2.St) {H : Hp} {CF CM la D : Addr} (fs : List Addr) {Qd : Hp → Prop} (hl : H la = some (.lst (fs.map V.ref))) (nD : H D = none) (hj : j < σ.length) (hm : fs.length ≤ 1000)
    (hf : ∀ f ∈ fs, ∃ L : Lam X kk, L.At f H ∧ ∀ Ha, Same H Ha → L.tb (fun _ _ _ => False) σ Ha fun _ H1 => Same Ha H1)
    (q : ∀ (ts : List Addr) H1, ts.length = fs.length → H1 D = some (.lst (ts.map V.ref)) → (∀ t ∈ ts, H1 t = some (.tup [.str "", .non])) → Same H H1 → Qd H1) :
    ∃ W : Nat → Nat → Hp → Prop, (∃ m, W 0 m (upd H D (.lst []))) ∧ ∀ i m H, W i m H →
      ((Itl K la).stop i H ∧ Qd H) ∨ ((Itl K la).go i H ∧ ∃ Nx : Hp → Prop, (∀ H', Nx H' → ∃ m', m' < m ∧ W (i + 1) m' H') ∧ ∀ x H', (Itl K la).yld i H x H' → gName j x (wipe σ [j]) H' fun σ2 H2 => wipe σ2 [j] = wipe σ [j] ∧ tYes σ2 H2 fun b H3 =>
        if b = true then (∃ (f : Addr) (L : Lam X kk), σ2[j]? = some (some (.ref f)) ∧ TTerr K CF CM (L.does f σ) H3 fun y H4 => ∃ acc, H4 D = some (.lst acc) ∧ acc.length < sizeLine ∧ Nx (upd H4 D (.lst (acc ++ [y])))) else Nx H3) := by
  refine lc_list (K := K) (a := la) (xs := fs.map V.ref) (g := gName j) (tt := tYes) (te := fun σ1 H1 Q => ∃ (f : Addr) (D : Lam X kk), σ1[j]? = some (some (.ref f)) ∧ TTerr K CF CM (D.does f σ) H1 Q) (vs := [j]) (σ := σ) (Qd := Qd) (fun i H1 => ∃ ts : List Addr, ts.length = i ∧ H1 D = some (.lst (ts.map V.ref)) ∧ (∀ t ∈ ts, H1 t = some (.tup [.str "", .non])) ∧ Same H H1)
    ⟨[], rfl, upd_same, by simp, same_new nD⟩ (fun i H1 _ h => h.elim fun ts h => SqL.of (h.2.2.2 _ _ hl)) ?_ ?_
  · rintro k y H1 hy ⟨ts, hlen, hD, hts, s1⟩
    rw [List.getElem?_map] at hy
    obtain ⟨f, hff, rfl⟩ := Option.map_eq_some_iff.mp hy
    obtain ⟨L, hA, hc⟩ := hf f (List.mem_of_getElem? hff)
    have hk : k < fs.length := (List.getElem?_eq_some_iff.mp hff).1
    refine ⟨wipe_one, f, L, List.getElem?_set_self (by rw [wipe_length]; exact hj), ?_⟩
    refine ask_yes (L.same hA (same_ext s1)) (fun Ha sa => hc Ha (s1.trans sa)) fun t H2 nt s2 e => ?_
    have nDt : t ≠ D := (ne_of_none hD nt).symm
    refine ⟨_, s2 _ _ hD, by rw [List.length_map, hlen]; exact Nat.lt_of_le_of_lt (show k ≤ 1000 by omega) (by decide), ts ++ [t], by rw [List.length_append, hlen]; rfl, by rw [upd_same, List.map_append]; rfl, fun t2 h2 => ?_, same_over (s1.trans s2) nD⟩
    rcases List.mem_append.mp h2 with h2 | h2
    · have e2 := hts t2 h2
      rw [upd_ne (ne_of e2 hD (by intro z; cases z))]
      exact s2 _ _ e2
    · rw [List.mem_singleton.mp h2, upd_ne nDt]
      exact e
  · rintro H1 ⟨ts, hlen, hD, hts, s1⟩
    rw [List.length_map] at hlen
    exact q ts H1 hlen hD hts s1
end
section
variable {P : Program} {w : World} {K : PySem.W.Frag} {mg : Str → Option Value} {base : Heap}
/-- the same tuple many times, as data -/
def dReps (m : Nat) (d : PyData) : PyData := .list (List.replicate m d)
end
section
variable {P : Program} {w : World} {K : PySem.W.Frag} {mg : Str → Option Value} {base : Heap}
theorem dp_reps {H : Hp} {xs : List V} {ds : List PyData} (hd : DpAll K H xs ds) : ∀ {ts : List Addr}, (∀ t ∈ ts, H t = some (.tup xs)) → DpAll K H (ts.map V.ref) (List.replicate ts.length (.tuple ds))
  | [], _ => .nil
  | t :: r, h => .cons (.tup (SqT.of (h t List.mem_cons_self)) hd) (dp_reps hd fun u hu => h u (List.mem_cons_of_mem _ hu))
end
section
variable {P : Program} {w : World} {K : PySem.W.Frag} {mg : Str → Option Value} {base : Heap}
theorem shaped_reps {m : Nat} {tag : Str} (h : PyData.strOk tag = true) (hm : m ≤ 8) {d : PyData} (hd : d = .none ∨ ∃ z, d = .int z) : SeqAt.shaped (dReps m (.tuple [.str tag, d])) = true := by
  unfold SeqAt.shaped dReps
  have e : ∀ m, PyData.canLayAll0 (List.replicate m (.tuple [.str tag, d])) = true ∧ PyData.depthAll (List.replicate m (.tuple [.str tag, d])) ≤ 2 := by
    intro m
    induction m with
    | zero => exact ⟨by simp [PyData.canLayAll0], by simp [PyData.depthAll]⟩
    | succ m ih =>
      obtain ⟨i1, i2⟩ := ih
      rw [List.replicate_succ]
      refine ⟨?_, ?_⟩
      · rcases hd with rfl | ⟨z, rfl⟩ <;> simp [PyData.canLay0, PyData.canLayAll0, h, i1]
      · rcases hd with rfl | ⟨z, rfl⟩ <;> (rw [PyData.depthAll]; simp only [PyData.depth, PyData.depthAll]; omega)
  obtain ⟨e1, e2⟩ := e m
  simp [PyData.canLay0, PyData.depth, e1]
  omega
end
/-- one given by its place, one by its keyword -/
def swA {α : Type} : List α → List α → List α
  | [a], [b] => [a, b]
  | _, _ => []
theorem swA_rel {vs : List V} {us : List Value} {zs : List V} {ws : List Value} (r : Vals vs us) (s : Vals zs ws) : Vals (swA vs zs) (swA us ws) := by
  cases r with
  | nil => exact .nil
  | cons h1 t1 =>
    cases t1 with
    | cons _ _ => exact .nil
    | nil =>
      cases s with
      | nil => exact .nil
      | cons h2 t2 =>
        cases t2 with
        | nil => exact .cons h1 (.cons h2 .nil)
        | cons _ _ => exact .nil
theorem fun_swA {K : PySem.W.Frag} {x qual : Str} {st : Stmt} {f : Addr} {fd : FuncData} {a b : Str} (F : Fun K x qual st f fd)
    (h : ∀ (kV doc pm : Value) (an : Option Addr) (cdv ct : Value) (u v : Value), bindArgs (PySem.W.fnOf x qual (defArgs st) (defBody st) (defScope st) .none kV doc pm an cdv ct) ⟨[u], [(b, v)]⟩ = pure [(a, u), (b, v)]) : KBinds K fd [a, b] [b] swA swA := by
  obtain ⟨oc, od, kV, doc, pm, an, cdv, ct, osl, rfl, lk, hcd⟩ := F.ex
  refine ⟨fun s us ws _ hl => ?_, swA_rel⟩
  match us, ws, hl with
  | [u], [v], _ => exact .of_eq (h kV doc pm an cdv ct u v)
/-- a list of pairs of ints, each a tuple -/
inductive PrL (H : Hp) : List V → List (Int × Int) → Prop
  | nil : PrL H [] []
  | cons {t : Addr} {xs : List V} {x y : Int} {ps : List (Int × Int)} (h : H t = some (.tup [.int x, .int y])) (r : PrL H xs ps) : PrL H (.ref t :: xs) ((x, y) :: ps)
theorem PrL.same {H H' : Hp} {xs : List V} {ps : List (Int × Int)} (h : PrL H xs ps) (s : Same H H') : PrL H' xs ps := by
  induction h with
  | nil => exact .nil
  | cons h r ih => exact .cons (s _ _ h) ih
theorem PrL.ext {H H' : Hp} {xs : List V} {ps : List (Int × Int)} (h : PrL H xs ps) (s : ExtN H H') : PrL H' xs ps := by
  induction h with
  | nil => exact .nil
  | cons h r ih => exact .cons (s _ _ h (by intro ps z; cases z)) ih
theorem PrL.sb {H H' : Hp} {d : Addr} {xs : List V} {ps : List (Int × Int)} (h : PrL H xs ps) (s : Sb d H H') (hd : ∃ ys, H d = some (.lst ys)) : PrL H' xs ps := by
  obtain ⟨ys, hd⟩ := hd
  induction h with
  | nil => exact .nil
  | cons h r ih => exact .cons (s _ _ (ne_of h hd (by intro z; cases z)) h) ih
theorem PrL.upd {H : Hp} {D : Addr} {acc acc' : List V} {xs : List V} {ps : List (Int × Int)} (h : PrL H xs ps) (hD : H D = some (.lst acc)) : PrL (L2.upd H D (.lst acc')) xs ps := by
  induction h with
  | nil => exact .nil
  | cons h r ih => exact .cons (by rw [upd_ne (ne_of h hD (by intro z; cases z))]; exact h) ih
theorem PrL.len {H : Hp} {xs : List V} {ps : List (Int × Int)} (h : PrL H xs ps) : xs.length = ps.length := by
  induction h with
  | nil => rfl
  | cons h r ih => simp [ih]
theorem PrL.app {H : Hp} {xs ys : List V} {ps qs : List (Int × Int)} (h : PrL H xs ps) (h2 : PrL H ys qs) : PrL H (xs ++ ys) (ps ++ qs) := by
  induction h with
  | nil => exact h2
  | cons h r ih => exact .cons h ih
theorem PrL.get {H : Hp} {xs : List V} {ps : List (Int × Int)} (h : PrL H xs ps) : ∀ {i : Nat} {v : V}, xs[i]? = some v → ∃ t x y, v = .ref t ∧ ps[i]? = some (x, y) ∧ H t = some (.tup [.int x, .int y]) := by
  induction h with
  | nil => intro i v e; simp at e
  | cons h r ih =>
    intro i v e
    cases i with
    | zero => exact ⟨_, _, _, (Option.some.inj e).symm, rfl, h⟩
    | succ i => exact ih e
theorem PrL.take {H : Hp} {xs : List V} {ps : List (Int × Int)} (h : PrL H xs ps) : ∀ k : Nat, PrL H (xs.take k) (ps.take k) := by
  induction h with
  | nil => intro k; simp; exact .nil
  | cons h r ih =>
    intro k
    cases k with
    | zero => exact .nil
    | succ k => exact .cons h (ih k)
theorem PrL.drop {H : Hp} {xs : List V} {ps : List (Int × Int)} (h : PrL H xs ps) : ∀ k : Nat, PrL H (xs.drop k) (ps.drop k) := by
  induction h with
  | nil => intro k; simp; exact .nil
  | cons h r ih =>
    intro k
    cases k with
    | zero => exact .cons h r
    | succ k => exact ih k
def prD (p : Int × Int) : PyData := .tuple [.int p.1, .int p.2]
theorem PrL.dp {K : PySem.W.Frag} {H : Hp} {xs : List V} {ps : List (Int × Int)} (h : PrL H xs ps) : DpAll K H xs (ps.map prD) := by
  induction h with
  | nil => exact .nil
  | cons h r ih => exact .cons (.tup (SqT.of h) (.cons (.int _) (.cons (.int _) .nil))) ih
theorem prs_lay : ∀ ps : List (Int × Int), PyData.canLayAll0 (ps.map prD) = true ∧ PyData.depthAll (ps.map prD) ≤ 2
  | [] => ⟨by simp [PyData.canLayAll0], by simp [PyData.depthAll]⟩
  | p :: ps => by
    obtain ⟨i1, i2⟩ := prs_lay ps
    rw [List.map_cons]
    refine ⟨by simp [prD, PyData.canLay0, PyData.canLayAll0, i1], ?_⟩
    rw [PyData.depthAll]
    simp only [prD, PyData.depth, PyData.depthAll] at i2 ⊢
    omega
theorem shaped_prs (ps : List (Int × Int)) : SeqAt.shaped (.list (ps.map prD)) = true := by
  obtain ⟨e1, e2⟩ := prs_lay ps
  unfold SeqAt.shaped
  simp [PyData.canLay0, PyData.depth, e1]
  omega
theorem shaped_pr (p : Int × Int) : SeqAt.shaped (prD p) = true := by
  unfold SeqAt.shaped prD
  simp [PyData.canLay0, PyData.canLayAll0, PyData.depth, PyData.depthAll]
theorem eqv_pr (p q : Int × Int) : PyData.eqv (prD p) (prD q) = decide (p = q) := by
  obtain ⟨a, b⟩ := p
  obtain ⟨c, d⟩ := q
  unfold prD
  simp [PyData.eqv, PyData.eqvAll, Prod.mk.injEq]
  rfl
theorem eqv_prs_nil : ∀ ps : List (Int × Int), PyData.eqv (.list (ps.map prD)) (.list []) = decide (ps = [])
  | [] => by simp [PyData.eqv, PyData.eqvAll]
  | p :: ps => by simp [PyData.eqv, PyData.eqvAll]
theorem any_prs (ps : List (Int × Int)) (p : Int × Int) : ((ps.map prD).any fun z => PyData.eqv z (prD p)) = decide (p ∈ ps) := by
  rw [Bool.eq_iff_iff, List.any_map, List.any_eq_true, decide_eq_true_iff]
  constructor
  · rintro ⟨x, hx, e⟩
    have e : PyData.eqv (prD x) (prD p) = true := e
    rw [eqv_pr] at e
    rw [← of_decide_eq_true e]; exact hx
  · intro h
    exact ⟨p, h, by show PyData.eqv (prD p) (prD p) = true; rw [eqv_pr]; simp⟩
theorem sm_prs {k : Nat} {ps : List (Int × Int)} (h : ps.length ≤ 6000) : Sm (k + 2) (.list (ps.map prD)) := by
  refine .lst (by rw [List.length_map]; exact h) fun d hd => ?_
  obtain ⟨p, _, e⟩ := List.mem_map.mp hd
  rw [← e]
  refine .tup (by show 2 ≤ 6000; decide) fun x hx => ?_
  simp only [List.mem_cons, List.not_mem_nil, or_false] at hx
  rcases hx with z | z <;> rw [z] <;> exact .int _ _
end Ff

namespace Ff
open PySem PySem.Spec PyProof.Rows L2 ExX LamX
abbrev sE_TooManyNodes : Stmt := topS 6
theorem scE_TooManyNodes : FnScope ["self", "limit"] ["self", "limit"] (defScope (initS sE_TooManyNodes)) := ⟨rfl, rfl, rfl, by decide +kernel, rfl, by decide +kernel, by decide +kernel⟩
abbrev sE_BadParent : Stmt := topS 4
theorem scE_BadParent : FnScope ["self", "node"] ["self", "node"] (defScope (initS sE_BadParent)) := ⟨rfl, rfl, rfl, by decide +kernel, rfl, by decide +kernel, by decide +kernel⟩
abbrev sE_Cycle : Stmt := topS 5
theorem scE_Cycle : FnScope ["self", "node"] ["self", "node"] (defScope (initS sE_Cycle)) := ⟨rfl, rfl, rfl, by decide +kernel, rfl, by decide +kernel, by decide +kernel⟩
abbrev sE_BadSize : Stmt := topS 7
theorem scE_BadSize : FnScope ["self", "size"] ["self", "size"] (defScope (initS sE_BadSize)) := ⟨rfl, rfl, rfl, by decide +kernel, rfl, by decide +kernel, by decide +kernel⟩
section
variable {P : Program} {w : World} {K : PySem.W.Frag} {mg : Str → Option Value} {base : Heap}
theorem ok_E_TooManyNodes {f fM CM : Addr} {fd fdM : FuncData} (F : Fun K "__init__" "TooManyNodes.__init__" (initS sE_TooManyNodes) f fd) (TM : ClsI K CM fM) (gM : mg "ForestError" = some (.ref CM)) (GM : FnOk P w K mg base CX0 1 fM fdM ["self", "tag", "message"] (spTop K "ValueError.__new__" vaTail)) (bM : Binds K fdM ["self", "tag", "message"] []) :
    FnOk P w K mg base CX0 2 f fd ["self", "limit"] (spErrI K "ValueError.__new__" vaTail "limit" "TooManyNodes") := by
  refine F.ok scE_TooManyNodes (fun vs H Q E h => ?_) (fun cdv A outer s H vs Q E hr h => ?_)
  · obtain ⟨a, C, v, rfl, _⟩ := h
    rfl
  · obtain ⟨a, C, v, rfl, ⟨i, rfl, hi⟩, ha, T, nt, nf, q⟩ := h
    refine ⟨_, pss_cons (ps_expr (pe_ci TM GM hr (by rfl) gM bM pass0 (pa_cons (pv 0) (pa_cons pe_str (pa_cons (pe_joined (.cons pe_str (.cons (pe_fmt (pv 1)) (.cons pe_str .nil)))) pa_nil)))))
      (pss_one (ps_st (nid := "ValueError.__new__") PySem.F.store_ValueError (pv 0) (pv 1))), ?_⟩
    have f0 : (Str.empty ++ Str.ofString "there are more than ").length ≤ 100 := by decide +kernel
    have f1 : (Str.ofString " nodes").length ≤ 100 := by decide +kernel
    have l1 := fits_cat f0 (txt_int hi)
    refine ⟨_, rfl, ⟨_, rfl, fits (by omega), _, rfl, .inr ⟨i, rfl, hi, _, rfl, fits (Nat.le_trans l1 (by decide)), _, rfl, fits (Nat.le_trans (fits_cat l1 f1) (by decide)), ?_⟩⟩⟩
    refine ⟨a, C, _, _, rfl, ha, T, nt, fun dx n ne => ⟨_, rfl, _, rfl, a, C, rfl, T, nf, .inr ⟨dx, _, upd_same, ?_, by show 1 ≤ 900; decide, q dx n ne⟩⟩⟩
    rw [upd_ne ne, upd_same]
theorem ok_E_BadParent {f fM CM : Addr} {fd fdM : FuncData} (F : Fun K "__init__" "BadParent.__init__" (initS sE_BadParent) f fd) (TM : ClsI K CM fM) (gM : mg "ForestError" = some (.ref CM)) (GM : FnOk P w K mg base CX0 1 fM fdM ["self", "tag", "message"] (spTop K "ValueError.__new__" vaTail)) (bM : Binds K fdM ["self", "tag", "message"] []) :
    FnOk P w K mg base CX0 2 f fd ["self", "node"] (spErrI K "ValueError.__new__" vaTail "node" "BadParent") := by
  refine F.ok scE_BadParent (fun vs H Q E h => ?_) (fun cdv A outer s H vs Q E hr h => ?_)
  · obtain ⟨a, C, v, rfl, _⟩ := h
    rfl
  · obtain ⟨a, C, v, rfl, ⟨i, rfl, hi⟩, ha, T, nt, nf, q⟩ := h
    refine ⟨_, pss_cons (ps_expr (pe_ci TM GM hr (by rfl) gM bM pass0 (pa_cons (pv 0) (pa_cons pe_str (pa_cons (pe_joined (.cons pe_str (.cons (pe_fmt (pv 1)) (.cons pe_str .nil)))) pa_nil)))))
      (pss_one (ps_st (nid := "ValueError.__new__") PySem.F.store_ValueError (pv 0) (pv 1))), ?_⟩
    have f0 : (Str.empty ++ Str.ofString "the parent of node ").length ≤ 100 := by decide +kernel
    have f1 : (Str.ofString " is no node").length ≤ 100 := by decide +kernel
    have l1 := fits_cat f0 (txt_int hi)
    refine ⟨_, rfl, ⟨_, rfl, fits (by omega), _, rfl, .inr ⟨i, rfl, hi, _, rfl, fits (Nat.le_trans l1 (by decide)), _, rfl, fits (Nat.le_trans (fits_cat l1 f1) (by decide)), ?_⟩⟩⟩
    refine ⟨a, C, _, _, rfl, ha, T, nt, fun dx n ne => ⟨_, rfl, _, rfl, a, C, rfl, T, nf, .inr ⟨dx, _, upd_same, ?_, by show 1 ≤ 900; decide, q dx n ne⟩⟩⟩
    rw [upd_ne ne, upd_same]
theorem ok_E_Cycle {f fM CM : Addr} {fd fdM : FuncData} (F : Fun K "__init__" "Cycle.__init__" (initS sE_Cycle) f fd) (TM : ClsI K CM fM) (gM : mg "ForestError" = some (.ref CM)) (GM : FnOk P w K mg base CX0 1 fM fdM ["self", "tag", "message"] (spTop K "ValueError.__new__" vaTail)) (bM : Binds K fdM ["self", "tag", "message"] []) :
    FnOk P w K mg base CX0 2 f fd ["self", "node"] (spErrI K "ValueError.__new__" vaTail "node" "Cycle") := by
  refine F.ok scE_Cycle (fun vs H Q E h => ?_) (fun cdv A outer s H vs Q E hr h => ?_)
  · obtain ⟨a, C, v, rfl, _⟩ := h
    rfl
  · obtain ⟨a, C, v, rfl, ⟨i, rfl, hi⟩, ha, T, nt, nf, q⟩ := h
    refine ⟨_, pss_cons (ps_expr (pe_ci TM GM hr (by rfl) gM bM pass0 (pa_cons (pv 0) (pa_cons pe_str (pa_cons (pe_joined (.cons pe_str (.cons (pe_fmt (pv 1)) (.cons pe_str .nil)))) pa_nil)))))
      (pss_one (ps_st (nid := "ValueError.__new__") PySem.F.store_ValueError (pv 0) (pv 1))), ?_⟩
    have f0 : (Str.empty ++ Str.ofString "the parents of node ").length ≤ 100 := by decide +kernel
    have f1 : (Str.ofString " do not lead to a root").length ≤ 100 := by decide +kernel
    have l1 := fits_cat f0 (txt_int hi)
    refine ⟨_, rfl, ⟨_, rfl, fits (by omega), _, rfl, .inr ⟨i, rfl, hi, _, rfl, fits (Nat.le_trans l1 (by decide)), _, rfl, fits (Nat.le_trans (fits_cat l1 f1) (by decide)), ?_⟩⟩⟩
    refine ⟨a, C, _, _, rfl, ha, T, nt, fun dx n ne => ⟨_, rfl, _, rfl, a, C, rfl, T, nf, .inr ⟨dx, _, upd_same, ?_, by show 1 ≤ 900; decide, q dx n ne⟩⟩⟩
    rw [upd_ne ne, upd_same]
theorem ok_E_BadSize {f fM CM : Addr} {fd fdM : FuncData} (F : Fun K "__init__" "BadSize.__init__" (initS sE_BadSize) f fd) (TM : ClsI K CM fM) (gM : mg "ForestError" = some (.ref CM)) (GM : FnOk P w K mg base CX0 1 fM fdM ["self", "tag", "message"] (spTop K "ValueError.__new__" vaTail)) (bM : Binds K fdM ["self", "tag", "message"] []) :
    FnOk P w K mg base CX0 2 f fd ["self", "size"] (spErrI K "ValueError.__new__" vaTail "size" "BadSize") := by
  refine F.ok scE_BadSize (fun vs H Q E h => ?_) (fun cdv A outer s H vs Q E hr h => ?_)
  · obtain ⟨a, C, v, rfl, _⟩ := h
    rfl
  · obtain ⟨a, C, v, rfl, ⟨i, rfl, hi⟩, ha, T, nt, nf, q⟩ := h
    refine ⟨_, pss_cons (ps_expr (pe_ci TM GM hr (by rfl) gM bM pass0 (pa_cons (pv 0) (pa_cons pe_str (pa_cons (pe_joined (.cons (pe_fmt (pv 1)) (.cons pe_str .nil))) pa_nil)))))
      (pss_one (ps_st (nid := "ValueError.__new__") PySem.F.store_ValueError (pv 0) (pv 1))), ?_⟩
    have f0 : Str.empty.length ≤ 100 := by decide +kernel
    have f1 : (Str.ofString " is not an allowed number of nodes").length ≤ 100 := by decide +kernel
    have l1 := fits_cat f0 (txt_int hi)
    refine ⟨_, rfl, ⟨_, rfl, .inr ⟨i, rfl, hi, _, rfl, fits (Nat.le_trans l1 (by decide)), _, rfl, fits (Nat.le_trans (fits_cat l1 f1) (by decide)), ?_⟩⟩⟩
    refine ⟨a, C, _, _, rfl, ha, T, nt, fun dx n ne => ⟨_, rfl, _, rfl, a, C, rfl, T, nf, .inr ⟨dx, _, upd_same, ?_, by show 1 ≤ 900; decide, q dx n ne⟩⟩⟩
    rw [upd_ne ne, upd_same]
end
end Ff

namespace Ff
open PySem PySem.Spec PyProof.Rows L2 ExX LamX
abbrev sCkS : Stmt := topS 18
abbrev ckSN : List Str := ["size"]
theorem scCkS : FnScope ckSN ["size"] (defScope sCkS) := ⟨rfl, rfl, rfl, by decide +kernel, rfl, by decide +kernel, by decide +kernel⟩
abbrev sCF : Stmt := topS 20
abbrev cFN : List Str := ["size", "roots"]
theorem scCF : FnScope cFN ["size", "roots"] (defScope sCF) := ⟨rfl, rfl, rfl, by decide +kernel, rfl, by decide +kernel, by decide +kernel⟩
abbrev sCT : Stmt := topS 19
abbrev cTN : List Str := ["size"]
theorem scCT : FnScope cTN ["size"] (defScope sCT) := ⟨rfl, rfl, rfl, by decide +kernel, rfl, by decide +kernel, by decide +kernel⟩
abbrev sAllF : Stmt := topS 21
abbrev allFN : List Str := ["size", "rows", "node", "row", "parent"]
theorem scAllF : FnScope allFN ["size"] (defScope sAllF) := ⟨rfl, rfl, rfl, by decide +kernel, rfl, by decide +kernel, by decide +kernel⟩
abbrev sAllT : Stmt := topS 22
abbrev allTN : List Str := ["size", "forest"]
theorem scAllT : FnScope allTN ["size"] (defScope sAllT) := ⟨rfl, rfl, rfl, by decide +kernel, rfl, by decide +kernel, by decide +kernel⟩
abbrev sTup : Stmt := topS 32
abbrev tupN : List Str := ["_law_size_in", "_law_found", "_law_step", "_law_longer", "_law_first", "_law_node"]
theorem scTup : FnScope tupN ["_law_size_in"] (defScope sTup) := ⟨rfl, rfl, rfl, by decide +kernel, rfl, by decide +kernel, by decide +kernel⟩
abbrev sStar : Stmt := topS 33
abbrev starN : List Str := ["_law_row", "_law_node"]
theorem scStar : FnScope starN ["_law_row"] (defScope sStar) := ⟨rfl, rfl, rfl, by decide +kernel, rfl, by decide +kernel, by decide +kernel⟩
abbrev sLys : Stmt := topS 34
abbrev lysN : List Str := ["_law_rest", "_law_many", "_law_total", "_law_choices", "_law_k"]
theorem scLys : FnScope lysN ["_law_rest", "_law_many"] (defScope sLys) := ⟨rfl, rfl, rfl, by decide +kernel, rfl, by decide +kernel, by decide +kernel⟩
structure KnY (P : Program) (w : World) (K : PySem.W.Frag) (mg : Str → Option Value) (base : Heap) (k : Nat) (x : Str) (ps : List Str) (sp : Sp) (f : Addr) (fd : FuncData) : Prop where
  kp : PySem.W.keepIn K (.ref f) = true
  G : FnOk P w K mg base (L2N.CX P w) k f fd ps sp
  g : mg x = some (.ref f)
def spCkS (C : Addr) : Sp := fun vs H Q E => ∃ t : Int, vs = [.int t] ∧ ((0 ≤ t ∧ t ≤ 60 ∧ Q .non H) ∨ (¬ (0 ≤ t ∧ t ≤ 60) ∧ t.natAbs.log2 < 1920 ∧ Flies H E C "size" "BadSize" (.int t)))
def spCF (C : Addr) : Sp := fun vs H Q E => ∃ t r : Int, vs = [.int t, .int r] ∧ ((0 ≤ t ∧ t ≤ 60 ∧ Q (.int (cfI t.toNat r)) H) ∨ (¬ (0 ≤ t ∧ t ≤ 60) ∧ t.natAbs.log2 < 1920 ∧ Flies H E C "size" "BadSize" (.int t)))
def spCT (C : Addr) : Sp := fun vs H Q E => ∃ t : Int, vs = [.int t] ∧ ((0 ≤ t ∧ t ≤ 60 ∧ Q (.int (t * cfI t.toNat 1)) H) ∨ (¬ (0 ≤ t ∧ t ≤ 60) ∧ t.natAbs.log2 < 1920 ∧ Flies H E C "size" "BadSize" (.int t)))
def spPow3 : Sp := fun vs H Q _ => ∃ (b : Int) (e : Nat), vs = [.int b, .int e] ∧ b.natAbs < 2 ^ 20 ∧ e ≤ 200 ∧ Q (.int (b ^ e)) H
theorem pow_small3 {b : Int} (h : b.natAbs < 2 ^ 20) : ∀ e : Nat, (b ^ e).natAbs < 2 ^ (20 * e + 1)
  | 0 => by rw [Int.pow_zero]; decide
  | e + 1 => by
    have := wide_lt (b := 20) (pow_small3 h e) h
    rw [Int.pow_succ, show 20 * (e + 1) + 1 = 20 * e + 1 + 20 by omega]
    exact this
theorem cfI_lt {n : Nat} (h : n ≤ 60) (r : Int) : 0 ≤ cfI n r ∧ (cfI n r).natAbs < 2 ^ 1300 := by
  unfold cfI cfN
  by_cases e : 0 ≤ r ∧ r ≤ (n : Int)
  · rw [if_pos e, if_pos (by omega)]
    by_cases e2 : r.toNat = n
    · rw [if_pos e2]
      exact ⟨by decide, by decide +kernel⟩
    · rw [if_neg e2]
      refine ⟨by omega, ?_⟩
      have a := pow_small3 (b := (n : Int)) (by omega) (n - r.toNat - 1)
      have b := wide_lt (i := (r.toNat : Int)) (a := 20) (by omega) a
      rw [Int.natCast_mul, Int.natCast_pow]
      exact Nat.lt_of_lt_of_le b (Nat.pow_le_pow_right (by decide) (by omega))
  · rw [if_neg e]
    exact ⟨by decide, by decide +kernel⟩
section
variable {P : Program} {w : World} {K : PySem.W.Frag} {mg : Str → Option Value} {base : Heap}
theorem ok_power3 {f : Addr} {fd : FuncData} {k : Nat} (F : Fun K "power_of" "power_of" sPower f fd) (T : Tx mg) : FnOk P w K mg base CX0 (k + 1) f fd ["base", "exponent"] spPow3 := by
  refine F.ok scPower (fun vs H Q E h => ?_) (fun cdv A outer s H vs Q E hr h => ?_)
  · obtain ⟨b, e, rfl, _⟩ := h
    rfl
  · obtain ⟨b, e, rfl, hb, he, q⟩ := h
    refine ⟨_, (pss_cons (ps_set (i := 2) scPower.nd rfl (.inl rfl) pe_int)
      (pss_cons (ps_for PassesOwn.never rfl (pi_range1 (by rfl) T.range (pa_cons (pv 1) pa_nil)) (pg_name (i := 3) scPower.nd rfl (.inl rfl))
        (pss_one (ps_aug (i := 2) scPower.nd rfl (.inl rfl) (pv 0) ip_mulW)))
      (pss_one (ps_ret (pv 2))))), ?_⟩
    refine ⟨_, rfl, _, rfl, by omega, by omega, ?_⟩
    refine for_range (lo := 0) (n := ((e : Nat) : Int).toNat) (fun i σ H' => (∃ y, σ = [some (.int b), some (.int e), some (.int (b ^ i)), y]) ∧ H' = H) ⟨⟨none, by rw [Int.pow_zero]; rfl⟩, rfl⟩ ?_ ?_
    · rintro i σ H' hi ⟨⟨y, rfl⟩, rfl⟩
      refine ⟨_, rfl, _, rfl, _, _, rfl, rfl, wide_mul (pow_small3 hb i) hb (by omega) (by decide) (by omega), ⟨some (.int (0 + (i : Int))), ?_⟩, rfl⟩
      rw [Int.pow_succ]
      rfl
    · rintro σ H' ⟨⟨y, rfl⟩, rfl⟩
      refine ⟨_, rfl, ?_⟩
      rw [show ((e : Nat) : Int).toNat = e by omega]
      exact q
theorem okB_ckS {f C : Addr} {fd : FuncData} {tS : Tok} (F : Fun K "check_size" "check_size" sCkS f fd) (gS : mg "MAX_SIZE" = some (.int 60 tS)) (R : Raisable P w K mg base 2 "BadSize" C "size" "BadSize") : FnOk P w K mg base (L2N.CX P w) 4 f fd ["size"] (spCkS C) := by
  refine okN F scCkS (fun vs H Q E h => ?_) (fun cdv A outer s H vs Q E hr h tk => ?_)
  · obtain ⟨t, rfl, _⟩ := h
    rfl
  · obtain ⟨t, rfl, h⟩ := h
    have hrm : ∀ {j : Nat}, j ≤ 3 → Room j (A.deeper (envOfC "check_size" (defScope sCkS) s.heap.objs.size f cdv)) := fun h => hr.mono h
    refine ⟨_, (pss_one (ps_if (pt_not (pt_chain op_le op_le pe_int (pv 0) (pe_glob (v := .int 60) rfl gS ⟨_, rfl⟩)))
        (pss_one (L2N.ps_raise rfl tk (pmk_err R (hrm (by decide)) (by rfl) (pv 0)))) pss_nil)), ?_⟩
    refine ⟨_, rfl, _, _, rfl, rfl, _, rfl, ?_⟩
    show if decide ((0 : Int) ≤ t) = true then _ else _
    rcases h with ⟨h1, h2, q⟩ | ⟨h1, h2, fl⟩
    · rw [decide_eq_true h1]
      refine iteT ⟨_, _, rfl, rfl, _, rfl, ?_⟩
      show if (!decide (t ≤ (60 : Int))) = true then _ else _
      rw [decide_eq_true h2]
      exact iteF q
    · by_cases e : (0 : Int) ≤ t
      · rw [decide_eq_true e]
        refine iteT ⟨_, _, rfl, rfl, _, rfl, ?_⟩
        show if (!decide (t ≤ (60 : Int))) = true then _ else _
        rw [decide_eq_false (fun z => h1 ⟨e, z⟩)]
        exact iteT ⟨_, rfl, _, rfl, ⟨t, rfl, h2⟩, fl⟩
      · rw [decide_eq_false e]
        exact iteF ⟨_, rfl, iteT ⟨_, rfl, _, rfl, ⟨t, rfl, h2⟩, fl⟩⟩
theorem okB_cf {f fS fP C : Addr} {fd fdS fdP : FuncData} (F : Fun K "count_forests" "count_forests" sCF f fd) (kS : KnX P w K mg base 4 "check_size" ["size"] (spCkS C) fS fdS) (kP : Kn P w K mg base 1 "power_of" sPower ["base", "exponent"] spPow3 fP fdP) : FnOk P w K mg base (L2N.CX P w) 5 f fd ["size", "roots"] (spCF C) := by
  refine okN F scCF (fun vs H Q E h => ?_) (fun cdv A outer s H vs Q E hr h tk => ?_)
  · obtain ⟨t, r, rfl, _⟩ := h
    rfl
  · obtain ⟨t, r, rfl, h⟩ := h
    have hrm : ∀ {j : Nat}, j ≤ 4 → Room j (A.deeper (envOfC "count_forests" (defScope sCF) s.heap.objs.size f cdv)) := fun h => hr.mono h
    refine ⟨_, (pss_cons (ps_expr (pe_call kS.G (hrm (by decide)) (by rfl) kS.g kS.kp kS.b .nil (lookNE tk) (pa_cons (pv 0) pa_nil)))
      (pss_cons (ps_if (pt_not (pt_chain op_le op_le pe_int (pv 1) (pv 0)))
        (pss_one (ps_ret pe_int)) pss_nil)
      (pss_cons (ps_if (pt_cmpR op_eq (pv 1) (pv 0) (nomark _))
        (pss_one (ps_ret pe_int)) pss_nil)
      (pss_one (ps_ret (pe_op op_mulW (pv 1) (pe_call kP.G (hrm (by decide)) (by rfl) kP.g kP.F.kp kP.b .nil pass0 (pa_cons (pv 0) (pa_cons (pe_op op_sub (pe_op op_sub (pv 0) (pv 1)) pe_int) pa_nil))))))))), ?_⟩
    rcases Or.symm h with ⟨h1, h2, fl⟩ | ⟨h1, h2, q⟩
    · exact ⟨_, rfl, t, rfl, .inr ⟨h1, h2, fl⟩⟩
    obtain ⟨n, rfl⟩ : ∃ n : Nat, t = (n : Int) := ⟨t.toNat, by omega⟩
    rw [Int.toNat_natCast] at q
    refine ⟨_, rfl, _, rfl, .inl ⟨h1, h2, ?_⟩⟩
    unfold cfI at q
    refine ⟨_, rfl, _, _, rfl, rfl, _, rfl, ?_⟩
    show if decide ((0 : Int) ≤ r) = true then _ else _
    rcases Or.symm (Decidable.em ((0 : Int) ≤ r)) with e1 | e1
    · rw [decide_eq_false e1]
      rw [if_neg (fun z => e1 z.1)] at q
      exact iteF ⟨_, rfl, iteT q⟩
    rw [decide_eq_true e1]
    refine iteT ⟨_, rfl, _, _, rfl, rfl, _, rfl, ?_⟩
    show if (!decide (r ≤ (n : Int))) = true then _ else _
    rcases Or.symm (Decidable.em (r ≤ (n : Int))) with e2 | e2
    · rw [decide_eq_false e2]
      rw [if_neg (fun z => e2 z.2)] at q
      exact iteT q
    rw [decide_eq_true e2]
    rw [if_pos ⟨e1, e2⟩] at q
    unfold cfN at q
    rw [if_pos (by omega)] at q
    refine iteF ⟨_, rfl, _, rfl, rfl, _, rfl, ?_⟩
    show if decide (V.int r = V.int (n : Int)) = true then _ else _
    by_cases e3 : r = (n : Int)
    · rw [decide_eq_true (show V.int r = V.int (n : Int) by rw [e3])]
      rw [if_pos (by omega)] at q
      exact iteT q
    · rw [decide_eq_false (fun z => e3 (V.int.inj z))]
      rw [if_neg (by omega)] at q
      refine iteF ⟨_, rfl, _, rfl, _, rfl, _, rfl, _, _, rfl, rfl, _, _, rfl, rfl, (n : Int), n - r.toNat - 1, ?_, by omega, by omega, _, _, rfl, rfl, ?_, ?_⟩
      · show [V.int (n : Int), V.int ((n : Int) - r - 1)] = [V.int (n : Int), V.int ((n - r.toNat - 1 : Nat) : Int)]
        rw [show (n : Int) - r - 1 = ((n - r.toNat - 1 : Nat) : Int) by omega]
      · exact wide_mul (a := 20) (by omega) (pow_small3 (b := (n : Int)) (by omega) (n - r.toNat - 1)) (by decide) (by omega) (by omega)
      · rw [Int.natCast_mul, Int.natCast_pow, Int.toNat_of_nonneg e1] at q
        exact q
theorem okB_ct {f fF C : Addr} {fd fdF : FuncData} {dF : List Value} (F : Fun K "count_trees" "count_trees" sCT f fd) (kF : KnY P w K mg base 5 "count_forests" ["size", "roots"] (spCF C) fF fdF) (rF : Vals [V.int 1] dF) (bF : Binds K fdF ["size", "roots"] dF) : FnOk P w K mg base (L2N.CX P w) 6 f fd ["size"] (spCT C) := by
  refine okN F scCT (fun vs H Q E h => ?_) (fun cdv A outer s H vs Q E hr h tk => ?_)
  · obtain ⟨t, rfl, _⟩ := h
    rfl
  · obtain ⟨t, rfl, h⟩ := h
    have hrm : ∀ {j : Nat}, j ≤ 5 → Room j (A.deeper (envOfC "count_trees" (defScope sCT) s.heap.objs.size f cdv)) := fun h => hr.mono h
    refine ⟨_, (pss_one (ps_ret (pe_op op_mulW (pv 0) (pe_call kF.G (hrm (by decide)) (by rfl) kF.g kF.kp bF rF (lookNE tk) (pa_cons (pv 0) pa_nil))))), ?_⟩
    rcases h with ⟨h1, h2, q⟩ | ⟨h1, h2, fl⟩
    · exact ⟨_, rfl, _, rfl, t, 1, rfl, .inl ⟨h1, h2, _, _, rfl, rfl, wide_mul (a := 20) (by omega) (cfI_lt (n := t.toNat) (by omega) 1).2 (by decide) (by decide) (by decide), q⟩⟩
    · exact ⟨_, rfl, _, rfl, t, 1, rfl, .inr ⟨h1, h2, fl⟩⟩
theorem cf_binds {K : PySem.W.Frag} {f : Addr} {fd : FuncData} (F : FunD K "count_forests" "count_forests" (defArgs sCF) (defBody sCF) (defScope sCF) [] [("roots", V.int 1)] f fd) : ∃ ds, Vals [V.int 1] ds ∧ Binds K fd ["size", "roots"] ds :=
  F.binds0 1 (by simp) rfl fun D doc pm an cdv ct us ks h1 h2 => match us, ks, h1, h2 with
    | [u], [v], _, _ => ⟨_, _, _, _, _, _, rfl, rfl, rfl⟩
end
end Ff

namespace Ff
open PySem PySem.Spec PyProof.Rows L2 ExX LamX
/-- a list of rows, each a tuple -/
inductive RwAt (H : Hp) : List V → List (List Nat) → Prop
  | nil : RwAt H [] []
  | cons {t : Addr} {xs : List V} {row : List Nat} {rows : List (List Nat)} (h : H t = some (.tup (natsV row))) (r : RwAt H xs rows) : RwAt H (.ref t :: xs) (row :: rows)
theorem RwAt.same {H H' : Hp} {xs : List V} {rs : List (List Nat)} (h : RwAt H xs rs) (s : Same H H') : RwAt H' xs rs := by
  induction h with
  | nil => exact .nil
  | cons h r ih => exact .cons (s _ _ h) ih
theorem RwAt.ext {H H' : Hp} {xs : List V} {rs : List (List Nat)} (h : RwAt H xs rs) (s : ExtN H H') : RwAt H' xs rs := by
  induction h with
  | nil => exact .nil
  | cons h r ih => exact .cons (s _ _ h (by intro ps z; cases z)) ih
theorem RwAt.sb {H H' : Hp} {d : Addr} {ys : List V} {xs : List V} {rs : List (List Nat)} (h : RwAt H xs rs) (s : Sb d H H') (hd : H d = some (.lst ys)) : RwAt H' xs rs := by
  induction h with
  | nil => exact .nil
  | cons h r ih => exact .cons (s _ _ (ne_of h hd (by intro z; cases z)) h) ih
theorem RwAt.put {H : Hp} {D : Addr} {acc acc' : List V} {xs : List V} {rs : List (List Nat)} (h : RwAt H xs rs) (hD : H D = some (.lst acc)) : RwAt (upd H D (.lst acc')) xs rs := by
  induction h with
  | nil => exact .nil
  | cons h r ih => exact .cons (by rw [upd_ne (ne_of h hD (by intro z; cases z))]; exact h) ih
theorem RwAt.len {H : Hp} {xs : List V} {rs : List (List Nat)} (h : RwAt H xs rs) : xs.length = rs.length := by
  induction h with
  | nil => rfl
  | cons h r ih => rw [List.length_cons, List.length_cons, ih]
theorem RwAt.app {H : Hp} {xs ys : List V} {rs qs : List (List Nat)} (h : RwAt H xs rs) (h2 : RwAt H ys qs) : RwAt H (xs ++ ys) (rs ++ qs) := by
  induction h with
  | nil => exact h2
  | cons h r ih => exact .cons h ih
theorem RwAt.get {H : Hp} {xs : List V} {rs : List (List Nat)} (h : RwAt H xs rs) : ∀ {i : Nat} {v : V}, xs[i]? = some v → ∃ t row, v = .ref t ∧ rs[i]? = some row ∧ H t = some (.tup (natsV row)) := by
  induction h with
  | nil => intro i v e; simp at e
  | cons h r ih =>
    intro i v e
    cases i with
    | zero => exact ⟨_, _, (Option.some.inj e).symm, rfl, h⟩
    | succ i => exact ih e
theorem filt_take {α : Type} {g : α → Bool} {l : List α} {i : Nat} {x : α} (h : l[i]? = some x) : (l.take (i + 1)).filter g = (l.take i).filter g ++ if g x = true then [x] else [] := by
  rw [List.take_add_one, h, List.filter_append]
  cases e : g x <;> simp [List.filter, e]
def spTup : Sp := fun vs H Q _ => ∃ n : Nat, vs = [vi n] ∧ n ≤ 5 ∧ ∀ (q : Addr) (xs : List V) H', H q = none → H' q = some (.lst xs) → RwAt H' xs (rowsM n n) → Same H H' → Q (.ref q) H'
def spAllF (C : Addr) : Sp := fun vs H Q E => ∃ t : Int, vs = [.int t] ∧ ((5 < t ∧ Flies H E C "limit" "TooManyNodes" (.int 5)) ∨ ∃ n : Nat, t = (n : Int) ∧ n ≤ 5 ∧ ∀ (q : Addr) (xs : List V) H', H q = none → H' q = some (.lst xs) → RwAt H' xs (forM n) → Same H H' → Q (.ref q) H')
def spAllT (C : Addr) : Sp := fun vs H Q E => ∃ t : Int, vs = [.int t] ∧ ((5 < t ∧ Flies H E C "limit" "TooManyNodes" (.int 5)) ∨ ∃ n : Nat, t = (n : Int) ∧ n ≤ 5 ∧ ∀ (q : Addr) (xs : List V) H', H q = none → H' q = some (.lst xs) → RwAt H' xs (treM n) → Same H H' → Q (.ref q) H')
theorem pow5 {n i : Nat} (hn : n ≤ 5) (hi : i ≤ 5) : n ^ i ≤ 3125 := by
  have h1 : n ^ i ≤ 5 ^ i := Nat.pow_le_pow_left hn i
  have h2 : 5 ^ i ≤ 5 ^ 5 := Nat.pow_le_pow_right (by decide) hi
  omega
theorem flat_len {n : Nat} (rs : List (List Nat)) : (rs.flatMap fun row => (List.range n).map fun v => row ++ [v]).length = rs.length * n := by
  rw [List.length_flatMap]
  have : rs.map (fun row => ((List.range n).map fun v => row ++ [v]).length) = rs.map fun _ => n := List.map_congr_left fun e _ => by rw [List.length_map, List.length_range]
  rw [this, List.map_const', List.sum_replicate_nat]
theorem natsV_app (l m : List Nat) : natsV (l ++ m) = natsV l ++ natsV m := by
  unfold natsV
  rw [List.map_append]
theorem for_len {n : Nat} (hn : n ≤ 5) : (forM n).length ≤ 3125 := by
  have := List.length_filter_le (noRing n) (rowsM n n)
  rw [rows_len] at this
  have := pow5 hn hn
  unfold forM
  omega
section
variable {P : Program} {w : World} {K : PySem.W.Frag} {mg : Str → Option Value} {base : Heap}
theorem ok_tup {f : Addr} {fd : FuncData} (F : Fun K "_law_tuples" "_law_tuples" sTup f fd) (T : Tx mg) : FnOk P w K mg base CX0 1 f fd ["_law_size_in"] spTup := by
  refine F.ok scTup (fun vs H Q E h => ?_) (fun cdv A outer s H vs Q E hr h => ?_)
  · obtain ⟨n, rfl, _⟩ := h
    rfl
  · obtain ⟨n, rfl, hn, q⟩ := h
    refine ⟨_, (pss_cons (ps_set (i := 1) scTup.nd rfl (.inl rfl) (pe_lst (pa_cons (pe_tup pa_nil) pa_nil)))
      (pss_cons (ps_for PassesOwn.never rfl (pi_range1 (by rfl) T.range (pa_cons (pv 0) pa_nil)) (pg_name (i := 2) scTup.nd rfl (.inl rfl))
        (pss_cons (ps_set (i := 3) scTup.nd rfl (.inl rfl) (pe_lst pa_nil))
        (pss_cons (ps_for PassesOwn.never rfl (pi_list (pv 1)) (pg_name (i := 4) scTup.nd rfl (.inr rfl))
          (pss_one (ps_expr (pe_bm PySem.F.plainAttrs_list PySem.F.slot_list_extend PySem.F.type_list_extend mt_extend (pv 3) (pa_cons (pe_lc (own := [("_law_node", 5)]) (g := gName 5) (by rfl) scTup.nd (pi_range1 (by rfl) T.range (pa_cons (pv 0) pa_nil)) (blkOk_by (own := [("_law_node", 5)]) (N := tupN) (sc := defScope sTup) (by decide +kernel)) (fun _ _ _ _ _ => (pg_name (i := 5) scTup.nd rfl (.inl rfl))) (fun _ _ _ _ _ => pts_nil) (fun _ _ _ _ _ => (pe_op (show OpR _ (binaryOp .Add) (rCatA K) from op_catA) (pv 4) (pe_tup (pa_cons (pv 5) pa_nil))))) pa_nil)))))
        (pss_one (ps_set (i := 1) scTup.nd rfl (.inl rfl) (pv 3))))))
      (pss_one (ps_ret (pv 1))))), ?_⟩
    refine ⟨Nat.zero_le _, fun e0 ne0 => ⟨by show 1 ≤ sizeLine; decide, fun l0 nl0 => ?_⟩⟩
    have s1 := same_new (o := .tup []) ne0
    have s2 := same_new (o := .lst [V.ref e0]) nl0
    have hr0 : RwAt (upd (upd H e0 (.tup [])) l0 (.lst [V.ref e0])) [V.ref e0] (rowsM n 0) := .cons (s2 _ _ upd_same) .nil
    refine ⟨_, rfl, _, rfl, by omega, by omega, ?_⟩
    refine for_range (lo := 0) (n := ((n : Nat) : Int).toNat) (fun i σ H' => (∃ (ln : Addr) (xs : List V) (y2 y3 y4 : Option V), σ = [some (vi n), some (.ref ln), y2, y3, y4, none] ∧ H ln = none ∧ H' ln = some (.lst xs) ∧ RwAt H' xs (rowsM n i)) ∧ Same H H') ⟨⟨l0, _, _, _, _, rfl, sm_none s1 nl0, upd_same, hr0⟩, s1.trans s2⟩ ?_ ?_
    · rintro i σ H1 hi ⟨⟨ln, xs, y2, y3, y4, rfl, nln, hln, hrw⟩, sm⟩
      refine ⟨Nat.zero_le _, fun lo nlo => ?_⟩
      have s3 := same_new (o := .lst []) nlo
      have nll : ln ≠ lo := ne_of_none hln nlo
      have hxl := hrw.len
      rw [rows_len] at hxl
      have hpi := pow5 hn (show i ≤ 5 by omega)
      refine ⟨_, rfl, ln, rfl, ⟨_, SqL.of (s3 _ _ hln)⟩, ?_⟩
      refine for_list (K := K) (a := ln) (xs := xs) (fun j σ H' => (∃ (ys : List V) (y4 : Option V), σ = [some (vi n), some (.ref ln), some (.int (0 + (i : Int))), some (.ref lo), y4, none] ∧ H' lo = some (.lst ys) ∧ RwAt H' ys (((rowsM n i).take j).flatMap fun row => (List.range n).map fun v => row ++ [v])) ∧ Sb lo H1 H') ⟨⟨[], _, rfl, upd_same, .nil⟩, Sb.of s3⟩ (fun j σ H' _ h => SqL.of (h.2 _ _ nll hln)) ?_ ?_
      · rintro j x σ H2 hx ⟨⟨ys, z4, rfl, hlo, hys⟩, sb2⟩
        obtain ⟨t, row, rfl, hrj, ht⟩ := hrw.get hx
        have nt : t ≠ lo := ne_of_none ht nlo
        have ht2 := sb2 _ _ nt ht
        obtain ⟨hrl, hrx⟩ := rows_mem i row (List.mem_of_getElem? hrj)
        refine ⟨_, rfl, .inl ⟨rfl, _, SqL.of hlo⟩, _, rfl, _, rfl, by omega, by omega, fun D nD => ?_⟩
        refine lc_range (lo := 0) (n := ((n : Nat) : Int).toNat) (fun k H' => (∃ vs, H' D = some (.lst vs) ∧ RwAt H' vs ((List.range k).map fun v => row ++ [v])) ∧ Same H2 H') ⟨⟨[], upd_same, .nil⟩, same_new nD⟩ ?_ ?_
        · rintro k H3 hk ⟨⟨vs, hD, hvs⟩, sm3⟩
          have hlen : vs.length < sizeLine := by
            rw [hvs.len, List.length_map, List.length_range]
            exact Nat.lt_of_le_of_lt (show _ ≤ 1000 by omega) (by decide)
          refine ⟨rfl, _, rfl, _, rfl, by show 1 ≤ sizeLine; decide, fun c1 nc1 => ?_⟩
          have sc := same_new (o := .tup [V.int (0 + (k : Int))]) nc1
          have fin : ∀ {H' : Hp} (p : Addr), Same H3 H' → H' p = some (.tup (natsV (row ++ [k]))) → ∃ acc, H' D = some (.lst acc) ∧ acc.length < sizeLine ∧ ((∃ vs, upd H' D (.lst (acc ++ [V.ref p])) D = some (.lst vs) ∧ RwAt (upd H' D (.lst (acc ++ [V.ref p]))) vs ((List.range (k + 1)).map fun v => row ++ [v])) ∧ Same H2 (upd H' D (.lst (acc ++ [V.ref p])))) := fun p s' hp => by
            refine ⟨vs, s' _ _ hD, hlen, ⟨vs ++ [V.ref p], upd_same, ?_⟩, same_over (sm3.trans s') nD⟩
            rw [List.range_succ, List.map_append]
            exact ((hvs.same s').app (.cons hp .nil)).put (s' _ _ hD)
          refine ⟨t, c1, _, _, rfl, rfl, SqT.of (sc _ _ (sm3 _ _ ht2)), SqT.of upd_same, Nat.le_trans (show _ ≤ 1000 by rw [natsV_len, hrl]; simp; omega) (by decide), fun e => ?_, fun _ e => (by cases e), fun _ _ p np => ?_⟩
          · refine fin c1 sc ?_
            have er : row = [] := by
              cases row with
              | nil => rfl
              | cons _ _ => cases e
            rw [upd_same, er, Int.zero_add]
            rfl
          · refine fin p (sc.trans (same_new np)) ?_
            rw [upd_same, natsV_app, Int.zero_add]
            rfl
        · rintro H3 ⟨⟨vs, hD, hvs⟩, sm3⟩
          rw [show ((n : Nat) : Int).toNat = n by omega] at hvs
          have hlo' := sm3 _ _ hlo
          have hyl := hys.len
          rw [flat_len, List.length_take, rows_len] at hyl
          have hvl := hvs.len
          rw [List.length_map, List.length_range] at hvl
          have hb : min j (n ^ i) * n ≤ 3125 * 5 := Nat.mul_le_mul (by omega) hn
          refine ⟨lo, D, ys, vs, rfl, rfl, hlo', hD, Nat.le_trans (show _ ≤ 20000 by omega) (by decide), ?_⟩
          refine ⟨⟨ys ++ vs, _, rfl, upd_same, ?_⟩, (sb2.trans (Sb.of sm3)).trans Sb.put⟩
          rw [List.take_add_one, hrj, List.flatMap_append]
          refine RwAt.put ?_ hlo'
          refine (hys.same sm3).app ?_
          rw [show (some row).toList = [row] from rfl, List.flatMap_cons, List.flatMap_nil, List.append_nil]
          exact hvs
      · rintro σ H2 ⟨⟨ys, z4, rfl, hlo, hys⟩, sb2⟩
        rw [List.take_of_length_le (by rw [rows_len, hxl]; exact Nat.le_refl _)] at hys
        have s2' : Same H1 H2 := fun x o h => sb2 x o (ne_of_none h nlo) h
        exact ⟨_, rfl, ⟨lo, ys, _, _, _, rfl, sm_none sm nlo, hlo, hys⟩, sm.trans s2'⟩
    · rintro σ H1 ⟨⟨ln, xs, y2, y3, y4, rfl, nln, hln, hrw⟩, sm⟩
      rw [show ((n : Nat) : Int).toNat = n by omega] at hrw
      exact ⟨_, rfl, q ln xs H1 nln hln hrw sm⟩
end
end Ff

namespace Ff
open PySem PySem.Spec PyProof.Rows L2 ExX LamX
def rLenS (K : PySem.W.Frag) : List V → Hp → VK → Prop := fun xs H Q => ∃ p ys, xs = [.ref p] ∧ (SqL K H p ys ∨ SqT K H p ys) ∧ Q (.int ys.length) H
structure KnK (P : Program) (w : World) (K : PySem.W.Frag) (mg : Str → Option Value) (base : Heap) (k : Nat) (x : Str) (st : Stmt) (ps : List Str) (sp : Sp) (f : Addr) (fd : FuncData) : Prop where
  F : Fun K x x st f fd
  G : FnOk P w K mg base CX0 k f fd ps sp
  g : mg x = some (.ref f)
def spCFP : Sp := fun vs H Q _ => ∃ (n : Nat) (r : Int), vs = [vi n, .int r] ∧ n ≤ 60 ∧ Q (.int (cfI n r)) H
theorem cf_plain {C : Addr} : ∀ (vs : List V) (H : Hp) (Q : VK) (E : XK), spCFP vs H Q E → spCF C vs H Q (fun _ _ _ => False) := by
  rintro vs H Q E ⟨n, r, rfl, hn, q⟩
  exact ⟨(n : Int), r, rfl, .inl ⟨by omega, by omega, by rw [Int.toNat_natCast]; exact q⟩⟩
def spLys : Sp := fun vs H Q _ => ∃ rest many : Nat, vs = [vi rest, vi many] ∧ rest ≤ 60 ∧ many ≤ 60 ∧ ∀ H', Same H H' → Q (vi (layN rest many (rest + 1)).1) H'
def spStar (K : PySem.W.Frag) : Sp := fun vs H Q _ => ∃ (a : Addr) (row : List Nat), vs = [.ref a] ∧ SqT K H a (natsV row) ∧ row.length ≤ 5 ∧ ∀ H', Same H H' → Q (.bl (decide (rootN row.length row = [0]))) H'
theorem row_tupN (row : List Nat) : natsV row = tupOf row.length (parN row) := by
  unfold natsV tupOf parN
  refine List.ext_getElem? fun i => ?_
  rw [List.getElem?_map, List.getElem?_map]
  by_cases h : i < row.length
  · rw [List.getElem?_eq_getElem h, List.getElem?_range h]
    show some (vi row[i]) = some (vi (row.getD i 0))
    rw [List.getD_eq_getElem?_getD, List.getElem?_eq_getElem h]
    rfl
  · rw [List.getElem?_eq_none (by omega), List.getElem?_eq_none (by rw [List.length_range]; omega)]
    rfl
theorem root_row (n : Nat) (row : List Nat) : rootN n row = rootsL n (parN row) := rfl
theorem lay_lt {rest many : Nat} (h1 : rest ≤ 60) (h2 : many ≤ 60) : ∀ k, (layN rest many k).2 < 2 ^ (20 * k + 1)
  | 0 => by show 1 < 2 ^ 1; decide
  | k + 1 => by
    have ih := lay_lt h1 h2 k
    show (layN rest many k).2 * (rest - k) * many / (k + 1) < _
    have a : (layN rest many k).2 * (rest - k) * many < 2 ^ (20 * k + 1) * 2 ^ 10 * 2 ^ 10 := by
      have b : (layN rest many k).2 * (rest - k) < 2 ^ (20 * k + 1) * 2 ^ 10 := Nat.mul_lt_mul'' ih (by omega)
      exact Nat.mul_lt_mul'' b (by omega)
    have c := Nat.div_le_self ((layN rest many k).2 * (rest - k) * many) (k + 1)
    have d : 2 ^ (20 * k + 1) * 2 ^ 10 * 2 ^ 10 = 2 ^ (20 * (k + 1) + 1) := by rw [← Nat.pow_add, ← Nat.pow_add]; congr 1 <;> omega
    omega
section
variable {P : Program} {w : World} {K : PySem.W.Frag} {mg : Str → Option Value} {base : Heap}
theorem okB_allF {f fI C : Addr} {fd fdI : FuncData} {tL : Tok} (F : Fun K "all_forests" "all_forests" sAllF f fd) (kI : Kn P w K mg base 5 "is_forest" sIsFor ["parents"] (spIsFor K) fI fdI) (gL : mg "MAX_LISTED" = some (.int 5 tL)) (R : Raisable P w K mg base 2 "TooManyNodes" C "limit" "TooManyNodes") (T : Tx mg) : FnOk P w K mg base (L2N.CX P w) 6 f fd ["size"] (spAllF C) := by
  refine okN F scAllF (fun vs H Q E h => ?_) (fun cdv A outer s H vs Q E hr h tk => ?_)
  · obtain ⟨t, rfl, _⟩ := h
    rfl
  · obtain ⟨t, rfl, h⟩ := h
    have hrm : ∀ {j : Nat}, j ≤ 5 → Room j (A.deeper (envOfC "all_forests" (defScope sAllF) s.heap.objs.size f cdv)) := fun h => hr.mono h
    refine ⟨_, (pss_cons (ps_if (pt_cmpR op_gt (pv 0) (pe_glob (v := .int 5) rfl gL ⟨_, rfl⟩) (nomark _))
        (pss_one (L2N.ps_raise rfl tk (pmk_err R (hrm (by decide)) (by rfl) (pe_glob (v := .int 5) (by rfl) gL ⟨_, rfl⟩)))) pss_nil)
      (pss_cons (ps_set (i := 1) scAllF.nd rfl (.inl rfl) (pe_lst (pa_cons (pe_tup pa_nil) pa_nil)))
      (pss_cons (ps_for PassesOwn.leaving rfl (pi_range1 (by rfl) T.range (pa_cons (pv 0) pa_nil)) (pg_name (i := 2) scAllF.nd rfl (.inl rfl))
        (pss_one (ps_setLc2 (i := 1) (own := [("row", 3), ("parent", 4)]) (vs1 := [4]) (g := gName 3) (tt := tYes) (g1 := gName 4) (tt1 := tYes) (by rfl) scAllF.nd rfl rfl (sw_true rfl rfl rfl (by decide +kernel)) (pi_list (pv 1)) (blkOk_by (own := [("row", 3), ("parent", 4)]) (N := allFN) (sc := defScope sAllF) (by decide +kernel)) (by decide) (fun _ _ _ _ _ => pg_name (i := 3) scAllF.nd rfl (Or.inl rfl)) (fun _ _ _ _ _ => pts_nil) (fun _ _ _ _ _ => pi_range1 (by rfl) T.range (pa_cons (pv 0) pa_nil)) (fun _ _ _ _ _ => pg_name (i := 4) scAllF.nd rfl (Or.inl rfl)) (fun _ _ _ _ _ => pts_nil) (fun _ _ _ _ _ => pe_tup (show PA _ _ (StX.tStar K (tVar 3) (tCons (tVar 4) tNil)) from StX.pa_star (pv 3) (pa_cons (pv 4) pa_nil))))))
      (pss_one (ps_ret (pe_lc (own := [("row", 3)]) (g := gName 3) (by rfl) scAllF.nd (pi_list (pv 1)) (blkOk_by (own := [("row", 3)]) (N := allFN) (sc := defScope sAllF) (by decide +kernel)) (fun _ _ _ _ _ => (pg_name (i := 3) scAllF.nd rfl (.inl rfl))) (fun _ _ _ _ _ => (pts_one (pt_val (pe_call kI.G (hrm (by decide)) (by rfl) kI.g kI.F.kp kI.b .nil pass0 (pa_cons (pv 3) pa_nil))))) (fun _ _ _ _ _ => (pv 3)))))))), ?_⟩
    refine ⟨_, rfl, _, _, rfl, rfl, _, rfl, ?_⟩
    show if decide ((5 : Int) < t) = true then _ else _
    rcases h with ⟨h1, fl⟩ | ⟨n, rfl, hn, q⟩
    · rw [decide_eq_true h1]
      exact iteT ⟨.int 5, rfl, ⟨5, rfl, by decide +kernel⟩, fl⟩
    rw [decide_eq_false (by omega)]
    refine iteF ⟨Nat.zero_le _, fun e0 ne0 => ⟨by show 1 ≤ sizeLine; decide, fun l0 nl0 => ?_⟩⟩
    have s1 := same_new (o := .tup []) ne0
    have s2 := same_new (o := .lst [V.ref e0]) nl0
    have hr0 : RwAt (upd (upd H e0 (.tup [])) l0 (.lst [V.ref e0])) [V.ref e0] (rowsM n 0) := .cons (s2 _ _ upd_same) .nil
    refine ⟨_, rfl, _, rfl, by omega, by omega, ?_⟩
    refine for_range (lo := 0) (n := ((n : Nat) : Int).toNat) (fun i σ H' => (∃ (ln : Addr) (xs : List V) (y2 : Option V), σ = [some (vi n), some (.ref ln), y2, none, none] ∧ H' ln = some (.lst xs) ∧ RwAt H' xs (rowsM n i)) ∧ Same H H') ⟨⟨l0, _, _, rfl, upd_same, hr0⟩, s1.trans s2⟩ ?_ ?_
    · rintro i σ H1 hi ⟨⟨ln, xs, y2, rfl, hln, hrw⟩, sm⟩
      have hxl := hrw.len
      rw [rows_len] at hxl
      have hpi := pow5 hn (show i ≤ 5 by omega)
      refine ⟨_, rfl, ln, rfl, ⟨_, SqL.of hln⟩, fun D nD => ?_⟩
      refine ⟨fun k m H' => m = xs.length - k ∧ k ≤ xs.length ∧ ((∃ vs, H' D = some (.lst vs) ∧ RwAt H' vs (((rowsM n i).take k).flatMap fun row => (List.range n).map fun v => row ++ [v])) ∧ Same H1 H'), ⟨xs.length, rfl, Nat.zero_le _, ⟨[], upd_same, .nil⟩, same_new nD⟩, ?_⟩
      rintro k m H2 ⟨rfl, hk, ⟨vs0, hD0, hvs0⟩, sm2⟩
      have hln2 := sm2 _ _ hln
      by_cases hlt : k < xs.length
      · refine .inr ⟨⟨xs, xs[k], SqL.of hln2, by simp [hlt]⟩, fun H' => (∃ vs, H' D = some (.lst vs) ∧ RwAt H' vs (((rowsM n i).take (k + 1)).flatMap fun row => (List.range n).map fun v => row ++ [v])) ∧ Same H1 H', fun H' p' => ⟨xs.length - (k + 1), by omega, rfl, hlt, p'⟩, ?_⟩
        rintro x H2' ⟨rfl, hx⟩
        have hx := hx xs (SqL.of hln2)
        obtain ⟨t, row, rfl, hrj, ht⟩ := (hrw.same sm2).get hx
        obtain ⟨hrl, hrx⟩ := rows_mem i row (List.mem_of_getElem? hrj)
        have hv0 := hvs0.len
        rw [flat_len, List.length_take, rows_len] at hv0
        have hb : min k (n ^ i) * n ≤ 3125 * 5 := Nat.mul_le_mul (by omega) hn
        refine ⟨rfl, ?_⟩
        refine ⟨_, rfl, _, rfl, by omega, by omega, ?_⟩
        refine ⟨fun j m' H' => m' = n - j ∧ j ≤ n ∧ ((∃ vs, H' D = some (.lst vs) ∧ RwAt H' vs ((((rowsM n i).take k).flatMap fun row => (List.range n).map fun v => row ++ [v]) ++ ((List.range j).map fun v => row ++ [v]))) ∧ Same H1 H' ∧ H' t = some (.tup (natsV row))), ⟨n, rfl, Nat.zero_le _, ⟨vs0, hD0, by rw [List.range_zero, List.map_nil, List.append_nil]; exact hvs0⟩, sm2, ht⟩, ?_⟩
        rintro j m' H3 ⟨rfl, hj, ⟨vs, hD, hvs⟩, sm3, ht3⟩
        by_cases hjl : j < n
        · refine .inr ⟨by show j < ((n : Nat) : Int).toNat; omega, fun H' => (∃ vs, H' D = some (.lst vs) ∧ RwAt H' vs ((((rowsM n i).take k).flatMap fun row => (List.range n).map fun v => row ++ [v]) ++ ((List.range (j + 1)).map fun v => row ++ [v]))) ∧ Same H1 H' ∧ H' t = some (.tup (natsV row)), fun H' p' => ⟨n - (j + 1), by omega, rfl, hjl, p'⟩, ?_⟩
          rintro y H3' ⟨rfl, rfl⟩
          refine ⟨rfl, ?_⟩
          have hvl := hvs.len
          rw [List.length_append, flat_len, List.length_take, rows_len, List.length_map, List.length_range] at hvl
          refine ⟨_, rfl, t, _, rfl, .inl (SqT.of ht3), _, rfl, Nat.le_trans (show _ ≤ 1000 by rw [List.length_append, natsV_len, hrl]; simp; omega) (by decide), fun p np => ?_⟩
          have s4 := same_new (o := .tup (natsV row ++ [V.int (0 + (j : Int))])) np
          refine ⟨vs, s4 _ _ hD, Nat.lt_of_le_of_lt (show _ ≤ 20000 by omega) (by decide), ⟨vs ++ [V.ref p], upd_same, ?_⟩, same_over (sm3.trans s4) nD, ?_⟩
          · rw [List.range_succ, List.map_append, ← List.append_assoc]
            refine ((hvs.same s4).app (.cons ?_ .nil)).put (s4 _ _ hD)
            rw [upd_same, natsV_app, Int.zero_add]
            rfl
          · rw [upd_ne (ne_of (s4 _ _ ht3) (s4 _ _ hD) (by intro z; cases z))]
            exact s4 _ _ ht3
        · have ej : j = n := by omega
          subst ej
          refine .inl ⟨by show ((j : Nat) : Int).toNat ≤ j; omega, ⟨vs, hD, ?_⟩, sm3⟩
          rw [List.take_add_one, hrj, List.flatMap_append, show (some row).toList = [row] from rfl, List.flatMap_cons, List.flatMap_nil, List.append_nil]
          exact hvs
      · have ek : k = xs.length := by omega
        subst ek
        refine .inl ⟨⟨xs, SqL.of hln2, Nat.le_refl _⟩, ⟨D, vs0, _, rfl, hD0, ?_⟩, sm.trans sm2⟩
        rw [List.take_of_length_le (by rw [rows_len, hxl]; exact Nat.le_refl _)] at hvs0
        exact hvs0
    · rintro σ H1 ⟨⟨ln, xs, y2, rfl, hln, hrw⟩, sm⟩
      rw [show ((n : Nat) : Int).toNat = n by omega] at hrw
      have hxl := hrw.len
      rw [rows_len] at hxl
      have hpi := pow5 hn hn
      refine ⟨_, rfl, ln, rfl, ⟨_, SqL.of hln⟩, fun D nD => ?_⟩
      refine lc_list (xs := xs) (fun k H' => (∃ vs, H' D = some (.lst vs) ∧ RwAt H' vs (((rowsM n n).take k).filter (noRing n))) ∧ Same H1 H') ⟨⟨[], upd_same, .nil⟩, same_new nD⟩ (fun k H' _ h => SqL.of (h.2 _ _ hln)) ?_ ?_
      · rintro k x H2 hx ⟨⟨vs, hD, hvs⟩, sm2⟩
        obtain ⟨t, row, rfl, hrj, ht⟩ := (hrw.same sm2).get hx
        obtain ⟨hrl, hrx⟩ := rows_mem n row (List.mem_of_getElem? hrj)
        have hk : k < xs.length := (List.getElem?_eq_some_iff.mp hx).1
        have ev : okV (rowI row) = noRing n row := ver_row (by omega) hrl hrx
        have eI : natsV row = (rowI row).map V.int := natsI row
        refine ⟨rfl, _, rfl, t, rowI row, rfl, SqT.of (by rw [← eI]; exact ht), by unfold rowI; rw [List.length_map]; omega, fun H3 s3 => ⟨_, rfl, ?_⟩⟩
        rw [ev]
        have ft := filt_take (g := noRing n) hrj
        have hvl := hvs.len
        have hfl := List.length_filter_le (noRing n) ((rowsM n n).take k)
        rw [List.length_take] at hfl
        cases e : noRing n row with
        | true =>
          rw [e] at ft
          refine iteT ⟨_, rfl, vs, s3 _ _ hD, Nat.lt_of_le_of_lt (show _ ≤ 20000 by omega) (by decide), ⟨vs ++ [V.ref t], upd_same, ?_⟩, same_over (sm2.trans s3) nD⟩
          rw [ft]
          exact ((hvs.same s3).app (.cons (s3 _ _ ht) .nil)).put (s3 _ _ hD)
        | false =>
          rw [e] at ft
          refine iteF ⟨⟨vs, s3 _ _ hD, ?_⟩, sm2.trans s3⟩
          rw [ft]
          simpa using hvs.same s3
      · rintro H2 ⟨⟨vs, hD, hvs⟩, sm2⟩
        rw [List.take_of_length_le (by rw [rows_len, hxl]; exact Nat.le_refl _)] at hvs
        exact q D vs H2 (sm_none sm nD) hD hvs (sm.trans sm2)
theorem okB_allT {f fF fR C : Addr} {fd fdF fdR : FuncData} (F : Fun K "all_trees" "all_trees" sAllT f fd) (kF : KnX P w K mg base 6 "all_forests" ["size"] (spAllF C) fF fdF) (kR : Kn P w K mg base 1 "roots_of" sRootsOf ["forest"] (spRootsOf K) fR fdR) (T : Tx mg) : FnOk P w K mg base (L2N.CX P w) 7 f fd ["size"] (spAllT C) := by
  refine okN F scAllT (fun vs H Q E h => ?_) (fun cdv A outer s H vs Q E hr h tk => ?_)
  · obtain ⟨t, rfl, _⟩ := h
    rfl
  · obtain ⟨t, rfl, h⟩ := h
    have hrm : ∀ {j : Nat}, j ≤ 6 → Room j (A.deeper (envOfC "all_trees" (defScope sAllT) s.heap.objs.size f cdv)) := fun h => hr.mono h
    refine ⟨_, (pss_one (ps_ret (pe_lc (own := [("forest", 1)]) (g := gName 1) (by rfl) scAllT.nd (pi_list (pe_call kF.G (hrm (by decide)) (by rfl) kF.g kF.kp kF.b .nil (lookNE tk) (pa_cons (pv 0) pa_nil))) (blkOk_by (own := [("forest", 1)]) (N := allTN) (sc := defScope sAllT) (by decide +kernel)) (fun _ _ _ _ _ => (pg_name (i := 1) scAllT.nd rfl (.inl rfl))) (fun _ _ _ _ _ => (pts_one (pt_cmpR op_eq (pe_callB (show CallR _ (.builtin "len") (rLenS K) from call_len_seq) (by rfl) T.len PySem.boot_len (pa_cons (pe_call kR.G (hrm (by decide)) (by rfl) kR.g kR.F.kp kR.b .nil pass0 (pa_cons (pv 1) pa_nil)) pa_nil)) pe_int (nomark _)))) (fun _ _ _ _ _ => (pv 1))))), ?_⟩
    rcases h with ⟨h1, fl⟩ | ⟨n, rfl, hn, q⟩
    · exact ⟨_, rfl, t, rfl, .inl ⟨h1, fl⟩⟩
    refine ⟨_, rfl, _, rfl, .inr ⟨n, rfl, hn, fun ln xs H1 nln hln hrw sm => ?_⟩⟩
    have hxl := hrw.len
    have hfl := for_len hn
    refine ⟨ln, rfl, ⟨_, SqL.of hln⟩, fun D nD => ?_⟩
    refine lc_list (xs := xs) (fun k H' => (∃ vs, H' D = some (.lst vs) ∧ RwAt H' vs (((forM n).take k).filter fun row => decide ((rootN n row).length = 1))) ∧ Same H1 H') ⟨⟨[], upd_same, .nil⟩, same_new nD⟩ (fun k H' _ h => SqL.of (h.2 _ _ hln)) ?_ ?_
    · rintro k x H2 hx ⟨⟨vs, hD, hvs⟩, sm2⟩
      obtain ⟨t, row, rfl, hrj, ht⟩ := (hrw.same sm2).get hx
      obtain ⟨hrl, hrx⟩ := rows_mem n row (List.mem_filter.mp (List.mem_of_getElem? hrj)).1
      have hk : k < xs.length := (List.getElem?_eq_some_iff.mp hx).1
      refine ⟨rfl, _, rfl, t, n, parN row, rfl, SqT.of (by rw [← hrl, ← row_tupN]; exact ht), by omega, fun rl H3 nrl hrl3 s3 => ⟨rl, _, rfl, .inl (SqL.of hrl3), rfl, _, rfl, ?_⟩⟩
      rw [natsV_len]
      show if decide (V.int ((rootsL n (parN row)).length : Int) = V.int 1) = true then _ else _
      have ft := filt_take (g := fun row => decide ((rootN n row).length = 1)) hrj
      have hvl := hvs.len
      have hfl2 := List.length_filter_le (fun row => decide ((rootN n row).length = 1)) ((forM n).take k)
      rw [List.length_take] at hfl2
      by_cases e : (rootN n row).length = 1
      · rw [decide_eq_true (show V.int ((rootsL n (parN row)).length : Int) = V.int 1 by rw [← root_row, e]; rfl)]
        rw [decide_eq_true e] at ft
        refine iteT ⟨_, rfl, vs, s3 _ _ hD, Nat.lt_of_le_of_lt (show _ ≤ 20000 by omega) (by decide), ⟨vs ++ [V.ref t], upd_same, ?_⟩, same_over (sm2.trans s3) nD⟩
        rw [ft]
        exact ((hvs.same s3).app (.cons (s3 _ _ ht) .nil)).put (s3 _ _ hD)
      · rw [decide_eq_false (show ¬ V.int ((rootsL n (parN row)).length : Int) = V.int 1 from fun z => e (by have := V.int.inj z; rw [root_row]; omega))]
        rw [decide_eq_false e] at ft
        refine iteF ⟨⟨vs, s3 _ _ hD, ?_⟩, sm2.trans s3⟩
        rw [ft]
        simpa using hvs.same s3
    · rintro H2 ⟨⟨vs, hD, hvs⟩, sm2⟩
      rw [List.take_of_length_le (by rw [hxl]; exact Nat.le_refl _)] at hvs
      exact q D vs H2 (sm_none sm nD) hD hvs (sm.trans sm2)
theorem ok_star {f : Addr} {fd : FuncData} (F : Fun K "_law_is_star" "_law_is_star" sStar f fd) (T : Tx mg) : FnOk P w K mg base CX0 1 f fd ["_law_row"] (spStar K) := by
  refine F.ok scStar (fun vs H Q E h => ?_) (fun cdv A outer s H vs Q E hr h => ?_)
  · obtain ⟨a, row, rfl, _⟩ := h
    rfl
  · obtain ⟨a, row, rfl, ha, hl, q⟩ := h
    have hu0 := hr.units
    refine ⟨_, (pss_one (ps_ret (pe_cmpR (op_eqD hu0) (pe_lc (own := [("_law_node", 1)]) (g := gName 1) (by rfl) scStar.nd (pi_range1 (by rfl) T.range (pa_cons (pe_callB call_len_seq (by rfl) T.len PySem.boot_len (pa_cons (pv 0) pa_nil)) pa_nil)) (blkOk_by (own := [("_law_node", 1)]) (N := starN) (sc := defScope sStar) (by decide +kernel)) (fun _ _ _ _ _ => (pg_name (i := 1) scStar.nd rfl (.inl rfl))) (fun _ _ _ _ _ => (pts_one (pt_cmpR op_eq (pe_ix (show IxR _ (rIx K) from ix_seq) (pv 0) (pv 1) (fun _ _ => rfl)) (pv 1) (nomark _)))) (fun _ _ _ _ _ => (pv 1))) (pe_lst (pa_cons pe_int pa_nil)) (nomark _)))), ?_⟩
    refine ⟨_, rfl, a, _, rfl, .inr ha, _, rfl, by rw [natsV_len]; omega, by rw [natsV_len]; omega, fun D nD => ?_⟩
    rw [natsV_len]
    refine lc_range (lo := 0) (n := ((row.length : Nat) : Int).toNat) (fun i H' => H' D = some (.lst (natsV (rootN i row))) ∧ Same H H') ⟨upd_same, same_new nD⟩ ?_ ?_
    · rintro i H' hi ⟨hD, sm⟩
      have hin : i < row.length := by omega
      obtain ⟨f1, f2, f3⟩ := filt_turn (k := i) (g := fun v => decide (parN row v = v)) (by omega) hD
      refine ⟨rfl, _, rfl, _, rfl, Sq.ix (.inr (same_sqt sm ha)) (v := vi (parN row i)) (by rw [Int.zero_add, row_tupN]; exact atI_nat (tupOf_at hin)) ⟨_, rfl, rfl, _, rfl, ?_⟩⟩
      show if decide (vi (parN row i) = V.int (0 + (i : Int))) = true then _ else _
      by_cases e : parN row i = i
      · rw [decide_eq_true (show vi (parN row i) = V.int (0 + (i : Int)) by rw [e, Int.zero_add])]
        exact iteT ⟨_, rfl, _, hD, f1, f2 (decide_eq_true e) _ (by rw [Int.zero_add]), same_over sm nD⟩
      · rw [decide_eq_false (show ¬ vi (parN row i) = V.int (0 + (i : Int)) from fun z => e (by have := V.int.inj z; omega))]
        exact iteF ⟨f3 (decide_eq_false e), sm⟩
    · rintro H1 ⟨hD, sm⟩
      rw [show ((row.length : Nat) : Int).toNat = row.length by omega] at hD
      refine ⟨by show 1 ≤ sizeLine; decide, fun c1 nc1 => ?_⟩
      have s2 := same_new (o := .lst [V.int 0]) nc1
      refine ⟨_, _, dp_nats (SqL.of (s2 _ _ hD)), .lst (SqL.of upd_same) (dpAll_ints [0]), shaped_lst _, shaped_lst [0], ?_⟩
      rw [eqv_lsts]
      have e : decide (((rootN row.length row).map fun v : Nat => (v : Int)) = [0]) = decide (rootN row.length row = [0]) := by
        refine decide_eq_decide.mpr ⟨fun z => ?_, fun z => by rw [z]; rfl⟩
        exact castI (m := [0]) z
      rw [e]
      exact q _ (sm.trans s2)
theorem ok_lys {f fF : Addr} {fd fdF : FuncData} (F : Fun K "_law_layers" "_law_layers" sLys f fd) (kF : KnK P w K mg base 5 "count_forests" sCF ["size", "roots"] spCFP fF fdF) (T : Tx mg) : FnOk P w K mg base CX0 6 f fd ["_law_rest", "_law_many"] spLys := by
  refine F.ok scLys (fun vs H Q E h => ?_) (fun cdv A outer s H vs Q E hr h => ?_)
  · obtain ⟨rest, many, rfl, _⟩ := h
    rfl
  · obtain ⟨rest, many, rfl, h1, h2, q⟩ := h
    have hrm : ∀ {j : Nat}, j ≤ 5 → Room j (A.deeper (envOfC "_law_layers" (defScope sLys) s.heap.objs.size f cdv)) := fun h => hr.mono h
    refine ⟨_, (pss_cons (ps_asg (pe_tup (pa_cons pe_int (pa_cons pe_int pa_nil))) (pg_tup rfl (pgs_cons (pg_name (i := 2) scLys.nd rfl (.inl rfl)) (pgs_cons (pg_name (i := 3) scLys.nd rfl (.inl rfl)) pgs_nil))))
      (pss_cons (ps_for PassesOwn.never rfl (pi_range1 (by rfl) T.range (pa_cons (pe_op op_add (pv 0) pe_int) pa_nil)) (pg_name (i := 4) scLys.nd rfl (.inl rfl))
        (pss_cons (ps_set (i := 2) scLys.nd rfl (.inl rfl) (pe_op op_add (pv 2) (pe_op op_mulW (pv 3) (pe_callK kF.G (hrm (by decide)) (by rfl) kF.g kF.F.kp (fun_swA kF.F fun _ _ _ _ _ _ _ _ => rfl) pass0 (pa_cons (pv 0) pa_nil) (pk_cons (pv 4) pk_nil)))))
        (pss_one (ps_set (i := 3) scLys.nd rfl (.inl rfl) (pe_op op_fdivW (pe_op op_mulW (pe_op op_mulW (pv 3) (pe_op op_sub (pv 0) (pv 4))) (pv 1)) (pe_op op_add (pv 4) pe_int))))))
      (pss_one (ps_ret (pv 2))))), ?_⟩
    refine ⟨by show 2 ≤ sizeLine; decide, fun c0 nc0 => ?_⟩
    have s0 := same_new (o := .tup [V.int 0, V.int 1]) nc0
    refine ⟨c0, _, rfl, SqT.of upd_same, rfl, _, _, rfl, _, _, rfl, rfl, ?_⟩
    refine ⟨_, rfl, _, _, rfl, rfl, _, rfl, by omega, by omega, ?_⟩
    rw [show ((rest : Int) + 1).toNat = rest + 1 by omega]
    generalize upd H c0 (.tup [V.int 0, V.int 1]) = H1 at s0 ⊢
    refine for_range (lo := 0) (n := rest + 1) (fun k σ H' => (∃ y4, σ = [some (vi rest), some (vi many), some (vi (layN rest many k).1), some (vi (layN rest many k).2), y4]) ∧ H' = H1) ⟨⟨_, rfl⟩, rfl⟩ ?_ ?_
    · rintro k σ H' hk ⟨⟨y4, rfl⟩, rfl⟩
      have hlt := lay_lt h1 h2 k
      have hc : ((layN rest many k).2 : Int).natAbs < 2 ^ (20 * k + 1) := by rw [Int.natAbs_natCast]; exact hlt
      have ecf : cfI rest (0 + (k : Int)) = (cfN rest k : Int) := by
        unfold cfI
        rw [Int.zero_add, if_pos (by omega), Int.toNat_natCast]
      refine ⟨_, rfl, _, rfl, _, rfl, _, rfl, rest, 0 + (k : Int), rfl, h1, ?_⟩
      rw [ecf]
      have hcf := cfI_lt h1 (0 + (k : Int))
      rw [ecf] at hcf
      refine ⟨_, _, rfl, rfl, wide_mul hc hcf.2 (by omega) (by decide) (by omega), _, _, rfl, rfl, ?_⟩
      have t1 : ((rest : Int) - (0 + (k : Int))).natAbs < 2 ^ 20 := by omega
      have t2 : ((many : Nat) : Int).natAbs < 2 ^ 20 := by omega
      refine ⟨_, rfl, _, rfl, _, rfl, _, _, rfl, rfl, _, _, rfl, rfl, wide_mul hc t1 (by omega) (by decide) (by omega), _, rfl, _, _, rfl, rfl, wide_mul (wide_lt hc t1) t2 (by omega) (by decide) (by omega), _, rfl, _, _, rfl, rfl, _, _, rfl, rfl, wide_div (b := 20) (by omega) (by omega) (by decide) (by decide), ⟨some (.int (0 + (k : Int))), ?_⟩, rfl⟩
      have a1 : ((layN rest many k).1 : Int) + ((layN rest many k).2 : Int) * (cfN rest k : Int) = ((layN rest many (k + 1)).1 : Int) := by
        show _ = (((layN rest many k).1 + (layN rest many k).2 * cfN rest k : Nat) : Int)
        rw [Int.natCast_add, Int.natCast_mul]
      have a2 : ((layN rest many k).2 : Int) * ((rest : Int) - (0 + (k : Int))) * (many : Int) / (0 + (k : Int) + 1) = ((layN rest many (k + 1)).2 : Int) := by
        show _ = (((layN rest many k).2 * (rest - k) * many / (k + 1) : Nat) : Int)
        rw [Int.natCast_ediv, Int.natCast_mul, Int.natCast_mul, Int.natCast_add]
        rw [show (rest : Int) - (0 + (k : Int)) = ((rest - k : Nat) : Int) by omega, Int.zero_add]
        rfl
      show [some (vi rest), some (vi many), some (V.int (((layN rest many k).1 : Int) + ((layN rest many k).2 : Int) * (cfN rest k : Int))), some (V.int (((layN rest many k).2 : Int) * ((rest : Int) - (0 + (k : Int))) * (many : Int) / (0 + (k : Int) + 1))), some (.int (0 + (k : Int)))] = _
      rw [a1, a2]
    · rintro σ H' ⟨⟨y4, rfl⟩, rfl⟩
      exact ⟨_, rfl, q _ s0⟩
end
end Ff

namespace Ff
open PySem PySem.Spec PyProof.Rows L2 ExX LamX
abbrev sLaw : Stmt := topS 35
abbrev lawN : List Str := ["_law_script", "_law_draw", "_law_size_in", "_law_rows", "_law_row", "_law_node", "_law_trees", "_law_again", "_law_found", "_law_roots_z", "_law_same_here", "_law_due", "_law_far", "_law_many", "_law_odd", "_law_asks", "_law_ask", "_law_wide"]
theorem scLaw : FnScope lawN ["_law_script"] (defScope sLaw) := ⟨rfl, rfl, rfl, by decide +kernel, rfl, by decide +kernel, by decide +kernel⟩
abbrev lamQ : Str := (envOfC "law" (defScope sLaw) 0 0 .none).qual ++ "<lambda>"
def kw1 {α : Type} : List α → List α → List α
  | [], [a] => [a]
  | _, _ => []
theorem kw1_rel {vs : List V} {us : List Value} {zs : List V} {ws : List Value} (r : Vals vs us) (s : Vals zs ws) : Vals (kw1 vs zs) (kw1 us ws) := by
  cases r with
  | cons _ _ => exact .nil
  | nil =>
    cases s with
    | nil => exact .nil
    | cons h1 t1 =>
      cases t1 with
      | nil => exact .cons h1 .nil
      | cons _ _ => exact .nil
theorem fun_kw1 {K : PySem.W.Frag} {x qual : Str} {st : Stmt} {f : Addr} {fd : FuncData} {a : Str} (F : Fun K x qual st f fd)
    (h : ∀ (kV doc pm : Value) (an : Option Addr) (cdv ct : Value) (u : Value), bindArgs (PySem.W.fnOf x qual (defArgs st) (defBody st) (defScope st) .none kV doc pm an cdv ct) ⟨[], [(a, u)]⟩ = pure [(a, u)]) : KBinds K fd [a] [a] kw1 kw1 := by
  obtain ⟨oc, od, kV, doc, pm, an, cdv, ct, osl, rfl, lk, hcd⟩ := F.ex
  refine ⟨fun s us ws _ hl => ?_, kw1_rel⟩
  match us, ws, hl with
  | [], [u], _ => exact .of_eq (h kV doc pm an cdv ct u)
def spCTP : Sp := fun vs H Q _ => ∃ n : Nat, vs = [vi n] ∧ n ≤ 60 ∧ Q (.int ((n : Int) * cfI n 1)) H
theorem ct_plain {C : Addr} : ∀ (vs : List V) (H : Hp) (Q : VK) (E : XK), spCTP vs H Q E → spCT C vs H Q (fun _ _ _ => False) := by
  rintro vs H Q E ⟨n, rfl, hn, q⟩
  exact ⟨(n : Int), rfl, .inl ⟨by omega, by omega, by rw [Int.toNat_natCast]; exact q⟩⟩
def spAllFP : Sp := fun vs H Q _ => ∃ n : Nat, vs = [vi n] ∧ n ≤ 5 ∧ ∀ (q : Addr) (xs : List V) H', H q = none → H' q = some (.lst xs) → RwAt H' xs (forM n) → Same H H' → Q (.ref q) H'
def spAllTP : Sp := fun vs H Q _ => ∃ n : Nat, vs = [vi n] ∧ n ≤ 5 ∧ ∀ (q : Addr) (xs : List V) H', H q = none → H' q = some (.lst xs) → RwAt H' xs (treM n) → Same H H' → Q (.ref q) H'
theorem af_plain {C : Addr} : ∀ (vs : List V) (H : Hp) (Q : VK) (E : XK), spAllFP vs H Q E → spAllF C vs H Q (fun _ _ _ => False) := by
  rintro vs H Q E ⟨n, rfl, hn, q⟩
  exact ⟨(n : Int), rfl, .inr ⟨n, rfl, hn, q⟩⟩
theorem at_plain {C : Addr} : ∀ (vs : List V) (H : Hp) (Q : VK) (E : XK), spAllTP vs H Q E → spAllT C vs H Q (fun _ _ _ => False) := by
  rintro vs H Q E ⟨n, rfl, hn, q⟩
  exact ⟨(n : Int), rfl, .inr ⟨n, rfl, hn, q⟩⟩
theorem tIf_by {t : TT} {ta tb : TE} {σ : L2.St} {H : Hp} {Q : VK} (v : V) (b : Bool) (ht : ∀ R : Bool → Hp → Prop, R b H → t σ H R) (ha : b = true → ∀ R : VK, R v H → ta σ H R) (hb : b = false → ∀ R : VK, R v H → tb σ H R) (q : Q v H) : tIf t ta tb σ H Q := by
  refine ht _ ?_
  cases b with
  | true => exact ha rfl Q q
  | false => exact hb rfl Q q
def rowD (row : List Nat) : PyData := .tuple ((row.map fun v : Nat => (v : Int)).map PyData.int)
theorem RwAt.dp {K : PySem.W.Frag} {H : Hp} {xs : List V} {rs : List (List Nat)} (h : RwAt H xs rs) : DpAll K H xs (rs.map rowD) := by
  induction h with
  | nil => exact .nil
  | @cons t xs row rows h r ih =>
    refine .cons ?_ ih
    unfold rowD
    refine .tup (SqT.of ?_) (dpAll_ints _)
    rw [← natsI]
    exact h
theorem sm_rows {k : Nat} {rs : List (List Nat)} (h : rs.length ≤ 6000) (hr : ∀ row ∈ rs, row.length ≤ 5) : Sm (k + 2) (.list (rs.map rowD)) := by
  refine .lst (by rw [List.length_map]; exact h) fun d hd => ?_
  obtain ⟨row, hrow, rfl⟩ := List.mem_map.mp hd
  unfold rowD
  refine .tup (by rw [List.length_map, List.length_map]; have := hr row hrow; omega) fun d hd => ?_
  obtain ⟨z, _, rfl⟩ := List.mem_map.mp hd
  exact .int _ _
theorem rg_any (z : Int) : rgV 0 z = natsV (List.range z.toNat) := by
  unfold rgV natsV
  rw [show z - 0 = z by omega]
  refine List.map_congr_left fun i _ => ?_
  rw [Int.zero_add]
theorem sm_ints3 (l : List Int) (h : l.length ≤ 1000) (k : Nat) : Sm (k + 1) (.list (l.map PyData.int)) := .lst (by rw [List.length_map]; omega) fun d hd => by
  obtain ⟨z, _, rfl⟩ := List.mem_map.mp hd
  exact .int _ _
section
variable {P : Program} {w : World} {K : PySem.W.Frag} {mg : Str → Option Value} {base : Heap}
theorem ok_law {f c PT CS CM5 CF CM fE fF fT fA fB : Addr} {fdF fdT fdA fdB : FuncData} {dF : List Value} {tS tL : Tok} {kV dc pm ct oc : Value} {an od : Option Addr} {sl : Array (Option Value)} (lk : K.lookup f = some ⟨oc, od, .func (PySem.W.fnOf "law" "law" (defArgs sLaw) (defBody sLaw) (defScope sLaw) .none kV dc pm an (.ref c) ct), sl⟩) (hcd : PySem.W.codeIn K (.ref c) "law" = true)
    (TB : TabB base mg c PT) (T : Tx mg) (z_all : mg "all" = none) (gS : mg "MAX_SIZE" = some (.int 60 tS)) (gL : mg "MAX_LISTED" = some (.int 5 tL))
    (k1 : Kx P w K mg base 1 "_law_start" sStart ["_law_script"] (spStart K)) (k2 : Kx P w K mg base 1 "_law_take" sTake ["_law_draw", "_law_many"] spTake) (k3 : Kx P w K mg base 1 "_law_path" sPath ["_law_forest", "_law_node"] (spPath K)) (k4 : Kx P w K mg base 1 "_law_tuples" sTup ["_law_size_in"] spTup) (k5 : Kx P w K mg base 1 "_law_is_star" sStar ["_law_row"] (spStar K))
    (k6 : Kx P w K mg base 6 "_law_layers" sLys ["_law_rest", "_law_many"] spLys) (k7 : Kx P w K mg base 4 "_law_same" sSame ["_law_found", "_law_due"] (spSame K 3)) (k8 : Kx P w K mg base 2 "_law_of" sOf ["_law_draw", "_law_some"] (spOf K))
    (kF : KnK P w K mg base 5 "count_forests" sCF ["size", "roots"] spCFP fF fdF) (rF : Vals [V.int 1] dF) (bF : Binds K fdF ["size", "roots"] dF) (xF : KnY P w K mg base 5 "count_forests" ["size", "roots"] (spCF CS) fF fdF)
    (kT : Kn P w K mg base 6 "count_trees" sCT ["size"] spCTP fT fdT) (xT : KnX P w K mg base 6 "count_trees" ["size"] (spCT CS) fT fdT)
    (kA : Kn P w K mg base 6 "all_forests" sAllF ["size"] spAllFP fA fdA) (xA : KnX P w K mg base 6 "all_forests" ["size"] (spAllF CM5) fA fdA) (kB : Kn P w K mg base 7 "all_trees" sAllT ["size"] spAllTP fB fdB) (xB : KnX P w K mg base 7 "all_trees" ["size"] (spAllT CM5) fB fdB)
    (GE : FnL P w K mg base 4 fE (TTerr K CF CM)) (kE : PySem.W.keepIn K (.ref fE) = true) (gE : mg "_law_error" = some (.ref fE))
    (RS : Raisable P w K mg base 2 "BadSize" CS "size" "BadSize") (RM : Raisable P w K mg base 2 "TooManyNodes" CM5 "limit" "TooManyNodes") (hS1 : PySem.W.exmAny K (.ref CS) [.ref CF, .ref CM] = some true) (hM1 : PySem.W.exmAny K (.ref CM5) [.ref CF, .ref CM] = some true) :
    FnOk P w K mg base CX0 17 f (PySem.W.fnOf "law" "law" (defArgs sLaw) (defBody sLaw) (defScope sLaw) .none kV dc pm an (.ref c) ct) ["_law_script"] (spLawT K PT) := by
  obtain ⟨_, _, k1⟩ := k1
  obtain ⟨_, _, k2⟩ := k2
  obtain ⟨_, _, k3⟩ := k3
  obtain ⟨_, _, k4⟩ := k4
  obtain ⟨_, _, k5⟩ := k5
  obtain ⟨_, _, k6⟩ := k6
  obtain ⟨_, _, k7⟩ := k7
  obtain ⟨_, _, k8⟩ := k8
  refine fn_of (k := 16) lk hcd scLaw (fun vs H Q E h => ?_) fun A outer s H vs Q E hr h => ?_
  · obtain ⟨a, ns, rfl, _⟩ := h
    rfl
  · obtain ⟨a, ns, rfl, hP, hS, hlen, q⟩ := h
    have hrm : ∀ {j : Nat}, j ≤ 16 → Room j (A.deeper (envOfC "law" (defScope sLaw) s.heap.objs.size f (.ref c))) := fun h => hr.mono h
    suffices z : ∃ t, PSs (cxOf CX0 P w K mg base lawN "law" (defScope sLaw) f (.ref c) A outer s H E).nox (defBody sLaw) t ∧ t { nx := fun _ H1 => Q .non H1, rt := Q } (start lawN [.ref a]) H by
      obtain ⟨t, h1, h2⟩ := z
      exact ⟨t, h1.nox, h2⟩
    have no : Passes (L2N.CX P w) (cxOf CX0 P w K mg base lawN "law" (defScope sLaw) f (.ref c) A outer s H E).nox (fun _ _ _ => False) := lookN takesN0 fun _ _ _ _ z => z
    refine ⟨_, (pss_cons (ps_set (i := 1) scLaw.nd rfl (.inl rfl) (pe_call k1.G (hrm (by decide)) (by rfl) k1.g k1.F.kp k1.b .nil pass0 (pa_cons (pv 0) pa_nil)))
      (pss_cons (ps_set (i := 2) scLaw.nd rfl (.inr rfl) (pe_call k2.G (hrm (by decide)) (by rfl) k2.g k2.F.kp k2.b .nil pass0 (pa_cons (pv 1) (pa_cons pe_int pa_nil))))
      (pss_cons (ps_setLc (i := 3) (own := [("_law_row", 4)]) (g := gName 4) (by rfl) scLaw.nd rfl rfl (sw_true rfl rfl rfl (by decide +kernel)) (pi_list (pe_call k4.G (hrm (by decide)) (by rfl) k4.g k4.F.kp k4.b .nil pass0 (pa_cons (pv 2) pa_nil))) (blkOk_by (own := [("_law_row", 4)]) (N := lawN) (sc := defScope sLaw) (by decide +kernel)) (fun _ _ _ _ _ => pg_name (i := 4) scLaw.nd rfl (Or.inr rfl)) (fun _ _ _ _ _ => pts_one (pt_val (pe_callB (show CallR _ (.builtin "all") (rAll K) from cr_all rfl) (by rfl) z_all (by decide +kernel) (pa_cons (pe_lc (own := [("_law_node", 5)]) (g := gName 5) (by rfl) scLaw.nd (pi_range1 (by rfl) T.range (pa_cons (pv 2) pa_nil)) (blkOk_by (own := [("_law_node", 5)]) (N := lawN) (by kernel_rfl)) (fun _ _ _ _ _ => pg_name (i := 5) scLaw.nd rfl (Or.inl rfl)) (fun _ _ _ _ _ => pts_nil) (fun _ _ _ _ _ => (pe_cmpR op_eq (pe_ix (show IxR _ (rIx K) from ix_seq) (pv 4) (pe_ix (show IxR _ (rIx K) from ix_seq) (pe_call k3.G (hrm (by decide)) (by rfl) k3.g k3.F.kp k3.b .nil pass0 (pa_cons (pv 4) (pa_cons (pv 5) pa_nil))) (pe_un un_neg pe_int) (fun _ _ => rfl)) (fun _ _ => rfl)) (pe_ix (show IxR _ (rIx K) from ix_seq) (pe_call k3.G (hrm (by decide)) (by rfl) k3.g k3.F.kp k3.b .nil pass0 (pa_cons (pv 4) (pa_cons (pv 5) pa_nil))) (pe_un un_neg pe_int) (fun _ _ => rfl)) (nomark _)))) pa_nil)))) (fun _ _ _ _ _ => pv 4))
      (pss_cons (ps_setLc (i := 6) (own := [("_law_row", 4)]) (g := gName 4) (by rfl) scLaw.nd rfl rfl (sw_true rfl rfl rfl (by decide +kernel)) (pi_list (pv 3)) (blkOk_by (own := [("_law_row", 4)]) (N := lawN) (sc := defScope sLaw) (by decide +kernel)) (fun _ _ _ _ _ => pg_name (i := 4) scLaw.nd rfl (Or.inr rfl)) (fun _ _ _ _ _ => pts_one (pt_cmpR op_eq (pe_callB (show CallR _ (.builtin "len") (rLenS K) from call_len_seq) (by rfl) T.len PySem.boot_len (pa_cons (pe_lc (own := [("_law_node", 5)]) (g := gName 5) (by rfl) scLaw.nd (pi_range1 (by rfl) T.range (pa_cons (pv 2) pa_nil)) (blkOk_by (own := [("_law_node", 5)]) (N := lawN) (by kernel_rfl)) (fun _ _ _ _ _ => pg_name (i := 5) scLaw.nd rfl (Or.inl rfl)) (fun _ _ _ _ _ => pts_one (pt_cmpR op_eq (pe_ix (show IxR _ (rIx K) from ix_seq) (pv 4) (pv 5) (fun _ _ => rfl)) (pv 5) (nomark _))) (fun _ _ _ _ _ => pv 5)) pa_nil)) pe_int (nomark _))) (fun _ _ _ _ _ => pv 4))
      (pss_cons (ps_for PassesOwn.never rfl (pi_range1 (by rfl) T.range (pa_cons pe_int pa_nil)) (pg_name (i := 7) scLaw.nd rfl (.inl rfl))
        (pss_cons (ps_set (i := 8) scLaw.nd rfl (.inl rfl) (pe_lst (pa_cons (pe_call kA.G (hrm (by decide)) (by rfl) kA.g kA.F.kp kA.b .nil pass0 (pa_cons (pv 2) pa_nil)) (pa_cons (pe_kws kB.G (hrm (by decide)) (by rfl) kB.g kB.F.kp (fun_kw1 kB.F fun _ _ _ _ _ _ _ => rfl) pass0 (pk_cons (pv 2) pk_nil)) pa_nil))))
        (pss_cons (ps_if (pt_not (pt_val (pe_call k7.G (hrm (by decide)) (by rfl) k7.g k7.F.kp k7.b .nil pass0 (pa_cons (pv 8) (pa_cons (pe_lst (pa_cons (pv 3) (pa_cons (pv 6) pa_nil))) pa_nil)))))
          (pss_one (ps_ret pe_bl)) pss_nil)
        (pss_cons (ps_expr (pe_bm PySem.F.plainAttrs_list PySem.F.slot_list_append PySem.F.type_list_append mt_append (pe_ix (show IxR _ (rIx K) from ix_seq) (pv 8) pe_int (fun _ _ => rfl)) (pa_cons pe_int pa_nil)))
        (pss_one (ps_expr (pe_bm0 PySem.F.plainAttrs_list PySem.F.slot_list_clear PySem.F.type_list_clear mt_clear (pe_ix (show IxR _ (rIx K) from ix_seq) (pv 8) pe_int (fun _ _ => rfl)))))))))
      (pss_cons (ps_set (i := 9) scLaw.nd rfl (.inr rfl) (pe_op op_sub (pe_call k2.G (hrm (by decide)) (by rfl) k2.g k2.F.kp k2.b .nil pass0 (pa_cons (pv 1) (pa_cons pe_int pa_nil))) pe_int))
      (pss_cons (ps_setLc (i := 10) (own := [("_law_row", 4)]) (g := gName 4) (by rfl) scLaw.nd rfl rfl (sw_true rfl rfl rfl (by decide +kernel)) (pi_list (pv 3)) (blkOk_by (own := [("_law_row", 4)]) (N := lawN) (sc := defScope sLaw) (by decide +kernel)) (fun _ _ _ _ _ => pg_name (i := 4) scLaw.nd rfl (Or.inr rfl)) (fun _ _ _ _ _ => pts_one (pt_cmpR (show OpR _ (compareOp .Eq) (rEqD K) from op_eqD (hrm (j := 16) (by decide)).units) (pe_lc (own := [("_law_node", 5)]) (g := gName 5) (by rfl) scLaw.nd (pi_range1 (by rfl) T.range (pa_cons (pv 2) pa_nil)) (blkOk_by (own := [("_law_node", 5)]) (N := lawN) (by kernel_rfl)) (fun _ _ _ _ _ => pg_name (i := 5) scLaw.nd rfl (Or.inl rfl)) (fun _ _ _ _ _ => pts_one (pt_cmpR op_eq (pe_ix (show IxR _ (rIx K) from ix_seq) (pv 4) (pv 5) (fun _ _ => rfl)) (pv 5) (nomark _))) (fun _ _ _ _ _ => pv 5)) (pe_listRg rfl (by rfl) T.list (prg_1 (by rfl) T.range (pv 9))) (nomark _))) (fun _ _ _ _ _ => pv 4))
      (pss_cons (ps_set (i := 11) scLaw.nd rfl (.inl rfl) (pe_lst (pa_cons (pe_callB call_len_seq (by rfl) T.len PySem.boot_len (pa_cons (pv 6) pa_nil)) (pa_cons (pe_ifExp (pt_cmpR op_ge (pv 9) pe_int (nomark _)) (pe_callB call_len_seq (by rfl) T.len PySem.boot_len (pa_cons (pv 10) pa_nil)) pe_int) (pa_cons (pe_callB call_len_seq (by rfl) T.len PySem.boot_len (pa_cons (pe_lc (own := [("_law_row", 4)]) (g := gName 4) (by rfl) scLaw.nd (pi_list (pv 3)) (blkOk_by (own := [("_law_row", 4)]) (N := lawN) (sc := defScope sLaw) (by decide +kernel)) (fun _ _ _ _ _ => (pg_name (i := 4) scLaw.nd rfl (.inl rfl))) (fun _ _ _ _ _ => (pts_one (pt_val (pe_call k5.G (hrm (by decide)) (by rfl) k5.g k5.F.kp k5.b .nil pass0 (pa_cons (pv 4) pa_nil))))) (fun _ _ _ _ _ => (pv 4))) pa_nil)) pa_nil)))))
      (pss_cons (ps_if (pt_not (pt_val (pe_call k7.G (hrm (by decide)) (by rfl) k7.g k7.F.kp k7.b .nil pass0 (pa_cons (pe_lst (pa_cons (pe_call kT.G (hrm (by decide)) (by rfl) kT.g kT.F.kp kT.b .nil pass0 (pa_cons (pv 2) pa_nil)) (pa_cons (pe_callK kF.G (hrm (by decide)) (by rfl) kF.g kF.F.kp (fun_swA kF.F fun _ _ _ _ _ _ _ _ => rfl) pass0 (pa_cons (pv 2) pa_nil) (pk_cons (pv 9) pk_nil)) (pa_cons (pe_call kF.G (hrm (by decide)) (by rfl) kF.g kF.F.kp bF rF pass0 (pa_cons (pv 2) pa_nil)) pa_nil)))) (pa_cons (pv 11) pa_nil)))))
        (pss_one (ps_ret pe_bl)) pss_nil)
      (pss_cons (ps_par (i := 12) (j := 13) (by rfl) scLaw.nd rfl rfl (by decide) rfl rfl (pa_cons (pe_op op_add pe_int (pe_call k2.G (hrm (by decide)) (by rfl) k2.g k2.F.kp k2.b .nil pass0 (pa_cons (pv 1) (pa_cons pe_int pa_nil)))) (pa_cons (pe_op op_add pe_int (pe_call k2.G (hrm (by decide)) (by rfl) k2.g k2.F.kp k2.b .nil pass0 (pa_cons (pv 1) (pa_cons pe_int pa_nil)))) pa_nil)) (by rfl))
      (C8.pss_cut (ps_if (PW.pt (pw_and (pt_cmpR op_le (pv 13) (pv 12) (nomark _)) (pw_and1 (pt_not (pt_val (pe_call k7.G (hrm (by decide)) (by rfl) k7.g k7.F.kp k7.b .nil pass0 (pa_cons (pe_callK kF.G (hrm (by decide)) (by rfl) kF.g kF.F.kp (fun_swA kF.F fun _ _ _ _ _ _ _ _ => rfl) pass0 (pa_cons (pv 12) pa_nil) (pk_cons (pv 13) pk_nil)) (pa_cons (pe_call k6.G (hrm (by decide)) (by rfl) k6.g k6.F.kp k6.b .nil pass0 (pa_cons (pe_op op_sub (pv 12) (pv 13)) (pa_cons (pv 13) pa_nil))) pa_nil))))))))
        (pss_one (ps_ret pe_bl)) pss_nil)
      (pss_cons (ps_if (PW.pt (pw_or (pt_cmpR op_ne (pe_call kT.G (hrm (by decide)) (by rfl) kT.g kT.F.kp kT.b .nil pass0 (pa_cons (pv 12) pa_nil)) (pe_op op_mulW (pv 12) (pe_call kF.G (hrm (by decide)) (by rfl) kF.g kF.F.kp bF rF pass0 (pa_cons (pv 12) pa_nil))) (nomark _)) (pw_or (pt_cmpR op_ne (pe_kws kF.G (hrm (by decide)) (by rfl) kF.g kF.F.kp (Fun.sw kF.F fun _ _ _ _ _ _ _ _ => rfl) pass0 (pk_cons (pv 12) (pk_cons (pv 12) pk_nil))) pe_int (nomark _)) (pw_or1 (pt_cmpR op_ne (pe_callK kF.G (hrm (by decide)) (by rfl) kF.g kF.F.kp (fun_swA kF.F fun _ _ _ _ _ _ _ _ => rfl) pass0 (pa_cons (pv 12) pa_nil) (pk_cons (pe_op op_add (pv 12) pe_int) pk_nil)) pe_int (nomark _))))))
        (pss_one (ps_ret pe_bl)) pss_nil)
      (pss_cons (ps_set (i := 14) scLaw.nd rfl (.inr rfl) (pe_call k8.G (hrm (by decide)) (by rfl) k8.g k8.F.kp k8.b .nil pass0 (pa_cons (pv 1) (pa_cons (pe_lst (pa_cons pe_int (pa_cons (pe_op op_sub pe_int pe_int) (pa_cons (pe_op op_add pe_int (pe_call k2.G (hrm (by decide)) (by rfl) k2.g k2.F.kp k2.b .nil pass0 (pa_cons (pv 1) (pa_cons (pe_op op_pow pe_int pe_int) pa_nil)))) pa_nil)))) pa_nil))))
      (pss_cons (ps_set (i := 15) scLaw.nd rfl (.inl rfl) (pe_lst (pa_cons (pe_lam (Z := (cxOf CX0 P w K mg base lawN "law" (defScope sLaw) f (.ref c) A outer s H E).nox) (kk := 10) (T := [(PT, lamQ)]) (D := (⟨_, _, _, fun E => tCall (spCT CS) [] E (tCons (tVar 14) tNil), lamS_by (sc := defScope sLaw) (by decide +kernel), fun _ _ _ _ _ => rfl, fun f2 c2 E2 A2 outer2 s2 H2 hr2 => pe_call (X := lamC ((cxOf CX0 P w K mg base lawN "law" (defScope sLaw) f (.ref c) A outer s H E).nox) A2 outer2 s2 H2 E2 _ f2 c2) xT.G (Room.mono hr2 (by decide)) (by rfl) xT.g xT.kp xT.b .nil (lookN (L2N.takes_of rfl rfl rfl rfl) fun _ _ _ _ z => z) (pa_cons (pv 14) pa_nil)⟩ : LamD ((cxOf CX0 P w K mg base lawN "law" (defScope sLaw) f (.ref c) A outer s H E).nox) 10)) TB rfl (List.mem_singleton.mpr rfl) (fun q hq _ => by rw [List.mem_singleton.mp hq]; rfl) rfl) (pa_cons (pe_lamP (Z := (cxOf CX0 P w K mg base lawN "law" (defScope sLaw) f (.ref c) A outer s H E).nox) (kk := 10) (T := [(PT, lamQ)]) (D := (⟨_, _, _, "_law_a", _, .int 0, fun E => tCallK (spCF CS) swA E (tCons (tVar 14) tNil) (tCons (tC (.int 2)) tNil), lamT_by (N := lawN) (sc := defScope sLaw) (by decide +kernel), rfl, rfl, pe_int, fun _ _ _ _ _ _ _ => ⟨_, rfl, fun _ => rfl⟩, fun f2 c2 E2 A2 outer2 s2 H2 hr2 => pe_callK (X := lamC ((cxOf CX0 P w K mg base lawN "law" (defScope sLaw) f (.ref c) A outer s H E).nox) A2 outer2 s2 H2 E2 _ f2 c2) xF.G (Room.mono hr2 (by decide)) (by rfl) xF.g xF.kp (fun_swA kF.F fun _ _ _ _ _ _ _ _ => rfl) (lookN (L2N.takes_of rfl rfl rfl rfl) fun _ _ _ _ z => z) (pa_cons (pv 14) pa_nil) (pk_cons pe_int pk_nil)⟩ : LamP ((cxOf CX0 P w K mg base lawN "law" (defScope sLaw) f (.ref c) A outer s H E).nox) 10)) TB rfl (List.mem_singleton.mpr rfl) (fun q hq _ => by rw [List.mem_singleton.mp hq]; rfl)) pa_nil))))
      (pss_cons (ps_if (pt_cmpR (op_neD (hrm (j := 16) (by decide)).units) (pe_lcI (own := [("_law_ask", 16)]) (g := gName 16) (by rfl) scLaw.nd (pi_list (pv 15)) (blkOk_by (own := [("_law_ask", 16)]) (N := lawN) (sc := defScope sLaw) (by decide +kernel)) (fun _ _ _ _ _ => pg_name (i := 16) scLaw.nd rfl (Or.inl rfl)) (pe_item (Z := (cxOf CX0 P w K mg base lawN "law" (defScope sLaw) f (.ref c) A outer s H E).nox) (kk := 10) (i := 16) GE (hrm (j := 15) (by decide)) kE gE rfl (fun _ _ _ _ _ => by rfl) (fun _ _ => .inl rfl))) (pe_op op_rep (pe_lst (pa_cons (pe_tup (pa_cons pe_str (pa_cons (pv 14) pa_nil))) pa_nil)) pe_int) (nomark _))
        (pss_one (ps_ret pe_bl)) pss_nil)
      (pss_cons (ps_set (i := 17) scLaw.nd rfl (.inr rfl) (pe_op op_add pe_int (pe_call k2.G (hrm (by decide)) (by rfl) k2.g k2.F.kp k2.b .nil pass0 (pa_cons (pv 1) (pa_cons (pe_op op_pow pe_int pe_int) pa_nil)))))
      (pss_cons (ps_set (i := 15) scLaw.nd rfl (.inl rfl) (pe_lst (pa_cons (pe_lam (Z := (cxOf CX0 P w K mg base lawN "law" (defScope sLaw) f (.ref c) A outer s H E).nox) (kk := 10) (T := [(PT, lamQ)]) (D := (⟨_, _, _, fun E => tCall (spAllF CM5) [] E (tCons (tVar 17) tNil), lamS_by (sc := defScope sLaw) (by decide +kernel), fun _ _ _ _ _ => rfl, fun f2 c2 E2 A2 outer2 s2 H2 hr2 => pe_call (X := lamC ((cxOf CX0 P w K mg base lawN "law" (defScope sLaw) f (.ref c) A outer s H E).nox) A2 outer2 s2 H2 E2 _ f2 c2) xA.G (Room.mono hr2 (by decide)) (by rfl) xA.g xA.kp xA.b .nil (lookN (L2N.takes_of rfl rfl rfl rfl) fun _ _ _ _ z => z) (pa_cons (pv 17) pa_nil)⟩ : LamD ((cxOf CX0 P w K mg base lawN "law" (defScope sLaw) f (.ref c) A outer s H E).nox) 10)) TB rfl (List.mem_singleton.mpr rfl) (fun q hq _ => by rw [List.mem_singleton.mp hq]; rfl) rfl) (pa_cons (pe_lamP (Z := (cxOf CX0 P w K mg base lawN "law" (defScope sLaw) f (.ref c) A outer s H E).nox) (kk := 10) (T := [(PT, lamQ)]) (D := (⟨_, _, _, "_law_a", _, .int 0, fun E => tCall (spAllT CM5) [] E (tCons (tVar 17) tNil), lamT_by (N := lawN) (sc := defScope sLaw) (by decide +kernel), rfl, rfl, pe_int, fun _ _ _ _ _ _ _ => ⟨_, rfl, fun _ => rfl⟩, fun f2 c2 E2 A2 outer2 s2 H2 hr2 => pe_call (X := lamC ((cxOf CX0 P w K mg base lawN "law" (defScope sLaw) f (.ref c) A outer s H E).nox) A2 outer2 s2 H2 E2 _ f2 c2) xB.G (Room.mono hr2 (by decide)) (by rfl) xB.g xB.kp xB.b .nil (lookN (L2N.takes_of rfl rfl rfl rfl) fun _ _ _ _ z => z) (pa_cons (pv 17) pa_nil)⟩ : LamP ((cxOf CX0 P w K mg base lawN "law" (defScope sLaw) f (.ref c) A outer s H E).nox) 10)) TB rfl (List.mem_singleton.mpr rfl) (fun q hq _ => by rw [List.mem_singleton.mp hq]; rfl)) pa_nil))))
      (pss_one (ps_ret (pe_and (pe_cmpR (op_eqD (hrm (j := 16) (by decide)).units) (pe_lcI (own := [("_law_ask", 16)]) (g := gName 16) (by rfl) scLaw.nd (pi_list (pv 15)) (blkOk_by (own := [("_law_ask", 16)]) (N := lawN) (sc := defScope sLaw) (by decide +kernel)) (fun _ _ _ _ _ => pg_name (i := 16) scLaw.nd rfl (Or.inl rfl)) (pe_item (Z := (cxOf CX0 P w K mg base lawN "law" (defScope sLaw) f (.ref c) A outer s H E).nox) (kk := 10) (i := 16) GE (hrm (j := 15) (by decide)) kE gE rfl (fun _ _ _ _ _ => by rfl) (fun _ _ => .inl rfl))) (pe_op op_rep (pe_lst (pa_cons (pe_tup (pa_cons pe_str (pa_cons pe_int pa_nil))) pa_nil)) pe_int) (nomark _)) (pe_one (pe_cmpR (op_eqD (hrm (j := 16) (by decide)).units) (pe_lst (pa_cons (pe_glob (v := .int 60) rfl gS ⟨_, rfl⟩) (pa_cons (pe_glob (v := .int 5) rfl gL ⟨_, rfl⟩) pa_nil))) (pe_lst (pa_cons pe_int (pa_cons pe_int pa_nil))) (nomark _))))))))))))))))))))))), ?_⟩
    have hT0 : Tabs [(PT, lamQ)] H := fun p hp => by
      rw [List.mem_singleton.mp hp]
      exact TabS.nil hP
    refine ⟨_, rfl, a, ns, rfl, hS, hlen, fun d l H0 nd hD0 s0 => ?_⟩
    refine ⟨_, rfl, d, l, 6, rfl, hD0, by decide, by decide +kernel, fun n H1 hn0 hD1 sb1 => ?_⟩
    have hn : n ≤ 5 := by omega
    have hT1 := tabs_sb (hT0.ext s0) sb1 hD0.lst
    -- rows
    refine ⟨_, rfl, n, rfl, hn, fun q0 xs H2 nq0 hq0 hrw s2 => ⟨q0, rfl, ⟨_, SqL.of hq0⟩, fun D nD => ?_⟩⟩
    have hxl := hrw.len
    rw [rows_len] at hxl
    have hpi := pow5 hn hn
    have rowT : ∀ {H' : Hp} {t : Addr} {row : List Nat}, row.length = n → H' t = some (.tup (natsV row)) → SqT K H' t (tupOf n (parN row)) := fun {H' t row} hl h => by
      rw [← hl, ← row_tupN]
      exact SqT.of h
    have parL : ∀ {row : List Nat}, row.length = n → (∀ x ∈ row, x < n) → ∀ v, v < n → parN row v < n := fun {row} hl hx v hv => by
      unfold parN
      rw [List.getD_eq_getElem?_getD, List.getElem?_eq_getElem (by omega)]
      exact hx _ (List.getElem_mem _)
    refine lc_list (xs := xs) (fun k H' => (∃ vs, H' D = some (.lst vs) ∧ RwAt H' vs (((rowsM n n).take k).filter (noRing n))) ∧ Same H2 H') ⟨⟨[], upd_same, .nil⟩, same_new nD⟩ (fun k H' _ h => SqL.of (h.2 _ _ hq0)) ?_ ?_
    · rintro k x H3 hx ⟨⟨vs, hD, hvs⟩, sm⟩
      obtain ⟨t, row, rfl, hrj, ht⟩ := (hrw.same sm).get hx
      obtain ⟨hrl, hrx⟩ := rows_mem n row (List.mem_of_getElem? hrj)
      have hk : k < xs.length := (List.getElem?_eq_some_iff.mp hx).1
      refine ⟨rfl, ?_⟩
      refine ⟨_, rfl, _, rfl, by omega, by omega, fun D2 nD2 => ?_⟩
      refine lc_range (lo := 0) (n := ((n : Nat) : Int).toNat) (fun j H' => H' D2 = some (.lst (((List.range j).map fun v => decide (parN row (root (parN row) n v) = root (parN row) n v)).map V.bl)) ∧ Same H3 H') ⟨upd_same, same_new nD2⟩ ?_ ?_
      · rintro j H4 hj ⟨hD2, sm4⟩
        have hjn : j < n := by omega
        have last : atI (natsV (path (parN row) n j)) (-1) = some (vi (root (parN row) n j)) := by
          unfold Ff.path natsV
          rw [List.map_append]
          exact atI_last _ _
        have hr0 : root (parN row) n j < n := root_lt0 (parL hrl hrx) n j hjn
        have e0 : [V.ref t, V.int (0 + (j : Int))] = [V.ref t, vi j] := by rw [Int.zero_add]
        refine ⟨rfl, _, rfl, _, rfl, _, rfl, t, n, parN row, j, e0, .inr (rowT hrl (sm4 _ _ ht)), by omega, parL hrl hrx, hjn, fun pt H5 npt hpt s5 => ?_⟩
        refine ⟨1, rfl, Sq.ix (.inl (SqL.of hpt)) last (Sq.ix (.inr (rowT hrl (s5 _ _ (sm4 _ _ ht)))) (atI_nat (tupOf_at hr0)) ?_)⟩
        refine ⟨_, rfl, _, rfl, t, n, parN row, j, e0, .inr (rowT hrl (s5 _ _ (sm4 _ _ ht))), by omega, parL hrl hrx, hjn, fun pt2 H6 npt2 hpt2 s6 => ?_⟩
        refine ⟨1, rfl, Sq.ix (.inl (SqL.of hpt2)) last ⟨rfl, _, s6 _ _ (s5 _ _ hD2), ?_, ?_, same_over ((sm4.trans s5).trans s6) nD2⟩⟩
        · rw [List.length_map, List.length_map, List.length_range]
          exact Nat.lt_of_le_of_lt (show _ ≤ 1000 by omega) (by decide)
        · rw [upd_same, List.range_succ, List.map_append, List.map_append]
          have e : decide (vi (parN row (root (parN row) n j)) = vi (root (parN row) n j)) = decide (parN row (root (parN row) n j) = root (parN row) n j) := decide_eq_decide.mpr ⟨fun z => by have := V.int.inj z; omega, fun z => by rw [z]⟩
          rw [e]
          rfl
      · rintro H4 ⟨hD2, sm4⟩
        rw [show ((n : Nat) : Int).toNat = n by omega] at hD2
        have eall : ((List.range n).map fun v => decide (parN row (root (parN row) n v) = root (parN row) n v)).all id = noRing n row := by
          rw [List.all_map]
          rfl
        refine ⟨D2, _, rfl, SqL.of hD2, _, rfl, ?_⟩
        rw [eall]
        have ft := filt_take (g := noRing n) hrj
        have hvl := hvs.len
        have hfl := List.length_filter_le (noRing n) ((rowsM n n).take k)
        rw [List.length_take] at hfl
        cases e : noRing n row with
        | true =>
          rw [e] at ft
          refine iteT ⟨_, rfl, vs, sm4 _ _ hD, Nat.lt_of_le_of_lt (show _ ≤ 20000 by omega) (by decide), ⟨vs ++ [V.ref t], upd_same, ?_⟩, same_over (sm.trans sm4) nD⟩
          rw [ft]
          exact ((hvs.same sm4).app (.cons (sm4 _ _ ht) .nil)).put (sm4 _ _ hD)
        | false =>
          rw [e] at ft
          refine iteF ⟨⟨vs, sm4 _ _ hD, ?_⟩, sm.trans sm4⟩
          rw [ft]
          simpa using hvs.same sm4
    rintro H3 ⟨⟨xr, hDr, hR⟩, s3⟩
    rw [List.take_of_length_le (by rw [rows_len, hxl]; exact Nat.le_refl _)] at hR
    have hR : RwAt H3 xr (forM n) := hR
    have hfl := for_len hn
    have hRl := hR.len
    have forR : ∀ row ∈ forM n, row.length = n ∧ ∀ x ∈ row, x < n := fun row h => rows_mem n row (List.mem_filter.mp h).1
    -- trees
    refine ⟨_, rfl, D, rfl, ⟨_, SqL.of hDr⟩, fun DT nDT => ?_⟩
    refine lc_list (xs := xr) (fun k H' => (∃ vs, H' DT = some (.lst vs) ∧ RwAt H' vs (((forM n).take k).filter fun row => decide ((rootN n row).length = 1))) ∧ Same H3 H') ⟨⟨[], upd_same, .nil⟩, same_new nDT⟩ (fun k H' _ h => SqL.of (h.2 _ _ hDr)) ?_ ?_
    · rintro k x H4 hx ⟨⟨vs, hD, hvs⟩, sm⟩
      obtain ⟨t, row, rfl, hrj, ht⟩ := (hR.same sm).get hx
      obtain ⟨hrl, hrx⟩ := forR row (List.mem_of_getElem? hrj)
      have hk : k < xr.length := (List.getElem?_eq_some_iff.mp hx).1
      refine ⟨rfl, ?_⟩
      refine ⟨_, rfl, _, rfl, by omega, by omega, fun D2 nD2 => ?_⟩
      refine lc_range (lo := 0) (n := ((n : Nat) : Int).toNat) (fun j H' => H' D2 = some (.lst (natsV (rootN j row))) ∧ Same H4 H') ⟨upd_same, same_new nD2⟩ ?_ ?_
      · rintro j H5 hj ⟨hD2, sm5⟩
        have hjn : j < n := by omega
        obtain ⟨f1, f2, f3⟩ := filt_turn (k := j) (g := fun v => decide (parN row v = v)) (by omega) hD2
        refine ⟨rfl, _, rfl, _, rfl, Sq.ix (.inr (rowT hrl (sm5 _ _ ht))) (v := vi (parN row j)) (by rw [Int.zero_add]; exact atI_nat (tupOf_at hjn)) ⟨_, rfl, rfl, _, rfl, ?_⟩⟩
        show if decide (vi (parN row j) = V.int (0 + (j : Int))) = true then _ else _
        by_cases e : parN row j = j
        · rw [decide_eq_true (show vi (parN row j) = V.int (0 + (j : Int)) by rw [e, Int.zero_add])]
          exact iteT ⟨_, rfl, _, hD2, f1, f2 (decide_eq_true e) _ (by rw [Int.zero_add]), same_over sm5 nD2⟩
        · rw [decide_eq_false (show ¬ vi (parN row j) = V.int (0 + (j : Int)) from fun z => e (by have := V.int.inj z; omega))]
          exact iteF ⟨f3 (decide_eq_false e), sm5⟩
      rintro H5 ⟨hD2, sm5⟩
      rw [show ((n : Nat) : Int).toNat = n by omega] at hD2
      refine ⟨D2, _, rfl, .inl (SqL.of hD2), rfl, _, rfl, ?_⟩
      rw [natsV_len]
      show if decide (V.int ((rootN n row).length : Int) = V.int 1) = true then _ else _
      have ft := filt_take (g := fun row => decide ((rootN n row).length = 1)) hrj
      have hvl := hvs.len
      have hfl2 := List.length_filter_le (fun row => decide ((rootN n row).length = 1)) ((forM n).take k)
      rw [List.length_take] at hfl2
      by_cases e : (rootN n row).length = 1
      · rw [decide_eq_true (show V.int ((rootN n row).length : Int) = V.int 1 by rw [e]; rfl)]
        rw [decide_eq_true e] at ft
        refine iteT ⟨_, rfl, vs, sm5 _ _ hD, Nat.lt_of_le_of_lt (show _ ≤ 20000 by omega) (by decide), ⟨vs ++ [V.ref t], upd_same, ?_⟩, same_over (sm.trans sm5) nDT⟩
        rw [ft]
        exact ((hvs.same sm5).app (.cons (sm5 _ _ ht) .nil)).put (sm5 _ _ hD)
      · rw [decide_eq_false (show ¬ V.int ((rootN n row).length : Int) = V.int 1 from fun z => e (by have := V.int.inj z; omega))]
        rw [decide_eq_false e] at ft
        refine iteF ⟨⟨vs, sm5 _ _ hD, ?_⟩, sm.trans sm5⟩
        rw [ft]
        simpa using hvs.same sm5
    rintro H4 ⟨⟨xt, hDt, hTr⟩, s4⟩
    rw [List.take_of_length_le (by rw [hRl]; exact Nat.le_refl _)] at hTr
    have hTr : RwAt H4 xt (treM n) := hTr
    have htl : (treM n).length ≤ 3125 := by
      have := List.length_filter_le (fun row => decide ((rootN n row).length = 1)) (forM n)
      unfold treM
      omega
    have treR : ∀ row ∈ treM n, row.length ≤ 5 := fun row h => by
      have := (forR row (List.mem_filter.mp h).1).1
      omega
    have hD4 := ((hD1.same s2).same s3).same s4
    have hT4 := ((hT1.ext s2).ext s3).ext s4
    have hDr4 := s4 _ _ hDr
    have hR4 := hR.same s4
    have nDd : D ≠ d := (hD1.same s2).ne nD
    have nDTd : DT ≠ d := ((hD1.same s2).same s3).ne nDT
    -- twice
    refine ⟨_, rfl, by decide, by decide, ?_⟩
    refine for_range (lo := 0) (n := 2) (fun j σ H' => (∃ y7 y8, σ = [some (.ref a), some (.ref d), some (vi n), some (.ref D), none, none, some (.ref DT), y7, y8, none, none, none, none, none, none, none, none, none]) ∧ Same H4 H') ⟨⟨_, _, rfl⟩, Same.refl _⟩ ?_ ?_
    · rintro j σ H5 hj ⟨⟨y7, y8, rfl⟩, sm⟩
      refine ⟨_, rfl, n, rfl, hn, fun a1 xa H6 na1 ha1 hra s6 => ?_⟩
      refine ⟨_, rfl, n, rfl, hn, fun a2 xb H7 na2 ha2 hrb s7 => ⟨by show 2 ≤ sizeLine; decide, fun fl nfl => ?_⟩⟩
      have s8 := same_new (o := .lst [V.ref a1, V.ref a2]) nfl
      have s67 := s6.trans s7
      have s68 := s67.trans s8
      have n1 : H4 a1 = none := sm_none sm na1
      have n2 : H4 a2 = none := sm_none (sm.trans s6) na2
      have nfl0 : H4 fl = none := sm_none (sm.trans s67) nfl
      have hfl8 : upd H7 fl (.lst [V.ref a1, V.ref a2]) fl = some (.lst [V.ref a1, V.ref a2]) := upd_same
      have ha18 := s8 _ _ (s7 _ _ ha1)
      have ha28 := s8 _ _ ha2
      have hra8 := (hra.same s7).same s8
      have hrb8 := hrb.same s8
      have n12 : a2 ≠ a1 := (ne_of_none ha1 na2).symm
      have nf1 : fl ≠ a1 := (ne_of_none (s7 _ _ ha1) nfl).symm
      have s48 := sm.trans s68
      generalize upd H7 fl (.lst [V.ref a1, V.ref a2]) = H8 at s8 s68 hfl8 ha18 ha28 hra8 hrb8 s48 ⊢
      refine ⟨_, rfl, _, rfl, _, rfl, by show 2 ≤ sizeLine; decide, fun c1 nc1 => ?_⟩
      have s9 := same_new (o := .lst [V.ref D, V.ref DT]) nc1
      have s49 := s48.trans s9
      refine ⟨.ref fl, .ref c1, .list [.list ((forM n).map rowD), .list ((treM n).map rowD)], rfl, .lst (SqL.of (s9 _ _ hfl8)) (.cons (.lst (SqL.of (s9 _ _ ha18)) (hra8.same s9).dp) (.cons (.lst (SqL.of (s9 _ _ ha28)) (hrb8.same s9).dp) .nil)), .lst (SqL.of upd_same) (.cons (.lst (SqL.of (s49 _ _ hDr4)) (hR4.same s49).dp) (.cons (.lst (SqL.of (s49 _ _ hDt)) (hTr.same s49).dp) .nil)), .lst (by show 2 ≤ 6000; decide) fun dd hdd => ?_, fun H10 s10 => ⟨_, rfl, ?_⟩⟩
      · simp only [List.mem_cons, List.not_mem_nil, or_false] at hdd
        rcases hdd with rfl | rfl
        · exact sm_rows (k := 0) (by omega) fun row h => by have := (forR row h).1; omega
        · exact sm_rows (k := 0) (by omega) treR
      have s810 := s9.trans s10
      have s410 := s48.trans s810
      have hfl10 := s810 _ _ hfl8
      have ha110 := s810 _ _ ha18
      have ha210 := s810 _ _ ha28
      have hxa := hra.len
      refine ⟨_, rfl, Sq.ix (.inl (SqL.of hfl10)) (show atI [V.ref a1, V.ref a2] ((0 : Nat) : Int) = some (V.ref a1) from atI_nat rfl) ⟨.inl ⟨rfl, _, SqL.of ha110⟩, a1, xa, _, rfl, rfl, ha110, Nat.lt_of_le_of_lt (show _ ≤ 20000 by omega) (by decide), ?_⟩⟩
      have s411 : Same H4 (upd H10 a1 (.lst (xa ++ [V.int 0]))) := same_over s410 n1
      have hfl11 : upd H10 a1 (.lst (xa ++ [V.int 0])) fl = some (.lst [V.ref a1, V.ref a2]) := by rw [upd_ne nf1]; exact hfl10
      have ha211 : upd H10 a1 (.lst (xa ++ [V.int 0])) a2 = some (.lst xb) := by rw [upd_ne n12]; exact ha210
      generalize upd H10 a1 (.lst (xa ++ [V.int 0])) = H11 at s411 hfl11 ha211 ⊢
      refine ⟨_, rfl, Sq.ix (.inl (SqL.of hfl11)) (show atI [V.ref a1, V.ref a2] ((1 : Nat) : Int) = some (V.ref a2) from atI_nat rfl) ⟨.inl ⟨rfl, _, SqL.of ha211⟩, a2, xb, rfl, rfl, ha211, ⟨_, _, rfl⟩, same_over s411 n2⟩⟩
    rintro σ H5 ⟨⟨y7, y8, rfl⟩, s5⟩
    have hD5 := hD4.same s5
    have hT5 := hT4.ext s5
    -- the roots
    refine ⟨_, rfl, d, l, 9, rfl, hD5, by decide, by decide +kernel, fun u1 H6 hu1 hD6 sb6 => ⟨_, _, rfl, rfl, ?_⟩⟩
    show gName 9 (V.int ((u1 : Int) - 1)) _ _ _
    obtain ⟨z, hz⟩ : ∃ z : Int, z = (u1 : Int) - 1 := ⟨_, rfl⟩
    rw [← hz]
    have hz1 : -1 ≤ z ∧ z ≤ 7 := by omega
    have hT6 := tabs_sb hT5 sb6 hD5.lst
    have hDr6 := sb6 _ _ nDd (s5 _ _ hDr4)
    have hDt6 := sb6 _ _ nDTd (s5 _ _ hDt)
    obtain ⟨ys5, hys5⟩ := hD5.lst
    have hR6 := (hR4.same s5).sb sb6 hys5
    have hTr6 := (hTr.same s5).sb sb6 hys5
    -- the same roots
    refine ⟨_, rfl, D, rfl, ⟨_, SqL.of hDr6⟩, fun DS nDS => ?_⟩
    refine lc_list (xs := xr) (fun k H' => (∃ vs, H' DS = some (.lst vs) ∧ RwAt H' vs (((forM n).take k).filter fun row => decide (rootN n row = List.range z.toNat))) ∧ Same H6 H') ⟨⟨[], upd_same, .nil⟩, same_new nDS⟩ (fun k H' _ h => SqL.of (h.2 _ _ hDr6)) ?_ ?_
    · rintro k x H4 hx ⟨⟨vs, hD, hvs⟩, sm⟩
      obtain ⟨t, row, rfl, hrj, ht⟩ := (hR6.same sm).get hx
      obtain ⟨hrl, hrx⟩ := forR row (List.mem_of_getElem? hrj)
      have hk : k < xr.length := (List.getElem?_eq_some_iff.mp hx).1
      refine ⟨rfl, ?_⟩
      refine ⟨_, rfl, _, rfl, by omega, by omega, fun D2 nD2 => ?_⟩
      refine lc_range (lo := 0) (n := ((n : Nat) : Int).toNat) (fun j H' => H' D2 = some (.lst (natsV (rootN j row))) ∧ Same H4 H') ⟨upd_same, same_new nD2⟩ ?_ ?_
      · rintro j H5 hj ⟨hD2, sm5⟩
        have hjn : j < n := by omega
        obtain ⟨f1, f2, f3⟩ := filt_turn (k := j) (g := fun v => decide (parN row v = v)) (by omega) hD2
        refine ⟨rfl, _, rfl, _, rfl, Sq.ix (.inr (rowT hrl (sm5 _ _ ht))) (v := vi (parN row j)) (by rw [Int.zero_add]; exact atI_nat (tupOf_at hjn)) ⟨_, rfl, rfl, _, rfl, ?_⟩⟩
        show if decide (vi (parN row j) = V.int (0 + (j : Int))) = true then _ else _
        by_cases e : parN row j = j
        · rw [decide_eq_true (show vi (parN row j) = V.int (0 + (j : Int)) by rw [e, Int.zero_add])]
          exact iteT ⟨_, rfl, _, hD2, f1, f2 (decide_eq_true e) _ (by rw [Int.zero_add]), same_over sm5 nD2⟩
        · rw [decide_eq_false (show ¬ vi (parN row j) = V.int (0 + (j : Int)) from fun z => e (by have := V.int.inj z; omega))]
          exact iteF ⟨f3 (decide_eq_false e), sm5⟩
      rintro H5 ⟨hD2, sm5⟩
      rw [show ((n : Nat) : Int).toNat = n by omega] at hD2
      refine ⟨_, rfl, _, rfl, ⟨by omega, by omega, by omega, by omega, by omega⟩, fun r1 nr1 => ?_⟩
      rw [rg_any]
      have s7 := same_new (o := .lst (natsV (List.range z.toNat))) nr1
      refine ⟨_, _, dp_nats (SqL.of (s7 _ _ hD2)), dp_nats (SqL.of upd_same), shaped_lst _, shaped_lst _, _, rfl, ?_⟩
      rw [eqv_lsts]
      have ed : decide (((rootN n row).map fun v : Nat => (v : Int)) = (List.range z.toNat).map fun v : Nat => (v : Int)) = decide (rootN n row = List.range z.toNat) := decide_eq_decide.mpr ⟨fun y => castI y, fun y => by rw [y]⟩
      rw [ed]
      have sm7 := sm5.trans s7
      have ft := filt_take (g := fun row => decide (rootN n row = List.range z.toNat)) hrj
      have hvl := hvs.len
      have hfl2 := List.length_filter_le (fun row => decide (rootN n row = List.range z.toNat)) ((forM n).take k)
      rw [List.length_take] at hfl2
      by_cases e : rootN n row = List.range z.toNat
      · rw [decide_eq_true e] at ft ⊢
        refine iteT ⟨_, rfl, vs, sm7 _ _ hD, Nat.lt_of_le_of_lt (show _ ≤ 20000 by omega) (by decide), ⟨vs ++ [V.ref t], upd_same, ?_⟩, same_over (sm.trans sm7) nDS⟩
        rw [ft]
        exact ((hvs.same sm7).app (.cons (sm7 _ _ ht) .nil)).put (sm7 _ _ hD)
      · rw [decide_eq_false e] at ft ⊢
        refine iteF ⟨⟨vs, sm7 _ _ hD, ?_⟩, sm.trans sm7⟩
        rw [ft]
        simpa using hvs.same sm7
    rintro H7 ⟨⟨xsm, hDs, hSm⟩, s7⟩
    rw [List.take_of_length_le (by rw [hRl]; exact Nat.le_refl _)] at hSm
    have hsl := hSm.len
    have htl2 := hTr6.len
    -- due
    refine ⟨_, rfl, DT, _, rfl, .inl (SqL.of (s7 _ _ hDt6)), ?_⟩
    refine tIf_by (.int (if 0 ≤ z then (cfN n z.toNat : Int) else 0)) (decide (0 ≤ z)) (fun R h => ⟨_, rfl, _, _, rfl, rfl, _, rfl, h⟩) (fun e R h => ?_) (fun e R h => ?_) ?_
    · refine ⟨_, rfl, DS, _, rfl, .inl (SqL.of hDs), ?_⟩
      have e0 : 0 ≤ z := of_decide_eq_true e
      rw [if_pos e0] at h
      rw [hsl, cnt_cf hn (by omega)]
      exact h
    · rw [if_neg (of_decide_eq_false e)] at h
      exact h
    refine ⟨_, rfl, D, rfl, ⟨_, SqL.of (s7 _ _ hDr6)⟩, fun DX nDX => ?_⟩
    refine lc_list (xs := xr) (fun k H' => (∃ vs, H' DX = some (.lst vs) ∧ RwAt H' vs (((forM n).take k).filter fun row => decide (rootN n row = List.range 1))) ∧ Same H7 H') ⟨⟨[], upd_same, .nil⟩, same_new nDX⟩ (fun k H' _ h => SqL.of ((s7.trans h.2) _ _ hDr6)) ?_ ?_
    · rintro k x H4 hx ⟨⟨vs, hD, hvs⟩, sm⟩
      obtain ⟨t, row, rfl, hrj, ht⟩ := ((hR6.same s7).same sm).get hx
      obtain ⟨hrl, hrx⟩ := forR row (List.mem_of_getElem? hrj)
      have hk : k < xr.length := (List.getElem?_eq_some_iff.mp hx).1
      refine ⟨rfl, _, rfl, t, row, rfl, SqT.of ht, by omega, fun H5 sm5 => ⟨_, rfl, ?_⟩⟩
      rw [hrl, show ([0] : List Nat) = List.range 1 from rfl]
      have ft := filt_take (g := fun row => decide (rootN n row = List.range 1)) hrj
      have hvl := hvs.len
      have hfl2 := List.length_filter_le (fun row => decide (rootN n row = List.range 1)) ((forM n).take k)
      rw [List.length_take] at hfl2
      by_cases e : rootN n row = List.range 1
      · rw [decide_eq_true e] at ft ⊢
        refine iteT ⟨_, rfl, vs, sm5 _ _ hD, Nat.lt_of_le_of_lt (show _ ≤ 20000 by omega) (by decide), ⟨vs ++ [V.ref t], upd_same, ?_⟩, same_over (sm.trans sm5) nDX⟩
        rw [ft]
        exact ((hvs.same sm5).app (.cons (sm5 _ _ ht) .nil)).put (sm5 _ _ hD)
      · rw [decide_eq_false e] at ft ⊢
        refine iteF ⟨⟨vs, sm5 _ _ hD, ?_⟩, sm.trans sm5⟩
        rw [ft]
        simpa using hvs.same sm5
    rintro H8 ⟨⟨xst, hDx, hSx⟩, s8⟩
    rw [List.take_of_length_le (by rw [hRl]; exact Nat.le_refl _)] at hSx
    have hsx := hSx.len
    rw [cnt_cf hn (by decide)] at hsx
    refine ⟨DX, _, rfl, .inl (SqL.of hDx), ?_⟩
    rw [hsx, htl2, cnt_tr hn]
    refine ⟨by show 3 ≤ sizeLine; decide, fun du ndu => ?_⟩
    have s9 := same_new (o := .lst [V.int ((n * cfN n 1 : Nat) : Int), V.int (if 0 ≤ z then (cfN n z.toNat : Int) else 0), V.int ((cfN n 1 : Nat) : Int)]) ndu
    have hdu : upd H8 du (.lst [V.int ((n * cfN n 1 : Nat) : Int), V.int (if 0 ≤ z then (cfN n z.toNat : Int) else 0), V.int ((cfN n 1 : Nat) : Int)]) du = some (.lst [V.int ((n * cfN n 1 : Nat) : Int), V.int (if 0 ≤ z then (cfN n z.toNat : Int) else 0), V.int ((cfN n 1 : Nat) : Int)]) := upd_same
    have s69 := (s7.trans s8).trans s9
    have hD9 := hD6.same s69
    have hT9 := hT6.ext s69
    generalize upd H8 du (.lst [V.int ((n * cfN n 1 : Nat) : Int), V.int (if 0 ≤ z then (cfN n z.toNat : Int) else 0), V.int ((cfN n 1 : Nat) : Int)]) = H9 at s9 hdu s69 hD9 hT9 ⊢
    have c1 : cfI n 1 = (cfN n 1 : Int) := by
      unfold cfI
      by_cases e : (1 : Int) ≤ (n : Int)
      · rw [if_pos ⟨by decide, e⟩]
        rfl
      · rw [if_neg (fun y => e y.2)]
        unfold cfN
        rw [if_neg (by omega)]
        rfl
    have cz : cfI n z = if 0 ≤ z then (cfN n z.toNat : Int) else 0 := by
      unfold cfI
      by_cases e : 0 ≤ z
      · rw [if_pos e]
        by_cases e2 : z ≤ (n : Int)
        · rw [if_pos ⟨e, e2⟩]
        · rw [if_neg (fun y => e2 y.2)]
          unfold cfN
          rw [if_neg (by omega)]
          rfl
      · rw [if_neg e, if_neg (fun y => e y.1)]
    refine ⟨_, rfl, n, rfl, by omega, _, rfl, _, rfl, n, z, rfl, by omega, _, rfl, n, 1, rfl, by omega, by show 3 ≤ sizeLine; decide, fun c2 nc2 => ?_⟩
    rw [c1, cz]
    have s10 := same_new (o := .lst [V.int ((n : Int) * (cfN n 1 : Int)), V.int (if 0 ≤ z then (cfN n z.toNat : Int) else 0), V.int ((cfN n 1 : Nat) : Int)]) nc2
    have em : (n : Int) * (cfN n 1 : Int) = ((n * cfN n 1 : Nat) : Int) := by rw [Int.natCast_mul]
    rw [em] at s10 ⊢
    refine ⟨_, rfl, .ref c2, .ref du, .list ([((n * cfN n 1 : Nat) : Int), (if 0 ≤ z then (cfN n z.toNat : Int) else 0), ((cfN n 1 : Nat) : Int)].map PyData.int), rfl, .lst (SqL.of upd_same) (dpAll_ints [((n * cfN n 1 : Nat) : Int), (if 0 ≤ z then (cfN n z.toNat : Int) else 0), ((cfN n 1 : Nat) : Int)]), .lst (SqL.of (s10 _ _ hdu)) (dpAll_ints [((n * cfN n 1 : Nat) : Int), (if 0 ≤ z then (cfN n z.toNat : Int) else 0), ((cfN n 1 : Nat) : Int)]), sm_ints3 _ (by show 3 ≤ 1000; decide) 2, fun H11 s11 => ⟨_, rfl, ?_⟩⟩
    have s911 := s10.trans s11
    have hD11 := hD9.same s911
    have hT11 := hT9.ext s911
    -- far, many
    refine ⟨_, rfl, d, l, 60, rfl, hD11, by decide, by decide +kernel, fun u2 H12 hu2 hD12 sb12 => ⟨_, _, rfl, rfl, ?_⟩⟩
    refine ⟨_, rfl, d, l, 60, rfl, hD12, by decide, by decide +kernel, fun u3 H13 hu3 hD13 sb13 => ⟨_, _, rfl, rfl, _, _, rfl, ?_⟩⟩
    have hT13 := tabs_sb (tabs_sb hT11 sb12 hD11.lst) sb13 hD12.lst
    show C8.tCut _ _ _ [some (.ref a), some (.ref d), some (vi n), some (.ref D), none, none, some (.ref DT), y7, y8, some (.int z), some (.ref DS), some (.ref du), some (vi (1 + u2)), some (vi (1 + u3)), none, none, none, none] H13
    have hf1 : 1 ≤ 1 + u2 ∧ 1 + u2 ≤ 60 := by omega
    have hm1 : 1 ≤ 1 + u3 ∧ 1 + u3 ≤ 60 := by omega
    generalize 1 + u2 = far at hf1 ⊢
    generalize 1 + u3 = many at hm1 ⊢
    have cfm : ∀ r : Nat, r ≤ far → cfI far (r : Int) = (cfN far r : Int) := fun r hr => by
      unfold cfI
      rw [if_pos ⟨by omega, by omega⟩, Int.toNat_natCast]
    refine ⟨fun σ H' => σ = [some (.ref a), some (.ref d), some (vi n), some (.ref D), none, none, some (.ref DT), y7, y8, some (.int z), some (.ref DS), some (.ref du), some (vi far), some (vi many), none, none, none, none] ∧ Same H13 H', ?_, ?_⟩
    · refine ⟨_, rfl, _, rfl, _, _, rfl, rfl, _, rfl, ?_⟩
      show if decide ((many : Int) ≤ (far : Int)) = true then _ else _
      by_cases e : many ≤ far
      · rw [decide_eq_true (show (many : Int) ≤ (far : Int) by omega)]
        refine iteT ⟨_, rfl, _, rfl, far, (many : Int), rfl, by omega, ?_⟩
        refine ⟨_, rfl, _, rfl, _, _, rfl, rfl, _, rfl, far - many, many, ?_, by omega, by omega, fun H14 s14 => ?_⟩
        · show [V.int ((far : Int) - (many : Int)), vi many] = [V.int ((far - many : Nat) : Int), vi many]
          rw [show (far : Int) - (many : Int) = ((far - many : Nat) : Int) by omega]
        rw [cfm many e, lay_cf hm1.1 e hf1.2]
        exact ⟨.int _, .int _, .int (cfN far many : Int), rfl, .int _, .int _, .int _ _, fun H15 s15 => ⟨_, rfl, rfl, s14.trans s15⟩⟩
      · rw [decide_eq_false (show ¬ (many : Int) ≤ (far : Int) by omega)]
        exact ⟨rfl, Same.refl _⟩
    rintro σ H14 ⟨rfl, s14⟩
    have hD14 := hD13.same s14
    have hT14 := hT13.ext s14
    have t0 : ((far : Nat) : Int).natAbs < 2 ^ 20 := by omega
    refine ⟨_, rfl, far, rfl, by omega, _, rfl, _, rfl, far, 1, rfl, by omega, _, _, rfl, rfl, wide_mul t0 (cfI_lt hf1.2 1).2 (by decide) (by decide) (by decide), rfl, _, rfl, ?_⟩
    show if (!decide (V.int ((far : Int) * cfI far 1) = V.int ((far : Int) * cfI far 1))) = true then _ else _
    rw [decide_eq_true rfl]
    refine iteF ⟨_, rfl, _, rfl, far, (far : Int), rfl, by omega, rfl, _, rfl, ?_⟩
    have cff : cfI far (far : Int) = 1 := by
      rw [cfm far (Nat.le_refl _)]
      unfold cfN
      rw [if_pos (Nat.le_refl _), if_pos rfl]
      rfl
    rw [cff]
    refine iteF ⟨_, rfl, _, rfl, _, _, rfl, rfl, far, (far : Int) + 1, rfl, by omega, rfl, _, rfl, ?_⟩
    have cf0 : cfI far ((far : Int) + 1) = 0 := by
      unfold cfI
      rw [if_neg (by omega)]
    rw [cf0]
    -- odd
    refine ⟨_, rfl, _, _, rfl, rfl, _, rfl, _, _, rfl, rfl, ⟨by decide, by decide, by decide⟩, d, l, _, rfl, hD14, by decide, by decide +kernel, fun u4 H15 hu4 hD15 sb15 => ⟨_, _, rfl, rfl, by show 3 ≤ sizeLine; decide, fun c3 nc3 => ?_⟩⟩
    have hu4' : (u4 : Int) < 10 ^ 9 := hu4
    refine ⟨d, l, c3, _, rfl, hD15.new nc3, hD15.ne nc3, SqL.of upd_same, by show 1 ≤ 3; decide, by show 3 ≤ 1000; decide, fun j1 v1 H16 hv1 hD16 sb16 => ?_⟩
    obtain ⟨odd, rfl, hodd, hob⟩ : ∃ odd : Int, v1 = V.int odd ∧ ¬ (0 ≤ odd ∧ odd ≤ 60) ∧ odd.natAbs < 2 ^ 40 := by
      match j1, hv1 with
      | 0, h => exact ⟨_, (Option.some.inj h).symm, by decide, by decide⟩
      | 1, h => exact ⟨_, (Option.some.inj h).symm, by decide, by decide⟩
      | 2, h => exact ⟨_, (Option.some.inj h).symm, by show ¬ (0 ≤ 61 + (u4 : Int) ∧ 61 + (u4 : Int) ≤ 60); omega, by show (61 + (u4 : Int)).natAbs < _; omega⟩
    have sb1416 : Sb d H14 H16 := fun b o nb h => sb16 b o nb (same_new nc3 _ _ (sb15 b o nb h))
    have hT16 := tabs_sb hT14 sb1416 hD14.lst
    have lg : odd.natAbs.log2 < 1920 := Nat.lt_trans (PySem.Flt.log2_lt_of (k := 40) (by decide) hob) (by decide)
    refine ⟨hT16, fun f1 H17 e17 hT17 hA1 => ⟨hT17, fun f2 H18 e18 hT18 hA2 => ⟨by show 2 ≤ sizeLine; decide, fun la nla => ?_⟩⟩⟩
    have s19 := same_new (o := .lst [V.ref f1, V.ref f2]) nla
    have e19 : ExtN H18 (upd H18 la (.lst [V.ref f1, V.ref f2])) := same_ext s19
    have hla : upd H18 la (.lst [V.ref f1, V.ref f2]) la = some (.lst ([f1, f2].map V.ref)) := upd_same
    have hT19 := hT18.ext s19
    have q1 := (LamD.lam _).same hA1 (fun b o e n => e19 b o (e18 b o e n) n)
    have q2 := (LamP.lam _).same hA2 (fun b o e n => e19 b o e n)
    have hD19 := hD16.ext (fun b o e n => e19 b o (e18 b o (e17 b o e n) n) n)
    generalize upd H18 la (.lst [V.ref f1, V.ref f2]) = H19 at s19 e19 hla hT19 q1 q2 hD19 ⊢
    refine ⟨_, rfl, la, rfl, ⟨_, SqL.of hla⟩, fun DA nDA => ?_⟩
    refine asks_no [some (.ref a), some (.ref d), some (vi n), some (.ref D), none, none, some (.ref DT), y7, y8, some (.int z), some (.ref DS), some (.ref du), some (vi far), some (vi many), some (.int odd), some (.ref la), none, none] [f1, f2] (v := .int odd) RS hS1 (.inr (.inr (.inr (.inl ⟨by decide, rfl⟩)))) hla nDA (by show 16 < 18; decide) (by show 2 ≤ 1000; decide) (fun f' hf' => ?_) fun ts H20 hts hDD hte s20 => ?_
    · simp only [List.mem_cons, List.not_mem_nil, or_false] at hf'
      rcases hf' with rfl | rfl
      · exact ⟨_, q1, fun Ha E sa fl => ⟨_, rfl, odd, rfl, .inr ⟨hodd, lg, fl⟩⟩⟩
      · exact ⟨_, q2, fun Ha E sa fl => ⟨_, rfl, odd, 2, rfl, .inr ⟨hodd, lg, fl⟩⟩⟩
    refine ⟨_, rfl, by show 2 ≤ sizeLine; decide, fun t2 nt2 => ?_⟩
    have s21 := same_new (o := .tup [V.str "BadSize", V.int odd]) nt2
    refine ⟨by show 1 ≤ sizeLine; decide, fun l1 nl1 => ?_⟩
    have s22 := same_new (o := .lst [V.ref t2]) nl1
    refine ⟨l1, 2, _, rfl, rfl, upd_same, by decide, by decide, by show 2 ≤ sizeLine; decide, fun l2 nl2 => ?_⟩
    have s23 := same_new (o := .lst (List.replicate (2 : Int).toNat [V.ref t2]).flatten) nl2
    have s2023 := (s21.trans s22).trans s23
    have cd : ∀ {H'' : Hp} (x : Str) (y : Int), DpAll K H'' [V.str x, V.int y] [.str x, .int y] := fun x y => .cons (.str _) (.cons (.int _) .nil)
    have ht2 := s23 _ _ (s22 _ _ (upd_same (H := H20) (a := t2) (o := .tup [V.str "BadSize", V.int odd])))
    have d1 : Dp K _ (.ref DA) (dReps 2 (.tuple [.str "BadSize", .int odd])) := .lst (SqL.of (s2023 _ _ hDD)) (by have y := dp_reps (K := K) (cd "BadSize" odd) fun t ht => s2023 _ _ (hte t ht); rw [hts] at y; exact y)
    have d2 : Dp K _ (.ref l2) (dReps 2 (.tuple [.str "BadSize", .int odd])) := .lst (SqL.of upd_same) (dp_reps (K := K) (ts := [t2, t2]) (cd "BadSize" odd) fun t ht => by
      simp only [List.mem_cons, List.not_mem_nil, or_false] at ht
      rcases ht with rfl | rfl <;> exact ht2)
    have shp := shaped_reps (m := 2) (tag := "BadSize") (by decide +kernel) (by decide) (d := .int odd) (.inr ⟨_, rfl⟩)
    refine ⟨_, _, d1, d2, shp, shp, _, rfl, ?_⟩
    rw [SeqAt.eqv_refl _ (SeqAt.canLay_of_shaped shp)]
    have s1923 := s20.trans s2023
    have hT23 := hT19.ext s1923
    have hD23 := hD19.same s1923
    generalize upd _ l2 (.lst (List.replicate (2 : Int).toNat [V.ref t2]).flatten) = H23 at s23 s2023 s1923 hT23 hD23 ⊢
    -- wide
    refine ⟨_, rfl, _, _, rfl, rfl, ⟨by decide, by decide, by decide⟩, d, l, _, rfl, hD23, by decide, by decide +kernel, fun u5 H24 hu5 hD24 sb24 => ⟨_, _, rfl, rfl, ?_⟩⟩
    have hT24 := tabs_sb hT23 sb24 hD23.lst
    refine ⟨hT24, fun f3 H25 e25 hT25 hA3 => ⟨hT25, fun f4 H26 e26 hT26 hA4 => ⟨by show 2 ≤ sizeLine; decide, fun lb nlb => ?_⟩⟩⟩
    have s27 := same_new (o := .lst [V.ref f3, V.ref f4]) nlb
    have e27 : ExtN H26 (upd H26 lb (.lst [V.ref f3, V.ref f4])) := same_ext s27
    have hlb : upd H26 lb (.lst [V.ref f3, V.ref f4]) lb = some (.lst ([f3, f4].map V.ref)) := upd_same
    have q3 := (LamD.lam _).same hA3 (fun b o e n => e27 b o (e26 b o e n) n)
    have q4 := (LamP.lam _).same hA4 (fun b o e n => e27 b o e n)
    generalize upd H26 lb (.lst [V.ref f3, V.ref f4]) = H27 at s27 e27 hlb q3 q4 ⊢
    refine ⟨_, rfl, lb, rfl, ⟨_, SqL.of hlb⟩, fun DB nDB => ?_⟩
    refine asks_no [some (.ref a), some (.ref d), some (vi n), some (.ref D), none, none, some (.ref DT), y7, y8, some (.int z), some (.ref DS), some (.ref du), some (vi far), some (vi many), some (.int odd), some (.ref lb), none, some (.int (6 + (u5 : Int)))] [f3, f4] (v := .int 5) RM hM1 (.inr (.inl ⟨by decide, rfl⟩)) hlb nDB (by show 16 < 18; decide) (by show 2 ≤ 1000; decide) (fun f' hf' => ?_) fun ts H28 hts hDD hte s28 => ?_
    · simp only [List.mem_cons, List.not_mem_nil, or_false] at hf'
      rcases hf' with rfl | rfl
      · exact ⟨_, q3, fun Ha E sa fl => ⟨_, rfl, 6 + (u5 : Int), rfl, .inl ⟨by omega, fl⟩⟩⟩
      · exact ⟨_, q4, fun Ha E sa fl => ⟨_, rfl, 6 + (u5 : Int), rfl, .inl ⟨by omega, fl⟩⟩⟩
    refine ⟨by show 2 ≤ sizeLine; decide, fun t3 nt3 => ?_⟩
    have s29 := same_new (o := .tup [V.str "TooManyNodes", V.int 5]) nt3
    refine ⟨by show 1 ≤ sizeLine; decide, fun l3 nl3 => ?_⟩
    have s30 := same_new (o := .lst [V.ref t3]) nl3
    refine ⟨l3, 2, _, rfl, rfl, upd_same, by decide, by decide, by show 2 ≤ sizeLine; decide, fun l4 nl4 => ?_⟩
    have s31 := same_new (o := .lst (List.replicate (2 : Int).toNat [V.ref t3]).flatten) nl4
    have s2831 := (s29.trans s30).trans s31
    have ht3 := s31 _ _ (s30 _ _ (upd_same (H := H28) (a := t3) (o := .tup [V.str "TooManyNodes", V.int 5])))
    have d3 : Dp K _ (.ref DB) (dReps 2 (.tuple [.str "TooManyNodes", .int 5])) := .lst (SqL.of (s2831 _ _ hDD)) (by have y := dp_reps (K := K) (cd "TooManyNodes" 5) fun t ht => s2831 _ _ (hte t ht); rw [hts] at y; exact y)
    have d4 : Dp K _ (.ref l4) (dReps 2 (.tuple [.str "TooManyNodes", .int 5])) := .lst (SqL.of upd_same) (dp_reps (K := K) (ts := [t3, t3]) (cd "TooManyNodes" 5) fun t ht => by
      simp only [List.mem_cons, List.not_mem_nil, or_false] at ht
      rcases ht with rfl | rfl <;> exact ht3)
    have shm := shaped_reps (m := 2) (tag := "TooManyNodes") (by decide +kernel) (by decide) (d := .int 5) (.inr ⟨_, rfl⟩)
    refine ⟨_, _, d3, d4, shm, shm, _, rfl, ?_⟩
    rw [SeqAt.eqv_refl _ (SeqAt.canLay_of_shaped shm)]
    refine iteT ⟨by show 2 ≤ sizeLine; decide, fun l5 nl5 => ⟨by show 2 ≤ sizeLine; decide, fun l6 nl6 => ?_⟩⟩
    have s33 := same_new (o := .lst [V.int 60, V.int 5]) nl6
    refine ⟨_, _, .lst (SqL.of (s33 _ _ upd_same)) (dpAll_ints [60, 5]), .lst (SqL.of upd_same) (dpAll_ints [60, 5]), shaped_lst [60, 5], shaped_lst [60, 5], ?_⟩
    rw [eqv_lsts]
    exact q _
end
end Ff

namespace Ff
open PySem PySem.Spec PyProof.Rows L2 ExX LamX
theorem all_mk {l : PySem.W.OpenLaw} {w : World} {K : PySem.W.Frag} {h : Heap} {mg : Str → Option Value} {fa : Addr} (X : K.In h) (G : h.Ns mainGlobals mg) (hfa : mg "law" = some (.ref fa)) (own : LamX.OwnTab K fa h)
    (d0 : DefF K "leads_to_root" sLeads)
    (d1 : DefF K "check_forest" sCheck)
    (d2 : DefF K "is_forest" sIsFor)
    (d3 : DefF K "roots_of" sRootsOf)
    (d4 : DefF K "power_of" sPower)
    (d5 : DefF K "check_size" sCkS)
    (d6 : DefF K "count_trees" sCT)
    (d7 : DefF K "all_forests" sAllF)
    (d8 : DefF K "all_trees" sAllT)
    (d9 : DefF K "_law_start" sStart)
    (d10 : DefF K "_law_take" sTake)
    (d11 : DefF K "_law_of" sOf)
    (d12 : DefF K "_law_same" sSame)
    (d13 : DefF K "_law_field" sField)
    (d14 : DefF K "_law_outcome" sOut)
    (d15 : DefF K "_law_error" sErr)
    (d16 : DefF K "_law_path" sPath)
    (d17 : DefF K "_law_tuples" sTup)
    (d18 : DefF K "_law_is_star" sStar)
    (d19 : DefF K "_law_layers" sLys)
    (z_len : PySem.W.nsIn K mainGlobals "len" = some none)
    (z_range : PySem.W.nsIn K mainGlobals "range" = some none)
    (z_list : PySem.W.nsIn K mainGlobals "list" = some none)
    (z_tuple : PySem.W.nsIn K mainGlobals "tuple" = some none)
    (z_max : PySem.W.nsIn K mainGlobals "max" = some none)
    (z_min : PySem.W.nsIn K mainGlobals "min" = some none)
    (z_isinstance : PySem.W.nsIn K mainGlobals "isinstance" = some none)
    (z_bool : PySem.W.nsIn K mainGlobals "bool" = some none)
    (z_int : PySem.W.nsIn K mainGlobals "int" = some none)
    (z_str : PySem.W.nsIn K mainGlobals "str" = some none)
    (z_all : PySem.W.nsIn K mainGlobals "all" = some none)
    (z_zip : PySem.W.nsIn K mainGlobals "zip" = some none)
    (z_set : PySem.W.nsIn K mainGlobals "set" = some none)
    (z_sorted : PySem.W.nsIn K mainGlobals "sorted" = some none)
    (z_sum : PySem.W.nsIn K mainGlobals "sum" = some none)
    (z_ValueError : PySem.W.nsIn K mainGlobals "ValueError" = some none)
    (z_LookupError : PySem.W.nsIn K mainGlobals "LookupError" = some none)
    (z_enumerate : PySem.W.nsIn K mainGlobals "enumerate" = some none)
    {fL c PT : Addr} {oc eL : Value} {od an ddL : Option Addr} {sl slL : Array (Option Value)} {kV dc pm ct : Value} {vsL : Array Value}
    (aL : PySem.W.nsIn K mainGlobals "law" = some (some (.ref fL))) (lL : K.lookup fL = some ⟨oc, od, .func (PySem.W.fnOf "law" "law" (defArgs sLaw) (defBody sLaw) (defScope sLaw) .none kV dc pm an (.ref c) ct), sl⟩) (cL : PySem.W.codeIn K (.ref c) "law" = true)
    (kL : K.lookup c = some ⟨eL, ddL, .fields vsL, slL⟩) (vL : vsL[11]? = some (.ref PT)) (hL : PySem.W.codeHdIn K c PT = true) (nL : K.lookup PT = none)
    {CForestError fForestError : Addr} {ocForestError : Value} {odForestError anForestError : Option Addr} {slForestError : Array (Option Value)} {kVForestError dcForestError pmForestError cdForestError ctForestError : Value}
    (aForestError : PySem.W.nsIn K mainGlobals "ForestError" = some (some (.ref CForestError))) (iForestError : PySem.W.findIn K (.ref CForestError) "__init__" = some (some (.ref fForestError))) (lForestError : K.lookup fForestError = some ⟨ocForestError, odForestError, .func (PySem.W.fnOf "__init__" "ForestError.__init__" (defArgs (initS sForE)) (defBody (initS sForE)) (defScope (initS sForE)) .none kVForestError dcForestError pmForestError anForestError cdForestError ctForestError), slForestError⟩)
    (cForestError : PySem.W.codeIn K cdForestError "ForestError.__init__" = true) (kForestError : PySem.W.keepIn K (.ref fForestError) = true)
    (rForestError : PySem.W.readsIn K CForestError (.type "type") = true) (mForestError : PySem.W.findCls K (.ref CForestError) (.type "type") "__init__" = some (.val (.ref fForestError))) (pForestError : PySem.W.specialIn K (.ref CForestError) "__getattribute__" = some (some (.builtin "type.__getattribute__"))) (qForestError : PySem.W.keepIn K (.ref CForestError) = true) (vForestError : PySem.W.findCls K (.type "ValueError") (.type "type") "__init__" = some (.val (.builtin "ValueError.__init__")))
    {CMissing fMissing : Addr} {ocMissing : Value} {odMissing anMissing : Option Addr} {slMissing : Array (Option Value)} {kVMissing dcMissing pmMissing cdMissing ctMissing : Value}
    (aMissing : PySem.W.nsIn K mainGlobals "Missing" = some (some (.ref CMissing))) (iMissing : PySem.W.findIn K (.ref CMissing) "__init__" = some (some (.ref fMissing))) (lMissing : K.lookup fMissing = some ⟨ocMissing, odMissing, .func (PySem.W.fnOf "__init__" "Missing.__init__" (defArgs (initS sMiss)) (defBody (initS sMiss)) (defScope (initS sMiss)) .none kVMissing dcMissing pmMissing anMissing cdMissing ctMissing), slMissing⟩)
    (cMissing : PySem.W.codeIn K cdMissing "Missing.__init__" = true) (kMissing : PySem.W.keepIn K (.ref fMissing) = true)
    (rMissing : PySem.W.readsIn K CMissing (.type "type") = true) (mMissing : PySem.W.findCls K (.ref CMissing) (.type "type") "__init__" = some (.val (.ref fMissing))) (pMissing : PySem.W.specialIn K (.ref CMissing) "__getattribute__" = some (some (.builtin "type.__getattribute__"))) (qMissing : PySem.W.keepIn K (.ref CMissing) = true) (vMissing : PySem.W.findCls K (.type "LookupError") (.type "type") "__init__" = some (.val (.builtin "LookupError.__init__")))
    {CTooManyNodes fTooManyNodes : Addr} {ocTooManyNodes : Value} {odTooManyNodes anTooManyNodes : Option Addr} {slTooManyNodes : Array (Option Value)} {kVTooManyNodes dcTooManyNodes pmTooManyNodes cdTooManyNodes ctTooManyNodes : Value}
    (aTooManyNodes : PySem.W.nsIn K mainGlobals "TooManyNodes" = some (some (.ref CTooManyNodes))) (iTooManyNodes : PySem.W.findIn K (.ref CTooManyNodes) "__init__" = some (some (.ref fTooManyNodes))) (lTooManyNodes : K.lookup fTooManyNodes = some ⟨ocTooManyNodes, odTooManyNodes, .func (PySem.W.fnOf "__init__" "TooManyNodes.__init__" (defArgs (initS sTooMany)) (defBody (initS sTooMany)) (defScope (initS sTooMany)) .none kVTooManyNodes dcTooManyNodes pmTooManyNodes anTooManyNodes cdTooManyNodes ctTooManyNodes), slTooManyNodes⟩)
    (cTooManyNodes : PySem.W.codeIn K cdTooManyNodes "TooManyNodes.__init__" = true) (kTooManyNodes : PySem.W.keepIn K (.ref fTooManyNodes) = true)
    (tTooManyNodes : PySem.W.typeIn K (.ref fTooManyNodes) = some (.type "function")) (uTooManyNodes : PySem.W.excInitIn K CTooManyNodes vaTail "ValueError.__new__" = true) (oTooManyNodes : PySem.W.excOver K CTooManyNodes vaTail = true) (hTooManyNodes : PySem.W.hasDictIn K CTooManyNodes = true) (saTooManyNodes : PySem.W.findIn K (.ref CTooManyNodes) "__setattr__" = some (some (.builtin "object.__setattr__"))) (bTooManyNodes : PySem.W.subIn K (.ref CTooManyNodes) (.type "BaseException") = some true)
    (yTooManyNodes : PySem.W.typeIn K (.ref CTooManyNodes) = some (.type "type")) (wTooManyNodes : PySem.W.keepIn K (.ref CTooManyNodes) = true) (nTooManyNodes : PySem.W.findIn K (.ref CTooManyNodes) "tag" = some none) (gTooManyNodes : PySem.W.findIn K (.ref CTooManyNodes) "limit" = some none) (xTooManyNodes : PySem.W.findIn K (.ref CTooManyNodes) "__getattribute__" = some (some (.builtin "BaseException.__getattribute__"))) (jTooManyNodes : PySem.W.findIn K (.ref CTooManyNodes) "__getattr__" = some none)
    (zTooManyNodes : PySem.W.exmAny K (.ref CTooManyNodes) [.ref CForestError, .ref CMissing] = some true)
    {CBadParent fBadParent : Addr} {ocBadParent : Value} {odBadParent anBadParent : Option Addr} {slBadParent : Array (Option Value)} {kVBadParent dcBadParent pmBadParent cdBadParent ctBadParent : Value}
    (aBadParent : PySem.W.nsIn K mainGlobals "BadParent" = some (some (.ref CBadParent))) (iBadParent : PySem.W.findIn K (.ref CBadParent) "__init__" = some (some (.ref fBadParent))) (lBadParent : K.lookup fBadParent = some ⟨ocBadParent, odBadParent, .func (PySem.W.fnOf "__init__" "BadParent.__init__" (defArgs (initS sBadPar)) (defBody (initS sBadPar)) (defScope (initS sBadPar)) .none kVBadParent dcBadParent pmBadParent anBadParent cdBadParent ctBadParent), slBadParent⟩)
    (cBadParent : PySem.W.codeIn K cdBadParent "BadParent.__init__" = true) (kBadParent : PySem.W.keepIn K (.ref fBadParent) = true)
    (tBadParent : PySem.W.typeIn K (.ref fBadParent) = some (.type "function")) (uBadParent : PySem.W.excInitIn K CBadParent vaTail "ValueError.__new__" = true) (oBadParent : PySem.W.excOver K CBadParent vaTail = true) (hBadParent : PySem.W.hasDictIn K CBadParent = true) (saBadParent : PySem.W.findIn K (.ref CBadParent) "__setattr__" = some (some (.builtin "object.__setattr__"))) (bBadParent : PySem.W.subIn K (.ref CBadParent) (.type "BaseException") = some true)
    (yBadParent : PySem.W.typeIn K (.ref CBadParent) = some (.type "type")) (wBadParent : PySem.W.keepIn K (.ref CBadParent) = true) (nBadParent : PySem.W.findIn K (.ref CBadParent) "tag" = some none) (gBadParent : PySem.W.findIn K (.ref CBadParent) "node" = some none) (xBadParent : PySem.W.findIn K (.ref CBadParent) "__getattribute__" = some (some (.builtin "BaseException.__getattribute__"))) (jBadParent : PySem.W.findIn K (.ref CBadParent) "__getattr__" = some none)
    (zBadParent : PySem.W.exmAny K (.ref CBadParent) [.ref CForestError, .ref CMissing] = some true)
    {CCycle fCycle : Addr} {ocCycle : Value} {odCycle anCycle : Option Addr} {slCycle : Array (Option Value)} {kVCycle dcCycle pmCycle cdCycle ctCycle : Value}
    (aCycle : PySem.W.nsIn K mainGlobals "Cycle" = some (some (.ref CCycle))) (iCycle : PySem.W.findIn K (.ref CCycle) "__init__" = some (some (.ref fCycle))) (lCycle : K.lookup fCycle = some ⟨ocCycle, odCycle, .func (PySem.W.fnOf "__init__" "Cycle.__init__" (defArgs (initS sCycle)) (defBody (initS sCycle)) (defScope (initS sCycle)) .none kVCycle dcCycle pmCycle anCycle cdCycle ctCycle), slCycle⟩)
    (cCycle : PySem.W.codeIn K cdCycle "Cycle.__init__" = true) (kCycle : PySem.W.keepIn K (.ref fCycle) = true)
    (tCycle : PySem.W.typeIn K (.ref fCycle) = some (.type "function")) (uCycle : PySem.W.excInitIn K CCycle vaTail "ValueError.__new__" = true) (oCycle : PySem.W.excOver K CCycle vaTail = true) (hCycle : PySem.W.hasDictIn K CCycle = true) (saCycle : PySem.W.findIn K (.ref CCycle) "__setattr__" = some (some (.builtin "object.__setattr__"))) (bCycle : PySem.W.subIn K (.ref CCycle) (.type "BaseException") = some true)
    (yCycle : PySem.W.typeIn K (.ref CCycle) = some (.type "type")) (wCycle : PySem.W.keepIn K (.ref CCycle) = true) (nCycle : PySem.W.findIn K (.ref CCycle) "tag" = some none) (gCycle : PySem.W.findIn K (.ref CCycle) "node" = some none) (xCycle : PySem.W.findIn K (.ref CCycle) "__getattribute__" = some (some (.builtin "BaseException.__getattribute__"))) (jCycle : PySem.W.findIn K (.ref CCycle) "__getattr__" = some none)
    (zCycle : PySem.W.exmAny K (.ref CCycle) [.ref CForestError, .ref CMissing] = some true)
    {CBadSize fBadSize : Addr} {ocBadSize : Value} {odBadSize anBadSize : Option Addr} {slBadSize : Array (Option Value)} {kVBadSize dcBadSize pmBadSize cdBadSize ctBadSize : Value}
    (aBadSize : PySem.W.nsIn K mainGlobals "BadSize" = some (some (.ref CBadSize))) (iBadSize : PySem.W.findIn K (.ref CBadSize) "__init__" = some (some (.ref fBadSize))) (lBadSize : K.lookup fBadSize = some ⟨ocBadSize, odBadSize, .func (PySem.W.fnOf "__init__" "BadSize.__init__" (defArgs (initS sE_BadSize)) (defBody (initS sE_BadSize)) (defScope (initS sE_BadSize)) .none kVBadSize dcBadSize pmBadSize anBadSize cdBadSize ctBadSize), slBadSize⟩)
    (cBadSize : PySem.W.codeIn K cdBadSize "BadSize.__init__" = true) (kBadSize : PySem.W.keepIn K (.ref fBadSize) = true)
    (tBadSize : PySem.W.typeIn K (.ref fBadSize) = some (.type "function")) (uBadSize : PySem.W.excInitIn K CBadSize vaTail "ValueError.__new__" = true) (oBadSize : PySem.W.excOver K CBadSize vaTail = true) (hBadSize : PySem.W.hasDictIn K CBadSize = true) (saBadSize : PySem.W.findIn K (.ref CBadSize) "__setattr__" = some (some (.builtin "object.__setattr__"))) (bBadSize : PySem.W.subIn K (.ref CBadSize) (.type "BaseException") = some true)
    (yBadSize : PySem.W.typeIn K (.ref CBadSize) = some (.type "type")) (wBadSize : PySem.W.keepIn K (.ref CBadSize) = true) (nBadSize : PySem.W.findIn K (.ref CBadSize) "tag" = some none) (gBadSize : PySem.W.findIn K (.ref CBadSize) "size" = some none) (xBadSize : PySem.W.findIn K (.ref CBadSize) "__getattribute__" = some (some (.builtin "BaseException.__getattribute__"))) (jBadSize : PySem.W.findIn K (.ref CBadSize) "__getattr__" = some none)
    (zBadSize : PySem.W.exmAny K (.ref CBadSize) [.ref CForestError, .ref CMissing] = some true)
    {CEmptyHistory : Addr} (aEmptyHistory : PySem.W.nsIn K mainGlobals "EmptyHistory" = some (some (.ref CEmptyHistory)))
    {tM : Tok} (aMX : PySem.W.nsIn K mainGlobals "MAX_NODES" = some (some (.int 40 tM)))
    (mTooManyNodes : PySem.W.exmAny K (.ref CTooManyNodes) [.ref CTooManyNodes, .ref CBadParent, .ref CCycle] = some true)
    (mBadParent : PySem.W.exmAny K (.ref CBadParent) [.ref CTooManyNodes, .ref CBadParent, .ref CCycle] = some true)
    (mCycle : PySem.W.exmAny K (.ref CCycle) [.ref CTooManyNodes, .ref CBadParent, .ref CCycle] = some true)
    {tS : Tok} (aMZ : PySem.W.nsIn K mainGlobals "MAX_SIZE" = some (some (.int 60 tS)))
    {tL : Tok} (aML : PySem.W.nsIn K mainGlobals "MAX_LISTED" = some (some (.int 5 tL)))
    {fU DU : Addr} {ocU : Value} {odU anU : Option Addr} {slU : Array (Option Value)} {dcU pmU cdU ctU : Value} {tU : Tok} (aU : PySem.W.nsIn K mainGlobals "count_forests" = some (some (.ref fU))) (lU : K.lookup fU = some ⟨ocU, odU, .func (PySem.W.fnOf "count_forests" "count_forests" (defArgs sCF) (defBody sCF) (defScope sCF) .none (.ref DU) dcU pmU anU cdU ctU), slU⟩) (cU : PySem.W.codeIn K cdU "count_forests" = true) (kpU : PySem.W.keepIn K (.ref fU) = true) (nU : PySem.W.nsIn K DU "roots" = some (some (.int 1 tU)))
    : LamX.LawAtS l w K CX0 17 63 "_law_script" mg fa h := by
  obtain ⟨f_0, fd_0, F_0, g_0⟩ := d0.get X G
  obtain ⟨f_1, fd_1, F_1, g_1⟩ := d1.get X G
  obtain ⟨f_2, fd_2, F_2, g_2⟩ := d2.get X G
  obtain ⟨f_3, fd_3, F_3, g_3⟩ := d3.get X G
  obtain ⟨f_4, fd_4, F_4, g_4⟩ := d4.get X G
  obtain ⟨f_5, fd_5, F_5, g_5⟩ := d5.get X G
  obtain ⟨f_6, fd_6, F_6, g_6⟩ := d6.get X G
  obtain ⟨f_7, fd_7, F_7, g_7⟩ := d7.get X G
  obtain ⟨f_8, fd_8, F_8, g_8⟩ := d8.get X G
  obtain ⟨f_9, fd_9, F_9, g_9⟩ := d9.get X G
  obtain ⟨f_10, fd_10, F_10, g_10⟩ := d10.get X G
  obtain ⟨f_11, fd_11, F_11, g_11⟩ := d11.get X G
  obtain ⟨f_12, fd_12, F_12, g_12⟩ := d12.get X G
  obtain ⟨f_13, fd_13, F_13, g_13⟩ := d13.get X G
  obtain ⟨f_14, fd_14, F_14, g_14⟩ := d14.get X G
  obtain ⟨f_15, fd_15, F_15, g_15⟩ := d15.get X G
  obtain ⟨f_16, fd_16, F_16, g_16⟩ := d16.get X G
  obtain ⟨f_17, fd_17, F_17, g_17⟩ := d17.get X G
  obtain ⟨f_18, fd_18, F_18, g_18⟩ := d18.get X G
  obtain ⟨f_19, fd_19, F_19, g_19⟩ := d19.get X G
  have e := hfa.symm.trans (PySem.W.mg_of X G aL)
  cases e
  replace z_len := PySem.W.mg_none_of X G z_len
  replace z_range := PySem.W.mg_none_of X G z_range
  replace z_list := PySem.W.mg_none_of X G z_list
  replace z_tuple := PySem.W.mg_none_of X G z_tuple
  replace z_max := PySem.W.mg_none_of X G z_max
  replace z_min := PySem.W.mg_none_of X G z_min
  replace z_isinstance := PySem.W.mg_none_of X G z_isinstance
  replace z_bool := PySem.W.mg_none_of X G z_bool
  replace z_int := PySem.W.mg_none_of X G z_int
  replace z_str := PySem.W.mg_none_of X G z_str
  replace z_all := PySem.W.mg_none_of X G z_all
  replace z_zip := PySem.W.mg_none_of X G z_zip
  replace z_set := PySem.W.mg_none_of X G z_set
  replace z_sorted := PySem.W.mg_none_of X G z_sorted
  replace z_sum := PySem.W.mg_none_of X G z_sum
  replace z_ValueError := PySem.W.mg_none_of X G z_ValueError
  replace z_LookupError := PySem.W.mg_none_of X G z_LookupError
  replace z_enumerate := PySem.W.mg_none_of X G z_enumerate
  have T : Tx mg := ⟨z_len, z_range, z_list, z_tuple, z_max, z_min⟩
  have TS : TxS mg := ⟨z_isinstance, z_list, z_tuple, z_bool, z_int, z_str, z_len, z_all, z_zip⟩
  have GForestError := PySem.W.mg_of X G aForestError
  have GMissing := PySem.W.mg_of X G aMissing
  have GTooManyNodes := PySem.W.mg_of X G aTooManyNodes
  have GBadParent := PySem.W.mg_of X G aBadParent
  have GCycle := PySem.W.mg_of X G aCycle
  have GBadSize := PySem.W.mg_of X G aBadSize
  have GEmptyHistory := PySem.W.mg_of X G aEmptyHistory
  have gM := PySem.W.mg_of X G aMX
  have gS := PySem.W.mg_of X G aMZ
  have gL := PySem.W.mg_of X G aML
  have gU := PySem.W.mg_of X G aU
  have FU : Fun K "count_forests" "count_forests" sCF fU _ := fun_mk (st := sCF) lU cU kpU
  obtain ⟨dsU, rU, bU⟩ := cf_binds (K := K) (f := fU) ⟨⟨_, _, _, _, _, _, _, _, _, _, rfl, lU, cU, .inl ⟨rfl, rfl⟩, .inr ⟨DU, rfl, fun q hq => by rw [List.mem_singleton.mp hq]; exact ⟨_, nU, ⟨_, rfl⟩⟩⟩⟩, kpU⟩
  have hP := own c PT _ _ _ _ _ _ lL rfl rfl kL vL
  refine ⟨PySem.W.fnOf "law" "law" (defArgs sLaw) (defBody sLaw) (defScope sLaw) .none kV dc pm an (.ref c) ct, [(c, PT)], spLawT K PT, fun p hp => ?_, fun p hp => ?_, fun p hp => ?_, fun s v => .of_eq rfl, fun H a ns hl _ hH hS => ⟨a, ns, rfl, hH (c, PT) (List.mem_singleton.mpr rfl), hS, hl, fun _ => rfl⟩, fun base _ _ hTB => ?_⟩
  · rw [List.mem_singleton.mp hp]; exact hP
  · rw [List.mem_singleton.mp hp]; exact nL
  · rw [List.mem_singleton.mp hp]; exact PySem.W.codeHd_of_K X hL
  have TB := hTB (c, PT) (List.mem_singleton.mpr rfl)
  have b_0 := F_0.binds (ps := ["parents", "node"]) fun _ _ _ _ _ _ us hl => match us, hl with | [_, _], _ => rfl
  have b_1 := F_1.binds (ps := ["parents"]) fun _ _ _ _ _ _ us hl => match us, hl with | [_], _ => rfl
  have b_2 := F_2.binds (ps := ["parents"]) fun _ _ _ _ _ _ us hl => match us, hl with | [_], _ => rfl
  have b_3 := F_3.binds (ps := ["forest"]) fun _ _ _ _ _ _ us hl => match us, hl with | [_], _ => rfl
  have b_4 := F_4.binds (ps := ["base", "exponent"]) fun _ _ _ _ _ _ us hl => match us, hl with | [_, _], _ => rfl
  have b_5 := F_5.binds (ps := ["size"]) fun _ _ _ _ _ _ us hl => match us, hl with | [_], _ => rfl
  have b_6 := F_6.binds (ps := ["size"]) fun _ _ _ _ _ _ us hl => match us, hl with | [_], _ => rfl
  have b_7 := F_7.binds (ps := ["size"]) fun _ _ _ _ _ _ us hl => match us, hl with | [_], _ => rfl
  have b_8 := F_8.binds (ps := ["size"]) fun _ _ _ _ _ _ us hl => match us, hl with | [_], _ => rfl
  have b_9 := F_9.binds (ps := ["_law_script"]) fun _ _ _ _ _ _ us hl => match us, hl with | [_], _ => rfl
  have b_10 := F_10.binds (ps := ["_law_draw", "_law_many"]) fun _ _ _ _ _ _ us hl => match us, hl with | [_, _], _ => rfl
  have b_11 := F_11.binds (ps := ["_law_draw", "_law_some"]) fun _ _ _ _ _ _ us hl => match us, hl with | [_, _], _ => rfl
  have b_12 := F_12.binds (ps := ["_law_found", "_law_due"]) fun _ _ _ _ _ _ us hl => match us, hl with | [_, _], _ => rfl
  have b_13 := F_13.binds (ps := ["_law_e"]) fun _ _ _ _ _ _ us hl => match us, hl with | [_], _ => rfl
  have b_14 := F_14.binds (ps := ["_law_ask"]) fun _ _ _ _ _ _ us hl => match us, hl with | [_], _ => rfl
  have b_15 := F_15.binds (ps := ["_law_ask"]) fun _ _ _ _ _ _ us hl => match us, hl with | [_], _ => rfl
  have b_16 := F_16.binds (ps := ["_law_forest", "_law_node"]) fun _ _ _ _ _ _ us hl => match us, hl with | [_, _], _ => rfl
  have b_17 := F_17.binds (ps := ["_law_size_in"]) fun _ _ _ _ _ _ us hl => match us, hl with | [_], _ => rfl
  have b_18 := F_18.binds (ps := ["_law_row"]) fun _ _ _ _ _ _ us hl => match us, hl with | [_], _ => rfl
  have b_19 := F_19.binds (ps := ["_law_rest", "_law_many"]) fun _ _ _ _ _ _ us hl => match us, hl with | [_, _], _ => rfl
  have HForestError : Fun K "__init__" "ForestError.__init__" (initS sForE) fForestError _ := fun_mk (st := initS sForE) lForestError cForestError kForestError
  have IForestError : FnOk l.prog w K mg base CX0 1 fForestError _ ["self", "tag", "message"] (spTop K "ValueError.__new__" vaTail) := ok_forEI HForestError z_ValueError vForestError
  have JForestError := HForestError.binds (ps := ["self", "tag", "message"]) fun _ _ _ _ _ _ us hl => match us, hl with | [_, _, _], _ => rfl
  have LForestError : ClsI K CForestError fForestError := ⟨rForestError, mForestError, pForestError, kForestError, qForestError⟩
  have HMissing : Fun K "__init__" "Missing.__init__" (initS sMiss) fMissing _ := fun_mk (st := initS sMiss) lMissing cMissing kMissing
  have IMissing : FnOk l.prog w K mg base CX0 1 fMissing _ ["self", "tag", "message"] (spTop K "LookupError.__new__" luTail) := ok_missI HMissing z_LookupError vMissing
  have JMissing := HMissing.binds (ps := ["self", "tag", "message"]) fun _ _ _ _ _ _ us hl => match us, hl with | [_, _, _], _ => rfl
  have LMissing : ClsI K CMissing fMissing := ⟨rMissing, mMissing, pMissing, kMissing, qMissing⟩
  have HTooManyNodes : Fun K "__init__" "TooManyNodes.__init__" (initS sTooMany) fTooManyNodes _ := fun_mk (st := initS sTooMany) lTooManyNodes cTooManyNodes kTooManyNodes
  have JTooManyNodes := HTooManyNodes.binds (ps := ["self", "limit"]) fun _ _ _ _ _ _ us hl => match us, hl with | [_, _], _ => rfl
  have RTooManyNodes : Raisable l.prog w K mg base 2 "TooManyNodes" CTooManyNodes "limit" "TooManyNodes" := ⟨⟨_, _, _, _, fTooManyNodes, _, PySem.F.excBase_ValueError, ⟨uTooManyNodes, oTooManyNodes, hTooManyNodes, saTooManyNodes, bTooManyNodes, yTooManyNodes, wTooManyNodes⟩, iTooManyNodes, tTooManyNodes, ok_tooManyI HTooManyNodes LForestError GForestError IForestError JForestError, JTooManyNodes⟩, GTooManyNodes, nTooManyNodes, gTooManyNodes, ⟨xTooManyNodes, jTooManyNodes, bTooManyNodes, hTooManyNodes⟩⟩
  have HBadParent : Fun K "__init__" "BadParent.__init__" (initS sBadPar) fBadParent _ := fun_mk (st := initS sBadPar) lBadParent cBadParent kBadParent
  have JBadParent := HBadParent.binds (ps := ["self", "node"]) fun _ _ _ _ _ _ us hl => match us, hl with | [_, _], _ => rfl
  have RBadParent : Raisable l.prog w K mg base 2 "BadParent" CBadParent "node" "BadParent" := ⟨⟨_, _, _, _, fBadParent, _, PySem.F.excBase_ValueError, ⟨uBadParent, oBadParent, hBadParent, saBadParent, bBadParent, yBadParent, wBadParent⟩, iBadParent, tBadParent, ok_badParI HBadParent LForestError GForestError IForestError JForestError, JBadParent⟩, GBadParent, nBadParent, gBadParent, ⟨xBadParent, jBadParent, bBadParent, hBadParent⟩⟩
  have HCycle : Fun K "__init__" "Cycle.__init__" (initS sCycle) fCycle _ := fun_mk (st := initS sCycle) lCycle cCycle kCycle
  have JCycle := HCycle.binds (ps := ["self", "node"]) fun _ _ _ _ _ _ us hl => match us, hl with | [_, _], _ => rfl
  have RCycle : Raisable l.prog w K mg base 2 "Cycle" CCycle "node" "Cycle" := ⟨⟨_, _, _, _, fCycle, _, PySem.F.excBase_ValueError, ⟨uCycle, oCycle, hCycle, saCycle, bCycle, yCycle, wCycle⟩, iCycle, tCycle, ok_cycleI HCycle LForestError GForestError IForestError JForestError, JCycle⟩, GCycle, nCycle, gCycle, ⟨xCycle, jCycle, bCycle, hCycle⟩⟩
  have HBadSize : Fun K "__init__" "BadSize.__init__" (initS sE_BadSize) fBadSize _ := fun_mk (st := initS sE_BadSize) lBadSize cBadSize kBadSize
  have JBadSize := HBadSize.binds (ps := ["self", "size"]) fun _ _ _ _ _ _ us hl => match us, hl with | [_, _], _ => rfl
  have RBadSize : Raisable l.prog w K mg base 2 "BadSize" CBadSize "size" "BadSize" := ⟨⟨_, _, _, _, fBadSize, _, PySem.F.excBase_ValueError, ⟨uBadSize, oBadSize, hBadSize, saBadSize, bBadSize, yBadSize, wBadSize⟩, iBadSize, tBadSize, ok_E_BadSize HBadSize LForestError GForestError IForestError JForestError, JBadSize⟩, GBadSize, nBadSize, gBadSize, ⟨xBadSize, jBadSize, bBadSize, hBadSize⟩⟩
  have k_0 : Kn l.prog w K mg base 1 "leads_to_root" sLeads ["parents", "node"] (spLeads K) f_0 fd_0 := ⟨F_0, ok_leads F_0 T, b_0, g_0⟩
  have k_3 : Kn l.prog w K mg base 1 "roots_of" sRootsOf ["forest"] (spRootsOf K) f_3 fd_3 := ⟨F_3, ok_rootsOf F_3 z_enumerate, b_3, g_3⟩
  have k_4 : Kn l.prog w K mg base 1 "power_of" sPower ["base", "exponent"] spPow3 f_4 fd_4 := ⟨F_4, ok_power3 F_4 T, b_4, g_4⟩
  have k_9 : Kn l.prog w K mg base 1 "_law_start" sStart ["_law_script"] (spStart K) f_9 fd_9 := ⟨F_9, ok_start F_9 T, b_9, g_9⟩
  have k_10 : Kn l.prog w K mg base 1 "_law_take" sTake ["_law_draw", "_law_many"] spTake f_10 fd_10 := ⟨F_10, ok_take F_10 T.len, b_10, g_10⟩
  have k_11 : Kn l.prog w K mg base 2 "_law_of" sOf ["_law_draw", "_law_some"] (spOf K) f_11 fd_11 := ⟨F_11, ok_of F_11 k_10.G k_10.F k_10.b k_10.g T, b_11, g_11⟩
  have k_16 : Kn l.prog w K mg base 1 "_law_path" sPath ["_law_forest", "_law_node"] (spPath K) f_16 fd_16 := ⟨F_16, ok_path F_16 T, b_16, g_16⟩
  have k_17 : Kn l.prog w K mg base 1 "_law_tuples" sTup ["_law_size_in"] spTup f_17 fd_17 := ⟨F_17, ok_tup F_17 T, b_17, g_17⟩
  have k_18 : Kn l.prog w K mg base 1 "_law_is_star" sStar ["_law_row"] (spStar K) f_18 fd_18 := ⟨F_18, ok_star F_18 T, b_18, g_18⟩
  have k_12 : Kn l.prog w K mg base 4 "_law_same" sSame ["_law_found", "_law_due"] (spSame K 3) f_12 fd_12 := ⟨F_12, ok_same F_12 TS b_12 g_12 3, b_12, g_12⟩
  have x_check : KnX l.prog w K mg base 4 "check_forest" ["parents"] (spCheckB K CTooManyNodes CBadParent CCycle) f_1 fd_1 := ⟨F_1.kp, okB_check F_1 k_0 T z_enumerate gM RTooManyNodes RBadParent RCycle, b_1, g_1⟩
  have x_ckS : KnX l.prog w K mg base 4 "check_size" ["size"] (spCkS CBadSize) f_5 fd_5 := ⟨F_5.kp, okB_ckS F_5 gS RBadSize, b_5, g_5⟩
  have K_isf : Kn l.prog w K mg base 5 "is_forest" sIsFor ["parents"] (spIsFor K) f_2 _ := ⟨F_2, ok_isFor F_2 x_check GTooManyNodes GBadParent GCycle mTooManyNodes mBadParent mCycle, b_2, g_2⟩
  have G_cf : FnOk l.prog w K mg base (L2N.CX l.prog w) 5 fU _ ["size", "roots"] (spCF CBadSize) := okB_cf FU x_ckS k_4
  have k_cf : KnK l.prog w K mg base 5 "count_forests" sCF ["size", "roots"] spCFP fU _ := ⟨FU, fn_no G_cf cf_plain, gU⟩
  have y_cf : KnY l.prog w K mg base 5 "count_forests" ["size", "roots"] (spCF CBadSize) fU _ := ⟨kpU, G_cf, gU⟩
  have k_19 : Kn l.prog w K mg base 6 "_law_layers" sLys ["_law_rest", "_law_many"] spLys f_19 fd_19 := ⟨F_19, ok_lys F_19 k_cf T, b_19, g_19⟩
  have x_ct : KnX l.prog w K mg base 6 "count_trees" ["size"] (spCT CBadSize) f_6 fd_6 := ⟨F_6.kp, okB_ct F_6 y_cf rU bU, b_6, g_6⟩
  have k_ct : Kn l.prog w K mg base 6 "count_trees" sCT ["size"] spCTP f_6 fd_6 := ⟨F_6, fn_no x_ct.G ct_plain, b_6, g_6⟩
  have x_af : KnX l.prog w K mg base 6 "all_forests" ["size"] (spAllF CTooManyNodes) f_7 fd_7 := ⟨F_7.kp, okB_allF F_7 K_isf gL RTooManyNodes T, b_7, g_7⟩
  have k_af : Kn l.prog w K mg base 6 "all_forests" sAllF ["size"] spAllFP f_7 fd_7 := ⟨F_7, fn_no x_af.G af_plain, b_7, g_7⟩
  have x_at : KnX l.prog w K mg base 7 "all_trees" ["size"] (spAllT CTooManyNodes) f_8 fd_8 := ⟨F_8.kp, okB_allT F_8 x_af k_3 T, b_8, g_8⟩
  have k_at : Kn l.prog w K mg base 7 "all_trees" sAllT ["size"] spAllTP f_8 fd_8 := ⟨F_8, fn_no x_at.G at_plain, b_8, g_8⟩
  have E_f : ExX.FnE l.prog w K mg base CX0 1 f_13 _ ["_law_e"] (spField K) := ok_field F_13
  have E_o : ExX.FnL l.prog w K mg base 3 f_14 (TTout K CForestError CMissing) := ok_out F_14 b_14 E_f F_13.kp b_13 g_13 GForestError GMissing GEmptyHistory
  have E_e : ExX.FnL l.prog w K mg base 4 f_15 (TTerr K CForestError CMissing) := ok_err F_15 b_15 E_o F_14.kp g_14
  exact ok_law lL cL TB T z_all gS gL ⟨_, _, k_9⟩ ⟨_, _, k_10⟩ ⟨_, _, k_16⟩ ⟨_, _, k_17⟩ ⟨_, _, k_18⟩ ⟨_, _, k_19⟩ ⟨_, _, k_12⟩ ⟨_, _, k_11⟩ k_cf rU bU y_cf k_ct x_ct k_af x_af k_at x_at E_e F_15.kp g_15 RBadSize RTooManyNodes zBadSize zTooManyNodes
end Ff
open PySem PySem.W PyProof.Rows
set_option maxHeartbeats 0 in
theorem PySem.Challenge.cw_findforests_k26_numbers_and_lists_of_tre_holds : PySem.Challenge.rw_findforests_k26_numbers_and_lists_of_tre.Holds := by
  w_on; o_law; k_head; (case hw => w_witness2)
  k_fill
  refine LamX.walk_ofOwn (l := PySem.Challenge.rw_findforests_k26_numbers_and_lists_of_tre) (n := 63) (k := 17) (x := "_law_script") (CX := fun _ => L2.CX0) rfl (by decide) rfl ⟨rfl, by decide, by decide⟩ (by decide +kernel) (fun w h Y => PySem.W.km_in_of Y) ?F (fun _ _ _ _ _ h => h)
  case F =>
    intro w mg fa h Y KX G hmg own
    refine' Ff.all_mk KX G hmg own ?d0 ?d1 ?d2 ?d3 ?d4 ?d5 ?d6 ?d7 ?d8 ?d9 ?d10 ?d11 ?d12 ?d13 ?d14 ?d15 ?d16 ?d17 ?d18 ?d19 ?z_len ?z_range ?z_list ?z_tuple ?z_max ?z_min ?z_isinstance ?z_bool ?z_int ?z_str ?z_all ?z_zip ?z_set ?z_sorted ?z_sum ?z_ValueError ?z_LookupError ?z_enumerate ?aL ?lL ?cL ?kL ?vL ?hL ?nL ?aForestError ?iForestError ?lForestError ?cForestError ?kForestError ?rForestError ?mForestError ?pForestError ?qForestError ?vForestError ?aMissing ?iMissing ?lMissing ?cMissing ?kMissing ?rMissing ?mMissing ?pMissing ?qMissing ?vMissing ?aTooManyNodes ?iTooManyNodes ?lTooManyNodes ?cTooManyNodes ?kTooManyNodes ?tTooManyNodes ?uTooManyNodes ?oTooManyNodes ?hTooManyNodes ?saTooManyNodes ?bTooManyNodes ?yTooManyNodes ?wTooManyNodes ?nTooManyNodes ?gTooManyNodes ?xTooManyNodes ?jTooManyNodes ?zTooManyNodes ?aBadParent ?iBadParent ?lBadParent ?cBadParent ?kBadParent ?tBadParent ?uBadParent ?oBadParent ?hBadParent ?saBadParent ?bBadParent ?yBadParent ?wBadParent ?nBadParent ?gBadParent ?xBadParent ?jBadParent ?zBadParent ?aCycle ?iCycle ?lCycle ?cCycle ?kCycle ?tCycle ?uCycle ?oCycle ?hCycle ?saCycle ?bCycle ?yCycle ?wCycle ?nCycle ?gCycle ?xCycle ?jCycle ?zCycle ?aBadSize ?iBadSize ?lBadSize ?cBadSize ?kBadSize ?tBadSize ?uBadSize ?oBadSize ?hBadSize ?saBadSize ?bBadSize ?yBadSize ?wBadSize ?nBadSize ?gBadSize ?xBadSize ?jBadSize ?zBadSize ?aEmptyHistory ?aMX ?mTooManyNodes ?mBadParent ?mCycle ?aMZ ?aML ?aU ?lU ?cU ?kpU ?nU
    (case z_len => k_is); (case z_range => k_is); (case z_list => k_is); (case z_tuple => k_is); (case z_max => k_is); (case z_min => k_is); (case z_isinstance => k_is); (case z_bool => k_is); (case z_int => k_is); (case z_str => k_is); (case z_all => k_is); (case z_zip => k_is); (case z_set => k_is); (case z_sorted => k_is); (case z_sum => k_is); (case z_ValueError => k_is); (case z_LookupError => k_is); (case z_enumerate => k_is); (case aL => k_is); (case lL => k_is); (case cL => k_is); (case kL => k_is); (case vL => rfl); (case hL => kernel_rfl); (case nL => kernel_rfl); (case aForestError => k_is); (case iForestError => k_is); (case lForestError => k_is); (case cForestError => k_is); (case kForestError => k_is); (case rForestError => k_is); (case mForestError => k_is); (case pForestError => k_is); (case qForestError => k_is); (case vForestError => k_is); (case aMissing => k_is); (case iMissing => k_is); (case lMissing => k_is); (case cMissing => k_is); (case kMissing => k_is); (case rMissing => k_is); (case mMissing => k_is); (case pMissing => k_is); (case qMissing => k_is); (case vMissing => k_is); (case aTooManyNodes => k_is); (case iTooManyNodes => k_is); (case lTooManyNodes => k_is); (case cTooManyNodes => k_is); (case kTooManyNodes => k_is); (case tTooManyNodes => k_is); (case uTooManyNodes => kx_is); (case oTooManyNodes => kx_is); (case hTooManyNodes => k_is); (case saTooManyNodes => k_is); (case bTooManyNodes => k_is); (case yTooManyNodes => k_is); (case wTooManyNodes => k_is); (case nTooManyNodes => k_is); (case gTooManyNodes => k_is); (case xTooManyNodes => k_is); (case jTooManyNodes => k_is); (case zTooManyNodes => kernel_rfl); (case aBadParent => k_is); (case iBadParent => k_is); (case lBadParent => k_is); (case cBadParent => k_is); (case kBadParent => k_is); (case tBadParent => k_is); (case uBadParent => kx_is); (case oBadParent => kx_is); (case hBadParent => k_is); (case saBadParent => k_is); (case bBadParent => k_is); (case yBadParent => k_is); (case wBadParent => k_is); (case nBadParent => k_is); (case gBadParent => k_is); (case xBadParent => k_is); (case jBadParent => k_is); (case zBadParent => kernel_rfl); (case aCycle => k_is); (case iCycle => k_is); (case lCycle => k_is); (case cCycle => k_is); (case kCycle => k_is); (case tCycle => k_is); (case uCycle => kx_is); (case oCycle => kx_is); (case hCycle => k_is); (case saCycle => k_is); (case bCycle => k_is); (case yCycle => k_is); (case wCycle => k_is); (case nCycle => k_is); (case gCycle => k_is); (case xCycle => k_is); (case jCycle => k_is); (case zCycle => kernel_rfl); (case aBadSize => k_is); (case iBadSize => k_is); (case lBadSize => k_is); (case cBadSize => k_is); (case kBadSize => k_is); (case tBadSize => k_is); (case uBadSize => kx_is); (case oBadSize => kx_is); (case hBadSize => k_is); (case saBadSize => k_is); (case bBadSize => k_is); (case yBadSize => k_is); (case wBadSize => k_is); (case nBadSize => k_is); (case gBadSize => k_is); (case xBadSize => k_is); (case jBadSize => k_is); (case zBadSize => kernel_rfl); (case aEmptyHistory => k_is); (case aMX => k_is); (case mTooManyNodes => kernel_rfl); (case mBadParent => kernel_rfl); (case mCycle => kernel_rfl); (case aMZ => k_is); (case aML => k_is); (case aU => k_is); (case lU => k_is); (case cU => k_is); (case kpU => k_is); (case nU => k_is)
    all_goals (refine' Ff.DefF.by ?a ?l ?c ?k; (case a => k_is); (case l => k_is); (case c => k_is); (case k => k_is))

