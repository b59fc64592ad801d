import PyProof.Rows.All
import Wide.All
import OpenK.AllK
import Wide.FinOn
import KE.KExcInit
import HandS.Base
import HandS.Call
import HandS.List
import HandS.Ends
import HandS.Exc
import HandS.ExcInit
import HandS.ExcCtx
import HandS.TryMany
import KE.KTryMore
import HandS.HotCalls
import HandS.ExcField
import HandS.Lambda
import HandS.Codes
import HandS.Words
import HandS.WordsExc
import PyProof.TupleIter
import HandS.FStr
import HandS.Style
import HandS.Comp
import KE.KDflt
import HandS.Iter
import KE.GoesEnum
import HandS.Dict
import HandS.Text
import HandS.WordsList
import HandS.WordsDict
import HandS.Wide
import HandS.Conv
import HandS.More
import HandS.Strs
import HandS.SetFor
import HandS.IsInst
import HandS.Zip
import HandS.Deep
import HandS.TupSets
import HandS.EndOwn
import KE.KNestM
import KE.KExcLine
import PySem.Challenge.RW_findforests_k22_whole_ways_by_search
set_option Elab.async false
set_option linter.all false
set_option maxRecDepth 100000
set_option maxHeartbeats 4000000
/-! The mathematics of finds: forests as parent functions below n, with a rank that falls towards the roots. -/
namespace Ff
structure Fo (n : Nat) (p : Nat → Nat) (r : Nat → Nat) : Prop where
  lt : ∀ x, x < n → p x < n
  up : ∀ x, x < n → p x = x ∨ r (p x) < r x
  rb : ∀ x, x < n → r x < n
def root (p : Nat → Nat) : Nat → Nat → Nat
  | 0, x => x
  | k + 1, x => if p x = x then x else root p k (p x)
def ups (p : Nat → Nat) : Nat → Nat → List Nat
  | 0, _ => []
  | k + 1, x => if p x = x then [] else x :: ups p k (p x)
def path (p : Nat → Nat) (k x : Nat) : List Nat := ups p k x ++ [root p k x]
theorem root_of {p : Nat → Nat} {x : Nat} (h : p x = x) : ∀ k, root p k x = x
  | 0 => rfl
  | k + 1 => by show (if p x = x then x else _) = x; rw [if_pos h]
theorem ups_of {p : Nat → Nat} {x : Nat} (h : p x = x) : ∀ k, ups p k x = []
  | 0 => rfl
  | k + 1 => by show (if p x = x then [] else _) = []; rw [if_pos h]
theorem root_step {p : Nat → Nat} {x k : Nat} (h : p x ≠ x) : root p (k + 1) x = root p k (p x) := by
  show (if p x = x then x else _) = _; rw [if_neg h]
theorem ups_step {p : Nat → Nat} {x k : Nat} (h : p x ≠ x) : ups p (k + 1) x = x :: ups p k (p x) := by
  show (if p x = x then [] else _) = _; rw [if_neg h]
section
variable {n : Nat} {p : Nat → Nat} {r : Nat → Nat}
/-- enough steps: more of them change nothing -/
theorem root_more (F : Fo n p r) : ∀ (k x : Nat), x < n → r x ≤ k → root p (k + 1) x = root p k x
  | k, x, hx, hr => by
    by_cases h : p x = x
    · rw [root_of h, root_of h]
    · have u := (F.up x hx).resolve_left h
      cases k with
      | zero => omega
      | succ k => rw [root_step h, root_step h]; exact root_more F k (p x) (F.lt x hx) (by omega)
theorem ups_more (F : Fo n p r) : ∀ (k x : Nat), x < n → r x ≤ k → ups p (k + 1) x = ups p k x
  | k, x, hx, hr => by
    by_cases h : p x = x
    · rw [ups_of h, ups_of h]
    · have u := (F.up x hx).resolve_left h
      cases k with
      | zero => omega
      | succ k => rw [ups_step h, ups_step h]; rw [ups_more F k (p x) (F.lt x hx) (by omega)]
theorem root_n (F : Fo n p r) {x : Nat} (hx : x < n) (h : p x ≠ x) : root p n x = root p n (p x) := by
  have := F.rb x hx
  have e := (F.up x hx).resolve_left h
  rw [← root_more F n x hx (by omega), root_step h]
theorem ups_n (F : Fo n p r) {x : Nat} (hx : x < n) (h : p x ≠ x) : ups p n x = x :: ups p n (p x) := by
  have := F.rb x hx
  have e := (F.up x hx).resolve_left h
  rw [← ups_more F n x hx (by omega), ups_step h]
/-- induction from the roots -/
theorem Fo.ind (F : Fo n p r) {C : Nat → Prop} (h0 : ∀ x, x < n → p x = x → C x) (h1 : ∀ x, x < n → p x ≠ x → C (p x) → C x) : ∀ x, x < n → C x := by
  have : ∀ k x, r x ≤ k → x < n → C x := by
    intro k
    induction k with
    | zero =>
      intro x hr hx
      by_cases h : p x = x
      · exact h0 x hx h
      · have := (F.up x hx).resolve_left h; omega
    | succ k ih =>
      intro x hr hx
      by_cases h : p x = x
      · exact h0 x hx h
      · have := (F.up x hx).resolve_left h
        exact h1 x hx h (ih (p x) (by omega) (F.lt x hx))
  exact fun x hx => this (r x) x (Nat.le_refl _) hx
theorem root_lt (F : Fo n p r) : ∀ x, x < n → root p n x < n :=
  F.ind (fun x hx h => by rw [root_of h]; exact hx) (fun x hx h ih => by rw [root_n F hx h]; exact ih)
theorem root_fix (F : Fo n p r) : ∀ x, x < n → p (root p n x) = root p n x :=
  F.ind (fun x hx h => by rw [root_of h]; exact h) (fun x hx h ih => by rw [root_n F hx h]; exact ih)
theorem root_rank (F : Fo n p r) : ∀ x, x < n → root p n x = x ∨ r (root p n x) < r x :=
  F.ind (fun x hx h => .inl (root_of h n)) (fun x hx h ih => by
    have u := (F.up x hx).resolve_left h
    rw [root_n F hx h]
    rcases ih with e | e
    · rw [e]; exact .inr u
    · exact .inr (by omega))
theorem root_ne (F : Fo n p r) {x : Nat} (hx : x < n) (h : p x ≠ x) : root p n x ≠ x := fun e => h (by have z := root_fix F x hx; rw [e] at z; exact z)
theorem ups_lt (F : Fo n p r) : ∀ x, x < n → ∀ v ∈ ups p n x, v < n ∧ p v ≠ v ∧ root p n v = root p n x ∧ r v ≤ r x :=
  F.ind (fun x hx h v hv => by rw [ups_of h] at hv; cases hv) (fun x hx h ih v hv => by
    have u := (F.up x hx).resolve_left h
    rw [ups_n F hx h] at hv
    rcases List.mem_cons.mp hv with e | e
    · subst e; exact ⟨hx, h, rfl, Nat.le_refl _⟩
    · have z := ih v e
      refine ⟨z.1, z.2.1, z.2.2.1.trans (root_n F hx h).symm, by omega⟩)
theorem ups_len (F : Fo n p r) : ∀ x, x < n → (ups p n x).length ≤ r x :=
  F.ind (fun x hx h => by rw [ups_of h]; exact Nat.zero_le _) (fun x hx h ih => by
    have u := (F.up x hx).resolve_left h
    rw [ups_n F hx h, List.length_cons]; omega)
theorem ups_nodup (F : Fo n p r) : ∀ x, x < n → (ups p n x).Nodup :=
  F.ind (fun x hx h => by rw [ups_of h]; exact List.nodup_nil) (fun x hx h ih => by
    have u := (F.up x hx).resolve_left h
    rw [ups_n F hx h]
    refine List.nodup_cons.mpr ⟨fun hm => ?_, ih⟩
    have z := (ups_lt F (p x) (F.lt x hx) x hm).2.2.2
    omega)
theorem self_ups (F : Fo n p r) {x : Nat} (hx : x < n) (h : p x ≠ x) : x ∈ ups p n x := by rw [ups_n F hx h]; exact List.mem_cons_self
/-- a set of nodes with all nodes above them but the roots -/
def Closed (n : Nat) (p : Nat → Nat) (S : Nat → Bool) : Prop := ∀ v, v < n → S v = true → p v ≠ v ∧ (p (p v) = p v ∨ S (p v) = true)
def after (n : Nat) (p : Nat → Nat) (S : Nat → Bool) : Nat → Nat := fun v => if S v = true then root p n v else p v
theorem closed_ups (F : Fo n p r) {S : Nat → Bool} (C : Closed n p S) : ∀ x, x < n → S x = true → ∀ v ∈ ups p n x, S v = true :=
  F.ind (fun x hx h hS v hv => by rw [ups_of h] at hv; cases hv) (fun x hx h ih hS v hv => by
    rw [ups_n F hx h] at hv
    rcases List.mem_cons.mp hv with e | e
    · subst e; exact hS
    · rcases (C x hx hS).2 with z | z
      · rw [ups_of z] at e; cases e
      · exact ih z v e)
theorem after_fo (F : Fo n p r) {S : Nat → Bool} (C : Closed n p S) : Fo n (after n p S) r where
  lt := fun x hx => by unfold after; split; exact root_lt F x hx; exact F.lt x hx
  up := fun x hx => by
    unfold after; split
    · exact root_rank F x hx
    · exact F.up x hx
  rb := F.rb
theorem after_root (F : Fo n p r) {S : Nat → Bool} (C : Closed n p S) {x : Nat} (hx : x < n) (h : p x = x) : after n p S x = x := by
  unfold after; split
  · exact root_of h n
  · exact h
theorem after_nonroot (F : Fo n p r) {S : Nat → Bool} (C : Closed n p S) {x : Nat} (hx : x < n) (h : p x ≠ x) : after n p S x ≠ x := by
  unfold after; split
  · exact root_ne F hx h
  · exact h
theorem after_same_root (F : Fo n p r) {S : Nat → Bool} (C : Closed n p S) : ∀ x, x < n → root (after n p S) n x = root p n x :=
  F.ind (fun x hx h => by rw [root_of h, root_of (after_root F C hx h)]) (fun x hx h ih => by
    have hq := after_nonroot F C hx h
    rw [root_n (after_fo F C) hx hq]
    by_cases hS : S x = true
    · have e : after n p S x = root p n x := by unfold after; rw [if_pos hS]
      rw [e]
      exact root_of (after_root F C (root_lt F x hx) (root_fix F x hx)) n
    · have e : after n p S x = p x := by unfold after; rw [if_neg hS]
      rw [e, ih, root_n F hx h])
theorem after_ups (F : Fo n p r) {S : Nat → Bool} (C : Closed n p S) : ∀ x, x < n →
    (∀ v ∈ ups (after n p S) n x, v ∈ ups p n x) ∧ (∀ v ∈ ups p n x, S v = true ∨ v ∈ ups (after n p S) n x) :=
  F.ind (fun x hx h => by rw [ups_of h, ups_of (after_root F C hx h)]; exact ⟨fun _ z => z, fun _ z => .inr z⟩) (fun x hx h ih => by
    have hq := after_nonroot F C hx h
    have G := after_fo F C
    rw [ups_n G hx hq]
    by_cases hS : S x = true
    · have e : after n p S x = root p n x := by unfold after; rw [if_pos hS]
      rw [e, ups_of (after_root F C (root_lt F x hx) (root_fix F x hx))]
      refine ⟨fun v hv => ?_, fun v hv => .inl (closed_ups F C x hx hS v hv)⟩
      rw [List.mem_singleton.mp hv]; exact self_ups F hx h
    · have e : after n p S x = p x := by unfold after; rw [if_neg hS]
      rw [e, ups_n F hx h]
      refine ⟨fun v hv => ?_, fun v hv => ?_⟩
      · rcases List.mem_cons.mp hv with z | z
        · rw [z]; exact List.mem_cons_self
        · exact List.mem_cons_of_mem _ (ih.1 v z)
      · rcases List.mem_cons.mp hv with z | z
        · exact .inr (by rw [z]; exact List.mem_cons_self)
        · rcases ih.2 v z with y | y
          · exact .inl y
          · exact .inr (List.mem_cons_of_mem _ y))
def low (p : Nat → Nat) (x : Nat) : Nat := if p x = x then 0 else 1
def deep (p : Nat → Nat) (v : Nat) : Bool := decide (p (p v) ≠ p v)
theorem after_cost (F : Fo n p r) {S : Nat → Bool} (C : Closed n p S) : ∀ x, x < n →
    (ups (after n p S) n x).length = low p x + (ups p n x).countP (fun v => deep p v && !S v) :=
  F.ind (fun x hx h => by rw [ups_of h, ups_of (after_root F C hx h)]; unfold low; rw [if_pos h]; rfl) (fun x hx h ih => by
    have hq := after_nonroot F C hx h
    have G := after_fo F C
    rw [ups_n G hx hq, List.length_cons]
    have hl : low p x = 1 := by unfold low; rw [if_neg h]
    rw [hl]
    by_cases hS : S x = true
    · have e : after n p S x = root p n x := by unfold after; rw [if_pos hS]
      rw [e, ups_of (after_root F C (root_lt F x hx) (root_fix F x hx))]
      have z : (ups p n x).countP (fun v => deep p v && !S v) = 0 := by
        refine List.countP_eq_zero.mpr fun v hv => ?_
        rw [closed_ups F C x hx hS v hv]; simp
      rw [z]; rfl
    · have e : after n p S x = p x := by unfold after; rw [if_neg hS]
      have eS : S x = false := by simpa using hS
      rw [e, ih, ups_n F hx h, List.countP_cons, eS]
      unfold low deep
      by_cases hd : p (p x) = p x
      · rw [if_pos hd]; simp [hd]; omega
      · rw [if_neg hd]; simp [hd]; omega)
def join (S T : Nat → Bool) : Nat → Bool := fun v => S v || T v
def upB (p : Nat → Nat) (n x : Nat) : Nat → Bool := fun v => (ups p n x).contains v
theorem upB_iff {v x : Nat} : upB p n x v = true ↔ v ∈ ups p n x := by unfold upB; exact List.contains_iff_mem
theorem ups_above (F : Fo n p r) : ∀ x, x < n → ∀ v ∈ ups p n x, p (p v) = p v ∨ p v ∈ ups p n x :=
  F.ind (fun x hx h v hv => by rw [ups_of h] at hv; cases hv) (fun x hx h ih v hv => by
    rw [ups_n F hx h] at hv ⊢
    rcases List.mem_cons.mp hv with e | e
    · subst e
      by_cases hp : p (p v) = p v
      · exact .inl hp
      · exact .inr (List.mem_cons_of_mem _ (self_ups F (F.lt v hx) hp))
    · rcases ih v e with z | z
      · exact .inl z
      · exact .inr (List.mem_cons_of_mem _ z))
theorem closed_join (F : Fo n p r) {S : Nat → Bool} (C : Closed n p S) {x : Nat} (hx : x < n) : Closed n p (join S (upB p n x)) := fun v hv h => by
  unfold join at h ⊢
  rcases Bool.or_eq_true _ _ |>.mp h with z | z
  · refine ⟨(C v hv z).1, ?_⟩
    rcases (C v hv z).2 with y | y
    · exact .inl y
    · exact .inr (by rw [y]; rfl)
  · have m := upB_iff.mp z
    refine ⟨(ups_lt F x hx v m).2.1, ?_⟩
    rcases ups_above F x hx v m with y | y
    · exact .inl y
    · exact .inr (by rw [upB_iff.mpr y, Bool.or_true])
theorem closed_no : Closed n p (fun _ => false) := fun v _ h => by cases h
def fnd (n : Nat) (p : Nat → Nat) (x : Nat) : Nat → Nat := fun v => if v ∈ path p n x then root p n x else p v
theorem fnd_after (F : Fo n p r) {S : Nat → Bool} (C : Closed n p S) {x : Nat} (hx : x < n) {v : Nat} (hv : v < n) : fnd n (after n p S) x v = after n p (join S (upB p n x)) v := by
  unfold fnd path
  rw [after_same_root F C x hx]
  have A := after_ups F C x hx
  have R := root_fix F x hx
  have Rl := root_lt F x hx
  by_cases h1 : v ∈ ups (after n p S) n x
  · rw [if_pos (List.mem_append_left _ h1)]
    have m := A.1 v h1
    unfold after join
    rw [if_pos (by rw [upB_iff.mpr m, Bool.or_true])]
    exact ((ups_lt F x hx v m).2.2.1).symm
  · by_cases h2 : v = root p n x
    · rw [if_pos (List.mem_append_right _ (List.mem_singleton.mpr h2))]
      subst h2
      exact (after_root F (closed_join F C hx) Rl R).symm
    · rw [if_neg (fun z => by
        rcases List.mem_append.mp z with y | y
        · exact h1 y
        · exact h2 (List.mem_singleton.mp y))]
      by_cases h3 : v ∈ ups p n x
      · have s := (A.2 v h3).resolve_right h1
        unfold after join
        rw [if_pos s, if_pos (by rw [s]; rfl)]
      · unfold after join
        have e : upB p n x v = false := by
          cases hb : upB p n x v with
          | false => rfl
          | true => exact absurd (upB_iff.mp hb) h3
        rw [e, Bool.or_false]
/-- a parent function below n alone matters -/
theorem root_congr {q : Nat → Nat} (hl : ∀ x, x < n → p x < n) (h : ∀ v, v < n → q v = p v) : ∀ k x, x < n → root q k x = root p k x
  | 0, _, _ => rfl
  | k + 1, x, hx => by
    show (if q x = x then x else root q k (q x)) = (if p x = x then x else root p k (p x))
    rw [h x hx, root_congr hl h k (p x) (hl x hx)]
theorem ups_congr {q : Nat → Nat} (hl : ∀ x, x < n → p x < n) (h : ∀ v, v < n → q v = p v) : ∀ k x, x < n → ups q k x = ups p k x
  | 0, _, _ => rfl
  | k + 1, x, hx => by
    show (if q x = x then [] else x :: ups q k (q x)) = (if p x = x then [] else x :: ups p k (p x))
    rw [h x hx, ups_congr hl h k (p x) (hl x hx)]
theorem fnd_congr {q : Nat → Nat} (hl : ∀ x, x < n → p x < n) (h : ∀ v, v < n → q v = p v) {x v : Nat} (hx : x < n) (hv : v < n) : fnd n q x v = fnd n p x v := by
  unfold fnd path
  rw [root_congr hl h n x hx, ups_congr hl h n x hx, h v hv]
theorem Fo.congr {q : Nat → Nat} (F : Fo n p r) (h : ∀ v, v < n → q v = p v) : Fo n q r where
  lt := fun x hx => by rw [h x hx]; exact F.lt x hx
  up := fun x hx => by rw [h x hx]; exact F.up x hx
  rb := F.rb
theorem fnd_fo (F : Fo n p r) {x : Nat} (hx : x < n) : Fo n (fnd n p x) r := by
  have e : ∀ v, v < n → after n p (fun _ => false) v = p v := fun v _ => rfl
  have A := after_fo F (closed_join F closed_no hx)
  exact A.congr fun v hv => (fnd_congr F.lt e hx hv).symm.trans (fnd_after F closed_no hx hv)
end
def fndAll (n : Nat) : List Nat → (Nat → Nat) → Nat → Nat
  | [], p => p
  | x :: l, p => fndAll n l (fnd n p x)
def costs (n : Nat) : List Nat → (Nat → Nat) → List Nat
  | [], _ => []
  | x :: l, p => (ups p n x).length :: costs n l (fnd n p x)
theorem fndAll_snoc (n : Nat) : ∀ (l : List Nat) (x : Nat) (p : Nat → Nat), fndAll n (l ++ [x]) p = fnd n (fndAll n l p) x
  | [], _, _ => rfl
  | y :: l, x, p => fndAll_snoc n l x (fnd n p y)
theorem costs_snoc (n : Nat) : ∀ (l : List Nat) (x : Nat) (p : Nat → Nat), costs n (l ++ [x]) p = costs n l p ++ [(ups (fndAll n l p) n x).length]
  | [], _, _ => rfl
  | y :: l, x, p => by show _ :: costs n (l ++ [x]) (fnd n p y) = _ :: (costs n l (fnd n p y) ++ [_]); rw [costs_snoc n l x (fnd n p y)]; rfl
theorem costs_len (n : Nat) : ∀ (l : List Nat) (p : Nat → Nat), (costs n l p).length = l.length
  | [], _ => rfl
  | y :: l, p => by show (costs n l (fnd n p y)).length + 1 = l.length + 1; rw [costs_len n l]
def markB (n : Nat) (p : Nat → Nat) (l : List Nat) : Nat → Bool := fun v => l.any fun x => upB p n x v
section
variable {n : Nat} {p : Nat → Nat} {r : Nat → Nat}
theorem fndAll_fo (F : Fo n p r) : ∀ (l : List Nat), (∀ x ∈ l, x < n) → ∀ q, Fo n q r → Fo n (fndAll n l q) r
  | [], _, q, G => G
  | x :: l, h, q, G => fndAll_fo F l (fun y hy => h y (List.mem_cons_of_mem _ hy)) _ (fnd_fo G (h x List.mem_cons_self))
theorem fndAll_after (F : Fo n p r) : ∀ (l : List Nat), (∀ x ∈ l, x < n) → ∀ S, Closed n p S → ∀ q, (∀ v, v < n → q v = after n p S v) → ∀ v, v < n → fndAll n l q v = after n p (join S (markB n p l)) v
  | [], _, S, C, q, hq, v, hv => by
    show q v = _
    rw [hq v hv]
    unfold after join markB
    simp
  | x :: l, h, S, C, q, hq, v, hv => by
    have hx := h x List.mem_cons_self
    have G := after_fo F C
    show fndAll n l (fnd n q x) v = _
    rw [fndAll_after F l (fun y hy => h y (List.mem_cons_of_mem _ hy)) (join S (upB p n x)) (closed_join F C hx) (fnd n q x) (fun u hu => (fnd_congr G.lt hq hx hu).trans (fnd_after F C hx hu)) v hv]
    have e : join (join S (upB p n x)) (markB n p l) = join S (markB n p (x :: l)) := by
      funext u
      show ((S u || upB p n x u) || l.any _) = (S u || (upB p n x u || l.any _))
      rw [Bool.or_assoc]
    rw [e]
theorem behind_eq (F : Fo n p r) (l : List Nat) (h : ∀ x ∈ l, x < n) (v : Nat) (hv : v < n) : fndAll n l p v = if markB n p l v = true then root p n v else p v := by
  rw [fndAll_after F l h (fun _ => false) closed_no p (fun u _ => rfl) v hv]
  unfold after join
  simp
theorem countP_split (f g : Nat → Bool) : ∀ l : List Nat, l.countP (fun v => f v && !g v) + l.countP (fun v => f v && g v) = l.countP f
  | [] => rfl
  | x :: l => by
    have ih := countP_split f g l
    rw [List.countP_cons, List.countP_cons, List.countP_cons, ← ih]
    cases f x <;> cases g x <;> simp <;> omega
theorem count_range (F : Fo n p r) {x : Nat} (hx : x < n) (f : Nat → Bool) : (ups p n x).countP f = (List.range n).countP (fun v => upB p n x v && f v) := by
  have P : (ups p n x).Perm ((List.range n).filter (upB p n x)) := by
    refine (List.perm_ext_iff_of_nodup (ups_nodup F x hx) (List.Nodup.sublist List.filter_sublist List.nodup_range)).mpr fun v => ?_
    rw [List.mem_filter, List.mem_range, upB_iff]
    exact ⟨fun h => ⟨(ups_lt F x hx v h).1, h⟩, fun h => h.2⟩
  rw [P.countP_eq, List.countP_filter]
  exact List.countP_congr fun v _ => by rw [Bool.and_comm]
theorem cost_sum (F : Fo n p r) : ∀ (l : List Nat), (∀ x ∈ l, x < n) → ∀ S, Closed n p S → ∀ q, (∀ v, v < n → q v = after n p S v) →
    (costs n l q).sum = (l.map (low p)).sum + (List.range n).countP (fun v => (deep p v && !S v) && markB n p l v)
  | [], _, S, C, q, hq => by
    have e : (List.range n).countP (fun v => (deep p v && !S v) && markB n p [] v) = 0 := List.countP_eq_zero.mpr fun v _ => by unfold markB; simp
    rw [e]; rfl
  | x :: l, h, S, C, q, hq => by
    have hx := h x List.mem_cons_self
    have G := after_fo F C
    show (ups q n x).length + (costs n l (fnd n q x)).sum = (low p x + (l.map (low p)).sum) + _
    rw [cost_sum F l (fun y hy => h y (List.mem_cons_of_mem _ hy)) (join S (upB p n x)) (closed_join F C hx) (fnd n q x) (fun u hu => (fnd_congr G.lt hq hx hu).trans (fnd_after F C hx hu))]
    rw [ups_congr G.lt hq n x hx, after_cost F C x hx, count_range F hx]
    have e := countP_split (fun v => (deep p v && !S v) && markB n p (x :: l) v) (upB p n x) (List.range n)
    rw [← e]
    have e1 : (List.range n).countP (fun v => ((deep p v && !S v) && markB n p (x :: l) v) && upB p n x v) = (List.range n).countP (fun v => upB p n x v && (deep p v && !S v)) := List.countP_congr fun v _ => by
      show (((deep p v && !S v) && (upB p n x v || markB n p l v)) && upB p n x v) = true ↔ (upB p n x v && (deep p v && !S v)) = true
      cases upB p n x v <;> cases deep p v <;> cases S v <;> simp
    have e2 : (List.range n).countP (fun v => ((deep p v && !S v) && markB n p (x :: l) v) && !upB p n x v) = (List.range n).countP (fun v => (deep p v && !join S (upB p n x) v) && markB n p l v) := List.countP_congr fun v _ => by
      show (((deep p v && !S v) && (upB p n x v || markB n p l v)) && !upB p n x v) = true ↔ ((deep p v && !(S v || upB p n x v)) && markB n p l v) = true
      cases upB p n x v <;> cases deep p v <;> cases S v <;> simp
    rw [e1, e2]
    omega
theorem cost_total (F : Fo n p r) (l : List Nat) (h : ∀ x ∈ l, x < n) : (costs n l p).sum = (l.map (low p)).sum + (List.range n).countP (fun v => deep p v && markB n p l v) := by
  rw [cost_sum F l h (fun _ => false) closed_no p (fun u _ => rfl)]
  congr 1
  exact List.countP_congr fun v _ => by simp
theorem mark_same {l m : List Nat} (h : ∀ x, x ∈ l ↔ x ∈ m) (v : Nat) : markB n p l v = markB n p m v := by
  unfold markB
  refine Bool.eq_iff_iff.mpr ?_
  rw [List.any_eq_true, List.any_eq_true]
  exact ⟨fun ⟨x, a, b⟩ => ⟨x, (h x).mp a, b⟩, fun ⟨x, a, b⟩ => ⟨x, (h x).mpr a, b⟩⟩
theorem behind_same (F : Fo n p r) {l m : List Nat} (hl : ∀ x ∈ l, x < n) (h : ∀ x, x ∈ l ↔ x ∈ m) (v : Nat) (hv : v < n) : fndAll n m p v = fndAll n l p v := by
  rw [behind_eq F m (fun x hx => hl x ((h x).mpr hx)) v hv, behind_eq F l hl v hv, mark_same h]
theorem cost_same (F : Fo n p r) {l m : List Nat} (hl : ∀ x ∈ l, x < n) (h : l.Perm m) : (costs n m p).sum = (costs n l p).sum := by
  rw [cost_total F m (fun x hx => hl x (h.mem_iff.mpr hx)), cost_total F l hl, (h.map (low p)).sum_nat]
  congr 1
  exact List.countP_congr fun v _ => by rw [mark_same (fun x => h.mem_iff) v]
end
end Ff
namespace Ff
theorem path_cons {p : Nat → Nat} {k x : Nat} (h : p x ≠ x) : path p (k + 1) x = x :: path p k (p x) := by
  unfold path
  rw [ups_step h, root_step h]
  rfl
theorem path_of {p : Nat → Nat} {k x : Nat} (h : p x = x) : path p k x = [x] := by
  unfold path
  rw [ups_of h, root_of h]
  rfl
theorem path_succ (p : Nat → Nat) : ∀ k x, path p (k + 1) x = if p (root p k x) = root p k x then path p k x else path p k x ++ [p (root p k x)]
  | 0, x => by
    by_cases h : p x = x
    · rw [path_of h, if_pos (show p (root p 0 x) = root p 0 x from h)]; rfl
    · rw [path_cons h, if_neg (show ¬ p (root p 0 x) = root p 0 x from h)]; rfl
  | k + 1, x => by
    by_cases h : p x = x
    · rw [path_of h, root_of h, if_pos h, path_of h]
    · rw [path_cons h, root_step h, path_succ p k (p x), path_cons h]
      split <;> rfl
theorem path_fixed {p : Nat → Nat} {i x : Nat} (h : p (root p i x) = root p i x) : ∀ j, path p (i + j) x = path p i x ∧ root p (i + j) x = root p i x
  | 0 => ⟨rfl, rfl⟩
  | j + 1 => by
    have ih := path_fixed h j
    have e : path p (i + (j + 1)) x = path p i x := by
      show path p ((i + j) + 1) x = _
      rw [path_succ, ih.2, if_pos h]
      exact ih.1
    refine ⟨e, ?_⟩
    unfold path at e
    have z := congrArg List.getLast? e
    rw [List.getLast?_append, List.getLast?_append] at z
    simpa using z
theorem root_lt0 {n : Nat} {p : Nat → Nat} (hl : ∀ x, x < n → p x < n) : ∀ k x, x < n → root p k x < n
  | 0, _, h => h
  | k + 1, x, h => by
    show (if p x = x then x else root p k (p x)) < n
    split
    · exact h
    · exact root_lt0 hl k (p x) (hl x h)
theorem ups_len0 (p : Nat → Nat) : ∀ k x, (ups p k x).length ≤ k
  | 0, _ => Nat.le_refl _
  | k + 1, x => by
    show (if p x = x then [] else x :: ups p k (p x)).length ≤ k + 1
    split
    · exact Nat.zero_le _
    · have := ups_len0 p k (p x)
      rw [List.length_cons]; omega
theorem path_len0 (p : Nat → Nat) (k x : Nat) : (path p k x).length ≤ k + 1 := by
  unfold path
  have := ups_len0 p k x
  rw [List.length_append, List.length_singleton]; omega
end Ff
namespace Ff
theorem root_succ (p : Nat → Nat) : ∀ k x, root p (k + 1) x = p (root p k x)
  | 0, x => by
    by_cases h : p x = x
    · rw [root_of h]; show x = p x; rw [h]
    · rw [root_step h]; rfl
  | k + 1, x => by
    by_cases h : p x = x
    · rw [root_of h, root_of h, h]
    · rw [root_step h, root_step h, root_succ p k (p x)]
theorem ups_succ (p : Nat → Nat) : ∀ k x, ups p (k + 1) x = if p (root p k x) = root p k x then ups p k x else ups p k x ++ [root p k x]
  | 0, x => by
    by_cases h : p x = x
    · rw [ups_of h, if_pos (show p (root p 0 x) = root p 0 x from h)]; rfl
    · rw [ups_step h, if_neg (show ¬ p (root p 0 x) = root p 0 x from h)]; rfl
  | k + 1, x => by
    by_cases h : p x = x
    · rw [ups_of h, root_of h, if_pos h, ups_of h]
    · rw [ups_step h, root_step h, ups_succ p k (p x), ups_step h]
      split <;> rfl
end Ff

/-! Ways between forests: changed nodes, needed nodes. -/
namespace Ff
def chg (p q : Nat → Nat) (v : Nat) : Bool := decide (p v ≠ q v)
/-- finds lead from p to q -/
def Way (n : Nat) (p q : Nat → Nat) : Prop := ∀ v, v < n → chg p q v = true → ∀ u ∈ ups p n v, q u = root p n u
def needB (n : Nat) (p q : Nat → Nat) (v : Nat) : Bool := chg p q v && !(List.range n).any fun u => chg p q u && (decide (v ≠ u) && (ups p n u).contains v)
def needS (n : Nat) (p q : Nat → Nat) : List Nat := (List.range n).filter (needB n p q)
theorem chg_iff {p q : Nat → Nat} {v : Nat} : chg p q v = true ↔ p v ≠ q v := by unfold chg; exact decide_eq_true_iff
theorem needB_iff {n : Nat} {p q : Nat → Nat} {v : Nat} : needB n p q v = true ↔ p v ≠ q v ∧ ∀ u, u < n → p u ≠ q u → v ≠ u → v ∉ ups p n u := by
  unfold needB
  rw [Bool.and_eq_true, chg_iff, Bool.not_eq_true']
  refine and_congr_right fun _ => ?_
  rw [List.any_eq_false]
  constructor
  · intro h u hu hc hn hm
    refine h u (List.mem_range.mpr hu) ?_
    rw [Bool.and_eq_true, Bool.and_eq_true, chg_iff]
    exact ⟨hc, decide_eq_true hn, List.contains_iff_mem.mpr hm⟩
  · intro h u hu z
    rw [Bool.and_eq_true, Bool.and_eq_true, chg_iff] at z
    exact h u (List.mem_range.mp hu) z.1 (of_decide_eq_true z.2.1) (List.contains_iff_mem.mp z.2.2)
theorem needS_mem {n : Nat} {p q : Nat → Nat} {v : Nat} : v ∈ needS n p q ↔ v < n ∧ needB n p q v = true := by
  unfold needS; rw [List.mem_filter, List.mem_range]
theorem needS_nodup (n : Nat) (p q : Nat → Nat) : (needS n p q).Nodup := List.Nodup.sublist List.filter_sublist List.nodup_range
theorem needS_len (n : Nat) (p q : Nat → Nat) : (needS n p q).length ≤ n := Nat.le_trans (List.length_filter_le _ _) (by rw [List.length_range]; exact Nat.le_refl _)
section
variable {n : Nat} {p r : Nat → Nat}
theorem ups_trans (F : Fo n p r) {u v : Nat} : ∀ x, x < n → u ∈ ups p n x → v ∈ ups p n u → v ∈ ups p n x :=
  F.ind (C := fun x => u ∈ ups p n x → v ∈ ups p n u → v ∈ ups p n x) (fun x hx h a _ => by rw [ups_of h] at a; cases a) (fun x hx h ih a b => by
    rw [ups_n F hx h] at a
    rcases List.mem_cons.mp a with e | e
    · subst e; exact b
    · rw [ups_n F hx h]; exact List.mem_cons_of_mem _ (ih e b))
theorem ups_rank (F : Fo n p r) {v x : Nat} (hx : x < n) (h : v ∈ ups p n x) (ne : v ≠ x) : r v < r x := by
  by_cases e : p x = x
  · rw [ups_of e] at h; cases h
  · rw [ups_n F hx e] at h
    rcases List.mem_cons.mp h with z | z
    · exact absurd z ne
    · have := (ups_lt F (p x) (F.lt x hx) v z).2.2.2
      have := (F.up x hx).resolve_left e
      omega
theorem mark_iff {l : List Nat} {v : Nat} : markB n p l v = true ↔ ∃ x ∈ l, v ∈ ups p n x := by
  unfold markB
  rw [List.any_eq_true]
  exact ⟨fun ⟨x, a, b⟩ => ⟨x, a, upB_iff.mp b⟩, fun ⟨x, a, b⟩ => ⟨x, a, upB_iff.mpr b⟩⟩
theorem mark_closed (F : Fo n p r) {l : List Nat} (h : ∀ x ∈ l, x < n) : Closed n p (markB n p l) := fun v hv hm => by
  obtain ⟨x, hx, m⟩ := mark_iff.mp hm
  refine ⟨(ups_lt F x (h x hx) v m).2.1, ?_⟩
  rcases ups_above F x (h x hx) v m with y | y
  · exact .inl y
  · exact .inr (mark_iff.mpr ⟨x, hx, y⟩)
/-- behind finds: what is changed was marked -/
theorem behind_chg (F : Fo n p r) {l : List Nat} (h : ∀ x ∈ l, x < n) {v : Nat} (hv : v < n) (hc : p v ≠ fndAll n l p v) : markB n p l v = true ∧ fndAll n l p v = root p n v ∧ p v ≠ root p n v := by
  have e := behind_eq F l h v hv
  by_cases m : markB n p l v = true
  · rw [if_pos m] at e
    exact ⟨m, e, by rw [← e]; exact hc⟩
  · rw [if_neg m] at e
    exact absurd e.symm hc
theorem way_behind (F : Fo n p r) {l : List Nat} (h : ∀ x ∈ l, x < n) : Way n p (fndAll n l p) := fun v hv hc u hu => by
  have m := (behind_chg F h hv (chg_iff.mp hc)).1
  have hun := (ups_lt F v hv u hu).1
  obtain ⟨x, hx, mx⟩ := mark_iff.mp m
  rw [behind_eq F l h u hun, if_pos (mark_iff.mpr ⟨x, hx, ups_trans F x (h x hx) mx hu⟩)]
/-- whoever is above another one is no child of the root's -/
theorem above_deep (F : Fo n p r) {x v : Nat} (hx : x < n) (h : v ∈ ups p n x) (ne : v ≠ x) : p x ≠ root p n x := by
  have hr : p x ≠ x := fun e => by rw [ups_of e] at h; cases h
  rw [ups_n F hx hr] at h
  rcases List.mem_cons.mp h with z | z
  · exact absurd z ne
  · intro e
    have f := root_fix F x hx
    rw [← e] at f
    rw [ups_of f] at z
    cases z
theorem need_found (F : Fo n p r) {l : List Nat} (h : ∀ x ∈ l, x < n) {v : Nat} (hv : v < n) (hn : needB n p (fndAll n l p) v = true) : v ∈ l := by
  obtain ⟨hc, ho⟩ := needB_iff.mp hn
  obtain ⟨m, _, _⟩ := behind_chg F h hv hc
  obtain ⟨x, hx, mx⟩ := mark_iff.mp m
  by_cases e : v = x
  · rw [e]; exact hx
  · have hxn := h x hx
    have hr : p x ≠ x := fun z => by rw [ups_of z] at mx; cases mx
    have bx : fndAll n l p x = root p n x := by rw [behind_eq F l h x hxn, if_pos (mark_iff.mpr ⟨x, hx, self_ups F hxn hr⟩)]
    exact absurd mx (ho x hxn (by rw [bx]; exact above_deep F hxn mx e) e)
/-- above a needed one, or needed -/
theorem need_below (F : Fo n p r) {q : Nat → Nat} (hq : ∀ v, v < n → p v = v → q v = v) : ∀ k v, n - r v ≤ k → v < n → p v ≠ q v → ∃ u, u < n ∧ needB n p q u = true ∧ v ∈ ups p n u := by
  intro k
  induction k with
  | zero => intro v hk hv _; have := F.rb v hv; omega
  | succ k ih =>
    intro v hk hv hc
    have nr : p v ≠ v := fun e => hc (by rw [hq v hv e]; exact e)
    cases hb : needB n p q v with
    | true => exact ⟨v, hv, hb, self_ups F hv nr⟩
    | false =>
      have z : ¬ (p v ≠ q v ∧ ∀ u, u < n → p u ≠ q u → v ≠ u → v ∉ ups p n u) := fun y => by rw [needB_iff.mpr y] at hb; cases hb
      have : ∃ u, u < n ∧ p u ≠ q u ∧ v ≠ u ∧ v ∈ ups p n u := by
        refine Classical.byContradiction fun y => z ⟨hc, fun u a b c d => y ⟨u, a, b, c, d⟩⟩
      obtain ⟨u, hu, cu, ne, mu⟩ := this
      have rk := ups_rank F hu mu ne
      obtain ⟨w, hw, nw, mw⟩ := ih u (by have := F.rb u hu; omega) hu cu
      exact ⟨w, hw, nw, ups_trans F w hw mw mu⟩
/-- a way: finds of the needed ones lead there -/
theorem need_leads (F : Fo n p r) {q : Nat → Nat} (hq : ∀ v, v < n → p v = v → q v = v) (W : Way n p q) (v : Nat) (hv : v < n) : fndAll n (needS n p q) p v = q v := by
  have hl : ∀ x ∈ needS n p q, x < n := fun x hx => (needS_mem.mp hx).1
  rw [behind_eq F _ hl v hv]
  by_cases m : markB n p (needS n p q) v = true
  · rw [if_pos m]
    obtain ⟨x, hx, mx⟩ := mark_iff.mp m
    have hb := needS_mem.mp hx
    exact (W x hb.1 (chg_iff.mpr (needB_iff.mp hb.2).1) v mx).symm
  · rw [if_neg m]
    refine Classical.byContradiction fun hc => ?_
    obtain ⟨u, hu, nu, mu⟩ := need_below F hq n v (by omega) hv hc
    exact m (mark_iff.mpr ⟨u, needS_mem.mpr ⟨hu, nu⟩, mu⟩)
theorem behind_root (F : Fo n p r) {l : List Nat} (h : ∀ x ∈ l, x < n) (v : Nat) (hv : v < n) (e : p v = v) : fndAll n l p v = v := by
  rw [behind_eq F l h v hv]
  split
  · exact root_of e n
  · exact e
theorem filter_single {f : Nat → Bool} {m : Nat} (hm : m < n) (h : ∀ v, v < n → (f v = true ↔ v = m)) : (List.range n).filter f = [m] := by
  have e : (List.range n).filter f = (List.range n).filter (fun v => v == m) := by
    refine List.filter_congr fun v hv => ?_
    have := h v (List.mem_range.mp hv)
    by_cases z : v = m
    · rw [this.mpr z, z]; simp
    · have y : f v = false := by
        cases hf : f v with
        | false => rfl
        | true => exact absurd (this.mp hf) z
      rw [y]; simp [z]
  rw [e]
  have c : (List.range n).filter (fun v => v == m) = List.replicate ((List.range n).count m) m := List.filter_beq _
  rw [c, (List.nodup_range (n := n)).count, if_pos (List.mem_range.mpr hm)]
  rfl
/-- all but one of the needed ones do not suffice -/
theorem rest_needs (F : Fo n p r) {q : Nat → Nat} (hq : ∀ v, v < n → p v = v → q v = v) (W : Way n p q) {rest : List Nat} {m : Nat} (hmn : m < n) (hm : needB n p q m = true)
    (hr : ∀ x ∈ rest, x ∈ needS n p q ∧ x ≠ m) (hall : ∀ x ∈ needS n p q, x = m ∨ x ∈ rest) :
    fndAll n rest p m ≠ q m ∧ Way n (fndAll n rest p) q ∧ needS n (fndAll n rest p) q = [m] := by
  have hl : ∀ x ∈ rest, x < n := fun x hx => (needS_mem.mp (hr x hx).1).1
  obtain ⟨cm, om⟩ := needB_iff.mp hm
  have C := mark_closed F hl
  have hS : ∀ v, v < n → fndAll n rest p v = after n p (markB n p rest) v := fun v hv => by rw [behind_eq F rest hl v hv]; rfl
  have G := after_fo F C
  have hm0 : markB n p rest m ≠ true := fun z => by
    obtain ⟨x, hx, mx⟩ := mark_iff.mp z
    have hb := needS_mem.mp (hr x hx).1
    exact om x hb.1 (needB_iff.mp hb.2).1 (fun e => (hr x hx).2 e.symm) mx
  have rm : fndAll n rest p m = p m := by rw [behind_eq F rest hl m hmn, if_neg hm0]
  have mchg : fndAll n rest p m ≠ q m := by rw [rm]; exact cm
  have uc : ∀ x, x < n → ups (fndAll n rest p) n x = ups (after n p (markB n p rest)) n x := fun x hx => ups_congr G.lt hS n x hx
  have rc : ∀ x, x < n → root (fndAll n rest p) n x = root p n x := fun x hx => (root_congr G.lt hS n x hx).trans (after_same_root F C x hx)
  -- what is still changed
  have still : ∀ v, v < n → fndAll n rest p v ≠ q v → markB n p rest v ≠ true ∧ p v ≠ q v ∧ v ∈ ups p n m := fun v hv hc => by
    have e := behind_eq F rest hl v hv
    by_cases mv : markB n p rest v = true
    · rw [if_pos mv] at e
      obtain ⟨x, hx, mx⟩ := mark_iff.mp mv
      have hb := needS_mem.mp (hr x hx).1
      exact absurd (e.trans (W x hb.1 (chg_iff.mpr (needB_iff.mp hb.2).1) v mx).symm) hc
    · rw [if_neg mv] at e
      have pc : p v ≠ q v := by rw [← e]; exact hc
      obtain ⟨u, hu, nu, mu⟩ := need_below F hq n v (by omega) hv pc
      rcases hall u (needS_mem.mpr ⟨hu, nu⟩) with z | z
      · exact ⟨mv, pc, z ▸ mu⟩
      · exact absurd (mark_iff.mpr ⟨u, z, mu⟩) mv
  refine ⟨mchg, fun v hv hc u hu => ?_, filter_single hmn fun v hv => ?_⟩
  · obtain ⟨_, pc, _⟩ := still v hv (chg_iff.mp hc)
    rw [uc v hv] at hu
    have hu' := (after_ups F C v hv).1 u hu
    rw [rc u (ups_lt F v hv u hu').1]
    exact W v hv (chg_iff.mpr pc) u hu'
  · rw [needB_iff]
    constructor
    · rintro ⟨hc, ho⟩
      refine Classical.byContradiction fun ne => ?_
      obtain ⟨mv, _, vm⟩ := still v hv hc
      refine ho m hmn mchg ne ?_
      rw [uc m hmn]
      exact ((after_ups F C m hmn).2 v vm).resolve_left mv
    · rintro rfl
      refine ⟨mchg, fun u hu hc ne hm2 => ?_⟩
      obtain ⟨_, _, um⟩ := still u hu hc
      rw [uc u hu] at hm2
      have a := ups_rank F hu ((after_ups F C u hu).1 v hm2) ne
      have b := ups_rank F hmn um (fun e => ne e.symm)
      omega
end
end Ff
namespace Ff
section
variable {n : Nat} {p r : Nat → Nat}
theorem fndAll_append (n : Nat) : ∀ (l m : List Nat) (p : Nat → Nat), fndAll n (l ++ m) p = fndAll n m (fndAll n l p)
  | [], _, _ => rfl
  | x :: l, m, p => fndAll_append n l m (fnd n p x)
theorem behind_same_root (F : Fo n p r) {l : List Nat} (h : ∀ x ∈ l, x < n) (v : Nat) (hv : v < n) : root (fndAll n l p) n v = root p n v := by
  have C := mark_closed F h
  have hS : ∀ v, v < n → fndAll n l p v = after n p (markB n p l) v := fun v hv => by rw [behind_eq F l h v hv]; rfl
  exact (root_congr (after_fo F C).lt hS n v hv).trans (after_same_root F C v hv)
theorem behind_ups (F : Fo n p r) {l : List Nat} (h : ∀ x ∈ l, x < n) {x v : Nat} (hx : x < n) (hv : v ∈ ups (fndAll n l p) n x) : v ∈ ups p n x := by
  have C := mark_closed F h
  have hS : ∀ v, v < n → fndAll n l p v = after n p (markB n p l) v := fun v hv => by rw [behind_eq F l h v hv]; rfl
  rw [ups_congr (after_fo F C).lt hS n x hx] at hv
  exact (after_ups F C x hx).1 v hv
/-- a node keeps its parent or hangs on its root -/
theorem behind_or (F : Fo n p r) {l : List Nat} (h : ∀ x ∈ l, x < n) (v : Nat) (hv : v < n) : fndAll n l p v = p v ∨ fndAll n l p v = root p n v := by
  rw [behind_eq F l h v hv]
  split
  · exact .inr rfl
  · exact .inl rfl
/-- what is needed over two ways is needed over one of them -/
theorem need_two (F : Fo n p r) {l m : List Nat} (hl : ∀ x ∈ l, x < n) (hm : ∀ x ∈ m, x < n) {v : Nat} (hv : v < n) (hn : needB n p (fndAll n m (fndAll n l p)) v = true) :
    needB n p (fndAll n l p) v = true ∨ needB n (fndAll n l p) (fndAll n m (fndAll n l p)) v = true := by
  have G : Fo n (fndAll n l p) r := fndAll_fo F l hl p F
  obtain ⟨hc, ho⟩ := needB_iff.mp hn
  -- once on the root, always on the root
  have stay : ∀ u, u < n → fndAll n l p u = root p n u → fndAll n m (fndAll n l p) u = root p n u := fun u hu e => by
    rcases behind_or G hm u hu with z | z
    · rw [z, e]
    · rw [z, behind_same_root F hl u hu]
  by_cases h1 : p v = fndAll n l p v
  · refine .inr (needB_iff.mpr ⟨by rw [← h1]; exact hc, fun u hu hcu ne hmu => ?_⟩)
    refine ho u hu ?_ ne (behind_ups F hl hu hmu)
    rcases behind_or F hl u hu with z | z
    · rw [← z]; exact hcu
    · exact absurd (z.trans (stay u hu z).symm) hcu
  · refine .inl (needB_iff.mpr ⟨h1, fun u hu hcu ne hmu => ?_⟩)
    refine ho u hu ?_ ne hmu
    have z := (behind_or F hl u hu).resolve_left (fun e => hcu e.symm)
    rw [stay u hu z, ← z]; exact hcu
theorem flat_fo (F : Fo n p r) : Fo n (fun v => root p n v) r where
  lt := root_lt F
  up := root_rank F
  rb := F.rb
theorem flat_way (F : Fo n p r) : Way n p (fun v => root p n v) := fun _ _ _ _ _ => rfl
theorem flat_roots (F : Fo n p r) (v : Nat) (hv : v < n) : p v = v ↔ root p n v = v :=
  ⟨fun e => root_of e n, fun e => Classical.byContradiction fun z => root_ne F hv z e⟩
theorem flat_ups (F : Fo n p r) (v : Nat) (hv : v < n) : (ups (fun v => root p n v) n v).length ≤ 1 := by
  by_cases e : root p n v = v
  · rw [ups_of (p := fun v => root p n v) e]; exact Nat.zero_le _
  · rw [ups_n (flat_fo F) hv e]
    have f : root p n (root p n v) = root p n v := root_of (root_fix F v hv) n
    rw [ups_of (p := fun v => root p n v) f]
    exact Nat.le_refl _
theorem deep_chg (F : Fo n p r) (v : Nat) (hv : v < n) : decide (2 ≤ (ups p n v).length) = chg p (fun v => root p n v) v := by
  unfold chg
  refine decide_eq_decide.mpr ?_
  show 2 ≤ (ups p n v).length ↔ p v ≠ root p n v
  by_cases e : p v = v
  · rw [ups_of e, root_of e]; simp [e]
  · rw [ups_n F hv e, root_n F hv e, List.length_cons]
    constructor
    · intro h z
      rw [ups_of (by rw [z]; exact root_fix F (p v) (F.lt v hv))] at h
      simp at h
    · intro h
      have e2 : p (p v) ≠ p v := fun z => h (root_of z n).symm
      rw [ups_n F (F.lt v hv) e2, List.length_cons]; omega
/-- no way back -/
theorem no_way_back (F : Fo n p r) {l : List Nat} (hl : ∀ x ∈ l, x < n) : Way n (fndAll n l p) p ↔ ∀ v, v < n → p v = fndAll n l p v := by
  have G : Fo n (fndAll n l p) r := fndAll_fo F l hl p F
  constructor
  · intro W v hv
    refine Classical.byContradiction fun hc => ?_
    have z := (behind_or F hl v hv).resolve_left (fun e => hc e.symm)
    have nr : fndAll n l p v ≠ v := by
      intro e
      rw [z] at e
      have pr : p v = v := by
        have y := root_fix F v hv
        rw [e] at y; exact y
      exact hc (by rw [z, e, pr])
    have := W v hv (chg_iff.mpr fun e => hc e.symm) v (self_ups G hv nr)
    rw [behind_same_root F hl v hv, ← z] at this
    exact hc this
  · intro h v hv hc
    exact absurd (h v hv).symm (chg_iff.mp hc)
end
end Ff

/-! Forests by any falling measure; a parent exchanged. -/
namespace Ff
section
variable {n : Nat} {p ρ : Nat → Nat}
theorem bounded (ρ : Nat → Nat) : ∀ n, ∃ M, ∀ v, v < n → ρ v ≤ M
  | 0 => ⟨0, fun v h => by omega⟩
  | n + 1 => by
    obtain ⟨M, h⟩ := bounded ρ n
    refine ⟨M + ρ n, fun v hv => ?_⟩
    by_cases e : v = n
    · rw [e]; omega
    · have := h v (by omega); omega
theorem upsW (hl : ∀ x, x < n → p x < n) (hu : ∀ x, x < n → p x = x ∨ ρ (p x) < ρ x) : ∀ (k x : Nat), x < n → ρ x ≤ k → ups p (k + 1) x = ups p k x
  | k, x, hx, hr => by
    by_cases h : p x = x
    · rw [ups_of h, ups_of h]
    · have u := (hu x hx).resolve_left h
      cases k with
      | zero => omega
      | succ k => rw [ups_step h, ups_step h]; rw [upsW hl hu k (p x) (hl x hx) (by omega)]
theorem ups_memW (hl : ∀ x, x < n → p x < n) (hu : ∀ x, x < n → p x = x ∨ ρ (p x) < ρ x) : ∀ (k x : Nat), x < n → ∀ v ∈ ups p k x, v < n ∧ p v ≠ v ∧ ρ v ≤ ρ x
  | 0, x, hx, v, hv => by cases hv
  | k + 1, x, hx, v, hv => by
    by_cases h : p x = x
    · rw [ups_of h] at hv; cases hv
    · have u := (hu x hx).resolve_left h
      rw [ups_step h] at hv
      rcases List.mem_cons.mp hv with e | e
      · subst e; exact ⟨hx, h, Nat.le_refl _⟩
      · have z := ups_memW hl hu k (p x) (hl x hx) v e
        exact ⟨z.1, z.2.1, by omega⟩
theorem ups_nodupW (hl : ∀ x, x < n → p x < n) (hu : ∀ x, x < n → p x = x ∨ ρ (p x) < ρ x) : ∀ (k x : Nat), x < n → (ups p k x).Nodup
  | 0, x, hx => List.nodup_nil
  | k + 1, x, hx => by
    by_cases h : p x = x
    · rw [ups_of h]; exact List.nodup_nil
    · have u := (hu x hx).resolve_left h
      rw [ups_step h]
      refine List.nodup_cons.mpr ⟨fun hm => ?_, ups_nodupW hl hu k (p x) (hl x hx)⟩
      have := (ups_memW hl hu k (p x) (hl x hx) x hm).2.2
      omega
theorem nodup_len {l : List Nat} (nd : l.Nodup) (h : ∀ v ∈ l, v < n) {w : Nat} (hw : w < n) (ho : w ∉ l) : l.length < n := by
  have P : (w :: l).Perm ((List.range n).filter fun v => (w :: l).contains v) := by
    refine (List.perm_ext_iff_of_nodup (List.nodup_cons.mpr ⟨ho, nd⟩) (List.Nodup.sublist List.filter_sublist List.nodup_range)).mpr fun v => ?_
    rw [List.mem_filter, List.mem_range, List.contains_iff_mem]
    refine ⟨fun z => ⟨?_, z⟩, fun z => z.2⟩
    rcases List.mem_cons.mp z with y | y
    · rw [y]; exact hw
    · exact h v y
  have e := P.length_eq
  rw [List.length_cons] at e
  have := List.length_filter_le (fun v => (w :: l).contains v) (List.range n)
  rw [List.length_range] at this
  omega
/-- any falling measure makes a forest -/
theorem fo_of_weak (hl : ∀ x, x < n → p x < n) (hu : ∀ x, x < n → p x = x ∨ ρ (p x) < ρ x) : ∃ r, Fo n p r := by
  obtain ⟨M, hM⟩ := bounded ρ n
  have st : ∀ x, x < n → p x ≠ x → ups p M x = x :: ups p M (p x) := fun x hx h => by
    rw [← upsW hl hu M x hx (hM x hx), ups_step h]
  refine ⟨fun v => (ups p M v).length, hl, fun x hx => ?_, fun x hx => ?_⟩
  · by_cases h : p x = x
    · exact .inl h
    · refine .inr ?_
      show (ups p M (p x)).length < (ups p M x).length
      rw [st x hx h, List.length_cons]; omega
  · -- some root is not on the way
    have : ∀ k x, x < n → ρ x ≤ k → p (root p k x) = root p k x ∧ root p k x < n := by
      intro k
      induction k with
      | zero =>
        intro x hx hr
        rcases hu x hx with z | z
        · exact ⟨z, hx⟩
        · omega
      | succ k ih =>
        intro x hx hr
        by_cases h : p x = x
        · rw [root_of h]; exact ⟨h, hx⟩
        · rw [root_step h]
          exact ih (p x) (hl x hx) (by have := (hu x hx).resolve_left h; omega)
    obtain ⟨h1, h2⟩ := this M x hx (hM x hx)
    exact nodup_len (ups_nodupW hl hu M x hx) (fun v hv => (ups_memW hl hu M x hx v hv).1) h2 (fun hm => (ups_memW hl hu M x hx _ hm).2.1 h1)
end
/-- a node hung on one that is not below it -/
theorem exchange_fo {n : Nat} {p r : Nat → Nat} (F : Fo n p r) {a b : Nat} (ha : a < n) (hb : b < n) (hr : p a ≠ a) (hn : a ∉ path p n b) : ∃ r', Fo n (fun v => if v = a then b else p v) r' := by
  -- below a, and a itself, go beyond b
  let low : Nat → Bool := fun v => decide (a ∈ path p n v)
  have lowa : low a = true := decide_eq_true (by unfold path; exact List.mem_append_left _ (self_ups F ha hr))
  have lowb : low b = false := decide_eq_false hn
  have pathn : ∀ v, v < n → p v ≠ v → path p n v = v :: path p n (p v) := fun v hv h => by
    unfold path; rw [ups_n F hv h, root_n F hv h]; rfl
  have step : ∀ v, v < n → v ≠ a → p v ≠ v → low (p v) = low v := fun v hv ne h => by
    show decide (a ∈ path p n (p v)) = decide (a ∈ path p n v)
    rw [pathn v hv h]
    refine decide_eq_decide.mpr ⟨fun z => List.mem_cons_of_mem _ z, fun z => ?_⟩
    rcases List.mem_cons.mp z with y | y
    · exact absurd y.symm ne
    · exact y
  refine fo_of_weak (ρ := fun v => if low v = true then r v + n else r v) (fun x hx => ?_) (fun x hx => ?_)
  · show (if x = a then b else p x) < n
    split
    · exact hb
    · exact F.lt x hx
  · by_cases e : x = a
    · subst e
      refine .inr ?_
      show (if low (if x = x then b else p x) = true then r (if x = x then b else p x) + n else r (if x = x then b else p x)) < (if low x = true then r x + n else r x)
      rw [if_pos rfl, lowb, lowa, if_pos rfl, if_neg (by decide)]
      have := F.rb b hb
      omega
    · show (if x = a then b else p x) = x ∨ (if low (if x = a then b else p x) = true then r (if x = a then b else p x) + n else r (if x = a then b else p x)) < (if low x = true then r x + n else r x)
      rw [if_neg e]
      by_cases h : p x = x
      · exact .inl h
      · have u := (F.up x hx).resolve_left h
        refine .inr ?_
        rw [step x hx e h]
        cases low x <;> simp <;> omega
theorem exchange_root {n : Nat} {p : Nat → Nat} {a b : Nat} (hr : p a ≠ a) (ne : b ≠ a) (v : Nat) : (if v = a then b else p v) = v ↔ p v = v := by
  by_cases e : v = a
  · subst e
    rw [if_pos rfl]
    exact ⟨fun z => absurd z ne, fun z => absurd z hr⟩
  · rw [if_neg e]
end Ff

/-! Falling products and choices. -/
namespace Ff
def fallN (s : Int) : Nat → Int
  | 0 => 1
  | k + 1 => fallN s k * (if s - (k : Int) > 0 then s - (k : Int) else 0)
def fall (s c : Int) : Int := if c < 0 then 0 else fallN s c.toNat
def binom (s c : Int) : Int := if c < 0 then 0 else fall s c / fall c c
def choose : Nat → Nat → Nat
  | _, 0 => 1
  | 0, _ + 1 => 0
  | n + 1, k + 1 => choose n k + choose n (k + 1)
def fact : Nat → Nat
  | 0 => 1
  | k + 1 => (k + 1) * fact k
theorem fact_pos : ∀ k, 0 < fact k
  | 0 => Nat.one_pos
  | k + 1 => Nat.mul_pos (Nat.succ_pos k) (fact_pos k)
theorem choose_zero (n : Nat) : choose n 0 = 1 := by cases n <;> rfl
/-- (n + 1 choose k + 1) (k + 1) = (n + 1) (n choose k) -/
theorem choose_succ : ∀ n k, choose (n + 1) (k + 1) * (k + 1) = (n + 1) * choose n k
  | 0, 0 => rfl
  | 0, k + 1 => by show (0 + 0) * (k + 1 + 1) = (0 + 1) * 0; simp
  | n + 1, 0 => by
    have h := choose_succ n 0
    rw [choose_zero] at h
    rw [choose_zero]
    show (choose (n + 1) 0 + choose (n + 1) (0 + 1)) * (0 + 1) = (n + 1 + 1) * 1
    rw [choose_zero]
    omega
  | n + 1, k + 1 => by
    have h1 := choose_succ n k
    have h2 := choose_succ n (k + 1)
    show (choose (n + 1) (k + 1) + choose (n + 1) (k + 1 + 1)) * (k + 1 + 1) = (n + 1 + 1) * choose (n + 1) (k + 1)
    have e : choose (n + 1) (k + 1) = choose n k + choose n (k + 1) := rfl
    have e1 : choose (n + 1) (k + 1) * (k + 1 + 1) = (n + 1) * choose n k + choose (n + 1) (k + 1) := by rw [Nat.mul_add, Nat.mul_one, h1]
    have e2 : (n + 1 + 1) * choose (n + 1) (k + 1) = ((n + 1) * choose n k + (n + 1) * choose n (k + 1)) + choose (n + 1) (k + 1) := by rw [Nat.add_mul, Nat.one_mul, e, Nat.mul_add]
    rw [Nat.add_mul, h2, e1, e2]
    generalize (n + 1) * choose n k = x
    generalize (n + 1) * choose n (k + 1) = y
    omega
theorem fall_rec (n : Nat) : ∀ k : Nat, fallN ((n + 1 : Nat) : Int) (k + 1) = ((n + 1 : Nat) : Int) * fallN (n : Int) k
  | 0 => by
    show 1 * (if ((n + 1 : Nat) : Int) - ((0 : Nat) : Int) > 0 then ((n + 1 : Nat) : Int) - ((0 : Nat) : Int) else 0) = ((n + 1 : Nat) : Int) * 1
    rw [if_pos (by omega)]; omega
  | k + 1 => by
    show fallN ((n + 1 : Nat) : Int) (k + 1) * (if ((n + 1 : Nat) : Int) - ((k + 1 : Nat) : Int) > 0 then ((n + 1 : Nat) : Int) - ((k + 1 : Nat) : Int) else 0) = ((n + 1 : Nat) : Int) * (fallN (n : Int) k * (if (n : Int) - (k : Int) > 0 then (n : Int) - (k : Int) else 0))
    rw [fall_rec n k, Int.mul_assoc]
    congr 2
    rw [show ((n + 1 : Nat) : Int) - ((k + 1 : Nat) : Int) = (n : Int) - (k : Int) by omega]
theorem fall_choose : ∀ k n : Nat, fallN (n : Int) k = ((choose n k * fact k : Nat) : Int)
  | 0, n => by show (1 : Int) = ((choose n 0 * fact 0 : Nat) : Int); cases n <;> rfl
  | k + 1, 0 => by
    show fallN 0 k * (if ((0 : Nat) : Int) - (k : Int) > 0 then ((0 : Nat) : Int) - (k : Int) else 0) = ((0 * fact (k + 1) : Nat) : Int)
    rw [if_neg (by omega), Int.mul_zero, Nat.zero_mul]; rfl
  | k + 1, n + 1 => by
    rw [fall_rec, fall_choose k n]
    have h := choose_succ n k
    show ((n + 1 : Nat) : Int) * ((choose n k * fact k : Nat) : Int) = ((choose (n + 1) (k + 1) * ((k + 1) * fact k) : Nat) : Int)
    rw [← Int.natCast_mul, ← Nat.mul_assoc, ← Nat.mul_assoc, h]
theorem choose_self : ∀ n, choose n n = 1 ∧ ∀ k, n < k → choose n k = 0
  | 0 => ⟨rfl, fun k h => by cases k with | zero => omega | succ k => rfl⟩
  | n + 1 => by
    have ih := choose_self n
    refine ⟨?_, fun k h => ?_⟩
    · show choose n n + choose n (n + 1) = 1
      rw [ih.1, ih.2 (n + 1) (by omega)]
    · cases k with
      | zero => omega
      | succ k => show choose n k + choose n (k + 1) = 0; rw [ih.2 k (by omega), ih.2 (k + 1) (by omega)]
theorem binom_nat (n k : Nat) : binom (n : Int) (k : Int) = (choose n k : Int) := by
  unfold binom fall
  rw [if_neg (by omega), if_neg (by omega), if_neg (by omega), Int.toNat_natCast, fall_choose, fall_choose, (choose_self k).1, Nat.one_mul, Int.natCast_mul]
  exact Int.mul_ediv_cancel _ (by have := fact_pos k; omega)
/-- sums of neighbours -/
theorem pascal (s c : Int) (h : 0 < s) : binom s c = binom (s - 1) (c - 1) + binom (s - 1) c := by
  obtain ⟨n, rfl⟩ : ∃ n : Nat, s = ((n + 1 : Nat) : Int) := ⟨(s - 1).toNat, by omega⟩
  rw [show ((n + 1 : Nat) : Int) - 1 = (n : Int) by omega]
  by_cases hc : c < 0
  · unfold binom
    rw [if_pos hc, if_pos (by omega), if_pos hc]; rfl
  · by_cases h0 : c = 0
    · subst h0
      have e1 := binom_nat (n + 1) 0
      have e2 := binom_nat n 0
      have e3 : binom (n : Int) (0 - 1) = 0 := by unfold binom; rw [if_pos (by omega)]
      rw [e3]
      rw [choose_zero] at e1 e2
      show binom ((n + 1 : Nat) : Int) ((0 : Nat) : Int) = 0 + binom (n : Int) ((0 : Nat) : Int)
      rw [e1, e2]; rfl
    · obtain ⟨k, rfl⟩ : ∃ k : Nat, c = ((k + 1 : Nat) : Int) := ⟨(c - 1).toNat, by omega⟩
      rw [show ((k + 1 : Nat) : Int) - 1 = (k : Int) by omega, binom_nat, binom_nat, binom_nat]
      show ((choose n k + choose n (k + 1) : Nat) : Int) = _
      omega
end Ff

namespace Ff
theorem nodup_le : ∀ (m : Nat) (l : List Nat), l.Nodup → (∀ x ∈ l, x < m) → l.length ≤ m
  | 0, l, _, h => by
    cases l with
    | nil => exact Nat.le_refl _
    | cons a r => exact absurd (h a List.mem_cons_self) (by omega)
  | m + 1, l, hn, h => by
    have ih := nodup_le m (l.erase m) (hn.erase m) fun x hx => by
      have z := (hn.mem_erase_iff (a := x) (b := m)).mp hx
      have := h x z.2
      omega
    have e := List.length_erase (a := m) (l := l)
    split at e <;> omega
/-- the root c hung on a -/
def lnk (p : Nat → Nat) (c a : Nat) : Nat → Nat := fun v => if v = c then a else p v
section
variable {n : Nat} {p r : Nat → Nat}
def lnkR (n : Nat) (p : Nat → Nat) (c : Nat) : Nat → Nat := fun x => (ups p n x).length + if root p n x = c then 1 else 0
theorem lnk_fo (F : Fo n p r) {c a : Nat} (hc : c < n) (ha : a < n) (pc : p c = c) (pa : p a = a) (ne : c ≠ a) : Fo n (lnk p c a) (lnkR n p c) where
  lt := fun x hx => by
    unfold lnk
    split
    · exact ha
    · exact F.lt x hx
  up := fun x hx => by
    unfold lnk
    by_cases e : x = c
    · rw [if_pos e]
      right
      unfold lnkR
      rw [e, ups_of pa, ups_of pc, root_of pa, root_of pc, if_neg (Ne.symm ne), if_pos rfl]
      decide
    · rw [if_neg e]
      by_cases h : p x = x
      · exact .inl h
      · right
        unfold lnkR
        rw [ups_n F hx h, root_n F hx h, List.length_cons]
        omega
  rb := fun x hx => by
    unfold lnkR
    have h1 := ups_lt F x hx
    have h2 := ups_nodup F x hx
    by_cases e : root p n x = c
    · rw [if_pos e]
      have h := nodup_le n (ups p n x ++ [c, a]) (by
        refine List.nodup_append.mpr ⟨h2, by simp [ne], fun y hy z hz e2 => ?_⟩
        have := (h1 y hy).2.1
        rw [e2] at this
        rcases List.mem_cons.mp hz with z1 | z1
        · rw [z1] at this; exact this pc
        · rw [List.mem_singleton.mp z1] at this; exact this pa) fun y hy => by
        rcases List.mem_append.mp hy with z | z
        · exact (h1 y z).1
        · rcases List.mem_cons.mp z with z1 | z1
          · rw [z1]; exact hc
          · rw [List.mem_singleton.mp z1]; exact ha
      rw [List.length_append] at h
      simp at h
      omega
    · rw [if_neg e]
      have := ups_len F x hx
      have := F.rb x hx
      omega
theorem lnk_root (F : Fo n p r) {c a : Nat} (hc : c < n) (ha : a < n) (pc : p c = c) (pa : p a = a) (ne : c ≠ a) : ∀ x, x < n → root (lnk p c a) n x = if root p n x = c then a else root p n x := by
  have F2 := lnk_fo F hc ha pc pa ne
  have qa : lnk p c a a = a := by unfold lnk; rw [if_neg (Ne.symm ne)]; exact pa
  refine F.ind (fun x hx h => ?_) (fun x hx h ih => ?_)
  · rw [root_of h]
    by_cases e : x = c
    · have qx : lnk p c a x = a := by unfold lnk; rw [if_pos e]
      rw [if_pos e, root_n F2 hx (by rw [qx, e]; exact Ne.symm ne), qx, root_of qa]
    · rw [if_neg e]
      exact root_of (by unfold lnk; rw [if_neg e]; exact h) n
  · have e : x ≠ c := fun z => h (by rw [z]; exact pc)
    have qx : lnk p c a x = p x := by unfold lnk; rw [if_neg e]
    rw [root_n F2 hx (by rw [qx]; exact h), qx, ih, root_n F hx h]
end
/-- which error a root asks for -/
def chkE (n : Nat) (p : Nat → Nat) (x : Int) : Option Bool := if 0 ≤ x ∧ x < (n : Int) then (if p x.toNat = x.toNat then none else some true) else some false
end Ff

namespace Ff
/-- the first of a filter -/
theorem filt_first {n i : Nat} {g : Nat → Bool} (hi : i < n) (h0 : ∀ v, v < i → g v = false) (h1 : g i = true) : ∃ rest, (List.range n).filter g = i :: rest := by
  obtain ⟨k, rfl⟩ : ∃ k, n = i + 1 + k := ⟨n - (i + 1), by omega⟩
  have e : (List.range (i + 1 + k)).filter g = (List.range (i + 1)).filter g ++ ((List.range k).map (i + 1 + ·)).filter g := by
    rw [List.range_add, List.filter_append]
  have e2 : (List.range (i + 1)).filter g = [i] := by
    rw [List.range_succ, List.filter_append]
    have : (List.range i).filter g = [] := List.filter_eq_nil_iff.mpr fun v hv => by rw [h0 v (List.mem_range.mp hv)]; simp
    rw [this]
    simp [List.filter, h1]
  rw [e, e2]
  exact ⟨_, rfl⟩
theorem filt_none {n : Nat} {g : Nat → Bool} (h : ∀ v, v < n → g v = false) : (List.range n).filter g = [] := List.filter_eq_nil_iff.mpr fun v hv => by rw [h v (List.mem_range.mp hv)]; simp
section
variable {n : Nat} {p : Nat → Nat}
def fixB (p : Nat → Nat) (y : Nat) : Bool := decide (p y = y)
theorem root_stay {k x : Nat} (h : p (root p k x) = root p k x) : ∀ j, root p (k + j) x = root p k x
  | 0 => rfl
  | j + 1 => by rw [Nat.add_succ, root_succ, root_stay h j]; exact h
theorem root_add (x : Nat) (i : Nat) : ∀ j, root p (i + j) x = root p j (root p i x)
  | 0 => rfl
  | j + 1 => by rw [Nat.add_succ, root_succ, root_succ, root_add x i j]
/-- what is fixed after n steps is fixed before -/
theorem fix_before (hl : ∀ v, v < n → p v < n) {x : Nat} (hx : x < n) (h : p (root p n x) = root p n x) : ∃ j, j < n ∧ p (root p j x) = root p j x := by
  -- two of n + 1 places are one node
  have pig : ∃ i j, i < j ∧ j ≤ n ∧ root p i x = root p j x := by
    refine Classical.byContradiction fun no => ?_
    have nd : ((List.range (n + 1)).map fun k => root p k x).Nodup := by
      unfold List.Nodup
      rw [List.pairwise_map]
      refine List.Pairwise.imp_of_mem (fun {a b} ha hb lt e => no ⟨a, b, lt, by have := List.mem_range.mp hb; omega, e⟩) (List.pairwise_lt_range)
    have := nodup_le n _ nd fun y hy => by
      obtain ⟨k, _, rfl⟩ := List.mem_map.mp hy
      exact root_lt0 hl k x hx
    rw [List.length_map, List.length_range] at this
    omega
  obtain ⟨i, j, hij, hj, e⟩ := pig
  refine ⟨i, by omega, ?_⟩
  have per : ∀ t, root p (i + t * (j - i)) x = root p i x := fun t => by
    induction t with
    | zero => simp
    | succ t ih =>
      have e1 : i + (t + 1) * (j - i) = (i + t * (j - i)) + (j - i) := by rw [Nat.succ_mul]; omega
      rw [e1, root_add, ih, ← root_add, show i + (j - i) = j by omega, e]
  have big : n ≤ i + n * (j - i) := by
    have : n * 1 ≤ n * (j - i) := Nat.mul_le_mul_left n (by omega)
    omega
  obtain ⟨m, hm⟩ : ∃ m, i + n * (j - i) = n + m := ⟨i + n * (j - i) - n, by omega⟩
  have z := per n
  rw [hm, root_stay h m] at z
  rw [← z]; exact h
end
/-- a row of integers as parents -/
def par (xs : List Int) : Nat → Nat := fun v => (xs.getD v 0).toNat
def wideB (xs : List Int) (v : Nat) : Bool := !(decide (0 ≤ xs.getD v 0) && decide (xs.getD v 0 < (xs.length : Int)))
def wideL (xs : List Int) : List Nat := (List.range xs.length).filter (wideB xs)
def ringB (n : Nat) (p : Nat → Nat) (v : Nat) : Bool := !decide (p (root p n v) = root p n v)
def ringsL (xs : List Int) : List Nat := (List.range xs.length).filter (ringB xs.length (par xs))
/-- 0: none; 1: TooManyNodes; 2: BadParent; 3: Cycle -/
inductive Ver
  | ok
  | many
  | bad (v : Nat)
  | cyc (v : Nat)
def verdict (xs : List Int) : Ver := if 40 < xs.length then .many else match wideL xs with
  | v :: _ => .bad v
  | [] => match ringsL xs with
    | v :: _ => .cyc v
    | [] => .ok
theorem wide_iff {xs : List Int} {v : Nat} : wideB xs v = false ↔ 0 ≤ xs.getD v 0 ∧ xs.getD v 0 < (xs.length : Int) := by
  unfold wideB
  rw [Bool.not_eq_false', Bool.and_eq_true, decide_eq_true_iff, decide_eq_true_iff]
theorem par_lt {xs : List Int} (h : ∀ v, v < xs.length → wideB xs v = false) : ∀ v, v < xs.length → par xs v < xs.length := fun v hv => by
  have := wide_iff.mp (h v hv)
  unfold par
  omega
end Ff

/-! The search through all forests that finds can reach, level by level. -/
namespace Ff
theorem sub_lenB {α : Type} [DecidableEq α] : ∀ {l m : List α}, l.Nodup → (∀ x ∈ l, x ∈ m) → l.length ≤ m.length
  | [], m, _, _ => Nat.zero_le _
  | x :: l, m, h, hs => by
    rw [List.nodup_cons] at h
    have hx := hs x List.mem_cons_self
    have := sub_lenB (m := m.erase x) h.2 fun y hy => (List.mem_erase_of_ne (fun e => h.1 (by rw [← e]; exact hy))).mpr (hs y (List.mem_cons_of_mem _ hy))
    rw [List.length_erase_of_mem hx] at this
    have hp : 0 < m.length := List.length_pos_of_mem hx
    rw [List.length_cons]
    omega
def Rch (n : Nat) (p q : Nat → Nat) : Prop := ∃ l : List Nat, (∀ x ∈ l, x < n) ∧ ∀ v, v < n → fndAll n l p v = q v
def lvl (n : Nat) (p q : Nat → Nat) : Nat := (needS n p q).length
section
variable {n : Nat} {p r : Nat → Nat}
theorem needB_congr {q q' : Nat → Nat} (h : ∀ v, v < n → q v = q' v) {v : Nat} (hv : v < n) : needB n p q v = needB n p q' v := by
  rw [Bool.eq_iff_iff, needB_iff, needB_iff, h v hv]
  exact and_congr_right fun _ => ⟨fun k u hu hc => k u hu (by rw [h u hu]; exact hc), fun k u hu hc => k u hu (by rw [← h u hu]; exact hc)⟩
theorem needS_congr {q q' : Nat → Nat} (h : ∀ v, v < n → q v = q' v) : needS n p q = needS n p q' :=
  List.filter_congr fun v hv => needB_congr h (List.mem_range.mp hv)
theorem lvl_congr {q q' : Nat → Nat} (h : ∀ v, v < n → q v = q' v) : lvl n p q = lvl n p q' := by unfold lvl; rw [needS_congr h]
theorem Rch.congr {q q' : Nat → Nat} (R : Rch n p q) (h : ∀ v, v < n → q v = q' v) : Rch n p q' := by
  obtain ⟨l, hl, e⟩ := R
  exact ⟨l, hl, fun v hv => (e v hv).trans (h v hv)⟩
theorem needS_lt {q : Nat → Nat} : ∀ x ∈ needS n p q, x < n := fun x hx => (needS_mem.mp hx).1
theorem rch_lead (F : Fo n p r) {q : Nat → Nat} (R : Rch n p q) : ∀ v, v < n → fndAll n (needS n p q) p v = q v := fun v hv => by
  obtain ⟨l, hl, e⟩ := R
  rw [← needS_congr e, ← e v hv]
  exact need_leads F (behind_root F hl) (way_behind F hl) v hv
theorem need_sub (F : Fo n p r) {q : Nat → Nat} {l : List Nat} (hl : ∀ x ∈ l, x < n) (e : ∀ v, v < n → fndAll n l p v = q v) : ∀ v ∈ needS n p q, v ∈ l := fun v hv => by
  rw [← needS_congr e] at hv
  obtain ⟨h1, h2⟩ := needS_mem.mp hv
  exact need_found F hl h1 h2
theorem rch_fo (F : Fo n p r) {q : Nat → Nat} {l : List Nat} (hl : ∀ x ∈ l, x < n) : Fo n (fndAll n l p) r := fndAll_fo F l hl p F
theorem fnd_congrW (F : Fo n p r) {q q' : Nat → Nat} {x : Nat} (G : Fo n q r) (G' : Fo n q' r) (h : ∀ v, v < n → q v = q' v) (hx : x < n) : ∀ v, v < n → fnd n q x v = fnd n q' x v := fun v hv => by
  have up : ∀ k y, y < n → ups q k y = ups q' k y ∧ root q k y = root q' k y := by
    intro k
    induction k with
    | zero => intro y _; exact ⟨rfl, rfl⟩
    | succ k ih =>
      intro y hy
      by_cases z : q y = y
      · rw [ups_of z, ups_of (by rw [← h y hy]; exact z), root_of z, root_of (by rw [← h y hy]; exact z)]
        exact ⟨rfl, rfl⟩
      · have z' : q' y ≠ y := by rw [← h y hy]; exact z
        rw [ups_step z, ups_step z', root_step z, root_step z', h y hy, (ih _ (G'.lt y hy)).1, (ih _ (G'.lt y hy)).2]
        exact ⟨rfl, rfl⟩
  unfold fnd path
  rw [(up n x hx).1, (up n x hx).2, h v hv]
/-- one find more -/
theorem Rch.step (F : Fo n p r) {l : List Nat} (hl : ∀ x ∈ l, x < n) {x : Nat} (hx : x < n) : Rch n p (fnd n (fndAll n l p) x) :=
  ⟨l ++ [x], fun y hy => by
    rcases List.mem_append.mp hy with h | h
    · exact hl y h
    · rw [List.mem_singleton.mp h]; exact hx, fun v _ => by rw [fndAll_snoc]⟩
theorem lvl_step (F : Fo n p r) {l : List Nat} (hl : ∀ x ∈ l, x < n) {x : Nat} (hx : x < n) : lvl n p (fnd n (fndAll n l p) x) ≤ lvl n p (fndAll n l p) + 1 := by
  have G := fndAll_fo F l hl p F
  have R : Rch n p (fndAll n l p) := ⟨l, hl, fun _ _ => rfl⟩
  have e : ∀ v, v < n → fndAll n (needS n p (fndAll n l p) ++ [x]) p v = fnd n (fndAll n l p) x v := fun v hv => by
    rw [fndAll_snoc]
    exact fnd_congrW F (fndAll_fo F _ needS_lt p F) G (rch_lead F R) hx v hv
  have := sub_lenB (needS_nodup n p (fnd n (fndAll n l p) x)) (need_sub F (fun y hy => by
    rcases List.mem_append.mp hy with h | h
    · exact needS_lt y h
    · rw [List.mem_singleton.mp h]; exact hx) e)
  rw [List.length_append] at this
  exact this
/-- the last find of a shortest way is a needed one, and what stands before it is known -/
theorem last_find (F : Fo n p r) {l : List Nat} (hl : ∀ x ∈ l, x < n) {x : Nat} (hx : x < n) {g : Nat → Nat} (hg : ∀ v, v < n → fnd n (fndAll n l p) x v = g v) (hk : lvl n p g = lvl n p (fndAll n l p) + 1) :
    x ∈ needS n p g ∧ ∀ v, v < n → fndAll n l p v = fndAll n ((needS n p g).filter fun y => decide (y ≠ x)) p v := by
  have G := fndAll_fo F l hl p F
  have R : Rch n p (fndAll n l p) := ⟨l, hl, fun _ _ => rfl⟩
  obtain ⟨N, hN⟩ : ∃ N, N = needS n p (fndAll n l p) := ⟨_, rfl⟩
  have hNl : ∀ y ∈ N, y < n := fun y hy => needS_lt y (by rw [← hN]; exact hy)
  have lead : ∀ v, v < n → fndAll n N p v = fndAll n l p v := fun v hv => by rw [hN]; exact rch_lead F R v hv
  have hl2 : ∀ y ∈ N ++ [x], y < n := fun y hy => by
    rcases List.mem_append.mp hy with h | h
    · exact hNl y h
    · rw [List.mem_singleton.mp h]; exact hx
  have e : ∀ v, v < n → fndAll n (N ++ [x]) p v = g v := fun v hv => by
    rw [fndAll_snoc, fnd_congrW F (fndAll_fo F _ hNl p F) G lead hx v hv]
    exact hg v hv
  have sub := need_sub F hl2 e
  have nd := needS_nodup n p g
  have len : (needS n p g).length = N.length + 1 := by rw [hN]; exact hk
  have hmem : ∀ y ∈ N ++ [x], y ∈ needS n p g := fun y hy => by
    refine Classical.byContradiction fun hn => ?_
    have h1 : ∀ z ∈ needS n p g, z ∈ (N ++ [x]).erase y := fun z hz => (List.mem_erase_of_ne (fun e => hn (by rw [← e]; exact hz))).mpr (sub z hz)
    have h2 := sub_lenB nd h1
    rw [List.length_erase_of_mem hy, List.length_append, List.length_singleton] at h2
    omega
  have hxm : x ∈ needS n p g := hmem x (List.mem_append_right _ (List.mem_singleton.mpr rfl))
  have hxN : x ∉ N := fun hc => by
    have h1 : ∀ z ∈ needS n p g, z ∈ N := fun z hz => by
      rcases List.mem_append.mp (sub z hz) with h | h
      · exact h
      · rw [List.mem_singleton.mp h]; exact hc
    have := sub_lenB nd h1
    omega
  refine ⟨hxm, fun v hv => ?_⟩
  rw [← lead v hv]
  refine behind_same F (fun y hy => ?_) (fun y => ?_) v hv
  · rw [List.mem_filter] at hy
    exact needS_lt y hy.1
  · rw [List.mem_filter, decide_eq_true_iff]
    constructor
    · rintro ⟨h1, h2⟩
      rcases List.mem_append.mp (sub y h1) with h | h
      · exact h
      · exact absurd (List.mem_singleton.mp h) h2
    · intro hy
      exact ⟨hmem y (List.mem_append_left _ hy), fun z => hxN (by rw [← z]; exact hy)⟩
theorem mem_before (F : Fo n p r) {g : Nat → Nat} (R : Rch n p g) {x : Nat} (hx : x ∈ needS n p g) :
    (∀ v, v < n → fnd n (fndAll n ((needS n p g).filter fun y => decide (y ≠ x)) p) x v = g v) ∧ lvl n p g = lvl n p (fndAll n ((needS n p g).filter fun y => decide (y ≠ x)) p) + 1 := by
  obtain ⟨M, hM⟩ : ∃ M, M = (needS n p g).filter fun y => decide (y ≠ x) := ⟨_, rfl⟩
  rw [← hM]
  have hMl : ∀ y ∈ M, y < n := fun y hy => by
    rw [hM, List.mem_filter] at hy
    exact needS_lt y hy.1
  have hxn := needS_lt x hx
  have hl2 : ∀ y ∈ M ++ [x], y < n := fun y hy => by
    rcases List.mem_append.mp hy with h | h
    · exact hMl y h
    · rw [List.mem_singleton.mp h]; exact hxn
  have e : ∀ v, v < n → fnd n (fndAll n M p) x v = g v := fun v hv => by
    rw [← fndAll_snoc, ← rch_lead F R v hv]
    refine (behind_same F hl2 (fun y => ?_) v hv).symm
    rw [hM, List.mem_append, List.mem_filter, List.mem_singleton, decide_eq_true_iff]
    constructor
    · rintro (h | h)
      · exact h.1
      · rw [h]; exact hx
    · intro h
      by_cases z : y = x
      · exact .inr z
      · exact .inl ⟨h, z⟩
  refine ⟨e, Nat.le_antisymm ?_ ?_⟩
  · have := lvl_step F hMl hxn
    rw [lvl_congr e] at this
    exact this
  · have h1 : ∀ z ∈ needS n p (fndAll n M p), z ∈ M := need_sub F hMl fun _ _ => rfl
    have h2 := sub_lenB (needS_nodup n p (fndAll n M p)) h1
    have h3 : M.length + 1 ≤ (needS n p g).length := by
      have nd : (x :: M).Nodup := List.nodup_cons.mpr ⟨fun z => by rw [hM, List.mem_filter, decide_eq_true_iff] at z; exact z.2 rfl, by rw [hM]; exact (needS_nodup n p g).filter _⟩
      have := sub_lenB nd (m := needS n p g) (fun z hz => by
        rcases List.mem_cons.mp hz with h | h
        · rw [h]; exact hx
        · rw [hM, List.mem_filter] at h; exact h.1)
      exact this
    unfold lvl at h2 h3 ⊢
    omega
/-- every level below is met -/
theorem lower_lvl (F : Fo n p r) : ∀ (k : Nat) {g : Nat → Nat}, Rch n p g → ∀ j, j ≤ lvl n p g → lvl n p g = j + k → ∃ l, (∀ x ∈ l, x < n) ∧ lvl n p (fndAll n l p) = j
  | 0, g, R, j, _, e => by
    obtain ⟨l, hl, el⟩ := R
    exact ⟨l, hl, by rw [lvl_congr el]; omega⟩
  | k + 1, g, R, j, hj, e => by
    have hne : needS n p g ≠ [] := fun z => by unfold lvl at e; rw [z] at e; simp at e
    obtain ⟨x, hx⟩ := List.exists_mem_of_ne_nil _ hne
    obtain ⟨_, h2⟩ := mem_before F R hx
    have hMl : ∀ y ∈ (needS n p g).filter (fun y => decide (y ≠ x)), y < n := fun y hy => needS_lt y (List.mem_filter.mp hy).1
    exact lower_lvl F k ⟨_, hMl, fun _ _ => rfl⟩ j (by omega) (by omega)
theorem lvl_zero (F : Fo n p r) {q : Nat → Nat} (R : Rch n p q) : lvl n p q = 0 ↔ ∀ v, v < n → p v = q v := by
  constructor
  · intro h v hv
    have := rch_lead F R v hv
    rw [List.eq_nil_of_length_eq_zero h] at this
    exact this
  · intro h
    unfold lvl
    rw [← needS_congr h]
    have : needS n p p = [] := List.eq_nil_iff_forall_not_mem.mpr fun x hx => (needB_iff.mp (needS_mem.mp hx).2).1 rfl
    rw [this]
    rfl
theorem way_rch (F : Fo n p r) {q : Nat → Nat} (hq : ∀ v, v < n → p v = v → q v = v) : Way n p q ↔ Rch n p q := by
  constructor
  · intro W
    exact ⟨needS n p q, needS_lt, fun v hv => need_leads F hq W v hv⟩
  · rintro ⟨l, hl, e⟩ v hv hc u hu
    have hun := (ups_lt F v hv u hu).1
    rw [← e u hun]
    refine way_behind F hl v hv ?_ u hu
    rw [chg_iff] at hc ⊢
    rw [e v hv]
    exact hc
/-- the nodes that a find can change -/
def dpS (n : Nat) (p : Nat → Nat) : List Nat := (List.range n).filter fun v => decide (p v ≠ root p n v)
theorem need_deep (F : Fo n p r) {q : Nat → Nat} (R : Rch n p q) : ∀ x ∈ needS n p q, x ∈ dpS n p := fun x hx => by
  obtain ⟨l, hl, e⟩ := R
  obtain ⟨h1, h2⟩ := needS_mem.mp hx
  have hc := (needB_iff.mp h2).1
  rw [← e x h1] at hc
  exact List.mem_filter.mpr ⟨List.mem_range.mpr h1, decide_eq_true (behind_chg F hl h1 hc).2.2⟩
theorem dpS_len (F : Fo n p r) : (dpS n p).length ≤ n - 2 := by
  by_cases hz : dpS n p = []
  · rw [hz]; exact Nat.zero_le _
  · obtain ⟨v, hv⟩ := List.exists_mem_of_ne_nil _ hz
    obtain ⟨h1, h2⟩ := List.mem_filter.mp hv
    have hvn := List.mem_range.mp h1
    -- the root and the last node below it
    have : ∀ x, x < n → p x ≠ root p n x → ∃ c, c < n ∧ p c = root p n c ∧ p c ≠ c ∧ root p n c = root p n x := F.ind (fun x hx h hn => absurd (by rw [root_of h]; exact h) hn) fun x hx h ih hn => by
      have er := root_n F hx h
      by_cases z : p (p x) = root p n (p x)
      · refine ⟨p x, F.lt x hx, z, fun e => ?_, er.symm⟩
        rw [er, root_of e] at hn
        exact hn rfl
      · obtain ⟨c, c1, c2, c3, c4⟩ := ih z
        exact ⟨c, c1, c2, c3, c4.trans er.symm⟩
    obtain ⟨c, c1, c2, c3, _⟩ := this v hvn (of_decide_eq_true h2)
    have rf := root_fix F c c1
    have rl : root p n c < n := by rw [← c2]; exact F.lt c c1
    have nd : (root p n c :: c :: dpS n p).Nodup := by
      refine List.nodup_cons.mpr ⟨fun h => ?_, List.nodup_cons.mpr ⟨fun h => ?_, List.nodup_range.filter _⟩⟩
      · rcases List.mem_cons.mp h with h | h
        · exact c3 (c2.trans h)
        · have := of_decide_eq_true (List.mem_filter.mp h).2
          rw [root_of rf, rf] at this
          exact this rfl
      · exact of_decide_eq_true (List.mem_filter.mp h).2 c2
    have := sub_lenB nd (m := List.range n) (fun z hz => List.mem_range.mpr (by
      rcases List.mem_cons.mp hz with h | h
      · rw [h]; exact rl
      rcases List.mem_cons.mp h with h | h
      · rw [h]; exact c1
      · exact List.mem_range.mp (List.mem_filter.mp h).1))
    rw [List.length_range, List.length_cons, List.length_cons] at this
    omega
def encB (f : Nat → Bool) : List Nat → Nat
  | [] => 0
  | d :: l => (if f d = true then 1 else 0) + 2 * encB f l
theorem encB_lt (f : Nat → Bool) : ∀ l : List Nat, encB f l < 2 ^ l.length
  | [] => by show 0 < 2 ^ 0; decide
  | d :: l => by
    have := encB_lt f l
    rw [encB, List.length_cons, Nat.pow_succ]
    split <;> omega
theorem encB_inj {f g : Nat → Bool} : ∀ {l : List Nat}, encB f l = encB g l → ∀ d ∈ l, f d = g d
  | [], _, d, hd => by cases hd
  | x :: l, h, d, hd => by
    rw [encB, encB] at h
    have e1 : f x = g x ∧ encB f l = encB g l := by
      cases hf : f x <;> cases hg : g x <;> simp [hf, hg] at h ⊢ <;> omega
    rcases List.mem_cons.mp hd with h2 | h2
    · rw [h2]; exact e1.1
    · exact encB_inj e1.2 d h2
theorem encB_zero {f : Nat → Bool} : ∀ {l : List Nat}, encB f l = 0 → ∀ d ∈ l, f d = false
  | [], _, d, hd => by cases hd
  | x :: l, h, d, hd => by
    rw [encB] at h
    have e1 : f x = false ∧ encB f l = 0 := by
      cases hf : f x <;> simp [hf] at h ⊢ <;> omega
    rcases List.mem_cons.mp hd with h2 | h2
    · rw [h2]; exact e1.1
    · exact encB_zero e1.2 d h2
/-- few forests stand on one level -/
theorem few_rows (F : Fo n p r) (hn : n ≤ 6) {k : Nat} {Ls : List (List Nat)} (hl : ∀ l ∈ Ls, (∀ x ∈ l, x < n) ∧ lvl n p (fndAll n l p) = k) (nd : (Ls.map fun l => (List.range n).map (fndAll n l p)).Nodup) : Ls.length ≤ 15 := by
  have rows : ∀ {l m : List Nat}, l ∈ Ls → m ∈ Ls → (∀ v, v < n → fndAll n l p v = fndAll n m p v) → (List.range n).map (fndAll n l p) = (List.range n).map (fndAll n m p) := fun _ _ h => List.map_congr_left fun v hv => h v (List.mem_range.mp hv)
  have dl := dpS_len F
  by_cases hk : k = 0
  · -- only the first one
    have one : ∀ l ∈ Ls, (List.range n).map (fndAll n l p) = (List.range n).map p := fun l h => List.map_congr_left fun v hv => ((lvl_zero F ⟨l, (hl l h).1, fun _ _ => rfl⟩).mp ((hl l h).2.trans hk) v (List.mem_range.mp hv)).symm
    have := sub_lenB nd (m := [(List.range n).map p]) (fun z hz => by
      obtain ⟨l, h, rfl⟩ := List.mem_map.mp hz
      rw [one l h]
      exact List.mem_singleton.mpr rfl)
    rw [List.length_map] at this
    exact Nat.le_trans this (show 1 ≤ 15 by decide)
  · have key : ∀ l m, l ∈ Ls → m ∈ Ls → encB (fun d => decide (d ∈ needS n p (fndAll n l p))) (dpS n p) = encB (fun d => decide (d ∈ needS n p (fndAll n m p))) (dpS n p) → ∀ v, v < n → fndAll n l p v = fndAll n m p v := fun l m h1 h2 e v hv => by
      have Rl : Rch n p (fndAll n l p) := ⟨l, (hl l h1).1, fun _ _ => rfl⟩
      have Rm : Rch n p (fndAll n m p) := ⟨m, (hl m h2).1, fun _ _ => rfl⟩
      have ee := encB_inj e
      rw [← rch_lead F Rl v hv, ← rch_lead F Rm v hv]
      refine behind_same F needS_lt (fun x => ⟨fun h => ?_, fun h => ?_⟩) v hv
      · have := ee x (need_deep F Rm x h)
        rw [decide_eq_true h] at this
        exact of_decide_eq_true this
      · have := ee x (need_deep F Rl x h)
        rw [decide_eq_true h] at this
        exact of_decide_eq_true this.symm
    have pair : ∀ Ms : List (List Nat), (∀ l ∈ Ms, l ∈ Ls) → (Ms.map fun l => (List.range n).map (fndAll n l p)).Nodup → (Ms.map fun l => encB (fun d => decide (d ∈ needS n p (fndAll n l p))) (dpS n p)).Nodup := by
      intro Ms
      induction Ms with
      | nil => intro _ _; exact List.nodup_nil
      | cons a Ms ih =>
        intro hs hd
        rw [List.map_cons, List.nodup_cons] at hd ⊢
        refine ⟨fun z => hd.1 ?_, ih (fun l h => hs l (List.mem_cons_of_mem _ h)) hd.2⟩
        obtain ⟨m, hm, e⟩ := List.mem_map.mp z
        exact List.mem_map.mpr ⟨m, hm, rows (hs m (List.mem_cons_of_mem _ hm)) (hs a List.mem_cons_self) (key m a (hs m (List.mem_cons_of_mem _ hm)) (hs a List.mem_cons_self) e)⟩
    have nd2 := pair Ls (fun _ h => h) nd
    have := sub_lenB nd2 (m := (List.range 16).erase 0) (fun z hz => by
      obtain ⟨l, h, rfl⟩ := List.mem_map.mp hz
      have hR : Rch n p (fndAll n l p) := ⟨l, (hl l h).1, fun _ _ => rfl⟩
      refine (List.mem_erase_of_ne fun e => ?_).mpr (List.mem_range.mpr (Nat.lt_of_lt_of_le (encB_lt _ _) (Nat.pow_le_pow_right (by decide) (show (dpS n p).length ≤ 4 by omega))))
      have h0 := encB_zero e
      have : needS n p (fndAll n l p) = [] := List.eq_nil_iff_forall_not_mem.mpr fun x hx => by
        have := h0 x (need_deep F hR x hx)
        rw [decide_eq_true hx] at this
        cases this
      have hk2 := (hl l h).2
      unfold lvl at hk2
      rw [this] at hk2
      exact hk hk2.symm)
    rw [List.length_map] at this
    exact this
/-- the rows of a forest behind finds -/
def rwB (n : Nat) (p : Nat → Nat) (l : List Nat) : List Nat := (List.range n).map (fndAll n l p)
theorem rwB_eq {l m : List Nat} : rwB n p l = rwB n p m ↔ ∀ v, v < n → fndAll n l p v = fndAll n m p v := by
  unfold rwB
  constructor
  · intro h v hv
    have := congrArg (fun z : List Nat => z[v]?) h
    simp only [List.getElem?_map, List.getElem?_range hv] at this
    exact Option.some.inj this
  · intro h
    exact List.map_congr_left fun v hv => h v (List.mem_range.mp hv)
/-- the finds that lead one level up -/
def nxB (n : Nat) (p : Nat → Nat) (k : Nat) (l : List Nat) : List (List Nat) := ((List.range n).filter fun x => decide (lvl n p (fndAll n (l ++ [x]) p) = k + 1)).map fun x => l ++ [x]
def ltB (n : Nat) (p : Nat → Nat) (k : Nat) (Ls : List (List Nat)) : List (List Nat) := Ls.flatMap (nxB n p k)
/-- a level: all forests that stand on it, once each -/
structure LvB (n : Nat) (p : Nat → Nat) (k : Nat) (Ls : List (List Nat)) : Prop where
  ok : ∀ l ∈ Ls, (∀ x ∈ l, x < n) ∧ lvl n p (fndAll n l p) = k
  nd : (Ls.map (rwB n p)).Nodup
  all : ∀ m : List Nat, (∀ x ∈ m, x < n) → lvl n p (fndAll n m p) = k → rwB n p m ∈ Ls.map (rwB n p)
theorem ltB_ok {k : Nat} {Ls : List (List Nat)} (h : ∀ l ∈ Ls, (∀ x ∈ l, x < n) ∧ lvl n p (fndAll n l p) = k) : ∀ m ∈ ltB n p k Ls, (∀ x ∈ m, x < n) ∧ lvl n p (fndAll n m p) = k + 1 := fun m hm => by
  obtain ⟨l, hl, hm⟩ := List.mem_flatMap.mp hm
  unfold nxB at hm
  obtain ⟨x, hx, rfl⟩ := List.mem_map.mp hm
  obtain ⟨h1, h2⟩ := List.mem_filter.mp hx
  refine ⟨fun y hy => ?_, of_decide_eq_true h2⟩
  rcases List.mem_append.mp hy with z | z
  · exact (h l hl).1 y z
  · rw [List.mem_singleton.mp z]; exact List.mem_range.mp h1
/-- so many finds of the level before lead to one of the next -/
theorem pairs_count (F : Fo n p r) {k : Nat} {Ls : List (List Nat)} (A : LvB n p k Ls) {g : List Nat} (hg : ∀ x ∈ g, x < n) (hk : lvl n p (fndAll n g p) = k + 1) : ((ltB n p k Ls).filter fun m => decide (rwB n p m = rwB n p g)).length = k + 1 := by
  have Rg : Rch n p (fndAll n g p) := ⟨g, hg, fun _ _ => rfl⟩
  obtain ⟨XL, hXL⟩ : ∃ XL : List Nat → List Nat, XL = fun l => (List.range n).filter fun x => decide (rwB n p (l ++ [x]) = rwB n p g) := ⟨_, rfl⟩
  have hX : ∀ l x, x ∈ XL l ↔ x < n ∧ ∀ v, v < n → fnd n (fndAll n l p) x v = fndAll n g p v := fun l x => by
    rw [hXL, List.mem_filter, List.mem_range, decide_eq_true_iff, rwB_eq]
    exact and_congr_right fun _ => ⟨fun h v hv => by rw [← fndAll_snoc]; exact h v hv, fun h v hv => by rw [fndAll_snoc]; exact h v hv⟩
  have len : ∀ Ms : List (List Nat), (∀ l ∈ Ms, (∀ x ∈ l, x < n) ∧ lvl n p (fndAll n l p) = k) → ((ltB n p k Ms).filter fun m => decide (rwB n p m = rwB n p g)).length = (Ms.flatMap XL).length := by
    intro Ms
    induction Ms with
    | nil => intro _; rfl
    | cons l Ms ih =>
      intro h
      have h1 := ih fun m hm => h m (List.mem_cons_of_mem _ hm)
      unfold ltB at h1 ⊢
      rw [List.flatMap_cons, List.flatMap_cons, List.filter_append, List.length_append, List.length_append, h1]
      congr 1
      unfold nxB
      rw [List.filter_map, List.length_map, List.filter_filter, hXL]
      congr 1
      refine List.filter_congr fun x hx => ?_
      rw [Bool.eq_iff_iff, Bool.and_eq_true, Function.comp_apply, decide_eq_true_iff, decide_eq_true_iff]
      refine ⟨fun z => z.1, fun z => ⟨z, ?_⟩⟩
      rw [lvl_congr (rwB_eq.mp z)]
      exact hk
  rw [len Ls A.ok]
  have nd : ∀ Ms : List (List Nat), (∀ l ∈ Ms, (∀ x ∈ l, x < n) ∧ lvl n p (fndAll n l p) = k) → (Ms.map (rwB n p)).Nodup → (Ms.flatMap XL).Nodup := by
    intro Ms
    induction Ms with
    | nil => intro _ _; exact List.nodup_nil
    | cons l Ms ih =>
      intro h hd
      rw [List.map_cons, List.nodup_cons] at hd
      rw [List.flatMap_cons, List.nodup_append]
      refine ⟨by rw [hXL]; exact List.nodup_range.filter _, ih (fun m hm => h m (List.mem_cons_of_mem _ hm)) hd.2, fun a ha b hb e => ?_⟩
      subst e
      obtain ⟨m, hm, hb⟩ := List.mem_flatMap.mp hb
      obtain ⟨a1, a2⟩ := (hX l a).mp ha
      obtain ⟨_, b2⟩ := (hX m a).mp hb
      have hl := h l List.mem_cons_self
      have hm2 := h m (List.mem_cons_of_mem _ hm)
      have e1 := (last_find F hl.1 a1 a2 (by rw [hk, hl.2])).2
      have e2 := (last_find F hm2.1 a1 b2 (by rw [hk, hm2.2])).2
      exact hd.1 (List.mem_map.mpr ⟨m, hm, rwB_eq.mpr fun v hv => (e2 v hv).trans (e1 v hv).symm⟩)
  have d1 := nd Ls A.ok A.nd
  have s1 : ∀ x ∈ Ls.flatMap XL, x ∈ needS n p (fndAll n g p) := fun x hx => by
    obtain ⟨l, hl, hx⟩ := List.mem_flatMap.mp hx
    obtain ⟨a1, a2⟩ := (hX l x).mp hx
    have h := A.ok l hl
    exact (last_find F h.1 a1 a2 (by rw [hk, h.2])).1
  have s2 : ∀ x ∈ needS n p (fndAll n g p), x ∈ Ls.flatMap XL := fun x hx => by
    obtain ⟨b1, b2⟩ := mem_before F Rg hx
    obtain ⟨M, hM⟩ : ∃ M, M = (needS n p (fndAll n g p)).filter fun y => decide (y ≠ x) := ⟨_, rfl⟩
    rw [← hM] at b1 b2
    have hMl : ∀ y ∈ M, y < n := fun y hy => by rw [hM] at hy; exact needS_lt y (List.mem_filter.mp hy).1
    obtain ⟨l, hl, e⟩ := List.mem_map.mp (A.all M hMl (by omega))
    have e := rwB_eq.mp e
    have hln := (A.ok l hl).1
    refine List.mem_flatMap.mpr ⟨l, hl, (hX l x).mpr ⟨needS_lt x hx, fun v hv => ?_⟩⟩
    rw [fnd_congrW F (fndAll_fo F l hln p F) (fndAll_fo F M hMl p F) e (needS_lt x hx) v hv]
    exact b1 v hv
  have l1 := sub_lenB d1 s1
  have l2 := sub_lenB (needS_nodup n p (fndAll n g p)) s2
  unfold lvl at hk
  omega
/-- the next level -/
theorem next_lvl (F : Fo n p r) {k : Nat} {Ls Ns : List (List Nat)} (A : LvB n p k Ls) (hs : ∀ m ∈ Ns, m ∈ ltB n p k Ls) (ha : ∀ m ∈ ltB n p k Ls, rwB n p m ∈ Ns.map (rwB n p)) (nd : (Ns.map (rwB n p)).Nodup) : LvB n p (k + 1) Ns := by
  refine ⟨fun m hm => ltB_ok A.ok m (hs m hm), nd, fun m hm hk => ?_⟩
  have Rm : Rch n p (fndAll n m p) := ⟨m, hm, fun _ _ => rfl⟩
  have hne : needS n p (fndAll n m p) ≠ [] := fun z => by unfold lvl at hk; rw [z] at hk; simp at hk
  obtain ⟨x, hx⟩ := List.exists_mem_of_ne_nil _ hne
  obtain ⟨b1, b2⟩ := mem_before F Rm hx
  obtain ⟨M, hM⟩ : ∃ M, M = (needS n p (fndAll n m p)).filter fun y => decide (y ≠ x) := ⟨_, rfl⟩
  rw [← hM] at b1 b2
  have hMl : ∀ y ∈ M, y < n := fun y hy => by rw [hM] at hy; exact needS_lt y (List.mem_filter.mp hy).1
  obtain ⟨l, hl, e⟩ := List.mem_map.mp (A.all M hMl (by omega))
  have hxn := needS_lt x hx
  have e2 : rwB n p (l ++ [x]) = rwB n p m := rwB_eq.mpr fun v hv => by
    rw [fndAll_snoc, fnd_congrW F (fndAll_fo F l (A.ok l hl).1 p F) (fndAll_fo F M hMl p F) (rwB_eq.mp e) hxn v hv]
    exact b1 v hv
  rw [← e2]
  refine ha _ (List.mem_flatMap.mpr ⟨l, hl, List.mem_map.mpr ⟨x, List.mem_filter.mpr ⟨List.mem_range.mpr hxn, ?_⟩, rfl⟩⟩)
  rw [decide_eq_true_iff, lvl_congr (rwB_eq.mp e2)]
  exact hk
theorem first_lvl (F : Fo n p r) : LvB n p 0 [[]] :=
  ⟨fun l hl => by
    rw [List.mem_singleton.mp hl]
    exact ⟨fun x hx => (by cases hx), (lvl_zero F ⟨[], fun x hx => (by cases hx), fun _ _ => rfl⟩).mpr fun _ _ => rfl⟩, by rw [List.map_singleton]; exact List.nodup_cons.mpr ⟨List.not_mem_nil, List.nodup_nil⟩, fun m hm hk => by
    rw [List.map_singleton, List.mem_singleton]
    exact rwB_eq.mpr fun v hv => ((lvl_zero F ⟨m, hm, fun _ _ => rfl⟩).mp hk v hv).symm⟩
theorem lt_few (F : Fo n p r) (hn : n ≤ 6) {k : Nat} {Ls : List (List Nat)} (A : LvB n p k Ls) : Ls.length ≤ 15 ∧ (ltB n p k Ls).length ≤ 60 := by
  have h1 : Ls.length ≤ 15 := few_rows F hn A.ok A.nd
  refine ⟨h1, ?_⟩
  have dl := dpS_len F
  have : ∀ Ms : List (List Nat), (∀ l ∈ Ms, (∀ x ∈ l, x < n) ∧ lvl n p (fndAll n l p) = k) → (ltB n p k Ms).length ≤ Ms.length * 4 := by
    intro Ms
    induction Ms with
    | nil => intro _; exact Nat.zero_le _
    | cons l Ms ih =>
      intro h
      have h2 := ih fun m hm => h m (List.mem_cons_of_mem _ hm)
      unfold ltB at h2 ⊢
      rw [List.flatMap_cons, List.length_append, List.length_cons]
      have h3 : (nxB n p k l).length ≤ 4 := by
        unfold nxB
        rw [List.length_map]
        have hl := h l List.mem_cons_self
        refine Nat.le_trans (sub_lenB (List.nodup_range.filter _) (m := dpS n p) fun x hx => ?_) (by omega)
        obtain ⟨h4, h5⟩ := List.mem_filter.mp hx
        have hxn := List.mem_range.mp h4
        have h5 := of_decide_eq_true h5
        have hl2 : ∀ y ∈ l ++ [x], y < n := fun y hy => by
          rcases List.mem_append.mp hy with z | z
          · exact hl.1 y z
          · rw [List.mem_singleton.mp z]; exact hxn
        refine need_deep F ⟨l ++ [x], hl2, fun _ _ => rfl⟩ x (last_find F hl.1 hxn (fun v _ => by rw [fndAll_snoc]) (by rw [h5, hl.2])).1
      omega
  have := this Ls A.ok
  omega
end
end Ff

namespace ExX
open PySem PySem.Spec PyProof.Rows L2 Builtin.ObjectAttr
/-- an own class over some built-in exception, its instances having a dict -/
structure ExB (K : PySem.W.Frag) (C : Addr) (nid : String) (tl : List Value) : Prop where
  ini : PySem.W.excInitIn K C tl nid = true
  ov : PySem.W.excOver K C tl = true
  hdt : PySem.W.hasDictIn K C = true
  sat : PySem.W.findIn K (.ref C) "__setattr__" = some (some (.builtin "object.__setattr__"))
  sub : PySem.W.subIn K (.ref C) (.type "BaseException") = some true
  typ : PySem.W.typeIn K (.ref C) = some (.type "type")
  kep : PySem.W.keepIn K (.ref C) = true
def exB (K : PySem.W.Frag) (C : Addr) (nid : String) (tl : List Value) : Bool :=
  PySem.W.excInitIn K C tl nid && PySem.W.excOver K C tl && PySem.W.hasDictIn K C && decide (PySem.W.findIn K (.ref C) "__setattr__" = some (some (.builtin "object.__setattr__"))) && decide (PySem.W.subIn K (.ref C) (.type "BaseException") = some true) &&
    decide (PySem.W.typeIn K (.ref C) = some (.type "type")) && PySem.W.keepIn K (.ref C)
theorem exB_ok {K : PySem.W.Frag} {C : Addr} {nid : String} {tl : List Value} (h : exB K C nid tl = true) : ExB K C nid tl := by
  unfold exB at h
  simp only [Bool.and_eq_true, decide_eq_true_eq] at h
  obtain ⟨⟨⟨⟨⟨⟨a, b⟩, c⟩, d⟩, e⟩, f⟩, g⟩ := h
  exact ⟨a, b, c, d, e, f, g⟩
section
variable {prog : Program} {w : World} {A : Around} {R : Result → Shared → Prop} {hp : Heap} {g : Array GenState} {dr : Drawn} {tk0 : Nat} {os : OsState} {K : PySem.W.Frag} {B nid : String} {tl : List Value} {x C t1 : Addr} {nm : Str} {tk : Tok} {v : Value}
theorem sa_new (SB : StoreFacts B tl "object.__setattr__" "object") (X : K.In hp) (T : ExB K C nid tl) (hx : hp.get? x = some (PySem.W.excObj C t1 none .none)) (ha : PySem.W.findIn K (.ref C) nm = some none)
    (hq : ∀ h2 tk2 dx, (∀ b o, b ≠ x → hp.get? b = some o → h2.get? b = some o) → hp.objs.size ≤ dx → dx ≠ x → h2.get? x = some (PySem.W.excObj C t1 (some dx) .none) →
      h2.Ns1 dx (fun y => if y = nm then some v else none) → R (.ok (.ret .none)) ⟨h2, g, dr, tk2, os⟩) :
    codeAny (model prog w) A (.call (.builtin "object.__setattr__") ⟨[.ref x, .str nm tk, v], []⟩) R ⟨hp, g, dr, tk0, os⟩ := by
  refine PySem.W.osa_openX (od := none) (r := none) SB X ⟨hx, rfl, rfl, trivial⟩ T.ov (by unfold PySem.W.takerIn; rw [ha]; rfl) fun b => ?_
  obtain ⟨cd, hc, hd2⟩ := PySem.W.any_some T.hdt
  have hxs : x ≠ hp.objs.size := Nat.ne_of_lt (Heap.lt_size hx)
  refine wpAny_bind (wpAny_pure (wpAny_bind (PySem.W.instanceDict_exc hx (PySem.W.looks_clsIn X hc) hd2 ?_)))
  show wpAny _ _ (storeInDict hp.objs.size (.str nm tk) nm v) _ _ _
  refine HandSPX.store_in_new ?_ ?_
  · exact ⟨_, #[], _, (Heap.get?_update_ne _ _ _ _ hxs.symm).trans (Heap.get?_push_at rfl rfl), rfl, fun e he => absurd he (by simp), fun _ => rfl⟩
  · intro h2 tk2 hn hs
    have hx1 := Heap.get?_push_of_some (h := hp) (PySem.W.dictOf [] 0) hx
    refine hq h2 tk2 hp.objs.size (fun b o hb ho => ?_) (Nat.le_refl _) hxs.symm ?_ hn
    · exact (hs.2 b (Nat.ne_of_lt (Heap.lt_size ho))).trans ((Heap.get?_update_ne _ _ _ _ hb).trans (Heap.get?_push_of_some _ ho))
    · exact (hs.2 x hxs).trans (Heap.get?_update_self _ hx1 rfl)
theorem sa_old {dx : Addr} {m0 : Str → Option Value} {nl : List Str} (SB : StoreFacts B tl "object.__setattr__" "object") (X : K.In hp) (T : ExB K C nid tl) (hx : hp.get? x = some (PySem.W.excObj C t1 (some dx) .none)) (hns : hp.Ns1 dx m0) (hw : Within m0 nl) (hz : nl.length ≤ 1000)
    (ha : PySem.W.findIn K (.ref C) nm = some none)
    (hq : ∀ h2 tk2, (∀ b o, b ≠ dx → hp.get? b = some o → h2.get? b = some o) → h2.Ns1 dx (fun y => if y = nm then some v else m0 y) → R (.ok (.ret .none)) ⟨h2, g, dr, tk2, os⟩) :
    codeAny (model prog w) A (.call (.builtin "object.__setattr__") ⟨[.ref x, .str nm tk, v], []⟩) R ⟨hp, g, dr, tk0, os⟩ := by
  obtain ⟨oD, esD, epD, hoD, hdD, _⟩ := hns.count hw
  refine PySem.W.osa_openX (od := some oD) (r := none) SB X ⟨hx, rfl, rfl, hoD⟩ T.ov (by unfold PySem.W.takerIn; rw [ha]; rfl) fun b => ?_
  show wpAny _ _ (storeInOwnDict (.ref x) (.ref C) (.str nm tk) nm v b) _ _ _
  obtain ⟨cd, hc, hd2⟩ := PySem.W.any_some T.hdt
  have lc : PySem.W.Looks (model prog w) hp (classData C) cd := PySem.W.looks_clsIn X hc
  obtain ⟨c1, c2, c3, c4, c5, c6, c7, c8, c9, c10, c11⟩ := cd
  dsimp only at hd2
  subst hd2
  unfold storeInOwnDict ownDictForStores
  repeat (first | with_reducible refine PySem.OEX.store_in_old hns hw hz ?_ | with_reducible refine wpAny_loadPart_at hx ?_ | with_reducible refine lc.at ?_ | wp_step)
  intro h2 tk2 hn hs
  exact hq h2 tk2 (fun b o hb ho => (hs.2 b hb).trans ho) hn
end
section
variable {X : Cx} {pins : List (Addr × Obj)} {σ : L2.St} {H : Hp} {s : Shared} {a C dx : Addr} {f : Str} {y : V} {u : Value} {fs : List (Str × V)} {Q : Unit → Shared → Prop} {E : Value → Shared → Prop} {A : Around} {B nid iid : String} {tl : List Value}
/-- the object at a gets its dict at dx -/
theorem inv_dict {hp h2 : Heap} {g : Array GenState} {dr : Drawn} {tk tk2 : Nat} {os : OsState} {t1 : Addr} (I : Inv X pins σ H ⟨hp, g, dr, tk, os⟩) (e : H a = some (exo a C none)) (ry : RelV y u) (k : ∀ b o, b ≠ a → hp.get? b = some o → h2.get? b = some o) (dn : hp.objs.size ≤ dx)
    (hx : h2.get? a = some (PySem.W.excObj C t1 (some dx) .none)) (hn : h2.Ns1 dx (fun y => if y = f then some u else none)) : Inv X pins σ (upd (upd H dx (exd dx [(f, y)])) a (exo a C (some dx))) ⟨h2, g, dr, tk2, os⟩ := by
  have fresh : H dx = none := I.hok.fresh dn
  have old_ne : ∀ {b : Addr} {o : Obj}, hp.get? b = some o → b ≠ dx := fun {b o} q => Nat.ne_of_lt (Nat.lt_of_lt_of_le (Heap.lt_size q) dn)
  have free_ne : ∀ {b : Addr}, H b = none → b ≠ a := fun {b} n z => by
    subst z
    rw [e] at n
    cases n
  have look : ∀ {b : Addr} {o : HO}, H b = some o → b ≠ a → upd (upd H dx (exd dx [(f, y)])) a (exo a C (some dx)) b = some o := fun {b o} q hb => by rw [upd_ne hb, upd_ne (ne_of_none q fresh)]; exact q
  refine I.un (t' := tk2) ⟨fun b o q n _ _ => k b o (free_ne n) q, fun b o q n _ _ => ⟨o.slots, k b o (free_ne n) q⟩, fun b o q n _ => ?_, fun b o q _ => ?_, fun b xs q => look q (at_ne e q exo_tup), fun b o v q => look q (at_ne e q exo_frz), fun b ps q => ⟨#[], ?_⟩⟩ fun b o q => ?_
  · rw [upd_ne (free_ne n), upd_ne (old_ne q)]
    exact n
  · by_cases hb : b = a
    · exact ⟨_, hb ▸ hx⟩
    · exact ⟨o, k b o hb q⟩
  · rw [look q (at_ne e q exo_tbl)]
    simp
  · by_cases hb : b = a
    · rw [hb, upd_same] at q
      rw [hb, ← Option.some.inj q]
      exact exo_ok hx
    rw [upd_ne hb] at q
    by_cases hd : b = dx
    · rw [hd, upd_same] at q
      rw [hd, ← Option.some.inj q]
      exact exd_ok hn (relO_put (fs := []) ry fun _ => True.intro)
    rw [upd_ne hd] at q
    refine (I.hok b o q).stay (fun c v hc z => k c v ?_ z) (fun c hc => look hc (at_ne e hc exo_own)) fun c xs hc => look hc (at_ne e hc exo_tup)
    rcases hc with hc | hc
    · exact hc ▸ hb
    · exact at_ne e hc exo_own
theorem st_new (SB : StoreFacts B tl "object.__setattr__" "object") (T : ExB X.K C nid tl) (I : Inv X pins σ H s) (e : H a = some (exo a C none)) (hno : PySem.W.findIn X.K (.ref C) f = some none) (ry : RelV y u)
    (h : ∀ dx s2, H dx = none → dx ≠ a → Inv X pins σ (upd (upd H dx (exd dx [(f, y)])) a (exo a C (some dx))) s2 → Q () s2) : wpAny (model X.prog X.w) A (setAttr (.ref a) f u) Q E s := by
  obtain ⟨t1, ho⟩ := exo_at I.hok e
  obtain ⟨hp, g, dr, tk, os⟩ := s
  exact PySem.W.set_plain I.kIn (ox := PySem.W.excObj C t1 none .none) (od := none) ⟨ho, rfl, rfl, trivial⟩ T.sat (sa_new SB I.kIn T ho hno fun h2 tk2 dx k dn dne hx hn => h dx _ (I.hok.fresh dn) dne (inv_dict I e ry k dn hx hn))
theorem st_old (SB : StoreFacts B tl "object.__setattr__" "object") (T : ExB X.K C nid tl) (I : Inv X pins σ H s) (e : H a = some (exo a C (some dx))) (ed : H dx = some (exd dx fs)) (hl : fs.length ≤ 900) (hno : PySem.W.findIn X.K (.ref C) f = some none) (ry : RelV y u)
    (h : ∀ s2, Inv X pins σ (upd H dx (exd dx ((f, y) :: fs))) s2 → Q () s2) : wpAny (model X.prog X.w) A (setAttr (.ref a) f u) Q E s := by
  obtain ⟨t1, ho⟩ := exo_at I.hok e
  obtain ⟨mA, hns, rel⟩ := exd_at I.hok ed
  have hw := within_of rel
  obtain ⟨hp, g, dr, tk, os⟩ := s
  obtain ⟨oD, _, _, hoD, _, _⟩ := hns.count hw
  refine PySem.W.set_plain I.kIn (ox := PySem.W.excObj C t1 (some dx) .none) (od := some oD) ⟨ho, rfl, rfl, hoD⟩ T.sat (sa_old SB I.kIn T ho hns hw (by rw [List.length_map]; omega) hno fun h2 tk2 k hn => ?_)
  obtain ⟨o, es, ep, e1, er⟩ := hn
  exact h _ (I.write (t' := tk2) (x := dx) (e := dx) (o := exd dx ((f, y) :: fs)) (by rw [ed]; trivial) (.inl rfl) k ⟨o, e1⟩ (exd_ok ⟨o, es, ep, e1, er⟩ (relO_put ry rel)))
/-- B.__init__(self, ..): it lays the args anew, which are not told -/
theorem base_init {us : List Value} {Q : Value → Shared → Prop} (FB : ExcBaseFacts B nid iid tl) (T : ExB X.K C nid tl) (I : Inv X pins σ H s) (e : H a = some (exo a C none)) (hl : us.length ≤ sizeLine) (h : ∀ s2, Inv X pins σ H s2 → Q .none s2) :
    wpAny (model X.prog X.w) A (call (.builtin iid) (.ref a :: us)) Q E s := by
  obtain ⟨nm, N, qn, bs, bm, hdct, sn, sub, ab, col, dd, k0, k1, k2, k3, k5, hC, hT⟩ := PySem.W.excInit_of I.kIn T.ini
  obtain ⟨t1, ho⟩ := exo_at I.hok e
  obtain ⟨hp, g, dr, tk, os⟩ := s
  refine wpAny_call (PySem.HandSPX.init_base FB hT hC ho hl fun h2 t2 k hx => h _ ?_)
  have J := I.write (t' := tk) (x := a) (e := a) (o := exo a C none) (by rw [e]; trivial) (.inl rfl) k ⟨_, hx⟩ (exo_ok hx)
  have same : upd H a (exo a C none) = H := funext fun b => by
    by_cases hb : b = a
    · rw [hb, upd_same, e]
    · rw [upd_ne hb]
  rwa [same] at J
end
/-! ### rules -/
/-- self.f = e, self an exception in the making -/
def tSt (K : PySem.W.Frag) (nid : String) (tl : List Value) (f : Str) (to te : TE) : TS := fun D σ H => te σ H fun y H1 => to σ H1 fun x H2 => ∃ a C : Addr, x = .ref a ∧ ExB K C nid tl ∧ PySem.W.findIn K (.ref C) f = some none ∧
  ((H2 a = some (exo a C none) ∧ ∀ dx, H2 dx = none → dx ≠ a → D.nx σ (upd (upd H2 dx (exd dx [(f, y)])) a (exo a C (some dx)))) ∨
    ∃ (dx : Addr) (fs : List (Str × V)), H2 a = some (exo a C (some dx)) ∧ H2 dx = some (exd dx fs) ∧ fs.length ≤ 900 ∧ D.nx σ (upd H2 dx (exd dx ((f, y) :: fs))))
/-- B.__init__(self, ..) -/
def tBi (K : PySem.W.Frag) (nid : String) (tl : List Value) (ta : TA) : TE := fun σ H Q => ta σ H fun vs H1 => ∃ (a C : Addr) (ws : List V), vs = .ref a :: ws ∧ ws.length ≤ 1000 ∧ ExB K C nid tl ∧ H1 a = some (exo a C none) ∧ Q .non H1
section
variable {X : Cx} {o e : Expr} {es : List Expr} {to te : TE} {ta : TA} {f x : Str} {p p1 p2 pos : Pos} {B nid iid : String} {tl : List Value}
theorem ps_st (SB : StoreFacts B tl "object.__setattr__" "object") (ho : PE X o to) (he : PE X e te) (hs : swapsWith e (some (.Attribute o f p)) pos.line X.env = pure false := by rfl) : PS X (.Assign [.Attribute o f p] e pos) (tSt X.K nid tl f to te) := by
  refine ⟨fun pins s σ H D I h => plainObj_wpAny_Assign_Attribute (thn (he.run pins s σ H _ I h) fun v s1 ⟨y, H1, I1, r1, q1⟩ => thn (ho.run pins s1 σ H1 _ I1 q1) fun u s2 ⟨z, H2, I2, r2, a, C, ex, T, hno, q⟩ => ?_) hs⟩
  subst ex
  obtain rfl : u = Value.ref a := r2
  rcases q with ⟨ea, q⟩ | ⟨dx, fs, ea, ed, hl, q⟩
  · exact st_new SB T I2 ea hno r1 fun dx s3 n ne J => ⟨σ, _, J, q dx n ne⟩
  · exact st_old SB T I2 ea ed hl hno r1 fun s3 J => ⟨σ, _, J, q⟩
theorem pe_bi {xB : Str} {pl : Sem Bool} (FB : ExcBaseFacts B nid iid tl) (ty : typeOf (.type B) = pure (.type "type")) (st : Manifest.isStub B = false) (bo : bootBuiltins xB = some (.type B)) (hn1 : xB ≠ "__name__") (hn2 : (xB == ("__debug__" : Str)) = false) (hh : PySem.W.handedIn (.builtin iid) = true) (hg : Gl X xB) (hm : X.mg xB = none) (vV : PySem.W.findCls X.K (.type B) (.type "type") "__init__" = some (.val (.builtin iid))) (ha : PA X (e :: es) ta)
    (hc : eval (.Call (.Attribute (.Name xB p1) "__init__" p2) (e :: es) [] pos) X.env = (do
      let z ← eval (.Name xB p1) X.env
      standAt p2.atName
      let (f1, fst) ← holding [z] (getMethod z "__init__" pl)
      callWith pos f1 fst (backTo pos (starEach (e :: es) X.env)) (backToKw pos (keywordEach [] X.env))) := by rfl)
    (he : starEach (e :: es) X.env = (false, eval e X.env) :: starEach es X.env := by rfl) (hpl : (backTo pos (starEach es X.env)).any (·.1) = false := by rfl) :
    PE X (.Call (.Attribute (.Name xB p1) "__init__" p2) (e :: es) [] pos) (tBi X.K nid tl ta) := by
  refine ⟨fun pins s σ H Q I h => PySem.W.methodCall_KW (ld_blt I hg hm bo ?_ hn1 hn2) hc⟩
  obtain ⟨m, fr⟩ := I.fr
  refine PySem.W.method_type fr I.ok.mod.kin ty st vV hh ?_
  show wpAny _ _ (callWith pos (Value.builtin iid) [] (backTo pos (starEach (e :: es) X.env)) []) _ _ _
  refine PyProof.Rows.callWith_method1 (thn (ha.run pos pins _ σ H _ (I.tok _) h) fun us s1 ⟨vs, H1, I1, r1, a, C, ws, ev, hl, T, ea, q⟩ => ?_) he hpl
  subst ev
  cases r1 with
  | @cons _ u0 _ ur ra rw2 =>
    obtain rfl : u0 = Value.ref a := ra
    exact base_init FB T I1 ea (by rw [← Paired.length rw2, sizeLine_eq]; omega) fun s2 J => ⟨.non, H1, J, rfl, q⟩
end
end ExX

namespace ExX
open PySem PySem.Spec PyProof.Rows L2 Builtin.ObjectAttr
/-- what the written part says of D.__init__, read off the class itself: the def at f -/
structure ClsI (K : PySem.W.Frag) (D f : Addr) : Prop where
  rd : PySem.W.readsIn K D (.type "type") = true
  fc : PySem.W.findCls K (.ref D) (.type "type") "__init__" = some (.val (.ref f))
  sp : PySem.W.specialIn K (.ref D) "__getattribute__" = some (some (.builtin "type.__getattribute__"))
  kp : PySem.W.keepIn K (.ref f) = true
  kd : PySem.W.keepIn K (.ref D) = true
def clsI (K : PySem.W.Frag) (D f : Addr) : Bool := PySem.W.readsIn K D (.type "type") && (match PySem.W.findCls K (.ref D) (.type "type") "__init__" with | some (.val v) => decide (v = .ref f) | _ => false) &&
  decide (PySem.W.specialIn K (.ref D) "__getattribute__" = some (some (.builtin "type.__getattribute__"))) && PySem.W.keepIn K (.ref f) && PySem.W.keepIn K (.ref D)
theorem clsI_ok {K : PySem.W.Frag} {D f : Addr} (h : clsI K D f = true) : ClsI K D f := by
  unfold clsI at h
  simp only [Bool.and_eq_true, decide_eq_true_eq] at h
  obtain ⟨⟨⟨⟨a, b⟩, c⟩, d⟩, e⟩ := h
  refine ⟨a, ?_, c, d, e⟩
  split at b
  · rename_i v hv
    rw [hv, of_decide_eq_true b]
  · cases b
/-- what C(..) asks, the arguments evaluated -/
def mkW (C : Addr) (sp : Sp) (vs : List V) (H1 : Hp) (Q : XK) : Prop := vs.length ≤ 1000 ∧ ∀ a, H1 a = none → sp (.ref a :: vs) (upd H1 a (exo a C none))
  (fun v H2 => v = .non ∧ ∃ (d : Addr) (fs : List (Str × V)), H2 a = some (exo a C (some d)) ∧ H2 d = some (exd d fs) ∧ H1 d = none ∧ Q (.ref C) (some d) (upd (del H2 a) d (.xd fs))) (fun _ _ _ => False)
section
variable {X : Cx} {e : Expr} {es : List Expr} {ta : TA} {x : Str} {p p1 p2 pos : Pos} {CX : CXT} {k : Nat} {D f : Addr} {fd : FuncData} {ps : List Str} {sp : Sp} {E : XK}
theorem pe_ci {pl : Sem Bool} (T : ClsI X.K D f) (F : FnOk X.prog X.w X.K X.mg X.base CX k f fd ps sp) (hr : Room k X.A) (hg : Gl X x) (hm : X.mg x = some (.ref D)) (hb : L2.Binds X.K fd ps []) (hx : Passes CX X E) (ha : PA X (e :: es) ta)
    (hdb : (x == ("__debug__" : Str)) = false := by decide)
    (hc : eval (.Call (.Attribute (.Name x p1) "__init__" p2) (e :: es) [] pos) X.env = (do
      let z ← eval (.Name x p1) X.env
      standAt p2.atName
      let (f1, fst) ← holding [z] (getMethod z "__init__" pl)
      callWith pos f1 fst (backTo pos (starEach (e :: es) X.env)) (backToKw pos (keywordEach [] X.env))) := by rfl)
    (he : starEach (e :: es) X.env = (false, eval e X.env) :: starEach es X.env := by rfl) (hpl : (backTo pos (starEach es X.env)).any (·.1) = false := by rfl) :
    PE X (.Call (.Attribute (.Name x p1) "__init__" p2) (e :: es) [] pos) (tCall sp [] E ta) := by
  refine ⟨fun pins s σ H Q I h => PySem.W.methodCall_KW (ld_glob I hg hm ?_ hdb) hc⟩
  refine PySem.W.method_cls I.kIn T.sp (PySem.W.cls_value I.kIn T.rd T.fc rfl ?_)
  refine PySem.W.callWith_K (first := []) (h₀ := X.base) I.ok.mod.kin T.kp (thn (ha.run pos pins _ σ H _ (I.tok _) h) fun us s1 ⟨vs, H1, I1, r, q⟩ => ⟨I1.kIn, ?_⟩) he hpl
  exact run_fn F hr hb .nil hx I1 r q
theorem pmk {C fI : Addr} {B nid iid : String} {tl : List Value} {R : List V → Hp → XK → Prop} (FB : ExcBaseFacts B nid iid tl) (T : ExB X.K C nid tl) (iC : PySem.W.findIn X.K (.ref C) "__init__" = some (some (.ref fI))) (tI : PySem.W.typeIn X.K (.ref fI) = some (.type "function"))
    (F1 : FnOk X.prog X.w X.K X.mg X.base CX k fI fd ps sp) (hr : Room (k + 1) X.A) (hb : L2.Binds X.K fd ps []) (hx : Passes CX X (fun _ _ _ => False)) (hg : Gl X x) (hm : X.mg x = some (.ref C)) (ha : PA X (e :: es) ta) (hR : ∀ vs H1 Q, R vs H1 Q → mkW C sp vs H1 Q)
    (hdb : (x == ("__debug__" : Str)) = false := by decide) (he : starEach (e :: es) X.env = (false, eval e X.env) :: starEach es X.env := by rfl) (hpl : (backTo pos (starEach es X.env)).any (·.1) = false := by rfl) :
    L2N.PMk X (.Call (.Name x p) (e :: es) [] pos) (fun σ H Q => ta σ H fun vs H1 => R vs H1 Q) := by
  intro pins s σ H Q I h
  refine wpAny_Call_Name_kw (ld_glob I hg hm ?_ hdb)
  refine PySem.W.callWith_K (h₀ := X.base) I.ok.mod.kin T.kep (thn (ha.run pos pins s σ H _ I h) fun us s1 ⟨vs, H1, I1, r1, q0⟩ => ⟨I1.kIn, ?_⟩) he hpl
  obtain ⟨hz, q1⟩ := hR _ _ _ q0
  obtain ⟨nm, N, qn, bs, bm, hdct, sn, sub, ab, col, dd, k0, k1, k2, k3, k5, hC, hT⟩ := PySem.W.excInit_of I1.kIn T.ini
  obtain ⟨hp, g, dr, tk, os⟩ := s1
  -- the new exception lies behind its args
  let h1 : Heap := (hp.push (PySem.W.kdv_tup us)).push (PySem.HandSPX.excO C hp.objs.size)
  have kk : ∀ b o, hp.get? b = some o → h1.get? b = some o := fun b o e => Heap.get?_push_of_some _ (Heap.get?_push_of_some _ e)
  have new : h1.get? (hp.objs.size + 1) = some (PySem.HandSPX.excO C hp.objs.size) := by show Heap.get? ((hp.push (PySem.W.kdv_tup us)).push (PySem.HandSPX.excO C hp.objs.size)) _ = _; heap_get
  have hq := q1 (hp.objs.size + 1) (I1.hok.fresh (Nat.le_succ _))
  have I2 : Inv X pins σ (upd H1 (hp.objs.size + 1) (exo (hp.objs.size + 1) C none)) ⟨h1, g, dr, tk, os⟩ := I1.laid (t' := tk) (a := hp.objs.size + 1) (o := exo (hp.objs.size + 1) C none) kk (Nat.le_succ _) (exo_ok new)
  have r2 : Vals (V.ref (hp.objs.size + 1) :: vs) (Value.ref (hp.objs.size + 1) :: us) := .cons rfl r1
  have hl : (Value.ref (hp.objs.size + 1) :: us).length = ps.length := by rw [← r2.length]; exact F1.len _ _ _ _ hq
  have hb2 := hb ⟨h1, g, dr, tk, os⟩ (Value.ref (hp.objs.size + 1) :: us) I2.kIn (by rw [List.append_nil]; exact hl)
  rw [List.append_nil] at hb2
  show wpAny _ _ (call (.ref C) us) _ _ _
  refine wpAny_call (PySem.HandSPX.call_own FB hT hC (PySem.W.looks_findIn I1.kIn iC) (fun self => PySem.W.bind_fn I1.kIn self tI) (by rw [← Paired.length r1, sizeLine_eq]; omega) ?_)
  refine codeAny_mono (F1.run _ X.stack _ _ ⟨Value.ref (hp.objs.size + 1) :: us, []⟩ _ _ _ (fun _ _ _ => False) (hr.make C us []) (I2.env0.make C us []) hb2 r2 hq) fun r s2 z => ?_
  cases r with
  | error er => exact hx pins σ _ _ er s2 I2 z
  | ok fl =>
    cases fl with
    | ret u =>
      obtain ⟨v, H2, os2, bare2, un2, hok2, rv, ev, d, fs, ea, ed, hd1, q2⟩ := z
      subst ev
      obtain ⟨h2, g2, d2, t2, os3⟩ := s2
      obtain ⟨t0, G, J, kG, ge, hoe, na⟩ := mk_end0 (d2 := d2) (t2 := t2) I1 (Nat.le_succ _) kk un2 hok2 os2 bare2 ea ed hd1
      exact ⟨rv, _, _, _, ⟨G, g2, d2, t2, os3⟩, _, .ref C, some d, rfl, J, kG, ge, hoe, ⟨rfl, rfl, fun vs z => by cases z; rfl⟩, rfl, rfl, na, rfl, bare2, raises_own T.sub T.typ, q2⟩
    | _ => exact z.elim
end
end ExX

namespace ExX
open PySem PySem.Spec PyProof.Rows L2
/-- what an except clause's own expression t asks of an exception's class -/
def Tst (X : Cx) (t : Expr) (m : Value → Option Bool) : Prop := ∀ (a : Addr) (oe : Obj) (pn pins : List (Addr × Obj)) (σ : L2.St) (H : Hp) (s : Shared) (b : Bool) (Q : Bool → Shared → Prop) (E : Value → Shared → Prop), Inv (X.suite a ((a, oe) :: pn)) pins σ H s → m oe.cls = some b →
  (∀ h2, (∀ c o, s.heap.get? c = some o → h2.get? c = some o) → Q b { s with heap := h2 }) →
  wpAny (model X.prog X.w) (X.A.mark (some (.ref a))) (eval t X.env) (fun c s1 => wpAny (model X.prog X.w) (X.A.mark (some (.ref a))) (excMatches (.ref a) c) Q E s1) E s
section
variable {X : Cx} {x x1 x2 x3 : Str} {C C1 C2 C3 : Addr} {np np1 np2 np3 tp : Pos}
theorem tst_one (hg : Gl X x) (hm : X.mg x = some (.ref C)) (hdb : (x == ("__debug__" : Str)) = false := by decide) : Tst X (.Name x np) (fun cls => PySem.W.exmOne X.K cls (.ref C)) := by
  intro a oe pn pins σ H s b Q E I hb q
  have at1 := (I.pin (a, oe) (List.mem_append_left _ List.mem_cons_self)).1
  have lt : PySem.W.Looks (model X.prog X.w) s.heap (typeOf (.ref a)) oe.cls := fun A Q E s2 k q => wpAny_typeOf_ref (k _ _ at1) q
  exact ld_glob (X := X.suite a ((a, oe) :: pn)) I hg hm ((PySem.W.exm_one I.kIn lt hb).here (q s.heap fun _ _ e => e)) hdb
theorem tst_two {ctx} (hg1 : Gl X x1) (hm1 : X.mg x1 = some (.ref C1)) (hg2 : Gl X x2) (hm2 : X.mg x2 = some (.ref C2)) (hd1 : (x1 == ("__debug__" : Str)) = false := by decide) (hd2 : (x2 == ("__debug__" : Str)) = false := by decide) :
    Tst X (.Tuple [.Name x1 np1, .Name x2 np2] ctx tp) (fun cls => PySem.W.exmAny X.K cls [.ref C1, .ref C2]) := by
  intro a oe pn pins σ H s b Q E I hb q
  have at1 := (I.pin (a, oe) (List.mem_append_left _ List.mem_cons_self)).1
  refine wpAny_Tuple_spliced (Calls.spliced_cons (ld_glob (X := X.suite a ((a, oe) :: pn)) I hg1 hm1 (Calls.spliced_cons (ld_glob (X := X.suite a ((a, oe) :: pn)) I hg2 hm2 (Calls.spliced_nil ⟨by rw [sizeLine_eq]; simp, ?_⟩) hd2)) hd1))
  have lt : PySem.W.Looks (model X.prog X.w) (s.heap.push { cls := .type "tuple", data := .seq [Value.ref C1, .ref C2].toArray }) (typeOf (.ref a)) oe.cls := fun A Q E s2 k q => wpAny_typeOf_ref (k _ _ (Heap.get?_push_of_some _ at1)) q
  exact (PySem.W.exm_tup2 (I.kIn.keeps fun _ _ e => Heap.get?_push_of_some _ e) lt (Heap.get?_push_size _ rfl) hb).here (q _ fun _ _ e => Heap.get?_push_of_some _ e)
theorem tst_three {ctx} (hg1 : Gl X x1) (hm1 : X.mg x1 = some (.ref C1)) (hg2 : Gl X x2) (hm2 : X.mg x2 = some (.ref C2)) (hg3 : Gl X x3) (hm3 : X.mg x3 = some (.ref C3)) (hd1 : (x1 == ("__debug__" : Str)) = false := by decide) (hd2 : (x2 == ("__debug__" : Str)) = false := by decide) (hd3 : (x3 == ("__debug__" : Str)) = false := by decide) :
    Tst X (.Tuple [.Name x1 np1, .Name x2 np2, .Name x3 np3] ctx tp) (fun cls => PySem.W.exmAny X.K cls [.ref C1, .ref C2, .ref C3]) := by
  intro a oe pn pins σ H s b Q E I hb q
  have at1 := (I.pin (a, oe) (List.mem_append_left _ List.mem_cons_self)).1
  refine wpAny_Tuple_spliced (Calls.spliced_cons (ld_glob (X := X.suite a ((a, oe) :: pn)) I hg1 hm1 (Calls.spliced_cons (ld_glob (X := X.suite a ((a, oe) :: pn)) I hg2 hm2 (Calls.spliced_cons (ld_glob (X := X.suite a ((a, oe) :: pn)) I hg3 hm3 (Calls.spliced_nil ⟨by rw [sizeLine_eq]; simp, ?_⟩) hd3)) hd2)) hd1))
  have lt : PySem.W.Looks (model X.prog X.w) (s.heap.push { cls := .type "tuple", data := .seq [Value.ref C1, .ref C2, .ref C3].toArray }) (typeOf (.ref a)) oe.cls := fun A Q E s2 k q => wpAny_typeOf_ref (k _ _ (Heap.get?_push_of_some _ at1)) q
  exact (PySem.W.exm_tup3 (I.kIn.keeps fun _ _ e => Heap.get?_push_of_some _ e) lt (Heap.get?_push_size _ rfl) hb).here (q _ fun _ _ e => Heap.get?_push_of_some _ e)
end
/-- the ends with the slot i unset -/
def unset (i : Nat) (D : Ends) : Ends := { nx := fun σ H => D.nx (σ.set i none) H, rt := D.rt, bk := fun σ H => D.bk (σ.set i none) H, ct := fun σ H => D.ct (σ.set i none) H }
/-- a clause: whom it takes, the slot of its name, its suite's reading -/
structure Cl where
  m : Value → Option Bool
  slot : Option Nat
  ts : Addr → Value → Option Addr → TS
def Cl.wish (c : Cl) (D : Ends) (a : Addr) (cls : Value) (d : Option Addr) (σ : L2.St) (H : Hp) : Prop := match c.slot with
  | none => c.ts a cls d D σ H
  | some i => c.ts a cls d (unset i D) (σ.set i (some (.ref a))) H
def wCl (Wout : WX) (D : Ends) : List Cl → WX
  | [] => Wout
  | c :: r => fun cls d σ H => ∃ b, c.m cls = some b ∧ (b = true → ∀ a, H a = none → c.wish D a cls d σ H) ∧ (b = false → wCl Wout D r cls d σ H)
inductive ClsOk (X : Cx) : List ExceptHandler → List Cl → Prop
  | nil : ClsOk X [] []
  | only {t : Expr} {m : Value → Option Bool} {ts : Addr → Value → Option Addr → TS} {b0 : Stmt} {su : List Stmt} {ps : Pos} {hds : List ExceptHandler} {l : List Cl} (hc : Tst X t m)
      (hsu : ∀ (a : Addr) (oe : Obj) (cls : Value) (d : Option Addr) (pn : List (Addr × Obj)), L2N.Zn cls d oe → (∃ vs, oe.data = .fields vs) → PSs (X.suite a ((a, oe) :: pn)) (b0 :: su) (ts a cls d)) (r : ClsOk X hds l) :
      ClsOk X (.ExceptHandler (some t) none (b0 :: su) ps :: hds) (⟨m, none, ts⟩ :: l)
  | named {t : Expr} {m : Value → Option Bool} {ts : Addr → Value → Option Addr → TS} {b0 : Stmt} {su : List Stmt} {ps : Pos} {n : Str} {i : Nat} {hds : List ExceptHandler} {l : List Cl} (hN : X.N.Nodup) (hi : X.N[i]? = some n) (hln : X.env.kindOf n = some .local) (hc : Tst X t m)
      (hsu : ∀ (a : Addr) (oe : Obj) (cls : Value) (d : Option Addr) (pn : List (Addr × Obj)), L2N.Zn cls d oe → (∃ vs, oe.data = .fields vs) → PSs (X.suite a ((a, oe) :: pn)) (b0 :: su) (ts a cls d)) (r : ClsOk X hds l) :
      ClsOk X (.ExceptHandler (some t) (some n) (b0 :: su) ps :: hds) (⟨m, some i, ts⟩ :: l)
theorem flying_kept {B h h2 : Heap} {l : List Env} {a : Addr} {Z : Obj → Prop} (fl : HandSPX.FlyingZ B l a Z h) (k : ∀ c o, h.get? c = some o → h2.get? c = some o) : HandSPX.FlyingZ B l a Z h2 := by
  obtain ⟨f1, f2, f3, oe, vs, T, oT, ts, e1, e2, e3, e4, e5, e6, e7, e8⟩ := fl
  exact ⟨fun b o q => k _ _ (f1 b o q), f2, f3.of_keeps fun b o hb _ => ⟨o, k b o hb, rfl⟩, oe, vs, T, oT, ts, k _ _ e1, e2, e3, e4, e5, e6, k _ _ e7, e8⟩
section
variable {X : Cx} {body : List Stmt} {h0 : ExceptHandler} {hds : List ExceptHandler} {l : List Cl} {pos : Pos} {tb : WX → TS} {Wout : WX}
theorem ps_tryC (hs : X.stack = X.env :: X.outer) (hf : X.env.frame = some X.env.locals) (tk : L2N.Takes X Wout)
    (hb : ∀ (W : WX) (pn : List (Addr × Obj)) (xe : Value → Shared → Prop), L2N.Takes (X.tr pn xe) W → PassesOwn (model X.prog X.w) X.A X.env xe → PSs (X.tr pn xe) body (tb W)) (hh : ClsOk X (h0 :: hds) l) :
    PS X (.Try body (h0 :: hds) [] [] pos) (fun D σ H => tb (wCl Wout D l) D σ H) := by
  refine ⟨fun pins s σ H D I h => wpAny_Try_except ?_⟩
  have ok := I.ok
  have hfr : X.A.frames = some (X.env :: X.outer) := hs ▸ ok.frames
  refine wpAny_mono ((hb (wCl Wout D l) (X.pn ++ pins) (fun e s1 => wpAny (model X.prog X.w) X.A (noteFrame e X.env) (fun _ s2 => wpAny (model X.prog X.w) X.A (setFlight e none) (fun _ s3 => wpAny (model X.prog X.w) X.A (handleBy e X.env (h0 :: hds)) (SP X pins D) X.xe s3) X.xe s2) X.xe s1)
    (fun u s1 xx => ?_) PassesOwn.looking).run [] s σ H D (I.toTry _) h) (fun f s1 hsp => ?_) (fun e s1 he => he)
  · obtain ⟨a, B, sI, pinsT, σ1, H1, cls, d, rfl, J0, nb, up, sky, na, os1, ag, w⟩ := xx
    have J : Inv X pins σ1 H1 sI := J0.ofTry ok
    rw [hs] at sky
    show wpAny (model X.prog X.w) X.A (noteFrame (.ref a) X.env) _ _ _
    refine L2N.Sky.land L2N.Zn.steady hfr hf sky fun h3 fl3 up3 => ?_
    -- the clauses, from any heap in which the exception flies
    have go : ∀ {hs2 : List ExceptHandler} {l2 : List Cl}, ClsOk X hs2 l2 → ∀ h4, HandSPX.FlyingZ B (X.env :: X.outer) a (L2N.Zn cls d) h4 → sI.heap.UpToSlots h4 → wCl Wout D l2 cls d σ1 H1 →
        wpAny (model X.prog X.w) X.A (handleBy (.ref a) X.env hs2) (SP X pins D) X.xe { s1 with heap := h4 } := by
      intro hs2 l2 hk
      have su : ∀ {h5 : Heap}, HandSPX.FlyingZ B (X.env :: X.outer) a (L2N.Zn cls d) h5 → sI.heap.UpToSlots h5 → ∃ oe vs, L2N.Zn cls d oe ∧ oe.data = .fields vs ∧ Inv (X.suite a ((a, oe) :: (X.pn ++ pins))) [] σ1 H1 { s1 with heap := h5 } := fun {h5} fl5 up5 => by
        have J5 : Inv X pins σ1 H1 { s1 with heap := h5 } := J.landed nb fl5.1 up5 os1 ag
        obtain ⟨oe, vs, he, hz, hd⟩ := fl5.there
        have nfr : a ∉ frs (X.env :: X.outer) := fun hm => by
          obtain ⟨_, o2, e2, hnf⟩ := fl5.2.2.1.mem hm
          rw [he] at e2
          exact hnf vs (Option.some.inj e2 ▸ hd)
        refine ⟨oe, vs, hz, hd, J5.suite he hd na (fun z => nfr (List.mem_filterMap.mpr ⟨X.env, List.mem_cons_self, by rw [hf, z]⟩)) fun hm => ?_⟩
        obtain ⟨e, he2, q⟩ := List.mem_filterMap.mp hm
        exact nfr (List.mem_filterMap.mpr ⟨e, List.mem_cons_of_mem _ he2, q⟩)
      induction hk with
      | nil =>
        intro h4 fl4 up4 w
        refine wpAny_handleBy_nil ?_
        obtain ⟨k1, k2, k3, oe, vs, T, oT, ts2, he, hz, hd, h1, hr⟩ := id fl4
        unfold PySem.passOn
        refine wpAny_bind (wpAny_field he hd h1 ?_)
        rw [if_neg (show ¬ ((Value.ref T == Value.none) = true) from by simp)]
        have fin : wpAny (model X.prog X.w) X.A (setFlight (.ref a) X.env.frame) (fun _ s4 => wpAny (model X.prog X.w) X.A (throw (.ref a) : Sem Flow) (SP X pins D) X.xe s4) X.xe { s1 with heap := h4 } := by
          rw [hf]
          exact HandSPX.setFlight_upZ fl4 fun h5 hh5 up5 => wpAny_throw (tk _ _ ⟨a, B, sI, pins, σ1, H1, cls, d, rfl, J, nb, up4.trans up5, .inr (.inr (by rw [hs]; exact hh5)), na, os1, ag, w⟩)
        first
          | exact wpAny_bind (wpAny_pure (wpAny_bind fin))
          | exact wpAny_bind fin
      | only hc hsu r ih =>
        intro h4 fl4 up4 w
        obtain ⟨b, hb1, hyes, hno⟩ := w
        obtain ⟨oe, vs, hz, hd, S4⟩ := su fl4 up4
        refine wpAny_handleBy_cons (codeAny_handlers_test (hc a oe _ _ _ _ _ b _ _ S4 (by rw [hz.1]; exact hb1) fun h5 k5 => ?_)) (by intro q; cases q)
        have fl5 := flying_kept fl4 k5
        have up5 : sI.heap.UpToSlots h5 := up4.trans fun c o e _ => ⟨o.slots, k5 c o e⟩
        cases b with
        | true =>
          refine codeAny_handlers_suite (HandSPX.lands_againZ fl5 fun h6 fl6 up6 => ?_)
          obtain ⟨oe6, vs6, hz6, hd6, S6⟩ := su fl6 (up5.trans up6)
          refine wpAny_mono ((hsu a oe6 cls d _ hz6 ⟨_, hd6⟩).run [] _ _ H1 _ S6 (hyes rfl a na)) (fun f s6 hsp => ?_) (fun _ _ z => False.elim z)
          cases f with
          | ret u => obtain ⟨v6, σ6, H6, S7, r6, q6⟩ := hsp; exact ⟨_, _, _, S7.unsuite ok, r6, q6⟩
          | _ => obtain ⟨σ6, H6, S7, q6⟩ := hsp; exact ⟨_, _, S7.unsuite ok, q6⟩
        | false => exact ih h5 fl5 up5 (hno rfl)
      | @named t m ts b0 sui ps n i hds3 l3 hN hi hln hc hsu r ih =>
        intro h4 fl4 up4 w
        obtain ⟨b, hb1, hyes, hno⟩ := w
        obtain ⟨oe, vs, hz, hd, S4⟩ := su fl4 up4
        refine wpAny_handleBy_cons (codeAny_handlers_test (hc a oe _ _ _ _ _ b _ _ S4 (by rw [hz.1]; exact hb1) fun h5 k5 => ?_)) (by intro q; cases q)
        have fl5 := flying_kept fl4 k5
        have up5 : sI.heap.UpToSlots h5 := up4.trans fun c o e _ => ⟨o.slots, k5 c o e⟩
        cases b with
        | true =>
          refine codeAny_handlers_suite_as (HandSPX.lands_againZ fl5 fun h6 fl6 up6 => ?_)
          obtain ⟨oe6, vs6, hz6, hd6, S6⟩ := su fl6 (up5.trans up6)
          refine store_ok (X := X.suite a ((a, oe6) :: (X.pn ++ pins))) (v := .ref a) S6 hN hi (.inl hln) rfl (fun s7 S7 => ?_) (.inr hln)
          refine wpAny_mono ((hsu a oe6 cls d _ hz6 ⟨_, hd6⟩).run [] s7 _ H1 _ S7 (hyes rfl a na)) (fun f s8 hsp => ?_) (fun _ _ z => False.elim z)
          have fin : ∀ {σ8 : L2.St} {H8 : Hp} {Q : Shared → Prop}, Inv (X.suite a ((a, oe6) :: (X.pn ++ pins))) [] σ8 H8 s8 → (∀ s9, Inv X pins (σ8.set i none) H8 s9 → Q s9) →
              wpAny (model X.prog X.w) X.A (do bindName X.env n .none; unbindBehindTheSuite X.env n ps) (fun _ s9 => Q s9) X.xe s8 := fun {σ8 H8 Q} S8 hq => gone_ok (S8.unsuite ok) hN hi hln hq
          cases f with
          | ret u => obtain ⟨v8, σ8, H8, S8, r8, q8⟩ := hsp; exact fin S8 fun s9 J9 => ⟨_, _, _, J9, r8, q8⟩
          | _ => obtain ⟨σ8, H8, S8, q8⟩ := hsp; exact fin S8 fun s9 J9 => ⟨_, _, J9, q8⟩
        | false => exact ih h5 fl5 up5 (hno rfl)
    exact go hh h3 fl3 (up.trans up3) w
  · cases f with
    | next =>
      obtain ⟨σ1, H1, J, q⟩ := hsp
      exact wpAny_execs_nil ⟨σ1, H1, J.ofTry ok, q⟩
    | ret u =>
      obtain ⟨v, σ1, H1, J, r, q⟩ := hsp
      exact ⟨v, σ1, H1, J.ofTry ok, r, q⟩
    | _ =>
      obtain ⟨σ1, H1, J, q⟩ := hsp
      exact ⟨σ1, H1, J.ofTry ok, q⟩
end
end ExX

namespace ExX
open PySem PySem.Spec PyProof.Rows L2
/-- a promise that also speaks of the exception that is handled: its place, class and dict -/
abbrev SpE := Addr → Value → Option Addr → Sp
structure FnE (P : Program) (w : World) (K : PySem.W.Frag) (mg : Str → Option Value) (base : Heap) (CX : CXT) (k : Nat) (f : Addr) (fd : FuncData) (ps : List Str) (sp : SpE) : Prop where
  len : ∀ a cls d vs H Q E, sp a cls d vs H Q E → vs.length = ps.length
  run : ∀ (A : Around) (outer : List Env) (s : Shared) (H : Hp) (args : Args) (us : List Value) (vs : List V) (Q : VK) (E : XK) (p : Addr × Obj) (cls : Value) (d : Option Addr), L2H.RoomH k A → Zc cls d p.2 → (∃ z, p.2.data = .fields z) → L2H.PinOk outer H s p → Env0 P w K mg base A outer s H →
    BindsTo s fd args (ps.zip us) → Vals vs us → sp p.1 cls d vs H Q E → codeAny (model P w) A (.call (.ref f) args) (CR CX outer P w H s Q E) s
theorem fn_ofE {CX : CXT} {P : Program} {w : World} {K : PySem.W.Frag} {mg : Str → Option Value} {base : Heap} {k : Nat} {f : Addr} {name qual : Str} {params : Arguments} {body : List Stmt} {scope : Scope} {dV kV doc pm cdv ct oc : Value} {an od : Option Addr} {osl : Array (Option Value)} {N ps : List Str} {sp : SpE}
    (lk : K.lookup f = some ⟨oc, od, .func (PySem.W.fnOf name qual params body scope dV kV doc pm an cdv ct), osl⟩) (hcd : PySem.W.codeIn K cdv qual = true) (S : FnScope N ps scope) (len : ∀ a cls d vs H Q E, sp a cls d vs H Q E → vs.length = ps.length)
    (hbody : ∀ (A : Around) (outer : List Env) (s : Shared) (H : Hp) (vs : List V) (Q : VK) (E : XK) (p : Addr × Obj) (cls : Value) (d : Option Addr), Zc cls d p.2 → (∃ z, p.2.data = .fields z) → L2H.RoomH k (A.deeper (envOfC qual scope s.heap.objs.size f cdv)) → sp p.1 cls d vs H Q E →
      ∃ t, PSs (L2H.cxH CX P w K mg base N qual scope f cdv A outer s H E p) body t ∧ t { nx := fun _ H1 => Q .non H1, rt := Q } (L2.start N vs) H) :
    FnE P w K mg base CX (k + 1) f (PySem.W.fnOf name qual params body scope dV kV doc pm an cdv ct) ps sp := by
  refine ⟨len, fun A outer s H args us vs Q E p cls d hr hz hd hpin e0 hb r hsp => ?_⟩
  have KX : K.In s.heap := e0.mod.kin.keeps fun b o e => (e0.bs b o e).1
  have hkind : ∀ y ∈ ps.zip us, scope.names.lookup y.1 = some .local ∨ (scope.names.lookup y.1 = some .cell ∧ ((cellsFrom (s.heap.objs.size + 1) scope.names []).lookup y.1).isSome = true) := fun y hy =>
    (S.par y.1 (List.of_mem_zip hy).1).imp id fun q => ⟨q, PySem.W.cellsFrom_some _ _ _ (.inl q)⟩
  refine codeAny_call_function hr.depth (KX _ _ lk) rfl S.co S.gen rfl (PySem.W.codeRec_of KX hcd) (hb _ _ _ _ (wpAny_newFunctionEnv_cells S.kind hkind fun env he s1 x => ?_))
  subst he
  refine ⟨(e0.mod.nolimit.keeps fun b o e => (e0.bs b o e).1).keeps x.toInCall.keep, codeAny_func ?_⟩
  obtain ⟨t, ht, hq⟩ := hbody A outer s H vs Q E p cls d hz hd (hr.deeper _) hsp
  have I : Inv (L2H.cxH CX P w K mg base N qual scope f cdv A outer s H E p) [] (L2.start N vs) H s1 := L2H.inv_startH S hpin e0 (len _ _ _ _ _ _ _ hsp) r x
  refine wpAny_mono (ht.run [] s1 (L2.start N vs) H _ I hq) (fun fl s2 hs => ?_) fun e s2 hs => hs
  cases fl with
  | ret u =>
    obtain ⟨v, σ2, H2, J, rv, q⟩ := hs
    exact ⟨v, H2, J.os, J.bare, J.base, J.hok, rv, q⟩
  | next =>
    obtain ⟨σ2, H2, J, q⟩ := hs
    exact ⟨V.non, H2, J.os, J.bare, J.base, J.hok, rfl, q⟩
  | brk =>
    obtain ⟨_, _, _, q⟩ := hs
    exact q.elim
  | cont =>
    obtain ⟨_, _, _, q⟩ := hs
    exact q.elim
/-- the field f of the handled exception -/
def tFe (K : PySem.W.Frag) (a : Addr) (cls : Value) (d : Option Addr) (f : Str) (te : TE) : TE := fun σ H Q => te σ H fun x H1 => x = .ref a ∧
  ∃ (C dd : Addr) (fs : List (Str × V)) (v : V), cls = .ref C ∧ XfC K C ∧ PySem.W.findIn K (.ref C) f = some none ∧ d = some dd ∧ H1 dd = some (.xd fs) ∧ fs.lookup f = some v ∧ Q v H1
section
variable {X : Cx} {a : Addr} {oe : Obj} {cls : Value} {d : Option Addr} {e : Expr} {te : TE} {pos q : Pos} {n x : Str}
theorem pe_fe (hp : (a, oe) ∈ X.pn) (hz : Zc cls d oe) (hf : ∃ z, oe.data = .fields z) (he : PE X e te) (hb : attributeBase e n X.env (eval e X.env) = eval e X.env := by rfl) : PE X (.Attribute e n pos) (tFe X.K a cls d n te) := by
  refine ⟨fun pins s σ H Q I h => attr_of hb (thn (he.run pins s σ H _ I h) fun u s1 ⟨z, H1, I1, rx, ex, C, dd, fs, v, ec, T, hno, ed, ea, l, w⟩ => ?_)⟩
  subst ex ec ed
  obtain rfl : u = Value.ref a := rx
  have ha := (I1.pin (a, oe) (List.mem_append_left _ hp)).1
  obtain ⟨vs, hd⟩ := hf
  obtain ⟨mA, hns, hr⟩ : ObjOk X.prog X.w H1 s1.heap dd (.xd fs) := I1.hok dd _ ea
  obtain ⟨od, ho, hl⟩ := lookIn_ns hns
  obtain ⟨u, hu, ru⟩ := RelO.some_of (v := v) (o := mA n) (by rw [← l]; exact hr n)
  exact HandSPX.exc_get I1.kIn (⟨ha, hz.1, by unfold PySem.W.notCls; rw [hd] <;> rfl, by rw [hz.2]; exact ho⟩ : PySem.W.InstAt s1.heap a oe C (some od)) T.ga T.gg T.exC (PySem.W.findObj_own T.hdC hno rfl (by rw [hl, hu])) (handed_of ru) ⟨v, H1, I1.tok _, ru, w⟩
variable {CX : CXT} {k : Nat} {f : Addr} {fd : FuncData} {ps : List Str} {sp : SpE} {E : XK} {es : List Expr} {t : TA}
/-- f(e, ..) where an exception is handled -/
theorem pe_callE (F : FnE X.prog X.w X.K X.mg X.base CX k f fd ps sp) (hr : L2H.RoomH k X.A) (hp : (a, oe) ∈ X.pn) (hz : Zc cls d oe) (hf : ∃ z, oe.data = .fields z) (hg : Gl X x) (hm : X.mg x = some (.ref f)) (hk : PySem.W.keepIn X.K (.ref f) = true) (hb : L2.Binds X.K fd ps []) (hx : Passes CX X E)
    (hargs : PA X (e :: es) t) (hdb : (x == ("__debug__" : Str)) = false := by decide) (he : starEach (e :: es) X.env = (false, eval e X.env) :: starEach es X.env := by rfl) (hpl : (backTo pos (starEach es X.env)).any (·.1) = false := by rfl) :
    PE X (.Call (.Name x q) (e :: es) [] pos) (tCall (sp a cls d) [] E t) := by
  refine ⟨fun pins s σ H Q I h => wpAny_Call_Name_kw (ld_glob I hg hm ?_ hdb)⟩
  refine PySem.W.callWith_K (h₀ := X.base) I.ok.mod.kin hk (thn (hargs.run pos pins s σ H _ I h) fun us s1 ⟨vs, H1, I1, r, w⟩ => ⟨I1.kIn, ?_⟩) he hpl
  replace w : sp a cls d (vs ++ []) H1 Q E := w
  rw [List.append_nil] at w
  have hl : us.length = ps.length := by rw [← r.length]; exact F.len _ _ _ _ _ _ _ w
  have b := hb s1 us I1.kIn (by rw [List.append_nil]; exact hl)
  rw [List.append_nil] at b
  have P1 := I1.pin (a, oe) (List.mem_append_left _ hp)
  have hpin : L2H.PinOk X.stack H1 s1 (a, oe) := ⟨P1.1, P1.2.1, fun hm => (List.mem_cons.mp (I1.stkSub a hm)).elim P1.2.2.1 P1.2.2.2.1, P1.2.2.2.2⟩
  refine wpAny_call (codeAny_mono (F.run X.A X.stack s1 H1 ⟨us, []⟩ us vs Q E (a, oe) cls d hr hz hf hpin I1.env0 b r w) fun r s2 hq => ?_)
  cases r with
  | error e => exact hx pins σ H1 s1 e s2 I1 hq
  | ok fl =>
    cases fl with
    | ret u => exact I1.after hq
    | _ => exact hq.elim
end
end ExX

namespace ExX
open PySem PySem.Spec PyProof.Rows L2 LamX
theorem un_over {fs fs2 : List Addr} {H H1 H2 : Hp} {h h1 h2 : Heap} (a : Un fs [] H H1 h h1) (b : Un fs2 [] H1 H2 h1 h2) (hl : ∀ c ∈ fs2, c ∈ fs ∨ h.objs.size ≤ c) : Un fs [] H H2 h h2 where
  keep := fun c o q n hc _ => b.keep c o (a.keep c o q n hc (by simp)) (a.free c o q n (by simp)) (fun z => (hl c z).elim hc fun y => Nat.not_lt.mpr y (Heap.lt_size q)) (by simp)
  slot := fun c o q n hc _ => by
    obtain ⟨sl, e⟩ := a.slot c o q n hc (by simp)
    obtain ⟨sl2, e2⟩ := b.any e (a.free c o q n (by simp)) (by simp)
    exact ⟨sl2, e2⟩
  free := fun c o q n _ => by
    obtain ⟨sl, e⟩ := a.any q n (by simp)
    exact b.free c _ e (a.free c o q n (by simp)) (by simp)
  there := fun c o q _ => by
    obtain ⟨o1, e⟩ := a.there c o q (by simp)
    exact b.there c o1 e (by simp)
  tups := fun c xs q => b.tups c xs (a.tups c xs q)
  frzs := fun c o u q => b.frzs c o u (a.frzs c o u q)
  tbls := fun c ps q => by
    obtain ⟨m, e⟩ := a.tbls c ps q
    obtain ⟨m2, e2⟩ := b.tbls c _ e
    exact ⟨m ++ m2, by rw [e2, Array.append_assoc]⟩
/-- the lambda at f, its code object at c2, made in X -/
def CloO (X : Cx) (params : Arguments) (body : Expr) (scope : Scope) (f c2 : Addr) : HO := .ext fun h => ∃ pm ctv : Value, h.get? f = some (PySem.W.kla_obj "<lambda>" (X.env.qual ++ "<lambda>") params body scope (cloFrom X.env.cells scope.names []) pm c2 ctv)
theorem cloO_tbl {X : Cx} {params : Arguments} {body : Expr} {scope : Scope} {f c2 : Addr} (ps : Array Value) : CloO X params body scope f c2 ≠ .tbl ps := fun z => by
  unfold CloO at z
  cases z
theorem clo_ok {X : Cx} {params : Arguments} {body : Expr} {scope : Scope} {f c2 : Addr} {P : Program} {w : World} {H : Hp} {h : Heap} {pm ctv : Value} (e : h.get? f = some (PySem.W.kla_obj "<lambda>" (X.env.qual ++ "<lambda>") params body scope (cloFrom X.env.cells scope.names []) pm c2 ctv)) :
    ObjOk P w H h f (CloO X params body scope f c2) := ⟨⟨pm, ctv, e⟩, ⟨_, e⟩, fun h1 h2 ⟨a, b, c⟩ st => ⟨a, b, st _ c⟩⟩
section
variable {X : Cx} {pins : List (Addr × Obj)} {σ : L2.St} {H : Hp} {s : Shared}
/-- a lambda is made and tracked -/
theorem lam_made {T : List (Addr × Str)} {c P : Addr} {params : Arguments} {body : Expr} {scope : Scope} {pos : Pos} {E : Value → Shared → Prop} {Q : Value → Shared → Prop} (I : Inv X pins σ H s) (TB : TabB X.base X.mg c P) (hcode : X.env.code = .ref c)
    (hm : (P, X.env.qual ++ "<lambda>") ∈ T) (hu : ∀ p ∈ T, p.1 = P → p.2 = X.env.qual ++ "<lambda>") (hT : Tabs T H) (hdef : defaultsOf params X.env = ([], [])) (hfree : ∀ y ∈ scope.names, y.2 = .free → ∃ c, X.env.cells.lookup y.1 = some c)
    (h : ∀ (f c2 : Addr) (H1 : Hp) (s1 : Shared), Inv X pins σ (upd H1 f (CloO X params body scope f c2)) s1 → ExtN H H1 → Tabs T H1 → H1 f = none → H1 c2 = some (CodeO c2 (X.env.qual ++ "<lambda>")) → Q (.ref f) s1) :
    wpAny (model X.prog X.w) X.A (eval (.Lambda params body scope pos) X.env) Q E s := by
  obtain ⟨ps, hP, ht, ha⟩ := hT _ hm
  refine PySem.W.kla_eval hdef ?_
  have bP : s.heap.BuiltinsAt X.mg P := TB.bm.keeps I.bk
  have hPs : s.heap.get? P = some { cls := .none, data := .fields ps } := I.hok P _ hP
  cases hc : codeAmong pos ps.toList with
  | none =>
    refine PySem.W.kla_makeFunction (mg := X.mg) (c := c) (P := P) (ps := ps) (closure_ok hfree) I.ok.glob (I.mod.glob.keeps I.bk) hcode (TB.code.keeps I.bk) hPs ht hc TB.gP bP fun c2 ctv h2 tk hx hge hlt hrec htb => ?_
    obtain ⟨c3, oc, vs, t, e2, hoc, hd, hv⟩ := hrec
    cases e2
    have nC : H c2 = none := I.hok.fresh hge
    have I1 := inv_table (t' := tk) (more := #[rawInt pos.line, rawInt pos.col, .ref c2]) (h' := h2) I hP hx htb hge ⟨oc, vs, t, hoc, hd, hv⟩
    have hE : ExtN H (upd (upd H P (.tbl (ps ++ #[rawInt pos.line, rawInt pos.col, .ref c2]))) c2 (CodeO c2 (X.env.qual ++ "<lambda>"))) := fun b o e n => by
      rw [upd_ne (ne_of_none e nC), upd_ne (show b ≠ P from fun z => n ps (Option.some.inj (e.symm.trans (by rw [z]; exact hP))))]
      exact e
    have eL : (ps ++ #[rawInt pos.line, rawInt pos.col, .ref c2]).toList = ps.toList ++ [rawInt pos.line, rawInt pos.col, .ref c2] := by simp
    refine h h2.objs.size c2 _ _ (I1.laid (t' := tk) (fun _ _ e => Heap.get?_push_of_some _ e) (Nat.le_refl _) (clo_ok (Heap.get?_push_size _ rfl))) hE (fun p hp => ?_) (I1.hok.fresh (Nat.le_refl _)) upd_same
    by_cases hb : p.1 = P
    · refine ⟨_, by rw [hb, upd_ne (ne_of_none hP nC), upd_same], by rw [eL]; exact PySem.TriplesOk_snoc _ _ _ _ ht, fun pz cv hcv => ?_⟩
      rw [eL] at hcv
      rw [hu p hp hb]
      rcases among_app _ ht hcv with z | z
      · obtain ⟨c0, e1, e2⟩ := ha pz cv z
        exact ⟨c0, e1, hE _ _ e2 codeO_ne⟩
      · exact ⟨c2, z, upd_same⟩
    · obtain ⟨psz, a1, a2, a3⟩ := hT p hp
      refine ⟨psz, by rw [upd_ne (ne_of_none a1 nC), upd_ne hb]; exact a1, a2, fun pz cv hcv => ?_⟩
      obtain ⟨c0, e1, e2⟩ := a3 pz cv hcv
      exact ⟨c0, e1, hE _ _ e2 codeO_ne⟩
  | some cv =>
    obtain ⟨c2, e, hco⟩ := ha pos cv hc
    subst e
    refine PySem.W.kla_makeFunctionHit (mg := X.mg) (c := c) (P := P) (ps := ps) (closure_ok hfree) I.ok.glob (I.mod.glob.keeps I.bk) hcode (TB.code.keeps I.bk) hPs ht hc bP fun ctv h2 tk hx hsz => ?_
    have I1 : Inv X pins σ H { s with heap := h2, toks := tk } := I.kept hx
    exact h h2.objs.size c2 H _ (I1.laid (t' := tk) (fun _ _ e => Heap.get?_push_of_some _ e) (Nat.le_refl _) (clo_ok (Heap.get?_push_size _ rfl))) (ExtN.refl H) hT (I1.hok.fresh (Nat.le_refl _)) hco
end
/-- what is at f acts as tl tells, called from behind s0, H0 -/
structure Acts (P : Program) (w : World) (K : PySem.W.Frag) (mg : Str → Option Value) (base : Heap) (k : Nat) (fs : List Addr) (f : Addr) (s0 : Shared) (H0 : Hp) (tl : XK → Hp → VK → Prop) : Prop where
  fn : ∀ (s1 : Shared) (HZ : Hp) (Q : VK) (E : XK), HOk P w HZ s1.heap → tl E HZ Q → PySem.W.FnAt f s1.heap
  run : ∀ (A : Around) (outer : List Env) (s1 : Shared) (HZ : Hp) (Q : VK) (E : XK), Room k A → Env0 P w K mg base A outer s1 HZ → Un fs [] H0 HZ s0.heap s1.heap → tl E HZ Q →
    codeAny (model P w) A (.call (.ref f) ⟨[], []⟩) (CR (L2N.CX P w) outer P w HZ s1 Q E) s1
/-- the context of a lambda's body: what is raised there has no context of its own -/
abbrev lamC (X : Cx) (A : Around) (outer : List Env) (s : Shared) (H : Hp) (E : XK) (scope : Scope) (f c2 : Addr) : Cx := (lamCx X A outer s H E scope f c2).wish fun e s1 =>
  wpAny (model X.prog X.w) (A.deeper (lamEnv X scope s.heap.objs.size f c2)) (leaving (lamEnv X scope s.heap.objs.size f c2) e) (fun _ s2 => L2N.CX X.prog X.w outer H s E e s2) (fun e2 s2 => L2N.CX X.prog X.w outer H s E e2 s2) s1
/-- a lambda of X's text: what its body reads -/
structure LamD (X : Cx) (k : Nat) where
  params : Arguments
  body : Expr
  scope : Scope
  tb : XK → TE
  L : LamS X.env.scope scope
  hbind : ∀ (q : Str) (cl : List (Str × Addr)) (pm cv ctv : Value), bindArgs (PySem.W.kla_fn "<lambda>" q params body scope cl pm cv ctv) ⟨[], []⟩ = pure []
  hbody : ∀ (f c2 : Addr) (E : XK) (A : Around) (outer : List Env) (s : Shared) (H : Hp), Room k (A.deeper (lamEnv X scope s.heap.objs.size f c2)) → PE (lamC X A outer s H E scope f c2) body (tb E)
/-- such a lambda stands at f -/
def LamD.At {X : Cx} {k : Nat} (D : LamD X k) (f : Addr) (H : Hp) : Prop := ∃ c2, H f = some (CloO X D.params D.body D.scope f c2) ∧ H c2 = some (CodeO c2 (X.env.qual ++ "<lambda>"))
/-- what it does, made with the slots σ -/
def LamD.does {X : Cx} {k : Nat} (D : LamD X k) (f : Addr) (σ : L2.St) : XK → Hp → VK → Prop := fun E HZ Q => D.At f HZ ∧ D.tb E σ HZ Q
section
variable {X : Cx} {pins : List (Addr × Obj)} {σ : L2.St} {H : Hp} {s : Shared}
theorem acts_of {k : Nat} (D : LamD X k) {f : Addr} (I : Inv X pins σ H s) : Acts X.prog X.w X.K X.mg X.base (k + 1) (frs X.stack) f s H (D.does f σ) := by
  refine ⟨fun s1 HZ Q E hok ⟨⟨c2, hcf, hcc⟩, ht⟩ => ?_, fun A outer s1 HZ Q E hr e0 un ⟨⟨c2, hcf, hcc⟩, ht⟩ => ?_⟩
  · obtain ⟨⟨pm, ctv, of1⟩, _, _⟩ := hok f _ hcf
    exact ⟨_, _, _, _, of1⟩
  obtain ⟨⟨pm, ctv, of1⟩, _, _⟩ := e0.hok f _ hcf
  obtain ⟨⟨oc, vs, t, hoc, hdc, hvc⟩, _, _⟩ := e0.hok c2 _ hcc
  refine PySem.W.kla_callFunE hr.depth of1 rfl D.L.co D.L.gen rfl ⟨c2, oc, vs, t, rfl, hoc, hdc, hvc⟩ ?_
  rw [D.hbind]
  have lim : s1.heap.NoLimit := e0.mod.nolimit.keeps fun b o e => (e0.bs b o e).1
  refine wpAny_pure (wpAny_newFunctionEnv (fun y hy => (D.L.own y hy).2) (fun y hy => absurd hy (by simp)) (fun h1 hns hsb => ⟨lim.fresh _ hsb, ?_⟩) D.L.kind)
  show codeAny _ _ (.expr D.body (lamEnv X D.scope s1.heap.objs.size f c2)) _ _
  have kp : ∀ b o, s1.heap.get? b = some o → h1.get? b = some o := fun b o e => hsb.extBut b o (Nat.ne_of_lt (Heap.lt_size e)) (Heap.get?_push_of_some _ e)
  have J : Inv (lamCx X A outer s1 HZ E D.scope f c2) [] σ HZ { s1 with heap := h1, toks := s1.toks + ([] : List (Str × Value)).length } := lam_start2 I D.L e0 hr.hd un hns kp
  refine PySem.W.kla_codeExpr (wpAny_mono ((D.hbody f c2 E A outer s1 HZ (hr.deeper _)).run [] _ _ HZ Q (J.wish _) ht) (fun v s2 hq => ?_) fun e s2 hq => hq)
  obtain ⟨w2, H2, J2, rv, q⟩ := hq
  exact ⟨w2, H2, J2.os, J2.bare, J2.base, J2.hok, rv, q⟩
end
/-- a(), a the name of what acts -/
theorem pe_do {Z : Cx} {W : WX} {k i : Nat} {a : Str} {f : Addr} {fs : List Addr} {s0 : Shared} {H0 : Hp} {tl : XK → Hp → VK → Prop} {p1 p2 : Pos} (ac : Acts Z.prog Z.w Z.K Z.mg Z.base k fs f s0 H0 tl) (hr : Room k Z.A) (hex : Z.ex = []) (hU : Un fs [] H0 Z.H_0 s0.heap Z.s_0.heap)
    (ho : ∀ c ∈ frs Z.outer, c ∈ fs ∨ s0.heap.objs.size ≤ c) (tk : L2N.Takes Z W) (hN : Z.N[i]? = some a) (hv : Vis Z.env.scope a) (hd : (a == ("__debug__" : Str)) = false := by decide) (hcd : (a == ("__classdict__" : Str)) = false := by decide) :
    PE Z (.Call (.Name a p1) [] [] p2) (fun σ H Q => σ[i]? = some (some (.ref f)) ∧ ∃ (E1 : XK) (Q1 : VK), tl E1 H Q1 ∧ (∀ cls d H1, E1 cls d H1 → W cls d σ H1) ∧ ∀ v H1, Q1 v H1 → Q v H1) := by
  refine ⟨fun pins s σ H Q I ⟨hs, E1, Q1, ht, hE, hQ⟩ => wpAny_Call_Name_kw (thn ((pe_var (pos := p1) (i := i) hN hv hd hcd).run pins s σ H (fun v H1 => v = .ref f ∧ H1 = H) I ⟨.ref f, hs, rfl, rfl⟩) fun u s1 ⟨v, H1, I1, r1, ev, eH⟩ => ?_)⟩
  subst ev eH
  obtain rfl : u = Value.ref f := r1
  have base : Un (frs Z.outer) [] Z.H_0 H1 Z.s_0.heap s1.heap := hex ▸ I1.base
  refine PySem.W.callWith_F0 (ac.fn _ _ _ _ I1.hok ht) (wpAny_call (codeAny_mono (ac.run Z.A Z.stack s1 H1 Q1 E1 hr I1.env0 (un_over hU base ho) ht) fun r s2 hq => ?_))
  cases r with
  | error e => exact tk e s2 (L2N.XE.of_call I1 (fun cls d H2 z => hE cls d H2 z) hq)
  | ok fl =>
    cases fl with
    | ret u =>
      obtain ⟨v, H2, c1, c2, c3, c4, c5, c6⟩ := hq
      exact I1.after ⟨v, H2, c1, c2, c3, c4, c5, hQ _ _ c6⟩
    | _ => exact hq.elim
/-- a def of one parameter, handed what acts; it lets nothing out -/
structure FnL (P : Program) (w : World) (K : PySem.W.Frag) (mg : Str → Option Value) (base : Heap) (k : Nat) (g : Addr) (TT : (XK → Hp → VK → Prop) → Hp → VK → Prop) : Prop where
  run : ∀ (kk : Nat) (f : Addr) (fs : List Addr) (s0 : Shared) (H0 : Hp) (tl : XK → Hp → VK → Prop), Acts P w K mg base kk fs f s0 H0 tl → ∀ (A : Around) (outer : List Env) (s : Shared) (H : Hp) (Q : VK), Room (kk + k) A → Env0 P w K mg base A outer s H → Un fs [] H0 H s0.heap s.heap →
    (∀ c ∈ frs outer, c ∈ fs ∨ s0.heap.objs.size ≤ c) → s0.heap.objs.size ≤ s.heap.objs.size → TT tl H Q → codeAny (model P w) A (.call (.ref g) ⟨[.ref f], []⟩) (CR C8.CX0 outer P w H s Q C8.E0) s
section
variable {P : Program} {w : World} {K : PySem.W.Frag} {mg : Str → Option Value} {base : Heap} {k : Nat} {g : Addr} {TT : (XK → Hp → VK → Prop) → Hp → VK → Prop}
theorem fnL_of {x qual a : Str} {st : Stmt} {fd : FuncData} {N : List Str} (F : Fun K x qual st g fd) (S : FnScope N [a] (defScope st)) (hb : L2.Binds K fd [a] [])
    (hbody : ∀ (kk : Nat) (f : Addr) (fs : List Addr) (s0 : Shared) (H0 : Hp) (tl : XK → Hp → VK → Prop), Acts P w K mg base kk fs f s0 H0 tl → ∀ (cdv : Value) (A : Around) (outer : List Env) (s : Shared) (H : Hp) (Q : VK), Room (kk + k) (A.deeper (envOfC qual (defScope st) s.heap.objs.size g cdv)) → Un fs [] H0 H s0.heap s.heap →
      (∀ c ∈ frs outer, c ∈ fs ∨ s0.heap.objs.size ≤ c) → s0.heap.objs.size ≤ s.heap.objs.size → TT tl H Q → ∃ t, PSs (cxOf C8.CX0 P w K mg base N qual (defScope st) g cdv A outer s H C8.E0) (defBody st) t ∧ t { nx := fun _ H1 => Q .non H1, rt := Q } (L2.start N [.ref f]) H) :
    FnL P w K mg base (k + 1) g TT := by
  refine ⟨fun kk f fs s0 H0 tl ac A outer s H Q hr e0 hU ho hz ht => ?_⟩
  obtain ⟨oc, od, kV, doc, pm, an, cdv, ct, osl, rfl, lk, hcd⟩ := F.ex
  have b := hb s [.ref f] (e0.mod.kin.keeps fun b o e => (e0.bs b o e).1) rfl
  exact run_ofS (k := kk + k) (N := N) (ps := [a]) (us := [.ref f]) (vs := [.ref f]) lk hcd S hr e0 b (.cons rfl .nil) rfl fun hr2 => hbody kk f fs s0 H0 tl ac cdv A outer s H Q hr2 hU ho hz ht
end
section
variable {Z : Cx} {k kk i : Nat} {g : Addr} {TT : (XK → Hp → VK → Prop) → Hp → VK → Prop} {x a : Str} {p p1 pos : Pos}
/-- x(a), a the name of what acts -/
theorem pe_hand {f : Addr} {fs : List Addr} {s0 : Shared} {H0 : Hp} {tl : XK → Hp → VK → Prop} (G : FnL Z.prog Z.w Z.K Z.mg Z.base k g TT) (ac : Acts Z.prog Z.w Z.K Z.mg Z.base kk fs f s0 H0 tl) (hr : Room (kk + k) Z.A) (hex : Z.ex = []) (hU : Un fs [] H0 Z.H_0 s0.heap Z.s_0.heap)
    (ho : ∀ c ∈ frs Z.stack, c ∈ fs ∨ s0.heap.objs.size ≤ c) (hg : Gl Z x) (hm : Z.mg x = some (.ref g)) (hk : PySem.W.keepIn Z.K (.ref g) = true) (hN : Z.N[i]? = some a) (hv : Vis Z.env.scope a) (hos : ∀ c ∈ frs Z.outer, c ∈ frs Z.stack) (hz : s0.heap.objs.size ≤ Z.s_0.heap.objs.size) (hdb : (x == ("__debug__" : Str)) = false := by decide) (hd : (a == ("__debug__" : Str)) = false := by decide)
    (hcd : (a == ("__classdict__" : Str)) = false := by decide) (he : starEach [Expr.Name a p1] Z.env = (false, eval (.Name a p1) Z.env) :: starEach [] Z.env := by rfl) (hpl : (backTo pos (starEach [] Z.env)).any (·.1) = false := by rfl) :
    PE Z (.Call (.Name x p) [.Name a p1] [] pos) (fun σ H Q => σ[i]? = some (some (.ref f)) ∧ TT tl H Q) := by
  refine ⟨fun pins s σ H Q I ⟨hs, ht⟩ => wpAny_Call_Name_kw (ld_glob I hg hm ?_ hdb)⟩
  refine PySem.W.callWith_K (h₀ := Z.base) I.ok.mod.kin hk (thn ((pa_cons (pe_var (pos := p1) (i := i) hN hv hd hcd) pa_nil).run pos pins s σ H (fun vs H1 => vs = [.ref f] ∧ H1 = H) I ⟨.ref f, hs, rfl, rfl⟩) fun us s1 ⟨vs, H1, I1, r, ev, eH⟩ => ⟨I1.kIn, ?_⟩) he hpl
  subst ev eH
  cases r with
  | @cons _ u0 _ ur ra rw2 =>
    cases rw2
    obtain rfl : u0 = Value.ref f := ra
    have base : Un (frs Z.outer) [] Z.H_0 H1 Z.s_0.heap s1.heap := hex ▸ I1.base
    refine wpAny_call (codeAny_mono (G.run kk f fs s0 H0 tl ac Z.A Z.stack s1 H1 Q hr I1.env0 (un_over hU base fun c hc => ho c (hos c hc)) ho (Nat.le_trans hz I1.sz) ht) fun r s2 hq => ?_)
    cases r with
    | error e => exact (show False from hq).elim
    | ok fl =>
      cases fl with
      | ret u => exact I1.after hq
      | _ => exact hq.elim
/-- x(e), e giving a lambda of the def's own text -/
theorem pe_give {e : Expr} {te : TE} (G : FnL Z.prog Z.w Z.K Z.mg Z.base k g TT) (hr : Room (kk + 1 + k) Z.A) (hg : Gl Z x) (hm : Z.mg x = some (.ref g)) (hk : PySem.W.keepIn Z.K (.ref g) = true) (h1 : PE Z e te) (hdb : (x == ("__debug__" : Str)) = false := by decide)
    (he : starEach [e] Z.env = (false, eval e Z.env) :: starEach [] Z.env := by rfl) (hpl : (backTo pos (starEach [] Z.env)).any (·.1) = false := by rfl) :
    PE Z (.Call (.Name x p) [e] [] pos) (fun σ H Q => te σ H fun v H1 => ∃ (f : Addr) (D : LamD Z kk), [v] = [V.ref f] ∧ TT (D.does f σ) H1 Q) := by
  refine ⟨fun pins s σ H Q I h => wpAny_Call_Name_kw (ld_glob I hg hm ?_ hdb)⟩
  refine PySem.W.callWith_K (h₀ := Z.base) I.ok.mod.kin hk (thn ((pa_cons h1 pa_nil he).run pos pins s σ H (fun vs H1 => ∃ (f : Addr) (D : LamD Z kk), vs = [.ref f] ∧ TT (D.does f σ) H1 Q) I h) fun us s1 ⟨vs, H1, I1, r, f, D, ev, ht⟩ => ⟨I1.kIn, ?_⟩) he hpl
  subst ev
  cases r with
  | @cons _ u0 _ ur ra rw2 =>
    cases rw2
    obtain rfl : u0 = Value.ref f := ra
    refine wpAny_call (codeAny_mono (G.run (kk + 1) f (frs Z.stack) s1 H1 _ (acts_of D I1) Z.A Z.stack s1 H1 Q hr I1.env0 Un.refl (fun c hc => .inl hc) (Nat.le_refl _) ht) fun r s2 hq => ?_)
    cases r with
    | error e => exact (show False from hq).elim
    | ok fl =>
      cases fl with
      | ret u => exact I1.after hq
      | _ => exact hq.elim
/-- lambda: body -/
theorem pe_lam {T : List (Addr × Str)} {c PT : Addr} (D : LamD Z kk) (TB : TabB Z.base Z.mg c PT) (hcode : Z.env.code = .ref c) (hmT : (PT, Z.env.qual ++ "<lambda>") ∈ T) (hu : ∀ q ∈ T, q.1 = PT → q.2 = Z.env.qual ++ "<lambda>") (hdef : defaultsOf D.params Z.env = ([], [])) :
    PE Z (.Lambda D.params D.body D.scope pos) (fun _ H Q => Tabs T H ∧ ∀ f H1, ExtN H H1 → Tabs T H1 → D.At f H1 → Q (.ref f) H1) := by
  refine ⟨fun pins s σ H Q I ⟨hT, h⟩ => lam_made I TB hcode hmT hu hT hdef (D.L.has I.ok) fun f c2 H1 s1 I1 eN T1 nf hc => ?_⟩
  have ne : ∀ {b : Addr} {o : HO}, H1 b = some o → upd H1 f (CloO Z D.params D.body D.scope f c2) b = some o := fun {b o} e => by rw [upd_ne (ne_of_none e nf)]; exact e
  exact ⟨.ref f, _, I1, rfl, h f _ (fun b o e n => ne (eN b o e n)) (T1.ext fun b o e => ne e) ⟨c2, upd_same, ne hc⟩⟩
/-- x(lambda: body) -/
theorem pe_ask {T : List (Addr × Str)} {c PT : Addr} {lp : Pos} (D : LamD Z kk) (G : FnL Z.prog Z.w Z.K Z.mg Z.base k g TT) (hr : Room (kk + 1 + k) Z.A) (hg : Gl Z x) (hm : Z.mg x = some (.ref g)) (hk : PySem.W.keepIn Z.K (.ref g) = true) (TB : TabB Z.base Z.mg c PT) (hcode : Z.env.code = .ref c)
    (hmT : (PT, Z.env.qual ++ "<lambda>") ∈ T) (hu : ∀ q ∈ T, q.1 = PT → q.2 = Z.env.qual ++ "<lambda>") (hdef : defaultsOf D.params Z.env = ([], [])) (hdb : (x == ("__debug__" : Str)) = false := by decide)
    (he : starEach [.Lambda D.params D.body D.scope lp] Z.env = (false, eval (.Lambda D.params D.body D.scope lp) Z.env) :: starEach [] Z.env := by rfl) (hpl : (backTo pos (starEach [] Z.env)).any (·.1) = false := by rfl) :
    PE Z (.Call (.Name x p) [.Lambda D.params D.body D.scope lp] [] pos) (fun σ H Q => Tabs T H ∧ ∀ f H1, ExtN H H1 → Tabs T H1 → D.At f H1 → TT (D.does f σ) H1 Q) :=
  ⟨fun pins s σ H Q I ⟨h1, h2⟩ => (pe_give (kk := kk) G hr hg hm hk (pe_lam D TB hcode hmT hu hdef) hdb he hpl).run pins s σ H Q I ⟨h1, fun f H1 a b c => ⟨f, D, rfl, h2 f H1 a b c⟩⟩⟩
theorem LamD.At.same {D : LamD Z kk} {f : Addr} {H H1 : Hp} (a : D.At f H) (s : ∀ b o, H b = some o → H1 b = some o) : D.At f H1 := by
  obtain ⟨c2, h1, h2⟩ := a
  exact ⟨c2, s _ _ h1, s _ _ h2⟩
end
end ExX

namespace ExX
open PySem PySem.Spec PyProof.Rows L2
section
variable {prog : Program} {w : World} {A : Around} {E : Value → Shared → Prop} {s : Shared}
/-- a tuple's iterator is at its end, while x1 is handled -/
theorem next_end_hot {it t i : Nat} {items : Array Value} {x1 : Addr} {Q : Option Value → Shared → Prop} (hot : HotX.HotAt A x1 s.heap) (hit : s.heap.IsTupleIter it t i) (ht : s.heap.IsTuple t items) (hx : items[i]? = none) (hne : x1 ≠ it)
    (hQ : ∀ h2, (∀ b o, b ≠ it → s.heap.get? b = some o → h2.get? b = some o) → Q none { s with heap := h2 }) : wpAny (model prog w) A (pyNext (.ref it)) Q E s := by
  obtain ⟨hh, o1, v1, h1, d1, c1⟩ := hot
  obtain ⟨o, ho, hc, hd⟩ := id hit
  obtain ⟨ol, hol, hcl, nl, hdl⟩ := id ht
  unfold pyNext
  refine wpAny_bind (wpAny_attempt (wpAny_callSpecial?_slot (name := Str.ofString "__next__") hit.typeIs F.slot_tuple_iterator_next
    (wpAny_call_entry F.slot_tuple_iterator_next hit.typeIs F.entry_tuple_iterator_next ?_ (F.args_tuple_iterator_next_1 _))))
  show wpAny _ _ (field (.ref it) 0 >>= _) _ _ s
  refine wpAny_bind (wpAny_field ho hd (x := .ref t) rfl ?_)
  show wpAny _ _ (if (Value.ref t == Value.none) = true then _ else _) _ _ s
  rw [if_neg (show ¬ ((Value.ref t == Value.none) = true) from by simp)]
  show wpAny _ _ (field (.ref it) 1 >>= _) _ _ s
  refine wpAny_bind (wpAny_field ho hd (x := .int i 0) rfl ?_)
  show wpAny _ _ (seqItems? (.ref t) >>= _) _ _ s
  refine wpAny_bind (wpAny_seqItems hol hdl ?_)
  simp only [Int.toNat_natCast, hx]
  refine wpAny_bind (wpAny_rule (wpAny_bind (wpAny_setField ho hd (by simp) ?_)))
  show wpAny _ _ (newExc (.type "StopIteration") [] >>= _) _ _ _
  refine wpAny_bind ?_
  simp only [newExc, newTuple]
  refine wpAny_bind (wpAny_newObj_type ?_ (by size_fits))
  refine wpAny_bind (m := firstArgMember _ _) (wpAny_of_eq (a := Value.none) (by first | rfl | (simp only [firstArgMember]; rfl)) (wpAny_newObj_type ?_ (by size_fits)))
  have k : ∀ b u, b ≠ it → s.heap.get? b = some u → (s.heap.update it (Obj.mapFields (·.setIfInBounds 0 Value.none))).get? b = some u := fun b u hb e => (Heap.get?_update_other _ _ (Ne.symm hb)).trans e
  have sz := Heap.lt_size (k x1 o1 hne h1)
  refine HotX.raiseNew_hot (x1 := x1) ⟨hh, o1, v1, Heap.get?_push_of_some _ (Heap.get?_push_of_some _ (k _ _ hne h1)), d1, c1⟩ (Nat.ne_of_lt (Heap.lt_size (Heap.get?_push_of_some _ (k _ _ hne h1)))) (Heap.get?_push_size _ rfl) rfl (by first | (simp; done) | (simp; omega)) ?_
  refine wpAny_bind (wpAny_isInstance (T := "StopIteration") (b := true) ⟨_, Heap.get?_update_self _ (Heap.get?_push_size _ rfl) rfl, rfl⟩ isSubtype_stop ?_)
  refine wpAny_pure (hQ _ fun b o hb e => ?_)
  rw [Heap.get?_update_other _ _ (Nat.ne_of_gt (Heap.lt_size (Heap.get?_push_of_some _ (k b o hb e))))]
  exact Heap.get?_push_of_some _ (Heap.get?_push_of_some _ (k b o hb e))
theorem unpack_hot {t : Addr} {items : Array Value} {x1 : Addr} {Q : List Value → Shared → Prop} (hot : HotX.HotAt A x1 s.heap) (ht : s.heap.IsTuple t items)
    (hQ : ∀ h2, (∀ b o, b ≠ s.heap.objs.size → s.heap.get? b = some o → h2.get? b = some o) → Q items.toList { s with heap := h2 }) : wpAny (model prog w) A (unpackItems (.ref t) items.size none) Q E s := by
  have hlt : t ≠ s.heap.objs.size := by obtain ⟨o, ho, _⟩ := ht; exact Nat.ne_of_lt (Heap.lt_size ho)
  obtain ⟨hh, o1, v1, h1, d1, c1⟩ := hot
  have hxs : x1 ≠ s.heap.objs.size := Nat.ne_of_lt (Heap.lt_size h1)
  unfold unpackItems
  refine wpAny_bind ?_
  unfold notIterableAtAll
  refine wpAny_bind (wpAny_specialOf ht.typeIs F.slot_tuple_iter.lookup (wpAny_pure ?_))
  simp only [Bool.false_eq_true, if_false]
  refine wpAny_bind (wpAny_holding (wpAny_pyIter_tuple ht ?_))
  refine wpAny_bind (wpAny_holding (wpAny_draw_tuple hlt items.size 0 _ _ ⟨_, Heap.get?_push_size _ rfl, rfl, rfl⟩ (ht.push _) (by omega) fun h2 hit2 hs2 => ?_))
  have all : List.take items.size (List.drop 0 items.toList) = items.toList := by rw [List.drop_zero]; exact List.take_of_length_le (by simp)
  rw [all, if_neg (by simp)]
  have ht2 : h2.IsTuple t items := (ht.push _).extBut hs2.extBut hlt
  refine wpAny_bind (wpAny_holding (next_end_hot (x1 := x1) ⟨hh, o1, v1, hs2.extBut _ _ hxs (Heap.get?_push_of_some _ h1), d1, c1⟩ hit2 ht2 (by simp) hxs fun h3 k3 => ?_))
  simp only [Option.isSome_none, Bool.false_eq_true, if_false]
  exact wpAny_pure (hQ h3 fun b o hb e => k3 b o hb (hs2.extBut b o hb (Heap.get?_push_of_some _ e)))
end
/-- a, b = x, y where an exception is handled -/
theorem ps_parH {X : Cx} {pos : Pos} {i j : Nat} {x y : Str} {a b : Expr} {ta : TA} {px py pt : Pos} {kt k2 pt2} (hc : L2H.HotC X) (hN : X.N.Nodup) (hi : X.N[i]? = some x) (hj : X.N[j]? = some y) (hij : i ≠ j)
    (hx : X.env.scope.names.lookup x = some .local) (hy : X.env.scope.names.lookup y = some .local) (ha : PA X [a, b] ta)
    (hw : swappedStores [.Tuple [.Name x px, .Name y py] kt pt] (.Tuple [a, b] k2 pt2) X.env = pure (some [x, y]))
    (hs : swapsWithSole [.Tuple [.Name x px, .Name y py] kt pt] (.Tuple [a, b] k2 pt2) pos.line X.env = pure false := by rfl) :
    PS X (.Assign [.Tuple [.Name x px, .Name y py] kt pt] (.Tuple [a, b] k2 pt2) pos) (tPar i j ta) := by
  refine ⟨fun pins s σ H D I h => ?_⟩
  rw [exec_Assign_arm]
  refine wpAny_bind (wpAny_standAt ?_)
  rw [hs]
  refine wpAny_bind (wpAny_pure ?_)
  rw [if_neg (by decide)]
  refine wpAny_bind (Tuple_ (thn (ha.run _ pins s σ H _ I h) fun us s1 ⟨vs, H1, I1, r1, v, z, e1, q1⟩ => ?_))
  subst e1
  obtain ⟨u1, u2, rfl, rv, rz⟩ : ∃ u1 u2, us = [u1, u2] ∧ RelV v u1 ∧ RelV z u2 := by
    cases r1 with
    | cons p q =>
      cases q with
      | cons p2 q2 =>
        cases q2
        exact ⟨_, _, rfl, p, p2⟩
  refine wpAny_newObj_type ?_ (by show 2 ≤ sizeLine; decide)
  have I2 : Inv X pins σ H1 { s1 with heap := s1.heap.push { cls := .type "tuple", data := .seq [u1, u2].toArray } } := I1.kept (t' := s1.toks) fun b o e => Heap.get?_push_of_some _ e
  rw [hw]
  refine wpAny_bind (wpAny_pure ?_)
  show wpAny (model X.prog X.w) X.A (do rule "assign.swapped-stores"; let items ← unpackItems (.ref s1.heap.objs.size) 2 none; assignInOrder [fun v => bindName X.env y v, fun v => bindName X.env x v] items.reverse; pure Flow.next) _ _ _
  obtain ⟨x1, hot⟩ := hc.at I2
  refine wpAny_bind (wpAny_rule (wpAny_bind (unpack_hot (items := #[u1, u2]) hot (IsTup.new s1.heap _) fun h2 k2 => ?_)))
  have I3 := I2.kept (h' := h2) (t' := s1.toks) fun b o e => k2 b o (Nat.ne_of_lt (Heap.lt_size e)) e
  show wpAny _ _ (assignInOrder [fun v => bindName X.env y v, fun v => bindName X.env x v] [u2, u1] >>= fun _ => pure Flow.next) _ _ _
  refine wpAny_bind (assignInOrder_cons (wpAny_bindName (store_ok I3 hN hj (.inl hy) rz (fun s2 I4 => ?_) (.inr hy))))
  refine assignInOrder_cons (wpAny_bindName (store_ok I4 hN hi (.inl hx) rv (fun s3 I5 => assignInOrder_nil (wpAny_pure ?_)) (.inr hx)))
  rw [List.set_comm _ _ (Ne.symm hij)] at I5
  exact ⟨_, H1, I5, q1⟩
end ExX

namespace ExX
open PySem PySem.Spec PyProof.Rows L2
abbrev luTail : List Value := [.type "LookupError", .type "Exception", .type "BaseException", .type "object"]
abbrev vaTail : List Value := [.type "ValueError", .type "Exception", .type "BaseException", .type "object"]
/-- the body of a class -/
def clsB : Stmt → List Stmt
  | .ClassDef _ _ _ b _ _ _ _ _ _ _ => b
  | _ => []
abbrev initS (s : Stmt) : Stmt := (clsB s).getD 0 (.Pass ⟨0, 0, 0, 0⟩)
theorem txt_int {i : Int} (h : i.natAbs.log2 < 1920) : (Str.ofString (toString i)).length ≤ 1921 := by
  rw [PySem.ofString_length]
  exact int_text_length_le (by decide) h
theorem fits {z : Str} (h : z.length ≤ 10000) : z.length ≤ sizeLine := by rw [sizeLine_eq]; omega
theorem fits_cat {a b : Str} {m n : Nat} (h1 : a.length ≤ m) (h2 : b.length ≤ n) : (a ++ b).length ≤ m + n := by rw [Str.length_append]; omega
/-- an int whose text is short enough -/
def Prt (v : V) : Prop := ∃ i : Int, v = .int i ∧ i.natAbs.log2 < 1920
/-- __init__ of the two classes above all others -/
def spTop (K : PySem.W.Frag) (nid : String) (tl : List Value) : Sp := fun vs H Q _ => ∃ (a C : Addr) (tag msg : Str), vs = [.ref a, .str tag, .str msg] ∧ H a = some (exo a C none) ∧ ExB K C nid tl ∧ PySem.W.findIn K (.ref C) "tag" = some none ∧
  ∀ dx, H dx = none → dx ≠ a → Q .non (upd (upd H dx (exd dx [("tag", .str tag)])) a (exo a C (some dx)))
/-- __init__ of an error with one field -/
def spErrI (K : PySem.W.Frag) (nid : String) (tl : List Value) (fld tag : Str) : Sp := fun vs H Q _ => ∃ (a C : Addr) (v : V), vs = [.ref a, v] ∧ Prt v ∧ H a = some (exo a C none) ∧ ExB K C nid tl ∧ PySem.W.findIn K (.ref C) "tag" = some none ∧ PySem.W.findIn K (.ref C) fld = some none ∧
  ∀ dx, H dx = none → dx ≠ a → Q .non (upd (upd (upd H dx (exd dx [("tag", .str tag)])) a (exo a C (some dx))) dx (exd dx [(fld, v), ("tag", .str tag)]))
/-- an error is on its way: its class, its dict, new, with the field and the tag -/
def Flies (H : Hp) (E : XK) (C : Addr) (fld tag : Str) (v : V) : Prop := ∀ d H1, H d = none → H1 d = some (.xd [(fld, v), ("tag", .str tag)]) → Same H H1 → E (.ref C) (some d) H1
structure Raisable (P : Program) (w : World) (K : PySem.W.Frag) (mg : Str → Option Value) (base : Heap) (k : Nat) (x : Str) (C : Addr) (fld tag : Str) : Prop where
  ex : ∃ (B nid iid : String) (tl : List Value) (fI : Addr) (fd : FuncData), ExcBaseFacts B nid iid tl ∧ ExB K C nid tl ∧ PySem.W.findIn K (.ref C) "__init__" = some (some (.ref fI)) ∧ PySem.W.typeIn K (.ref fI) = some (.type "function") ∧
    FnOk P w K mg base CX0 k fI fd ["self", fld] (spErrI K nid tl fld tag) ∧ L2.Binds K fd ["self", fld] []
  g : mg x = some (.ref C)
  nt : PySem.W.findIn K (.ref C) "tag" = some none
  nf : PySem.W.findIn K (.ref C) fld = some none
  xf : XfC K C
section
variable {X : Cx} {k : Nat} {x fld tag : Str} {C : Addr} {e : Expr} {te : TE} {p pos : Pos}
theorem mk_flies {K : PySem.W.Frag} {nid : String} {tl : List Value} {vs : List V} {H1 : Hp} {Q : XK} (T : ExB K C nid tl) (nt : PySem.W.findIn K (.ref C) "tag" = some none) (nf : PySem.W.findIn K (.ref C) fld = some none) (h : ∃ v, vs = [v] ∧ Prt v ∧ Flies H1 Q C fld tag v) : mkW C (spErrI K nid tl fld tag) vs H1 Q := by
  obtain ⟨v, rfl, hp, fl⟩ := h
  refine ⟨by show 1 ≤ 1000; decide, fun a na => ⟨a, C, v, rfl, hp, upd_same, T, nt, nf, fun dx nd ne => ⟨rfl, dx, _, ?_, upd_same, ?_, ?_⟩⟩⟩
  · rw [upd_ne ne.symm, upd_same]
  · rw [upd_ne ne] at nd
    exact nd
  · rw [upd_ne ne] at nd
    refine fl dx _ nd upd_same fun b o q => ?_
    have hb : b ≠ dx := ne_of_none q nd
    have ha : b ≠ a := ne_of_none q na
    rw [upd_ne hb, del_ne ha, upd_ne hb, upd_ne ha, upd_ne hb, upd_ne ha]
    exact q
theorem pmk_err (T : Raisable X.prog X.w X.K X.mg X.base k x C fld tag) (hr : Room (k + 1) X.A) (hg : Gl X x) (h : PE X e te) (hdb : (x == ("__debug__" : Str)) = false := by decide) (he : starEach [e] X.env = (false, eval e X.env) :: starEach [] X.env := by rfl) (hpl : (backTo pos (starEach [] X.env)).any (·.1) = false := by rfl) :
    L2N.PMk X (.Call (.Name x p) [e] [] pos) (fun σ H Q => te σ H fun v H1 => ∃ v0, [v] = [v0] ∧ Prt v0 ∧ Flies H1 Q C fld tag v0) := by
  obtain ⟨B, nid, iid, tl, fI, fd, FB, TB, iC, tI, G, b⟩ := T.ex
  exact pmk (R := fun vs H1 Q => ∃ v, vs = [v] ∧ Prt v ∧ Flies H1 Q C fld tag v) FB TB iC tI G hr b pass0 hg T.g (pa_cons h pa_nil he) (fun vs H1 Q z => mk_flies TB T.nt T.nf z) hdb he hpl
end
/-- a def that may raise -/
theorem okN {P : Program} {w : World} {K : PySem.W.Frag} {mg : Str → Option Value} {base : Heap} {x qual : Str} {st : Stmt} {f : Addr} {fd : FuncData} {N ps : List Str} {k : Nat} {sp : Sp} (F : Fun K x qual st f fd) (S : FnScope N ps (defScope st)) (len : ∀ vs H Q E, sp vs H Q E → vs.length = ps.length)
    (hbody : ∀ (cdv : Value) (A : Around) (outer : List Env) (s : Shared) (H : Hp) (vs : List V) (Q : VK) (E : XK), Room k (A.deeper (envOfC qual (defScope st) s.heap.objs.size f cdv)) → sp vs H Q E → L2N.Takes (cxOf (L2N.CX P w) P w K mg base N qual (defScope st) f cdv A outer s H E) (fun cls d _ H1 => E cls d H1) →
      ∃ t, PSs (cxOf (L2N.CX P w) P w K mg base N qual (defScope st) f cdv A outer s H E) (defBody st) t ∧ t { nx := fun _ H1 => Q .non H1, rt := Q } (start N vs) H) : FnOk P w K mg base (L2N.CX P w) (k + 1) f fd ps sp := by
  obtain ⟨oc, od, kV, doc, pm, an, cdv, ct, osl, rfl, lk, hcd⟩ := F.ex
  exact fn_of lk hcd S len fun A outer s H vs Q E hr hsp => hbody cdv A outer s H vs Q E hr hsp (L2N.takes_of rfl rfl rfl rfl)
/-- such a def, known by its name -/
structure KnX (P : Program) (w : World) (K : PySem.W.Frag) (mg : Str → Option Value) (base : Heap) (k : Nat) (x : Str) (ps : List Str) (sp : Sp) (f : Addr) (fd : FuncData) : Prop where
  kp : PySem.W.keepIn K (.ref f) = true
  G : FnOk P w K mg base (L2N.CX P w) k f fd ps sp
  b : L2.Binds K fd ps []
  g : mg x = some (.ref f)
theorem lookN {X : Cx} {W : WX} (tk : L2N.Takes X W) {E : XK} (hW : ∀ cls d σ H, E cls d H → W cls d σ H) : Passes (L2N.CX X.prog X.w) X E := L2N.passes_call tk hW
theorem sm_none {H H1 : Hp} (s : Same H H1) {t : Addr} (n : H1 t = none) : H t = none := by
  cases e : H t with
  | none => rfl
  | some o => rw [s _ _ e] at n; cases n
theorem takesN0 {X : Cx} : L2N.Takes X (fun _ _ _ _ => False) := fun _ _ ⟨_, _, _, _, _, _, _, _, _, _, _, _, _, _, _, _, z⟩ => z.elim
end ExX

namespace ExX
open PySem PySem.Spec PyProof.Rows L2
/-- a list comprehension without tests whose element may ask what the def around it knows where the block begins -/
theorem pe_lcI {X : Cx} {elt tg iter : Expr} {scope : Scope} {own : List (Str × Nat)} {pos : Pos} {wi : TI} {g : TG} {te : L2.St → TE} (calm : X.calm = true) (nd : X.N.Nodup) (walk : PI X tg iter wi) (bo : BlkOk X.N X.env.scope scope own)
    (target : ∀ (s : Shared) (H : Hp) (C : Addr) (cl : List (Str × Addr)) (fp : List Addr), PG (X.blk s H scope (compEnvC scope cl C X.env) fp) tg g)
    (item : ∀ (pins : List (Addr × Obj)) (σ : L2.St) (s : Shared) (H : Hp) (C : Addr) (cl : List (Str × Addr)) (fp : List Addr), Inv X pins σ H s → (∀ b ∈ fp, FpOk X pins H b) → PE (X.blk s H scope (compEnvC scope cl C X.env) fp) elt (te σ))
    (fold : ∀ x, foldedSetIterable iter X.env x = pure x := by intro _; rfl) :
    PE X (.ListComp elt [⟨tg, iter, [], 0⟩] scope pos) (fun σ H Q => tLc wi g tYes (te σ) (own.map (·.2)) σ H Q) := by
  refine ⟨fun pins s σ H Q I hyp => ?_⟩
  rw [eval_ListComp]
  have cells : ∀ y ∈ scope.names, y.2 = .free → ∃ c, X.env.cells.lookup y.1 = some c := fun y hy e => (bo.free y hy e).elim (fun z => I.ok.has _ (.inl z)) fun z => I.ok.has _ (.inr z)
  refine wpAny_comprehension_free (use := none) rfl fold (closure_ok cells) bo.kind (fun y hy e => by rw [bo.uniq y hy, e]) (thn (walk.run pins s σ H _ I hyp) fun _ _ h1 => thn h1 fun _ s2 h2 => ?_)
  obtain ⟨it, fp, tn, J, H2, rfl, I2, T, t2, f2, rd⟩ := h2
  refine wpAny_newObj_type (newEnv_comp ?_) (by show 0 ≤ sizeLine; decide)
  -- the new list, at the end of the heap
  obtain ⟨D, eD⟩ : ∃ D, D = s2.heap.objs.size := ⟨_, rfl⟩
  rw [← eD]
  obtain ⟨W, ⟨m0, w0⟩, turn⟩ := rd D (I2.hok.fresh (Nat.le_of_eq eD.symm))
  obtain ⟨H3, eH⟩ : ∃ H3, H3 = upd H2 D (.lst []) := ⟨_, rfl⟩
  obtain ⟨s3, e3⟩ : ∃ s3 : Shared, s3 = { s2 with heap := s2.heap.push { cls := .type "list", data := .seq ([] : List Value).toArray } } := ⟨_, rfl⟩
  have old : ∀ b o, s2.heap.get? b = some o → s3.heap.get? b = some o := fun b o e => by rw [e3]; exact Heap.get?_push_of_some _ e
  have I3 : Inv X pins σ H3 s3 := by
    rw [eH, e3]
    exact I2.laid (t' := s2.toks) (fun b o e => Heap.get?_push_of_some _ e) (Nat.le_of_eq eD.symm) ⟨Nat.zero_le _, [], 0, .nil, by rw [eD]; exact Heap.get?_push_size _ rfl⟩
  have f3 : ∀ b ∈ fp, FpOk X pins H3 b ∧ b < s3.heap.objs.size := fun b hb => by
    obtain ⟨o, e, _⟩ := T.obj _ _ t2 b hb
    exact ⟨⟨by rw [eH, upd_ne (by rw [eD]; exact Nat.ne_of_lt (Heap.lt_size e))]; exact (f2 b hb).1, (f2 b hb).2⟩, Heap.lt_size (old b o e)⟩
  have st := block_start I3 bo nd f3
  rw [← eH] at w0
  rw [← e3]
  -- the block's own names
  obtain ⟨cl, ecl⟩ : ∃ cl, cl = cellsFrom (s3.heap.objs.size + 1) scope.names (cloFrom X.env.cells scope.names []) := ⟨_, rfl⟩
  obtain ⟨C, eC⟩ : ∃ C, C = s3.heap.objs.size := ⟨_, rfl⟩
  have pI := item pins σ s3 H3 C cl fp I3 fun b hb => (f3 b hb).1
  have pG := target s3 H3 C cl fp
  obtain ⟨ce, ece⟩ : ∃ ce, ce = compEnvC scope cl C X.env := ⟨_, rfl⟩
  have ceL : ce.locals = C := by rw [ece]; rfl
  rw [← ecl, ← eC, ← ece] at st
  rw [← ece] at pI pG
  show codeAny _ _ (.compStart (.ListComp elt [⟨tg, iter, [], 0⟩] scope pos) 0 (.ref it) (.ref D) (compEnvC scope (cellsFrom (s3.heap.objs.size + 1) scope.names (cloFrom X.env.cells scope.names [])) s3.heap.objs.size X.env)) (compPost (model X.prog X.w) X.A X.xe none _ (.ref D) s3.heap.objs.size) _
  rw [← ecl, ← eC, ← ece]
  have tb : tn 0 (pushCells (s3.heap.push { cls := .type "dict", data := .dict #[] }) scope.names) := T.keep _ _ _ t2 fun b _ o e => pushCells_keeps _ _ _ _ (Heap.get?_push_of_some _ (old b o e))
  obtain ⟨s4, e4⟩ : ∃ s4 : Shared, s4 = { s3 with heap := pushCells (s3.heap.push { cls := .type "dict", data := .dict #[] }) scope.names } := ⟨_, rfl⟩
  rw [← e4] at st ⊢
  have t4 : tn 0 s4.heap := by rw [e4]; exact tb
  have fOk : ∀ {σ1 : L2.St} {H1 : Hp} {s1 : Shared}, Inv (X.blk s3 H3 scope ce fp) [] σ1 H1 s1 → (∀ b ∈ fp, H1 b = none) → ∀ b ∈ fp, FpOk (X.blk s3 H3 scope ce fp) [] H1 b := fun J1 n b hb =>
    ⟨n b hb, (J1.ok.exf b hb).1, J1.ok.exfs b hb, .inl hb, (J1.ok.exf b hb).2, fun p hp => by cases hp⟩
  have lp : codeAny (model X.prog X.w) X.A (.compLoop (.ListComp elt [⟨tg, iter, [], 0⟩] scope pos) 0 (.ref it) (.ref D) ce) (compPost (model X.prog X.w) X.A X.xe none (EP X pins σ Q) (.ref D) C) s4 := by
    refine compLoop_any (fun n s1 => ∃ i H1, Inv (X.blk s3 H3 scope ce fp) [] (wipe σ (own.map (·.2))) H1 s1 ∧ tn i s1.heap ∧ (∀ b ∈ fp, H1 b = none) ∧ W i n H1) (fun n s5 ⟨i, H5, I5, t5, n5, w5⟩ => ?_) m0 ⟨0, H3, st, t4, fun b hb => (f3 b hb).1.1, w0⟩
    rcases turn i n H5 w5 with ⟨stop, q⟩ | ⟨go, Nx, hNx, step⟩
    · refine thnF (T.done (X.blk s3 H3 scope ce fp) rfl rfl rfl calm i [] s5 _ H5 (fun _ _ => False) I5 (fOk I5 n5) t5 stop) fun r s6 ⟨er, I6⟩ => ?_
      subst er
      have I7 : Inv X pins σ H5 s6 := I3.call' (ch := fp) I6.os I6.base I6.hok I6.bare fun b hb => ⟨(f3 b hb).1.2.2.2.1, (f3 b hb).1.2.1, (f3 b hb).1.2.2.2.2.1, (f3 b hb).1.2.2.2.2.2⟩
      have nC : H5 C = none := by rw [← ceL]; exact I6.free
      obtain ⟨m, hm, _⟩ := I6.loc
      have hm : s6.heap.Ns ce.locals m := hm
      rw [ceL] at hm
      refine ⟨m, hm, fun h8 sb => ?_⟩
      obtain ⟨g0, g1, g2, g3, g4, g5⟩ := I3.fpOk (Nat.le_of_eq eC.symm) nC
      exact ⟨.ref D, H5, I7.turned (t' := s6.toks) (fun b o hb e => (sb.2 b hb).trans e) g0 g1 g3 g4 g5, rfl, q⟩
    · refine thnF (T.item (X.blk s3 H3 scope ce fp) rfl rfl rfl calm i [] s5 _ H5 (fun _ _ => False) I5 (fOk I5 n5) t5 go) fun r s6 ⟨u, er, h6⟩ => ?_
      subst er
      refine thnF h6 fun _ s7 ⟨x, H7, I7, r7, y7, t7, n7⟩ => ?_
      refine thnF (pG.run _ s7 _ H7 x u _ (I7.pinned (fOk I7 n7) (T.obj _ _ t7)) r7 (step x H7 y7)) fun _ s8 ⟨σ8, H8, I8, e8, q8⟩ => wpAny_tests_nil ?_
      rw [if_pos rfl]
      refine thnF (pI.run _ s8 σ8 H8 _ I8 (show te σ σ8 H8 _ from q8)) fun z s9 ⟨yv, H9, I9, r9, acc, hD9, hz9, nx⟩ => ?_
      refine app_ok (X := X.blk s3 H3 scope ce fp) I9 hD9 hz9 r9 fun s10 I10 => ?_
      obtain ⟨m1, lt, w1⟩ := hNx _ nx
      have stay : ∀ b ∈ fp, ∀ o, s7.heap.get? b = some o → s10.heap.get? b = some o ∧ upd H9 D (.lst (acc ++ [yv])) b = none := fun b hb o e => by
        have z := I10.pin (b, o) (List.mem_append_right _ (List.mem_append_right _ (mem_pinsAt hb e)))
        exact ⟨z.1, z.2.1⟩
      refine ⟨m1, lt, i + 1, _, (I10.unpinned (pins := [])).weak (by rw [← e8, wipe_length]) (fun j v e => ?_), T.keep _ _ _ t7 fun b hb o e => (stay b hb o e).1, fun b hb => ?_, w1⟩
      · rw [← e8] at e
        exact (wipe_some e).1
      · obtain ⟨o, e, _⟩ := T.obj _ _ t7 b hb
        exact (stay b hb o e).2
  exact codeAny_compStart_list lp (T.self X.A 0 _ _ _ t4 lp)
/-! ### a lambda with one parameter that has a default -/
open LamX
structure LamT (N : List Str) (sc scope : Scope) (a : Str) : Prop where
  kind : scope.kind = .function
  co : scope.isCoroutine = false
  gen : scope.isGenerator = false
  cel : ∀ y ∈ scope.names, y.2 ≠ .cell
  loc : ∀ y ∈ N, scope.names.lookup y ≠ some .local
  arg : scope.names.lookup a = some .local
  free : ∀ y ∈ scope.names, y.2 = .free → sc.names.lookup y.1 = some .cell ∨ sc.names.lookup y.1 = some .free
def lamTB (N : List Str) (sc scope : Scope) (a : Str) : Bool := decide (scope.kind = .function) && (!scope.isCoroutine && (!scope.isGenerator && (decide (scope.names.lookup a = some .local) && ((N.all fun y => !decide (scope.names.lookup y = some .local)) &&
  scope.names.all fun y => !decide (y.2 = .cell) && (!decide (y.2 = .free) || (decide (sc.names.lookup y.1 = some .cell) || decide (sc.names.lookup y.1 = some .free)))))))
theorem lamT_by {N : List Str} {sc scope : Scope} {a : Str} (h : lamTB N sc scope a = true) : LamT N sc scope a := by
  unfold lamTB at h
  simp only [Bool.and_eq_true, Bool.or_eq_true, Bool.not_eq_true', decide_eq_true_eq, decide_eq_false_iff_not, List.all_eq_true] at h
  obtain ⟨h1, h2, h3, h4, h5, h6⟩ := h
  exact ⟨h1, h2, h3, fun y hy => (h6 y hy).1, h5, h4, fun y hy e => (h6 y hy).2.elim (fun z => absurd e z) id⟩
section
variable {X : Cx} {pins : List (Addr × Obj)} {σ : L2.St} {H HZ : Hp} {s s1 : Shared}
theorem LamT.has {scope : Scope} {a : Str} (L : LamT X.N X.env.scope scope a) (ok : X.Ok) : ∀ y ∈ scope.names, y.2 = .free → ∃ c, X.env.cells.lookup y.1 = some c := fun y hy e => (L.free y hy e).elim (fun z => ok.has _ (.inl z)) fun z => ok.has _ (.inr z)
/-- the body of such a lambda begins -/
theorem lamT_start {A : Around} {outer : List Env} {E : XK} {scope : Scope} {f c2 : Addr} {a : Str} {g : Heap} {tk : Nat} {m1 : Str → Option Value} (I : Inv X pins σ H s) (L : LamT X.N X.env.scope scope a) (e0 : Env0 X.prog X.w X.K X.mg X.base A outer s1 HZ) (hd : A.handled = none)
    (un : Un (frs X.stack) [] H HZ s.heap s1.heap) (hns : g.Ns s1.heap.objs.size m1) (kp : ∀ b o, s1.heap.get? b = some o → g.get? b = some o) : Inv (lamCx X A outer s1 HZ E scope f c2) [] σ HZ { s1 with heap := g, toks := tk } := by
  have hF := L.has I.ok
  have up : ∀ {y c}, (cloFrom X.env.cells scope.names []).lookup y = some c → X.env.cells.lookup y = some c := fun {y c} e => by
    rcases cloFrom_mem (PySem.mem_of_lookup e) with z | ⟨z1, z2⟩
    · cases z
    · obtain ⟨c1, e1⟩ := hF _ z1 rfl
      have e1 : X.env.cells.lookup y = some c1 := e1
      have e2 : c = c1 := by rw [z2, e1]; rfl
      rw [e2]; exact e1
  have dn : ∀ {y}, scope.names.lookup y = some .free → ∃ c, (cloFrom X.env.cells scope.names []).lookup y = some c := fun {y} hl => mem_lookup (cloFrom_has (cells := X.env.cells) (acc := []) (PySem.mem_of_lookup hl))
  have stay : ∀ {c : Addr} {v : Option Value}, H c = none → s.heap.IsCell c v → g.IsCell c v := fun {c v} n ⟨o, ho, hd⟩ => by
    obtain ⟨sl, q⟩ := un.any ho n (by simp)
    exact ⟨_, kp _ _ q, hd⟩
  have no : ∀ {b : Addr} {R : Prop}, b ∈ (lamCx X A outer s1 HZ E scope f c2).ex → R := fun {b R} z => by cases (show b ∈ ([] : List Addr) from z)
  refine ⟨⟨e0.mod, L.kind, rfl, rfl, Nat.le_refl _, fun y z c e1 e2 => I.ok.inj y z c (up e1) (up e2), fun y hy => ?_, fun y c z _ => (Bool.noConfusion (show false = true from z)), fun _ => hd, Around.frames_deeper e0.frames, .inr ⟨rfl, rfl⟩, fun b z => no z, e0.bs, e0.bsz, fun b o e z => no z,
      fun b z => no z, e0.funs, e0.frf⟩, rfl, e0.bare, Un.kept kp, ⟨m1, hns, fun i y v e1 e2 e3 => ?_⟩, fun y c e => ?_, e0.hok.fresh (Nat.le_refl _), fun y c e => ?_, fun q hq => ?_, e0.hok.kept kp, I.len⟩
  · rcases (show scope.names.lookup y = some .cell ∨ scope.names.lookup y = some .free from hy) with z | z
    · exact (L.cel _ (PySem.mem_of_lookup z) rfl).elim
    · exact dn z
  · rcases (show Vis scope y from e3) with k | k | k
    · exact (L.loc y (List.mem_of_getElem? e1) k).elim
    · exact (L.cel _ (PySem.mem_of_lookup k) rfl).elim
    · obtain ⟨m, hn, hl⟩ := I.loc
      have fr := L.free _ (PySem.mem_of_lookup k) rfl
      obtain ⟨u, r, q⟩ := hl i y v e1 e2 (fr.elim (fun z => .inr (.inl z)) fun z => .inr (.inr z))
      obtain ⟨c, ec⟩ := dn k
      refine ⟨u, r, .inr ⟨.inr k, c, ec, ?_⟩⟩
      rcases q with ⟨k2, _⟩ | ⟨_, c3, e4, z⟩
      · have k2 : X.env.scope.names.lookup y = some .local := k2
        have fr : X.env.scope.names.lookup y = some .cell ∨ X.env.scope.names.lookup y = some .free := fr
        rw [k2] at fr
        rcases fr with fr | fr <;> cases fr
      · have := up ec
        rw [e4] at this
        cases this
        exact stay (I.freeC y _ e4) z
  · obtain ⟨v, z⟩ := I.cell y c (up e)
    exact ⟨v, stay (I.freeC y c (up e)) z⟩
  · obtain ⟨v, o, ho, hd⟩ := I.cell y c (up e)
    exact un.free c o ho (I.freeC y c (up e)) (by simp)
  · cases (show q ∈ ([] : List (Addr × Obj)) ++ [] from hq)
end
/-- the lambda at f, its code object at c2, the tuple of its default at T -/
def CloD (X : Cx) (params : Arguments) (body : Expr) (scope : Scope) (f c2 T : Addr) : HO := .ext fun h => ∃ doc pm ctv : Value, h.get? f = some (PySem.W.kdv_obj "<lambda>" (X.env.qual ++ "<lambda>") params (.expr body) scope (cloFrom X.env.cells scope.names []) (.ref T) doc pm c2 ctv)
theorem cloD_ok {X : Cx} {params : Arguments} {body : Expr} {scope : Scope} {f c2 T : Addr} {P : Program} {w : World} {H : Hp} {h : Heap} {doc pm ctv : Value} (e : h.get? f = some (PySem.W.kdv_obj "<lambda>" (X.env.qual ++ "<lambda>") params (.expr body) scope (cloFrom X.env.cells scope.names []) (.ref T) doc pm c2 ctv)) :
    ObjOk P w H h f (CloD X params body scope f c2 T) := ⟨⟨doc, pm, ctv, e⟩, ⟨_, e⟩, fun h1 h2 ⟨a, b, c, d⟩ st => ⟨a, b, c, st _ d⟩⟩
section
variable {X : Cx} {pins : List (Addr × Obj)} {σ : L2.St} {H : Hp} {s : Shared}
theorem lamT_made {T : List (Addr × Str)} {c P : Addr} {params : Arguments} {body e0 : Expr} {scope : Scope} {pos : Pos} {y0 : V} {Q : Value → Shared → Prop} (I : Inv X pins σ H s) (TB : TabB X.base X.mg c P) (hcode : X.env.code = .ref c)
    (hm : (P, X.env.qual ++ "<lambda>") ∈ T) (hu : ∀ p ∈ T, p.1 = P → p.2 = X.env.qual ++ "<lambda>") (hT : Tabs T H) (hdf : params.defaults = [e0]) (hkw : params.kw_defaults = []) (he0 : PE X e0 (fun _ H Q => Q y0 H)) (hfree : ∀ y ∈ scope.names, y.2 = .free → ∃ c, X.env.cells.lookup y.1 = some c)
    (h : ∀ (f c2 t : Addr) (H1 : Hp) (s1 : Shared), Inv X pins σ (upd H1 f (CloD X params body scope f c2 t)) s1 → ExtN H H1 → Tabs T H1 → H1 f = none → H1 c2 = some (CodeO c2 (X.env.qual ++ "<lambda>")) → H1 t = some (.tup [y0]) → Q (.ref f) s1) :
    wpAny (model X.prog X.w) X.A (eval (.Lambda params body scope pos) X.env) Q X.xe s := by
  refine PySem.W.kdv_lam (by rw [hdf]; rfl) hkw ?_
  rw [hdf]
  show wpAny _ _ (evalAll [eval e0 X.env]) _ _ _
  refine evalAll_cons (thn (he0.run pins s σ H (fun v H1 => v = y0 ∧ H1 = H) I ⟨rfl, rfl⟩) fun u s0 ⟨v, H0, I0, r0, ev, eH⟩ => evalAll_nil ?_)
  rw [ev] at r0
  rw [eH] at I0
  rw [makeFunction_eq]
  simp only [List.zip_nil_right, List.filterMap_nil, List.isEmpty_nil, List.isEmpty_cons, Bool.false_eq_true, if_false, if_true, pure_bind]
  refine wpAny_bind (PySem.wpAny_newTextTuple ?_)
  obtain ⟨t, et⟩ : ∃ t, t = s0.heap.objs.size := ⟨_, rfl⟩
  rw [← et]
  have nT : H t = none := I0.hok.fresh (Nat.le_of_eq et.symm)
  obtain ⟨s2, e2⟩ : ∃ s2 : Shared, s2 = { s0 with heap := s0.heap.push { cls := .type "tuple", data := .seq [u].toArray } } := ⟨_, rfl⟩
  have I2 : Inv X pins σ (upd H t (.tup [y0])) s2 := by
    rw [e2]
    refine I0.laid (t' := s0.toks) (fun b o e => Heap.get?_push_of_some _ e) (Nat.le_of_eq et.symm) ⟨by show 1 ≤ sizeLine; decide, [u], .cons r0 .nil, ?_⟩
    rw [et]
    exact IsTup.new s0.heap _
  rw [← e2]
  have x1 : ExtN H (upd H t (.tup [y0])) := fun b o e _ => by rw [upd_ne (ne_of_none e nT)]; exact e
  have hT2 : Tabs T (upd H t (.tup [y0])) := hT.ext fun b o e => by rw [upd_ne (ne_of_none e nT)]; exact e
  obtain ⟨ps, hP, ht, ha⟩ := hT2 _ hm
  have bP : s2.heap.BuiltinsAt X.mg P := TB.bm.keeps I2.bk
  have hPs : s2.heap.get? P = some { cls := .none, data := .fields ps } := I2.hok P _ hP
  cases hc : codeAmong pos ps.toList with
  | none =>
    refine PySem.W.kdv_makeTail (mg := X.mg) (c := c) (P := P) (ps := ps) (closure_ok hfree) I2.ok.glob (I2.mod.glob.keeps I2.bk) hcode (TB.code.keeps I2.bk) hPs ht hc TB.gP bP fun c2 ctv doc h3 tk hx hge hlt hrec htb => ?_
    obtain ⟨c3, oc, vs, tq, z2, hoc, hd, hv⟩ := hrec
    cases z2
    have nC := I2.hok.fresh (a := c2) hge
    have I3 := inv_table (t' := tk) (more := #[rawInt pos.line, rawInt pos.col, .ref c2]) (h' := h3) I2 hP hx htb hge ⟨oc, vs, tq, hoc, hd, hv⟩
    have hE : ExtN (upd H t (.tup [y0])) (upd (upd (upd H t (.tup [y0])) P (.tbl (ps ++ #[rawInt pos.line, rawInt pos.col, .ref c2]))) c2 (CodeO c2 (X.env.qual ++ "<lambda>"))) := fun b o e n => by
      have nb : b ≠ P := fun z => n ps (Option.some.inj (e.symm.trans (by rw [z]; exact hP)))
      rw [upd_ne (ne_of_none e nC), upd_ne nb]
      exact e
    have eL : (ps ++ #[rawInt pos.line, rawInt pos.col, .ref c2]).toList = ps.toList ++ [rawInt pos.line, rawInt pos.col, .ref c2] := by simp
    refine h h3.objs.size c2 t _ _ (I3.laid (t' := tk) (fun _ _ e => Heap.get?_push_of_some _ e) (Nat.le_refl _) (cloD_ok (Heap.get?_push_size _ rfl))) (fun b o e n => hE b o (x1 b o e n) n) (fun p hp => ?_) (I3.hok.fresh (Nat.le_refl _)) upd_same (hE _ _ upd_same (by intro ps z; cases z))
    by_cases hb : p.1 = P
    · refine ⟨_, by rw [hb, upd_ne (ne_of_none hP nC), upd_same], by rw [eL]; exact PySem.TriplesOk_snoc _ _ _ _ ht, fun pz cv hcv => ?_⟩
      rw [eL] at hcv
      rw [hu p hp hb]
      rcases among_app _ ht hcv with z | z
      · obtain ⟨c0, q1, q2⟩ := ha pz cv z
        exact ⟨c0, q1, hE _ _ q2 codeO_ne⟩
      · exact ⟨c2, z, upd_same⟩
    · obtain ⟨psz, a1, a2, a3⟩ := hT2 p hp
      refine ⟨psz, by rw [upd_ne (ne_of_none a1 nC), upd_ne hb]; exact a1, a2, fun pz cv hcv => ?_⟩
      obtain ⟨c0, q1, q2⟩ := a3 pz cv hcv
      exact ⟨c0, q1, hE _ _ q2 codeO_ne⟩
  | some cv =>
    obtain ⟨c2, e, hco⟩ := ha pos cv hc
    subst e
    refine PySem.W.kdv_makeTailHit (mg := X.mg) (c := c) (P := P) (ps := ps) (closure_ok hfree) I2.ok.glob (I2.mod.glob.keeps I2.bk) hcode (TB.code.keeps I2.bk) hPs ht hc bP fun ctv doc h3 tk hx hsz => ?_
    have I3 : Inv X pins σ (upd H t (.tup [y0])) { s2 with heap := h3, toks := tk } := I2.kept hx
    exact h h3.objs.size c2 t _ _ (I3.laid (t' := tk) (fun _ _ e => Heap.get?_push_of_some _ e) (Nat.le_refl _) (cloD_ok (Heap.get?_push_size _ rfl))) x1 hT2 (I3.hok.fresh (Nat.le_refl _)) hco upd_same
end
/-- a lambda that was made in X: where it stands, what its call asks -/
structure Lam (X : Cx) (k : Nat) where
  At : Addr → Hp → Prop
  tb : XK → TE
  acts : ∀ {pins : List (Addr × Obj)} {σ : L2.St} {H : Hp} {s : Shared} {f : Addr}, Inv X pins σ H s → Acts X.prog X.w X.K X.mg X.base (k + 1) (frs X.stack) f s H (fun E HZ Q => At f HZ ∧ tb E σ HZ Q)
  same : ∀ {f : Addr} {H H1 : Hp}, At f H → ExtN H H1 → At f H1
def Lam.does {X : Cx} {k : Nat} (D : Lam X k) (f : Addr) (σ : L2.St) : XK → Hp → VK → Prop := fun E HZ Q => D.At f HZ ∧ D.tb E σ HZ Q
def LamD.lam {X : Cx} {k : Nat} (D : LamD X k) : Lam X k where
  At := D.At
  tb := D.tb
  acts := fun I => acts_of D I
  same := fun ⟨c2, h1, h2⟩ e => ⟨c2, e _ _ h1 cloO_tbl, e _ _ h2 codeO_ne⟩
/-- a lambda of X's text with one parameter that has a default -/
structure LamP (X : Cx) (k : Nat) where
  params : Arguments
  body : Expr
  scope : Scope
  a : Str
  e0 : Expr
  y0 : V
  tb : XK → TE
  L : LamT X.N X.env.scope scope a
  hdf : params.defaults = [e0]
  hkw : params.kw_defaults = []
  he0 : PE X e0 (fun _ H Q => Q y0 H)
  hbind : ∀ (q : Str) (cl : List (Str × Addr)) (T : Addr) (doc pm cv ctv : Value), ∃ kk : Option (Array Value) → Sem (List (Str × Value)), bindArgs (PySem.W.kdv_fn "<lambda>" q params (.expr body) scope cl (.ref T) doc pm cv ctv) ⟨[], []⟩ = seqItems? (.ref T) >>= kk ∧ ∀ u, kk (some #[u]) = pure [(a, u)]
  hbody : ∀ (f c2 : Addr) (E : XK) (A : Around) (outer : List Env) (s : Shared) (H : Hp), Room k (A.deeper (lamEnv X scope s.heap.objs.size f c2)) → PE (lamC X A outer s H E scope f c2) body (tb E)
def LamP.At {X : Cx} {k : Nat} (D : LamP X k) (f : Addr) (H : Hp) : Prop := ∃ c2 T, H f = some (CloD X D.params D.body D.scope f c2 T) ∧ H c2 = some (CodeO c2 (X.env.qual ++ "<lambda>")) ∧ H T = some (.tup [D.y0])
theorem cloD_tbl {X : Cx} {params : Arguments} {body : Expr} {scope : Scope} {f c2 T : Addr} (ps : Array Value) : CloD X params body scope f c2 T ≠ .tbl ps := fun z => by
  unfold CloD at z
  cases z
theorem actsP {X : Cx} {k : Nat} (D : LamP X k) {pins : List (Addr × Obj)} {σ : L2.St} {H : Hp} {s : Shared} {f : Addr} (I : Inv X pins σ H s) : Acts X.prog X.w X.K X.mg X.base (k + 1) (frs X.stack) f s H (fun E HZ Q => D.At f HZ ∧ D.tb E σ HZ Q) := by
  refine ⟨fun s1 HZ Q E hok ⟨⟨c2, T, hcf, hcc, hT⟩, ht⟩ => ?_, fun A outer s1 HZ Q E hr e0 un ⟨⟨c2, T, hcf, hcc, hT⟩, ht⟩ => ?_⟩
  · obtain ⟨⟨doc, pm, ctv, of1⟩, _, _⟩ := hok f _ hcf
    exact ⟨_, _, _, _, of1⟩
  obtain ⟨⟨doc, pm, ctv, of1⟩, _, _⟩ := e0.hok f _ hcf
  obtain ⟨⟨oc, vs, t, hoc, hdc, hvc⟩, _, _⟩ := e0.hok c2 _ hcc
  obtain ⟨_, its, rT, oT, hoT, _, nT, hsT⟩ := e0.hok T _ hT
  cases rT with
  | @cons _ u _ ur ru rr =>
    cases rr
    obtain ⟨kk, hb1, hb2⟩ := D.hbind (X.env.qual ++ "<lambda>") (cloFrom X.env.cells D.scope.names []) T doc pm (.ref c2) ctv
    have bt : BindsTo s1 (PySem.W.kdv_fn "<lambda>" (X.env.qual ++ "<lambda>") D.params (.expr D.body) D.scope (cloFrom X.env.cells D.scope.names []) (.ref T) doc pm (.ref c2) ctv) ⟨[], []⟩ [(D.a, u)] := BindsTo.of_defaults rfl hoT hsT hb1 (hb2 u)
    refine PySem.W.kla_callFunE hr.depth of1 rfl D.L.co D.L.gen rfl ⟨c2, oc, vs, t, rfl, hoc, hdc, hvc⟩ (bt _ _ _ _ ?_)
    have lim : s1.heap.NoLimit := e0.mod.nolimit.keeps fun b o e => (e0.bs b o e).1
    refine wpAny_newFunctionEnv D.L.cel (fun y hy => by rw [List.mem_singleton.mp hy]; exact D.L.arg) (fun h1 hns hsb => ⟨lim.fresh _ hsb, ?_⟩) D.L.kind
    show codeAny _ _ (.expr D.body (lamEnv X D.scope s1.heap.objs.size f c2)) _ _
    have kp : ∀ b o, s1.heap.get? b = some o → h1.get? b = some o := fun b o e => hsb.extBut b o (Nat.ne_of_lt (Heap.lt_size e)) (Heap.get?_push_of_some _ e)
    have J : Inv (lamCx X A outer s1 HZ E D.scope f c2) [] σ HZ { s1 with heap := h1, toks := s1.toks + [(D.a, u)].length } := lamT_start I D.L e0 hr.hd un hns kp
    refine PySem.W.kla_codeExpr (wpAny_mono ((D.hbody f c2 E A outer s1 HZ (hr.deeper _)).run [] _ _ HZ Q (J.wish _) ht) (fun v s2 hq => ?_) fun e s2 hq => hq)
    obtain ⟨w2, H2, J2, rv, q⟩ := hq
    exact ⟨w2, H2, J2.os, J2.bare, J2.base, J2.hok, rv, q⟩
def LamP.lam {X : Cx} {k : Nat} (D : LamP X k) : Lam X k where
  At := D.At
  tb := D.tb
  acts := fun I => actsP D I
  same := fun ⟨c2, T, h1, h2, h3⟩ e => ⟨c2, T, e _ _ h1 cloD_tbl, e _ _ h2 codeO_ne, e _ _ h3 (by intro ps z; cases z)⟩
section
variable {Z : Cx} {k kk i : Nat} {g : Addr} {TT : (XK → Hp → VK → Prop) → Hp → VK → Prop} {x a : Str} {p p1 pos : Pos}
/-- lambda a=..: body -/
theorem pe_lamP {T : List (Addr × Str)} {c PT : Addr} (D : LamP Z kk) (TB : TabB Z.base Z.mg c PT) (hcode : Z.env.code = .ref c) (hmT : (PT, Z.env.qual ++ "<lambda>") ∈ T) (hu : ∀ q ∈ T, q.1 = PT → q.2 = Z.env.qual ++ "<lambda>") :
    PE Z (.Lambda D.params D.body D.scope pos) (fun _ H Q => Tabs T H ∧ ∀ f H1, ExtN H H1 → Tabs T H1 → D.lam.At f H1 → Q (.ref f) H1) := by
  refine ⟨fun pins s σ H Q I ⟨hT, h⟩ => lamT_made I TB hcode hmT hu hT D.hdf D.hkw D.he0 (D.L.has I.ok) fun f c2 t H1 s1 I1 eN T1 nf hc ht => ?_⟩
  have ne : ∀ {b : Addr} {o : HO}, H1 b = some o → upd H1 f (CloD Z D.params D.body D.scope f c2 t) b = some o := fun {b o} e => by rw [upd_ne (ne_of_none e nf)]; exact e
  exact ⟨.ref f, _, I1, rfl, h f _ (fun b o e n => ne (eN b o e n)) (T1.ext fun b o e => ne e) ⟨c2, t, upd_same, ne hc, ne ht⟩⟩
/-- x(a) in a comprehension's block, a one of the lambdas of the def around -/
theorem pe_item {scope : Scope} (G : FnL Z.prog Z.w Z.K Z.mg Z.base k g TT) (hr : Room (kk + 1 + k) Z.A) (hk : PySem.W.keepIn Z.K (.ref g) = true) (hm : Z.mg x = some (.ref g)) (hNi : Z.N[i]? = some a)
    (hg : ∀ (s : Shared) (H : Hp) (C : Addr) (cl : List (Str × Addr)) (fp : List Addr), Gl (Z.blk s H scope (compEnvC scope cl C Z.env) fp) x) (hv : ∀ (C : Addr) (cl : List (Str × Addr)), Vis (compEnvC scope cl C Z.env).scope a)
    (he : ∀ env : Env, starEach [Expr.Name a p1] env = (false, eval (.Name a p1) env) :: starEach [] env := by intro _; rfl) (hpl : ∀ env : Env, (backTo pos (starEach [] env)).any (·.1) = false := by intro _; rfl)
    (hdb : (x == ("__debug__" : Str)) = false := by decide) (hd : (a == ("__debug__" : Str)) = false := by decide) (hcd : (a == ("__classdict__" : Str)) = false := by decide) :
    ∀ (pins : List (Addr × Obj)) (σ : L2.St) (s : Shared) (H : Hp) (C : Addr) (cl : List (Str × Addr)) (fp : List Addr), Inv Z pins σ H s → (∀ b ∈ fp, FpOk Z pins H b) →
      PE (Z.blk s H scope (compEnvC scope cl C Z.env) fp) (.Call (.Name x p) [.Name a p1] [] pos) (fun σ1 H1 Q => ∃ (f : Addr) (D : Lam Z kk), σ1[i]? = some (some (.ref f)) ∧ TT (D.does f σ) H1 Q) := by
  intro pins σ s H C cl fp I hf
  refine ⟨fun pins1 s1 σ1 H1 Q I1 ⟨f, D, hs, ht⟩ => wpAny_Call_Name_kw (ld_glob I1 (hg s H C cl fp) hm ?_ hdb)⟩
  refine PySem.W.callWith_K (h₀ := Z.base) I1.ok.mod.kin hk (thn ((pa_cons (pe_var (X := Z.blk s H scope (compEnvC scope cl C Z.env) fp) (pos := p1) (i := i) hNi (hv C cl) hd hcd) pa_nil (he _)).run pos pins1 s1 σ1 H1 (fun vs H2 => vs = [.ref f] ∧ H2 = H1) I1 ⟨.ref f, hs, rfl, rfl⟩) fun us s2 ⟨vs, H2, I2, r, ev, eH⟩ => ⟨I2.kIn, ?_⟩) (he _) (hpl _)
  subst ev
  rw [eH] at I2
  cases r with
  | @cons _ u0 _ ur ra rw2 =>
    cases rw2
    obtain rfl : u0 = Value.ref f := ra
    have IX : Inv Z pins σ H1 s2 := I.call' (ch := fp) I2.os I2.base I2.hok I2.bare fun b hb => ⟨(hf b hb).2.2.2.1, (hf b hb).2.1, (hf b hb).2.2.2.2.1, (hf b hb).2.2.2.2.2⟩
    refine wpAny_call (codeAny_mono (G.run (kk + 1) f (frs Z.stack) s2 H1 _ (D.acts IX) Z.A Z.stack s2 H1 Q hr I2.env0 Un.refl (fun c hc => .inl hc) (Nat.le_refl _) ht) fun r s3 hq => ?_)
    cases r with
    | error e => exact (show False from hq).elim
    | ok fl =>
      cases fl with
      | ret u => exact I2.after hq
      | _ => exact hq.elim
end
end ExX

namespace ExX
open PySem PySem.Spec PyProof.Rows L2
/-- a list or a tuple -/
def Kd (k : Bool) (K : PySem.W.Frag) (H : Hp) (a : Addr) (xs : List V) : Prop := if k = true then SqL K H a xs else SqT K H a xs
theorem Kd.same {k : Bool} {K : PySem.W.Frag} {H H1 : Hp} {a : Addr} {xs : List V} (h : Kd k K H a xs) (s : Same H H1) : Kd k K H1 a xs := by
  cases k
  · rcases (show SqT K H a xs from h) with (h | ⟨o, h⟩) | h
    · exact .inl (.inl (s _ _ h))
    · exact .inl (.inr ⟨o, s _ _ h⟩)
    · exact .inr h
  · exact s.seq (show SqL K H a xs from h)
theorem Kd.l {K : PySem.W.Frag} {H : Hp} {a : Addr} {xs : List V} (h : SqL K H a xs) : Kd true K H a xs := h
theorem Kd.t {K : PySem.W.Frag} {H : Hp} {a : Addr} {xs : List V} (h : SqT K H a xs) : Kd false K H a xs := h
theorem Kd.sq {k : Bool} {K : PySem.W.Frag} {H : Hp} {a : Addr} {xs : List V} (h : Kd k K H a xs) : SqL K H a xs ∨ SqT K H a xs := by
  cases k
  · exact .inr h
  · exact .inl h
/-- what is walked is one of both -/
def iKd (k : Bool) (K : PySem.W.Frag) (tl : TE) : TI := fun σ H R => if k = true then iList K tl σ H R else iTup K tl σ H R
theorem pi_kd {X : Cx} {tg l : Expr} {tl : TE} (k : Bool) (hl : PE X l tl) : PI X tg l (iKd k X.K tl) := by
  cases k
  · exact ⟨fun pins s σ H R I h => (pi_tup hl).run pins s σ H R I h⟩
  · exact ⟨fun pins s σ H R I h => (pi_list hl).run pins s σ H R I h⟩
theorem for_kd {k : Bool} {K : PySem.W.Frag} {i0 : Nat} {a : Addr} {xs : List V} {g : TG} {tb : TS} {D : Ends} {σ : L2.St} {H : Hp} (hv : σ[i0]? = some (some (.ref a))) (hS : Kd k K H a xs) (Pv : Nat → L2.St → Hp → Prop) (h0 : Pv 0 σ H) (hl : ∀ i σ H, i ≤ xs.length → Pv i σ H → Kd k K H a xs)
    (hs : ∀ i x σ H, xs[i]? = some x → Pv i σ H → g x σ H fun σ2 H2 => tb { D with nx := Pv (i + 1), ct := Pv (i + 1), bk := D.nx } σ2 H2) (hd : ∀ σ H, Pv xs.length σ H → D.nx σ H) : tFor (iKd k K (tVar i0)) g tb D σ H := by
  cases k
  · exact ⟨_, hv, a, rfl, ⟨_, hS⟩, for_tup (xs := xs) Pv h0 hl hs hd⟩
  · exact ⟨_, hv, a, rfl, ⟨_, hS⟩, for_list (xs := xs) Pv h0 hl hs hd⟩
/-- both promises of a def -/
def spOr (s1 s2 : Sp) : Sp := fun vs H Q E => s1 vs H Q (fun _ _ _ => False) ∨ s2 vs H Q E
theorem fn_or {P : Program} {w : World} {K : PySem.W.Frag} {mg : Str → Option Value} {base : Heap} {CX : CXT} {j k : Nat} {f : Addr} {fd : FuncData} {ps : List Str} {s1 s2 : Sp} (F1 : FnOk P w K mg base CX0 j f fd ps s1) (F2 : FnOk P w K mg base CX k f fd ps s2) (h : j ≤ k) : FnOk P w K mg base CX k f fd ps (spOr s1 s2) := by
  refine ⟨fun vs H Q E z => z.elim (F1.len _ _ _ _) (F2.len _ _ _ _), fun A outer s H args us vs Q E hr e0 b r z => ?_⟩
  rcases z with z | z
  · refine codeAny_mono (F1.run A outer s H args us vs Q (fun _ _ _ => False) (hr.mono h) e0 b r z) fun res s2 q => ?_
    cases res with
    | ok fl => cases fl <;> exact q
    | error e => exact (show False from q).elim
  · exact F2.run A outer s H args us vs Q E hr e0 b r z
theorem lookNE {X : Cx} {E : XK} (tk : L2N.Takes X (fun cls d _ H => E cls d H)) : Passes (L2N.CX X.prog X.w) X E := L2N.passes_call tk fun _ _ _ _ z => z
/-- nodes up to the first that is none -/
def NodesEnd (xs : List Int) (n : Nat) (good : List Nat) (ok : Prop) (bad : Int → Prop) : Prop := (∀ x ∈ good, x < n) ∧
  ((xs = good.map (fun v : Nat => (v : Int)) ∧ ok) ∨ ∃ (z : Int) (rest : List Int), xs = good.map (fun v : Nat => (v : Int)) ++ z :: rest ∧ (z < 0 ∨ (n : Int) ≤ z) ∧ z.natAbs.log2 < 1920 ∧ bad z)
theorem NodesEnd.at {xs : List Int} {n : Nat} {good : List Nat} {ok : Prop} {bad : Int → Prop} (h : NodesEnd xs n good ok bad) {i : Nat} {v : V} (hv : (xs.map V.int)[i]? = some v) (hi : i ≤ good.length) :
    (∃ u, good[i]? = some u ∧ v = .int (u : Int) ∧ u < n) ∨ (∃ z, v = .int z ∧ (z < 0 ∨ (n : Int) ≤ z) ∧ z.natAbs.log2 < 1920 ∧ bad z) := by
  rw [List.getElem?_map] at hv
  obtain ⟨k, hk, rfl⟩ := Option.map_eq_some_iff.mp hv
  by_cases h1 : i < good.length
  · refine .inl ⟨good[i], List.getElem?_eq_getElem h1, ?_, h.1 _ (List.getElem_mem h1)⟩
    have e : xs[i]? = some ((good[i] : Nat) : Int) := by
      rcases h.2 with ⟨e, _⟩ | ⟨z, rest, e, _⟩
      · rw [e, List.getElem?_map, List.getElem?_eq_getElem h1]; rfl
      · rw [e, List.getElem?_append_left (by rw [List.length_map]; exact h1), List.getElem?_map, List.getElem?_eq_getElem h1]; rfl
    rw [hk] at e
    rw [Option.some.inj e]
  · have hi2 : i = good.length := by omega
    rcases h.2 with ⟨e, _⟩ | ⟨z, rest, e, h2⟩
    · rw [e, List.getElem?_eq_none (by rw [List.length_map]; omega)] at hk; cases hk
    · rw [e, List.getElem?_append_right (by rw [List.length_map]; omega), List.length_map, hi2, Nat.sub_self] at hk
      have hk : some z = some k := hk
      rw [← Option.some.inj hk]
      exact .inr ⟨z, rfl, h2⟩
theorem NodesEnd.done {xs : List Int} {n : Nat} {good : List Nat} {ok : Prop} {bad : Int → Prop} (h : NodesEnd xs n good ok bad) (hl : (xs.map V.int).length ≤ good.length) : xs = good.map (fun v : Nat => (v : Int)) ∧ ok := by
  rw [List.length_map] at hl
  rcases h.2 with h | ⟨z, rest, e, _⟩
  · exact h
  · rw [e] at hl
    simp at hl
    omega
end ExX
namespace ExX
open PySem PySem.Spec PyProof.Rows L2
theorem lc_kd {k : Bool} {K : PySem.W.Frag} {i0 : Nat} {a : Addr} {xs : List V} {g : TG} {tt : TT} {te : TE} {vs : List Nat} {σ : L2.St} {H : Hp} {Q : VK} (hv : σ[i0]? = some (some (.ref a))) (hS : Kd k K H a xs)
    (h : ∀ D, H D = none → ∃ Pv : Nat → Hp → Prop, Pv 0 (upd H D (.lst [])) ∧ (∀ i H, i ≤ xs.length → Pv i H → Kd k K H a xs) ∧ (∀ i x H, xs[i]? = some x → Pv i H → g x (wipe σ vs) H fun σ2 H2 => wipe σ2 vs = wipe σ vs ∧ tt σ2 H2 fun b H3 =>
      if b = true then te σ2 H3 fun y H4 => ∃ acc, H4 D = some (.lst acc) ∧ acc.length < sizeLine ∧ Pv (i + 1) (upd H4 D (.lst (acc ++ [y]))) else Pv (i + 1) H3) ∧ (∀ H, Pv xs.length H → Q (.ref D) H)) : tLc (iKd k K (tVar i0)) g tt te vs σ H Q := by
  cases k
  · refine ⟨_, hv, a, rfl, ⟨_, hS⟩, fun D nD => ?_⟩
    obtain ⟨Pv, h0, hl, hs, hd⟩ := h D nD
    exact lc_tup (xs := xs) (Qd := Q (.ref D)) Pv h0 hl hs hd
  · refine ⟨_, hv, a, rfl, ⟨_, hS⟩, fun D nD => ?_⟩
    obtain ⟨Pv, h0, hl, hs, hd⟩ := h D nD
    exact lc_list (xs := xs) (Qd := Q (.ref D)) Pv h0 hl hs hd
theorem NodesEnd.len {xs : List Int} {n : Nat} {good : List Nat} {ok : Prop} {bad : Int → Prop} (h : NodesEnd xs n good ok bad) : good.length ≤ xs.length := by
  rcases h.2 with ⟨e, _⟩ | ⟨z, rest, e, _⟩
  · rw [e, List.length_map]; exact Nat.le_refl _
  · rw [e]; simp
end ExX
namespace ExX
open PySem PySem.Spec PyProof.Rows L2
theorem slc_kd {k : Bool} {K : PySem.W.Frag} {i0 j : Nat} {a : Addr} {xs : List V} {g : TG} {tt : TT} {te : TE} {vs : List Nat} {σ : L2.St} {H : Hp} {N : Ends} (hv : σ[i0]? = some (some (.ref a))) (hS : Kd k K H a xs)
    (h : ∀ D, H D = none → ∃ Pv : Nat → Hp → Prop, Pv 0 (upd H D (.lst [])) ∧ (∀ i H, i ≤ xs.length → Pv i H → Kd k K H a xs) ∧ (∀ i x H, xs[i]? = some x → Pv i H → g x (wipe σ vs) H fun σ2 H2 => wipe σ2 vs = wipe σ vs ∧ tt σ2 H2 fun b H3 =>
      if b = true then te σ2 H3 fun y H4 => ∃ acc, H4 D = some (.lst acc) ∧ acc.length < sizeLine ∧ Pv (i + 1) (upd H4 D (.lst (acc ++ [y]))) else Pv (i + 1) H3) ∧ (∀ H, Pv xs.length H → N.nx (σ.set j (some (.ref D))) H)) : tAsg (tLc (iKd k K (tVar i0)) g tt te vs) (gName j) N σ H :=
  lc_kd (Q := fun x H1 => gName j x σ H1 N.nx) hv hS h
end ExX
namespace ExX
open PySem PySem.Spec PyProof.Rows L2
/-- three parameters, given by keywords in the reverse order -/
def sw3 {α : Type} : List α → List α → List α
  | [], [c, b, a] => [a, b, c]
  | _, _ => []
theorem sw3_rel {vs : List V} {us : List Value} {zs : List V} {ws : List Value} (r : Vals vs us) (s : Vals zs ws) : Vals (sw3 vs zs) (sw3 us ws) := by
  cases r with
  | cons _ _ => exact .nil
  | nil =>
    cases s with
    | nil => exact .nil
    | cons h1 t1 =>
      cases t1 with
      | nil => exact .nil
      | cons h2 t2 =>
        cases t2 with
        | nil => exact .nil
        | cons h3 t3 =>
          cases t3 with
          | nil => exact .cons h3 (.cons h2 (.cons h1 .nil))
          | cons _ _ => exact .nil
theorem fun_sw3 {K : PySem.W.Frag} {x qual : Str} {st : Stmt} {f : Addr} {fd : FuncData} {a b c : Str} (F : Fun K x qual st f fd)
    (h : ∀ (kV doc pm : Value) (an : Option Addr) (cdv ct : Value) (u v w : Value), bindArgs (PySem.W.fnOf x qual (defArgs st) (defBody st) (defScope st) .none kV doc pm an cdv ct) ⟨[], [(c, u), (b, v), (a, w)]⟩ = pure [(a, w), (b, v), (c, u)]) : KBinds K fd [a, b, c] [c, b, a] sw3 sw3 := by
  obtain ⟨oc, od, kV, doc, pm, an, cdv, ct, osl, rfl, lk, hcd⟩ := F.ex
  refine ⟨fun s us ws _ hl => ?_, sw3_rel⟩
  match us, ws, hl with
  | [], [u, v, w], _ => exact .of_eq (h kV doc pm an cdv ct u v w)
end ExX
namespace ExX
open PySem PySem.Spec PyProof.Rows L2
/-- f(e, ..) where what is raised is wished for at the slots of the call -/
theorem pe_callN {X : Cx} {W : WX} {k : Nat} {f : Addr} {fd : FuncData} {ps : List Str} {sp : Sp} {x : Str} {q pos : Pos} {e : Expr} {es : List Expr} {t : TA} (F : FnOk X.prog X.w X.K X.mg X.base (L2N.CX X.prog X.w) k f fd ps sp) (hr : Room k X.A) (hg : Gl X x) (hm : X.mg x = some (.ref f)) (hk : PySem.W.keepIn X.K (.ref f) = true) (hb : L2.Binds X.K fd ps []) (tk : L2N.Takes X W)
    (ha : PA X (e :: es) t) (hdb : (x == ("__debug__" : Str)) = false := by decide) (he : starEach (e :: es) X.env = (false, eval e X.env) :: starEach es X.env := by rfl) (hpl : (backTo pos (starEach es X.env)).any (·.1) = false := by rfl) :
    PE X (.Call (.Name x q) (e :: es) [] pos) (fun σ H Q => t σ H fun vs H1 => sp vs H1 Q fun cls d H2 => W cls d σ H2) := by
  refine ⟨fun pins s σ H Q I h => wpAny_Call_Name_kw (ld_glob I hg hm ?_ hdb)⟩
  refine PySem.W.callWith_K (h₀ := X.base) I.ok.mod.kin hk (thn (ha.run pos pins s σ H _ I h) fun us s1 ⟨vs, H1, I1, r, w⟩ => ⟨I1.kIn, ?_⟩) he hpl
  have hl : us.length = ps.length := by rw [← r.length]; exact F.len _ _ _ _ w
  have b := hb s1 us I1.kIn (by rw [List.append_nil]; exact hl)
  rw [List.append_nil] at b
  refine wpAny_call (codeAny_mono (F.run X.A X.stack s1 H1 ⟨us, []⟩ us vs Q _ hr I1.env0 b r w) fun res s2 hq => ?_)
  cases res with
  | error er => exact tk er s2 (L2N.XE.of_call I1 (fun cls d H2 z => z) hq)
  | ok fl =>
    cases fl with
    | ret u => exact I1.after hq
    | _ => exact hq.elim
end ExX
namespace ExX
open PySem PySem.Spec PyProof.Rows L2
/-- one parameter, given by its keyword -/
def sw1 {α : Type} : List α → List α → List α
  | [], [a] => [a]
  | _, _ => []
theorem sw1_rel {vs : List V} {us : List Value} {zs : List V} {ws : List Value} (r : Vals vs us) (s : Vals zs ws) : Vals (sw1 vs zs) (sw1 us ws) := by
  cases r with
  | cons _ _ => exact .nil
  | nil =>
    cases s with
    | nil => exact .nil
    | cons h1 t1 =>
      cases t1 with
      | nil => exact .cons h1 .nil
      | cons h2 t2 => exact .nil
theorem fun_sw1 {K : PySem.W.Frag} {x qual : Str} {st : Stmt} {f : Addr} {fd : FuncData} {a : Str} (F : Fun K x qual st f fd)
    (h : ∀ (kV doc pm : Value) (an : Option Addr) (cdv ct : Value) (u : Value), bindArgs (PySem.W.fnOf x qual (defArgs st) (defBody st) (defScope st) .none kV doc pm an cdv ct) ⟨[], [(a, u)]⟩ = pure [(a, u)]) : KBinds K fd [a] [a] sw1 sw1 := by
  obtain ⟨oc, od, kV, doc, pm, an, cdv, ct, osl, rfl, lk, hcd⟩ := F.ex
  refine ⟨fun s us ws _ hl => ?_, sw1_rel⟩
  match us, ws, hl with
  | [], [u], _ => exact .of_eq (h kV doc pm an cdv ct u)
end ExX

namespace ExX
open PySem PySem.Spec PyProof.Rows L2
theorem meets_enum1 {v : Value} {o : Obj} {H : Heap → Prop} (B : Begins v o H) : Meets (Builtin.«enumerate.__new__» ⟨[.type "enumerate", v], []⟩) (fun _ R s => H s.heap ∧
      R (.ok (.ret (.ref (s.heap.push o).objs.size))) { s with heap := (s.heap.push o).push { cls := .type "enumerate", data := .fields #[.none, .bool false, .ref s.heap.objs.size, rawInt 0, .none, .none] } }) :=
  .of_wp fun prog w A R s h => by
    obtain ⟨hp, g, d, tk, os⟩ := s
    obtain ⟨h1, h⟩ := h
    have hsub := sub_enumerate
    have q1 : ∀ {A' : Around} {E : Value → Shared → Prop} {Q : Value → Shared → Prop}, Q (.ref hp.objs.size) ⟨hp.push o, g, d, tk, os⟩ → wpAny (model prog w) A' (pyIter v) Q E ⟨hp, g, d, tk, os⟩ := fun q => B.iter prog w _ _ ⟨hp, g, d, tk, os⟩ _ h1 q
    wp_walk using q1
    refine wpAny_stack_any fun st => wpAny_pure ?_
    split
    · rename_i c _ _ _ _ _
      cases (c == Value.type "enumerate") <;> (wp_walk using q1; exact ⟨_, rfl, h⟩)
    · wp_walk using q1
      exact ⟨_, rfl, h⟩
/-- enumerate(t), t a tuple -/
theorem call_enumT {prog : Program} {w : World} {A : Around} {E : Value → Shared → Prop} {s : Shared} {t : Addr} {items : Array Value} {Q : Value → Shared → Prop} (hT : s.heap.IsTuple t items)
    (h : ∀ h1, IsEnum h1 (s.heap.objs.size + 1) s.heap.objs.size 0 .none → h1.IsTupleIter s.heap.objs.size t 0 → (∀ b o, s.heap.get? b = some o → h1.get? b = some o) → Q (.ref (s.heap.objs.size + 1)) { s with heap := h1 }) :
    wpAny (model prog w) A (call (.type "enumerate") [.ref t]) Q E s := by
  refine callType_new F.called_enumerate (by decide) (F.typeCall_enumerate_1 _) (F.newCall_enumerate_1 _) (fun obj => F.args_object_init_2 obj _) F.entry_enumerate_new (meets_enum1 (begins_tuple t items)) ⟨hT, ?_⟩
  obtain ⟨oI, eI⟩ : ∃ oI : Obj, oI = { cls := .type "tuple_iterator", data := .fields #[.ref t, .int 0 0] } := ⟨_, rfl⟩
  rw [← eI]
  have sz : (s.heap.push oI).objs.size = s.heap.objs.size + 1 := Heap.size_push ..
  show _ ∧ _
  rw [sz]
  have he := Heap.get?_push_size (s.heap.push oI) (o := { cls := .type "enumerate", data := .fields #[.none, .bool false, .ref s.heap.objs.size, rawInt 0, .none, .none] }) rfl
  rw [sz] at he
  have hi : ((s.heap.push oI).push { cls := .type "enumerate", data := .fields #[.none, .bool false, .ref s.heap.objs.size, rawInt 0, .none, .none] }).get? s.heap.objs.size = some oI := Heap.get?_push_of_some _ (Heap.get?_push_size _ (by rw [eI]; rfl))
  exact ⟨⟨_, he, rfl⟩, h _ he ⟨_, hi, by rw [eI], by rw [eI]; rfl⟩ fun b o x => Heap.get?_push_of_some _ (Heap.get?_push_of_some _ x)⟩
/-- the tuple at a, each item with its number in a new pair -/
def ItE (K : PySem.W.Frag) (a : Addr) : It :=
  ⟨fun i H => ∃ (xs : List V) (x : V), SqT K H a xs ∧ xs[i]? = some x, fun i H v H1 => ∃ T x, v = .ref T ∧ H T = none ∧ H1 = upd H T (.tup [.int (i : Nat), x]) ∧ ∀ xs, SqT K H a xs → xs[i]? = some x, fun i H => ∃ xs : List V, SqT K H a xs ∧ xs.length ≤ i⟩
theorem turn_enumT {P : Program} {w : World} {K : PySem.W.Frag} {elts : List Expr} {kk : Nat} {tpos : Pos} (a e it : Addr) :
    Turn P w K (.Tuple elts kk tpos) (ItE K a) [e, it] e (fun i h => (∃ old, IsEnum h e it ((i : Nat) : Int) old) ∧ h.IsTupleIter it a i ∧ e ≠ it ∧ a ≠ it ∧ a ≠ e) where
  mem := by simp
  obj := fun i h ⟨⟨old, he⟩, ⟨o, ho, hc, hd⟩, _⟩ b hb => by
    rcases List.mem_cons.mp hb with z | z
    · rw [z]; exact ⟨_, he, fun v q => nomatch q⟩
    · rw [List.mem_singleton.mp z]; exact ⟨o, ho, fun v q => by rw [hd] at q; cases q⟩
  keep := fun i h h1 ⟨⟨old, he⟩, hi, r⟩ k => ⟨⟨old, k e (by simp) _ he⟩, hi.at fun o q => k it (by simp) o q, r⟩
  item := by
    intro X hP hw hK hc i pins s σ H E I hf ⟨⟨old, he⟩, hit, hne, hai, hae⟩ ⟨xs, x, hq, hx⟩
    subst hP hw hK
    obtain ⟨its, rv, p, hz⟩ := I.tuple hq
    obtain ⟨u, hu, ru⟩ := rv.get hx
    have hel : e < s.heap.objs.size := Heap.lt_size he
    have hil : it < s.heap.objs.size := by obtain ⟨_, q, _⟩ := hit; exact Heap.lt_size q
    have hlt : i < its.toArray.size := by
      have := (List.getElem?_eq_some_iff.mp hu).1
      simpa using this
    have D := Draws.tuple (prog := X.prog) (w := X.w) (A := X.A.in1) (by simpa using I.ok.hd hc) it a hai its.toArray
    refine wpAny_pyNext_enum_itemD D he ⟨hit, p⟩ hlt hne (by simp [hne, Ne.symm hae]) fun x2 h1 tk hP2 ho ⟨hit1, _⟩ hT hsz hk => ?_
    have e2 : x2 = u := by
      have z : its.toArray[i]? = some u := by simpa using hu
      exact Option.some.inj (hP2.symm.trans z)
    subst e2
    refine ⟨_, rfl, wpAny_letOwnedTupleGo_enum (s := { s with heap := h1, toks := tk + 1 }) ho fun h2 he2 sb => ?_⟩
    have hT2 : h2.get? s.heap.objs.size = some { cls := .type "tuple", data := .seq #[.int i tk, x2] } := (sb.2 _ (Nat.ne_of_gt hel)).trans hT
    have new : ObjOk X.prog X.w (upd H s.heap.objs.size (.tup [.int (i : Nat), x])) h2 s.heap.objs.size (.tup [.int (i : Nat), x]) := ⟨by show 2 ≤ sizeLine; decide, [.int i tk, x2], .cons ⟨_, rfl⟩ (.cons ru .nil), ⟨_, hT2, rfl, _, rfl⟩⟩
    have I1 : Inv X pins σ (upd H s.heap.objs.size (.tup [.int (i : Nat), x])) { s with heap := h2, toks := tk + 1 } :=
      I.turnedNew (ch := [e, it]) (fun b ob hb q => (sb.2 b (fun z => hb (by simp [z]))).trans (hk b ob (fun z => hb (by simp [z])) (fun z => hb (by simp [z])) q)) hf (Nat.le_refl _) new
    refine ⟨.ref s.heap.objs.size, _, I1, rfl, ⟨_, x, rfl, I.hok.fresh (Nat.le_refl _), rfl, fun ys hy => by rw [I.tuple_inj hy hq]; exact hx⟩, ⟨⟨x2, ?_⟩, hit1.at fun o q => (sb.2 it (Ne.symm hne)).trans q, hne, hai, hae⟩, fun b hb => ?_⟩
    · rw [show ((i + 1 : Nat) : Int) = (i : Int) + 1 by omega]; exact he2
    · have hb2 : b < s.heap.objs.size := by
        rcases List.mem_cons.mp hb with z | z
        · rw [z]; exact hel
        · rw [List.mem_singleton.mp z]; exact hil
      rw [upd_ne (Nat.ne_of_lt hb2)]
      exact (hf b hb).1
  done := by
    intro X hP hw hK hc i pins s σ H E I hf ⟨⟨old, he⟩, hit, hne, hai, hae⟩ ⟨xs, hq, hx⟩
    subst hP hw hK
    obtain ⟨its, rv, p, hz⟩ := I.tuple hq
    obtain ⟨f0, f1, f2, f3, f4, f5⟩ := hf it (by simp)
    have hl := rv.length
    have hh : X.A.in1.handled = none := by simpa using I.ok.hd hc
    have D0 : Draws X.prog X.w X.A.in1 it [it, a] i (fun j v => False) (fun j h => j = i ∧ h.IsTupleIter it a i ∧ h.IsTuple a its.toArray) :=
      { live := fun _ _ ⟨_, ⟨o, ho, _⟩, _⟩ => ⟨o, ho⟩
        frame := fun _ _ _ ⟨r, st1, st2⟩ hk => ⟨r, st1.at fun o e => hk it (by simp) o e, st2.at fun o e => hk a (by simp) o e⟩
        item := fun j s Q E hj ⟨r, _⟩ _ => absurd r (Nat.ne_of_lt hj)
        done := fun s Q E ⟨_, st1, st2⟩ hE => wpAny_nextOf_tuple_end hh st1 st2 (by simp; omega) hE }
    exact wpAny_pyNext_enum_endD D0 he ⟨rfl, hit, p⟩ fun h1 eb => ⟨rfl, I.turned (t' := s.toks) (fun b o hb q => eb b o hb q) f0 f1 f3 f4 f5⟩
  self := fun A i s Q E ⟨⟨_, he⟩, _⟩ h => wpAny_pyIter_enum he h
def iEnumT (K : PySem.W.Frag) (ta : TA) : TI := fun σ H R => ta σ H fun vs H1 => ∃ a xs, vs = [.ref a] ∧ SqT K H1 a xs ∧ R (ItE K a) H1
theorem pi_enumT {X : Cx} {e : Expr} {ta : TA} {p pos tpos : Pos} {elts : List Expr} {kk : Nat} (hg : Gl X "enumerate") (hm : X.mg "enumerate" = none) (ha : PA X [e] ta) (hs : starEach [e] X.env = [(false, eval e X.env)] := by rfl) :
    PI X (.Tuple elts kk tpos) (.Call (.Name "enumerate" p) [e] [] pos) (iEnumT X.K ta) := by
  refine ⟨fun pins s σ H R I h => ?_⟩
  refine Call_ (ld_blt I hg hm boot_enumerate (PyProof.Rows.callWith_type1 (thn (ha.run pos pins s σ H _ I h) fun us s1 ⟨vs, H1, I1, r1, a, xs, ex, hq, q⟩ => ?_) hs rfl))
  subst ex
  cases r1 with
  | cons r rr =>
    cases rr
    cases r
    obtain ⟨its, rv, p2, hz⟩ := I1.tuple hq
    have al : a < s1.heap.objs.size := p2.lt
    refine call_enumT p2 fun h1 he hit hk => wpAny_pyIter_enum he ?_
    have I2 : Inv X pins σ H1 { s1 with heap := h1 } := I1.kept (t' := s1.toks) hk
    refine ⟨s1.heap.objs.size + 1, [s1.heap.objs.size + 1, s1.heap.objs.size], _, _, H1, rfl, I2, turn_enumT a (s1.heap.objs.size + 1) s1.heap.objs.size, ⟨⟨.none, he⟩, hit, Nat.succ_ne_self _, Nat.ne_of_lt al, Nat.ne_of_lt (Nat.lt_succ_of_lt al)⟩, fun b hb => ?_, q⟩
    have hle : s1.heap.objs.size ≤ b := by
      rcases List.mem_cons.mp hb with z | z
      · rw [z]; exact Nat.le_succ _
      · rw [List.mem_singleton.mp z]; exact Nat.le_refl _
    exact I1.fpOk hle (I1.hok.fresh hle)
/-- a comprehension over enumerate(t) -/
theorem lc_enumT {K : PySem.W.Frag} {a : Addr} {xs : List V} {g : TG} {tt : TT} {te : TE} {vs : List Nat} {σ : L2.St} {H1 : Hp} {D : Addr} {Qd : Hp → Prop} (Pv : Nat → Hp → Prop) (h0 : Pv 0 (upd H1 D (.lst []))) (hl : ∀ i H, i ≤ xs.length → Pv i H → SqT K H a xs)
    (hs : ∀ i x H T, xs[i]? = some x → Pv i H → H T = none → g (.ref T) (wipe σ vs) (upd H T (.tup [.int (i : Nat), x])) fun σ2 H2 => wipe σ2 vs = wipe σ vs ∧ tt σ2 H2 fun b H3 =>
      if b = true then te σ2 H3 fun y H4 => ∃ acc, H4 D = some (.lst acc) ∧ acc.length < sizeLine ∧ Pv (i + 1) (upd H4 D (.lst (acc ++ [y]))) else Pv (i + 1) H3) (hd : ∀ H, Pv xs.length H → Qd H) :
    ∃ W : Nat → Nat → Hp → Prop, (∃ m, W 0 m (upd H1 D (.lst []))) ∧ ∀ i m H, W i m H →
      ((ItE K a).stop i H ∧ Qd H) ∨ ((ItE K a).go i H ∧ ∃ Nx : Hp → Prop, (∀ H2, Nx H2 → ∃ m2, m2 < m ∧ W (i + 1) m2 H2) ∧ ∀ x H2, (ItE K a).yld i H x H2 → g x (wipe σ vs) H2 fun σ2 H2 => wipe σ2 vs = wipe σ vs ∧ tt σ2 H2 fun b H3 =>
        if b = true then te σ2 H3 fun y H4 => ∃ acc, H4 D = some (.lst acc) ∧ acc.length < sizeLine ∧ Nx (upd H4 D (.lst (acc ++ [y]))) else Nx H3) := by
  refine ⟨fun i m H => m = xs.length - i ∧ i ≤ xs.length ∧ Pv i H, ⟨xs.length, by simp, Nat.zero_le _, h0⟩, fun i m H ⟨em, hi, hp⟩ => ?_⟩
  subst em
  have hq := hl i H hi hp
  by_cases hlt : i < xs.length
  · refine .inr ⟨⟨xs, xs[i], hq, by simp [hlt]⟩, Pv (i + 1), fun H2 p2 => ⟨xs.length - (i + 1), by omega, rfl, hlt, p2⟩, fun x H2 ⟨T, y, ex, nT, eH, hy⟩ => ?_⟩
    subst ex eH
    exact hs i y H T (hy xs hq) hp nT
  · have : i = xs.length := by omega
    subst this
    exact .inl ⟨⟨xs, hq, Nat.le_refl _⟩, hd H hp⟩
end ExX
namespace ExX
open PySem PySem.Spec PyProof.Rows L2
theorem for_enumT {K : PySem.W.Frag} {a : Addr} {xs : List V} {g : TG} {tb : TS} {D : Ends} {σ : L2.St} {H : Hp} (Pv : Nat → L2.St → Hp → Prop) (h0 : Pv 0 σ H) (hl : ∀ i σ H, i ≤ xs.length → Pv i σ H → SqT K H a xs)
    (hs : ∀ i x σ H T, xs[i]? = some x → Pv i σ H → H T = none → g (.ref T) σ (upd H T (.tup [.int (i : Nat), x])) fun σ2 H2 => tb { D with nx := Pv (i + 1), ct := Pv (i + 1), bk := D.nx } σ2 H2) (hd : ∀ σ H, Pv xs.length σ H → D.nx σ H) :
    ∃ W : Nat → Nat → L2.St → Hp → Prop, (∃ m, W 0 m σ H) ∧ ∀ i m σ H, W i m σ H →
      ((ItE K a).stop i H ∧ D.nx σ H) ∨ ((ItE K a).go i H ∧ ∃ N : L2.St → Hp → Prop, (∀ σ2 H2, N σ2 H2 → ∃ m2, m2 < m ∧ W (i + 1) m2 σ2 H2) ∧ ∀ x H2, (ItE K a).yld i H x H2 → g x σ H2 fun σ2 H2 => tb { D with nx := N, ct := N, bk := D.nx } σ2 H2) := by
  refine ⟨fun i m σ H => m = xs.length - i ∧ i ≤ xs.length ∧ Pv i σ H, ⟨xs.length, by simp, Nat.zero_le _, h0⟩, fun i m σ H ⟨em, hi, hp⟩ => ?_⟩
  subst em
  have hq := hl i σ H hi hp
  by_cases hlt : i < xs.length
  · refine .inr ⟨⟨xs, xs[i], hq, by simp [hlt]⟩, Pv (i + 1), fun σ2 H2 p2 => ⟨xs.length - (i + 1), by omega, rfl, hlt, p2⟩, fun x H2 ⟨T, y, ex, nT, eH, hy⟩ => ?_⟩
    subst ex eH
    exact hs i y σ H T (hy xs hq) hp nT
  · have : i = xs.length := by omega
    subst this
    exact .inl ⟨⟨xs, hq, Nat.le_refl _⟩, hd σ H hp⟩
end ExX

namespace ExX
open PySem PySem.Spec PyProof.Rows L2
/-- a def that may raise, called where it does not -/
theorem fn_no {P : Program} {w : World} {K : PySem.W.Frag} {mg : Str → Option Value} {base : Heap} {k : Nat} {f : Addr} {fd : FuncData} {ps : List Str} {sp sp' : Sp} (F : FnOk P w K mg base (L2N.CX P w) k f fd ps sp) (h : ∀ vs H Q E, sp' vs H Q E → sp vs H Q (fun _ _ _ => False)) : FnOk P w K mg base CX0 k f fd ps sp' := by
  refine ⟨fun vs H Q E z => F.len _ _ _ _ (h _ _ _ _ z), fun A outer s H args us vs Q E hr e0 b r z => ?_⟩
  refine codeAny_mono (F.run A outer s H args us vs Q (fun _ _ _ => False) hr e0 b r (h _ _ _ _ z)) fun res s2 q => ?_
  cases res with
  | ok fl => cases fl <;> exact q
  | error e =>
    have q : L2N.CX P w outer H s (fun _ _ _ => False) e s2 := q
    unfold L2N.CX at q
    simp at q
def noE (sp : Sp) : Sp := fun vs H Q _ => sp vs H Q fun _ _ _ => False
theorem fn_noE {P : Program} {w : World} {K : PySem.W.Frag} {mg : Str → Option Value} {base : Heap} {k : Nat} {f : Addr} {fd : FuncData} {ps : List Str} {sp : Sp} (F : FnOk P w K mg base (L2N.CX P w) k f fd ps sp) : FnOk P w K mg base CX0 k f fd ps (noE sp) := fn_no F fun _ _ _ _ z => z
theorem Flies.same {H H1 : Hp} {E : XK} {C : Addr} {fld tag : Str} {v : V} (f : Flies H E C fld tag v) (s : Same H H1) : Flies H1 E C fld tag v := fun d H2 n h s2 => f d H2 (sm_none s n) h (s.trans s2)
end ExX

namespace Ff
open PySem PySem.Spec PyProof.Rows L2
def topS (i : Nat) : Stmt := PySem.Challenge.pw_findforests_k22_whole_ways_by_search.main.body.getD i (.Pass ⟨0, 0, 0, 0⟩)
/-- all but what stands at d is as it was -/
def Sb (d : Addr) (H H' : Hp) : Prop := ∀ b o, b ≠ d → H b = some o → H' b = some o
theorem Sb.refl {d : Addr} {H : Hp} : Sb d H H := fun _ _ _ h => h
theorem Sb.trans {d : Addr} {H H1 H2 : Hp} (a : Sb d H H1) (b : Sb d H1 H2) : Sb d H H2 := fun c o n h => b c o n (a c o n h)
theorem Sb.of {d : Addr} {H H' : Hp} (s : Same H H') : Sb d H H' := fun b o _ h => s b o h
theorem Sb.put {d : Addr} {H : Hp} {o : HO} : Sb d H (upd H d o) := fun b u n h => by rw [upd_ne n]; exact h
theorem same_new {H : Hp} {p : Addr} {o : HO} (h : H p = none) : Same H (upd H p o) := fun b x e => by
  rw [upd_ne (ne_of_none e h)]
  exact e
theorem same_sqt {H : Hp} {K : PySem.W.Frag} {a : Addr} {xs : List V} {H' : Hp} (e : Same H H') (h : SqT K H a xs) : SqT K H' a xs := by
  rcases h with (h | ⟨o, h⟩) | h
  · exact .inl (.inl (e _ _ h))
  · exact .inl (.inr ⟨o, e _ _ h⟩)
  · exact .inr h
/-- the state of the draws: a list of a list of ints and three ints -/
def DrawAt (H : Hp) (d l : Addr) : Prop := ∃ (ns : List Int) (i j k : Int),
  H d = some (.lst [.ref l, .int i, .int j, .int k]) ∧ H l = some (.lst (ns.map V.int)) ∧ 0 ≤ i ∧ 0 ≤ k ∧ k < 2305843009213693951
theorem draw_ne {H : Hp} {d l : Addr} {ns : List Int} {i j k : Int} (h : H d = some (.lst [.ref l, .int i, .int j, .int k])) (h' : H l = some (.lst (ns.map V.int))) : l ≠ d :=
  ne_of h' h (by
    intro z
    cases ns with
    | nil => cases z
    | cons a r => injection z with z; injection z with z _; cases z)
theorem DrawAt.same {H H' : Hp} {d l : Addr} (D : DrawAt H d l) (s : Same H H') : DrawAt H' d l := by
  obtain ⟨ns, i, j, k, h, h', r⟩ := D
  exact ⟨ns, i, j, k, s _ _ h, s _ _ h', r⟩
def spTake : Sp := fun vs H Q _ => ∃ (d l : Addr) (m : Int), vs = [.ref d, .int m] ∧ DrawAt H d l ∧ 1 ≤ m ∧ m.natAbs < 2 ^ 1000 ∧
  ∀ (r : Nat) H', (r : Int) < m → DrawAt H' d l → Sb d H H' → Q (.int r) H'
section
variable {P : Program} {w : World} {K : PySem.W.Frag} {mg : Str → Option Value} {base : Heap}
theorem dix {K : PySem.W.Frag} {H : Hp} {d : Addr} {xs : List V} (h : H d = some (.lst xs)) {k : Nat} {v : V} (e : xs[k]? = some v) : SqL K H d xs ∧ atI xs (k : Int) = some v := ⟨SqL.of h, atI_nat e⟩
end
theorem Sb.sql {K : PySem.W.Frag} {d a : Addr} {H H' : Hp} {xs : List V} (e : Sb d H H') (n : a ≠ d) (h : SqL K H a xs) : SqL K H' a xs := by
  rcases h with (h | ⟨o, h⟩) | h
  · exact .inl (.inl (e _ _ n h))
  · exact .inl (.inr ⟨o, e _ _ n h⟩)
  · exact .inr h
theorem Sb.sqt {K : PySem.W.Frag} {d a : Addr} {H H' : Hp} {xs : List V} (e : Sb d H H') (n : a ≠ d) (h : SqT K H a xs) : SqT K H' a xs := by
  rcases h with (h | ⟨o, h⟩) | h
  · exact .inl (.inl (e _ _ n h))
  · exact .inl (.inr ⟨o, e _ _ n h⟩)
  · exact .inr h
theorem DrawAt.ne {H : Hp} {d l p : Addr} (D : DrawAt H d l) (h : H p = none) : p ≠ d := by
  obtain ⟨ns, i, j, k, e, _⟩ := D
  exact (ne_of_none e h).symm
theorem DrawAt.nel {H : Hp} {d l p : Addr} (D : DrawAt H d l) (h : H p = none) : p ≠ l := by
  obtain ⟨ns, i, j, k, _, e, _⟩ := D
  exact (ne_of_none e h).symm
theorem DrawAt.put {H : Hp} {d l p : Addr} {o : HO} (D : DrawAt H d l) (h : p ≠ d) (h2 : p ≠ l) : DrawAt (upd H p o) d l := by
  obtain ⟨ns, i, j, k, g, g', r⟩ := D
  exact ⟨ns, i, j, k, by rw [upd_ne h.symm]; exact g, by rw [upd_ne h2.symm]; exact g', r⟩
theorem DrawAt.new {H : Hp} {d l p : Addr} {o : HO} (D : DrawAt H d l) (h : H p = none) : DrawAt (upd H p o) d l := D.same (same_new h)
theorem Sb.over {d p : Addr} {H H' : Hp} {o : HO} (e : Sb d H H') (h : H p = none) : Sb d H (upd H' p o) := fun b u n hb => by
  rw [upd_ne (ne_of_none hb h)]
  exact e b u n hb
theorem same_over {p : Addr} {H H' : Hp} {o : HO} (e : Same H H') (h : H p = none) : Same H (upd H' p o) := fun b u hb => by
  rw [upd_ne (ne_of_none hb h)]
  exact e b u hb
theorem Sb.free {d : Addr} {H H' : Hp} (e : Sb d H H') {p : Addr} (n : p ≠ d) (h : H' p = none) : H p = none := by
  cases z : H p with
  | none => rfl
  | some o => rw [e p o n z] at h; cases h
structure Tx (mg : Str → Option Value) : Prop where
  len : mg "len" = none
  range : mg "range" = none
  list : mg "list" = none
  tuple : mg "tuple" = none
  max : mg "max" = none
  min : mg "min" = none
def spOf (K : PySem.W.Frag) : Sp := fun vs H Q _ => ∃ (d l a : Addr) (xs : List V), vs = [.ref d, .ref a] ∧ DrawAt H d l ∧ a ≠ d ∧ SqL K H a xs ∧ 1 ≤ xs.length ∧ xs.length ≤ 1000 ∧
  ∀ (i : Nat) (v : V) H', xs[i]? = some v → DrawAt H' d l → Sb d H H' → Q v H'
def spShuf (K : PySem.W.Frag) : Sp := fun vs H Q _ => ∃ (d l a : Addr) (xs : List V), vs = [.ref d, .ref a] ∧ DrawAt H d l ∧ a ≠ d ∧ SqL K H a xs ∧ xs.length ≤ 1000 ∧
  ∀ (p : Addr) (ys : List V) H', ys.Perm xs → H p = none → p ≠ d → H' p = some (.lst ys) → DrawAt H' d l → Sb d H H' → Q (.ref p) H'
def spSize : Sp := fun vs H Q _ => ∃ (d l : Addr) (m : Nat), vs = [.ref d, .int m] ∧ DrawAt H d l ∧ m ≤ 1000 ∧
  ∀ (r : Nat) H', r ≤ m → DrawAt H' d l → Sb d H H' → Q (.int r) H'
def spStart (K : PySem.W.Frag) : Sp := fun vs H Q _ => ∃ (a : Addr) (ns : List Int), vs = [.ref a] ∧ SqL K H a (ns.map V.int) ∧ ns.length ≤ 63 ∧
  ∀ (d l : Addr) H', H d = none → DrawAt H' d l → Same H H' → Q (.ref d) H'
section
variable {P : Program} {w : World} {K : PySem.W.Frag} {mg : Str → Option Value} {base : Heap}
theorem insert_perm {xs : List V} (i : Nat) (y : V) : (xs.take i ++ [y] ++ xs.drop i).Perm (xs ++ [y]) := by
  rw [List.append_assoc]
  refine (List.Perm.append_left _ (List.perm_append_comm)).trans ?_
  rw [← List.append_assoc, List.take_append_drop]
end
abbrev vi (n : Nat) : V := .int (n : Int)
def natsV (l : List Nat) : List V := l.map vi
def tupOf (n : Nat) (p : Nat → Nat) : List V := (List.range n).map fun v => vi (p v)
theorem tupOf_len (n : Nat) (p : Nat → Nat) : (tupOf n p).length = n := by unfold tupOf; rw [List.length_map, List.length_range]
theorem tupOf_at {n : Nat} {p : Nat → Nat} {i : Nat} (h : i < n) : (tupOf n p)[i]? = some (vi (p i)) := by
  unfold tupOf
  rw [List.getElem?_map, List.getElem?_range h]
  rfl
theorem tupOf_congr {n : Nat} {p q : Nat → Nat} (h : ∀ v, v < n → p v = q v) : tupOf n p = tupOf n q := by
  unfold tupOf
  exact List.map_congr_left fun v hv => by rw [h v (List.mem_range.mp hv)]
theorem tupOf_set {n : Nat} {p : Nat → Nat} {i y : Nat} : (tupOf n p).set i (vi y) = tupOf n (fun v => if v = i then y else p v) := by
  refine List.ext_getElem? fun j => ?_
  rw [List.getElem?_set]
  by_cases hj : j < n
  · rw [tupOf_at hj, tupOf_at hj, tupOf_len]
    by_cases e : i = j
    · subst e
      rw [if_pos rfl, if_pos hj, if_pos rfl]
    · rw [if_neg e, if_neg (fun z => e z.symm)]
  · have z1 : (tupOf n p)[j]? = none := List.getElem?_eq_none (by rw [tupOf_len]; omega)
    have z2 : (tupOf n (fun v => if v = i then y else p v))[j]? = none := List.getElem?_eq_none (by rw [tupOf_len]; omega)
    rw [z1, z2, tupOf_len]
    by_cases e : i = j
    · rw [if_pos e, if_neg (by omega)]
    · rw [if_neg e]
theorem natsV_len (l : List Nat) : (natsV l).length = l.length := List.length_map _
theorem natsV_last (p : Nat → Nat) (k x : Nat) : atI (natsV (path p k x)) (-1) = some (vi (root p k x)) := by
  unfold natsV path
  rw [List.map_append]
  exact atI_last _ _
/-- a list or a tuple that is read -/
def Sq (K : PySem.W.Frag) (H : Hp) (a : Addr) (xs : List V) : Prop := SqL K H a xs ∨ SqT K H a xs
theorem Sq.same {K : PySem.W.Frag} {H H' : Hp} {a : Addr} {xs : List V} (h : Sq K H a xs) (e : Same H H') : Sq K H' a xs := h.imp (fun z => e.seq z) (fun z => same_sqt e z)
theorem Sq.sb {K : PySem.W.Frag} {d : Addr} {H H' : Hp} {a : Addr} {xs : List V} (h : Sq K H a xs) (e : Sb d H H') (n : a ≠ d) : Sq K H' a xs := h.imp (fun z => e.sql n z) (fun z => e.sqt n z)
theorem Sq.ix {K : PySem.W.Frag} {H : Hp} {a : Addr} {xs : List V} (h : Sq K H a xs) {i : Int} {v : V} {Q : VK} (e : atI xs i = some v) (q : Q v H) : rIx K (.ref a) (.int i) H Q := by
  rcases h with z | z
  · exact .inl ⟨a, xs, i, v, rfl, rfl, z, e, q⟩
  · exact .inr (.inl ⟨a, xs, i, v, rfl, rfl, z, e, q⟩)
def spChk (K : PySem.W.Frag) : Sp := fun vs H Q _ => ∃ (a : Addr) (xs : List V) (x : Nat), vs = [.ref a, vi x] ∧ Sq K H a xs ∧ x < xs.length ∧ Q .non H
/-- path_of, and the law's own -/
def spPath (K : PySem.W.Frag) : Sp := fun vs H Q _ => ∃ (a : Addr) (n : Nat) (p : Nat → Nat) (x : Nat), vs = [.ref a, vi x] ∧ Sq K H a (tupOf n p) ∧ n ≤ 1000 ∧ (∀ v, v < n → p v < n) ∧ x < n ∧
  ∀ (q : Addr) H', H q = none → H' q = some (.lst (natsV (path p n x))) → Same H H' → Q (.ref q) H'
def spPathOf (K : PySem.W.Frag) : Sp := fun vs H Q _ => ∃ (a : Addr) (n : Nat) (p r : Nat → Nat) (x : Nat), vs = [.ref a, vi x] ∧ Sq K H a (tupOf n p) ∧ n ≤ 1000 ∧ Fo n p r ∧ x < n ∧
  ∀ (q : Addr) H', H q = none → H' q = some (.lst (natsV (path p n x))) → Same H H' → Q (.ref q) H'
def spRoot (K : PySem.W.Frag) : Sp := fun vs H Q _ => ∃ (a : Addr) (n : Nat) (p : Nat → Nat) (x : Nat), vs = [.ref a, vi x] ∧ Sq K H a (tupOf n p) ∧ n ≤ 1000 ∧ (∀ v, v < n → p v < n) ∧ x < n ∧
  ∀ H', Same H H' → Q (vi (root p n x)) H'
def spFind (K : PySem.W.Frag) : Sp := fun vs H Q _ => ∃ (a : Addr) (n : Nat) (p r : Nat → Nat) (x : Nat), vs = [.ref a, vi x] ∧ Sq K H a (tupOf n p) ∧ n ≤ 1000 ∧ Fo n p r ∧ x < n ∧
  ∀ (t g : Addr) H', H t = none → H g = none → H' t = some (.tup [.ref g, vi (ups p n x).length]) → H' g = some (.tup (tupOf n (fnd n p x))) → Same H H' → Q (.ref t) H'
def spFindAll (K : PySem.W.Frag) : Sp := fun vs H Q _ => ∃ (a b : Addr) (n : Nat) (p r : Nat → Nat) (xs : List Nat), vs = [.ref a, .ref b] ∧ SqT K H a (tupOf n p) ∧ SqL K H b (natsV xs) ∧ n ≤ 1000 ∧ xs.length ≤ 1000 ∧ Fo n p r ∧ (∀ x ∈ xs, x < n) ∧
  ∀ (t g c : Addr) H', H t = none → H c = none → (g = a ∨ H g = none) → H' t = some (.tup [.ref g, .ref c]) → SqT K H' g (tupOf n (fndAll n xs p)) → H' c = some (.lst (natsV (costs n xs p))) → Same H H' → Q (.ref t) H'
/-- an integer that is one of the numbers below -/
def spNum : Sp := fun vs H Q _ => ∃ (n x : Nat), vs = [vi n, vi x] ∧ x < n ∧ Q .non H
def setAll (y : Nat) : List Nat → (Nat → Nat) → Nat → Nat
  | [], p => p
  | v :: l, p => setAll y l (fun u => if u = v then y else p u)
theorem setAll_snoc (y v : Nat) : ∀ (l : List Nat) (p : Nat → Nat), setAll y (l ++ [v]) p = fun u => if u = v then y else setAll y l p u
  | [], _ => rfl
  | a :: l, p => setAll_snoc y v l _
theorem setAll_eq (y : Nat) : ∀ (l : List Nat) (p : Nat → Nat) (u : Nat), setAll y l p u = if u ∈ l then y else p u
  | [], p, u => by rw [if_neg (List.not_mem_nil)]; rfl
  | a :: l, p, u => by
    show setAll y l _ u = _
    rw [setAll_eq y l]
    by_cases h1 : u ∈ l
    · rw [if_pos h1, if_pos (List.mem_cons_of_mem _ h1)]
    · rw [if_neg h1]
      by_cases h2 : u = a
      · rw [if_pos h2, if_pos (by rw [h2]; exact List.mem_cons_self)]
      · rw [if_neg h2, if_neg (fun z => (List.mem_cons.mp z).elim h2 h1)]
theorem fnd_setAll (n : Nat) (p : Nat → Nat) (x : Nat) : setAll (root p n x) (path p n x) p = fnd n p x := by
  funext u
  rw [setAll_eq]
  rfl
theorem path_lt {n : Nat} {p r : Nat → Nat} (F : Fo n p r) {x : Nat} (hx : x < n) : ∀ v ∈ path p n x, v < n := fun v hv => by
  unfold path at hv
  rcases List.mem_append.mp hv with h | h
  · exact (ups_lt F x hx v h).1
  · rw [List.mem_singleton.mp h]; exact root_lt F x hx
theorem ixN_nat {n i : Nat} (h : i < n) : ixN n (i : Int) = some i := by
  unfold ixN
  rw [if_pos (by omega), if_pos (by omega)]
  simp
theorem perm_of_map {α β : Type} {f : α → β} {zs ys : List β} (h : zs.Perm ys) : ∀ l : List α, zs = l.map f → ∃ l' : List α, ys = l'.map f ∧ l.Perm l' := by
  induction h with
  | nil => intro l e; exact ⟨l, e, List.Perm.refl _⟩
  | cons x h ih =>
    intro l e
    cases l with
    | nil => cases e
    | cons a r =>
      injection e with e1 e2
      obtain ⟨l', h1, h2⟩ := ih r e2
      exact ⟨a :: l', by rw [h1, e1]; rfl, h2.cons a⟩
  | swap x y l0 =>
    intro l e
    match l, e with
    | a :: b :: r, e =>
      injection e with e1 e2
      injection e2 with e2 e3
      exact ⟨b :: a :: r, by rw [e1, e2, e3]; rfl, List.Perm.swap _ _ _⟩
  | trans h1 h2 ih1 ih2 =>
    intro l e
    obtain ⟨l1, a, b⟩ := ih1 l e
    obtain ⟨l2, c, d⟩ := ih2 l1 a
    exact ⟨l2, c, b.trans d⟩
theorem rgV_nat (n : Nat) : rgV 0 (n : Int) = natsV (List.range n) := by
  unfold rgV natsV
  rw [show ((n : Int) - 0).toNat = n by omega]
  exact List.map_congr_left fun i _ => by show V.int (0 + (i : Int)) = V.int (i : Int); rw [Int.zero_add]
theorem rgOk_nat {n : Nat} (h : n ≤ 1000) : RgOk 0 (n : Int) := ⟨by decide, by decide, by omega, by omega, by omega⟩
theorem shuf_nats {l : List Nat} {ys : List V} (h : ys.Perm (natsV l)) : ∃ ks : List Nat, ys = natsV ks ∧ ks.Perm l := by
  obtain ⟨l', e, p⟩ := perm_of_map h.symm l rfl
  exact ⟨l', e, p.symm⟩
/-- the assignments of the renaming -/
def asg (ks ps : List Nat) : Nat → Nat → Nat
  | 0 => fun _ => 0
  | i + 1 => fun v => if v = ks.getD i 0 then ks.getD (ps.getD i 0) 0 else asg ks ps i v
theorem getD_inj {ks : List Nat} (nd : ks.Nodup) {i j : Nat} (hi : i < ks.length) (hj : j < ks.length) (e : ks.getD i 0 = ks.getD j 0) : i = j := by
  rw [List.getD_eq_getElem?_getD, List.getD_eq_getElem?_getD, List.getElem?_eq_getElem hi, List.getElem?_eq_getElem hj] at e
  exact (List.getElem_inj nd).mp e
theorem asg_at {ks ps : List Nat} (nd : ks.Nodup) : ∀ i, i ≤ ks.length → ∀ j, j < i → asg ks ps i (ks.getD j 0) = ks.getD (ps.getD j 0) 0
  | 0, _, j, h => by omega
  | i + 1, hi, j, h => by
    show (if ks.getD j 0 = ks.getD i 0 then _ else _) = _
    by_cases e : j = i
    · subst e; rw [if_pos rfl]
    · rw [if_neg (fun z => e (getD_inj nd (by omega) (by omega) z))]
      exact asg_at nd i (by omega) j (by omega)
theorem renamed_fo {ks ps : List Nat} {n : Nat} (hk : ks.Perm (List.range n)) (hp : ∀ j, j < n → ps.getD j 0 ≤ j) : ∃ r, Fo n (asg ks ps n) r := by
  have nd : ks.Nodup := hk.nodup_iff.mpr List.nodup_range
  have hl : ks.length = n := by rw [hk.length_eq, List.length_range]
  have hm : ∀ v, v < n → ∃ j, j < n ∧ ks.getD j 0 = v := fun v hv => by
    obtain ⟨j, hj, e⟩ := List.getElem_of_mem (hk.mem_iff.mpr (List.mem_range.mpr hv))
    exact ⟨j, by omega, by rw [List.getD_eq_getElem?_getD, List.getElem?_eq_getElem hj]; exact e⟩
  have hb : ∀ j, j < n → ks.getD j 0 < n := fun j hj => by
    have hj' : j < ks.length := by omega
    rw [List.getD_eq_getElem?_getD, List.getElem?_eq_getElem hj']
    exact List.mem_range.mp (hk.mem_iff.mp (List.getElem_mem hj'))
  have hi : ∀ j, j < n → ks.idxOf (ks.getD j 0) = j := fun j hj => by
    have hj' : j < ks.length := by omega
    have hmem : ks.getD j 0 ∈ ks := by
      rw [List.getD_eq_getElem?_getD, List.getElem?_eq_getElem hj']
      exact List.getElem_mem hj'
    have h1 := List.idxOf_lt_length_of_mem hmem
    refine getD_inj nd h1 hj' ?_
    rw [List.getD_eq_getElem?_getD, List.getElem?_eq_getElem h1]
    exact List.getElem_idxOf h1
  refine ⟨fun v => ks.idxOf v, fun v hv => ?_, fun v hv => ?_, fun v hv => ?_⟩
  · obtain ⟨j, hj, rfl⟩ := hm v hv
    rw [asg_at nd n (by omega) j hj]
    have := hp j hj
    exact hb _ (by omega)
  · obtain ⟨j, hj, rfl⟩ := hm v hv
    rw [asg_at nd n (by omega) j hj]
    have h1 := hp j hj
    by_cases e : ps.getD j 0 = j
    · exact .inl (by rw [e])
    · exact .inr (by show ks.idxOf _ < ks.idxOf _; rw [hi _ (by omega), hi _ hj]; omega)
  · obtain ⟨j, hj, rfl⟩ := hm v hv
    show ks.idxOf _ < n
    rw [hi j hj]; exact hj
/-- a new forest -/
def spRen (K : PySem.W.Frag) : Sp := fun vs H Q _ => ∃ (d l a : Addr) (ps : List Nat), vs = [.ref d, .ref a] ∧ DrawAt H d l ∧ a ≠ d ∧ SqL K H a (natsV ps) ∧ ps.length ≤ 1000 ∧ (∀ j, j < ps.length → ps.getD j 0 ≤ j) ∧
  ∀ (t : Addr) (p r : Nat → Nat) H', H t = none → H' t = some (.tup (tupOf ps.length p)) → Fo ps.length p r → DrawAt H' d l → Sb d H H' → Q (.ref t) H'
def spFor : Sp := fun vs H Q _ => ∃ (d l : Addr) (n m : Nat), vs = [.ref d, vi n, vi m] ∧ DrawAt H d l ∧ n ≤ 1000 ∧
  ∀ (t : Addr) (p r : Nat → Nat) H', H t = none → H' t = some (.tup (tupOf n p)) → Fo n p r → DrawAt H' d l → Sb d H H' → Q (.ref t) H'
def spSome : Sp := fun vs H Q _ => ∃ (d l : Addr) (m : Nat), vs = [.ref d, vi m] ∧ DrawAt H d l ∧ m ≤ 1000 ∧
  ∀ (t : Addr) (n : Nat) (p r : Nat → Nat) H', n ≤ m → H t = none → H' t = some (.tup (tupOf n p)) → Fo n p r → DrawAt H' d l → Sb d H H' → Q (.ref t) H'
def spNodes : Sp := fun vs H Q _ => ∃ (d l : Addr) (n m : Nat), vs = [.ref d, vi n, vi m] ∧ DrawAt H d l ∧ n ≤ 1000 ∧ m ≤ 500 ∧
  ∀ (a : Addr) (xs : List Nat) H', H a = none → H' a = some (.lst (natsV xs)) → (∀ x ∈ xs, x < n) → xs.length ≤ m → DrawAt H' d l → Sb d H H' → Q (.ref a) H'
theorem rep0 (n : Nat) : (List.replicate n [V.int 0]).flatten = tupOf n (fun _ => 0) := by
  refine List.ext_getElem? fun i => ?_
  have e : (List.replicate n [V.int 0]).flatten = List.replicate n (V.int 0) := by
    induction n with
    | zero => rfl
    | succ n ih => rw [List.replicate_succ, List.flatten_cons, ih]; rfl
  rw [e]
  by_cases h : i < n
  · rw [tupOf_at h, List.getElem?_replicate, if_pos h]; rfl
  · rw [List.getElem?_eq_none (by rw [List.length_replicate]; omega), List.getElem?_eq_none (by rw [tupOf_len]; omega)]
theorem natsV_at {l : List Nat} {i : Nat} (h : i < l.length) : (natsV l)[i]? = some (vi (l.getD i 0)) := by
  unfold natsV
  rw [List.getElem?_map, List.getElem?_eq_getElem h, List.getD_eq_getElem?_getD, List.getElem?_eq_getElem h]
  rfl
section
variable {P : Program} {w : World} {A : Around} {E : Value → Shared → Prop} {s : Shared}
/-- an empty set, new -/
abbrev newSet (w : World) : Obj := { cls := .type "set", dict := none, data := .set #[] 0 (.fresh 0 0 (!w.params.followText "set-order")) }
end
section
variable {P : Program} {w : World} {A : Around} {E : Value → Shared → Prop} {s : Shared}
theorem set_of_ints {l : Addr} {items : Array Value} (ns : List Int) {Q : Value → Shared → Prop} (hh : A.handled = none) (hl : s.heap.IsList l items) (hit : IntsAre items.toList ns) (hb : ns.length + 1 < scanBound)
    (fin : ∀ (h' : Heap) (tk c : Nat), SetR w h' s.heap.objs.size (fun j => decide (j ∈ ns)) c → c ≤ ns.length → (∀ b o, s.heap.get? b = some o → h'.get? b = some o) → Q (.ref s.heap.objs.size) { s with heap := h', toks := tk }) :
    wpAny (model P w) A (call (.type "set") [.ref l]) Q E s := by
  have size_eq : items.size = ns.length := by rw [← Array.length_toList]; exact IntsAre.length hit
  obtain ⟨c, tl, hmro⟩ := F.called_set.mro; have hmade := F.called_set.made; have hsub := F.called_set.sub
  refine wpAny_call (codeAny_of_tree ?_); show wpAny _ _ (callAny (.type "set") _) _ _ _
  refine wpAny_pure ⟨Code.quiet_builtin _ (by decide +kernel), codeAny_builtin F.entry_type_call ?_⟩; rw [Around.under_plain (weight_type_call_type "set" [.ref l] []) rfl]
  have h1 := F.called_set.notType; have h2 := F.called_set.canCreate; have hct := F.typeCall_set_1 (.ref l)
  (repeat (any_goals (first | assumption | wp_step)))
  refine codeAny_mono (code_set_led1 (.ref l) (E := E) (Q₁ := fun obj s1 => obj = .ref s.heap.objs.size ∧ s1 = { s with heap := s.heap.push (newSet w) }) ⟨rfl, rfl⟩) fun r s1 hr => ?_
  match r, hr with
  | .error e, hr => exact hr
  | .ok (.ret obj), hr =>
      obtain ⟨rfl, rfl⟩ := hr
      have at0 : (s.heap.push (newSet w)).get? s.heap.objs.size = some (newSet w) := Heap.get?_push_size _ rfl
      have ty0 : Shared.TypeIs { s with heap := s.heap.push (newSet w) } (.ref s.heap.objs.size) "set" := ⟨_, at0, rfl⟩
      have hli := F.called_set.init.lookup; have hbi := F.called_set.init.bind (.ref s.heap.objs.size)
      (repeat (any_goals (first | assumption | wp_step)))
      refine codeAny_mono (codeAny_call_builtin (R := wants (fun r s2 => r = .none ∧ ∃ h' tk c, s2 = { s with heap := h', toks := tk } ∧ SetR w h' s.heap.objs.size (fun j => decide (j ∈ ns)) c ∧ c ≤ ns.length ∧ (∀ b o, s.heap.get? b = some o → h'.get? b = some o)) E) F.called_set.init.plain F.entry_set_init (check_set_init_1 ty0 ?_)) fun r2 s2 hr2 => ?_
      · obtain ⟨⟨kl, dl, el, sl⟩, hol, hcl, nl, hdl⟩ := hl
        simp only at hcl hdl; subst hcl; subst hdl
        have at1 : (s.heap.push (newSet w)).get? l = some { cls := .type "list", dict := dl, data := .seq items nl, slots := sl } := Heap.get?_push_of_some _ hol
        have hsls := F.sub_list_set; have hslf := F.sub_list_frozenset; have hne : (Value.type "list" == Value.type "dict") = false := by decide
        have isl : (s.heap.push (newSet w)).IsList l items := ⟨_, at1, rfl, nl, rfl⟩
        unfold Builtin.«set.__init__» noKeywords Builtin.Frozenset.updateFrom; generalize hPI : pyIter = PI; wp_walk; subst hPI
        refine wpAny_pyIter_list isl (wpAny_bind (wpAny_runValue ?_))
        have lt0 : l < s.heap.objs.size := Heap.lt_size hol
        have hd3 : A.in1.in1.in1.handled = none := by simp [hh]
        have sz1 : (s.heap.push (newSet w)).objs.size = s.heap.objs.size + 1 := Heap.size_push ..
        have nel : l ≠ (s.heap.push (newSet w)).objs.size := by rw [sz1]; exact Nat.ne_of_lt (Nat.lt_succ_of_lt lt0)
        have out0 : s.heap.objs.size ∉ [(s.heap.push (newSet w)).objs.size, l] := by
          rw [sz1]; intro z
          rcases List.mem_cons.mp z with z | z
          · exact Nat.ne_of_lt (Nat.lt_succ_self _) z
          · exact Nat.ne_of_gt lt0 (List.mem_singleton.mp z)
        have val : ∀ (i : Nat) (v : Value), items[i]? = some v → ∃ k t, ns[i]? = some k ∧ v = .int k t := fun i v hv => by
          have hi : i < ns.length := by rw [← size_eq]; exact (Array.getElem?_eq_some_iff.mp hv).1
          obtain ⟨t, e⟩ := IntsAre.int_at hit i v (by rw [Array.getElem?_toList]; exact hv)
          refine ⟨ns[i], t, List.getElem?_eq_getElem hi, ?_⟩
          rw [e, List.getD_eq_getElem?_getD, List.getElem?_eq_getElem hi]; rfl
        refine set_update_ints ((Walks.list hd3 _ l nel items).toS) s.heap.objs.size out0 ns size_eq hb val (items.size - 0) 0 _ (by omega) (Nat.zero_le _) ⟨⟨_, Heap.get?_push_size _ rfl, rfl, rfl⟩, (isl.push _)⟩ ⟨0, Nat.le_refl 0, setR_new_at (Heap.get?_push_of_some _ at0)⟩ ?_
        rintro ⟨h', g2, d2, t2, o2⟩ c' hm hc' hS'
        obtain rfl : g2 = s.gens := hm.gens
        obtain rfl : d2 = s.drawn := hm.drawn
        obtain rfl : o2 = s.os := hm.os
        show wpAny _ _ _ _ _ _; refine wpAny_pure ?_; show wpAny _ _ (ret Value.none) _ _ _
        refine wpAny_pure ⟨rfl, h', t2, c', rfl, hS', by omega, fun b o e => ?_⟩
        have b0 : b < s.heap.objs.size := Heap.lt_size e
        refine hm.heap b o (fun z => ?_) (Heap.get?_push_of_some _ (Heap.get?_push_of_some _ e))
        rcases List.mem_cons.mp z with z | z
        · exact Nat.ne_of_lt b0 z
        · exact Nat.ne_of_lt (Nat.lt_succ_of_lt b0) ((List.mem_singleton.mp z).trans sz1)
      · match r2, hr2 with
        | .error e, hr2 => exact hr2
        | .ok (.ret r), hr2 =>
            obtain ⟨rfl, h', tk, c', rfl, hS', hc', hk'⟩ := hr2
            (repeat (any_goals (first | assumption | wp_step)))
            exact fin _ _ _ hS' hc' hk'
end
/-- set(xs), a list of ints -/
def rSetI (K : PySem.W.Frag) (w : World) : List V → Hp → VK → Prop := fun xs H Q => ∃ (l : Addr) (ns : List Int), xs = [V.ref l] ∧ SqL K H l (ns.map V.int) ∧ ns.length < 64 ∧
  ∀ (a : Addr) (c : Nat), H a = none → c ≤ ns.length → Q (.ref a) (upd H a (SetO w a (fun j => decide (j ∈ ns)) c))
theorem cr_setI {X : Cx} (hc : X.calm = true) : CallR X (.type "set") (rSetI X.K X.w) := by
  intro pins s σ H xs us Q I r h
  obtain ⟨l, ns, rfl, hl, hf, q⟩ := h
  rw [Vals.ref1 r]
  obtain ⟨its, rv, pl, hz⟩ := I.list hl
  refine set_of_ints (P := X.prog) (w := X.w) ns (I.ok.hd hc) pl.isList (ints_of_vals rv) (by unfold scanBound; omega) fun h' tk c R cl k => ?_
  exact ⟨.ref s.heap.objs.size, upd H s.heap.objs.size (SetO X.w s.heap.objs.size (fun j => decide (j ∈ ns)) c), I.laid (t' := tk) k (Nat.le_refl _) (setO_new R), rfl, q _ c (I.hok.fresh (Nat.le_refl _)) cl⟩
theorem dpAll_ints {K : PySem.W.Frag} {H : Hp} : ∀ l : List Int, DpAll K H (l.map V.int) (l.map PyData.int)
  | [] => .nil
  | x :: r => .cons (.int x) (dpAll_ints r)
theorem lay_ints : ∀ l : List Int, PyData.canLayAll0 (l.map PyData.int) = true
  | [] => by simp [PyData.canLayAll0]
  | x :: r => by simp [PyData.canLayAll0, PyData.canLay0, lay_ints r]
theorem depth_ints : ∀ l : List Int, PyData.depthAll (l.map PyData.int) ≤ 1
  | [] => by simp [PyData.depthAll]
  | x :: r => by
    have := depth_ints r
    simp [PyData.depthAll, PyData.depth]
    omega
theorem shaped_tup (l : List Int) : SeqAt.shaped (.tuple (l.map PyData.int)) = true := by
  unfold SeqAt.shaped
  have := depth_ints l
  simp [PyData.canLay0, lay_ints, PyData.depth]
  omega
def intsOf (n : Nat) (p : Nat → Nat) : List Int := (List.range n).map fun v => (p v : Int)
theorem tupOf_ints (n : Nat) (p : Nat → Nat) : tupOf n p = (intsOf n p).map V.int := by
  unfold tupOf intsOf
  rw [List.map_map]
  rfl
theorem eqv_tup (l : List Int) : PyData.eqv (.tuple (l.map PyData.int)) (.tuple (l.map PyData.int)) = true := SeqAt.eqv_refl _ (SeqAt.canLay_of_shaped (shaped_tup l))
theorem natsV_ints (l : List Nat) : natsV l = (l.map fun n : Nat => (n : Int)).map V.int := by
  unfold natsV
  rw [List.map_map]
  rfl
theorem sum_cast : ∀ l : List Nat, (l.map fun n : Nat => (n : Int)).sum = (l.sum : Nat)
  | [] => rfl
  | x :: r => by
    rw [List.map_cons, List.sum_cons, List.sum_cons, sum_cast r]
    omega
def spLaw (K : PySem.W.Frag) : Sp := fun vs H Q _ => ∃ (a : Addr) (ns : List Int), vs = [.ref a] ∧ SqL K H a (ns.map V.int) ∧ ns.length ≤ 63 ∧ ∀ H', Q (.bl true) H'
theorem DrawAt.net {H : Hp} {d l t : Addr} {xs : List V} (D : DrawAt H d l) (h : H t = some (.tup xs)) : t ≠ d := by
  obtain ⟨ns, i, j, k, e, _⟩ := D
  exact ne_of h e (by intro z; cases z)
theorem cut_last (l : List Nat) (y : Nat) : cutV (natsV (l ++ [y])) none (some (-1)) = natsV l := by
  unfold cutV
  have e1 : HT.sIx (natsV (l ++ [y])).length (natsV (l ++ [y])).length (some (-1)) = l.length := by
    rw [natsV_len, List.length_append, List.length_singleton]
    unfold HT.sIx
    simp
    omega
  rw [e1, HT.sIx_none]
  unfold natsV
  rw [List.map_append]
  simp
theorem flat_nats (l : List Nat) : (natsV l).all flatV = true := by
  unfold natsV
  rw [List.all_eq_true]
  intro v hv
  obtain ⟨n, _, rfl⟩ := List.mem_map.mp hv
  rfl
theorem inV_nats (l : List Nat) (v : Nat) : inV (vi v) (natsV l) = decide (v ∈ l) := by
  unfold inV natsV
  rw [List.any_map]
  refine Bool.eq_iff_iff.mpr ?_
  rw [List.any_eq_true, decide_eq_true_eq]
  constructor
  · rintro ⟨x, hx, e⟩
    have z : ((x : Int) == (v : Int)) = true := e
    have : x = v := by have := eq_of_beq z; omega
    rw [← this]; exact hx
  · intro h
    exact ⟨v, h, by show ((v : Int) == (v : Int)) = true; simp⟩
def markL (n : Nat) (p : Nat → Nat) (l : List Nat) : List Nat := l.flatMap fun x => ups p n x
theorem markL_mem {n : Nat} {p : Nat → Nat} {l : List Nat} {v : Nat} : v ∈ markL n p l ↔ markB n p l v = true := by
  unfold markL markB
  rw [List.mem_flatMap, List.any_eq_true]
  exact ⟨fun ⟨x, a, b⟩ => ⟨x, a, upB_iff.mpr b⟩, fun ⟨x, a, b⟩ => ⟨x, a, upB_iff.mp b⟩⟩
theorem markL_len (n : Nat) (p : Nat → Nat) : ∀ l : List Nat, (markL n p l).length ≤ l.length * n
  | [] => Nat.zero_le _
  | x :: r => by
    have h1 := markL_len n p r
    have h2 := ups_len0 p n x
    show (ups p n x ++ markL n p r).length ≤ (r.length + 1) * n
    rw [List.length_append, Nat.add_mul]
    omega
theorem ints_perm {l : List Nat} {ns : List Int} (h : ns.Perm (l.map fun n : Nat => (n : Int))) : ∃ ys : List Nat, ns.map V.int = natsV ys ∧ ys.Perm l := by
  obtain ⟨ys, e, p⟩ := perm_of_map h.symm l rfl
  exact ⟨ys, by rw [natsV_ints, e], p.symm⟩
theorem ints_of_mem : ∀ {ns : List Int}, (∀ k ∈ ns, ∃ m : Nat, k = (m : Int)) → ∃ ys : List Nat, ns = ys.map fun n : Nat => (n : Int)
  | [], _ => ⟨[], rfl⟩
  | k :: r, h => by
    obtain ⟨m, e⟩ := h k List.mem_cons_self
    obtain ⟨ys, e2⟩ := ints_of_mem (ns := r) fun j hj => h j (List.mem_cons_of_mem _ hj)
    exact ⟨m :: ys, by rw [e, e2]; rfl⟩
/-- a def of the text as the top has left it -/
def DefF (K : PySem.W.Frag) (x : Str) (st : Stmt) : Prop := ∃ (f : Addr) (oc : Value) (od an : Option Addr) (sl : Array (Option Value)) (kV dc pm cd ct : Value),
  PySem.W.nsIn K mainGlobals x = some (some (.ref f)) ∧ K.lookup f = some ⟨oc, od, .func (PySem.W.fnOf x x (defArgs st) (defBody st) (defScope st) .none kV dc pm an cd ct), sl⟩ ∧ PySem.W.codeIn K cd x = true ∧ PySem.W.keepIn K (.ref f) = true
theorem DefF.by {K : PySem.W.Frag} {x : Str} {st : Stmt} {f : Addr} {oc : Value} {od an : Option Addr} {sl : Array (Option Value)} {kV dc pm cd ct : Value} (a : PySem.W.nsIn K mainGlobals x = some (some (.ref f)))
    (l : K.lookup f = some ⟨oc, od, .func (PySem.W.fnOf x x (defArgs st) (defBody st) (defScope st) .none kV dc pm an cd ct), sl⟩) (c : PySem.W.codeIn K cd x = true) (k : PySem.W.keepIn K (.ref f) = true) : DefF K x st := ⟨f, oc, od, an, sl, kV, dc, pm, cd, ct, a, l, c, k⟩
theorem DefF.get {K : PySem.W.Frag} {h : Heap} {mg : Str → Option Value} {x : Str} {st : Stmt} (D : DefF K x st) (X : K.In h) (G : h.Ns mainGlobals mg) : ∃ f fd, Fun K x x st f fd ∧ mg x = some (.ref f) := by
  obtain ⟨f, oc, od, an, sl, kV, dc, pm, cd, ct, a, l, c, k⟩ := D
  exact ⟨f, _, fun_mk (st := st) l c k, PySem.W.mg_of X G a⟩
abbrev sameN : List Str := ["_law_found_here", "_law_due", "_law_one", "_law_other"]
/-- plain data of at most so many storeys -/
inductive Sm : Nat → PyData → Prop
  | non (n : Nat) : Sm n .none
  | bl (n : Nat) (b : Bool) : Sm n (.bool b)
  | int (n : Nat) (i : Int) : Sm n (.int i)
  | str (n : Nat) (x : Str) : Sm n (.str x)
  | lst {n : Nat} {ds : List PyData} (h : ds.length ≤ 1000) (k : ∀ d ∈ ds, Sm n d) : Sm (n + 1) (.list ds)
  | tup {n : Nat} {ds : List PyData} (h : ds.length ≤ 1000) (k : ∀ d ∈ ds, Sm n d) : Sm (n + 1) (.tuple ds)
def spSame (K : PySem.W.Frag) (n : Nat) : Sp := fun vs H Q _ => ∃ (v u : V) (d : PyData), vs = [v, u] ∧ Dp K H v d ∧ Dp K H u d ∧ Sm n d ∧ ∀ H', Same H H' → Q (.bl true) H'
structure TxS (mg : Str → Option Value) : Prop where
  isinstance : mg "isinstance" = none
  list : mg "list" = none
  tuple : mg "tuple" = none
  bool : mg "bool" = none
  int : mg "int" = none
  str : mg "str" = none
  len : mg "len" = none
  all : mg "all" = none
  zip : mg "zip" = none
section
variable {X : Cx}
theorem pe_ty {x : Str} {n : String} {pos : Pos} (hg : Gl X x) (hm : X.mg x = none) (hv : bootBuiltins x = some (.type n)) (h1 : x ≠ "__name__" := by decide) (h2 : (x == ("__debug__" : Str)) = false := by decide) : PE X (.Name x pos) (tC (.ty n)) := pe_bltn hg hm hv rfl h1 h2
end
theorem kit2 {K : PySem.W.Frag} {t a b : String} {r s : Bool} (h1 : kitB t a = some r) (h2 : kitB t b = some s) : PySem.W.kitAny K (.type t) [.type a, .type b] = some (r || s) :=
  kitAny_cons (kit_ty h1) (fun e => kitAny_cons (kit_ty h2) (fun e2 => by rw [e, e2]; rfl) (fun e2 => by rw [e2, Bool.or_true])) (fun e => by rw [e]; rfl)
theorem dpl_len {K : PySem.W.Frag} {H : Hp} : ∀ {xs : List V} {ds : List PyData}, DpAll K H xs ds → xs.length = ds.length
  | _, _, .nil => rfl
  | _, _, .cons _ r => by rw [List.length_cons, List.length_cons, dpl_len r]
theorem dpl_at {K : PySem.W.Frag} {H : Hp} : ∀ {xs : List V} {ds : List PyData}, DpAll K H xs ds → ∀ {i : Nat} {x : V}, xs[i]? = some x → ∃ d, ds[i]? = some d ∧ Dp K H x d
  | _, _, .cons h r, 0, x, e => ⟨_, rfl, (Option.some.inj e) ▸ h⟩
  | _, _, .cons h r, i + 1, x, e => dpl_at r (i := i) e
mutual
theorem dp_same {K : PySem.W.Frag} {H H' : Hp} (e : Same H H') : ∀ {v : V} {d : PyData}, Dp K H v d → Dp K H' v d
  | _, _, .non => .non
  | _, _, .bl b => .bl b
  | _, _, .int i => .int i
  | _, _, .str x => .str x
  | _, _, .lst s r => .lst (e.seq s) (dpl_same e r)
  | _, _, .tup s r => .tup (same_sqt e s) (dpl_same e r)
theorem dpl_same {K : PySem.W.Frag} {H H' : Hp} (e : Same H H') : ∀ {vs : List V} {ds : List PyData}, DpAll K H vs ds → DpAll K H' vs ds
  | _, _, .nil => .nil
  | _, _, .cons h r => .cons (dp_same e h) (dpl_same e r)
end
theorem tyL {K : PySem.W.Frag} {H : Hp} {a : Addr} {xs : List V} (h : SqL K H a xs) : TyX K H (.ref a) (.type "list") := by
  rcases h with (h | ⟨o, h⟩) | ⟨o, _, _, h, c, _⟩
  · exact .base (.lst h)
  · exact .base (.frz h)
  · exact .kList h c
theorem tyT {K : PySem.W.Frag} {H : Hp} {a : Addr} {xs : List V} (h : SqT K H a xs) : TyX K H (.ref a) (.type "tuple") := by
  rcases h with (h | ⟨o, h⟩) | ⟨o, _, _, h, c, _⟩
  · exact .base (.tup h)
  · exact .fTuple h
  · exact .kTuple h c
abbrev markedN : List Str := ["forest", "nodes", "marked", "node", "passed"]
abbrev afterN : List Str := ["forest", "nodes", "parents", "node"]
abbrev totalN : List Str := ["forest", "nodes", "deep", "lower", "node"]
/-- a def whose promise is known -/
structure Kn (P : Program) (w : World) (K : PySem.W.Frag) (mg : Str → Option Value) (base : Heap) (k : Nat) (x : Str) (st : Stmt) (ps : List Str) (sp : Sp) (f : Addr) (fd : FuncData) : Prop where
  F : Fun K x x st f fd
  G : FnOk P w K mg base CX0 k f fd ps sp
  b : Binds K fd ps []
  g : mg x = some (.ref f)
def spRootOf (K : PySem.W.Frag) : Sp := fun vs H Q _ => ∃ (a : Addr) (n : Nat) (p r : Nat → Nat) (x : Nat), vs = [.ref a, vi x] ∧ Sq K H a (tupOf n p) ∧ n ≤ 1000 ∧ Fo n p r ∧ x < n ∧ ∀ H', Same H H' → Q (vi (root p n x)) H'
def spDepthOf (K : PySem.W.Frag) : Sp := fun vs H Q _ => ∃ (a : Addr) (n : Nat) (p r : Nat → Nat) (x : Nat), vs = [.ref a, vi x] ∧ Sq K H a (tupOf n p) ∧ n ≤ 1000 ∧ Fo n p r ∧ x < n ∧ ∀ H', Same H H' → Q (vi (ups p n x).length) H'
def markS (n : Nat) (p : Nat → Nat) (l : List Nat) : List Nat := (List.range n).filter (markB n p l)
def spMarked (K : PySem.W.Frag) : Sp := fun vs H Q _ => ∃ (a b : Addr) (n : Nat) (p r : Nat → Nat) (xs : List Nat), vs = [.ref a, .ref b] ∧ Sq K H a (tupOf n p) ∧ SqL K H b (natsV xs) ∧ n ≤ 60 ∧ xs.length ≤ 1000 ∧ Fo n p r ∧ (∀ x ∈ xs, x < n) ∧
  ∀ (q : Addr) H', H q = none → H' q = some (.lst (natsV (markS n p xs))) → Same H H' → Q (.ref q) H'
def spAfter (K : PySem.W.Frag) : Sp := fun vs H Q _ => ∃ (a b : Addr) (n : Nat) (p r : Nat → Nat) (xs : List Nat), vs = [.ref a, .ref b] ∧ Sq K H a (tupOf n p) ∧ SqL K H b (natsV xs) ∧ n ≤ 60 ∧ xs.length ≤ 1000 ∧ Fo n p r ∧ (∀ x ∈ xs, x < n) ∧
  ∀ (q : Addr) H', H q = none → H' q = some (.tup (tupOf n (fndAll n xs p))) → Same H H' → Q (.ref q) H'
def spTotal (K : PySem.W.Frag) : Sp := fun vs H Q _ => ∃ (a b : Addr) (n : Nat) (p r : Nat → Nat) (xs : List Nat), vs = [.ref a, .ref b] ∧ Sq K H a (tupOf n p) ∧ SqL K H b (natsV xs) ∧ n ≤ 60 ∧ xs.length ≤ 1000 ∧ Fo n p r ∧ (∀ x ∈ xs, x < n) ∧
  ∀ H', Same H H' → Q (vi (costs n xs p).sum) H'
theorem rise_eq : ∀ {l m : List Int}, l.Pairwise (· < ·) → m.Pairwise (· < ·) → (∀ k, k ∈ l ↔ k ∈ m) → l = m
  | [], [], _, _, _ => rfl
  | [], b :: m, _, _, h => by have := (h b).mpr List.mem_cons_self; cases this
  | a :: l, [], _, _, h => by have := (h a).mp List.mem_cons_self; cases this
  | a :: l, b :: m, hl, hm, h => by
    obtain ⟨h1, h2⟩ := List.pairwise_cons.mp hl
    obtain ⟨g1, g2⟩ := List.pairwise_cons.mp hm
    have e : a = b := by
      rcases List.mem_cons.mp ((h a).mp List.mem_cons_self) with z | z
      · exact z
      · rcases List.mem_cons.mp ((h b).mpr List.mem_cons_self) with y | y
        · exact y.symm
        · have := g1 a z
          have := h1 b y
          omega
    subst e
    rw [rise_eq h2 g2 fun k => ?_]
    constructor
    · intro z
      rcases List.mem_cons.mp ((h k).mp (List.mem_cons_of_mem _ z)) with y | y
      · have := h1 k z; omega
      · exact y
    · intro z
      rcases List.mem_cons.mp ((h k).mpr (List.mem_cons_of_mem _ z)) with y | y
      · have := g1 k z; omega
      · exact y
theorem rise_filter (n : Nat) (f : Nat → Bool) : (((List.range n).filter f).map fun v : Nat => (v : Int)).Pairwise (· < ·) := by
  rw [List.pairwise_map]
  refine List.Pairwise.imp (fun {a b} h => by omega) ((List.pairwise_lt_range (n := n)).filter f)
theorem count_up {n k : Nat} {f g : Nat → Bool} (hk : k < n) (h1 : f k = false) (h2 : ∀ v, g v = (f v || decide (v = k))) : (List.range n).countP g = (List.range n).countP f + 1 := by
  have e := countP_split g f (List.range n)
  have e1 : (List.range n).countP (fun v => g v && f v) = (List.range n).countP f := List.countP_congr fun v _ => by
    rw [h2 v]; cases f v <;> simp
  have e2 : (List.range n).countP (fun v => g v && !f v) = 1 := by
    have z : ∀ v, (g v && !f v) = (v == k) := fun v => by
      rw [h2 v]
      by_cases hv : v = k
      · subst hv; rw [h1]; simp
      · have : (v == k) = false := beq_eq_false_iff_ne.mpr hv
        rw [this]; simp [hv]
    rw [List.countP_congr (q := fun v => v == k) fun v _ => by rw [z v]]
    have c := (List.nodup_range (n := n)).count (a := k)
    rw [if_pos (List.mem_range.mpr hk)] at c
    exact c
  omega
/-- the marked ones hung on their roots, one by one -/
def hang (n : Nat) (p : Nat → Nat) : List Nat → (Nat → Nat) → Nat → Nat
  | [], q => q
  | v :: l, q => hang n p l (fun u => if u = v then root p n v else q u)
theorem hang_snoc (n : Nat) (p : Nat → Nat) (v : Nat) : ∀ (l : List Nat) (q : Nat → Nat), hang n p (l ++ [v]) q = fun u => if u = v then root p n v else hang n p l q u
  | [], _ => rfl
  | a :: l, q => hang_snoc n p v l _
theorem hang_eq (n : Nat) (p : Nat → Nat) : ∀ (l : List Nat) (q : Nat → Nat) (u : Nat), hang n p l q u = if u ∈ l then root p n u else q u
  | [], q, u => by rw [if_neg (List.not_mem_nil)]; rfl
  | a :: l, q, u => by
    show hang n p l _ u = _
    rw [hang_eq n p l]
    by_cases h1 : u ∈ l
    · rw [if_pos h1, if_pos (List.mem_cons_of_mem _ h1)]
    · rw [if_neg h1]
      by_cases h2 : u = a
      · subst h2; rw [if_pos rfl, if_pos List.mem_cons_self]
      · rw [if_neg h2, if_neg (fun z => (List.mem_cons.mp z).elim h2 h1)]
theorem markS_mem {n : Nat} {p : Nat → Nat} {l : List Nat} {v : Nat} : v ∈ markS n p l ↔ v < n ∧ markB n p l v = true := by
  unfold markS
  rw [List.mem_filter, List.mem_range]
theorem markS_len (n : Nat) (p : Nat → Nat) (l : List Nat) : (markS n p l).length ≤ n := by
  unfold markS
  exact Nat.le_trans (List.length_filter_le _ _) (by rw [List.length_range]; exact Nat.le_refl _)
theorem mark_nonroot {n : Nat} {p r : Nat → Nat} (F : Fo n p r) {l : List Nat} (h : ∀ x ∈ l, x < n) {v : Nat} (hm : markB n p l v = true) : v < n ∧ p v ≠ v := by
  unfold markB at hm
  obtain ⟨x, hx, e⟩ := List.any_eq_true.mp hm
  have z := ups_lt F x (h x hx) v (upB_iff.mp e)
  exact ⟨z.1, z.2.1⟩
theorem deep_iff {n : Nat} {p r : Nat → Nat} (F : Fo n p r) {v : Nat} (hv : v < n) (h : p v ≠ v) : deep p v = decide (2 ≤ (ups p n v).length) := by
  unfold deep
  rw [ups_n F hv h]
  refine decide_eq_decide.mpr ?_
  rw [List.length_cons]
  constructor
  · intro z
    rw [ups_n F (F.lt v hv) z, List.length_cons]
    omega
  · intro z e
    rw [ups_of e] at z
    simp at z
structure Pair (K : PySem.W.Frag) (H : Hp) (a b : Addr) (n : Nat) (p q r r' : Nat → Nat) : Prop where
  sa : SqT K H a (tupOf n p)
  sb : SqT K H b (tupOf n q)
  le : n ≤ 60
  fa : Fo n p r
  fb : Fo n q r'
  ro : ∀ v, v < n → (p v = v ↔ q v = v)
theorem Pair.same {K : PySem.W.Frag} {H H' : Hp} {a b : Addr} {n : Nat} {p q r r' : Nat → Nat} (h : Pair K H a b n p q r r') (e : Same H H') : Pair K H' a b n p q r r' := ⟨same_sqt e h.sa, same_sqt e h.sb, h.le, h.fa, h.fb, h.ro⟩
def spNeeded (K : PySem.W.Frag) : Sp := fun vs H Q _ => ∃ (a b : Addr) (n : Nat) (p q r r' : Nat → Nat), vs = [.ref a, .ref b] ∧ Pair K H a b n p q r r' ∧ Way n p q ∧
  ∀ (l : Addr) H', H l = none → H' l = some (.lst (natsV (needS n p q))) → Same H H' → Q (.ref l) H'
def spBar (K : PySem.W.Frag) : Sp := fun vs H Q _ => ∃ (a b : Addr) (n : Nat) (p q r r' : Nat → Nat), vs = [.ref a, .ref b] ∧ Pair K H a b n p q r r' ∧
  (Way n p q → ∀ H', Same H H' → Q .non H') ∧ (¬ Way n p q → ∀ (t : Addr) (x y : Nat) H', H' t = some (.tup [vi x, vi y]) → Same H H' → Q (.ref t) H')
def spWayCost (K : PySem.W.Frag) : Sp := fun vs H Q _ => ∃ (a b : Addr) (n : Nat) (p q r r' : Nat → Nat), vs = [.ref a, .ref b] ∧ Pair K H a b n p q r r' ∧ Way n p q ∧
  ∀ H', Same H H' → Q (vi (costs n (needS n p q) p).sum) H'
theorem behind_roots {n : Nat} {p r : Nat → Nat} (F : Fo n p r) {l : List Nat} (h : ∀ x ∈ l, x < n) (v : Nat) (hv : v < n) : p v = v ↔ fndAll n l p v = v := by
  constructor
  · exact behind_root F h v hv
  · intro e
    rw [behind_eq F l h v hv] at e
    by_cases m : markB n p l v = true
    · rw [if_pos m] at e
      refine Classical.byContradiction fun z => root_ne F hv z e
    · rw [if_neg m] at e; exact e
theorem eqv_ints : ∀ l m : List Int, PyData.eqvAll (l.map PyData.int) (m.map PyData.int) = decide (l = m)
  | [], [] => by simp [PyData.eqvAll]
  | [], b :: m => by simp [PyData.eqvAll]
  | a :: l, [] => by simp [PyData.eqvAll]
  | a :: l, b :: m => by
    rw [List.map_cons, List.map_cons, PyData.eqvAll, eqv_ints l m]
    by_cases e : a = b
    · subst e
      by_cases f : l = m
      · subst f; simp [PyData.eqv]
      · simp [PyData.eqv, f]
    · simp [PyData.eqv, e]
theorem eqv_tups (l m : List Int) : PyData.eqv (.tuple (l.map PyData.int)) (.tuple (m.map PyData.int)) = decide (l = m) := by
  rw [← eqv_ints l m]
  simp [PyData.eqv]
theorem eqv_lsts (l m : List Int) : PyData.eqv (.list (l.map PyData.int)) (.list (m.map PyData.int)) = decide (l = m) := by
  rw [← eqv_ints l m]
  simp [PyData.eqv]
theorem shaped_lst (l : List Int) : SeqAt.shaped (.list (l.map PyData.int)) = true := by
  unfold SeqAt.shaped
  have := depth_ints l
  simp [PyData.canLay0, lay_ints, PyData.depth]
  omega
theorem intsOf_inj {n : Nat} {p q : Nat → Nat} (h : intsOf n p = intsOf n q) {v : Nat} (hv : v < n) : p v = q v := by
  have e := congrArg (fun l : List Int => l[v]?) h
  unfold intsOf at e
  simp only [List.getElem?_map, List.getElem?_range hv, Option.map_some] at e
  have := Option.some.inj e
  omega
theorem natsI (l : List Nat) : natsV l = (l.map fun n : Nat => (n : Int)).map V.int := natsV_ints l
theorem castI {l m : List Nat} (h : (l.map fun n : Nat => (n : Int)) = m.map fun n : Nat => (n : Int)) : l = m := by
  refine List.map_inj_right (f := fun n : Nat => (n : Int)) (fun a b e => by omega) |>.mp h
abbrev Kx (P : Program) (w : World) (K : PySem.W.Frag) (mg : Str → Option Value) (base : Heap) (k : Nat) (x : Str) (st : Stmt) (ps : List Str) (sp : Sp) : Prop := ∃ f fd, Kn P w K mg base k x st ps sp f fd
section
variable {X : Cx} {CX : CXT} {k : Nat} {f : Addr} {fd : FuncData} {ps ks : List Str} {sp : Sp} {g : List Value → List Value → List Value} {gV : List V → List V → List V} {E : XK} {x : Str} {p pos : Pos} {kws : List Keyword} {tk : TA}
theorem pe_kws (F : FnOk X.prog X.w X.K X.mg X.base CX k f fd ps sp) (hr : Room k X.A) (hg : Gl X x) (hm : X.mg x = some (.ref f)) (hk : PySem.W.keepIn X.K (.ref f) = true) (hb : KBinds X.K fd ps ks g gV) (hx : Passes CX X E) (hkw : PK X kws tk)
    (hall : (backToKw pos (keywordEach kws X.env)).all (·.1.isSome) = true := by rfl) (hks : (backToKw pos (keywordEach kws X.env)).filterMap (·.1) = ks := by rfl) (hdb : (x == ("__debug__" : Str)) = false := by decide)
    (hpl : ((backTo pos (starEach [] X.env)).any (·.1) || (backToKw pos (keywordEach kws X.env)).any (·.1.isNone)) = false := by rfl) : PE X (.Call (.Name x p) [] kws pos) (tCallK sp gV E tNil tk) := by
  refine ⟨fun pins s σ H Q I h => wpAny_Call_Name_kw (ld_glob I hg hm (PySem.W.callWith_KW0 (h₀ := X.base) I.ok.mod.kin hk hall ?_ hpl) hdb)⟩
  refine thn (hkw.run pos pins s σ H _ I h) fun ws s2 ⟨zs, H2, I2, rz, q2⟩ => ⟨I2.kIn, ?_⟩
  rw [hks]; exact run_fnk (us := []) (vs := []) F hr hb hx I2 .nil rz q2
end
/-- two parameters, given by keywords in the other order -/
def sw2 {α : Type} : List α → List α → List α
  | [], [b, a] => [a, b]
  | _, _ => []
theorem sw2_rel {vs : List V} {us : List Value} {zs : List V} {ws : List Value} (r : Vals vs us) (s : Vals zs ws) : Vals (sw2 vs zs) (sw2 us ws) := by
  cases r with
  | cons _ _ => exact .nil
  | nil =>
    cases s with
    | nil => exact .nil
    | cons h1 t1 =>
      cases t1 with
      | nil => exact .nil
      | cons h2 t2 =>
        cases t2 with
        | nil => exact .cons h2 (.cons h1 .nil)
        | cons _ _ => exact .nil
theorem Fun.sw {K : PySem.W.Frag} {x qual : Str} {st : Stmt} {f : Addr} {fd : FuncData} {a b : Str} (F : Fun K x qual st f fd)
    (h : ∀ (kV doc pm : Value) (an : Option Addr) (cdv ct : Value) (u v : Value), bindArgs (PySem.W.fnOf x qual (defArgs st) (defBody st) (defScope st) .none kV doc pm an cdv ct) ⟨[], [(b, u), (a, v)]⟩ = pure [(a, v), (b, u)]) : KBinds K fd [a, b] [b, a] sw2 sw2 := by
  obtain ⟨oc, od, kV, doc, pm, an, cdv, ct, osl, rfl, lk, hcd⟩ := F.ex
  refine ⟨fun s us ws _ hl => ?_, sw2_rel⟩
  match us, ws, hl with
  | [], [u, v], _ => exact .of_eq (h kV doc pm an cdv ct u v)
/-- an integer that is no node -/
def spStrange : Sp := fun vs H Q _ => ∃ (d l : Addr) (n : Nat), vs = [.ref d, vi n] ∧ DrawAt H d l ∧ n ≤ 1000 ∧ ∀ (z : Int) H', (z < 0 ∨ (n : Int) ≤ z) → -2000000000 ≤ z → z ≤ 2000000000 → DrawAt H' d l → Sb d H H' → Q (.int z) H'
/-- another forest with the same roots -/
def spExch (K : PySem.W.Frag) : Sp := fun vs H Q _ => ∃ (d l a : Addr) (n : Nat) (p r : Nat → Nat), vs = [.ref d, .ref a] ∧ DrawAt H d l ∧ a ≠ d ∧ SqT K H a (tupOf n p) ∧ n ≤ 60 ∧ Fo n p r ∧
  ∀ (t : Addr) (q r' : Nat → Nat) H', H t = none → H' t = some (.tup (tupOf n q)) → Fo n q r' → (∀ v, v < n → (q v = v ↔ p v = v)) → DrawAt H' d l → Sb d H H' → Q (.ref t) H'
def spRPair (K : PySem.W.Frag) : Sp := fun vs H Q _ => ∃ (d l : Addr) (m : Nat), vs = [.ref d, vi m] ∧ DrawAt H d l ∧ m ≤ 60 ∧
  ∀ (t a b : Addr) (n : Nat) (p q r r' : Nat → Nat) H', n ≤ m → H' t = some (.tup [.ref a, .ref b]) → t ≠ d → a ≠ d → b ≠ d → Pair K H' a b n p q r r' → DrawAt H' d l → Sb d H H' → Q (.ref t) H'
/-- x *= e -/
def ipW : TIp := fun x y H Q => ∃ i j, x = .int i ∧ y = .int j ∧ CMulW i j ∧ Q (.int (i * j)) H
theorem ip_mulW {X : Cx} : PIp X .Mult ipW := by
  intro pins s σ H x y v u Q I r1 r2 h
  obtain ⟨i, j, e1, e2, hm, q⟩ := h
  subst e1; subst e2
  obtain ⟨t, rfl⟩ := r1
  obtain ⟨t', rfl⟩ := r2
  exact imul_int ⟨.int _, H, I.tok _, ⟨_, rfl⟩, q⟩ hm.ok
def spFalling : Sp := fun vs H Q _ => ∃ s c : Int, vs = [.int s, .int c] ∧ s ≤ 200 ∧ c ≤ 200 ∧ ∀ H', Same H H' → Q (.int (fall s c)) H'
def spBinomial : Sp := fun vs H Q _ => ∃ s c : Int, vs = [.int s, .int c] ∧ s ≤ 200 ∧ c ≤ 200 ∧ ∀ H', Same H H' → Q (.int (binom s c)) H'
def spPower : Sp := fun vs H Q _ => ∃ (b : Int) (e : Nat), vs = [.int b, .int e] ∧ -1000 ≤ b ∧ b ≤ 1000 ∧ e ≤ 200 ∧ ∀ H', Same H H' → Q (.int (b ^ e)) H'
abbrev powerN : List Str := ["base", "exponent", "product", "turn"]
abbrev fallingN : List Str := ["size", "chosen", "product", "taken"]
abbrev binomialN : List Str := ["size", "chosen"]
theorem fallN_lt {s : Int} (h : s ≤ 200) : ∀ k, 0 ≤ fallN s k ∧ (fallN s k).natAbs < 2 ^ (8 * k + 1)
  | 0 => ⟨by show (0 : Int) ≤ 1; decide, by show (1 : Int).natAbs < 2 ^ 1; decide⟩
  | k + 1 => by
    obtain ⟨h0, h1⟩ := fallN_lt h k
    have hf : 0 ≤ (if s - (k : Int) > 0 then s - (k : Int) else 0) ∧ (if s - (k : Int) > 0 then s - (k : Int) else 0) ≤ 200 := by split <;> omega
    refine ⟨Int.mul_nonneg h0 hf.1, ?_⟩
    show (fallN s k * (if s - (k : Int) > 0 then s - (k : Int) else 0)).natAbs < 2 ^ (8 * (k + 1) + 1)
    have := wide_lt (b := 8) h1 (show (if s - (k : Int) > 0 then s - (k : Int) else 0).natAbs < 2 ^ 8 by omega)
    rw [show 8 * (k + 1) + 1 = 8 * k + 1 + 8 by omega]
    exact this
theorem fallN_zero {s : Int} : ∀ {k : Nat}, (s < (k : Int)) → 0 < k → fallN s k = 0
  | 0, _, h => by omega
  | k + 1, h, _ => by
    show fallN s k * _ = 0
    by_cases e : s - (k : Int) > 0
    · rw [fallN_zero (by omega) (by omega), Int.zero_mul]
    · rw [if_neg e, Int.mul_zero]
theorem fallN_self_pos : ∀ (s k : Nat), k ≤ s → 0 < fallN (s : Int) k
  | s, 0, _ => by show (0 : Int) < 1; decide
  | s, k + 1, h => by
    show 0 < fallN (s : Int) k * _
    rw [if_pos (by omega)]
    exact Int.mul_pos (fallN_self_pos s k (by omega)) (by omega)
theorem pow_small {b : Int} (h1 : -1000 ≤ b) (h2 : b ≤ 1000) : ∀ e : Nat, (b ^ e).natAbs < 2 ^ (10 * e + 1)
  | 0 => by rw [Int.pow_zero]; decide
  | e + 1 => by
    have := wide_lt (b := 10) (pow_small h1 h2 e) (show b.natAbs < 2 ^ 10 by omega)
    rw [Int.pow_succ, show 10 * (e + 1) + 1 = 10 * e + 1 + 10 by omega]
    exact this
abbrev sTake : Stmt := topS 25
abbrev sStart : Stmt := topS 24
abbrev sOf : Stmt := topS 26
abbrev sShuf : Stmt := topS 27
abbrev sSize : Stmt := topS 29
abbrev sChk : Stmt := topS 9
abbrev sPathOf : Stmt := topS 10
abbrev sPath : Stmt := topS 30
abbrev sRoot : Stmt := topS 31
abbrev sNum : Stmt := topS 8
abbrev sRen : Stmt := topS 32
abbrev sFor : Stmt := topS 33
abbrev sSome : Stmt := topS 34
abbrev sNodes : Stmt := topS 37
abbrev sSame : Stmt := topS 28
abbrev sLFind : Stmt := topS 35
abbrev sLFound : Stmt := topS 36
abbrev sExch : Stmt := topS 38
abbrev sRPair : Stmt := topS 39
abbrev sFalling : Stmt := topS 13
theorem scTake : FnScope ["_law_draw", "_law_many", "_law_cell", "_law_digit", "_law_square"] ["_law_draw", "_law_many"] (defScope sTake) := ⟨rfl, rfl, rfl, by decide +kernel, rfl, by decide +kernel, by decide +kernel⟩
theorem scStart : FnScope ["_law_script"] ["_law_script"] (defScope sStart) := ⟨rfl, rfl, rfl, by decide +kernel, rfl, by decide +kernel, by decide +kernel⟩
theorem scOf : FnScope ["_law_draw", "_law_some"] ["_law_draw", "_law_some"] (defScope sOf) := ⟨rfl, rfl, rfl, by decide +kernel, rfl, by decide +kernel, by decide +kernel⟩
theorem scShuf : FnScope ["_law_draw", "_law_some", "_law_found_here", "_law_one"] ["_law_draw", "_law_some"] (defScope sShuf) := ⟨rfl, rfl, rfl, by decide +kernel, rfl, by decide +kernel, by decide +kernel⟩
theorem scSize : FnScope ["_law_draw", "_law_most"] ["_law_draw", "_law_most"] (defScope sSize) := ⟨rfl, rfl, rfl, by decide +kernel, rfl, by decide +kernel, by decide +kernel⟩
theorem scChk : FnScope ["forest", "node"] ["forest", "node"] (defScope sChk) := ⟨rfl, rfl, rfl, by decide +kernel, rfl, by decide +kernel, by decide +kernel⟩
theorem scPathOf : FnScope ["forest", "node", "path"] ["forest", "node"] (defScope sPathOf) := ⟨rfl, rfl, rfl, by decide +kernel, rfl, by decide +kernel, by decide +kernel⟩
theorem scPath : FnScope ["_law_forest_here", "_law_node", "_law_found_here", "_law_step"] ["_law_forest_here", "_law_node"] (defScope sPath) := ⟨rfl, rfl, rfl, by decide +kernel, rfl, by decide +kernel, by decide +kernel⟩
theorem scRoot : FnScope ["_law_forest_here", "_law_node"] ["_law_forest_here", "_law_node"] (defScope sRoot) := ⟨rfl, rfl, rfl, by decide +kernel, rfl, by decide +kernel, by decide +kernel⟩
theorem scNum : FnScope ["size", "node"] ["size", "node"] (defScope sNum) := ⟨rfl, rfl, rfl, by decide +kernel, rfl, by decide +kernel, by decide +kernel⟩
theorem scRen : FnScope ["_law_draw", "_law_parents", "_law_names", "_law_found_here", "_law_node"] ["_law_draw", "_law_parents"] (defScope sRen) := ⟨rfl, rfl, rfl, by decide +kernel, rfl, by decide +kernel, by decide +kernel⟩
theorem scFor : FnScope ["_law_draw", "_law_size_here", "_law_many", "_law_pick", "_law_parents", "_law_node", "_law_near", "_law_above"] ["_law_draw", "_law_size_here", "_law_many"] (defScope sFor) := ⟨rfl, rfl, rfl, by decide +kernel, rfl, by decide +kernel, by decide +kernel⟩
theorem scSome : FnScope ["_law_draw", "_law_most"] ["_law_draw", "_law_most"] (defScope sSome) := ⟨rfl, rfl, rfl, by decide +kernel, rfl, by decide +kernel, by decide +kernel⟩
theorem scNodes : FnScope ["_law_draw", "_law_size_here", "_law_most", "_law_some", "_law_k"] ["_law_draw", "_law_size_here", "_law_most"] (defScope sNodes) := ⟨rfl, rfl, rfl, by decide +kernel, rfl, by decide +kernel, by decide +kernel⟩
theorem scSame : FnScope sameN ["_law_found_here", "_law_due"] (defScope sSame) := ⟨rfl, rfl, rfl, by decide +kernel, rfl, by decide +kernel, by decide +kernel⟩
theorem scLFind : FnScope ["_law_forest_here", "_law_node", "_law_found_here", "_law_cost", "_law_here", "_law_root_here", "_law_step", "_law_above"] ["_law_forest_here", "_law_node"] (defScope sLFind) := ⟨rfl, rfl, rfl, by decide +kernel, rfl, by decide +kernel, by decide +kernel⟩
theorem scLFound : FnScope ["_law_forest_here", "_law_nodes_here", "_law_costs", "_law_node", "_law_cost"] ["_law_forest_here", "_law_nodes_here"] (defScope sLFound) := ⟨rfl, rfl, rfl, by decide +kernel, rfl, by decide +kernel, by decide +kernel⟩
theorem scExch : FnScope ["_law_draw", "_law_forest_here", "_law_found_here", "_law_step", "_law_node", "_law_above"] ["_law_draw", "_law_forest_here"] (defScope sExch) := ⟨rfl, rfl, rfl, by decide +kernel, rfl, by decide +kernel, by decide +kernel⟩
theorem scRPair : FnScope ["_law_draw", "_law_most", "_law_one", "_law_pick", "_law_other"] ["_law_draw", "_law_most"] (defScope sRPair) := ⟨rfl, rfl, rfl, by decide +kernel, rfl, by decide +kernel, by decide +kernel⟩
theorem scFalling : FnScope fallingN ["size", "chosen"] (defScope sFalling) := ⟨rfl, rfl, rfl, by decide +kernel, rfl, by decide +kernel, by decide +kernel⟩
section
variable {P : Program} {w : World} {K : PySem.W.Frag} {mg : Str → Option Value} {base : Heap}
theorem ok_take {f : Addr} {fd : FuncData} {k : Nat} (F : Fun K "_law_take" "_law_take" sTake f fd) (ml : mg "len" = none) : FnOk P w K mg base CX0 (k + 1) f fd ["_law_draw", "_law_many"] spTake := by
  refine F.ok scTake (fun vs H Q E h => ?_) (fun cdv A outer s H vs Q E hr h => ?_)
  · obtain ⟨d, l, m, rfl, _⟩ := h
    rfl
  · obtain ⟨d, l, m, rfl, hD, hm1, hm2, q⟩ := h
    have c61 : (0 : Int) < 2305843009213693951 := by decide
    refine ⟨_, C8.pss_cut (ps_if (PW.pt (pw_and (pt_cmpR op_lt (pe_ix ix_list (pv 0) pe_int (fun _ _ => rfl)) (pv 1) (nomark _))
        (pw_and1 (pt_cmpR op_lt (pe_ix ix_list (pv 0) pe_int (fun _ _ => rfl)) (pe_callB call_len_seq (by rfl) ml PySem.boot_len (pa_cons (pe_ix ix_list (pv 0) pe_int (fun _ _ => rfl)) pa_nil)) (nomark _)))))
        (pss_cons (ps_set (i := 2) scTake.nd rfl (.inl rfl) (pe_ix ix_list (pe_ix ix_list (pv 0) pe_int (fun _ _ => rfl)) (pe_ix ix_list (pv 0) pe_int (fun _ _ => rfl)) (fun _ _ => rfl)))
        (pss_cons (ps_asg (pe_op op_add (pe_ix ix_list (pv 0) pe_int (fun _ _ => rfl)) pe_int) (pg_sub (pv 0) pe_int set_list))
        (pss_cons (ps_asg pe_int (pg_sub (pv 0) pe_int set_list))
        (C8.pss_cut (ps_if (pt_cmpR op_ge (pv 2) (pe_op op_pow pe_int pe_int) (nomark _)) (pss_one (ps_asg (pv 2) (pg_sub (pv 0) pe_int set_list))) pss_nil)
        (pss_one (ps_asg (pe_op op_mod (pe_op op_add (pe_op op_add (pe_op op_mul (pe_ix ix_list (pv 0) pe_int (fun _ _ => rfl)) pe_int) (pe_op op_mul (pe_op op_mod (pv 2) pe_int) pe_int)) (pe_ix ix_list (pv 0) pe_int (fun _ _ => rfl))) pe_int) (pg_sub (pv 0) pe_int set_list))))))) pss_nil)
      (pss_cons (ps_if (pt_cmpR op_ge (pe_ix ix_list (pv 0) pe_int (fun _ _ => rfl)) (pv 1) (nomark _))
        (pss_cons (ps_set (i := 3) scTake.nd rfl (.inl rfl) (pe_op op_mod (pe_ix ix_list (pv 0) pe_int (fun _ _ => rfl)) (pv 1)))
        (pss_cons (ps_asg (pe_op op_fdivW (pe_ix ix_list (pv 0) pe_int (fun _ _ => rfl)) (pv 1)) (pg_sub (pv 0) pe_int set_list))
        (pss_one (ps_ret (pv 3))))) pss_nil)
      (pss_cons (ps_set (i := 4) scTake.nd rfl (.inl rfl) (pe_op op_mod (pe_op op_mul (pe_ix ix_list (pv 0) pe_int (fun _ _ => rfl)) (pe_ix ix_list (pv 0) pe_int (fun _ _ => rfl))) pe_int))
      (pss_cons (ps_asg (pe_op op_mod (pe_op op_add (pe_op op_add (pe_op op_mul (pv 4) pe_int) (pe_op op_mul (pe_ix ix_list (pv 0) pe_int (fun _ _ => rfl)) pe_int)) pe_int) pe_int) (pg_sub (pv 0) pe_int set_list))
      (pss_one (ps_ret (pe_op op_mod (pe_op op_fdiv (pe_ix ix_list (pv 0) pe_int (fun _ _ => rfl)) pe_int) (pv 1))))))), ?_⟩
    refine ⟨fun σ H' => (∃ c, σ = [some (.ref d), some (.int m), c, none, none]) ∧ DrawAt H' d l ∧ Sb d H H', ?_, ?_⟩
    · obtain ⟨ns, i, j, c, h1, h2, h3, h4, h5⟩ := hD
      have ne := draw_ne h1 h2
      have x1 : atI [V.ref l, V.int i, V.int j, V.int c] 0 = some (.ref l) := rfl
      have x2 : atI [V.ref l, V.int i, V.int j, V.int c] 1 = some (.int i) := rfl
      have x3 : atI [V.ref l, V.int i, V.int j, V.int c] 2 = some (.int j) := rfl
      have x4 : atI [V.ref l, V.int i, V.int j, V.int c] 3 = some (.int c) := rfl
      refine ⟨_, rfl, d, _, _, _, rfl, rfl, SqL.of h1, x3, _, rfl, _, _, rfl, rfl, _, rfl, ite2 (fun e1 => ?_) (fun e1 => ?_)⟩
      · refine ⟨_, rfl, d, _, _, _, rfl, rfl, SqL.of h1, x2, _, rfl, d, _, _, _, rfl, rfl, SqL.of h1, x1, l, _, rfl, .inl (SqL.of h2), _, _, rfl, rfl, _, rfl, ite2 (fun e2 => ?_) (fun e2 => ?_)⟩
        · have hi : i < ((ns.map V.int).length : Int) := of_decide_eq_true e2
          rw [List.length_map] at hi
          obtain ⟨u, rfl⟩ : ∃ u : Nat, i = u := ⟨i.toNat, by omega⟩
          have hu : u < ns.length := by omega
          have gu : (ns.map V.int)[u]? = some (.int ns[u]) := by rw [List.getElem?_map, List.getElem?_eq_getElem hu]; rfl
          refine ⟨_, rfl, d, _, _, _, rfl, rfl, SqL.of h1, x1, _, rfl, d, _, _, _, rfl, rfl, SqL.of h1, x2, l, _, _, _, rfl, rfl, SqL.of h2, atI_nat gu, ?_⟩
          refine ⟨_, rfl, d, _, _, _, rfl, rfl, SqL.of h1, x2, _, _, rfl, rfl, _, rfl, d, _, _, 1, rfl, rfl, h1, rfl, ?_⟩
          refine ⟨_, rfl, d, _, _, 2, rfl, rfl, upd_same, rfl, ?_⟩
          refine ⟨fun σ H' => σ = [some (.ref d), some (.int m), some (.int ns[u]), none, none] ∧ (∃ jj : Int, H' d = some (.lst [.ref l, .int ((u : Int) + 1), .int jj, .int c])) ∧ H' l = some (.lst (ns.map V.int)) ∧ Sb d H H', ?_, ?_⟩
          · refine ⟨_, rfl, _, _, rfl, rfl, ⟨by decide, by decide, by decide⟩, _, _, rfl, rfl, _, rfl, ite2 (fun e3 => ?_) (fun e3 => ?_)⟩
            · refine ⟨_, rfl, _, rfl, d, _, _, 2, rfl, rfl, upd_same, rfl, rfl, ⟨ns[u], upd_same⟩, ?_, ?_⟩
              · rw [upd_ne ne, upd_ne ne, upd_ne ne]; exact h2
              · exact (Sb.put.trans Sb.put).trans Sb.put
            · refine ⟨rfl, ⟨0, upd_same⟩, ?_, ?_⟩
              · rw [upd_ne ne, upd_ne ne]; exact h2
              · exact Sb.put.trans Sb.put
          · rintro σ H2 ⟨rfl, ⟨jj, g1⟩, g2, g3⟩
            have y2 : atI [V.ref l, V.int ((u : Int) + 1), V.int jj, V.int c] 1 = some (.int ((u : Int) + 1)) := rfl
            have y4 : atI [V.ref l, V.int ((u : Int) + 1), V.int jj, V.int c] 3 = some (.int c) := rfl
            refine ⟨_, rfl, d, _, _, _, rfl, rfl, SqL.of g1, y4, _, _, rfl, rfl, .inl ⟨by omega, by omega⟩, _, rfl, _, _, rfl, rfl, c61, _, _, rfl, rfl, .inr ⟨by decide, by decide⟩, _, _, rfl, rfl, _, rfl, d, _, _, _, rfl, rfl, SqL.of g1, y2, _, _, rfl, rfl, _, _, rfl, rfl, c61, _, rfl, d, _, _, 3, rfl, rfl, g1, rfl, ⟨_, rfl⟩, ?_, g3.trans Sb.put⟩
            exact ⟨ns, _, jj, _, upd_same, by rw [upd_ne ne]; exact g2, by omega, Int.emod_nonneg _ (by omega), Int.emod_lt_of_pos _ c61⟩
        · exact ⟨⟨_, rfl⟩, ⟨ns, i, j, c, h1, h2, h3, h4, h5⟩, Sb.refl⟩
      · exact ⟨⟨_, rfl⟩, ⟨ns, i, j, c, h1, h2, h3, h4, h5⟩, Sb.refl⟩
    · rintro σ H1 ⟨⟨c0, rfl⟩, ⟨ns, i, j, c, h1, h2, h3, h4, h5⟩, sb⟩
      have ne := draw_ne h1 h2
      have x3 : atI [V.ref l, V.int i, V.int j, V.int c] 2 = some (.int j) := rfl
      have x4 : atI [V.ref l, V.int i, V.int j, V.int c] 3 = some (.int c) := rfl
      refine ⟨_, rfl, d, _, _, _, rfl, rfl, SqL.of h1, x3, _, rfl, _, _, rfl, rfl, _, rfl, ite2 (fun e1 => ?_) (fun e1 => ?_)⟩
      · have hj : m ≤ j := of_decide_eq_true e1
        refine ⟨_, rfl, d, _, _, _, rfl, rfl, SqL.of h1, x3, _, rfl, _, _, rfl, rfl, (by show (0:Int) < m; omega), ?_⟩
        refine ⟨_, rfl, d, _, _, _, rfl, rfl, SqL.of h1, x3, _, rfl, _, _, rfl, rfl, wide_div (b := 1000) (by omega) hm2 (by decide) (by decide), _, rfl, d, _, _, 2, rfl, rfl, h1, rfl, ?_⟩
        have hb : 0 ≤ j % m := Int.emod_nonneg _ (by omega)
        have hb2 : j % m < m := Int.emod_lt_of_pos _ (by omega)
        obtain ⟨r, er⟩ : ∃ r : Nat, j % m = r := ⟨(j % m).toNat, by omega⟩
        refine ⟨_, rfl, ?_⟩
        show Q (.int (j % m)) _
        rw [er]
        refine q r _ (by omega) ⟨ns, i, j / m, c, upd_same, by rw [upd_ne ne]; exact h2, h3, h4, h5⟩ (sb.trans Sb.put)
      · refine ⟨_, rfl, d, _, _, _, rfl, rfl, SqL.of h1, x4, _, rfl, d, _, _, _, rfl, rfl, SqL.of h1, x4, _, _, rfl, rfl, .inl ⟨by omega, by omega⟩, _, _, rfl, rfl, c61, ?_⟩
        have s0 : 0 ≤ c * c % 2305843009213693951 := Int.emod_nonneg _ (by omega)
        have s1 : c * c % 2305843009213693951 < 2305843009213693951 := Int.emod_lt_of_pos _ c61
        generalize hsq : c * c % 2305843009213693951 = sq at s0 s1
        refine ⟨.int (c * c % 2305843009213693951), rfl, _, _, rfl, rfl, .inl ⟨by rw [hsq]; omega, by rw [hsq]; omega⟩, _, rfl, d, _, _, _, rfl, rfl, SqL.of h1, x4, _, _, rfl, rfl, .inl ⟨by omega, by omega⟩, _, _, rfl, rfl, _, _, rfl, rfl, _, _, rfl, rfl, c61, _, rfl, d, _, _, 3, rfl, rfl, h1, rfl, ?_⟩
        have t0 : 0 ≤ (c * c % 2305843009213693951 * 48271 + c * 16807 + 12345) % 2305843009213693951 := Int.emod_nonneg _ (by omega)
        have t1 : (c * c % 2305843009213693951 * 48271 + c * 16807 + 12345) % 2305843009213693951 < 2305843009213693951 := Int.emod_lt_of_pos _ c61
        refine ⟨_, rfl, d, _, _, _, rfl, rfl, SqL.of upd_same, rfl, _, _, rfl, rfl, ⟨by decide, by decide⟩, _, rfl, _, _, rfl, rfl, (by show (0:Int) < m; omega), ?_⟩
        generalize hz : (c * c % 2305843009213693951 * 48271 + c * 16807 + 12345) % 2305843009213693951 = z at t0 t1
        have b0 : 0 ≤ (z / 1021) % m := Int.emod_nonneg _ (by omega)
        have b1 : (z / 1021) % m < m := Int.emod_lt_of_pos _ (by omega)
        obtain ⟨r, er⟩ : ∃ r : Nat, (z / 1021) % m = r := ⟨((z / 1021) % m).toNat, by omega⟩
        show Q (.int (z / 1021 % m)) _
        rw [er]
        refine q r _ (by omega) ⟨ns, i, j, z, ?_, by rw [upd_ne ne]; exact h2, h3, t0, t1⟩ (sb.trans Sb.put)
        rw [upd_same, ← hz]
        rfl
end
section
variable {P : Program} {w : World} {K : PySem.W.Frag} {mg : Str → Option Value} {base : Heap}
theorem ok_start {f : Addr} {fd : FuncData} {k : Nat} (F : Fun K "_law_start" "_law_start" sStart f fd) (T : Tx mg) : FnOk P w K mg base CX0 (k + 1) f fd ["_law_script"] (spStart K) := by
  refine F.ok scStart (fun vs H Q E h => ?_) (fun cdv A outer s H vs Q E hr h => ?_)
  · obtain ⟨a, ns, rfl, _⟩ := h
    rfl
  · obtain ⟨a, ns, rfl, hS, hlen, q⟩ := h
    refine ⟨_, pss_one (ps_ret (pe_lst (pa_cons (pe_callTy call_list_of (by rfl) T.list (by decide +kernel) (pa_cons (pe_slice sl_list (pv 0) po_none (po_some pe_int)) pa_nil))
      (pa_cons pe_int (pa_cons pe_int (pa_cons (pe_op op_add pe_int (pe_op op_mul pe_int (pe_callB call_len_seq (by rfl) T.len PySem.boot_len (pa_cons (pe_slice sl_list (pv 0) po_none (po_some pe_int)) pa_nil)))) pa_nil)))))), ?_⟩
    have cut : ∃ ms : List Int, cutV (ns.map V.int) none (some 63) = ms.map V.int ∧ ms.length ≤ ns.length := by
      refine ⟨(ns.drop (HT.sIx (ns.map V.int).length 0 none)).take (HT.sIx (ns.map V.int).length (ns.map V.int).length (some 63) - HT.sIx (ns.map V.int).length 0 none), ?_, ?_⟩
      · unfold cutV
        rw [List.map_take, List.map_drop]
      · rw [List.length_take, List.length_drop]
        omega
    obtain ⟨ms, em, hml⟩ := cut
    refine ⟨_, rfl, 63, rfl, a, _, rfl, hS, fun c nc => ?_⟩
    rw [em]
    have s1 : Same H (upd H c (.lst (ms.map V.int))) := same_new nc
    refine ⟨c, _, rfl, .inl (SqL.of upd_same), fun l nl => ?_⟩
    have s2 : Same (upd H c (.lst (ms.map V.int))) (upd (upd H c (.lst (ms.map V.int))) l (.lst (ms.map V.int))) := same_new nl
    refine ⟨_, rfl, 63, rfl, a, _, rfl, s2.seq (s1.seq hS), fun c2 nc2 => ?_⟩
    rw [em]
    have s3 := same_new (o := .lst (ms.map V.int)) nc2
    refine ⟨c2, _, rfl, .inl (SqL.of upd_same), _, _, rfl, rfl, .inl ⟨by decide, by decide⟩, _, _, rfl, rfl, ?_⟩
    refine ⟨by show 4 ≤ sizeLine; decide, fun d nd => ?_⟩
    have s4 := same_new (o := .lst [V.ref l, V.int 0, V.int 0, V.int (9494 + 37 * ((ms.map V.int).length : Int))]) nd
    refine q d l _ (((s1.trans s2).trans s3).free nd) ⟨ms, 0, 0, 9494 + 37 * ((ms.map V.int).length : Int), upd_same, ?_, by omega, by omega, by rw [List.length_map]; omega⟩ (((s1.trans s2).trans s3).trans s4)
    exact s4 _ _ (s3 _ _ upd_same)
end
section
variable {P : Program} {w : World} {K : PySem.W.Frag} {mg : Str → Option Value} {base : Heap}
theorem ok_of {f fT : Addr} {fd fdT : FuncData} (F : Fun K "_law_of" "_law_of" sOf f fd) (GT : FnOk P w K mg base CX0 1 fT fdT ["_law_draw", "_law_many"] spTake) (FT : Fun K "_law_take" "_law_take" sTake fT fdT) (bT : Binds K fdT ["_law_draw", "_law_many"] []) (gT : mg "_law_take" = some (.ref fT)) (T : Tx mg) :
    FnOk P w K mg base CX0 2 f fd ["_law_draw", "_law_some"] (spOf K) := by
  refine F.ok scOf (fun vs H Q E h => ?_) (fun cdv A outer s H vs Q E hr h => ?_)
  · obtain ⟨d, l, a, xs, rfl, _⟩ := h
    rfl
  · obtain ⟨d, l, a, xs, rfl, hD, ne, hS, h1, h2, q⟩ := h
    refine ⟨_, pss_one (ps_ret (pe_ix ix_list (pv 1) (pe_call GT hr (by rfl) gT FT.kp bT .nil pass0 (pa_cons (pv 0) (pa_cons (pe_callB call_len_seq (by rfl) T.len PySem.boot_len (pa_cons (pv 1) pa_nil)) pa_nil))) (fun _ _ => rfl))), ?_⟩
    refine ⟨_, rfl, _, rfl, _, rfl, a, xs, rfl, .inl hS, d, l, xs.length, rfl, hD, by omega, Nat.lt_of_le_of_lt (show _ ≤ 1000 by omega) (by decide +kernel), fun r H' hr' hD' sb => ?_⟩
    have hr2 : r < xs.length := by omega
    exact ⟨a, xs, _, xs[r], rfl, rfl, sb.sql ne hS, atI_nat (List.getElem?_eq_getElem hr2), q r _ H' (List.getElem?_eq_getElem hr2) hD' sb⟩
end
section
variable {P : Program} {w : World} {K : PySem.W.Frag} {mg : Str → Option Value} {base : Heap}
theorem ok_size {f fT fO : Addr} {fd fdT fdO : FuncData} (F : Fun K "_law_size" "_law_size" sSize f fd) (GT : FnOk P w K mg base CX0 1 fT fdT ["_law_draw", "_law_many"] spTake) (FT : Fun K "_law_take" "_law_take" sTake fT fdT) (bT : Binds K fdT ["_law_draw", "_law_many"] []) (gT : mg "_law_take" = some (.ref fT))
    (GO : FnOk P w K mg base CX0 2 fO fdO ["_law_draw", "_law_some"] (spOf K)) (FO : Fun K "_law_of" "_law_of" sOf fO fdO) (bO : Binds K fdO ["_law_draw", "_law_some"] []) (gO : mg "_law_of" = some (.ref fO)) (T : Tx mg) :
    FnOk P w K mg base CX0 3 f fd ["_law_draw", "_law_most"] spSize := by
  refine F.ok scSize (fun vs H Q E h => ?_) (fun cdv A outer s H vs Q E hr h => ?_)
  · obtain ⟨d, l, m, rfl, _⟩ := h
    rfl
  · obtain ⟨d, l, m, rfl, hD, hm, q⟩ := h
    refine ⟨_, pss_one (ps_ret (pe_call GO hr (by rfl) gO FO.kp bO .nil pass0 (pa_cons (pv 0) (pa_cons (pe_lst
      (pa_cons (pe_call GT (hr.mono (by decide)) (by rfl) gT FT.kp bT .nil pass0 (pa_cons (pv 0) (pa_cons (pe_op op_add (pv 1) pe_int) pa_nil)))
      (pa_cons (pe_callB (call_min2 rfl) (by rfl) T.min (by decide +kernel) (pa_cons (pv 1) (pa_cons (pe_call GT (hr.mono (by decide)) (by rfl) gT FT.kp bT .nil pass0 (pa_cons (pv 0) (pa_cons pe_int pa_nil))) pa_nil)))
      (pa_cons (pe_callB (call_min2 rfl) (by rfl) T.min (by decide +kernel) (pa_cons (pv 1) (pa_cons pe_int pa_nil))) pa_nil)))) pa_nil)))), ?_⟩
    refine ⟨_, rfl, _, rfl, _, rfl, _, _, rfl, rfl, d, l, (m : Int) + 1, rfl, hD, by omega, Nat.lt_of_le_of_lt (show _ ≤ 1001 by omega) (by decide +kernel), fun r1 H1 hr1 hD1 sb1 => ?_⟩
    refine ⟨_, rfl, _, rfl, d, l, 8, rfl, hD1, by omega, by decide +kernel, fun r2 H2 hr2 hD2 sb2 => ?_⟩
    refine ⟨_, _, rfl, _, rfl, _, _, rfl, ?_⟩
    have a2 : ∃ z : Nat, (if (r2 : Int) < (m : Int) then (r2 : Int) else (m : Int)) = (z : Int) ∧ z ≤ m := by
      split
      · exact ⟨r2, rfl, by omega⟩
      · exact ⟨m, rfl, Nat.le_refl _⟩
    have a3 : ∃ z : Nat, (if (3 : Int) < (m : Int) then (3 : Int) else (m : Int)) = (z : Int) ∧ z ≤ m := by
      split
      · exact ⟨3, rfl, by omega⟩
      · exact ⟨m, rfl, Nat.le_refl _⟩
    obtain ⟨z2, e2, l2⟩ := a2
    obtain ⟨z3, e3, l3⟩ := a3
    rw [e2, e3]
    refine ⟨by show 3 ≤ sizeLine; decide, fun p np => ?_⟩
    have sb := sb1.trans sb2
    refine ⟨d, l, p, _, rfl, hD2.new np, hD2.ne np, SqL.of upd_same, (by show 1 ≤ 3; decide), (by show 3 ≤ 1000; decide), fun i v H3 hv hD3 sb3 => ?_⟩
    have fin : ∃ z : Nat, v = .int (z : Int) ∧ z ≤ m := by
      match i, hv with
      | 0, hv => exact ⟨r1, (Option.some.inj hv).symm, by omega⟩
      | 1, hv => exact ⟨z2, (Option.some.inj hv).symm, l2⟩
      | 2, hv => exact ⟨z3, (Option.some.inj hv).symm, l3⟩
    obtain ⟨z, rfl, hz⟩ := fin
    exact q z H3 hz hD3 ((sb.trans (Sb.of (same_new np))).trans sb3)
end
section
variable {P : Program} {w : World} {K : PySem.W.Frag} {mg : Str → Option Value} {base : Heap}
theorem ok_shuf {f fT : Addr} {fd fdT : FuncData} (F : Fun K "_law_shuffled" "_law_shuffled" sShuf f fd) (GT : FnOk P w K mg base CX0 1 fT fdT ["_law_draw", "_law_many"] spTake) (FT : Fun K "_law_take" "_law_take" sTake fT fdT) (bT : Binds K fdT ["_law_draw", "_law_many"] []) (gT : mg "_law_take" = some (.ref fT)) (T : Tx mg) :
    FnOk P w K mg base CX0 2 f fd ["_law_draw", "_law_some"] (spShuf K) := by
  refine F.ok scShuf (fun vs H Q E h => ?_) (fun cdv A outer s H vs Q E hr h => ?_)
  · obtain ⟨d, l, a, xs, rfl, _⟩ := h
    rfl
  · obtain ⟨d, l, a, xs, rfl, hD, ne, hS, hl, q⟩ := h
    refine ⟨_, pss_cons (ps_set (i := 2) scShuf.nd rfl (.inl rfl) (pe_lst pa_nil))
      (pss_cons (ps_for PassesOwn.never rfl (pi_list (pv 1)) (pg_name (i := 3) scShuf.nd rfl (.inl rfl))
        (pss_one (ps_expr (pe_bm PySem.F.plainAttrs_list PySem.F.slot_list_insert PySem.F.type_list_insert mt_insert (pv 2)
          (pa_cons (pe_call GT hr (by rfl) gT FT.kp bT .nil pass0 (pa_cons (pv 0) (pa_cons (pe_op op_add (pe_callB call_len_seq (by rfl) T.len PySem.boot_len (pa_cons (pv 2) pa_nil)) pe_int) pa_nil))) (pa_cons (pv 3) pa_nil))))))
      (pss_one (ps_ret (pv 2)))), ?_⟩
    refine ⟨Nat.zero_le _, fun p np => ?_⟩
    have npd : p ≠ d := hD.ne np
    have s1 : Same H (upd H p (.lst [])) := same_new np
    refine ⟨_, rfl, a, rfl, ⟨_, s1.seq hS⟩, ?_⟩
    refine for_list (xs := xs) (fun i σ H' => (∃ c, σ = [some (.ref d), some (.ref a), some (.ref p), c]) ∧ ∃ ys : List V, ys.Perm (xs.take i) ∧ H' p = some (.lst ys) ∧ DrawAt H' d l ∧ Sb d H H') ⟨⟨none, rfl⟩, [], by simp, upd_same, hD.new np, Sb.of s1⟩ ?_ ?_ ?_
    · rintro i σ H' _ ⟨_, ys, _, _, _, sb⟩
      exact sb.sql ne hS
    · rintro i x σ H' hx ⟨⟨c, rfl⟩, ys, hy, hp, hD', sb⟩
      have hyl : ys.length = i := by
        rw [hy.length_eq, List.length_take]
        have := (List.getElem?_eq_some_iff.mp hx).1
        omega
      have hil : i < xs.length := (List.getElem?_eq_some_iff.mp hx).1
      refine ⟨_, rfl, .inl ⟨rfl, _, SqL.of hp⟩, _, rfl, _, rfl, p, ys, rfl, .inl (SqL.of hp), _, _, rfl, rfl, d, l, _, rfl, hD', by omega, Nat.lt_of_le_of_lt (show _ ≤ 1001 by omega) (by decide +kernel), fun r H2 hr2 hD2 sb2 => ?_⟩
      have hp2 : H2 p = some (.lst ys) := sb2 _ _ npd hp
      refine ⟨_, rfl, p, ys, r, x, rfl, rfl, hp2, Nat.lt_of_lt_of_le (show ys.length < 1001 by omega) (by decide), by omega, by omega, ⟨_, rfl⟩, ys.take r ++ [x] ++ ys.drop r, ?_, upd_same, ?_, ?_⟩
      · rw [List.take_add_one, hx]
        exact (insert_perm r x).trans (hy.append_right _)
      · exact hD2.put npd (hD.nel np)
      · exact (sb.trans sb2).over np
    · rintro σ H' ⟨⟨c, rfl⟩, ys, hy, hp, hD', sb⟩
      rw [List.take_length] at hy
      exact ⟨_, rfl, q p ys H' hy np npd hp hD' sb⟩
end
section
variable {P : Program} {w : World} {K : PySem.W.Frag} {mg : Str → Option Value} {base : Heap}
theorem ok_path {f : Addr} {fd : FuncData} {k : Nat} (F : Fun K "_law_path" "_law_path" sPath f fd) (T : Tx mg) : FnOk P w K mg base CX0 (k + 1) f fd ["_law_forest_here", "_law_node"] (spPath K) := by
  refine F.ok scPath (fun vs H Q E h => ?_) (fun cdv A outer s H vs Q E hr h => ?_)
  · obtain ⟨a, n, p, x, rfl, _⟩ := h
    rfl
  · obtain ⟨a, n, p, x, rfl, hS, hn, hl, hx, q⟩ := h
    refine ⟨_, pss_cons (ps_set (i := 2) scPath.nd rfl (.inl rfl) (pe_lst (pa_cons (pv 1) pa_nil)))
      (pss_cons (ps_for PassesOwn.never rfl (pi_range1 (by rfl) T.range (pa_cons (pe_callB call_len_seq (by rfl) T.len PySem.boot_len (pa_cons (pv 0) pa_nil)) pa_nil)) (pg_name (i := 3) scPath.nd rfl (.inl rfl))
        (pss_one (ps_if (pt_cmpR op_ne (pe_ix ix_seq (pv 0) (pe_ix ix_list (pv 2) (pe_un un_neg pe_int) (fun _ _ => rfl)) (fun _ _ => rfl)) (pe_ix ix_list (pv 2) (pe_un un_neg pe_int) (fun _ _ => rfl)) (nomark _))
          (pss_one (ps_expr (pe_bm PySem.F.plainAttrs_list PySem.F.slot_list_append PySem.F.type_list_append mt_append (pv 2) (pa_cons (pe_ix ix_seq (pv 0) (pe_ix ix_list (pv 2) (pe_un un_neg pe_int) (fun _ _ => rfl)) (fun _ _ => rfl)) pa_nil)))) pss_nil)))
      (pss_one (ps_ret (pv 2)))), ?_⟩
    refine ⟨_, rfl, by show 1 ≤ sizeLine; decide, fun c nc => ?_⟩
    have s1 : Same H (upd H c (.lst [vi x])) := same_new nc
    refine ⟨_, rfl, a, _, rfl, hS.same s1, _, rfl, by rw [tupOf_len]; omega, by rw [tupOf_len]; omega, ?_⟩
    rw [tupOf_len]
    refine for_range (lo := 0) (n := (n : Int).toNat) (fun i σ H' => (∃ y, σ = [some (.ref a), some (vi x), some (.ref c), y]) ∧ H' c = some (.lst (natsV (path p i x))) ∧ Same H H') ⟨⟨none, rfl⟩, upd_same, s1⟩ ?_ ?_
    · rintro i σ H' hi ⟨⟨y, rfl⟩, hc, sm⟩
      have hi' : i < n := by omega
      have hr := root_lt0 hl i x hx
      refine ⟨_, rfl, _, rfl, 1, rfl, c, _, _, _, rfl, rfl, SqL.of hc, natsV_last p i x, (hS.same sm).ix (atI_nat (tupOf_at hr)) ⟨_, rfl, 1, rfl, c, _, _, _, rfl, rfl, SqL.of hc, natsV_last p i x, rfl, _, rfl, ite2 (fun e => ?_) (fun e => ?_)⟩⟩
      · have e' : ¬ p (root p i x) = root p i x := fun z => by
          rw [z] at e
          simp at e
        refine ⟨_, rfl, .inl ⟨rfl, _, SqL.of hc⟩, _, rfl, _, rfl, 1, rfl, c, _, _, _, rfl, rfl, SqL.of hc, natsV_last p i x, (hS.same sm).ix (atI_nat (tupOf_at hr)) ⟨c, _, _, rfl, rfl, hc, ?_, ⟨_, rfl⟩, ?_, same_over sm nc⟩⟩
        · rw [natsV_len]
          have := path_len0 p i x
          exact Nat.lt_of_le_of_lt (show _ ≤ 1001 by omega) (by decide)
        · rw [upd_same, path_succ, if_neg e']
          unfold natsV
          rw [List.map_append]
          rfl
      · have e' : p (root p i x) = root p i x := by
          have z : ¬ (!decide ((vi (p (root p i x))) = vi (root p i x))) = true := e
          simp at z
          omega
        refine ⟨⟨_, rfl⟩, ?_, sm⟩
        rw [path_succ, if_pos e']
        exact hc
    · rintro σ H' ⟨⟨y, rfl⟩, hc, sm⟩
      refine ⟨_, rfl, q c H' nc ?_ sm⟩
      exact hc
end
section
variable {P : Program} {w : World} {K : PySem.W.Frag} {mg : Str → Option Value} {base : Heap}
theorem ok_root {f fP : Addr} {fd fdP : FuncData} (F : Fun K "_law_root" "_law_root" sRoot f fd) (GP : FnOk P w K mg base CX0 1 fP fdP ["_law_forest_here", "_law_node"] (spPath K)) (FP : Fun K "_law_path" "_law_path" sPath fP fdP) (bP : Binds K fdP ["_law_forest_here", "_law_node"] []) (gP : mg "_law_path" = some (.ref fP)) :
    FnOk P w K mg base CX0 2 f fd ["_law_forest_here", "_law_node"] (spRoot K) := by
  refine F.ok scRoot (fun vs H Q E h => ?_) (fun cdv A outer s H vs Q E hr h => ?_)
  · obtain ⟨a, n, p, x, rfl, _⟩ := h
    rfl
  · obtain ⟨a, n, p, x, rfl, hS, hn, hl, hx, q⟩ := h
    refine ⟨_, pss_one (ps_ret (pe_ix ix_list (pe_call GP hr (by rfl) gP FP.kp bP .nil pass0 (pa_cons (pv 0) (pa_cons (pv 1) pa_nil))) (pe_un un_neg pe_int) (fun _ _ => rfl))), ?_⟩
    exact ⟨_, rfl, _, rfl, a, n, p, x, rfl, hS, hn, hl, hx, fun c H' nc hc sm => ⟨1, rfl, c, _, _, _, rfl, rfl, SqL.of hc, natsV_last p n x, q H' sm⟩⟩
end
section
variable {P : Program} {w : World} {K : PySem.W.Frag} {mg : Str → Option Value} {base : Heap}
theorem ok_pathOf {f fC : Addr} {fd fdC : FuncData} (F : Fun K "path_of" "path_of" sPathOf f fd) (GC : FnOk P w K mg base CX0 2 fC fdC ["forest", "node"] (spChk K)) (FC : Fun K "check_node" "check_node" sChk fC fdC) (bC : Binds K fdC ["forest", "node"] []) (gC : mg "check_node" = some (.ref fC)) :
    FnOk P w K mg base CX0 3 f fd ["forest", "node"] (spPathOf K) := by
  refine F.ok scPathOf (fun vs H Q E h => ?_) (fun cdv A outer s H vs Q E hr h => ?_)
  · obtain ⟨a, n, p, r, x, rfl, _⟩ := h
    rfl
  · obtain ⟨a, n, p, r, x, rfl, hS, hn, hF, hx, q⟩ := h
    refine ⟨_, pss_cons (ps_expr (pe_call GC hr (by rfl) gC FC.kp bC .nil pass0 (pa_cons (pv 0) (pa_cons (pv 1) pa_nil))))
      (pss_cons (ps_set (i := 2) scPathOf.nd rfl (.inl rfl) (pe_lst (pa_cons (pv 1) pa_nil)))
      (pss_cons (ps_while PassesOwn.never (pt_cmpR op_ne (pe_ix ix_seq (pv 0) (pe_ix ix_list (pv 2) (pe_un un_neg pe_int) (fun _ _ => rfl)) (fun _ _ => rfl)) (pe_ix ix_list (pv 2) (pe_un un_neg pe_int) (fun _ _ => rfl)) (nomark _))
          (pss_one (ps_expr (pe_bm PySem.F.plainAttrs_list PySem.F.slot_list_append PySem.F.type_list_append mt_append (pv 2) (pa_cons (pe_ix ix_seq (pv 0) (pe_ix ix_list (pv 2) (pe_un un_neg pe_int) (fun _ _ => rfl)) (fun _ _ => rfl)) pa_nil)))))
      (pss_one (ps_ret (pv 2))))), ?_⟩
    refine ⟨_, rfl, _, rfl, a, _, x, rfl, hS, by rw [tupOf_len]; exact hx, ?_⟩
    refine ⟨_, rfl, by show 1 ≤ sizeLine; decide, fun c nc => ?_⟩
    have s1 : Same H (upd H c (.lst [vi x])) := same_new nc
    refine ⟨fun m σ H' => ∃ i, m = n - i ∧ i ≤ n ∧ σ = [some (.ref a), some (vi x), some (.ref c)] ∧ H' c = some (.lst (natsV (path p i x))) ∧ Same H H', ⟨n, 0, rfl, Nat.zero_le _, rfl, upd_same, s1⟩, ?_⟩
    rintro m σ H' ⟨i, rfl, hi, rfl, hc, sm⟩
    have hr := root_lt0 hF.lt i x hx
    refine ⟨_, rfl, _, rfl, 1, rfl, c, _, _, _, rfl, rfl, SqL.of hc, natsV_last p i x, (hS.same sm).ix (atI_nat (tupOf_at hr)) ⟨_, rfl, 1, rfl, c, _, _, _, rfl, rfl, SqL.of hc, natsV_last p i x, rfl, _, rfl, ite2 (fun e => ?_) (fun e => ?_)⟩⟩
    · have e' : ¬ p (root p i x) = root p i x := fun z => by
        rw [z] at e
        simp at e
      have hlt : i < n := by
        by_cases z : i = n
        · rw [z] at e'
          exact absurd (root_fix hF x hx) e'
        · omega
      refine ⟨fun σ' H'' => σ' = [some (.ref a), some (vi x), some (.ref c)] ∧ H'' c = some (.lst (natsV (path p (i + 1) x))) ∧ Same H H'', fun σ' H'' ⟨z1, z2, z3⟩ => ⟨n - (i + 1), by omega, i + 1, rfl, hlt, z1, z2, z3⟩, ?_⟩
      refine ⟨_, rfl, .inl ⟨rfl, _, SqL.of hc⟩, _, rfl, _, rfl, 1, rfl, c, _, _, _, rfl, rfl, SqL.of hc, natsV_last p i x, (hS.same sm).ix (atI_nat (tupOf_at hr)) ⟨c, _, _, rfl, rfl, hc, ?_, rfl, ?_, same_over sm nc⟩⟩
      · rw [natsV_len]
        have := path_len0 p i x
        exact Nat.lt_of_le_of_lt (show _ ≤ 1001 by omega) (by decide)
      · rw [upd_same, path_succ, if_neg e']
        unfold natsV
        rw [List.map_append]
        rfl
    · have e' : p (root p i x) = root p i x := by
        have z : ¬ (!decide ((vi (p (root p i x))) = vi (root p i x))) = true := e
        simp at z
        omega
      refine ⟨_, rfl, q c H' nc ?_ sm⟩
      have z := (path_fixed e' (n - i)).1
      rw [show i + (n - i) = n by omega] at z
      rw [z]
      exact hc
end
section
variable {P : Program} {w : World} {K : PySem.W.Frag} {mg : Str → Option Value} {base : Heap}
theorem ok_num {f : Addr} {fd : FuncData} {k : Nat} (F : Fun K "check_number" "check_number" sNum f fd) : FnOk P w K mg base CX0 (k + 1) f fd ["size", "node"] spNum := by
  refine F.ok scNum (fun vs H Q E h => ?_) (fun cdv A outer s H vs Q E hr h => ?_)
  · obtain ⟨n, x, rfl, _⟩ := h
    rfl
  · obtain ⟨n, x, rfl, hx, q⟩ := h
    refine ⟨_, pss_one (ps_if (pt_not (pt_chain op_le op_lt pe_int (pv 1) (pv 0))) (pss_one ps_never) pss_nil), ?_⟩
    have e1 : decide ((0 : Int) ≤ (x : Int)) = true := decide_eq_true (by omega)
    have e2 : decide ((x : Int) < (n : Int)) = true := decide_eq_true (by omega)
    refine ⟨_, rfl, _, _, rfl, rfl, _, rfl, ?_⟩
    show if decide ((0 : Int) ≤ (x : Int)) = true then _ else _
    rw [e1]
    refine iteT ⟨_, rfl, _, _, rfl, rfl, _, rfl, ?_⟩
    show if (!decide ((x : Int) < (n : Int))) = true then _ else _
    rw [e2]
    exact iteF q
end
section
variable {P : Program} {w : World} {K : PySem.W.Frag} {mg : Str → Option Value} {base : Heap}
theorem ok_chk {f fN : Addr} {fd fdN : FuncData} (F : Fun K "check_node" "check_node" sChk f fd) (k1 : Kn P w K mg base 1 "check_number" sNum ["size", "node"] spNum fN fdN) (T : Tx mg) : FnOk P w K mg base CX0 2 f fd ["forest", "node"] (spChk K) := by
  refine F.ok scChk (fun vs H Q E h => ?_) (fun cdv A outer s H vs Q E hr h => ?_)
  · obtain ⟨a, xs, x, rfl, _⟩ := h
    rfl
  · obtain ⟨a, xs, x, rfl, hS, hx, q⟩ := h
    refine ⟨_, pss_one (ps_expr (pe_call k1.G hr (by rfl) k1.g k1.F.kp k1.b .nil pass0 (pa_cons (pe_callB call_len_seq (by rfl) T.len PySem.boot_len (pa_cons (pv 0) pa_nil)) (pa_cons (pv 1) pa_nil)))), ?_⟩
    exact ⟨_, rfl, a, xs, rfl, hS, _, rfl, xs.length, x, rfl, hx, q⟩
end
section
variable {P : Program} {w : World} {K : PySem.W.Frag} {mg : Str → Option Value} {base : Heap}
theorem ok_ren {f fS : Addr} {fd fdS : FuncData} (F : Fun K "_law_renamed" "_law_renamed" sRen f fd) (GS : FnOk P w K mg base CX0 2 fS fdS ["_law_draw", "_law_some"] (spShuf K)) (FS : Fun K "_law_shuffled" "_law_shuffled" sShuf fS fdS) (bS : Binds K fdS ["_law_draw", "_law_some"] []) (gS : mg "_law_shuffled" = some (.ref fS)) (T : Tx mg) :
    FnOk P w K mg base CX0 3 f fd ["_law_draw", "_law_parents"] (spRen K) := by
  refine F.ok scRen (fun vs H Q E h => ?_) (fun cdv A outer s H vs Q E hr h => ?_)
  · obtain ⟨d, l, a, ps, rfl, _⟩ := h
    rfl
  · obtain ⟨d, l, a, ps, rfl, hD, ne, hS, hl, hps, q⟩ := h
    refine ⟨_, pss_cons (ps_set (i := 2) scRen.nd rfl (.inl rfl) (pe_call GS hr (by rfl) gS FS.kp bS .nil pass0 (pa_cons (pv 0) (pa_cons (pe_listRg rfl (by rfl) T.list (prg_1 (by rfl) T.range (pe_callB call_len_seq (by rfl) T.len PySem.boot_len (pa_cons (pv 1) pa_nil)))) pa_nil))))
      (pss_cons (ps_set (i := 3) scRen.nd rfl (.inl rfl) (pe_op op_rep (pe_lst (pa_cons pe_int pa_nil)) (pe_callB call_len_seq (by rfl) T.len PySem.boot_len (pa_cons (pv 1) pa_nil))))
      (pss_cons (ps_for PassesOwn.never rfl (pi_range1 (by rfl) T.range (pa_cons (pe_callB call_len_seq (by rfl) T.len PySem.boot_len (pa_cons (pv 1) pa_nil)) pa_nil)) (pg_name (i := 4) scRen.nd rfl (.inl rfl))
        (pss_one (ps_asg (pe_ix ix_list (pv 2) (pe_ix ix_list (pv 1) (pv 4) (fun _ _ => rfl)) (fun _ _ => rfl)) (pg_sub (pv 3) (pe_ix ix_list (pv 2) (pv 4) (fun _ _ => rfl)) set_list))))
      (pss_one (ps_ret (pe_callTy call_tuple_of (by rfl) T.tuple (by decide +kernel) (pa_cons (pv 3) pa_nil)))))), ?_⟩
    refine ⟨_, rfl, _, rfl, a, _, rfl, .inl hS, _, rfl, ?_⟩
    rw [natsV_len]
    refine ⟨rgOk_nat hl, fun c nc => ?_⟩
    rw [rgV_nat]
    have s1 := same_new (o := .lst (natsV (List.range ps.length))) nc
    refine ⟨d, l, c, _, rfl, hD.new nc, hD.ne nc, SqL.of upd_same, by rw [natsV_len, List.length_range]; exact hl, fun nm ys H1 hy nnm nnd hnm hD1 sb1 => ?_⟩
    obtain ⟨ks, rfl, hk⟩ := shuf_nats hy
    have hkl : ks.length = ps.length := by rw [hk.length_eq, List.length_range]
    have sbA : Sb d H H1 := (Sb.of s1).trans sb1
    refine ⟨by show 1 ≤ sizeLine; decide, fun z nz => ?_⟩
    have s2 := same_new (o := .lst [V.int 0]) nz
    have sbB : Sb d H (upd H1 z (.lst [V.int 0])) := sbA.trans (Sb.of s2)
    refine ⟨_, rfl, a, _, rfl, .inl (sbB.sql ne hS), z, _, _, rfl, rfl, upd_same, by omega, by rw [natsV_len]; omega, ?_, fun g ng => ?_⟩
    · rw [natsV_len]
      show 1 * _ ≤ sizeLine
      exact Nat.le_trans (show _ ≤ 1000 by omega) (by decide)
    rw [natsV_len, show ((ps.length : Nat) : Int).toNat = ps.length by omega, rep0]
    have s3 := same_new (o := .lst (tupOf ps.length fun _ => 0)) ng
    have sbC := sbB.trans (Sb.of s3)
    have hnmC := s3 _ _ (s2 _ _ hnm)
    have hDC : DrawAt (upd (upd H1 z (.lst [V.int 0])) g (.lst (tupOf ps.length fun _ => 0))) d l := (hD1.new nz).new ng
    have ngd : g ≠ d := (hD1.new nz).ne ng
    have ngl : g ≠ l := (hD1.new nz).nel ng
    have ng0 : H g = none := sbB.free ngd ng
    have ngn : nm ≠ g := ne_of_none (s2 _ _ hnm) ng
    refine ⟨_, rfl, a, _, rfl, .inl (sbC.sql ne hS), _, rfl, by rw [natsV_len]; omega, by rw [natsV_len]; omega, ?_⟩
    rw [natsV_len]
    refine for_range (lo := 0) (n := ((ps.length : Nat) : Int).toNat) (fun i σ H' => (∃ y, σ = [some (.ref d), some (.ref a), some (.ref nm), some (.ref g), y]) ∧ H' nm = some (.lst (natsV ks)) ∧ H' g = some (.lst (tupOf ps.length (asg ks ps i))) ∧ DrawAt H' d l ∧ Sb d H H') ⟨⟨none, rfl⟩, hnmC, upd_same, hDC, sbC⟩ ?_ ?_
    · rintro i σ H' hi ⟨⟨y, rfl⟩, h1, h2, h3, h4⟩
      have hi' : i < ps.length := by omega
      have hpi := hps i hi'
      have hki : ks.getD i 0 < ps.length := by
        have hj' : i < ks.length := by omega
        rw [List.getD_eq_getElem?_getD, List.getElem?_eq_getElem hj']
        exact List.mem_range.mp (hk.mem_iff.mp (List.getElem_mem hj'))
      refine ⟨_, rfl, _, rfl, _, rfl, a, _, _, _, rfl, rfl, h4.sql ne hS, ?_, nm, _, _, _, rfl, rfl, SqL.of h1, atI_nat (natsV_at (show ps.getD i 0 < ks.length by omega)), _, rfl, _, rfl, _, rfl, nm, _, _, _, rfl, rfl, SqL.of h1, ?_, g, _, _, ks.getD i 0, rfl, rfl, h2, by rw [tupOf_len]; exact ixN_nat hki, ⟨_, rfl⟩, by rw [upd_ne ngn]; exact h1, ?_, h3.put ngd ngl, h4.over ng0⟩
      · show atI (natsV ps) (0 + (i : Int)) = _
        rw [Int.zero_add]
        exact atI_nat (natsV_at hi')
      · show atI (natsV ks) (0 + (i : Int)) = _
        rw [Int.zero_add]
        exact atI_nat (natsV_at (by omega))
      · rw [upd_same, tupOf_set]
        rfl
    · rintro σ H' ⟨⟨y, rfl⟩, h1, h2, h3, h4⟩
      refine ⟨_, rfl, g, _, rfl, .inl ⟨SqL.of h2, fun t nt => ?_⟩⟩
      have s4 := same_new (o := .tup (tupOf ps.length (asg ks ps ps.length))) nt
      obtain ⟨r, hr⟩ := renamed_fo (n := ps.length) (ps := ps) hk hps
      exact q t _ r _ (h4.free (h3.ne nt) nt) upd_same hr (h3.new nt) (h4.trans (Sb.of s4))
end
section
variable {P : Program} {w : World} {K : PySem.W.Frag} {mg : Str → Option Value} {base : Heap}
theorem ok_for {f fT fR : Addr} {fd fdT fdR : FuncData} (F : Fun K "_law_forest" "_law_forest" sFor f fd) (GT : FnOk P w K mg base CX0 1 fT fdT ["_law_draw", "_law_many"] spTake) (FT : Fun K "_law_take" "_law_take" sTake fT fdT) (bT : Binds K fdT ["_law_draw", "_law_many"] []) (gT : mg "_law_take" = some (.ref fT))
    (GR : FnOk P w K mg base CX0 3 fR fdR ["_law_draw", "_law_parents"] (spRen K)) (FR : Fun K "_law_renamed" "_law_renamed" sRen fR fdR) (bR : Binds K fdR ["_law_draw", "_law_parents"] []) (gR : mg "_law_renamed" = some (.ref fR)) (T : Tx mg) :
    FnOk P w K mg base CX0 4 f fd ["_law_draw", "_law_size_here", "_law_many"] spFor := by
  refine F.ok scFor (fun vs H Q E h => ?_) (fun cdv A outer s H vs Q E hr h => ?_)
  · obtain ⟨d, l, n, m, rfl, _⟩ := h
    rfl
  · obtain ⟨d, l, n, m, rfl, hD, hn, q⟩ := h
    have hr1 : Room 1 (A.deeper (envOfC "_law_forest" (defScope sFor) s.heap.objs.size f cdv)) := hr.mono (by decide)
    refine ⟨_, pss_cons (ps_par (i := 3) (j := 4) (by rfl) scFor.nd rfl rfl (by decide) rfl rfl (pa_cons (pe_call GT hr1 (by rfl) gT FT.kp bT .nil pass0 (pa_cons (pv 0) (pa_cons pe_int pa_nil))) (pa_cons (pe_lst pa_nil) pa_nil)) (by rfl))
      (pss_cons (ps_for PassesOwn.never rfl (pi_range1 (by rfl) T.range (pa_cons (pv 1) pa_nil)) (pg_name (i := 5) scFor.nd rfl (.inl rfl))
        (pss_cons (ps_set (i := 6) scFor.nd rfl (.inl rfl) (pe_lst (pa_cons (pe_op op_sub (pv 5) pe_int) (pa_cons pe_int (pa_cons (pe_callB (call_max2 rfl) (by rfl) T.max (by decide +kernel) (pa_cons pe_int (pa_cons (pe_op op_sub (pv 5) pe_int) pa_nil)))
            (pa_cons (pe_callB (call_max2 rfl) (by rfl) T.max (by decide +kernel) (pa_cons pe_int (pa_cons (pe_op op_sub (pe_op op_sub (pv 5) pe_int) (pe_op op_mod (pv 5) pe_int)) pa_nil))) pa_nil))))))
        (C8.pss_cut (ps_set (i := 7) scFor.nd rfl (.inl rfl) (pe_ifExp (pt_cmpR op_lt (pv 3) pe_int (nomark _)) (pe_ix ix_list (pv 6) (pv 3) (fun _ _ => rfl))
            (pe_call GT hr1 (by rfl) gT FT.kp bT .nil pass0 (pa_cons (pv 0) (pa_cons (pe_callB (call_max2 rfl) (by rfl) T.max (by decide +kernel) (pa_cons pe_int (pa_cons (pv 5) pa_nil))) pa_nil)))))
        (C8.pss_cut (ps_if (pt_cmpR op_eq (pv 3) pe_int (nomark _)) (pss_one (ps_set (i := 7) scFor.nd rfl (.inl rfl) (pe_callB (call_max2 rfl) (by rfl) T.max (by decide +kernel) (pa_cons pe_int (pa_cons (pe_op op_sub (pe_op op_sub (pv 5) pe_int) (pe_call GT hr1 (by rfl) gT FT.kp bT .nil pass0 (pa_cons (pv 0) (pa_cons pe_int pa_nil)))) pa_nil))))) pss_nil)
        (C8.pss_cut (ps_if (PW.pt (pw_or (pt_cmpR op_eq (pv 5) pe_int (nomark _)) (pw_or1 (PW.pt (pw_and (pt_cmpR op_lt (pv 5) (pv 2) (nomark _)) (pw_and1 (pt_cmpR op_eq (pe_call GT hr1 (by rfl) gT FT.kp bT .nil pass0 (pa_cons (pv 0) (pa_cons pe_int pa_nil))) pe_int (nomark _))))))))
            (pss_one (ps_set (i := 7) scFor.nd rfl (.inl rfl) (pv 5))) pss_nil)
        (pss_one (ps_expr (pe_bm PySem.F.plainAttrs_list PySem.F.slot_list_append PySem.F.type_list_append mt_append (pv 4) (pa_cons (pv 7) pa_nil)))))))))
      (pss_one (ps_ret (pe_call GR hr (by rfl) gR FR.kp bR .nil pass0 (pa_cons (pv 0) (pa_cons (pv 4) pa_nil)))))), ?_⟩
    refine ⟨_, rfl, d, l, 6, rfl, hD, by decide, by decide +kernel, fun k H1 hk hD1 sb1 => ?_⟩
    refine ⟨Nat.zero_le _, fun pa npa => ⟨_, _, rfl, ?_⟩⟩
    have npd := hD1.ne npa
    have npl := hD1.nel npa
    have np0 : H pa = none := sb1.free npd npa
    refine ⟨_, rfl, _, rfl, by omega, by omega, ?_⟩
    refine for_range (lo := 0) (n := ((n : Nat) : Int).toNat) (fun i σ H' => (∃ y1 y2 y3, σ = [some (.ref d), some (vi n), some (vi m), some (vi k), some (.ref pa), y1, y2, y3]) ∧
      (∃ ps : List Nat, H' pa = some (.lst (natsV ps)) ∧ ps.length = i ∧ ∀ j, j < i → ps.getD j 0 ≤ j) ∧ DrawAt H' d l ∧ Sb d H H') ⟨⟨none, none, none, rfl⟩, ⟨[], upd_same, rfl, fun j h => by omega⟩, hD1.new npa, sb1.over np0⟩ ?_ ?_
    · rintro i σ H2 hi ⟨⟨y1, y2, y3, rfl⟩, ⟨ps, hps, hpl, hpb⟩, hD2, sb2⟩
      have hin : i < n := by omega
      show tSeq _ _ _ [some (.ref d), some (vi n), some (vi m), some (vi k), some (.ref pa), some (.int (0 + (i : Int))), y2, y3] H2
      rw [Int.zero_add]
      -- near
      refine ⟨_, rfl, _, _, rfl, rfl, _, rfl, _, _, rfl, rfl, _, _, rfl, _, rfl, _, _, rfl, rfl, _, rfl, _, _, rfl, rfl, (by show (0 : Int) < 2; decide), _, _, rfl, rfl, _, _, rfl, by show 4 ≤ sizeLine; decide, fun nr nnr => ?_⟩
      have hD3 := hD2.new (o := .lst [V.int ((i : Int) - 1), V.int 0, V.int (if (i : Int) - 2 > 0 then (i : Int) - 2 else 0), V.int (if (i : Int) - 1 - (i : Int) % 2 > 0 then (i : Int) - 1 - (i : Int) % 2 else 0)]) nnr
      have nrd := hD2.ne nnr
      have nrl := hD2.nel nnr
      have nr0 : H nr = none := sb2.free nrd nnr
      have nrp : pa ≠ nr := ne_of_none hps nnr
      have hpsN : (upd H2 nr (.lst [V.int ((i : Int) - 1), V.int 0, V.int (if (i : Int) - 2 > 0 then (i : Int) - 2 else 0), V.int (if (i : Int) - 1 - (i : Int) % 2 > 0 then (i : Int) - 1 - (i : Int) % 2 else 0)])) pa = some (.lst (natsV ps)) := by rw [upd_ne nrp]; exact hps
      refine ⟨fun σ' H' => (∃ av : Int, σ' = [some (.ref d), some (vi n), some (vi m), some (vi k), some (.ref pa), some (.int (i : Int)), some (.ref nr), some (.int av)] ∧ (1 ≤ i → 0 ≤ av ∧ av ≤ i)) ∧ H' pa = some (.lst (natsV ps)) ∧ DrawAt H' d l ∧ Sb d H H', ?_, ?_⟩
      · -- above
        refine ⟨_, rfl, _, _, rfl, rfl, _, rfl, ite2 (fun e => ?_) (fun e => ?_)⟩
        · have hk4 : k < 4 := by
            have z : (k : Int) < 4 := of_decide_eq_true e
            omega
          have pick : ∃ av : Int, atI [V.int ((i : Int) - 1), V.int 0, V.int (if (i : Int) - 2 > 0 then (i : Int) - 2 else 0), V.int (if (i : Int) - 1 - (i : Int) % 2 > 0 then (i : Int) - 1 - (i : Int) % 2 else 0)] (k : Int) = some (.int av) ∧ (1 ≤ i → 0 ≤ av ∧ av ≤ i) := by
            match k, hk4 with
            | 0, _ => exact ⟨_, rfl, fun h => by omega⟩
            | 1, _ => exact ⟨_, rfl, fun h => by omega⟩
            | 2, _ => exact ⟨_, rfl, fun h => by split <;> omega⟩
            | 3, _ => exact ⟨_, rfl, fun h => by split <;> omega⟩
          obtain ⟨av, e1, e2⟩ := pick
          exact ⟨_, rfl, _, rfl, nr, _, _, _, rfl, rfl, SqL.of upd_same, e1, ⟨av, rfl, e2⟩, hpsN, hD3, sb2.over nr0⟩
        · refine ⟨_, rfl, _, rfl, _, _, rfl, d, l, _, rfl, hD3, ?_, ?_, fun r H4 hr4 hD4 sb4 => ⟨⟨r, rfl, ?_⟩, ?_, hD4, (sb2.over nr0).trans sb4⟩⟩
          · show (1 : Int) ≤ if (i : Int) > 1 then (i : Int) else 1
            split <;> omega
          · show (if (i : Int) > 1 then (i : Int) else 1).natAbs < 2 ^ 1000
            exact Nat.lt_of_le_of_lt (show _ ≤ 1001 by split <;> omega) (by decide +kernel)
          · intro h1
            have z : (r : Int) < if (i : Int) > 1 then (i : Int) else 1 := hr4
            split at z <;> omega
          · exact sb4 _ _ npd hpsN
      · rintro σ' H' ⟨⟨av, rfl, hav⟩, hpa, hD4, sb4⟩
        refine ⟨fun σ' H' => (∃ av : Int, σ' = [some (.ref d), some (vi n), some (vi m), some (vi k), some (.ref pa), some (.int (i : Int)), some (.ref nr), some (.int av)] ∧ (1 ≤ i → 0 ≤ av ∧ av ≤ i)) ∧ H' pa = some (.lst (natsV ps)) ∧ DrawAt H' d l ∧ Sb d H H', ?_, ?_⟩
        · refine ⟨_, rfl, rfl, _, rfl, ite2 (fun e => ?_) (fun e => ?_)⟩
          · refine ⟨_, rfl, _, _, rfl, rfl, _, rfl, d, l, 3, rfl, hD4, by decide, by decide +kernel, fun r H5 hr5 hD5 sb5 => ?_⟩
            refine ⟨_, _, rfl, rfl, _, _, rfl, ⟨_, rfl, fun h1 => ?_⟩, sb5 _ _ npd hpa, hD5, sb4.trans sb5⟩
            split <;> omega
          · exact ⟨⟨av, rfl, hav⟩, hpa, hD4, sb4⟩
        · rintro σ' H' ⟨⟨av, rfl, hav⟩, hpa, hD4, sb4⟩
          refine ⟨fun σ' H' => (∃ av : Nat, σ' = [some (.ref d), some (vi n), some (vi m), some (vi k), some (.ref pa), some (.int (i : Int)), some (.ref nr), some (vi av)] ∧ av ≤ i) ∧ H' pa = some (.lst (natsV ps)) ∧ DrawAt H' d l ∧ Sb d H H', ?_, ?_⟩
          · refine ⟨_, rfl, rfl, _, rfl, ite2 (fun e => ?_) (fun e => ?_)⟩
            · exact ⟨_, rfl, ⟨i, rfl, Nat.le_refl _⟩, hpa, hD4, sb4⟩
            · have hi1 : 1 ≤ i := by
                by_cases z : i = 0
                · subst z; exact absurd rfl e
                · omega
              have hav' := hav hi1
              refine ⟨_, rfl, _, rfl, _, _, rfl, rfl, _, rfl, ite2 (fun e2 => ?_) (fun e2 => ?_)⟩
              · refine ⟨_, rfl, d, l, 2, rfl, hD4, by decide, by decide +kernel, fun r H5 hr5 hD5 sb5 => ?_⟩
                refine ⟨rfl, _, rfl, ite2 (fun e3 => ?_) (fun e3 => ?_)⟩
                · exact ⟨_, rfl, ⟨i, rfl, Nat.le_refl _⟩, sb5 _ _ npd hpa, hD5, sb4.trans sb5⟩
                · exact ⟨⟨av.toNat, by rw [show vi av.toNat = V.int av from congrArg V.int (by omega)], by omega⟩, sb5 _ _ npd hpa, hD5, sb4.trans sb5⟩
              · exact ⟨⟨av.toNat, by rw [show vi av.toNat = V.int av from congrArg V.int (by omega)], by omega⟩, hpa, hD4, sb4⟩
          · rintro σ' H' ⟨⟨av, rfl, hav⟩, hpa, hD4, sb4⟩
            refine ⟨_, rfl, .inl ⟨rfl, _, SqL.of hpa⟩, _, rfl, pa, _, _, rfl, rfl, hpa, ?_, ⟨_, _, _, rfl⟩, ⟨ps ++ [av], ?_, ?_, ?_⟩, hD4.put npd npl, sb4.over np0⟩
            · rw [natsV_len]; exact Nat.lt_of_le_of_lt (show _ ≤ 1000 by omega) (by decide)
            · rw [upd_same]; unfold natsV; rw [List.map_append]; rfl
            · rw [List.length_append, hpl]; rfl
            · intro j hj
              rw [List.getD_eq_getElem?_getD]
              by_cases z : j < i
              · rw [List.getElem?_append_left (by omega), ← List.getD_eq_getElem?_getD]; exact hpb j z
              · have e : j = i := by omega
                subst e
                rw [List.getElem?_append_right (by omega), hpl, Nat.sub_self]
                exact hav
    · rintro σ H2 ⟨⟨y1, y2, y3, rfl⟩, ⟨ps, hps, hpl, hpb⟩, hD2, sb2⟩
      have hpl' : ps.length = n := by omega
      subst hpl'
      exact ⟨_, rfl, _, rfl, d, l, pa, ps, rfl, hD2, npd, SqL.of hps, hn, (fun j hj => hpb j (by omega)), fun t p r H3 nt ht hF hD3 sb3 => q t p r H3 (sb2.free (hD2.ne nt) nt) ht hF hD3 (sb2.trans sb3)⟩
end
section
variable {P : Program} {w : World} {K : PySem.W.Frag} {mg : Str → Option Value} {base : Heap}
theorem ok_some {f fT fS fF : Addr} {fd fdT fdS fdF : FuncData} (F : Fun K "_law_some_forest" "_law_some_forest" sSome f fd) (GT : FnOk P w K mg base CX0 1 fT fdT ["_law_draw", "_law_many"] spTake) (FT : Fun K "_law_take" "_law_take" sTake fT fdT) (bT : Binds K fdT ["_law_draw", "_law_many"] []) (gT : mg "_law_take" = some (.ref fT))
    (GS : FnOk P w K mg base CX0 3 fS fdS ["_law_draw", "_law_most"] spSize) (FS : Fun K "_law_size" "_law_size" sSize fS fdS) (bS : Binds K fdS ["_law_draw", "_law_most"] []) (gS : mg "_law_size" = some (.ref fS))
    (GF : FnOk P w K mg base CX0 4 fF fdF ["_law_draw", "_law_size_here", "_law_many"] spFor) (FF : Fun K "_law_forest" "_law_forest" sFor fF fdF) (bF : Binds K fdF ["_law_draw", "_law_size_here", "_law_many"] []) (gF : mg "_law_forest" = some (.ref fF)) :
    FnOk P w K mg base CX0 5 f fd ["_law_draw", "_law_most"] spSome := by
  refine F.ok scSome (fun vs H Q E h => ?_) (fun cdv A outer s H vs Q E hr h => ?_)
  · obtain ⟨d, l, m, rfl, _⟩ := h
    rfl
  · obtain ⟨d, l, m, rfl, hD, hm, q⟩ := h
    refine ⟨_, pss_one (ps_ret (pe_call GF hr (by rfl) gF FF.kp bF .nil pass0 (pa_cons (pv 0) (pa_cons (pe_call GS (hr.mono (by decide)) (by rfl) gS FS.kp bS .nil pass0 (pa_cons (pv 0) (pa_cons (pv 1) pa_nil))) (pa_cons (pe_op op_add pe_int (pe_call GT (hr.mono (by decide)) (by rfl) gT FT.kp bT .nil pass0 (pa_cons (pv 0) (pa_cons pe_int pa_nil)))) pa_nil))))), ?_⟩
    refine ⟨_, rfl, _, rfl, _, rfl, d, l, m, rfl, hD, hm, fun n H1 hn hD1 sb1 => ?_⟩
    refine ⟨_, rfl, d, l, 5, rfl, hD1, by decide, by decide +kernel, fun r H2 hr2 hD2 sb2 => ?_⟩
    refine ⟨_, _, rfl, rfl, d, l, n, 1 + r, ?_, hD2, by omega, fun t p rk H3 nt ht hF hD3 sb3 => q t n p rk H3 hn ((sb1.trans sb2).free (hD2.ne nt) nt) ht hF hD3 ((sb1.trans sb2).trans sb3)⟩
    show [V.ref d, vi n, V.int (1 + (r : Int))] = [V.ref d, vi n, V.int ((1 + r : Nat) : Int)]
    rw [show ((1 + r : Nat) : Int) = 1 + (r : Int) by omega]
end
section
variable {P : Program} {w : World} {K : PySem.W.Frag} {mg : Str → Option Value} {base : Heap}
theorem ok_nodes {f fT fO fS : Addr} {fd fdT fdO fdS : FuncData} (F : Fun K "_law_nodes" "_law_nodes" sNodes f fd) (GT : FnOk P w K mg base CX0 1 fT fdT ["_law_draw", "_law_many"] spTake) (FT : Fun K "_law_take" "_law_take" sTake fT fdT) (bT : Binds K fdT ["_law_draw", "_law_many"] []) (gT : mg "_law_take" = some (.ref fT))
    (GO : FnOk P w K mg base CX0 2 fO fdO ["_law_draw", "_law_some"] (spOf K)) (FO : Fun K "_law_of" "_law_of" sOf fO fdO) (bO : Binds K fdO ["_law_draw", "_law_some"] []) (gO : mg "_law_of" = some (.ref fO))
    (GS : FnOk P w K mg base CX0 2 fS fdS ["_law_draw", "_law_some"] (spShuf K)) (FS : Fun K "_law_shuffled" "_law_shuffled" sShuf fS fdS) (bS : Binds K fdS ["_law_draw", "_law_some"] []) (gS : mg "_law_shuffled" = some (.ref fS)) (T : Tx mg) :
    FnOk P w K mg base CX0 3 f fd ["_law_draw", "_law_size_here", "_law_most"] spNodes := by
  refine F.ok scNodes (fun vs H Q E h => ?_) (fun cdv A outer s H vs Q E hr h => ?_)
  · obtain ⟨d, l, n, m, rfl, _⟩ := h
    rfl
  · obtain ⟨d, l, n, m, rfl, hD, hn, hm, q⟩ := h
    have hr1 : Room 1 (A.deeper (envOfC "_law_nodes" (defScope sNodes) s.heap.objs.size f cdv)) := hr.mono (by decide)
    refine ⟨_, pss_cons (ps_if (pt_cmpR op_eq (pv 1) pe_int (nomark _)) (pss_one (ps_ret (pe_lst pa_nil))) pss_nil)
      (pss_cons (ps_set (i := 3) scNodes.nd rfl (.inr rfl) (pe_slice sl_list (pe_call GS hr (by rfl) gS FS.kp bS .nil pass0 (pa_cons (pv 0) (pa_cons (pe_listRg rfl (by rfl) T.list (prg_1 (by rfl) T.range (pv 1))) pa_nil))) po_none (po_some (pe_op op_add pe_int (pe_call GT hr1 (by rfl) gT FT.kp bT .nil pass0 (pa_cons (pv 0) (pa_cons pe_int pa_nil)))))))
      (pss_one (ps_ret (pe_lc (own := [("_law_k", 4)]) (g := gName 4) (by rfl) scNodes.nd (pi_range1 (by rfl) T.range (pa_cons (pe_call GT hr1 (by rfl) gT FT.kp bT .nil pass0 (pa_cons (pv 0) (pa_cons (pe_op op_add (pv 2) pe_int) pa_nil))) pa_nil))
        (blkOk_by (own := [("_law_k", 4)]) (N := ["_law_draw", "_law_size_here", "_law_most", "_law_some", "_law_k"]) (sc := defScope sNodes) (by decide +kernel))
        (fun _ _ _ _ _ => pg_name (i := 4) scNodes.nd rfl (Or.inl rfl)) (fun _ _ _ _ _ => pts_nil)
        (fun _ _ _ _ _ => pe_call GO hr (by rfl) gO FO.kp bO .nil pass0 (pa_cons (pv 0) (pa_cons (pe_call GO hr (by rfl) gO FO.kp bO .nil pass0 (pa_cons (pv 0) (pa_cons (pe_lst (pa_cons (pe_listRg rfl (by rfl) T.list (prg_1 (by rfl) T.range (pv 1))) (pa_cons (pv 3) pa_nil))) pa_nil))) pa_nil))))))), ?_⟩
    refine ⟨_, rfl, rfl, _, rfl, ite2 (fun e => ?_) (fun e => ?_)⟩
    · refine ⟨Nat.zero_le _, fun p np => q p [] _ np upd_same (fun x hx => by cases hx) (Nat.zero_le _) (hD.new np) (Sb.of (same_new np))⟩
    have hn1 : 1 ≤ n := by
      by_cases z : n = 0
      · subst z; exact absurd rfl e
      · omega
    refine ⟨_, rfl, _, rfl, _, rfl, rgOk_nat hn, fun c nc => ?_⟩
    rw [rgV_nat]
    have s1 := same_new (o := .lst (natsV (List.range n))) nc
    refine ⟨d, l, c, _, rfl, hD.new nc, hD.ne nc, SqL.of upd_same, by rw [natsV_len, List.length_range]; exact hn, fun nm ys H1 hy nnm nnd hnm hD1 sb1 => ?_⟩
    obtain ⟨ks, rfl, hk⟩ := shuf_nats hy
    have hkl : ks.length = n := by rw [hk.length_eq, List.length_range]
    have sbA : Sb d H H1 := (Sb.of s1).trans sb1
    refine ⟨_, rfl, d, l, 4, rfl, hD1, by decide, by decide +kernel, fun r H2 hr2 hD2 sb2 => ?_⟩
    have hnm2 := sb2 _ _ nnd hnm
    refine ⟨_, _, rfl, rfl, 1 + (r : Int), rfl, nm, _, rfl, SqL.of hnm2, fun sm nsm => ?_⟩
    have cut : ∃ ms : List Nat, cutV (natsV ks) none (some (1 + (r : Int))) = natsV ms ∧ 1 ≤ ms.length ∧ ms.length ≤ n ∧ ∀ x ∈ ms, x < n := by
      refine ⟨(ks.drop 0).take (HT.sIx (natsV ks).length (natsV ks).length (some (1 + (r : Int))) - HT.sIx (natsV ks).length 0 none), ?_, ?_, ?_, ?_⟩
      · unfold cutV natsV
        rw [HT.sIx_none, List.map_take, List.map_drop]
      · rw [HT.sIx_none, List.length_take, List.length_drop, natsV_len, show (1 + (r : Int)) = ((1 + r : Nat) : Int) by omega, HT.sIx_nat]
        omega
      · rw [List.length_take, List.length_drop]; omega
      · intro x hx
        exact List.mem_range.mp (hk.mem_iff.mp (List.mem_of_mem_drop (List.mem_of_mem_take hx)))
    obtain ⟨ms, em, hm1, hm2, hm3⟩ := cut
    rw [em]
    have s3 := same_new (o := .lst (natsV ms)) nsm
    have sbB : Sb d H (upd H2 sm (.lst (natsV ms))) := (sbA.trans sb2).trans (Sb.of s3)
    have hDB := hD2.new (o := .lst (natsV ms)) nsm
    have nsd := hD2.ne nsm
    refine ⟨_, rfl, _, rfl, _, _, rfl, rfl, d, l, _, rfl, hDB, by omega, Nat.lt_of_le_of_lt (show _ ≤ 1001 by omega) (by decide +kernel), fun k H4 hk4 hD4 sb4 => ?_⟩
    refine ⟨_, rfl, by omega, by omega, fun D nD => ?_⟩
    have hsm4 : H4 sm = some (.lst (natsV ms)) := sb4 _ _ nsd upd_same
    have nDd := hD4.ne nD
    have nDl := hD4.nel nD
    have sb5 := sbB.trans sb4
    have nD0 : H D = none := sb5.free nDd nD
    have nDs : sm ≠ D := ne_of_none hsm4 nD
    refine lc_range (lo := 0) (n := ((k : Nat) : Int).toNat) (fun i H' => (∃ xs : List Nat, H' D = some (.lst (natsV xs)) ∧ xs.length = i ∧ ∀ x ∈ xs, x < n) ∧ H' sm = some (.lst (natsV ms)) ∧ DrawAt H' d l ∧ Sb d H H') ⟨⟨[], upd_same, rfl, fun x hx => by cases hx⟩, by rw [upd_ne nDs]; exact hsm4, hD4.new nD, sb5.over nD0⟩ ?_ ?_
    · rintro i H5 hi ⟨⟨xs, hxD, hxl, hxb⟩, hs5, hD5, sb5⟩
      refine ⟨rfl, ?_⟩
      refine ⟨_, rfl, _, rfl, _, rfl, _, rfl, rgOk_nat hn, fun c2 nc2 => ?_⟩
      rw [rgV_nat]
      have s6 := same_new (o := .lst (natsV (List.range n))) nc2
      have hD6 := hD5.new (o := .lst (natsV (List.range n))) nc2
      refine ⟨_, rfl, by show 2 ≤ sizeLine; decide, fun c3 nc3 => ?_⟩
      have s7 := same_new (o := .lst [V.ref c2, V.ref sm]) nc3
      have hD7 := hD6.new (o := .lst [V.ref c2, V.ref sm]) nc3
      refine ⟨d, l, c3, _, rfl, hD7, hD6.ne nc3, SqL.of upd_same, by show 1 ≤ 2; decide, by show 2 ≤ 1000; decide, fun j v H8 hv hD8 sb8 => ?_⟩
      have hc2 : H8 c2 = some (.lst (natsV (List.range n))) := sb8 _ _ (hD5.ne nc2) (s7 _ _ upd_same)
      have hs8 : H8 sm = some (.lst (natsV ms)) := sb8 _ _ nsd (s7 _ _ (s6 _ _ hs5))
      have hx8 : H8 D = some (.lst (natsV xs)) := sb8 _ _ nDd (s7 _ _ (s6 _ _ hxD))
      have sb8' : Sb d H H8 := (sb5.trans (Sb.of (s6.trans s7))).trans sb8
      have pick : ∃ (b : Addr) (zs : List Nat), v = .ref b ∧ H8 b = some (.lst (natsV zs)) ∧ b ≠ d ∧ 1 ≤ zs.length ∧ zs.length ≤ 1000 ∧ ∀ x ∈ zs, x < n := by
        match j, hv with
        | 0, hv => exact ⟨c2, List.range n, (Option.some.inj hv).symm, hc2, hD5.ne nc2, by rw [List.length_range]; exact hn1, by rw [List.length_range]; exact hn, fun x hx => List.mem_range.mp hx⟩
        | 1, hv => exact ⟨sm, ms, (Option.some.inj hv).symm, hs8, nsd, hm1, by omega, hm3⟩
      obtain ⟨b, zs, rfl, hb, nbd, hz1, hz2, hz3⟩ := pick
      refine ⟨d, l, b, _, rfl, hD8, nbd, SqL.of hb, by rw [natsV_len]; exact hz1, by rw [natsV_len]; exact hz2, fun j2 v2 H9 hv2 hD9 sb9 => ?_⟩
      unfold natsV at hv2
      rw [List.getElem?_map] at hv2
      obtain ⟨u, hu, rfl⟩ := Option.map_eq_some_iff.mp hv2
      have hx9 := sb9 _ _ nDd hx8
      have hs9 := sb9 _ _ nsd hs8
      have hun := hz3 u (List.mem_of_getElem? hu)
      refine ⟨_, hx9, by rw [natsV_len]; exact Nat.lt_of_le_of_lt (show _ ≤ 1001 by omega) (by decide), ⟨xs ++ [u], ?_, by rw [List.length_append, hxl]; rfl, ?_⟩, by rw [upd_ne nDs]; exact hs9, hD9.put nDd nDl, (sb8'.trans sb9).over nD0⟩
      · rw [upd_same]; unfold natsV; rw [List.map_append]; rfl
      · intro x hx
        rcases List.mem_append.mp hx with z | z
        · exact hxb x z
        · rw [List.mem_singleton.mp z]; exact hun
    · rintro H5 ⟨⟨xs, hxD, hxl, hxb⟩, hs5, hD5, sb5⟩
      exact q D xs H5 nD0 hxD hxb (by omega) hD5 sb5
end
section
variable {P : Program} {w : World} {K : PySem.W.Frag} {mg : Str → Option Value} {base : Heap}
theorem ok_same {f : Addr} {fd : FuncData} (F : Fun K "_law_same" "_law_same" sSame f fd) (T : TxS mg) (b : Binds K fd ["_law_found_here", "_law_due"] []) (g : mg "_law_same" = some (.ref f)) :
    ∀ n, FnOk P w K mg base CX0 (n + 1) f fd ["_law_found_here", "_law_due"] (spSame K n) := by
  intro n
  induction n with
  | zero =>
    refine F.ok scSame (fun vs H Q E h => ?_) (fun cdv A outer s H vs Q E hr h => ?_)
    · obtain ⟨v, u, d, rfl, _⟩ := h
      rfl
    · obtain ⟨v, u, d, rfl, hv, hu, hd, q⟩ := h
      refine ⟨_, pss_cons (ps_if (pt_cmpR op_isN (pv 1) pe_non (nomark _)) (pss_one (ps_ret (pe_cmpR op_isN (pv 0) pe_non (nomark _)))) pss_nil)
        (pss_cons (ps_if (pt_val (pe_callB call_isiT (by rfl) T.isinstance (by decide +kernel) (pa_cons (pv 1) (pa_cons (pe_tup (pa_cons (pe_ty (n := "list") (by rfl) T.list (by decide +kernel)) (pa_cons (pe_ty (n := "tuple") (by rfl) T.tuple (by decide +kernel)) pa_nil))) pa_nil))))
          pss_never pss_nil)
        (pss_cons (ps_if (PW.pt (pw_or
              (pt_cmpR op_ne (pe_callB call_isi (by rfl) T.isinstance (by decide +kernel) (pa_cons (pv 1) (pa_cons (pe_ty (n := "bool") (by rfl) T.bool (by decide +kernel)) pa_nil))) (pe_callB call_isi (by rfl) T.isinstance (by decide +kernel) (pa_cons (pv 0) (pa_cons (pe_ty (n := "bool") (by rfl) T.bool (by decide +kernel)) pa_nil))) (nomark _))
              (pw_or1 (pt_cmpR op_ne (pe_callB call_isi (by rfl) T.isinstance (by decide +kernel) (pa_cons (pv 1) (pa_cons (pe_ty (n := "int") (by rfl) T.int (by decide +kernel)) pa_nil))) (pe_callB call_isi (by rfl) T.isinstance (by decide +kernel) (pa_cons (pv 0) (pa_cons (pe_ty (n := "int") (by rfl) T.int (by decide +kernel)) pa_nil))) (nomark _))))) (pss_one (ps_ret pe_bl)) pss_nil)
        (pss_one (ps_ret (pe_and (pe_cmpR op_eq (pe_callB call_isi (by rfl) T.isinstance (by decide +kernel) (pa_cons (pv 1) (pa_cons (pe_ty (n := "str") (by rfl) T.str (by decide +kernel)) pa_nil))) (pe_callB call_isi (by rfl) T.isinstance (by decide +kernel) (pa_cons (pv 0) (pa_cons (pe_ty (n := "str") (by rfl) T.str (by decide +kernel)) pa_nil))) (nomark _))
          (pe_one (pe_cmpR op_eq (pv 0) (pv 1) (nomark _)))))))), ?_⟩
      cases hd with
      | non =>
        cases hv; cases hu
        exact ⟨_, rfl, rfl, _, rfl, _, rfl, rfl, q H (Same.refl H)⟩
      | bl _ x =>
        cases hv; cases hu
        refine ⟨_, rfl, rfl, _, rfl, _, rfl, by show 2 ≤ sizeLine; decide, fun tp ntp => ?_⟩
        refine ⟨_, tp, _, _, _, _, rfl, upd_same, .cons (.ty _) (.cons (.ty _) .nil), .base (.bl x), kit2 (r := false) (s := false) (by decide +kernel) (by decide +kernel), _, rfl, ?_⟩
        refine ⟨_, rfl, _, _, _, _, _, rfl, .ty _, .base (.bl x), kit_ty (r := true) (by decide +kernel), _, rfl, _, _, _, _, _, rfl, .ty _, .base (.bl x), kit_ty (r := true) (by decide +kernel), rfl, _, rfl, ?_⟩
        refine ⟨_, rfl, _, _, _, _, _, rfl, .ty _, .base (.bl x), kit_ty (r := true) (by decide +kernel), _, rfl, _, _, _, _, _, rfl, .ty _, .base (.bl x), kit_ty (r := true) (by decide +kernel), rfl, _, rfl, ?_⟩
        refine ⟨_, rfl, _, _, _, _, _, rfl, .ty _, .base (.bl x), kit_ty (r := false) (by decide +kernel), _, rfl, _, _, _, _, _, rfl, .ty _, .base (.bl x), kit_ty (r := false) (by decide +kernel), rfl, _, rfl, ?_⟩
        refine ⟨_, rfl, _, rfl, rfl, ?_⟩
        show Q (.bl (decide (V.bl x = V.bl x))) _
        rw [decide_eq_true rfl]
        exact q _ (same_new ntp)
      | int _ x =>
        cases hv; cases hu
        refine ⟨_, rfl, rfl, _, rfl, _, rfl, by show 2 ≤ sizeLine; decide, fun tp ntp => ?_⟩
        refine ⟨_, tp, _, _, _, _, rfl, upd_same, .cons (.ty _) (.cons (.ty _) .nil), .base (.int x), kit2 (r := false) (s := false) (by decide +kernel) (by decide +kernel), _, rfl, ?_⟩
        refine ⟨_, rfl, _, _, _, _, _, rfl, .ty _, .base (.int x), kit_ty (r := false) (by decide +kernel), _, rfl, _, _, _, _, _, rfl, .ty _, .base (.int x), kit_ty (r := false) (by decide +kernel), rfl, _, rfl, ?_⟩
        refine ⟨_, rfl, _, _, _, _, _, rfl, .ty _, .base (.int x), kit_ty (r := true) (by decide +kernel), _, rfl, _, _, _, _, _, rfl, .ty _, .base (.int x), kit_ty (r := true) (by decide +kernel), rfl, _, rfl, ?_⟩
        refine ⟨_, rfl, _, _, _, _, _, rfl, .ty _, .base (.int x), kit_ty (r := false) (by decide +kernel), _, rfl, _, _, _, _, _, rfl, .ty _, .base (.int x), kit_ty (r := false) (by decide +kernel), rfl, _, rfl, ?_⟩
        refine ⟨_, rfl, _, rfl, rfl, ?_⟩
        show Q (.bl (decide (V.int x = V.int x))) _
        rw [decide_eq_true rfl]
        exact q _ (same_new ntp)
      | str _ x =>
        cases hv; cases hu
        refine ⟨_, rfl, rfl, _, rfl, _, rfl, by show 2 ≤ sizeLine; decide, fun tp ntp => ?_⟩
        refine ⟨_, tp, _, _, _, _, rfl, upd_same, .cons (.ty _) (.cons (.ty _) .nil), .base (.str x), kit2 (r := false) (s := false) (by decide +kernel) (by decide +kernel), _, rfl, ?_⟩
        refine ⟨_, rfl, _, _, _, _, _, rfl, .ty _, .base (.str x), kit_ty (r := false) (by decide +kernel), _, rfl, _, _, _, _, _, rfl, .ty _, .base (.str x), kit_ty (r := false) (by decide +kernel), rfl, _, rfl, ?_⟩
        refine ⟨_, rfl, _, _, _, _, _, rfl, .ty _, .base (.str x), kit_ty (r := false) (by decide +kernel), _, rfl, _, _, _, _, _, rfl, .ty _, .base (.str x), kit_ty (r := false) (by decide +kernel), rfl, _, rfl, ?_⟩
        refine ⟨_, rfl, _, _, _, _, _, rfl, .ty _, .base (.str x), kit_ty (r := true) (by decide +kernel), _, rfl, _, _, _, _, _, rfl, .ty _, .base (.str x), kit_ty (r := true) (by decide +kernel), rfl, _, rfl, ?_⟩
        refine ⟨_, rfl, _, rfl, rfl, ?_⟩
        show Q (.bl (decide (V.str x = V.str x))) _
        rw [decide_eq_true rfl]
        exact q _ (same_new ntp)
  | succ n ih =>
    refine F.ok scSame (fun vs H Q E h => ?_) (fun cdv A outer s H vs Q E hr h => ?_)
    · obtain ⟨v, u, d, rfl, _⟩ := h
      rfl
    · obtain ⟨v, u, d, rfl, hv, hu, hd, q⟩ := h
      refine ⟨_, pss_cons (ps_if (pt_cmpR op_isN (pv 1) pe_non (nomark _)) (pss_one (ps_ret (pe_cmpR op_isN (pv 0) pe_non (nomark _)))) pss_nil)
        (pss_cons (ps_if (pt_val (pe_callB call_isiT (by rfl) T.isinstance (by decide +kernel) (pa_cons (pv 1) (pa_cons (pe_tup (pa_cons (pe_ty (n := "list") (by rfl) T.list (by decide +kernel)) (pa_cons (pe_ty (n := "tuple") (by rfl) T.tuple (by decide +kernel)) pa_nil))) pa_nil))))
          (pss_cons (ps_if (PW.pt (pw_or
              (pt_cmpR op_ne (pe_callB call_isi (by rfl) T.isinstance (by decide +kernel) (pa_cons (pv 0) (pa_cons (pe_ty (n := "list") (by rfl) T.list (by decide +kernel)) pa_nil))) (pe_callB call_isi (by rfl) T.isinstance (by decide +kernel) (pa_cons (pv 1) (pa_cons (pe_ty (n := "list") (by rfl) T.list (by decide +kernel)) pa_nil))) (nomark _))
              (pw_or1 (pt_cmpR op_ne (pe_callB call_isi (by rfl) T.isinstance (by decide +kernel) (pa_cons (pv 0) (pa_cons (pe_ty (n := "tuple") (by rfl) T.tuple (by decide +kernel)) pa_nil))) (pe_callB call_isi (by rfl) T.isinstance (by decide +kernel) (pa_cons (pv 1) (pa_cons (pe_ty (n := "tuple") (by rfl) T.tuple (by decide +kernel)) pa_nil))) (nomark _))))) (pss_one (ps_ret pe_bl)) pss_nil)
          (pss_one (ps_ret (pe_and (pe_cmpR op_eq (pe_callB call_len_seq (by rfl) T.len PySem.boot_len (pa_cons (pv 0) pa_nil)) (pe_callB call_len_seq (by rfl) T.len PySem.boot_len (pa_cons (pv 1) pa_nil)) (nomark _))
            (pe_one (pe_callB (cr_all rfl) (by rfl) T.all (by decide +kernel) (pa_cons (pe_lc (own := [("_law_one", 2), ("_law_other", 3)]) (g := gTup K 2 (gCons (gName 2) (gCons (gName 3) gNil))) (by rfl) scSame.nd (RZ.pi_zipA (by rfl) T.zip (pa_cons (pv 0) (pa_cons (pv 1) pa_nil)))
              (blkOk_by (own := [("_law_one", 2), ("_law_other", 3)]) (N := sameN) (sc := defScope sSame) (by decide +kernel)) (fun _ _ _ _ _ => pg_tup rfl (pgs_cons (pg_name (i := 2) scSame.nd rfl (.inl rfl)) (pgs_cons (pg_name (i := 3) scSame.nd rfl (.inl rfl)) pgs_nil))) (fun _ _ _ _ _ => pts_nil)
              (fun _ _ _ _ _ => pe_call ih hr (by rfl) g F.kp b .nil pass0 (pa_cons (pv 2) (pa_cons (pv 3) pa_nil)))) pa_nil))))))) pss_nil)
        (pss_cons (ps_if (PW.pt (pw_or
              (pt_cmpR op_ne (pe_callB call_isi (by rfl) T.isinstance (by decide +kernel) (pa_cons (pv 1) (pa_cons (pe_ty (n := "bool") (by rfl) T.bool (by decide +kernel)) pa_nil))) (pe_callB call_isi (by rfl) T.isinstance (by decide +kernel) (pa_cons (pv 0) (pa_cons (pe_ty (n := "bool") (by rfl) T.bool (by decide +kernel)) pa_nil))) (nomark _))
              (pw_or1 (pt_cmpR op_ne (pe_callB call_isi (by rfl) T.isinstance (by decide +kernel) (pa_cons (pv 1) (pa_cons (pe_ty (n := "int") (by rfl) T.int (by decide +kernel)) pa_nil))) (pe_callB call_isi (by rfl) T.isinstance (by decide +kernel) (pa_cons (pv 0) (pa_cons (pe_ty (n := "int") (by rfl) T.int (by decide +kernel)) pa_nil))) (nomark _))))) (pss_one (ps_ret pe_bl)) pss_nil)
        (pss_one (ps_ret (pe_and (pe_cmpR op_eq (pe_callB call_isi (by rfl) T.isinstance (by decide +kernel) (pa_cons (pv 1) (pa_cons (pe_ty (n := "str") (by rfl) T.str (by decide +kernel)) pa_nil))) (pe_callB call_isi (by rfl) T.isinstance (by decide +kernel) (pa_cons (pv 0) (pa_cons (pe_ty (n := "str") (by rfl) T.str (by decide +kernel)) pa_nil))) (nomark _))
          (pe_one (pe_cmpR op_eq (pv 0) (pv 1) (nomark _)))))))), ?_⟩
      cases hd with
      | non =>
        cases hv; cases hu
        exact ⟨_, rfl, rfl, _, rfl, _, rfl, rfl, q H (Same.refl H)⟩
      | bl _ x =>
        cases hv; cases hu
        refine ⟨_, rfl, rfl, _, rfl, _, rfl, by show 2 ≤ sizeLine; decide, fun tp ntp => ?_⟩
        refine ⟨_, tp, _, _, _, _, rfl, upd_same, .cons (.ty _) (.cons (.ty _) .nil), .base (.bl x), kit2 (r := false) (s := false) (by decide +kernel) (by decide +kernel), _, rfl, ?_⟩
        refine ⟨_, rfl, _, _, _, _, _, rfl, .ty _, .base (.bl x), kit_ty (r := true) (by decide +kernel), _, rfl, _, _, _, _, _, rfl, .ty _, .base (.bl x), kit_ty (r := true) (by decide +kernel), rfl, _, rfl, ?_⟩
        refine ⟨_, rfl, _, _, _, _, _, rfl, .ty _, .base (.bl x), kit_ty (r := true) (by decide +kernel), _, rfl, _, _, _, _, _, rfl, .ty _, .base (.bl x), kit_ty (r := true) (by decide +kernel), rfl, _, rfl, ?_⟩
        refine ⟨_, rfl, _, _, _, _, _, rfl, .ty _, .base (.bl x), kit_ty (r := false) (by decide +kernel), _, rfl, _, _, _, _, _, rfl, .ty _, .base (.bl x), kit_ty (r := false) (by decide +kernel), rfl, _, rfl, ?_⟩
        refine ⟨_, rfl, _, rfl, rfl, ?_⟩
        show Q (.bl (decide (V.bl x = V.bl x))) _
        rw [decide_eq_true rfl]
        exact q _ (same_new ntp)
      | int _ x =>
        cases hv; cases hu
        refine ⟨_, rfl, rfl, _, rfl, _, rfl, by show 2 ≤ sizeLine; decide, fun tp ntp => ?_⟩
        refine ⟨_, tp, _, _, _, _, rfl, upd_same, .cons (.ty _) (.cons (.ty _) .nil), .base (.int x), kit2 (r := false) (s := false) (by decide +kernel) (by decide +kernel), _, rfl, ?_⟩
        refine ⟨_, rfl, _, _, _, _, _, rfl, .ty _, .base (.int x), kit_ty (r := false) (by decide +kernel), _, rfl, _, _, _, _, _, rfl, .ty _, .base (.int x), kit_ty (r := false) (by decide +kernel), rfl, _, rfl, ?_⟩
        refine ⟨_, rfl, _, _, _, _, _, rfl, .ty _, .base (.int x), kit_ty (r := true) (by decide +kernel), _, rfl, _, _, _, _, _, rfl, .ty _, .base (.int x), kit_ty (r := true) (by decide +kernel), rfl, _, rfl, ?_⟩
        refine ⟨_, rfl, _, _, _, _, _, rfl, .ty _, .base (.int x), kit_ty (r := false) (by decide +kernel), _, rfl, _, _, _, _, _, rfl, .ty _, .base (.int x), kit_ty (r := false) (by decide +kernel), rfl, _, rfl, ?_⟩
        refine ⟨_, rfl, _, rfl, rfl, ?_⟩
        show Q (.bl (decide (V.int x = V.int x))) _
        rw [decide_eq_true rfl]
        exact q _ (same_new ntp)
      | str _ x =>
        cases hv; cases hu
        refine ⟨_, rfl, rfl, _, rfl, _, rfl, by show 2 ≤ sizeLine; decide, fun tp ntp => ?_⟩
        refine ⟨_, tp, _, _, _, _, rfl, upd_same, .cons (.ty _) (.cons (.ty _) .nil), .base (.str x), kit2 (r := false) (s := false) (by decide +kernel) (by decide +kernel), _, rfl, ?_⟩
        refine ⟨_, rfl, _, _, _, _, _, rfl, .ty _, .base (.str x), kit_ty (r := false) (by decide +kernel), _, rfl, _, _, _, _, _, rfl, .ty _, .base (.str x), kit_ty (r := false) (by decide +kernel), rfl, _, rfl, ?_⟩
        refine ⟨_, rfl, _, _, _, _, _, rfl, .ty _, .base (.str x), kit_ty (r := false) (by decide +kernel), _, rfl, _, _, _, _, _, rfl, .ty _, .base (.str x), kit_ty (r := false) (by decide +kernel), rfl, _, rfl, ?_⟩
        refine ⟨_, rfl, _, _, _, _, _, rfl, .ty _, .base (.str x), kit_ty (r := true) (by decide +kernel), _, rfl, _, _, _, _, _, rfl, .ty _, .base (.str x), kit_ty (r := true) (by decide +kernel), rfl, _, rfl, ?_⟩
        refine ⟨_, rfl, _, rfl, rfl, ?_⟩
        show Q (.bl (decide (V.str x = V.str x))) _
        rw [decide_eq_true rfl]
        exact q _ (same_new ntp)
      | lst hl hk =>
        cases hv with
        | @lst a xs _ sa ra =>
        cases hu with
        | @lst b ys _ sb rb =>
        refine ⟨_, rfl, rfl, _, rfl, _, rfl, by show 2 ≤ sizeLine; decide, fun tp ntp => ?_⟩
        have s1 := same_new (o := .tup [V.ty "list", V.ty "tuple"]) ntp
        have sa1 := Same.seq (s1) sa
        have sb1 := Same.seq (s1) sb
        refine ⟨_, tp, _, _, _, _, rfl, upd_same, .cons (.ty _) (.cons (.ty _) .nil), tyL sb1, kit2 (r := true) (s := false) (by decide +kernel) (by decide +kernel), _, rfl, ?_⟩
        refine ⟨_, rfl, _, _, _, _, _, rfl, .ty _, tyL sa1, kit_ty (r := true) (by decide +kernel), _, rfl, _, _, _, _, _, rfl, .ty _, tyL sb1, kit_ty (r := true) (by decide +kernel), rfl, _, rfl, ?_⟩
        refine ⟨_, rfl, _, _, _, _, _, rfl, .ty _, tyL sa1, kit_ty (r := false) (by decide +kernel), _, rfl, _, _, _, _, _, rfl, .ty _, tyL sb1, kit_ty (r := false) (by decide +kernel), rfl, _, rfl, ?_⟩
        have la := dpl_len ra
        have lb := dpl_len rb
        refine ⟨_, rfl, a, _, rfl, .inl sa1, _, rfl, b, _, rfl, .inl sb1, rfl, _, rfl, ?_⟩
        have el : decide (V.int (xs.length : Int) = V.int (ys.length : Int)) = true := decide_eq_true (by rw [la, lb])
        rw [el]
        refine ⟨_, rfl, _, rfl, a, b, xs, ys, rfl, .inl ⟨sa1, sb1, fun D nD => ?_⟩⟩
        have s2 := same_new (o := .lst []) nD
        refine ⟨fun i m H' => m = xs.length - i ∧ i ≤ xs.length ∧ H' D = some (.lst ((List.replicate i true).map V.bl)) ∧ Same (upd H tp (.tup [V.ty "list", V.ty "tuple"])) H', ⟨xs.length, rfl, Nat.zero_le _, upd_same, s2⟩, ?_⟩
        rintro i m H' ⟨rfl, hi, hD, sm⟩
        have sa2 := Same.seq (sm) sa1
        have sb2 := Same.seq (sm) sb1
        by_cases hlt : i < xs.length
        · have hlt2 : i < ys.length := by omega
          refine .inr ⟨⟨xs, ys, xs[i], ys[i], sa2, sb2, List.getElem?_eq_getElem hlt, List.getElem?_eq_getElem hlt2⟩, fun H2 => H2 D = some (.lst ((List.replicate (i + 1) true).map V.bl)) ∧ Same (upd H tp (.tup [V.ty "list", V.ty "tuple"])) H2, fun H2 z => ⟨xs.length - (i + 1), by omega, rfl, hlt, z.1, z.2⟩, ?_⟩
          rintro vv H2 ⟨tt, x, y, rfl, ntt, rfl, hx, hy⟩
          have ex := hx _ sa2
          have ey := hy _ sb2
          have s3 := same_new (o := .tup [x, y]) ntt
          refine ⟨tt, _, rfl, SqT.of upd_same, rfl, _, _, rfl, _, _, rfl, rfl, rfl, ?_⟩
          obtain ⟨d1, e1, p1⟩ := dpl_at ra ex
          obtain ⟨d2, e2, p2⟩ := dpl_at rb ey
          obtain rfl : d1 = d2 := Option.some.inj (e1.symm.trans e2)
          have s13 := (s1.trans sm).trans s3
          refine ⟨_, rfl, _, rfl, x, y, d1, rfl, dp_same s13 p1, dp_same s13 p2, hk d1 (List.mem_of_getElem? e1), fun H4 s4 => ?_⟩
          have nDt : D ≠ tt := ne_of_none hD ntt
          refine ⟨_, s4 _ _ (s3 _ _ hD), by rw [List.length_map, List.length_replicate]; exact Nat.lt_of_lt_of_le (show i < 1001 by omega) (by decide), ?_, same_over ((sm.trans s3).trans s4) nD⟩
          rw [upd_same, List.replicate_succ', List.map_append]
          rfl
        · have ei : i = xs.length := by omega
          refine .inl ⟨⟨xs, ys, sa2, sb2, .inl (by omega)⟩, D, List.replicate i true, rfl, SqL.of hD, ?_⟩
          have ea : (List.replicate i true).all id = true := List.all_eq_true.mpr fun z hz => (List.mem_replicate.mp hz).2
          rw [ea]
          exact q H' (s1.trans sm)
      | tup hl hk =>
        cases hv with
        | @tup a xs _ sa ra =>
        cases hu with
        | @tup b ys _ sb rb =>
        refine ⟨_, rfl, rfl, _, rfl, _, rfl, by show 2 ≤ sizeLine; decide, fun tp ntp => ?_⟩
        have s1 := same_new (o := .tup [V.ty "list", V.ty "tuple"]) ntp
        have sa1 := same_sqt (s1) sa
        have sb1 := same_sqt (s1) sb
        refine ⟨_, tp, _, _, _, _, rfl, upd_same, .cons (.ty _) (.cons (.ty _) .nil), tyT sb1, kit2 (r := false) (s := true) (by decide +kernel) (by decide +kernel), _, rfl, ?_⟩
        refine ⟨_, rfl, _, _, _, _, _, rfl, .ty _, tyT sa1, kit_ty (r := false) (by decide +kernel), _, rfl, _, _, _, _, _, rfl, .ty _, tyT sb1, kit_ty (r := false) (by decide +kernel), rfl, _, rfl, ?_⟩
        refine ⟨_, rfl, _, _, _, _, _, rfl, .ty _, tyT sa1, kit_ty (r := true) (by decide +kernel), _, rfl, _, _, _, _, _, rfl, .ty _, tyT sb1, kit_ty (r := true) (by decide +kernel), rfl, _, rfl, ?_⟩
        have la := dpl_len ra
        have lb := dpl_len rb
        refine ⟨_, rfl, a, _, rfl, .inr sa1, _, rfl, b, _, rfl, .inr sb1, rfl, _, rfl, ?_⟩
        have el : decide (V.int (xs.length : Int) = V.int (ys.length : Int)) = true := decide_eq_true (by rw [la, lb])
        rw [el]
        refine ⟨_, rfl, _, rfl, a, b, xs, ys, rfl, .inr ⟨sa1, sb1, fun D nD => ?_⟩⟩
        have s2 := same_new (o := .lst []) nD
        refine ⟨fun i m H' => m = xs.length - i ∧ i ≤ xs.length ∧ H' D = some (.lst ((List.replicate i true).map V.bl)) ∧ Same (upd H tp (.tup [V.ty "list", V.ty "tuple"])) H', ⟨xs.length, rfl, Nat.zero_le _, upd_same, s2⟩, ?_⟩
        rintro i m H' ⟨rfl, hi, hD, sm⟩
        have sa2 := same_sqt (sm) sa1
        have sb2 := same_sqt (sm) sb1
        by_cases hlt : i < xs.length
        · have hlt2 : i < ys.length := by omega
          refine .inr ⟨⟨xs, ys, xs[i], ys[i], sa2, sb2, List.getElem?_eq_getElem hlt, List.getElem?_eq_getElem hlt2⟩, fun H2 => H2 D = some (.lst ((List.replicate (i + 1) true).map V.bl)) ∧ Same (upd H tp (.tup [V.ty "list", V.ty "tuple"])) H2, fun H2 z => ⟨xs.length - (i + 1), by omega, rfl, hlt, z.1, z.2⟩, ?_⟩
          rintro vv H2 ⟨tt, x, y, rfl, ntt, rfl, hx, hy⟩
          have ex := hx _ sa2
          have ey := hy _ sb2
          have s3 := same_new (o := .tup [x, y]) ntt
          refine ⟨tt, _, rfl, SqT.of upd_same, rfl, _, _, rfl, _, _, rfl, rfl, rfl, ?_⟩
          obtain ⟨d1, e1, p1⟩ := dpl_at ra ex
          obtain ⟨d2, e2, p2⟩ := dpl_at rb ey
          obtain rfl : d1 = d2 := Option.some.inj (e1.symm.trans e2)
          have s13 := (s1.trans sm).trans s3
          refine ⟨_, rfl, _, rfl, x, y, d1, rfl, dp_same s13 p1, dp_same s13 p2, hk d1 (List.mem_of_getElem? e1), fun H4 s4 => ?_⟩
          have nDt : D ≠ tt := ne_of_none hD ntt
          refine ⟨_, s4 _ _ (s3 _ _ hD), by rw [List.length_map, List.length_replicate]; exact Nat.lt_of_lt_of_le (show i < 1001 by omega) (by decide), ?_, same_over ((sm.trans s3).trans s4) nD⟩
          rw [upd_same, List.replicate_succ', List.map_append]
          rfl
        · have ei : i = xs.length := by omega
          refine .inl ⟨⟨xs, ys, sa2, sb2, .inl (by omega)⟩, D, List.replicate i true, rfl, SqL.of hD, ?_⟩
          have ea : (List.replicate i true).all id = true := List.all_eq_true.mpr fun z hz => (List.mem_replicate.mp hz).2
          rw [ea]
          exact q H' (s1.trans sm)
end
section
variable {P : Program} {w : World} {K : PySem.W.Frag} {mg : Str → Option Value} {base : Heap}
theorem ok_lFind {f fR : Addr} {fd fdR : FuncData} (F : Fun K "_law_find" "_law_find" sLFind f fd) (T1 : Kn P w K mg base 2 "_law_root" sRoot ["_law_forest_here", "_law_node"] (spRoot K) fR fdR) (T : Tx mg) : FnOk P w K mg base CX0 3 f fd ["_law_forest_here", "_law_node"] (spFind K) := by
  refine F.ok scLFind (fun vs H Q E h => ?_) (fun cdv A outer s H vs Q E hr h => ?_)
  · obtain ⟨a, n, p, r, x, rfl, _⟩ := h
    rfl
  · obtain ⟨a, n, p, r, x, rfl, hS, hn, hF, hx, q⟩ := h
    refine ⟨_, pss_cons (ps_par3 (i := 2) (j := 3) (l := 4) (by rfl) scLFind.nd rfl rfl rfl (by decide) (by decide) (by decide) rfl rfl rfl (pa_cons (pe_callTy call_list_of (by rfl) T.list (by decide +kernel) (pa_cons (pv 0) pa_nil)) (pa_cons pe_int (pa_cons (pv 1) pa_nil))) (by rfl))
      (pss_cons (ps_set (i := 5) scLFind.nd rfl (.inl rfl) (pe_call T1.G hr (by rfl) T1.g T1.F.kp T1.b .nil pass0 (pa_cons (pv 0) (pa_cons (pv 1) pa_nil))))
      (pss_cons (ps_for PassesOwn.never rfl (pi_range1 (by rfl) T.range (pa_cons (pe_callB call_len_seq (by rfl) T.len PySem.boot_len (pa_cons (pv 0) pa_nil)) pa_nil)) (pg_name (i := 6) scLFind.nd rfl (.inl rfl))
        (pss_one (ps_if (pt_cmpR op_ne (pv 4) (pv 5) (nomark _))
          (pss_cons (ps_set (i := 7) scLFind.nd rfl (.inl rfl) (pe_ix ix_seq (pv 0) (pv 4) (fun _ _ => rfl)))
          (pss_cons (ps_asg (pv 5) (pg_sub (pv 2) (pv 4) set_list))
          (pss_one (ps_par (i := 4) (j := 3) (by rfl) scLFind.nd rfl rfl (by decide) rfl rfl (pa_cons (pv 7) (pa_cons (pe_op op_add (pv 3) pe_int) pa_nil)) (by rfl))))) pss_nil)))
      (pss_one (ps_ret (pe_tup (pa_cons (pe_callTy call_tuple_of (by rfl) T.tuple (by decide +kernel) (pa_cons (pv 2) pa_nil)) (pa_cons (pv 3) pa_nil))))))), ?_⟩
    refine ⟨_, rfl, a, _, rfl, hS, fun l nl => ⟨_, rfl, _, _, _, rfl, ?_⟩⟩
    have s1 := same_new (o := .lst (tupOf n p)) nl
    refine ⟨_, rfl, _, rfl, a, n, p, x, rfl, hS.same s1, hn, hF.lt, hx, fun H2 s2 => ?_⟩
    have hl2 := s2 _ _ (upd_same (H := H) (a := l) (o := .lst (tupOf n p)))
    have s12 := s1.trans s2
    refine ⟨_, rfl, a, _, rfl, hS.same s12, _, rfl, by rw [tupOf_len]; omega, by rw [tupOf_len]; omega, ?_⟩
    rw [tupOf_len]
    refine for_range (lo := 0) (n := (n : Int).toNat) (fun i σ H' => (∃ y6 y7, σ = [some (.ref a), some (vi x), some (.ref l), some (vi (ups p i x).length), some (vi (root p i x)), some (vi (root p n x)), y6, y7]) ∧ H' l = some (.lst (tupOf n (setAll (root p n x) (ups p i x) p))) ∧ Same H H') ⟨⟨_, _, rfl⟩, hl2, s12⟩ ?_ ?_
    · rintro i σ H' hi ⟨⟨y6, y7, rfl⟩, hl', sm⟩
      have hi' : i < n := by omega
      have hrl := root_lt0 hF.lt i x hx
      refine ⟨_, rfl, _, rfl, rfl, _, rfl, ite2 (fun e => ?_) (fun e => ?_)⟩
      · have ne : root p i x ≠ root p n x := fun z => by rw [z] at e; simp at e
        have nf : ¬ p (root p i x) = root p i x := fun z => ne (by
          have y := (path_fixed z (n - i)).2
          rw [show i + (n - i) = n by omega] at y
          exact y.symm)
        refine ⟨_, rfl, _, rfl, (hS.same sm).ix (atI_nat (tupOf_at hrl)) ?_⟩
        refine ⟨_, rfl, _, rfl, _, rfl, l, _, _, root p i x, rfl, rfl, hl', by rw [tupOf_len]; exact ixN_nat hrl, ?_⟩
        refine ⟨_, rfl, _, rfl, _, _, rfl, rfl, _, _, rfl, ⟨some (.int (0 + (i : Int))), some (vi (p (root p i x))), ?_⟩, ?_, same_over sm nl⟩
        · have e1 : root p (i + 1) x = p (root p i x) := root_succ p i x
          have e2 : (vi (ups p (i + 1) x).length) = V.int (((ups p i x).length : Int) + 1) := by
            rw [ups_succ, if_neg nf, List.length_append]
            rfl
          rw [e1, e2]
          rfl
        · rw [upd_same, tupOf_set, ups_succ, if_neg nf, setAll_snoc]
      · have eq : root p i x = root p n x := by
          have z : ¬ (!decide (vi (root p i x) = vi (root p n x))) = true := e
          simp at z
          omega
        have fx : p (root p i x) = root p i x := by rw [eq]; exact root_fix hF x hx
        have e1 : root p (i + 1) x = root p i x := by rw [root_succ, fx]
        have e2 : ups p (i + 1) x = ups p i x := by rw [ups_succ, if_pos fx]
        refine ⟨⟨some (.int (0 + (i : Int))), y7, ?_⟩, ?_, sm⟩
        · rw [e1, e2]; rfl
        · rw [e2]; exact hl'
    · rintro σ H' ⟨⟨y6, y7, rfl⟩, hl', sm⟩
      have en : (n : Int).toNat = n := by omega
      rw [en] at hl'
      have ef : tupOf n (setAll (root p n x) (ups p n x) p) = tupOf n (fnd n p x) := tupOf_congr fun v hv => by
        rw [setAll_eq]
        unfold fnd Ff.path
        by_cases h : v ∈ ups p n x
        · rw [if_pos h, if_pos (List.mem_append_left _ h)]
        · rw [if_neg h]
          by_cases h2 : v = root p n x
          · rw [if_pos (List.mem_append_right _ (List.mem_singleton.mpr h2)), h2]; exact root_fix hF x hx
          · rw [if_neg (fun z => (List.mem_append.mp z).elim h (fun y => h2 (List.mem_singleton.mp y)))]
      rw [ef] at hl'
      refine ⟨_, rfl, l, _, rfl, .inl ⟨SqL.of hl', fun g ng => ?_⟩⟩
      have s3 := same_new (o := .tup (tupOf n (fnd n p x))) ng
      refine ⟨_, rfl, by show 2 ≤ sizeLine; decide, fun t nt => ?_⟩
      have s4 := same_new (o := .tup [V.ref g, vi (ups p n x).length]) nt
      show Q (.ref t) (upd (upd H' g (.tup (tupOf n (fnd n p x)))) t (.tup [V.ref g, vi (ups p (n : Int).toNat x).length]))
      rw [en]
      exact q t g _ ((sm.trans s3).free nt) (sm.free ng) upd_same (s4 _ _ upd_same) ((sm.trans s3).trans s4)
end
section
variable {P : Program} {w : World} {K : PySem.W.Frag} {mg : Str → Option Value} {base : Heap}
theorem ok_lFound {f fP : Addr} {fd fdP : FuncData} (F : Fun K "_law_found" "_law_found" sLFound f fd) (T1 : Kn P w K mg base 3 "_law_find" sLFind ["_law_forest_here", "_law_node"] (spFind K) fP fdP) :
    FnOk P w K mg base CX0 4 f fd ["_law_forest_here", "_law_nodes_here"] (spFindAll K) := by
  refine F.ok scLFound (fun vs H Q E h => ?_) (fun cdv A outer s H vs Q E hr h => ?_)
  · obtain ⟨a, b, n, p, r, xs, rfl, _⟩ := h
    rfl
  · obtain ⟨a, b, n, p, r, xs, rfl, hS, hB, hn, hxl, hF, hx, q⟩ := h
    refine ⟨_, pss_cons (ps_set (i := 2) scLFound.nd rfl (.inl rfl) (pe_lst pa_nil))
      (pss_cons (ps_for PassesOwn.never rfl (pi_list (pv 1)) (pg_name (i := 3) scLFound.nd rfl (.inl rfl))
        (pss_cons (ps_asg (pe_call T1.G hr (by rfl) T1.g T1.F.kp T1.b .nil pass0 (pa_cons (pv 0) (pa_cons (pv 3) pa_nil))) (pg_tup rfl (pgs_cons (pg_name (i := 0) scLFound.nd rfl (.inl rfl)) (pgs_cons (pg_name (i := 4) scLFound.nd rfl (.inl rfl)) pgs_nil))))
        (pss_one (ps_expr (pe_bm PySem.F.plainAttrs_list PySem.F.slot_list_append PySem.F.type_list_append mt_append (pv 2) (pa_cons (pv 4) pa_nil))))))
      (pss_one (ps_ret (pe_tup (pa_cons (pv 0) (pa_cons (pv 2) pa_nil)))))), ?_⟩
    refine ⟨Nat.zero_le _, fun c nc => ?_⟩
    have s1 : Same H (upd H c (.lst [])) := same_new nc
    refine ⟨_, rfl, b, rfl, ⟨_, s1.seq hB⟩, ?_⟩
    refine for_list (xs := natsV xs) (fun i σ H' => (∃ g y z, σ = [some (.ref g), some (.ref b), some (.ref c), y, z] ∧ (g = a ∨ H g = none) ∧ SqT K H' g (tupOf n (fndAll n (xs.take i) p))) ∧ H' c = some (.lst (natsV (costs n (xs.take i) p))) ∧ Same H H')
      ⟨⟨a, none, none, rfl, .inl rfl, same_sqt s1 hS⟩, upd_same, s1⟩ (fun i σ H' _ h => h.2.2.seq hB) ?_ ?_
    · rintro i v σ H' hv ⟨⟨g, y, z, rfl, hga, hg⟩, hc, sm⟩
      unfold natsV at hv
      rw [List.getElem?_map] at hv
      obtain ⟨u, hu, rfl⟩ := Option.map_eq_some_iff.mp hv
      have hun : u < n := hx u (List.mem_of_getElem? hu)
      have hF' : Fo n (fndAll n (xs.take i) p) r := fndAll_fo hF _ (fun x hx' => hx x (List.mem_of_mem_take hx')) p hF
      refine ⟨_, rfl, _, rfl, g, n, _, r, u, rfl, .inr hg, hn, hF', hun, fun t g2 H2 nt ng2 ht hg2 s2 => ?_⟩
      refine ⟨t, _, rfl, SqT.of ht, rfl, _, _, rfl, _, _, rfl, rfl, ?_⟩
      have hc2 := s2 _ _ hc
      have hcn : c ≠ g2 := ne_of_none hc ng2
      refine ⟨_, rfl, .inl ⟨rfl, _, SqL.of hc2⟩, _, rfl, c, _, _, rfl, rfl, hc2, ?_, ⟨g2, _, _, rfl, .inr (sm.free ng2), ?_⟩, ?_, same_over (sm.trans s2) nc⟩
      · rw [natsV_len, costs_len, List.length_take]
        exact Nat.lt_of_le_of_lt (show _ ≤ 1000 by omega) (by decide)
      · have e : fndAll n (xs.take (i + 1)) p = fnd n (fndAll n (xs.take i) p) u := by
          rw [List.take_add_one, hu]
          exact fndAll_snoc n _ u p
        rw [e]
        exact SqT.of (by rw [upd_ne hcn.symm]; exact hg2)
      · rw [upd_same]
        have e : costs n (xs.take (i + 1)) p = costs n (xs.take i) p ++ [(ups (fndAll n (xs.take i) p) n u).length] := by
          rw [List.take_add_one, hu]
          exact costs_snoc n _ u p
        rw [e]
        unfold natsV
        rw [List.map_append]
        rfl
    · rintro σ H' ⟨⟨g, y, z, rfl, hga, hg⟩, hc, sm⟩
      rw [natsV_len, List.take_length] at hg hc
      refine ⟨_, rfl, _, rfl, by show 2 ≤ sizeLine; decide, fun t nt => ?_⟩
      have s4 := same_new (o := .tup [V.ref g, V.ref c]) nt
      exact q t g c _ (sm.free nt) nc hga upd_same (same_sqt s4 hg) (s4 _ _ hc) (sm.trans s4)
end
section
variable {P : Program} {w : World} {K : PySem.W.Frag} {mg : Str → Option Value} {base : Heap}
theorem ok_exch {f fT fP : Addr} {fd fdT fdP : FuncData} (F : Fun K "_law_exchanged" "_law_exchanged" sExch f fd) (k1 : Kn P w K mg base 1 "_law_take" sTake ["_law_draw", "_law_many"] spTake fT fdT) (k2 : Kn P w K mg base 1 "_law_path" sPath ["_law_forest_here", "_law_node"] (spPath K) fP fdP) (T : Tx mg) :
    FnOk P w K mg base CX0 2 f fd ["_law_draw", "_law_forest_here"] (spExch K) := by
  refine F.ok scExch (fun vs H Q E h => ?_) (fun cdv A outer s H vs Q E hr h => ?_)
  · obtain ⟨d, l, a, n, p, r, rfl, _⟩ := h
    rfl
  · obtain ⟨d, l, a, n, p, r, rfl, hD, nad, hS, hn, hF, q⟩ := h
    refine ⟨_, pss_cons (ps_set (i := 2) scExch.nd rfl (.inl rfl) (pe_callTy call_list_of (by rfl) T.list (by decide +kernel) (pa_cons (pv 1) pa_nil)))
      (pss_cons (ps_for PassesOwn.never rfl (pi_range1 (by rfl) T.range (pa_cons (pe_call k1.G hr (by rfl) k1.g k1.F.kp k1.b .nil pass0 (pa_cons (pv 0) (pa_cons pe_int pa_nil))) pa_nil)) (pg_name (i := 3) scExch.nd rfl (.inl rfl))
        (pss_one (ps_if (pt_cmpR (op_neD hr.units) (pv 2) (pe_lst pa_nil) (nomark _))
          (pss_cons (ps_par (i := 4) (j := 5) (by rfl) scExch.nd rfl rfl (by decide) rfl rfl (pa_cons (pe_call k1.G hr (by rfl) k1.g k1.F.kp k1.b .nil pass0 (pa_cons (pv 0) (pa_cons (pe_callB call_len_seq (by rfl) T.len PySem.boot_len (pa_cons (pv 2) pa_nil)) pa_nil))) (pa_cons (pe_call k1.G hr (by rfl) k1.g k1.F.kp k1.b .nil pass0 (pa_cons (pv 0) (pa_cons (pe_callB call_len_seq (by rfl) T.len PySem.boot_len (pa_cons (pv 2) pa_nil)) pa_nil))) pa_nil)) (by rfl))
          (pss_one (ps_if (PW.pt (pw_and (pt_cmpR op_ne (pe_ix ix_list (pv 2) (pv 4) (fun _ _ => rfl)) (pv 4) (nomark _)) (pw_and1 (pt_cmpR op_notIn_seq (pv 4) (pe_call k2.G hr (by rfl) k2.g k2.F.kp k2.b .nil pass0 (pa_cons (pv 2) (pa_cons (pv 5) pa_nil))) (by rfl)))))
            (pss_one (ps_asg (pv 5) (pg_sub (pv 2) (pv 4) set_list))) pss_nil))) pss_nil)))
      (pss_one (ps_ret (pe_callTy call_tuple_of (by rfl) T.tuple (by decide +kernel) (pa_cons (pv 2) pa_nil))))), ?_⟩
    refine ⟨_, rfl, a, _, rfl, .inr hS, fun c nc => ?_⟩
    have s1 := same_new (o := .lst (tupOf n p)) nc
    have ncd := hD.ne nc
    have ncl := hD.nel nc
    refine ⟨_, rfl, d, l, 4, rfl, hD.new nc, by decide, by decide +kernel, fun k H1 hk hD1 sb1 => ?_⟩
    refine ⟨_, rfl, by omega, by omega, ?_⟩
    refine for_range (lo := 0) (n := ((k : Nat) : Int).toNat) (fun i σ H' => (∃ y3 y4 y5, σ = [some (.ref d), some (.ref a), some (.ref c), y3, y4, y5]) ∧ (∃ q r', H' c = some (.lst (tupOf n q)) ∧ Fo n q r' ∧ ∀ v, v < n → (q v = v ↔ p v = v)) ∧ DrawAt H' d l ∧ Sb d H H')
      ⟨⟨_, _, _, rfl⟩, ⟨p, r, sb1 _ _ ncd upd_same, hF, fun _ _ => Iff.rfl⟩, hD1, (Sb.of s1).trans sb1⟩ ?_ ?_
    · rintro i σ H2 hi ⟨⟨y3, y4, y5, rfl⟩, ⟨q', r', hc, hFq, hro⟩, hD2, sb2⟩
      refine ⟨_, rfl, Nat.zero_le _, fun em nem => ?_⟩
      have s3 := same_new (o := .lst []) nem
      have hc3 := s3 _ _ hc
      have hci : SqL K (upd H2 em (.lst [])) c ((intsOf n q').map V.int) := by rw [← tupOf_ints]; exact SqL.of hc3
      refine ⟨_, _, .lst hci (dpAll_ints _), .lst (SqL.of upd_same) .nil, shaped_lst _, shaped_lst [], _, rfl, ?_⟩
      have ee := eqv_lsts (intsOf n q') []
      rw [List.map_nil] at ee
      rw [ee]
      have hD3 := hD2.new (o := .lst []) nem
      have sb3 := sb2.trans (Sb.of s3)
      refine ite2 (fun e => ?_) (fun e => ?_)
      · have hn1 : 1 ≤ n := by
          cases n with
          | zero => simp [intsOf] at e
          | succ n => omega
        refine ⟨_, rfl, _, rfl, c, _, rfl, .inl (SqL.of hc3), d, l, _, rfl, hD3, by rw [tupOf_len]; omega, by rw [tupOf_len]; exact Nat.lt_of_le_of_lt (show _ ≤ 1001 by omega) (by decide +kernel), fun x H4 hx hD4 sb4 => ?_⟩
        rw [tupOf_len] at hx
        have hc4 := sb4 _ _ ncd hc3
        refine ⟨_, rfl, _, rfl, c, _, rfl, .inl (SqL.of hc4), d, l, _, rfl, hD4, by rw [tupOf_len]; omega, by rw [tupOf_len]; exact Nat.lt_of_le_of_lt (show _ ≤ 1001 by omega) (by decide +kernel), fun y H5 hy hD5 sb5 => ⟨_, _, rfl, ?_⟩⟩
        rw [tupOf_len] at hy
        have hc5 := sb5 _ _ ncd hc4
        have hx' : x < n := by omega
        have hy' : y < n := by omega
        have sb35 := (sb3.trans sb4).trans sb5
        refine ⟨_, rfl, _, rfl, c, _, _, _, rfl, rfl, SqL.of hc5, atI_nat (tupOf_at hx'), _, rfl, rfl, _, rfl, ite2 (fun e1 => ?_) (fun e1 => ?_)⟩
        · have nr : q' x ≠ x := fun z => by rw [z] at e1; simp at e1
          refine ⟨_, rfl, _, rfl, _, rfl, c, n, q', y, rfl, .inl (SqL.of hc5), by omega, hFq.lt, hy', fun pt H6 npt hpt s6 => ?_⟩
          refine ⟨pt, _, rfl, .inl (SqL.of hpt), rfl, flat_nats _, _, rfl, ?_⟩
          show if (!inV (vi x) (natsV (path q' n y))) = true then _ else _
          rw [inV_nats]
          have hc6 := s6 _ _ hc5
          have hD6 := hD5.same s6
          refine ite2 (fun e2 => ?_) (fun e2 => ?_)
          · have nm : x ∉ path q' n y := fun z => by rw [decide_eq_true z] at e2; simp at e2
            have nyx : y ≠ x := fun z => nm (by
              rw [z]; unfold Ff.path; exact List.mem_append_left _ (self_ups hFq hx' nr))
            obtain ⟨r2, hF2⟩ := exchange_fo hFq hx' hy' nr nm
            refine ⟨_, rfl, _, rfl, _, rfl, c, _, _, x, rfl, rfl, hc6, by rw [tupOf_len]; exact ixN_nat hx', ⟨_, _, _, rfl⟩, ⟨_, r2, ?_, hF2, fun v hv => (exchange_root (n := n) nr nyx v).trans (hro v hv)⟩, hD6.put ncd ncl, (sb35.trans (Sb.of s6)).over nc⟩
            rw [upd_same, tupOf_set]
          · exact ⟨⟨_, _, _, rfl⟩, ⟨q', r', hc6, hFq, hro⟩, hD6, sb35.trans (Sb.of s6)⟩
        · exact ⟨⟨_, _, _, rfl⟩, ⟨q', r', hc5, hFq, hro⟩, hD5, sb35⟩
      · exact ⟨⟨_, _, _, rfl⟩, ⟨q', r', hc3, hFq, hro⟩, hD3, sb3⟩
    · rintro σ H2 ⟨⟨y3, y4, y5, rfl⟩, ⟨q', r', hc, hFq, hro⟩, hD2, sb2⟩
      refine ⟨_, rfl, c, _, rfl, .inl ⟨SqL.of hc, fun t nt => ?_⟩⟩
      exact q t q' r' _ (sb2.free (hD2.ne nt) nt) upd_same hFq hro (hD2.new nt) (sb2.trans (Sb.of (same_new nt)))
end
section
variable {P : Program} {w : World} {K : PySem.W.Frag} {mg : Str → Option Value} {base : Heap}
theorem ok_rpair {f fS fT fN fF fE : Addr} {fd fdS fdT fdN fdF fdE : FuncData} (F : Fun K "_law_rooted_pair" "_law_rooted_pair" sRPair f fd) (k1 : Kn P w K mg base 5 "_law_some_forest" sSome ["_law_draw", "_law_most"] spSome fS fdS) (k2 : Kn P w K mg base 1 "_law_take" sTake ["_law_draw", "_law_many"] spTake fT fdT)
    (k3 : Kn P w K mg base 3 "_law_nodes" sNodes ["_law_draw", "_law_size_here", "_law_most"] spNodes fN fdN) (k4 : Kn P w K mg base 4 "_law_found" sLFound ["_law_forest_here", "_law_nodes_here"] (spFindAll K) fF fdF) (k5 : Kn P w K mg base 2 "_law_exchanged" sExch ["_law_draw", "_law_forest_here"] (spExch K) fE fdE) (T : Tx mg) :
    FnOk P w K mg base CX0 6 f fd ["_law_draw", "_law_most"] (spRPair K) := by
  refine F.ok scRPair (fun vs H Q E h => ?_) (fun cdv A outer s H vs Q E hr h => ?_)
  · obtain ⟨d, l, m, rfl, _⟩ := h
    rfl
  · obtain ⟨d, l, m, rfl, hD, hm, q⟩ := h
    have hrm : ∀ {j : Nat}, j ≤ 5 → Room j (A.deeper (envOfC "_law_rooted_pair" (defScope sRPair) s.heap.objs.size f cdv)) := fun h => hr.mono h
    have r1 := hrm (j := 1) (by decide)
    have r2 := hrm (j := 2) (by decide)
    have r3 := hrm (j := 3) (by decide)
    have r4 := hrm (j := 4) (by decide)
    refine ⟨_, pss_cons (ps_set (i := 2) scRPair.nd rfl (.inl rfl) (pe_call k1.G hr (by rfl) k1.g k1.F.kp k1.b .nil pass0 (pa_cons (pv 0) (pa_cons (pv 1) pa_nil))))
      (pss_cons (ps_set (i := 3) scRPair.nd rfl (.inl rfl) (pe_call k2.G r1 (by rfl) k2.g k2.F.kp k2.b .nil pass0 (pa_cons (pv 0) (pa_cons pe_int pa_nil))))
      (C8.pss_cut (ps_set (i := 4) scRPair.nd rfl (.inl rfl) (pe_ifExp (pt_cmpR op_lt (pv 3) pe_int (nomark _)) (pe_ix ix_tup (pe_call k4.G r4 (by rfl) k4.g k4.F.kp k4.b .nil pass0 (pa_cons (pv 2) (pa_cons (pe_call k3.G r3 (by rfl) k3.g k3.F.kp k3.b .nil pass0 (pa_cons (pv 0) (pa_cons (pe_callB call_len_seq (by rfl) T.len PySem.boot_len (pa_cons (pv 2) pa_nil)) (pa_cons pe_int pa_nil)))) pa_nil))) pe_int (fun _ _ => rfl)) (pv 2)))
      (C8.pss_cut (ps_if (pt_cmpR op_in_seq (pv 3) (pe_tup (pa_cons pe_int (pa_cons pe_int pa_nil))) (by rfl)) (pss_one (ps_set (i := 4) scRPair.nd rfl (.inl rfl) (pe_call k5.G r2 (by rfl) k5.g k5.F.kp k5.b .nil pass0 (pa_cons (pv 0) (pa_cons (pv 4) pa_nil))))) pss_nil)
      (pss_one (ps_ret (pe_tup (pa_cons (pv 2) (pa_cons (pv 4) pa_nil)))))))), ?_⟩
    refine ⟨_, rfl, _, rfl, d, l, m, rfl, hD, by omega, fun t n p r H1 hn nt ht hF hD1 sb1 => ?_⟩
    have ntd := hD1.net ht
    refine ⟨_, rfl, d, l, 6, rfl, hD1, by decide, by decide +kernel, fun k H2 hk hD2 sb2 => ?_⟩
    have ht2 := sb2 _ _ ntd ht
    refine ⟨fun σ H' => (∃ b q' r', σ = [some (.ref d), some (vi m), some (.ref t), some (vi k), some (.ref b)] ∧ b ≠ d ∧ Pair K H' t b n p q' r r') ∧ DrawAt H' d l ∧ Sb d H H', ?_, ?_⟩
    · refine ⟨_, rfl, _, _, rfl, rfl, _, rfl, ite2 (fun e => ?_) (fun e => ?_)⟩
      · refine ⟨_, rfl, _, rfl, _, rfl, t, _, rfl, .inr (SqT.of ht2), d, l, n, 9, by rw [tupOf_len]; rfl, hD2, by omega, by decide, fun na xs H3 nna hna hxs hxl hD3 sb3 => ?_⟩
        have ht3 := sb3 _ _ ntd ht2
        refine ⟨t, na, n, p, r, xs, rfl, SqT.of ht3, SqL.of hna, by omega, by omega, hF, hxs, fun t1 g c H4 nt1 nc hga ht1 hg hc s4 => ?_⟩
        refine ⟨t1, _, _, _, rfl, rfl, SqT.of ht1, rfl, ⟨g, _, r, rfl, ?_, ⟨SqT.of (s4 _ _ ht3), hg, by omega, hF, fndAll_fo hF xs hxs p hF, fun v hv => behind_roots hF hxs v hv⟩⟩, hD3.same s4, ((sb1.trans sb2).trans sb3).trans (Sb.of s4)⟩
        rcases hga with z | z
        · rw [z]; exact ntd
        · exact hD3.ne z
      · exact ⟨_, rfl, ⟨t, p, r, rfl, ntd, ⟨SqT.of ht2, SqT.of ht2, by omega, hF, hF, fun _ _ => Iff.rfl⟩⟩, hD2, sb1.trans sb2⟩
    rintro σ H3 ⟨⟨b, q', r', rfl, nbd, PR⟩, hD3, sb3⟩
    refine ⟨fun σ H' => (∃ b q' r', σ = [some (.ref d), some (vi m), some (.ref t), some (vi k), some (.ref b)] ∧ b ≠ d ∧ Pair K H' t b n p q' r r') ∧ DrawAt H' d l ∧ Sb d H H', ?_, ?_⟩
    · refine ⟨_, rfl, by show 2 ≤ sizeLine; decide, fun tp ntp => ?_⟩
      have s4 := same_new (o := .tup [V.int 3, V.int 4]) ntp
      refine ⟨tp, _, rfl, .inr (SqT.of upd_same), rfl, rfl, _, rfl, ite2 (fun e => ?_) (fun e => ?_)⟩
      · refine ⟨_, rfl, _, rfl, d, l, b, n, q', r', rfl, hD3.same s4, nbd, (PR.same s4).sb, by omega, PR.fb, fun t2 q2 r2 H5 nt2 ht2' hF2 hro2 hD5 sb5 => ?_⟩
        have sb45 := (Sb.of (d := d) s4).trans sb5
        exact ⟨⟨t2, q2, r2, rfl, hD5.net ht2', ⟨sb45.sqt ntd PR.sa, SqT.of ht2', by omega, hF, hF2, fun v hv => (PR.ro v hv).trans (hro2 v hv).symm⟩⟩, hD5, sb3.trans sb45⟩
      · exact ⟨⟨b, q', r', rfl, nbd, PR.same s4⟩, hD3.same s4, sb3.trans (Sb.of s4)⟩
    rintro σ H4 ⟨⟨b, q', r', rfl, nbd, PR⟩, hD4, sb4⟩
    refine ⟨_, rfl, _, rfl, by show 2 ≤ sizeLine; decide, fun tt ntt => ?_⟩
    have s5 := same_new (o := .tup [V.ref t, V.ref b]) ntt
    exact q tt t b n p q' r r' _ hn upd_same (hD4.ne ntt) ntd nbd (PR.same s5) (hD4.same s5) (sb4.trans (Sb.of s5))
end
section
variable {P : Program} {w : World} {K : PySem.W.Frag} {mg : Str → Option Value} {base : Heap}
theorem ok_falling {f : Addr} {fd : FuncData} {k : Nat} (F : Fun K "falling" "falling" sFalling f fd) (T : Tx mg) : FnOk P w K mg base CX0 (k + 1) f fd ["size", "chosen"] spFalling := by
  refine F.ok scFalling (fun vs H Q E h => ?_) (fun cdv A outer s H vs Q E hr h => ?_)
  · obtain ⟨b, e, rfl, _⟩ := h
    rfl
  · obtain ⟨sz, ch, rfl, hb1, hb2, q⟩ := h
    refine ⟨_, (pss_cons (ps_if (PW.pt (pw_or (pt_cmpR op_lt (pv 1) pe_int (nomark _)) (pw_or1 (pt_cmpR op_gt (pv 1) (pe_callB (call_max2 rfl) (by rfl) T.max (by decide +kernel) (pa_cons (pv 0) (pa_cons pe_int pa_nil))) (nomark _)))))
        (pss_one (ps_ret pe_int)) pss_nil)
      (pss_cons (ps_set (i := 2) scFalling.nd rfl (.inl rfl) pe_int)
      (pss_cons (ps_for PassesOwn.never rfl (pi_range1 (by rfl) T.range (pa_cons (pv 1) pa_nil)) (pg_name (i := 3) scFalling.nd rfl (.inl rfl))
        (pss_one (ps_aug (i := 2) scFalling.nd rfl (.inl rfl) (pe_op op_sub (pv 0) (pv 3)) ip_mulW)))
      (pss_one (ps_ret (pv 2)))))), ?_⟩
    have q0 := q H (Same.refl _)
    unfold fall at q0
    refine ⟨_, rfl, _, _, rfl, rfl, _, rfl, ite2 (fun e => ?_) (fun e => ?_)⟩
    · have e1 : ch < 0 := of_decide_eq_true e
      rw [if_pos e1] at q0
      exact q0
    have e1 : ¬ ch < 0 := fun z => e (decide_eq_true z)
    rw [if_neg e1] at q0
    refine ⟨_, rfl, _, rfl, _, _, rfl, _, _, rfl, rfl, _, rfl, ite2 (fun e => ?_) (fun e => ?_)⟩
    · have e2 : (if (0 : Int) > sz then (0 : Int) else sz) < ch := of_decide_eq_true e
      rw [fallN_zero (s := sz) (by split at e2 <;> omega) (by split at e2 <;> omega)] at q0
      exact q0
    have e2 : ¬ (if (0 : Int) > sz then (0 : Int) else sz) < ch := fun z => e (decide_eq_true z)
    refine ⟨_, rfl, _, rfl, by omega, by omega, ?_⟩
    refine for_range (lo := 0) (n := ch.toNat) (fun i σ H' => (∃ y, σ = [some (.int sz), some (.int ch), some (.int (fallN sz i)), y]) ∧ H' = H) ⟨⟨_, rfl⟩, rfl⟩ ?_ ?_
    · rintro i σ H' hi ⟨⟨y, rfl⟩, rfl⟩
      have hp : sz - (i : Int) > 0 := by split at e2 <;> omega
      refine ⟨_, rfl, _, rfl, _, rfl, _, _, rfl, rfl, _, _, rfl, rfl, wide_mul (fallN_lt hb1 i).2 (b := 8) (by omega) (by omega) (by decide) (by omega), ⟨some (.int (0 + (i : Int))), ?_⟩, rfl⟩
      show [some (V.int sz), some (V.int ch), some (V.int (fallN sz i * (sz - (0 + (i : Int))))), some (V.int (0 + (i : Int)))] = [some (V.int sz), some (V.int ch), some (V.int (fallN sz i * (if sz - (i : Int) > 0 then sz - (i : Int) else 0))), some (V.int (0 + (i : Int)))]
      rw [if_pos hp, Int.zero_add]
    · rintro σ H' ⟨⟨y, rfl⟩, rfl⟩
      exact ⟨_, rfl, q0⟩
end
end Ff


namespace Ff
open PySem PySem.Spec PyProof.Rows L2 ExX LamX
abbrev sForE : Stmt := topS 1
abbrev sMiss : Stmt := topS 2
abbrev sNoNode : Stmt := topS 6
theorem scForEI : FnScope ["self", "tag", "message"] ["self", "tag", "message"] (defScope (initS sForE)) := ⟨rfl, rfl, rfl, by decide +kernel, rfl, by decide +kernel, by decide +kernel⟩
theorem scMissI : FnScope ["self", "tag", "message"] ["self", "tag", "message"] (defScope (initS sMiss)) := ⟨rfl, rfl, rfl, by decide +kernel, rfl, by decide +kernel, by decide +kernel⟩
theorem scNoNodeI : FnScope ["self", "node"] ["self", "node"] (defScope (initS sNoNode)) := ⟨rfl, rfl, rfl, by decide +kernel, rfl, by decide +kernel, by decide +kernel⟩
theorem ty_lu : typeOf (.type "LookupError") = pure (.type "type") := by kernel_rfl
theorem ty_va : typeOf (.type "ValueError") = pure (.type "type") := by kernel_rfl
theorem bo_lu : bootBuiltins "LookupError" = some (.type "LookupError") := by kernel_rfl
theorem bo_va : bootBuiltins "ValueError" = some (.type "ValueError") := by kernel_rfl
section
variable {P : Program} {w : World} {K : PySem.W.Frag} {mg : Str → Option Value} {base : Heap}
theorem ok_missI {f : Addr} {fd : FuncData} {k : Nat} (F : Fun K "__init__" "Missing.__init__" (initS sMiss) f fd) (z : mg "LookupError" = none) (v : PySem.W.findCls K (.type "LookupError") (.type "type") "__init__" = some (.val (.builtin "LookupError.__init__"))) :
    FnOk P w K mg base CX0 (k + 1) f fd ["self", "tag", "message"] (spTop K "LookupError.__new__" luTail) := by
  refine F.ok scMissI (fun vs H Q E h => ?_) (fun cdv A outer s H vs Q E hr h => ?_)
  · obtain ⟨a, C, tag, msg, rfl, _⟩ := h
    rfl
  · obtain ⟨a, C, tag, msg, rfl, ha, T, nt, q⟩ := h
    refine ⟨_, pss_cons (ps_expr (pe_bi (xB := "LookupError") PySem.F.excBase_LookupError ty_lu (by decide +kernel) bo_lu (by decide) (by decide) (by decide +kernel) (by rfl) z v (pa_cons (pv 0) (pa_cons (pv 2) pa_nil))))
      (pss_one (ps_st (nid := "LookupError.__new__") PySem.F.store_LookupError (pv 0) (pv 1))), ?_⟩
    exact ⟨_, rfl, _, rfl, a, C, _, rfl, by show 1 ≤ 1000; decide, T, ha, _, rfl, _, rfl, a, C, rfl, T, nt, .inl ⟨ha, fun dx n ne => q dx n ne⟩⟩
end
section
variable {P : Program} {w : World} {K : PySem.W.Frag} {mg : Str → Option Value} {base : Heap}
theorem ok_forEI {f : Addr} {fd : FuncData} {k : Nat} (F : Fun K "__init__" "ForestError.__init__" (initS sForE) f fd) (z : mg "ValueError" = none) (v : PySem.W.findCls K (.type "ValueError") (.type "type") "__init__" = some (.val (.builtin "ValueError.__init__"))) :
    FnOk P w K mg base CX0 (k + 1) f fd ["self", "tag", "message"] (spTop K "ValueError.__new__" vaTail) := by
  refine F.ok scForEI (fun vs H Q E h => ?_) (fun cdv A outer s H vs Q E hr h => ?_)
  · obtain ⟨a, C, tag, msg, rfl, _⟩ := h
    rfl
  · obtain ⟨a, C, tag, msg, rfl, ha, T, nt, q⟩ := h
    refine ⟨_, pss_cons (ps_expr (pe_bi (xB := "ValueError") PySem.F.excBase_ValueError ty_va (by decide +kernel) bo_va (by decide) (by decide) (by decide +kernel) (by rfl) z v (pa_cons (pv 0) (pa_cons (pv 2) pa_nil))))
      (pss_one (ps_st (nid := "ValueError.__new__") PySem.F.store_ValueError (pv 0) (pv 1))), ?_⟩
    exact ⟨_, rfl, _, rfl, a, C, _, rfl, by show 1 ≤ 1000; decide, T, ha, _, rfl, _, rfl, a, C, rfl, T, nt, .inl ⟨ha, fun dx n ne => q dx n ne⟩⟩
end
section
variable {P : Program} {w : World} {K : PySem.W.Frag} {mg : Str → Option Value} {base : Heap}
theorem ok_noNodeI {f fM CM : Addr} {fd fdM : FuncData} (F : Fun K "__init__" "NoNode.__init__" (initS sNoNode) f fd) (TM : ClsI K CM fM) (gM : mg "Missing" = some (.ref CM)) (GM : FnOk P w K mg base CX0 1 fM fdM ["self", "tag", "message"] (spTop K "LookupError.__new__" luTail)) (bM : Binds K fdM ["self", "tag", "message"] []) :
    FnOk P w K mg base CX0 2 f fd ["self", "node"] (spErrI K "LookupError.__new__" luTail "node" "NoNode") := by
  refine F.ok scNoNodeI (fun vs H Q E h => ?_) (fun cdv A outer s H vs Q E hr h => ?_)
  · obtain ⟨a, C, v, rfl, _⟩ := h
    rfl
  · obtain ⟨a, C, v, rfl, ⟨i, rfl, hi⟩, ha, T, nt, nf, q⟩ := h
    refine ⟨_, pss_cons (ps_expr (pe_ci TM GM hr (by rfl) gM bM pass0 (pa_cons (pv 0) (pa_cons pe_str (pa_cons (pe_joined (.cons pe_str (.cons (pe_fmt (pv 1)) .nil))) pa_nil)))))
      (pss_one (ps_st (nid := "LookupError.__new__") PySem.F.store_LookupError (pv 0) (pv 1))), ?_⟩
    have f0 : (Str.empty ++ Str.ofString "there is no node ").length ≤ 100 := by decide +kernel
    refine ⟨_, rfl, ⟨_, rfl, fits (by omega), _, rfl, .inr ⟨i, rfl, hi, _, rfl, fits (Nat.le_trans (fits_cat f0 (txt_int hi)) (by decide)), ?_⟩⟩⟩
    refine ⟨a, C, _, _, rfl, ha, T, nt, fun dx n ne => ⟨_, rfl, _, rfl, a, C, rfl, T, nf, .inr ⟨dx, _, upd_same, ?_, by show 1 ≤ 900; decide, q dx n ne⟩⟩⟩
    rw [upd_ne ne, upd_same]
end
section
variable {P : Program} {w : World} {K : PySem.W.Frag} {mg : Str → Option Value} {base : Heap}
def spChkX (K : PySem.W.Frag) (C : Addr) : Sp := fun vs H Q E => ∃ (a : Addr) (xs : List V) (x : Int), vs = [.ref a, .int x] ∧ Sq K H a xs ∧ (x < 0 ∨ (xs.length : Int) ≤ x) ∧ x.natAbs.log2 < 1920 ∧ Flies H E C "node" "NoNode" (.int x)
end
section
variable {P : Program} {w : World} {K : PySem.W.Frag} {mg : Str → Option Value} {base : Heap}
theorem okX_pathOf {f fC C : Addr} {fd fdC : FuncData} (F : Fun K "path_of" "path_of" sPathOf f fd) (k1 : KnX P w K mg base 5 "check_node" ["forest", "node"] (spChkX K C) fC fdC) : FnOk P w K mg base (L2N.CX P w) 6 f fd ["forest", "node"] (spChkX K C) := by
  refine okN F scPathOf (fun vs H Q E h => ?_) (fun cdv A outer s H vs Q E hr h tk => ?_)
  · obtain ⟨a, xs, x, rfl, _⟩ := h
    rfl
  · refine ⟨_, pss_cons (ps_expr (pe_call k1.G hr (by rfl) k1.g k1.kp k1.b .nil (lookN tk fun _ _ _ _ z => z) (pa_cons (pv 0) (pa_cons (pv 1) pa_nil)))) (pss_cons ps_never (pss_cons ps_never (pss_one ps_never))), ?_⟩
    obtain ⟨a, xs, x, rfl, r⟩ := h
    exact ⟨_, rfl, _, rfl, a, xs, x, rfl, r⟩
end
/-- the handled error has a tag of the table and its field -/
structure Told (K : PySem.W.Frag) (cls : Value) (d : Option Addr) (H : Hp) (tag fld : Str) (v : V) : Prop where
  ex : ∃ C dd : Addr, cls = .ref C ∧ XfC K C ∧ PySem.W.findIn K (.ref C) "tag" = some none ∧ PySem.W.findIn K (.ref C) fld = some none ∧ d = some dd ∧ H dd = some (.xd [(fld, v), ("tag", .str tag)])
def nodeTags : List Str := ["BadParent", "Cycle", "NotRoot", "SameRoot", "RootsDiffer", "NoWay", "BadWeight", "NoNode"]
def limitTags : List Str := ["TooManyNodes", "TooLong", "TooManyForests", "TooManyWatches"]
def posTags : List Str := ["BadStep", "BadCost", "Contradiction", "ParseError"]
def sizeTags : List Str := ["SizesDiffer", "BadSize"]
def nameTags : List Str := ["BadName", "NameTaken", "NoForest"]
def wordTags : List Str := ["BadCommand", "BadCount"]
def TagOk (tag fld : Str) : Prop := (tag ∈ nodeTags ∧ fld = "node") ∨ (tag ∈ limitTags ∧ fld = "limit") ∨ (tag ∈ posTags ∧ fld = "pos") ∨ (tag ∈ sizeTags ∧ fld = "size") ∨ (tag ∈ nameTags ∧ fld = "name") ∨ (tag = "BadCommand" ∧ fld = "word") ∨ (tag = "BadCount" ∧ fld = "count") ∨ (tag = "NoWatch" ∧ fld = "number")
def spField (K : PySem.W.Frag) : SpE := fun a cls d vs H Q _ => vs = [.ref a] ∧ ∃ (tag fld : Str) (v : V), Told K cls d H tag fld v ∧ TagOk tag fld ∧ ∀ H1, Same H H1 → Q v H1
section
variable {P : Program} {w : World} {K : PySem.W.Frag} {mg : Str → Option Value} {base : Heap}
/-- what the law makes of what it asks -/
def OutE (K : PySem.W.Frag) (CF CM : Addr) (Q : Str → V → Addr → Hp → Hp → Prop) : XK := fun cls d H1 => PySem.W.exmAny K cls [.ref CF, .ref CM] = some true ∧ ∃ (tag fld : Str) (v : V), Told K cls d H1 tag fld v ∧ TagOk tag fld ∧ ∀ t H2, H1 t = none → Same H1 H2 → Q tag v t H1 H2
end
section
variable {P : Program} {w : World} {K : PySem.W.Frag} {mg : Str → Option Value} {base : Heap}
def TTout (K : PySem.W.Frag) (CF CM : Addr) (tl : XK → Hp → VK → Prop) (H : Hp) (Q : VK) : Prop := ∀ Ha, Same H Ha → ∃ (E1 : XK) (Q1 : VK), tl E1 Ha Q1 ∧
  (∀ cls d H1, E1 cls d H1 → OutE K CF CM (fun tag v t _ H2 => H2 t = some (.tup [.non, .str tag, v]) → Q (.ref t) H2) cls d H1) ∧ ∀ v H1, Q1 v H1 → ∀ t H2, H1 t = none → Same H1 H2 → H2 t = some (.tup [v, .str "", .non]) → Q (.ref t) H2
end
section
variable {P : Program} {w : World} {K : PySem.W.Frag} {mg : Str → Option Value} {base : Heap}
/-- the same without the answer -/
def TTerr (K : PySem.W.Frag) (CF CM : Addr) (tl : XK → Hp → VK → Prop) (H : Hp) (Q : VK) : Prop := ∀ Ha, Same H Ha → ∃ (E1 : XK) (Q1 : VK), tl E1 Ha Q1 ∧
  (∀ cls d H1, E1 cls d H1 → OutE K CF CM (fun tag v t _ H2 => H2 t = some (.tup [.str tag, v]) → Q (.ref t) H2) cls d H1) ∧ ∀ v H1, Q1 v H1 → ∀ t H2, H1 t = none → Same H1 H2 → H2 t = some (.tup [.str "", .non]) → Q (.ref t) H2
end
section
variable {P : Program} {w : World} {K : PySem.W.Frag} {mg : Str → Option Value} {base : Heap}
theorem cut3 (a b c : V) : cutV [a, b, c] (some 1) none = [b, c] := rfl
end
section
variable {P : Program} {w : World} {K : PySem.W.Frag} {mg : Str → Option Value} {base : Heap}
def spNumX (C : Addr) : Sp := fun vs H Q E => ∃ (n x : Int), vs = [.int n, .int x] ∧ (x < 0 ∨ n ≤ x) ∧ x.natAbs.log2 < 1920 ∧ Flies H E C "node" "NoNode" (.int x)
end
section
variable {P : Program} {w : World} {K : PySem.W.Frag} {mg : Str → Option Value} {base : Heap}
theorem okX_num {f C : Addr} {fd : FuncData} (F : Fun K "check_number" "check_number" sNum f fd) (R : Raisable P w K mg base 2 "NoNode" C "node" "NoNode") : FnOk P w K mg base (L2N.CX P w) 4 f fd ["size", "node"] (spNumX C) := by
  refine okN F scNum (fun vs H Q E h => ?_) (fun cdv A outer s H vs Q E hr h tk => ?_)
  · obtain ⟨n, x, rfl, _⟩ := h
    rfl
  · obtain ⟨n, x, rfl, hx, hb, fl⟩ := h
    refine ⟨_, pss_one (ps_if (pt_not (pt_chain op_le op_lt pe_int (pv 1) (pv 0))) (pss_one (L2N.ps_raise rfl tk (pmk_err R hr (by rfl) (pv 1)))) pss_nil), ?_⟩
    refine ⟨_, rfl, _, _, rfl, rfl, _, rfl, ?_⟩
    show if decide ((0 : Int) ≤ x) = true then _ else _
    by_cases h0 : (0 : Int) ≤ x
    · rw [decide_eq_true h0]
      refine iteT ⟨_, rfl, _, _, rfl, rfl, _, rfl, ?_⟩
      show if (!decide (x < n)) = true then _ else _
      rw [decide_eq_false (show ¬ x < n by omega)]
      exact iteT ⟨_, rfl, _, rfl, ⟨x, rfl, hb⟩, fl⟩
    · rw [decide_eq_false h0]
      refine iteF ⟨_, rfl, ?_⟩
      exact iteT ⟨_, rfl, _, rfl, ⟨x, rfl, hb⟩, fl⟩
end
section
variable {P : Program} {w : World} {K : PySem.W.Frag} {mg : Str → Option Value} {base : Heap}
theorem okX_chk {f fN C : Addr} {fd fdN : FuncData} (F : Fun K "check_node" "check_node" sChk f fd) (k1 : KnX P w K mg base 4 "check_number" ["size", "node"] (spNumX C) fN fdN) (T : Tx mg) : FnOk P w K mg base (L2N.CX P w) 5 f fd ["forest", "node"] (spChkX K C) := by
  refine okN F scChk (fun vs H Q E h => ?_) (fun cdv A outer s H vs Q E hr h tk => ?_)
  · obtain ⟨a, xs, x, rfl, _⟩ := h
    rfl
  · obtain ⟨a, xs, x, rfl, hS, hx, hb, fl⟩ := h
    refine ⟨_, pss_one (ps_expr (pe_call k1.G hr (by rfl) k1.g k1.kp k1.b .nil (lookNE tk) (pa_cons (pe_callB call_len_seq (by rfl) T.len PySem.boot_len (pa_cons (pv 0) pa_nil)) (pa_cons (pv 1) pa_nil)))), ?_⟩
    exact ⟨_, rfl, a, xs, rfl, hS, _, rfl, xs.length, x, rfl, hx, hb, fl⟩
end
def spLawT (K : PySem.W.Frag) (PT : Addr) : Sp := fun vs H Q _ => ∃ (a : Addr) (ns : List Int), vs = [.ref a] ∧ H PT = some (.tbl #[]) ∧ SqL K H a (ns.map V.int) ∧ ns.length ≤ 63 ∧ ∀ H1, Q (.bl true) H1
/-- a second find of the same node -/
theorem again_same {n : Nat} {p r : Nat → Nat} (F : Fo n p r) {x : Nat} (hx : x < n) (v : Nat) (hv : v < n) : fnd n (fnd n p x) x v = fnd n p x v := by
  have h := behind_same F (l := [x]) (m := [x, x]) (by intro y hy; rw [List.mem_singleton.mp hy]; exact hx) (fun y => by simp) v hv
  exact h
theorem again_cost {n : Nat} {p r : Nat → Nat} (F : Fo n p r) {x : Nat} (hx : x < n) : (ups (fnd n p x) n x).length = low p x := by
  have h1 := cost_total F [x] (by intro y hy; rw [List.mem_singleton.mp hy]; exact hx)
  have h2 := cost_total F [x, x] (by intro y hy; simp at hy; rw [hy]; exact hx)
  have e : (List.range n).countP (fun v => deep p v && markB n p [x, x] v) = (List.range n).countP (fun v => deep p v && markB n p [x] v) := by
    refine List.countP_congr fun v _ => ?_
    rw [mark_same (n := n) (p := p) (l := [x, x]) (m := [x]) (fun y => by simp) v]
  rw [e] at h2
  simp only [costs, List.sum_cons, List.sum_nil, List.map_cons, List.map_nil] at h1 h2
  omega
theorem low_min {n : Nat} {p r : Nat → Nat} (F : Fo n p r) {x : Nat} (hx : x < n) : (if ((ups p n x).length : Int) < 1 then ((ups p n x).length : Int) else 1) = ((low p x : Nat) : Int) := by
  unfold low
  by_cases e : p x = x
  · rw [if_pos e, ups_of e]; simp
  · rw [if_neg e, ups_n F hx e, List.length_cons, if_neg (by omega)]; rfl
/-- all but tables stays, but what stands at d -/
theorem tabs_sb {T : List (Addr × Str)} {H H1 : Hp} {d : Addr} (t : Tabs T H) (s : Sb d H H1) (nd : ∃ xs, H d = some (.lst xs)) : Tabs T H1 := by
  obtain ⟨xs, hd⟩ := nd
  intro p hp
  obtain ⟨ps, h1, h2, h3⟩ := t p hp
  refine ⟨ps, s _ _ (ne_of h1 hd (by intro z; cases z)) h1, h2, fun pos cv hc => ?_⟩
  obtain ⟨c, e1, e2⟩ := h3 pos cv hc
  exact ⟨c, e1, s _ _ (ne_of e2 hd (by unfold CodeO; intro z; cases z)) e2⟩
theorem DrawAt.lst {H : Hp} {d l : Addr} (D : DrawAt H d l) : ∃ xs, H d = some (.lst xs) := by
  obtain ⟨ns, i, j, k, h, _⟩ := D
  exact ⟨_, h⟩
theorem DrawAt.ext {H H1 : Hp} {d l : Addr} (D : DrawAt H d l) (s : ExtN H H1) : DrawAt H1 d l := by
  obtain ⟨ns, i, j, k, h, h2, r⟩ := D
  exact ⟨ns, i, j, k, s _ _ h (by intro ps z; cases z), s _ _ h2 (by intro ps z; cases z), r⟩
theorem shaped_err {x : Str} (h : PyData.strOk x = true) (z : Int) : SeqAt.shaped (.tuple [.str x, .int z]) = true := by
  unfold SeqAt.shaped
  simp [PyData.canLay0, PyData.canLayAll0, PyData.depth, PyData.depthAll, h]
theorem bits_ok {z : Int} (h1 : -2000000000 ≤ z) (h2 : z ≤ 2000000000) : z.natAbs.log2 < 1920 := by
  by_cases h0 : z.natAbs = 0
  · rw [h0]; decide
  · refine (Nat.log2_lt h0).mpr (Nat.lt_of_le_of_lt (show z.natAbs ≤ 2000000000 by omega) ?_)
    exact Nat.lt_of_lt_of_le (show 2000000000 < 2 ^ 31 by decide) (Nat.pow_le_pow_right (by decide) (by decide))
/-- what a find answers, as data -/
def dFind (n : Nat) (q : Nat → Nat) (c : Nat) : PyData := .tuple [.tuple ((intsOf n q).map PyData.int), .int (c : Int)]
theorem dp_find {K : PySem.W.Frag} {H : Hp} {t g : Addr} {n c : Nat} {q : Nat → Nat} (h1 : H t = some (.tup [.ref g, vi c])) (h2 : SqT K H g (tupOf n q)) : Dp K H (.ref t) (dFind n q c) := by
  rw [tupOf_ints] at h2
  exact .tup (SqT.of h1) (.cons (.tup h2 (dpAll_ints _)) (.cons (.int _) .nil))
theorem sm_forest {n k : Nat} (h : n ≤ 1000) (q : Nat → Nat) : Sm (k + 1) (.tuple ((intsOf n q).map PyData.int)) := by
  refine .tup (by rw [List.length_map]; unfold intsOf; rw [List.length_map, List.length_range]; omega) fun d hd => ?_
  obtain ⟨i, _, e⟩ := List.mem_map.mp hd
  rw [← e]; exact .int _ _
theorem sm_find {n k : Nat} (h : n ≤ 1000) (q : Nat → Nat) (c : Nat) : Sm (k + 2) (dFind n q c) := by
  refine .tup (by show 2 ≤ 1000; decide) fun d hd => ?_
  rcases List.mem_cons.mp hd with z | z
  · rw [z]; exact sm_forest h q
  · rw [List.mem_singleton.mp z]; exact .int _ _
theorem cut_take (zs : List V) (j : Nat) : cutV zs none (some (j : Int)) = zs.take j := by
  unfold cutV
  rw [HT.sIx_none, HT.sIx_nat, List.drop_zero, Nat.sub_zero]
  by_cases h : j ≤ zs.length
  · rw [Nat.min_eq_left h]
  · rw [Nat.min_eq_right (by omega), List.take_of_length_le (Nat.le_refl _), List.take_of_length_le (by omega)]
theorem cut_drop (zs : List V) (j : Nat) : cutV zs (some (j : Int)) none = zs.drop j := by
  unfold cutV
  rw [HT.sIx_none, HT.sIx_nat]
  by_cases h : j ≤ zs.length
  · rw [Nat.min_eq_left h]
    exact List.take_of_length_le (by rw [List.length_drop]; omega)
  · rw [Nat.min_eq_right (by omega), List.drop_eq_nil_of_le (Nat.le_refl _), List.drop_eq_nil_of_le (by omega)]
    simp
/-- what a list of finds answers, as data -/
def dFindAll (n : Nat) (q : Nat → Nat) (cs : List Nat) : PyData := .tuple [.tuple ((intsOf n q).map PyData.int), .list ((cs.map fun n : Nat => (n : Int)).map PyData.int)]
theorem dp_nats {K : PySem.W.Frag} {H : Hp} {a : Addr} {l : List Nat} (h : SqL K H a (natsV l)) : Dp K H (.ref a) (.list ((l.map fun n : Nat => (n : Int)).map PyData.int)) := by
  rw [natsI] at h
  exact .lst h (dpAll_ints _)
theorem dp_forest {K : PySem.W.Frag} {H : Hp} {a : Addr} {n : Nat} {p : Nat → Nat} (h : SqT K H a (tupOf n p)) : Dp K H (.ref a) (.tuple ((intsOf n p).map PyData.int)) := by
  rw [tupOf_ints] at h
  exact .tup h (dpAll_ints _)
theorem dp_findAll {K : PySem.W.Frag} {H : Hp} {t g c : Addr} {n : Nat} {q : Nat → Nat} {cs : List Nat} (h1 : H t = some (.tup [.ref g, .ref c])) (h2 : SqT K H g (tupOf n q)) (h3 : SqL K H c (natsV cs)) : Dp K H (.ref t) (dFindAll n q cs) :=
  .tup (SqT.of h1) (.cons (dp_forest h2) (.cons (dp_nats h3) .nil))
theorem sm_ints {k : Nat} {l : List Int} (h : l.length ≤ 1000) : Sm (k + 1) (.list (l.map PyData.int)) := by
  refine .lst (by rw [List.length_map]; exact h) fun d hd => ?_
  obtain ⟨i, _, e⟩ := List.mem_map.mp hd
  rw [← e]; exact .int _ _
theorem sm_findAll {n k : Nat} (h : n ≤ 1000) (q : Nat → Nat) {cs : List Nat} (hc : cs.length ≤ 1000) : Sm (k + 2) (dFindAll n q cs) := by
  refine .tup (by show 2 ≤ 1000; decide) fun d hd => ?_
  rcases List.mem_cons.mp hd with z | z
  · rw [z]; exact sm_forest h q
  · rw [List.mem_singleton.mp z]; exact sm_ints (by rw [List.length_map]; exact hc)
/-- a list that does not stand in the draws' cell -/
theorem DrawAt.nel2 {H : Hp} {d l a : Addr} {xs : List V} (D : DrawAt H d l) (h : H a = some (.lst xs)) (n : a ≠ d) : True := trivial
/-- find_all: all nodes of a list or tuple found, or the first that is none raised -/
def spFindAllB (K : PySem.W.Frag) (C : Addr) : Sp := fun vs H Q E => ∃ (k : Bool) (a b : Addr) (n : Nat) (p r : Nat → Nat) (xs : List Int) (good : List Nat), vs = [.ref a, .ref b] ∧ SqT K H a (tupOf n p) ∧ Kd k K H b (xs.map V.int) ∧ n ≤ 1000 ∧ xs.length ≤ 1000 ∧ Fo n p r ∧
  NodesEnd xs n good (∀ (t g c : Addr) H', H t = none → H c = none → (g = a ∨ H g = none) → H' t = some (.tup [.ref g, .ref c]) → SqT K H' g (tupOf n (fndAll n good p)) → H' c = some (.lst (natsV (costs n good p))) → Same H H' → Q (.ref t) H')
    (fun z => Flies H E C "node" "NoNode" (.int z))
section
variable {P : Program} {w : World} {K : PySem.W.Frag} {mg : Str → Option Value} {base : Heap}
theorem flies_same {H H1 : Hp} {E : XK} {C : Addr} {fld tag : Str} {v : V} (h : Flies H E C fld tag v) (s : Same H H1) : Flies H1 E C fld tag v := fun d H2 n e s2 => h d H2 (sm_none s n) e (s.trans s2)
end
section
variable {P : Program} {w : World} {K : PySem.W.Frag} {mg : Str → Option Value} {base : Heap}
theorem same_ext {H H1 : Hp} (s : Same H H1) : ExtN H H1 := fun b o e _ => s b o e
end
section
variable {P : Program} {w : World} {K : PySem.W.Frag} {mg : Str → Option Value} {base : Heap}
/-- what is asked raises: the law's reader answers with the tag and the field -/
theorem ask_no {X : Cx} {kk : Nat} {D : Lam X kk} {f C CF CM : Addr} {σ : L2.St} {H : Hp} {Q : VK} {x fld tag : Str} {v : V} {lv : Nat} (R : Raisable P w K mg base lv x C fld tag) (hex : PySem.W.exmAny K (.ref C) [.ref CF, .ref CM] = some true) (tg : TagOk tag fld) (hA : D.At f H)
    (hc : ∀ Ha E, Same H Ha → Flies Ha E C fld tag v → D.tb E σ Ha fun _ _ => False) (q : ∀ t H2, H t = none → Same H H2 → H2 t = some (.tup [.str tag, v]) → Q (.ref t) H2) : TTerr K CF CM (D.does f σ) H Q := by
  intro Ha sa
  refine ⟨fun cls d H1 => cls = .ref C ∧ ∃ dd, d = some dd ∧ H1 dd = some (.xd [(fld, v), ("tag", .str tag)]) ∧ Same Ha H1, fun _ _ => False, ⟨D.same hA (same_ext sa), hc Ha _ sa fun dd H1 n1 h1 s1 => ⟨rfl, dd, rfl, h1, s1⟩⟩, ?_, fun _ _ h => h.elim⟩
  rintro cls d H1 ⟨rfl, dd, rfl, hdd, s1⟩
  exact ⟨hex, tag, fld, v, ⟨C, dd, rfl, R.xf, R.nt, R.nf, rfl, hdd⟩, tg, fun t H2 n s2 e => q t H2 (sm_none (sa.trans s1) n) ((sa.trans s1).trans s2) e⟩
end
section
variable {P : Program} {w : World} {K : PySem.W.Frag} {mg : Str → Option Value} {base : Heap}
theorem wipe_one {σ : L2.St} {i : Nat} {x : Option V} : wipe ((wipe σ [i]).set i x) [i] = wipe σ [i] := by
  show ((σ.set i none).set i x).set i none = σ.set i none
  rw [List.set_set, List.set_set]
end
section
variable {P : Program} {w : World} {K : PySem.W.Frag} {mg : Str → Option Value} {base : Heap}
/-- a list of lambdas, each raising the same -/
theorem asks_no {X : Cx} {kk j lv : Nat} (σ : L2.St) {H : Hp} {C CF CM la D : Addr} (fs : List Addr) {Qd : Hp → Prop} {x fld tag : Str} {v : V} (R : Raisable P w K mg base lv x C fld tag) (hex : PySem.W.exmAny K (.ref C) [.ref CF, .ref CM] = some true) (tg : TagOk tag fld) (hl : H la = some (.lst (fs.map V.ref))) (nD : H D = none) (hj : j < σ.length) (hm : fs.length ≤ 1000)
    (hf : ∀ f ∈ fs, ∃ L : Lam X kk, L.At f H ∧ ∀ Ha E, Same H Ha → Flies Ha E C fld tag v → L.tb E σ Ha fun _ _ => False)
    (q : ∀ (ts : List Addr) H1, ts.length = fs.length → H1 D = some (.lst (ts.map V.ref)) → (∀ t ∈ ts, H1 t = some (.tup [.str tag, v])) → Same H H1 → Qd H1) :
    ∃ W : Nat → Nat → Hp → Prop, (∃ m, W 0 m (upd H D (.lst []))) ∧ ∀ i m H, W i m H →
      ((Itl K la).stop i H ∧ Qd H) ∨ ((Itl K la).go i H ∧ ∃ Nx : Hp → Prop, (∀ H', Nx H' → ∃ m', m' < m ∧ W (i + 1) m' H') ∧ ∀ x H', (Itl K la).yld i H x H' → gName j x (wipe σ [j]) H' fun σ2 H2 => wipe σ2 [j] = wipe σ [j] ∧ tYes σ2 H2 fun b H3 =>
        if b = true then (∃ (f : Addr) (L : Lam X kk), σ2[j]? = some (some (.ref f)) ∧ TTerr K CF CM (L.does f σ) H3 fun y H4 => ∃ acc, H4 D = some (.lst acc) ∧ acc.length < sizeLine ∧ Nx (upd H4 D (.lst (acc ++ [y])))) else Nx H3) := by
  refine lc_list (K := K) (a := la) (xs := fs.map V.ref) (g := gName j) (tt := tYes) (te := fun σ1 H1 Q => ∃ (f : Addr) (D : Lam X kk), σ1[j]? = some (some (.ref f)) ∧ TTerr K CF CM (D.does f σ) H1 Q) (vs := [j]) (σ := σ) (Qd := Qd) (fun i H1 => ∃ ts : List Addr, ts.length = i ∧ H1 D = some (.lst (ts.map V.ref)) ∧ (∀ t ∈ ts, H1 t = some (.tup [.str tag, v])) ∧ Same H H1)
    ⟨[], rfl, upd_same, by simp, same_new nD⟩ (fun i H1 _ h => h.elim fun ts h => SqL.of (h.2.2.2 _ _ hl)) ?_ ?_
  · rintro k y H1 hy ⟨ts, hlen, hD, hts, s1⟩
    rw [List.getElem?_map] at hy
    obtain ⟨f, hff, rfl⟩ := Option.map_eq_some_iff.mp hy
    obtain ⟨L, hA, hc⟩ := hf f (List.mem_of_getElem? hff)
    have hk : k < fs.length := (List.getElem?_eq_some_iff.mp hff).1
    refine ⟨wipe_one, f, L, List.getElem?_set_self (by rw [wipe_length]; exact hj), ?_⟩
    refine ask_no R hex tg (L.same hA (same_ext s1)) (fun Ha E sa fl => hc Ha E (s1.trans sa) fl) fun t H2 nt s2 e => ?_
    have nDt : t ≠ D := (ne_of_none hD nt).symm
    refine ⟨_, s2 _ _ hD, by rw [List.length_map, hlen]; exact Nat.lt_of_le_of_lt (show k ≤ 1000 by omega) (by decide), ts ++ [t], by rw [List.length_append, hlen]; rfl, by rw [upd_same, List.map_append]; rfl, fun t2 h2 => ?_, same_over (s1.trans s2) nD⟩
    rcases List.mem_append.mp h2 with h2 | h2
    · have e2 := hts t2 h2
      rw [upd_ne (ne_of e2 hD (by intro z; cases z))]
      exact s2 _ _ e2
    · rw [List.mem_singleton.mp h2, upd_ne nDt]
      exact e
  · rintro H1 ⟨ts, hlen, hD, hts, s1⟩
    rw [List.length_map] at hlen
    exact q ts H1 hlen hD hts s1
end
section
variable {P : Program} {w : World} {K : PySem.W.Frag} {mg : Str → Option Value} {base : Heap}
/-- such answers as data -/
def dErrs (m : Nat) (tag : Str) (z : Int) : PyData := .list (List.replicate m (.tuple [.str tag, .int z]))
end
section
variable {P : Program} {w : World} {K : PySem.W.Frag} {mg : Str → Option Value} {base : Heap}
theorem dp_errs {H : Hp} {tag : Str} {z : Int} : ∀ {ts : List Addr}, (∀ t ∈ ts, H t = some (.tup [.str tag, .int z])) → DpAll K H (ts.map V.ref) (List.replicate ts.length (.tuple [.str tag, .int z]))
  | [], _ => .nil
  | t :: r, h => .cons (.tup (SqT.of (h t List.mem_cons_self)) (.cons (.str _) (.cons (.int _) .nil))) (dp_errs fun u hu => h u (List.mem_cons_of_mem _ hu))
end
section
variable {P : Program} {w : World} {K : PySem.W.Frag} {mg : Str → Option Value} {base : Heap}
theorem shaped_errs {m : Nat} {tag : Str} (h : PyData.strOk tag = true) (hm : m ≤ 4) (z : Int) : SeqAt.shaped (dErrs m tag z) = true := by
  unfold SeqAt.shaped dErrs
  match m, hm with
  | 0, _ => simp [List.replicate, PyData.canLay0, PyData.canLayAll0, PyData.depth, PyData.depthAll, h]
  | 1, _ => simp [List.replicate, PyData.canLay0, PyData.canLayAll0, PyData.depth, PyData.depthAll, h]
  | 2, _ => simp [List.replicate, PyData.canLay0, PyData.canLayAll0, PyData.depth, PyData.depthAll, h]
  | 3, _ => simp [List.replicate, PyData.canLay0, PyData.canLayAll0, PyData.depth, PyData.depthAll, h]
  | 4, _ => simp [List.replicate, PyData.canLay0, PyData.canLayAll0, PyData.depth, PyData.depthAll, h]
end
abbrev sAbove : Stmt := topS 11
abbrev aboveN : List Str := ["forest", "one", "other", "path"]
theorem scAbove : FnScope aboveN ["forest", "one", "other"] (defScope sAbove) := ⟨rfl, rfl, rfl, by decide +kernel, rfl, by decide +kernel, by decide +kernel⟩
abbrev rootsN : List Str := ["forest", "node", "parent"]
abbrev kidsN : List Str := ["forest", "node", "child", "parent"]
abbrev subN : List Str := ["forest", "node", "low"]
theorem in_nats (u : Nat) : ∀ l : List Nat, inV (vi u) (natsV l) = decide (u ∈ l)
  | [] => by simp [inV, natsV]
  | x :: l => by
    have ih := in_nats u l
    unfold inV natsV at ih ⊢
    rw [List.map_cons, List.any_cons, ih]
    by_cases e : x = u
    · subst e
      simp [eqV]
    · have h1 : eqV (vi x) (vi u) = false := by
        simp only [eqV]
        simp
        omega
      rw [h1]
      simp [Ne.symm e]
def rootsL (n : Nat) (p : Nat → Nat) : List Nat := (List.range n).filter fun v => decide (p v = v)
def kidsL (n : Nat) (p : Nat → Nat) (v : Nat) : List Nat := (List.range n).filter fun c => decide (p c = v) && !decide (c = v)
def subL (n : Nat) (p : Nat → Nat) (v : Nat) : List Nat := (List.range n).filter fun x => decide (v ∈ path p n x)
theorem filt_le (n : Nat) (g : Nat → Bool) : ((List.range n).filter g).length ≤ n := Nat.le_trans (List.length_filter_le _ _) (by rw [List.length_range]; exact Nat.le_refl _)
theorem filt_succ (k : Nat) (g : Nat → Bool) : (List.range (k + 1)).filter g = (List.range k).filter g ++ if g k = true then [k] else [] := by
  rw [List.range_succ, List.filter_append]
  cases e : g k <;> simp [List.filter, e]
/-- one turn of a filter over nodes -/
theorem filt_turn {k : Nat} {g : Nat → Bool} {H : Hp} {D : Addr} (hk : k < 1000) (hD : H D = some (.lst (natsV ((List.range k).filter g)))) : (natsV ((List.range k).filter g)).length < sizeLine ∧
    (g k = true → ∀ y, y = vi k → upd H D (.lst (natsV ((List.range k).filter g) ++ [y])) D = some (.lst (natsV ((List.range (k + 1)).filter g)))) ∧ (g k = false → H D = some (.lst (natsV ((List.range (k + 1)).filter g)))) := by
  refine ⟨?_, fun e y hy => ?_, fun e => ?_⟩
  · have := filt_le k g
    rw [natsV_len]
    exact Nat.lt_of_le_of_lt (show _ ≤ 1000 by omega) (by decide)
  · rw [upd_same, hy, filt_succ, if_pos e]
    unfold natsV
    rw [List.map_append]
    rfl
  · rw [filt_succ, e]
    simp only [Bool.false_eq_true, if_false, List.append_nil]
    exact hD
def spRootsOf (K : PySem.W.Frag) : Sp := fun vs H Q _ => ∃ (a : Addr) (n : Nat) (p : Nat → Nat), vs = [.ref a] ∧ SqT K H a (tupOf n p) ∧ n ≤ 900 ∧ ∀ (q : Addr) H', H q = none → H' q = some (.lst (natsV (rootsL n p))) → Same H H' → Q (.ref q) H'
/-- a def of a node: its answer, or the node raised -/
def spNodeB (K : PySem.W.Frag) (C : Addr) (F : Nat → (Nat → Nat) → Nat → List Nat) : Sp := fun vs H Q E => ∃ (a : Addr) (n : Nat) (p r : Nat → Nat) (x : Int), vs = [.ref a, .int x] ∧ SqT K H a (tupOf n p) ∧ n ≤ 900 ∧ Fo n p r ∧
  ((∃ u : Nat, x = (u : Int) ∧ u < n ∧ ∀ (q : Addr) H', H q = none → H' q = some (.lst (natsV (F n p u))) → Same H H' → Q (.ref q) H') ∨ ((x < 0 ∨ (n : Int) ≤ x) ∧ x.natAbs.log2 < 1920 ∧ Flies H E C "node" "NoNode" (.int x)))
def spAboveB (K : PySem.W.Frag) (C : Addr) : Sp := fun vs H Q E => ∃ (a : Addr) (n : Nat) (p r : Nat → Nat) (x y : Int) (good : List Nat), vs = [.ref a, .int x, .int y] ∧ SqT K H a (tupOf n p) ∧ n ≤ 900 ∧ Fo n p r ∧
  NodesEnd [x, y] n good (∀ u v, good = [u, v] → ∀ H', Same H H' → Q (.bl (decide (u ≠ v) && decide (u ∈ path p n v))) H') (fun z => Flies H E C "node" "NoNode" (.int z))
section
variable {P : Program} {w : World} {K : PySem.W.Frag} {mg : Str → Option Value} {base : Heap}
theorem okB_above {f fC fP C : Addr} {fd fdC fdP : FuncData} (F : Fun K "is_above" "is_above" sAbove f fd) (k1 : KnX P w K mg base 5 "check_node" ["forest", "node"] (spOr (spChk K) (spChkX K C)) fC fdC) (k2 : KnX P w K mg base 6 "path_of" ["forest", "node"] (spOr (spPathOf K) (spChkX K C)) fP fdP) : FnOk P w K mg base (L2N.CX P w) 7 f fd ["forest", "one", "other"] (spAboveB K C) := by
  refine okN F scAbove (fun vs H Q E h => ?_) (fun cdv A outer s H vs Q E hr h tk => ?_)
  · obtain ⟨a, n, p, r, x, y, good, rfl, _⟩ := h
    rfl
  · obtain ⟨a, n, p, r, x, y, good, rfl, hS, hn, hF, hE⟩ := h
    refine ⟨_, pss_cons (ps_expr (pe_call k1.G (hr.mono (by decide)) (by rfl) k1.g k1.kp k1.b .nil (lookNE tk) (pa_cons (pv 0) (pa_cons (pv 1) pa_nil))))
      (pss_cons (ps_set (i := 3) scAbove.nd rfl (.inl rfl) (pe_call k2.G hr (by rfl) k2.g k2.kp k2.b .nil (lookNE tk) (pa_cons (pv 0) (pa_cons (pv 2) pa_nil))))
      (pss_one (ps_ret (pe_and (pe_cmpR op_ne (pv 1) (pv 2) (nomark _)) (pe_one (pe_cmpR (show OpR _ (compareOp .In) (rIn K false) from op_in_seq) (pv 1) (pv 3) (by rfl))))))), ?_⟩
    have h0 := hE.at (i := 0) (v := .int x) rfl (Nat.zero_le _)
    rcases h0 with ⟨u, hu0, ex, hu⟩ | ⟨z, ez, hz, hb, fl⟩
    case inr =>
      cases ez
      exact ⟨_, rfl, _, rfl, .inr ⟨a, _, x, rfl, .inr hS, by rw [tupOf_len]; exact hz, hb, fl⟩⟩
    obtain rfl : x = (u : Int) := by injection ex
    refine ⟨_, rfl, _, rfl, .inl ⟨a, _, u, rfl, .inr hS, by rw [tupOf_len]; exact hu, ?_⟩⟩
    have hl : 1 ≤ good.length := (List.getElem?_eq_some_iff.mp hu0).1
    have h1 := hE.at (i := 1) (v := .int y) rfl hl
    rcases h1 with ⟨v, hv0, ey, hv⟩ | ⟨z, ez, hz, hb, fl⟩
    case inr =>
      cases ez
      exact ⟨_, rfl, _, rfl, .inr ⟨a, _, y, rfl, .inr hS, by rw [tupOf_len]; exact hz, hb, fl⟩⟩
    obtain rfl : y = (v : Int) := by injection ey
    have hl2 : 2 ≤ good.length := (List.getElem?_eq_some_iff.mp hv0).1
    obtain ⟨ez, q⟩ := hE.done hl2
    have eg : good = [u, v] := by
      match good, ez, hu0, hv0 with
      | [a0, b0], _, hu0, hv0 =>
        cases hu0
        cases hv0
        rfl
    refine ⟨_, rfl, _, rfl, .inl ⟨a, n, p, r, v, rfl, .inr hS, by omega, hF, hv, fun pt H2 npt hpt s2 => ?_⟩⟩
    refine ⟨_, rfl, _, rfl, rfl, _, rfl, ?_⟩
    have qq := q u v eg H2 s2
    show if (!decide (vi u = vi v)) = true then _ else _
    by_cases e : u = v
    · rw [decide_eq_true (by rw [e])]
      refine iteF ?_
      rw [decide_eq_false (fun z => z e)] at qq
      exact qq
    · rw [decide_eq_false (fun z => e (by injection z with z; omega))]
      refine iteT ⟨_, rfl, _, rfl, pt, _, rfl, .inl (SqL.of hpt), rfl, flat_nats _, ?_⟩
      rw [decide_eq_true e, Bool.true_and, ← in_nats] at qq
      exact qq
end
abbrev sSizes : Stmt := topS 15
abbrev sizesN : List Str := ["one", "other"]
theorem scSizes : FnScope sizesN ["one", "other"] (defScope sSizes) := ⟨rfl, rfl, rfl, by decide +kernel, rfl, by decide +kernel, by decide +kernel⟩
abbrev sRoots2 : Stmt := topS 16
abbrev roots2N : List Str := ["one", "other", "node"]
theorem scRoots2 : FnScope roots2N ["one", "other"] (defScope sRoots2) := ⟨rfl, rfl, rfl, by decide +kernel, rfl, by decide +kernel, by decide +kernel⟩
abbrev sChg : Stmt := topS 17
abbrev chgN : List Str := ["one", "other", "node"]
theorem scChg : FnScope chgN ["one", "other"] (defScope sChg) := ⟨rfl, rfl, rfl, by decide +kernel, rfl, by decide +kernel, by decide +kernel⟩
abbrev sBarr : Stmt := topS 18
abbrev barrN : List Str := ["one", "other", "changed", "path", "node"]
theorem scBarr : FnScope barrN ["one", "other", "changed"] (defScope sBarr) := ⟨rfl, rfl, rfl, by decide +kernel, rfl, by decide +kernel, by decide +kernel⟩
abbrev sBar : Stmt := topS 19
abbrev barN : List Str := ["one", "other", "changed", "barring"]
theorem scBar : FnScope barN ["one", "other"] (defScope sBar) := ⟨rfl, rfl, rfl, by decide +kernel, rfl, by decide +kernel, by decide +kernel⟩
abbrev holdsN : List Str := ["one", "other", "bar", "changed", "node"]
abbrev sNeed : Stmt := topS 20
abbrev needN : List Str := ["one", "other", "bar", "node"]
theorem scNeed : FnScope needN ["one", "other"] (defScope sNeed) := ⟨rfl, rfl, rfl, by decide +kernel, rfl, by decide +kernel, by decide +kernel⟩
abbrev sIsN : Stmt := topS 21
abbrev isNN : List Str := ["one", "other", "node", "changed", "low"]
theorem scIsN : FnScope isNN ["one", "other", "node"] (defScope sIsN) := ⟨rfl, rfl, rfl, by decide +kernel, rfl, by decide +kernel, by decide +kernel⟩
abbrev sCntW : Stmt := topS 22
abbrev cntWN : List Str := ["one", "other", "many"]
theorem scCntW : FnScope cntWN ["one", "other"] (defScope sCntW) := ⟨rfl, rfl, rfl, by decide +kernel, rfl, by decide +kernel, by decide +kernel⟩
abbrev wCostN : List Str := ["one", "other"]
abbrev flatN : List Str := ["forest", "node"]
abbrev sameTN : List Str := ["one", "other"]
/-- two forests -/
structure Two (K : PySem.W.Frag) (H : Hp) (a b : Addr) (n m : Nat) (p q r r' : Nat → Nat) : Prop where
  sa : SqT K H a (tupOf n p)
  sb : SqT K H b (tupOf m q)
  ln : n ≤ 60
  lm : m ≤ 60
  fa : Fo n p r
  fb : Fo m q r'
theorem Two.same {K : PySem.W.Frag} {H H' : Hp} {a b : Addr} {n m : Nat} {p q r r' : Nat → Nat} (h : Two K H a b n m p q r r') (e : Same H H') : Two K H' a b n m p q r r' := ⟨same_sqt e h.sa, same_sqt e h.sb, h.ln, h.lm, h.fa, h.fb⟩
def unlB (p q : Nat → Nat) (v : Nat) : Bool := decide (p v = v) != decide (q v = v)
def unlL (n : Nat) (p q : Nat → Nat) : List Nat := (List.range n).filter (unlB p q)
/-- sizes and roots that differ, or neither -/
def WayE (CS CR : Addr) (n m : Nat) (p q : Nat → Nat) (H : Hp) (E : XK) (ok : Prop) : Prop :=
  (n ≠ m ∧ Flies H E CS "size" "SizesDiffer" (vi m)) ∨ (n = m ∧ ∃ v rest, unlL n p q = v :: rest ∧ Flies H E CR "node" "RootsDiffer" (vi v)) ∨ (n = m ∧ unlL n p q = [] ∧ ok)
theorem WayE.imp {CS CR : Addr} {n m : Nat} {p q : Nat → Nat} {H : Hp} {E : XK} {ok ok' : Prop} (w : WayE CS CR n m p q H E ok) (h : ok → ok') : WayE CS CR n m p q H E ok' := by
  rcases w with w | w | ⟨w1, w2, w3⟩
  · exact .inl w
  · exact .inr (.inl w)
  · exact .inr (.inr ⟨w1, w2, h w3⟩)
theorem unl_nil {n : Nat} {p q : Nat → Nat} (h : unlL n p q = []) (v : Nat) (hv : v < n) : p v = v ↔ q v = v := by
  have z := List.filter_eq_nil_iff.mp h v (List.mem_range.mpr hv)
  unfold unlB at z
  simpa using z
theorem unl_of {n : Nat} {p q : Nat → Nat} (h : ∀ v, v < n → (p v = v ↔ q v = v)) : unlL n p q = [] := List.filter_eq_nil_iff.mpr fun v hv => by
  unfold unlB
  simp [h v (List.mem_range.mp hv)]
def chgL (n : Nat) (p q : Nat → Nat) : List Nat := (List.range n).filter (chg p q)
def barsOf (n : Nat) (p q : Nat → Nat) (x : Nat) : List Nat := (ups p n x).filter fun v => decide (q v ≠ root p n x)
def barL (n : Nat) (p q : Nat → Nat) : List (Nat × Nat) := (chgL n p q).flatMap fun x => (barsOf n p q x).map fun v => (x, v)
def spSizesB (K : PySem.W.Frag) (CS : Addr) : Sp := fun vs H Q E => ∃ (a b : Addr) (xs ys : List V), vs = [.ref a, .ref b] ∧ SqT K H a xs ∧ SqT K H b ys ∧ ys.length ≤ 1000 ∧ ((xs.length ≠ ys.length ∧ Flies H E CS "size" "SizesDiffer" (vi ys.length)) ∨ (xs.length = ys.length ∧ Q .non H))
def spRoots2B (K : PySem.W.Frag) (CR : Addr) : Sp := fun vs H Q E => ∃ (a b : Addr) (n : Nat) (p q : Nat → Nat), vs = [.ref a, .ref b] ∧ SqT K H a (tupOf n p) ∧ SqT K H b (tupOf n q) ∧ n ≤ 60 ∧ ((∃ v rest, unlL n p q = v :: rest ∧ Flies H E CR "node" "RootsDiffer" (vi v)) ∨ (unlL n p q = [] ∧ Q .non H))
def spTwoB (K : PySem.W.Frag) (CS CR : Addr) (ok : Nat → (Nat → Nat) → (Nat → Nat) → Hp → VK → XK → Prop) : Sp := fun vs H Q E => ∃ (a b : Addr) (n m : Nat) (p q r r' : Nat → Nat), vs = [.ref a, .ref b] ∧ Two K H a b n m p q r r' ∧ WayE CS CR n m p q H E (ok n p q H Q E)
def okChg (n : Nat) (p q : Nat → Nat) (H : Hp) (Q : VK) (E : XK) : Prop := ∀ (l : Addr) H', H l = none → H' l = some (.lst (natsV (chgL n p q))) → Same H H' → Q (.ref l) H'
def okBar (n : Nat) (p q : Nat → Nat) (H : Hp) (Q : VK) (E : XK) : Prop := (barL n p q = [] → ∀ H', Same H H' → Q .non H') ∧ ∀ x v rest, barL n p q = (x, v) :: rest → ∀ (t : Addr) H', H t = none → H' t = some (.tup [vi x, vi v]) → Same H H' → Q (.ref t) H'
def okNeed (CN : Addr) (n : Nat) (p q : Nat → Nat) (H : Hp) (Q : VK) (E : XK) : Prop := (barL n p q = [] → ∀ (l : Addr) H', H l = none → H' l = some (.lst (natsV (needS n p q))) → Same H H' → Q (.ref l) H') ∧ ∀ x v rest, barL n p q = (x, v) :: rest → Flies H E CN "node" "NoWay" (vi x)
def okCntW (CN : Addr) (n : Nat) (p q : Nat → Nat) (H : Hp) (Q : VK) (E : XK) : Prop := (barL n p q = [] → ∀ H', Same H H' → Q (.int (fall ((needS n p q).length : Int) ((needS n p q).length : Int))) H') ∧ ∀ x v rest, barL n p q = (x, v) :: rest → Flies H E CN "node" "NoWay" (vi x)
def okWCost (CN : Addr) (n : Nat) (p q : Nat → Nat) (H : Hp) (Q : VK) (E : XK) : Prop := (barL n p q = [] → ∀ H', Same H H' → Q (vi (costs n (needS n p q) p).sum) H') ∧ ∀ x v rest, barL n p q = (x, v) :: rest → Flies H E CN "node" "NoWay" (vi x)
def spSameTB (K : PySem.W.Frag) (CS : Addr) : Sp := fun vs H Q E => ∃ (a b : Addr) (n m : Nat) (p q r r' : Nat → Nat), vs = [.ref a, .ref b] ∧ Two K H a b n m p q r r' ∧ ((n ≠ m ∧ Flies H E CS "size" "SizesDiffer" (vi m)) ∨ (n = m ∧ ∀ H', Same H H' → Q (.bl (decide (∀ v, v < n → root p n v = root q n v))) H'))
def okSameT (n : Nat) (p q : Nat → Nat) (H : Hp) (Q : VK) (E : XK) : Prop := ∀ H', Same H H' → Q (.bl (decide (∀ v, v < n → root p n v = root q n v))) H'
/-- whether an integer is a needed node -/
def needZ (n : Nat) (p q : Nat → Nat) (x : Int) : Bool := decide (0 ≤ x ∧ x < (n : Int)) && needB n p q x.toNat
def barZ (n : Nat) (p q : Nat → Nat) (x y : Int) : Bool := (barL n p q).any fun b => decide (x = (b.1 : Int)) && decide (y = (b.2 : Int))
def spIsNB (K : PySem.W.Frag) (CS CR : Addr) : Sp := fun vs H Q E => ∃ (a b : Addr) (n m : Nat) (p q r r' : Nat → Nat) (x : Int), vs = [.ref a, .ref b, .int x] ∧ Two K H a b n m p q r r' ∧ WayE CS CR n m p q H E (∀ H', Same H H' → Q (.bl (needZ n p q x)) H')
def spHoldsB (K : PySem.W.Frag) (CS CR : Addr) : Sp := fun vs H Q E => ∃ (a b c : Addr) (n m : Nat) (p q r r' : Nat → Nat) (x y : Int), vs = [.ref a, .ref b, .ref c] ∧ SqT K H c [.int x, .int y] ∧ Two K H a b n m p q r r' ∧ WayE CS CR n m p q H E (∀ H', Same H H' → Q (.bl (barZ n p q x y)) H')
def spBarr (K : PySem.W.Frag) : Sp := fun vs H Q _ => ∃ (a b : Addr) (n : Nat) (p q r : Nat → Nat) (x : Nat), vs = [.ref a, .ref b, vi x] ∧ SqT K H a (tupOf n p) ∧ SqT K H b (tupOf n q) ∧ n ≤ 60 ∧ Fo n p r ∧ x < n ∧ ∀ (l : Addr) H', H l = none → H' l = some (.lst (natsV (barsOf n p q x))) → Same H H' → Q (.ref l) H'
def spFlat (K : PySem.W.Frag) : Sp := fun vs H Q _ => ∃ (a : Addr) (n : Nat) (p r : Nat → Nat), vs = [.ref a] ∧ SqT K H a (tupOf n p) ∧ n ≤ 60 ∧ Fo n p r ∧ ∀ (t : Addr) H', H t = none → H' t = some (.tup (tupOf n fun v => root p n v)) → Same H H' → Q (.ref t) H'
theorem path_cut (p : Nat → Nat) (k x : Nat) : cutV (natsV (path p k x)) none (some (-1)) = natsV (ups p k x) := cut_last _ _
theorem prt_vi {n : Nat} (h : n ≤ 2000000000) : Prt (vi n) := ⟨n, rfl, bits_ok (by omega) (by omega)⟩
theorem flat_first {β : Type} (f : Nat → List β) {b : β} {r : List β} : ∀ (l : List Nat) (i : Nat) (hi : i < l.length), (∀ j, j < i → f (l.getD j 0) = []) → f l[i] = b :: r → ∃ rest, l.flatMap f = b :: rest
  | [], i, hi, _, _ => by simp at hi
  | x :: l, 0, hi, _, h => ⟨r ++ l.flatMap f, by rw [List.flatMap_cons]; show f x ++ _ = _; rw [show f x = b :: r from h]; rfl⟩
  | x :: l, i + 1, hi, h0, h => by
    have hx : f x = [] := h0 0 (by omega)
    obtain ⟨rest, e⟩ := flat_first f l i (by simpa using hi) (fun j hj => h0 (j + 1) (by omega)) h
    exact ⟨rest, by rw [List.flatMap_cons, hx]; exact e⟩
theorem flat_none {β : Type} (f : Nat → List β) : ∀ (l : List Nat), (∀ j, j < l.length → f (l.getD j 0) = []) → l.flatMap f = []
  | [], _ => rfl
  | x :: l, h => by
    have hx : f x = [] := h 0 (by simp)
    rw [List.flatMap_cons, hx]
    exact flat_none f l fun j hj => h (j + 1) (by simpa using hj)
theorem inV_int (x : Int) : ∀ l : List Nat, inV (.int x) (natsV l) = l.any fun u => decide (x = (u : Int))
  | [] => rfl
  | y :: l => by
    have ih := inV_int x l
    unfold inV natsV at ih ⊢
    rw [List.map_cons, List.any_cons, List.any_cons, ih]
    by_cases e : x = (y : Int)
    · subst e; simp [eqV]
    · have h1 : eqV (vi y) (.int x) = false := by
        simp only [eqV]
        simp
        omega
      rw [h1, decide_eq_false e]
theorem barL_way {n : Nat} {p q : Nat → Nat} {r : Nat → Nat} (F : Fo n p r) : barL n p q = [] ↔ Way n p q := by
  unfold barL Way
  rw [List.flatMap_eq_nil_iff]
  constructor
  · intro h v hv hc u hu
    have h1 := h v (List.mem_filter.mpr ⟨List.mem_range.mpr hv, hc⟩)
    have h2 : barsOf n p q v = [] := List.map_eq_nil_iff.mp h1
    have h3 := List.filter_eq_nil_iff.mp h2 u hu
    rw [(ups_lt F v hv u hu).2.2.1]
    simpa using h3
  · intro h v hv
    obtain ⟨hv1, hv2⟩ := List.mem_filter.mp hv
    have hv1 := List.mem_range.mp hv1
    refine List.map_eq_nil_iff.mpr (List.filter_eq_nil_iff.mpr fun u hu => ?_)
    have h3 := h v hv1 hv2 u hu
    rw [(ups_lt F v hv1 u hu).2.2.1] at h3
    simpa using h3
theorem chgL_lt {n : Nat} {p q : Nat → Nat} {v : Nat} (h : v ∈ chgL n p q) : v < n := List.mem_range.mp (List.mem_filter.mp h).1
theorem chgL_len (n : Nat) (p q : Nat → Nat) : (chgL n p q).length ≤ n := filt_le n _
theorem nats_get {l : List Nat} {i : Nat} {y : V} (h : (natsV l)[i]? = some y) : ∃ hi : i < l.length, y = vi l[i] := by
  have hil : i < l.length := by have := (List.getElem?_eq_some_iff.mp h).1; rwa [natsV_len] at this
  unfold natsV at h
  rw [List.getElem?_map, List.getElem?_eq_getElem hil] at h
  exact ⟨hil, (Option.some.inj h).symm⟩
theorem any_mem {f g : Nat → Bool} : ∀ {l : List Nat}, (∀ x ∈ l, f x = g x) → l.any f = l.any g
  | [], _ => rfl
  | x :: l, h => by rw [List.any_cons, List.any_cons, h x List.mem_cons_self, any_mem fun y hy => h y (List.mem_cons_of_mem _ hy)]
/-- is_needed, by what is above -/
theorem need_any {n : Nat} {p q r : Nat → Nat} (F : Fo n p r) (hr : ∀ v, v < n → (p v = v ↔ q v = v)) {v : Nat} (hv : v < n) (hc : chg p q v = true) : (!((chgL n p q).map fun u => decide (v ≠ u) && decide (v ∈ path p n u)).any id) = needB n p q v := by
  have nr : p v ≠ v := fun z => by
    have := chg_iff.mp hc
    rw [z, (hr v hv).mp z] at this
    exact this rfl
  unfold needB
  rw [hc, Bool.true_and, List.any_map]
  unfold chgL
  rw [List.any_filter]
  congr 1
  refine any_mem fun u hu => ?_
  have hu := List.mem_range.mp hu
  show (chg p q u && (decide (v ≠ u) && decide (v ∈ path p n u))) = _
  have e : decide (v ∈ path p n u) = (ups p n u).contains v := by
    rw [Bool.eq_iff_iff, decide_eq_true_iff, List.contains_iff_mem]
    unfold path
    rw [List.mem_append, List.mem_singleton]
    constructor
    · rintro (h | h)
      · exact h
      · exact absurd (by rw [h]; exact root_fix F u hu) nr
    · exact .inl
  rw [e]
section
variable {P : Program} {w : World} {K : PySem.W.Frag} {mg : Str → Option Value} {base : Heap}
theorem okB_sizes {f CS : Addr} {fd : FuncData} (F : Fun K "check_sizes" "check_sizes" sSizes f fd) (T : Tx mg) (RS : Raisable P w K mg base 2 "SizesDiffer" CS "size" "SizesDiffer") : FnOk P w K mg base (L2N.CX P w) 4 f fd ["one", "other"] (spSizesB K CS) := by
  refine okN F scSizes (fun vs H Q E h => ?_) (fun cdv A outer s H vs Q E hr h tk => ?_)
  · obtain ⟨a, b, xs, ys, rfl, _⟩ := h
    rfl
  · obtain ⟨a, b, xs, ys, rfl, ha, hb, hl, h⟩ := h
    have hrm : ∀ {j : Nat}, j ≤ 3 → Room j (A.deeper (envOfC "check_sizes" (defScope sSizes) s.heap.objs.size f cdv)) := fun h => hr.mono h
    refine ⟨_, (pss_one (ps_if (pt_cmpR op_ne (pe_callB call_len_seq (by rfl) T.len PySem.boot_len (pa_cons (pv 0) pa_nil)) (pe_callB call_len_seq (by rfl) T.len PySem.boot_len (pa_cons (pv 1) pa_nil)) (nomark _))
        (pss_one (L2N.ps_raise rfl tk (pmk_err RS (hrm (by decide)) (by rfl) (pe_callB call_len_seq (by rfl) T.len PySem.boot_len (pa_cons (pv 1) pa_nil))))) pss_nil)), ?_⟩
    refine ⟨_, rfl, a, _, rfl, .inr ha, _, rfl, b, _, rfl, .inr hb, rfl, _, rfl, ?_⟩
    show if (!decide (V.int (xs.length : Int) = V.int (ys.length : Int))) = true then _ else _
    rcases h with ⟨ne, fl⟩ | ⟨e, q⟩
    · rw [decide_eq_false (fun z => ne (by injection z with z; omega))]
      exact iteT ⟨_, rfl, b, _, rfl, .inr hb, _, rfl, prt_vi (by omega), fl⟩
    · rw [decide_eq_true (by rw [e])]
      exact iteF q
end
section
variable {P : Program} {w : World} {K : PySem.W.Frag} {mg : Str → Option Value} {base : Heap}
theorem okB_roots2 {f CR : Addr} {fd : FuncData} (F : Fun K "check_roots" "check_roots" sRoots2 f fd) (T : Tx mg) (RR : Raisable P w K mg base 2 "RootsDiffer" CR "node" "RootsDiffer") : FnOk P w K mg base (L2N.CX P w) 4 f fd ["one", "other"] (spRoots2B K CR) := by
  refine okN F scRoots2 (fun vs H Q E h => ?_) (fun cdv A outer s H vs Q E hr h tk => ?_)
  · obtain ⟨a, b, n, p, q, rfl, _⟩ := h
    rfl
  · obtain ⟨a, b, n, p, q, rfl, ha, hb, hl, h⟩ := h
    have hrm : ∀ {j : Nat}, j ≤ 3 → Room j (A.deeper (envOfC "check_roots" (defScope sRoots2) s.heap.objs.size f cdv)) := fun h => hr.mono h
    refine ⟨_, (pss_one (ps_for PassesOwn.leaving rfl (pi_range1 (by rfl) T.range (pa_cons (pe_callB call_len_seq (by rfl) T.len PySem.boot_len (pa_cons (pv 0) pa_nil)) pa_nil)) (pg_name (i := 2) scRoots2.nd rfl (.inl rfl))
        (pss_one (ps_if (pt_cmpR op_ne (pe_cmpR op_eq (pe_ix (show IxR _ (rIx K) from ix_seq) (pv 0) (pv 2) (fun _ _ => rfl)) (pv 2) (nomark _)) (pe_cmpR op_eq (pe_ix (show IxR _ (rIx K) from ix_seq) (pv 1) (pv 2) (fun _ _ => rfl)) (pv 2) (nomark _)) (nomark _))
          (pss_one (L2N.ps_raise rfl tk (pmk_err RR (hrm (by decide)) (by rfl) (pv 2)))) pss_nil)))), ?_⟩
    refine ⟨_, rfl, a, _, rfl, .inr ha, _, rfl, by rw [tupOf_len]; omega, by rw [tupOf_len]; omega, ?_⟩
    rw [tupOf_len]
    refine for_range (lo := 0) (n := ((n : Nat) : Int).toNat) (fun i σ H' => (∃ y, σ = [some (.ref a), some (.ref b), y]) ∧ H' = H ∧ ∀ v, v < i → unlB p q v = false) ⟨⟨_, rfl⟩, rfl, fun v hv => by omega⟩ ?_ ?_
    · rintro i σ H' hi ⟨⟨y, rfl⟩, rfl, hu⟩
      have hin : i < n := by omega
      have ea : atI (tupOf n p) (0 + (i : Int)) = some (vi (p i)) := by rw [Int.zero_add]; exact atI_nat (tupOf_at hin)
      have eb : atI (tupOf n q) (0 + (i : Int)) = some (vi (q i)) := by rw [Int.zero_add]; exact atI_nat (tupOf_at hin)
      refine ⟨_, rfl, _, rfl, Sq.ix (.inr ha) ea ⟨_, rfl, rfl, _, rfl, _, rfl, Sq.ix (.inr hb) eb ⟨_, rfl, rfl, rfl, _, rfl, ?_⟩⟩⟩
      have e1 : decide (vi (p i) = V.int (0 + (i : Int))) = decide (p i = i) := by
        refine decide_eq_decide.mpr ⟨fun z => by injection z with z; omega, fun z => by rw [z, Int.zero_add]⟩
      have e2 : decide (vi (q i) = V.int (0 + (i : Int))) = decide (q i = i) := by
        refine decide_eq_decide.mpr ⟨fun z => by injection z with z; omega, fun z => by rw [z, Int.zero_add]⟩
      show if (!decide (V.bl (decide (vi (p i) = V.int (0 + (i : Int)))) = V.bl (decide (vi (q i) = V.int (0 + (i : Int)))))) = true then _ else _
      rw [e1, e2]
      have e3 : (!decide (V.bl (decide (p i = i)) = V.bl (decide (q i = i)))) = unlB p q i := by
        unfold unlB
        cases decide (p i = i) <;> cases decide (q i = i) <;> rfl
      rw [e3]
      cases eu : unlB p q i with
      | false =>
        refine iteF ⟨⟨_, rfl⟩, rfl, fun v hv => ?_⟩
        by_cases e : v = i
        · rw [e]; exact eu
        · exact hu v (by omega)
      | true =>
        obtain ⟨rest, hf⟩ := filt_first hin hu eu
        refine iteT ⟨_, rfl, _, rfl, ?_, ?_⟩
        · rw [Int.zero_add]; exact prt_vi (by omega)
        · rw [Int.zero_add]
          rcases h with ⟨v, rest', e, fl⟩ | ⟨e, q⟩
          · unfold unlL at e
            rw [hf] at e
            injection e with e _
            rw [e]; exact fl
          · unfold unlL at e
            rw [hf] at e; cases e
    · rintro σ H' ⟨⟨y, rfl⟩, rfl, hu⟩
      have e0 : unlL n p q = [] := filt_none fun v hv => hu v (by omega)
      rcases h with ⟨v, rest', e, fl⟩ | ⟨e, q⟩
      · rw [e0] at e; cases e
      · exact q
end
section
variable {P : Program} {w : World} {K : PySem.W.Frag} {mg : Str → Option Value} {base : Heap}
theorem okB_chg {f fS fR CS CR : Addr} {fd fdS fdR : FuncData} (F : Fun K "changed_nodes" "changed_nodes" sChg f fd) (kS : KnX P w K mg base 4 "check_sizes" ["one", "other"] (spSizesB K CS) fS fdS) (kR : KnX P w K mg base 4 "check_roots" ["one", "other"] (spRoots2B K CR) fR fdR) (T : Tx mg) : FnOk P w K mg base (L2N.CX P w) 5 f fd ["one", "other"] (spTwoB K CS CR okChg) := by
  refine okN F scChg (fun vs H Q E h => ?_) (fun cdv A outer s H vs Q E hr h tk => ?_)
  · obtain ⟨a, b, n, m, p, q, r, r', rfl, _⟩ := h
    rfl
  · obtain ⟨a, b, n, m, p, q, r, r', rfl, h2, h⟩ := h
    have hrm : ∀ {j : Nat}, j ≤ 4 → Room j (A.deeper (envOfC "changed_nodes" (defScope sChg) s.heap.objs.size f cdv)) := fun h => hr.mono h
    refine ⟨_, (pss_cons (ps_expr (pe_call kS.G (hrm (by decide)) (by rfl) kS.g kS.kp kS.b .nil (lookNE tk) (pa_cons (pv 0) (pa_cons (pv 1) pa_nil))))
      (pss_cons (ps_expr (pe_call kR.G (hrm (by decide)) (by rfl) kR.g kR.kp kR.b .nil (lookNE tk) (pa_cons (pv 0) (pa_cons (pv 1) pa_nil))))
      (pss_one (ps_ret (pe_lc (own := [("node", 2)]) (g := gName 2) (by rfl) scChg.nd (pi_range1 (by rfl) T.range (pa_cons (pe_callB call_len_seq (by rfl) T.len PySem.boot_len (pa_cons (pv 0) pa_nil)) pa_nil)) (blkOk_by (own := [("node", 2)]) (N := chgN) (sc := defScope sChg) (by decide +kernel)) (fun _ _ _ _ _ => (pg_name (i := 2) scChg.nd rfl (.inl rfl))) (fun _ _ _ _ _ => (pts_one (pt_cmpR op_ne (pe_ix (show IxR _ (rIx K) from ix_seq) (pv 0) (pv 2) (fun _ _ => rfl)) (pe_ix (show IxR _ (rIx K) from ix_seq) (pv 1) (pv 2) (fun _ _ => rfl)) (nomark _)))) (fun _ _ _ _ _ => (pv 2))))))), ?_⟩
    have lm := h2.lm
    have ln := h2.ln
    rcases h with ⟨ne, fl⟩ | h0
    · exact ⟨_, rfl, _, rfl, a, b, _, _, rfl, h2.sa, h2.sb, by rw [tupOf_len]; omega, .inl ⟨by rw [tupOf_len, tupOf_len]; exact ne, by rw [tupOf_len]; exact fl⟩⟩
    obtain ⟨e, h⟩ : n = m ∧ ((∃ v rest, unlL n p q = v :: rest ∧ Flies H E CR "node" "RootsDiffer" (vi v)) ∨ (unlL n p q = [] ∧ okChg n p q H Q E)) := by
      rcases h0 with ⟨e, h⟩ | ⟨e, h⟩
      · exact ⟨e, .inl h⟩
      · exact ⟨e, .inr h⟩
    clear h0
    subst e
    refine ⟨_, rfl, _, rfl, a, b, _, _, rfl, h2.sa, h2.sb, by rw [tupOf_len]; omega, .inr ⟨by rw [tupOf_len, tupOf_len], ?_⟩⟩
    refine ⟨_, rfl, _, rfl, a, b, n, p, q, rfl, h2.sa, h2.sb, ln, ?_⟩
    rcases h with h | ⟨hu, ok⟩
    · exact .inl h
    refine .inr ⟨hu, ?_⟩
    refine ⟨_, rfl, a, _, rfl, .inr h2.sa, _, rfl, by rw [tupOf_len]; omega, by rw [tupOf_len]; omega, fun D nD => ?_⟩
    rw [tupOf_len]
    refine lc_range (lo := 0) (n := ((n : Nat) : Int).toNat) (fun i H' => H' D = some (.lst (natsV ((List.range i).filter (chg p q)))) ∧ Same H H') ⟨upd_same, same_new nD⟩ ?_ ?_
    · rintro i H' hi ⟨hD, sm⟩
      have hin : i < n := by omega
      obtain ⟨f1, f2, f3⟩ := filt_turn (k := i) (g := chg p q) (by omega) hD
      have ea : atI (tupOf n p) (0 + (i : Int)) = some (vi (p i)) := by rw [Int.zero_add]; exact atI_nat (tupOf_at hin)
      have eb : atI (tupOf n q) (0 + (i : Int)) = some (vi (q i)) := by rw [Int.zero_add]; exact atI_nat (tupOf_at hin)
      refine ⟨rfl, _, rfl, _, rfl, Sq.ix (.inr (same_sqt sm h2.sa)) ea ⟨_, rfl, _, rfl, Sq.ix (.inr (same_sqt sm h2.sb)) eb ⟨rfl, _, rfl, ?_⟩⟩⟩
      show if (!decide (vi (p i) = vi (q i))) = true then _ else _
      by_cases e : p i = q i
      · rw [decide_eq_true (by rw [e])]
        exact iteF ⟨f3 (by unfold chg; simp [e]), sm⟩
      · rw [decide_eq_false (fun z => e (by injection z with z; omega))]
        exact iteT ⟨_, rfl, _, hD, f1, f2 (by unfold chg; simp [e]) _ (by rw [Int.zero_add]), same_over sm nD⟩
    · rintro H' ⟨hD, sm⟩
      rw [show ((n : Nat) : Int).toNat = n by omega] at hD
      exact ok D H' nD hD sm
end
section
variable {P : Program} {w : World} {K : PySem.W.Frag} {mg : Str → Option Value} {base : Heap}
theorem ok_barr {f fP : Addr} {fd fdP : FuncData} (F : Fun K "barring_nodes" "barring_nodes" sBarr f fd) (kP : Kn P w K mg base 3 "path_of" sPathOf ["forest", "node"] (spPathOf K) fP fdP) : FnOk P w K mg base CX0 4 f fd ["one", "other", "changed"] (spBarr K) := by
  refine F.ok scBarr (fun vs H Q E h => ?_) (fun cdv A outer s H vs Q E hr h => ?_)
  · obtain ⟨a, b, n, p, q, r, x, rfl, _⟩ := h
    rfl
  · obtain ⟨a, b, n, p, q, r, x, rfl, ha, hb, hn, hF, hx, ok⟩ := h
    have hrm : ∀ {j : Nat}, j ≤ 3 → Room j (A.deeper (envOfC "barring_nodes" (defScope sBarr) s.heap.objs.size f cdv)) := fun h => hr.mono h
    refine ⟨_, (pss_cons (ps_set (i := 3) scBarr.nd rfl (.inr rfl) (pe_call kP.G (hrm (by decide)) (by rfl) kP.g kP.F.kp kP.b .nil pass0 (pa_cons (pv 0) (pa_cons (pv 2) pa_nil))))
      (pss_one (ps_ret (pe_lc (own := [("node", 4)]) (g := gName 4) (by rfl) scBarr.nd (pi_list (pe_slice sl_list (pv 3) po_none (po_some (pe_un un_neg pe_int)))) (blkOk_by (own := [("node", 4)]) (N := barrN) (sc := defScope sBarr) (by decide +kernel)) (fun _ _ _ _ _ => (pg_name (i := 4) scBarr.nd rfl (.inl rfl))) (fun _ _ _ _ _ => (pts_one (pt_cmpR op_ne (pe_ix (show IxR _ (rIx K) from ix_seq) (pv 1) (pv 4) (fun _ _ => rfl)) (pe_ix (show IxR _ (rIx K) from ix_seq) (pv 3) (pe_un un_neg pe_int) (fun _ _ => rfl)) (nomark _)))) (fun _ _ _ _ _ => (pv 4)))))), ?_⟩
    refine ⟨_, rfl, _, rfl, a, n, p, r, x, rfl, .inr ha, by omega, hF, hx, fun pt H1 npt hpt s1 => ?_⟩
    refine ⟨_, rfl, 1, rfl, _, rfl, pt, _, rfl, SqL.of hpt, fun sl nsl => ?_⟩
    have s2 := same_new (o := .lst (cutV (natsV (path p n x)) none (some (-1)))) nsl
    rw [path_cut] at s2
    refine ⟨sl, rfl, ⟨_, SqL.of upd_same⟩, fun D nD => ?_⟩
    have hsl : (upd H1 sl (.lst (cutV (natsV (path p n x)) none (some (-1))))) sl = some (.lst (natsV (ups p n x))) := by rw [path_cut]; exact upd_same
    rw [path_cut] at hsl nD ⊢
    generalize hH2 : upd H1 sl (.lst (natsV (ups p n x))) = H2 at s2 nD hsl ⊢
    have s12 := s1.trans s2
    refine lc_list (K := K) (a := sl) (xs := natsV (ups p n x)) (fun i H' => H' D = some (.lst (natsV (((ups p n x).take i).filter fun v => decide (q v ≠ root p n x)))) ∧ Same H2 H') ⟨upd_same, same_new nD⟩ (fun i H' _ h => SqL.of (h.2 _ _ hsl)) ?_ ?_
    · rintro i y H' hy ⟨hD, sm⟩
      have hil : i < (ups p n x).length := by have := (List.getElem?_eq_some_iff.mp hy).1; rwa [natsV_len] at this
      have hyv : y = vi ((ups p n x)[i]) := by
        unfold natsV at hy
        rw [List.getElem?_map, List.getElem?_eq_getElem hil] at hy
        exact (Option.some.inj hy).symm
      subst hyv
      have hv : (ups p n x)[i] < n := (ups_lt hF x hx _ (List.getElem_mem hil)).1
      generalize hvv : (ups p n x)[i] = v at hv
      have tk1 : (ups p n x).take (i + 1) = (ups p n x).take i ++ [v] := by rw [← hvv, List.take_succ, List.getElem?_eq_getElem hil]; rfl
      refine ⟨rfl, _, rfl, _, rfl, Sq.ix (.inr (same_sqt (s12.trans sm) hb)) (atI_nat (tupOf_at hv)) ⟨_, rfl, 1, rfl, Sq.ix (.inl (SqL.of (sm _ _ (s2 _ _ hpt)))) (natsV_last p n x) ⟨rfl, _, rfl, ?_⟩⟩⟩
      show if (!decide (vi (q v) = vi (root p n x))) = true then _ else _
      rw [tk1, List.filter_append]
      by_cases e : q v = root p n x
      · rw [decide_eq_true (by rw [e])]
        refine iteF ⟨?_, sm⟩
        simpa [List.filter, e] using hD
      · rw [decide_eq_false (fun z => e (by injection z with z; omega))]
        refine iteT ⟨_, rfl, _, hD, ?_, ?_, same_over sm nD⟩
        · rw [natsV_len]
          have h1 := List.length_filter_le (fun v => decide (q v ≠ root p n x)) ((ups p n x).take i)
          have h2 := ups_len0 p n x
          rw [List.length_take] at h1
          exact Nat.lt_of_le_of_lt (show _ ≤ 1000 by omega) (by decide)
        · rw [upd_same]
          simp [List.filter, e, natsV]
    · rintro H' ⟨hD, sm⟩
      rw [natsV_len, List.take_length] at hD
      exact ok D H' (sm_none s12 nD) hD (s12.trans sm)
end
section
variable {P : Program} {w : World} {K : PySem.W.Frag} {mg : Str → Option Value} {base : Heap}
theorem okB_bar {f fC fB CS CR : Addr} {fd fdC fdB : FuncData} (F : Fun K "find_bar" "find_bar" sBar f fd) (kC : KnX P w K mg base 5 "changed_nodes" ["one", "other"] (spTwoB K CS CR okChg) fC fdC) (kB : Kn P w K mg base 4 "barring_nodes" sBarr ["one", "other", "changed"] (spBarr K) fB fdB) : FnOk P w K mg base (L2N.CX P w) 6 f fd ["one", "other"] (spTwoB K CS CR okBar) := by
  refine okN F scBar (fun vs H Q E h => ?_) (fun cdv A outer s H vs Q E hr h tk => ?_)
  · obtain ⟨a, b, n, m, p, q, r, r', rfl, _⟩ := h
    rfl
  · obtain ⟨a, b, n, m, p, q, r, r', rfl, h2, h⟩ := h
    have hrm : ∀ {j : Nat}, j ≤ 5 → Room j (A.deeper (envOfC "find_bar" (defScope sBar) s.heap.objs.size f cdv)) := fun h => hr.mono h
    refine ⟨_, (pss_cons (ps_for PassesOwn.leaving rfl (pi_list (pe_call kC.G (hrm (by decide)) (by rfl) kC.g kC.kp kC.b .nil (lookNE tk) (pa_cons (pv 0) (pa_cons (pv 1) pa_nil)))) (pg_name (i := 2) scBar.nd rfl (.inl rfl))
        (pss_cons (ps_set (i := 3) scBar.nd rfl (.inl rfl) (pe_call kB.G (hrm (by decide)) (by rfl) kB.g kB.F.kp kB.b .nil pass0 (pa_cons (pv 0) (pa_cons (pv 1) (pa_cons (pv 2) pa_nil)))))
        (pss_one (ps_if (pt_truth (pv 3) (by intro _; rfl))
          (pss_one (ps_ret (pe_tup (pa_cons (pv 2) (pa_cons (pe_ix (show IxR _ (rIx K) from ix_seq) (pv 3) pe_int (fun _ _ => rfl)) pa_nil))))) pss_nil))))
      (pss_one (ps_ret pe_non))), ?_⟩
    have ln := h2.ln
    refine ⟨_, rfl, _, rfl, a, b, n, m, p, q, r, r', rfl, h2, ?_⟩
    rcases h with h | h | ⟨e, hu, ok⟩
    · exact .inl h
    · exact .inr (.inl h)
    subst e
    refine .inr (.inr ⟨rfl, hu, fun l H1 nl hl s1 => ?_⟩)
    refine ⟨l, rfl, ⟨_, SqL.of hl⟩, ?_⟩
    refine for_list (K := K) (a := l) (xs := natsV (chgL n p q)) (fun i σ H' => (∃ y z, σ = [some (.ref a), some (.ref b), y, z]) ∧ Same H1 H' ∧ ∀ j, j < i → barsOf n p q ((chgL n p q).getD j 0) = []) ⟨⟨_, _, rfl⟩, Same.refl _, fun j hj => by omega⟩ (fun i σ H' _ h => SqL.of (h.2.1 _ _ hl)) ?_ ?_
    · rintro i y σ H' hy ⟨⟨y2, y3, rfl⟩, sm, h0⟩
      obtain ⟨hi, rfl⟩ := nats_get hy
      have hx := chgL_lt (List.getElem_mem hi)
      have s01 := s1.trans sm
      refine ⟨_, rfl, _, rfl, _, rfl, a, b, n, p, q, r, (chgL n p q)[i], rfl, same_sqt s01 h2.sa, same_sqt s01 h2.sb, ln, h2.fa, hx, fun c H2 nc hc s3 => ?_⟩
      refine ⟨_, rfl, _, .inl ⟨_, SqL.of hc, rfl⟩, ?_⟩
      cases hb : barsOf n p q (chgL n p q)[i] with
      | nil =>
        refine iteF ⟨⟨_, _, rfl⟩, sm.trans s3, fun j hj => ?_⟩
        by_cases e : j = i
        · rw [e, List.getD_eq_getElem?_getD, List.getElem?_eq_getElem hi]; exact hb
        · exact h0 j (by omega)
      | cons v rest =>
        rw [hb] at hc
        obtain ⟨rest', hbl⟩ := flat_first (fun x => (barsOf n p q x).map fun v => (x, v)) (b := ((chgL n p q)[i], v)) (r := rest.map fun v => ((chgL n p q)[i], v)) (chgL n p q) i hi (fun j hj => by rw [h0 j hj]; rfl) (by rw [hb]; rfl)
        refine iteT ⟨_, rfl, _, rfl, Sq.ix (.inl (SqL.of hc)) (show atI (natsV (v :: rest)) ((0 : Nat) : Int) = some (vi v) from atI_nat rfl) ⟨by show 2 ≤ sizeLine; decide, fun t nt => ?_⟩⟩
        exact ok.2 _ v rest' hbl t _ (sm_none (s01.trans s3) nt) upd_same ((s01.trans s3).trans (same_new nt))
    · rintro σ H' ⟨_, sm, h0⟩
      rw [natsV_len] at h0
      exact ok.1 (flat_none _ _ fun j hj => by rw [h0 j hj]; rfl) H' (s1.trans sm)
end
section
variable {P : Program} {w : World} {K : PySem.W.Frag} {mg : Str → Option Value} {base : Heap}
theorem okB_isN {f fC fA CS CR CX : Addr} {fd fdC fdA : FuncData} (F : Fun K "is_needed" "is_needed" sIsN f fd) (kC : KnX P w K mg base 5 "changed_nodes" ["one", "other"] (spTwoB K CS CR okChg) fC fdC) (kA : KnX P w K mg base 7 "is_above" ["forest", "one", "other"] (spAboveB K CX) fA fdA) (z_any : mg "any" = none) : FnOk P w K mg base (L2N.CX P w) 8 f fd ["one", "other", "node"] (spIsNB K CS CR) := by
  refine okN F scIsN (fun vs H Q E h => ?_) (fun cdv A outer s H vs Q E hr h tk => ?_)
  · obtain ⟨a, b, n, m, p, q, r, r', x, rfl, _⟩ := h
    rfl
  · obtain ⟨a, b, n, m, p, q, r, r', x, rfl, h2, h⟩ := h
    have hrm : ∀ {j : Nat}, j ≤ 7 → Room j (A.deeper (envOfC "is_needed" (defScope sIsN) s.heap.objs.size f cdv)) := fun h => hr.mono h
    refine ⟨_, (pss_cons (ps_set (i := 3) scIsN.nd rfl (.inl rfl) (pe_call kC.G (hrm (by decide)) (by rfl) kC.g kC.kp kC.b .nil (lookNE tk) (pa_cons (pv 0) (pa_cons (pv 1) pa_nil))))
      (pss_cons (ps_if (pt_cmpR (show OpR _ (compareOp .NotIn) (rIn K true) from op_notIn_seq) (pv 2) (pv 3) (by rfl))
        (pss_one (ps_ret pe_bl)) pss_nil)
      (pss_one (ps_ret (pe_not (pe_callB (cr_any rfl) (by rfl) z_any (by decide +kernel) (pa_cons (pe_lc (own := [("low", 4)]) (g := gName 4) (by rfl) scIsN.nd (pi_list (pv 3)) (blkOk_by (own := [("low", 4)]) (N := isNN) (sc := defScope sIsN) (by decide +kernel)) (fun _ _ _ _ _ => (pg_name (i := 4) scIsN.nd rfl (.inl rfl))) (fun _ _ _ _ _ => pts_nil) (fun _ _ _ _ _ => (pe_call (fn_noE kA.G) (hrm (by decide)) (by rfl) kA.g kA.kp kA.b .nil pass0 (pa_cons (pv 0) (pa_cons (pv 2) (pa_cons (pv 4) pa_nil)))))) pa_nil))))))), ?_⟩
    have ln := h2.ln
    refine ⟨_, rfl, _, rfl, a, b, n, m, p, q, r, r', rfl, h2, ?_⟩
    rcases h with h | h | ⟨e, hu, ok⟩
    · exact .inl h
    · exact .inr (.inl h)
    subst e
    refine .inr (.inr ⟨rfl, hu, fun l H1 nl hl s1 => ?_⟩)
    have ro := unl_nil hu
    refine ⟨_, rfl, _, rfl, l, _, rfl, .inl (SqL.of hl), rfl, flat_nats _, _, rfl, ?_⟩
    show if (!inV (.int x) (natsV (chgL n p q))) = true then _ else _
    rw [inV_int]
    cases e : (chgL n p q).any fun u => decide (x = (u : Int)) with
    | false =>
      have hf : needZ n p q x = false := by
        unfold needZ
        by_cases hx : 0 ≤ x ∧ x < (n : Int)
        · have := List.any_eq_false.mp e x.toNat
          have hc : chg p q x.toNat = false := by
            cases hc : chg p q x.toNat with
            | false => rfl
            | true =>
              have z := this (List.mem_filter.mpr ⟨List.mem_range.mpr (by omega), hc⟩)
              simp at z
              omega
          unfold needB
          rw [hc]; simp
        · rw [decide_eq_false hx]; rfl
      rw [hf] at ok
      exact iteT (ok H1 s1)
    | true =>
      obtain ⟨u, hu', e2⟩ := List.any_eq_true.mp e
      have ex : x = (u : Int) := of_decide_eq_true e2
      subst ex
      have hun := chgL_lt hu'
      have huc := (List.mem_filter.mp hu').2
      refine iteF ⟨_, rfl, l, rfl, ⟨_, SqL.of hl⟩, fun D nD => ?_⟩
      refine lc_list (K := K) (a := l) (xs := natsV (chgL n p q)) (fun i H' => H' D = some (.lst ((((chgL n p q).take i).map fun v => decide (u ≠ v) && decide (u ∈ path p n v)).map V.bl)) ∧ Same H1 H') ⟨upd_same, same_new nD⟩ (fun i H' _ h => SqL.of (h.2 _ _ hl)) ?_ ?_
      · rintro i y H' hy ⟨hD, sm⟩
        obtain ⟨hi, rfl⟩ := nats_get hy
        have hx := chgL_lt (List.getElem_mem hi)
        have tk1 : (chgL n p q).take (i + 1) = (chgL n p q).take i ++ [(chgL n p q)[i]] := by rw [List.take_succ, List.getElem?_eq_getElem hi]; rfl
        have hl2 := chgL_len n p q
        generalize (chgL n p q)[i] = v at hx tk1
        refine ⟨rfl, ?_⟩
        refine ⟨_, rfl, _, rfl, _, rfl, a, n, p, r, _, _, [u, v], rfl, same_sqt (s1.trans sm) h2.sa, by omega, h2.fa, by simp [hun, hx], .inl ⟨rfl, fun u0 v0 e0 H3 s3 => ?_⟩⟩
        obtain ⟨rfl, rfl⟩ : u = u0 ∧ v = v0 := by
          injection e0 with e1 e2
          injection e2 with e2 _
          exact ⟨e1, e2⟩
        refine ⟨_, s3 _ _ hD, ?_, ?_, same_over (sm.trans s3) nD⟩
        · rw [List.length_map, List.length_map, List.length_take]
          exact Nat.lt_of_le_of_lt (show _ ≤ 1000 by omega) (by decide)
        · rw [upd_same, tk1, List.map_append, List.map_append]; rfl
      · rintro H' ⟨hD, sm⟩
        rw [natsV_len, List.take_length] at hD
        refine ⟨D, _, rfl, SqL.of hD, _, rfl, ?_⟩
        have hz : needZ n p q u = needB n p q u := by
          unfold needZ
          rw [decide_eq_true (by omega)]; rfl
        rw [need_any h2.fa ro hun huc, ← hz]
        exact ok H' (s1.trans sm)
end
section
variable {P : Program} {w : World} {K : PySem.W.Frag} {mg : Str → Option Value} {base : Heap}
theorem okB_need {f fF fI CS CR CN : Addr} {fd fdF fdI : FuncData} (F : Fun K "needed_finds" "needed_finds" sNeed f fd) (kF : KnX P w K mg base 6 "find_bar" ["one", "other"] (spTwoB K CS CR okBar) fF fdF) (kI : KnX P w K mg base 8 "is_needed" ["one", "other", "node"] (spIsNB K CS CR) fI fdI) (T : Tx mg) (RN : Raisable P w K mg base 2 "NoWay" CN "node" "NoWay") : FnOk P w K mg base (L2N.CX P w) 9 f fd ["one", "other"] (spTwoB K CS CR (okNeed CN)) := by
  refine okN F scNeed (fun vs H Q E h => ?_) (fun cdv A outer s H vs Q E hr h tk => ?_)
  · obtain ⟨a, b, n, m, p, q, r, r', rfl, _⟩ := h
    rfl
  · obtain ⟨a, b, n, m, p, q, r, r', rfl, h2, h⟩ := h
    have hrm : ∀ {j : Nat}, j ≤ 8 → Room j (A.deeper (envOfC "needed_finds" (defScope sNeed) s.heap.objs.size f cdv)) := fun h => hr.mono h
    refine ⟨_, (pss_cons (ps_set (i := 2) scNeed.nd rfl (.inl rfl) (pe_call kF.G (hrm (by decide)) (by rfl) kF.g kF.kp kF.b .nil (lookNE tk) (pa_cons (pv 0) (pa_cons (pv 1) pa_nil))))
      (pss_cons (ps_if (pt_cmpR op_notN (pv 2) pe_non (nomark _))
        (pss_one (L2N.ps_raise rfl tk (pmk_err RN (hrm (by decide)) (by rfl) (pe_ix (show IxR _ (rIx K) from ix_seq) (pv 2) pe_int (fun _ _ => rfl))))) pss_nil)
      (pss_one (ps_ret (pe_lc (own := [("node", 3)]) (g := gName 3) (by rfl) scNeed.nd (pi_range1 (by rfl) T.range (pa_cons (pe_callB call_len_seq (by rfl) T.len PySem.boot_len (pa_cons (pv 0) pa_nil)) pa_nil)) (blkOk_by (own := [("node", 3)]) (N := needN) (sc := defScope sNeed) (by decide +kernel)) (fun _ _ _ _ _ => (pg_name (i := 3) scNeed.nd rfl (.inl rfl))) (fun _ _ _ _ _ => (pts_one (pt_val (pe_call (fn_noE kI.G) (hrm (by decide)) (by rfl) kI.g kI.kp kI.b .nil pass0 (pa_cons (pv 0) (pa_cons (pv 1) (pa_cons (pv 3) pa_nil))))))) (fun _ _ _ _ _ => (pv 3))))))), ?_⟩
    have ln := h2.ln
    refine ⟨_, rfl, _, rfl, a, b, n, m, p, q, r, r', rfl, h2, ?_⟩
    rcases h with h | h | ⟨e, hu, ok⟩
    · exact .inl h
    · exact .inr (.inl h)
    subst e
    refine .inr (.inr ⟨rfl, hu, ?_, ?_⟩)
    · intro hb H1 s1
      refine ⟨_, rfl, rfl, _, rfl, ?_⟩
      refine iteF ⟨_, rfl, a, _, rfl, .inr (same_sqt s1 h2.sa), _, rfl, by rw [tupOf_len]; omega, by rw [tupOf_len]; omega, fun D nD => ?_⟩
      rw [tupOf_len]
      refine lc_range (lo := 0) (n := ((n : Nat) : Int).toNat) (fun i H' => H' D = some (.lst (natsV ((List.range i).filter (needB n p q)))) ∧ Same H1 H') ⟨upd_same, same_new nD⟩ ?_ ?_
      · rintro i H' hi ⟨hD, sm⟩
        have hin : i < n := by omega
        refine ⟨rfl, ?_⟩
        refine ⟨_, rfl, _, rfl, _, rfl, a, b, n, n, p, q, r, r', _, rfl, h2.same (s1.trans sm), .inr (.inr ⟨rfl, hu, fun H3 s3 => ?_⟩)⟩
        obtain ⟨f1, f2, f3⟩ := filt_turn (k := i) (g := needB n p q) (by omega) (s3 _ _ hD)
        refine ⟨_, rfl, ?_⟩
        have hz : needZ n p q (0 + (i : Int)) = needB n p q i := by
          unfold needZ
          rw [decide_eq_true (by omega), Int.zero_add]; rfl
        rw [hz]
        cases e : needB n p q i with
        | false => exact iteF ⟨f3 e, sm.trans s3⟩
        | true => exact iteT ⟨_, rfl, _, s3 _ _ hD, f1, f2 e _ (by rw [Int.zero_add]), same_over (sm.trans s3) nD⟩
      · rintro H' ⟨hD, sm⟩
        rw [show ((n : Nat) : Int).toNat = n by omega] at hD
        exact ok.1 hb D H' (sm_none s1 nD) hD (s1.trans sm)
    · intro x v rest hb t H1 nt ht s1
      refine ⟨_, rfl, rfl, _, rfl, ?_⟩
      have hx : x < n := by
        have hm : (x, v) ∈ barL n p q := by rw [hb]; exact List.mem_cons_self
        obtain ⟨u', hu'', hv'⟩ := List.mem_flatMap.mp hm
        obtain ⟨v', hv1, e2⟩ := List.mem_map.mp hv'
        injection e2 with e2 e3
        rw [← e2]; exact chgL_lt hu''
      exact iteT ⟨_, rfl, Sq.ix (.inr (SqT.of ht)) rfl ⟨_, rfl, prt_vi (by omega), (ok.2 x v rest hb).same s1⟩⟩
end
section
variable {P : Program} {w : World} {K : PySem.W.Frag} {mg : Str → Option Value} {base : Heap}
theorem okB_cntW {f fN ff CS CR CN : Addr} {fd fdN fdf : FuncData} (F : Fun K "count_ways" "count_ways" sCntW f fd) (kN : KnX P w K mg base 9 "needed_finds" ["one", "other"] (spTwoB K CS CR (okNeed CN)) fN fdN) (kf : Kn P w K mg base 1 "falling" sFalling ["size", "chosen"] spFalling ff fdf) (T : Tx mg) : FnOk P w K mg base (L2N.CX P w) 10 f fd ["one", "other"] (spTwoB K CS CR (okCntW CN)) := by
  refine okN F scCntW (fun vs H Q E h => ?_) (fun cdv A outer s H vs Q E hr h tk => ?_)
  · obtain ⟨a, b, n, m, p, q, r, r', rfl, _⟩ := h
    rfl
  · obtain ⟨a, b, n, m, p, q, r, r', rfl, h2, h⟩ := h
    have hrm : ∀ {j : Nat}, j ≤ 9 → Room j (A.deeper (envOfC "count_ways" (defScope sCntW) s.heap.objs.size f cdv)) := fun h => hr.mono h
    refine ⟨_, (pss_cons (ps_set (i := 2) scCntW.nd rfl (.inl rfl) (pe_callB call_len_seq (by rfl) T.len PySem.boot_len (pa_cons (pe_call kN.G (hrm (by decide)) (by rfl) kN.g kN.kp kN.b .nil (lookNE tk) (pa_cons (pv 0) (pa_cons (pv 1) pa_nil))) pa_nil)))
      (pss_one (ps_ret (pe_call kf.G (hrm (by decide)) (by rfl) kf.g kf.F.kp kf.b .nil pass0 (pa_cons (pv 2) (pa_cons (pv 2) pa_nil)))))), ?_⟩
    have ln := h2.ln
    refine ⟨_, rfl, _, rfl, a, b, n, m, p, q, r, r', rfl, h2, h.imp fun ok => ⟨fun hb l H1 nl hl s1 => ?_, ok.2⟩⟩
    refine ⟨l, _, rfl, .inl (SqL.of hl), _, rfl, _, rfl, _, _, rfl, ?_, ?_, fun H2 s2 => ?_⟩
    · have := needS_len n p q
      rw [natsV_len]; omega
    · have := needS_len n p q
      rw [natsV_len]; omega
    · rw [natsV_len]
      exact ok.1 hb H2 (s1.trans s2)
end
theorem Pair.two {K : PySem.W.Frag} {H : Hp} {a b : Addr} {n : Nat} {p q r r' : Nat → Nat} (h : Pair K H a b n p q r r') : Two K H a b n n p q r r' := ⟨h.sa, h.sb, h.le, h.le, h.fa, h.fb⟩
theorem need_plain {K : PySem.W.Frag} {CS CR CN : Addr} (vs : List V) (H : Hp) (Q : VK) (E : XK) (h : spNeeded K vs H Q E) : spTwoB K CS CR (okNeed CN) vs H Q (fun _ _ _ => False) := by
  obtain ⟨a, b, n, p, q, r, r', rfl, h2, W, ok⟩ := h
  exact ⟨a, b, n, n, p, q, r, r', rfl, h2.two, .inr (.inr ⟨rfl, unl_of h2.ro, fun _ => ok, fun x v rest hb => by rw [(barL_way h2.fa).mpr W] at hb; cases hb⟩)⟩
theorem wcost_plain {K : PySem.W.Frag} {CS CR CN : Addr} (vs : List V) (H : Hp) (Q : VK) (E : XK) (h : spWayCost K vs H Q E) : spTwoB K CS CR (okWCost CN) vs H Q (fun _ _ _ => False) := by
  obtain ⟨a, b, n, p, q, r, r', rfl, h2, W, ok⟩ := h
  exact ⟨a, b, n, n, p, q, r, r', rfl, h2.two, .inr (.inr ⟨rfl, unl_of h2.ro, fun _ => ok, fun x v rest hb => by rw [(barL_way h2.fa).mpr W] at hb; cases hb⟩)⟩
theorem bar_plain {K : PySem.W.Frag} {CS CR : Addr} (vs : List V) (H : Hp) (Q : VK) (E : XK) (h : spBar K vs H Q E) : spTwoB K CS CR okBar vs H Q (fun _ _ _ => False) := by
  obtain ⟨a, b, n, p, q, r, r', rfl, h2, ok1, ok2⟩ := h
  refine ⟨a, b, n, n, p, q, r, r', rfl, h2.two, .inr (.inr ⟨rfl, unl_of h2.ro, fun hb => ok1 ((barL_way h2.fa).mp hb), fun x v rest hb t H' nt ht s => ok2 (fun W => ?_) t x v H' ht s⟩)⟩
  rw [(barL_way h2.fa).mpr W] at hb; cases hb
end Ff

namespace Ff
open PySem PySem.Spec PyProof.Rows L2 ExX LamX
abbrev sE_SizesDiffer : Stmt := topS 3
theorem scE_SizesDiffer : FnScope ["self", "size"] ["self", "size"] (defScope (initS sE_SizesDiffer)) := ⟨rfl, rfl, rfl, by decide +kernel, rfl, by decide +kernel, by decide +kernel⟩
abbrev sE_RootsDiffer : Stmt := topS 4
theorem scE_RootsDiffer : FnScope ["self", "node"] ["self", "node"] (defScope (initS sE_RootsDiffer)) := ⟨rfl, rfl, rfl, by decide +kernel, rfl, by decide +kernel, by decide +kernel⟩
abbrev sE_NoWay : Stmt := topS 5
theorem scE_NoWay : FnScope ["self", "node"] ["self", "node"] (defScope (initS sE_NoWay)) := ⟨rfl, rfl, rfl, by decide +kernel, rfl, by decide +kernel, by decide +kernel⟩
abbrev sE_NoNode : Stmt := topS 6
theorem scE_NoNode : FnScope ["self", "node"] ["self", "node"] (defScope (initS sE_NoNode)) := ⟨rfl, rfl, rfl, by decide +kernel, rfl, by decide +kernel, by decide +kernel⟩
section
variable {P : Program} {w : World} {K : PySem.W.Frag} {mg : Str → Option Value} {base : Heap}
theorem ok_E_SizesDiffer {f fM CM : Addr} {fd fdM : FuncData} (F : Fun K "__init__" "SizesDiffer.__init__" (initS sE_SizesDiffer) f fd) (TM : ClsI K CM fM) (gM : mg "ForestError" = some (.ref CM)) (GM : FnOk P w K mg base CX0 1 fM fdM ["self", "tag", "message"] (spTop K "ValueError.__new__" vaTail)) (bM : Binds K fdM ["self", "tag", "message"] []) :
    FnOk P w K mg base CX0 2 f fd ["self", "size"] (spErrI K "ValueError.__new__" vaTail "size" "SizesDiffer") := by
  refine F.ok scE_SizesDiffer (fun vs H Q E h => ?_) (fun cdv A outer s H vs Q E hr h => ?_)
  · obtain ⟨a, C, v, rfl, _⟩ := h
    rfl
  · obtain ⟨a, C, v, rfl, ⟨i, rfl, hi⟩, ha, T, nt, nf, q⟩ := h
    refine ⟨_, pss_cons (ps_expr (pe_ci TM GM hr (by rfl) gM bM pass0 (pa_cons (pv 0) (pa_cons pe_str (pa_cons (pe_joined (.cons pe_str (.cons (pe_fmt (pv 1)) (.cons pe_str .nil)))) pa_nil)))))
      (pss_one (ps_st (nid := "ValueError.__new__") PySem.F.store_ValueError (pv 0) (pv 1))), ?_⟩
    have f0 : (Str.empty ++ Str.ofString "the other forest has ").length ≤ 100 := by decide +kernel
    have f1 : (Str.ofString " nodes").length ≤ 100 := by decide +kernel
    have l1 := fits_cat f0 (txt_int hi)
    refine ⟨_, rfl, ⟨_, rfl, fits (by omega), _, rfl, .inr ⟨i, rfl, hi, _, rfl, fits (Nat.le_trans l1 (by decide)), _, rfl, fits (Nat.le_trans (fits_cat l1 f1) (by decide)), ?_⟩⟩⟩
    refine ⟨a, C, _, _, rfl, ha, T, nt, fun dx n ne => ⟨_, rfl, _, rfl, a, C, rfl, T, nf, .inr ⟨dx, _, upd_same, ?_, by show 1 ≤ 900; decide, q dx n ne⟩⟩⟩
    rw [upd_ne ne, upd_same]
theorem ok_E_RootsDiffer {f fM CM : Addr} {fd fdM : FuncData} (F : Fun K "__init__" "RootsDiffer.__init__" (initS sE_RootsDiffer) f fd) (TM : ClsI K CM fM) (gM : mg "ForestError" = some (.ref CM)) (GM : FnOk P w K mg base CX0 1 fM fdM ["self", "tag", "message"] (spTop K "ValueError.__new__" vaTail)) (bM : Binds K fdM ["self", "tag", "message"] []) :
    FnOk P w K mg base CX0 2 f fd ["self", "node"] (spErrI K "ValueError.__new__" vaTail "node" "RootsDiffer") := by
  refine F.ok scE_RootsDiffer (fun vs H Q E h => ?_) (fun cdv A outer s H vs Q E hr h => ?_)
  · obtain ⟨a, C, v, rfl, _⟩ := h
    rfl
  · obtain ⟨a, C, v, rfl, ⟨i, rfl, hi⟩, ha, T, nt, nf, q⟩ := h
    refine ⟨_, pss_cons (ps_expr (pe_ci TM GM hr (by rfl) gM bM pass0 (pa_cons (pv 0) (pa_cons pe_str (pa_cons (pe_joined (.cons pe_str (.cons (pe_fmt (pv 1)) (.cons pe_str .nil)))) pa_nil)))))
      (pss_one (ps_st (nid := "ValueError.__new__") PySem.F.store_ValueError (pv 0) (pv 1))), ?_⟩
    have f0 : (Str.empty ++ Str.ofString "node ").length ≤ 100 := by decide +kernel
    have f1 : (Str.ofString " is a root in only one of the forests").length ≤ 100 := by decide +kernel
    have l1 := fits_cat f0 (txt_int hi)
    refine ⟨_, rfl, ⟨_, rfl, fits (by omega), _, rfl, .inr ⟨i, rfl, hi, _, rfl, fits (Nat.le_trans l1 (by decide)), _, rfl, fits (Nat.le_trans (fits_cat l1 f1) (by decide)), ?_⟩⟩⟩
    refine ⟨a, C, _, _, rfl, ha, T, nt, fun dx n ne => ⟨_, rfl, _, rfl, a, C, rfl, T, nf, .inr ⟨dx, _, upd_same, ?_, by show 1 ≤ 900; decide, q dx n ne⟩⟩⟩
    rw [upd_ne ne, upd_same]
theorem ok_E_NoWay {f fM CM : Addr} {fd fdM : FuncData} (F : Fun K "__init__" "NoWay.__init__" (initS sE_NoWay) f fd) (TM : ClsI K CM fM) (gM : mg "ForestError" = some (.ref CM)) (GM : FnOk P w K mg base CX0 1 fM fdM ["self", "tag", "message"] (spTop K "ValueError.__new__" vaTail)) (bM : Binds K fdM ["self", "tag", "message"] []) :
    FnOk P w K mg base CX0 2 f fd ["self", "node"] (spErrI K "ValueError.__new__" vaTail "node" "NoWay") := by
  refine F.ok scE_NoWay (fun vs H Q E h => ?_) (fun cdv A outer s H vs Q E hr h => ?_)
  · obtain ⟨a, C, v, rfl, _⟩ := h
    rfl
  · obtain ⟨a, C, v, rfl, ⟨i, rfl, hi⟩, ha, T, nt, nf, q⟩ := h
    refine ⟨_, pss_cons (ps_expr (pe_ci TM GM hr (by rfl) gM bM pass0 (pa_cons (pv 0) (pa_cons pe_str (pa_cons (pe_joined (.cons pe_str (.cons (pe_fmt (pv 1)) .nil))) pa_nil)))))
      (pss_one (ps_st (nid := "ValueError.__new__") PySem.F.store_ValueError (pv 0) (pv 1))), ?_⟩
    have f0 : (Str.empty ++ Str.ofString "the way is barred at node ").length ≤ 100 := by decide +kernel
    refine ⟨_, rfl, ⟨_, rfl, fits (by omega), _, rfl, .inr ⟨i, rfl, hi, _, rfl, fits (Nat.le_trans (fits_cat f0 (txt_int hi)) (by decide)), ?_⟩⟩⟩
    refine ⟨a, C, _, _, rfl, ha, T, nt, fun dx n ne => ⟨_, rfl, _, rfl, a, C, rfl, T, nf, .inr ⟨dx, _, upd_same, ?_, by show 1 ≤ 900; decide, q dx n ne⟩⟩⟩
    rw [upd_ne ne, upd_same]
theorem ok_E_NoNode {f fM CM : Addr} {fd fdM : FuncData} (F : Fun K "__init__" "NoNode.__init__" (initS sE_NoNode) f fd) (TM : ClsI K CM fM) (gM : mg "Missing" = some (.ref CM)) (GM : FnOk P w K mg base CX0 1 fM fdM ["self", "tag", "message"] (spTop K "LookupError.__new__" luTail)) (bM : Binds K fdM ["self", "tag", "message"] []) :
    FnOk P w K mg base CX0 2 f fd ["self", "node"] (spErrI K "LookupError.__new__" luTail "node" "NoNode") := by
  refine F.ok scE_NoNode (fun vs H Q E h => ?_) (fun cdv A outer s H vs Q E hr h => ?_)
  · obtain ⟨a, C, v, rfl, _⟩ := h
    rfl
  · obtain ⟨a, C, v, rfl, ⟨i, rfl, hi⟩, ha, T, nt, nf, q⟩ := h
    refine ⟨_, pss_cons (ps_expr (pe_ci TM GM hr (by rfl) gM bM pass0 (pa_cons (pv 0) (pa_cons pe_str (pa_cons (pe_joined (.cons pe_str (.cons (pe_fmt (pv 1)) .nil))) pa_nil)))))
      (pss_one (ps_st (nid := "LookupError.__new__") PySem.F.store_LookupError (pv 0) (pv 1))), ?_⟩
    have f0 : (Str.empty ++ Str.ofString "there is no node ").length ≤ 100 := by decide +kernel
    refine ⟨_, rfl, ⟨_, rfl, fits (by omega), _, rfl, .inr ⟨i, rfl, hi, _, rfl, fits (Nat.le_trans (fits_cat f0 (txt_int hi)) (by decide)), ?_⟩⟩⟩
    refine ⟨a, C, _, _, rfl, ha, T, nt, fun dx n ne => ⟨_, rfl, _, rfl, a, C, rfl, T, nf, .inr ⟨dx, _, upd_same, ?_, by show 1 ≤ 900; decide, q dx n ne⟩⟩⟩
    rw [upd_ne ne, upd_same]
end
end Ff

namespace Ff
open PySem PySem.Spec PyProof.Rows L2 ExX LamX
abbrev sLaw : Stmt := topS 40
abbrev lawN : List Str := ["_law_script", "_law_draw", "_law_turn", "_law_one_z", "_law_other_z", "_law_size_here", "_law_known", "_law_front", "_law_level", "_law_later", "_law_forest_here", "_law_ways", "_law_ends", "_law_node", "_law_end", "_law_some", "_law_there", "_law_due", "_law_told"]
theorem scLaw : FnScope lawN ["_law_script"] (defScope sLaw) := ⟨rfl, rfl, rfl, by decide +kernel, rfl, by decide +kernel, by decide +kernel⟩
def spCntWP (K : PySem.W.Frag) : Sp := fun vs H Q _ => ∃ (a b : Addr) (n : Nat) (p q r r' : Nat → Nat), vs = [.ref a, .ref b] ∧ Pair K H a b n p q r r' ∧ Way n p q ∧ ∀ H', Same H H' → Q (.int (fall ((needS n p q).length : Int) ((needS n p q).length : Int))) H'
theorem cntw_plain {K : PySem.W.Frag} {CS CR CN : Addr} (vs : List V) (H : Hp) (Q : VK) (E : XK) (h : spCntWP K vs H Q E) : spTwoB K CS CR (okCntW CN) vs H Q (fun _ _ _ => False) := by
  obtain ⟨a, b, n, p, q, r, r', rfl, h2, W, ok⟩ := h
  exact ⟨a, b, n, n, p, q, r, r', rfl, h2.two, .inr (.inr ⟨rfl, unl_of h2.ro, fun _ => ok, fun x v rest hb => by rw [(barL_way h2.fa).mpr W] at hb; cases hb⟩)⟩
def facB : Nat → Int
  | 0 => 1
  | k + 1 => ((k + 1 : Nat) : Int) * facB k
theorem fall_fac {k : Nat} (h : k ≤ 6) : fall (k : Int) (k : Int) = facB k := by
  have : ∀ k ∈ List.range 7, fall (k : Int) (k : Int) = facB k := by decide +kernel
  exact this k (List.mem_range.mpr (by omega))
/-! ### rows in the heap -/
theorem tup_rwB (n : Nat) (p : Nat → Nat) (l : List Nat) : tupOf n (fndAll n l p) = (rwB n p l).map fun v : Nat => vi v := by
  unfold tupOf rwB
  rw [List.map_map]
  rfl
theorem tup_int (n : Nat) (p : Nat → Nat) : tupOf n p = (((List.range n).map fun v => ((p v : Nat) : Int))).map V.int := by
  unfold tupOf
  rw [List.map_map]
  rfl
def rdB (n : Nat) (p : Nat → Nat) : List Int := (List.range n).map fun v => ((p v : Nat) : Int)
theorem rdB_eq {n : Nat} {p q : Nat → Nat} : rdB n p = rdB n q ↔ ∀ v, v < n → p v = q v := by
  unfold rdB
  constructor
  · intro h v hv
    have := congrArg (fun z : List Int => z[v]?) h
    simp only [List.getElem?_map, List.getElem?_range hv, Option.map_some] at this
    have := Option.some.inj this
    omega
  · intro h
    exact List.map_congr_left fun v hv => by rw [h v (List.mem_range.mp hv)]
def rowT (n : Nat) (p : Nat → Nat) : PyData := .tuple ((rdB n p).map PyData.int)
theorem rowT_dp {K : PySem.W.Frag} {H : Hp} {a : Addr} {n : Nat} {p : Nat → Nat} (h : SqT K H a (tupOf n p)) : Dp K H (.ref a) (rowT n p) := by
  refine .tup h ?_
  rw [tup_int]
  exact dpAll_ints _
theorem rowT_eqv (n : Nat) (p q : Nat → Nat) : PyData.eqv (rowT n p) (rowT n q) = decide (rdB n p = rdB n q) := eqv_tups _ _
theorem sqT_updL {K : PySem.W.Frag} {H : Hp} {a b : Addr} {xs : List V} {ys : List V} {o : HO} (h : SqT K H a xs) (hb : H b = some (.lst ys)) : SqT K (upd H b o) a xs := by
  rcases h with (h | ⟨o2, h⟩) | h
  · exact .inl (.inl (by rw [upd_ne (ne_of h hb (by intro z; cases z))]; exact h))
  · exact .inl (.inr ⟨o2, by rw [upd_ne (ne_of h hb (by intro z; cases z))]; exact h⟩)
  · exact .inr h
/-- forests with their ways -/
inductive PwB (K : PySem.W.Frag) (H : Hp) (n : Nat) (p : Nat → Nat) (w : Int) : List V → List (List Nat) → Prop
  | nil : PwB K H n p w [] []
  | cons {t a : Addr} {xs : List V} {l : List Nat} {ls : List (List Nat)} (h : H t = some (.tup [.ref a, .int w])) (h2 : SqT K H a (tupOf n (fndAll n l p))) (r : PwB K H n p w xs ls) : PwB K H n p w (.ref t :: xs) (l :: ls)
inductive KnB (K : PySem.W.Frag) (H : Hp) (n : Nat) (p : Nat → Nat) : List V → List (List Nat) → Prop
  | nil : KnB K H n p [] []
  | cons {a : Addr} {xs : List V} {l : List Nat} {ls : List (List Nat)} (h2 : SqT K H a (tupOf n (fndAll n l p))) (r : KnB K H n p xs ls) : KnB K H n p (.ref a :: xs) (l :: ls)
section
variable {K : PySem.W.Frag} {H H' : Hp} {n : Nat} {p : Nat → Nat} {w : Int} {xs ys : List V} {ls ms : List (List Nat)}
theorem PwB.same (h : PwB K H n p w xs ls) (s : Same H H') : PwB K H' n p w xs ls := by
  induction h with
  | nil => exact .nil
  | cons h h2 _ ih => exact .cons (s _ _ h) (same_sqt s h2) ih
theorem PwB.updL {b : Addr} {o : HO} (h : PwB K H n p w xs ls) (hb : H b = some (.lst ys)) : PwB K (upd H b o) n p w xs ls := by
  induction h with
  | nil => exact .nil
  | cons h h2 _ ih => exact .cons (by rw [upd_ne (ne_of h hb (by intro z; cases z))]; exact h) (sqT_updL h2 hb) ih
theorem PwB.app (h : PwB K H n p w xs ls) (h2 : PwB K H n p w ys ms) : PwB K H n p w (xs ++ ys) (ls ++ ms) := by
  induction h with
  | nil => exact h2
  | cons a b _ ih => exact .cons a b ih
theorem PwB.len (h : PwB K H n p w xs ls) : xs.length = ls.length := by
  induction h with
  | nil => rfl
  | cons _ _ _ ih => rw [List.length_cons, List.length_cons, ih]
theorem PwB.get (h : PwB K H n p w xs ls) : ∀ {i : Nat} {x : V}, xs[i]? = some x → ∃ t a l, x = .ref t ∧ ls[i]? = some l ∧ H t = some (.tup [.ref a, .int w]) ∧ SqT K H a (tupOf n (fndAll n l p)) := by
  induction h with
  | nil => intro i x hx; cases i <;> cases hx
  | cons h h2 _ ih =>
    intro i x hx
    cases i with
    | zero => cases hx; exact ⟨_, _, _, rfl, rfl, h, h2⟩
    | succ i => exact ih hx
theorem PwB.dp (h : PwB K H n p w xs ls) : DpAll K H xs (ls.map fun l => .tuple [rowT n (fndAll n l p), .int w]) := by
  induction h with
  | nil => exact .nil
  | cons h h2 _ ih => exact .cons (.tup (SqT.of h) (.cons (rowT_dp h2) (.cons (.int _) .nil))) ih
theorem KnB.same (h : KnB K H n p xs ls) (s : Same H H') : KnB K H' n p xs ls := by
  induction h with
  | nil => exact .nil
  | cons h2 _ ih => exact .cons (same_sqt s h2) ih
theorem KnB.updL {b : Addr} {o : HO} (h : KnB K H n p xs ls) (hb : H b = some (.lst ys)) : KnB K (upd H b o) n p xs ls := by
  induction h with
  | nil => exact .nil
  | cons h2 _ ih => exact .cons (sqT_updL h2 hb) ih
theorem KnB.app (h : KnB K H n p xs ls) (h2 : KnB K H n p ys ms) : KnB K H n p (xs ++ ys) (ls ++ ms) := by
  induction h with
  | nil => exact h2
  | cons a _ ih => exact .cons a ih
theorem KnB.len (h : KnB K H n p xs ls) : xs.length = ls.length := by
  induction h with
  | nil => rfl
  | cons _ _ ih => rw [List.length_cons, List.length_cons, ih]
theorem KnB.get (h : KnB K H n p xs ls) : ∀ {i : Nat} {x : V}, xs[i]? = some x → ∃ a l, x = .ref a ∧ ls[i]? = some l ∧ SqT K H a (tupOf n (fndAll n l p)) := by
  induction h with
  | nil => intro i x hx; cases i <;> cases hx
  | cons h2 _ ih =>
    intro i x hx
    cases i with
    | zero => cases hx; exact ⟨_, _, rfl, rfl, h2⟩
    | succ i => exact ih hx
theorem KnB.dp (h : KnB K H n p xs ls) : DpAll K H xs (ls.map fun l => rowT n (fndAll n l p)) := by
  induction h with
  | nil => exact .nil
  | cons h2 _ ih => exact .cons (rowT_dp h2) ih
end
theorem any_rows (n : Nat) (p q : Nat → Nat) (ls : List (List Nat)) : ((ls.map fun l => rowT n (fndAll n l p)).any fun z => PyData.eqv z (rowT n q)) = decide (∃ l ∈ ls, ∀ v, v < n → fndAll n l p v = q v) := by
  rw [Bool.eq_iff_iff, List.any_eq_true, decide_eq_true_iff]
  constructor
  · rintro ⟨z, hz, h⟩
    obtain ⟨l, hl, rfl⟩ := List.mem_map.mp hz
    rw [rowT_eqv] at h
    exact ⟨l, hl, rdB_eq.mp (of_decide_eq_true h)⟩
  · rintro ⟨l, hl, h⟩
    exact ⟨_, List.mem_map.mpr ⟨l, hl, rfl⟩, by rw [rowT_eqv]; exact decide_eq_true (rdB_eq.mpr h)⟩
theorem ints_layB : ∀ l : List Int, PyData.canLayAll0 (l.map PyData.int) = true ∧ PyData.depthAll (l.map PyData.int) ≤ 1
  | [] => ⟨by simp [PyData.canLayAll0], by simp [PyData.depthAll]⟩
  | p :: ps => by
    obtain ⟨i1, i2⟩ := ints_layB ps
    rw [List.map_cons]
    refine ⟨by simp [PyData.canLay0, PyData.canLayAll0, i1], ?_⟩
    rw [PyData.depthAll]
    simp only [PyData.depth] at i2 ⊢
    omega
theorem row_lay (n : Nat) (p : Nat → Nat) : PyData.canLay0 (rowT n p) = true ∧ PyData.depth (rowT n p) ≤ 2 := by
  obtain ⟨i1, i2⟩ := ints_layB (rdB n p)
  unfold rowT
  exact ⟨by simp [PyData.canLay0, i1], by simp only [PyData.depth]; omega⟩
theorem rows_lay (n : Nat) (p : Nat → Nat) : ∀ ls : List (List Nat), PyData.canLayAll0 (ls.map fun l => rowT n (fndAll n l p)) = true ∧ PyData.depthAll (ls.map fun l => rowT n (fndAll n l p)) ≤ 2
  | [] => ⟨by simp [PyData.canLayAll0], by simp [PyData.depthAll]⟩
  | l :: ls => by
    obtain ⟨i1, i2⟩ := rows_lay n p ls
    obtain ⟨j1, j2⟩ := row_lay n (fndAll n l p)
    rw [List.map_cons]
    refine ⟨by simp [PyData.canLayAll0, i1, j1], ?_⟩
    rw [PyData.depthAll]
    omega
theorem pws_lay (n : Nat) (p : Nat → Nat) (w : Int) : ∀ ls : List (List Nat), PyData.canLayAll0 (ls.map fun l => PyData.tuple [rowT n (fndAll n l p), .int w]) = true ∧ PyData.depthAll (ls.map fun l => PyData.tuple [rowT n (fndAll n l p), .int w]) ≤ 4
  | [] => ⟨by simp [PyData.canLayAll0], by simp [PyData.depthAll]⟩
  | l :: ls => by
    obtain ⟨i1, i2⟩ := pws_lay n p w ls
    obtain ⟨j1, j2⟩ := row_lay n (fndAll n l p)
    rw [List.map_cons]
    refine ⟨by simp [PyData.canLay0, PyData.canLayAll0, i1, j1], ?_⟩
    rw [PyData.depthAll]
    simp only [PyData.depth, PyData.depthAll] at i2 ⊢
    omega
theorem shaped_row (n : Nat) (p : Nat → Nat) : SeqAt.shaped (rowT n p) = true := by
  obtain ⟨j1, j2⟩ := row_lay n p
  unfold SeqAt.shaped
  simp [j1]
  omega
theorem shaped_rows (n : Nat) (p : Nat → Nat) (ls : List (List Nat)) : SeqAt.shaped (.list (ls.map fun l => rowT n (fndAll n l p))) = true := by
  obtain ⟨j1, j2⟩ := rows_lay n p ls
  unfold SeqAt.shaped
  simp [PyData.canLay0, PyData.depth, j1]
  omega
theorem shaped_pws (n : Nat) (p : Nat → Nat) (w : Int) (ls : List (List Nat)) : SeqAt.shaped (.list (ls.map fun l => PyData.tuple [rowT n (fndAll n l p), .int w])) = true := by
  obtain ⟨j1, j2⟩ := pws_lay n p w ls
  unfold SeqAt.shaped
  simp [PyData.canLay0, PyData.depth, j1]
  omega
theorem eqv_nil (ds : List PyData) : PyData.eqv (.list ds) (.list []) = decide (ds = []) := by
  cases ds <;> simp [PyData.eqv, PyData.eqvAll]
/-- all that is known up to a level -/
def KnUp (n : Nat) (p : Nat → Nat) (k : Nat) (Ks : List (List Nat)) : Prop := (∀ m ∈ Ks, (∀ x ∈ m, x < n) ∧ lvl n p (fndAll n m p) ≤ k) ∧ ∀ m : List Nat, (∀ x ∈ m, x < n) → lvl n p (fndAll n m p) ≤ k → ∃ l ∈ Ks, ∀ v, v < n → fndAll n l p v = fndAll n m p v
/-- at the head of the search -/
def InvB (K : PySem.W.Frag) (d l a o1 o2 : Addr) (i n : Nat) (p q r r' : Nat → Nat) (k : Nat) (Ks Ls : List (List Nat)) (σ : L2.St) (H : Hp) : Prop :=
  ∃ (kn fr : Addr) (xk xf : List V), (∃ y9 y10 y11 y12 y13 y14 y15 y16 y17 y18, σ = [some (.ref a), some (.ref d), some (.int (0 + (i : Int))), some (.ref o1), some (.ref o2), some (vi n), some (.ref kn), some (.ref fr), some (vi k), y9, y10, y11, y12, y13, y14, y15, y16, y17, y18]) ∧ H kn = some (.lst xk) ∧ KnB K H n p xk Ks ∧ H fr = some (.lst xf) ∧ PwB K H n p (facB k) xf Ls ∧
    LvB n p k Ls ∧ KnUp n p k Ks ∧ (Rch n p q → k ≤ lvl n p q) ∧ Ks.length ≤ 15 * (k + 1) ∧ k ≤ 7 ∧ Pair K H o1 o2 n p q r r' ∧ DrawAt H d l
section
variable {P : Program} {w : World} {K : PySem.W.Frag} {mg : Str → Option Value} {base : Heap}
theorem ok_law {f : Addr} {fd : FuncData} (F : Fun K "law" "law" sLaw f fd) (T : Tx mg) (z_sum : mg "sum" = none) (z_set : mg "set" = none) (z_sorted : mg "sorted" = none) (z_any : mg "any" = none)
    (k1 : Kx P w K mg base 1 "_law_start" sStart ["_law_script"] (spStart K)) (k2 : Kx P w K mg base 6 "_law_rooted_pair" sRPair ["_law_draw", "_law_most"] (spRPair K)) (k3 : Kx P w K mg base 3 "_law_find" sLFind ["_law_forest_here", "_law_node"] (spFind K)) (k4 : Kx P w K mg base 3 "_law_same" sSame ["_law_found_here", "_law_due"] (spSame K 2)) (k5 : Kx P w K mg base 4 "_law_found" sLFound ["_law_forest_here", "_law_nodes_here"] (spFindAll K))
    (k6 : Kx P w K mg base 6 "find_bar" sBar ["one", "other"] (spBar K)) (k7 : Kx P w K mg base 9 "needed_finds" sNeed ["one", "other"] (spNeeded K)) (k8 : Kx P w K mg base 10 "count_ways" sCntW ["one", "other"] (spCntWP K)) :
    FnOk P w K mg base CX0 12 f fd ["_law_script"] (spLaw K) := by
  obtain ⟨_, _, k1⟩ := k1
  obtain ⟨_, _, k2⟩ := k2
  obtain ⟨_, _, k3⟩ := k3
  obtain ⟨_, _, k4⟩ := k4
  obtain ⟨_, _, k5⟩ := k5
  obtain ⟨_, _, k6⟩ := k6
  obtain ⟨_, _, k7⟩ := k7
  obtain ⟨_, _, k8⟩ := k8
  refine F.ok scLaw (fun vs H Q E h => ?_) (fun cdv A outer s H vs Q E hr h => ?_)
  · obtain ⟨a, ns, rfl, _⟩ := h
    rfl
  · obtain ⟨a, ns, rfl, hS, hlen, q⟩ := h
    have hrm : ∀ {j : Nat}, j ≤ 11 → Room j (A.deeper (envOfC "law" (defScope sLaw) s.heap.objs.size f cdv)) := fun h => hr.mono h
    have hu65 : (A.deeper (envOfC "law" (defScope sLaw) s.heap.objs.size f cdv)).units + 65 < cLine := by
      have := (hrm (j := 11) (by decide)).un
      omega
    refine ⟨_, (pss_cons (ps_set (i := 1) scLaw.nd rfl (.inl rfl) (pe_call k1.G (hrm (by decide)) (by rfl) k1.g k1.F.kp k1.b .nil pass0 (pa_cons (pv 0) pa_nil)))
      (pss_cons (ps_for PassesOwn.never rfl (pi_range1 (by rfl) T.range (pa_cons pe_int pa_nil)) (pg_name (i := 2) scLaw.nd rfl (.inl rfl))
        (pss_cons (ps_asg (pe_call k2.G (hrm (by decide)) (by rfl) k2.g k2.F.kp k2.b .nil pass0 (pa_cons (pv 1) (pa_cons pe_int pa_nil))) (pg_tup rfl (pgs_cons (pg_name (i := 3) scLaw.nd rfl (.inl rfl)) (pgs_cons (pg_name (i := 4) scLaw.nd rfl (.inr rfl)) pgs_nil))))
        (pss_cons (ps_set (i := 5) scLaw.nd rfl (.inl rfl) (pe_callB call_len_seq (by rfl) T.len PySem.boot_len (pa_cons (pv 3) pa_nil)))
        (pss_cons (ps_asg (pe_tup (pa_cons (pe_lst (pa_cons (pv 3) pa_nil)) (pa_cons (pe_lst (pa_cons (pe_tup (pa_cons (pv 3) (pa_cons pe_int pa_nil))) pa_nil)) (pa_cons pe_int pa_nil)))) (pg_tup rfl (pgs_cons (pg_name (i := 6) scLaw.nd rfl (.inr rfl)) (pgs_cons (pg_name (i := 7) scLaw.nd rfl (.inl rfl)) (pgs_cons (pg_name (i := 8) scLaw.nd rfl (.inl rfl)) pgs_nil)))))
        (C8.pss_cut (ps_while PassesOwn.never (PW.pt (pw_and (pt_cmpR (op_neD (hrm (j := 11) (by decide)).units) (pv 7) (pe_lst pa_nil) (nomark _)) (pw_and1 (pt_cmpR (op_notInD hu65) (pv 4) (pv 6) (by rfl)))))
          (pss_cons (ps_set (i := 9) scLaw.nd rfl (.inr rfl) (pe_lst pa_nil))
          (pss_cons (ps_for PassesOwn.never rfl (pi_list (pv 7)) (pg_tup rfl (pgs_cons (pg_name (i := 10) scLaw.nd rfl (.inr rfl)) (pgs_cons (pg_name (i := 11) scLaw.nd rfl (.inr rfl)) pgs_nil)))
            (pss_cons (ps_setLc (i := 12) (own := [("_law_node", 13)]) (g := gName 13) (by rfl) scLaw.nd rfl rfl (sw_true rfl rfl rfl (by decide +kernel)) (pi_range1 (by rfl) T.range (pa_cons (pv 5) pa_nil)) (blkOk_by (own := [("_law_node", 13)]) (N := lawN) (sc := defScope sLaw) (by decide +kernel)) (fun _ _ _ _ _ => (pg_name (i := 13) scLaw.nd rfl (.inl rfl))) (fun _ _ _ _ _ => pts_nil) (fun _ _ _ _ _ => (pe_ix (show IxR _ (rIx K) from ix_seq) (pe_call k3.G (hrm (by decide)) (by rfl) k3.g k3.F.kp k3.b .nil pass0 (pa_cons (pv 10) (pa_cons (pv 13) pa_nil))) pe_int (fun _ _ => rfl))))
            (pss_one (ps_expr (pe_bm PySem.F.plainAttrs_list PySem.F.slot_list_extend PySem.F.type_list_extend mt_extend (pv 9) (pa_cons (pe_lc (own := [("_law_end", 14)]) (g := gName 14) (by rfl) scLaw.nd (pi_list (pv 12)) (blkOk_by (own := [("_law_end", 14)]) (N := lawN) (sc := defScope sLaw) (by decide +kernel)) (fun _ _ _ _ _ => (pg_name (i := 14) scLaw.nd rfl (.inl rfl))) (fun _ _ _ _ _ => (pts_one (pt_cmpR (show OpR _ (compareOp .NotIn) (rNotInD K) from op_notInD hu65) (pv 14) (pv 6) (by rfl)))) (fun _ _ _ _ _ => (pe_tup (pa_cons (pv 14) (pa_cons (pv 11) pa_nil))))) pa_nil))))))
          (pss_cons (ps_set (i := 15) scLaw.nd rfl (.inl rfl) (pe_callB (cr_sortedT rfl) (by rfl) z_sorted (by decide +kernel) (pa_cons (pe_callTy (cr_setOfT rfl (hrm (j := 11) (by decide)).units) (by rfl) z_set (by decide +kernel) (pa_cons (pe_lc (own := [("_law_forest_here", 10), ("_law_ways", 11)]) (g := gTup K 2 (gCons (gName 10) (gCons (gName 11) gNil))) (by rfl) scLaw.nd (pi_list (pv 9)) (blkOk_by (own := [("_law_forest_here", 10), ("_law_ways", 11)]) (N := lawN) (sc := defScope sLaw) (by decide +kernel)) (fun _ _ _ _ _ => (pg_tup rfl (pgs_cons (pg_name (i := 10) scLaw.nd rfl (.inl rfl)) (pgs_cons (pg_name (i := 11) scLaw.nd rfl (.inl rfl)) pgs_nil)))) (fun _ _ _ _ _ => pts_nil) (fun _ _ _ _ _ => (pv 10))) pa_nil)) pa_nil)))
          (pss_cons (ps_setLc (i := 7) (own := [("_law_forest_here", 10)]) (g := gName 10) (by rfl) scLaw.nd rfl rfl (sw_true rfl rfl rfl (by decide +kernel)) (pi_list (pv 15)) (blkOk_by (own := [("_law_forest_here", 10)]) (N := lawN) (sc := defScope sLaw) (by decide +kernel)) (fun _ _ _ _ _ => pg_name (i := 10) scLaw.nd rfl (Or.inr rfl)) (fun _ _ _ _ _ => pts_nil) (fun _ _ _ _ _ => (pe_tup (pa_cons (pv 10) (pa_cons (pe_callB (show CallR _ (.builtin "sum") (rSum K) from cr_sum rfl) (by rfl) z_sum (by decide +kernel) (pa_cons (pe_lc (own := [("_law_there", 16), ("_law_ways", 11)]) (g := gTup K 2 (gCons (gName 16) (gCons (gName 11) gNil))) (by rfl) scLaw.nd (show PI _ _ _ (iList K (tVar 9)) from pi_list (pv 9)) (blkOk_by (own := [("_law_there", 16), ("_law_ways", 11)]) (N := lawN) (by kernel_rfl)) (fun _ _ _ _ _ => (pg_tup rfl (pgs_cons (pg_name (i := 16) scLaw.nd rfl (.inl rfl)) (pgs_cons (pg_name (i := 11) scLaw.nd rfl (.inl rfl)) pgs_nil)))) (fun _ _ _ _ _ => pts_one (pt_cmpR (show OpR _ (compareOp .Eq) (rEqD K) from op_eqD (hrm (j := 11) (by decide)).units) (pv 16) (pv 10) (nomark _))) (fun _ _ _ _ _ => pv 11)) pa_nil)) pa_nil)))))
          (pss_one (ps_asg (pe_tup (pa_cons (pe_op op_cat (pv 6) (pv 15)) (pa_cons (pe_op op_add (pv 8) pe_int) pa_nil))) (pg_tup rfl (pgs_cons (pg_name (i := 6) scLaw.nd rfl (.inr rfl)) (pgs_cons (pg_name (i := 8) scLaw.nd rfl (.inl rfl)) pgs_nil))))))))))
        (pss_cons (ps_if (pt_cmpR op_ne (pe_cmpR op_isN (pe_call k6.G (hrm (by decide)) (by rfl) k6.g k6.F.kp k6.b .nil pass0 (pa_cons (pv 3) (pa_cons (pv 4) pa_nil))) pe_non (nomark _)) (pe_cmpR (op_inD hu65) (pv 4) (pv 6) (by rfl)) (nomark _))
          (pss_one (ps_ret pe_bl)) pss_nil)
        (pss_one (ps_if (pt_cmpR (op_inD hu65) (pv 4) (pv 6) (by rfl))
          (pss_cons (ps_setLc (i := 17) (own := [("_law_forest_here", 10), ("_law_ways", 11)]) (g := gTup K 2 (gCons (gName 10) (gCons (gName 11) gNil))) (by rfl) scLaw.nd rfl rfl (sw_true rfl rfl rfl (by decide +kernel)) (pi_list (pv 7)) (blkOk_by (own := [("_law_forest_here", 10), ("_law_ways", 11)]) (N := lawN) (sc := defScope sLaw) (by decide +kernel)) (fun _ _ _ _ _ => (pg_tup rfl (pgs_cons (pg_name (i := 10) scLaw.nd rfl (.inl rfl)) (pgs_cons (pg_name (i := 11) scLaw.nd rfl (.inl rfl)) pgs_nil)))) (fun _ _ _ _ _ => (pts_one (pt_cmpR (show OpR _ (compareOp .Eq) (rEqD K) from op_eqD (hrm (j := 11) (by decide)).units) (pv 10) (pv 4) (nomark _)))) (fun _ _ _ _ _ => (pv 11)))
          (pss_cons (ps_set (i := 18) scLaw.nd rfl (.inl rfl) (pe_call k7.G (hrm (by decide)) (by rfl) k7.g k7.F.kp k7.b .nil pass0 (pa_cons (pv 3) (pa_cons (pv 4) pa_nil))))
          (pss_cons (ps_if (PW.pt (pw_or (pt_cmpR op_ne (pe_callB call_len_seq (by rfl) T.len PySem.boot_len (pa_cons (pv 18) pa_nil)) (pv 8) (nomark _)) (pw_or1 (pt_not (pt_val (pe_call k4.G (hrm (by decide)) (by rfl) k4.g k4.F.kp k4.b .nil pass0 (pa_cons (pe_call k8.G (hrm (by decide)) (by rfl) k8.g k8.F.kp k8.b .nil pass0 (pa_cons (pv 3) (pa_cons (pv 4) pa_nil))) (pa_cons (pe_ix (show IxR _ (rIx K) from ix_seq) (pv 17) pe_int (fun _ _ => rfl)) pa_nil))))))))
            (pss_one (ps_ret pe_bl)) pss_nil)
          (pss_one (ps_if (pt_cmpR (op_neD (hrm (j := 11) (by decide)).units) (pe_ix (show IxR _ (rIx K) from ix_seq) (pe_call k5.G (hrm (by decide)) (by rfl) k5.g k5.F.kp k5.b .nil pass0 (pa_cons (pv 3) (pa_cons (pv 18) pa_nil))) pe_int (fun _ _ => rfl)) (pv 4) (nomark _))
            (pss_one (ps_ret pe_bl)) pss_nil))))) pss_nil))))))))
      (pss_one (ps_ret pe_bl)))), ?_⟩
    have two : 2 ≤ sizeLine := by decide
    have three : 3 ≤ sizeLine := by decide
    have one : 1 ≤ sizeLine := by decide
    have zero : 0 ≤ sizeLine := by decide
    have big : ∀ m : Nat, m ≤ 4000 → m ≤ sizeLine := fun m h => Nat.le_trans h (by decide)
    have bigL : ∀ m : Nat, m ≤ 4000 → m < sizeLine := fun m h => Nat.lt_of_le_of_lt h (by decide)
    refine ⟨_, rfl, a, ns, rfl, hS, hlen, fun d l H0 nd hD0 s0 => ?_⟩
    refine ⟨_, rfl, by decide, by decide, ?_⟩
    refine for_range (lo := 0) (n := 3) (fun i σ H' => (∃ y2 y3 y4 y5 y6 y7 y8 y9 y10 y11 y12 y13 y14 y15 y16 y17 y18, σ = [some (.ref a), some (.ref d), y2, y3, y4, y5, y6, y7, y8, y9, y10, y11, y12, y13, y14, y15, y16, y17, y18]) ∧ DrawAt H' d l) ⟨⟨_, _, _, _, _, _, _, _, _, _, _, _, _, _, _, _, _, rfl⟩, hD0⟩ ?_ ?_
    · rintro i σ H' hi ⟨⟨y2, y3, y4, y5, y6, y7, y8, y9, y10, y11, y12, y13, y14, y15, y16, y17, y18, rfl⟩, hD⟩
      refine ⟨_, rfl, d, l, 6, rfl, hD, by decide, fun tp o1 o2 n p qq r r' H1 hn6 htp tpd o1d o2d P2 hD1 sb1 => ?_⟩
      refine ⟨tp, _, rfl, SqT.of htp, rfl, _, _, rfl, _, _, rfl, rfl, ?_⟩
      refine ⟨_, rfl, o1, _, rfl, .inr P2.sa, ?_⟩
      rw [tupOf_len]
      have hn6 : n ≤ 6 := hn6
      have F0 := P2.fa
      refine ⟨_, rfl, one, fun kn nkn => ⟨_, rfl, two, fun t1 nt1 => ⟨one, fun fr nfr => ⟨three, fun t3 nt3 => ⟨t3, _, rfl, SqT.of upd_same, rfl, _, _, rfl, _, _, rfl, _, _, rfl, rfl, ?_⟩⟩⟩⟩⟩
      have s1 := same_new (o := .lst [V.ref o1]) nkn
      have s2 := same_new (o := .tup [V.ref o1, V.int 1]) nt1
      have s3 := same_new (o := .lst [V.ref t1]) nfr
      have s4 := same_new (o := .tup [V.ref kn, V.ref fr, V.int 0]) nt3
      have s14 := s1.trans (s2.trans (s3.trans s4))
      refine ⟨fun σ H' => ∃ (k : Nat) (Ks Ls : List (List Nat)), InvB K d l a o1 o2 i n p qq r r' k Ks Ls σ H' ∧ (Ls = [] ∨ ∃ m ∈ Ks, ∀ v, v < n → fndAll n m p v = qq v), ?_, ?_⟩
      · refine while_by (fun σ H' => ∃ (k : Nat) (Ks Ls : List (List Nat)), InvB K d l a o1 o2 i n p qq r r' k Ks Ls σ H') (fun σ _ => match σ with
          | [_, _, _, _, _, _, _, _, some (.int y), _, _, _, _, _, _, _, _, _, _] => 8 - y.toNat
          | _ => 0) ⟨0, [[]], [[]], kn, fr, [.ref o1], [.ref t1], ⟨_, _, _, _, _, _, _, _, _, _, rfl⟩, (s2.trans (s3.trans s4)) _ _ upd_same, .cons (same_sqt s14 P2.sa) .nil, s4 _ _ upd_same, .cons ((s3.trans s4) _ _ upd_same) (same_sqt s14 P2.sa) .nil, first_lvl F0, ⟨fun m hm => ?_, fun m hm hk => ⟨[], List.mem_singleton.mpr rfl, fun v hv => ?_⟩⟩, fun _ => Nat.zero_le _, by decide, by decide, P2.same s14, hD1.same s14⟩ ?_ ?_
        · rw [List.mem_singleton.mp hm]
          exact ⟨fun x hx => (by cases hx), Nat.le_of_eq ((first_lvl F0).ok [] (List.mem_singleton.mpr rfl)).2⟩
        · exact (lvl_zero F0 ⟨m, hm, fun _ _ => rfl⟩).mp (by omega) v hv
        · clear s14 s4 s3 s2 s1 nt3 nfr nt1 nkn P2 hD1 htp
          rintro σ H' ⟨k, Ks, Ls, kn, fr, xk, xf, ⟨y9, y10, y11, y12, y13, y14, y15, y16, y17, y18, rfl⟩, hkn, hKn, hfr, hPw, A, U, low, hKl, hk7, P2, hD'⟩
          refine ⟨_, rfl, zero, fun p0 np0 => ?_⟩
          have s0 := same_new (o := .lst ([] : List V)) np0
          refine ⟨_, _, .lst (SqL.of (s0 _ _ hfr)) (hPw.same s0).dp, .lst (SqL.of upd_same) .nil, shaped_pws _ _ _ _, by decide +kernel, _, rfl, ?_⟩
          rw [eqv_nil]
          replace hfr := s0 _ _ hfr
          replace hkn := s0 _ _ hkn
          replace hKn := hKn.same s0
          replace hPw := hPw.same s0
          replace P2 := P2.same s0
          replace hD' := hD'.same s0
          generalize upd H' p0 (.lst ([] : List V)) = H2 at *
          clear s0 np0
          by_cases hL0 : Ls = []
          · rw [hL0]
            exact iteF (iteF ⟨k, Ks, Ls, ⟨kn, fr, xk, xf, ⟨_, _, _, _, _, _, _, _, _, _, rfl⟩, hkn, hKn, hfr, hPw, A, U, low, hKl, hk7, P2, hD'⟩, .inl hL0⟩)
          rw [show (!decide (Ls.map (fun l => PyData.tuple [rowT n (fndAll n l p), .int (facB k)]) = [])) = true by
            rw [decide_eq_false (fun z => hL0 (List.map_eq_nil_iff.mp z))]; rfl]
          refine iteT ⟨_, rfl, _, rfl, rowT n qq, _, rowT_dp P2.sb, .lst (SqL.of hkn) hKn.dp, shaped_row _ _, shaped_rows _ _ _, _, rfl, ?_⟩
          rw [any_rows]
          by_cases hin : ∃ m ∈ Ks, ∀ v, v < n → fndAll n m p v = qq v
          · rw [decide_eq_true hin]
            exact iteF ⟨k, Ks, Ls, ⟨kn, fr, xk, xf, ⟨_, _, _, _, _, _, _, _, _, _, rfl⟩, hkn, hKn, hfr, hPw, A, U, low, hKl, hk7, P2, hD'⟩, .inr hin⟩
          rw [decide_eq_false hin]
          refine iteT ?_
          obtain ⟨hLl, hTl⟩ := lt_few F0 hn6 A
          have hk6 : k ≤ 6 := by
            obtain ⟨m0, hm0⟩ := List.exists_mem_of_ne_nil _ hL0
            have := (A.ok m0 hm0).2
            have h2 := needS_len n p (fndAll n m0 p)
            unfold lvl at this
            omega
          have hn1 : 1 ≤ n := by
            refine Nat.pos_of_ne_zero fun z => hin ?_
            obtain ⟨m0, hm0⟩ := List.exists_mem_of_ne_nil _ hL0
            obtain ⟨m1, h1, _⟩ := U.2 m0 (A.ok m0 hm0).1 (Nat.le_of_eq (A.ok m0 hm0).2)
            exact ⟨m1, h1, fun v hv => by omega⟩
          refine ⟨zero, fun la nla => ?_⟩
          have s3 := same_new (o := .lst ([] : List V)) nla
          have hla : upd H2 la (.lst ([] : List V)) la = some (.lst []) := upd_same
          have nfl : fr ≠ la := ne_of_none hfr nla
          have nkl : kn ≠ la := ne_of_none hkn nla
          have nld : la ≠ d := hD'.ne nla
          have nll : la ≠ l := hD'.nel nla
          replace hfr := s3 _ _ hfr
          replace hkn := s3 _ _ hkn
          replace hKn := hKn.same s3
          replace hPw := hPw.same s3
          replace P2 := P2.same s3
          replace hD' := hD'.same s3
          generalize upd H2 la (.lst ([] : List V)) = H3 at *
          clear s3 nla
          have hfl := hPw.len
          refine ⟨_, rfl, fr, rfl, ⟨_, SqL.of hfr⟩, ?_⟩
          refine for_list (xs := xf) (fun j σ H' => ∃ xl, (∃ y10 y11 y12 y13 y14, σ = [some (.ref a), some (.ref d), some (.int (0 + (i : Int))), some (.ref o1), some (.ref o2), some (vi n), some (.ref kn), some (.ref fr), some (vi k), some (.ref la), y10, y11, y12, y13, y14, y15, y16, y17, y18]) ∧ H' la = some (.lst xl) ∧ PwB K H' n p (facB k) xl (ltB n p k (Ls.take j)) ∧ H' kn = some (.lst xk) ∧ KnB K H' n p xk Ks ∧ H' fr = some (.lst xf) ∧ PwB K H' n p (facB k) xf Ls ∧ Pair K H' o1 o2 n p qq r r' ∧ DrawAt H' d l) ⟨[], ⟨_, _, _, _, _, rfl⟩, hla, .nil, hkn, hKn, hfr, hPw, P2, hD'⟩ (fun j σ H' _ h => by
            obtain ⟨_, _, _, _, _, _, h, _⟩ := h
            exact SqL.of h) ?_ ?_
          · clear hla hkn hKn hfr hPw P2 hD'
            rintro j x σ H' hx ⟨xl, ⟨y10, y11, y12, y13, y14, rfl⟩, hla, hPl, hkn, hKn, hfr, hPw, P2, hD'⟩
            obtain ⟨t, g0, m, rfl, hm, ht, hg0⟩ := hPw.get hx
            have hjL : j < Ls.length := (List.getElem?_eq_some_iff.mp hm).1
            have hmm := List.mem_of_getElem? hm
            obtain ⟨hml, hmk⟩ := A.ok m hmm
            have Fm := fndAll_fo F0 m hml p F0
            refine ⟨t, _, rfl, SqT.of ht, rfl, _, _, rfl, _, _, rfl, rfl, ?_⟩
            refine ⟨_, rfl, _, rfl, by omega, by omega, fun D nD => ?_⟩
            refine lc_range (lo := 0) (n := ((n : Nat) : Int).toNat) (fun x H2 => ∃ es, H2 D = some (.lst es) ∧ KnB K H2 n p es ((List.range x).map fun y => m ++ [y]) ∧ Same H' H2) ⟨[], upd_same, .nil, same_new nD⟩ ?_ ?_
            · rintro x H2 hx ⟨es, hes, hEs, sm⟩
              have hxn : x < n := by omega
              show gName 13 (V.int ((0 : Int) + (x : Int))) _ _ _
              rw [Int.zero_add]
              refine ⟨rfl, _, rfl, _, rfl, g0, n, fndAll n m p, r, x, rfl, .inr (same_sqt sm hg0), by omega, Fm, hxn, fun t2 g2 H3 nt2 ng2 ht2 hg2 s3 => ?_⟩
              refine Sq.ix (.inr (SqT.of ht2)) (show atI [V.ref g2, _] (0 : Int) = some (.ref g2) from rfl) ⟨es, s3 _ _ hes, bigL _ (by rw [hEs.len, List.length_map, List.length_range]; omega), _, upd_same, ?_, same_over (sm.trans s3) nD⟩
              rw [List.range_succ, List.map_append]
              rw [← fndAll_snoc] at hg2
              exact ((hEs.same s3).updL (s3 _ _ hes)).app (.cons (sqT_updL (SqT.of hg2) (s3 _ _ hes)) .nil)
            rintro H2 ⟨es, hes, hEs, s2⟩
            rw [show ((n : Nat) : Int).toNat = n by omega] at hEs
            replace hla := s2 _ _ hla
            replace hPl := hPl.same s2
            replace hkn := s2 _ _ hkn
            replace hKn := hKn.same s2
            replace hfr := s2 _ _ hfr
            replace hPw := hPw.same s2
            replace P2 := P2.same s2
            replace hD' := hD'.same s2
            clear s2 nD ht hg0
            have hel := hEs.len
            rw [List.length_map, List.length_range] at hel
            refine ⟨_, rfl, .inl ⟨rfl, _, SqL.of hla⟩, _, rfl, D, rfl, ⟨_, SqL.of hes⟩, fun D2 nD2 => ?_⟩
            refine lc_list (xs := es) (fun x H' => ∃ zs, H' D2 = some (.lst zs) ∧ PwB K H' n p (facB k) zs (((List.range x).filter fun x => decide (lvl n p (fndAll n (m ++ [x]) p) = k + 1)).map fun x => m ++ [x]) ∧ Same H2 H') ⟨[], upd_same, .nil, same_new nD2⟩ (fun x H' _ h => by
              obtain ⟨_, _, _, sm⟩ := h
              exact SqL.of (sm _ _ hes)) ?_ ?_
            · rintro x v H' hx ⟨zs, hzs, hZs, sm⟩
              obtain ⟨g2, m2, rfl, hm2, hg2⟩ := hEs.get hx
              have hxn : x < n := by
                have := (List.getElem?_eq_some_iff.mp hx).1
                omega
              rw [List.getElem?_map, List.getElem?_range hxn] at hm2
              obtain rfl : m ++ [x] = m2 := Option.some.inj hm2
              have hml2 : ∀ y ∈ m ++ [x], y < n := fun y hy => by
                rcases List.mem_append.mp hy with z | z
                · exact hml y z
                · rw [List.mem_singleton.mp z]; exact hxn
              have hup : lvl n p (fndAll n (m ++ [x]) p) ≤ k + 1 := by
                have := lvl_step F0 hml hxn
                rw [← fndAll_snoc] at this
                omega
              refine ⟨rfl, _, rfl, _, rfl, rowT n (fndAll n (m ++ [x]) p), _, rowT_dp (same_sqt sm hg2), .lst (SqL.of (sm _ _ hkn)) (hKn.same sm).dp, shaped_row _ _, shaped_rows _ _ _, _, rfl, ?_⟩
              rw [any_rows]
              have hiff : (∃ l ∈ Ks, ∀ v, v < n → fndAll n l p v = fndAll n (m ++ [x]) p v) ↔ ¬ lvl n p (fndAll n (m ++ [x]) p) = k + 1 := by
                constructor
                · rintro ⟨l, hl, e⟩ z
                  have h2 := (U.1 l hl).2
                  rw [lvl_congr e] at h2
                  omega
                · intro z
                  exact U.2 _ hml2 (by omega)
              have hrs : (List.range (x + 1)).filter (fun x => decide (lvl n p (fndAll n (m ++ [x]) p) = k + 1)) = (List.range x).filter (fun x => decide (lvl n p (fndAll n (m ++ [x]) p) = k + 1)) ++ if lvl n p (fndAll n (m ++ [x]) p) = k + 1 then [x] else [] := by
                rw [List.range_succ, List.filter_append, List.filter_cons]
                by_cases z : lvl n p (fndAll n (m ++ [x]) p) = k + 1
                · rw [if_pos z, decide_eq_true z]; rfl
                · rw [if_neg z, decide_eq_false z]; rfl
              by_cases hz : lvl n p (fndAll n (m ++ [x]) p) = k + 1
              · rw [decide_eq_false (fun y => hiff.mp y hz)]
                rw [if_pos hz] at hrs
                refine iteT ⟨_, rfl, _, rfl, two, fun t2 nt2 => ?_⟩
                have s3 := same_new (o := .tup [V.ref g2, V.int (facB k)]) nt2
                refine ⟨zs, s3 _ _ hzs, bigL _ ?_, ⟨_, upd_same, ?_, same_over (sm.trans s3) nD2⟩⟩
                · rw [hZs.len, List.length_map]
                  exact Nat.le_trans (List.length_filter_le _ _) (by rw [List.length_range]; omega)
                · rw [hrs, List.map_append]
                  exact ((hZs.same s3).updL (s3 _ _ hzs)).app (.cons (by rw [upd_ne (ne_of (show _ = some (.tup _) from upd_same) (s3 _ _ hzs) (by intro z; cases z))]; exact upd_same) (sqT_updL (same_sqt (sm.trans s3) hg2) (s3 _ _ hzs)) .nil)
              · rw [decide_eq_true (hiff.mpr hz)]
                rw [if_neg hz, List.append_nil] at hrs
                exact iteF ⟨zs, hzs, by rw [hrs]; exact hZs, sm⟩
            rintro H4 ⟨zs, hzs, hZs, s4⟩
            rw [hel] at hZs
            have hPl4 := hPl.same s4
            have hla4 := s4 _ _ hla
            refine ⟨la, D2, xl, zs, rfl, rfl, hla4, hzs, big _ ?_, ⟨_, ⟨_, _, _, _, _, rfl⟩, upd_same, ?_, by rw [upd_ne nkl]; exact s4 _ _ hkn, (hKn.same s4).updL hla4, by rw [upd_ne nfl]; exact s4 _ _ hfr, (hPw.same s4).updL hla4, ⟨sqT_updL (P2.same s4).sa hla4, sqT_updL (P2.same s4).sb hla4, P2.le, P2.fa, P2.fb, P2.ro⟩, (hD'.same s4).put nld nll⟩⟩
            · rw [hPl4.len, hZs.len, List.length_map]
              have h1 : (ltB n p k (Ls.take j)).length ≤ 60 := by
                have h2 : (ltB n p k Ls).length = (ltB n p k (Ls.take j)).length + (ltB n p k (Ls.drop j)).length := by
                  unfold ltB
                  rw [← List.length_append, ← List.flatMap_append, List.take_append_drop]
                omega
              have h3 := List.length_filter_le (fun x => decide (lvl n p (fndAll n (m ++ [x]) p) = k + 1)) (List.range n)
              rw [List.length_range] at h3
              omega
            · have h5 : ltB n p k (Ls.take (j + 1)) = ltB n p k (Ls.take j) ++ nxB n p k m := by
                unfold ltB
                rw [List.take_add_one, hm, List.flatMap_append]
                show _ ++ List.flatMap (nxB n p k) [m] = _
                rw [List.flatMap_singleton]
              rw [h5]
              exact (hPl4.app hZs).updL hla4
          clear hla hkn hKn hfr hPw P2 hD'
          rintro σ H4 ⟨xl, ⟨y10, y11, y12, y13, y14, rfl⟩, hla, hPl, hkn, hKn, hfr, hPw, P2, hD'⟩
          rw [hfl, List.take_length] at hPl
          obtain ⟨LT, hLT⟩ : ∃ LT, LT = ltB n p k Ls := ⟨_, rfl⟩
          rw [← hLT] at hPl hTl
          have hxl := hPl.len
          -- the next level
          refine ⟨_, rfl, la, rfl, ⟨_, SqL.of hla⟩, fun D3 nD3 => ?_⟩
          refine lc_list (xs := xl) (fun j H' => ∃ ks : List (Addr × List Int), H' D3 = some (.lst (ks.map fun q => V.ref q.1)) ∧ ks.map (·.2) = (LT.take j).map (fun m => rdB n (fndAll n m p)) ∧ (∀ q ∈ ks, SqT K H' q.1 (q.2.map V.int)) ∧ Same H4 H') ⟨[], upd_same, by rw [List.take_zero]; rfl, fun q hq => (by cases hq), same_new nD3⟩ (fun j H' _ h => by
            obtain ⟨_, _, _, _, sm⟩ := h
            exact SqL.of (sm _ _ hla)) ?_ ?_
          · rintro j v H' hx ⟨ks, hks, hkr, hkt, sm⟩
            obtain ⟨t, g0, m, rfl, hm, ht, hg0⟩ := hPl.get hx
            refine ⟨t, _, rfl, SqT.of (sm _ _ ht), rfl, _, _, rfl, _, _, rfl, rfl, rfl, ?_⟩
            have hkl : ks.length ≤ 60 := by
              have := congrArg List.length hkr
              rw [List.length_map, List.length_map, List.length_take] at this
              omega
            refine ⟨_, rfl, _, hks, bigL _ (by rw [List.length_map]; omega), ⟨ks ++ [(g0, rdB n (fndAll n m p))], ?_, ?_, fun q hq => ?_, same_over sm nD3⟩⟩
            · rw [upd_same, List.map_append]
              rfl
            · rw [List.take_add_one, hm, List.map_append, List.map_append, hkr]
              rfl
            · rcases List.mem_append.mp hq with h | h
              · exact sqT_updL (hkt q h) hks
              · rw [List.mem_singleton.mp h]
                have := same_sqt sm hg0
                rw [tup_int] at this
                exact sqT_updL this hks
          rintro H5 ⟨ks, hks, hkr, hkt, s5⟩
          rw [hxl, List.take_length] at hkr
          have hkl : ks.length ≤ 60 := by
            have := congrArg List.length hkr
            rw [List.length_map, List.length_map] at this
            omega
          refine ⟨D3, ks, rfl, SqL.of hks, hkt, by omega, fun sa L hna hsub hall => ?_⟩
          have s6 := same_new (o := SetTO P w sa L) hna
          have hLrow : ∀ q ∈ L, ∃ m ∈ LT, q.2 = rdB n (fndAll n m p) := fun q hq => by
            have h1 : q.2 ∈ LT.map (fun m => rdB n (fndAll n m p)) := by
              rw [← hkr]
              exact List.mem_map.mpr ⟨q, hsub q hq, rfl⟩
            obtain ⟨m, hm, e⟩ := List.mem_map.mp h1
            exact ⟨m, hm, e.symm⟩
          have hLTok : ∀ m ∈ LT, (∀ x ∈ m, x < n) ∧ lvl n p (fndAll n m p) = k + 1 := fun m hm => ltB_ok A.ok m (by rw [← hLT]; exact hm)
          refine ⟨sa, L, n, (n : Int), rfl, upd_same, fun q hq => same_sqt s6 (hkt q (hsub q hq)), hn1, fun q hq => ?_, fun L' so perm hnd hfew _ nso => ?_⟩
          · obtain ⟨m, hm, e⟩ := hLrow q hq
            rw [e]
            have Fm := fndAll_fo F0 m (hLTok m hm).1 p F0
            refine ⟨by unfold rdB; rw [List.length_map, List.length_range], fun z hz => ?_⟩
            unfold rdB at hz
            obtain ⟨v, hv, rfl⟩ := List.mem_map.mp hz
            have := Fm.lt v (List.mem_range.mp hv)
            omega
          have s7 := s6.trans (same_new (o := .lst (L'.map fun q => V.ref q.1)) nso)
          have hso : upd (upd H5 sa (SetTO P w sa L)) so (.lst (L'.map fun q => V.ref q.1)) so = some (.lst (L'.map fun q => V.ref q.1)) := upd_same
          have s47 := s5.trans s7
          have hL't : ∀ q ∈ L', SqT K (upd (upd H5 sa (SetTO P w sa L)) so (.lst (L'.map fun q => V.ref q.1))) q.1 (q.2.map V.int) := fun q hq => same_sqt s7 (hkt q (hsub q (perm.mem_iff.mp hq)))
          show gName 15 (V.ref so) _ (upd (upd H5 sa (SetTO P w sa L)) so (.lst (L'.map fun q => V.ref q.1))) _
          generalize upd (upd H5 sa (SetTO P w sa L)) so (.lst (L'.map fun q => V.ref q.1)) = H7 at *
          -- the rows' finds
          obtain ⟨Ns, hNs⟩ : ∃ Ns : List (List Nat), L'.map (·.2) = Ns.map (fun m => rdB n (fndAll n m p)) ∧ ∀ m ∈ Ns, m ∈ LT := by
            have : ∀ M : List (Addr × List Int), (∀ q ∈ M, ∃ m ∈ LT, q.2 = rdB n (fndAll n m p)) → ∃ Ns : List (List Nat), M.map (·.2) = Ns.map (fun m => rdB n (fndAll n m p)) ∧ ∀ m ∈ Ns, m ∈ LT := by
              intro M
              induction M with
              | nil => intro _; exact ⟨[], rfl, fun m hm => (by cases hm)⟩
              | cons q M ih =>
                intro h
                obtain ⟨Ns, e1, e2⟩ := ih fun q hq => h q (List.mem_cons_of_mem _ hq)
                obtain ⟨m, hm, e⟩ := h q List.mem_cons_self
                refine ⟨m :: Ns, by rw [List.map_cons, List.map_cons, e1, e], fun z hz => ?_⟩
                rcases List.mem_cons.mp hz with h | h
                · rw [h]; exact hm
                · exact e2 z h
            exact this L' fun q hq => hLrow q (perm.mem_iff.mp hq)
          obtain ⟨hN1, hN2⟩ := hNs
          have hKnS : KnB K H7 n p (L'.map fun q => V.ref q.1) Ns := by
            have : ∀ (M : List (Addr × List Int)) (Ns : List (List Nat)), M.map (·.2) = Ns.map (fun m => rdB n (fndAll n m p)) → (∀ q ∈ M, SqT K H7 q.1 (q.2.map V.int)) → KnB K H7 n p (M.map fun q => V.ref q.1) Ns := by
              intro M
              induction M with
              | nil =>
                intro Ns e _
                cases Ns with
                | nil => exact .nil
                | cons _ _ => cases e
              | cons q M ih =>
                intro Ns e h
                cases Ns with
                | nil => cases e
                | cons m Ns =>
                  rw [List.map_cons, List.map_cons] at e
                  injection e with e1 e2
                  refine .cons ?_ (ih Ns e2 fun q hq => h q (List.mem_cons_of_mem _ hq))
                  have := h q List.mem_cons_self
                  rw [e1] at this
                  rw [tup_int]
                  exact this
            exact this L' Ns hN1 hL't
          have rd_rw : ∀ m : List Nat, rdB n (fndAll n m p) = (rwB n p m).map fun v : Nat => (v : Int) := fun m => by
            unfold rdB rwB
            rw [List.map_map]
            rfl
          have A2 : LvB n p (k + 1) Ns := by
            refine next_lvl F0 A (fun m hm => by rw [← hLT]; exact hN2 m hm) (fun m hm => ?_) ?_
            · rw [← hLT] at hm
              have h1 : rdB n (fndAll n m p) ∈ ks.map (·.2) := by rw [hkr]; exact List.mem_map.mpr ⟨m, hm, rfl⟩
              obtain ⟨q0, hq0, e0⟩ := List.mem_map.mp h1
              have h2 := hall q0 hq0
              obtain ⟨q1, hq1, e1⟩ := List.mem_map.mp h2
              have h3 : rdB n (fndAll n m p) ∈ Ns.map (fun m => rdB n (fndAll n m p)) := by
                rw [← hN1, ← e0]
                exact List.mem_map.mpr ⟨q1, perm.mem_iff.mpr hq1, e1⟩
              obtain ⟨m2, hm2, e2⟩ := List.mem_map.mp h3
              exact List.mem_map.mpr ⟨m2, hm2, rwB_eq.mpr (rdB_eq.mp e2)⟩
            · rw [hN1] at hnd
              have : Ns.map (fun m => rdB n (fndAll n m p)) = (Ns.map (rwB n p)).map fun z : List Nat => z.map fun v : Nat => (v : Int) := by
                rw [List.map_map]
                exact List.map_congr_left fun m _ => rd_rw m
              rw [this] at hnd
              exact List.Pairwise.of_map _ (fun _ _ h e => h (by rw [e])) hnd
          have hNl : Ns.length ≤ 15 := few_rows F0 hn6 A2.ok A2.nd
          have hL'l : L'.length = Ns.length := by
            have := congrArg List.length hN1
            rw [List.length_map, List.length_map] at this
            exact this
          replace hla := s47 _ _ hla
          replace hPl := hPl.same s47
          replace hkn := s47 _ _ hkn
          replace hKn := hKn.same s47
          replace P2 := P2.same s47
          replace hD' := hD'.same s47
          clear s47 s7 s6 s5 hks hkt hL't perm hnd nso hna hfr hPw nD3 hLrow hall hsub hkr
          have hsl : (L'.map fun q => V.ref q.1).length = Ns.length := by rw [List.length_map]; exact hL'l
          generalize (L'.map fun q => V.ref q.1) = xs at *
          refine ⟨_, rfl, so, rfl, ⟨_, SqL.of hso⟩, fun DF nDF => ?_⟩
          refine lc_list (xs := xs) (fun j H' => ∃ zs, H' DF = some (.lst zs) ∧ PwB K H' n p (facB (k + 1)) zs (Ns.take j) ∧ Same H7 H') ⟨[], upd_same, .nil, same_new nDF⟩ (fun j H' _ h => by
            obtain ⟨_, _, _, sm⟩ := h
            exact SqL.of (sm _ _ hso)) ?_ ?_
          · rintro j v H' hx ⟨zs, hzs, hZs, sm⟩
            obtain ⟨g0, m, rfl, hm, hg0⟩ := hKnS.get hx
            have hmm := List.mem_of_getElem? hm
            obtain ⟨hml, hmk⟩ := A2.ok m hmm
            refine ⟨rfl, _, rfl, _, rfl, la, rfl, ⟨_, SqL.of (sm _ _ hla)⟩, fun DI nDI => ?_⟩
            refine lc_list (xs := xl) (fun i H2 => H2 DI = some (.lst ((List.replicate ((LT.take i).filter fun m' => decide (rwB n p m' = rwB n p m)).length (facB k)).map V.int)) ∧ Same H' H2) ⟨by rw [List.take_zero]; exact upd_same, same_new nDI⟩ (fun i H2 _ h => SqL.of (h.2 _ _ (sm _ _ hla))) ?_ ?_
            · rintro i v H2 hx2 ⟨hDI, sm2⟩
              obtain ⟨t, g1, m1, rfl, hm1, ht, hg1⟩ := hPl.get hx2
              have smm := sm.trans sm2
              refine ⟨t, _, rfl, SqT.of (smm _ _ ht), rfl, _, _, rfl, _, _, rfl, rfl, rfl, ?_⟩
              refine ⟨_, rfl, _, rfl, rowT n (fndAll n m1 p), rowT n (fndAll n m p), rowT_dp (same_sqt smm hg1), rowT_dp (same_sqt smm hg0), shaped_row _ _, shaped_row _ _, _, rfl, ?_⟩
              rw [rowT_eqv]
              have hrs : (LT.take (i + 1)).filter (fun m' => decide (rwB n p m' = rwB n p m)) = (LT.take i).filter (fun m' => decide (rwB n p m' = rwB n p m)) ++ if rwB n p m1 = rwB n p m then [m1] else [] := by
                rw [List.take_add_one, hm1, List.filter_append]
                congr 1
                show List.filter _ [m1] = _
                rw [List.filter_cons]
                by_cases z : rwB n p m1 = rwB n p m
                · rw [if_pos z, decide_eq_true z]; rfl
                · rw [if_neg z, decide_eq_false z]; rfl
              have hre : rdB n (fndAll n m1 p) = rdB n (fndAll n m p) ↔ rwB n p m1 = rwB n p m := rdB_eq.trans rwB_eq.symm
              by_cases hz : rwB n p m1 = rwB n p m
              · rw [decide_eq_true (hre.mpr hz)]
                rw [if_pos hz] at hrs
                refine iteT ⟨_, rfl, _, hDI, bigL _ ?_, ?_, same_over sm2 nDI⟩
                · rw [List.length_map, List.length_replicate]
                  exact Nat.le_trans (List.length_filter_le _ _) (by rw [List.length_take]; omega)
                · rw [upd_same, hrs, List.length_append, ← List.replicate_append_replicate, List.map_append]
                  rfl
              · rw [decide_eq_false (fun y => hz (hre.mp y))]
                rw [if_neg hz, List.append_nil] at hrs
                exact iteF ⟨by rw [hrs]; exact hDI, sm2⟩
            rintro H2 ⟨hDI, sm2⟩
            rw [hxl, List.take_length, hLT, pairs_count F0 A hml hmk] at hDI
            refine ⟨DI, _, rfl, SqL.of hDI, two, fun t2 nt2 => ?_⟩
            have e : (List.replicate (k + 1) (facB k)).sum = facB (k + 1) := by
              rw [show ∀ (j : Nat) (z : Int), (List.replicate j z).sum = (j : Int) * z from fun j z => by
                induction j with
                | zero => simp
                | succ j ih => rw [List.replicate_succ, List.sum_cons, ih, show ((j + 1 : Nat) : Int) = (j : Int) + 1 by omega, Int.add_mul, Int.one_mul, Int.add_comm]]
              rfl
            rw [e]
            have s3 := sm2.trans (same_new (o := .tup [V.ref g0, V.int (facB (k + 1))]) nt2)
            have hzs3 := s3 _ _ hzs
            refine ⟨zs, hzs3, bigL _ (by rw [hZs.len, List.length_take]; omega), zs ++ [V.ref t2], upd_same, ?_, same_over (sm.trans s3) nDF⟩
            rw [List.take_add_one, hm]
            exact ((hZs.same s3).updL hzs3).app (.cons (by rw [upd_ne (ne_of (show _ = some (.tup _) from upd_same) hzs3 (by intro z; cases z))]; exact upd_same) (sqT_updL (same_sqt (sm.trans s3) hg0) hzs3) .nil)
          rintro H8 ⟨zs, hzs, hZs, s8⟩
          rw [hsl, List.take_length] at hZs
          have hkn8 := s8 _ _ hkn
          have hso8 := s8 _ _ hso
          have hxk := hKn.len
          refine ⟨_, rfl, _, rfl, kn, so, _, _, rfl, rfl, hkn8, hso8, big _ (by rw [hxk, hsl]; omega), fun kn2 nkn2 => ⟨_, rfl, _, _, rfl, rfl, two, fun t2 nt2 => ⟨t2, _, rfl, SqT.of upd_same, rfl, _, _, rfl, _, _, rfl, rfl, ?_⟩⟩⟩
          have s9 := (same_new (o := .lst (xk ++ xs)) nkn2).trans (same_new (o := .tup [V.ref kn2, V.int ((k : Int) + 1)]) nt2)
          have s79 := s8.trans s9
          refine ⟨⟨k + 1, Ks ++ Ns, Ns, kn2, DF, xk ++ xs, zs, ⟨_, _, _, _, _, _, _, _, _, _, rfl⟩, same_new nt2 _ _ upd_same, (hKn.same s79).app (hKnS.same s79), s9 _ _ hzs, hZs.same s9, A2, ⟨fun m hm => ?_, fun m hm hmk => ?_⟩, fun R => ?_, ?_, by omega, P2.same s79, hD'.same s79⟩, ?_⟩
          · rcases List.mem_append.mp hm with h | h
            · exact ⟨(U.1 m h).1, Nat.le_trans (U.1 m h).2 (Nat.le_succ _)⟩
            · exact ⟨(A2.ok m h).1, Nat.le_of_eq (A2.ok m h).2⟩
          · by_cases hz : lvl n p (fndAll n m p) ≤ k
            · obtain ⟨l1, h1, h2⟩ := U.2 m hm hz
              exact ⟨l1, List.mem_append_left _ h1, h2⟩
            · obtain ⟨l1, h1, h2⟩ := List.mem_map.mp (A2.all m hm (by omega))
              exact ⟨l1, List.mem_append_right _ h1, rwB_eq.mp h2⟩
          · have h1 := low R
            by_cases hz : lvl n p qq = k
            · obtain ⟨m, hm, e⟩ := R
              obtain ⟨l1, h3, h4⟩ := U.2 m hm (by rw [lvl_congr e]; omega)
              exact absurd ⟨l1, h3, fun v hv => (h4 v hv).trans (e v hv)⟩ hin
            · omega
          · rw [List.length_append]
            omega
          · show 8 - ((k : Int) + 1).toNat < 8 - ((k : Int)).toNat
            omega
        · intro σ H Q Q' h hc
          obtain ⟨u, e1, sz, k⟩ := hc
          refine ⟨u, e1, sz, fun p np => ?_⟩
          obtain ⟨d1, d2, h1, h2, h3, h4, v, e5, q⟩ := k p np
          refine ⟨d1, d2, h1, h2, h3, h4, v, e5, ?_⟩
          cases v with
          | false => exact h _ _ q
          | true =>
            obtain ⟨u2, e6, u3, e7, d3, ds, h5, h6, h7, h8, v2, e8, q2⟩ := q
            exact ⟨u2, e6, u3, e7, d3, ds, h5, h6, h7, h8, v2, e8, h _ _ q2⟩
      clear s14 s4 s3 s2 s1 nt3 nfr nt1 nkn P2 hD1 htp
      rintro σ H2 ⟨k, Ks, Ls, ⟨kn, fr, xk, xf, ⟨y9, y10, y11, y12, y13, y14, y15, y16, y17, y18, rfl⟩, hkn, hKn, hfr, hPw, A, U, low, hKl, hk7, P2, hD2⟩, hex⟩
      have hq : ∀ v, v < n → p v = v → qq v = v := fun v hv h => (P2.ro v hv).mp h
      have hWR := way_rch F0 hq
      have hKR : (∃ m ∈ Ks, ∀ v, v < n → fndAll n m p v = qq v) ↔ Rch n p qq := by
        constructor
        · rintro ⟨m, hm, e⟩
          exact ⟨m, (U.1 m hm).1, e⟩
        · intro R
          rcases hex with h | h
          · obtain ⟨j, hj⟩ : ∃ j, lvl n p qq = k + j := ⟨lvl n p qq - k, by have := low R; omega⟩
            obtain ⟨m, hm, hmk⟩ := lower_lvl F0 j R k (low R) hj
            have := A.all m hm hmk
            rw [h] at this
            cases this
          · exact h
      have bot : ∀ b : Bool, ∀ v : V, (decide (v = V.non) = b) → b = decide (∃ m ∈ Ks, ∀ v, v < n → fndAll n m p v = qq v) → ∀ H3, Same H2 H3 → (!decide (V.bl (decide (v = V.non)) = V.bl (decide (∃ m ∈ Ks, ∀ v, v < n → fndAll n m p v = qq v)))) = false := fun b v h1 h2 H3 s3 => by
        rw [h1, h2, decide_eq_true rfl]
        rfl
      refine ⟨_, rfl, _, rfl, o1, o2, n, p, qq, r, r', rfl, P2, fun W H3 s3 => ?_, fun nW t x y H3 ht s3 => ?_⟩
      · have R := hWR.mp W
        refine ⟨rfl, _, rfl, _, rfl, rowT n qq, _, rowT_dp (P2.same s3).sb, .lst (SqL.of (s3 _ _ hkn)) (hKn.same s3).dp, shaped_row _ _, shaped_rows _ _ _, rfl, _, rfl, ?_⟩
        rw [any_rows, bot true .non rfl (decide_eq_true (hKR.mpr R)).symm H3 s3]
        refine iteF ⟨_, rfl, _, rfl, rowT n qq, _, rowT_dp (P2.same s3).sb, .lst (SqL.of (s3 _ _ hkn)) (hKn.same s3).dp, shaped_row _ _, shaped_rows _ _ _, _, rfl, ?_⟩
        rw [any_rows, decide_eq_true (hKR.mpr R)]
        refine iteT ?_
        have hlk : lvl n p qq = k := by
          obtain ⟨m, hm, e⟩ := hKR.mpr R
          have h1 := (U.1 m hm).2
          rw [lvl_congr e] at h1
          have := low R
          omega
        have hfl := hPw.len
        have hLf := (lt_few F0 hn6 A).1
        refine ⟨_, rfl, fr, rfl, ⟨_, SqL.of (s3 _ _ hfr)⟩, fun D nD => ?_⟩
        refine lc_list (xs := xf) (fun j H' => H' D = some (.lst ((List.replicate ((Ls.take j).filter fun m => decide (∀ v, v < n → fndAll n m p v = qq v)).length (facB k)).map V.int)) ∧ Same H3 H') ⟨by rw [List.take_zero]; exact upd_same, same_new nD⟩ (fun j H' _ h => SqL.of (h.2 _ _ (s3 _ _ hfr))) ?_ ?_
        · rintro j v H' hx ⟨hDj, sm⟩
          obtain ⟨t, g0, m, rfl, hm, ht, hg0⟩ := hPw.get hx
          have s3m := s3.trans sm
          refine ⟨t, _, rfl, SqT.of (s3m _ _ ht), rfl, _, _, rfl, _, _, rfl, rfl, rfl, ?_⟩
          refine ⟨_, rfl, _, rfl, rowT n (fndAll n m p), rowT n qq, rowT_dp (same_sqt s3m hg0), rowT_dp (P2.same s3m).sb, shaped_row _ _, shaped_row _ _, _, rfl, ?_⟩
          rw [rowT_eqv]
          have hrs : (Ls.take (j + 1)).filter (fun m => decide (∀ v, v < n → fndAll n m p v = qq v)) = (Ls.take j).filter (fun m => decide (∀ v, v < n → fndAll n m p v = qq v)) ++ if (∀ v, v < n → fndAll n m p v = qq v) then [m] else [] := by
            rw [List.take_add_one, hm, List.filter_append]
            congr 1
            show List.filter _ [m] = _
            rw [List.filter_cons]
            by_cases z : ∀ v, v < n → fndAll n m p v = qq v
            · rw [if_pos z, decide_eq_true z]; rfl
            · rw [if_neg z, decide_eq_false z]; rfl
          by_cases hz : ∀ v, v < n → fndAll n m p v = qq v
          · rw [decide_eq_true (rdB_eq.mpr hz)]
            rw [if_pos hz] at hrs
            refine iteT ⟨_, rfl, _, hDj, bigL _ ?_, ?_, same_over sm nD⟩
            · rw [List.length_map, List.length_replicate]
              exact Nat.le_trans (List.length_filter_le _ _) (by rw [List.length_take]; omega)
            · rw [upd_same, hrs, List.length_append, ← List.replicate_append_replicate, List.map_append]
              rfl
          · rw [decide_eq_false (fun y => hz (rdB_eq.mp y))]
            rw [if_neg hz, List.append_nil] at hrs
            exact iteF ⟨by rw [hrs]; exact hDj, sm⟩
        rintro H4 ⟨hD4, s4⟩
        rw [hfl, List.take_length] at hD4
        have hcp : 0 < (Ls.filter fun m => decide (∀ v, v < n → fndAll n m p v = qq v)).length := by
          obtain ⟨m, hm, e⟩ := R
          obtain ⟨l1, h1, h2⟩ := List.mem_map.mp (A.all m hm (by rw [lvl_congr e]; exact hlk))
          exact List.length_pos_of_mem (List.mem_filter.mpr ⟨h1, decide_eq_true fun v hv => (rwB_eq.mp h2 v hv).trans (e v hv)⟩)
        have hat : atI ((List.replicate (Ls.filter fun m => decide (∀ v, v < n → fndAll n m p v = qq v)).length (facB k)).map V.int) ((0 : Nat) : Int) = some (V.int (facB k)) := atI_nat (by
          rw [List.getElem?_map, List.getElem?_replicate, if_pos hcp]
          rfl)
        generalize (List.replicate (Ls.filter fun m => decide (∀ v, v < n → fndAll n m p v = qq v)).length (facB k)).map V.int = du at *
        have s34 := s3.trans s4
        refine ⟨_, rfl, _, rfl, o1, o2, n, p, qq, r, r', rfl, P2.same s34, W, fun tl H5 ntl htl s5 => ?_⟩
        have s35 := s34.trans s5
        have hnl : (needS n p qq).length = k := hlk
        refine ⟨_, rfl, tl, _, rfl, .inl (SqL.of htl), _, rfl, rfl, _, rfl, ?_⟩
        rw [natsV_len, hnl, show (!decide (V.int ((k : Nat) : Int) = vi k)) = false by rw [decide_eq_true (show V.int ((k : Nat) : Int) = vi k from rfl)]; rfl]
        refine iteF ⟨_, rfl, _, rfl, o1, o2, n, p, qq, r, r', rfl, P2.same s35, W, fun H6 s6 => ⟨_, rfl, Sq.ix (.inl (SqL.of (s6 _ _ (s5 _ _ hD4)))) hat ?_⟩⟩
        rw [hnl, fall_fac (by have := needS_len n p qq; omega)]
        refine ⟨_, _, .int (facB k), rfl, .int _, .int _, .int _ _, fun H7 s7 => ⟨_, rfl, iteF ?_⟩⟩
        have s37 := (s35.trans s6).trans s7
        have htl7 := s7 _ _ (s6 _ _ htl)
        refine ⟨_, rfl, _, rfl, o1, tl, n, p, r, needS n p qq, rfl, (P2.same s37).sa, SqL.of htl7, by omega, by have := needS_len n p qq; omega, F0, needS_lt, fun t2 g2 c2 H8 nt2 nc2 hg2 ht2 hgg2 hc2 s8 => ?_⟩
        have s38 := s37.trans s8
        refine Sq.ix (.inr (SqT.of ht2)) (show atI [V.ref g2, V.ref c2] (0 : Int) = some (.ref g2) from rfl) ⟨_, rfl, rowT n (fndAll n (needS n p qq) p), rowT n qq, rowT_dp hgg2, rowT_dp (P2.same s38).sb, shaped_row _ _, shaped_row _ _, _, rfl, ?_⟩
        rw [rowT_eqv, decide_eq_true (rdB_eq.mpr fun v hv => need_leads F0 hq W v hv)]
        exact iteF ⟨⟨_, _, _, _, _, _, _, _, _, _, _, _, _, _, _, _, _, rfl⟩, hD2.same s38⟩
      · have nR : ¬ Rch n p qq := fun R => nW (hWR.mpr R)
        refine ⟨rfl, _, rfl, _, rfl, rowT n qq, _, rowT_dp (P2.same s3).sb, .lst (SqL.of (s3 _ _ hkn)) (hKn.same s3).dp, shaped_row _ _, shaped_rows _ _ _, rfl, _, rfl, ?_⟩
        rw [any_rows, bot false (.ref t) (decide_eq_false (by intro z; cases z)) (decide_eq_false (fun z => nR (hKR.mp z))).symm H3 s3]
        refine iteF ⟨_, rfl, _, rfl, rowT n qq, _, rowT_dp (P2.same s3).sb, .lst (SqL.of (s3 _ _ hkn)) (hKn.same s3).dp, shaped_row _ _, shaped_rows _ _ _, _, rfl, ?_⟩
        rw [any_rows, decide_eq_false (fun z => nR (hKR.mp z))]
        exact iteF ⟨⟨_, _, _, _, _, _, _, _, _, _, _, _, _, _, _, _, _, rfl⟩, hD2.same s3⟩
    rintro σ H' _
    exact q _
end
end Ff

namespace Ff
open PySem PySem.Spec PyProof.Rows L2 ExX LamX
theorem all_mk {l : PySem.W.OpenLaw} {w : World} {K : PySem.W.Frag} {h : Heap} {mg : Str → Option Value} {fa : Addr} (X : K.In h) (G : h.Ns mainGlobals mg) (hfa : mg "law" = some (.ref fa))
    (d0 : DefF K "check_number" sNum)
    (d1 : DefF K "check_node" sChk)
    (d2 : DefF K "path_of" sPathOf)
    (d3 : DefF K "is_above" sAbove)
    (d4 : DefF K "falling" sFalling)
    (d5 : DefF K "check_sizes" sSizes)
    (d6 : DefF K "check_roots" sRoots2)
    (d7 : DefF K "changed_nodes" sChg)
    (d8 : DefF K "barring_nodes" sBarr)
    (d9 : DefF K "find_bar" sBar)
    (d10 : DefF K "needed_finds" sNeed)
    (d11 : DefF K "is_needed" sIsN)
    (d12 : DefF K "count_ways" sCntW)
    (d13 : DefF K "_law_start" sStart)
    (d14 : DefF K "_law_take" sTake)
    (d15 : DefF K "_law_of" sOf)
    (d16 : DefF K "_law_shuffled" sShuf)
    (d17 : DefF K "_law_same" sSame)
    (d18 : DefF K "_law_size" sSize)
    (d19 : DefF K "_law_path" sPath)
    (d20 : DefF K "_law_root" sRoot)
    (d21 : DefF K "_law_renamed" sRen)
    (d22 : DefF K "_law_forest" sFor)
    (d23 : DefF K "_law_some_forest" sSome)
    (d24 : DefF K "_law_find" sLFind)
    (d25 : DefF K "_law_found" sLFound)
    (d26 : DefF K "_law_nodes" sNodes)
    (d27 : DefF K "_law_exchanged" sExch)
    (d28 : DefF K "_law_rooted_pair" sRPair)
    (d29 : DefF K "law" sLaw)
    (z_len : PySem.W.nsIn K mainGlobals "len" = some none)
    (z_range : PySem.W.nsIn K mainGlobals "range" = some none)
    (z_list : PySem.W.nsIn K mainGlobals "list" = some none)
    (z_tuple : PySem.W.nsIn K mainGlobals "tuple" = some none)
    (z_max : PySem.W.nsIn K mainGlobals "max" = some none)
    (z_min : PySem.W.nsIn K mainGlobals "min" = some none)
    (z_isinstance : PySem.W.nsIn K mainGlobals "isinstance" = some none)
    (z_bool : PySem.W.nsIn K mainGlobals "bool" = some none)
    (z_int : PySem.W.nsIn K mainGlobals "int" = some none)
    (z_str : PySem.W.nsIn K mainGlobals "str" = some none)
    (z_all : PySem.W.nsIn K mainGlobals "all" = some none)
    (z_zip : PySem.W.nsIn K mainGlobals "zip" = some none)
    (z_set : PySem.W.nsIn K mainGlobals "set" = some none)
    (z_sorted : PySem.W.nsIn K mainGlobals "sorted" = some none)
    (z_sum : PySem.W.nsIn K mainGlobals "sum" = some none)
    (z_ValueError : PySem.W.nsIn K mainGlobals "ValueError" = some none)
    (z_LookupError : PySem.W.nsIn K mainGlobals "LookupError" = some none)
    (z_any : PySem.W.nsIn K mainGlobals "any" = some none)
    {CForestError fForestError : Addr} {ocForestError : Value} {odForestError anForestError : Option Addr} {slForestError : Array (Option Value)} {kVForestError dcForestError pmForestError cdForestError ctForestError : Value}
    (aForestError : PySem.W.nsIn K mainGlobals "ForestError" = some (some (.ref CForestError))) (iForestError : PySem.W.findIn K (.ref CForestError) "__init__" = some (some (.ref fForestError))) (lForestError : K.lookup fForestError = some ⟨ocForestError, odForestError, .func (PySem.W.fnOf "__init__" "ForestError.__init__" (defArgs (initS sForE)) (defBody (initS sForE)) (defScope (initS sForE)) .none kVForestError dcForestError pmForestError anForestError cdForestError ctForestError), slForestError⟩)
    (cForestError : PySem.W.codeIn K cdForestError "ForestError.__init__" = true) (kForestError : PySem.W.keepIn K (.ref fForestError) = true)
    (rForestError : PySem.W.readsIn K CForestError (.type "type") = true) (mForestError : PySem.W.findCls K (.ref CForestError) (.type "type") "__init__" = some (.val (.ref fForestError))) (pForestError : PySem.W.specialIn K (.ref CForestError) "__getattribute__" = some (some (.builtin "type.__getattribute__"))) (qForestError : PySem.W.keepIn K (.ref CForestError) = true) (vForestError : PySem.W.findCls K (.type "ValueError") (.type "type") "__init__" = some (.val (.builtin "ValueError.__init__")))
    {CMissing fMissing : Addr} {ocMissing : Value} {odMissing anMissing : Option Addr} {slMissing : Array (Option Value)} {kVMissing dcMissing pmMissing cdMissing ctMissing : Value}
    (aMissing : PySem.W.nsIn K mainGlobals "Missing" = some (some (.ref CMissing))) (iMissing : PySem.W.findIn K (.ref CMissing) "__init__" = some (some (.ref fMissing))) (lMissing : K.lookup fMissing = some ⟨ocMissing, odMissing, .func (PySem.W.fnOf "__init__" "Missing.__init__" (defArgs (initS sMiss)) (defBody (initS sMiss)) (defScope (initS sMiss)) .none kVMissing dcMissing pmMissing anMissing cdMissing ctMissing), slMissing⟩)
    (cMissing : PySem.W.codeIn K cdMissing "Missing.__init__" = true) (kMissing : PySem.W.keepIn K (.ref fMissing) = true)
    (rMissing : PySem.W.readsIn K CMissing (.type "type") = true) (mMissing : PySem.W.findCls K (.ref CMissing) (.type "type") "__init__" = some (.val (.ref fMissing))) (pMissing : PySem.W.specialIn K (.ref CMissing) "__getattribute__" = some (some (.builtin "type.__getattribute__"))) (qMissing : PySem.W.keepIn K (.ref CMissing) = true) (vMissing : PySem.W.findCls K (.type "LookupError") (.type "type") "__init__" = some (.val (.builtin "LookupError.__init__")))
    {CSizesDiffer fSizesDiffer : Addr} {ocSizesDiffer : Value} {odSizesDiffer anSizesDiffer : Option Addr} {slSizesDiffer : Array (Option Value)} {kVSizesDiffer dcSizesDiffer pmSizesDiffer cdSizesDiffer ctSizesDiffer : Value}
    (aSizesDiffer : PySem.W.nsIn K mainGlobals "SizesDiffer" = some (some (.ref CSizesDiffer))) (iSizesDiffer : PySem.W.findIn K (.ref CSizesDiffer) "__init__" = some (some (.ref fSizesDiffer))) (lSizesDiffer : K.lookup fSizesDiffer = some ⟨ocSizesDiffer, odSizesDiffer, .func (PySem.W.fnOf "__init__" "SizesDiffer.__init__" (defArgs (initS sE_SizesDiffer)) (defBody (initS sE_SizesDiffer)) (defScope (initS sE_SizesDiffer)) .none kVSizesDiffer dcSizesDiffer pmSizesDiffer anSizesDiffer cdSizesDiffer ctSizesDiffer), slSizesDiffer⟩)
    (cSizesDiffer : PySem.W.codeIn K cdSizesDiffer "SizesDiffer.__init__" = true) (kSizesDiffer : PySem.W.keepIn K (.ref fSizesDiffer) = true)
    (tSizesDiffer : PySem.W.typeIn K (.ref fSizesDiffer) = some (.type "function")) (uSizesDiffer : PySem.W.excInitIn K CSizesDiffer vaTail "ValueError.__new__" = true) (oSizesDiffer : PySem.W.excOver K CSizesDiffer vaTail = true) (hSizesDiffer : PySem.W.hasDictIn K CSizesDiffer = true) (saSizesDiffer : PySem.W.findIn K (.ref CSizesDiffer) "__setattr__" = some (some (.builtin "object.__setattr__"))) (bSizesDiffer : PySem.W.subIn K (.ref CSizesDiffer) (.type "BaseException") = some true)
    (ySizesDiffer : PySem.W.typeIn K (.ref CSizesDiffer) = some (.type "type")) (wSizesDiffer : PySem.W.keepIn K (.ref CSizesDiffer) = true) (nSizesDiffer : PySem.W.findIn K (.ref CSizesDiffer) "tag" = some none) (gSizesDiffer : PySem.W.findIn K (.ref CSizesDiffer) "size" = some none) (xSizesDiffer : PySem.W.findIn K (.ref CSizesDiffer) "__getattribute__" = some (some (.builtin "BaseException.__getattribute__"))) (jSizesDiffer : PySem.W.findIn K (.ref CSizesDiffer) "__getattr__" = some none)
    {CRootsDiffer fRootsDiffer : Addr} {ocRootsDiffer : Value} {odRootsDiffer anRootsDiffer : Option Addr} {slRootsDiffer : Array (Option Value)} {kVRootsDiffer dcRootsDiffer pmRootsDiffer cdRootsDiffer ctRootsDiffer : Value}
    (aRootsDiffer : PySem.W.nsIn K mainGlobals "RootsDiffer" = some (some (.ref CRootsDiffer))) (iRootsDiffer : PySem.W.findIn K (.ref CRootsDiffer) "__init__" = some (some (.ref fRootsDiffer))) (lRootsDiffer : K.lookup fRootsDiffer = some ⟨ocRootsDiffer, odRootsDiffer, .func (PySem.W.fnOf "__init__" "RootsDiffer.__init__" (defArgs (initS sE_RootsDiffer)) (defBody (initS sE_RootsDiffer)) (defScope (initS sE_RootsDiffer)) .none kVRootsDiffer dcRootsDiffer pmRootsDiffer anRootsDiffer cdRootsDiffer ctRootsDiffer), slRootsDiffer⟩)
    (cRootsDiffer : PySem.W.codeIn K cdRootsDiffer "RootsDiffer.__init__" = true) (kRootsDiffer : PySem.W.keepIn K (.ref fRootsDiffer) = true)
    (tRootsDiffer : PySem.W.typeIn K (.ref fRootsDiffer) = some (.type "function")) (uRootsDiffer : PySem.W.excInitIn K CRootsDiffer vaTail "ValueError.__new__" = true) (oRootsDiffer : PySem.W.excOver K CRootsDiffer vaTail = true) (hRootsDiffer : PySem.W.hasDictIn K CRootsDiffer = true) (saRootsDiffer : PySem.W.findIn K (.ref CRootsDiffer) "__setattr__" = some (some (.builtin "object.__setattr__"))) (bRootsDiffer : PySem.W.subIn K (.ref CRootsDiffer) (.type "BaseException") = some true)
    (yRootsDiffer : PySem.W.typeIn K (.ref CRootsDiffer) = some (.type "type")) (wRootsDiffer : PySem.W.keepIn K (.ref CRootsDiffer) = true) (nRootsDiffer : PySem.W.findIn K (.ref CRootsDiffer) "tag" = some none) (gRootsDiffer : PySem.W.findIn K (.ref CRootsDiffer) "node" = some none) (xRootsDiffer : PySem.W.findIn K (.ref CRootsDiffer) "__getattribute__" = some (some (.builtin "BaseException.__getattribute__"))) (jRootsDiffer : PySem.W.findIn K (.ref CRootsDiffer) "__getattr__" = some none)
    {CNoWay fNoWay : Addr} {ocNoWay : Value} {odNoWay anNoWay : Option Addr} {slNoWay : Array (Option Value)} {kVNoWay dcNoWay pmNoWay cdNoWay ctNoWay : Value}
    (aNoWay : PySem.W.nsIn K mainGlobals "NoWay" = some (some (.ref CNoWay))) (iNoWay : PySem.W.findIn K (.ref CNoWay) "__init__" = some (some (.ref fNoWay))) (lNoWay : K.lookup fNoWay = some ⟨ocNoWay, odNoWay, .func (PySem.W.fnOf "__init__" "NoWay.__init__" (defArgs (initS sE_NoWay)) (defBody (initS sE_NoWay)) (defScope (initS sE_NoWay)) .none kVNoWay dcNoWay pmNoWay anNoWay cdNoWay ctNoWay), slNoWay⟩)
    (cNoWay : PySem.W.codeIn K cdNoWay "NoWay.__init__" = true) (kNoWay : PySem.W.keepIn K (.ref fNoWay) = true)
    (tNoWay : PySem.W.typeIn K (.ref fNoWay) = some (.type "function")) (uNoWay : PySem.W.excInitIn K CNoWay vaTail "ValueError.__new__" = true) (oNoWay : PySem.W.excOver K CNoWay vaTail = true) (hNoWay : PySem.W.hasDictIn K CNoWay = true) (saNoWay : PySem.W.findIn K (.ref CNoWay) "__setattr__" = some (some (.builtin "object.__setattr__"))) (bNoWay : PySem.W.subIn K (.ref CNoWay) (.type "BaseException") = some true)
    (yNoWay : PySem.W.typeIn K (.ref CNoWay) = some (.type "type")) (wNoWay : PySem.W.keepIn K (.ref CNoWay) = true) (nNoWay : PySem.W.findIn K (.ref CNoWay) "tag" = some none) (gNoWay : PySem.W.findIn K (.ref CNoWay) "node" = some none) (xNoWay : PySem.W.findIn K (.ref CNoWay) "__getattribute__" = some (some (.builtin "BaseException.__getattribute__"))) (jNoWay : PySem.W.findIn K (.ref CNoWay) "__getattr__" = some none)
    {CNoNode fNoNode : Addr} {ocNoNode : Value} {odNoNode anNoNode : Option Addr} {slNoNode : Array (Option Value)} {kVNoNode dcNoNode pmNoNode cdNoNode ctNoNode : Value}
    (aNoNode : PySem.W.nsIn K mainGlobals "NoNode" = some (some (.ref CNoNode))) (iNoNode : PySem.W.findIn K (.ref CNoNode) "__init__" = some (some (.ref fNoNode))) (lNoNode : K.lookup fNoNode = some ⟨ocNoNode, odNoNode, .func (PySem.W.fnOf "__init__" "NoNode.__init__" (defArgs (initS sE_NoNode)) (defBody (initS sE_NoNode)) (defScope (initS sE_NoNode)) .none kVNoNode dcNoNode pmNoNode anNoNode cdNoNode ctNoNode), slNoNode⟩)
    (cNoNode : PySem.W.codeIn K cdNoNode "NoNode.__init__" = true) (kNoNode : PySem.W.keepIn K (.ref fNoNode) = true)
    (tNoNode : PySem.W.typeIn K (.ref fNoNode) = some (.type "function")) (uNoNode : PySem.W.excInitIn K CNoNode luTail "LookupError.__new__" = true) (oNoNode : PySem.W.excOver K CNoNode luTail = true) (hNoNode : PySem.W.hasDictIn K CNoNode = true) (saNoNode : PySem.W.findIn K (.ref CNoNode) "__setattr__" = some (some (.builtin "object.__setattr__"))) (bNoNode : PySem.W.subIn K (.ref CNoNode) (.type "BaseException") = some true)
    (yNoNode : PySem.W.typeIn K (.ref CNoNode) = some (.type "type")) (wNoNode : PySem.W.keepIn K (.ref CNoNode) = true) (nNoNode : PySem.W.findIn K (.ref CNoNode) "tag" = some none) (gNoNode : PySem.W.findIn K (.ref CNoNode) "node" = some none) (xNoNode : PySem.W.findIn K (.ref CNoNode) "__getattribute__" = some (some (.builtin "BaseException.__getattribute__"))) (jNoNode : PySem.W.findIn K (.ref CNoNode) "__getattr__" = some none)
    : ∃ fd : FuncData, (∀ (s : Shared) (v : Value), BindsTo s fd ⟨[v], []⟩ [("_law_script", v)]) ∧ ∀ base : Heap, K.In base → base.Ns mainGlobals mg → FnOk l.prog w K mg base CX0 12 fa fd ["_law_script"] (spLaw K) := by
  obtain ⟨f_0, fd_0, F_0, g_0⟩ := d0.get X G
  obtain ⟨f_1, fd_1, F_1, g_1⟩ := d1.get X G
  obtain ⟨f_2, fd_2, F_2, g_2⟩ := d2.get X G
  obtain ⟨f_3, fd_3, F_3, g_3⟩ := d3.get X G
  obtain ⟨f_4, fd_4, F_4, g_4⟩ := d4.get X G
  obtain ⟨f_5, fd_5, F_5, g_5⟩ := d5.get X G
  obtain ⟨f_6, fd_6, F_6, g_6⟩ := d6.get X G
  obtain ⟨f_7, fd_7, F_7, g_7⟩ := d7.get X G
  obtain ⟨f_8, fd_8, F_8, g_8⟩ := d8.get X G
  obtain ⟨f_9, fd_9, F_9, g_9⟩ := d9.get X G
  obtain ⟨f_10, fd_10, F_10, g_10⟩ := d10.get X G
  obtain ⟨f_11, fd_11, F_11, g_11⟩ := d11.get X G
  obtain ⟨f_12, fd_12, F_12, g_12⟩ := d12.get X G
  obtain ⟨f_13, fd_13, F_13, g_13⟩ := d13.get X G
  obtain ⟨f_14, fd_14, F_14, g_14⟩ := d14.get X G
  obtain ⟨f_15, fd_15, F_15, g_15⟩ := d15.get X G
  obtain ⟨f_16, fd_16, F_16, g_16⟩ := d16.get X G
  obtain ⟨f_17, fd_17, F_17, g_17⟩ := d17.get X G
  obtain ⟨f_18, fd_18, F_18, g_18⟩ := d18.get X G
  obtain ⟨f_19, fd_19, F_19, g_19⟩ := d19.get X G
  obtain ⟨f_20, fd_20, F_20, g_20⟩ := d20.get X G
  obtain ⟨f_21, fd_21, F_21, g_21⟩ := d21.get X G
  obtain ⟨f_22, fd_22, F_22, g_22⟩ := d22.get X G
  obtain ⟨f_23, fd_23, F_23, g_23⟩ := d23.get X G
  obtain ⟨f_24, fd_24, F_24, g_24⟩ := d24.get X G
  obtain ⟨f_25, fd_25, F_25, g_25⟩ := d25.get X G
  obtain ⟨f_26, fd_26, F_26, g_26⟩ := d26.get X G
  obtain ⟨f_27, fd_27, F_27, g_27⟩ := d27.get X G
  obtain ⟨f_28, fd_28, F_28, g_28⟩ := d28.get X G
  obtain ⟨fL, oc, od, an, sl, kV, dc, pm, cd, ct, aL, lk, cL, kL⟩ := d29
  have e := hfa.symm.trans (PySem.W.mg_of X G aL)
  cases e
  have FL := fun_mk (st := sLaw) lk cL kL
  replace z_len := PySem.W.mg_none_of X G z_len
  replace z_range := PySem.W.mg_none_of X G z_range
  replace z_list := PySem.W.mg_none_of X G z_list
  replace z_tuple := PySem.W.mg_none_of X G z_tuple
  replace z_max := PySem.W.mg_none_of X G z_max
  replace z_min := PySem.W.mg_none_of X G z_min
  replace z_isinstance := PySem.W.mg_none_of X G z_isinstance
  replace z_bool := PySem.W.mg_none_of X G z_bool
  replace z_int := PySem.W.mg_none_of X G z_int
  replace z_str := PySem.W.mg_none_of X G z_str
  replace z_all := PySem.W.mg_none_of X G z_all
  replace z_zip := PySem.W.mg_none_of X G z_zip
  replace z_set := PySem.W.mg_none_of X G z_set
  replace z_sorted := PySem.W.mg_none_of X G z_sorted
  replace z_sum := PySem.W.mg_none_of X G z_sum
  replace z_ValueError := PySem.W.mg_none_of X G z_ValueError
  replace z_LookupError := PySem.W.mg_none_of X G z_LookupError
  replace z_any := PySem.W.mg_none_of X G z_any
  have T : Tx mg := ⟨z_len, z_range, z_list, z_tuple, z_max, z_min⟩
  have TS : TxS mg := ⟨z_isinstance, z_list, z_tuple, z_bool, z_int, z_str, z_len, z_all, z_zip⟩
  have GForestError := PySem.W.mg_of X G aForestError
  have GMissing := PySem.W.mg_of X G aMissing
  have GSizesDiffer := PySem.W.mg_of X G aSizesDiffer
  have GRootsDiffer := PySem.W.mg_of X G aRootsDiffer
  have GNoWay := PySem.W.mg_of X G aNoWay
  have GNoNode := PySem.W.mg_of X G aNoNode
  refine ⟨PySem.W.fnOf "law" "law" (defArgs sLaw) (defBody sLaw) (defScope sLaw) .none kV dc pm an cd ct, fun s v => .of_eq rfl, fun base _ _ => ?_⟩
  have b_0 := F_0.binds (ps := ["size", "node"]) fun _ _ _ _ _ _ us hl => match us, hl with | [_, _], _ => rfl
  have b_1 := F_1.binds (ps := ["forest", "node"]) fun _ _ _ _ _ _ us hl => match us, hl with | [_, _], _ => rfl
  have b_2 := F_2.binds (ps := ["forest", "node"]) fun _ _ _ _ _ _ us hl => match us, hl with | [_, _], _ => rfl
  have b_3 := F_3.binds (ps := ["forest", "one", "other"]) fun _ _ _ _ _ _ us hl => match us, hl with | [_, _, _], _ => rfl
  have b_4 := F_4.binds (ps := ["size", "chosen"]) fun _ _ _ _ _ _ us hl => match us, hl with | [_, _], _ => rfl
  have b_5 := F_5.binds (ps := ["one", "other"]) fun _ _ _ _ _ _ us hl => match us, hl with | [_, _], _ => rfl
  have b_6 := F_6.binds (ps := ["one", "other"]) fun _ _ _ _ _ _ us hl => match us, hl with | [_, _], _ => rfl
  have b_7 := F_7.binds (ps := ["one", "other"]) fun _ _ _ _ _ _ us hl => match us, hl with | [_, _], _ => rfl
  have b_8 := F_8.binds (ps := ["one", "other", "changed"]) fun _ _ _ _ _ _ us hl => match us, hl with | [_, _, _], _ => rfl
  have b_9 := F_9.binds (ps := ["one", "other"]) fun _ _ _ _ _ _ us hl => match us, hl with | [_, _], _ => rfl
  have b_10 := F_10.binds (ps := ["one", "other"]) fun _ _ _ _ _ _ us hl => match us, hl with | [_, _], _ => rfl
  have b_11 := F_11.binds (ps := ["one", "other", "node"]) fun _ _ _ _ _ _ us hl => match us, hl with | [_, _, _], _ => rfl
  have b_12 := F_12.binds (ps := ["one", "other"]) fun _ _ _ _ _ _ us hl => match us, hl with | [_, _], _ => rfl
  have b_13 := F_13.binds (ps := ["_law_script"]) fun _ _ _ _ _ _ us hl => match us, hl with | [_], _ => rfl
  have b_14 := F_14.binds (ps := ["_law_draw", "_law_many"]) fun _ _ _ _ _ _ us hl => match us, hl with | [_, _], _ => rfl
  have b_15 := F_15.binds (ps := ["_law_draw", "_law_some"]) fun _ _ _ _ _ _ us hl => match us, hl with | [_, _], _ => rfl
  have b_16 := F_16.binds (ps := ["_law_draw", "_law_some"]) fun _ _ _ _ _ _ us hl => match us, hl with | [_, _], _ => rfl
  have b_17 := F_17.binds (ps := ["_law_found_here", "_law_due"]) fun _ _ _ _ _ _ us hl => match us, hl with | [_, _], _ => rfl
  have b_18 := F_18.binds (ps := ["_law_draw", "_law_most"]) fun _ _ _ _ _ _ us hl => match us, hl with | [_, _], _ => rfl
  have b_19 := F_19.binds (ps := ["_law_forest_here", "_law_node"]) fun _ _ _ _ _ _ us hl => match us, hl with | [_, _], _ => rfl
  have b_20 := F_20.binds (ps := ["_law_forest_here", "_law_node"]) fun _ _ _ _ _ _ us hl => match us, hl with | [_, _], _ => rfl
  have b_21 := F_21.binds (ps := ["_law_draw", "_law_parents"]) fun _ _ _ _ _ _ us hl => match us, hl with | [_, _], _ => rfl
  have b_22 := F_22.binds (ps := ["_law_draw", "_law_size_here", "_law_many"]) fun _ _ _ _ _ _ us hl => match us, hl with | [_, _, _], _ => rfl
  have b_23 := F_23.binds (ps := ["_law_draw", "_law_most"]) fun _ _ _ _ _ _ us hl => match us, hl with | [_, _], _ => rfl
  have b_24 := F_24.binds (ps := ["_law_forest_here", "_law_node"]) fun _ _ _ _ _ _ us hl => match us, hl with | [_, _], _ => rfl
  have b_25 := F_25.binds (ps := ["_law_forest_here", "_law_nodes_here"]) fun _ _ _ _ _ _ us hl => match us, hl with | [_, _], _ => rfl
  have b_26 := F_26.binds (ps := ["_law_draw", "_law_size_here", "_law_most"]) fun _ _ _ _ _ _ us hl => match us, hl with | [_, _, _], _ => rfl
  have b_27 := F_27.binds (ps := ["_law_draw", "_law_forest_here"]) fun _ _ _ _ _ _ us hl => match us, hl with | [_, _], _ => rfl
  have b_28 := F_28.binds (ps := ["_law_draw", "_law_most"]) fun _ _ _ _ _ _ us hl => match us, hl with | [_, _], _ => rfl
  have HForestError : Fun K "__init__" "ForestError.__init__" (initS sForE) fForestError _ := fun_mk (st := initS sForE) lForestError cForestError kForestError
  have IForestError : FnOk l.prog w K mg base CX0 1 fForestError _ ["self", "tag", "message"] (spTop K "ValueError.__new__" vaTail) := ok_forEI HForestError z_ValueError vForestError
  have JForestError := HForestError.binds (ps := ["self", "tag", "message"]) fun _ _ _ _ _ _ us hl => match us, hl with | [_, _, _], _ => rfl
  have LForestError : ClsI K CForestError fForestError := ⟨rForestError, mForestError, pForestError, kForestError, qForestError⟩
  have HMissing : Fun K "__init__" "Missing.__init__" (initS sMiss) fMissing _ := fun_mk (st := initS sMiss) lMissing cMissing kMissing
  have IMissing : FnOk l.prog w K mg base CX0 1 fMissing _ ["self", "tag", "message"] (spTop K "LookupError.__new__" luTail) := ok_missI HMissing z_LookupError vMissing
  have JMissing := HMissing.binds (ps := ["self", "tag", "message"]) fun _ _ _ _ _ _ us hl => match us, hl with | [_, _, _], _ => rfl
  have LMissing : ClsI K CMissing fMissing := ⟨rMissing, mMissing, pMissing, kMissing, qMissing⟩
  have HSizesDiffer : Fun K "__init__" "SizesDiffer.__init__" (initS sE_SizesDiffer) fSizesDiffer _ := fun_mk (st := initS sE_SizesDiffer) lSizesDiffer cSizesDiffer kSizesDiffer
  have JSizesDiffer := HSizesDiffer.binds (ps := ["self", "size"]) fun _ _ _ _ _ _ us hl => match us, hl with | [_, _], _ => rfl
  have RSizesDiffer : Raisable l.prog w K mg base 2 "SizesDiffer" CSizesDiffer "size" "SizesDiffer" := ⟨⟨_, _, _, _, fSizesDiffer, _, PySem.F.excBase_ValueError, ⟨uSizesDiffer, oSizesDiffer, hSizesDiffer, saSizesDiffer, bSizesDiffer, ySizesDiffer, wSizesDiffer⟩, iSizesDiffer, tSizesDiffer, ok_E_SizesDiffer HSizesDiffer LForestError GForestError IForestError JForestError, JSizesDiffer⟩, GSizesDiffer, nSizesDiffer, gSizesDiffer, ⟨xSizesDiffer, jSizesDiffer, bSizesDiffer, hSizesDiffer⟩⟩
  have HRootsDiffer : Fun K "__init__" "RootsDiffer.__init__" (initS sE_RootsDiffer) fRootsDiffer _ := fun_mk (st := initS sE_RootsDiffer) lRootsDiffer cRootsDiffer kRootsDiffer
  have JRootsDiffer := HRootsDiffer.binds (ps := ["self", "node"]) fun _ _ _ _ _ _ us hl => match us, hl with | [_, _], _ => rfl
  have RRootsDiffer : Raisable l.prog w K mg base 2 "RootsDiffer" CRootsDiffer "node" "RootsDiffer" := ⟨⟨_, _, _, _, fRootsDiffer, _, PySem.F.excBase_ValueError, ⟨uRootsDiffer, oRootsDiffer, hRootsDiffer, saRootsDiffer, bRootsDiffer, yRootsDiffer, wRootsDiffer⟩, iRootsDiffer, tRootsDiffer, ok_E_RootsDiffer HRootsDiffer LForestError GForestError IForestError JForestError, JRootsDiffer⟩, GRootsDiffer, nRootsDiffer, gRootsDiffer, ⟨xRootsDiffer, jRootsDiffer, bRootsDiffer, hRootsDiffer⟩⟩
  have HNoWay : Fun K "__init__" "NoWay.__init__" (initS sE_NoWay) fNoWay _ := fun_mk (st := initS sE_NoWay) lNoWay cNoWay kNoWay
  have JNoWay := HNoWay.binds (ps := ["self", "node"]) fun _ _ _ _ _ _ us hl => match us, hl with | [_, _], _ => rfl
  have RNoWay : Raisable l.prog w K mg base 2 "NoWay" CNoWay "node" "NoWay" := ⟨⟨_, _, _, _, fNoWay, _, PySem.F.excBase_ValueError, ⟨uNoWay, oNoWay, hNoWay, saNoWay, bNoWay, yNoWay, wNoWay⟩, iNoWay, tNoWay, ok_E_NoWay HNoWay LForestError GForestError IForestError JForestError, JNoWay⟩, GNoWay, nNoWay, gNoWay, ⟨xNoWay, jNoWay, bNoWay, hNoWay⟩⟩
  have HNoNode : Fun K "__init__" "NoNode.__init__" (initS sE_NoNode) fNoNode _ := fun_mk (st := initS sE_NoNode) lNoNode cNoNode kNoNode
  have JNoNode := HNoNode.binds (ps := ["self", "node"]) fun _ _ _ _ _ _ us hl => match us, hl with | [_, _], _ => rfl
  have RNoNode : Raisable l.prog w K mg base 2 "NoNode" CNoNode "node" "NoNode" := ⟨⟨_, _, _, _, fNoNode, _, PySem.F.excBase_LookupError, ⟨uNoNode, oNoNode, hNoNode, saNoNode, bNoNode, yNoNode, wNoNode⟩, iNoNode, tNoNode, ok_E_NoNode HNoNode LMissing GMissing IMissing JMissing, JNoNode⟩, GNoNode, nNoNode, gNoNode, ⟨xNoNode, jNoNode, bNoNode, hNoNode⟩⟩
  have k_0 : Kn l.prog w K mg base 1 "check_number" sNum ["size", "node"] spNum f_0 fd_0 := ⟨F_0, ok_num F_0 , b_0, g_0⟩
  have k_1 : Kn l.prog w K mg base 2 "check_node" sChk ["forest", "node"] (spChk K) f_1 fd_1 := ⟨F_1, ok_chk F_1 k_0 T, b_1, g_1⟩
  have k_2 : Kn l.prog w K mg base 3 "path_of" sPathOf ["forest", "node"] (spPathOf K) f_2 fd_2 := ⟨F_2, ok_pathOf F_2 k_1.G k_1.F k_1.b k_1.g, b_2, g_2⟩
  have k_4 : Kn l.prog w K mg base 1 "falling" sFalling ["size", "chosen"] spFalling f_4 fd_4 := ⟨F_4, ok_falling F_4 T, b_4, g_4⟩
  have k_8 : Kn l.prog w K mg base 4 "barring_nodes" sBarr ["one", "other", "changed"] (spBarr K) f_8 fd_8 := ⟨F_8, ok_barr F_8 k_2, b_8, g_8⟩
  have k_13 : Kn l.prog w K mg base 1 "_law_start" sStart ["_law_script"] (spStart K) f_13 fd_13 := ⟨F_13, ok_start F_13 T, b_13, g_13⟩
  have k_14 : Kn l.prog w K mg base 1 "_law_take" sTake ["_law_draw", "_law_many"] spTake f_14 fd_14 := ⟨F_14, ok_take F_14 T.len, b_14, g_14⟩
  have k_15 : Kn l.prog w K mg base 2 "_law_of" sOf ["_law_draw", "_law_some"] (spOf K) f_15 fd_15 := ⟨F_15, ok_of F_15 k_14.G k_14.F k_14.b k_14.g T, b_15, g_15⟩
  have k_16 : Kn l.prog w K mg base 2 "_law_shuffled" sShuf ["_law_draw", "_law_some"] (spShuf K) f_16 fd_16 := ⟨F_16, ok_shuf F_16 k_14.G k_14.F k_14.b k_14.g T, b_16, g_16⟩
  have k_18 : Kn l.prog w K mg base 3 "_law_size" sSize ["_law_draw", "_law_most"] spSize f_18 fd_18 := ⟨F_18, ok_size F_18 k_14.G k_14.F k_14.b k_14.g k_15.G k_15.F k_15.b k_15.g T, b_18, g_18⟩
  have k_19 : Kn l.prog w K mg base 1 "_law_path" sPath ["_law_forest_here", "_law_node"] (spPath K) f_19 fd_19 := ⟨F_19, ok_path F_19 T, b_19, g_19⟩
  have k_20 : Kn l.prog w K mg base 2 "_law_root" sRoot ["_law_forest_here", "_law_node"] (spRoot K) f_20 fd_20 := ⟨F_20, ok_root F_20 k_19.G k_19.F k_19.b k_19.g, b_20, g_20⟩
  have k_21 : Kn l.prog w K mg base 3 "_law_renamed" sRen ["_law_draw", "_law_parents"] (spRen K) f_21 fd_21 := ⟨F_21, ok_ren F_21 k_16.G k_16.F k_16.b k_16.g T, b_21, g_21⟩
  have k_22 : Kn l.prog w K mg base 4 "_law_forest" sFor ["_law_draw", "_law_size_here", "_law_many"] spFor f_22 fd_22 := ⟨F_22, ok_for F_22 k_14.G k_14.F k_14.b k_14.g k_21.G k_21.F k_21.b k_21.g T, b_22, g_22⟩
  have k_23 : Kn l.prog w K mg base 5 "_law_some_forest" sSome ["_law_draw", "_law_most"] spSome f_23 fd_23 := ⟨F_23, ok_some F_23 k_14.G k_14.F k_14.b k_14.g k_18.G k_18.F k_18.b k_18.g k_22.G k_22.F k_22.b k_22.g, b_23, g_23⟩
  have k_24 : Kn l.prog w K mg base 3 "_law_find" sLFind ["_law_forest_here", "_law_node"] (spFind K) f_24 fd_24 := ⟨F_24, ok_lFind F_24 k_20 T, b_24, g_24⟩
  have k_25 : Kn l.prog w K mg base 4 "_law_found" sLFound ["_law_forest_here", "_law_nodes_here"] (spFindAll K) f_25 fd_25 := ⟨F_25, ok_lFound F_25 k_24, b_25, g_25⟩
  have k_26 : Kn l.prog w K mg base 3 "_law_nodes" sNodes ["_law_draw", "_law_size_here", "_law_most"] spNodes f_26 fd_26 := ⟨F_26, ok_nodes F_26 k_14.G k_14.F k_14.b k_14.g k_15.G k_15.F k_15.b k_15.g k_16.G k_16.F k_16.b k_16.g T, b_26, g_26⟩
  have k_27 : Kn l.prog w K mg base 2 "_law_exchanged" sExch ["_law_draw", "_law_forest_here"] (spExch K) f_27 fd_27 := ⟨F_27, ok_exch F_27 k_14 k_19 T, b_27, g_27⟩
  have k_28 : Kn l.prog w K mg base 6 "_law_rooted_pair" sRPair ["_law_draw", "_law_most"] (spRPair K) f_28 fd_28 := ⟨F_28, ok_rpair F_28 k_23 k_14 k_26 k_25 k_27 T, b_28, g_28⟩
  have k_17 : Kn l.prog w K mg base 3 "_law_same" sSame ["_law_found_here", "_law_due"] (spSame K 2) f_17 fd_17 := ⟨F_17, ok_same F_17 TS b_17 g_17 2, b_17, g_17⟩
  have x_num : KnX l.prog w K mg base 4 "check_number" ["size", "node"] (spNumX CNoNode) f_0 fd_0 := ⟨F_0.kp, okX_num F_0 RNoNode, b_0, g_0⟩
  have x_chk : KnX l.prog w K mg base 5 "check_node" ["forest", "node"] (spChkX K CNoNode) f_1 fd_1 := ⟨F_1.kp, okX_chk F_1 x_num T, b_1, g_1⟩
  have x_path : KnX l.prog w K mg base 6 "path_of" ["forest", "node"] (spChkX K CNoNode) f_2 fd_2 := ⟨F_2.kp, okX_pathOf F_2 x_chk, b_2, g_2⟩
  have x_pathB : KnX l.prog w K mg base 6 "path_of" ["forest", "node"] (spOr (spPathOf K) (spChkX K CNoNode)) f_2 fd_2 := ⟨F_2.kp, fn_or k_2.G x_path.G (by decide), b_2, g_2⟩
  have x_chkB : KnX l.prog w K mg base 5 "check_node" ["forest", "node"] (spOr (spChk K) (spChkX K CNoNode)) f_1 fd_1 := ⟨F_1.kp, fn_or k_1.G x_chk.G (by decide), b_1, g_1⟩
  have x_above : KnX l.prog w K mg base 7 "is_above" ["forest", "one", "other"] (spAboveB K CNoNode) f_3 fd_3 := ⟨F_3.kp, okB_above F_3 x_chkB x_pathB, b_3, g_3⟩
  have x_sizes : KnX l.prog w K mg base 4 "check_sizes" ["one", "other"] (spSizesB K CSizesDiffer) f_5 fd_5 := ⟨F_5.kp, okB_sizes F_5 T RSizesDiffer, b_5, g_5⟩
  have x_roots2 : KnX l.prog w K mg base 4 "check_roots" ["one", "other"] (spRoots2B K CRootsDiffer) f_6 fd_6 := ⟨F_6.kp, okB_roots2 F_6 T RRootsDiffer, b_6, g_6⟩
  have x_chg : KnX l.prog w K mg base 5 "changed_nodes" ["one", "other"] (spTwoB K CSizesDiffer CRootsDiffer okChg) f_7 fd_7 := ⟨F_7.kp, okB_chg F_7 x_sizes x_roots2 T, b_7, g_7⟩
  have x_bar : KnX l.prog w K mg base 6 "find_bar" ["one", "other"] (spTwoB K CSizesDiffer CRootsDiffer okBar) f_9 fd_9 := ⟨F_9.kp, okB_bar F_9 x_chg k_8, b_9, g_9⟩
  have x_isN : KnX l.prog w K mg base 8 "is_needed" ["one", "other", "node"] (spIsNB K CSizesDiffer CRootsDiffer) f_11 fd_11 := ⟨F_11.kp, okB_isN F_11 x_chg x_above z_any, b_11, g_11⟩
  have x_need : KnX l.prog w K mg base 9 "needed_finds" ["one", "other"] (spTwoB K CSizesDiffer CRootsDiffer (okNeed CNoWay)) f_10 fd_10 := ⟨F_10.kp, okB_need F_10 x_bar x_isN T RNoWay, b_10, g_10⟩
  have x_cntW : KnX l.prog w K mg base 10 "count_ways" ["one", "other"] (spTwoB K CSizesDiffer CRootsDiffer (okCntW CNoWay)) f_12 fd_12 := ⟨F_12.kp, okB_cntW F_12 x_need k_4 T, b_12, g_12⟩
  have k_need : Kn l.prog w K mg base 9 "needed_finds" sNeed ["one", "other"] (spNeeded K) f_10 fd_10 := ⟨F_10, fn_no x_need.G need_plain, b_10, g_10⟩
  have k_bar : Kn l.prog w K mg base 6 "find_bar" sBar ["one", "other"] (spBar K) f_9 fd_9 := ⟨F_9, fn_no x_bar.G bar_plain, b_9, g_9⟩
  have k_cw : Kn l.prog w K mg base 10 "count_ways" sCntW ["one", "other"] (spCntWP K) f_12 fd_12 := ⟨F_12, fn_no x_cntW.G cntw_plain, b_12, g_12⟩
  exact ok_law FL T z_sum z_set z_sorted z_any ⟨_, _, k_13⟩ ⟨_, _, k_28⟩ ⟨_, _, k_24⟩ ⟨_, _, k_17⟩ ⟨_, _, k_25⟩ ⟨_, _, k_bar⟩ ⟨_, _, k_need⟩ ⟨_, _, k_cw⟩
end Ff
open PySem PySem.W PyProof.Rows
set_option maxHeartbeats 0 in
theorem PySem.Challenge.cw_findforests_k22_whole_ways_by_search_holds : PySem.Challenge.rw_findforests_k22_whole_ways_by_search.Holds := by
  w_on; o_law; k_head; (case hw => w_witness2)
  k_fill
  refine L2.walk_of (l := PySem.Challenge.rw_findforests_k22_whole_ways_by_search) (n := 63) (k := 12) (x := "_law_script") (CX := fun _ => L2.CX0) (sp := fun w => Ff.spLaw _) rfl (by decide) rfl ⟨rfl, by decide, by decide⟩ (fun w h Y => PySem.W.kIn_of Y) ?F (fun _ _ a ns hl _ hS => ⟨a, ns, rfl, hS, hl, fun _ => rfl⟩) (fun _ _ _ _ _ h => h)
  case F =>
    intro w mg fa h KX G hmg
    refine' Ff.all_mk KX G hmg ?d0 ?d1 ?d2 ?d3 ?d4 ?d5 ?d6 ?d7 ?d8 ?d9 ?d10 ?d11 ?d12 ?d13 ?d14 ?d15 ?d16 ?d17 ?d18 ?d19 ?d20 ?d21 ?d22 ?d23 ?d24 ?d25 ?d26 ?d27 ?d28 ?d29 ?z_len ?z_range ?z_list ?z_tuple ?z_max ?z_min ?z_isinstance ?z_bool ?z_int ?z_str ?z_all ?z_zip ?z_set ?z_sorted ?z_sum ?z_ValueError ?z_LookupError ?z_any ?aForestError ?iForestError ?lForestError ?cForestError ?kForestError ?rForestError ?mForestError ?pForestError ?qForestError ?vForestError ?aMissing ?iMissing ?lMissing ?cMissing ?kMissing ?rMissing ?mMissing ?pMissing ?qMissing ?vMissing ?aSizesDiffer ?iSizesDiffer ?lSizesDiffer ?cSizesDiffer ?kSizesDiffer ?tSizesDiffer ?uSizesDiffer ?oSizesDiffer ?hSizesDiffer ?saSizesDiffer ?bSizesDiffer ?ySizesDiffer ?wSizesDiffer ?nSizesDiffer ?gSizesDiffer ?xSizesDiffer ?jSizesDiffer ?aRootsDiffer ?iRootsDiffer ?lRootsDiffer ?cRootsDiffer ?kRootsDiffer ?tRootsDiffer ?uRootsDiffer ?oRootsDiffer ?hRootsDiffer ?saRootsDiffer ?bRootsDiffer ?yRootsDiffer ?wRootsDiffer ?nRootsDiffer ?gRootsDiffer ?xRootsDiffer ?jRootsDiffer ?aNoWay ?iNoWay ?lNoWay ?cNoWay ?kNoWay ?tNoWay ?uNoWay ?oNoWay ?hNoWay ?saNoWay ?bNoWay ?yNoWay ?wNoWay ?nNoWay ?gNoWay ?xNoWay ?jNoWay ?aNoNode ?iNoNode ?lNoNode ?cNoNode ?kNoNode ?tNoNode ?uNoNode ?oNoNode ?hNoNode ?saNoNode ?bNoNode ?yNoNode ?wNoNode ?nNoNode ?gNoNode ?xNoNode ?jNoNode
    (case z_len => k_is); (case z_range => k_is); (case z_list => k_is); (case z_tuple => k_is); (case z_max => k_is); (case z_min => k_is); (case z_isinstance => k_is); (case z_bool => k_is); (case z_int => k_is); (case z_str => k_is); (case z_all => k_is); (case z_zip => k_is); (case z_set => k_is); (case z_sorted => k_is); (case z_sum => k_is); (case z_ValueError => k_is); (case z_LookupError => k_is); (case z_any => k_is); (case aForestError => k_is); (case iForestError => k_is); (case lForestError => k_is); (case cForestError => k_is); (case kForestError => k_is); (case rForestError => k_is); (case mForestError => k_is); (case pForestError => k_is); (case qForestError => k_is); (case vForestError => k_is); (case aMissing => k_is); (case iMissing => k_is); (case lMissing => k_is); (case cMissing => k_is); (case kMissing => k_is); (case rMissing => k_is); (case mMissing => k_is); (case pMissing => k_is); (case qMissing => k_is); (case vMissing => k_is); (case aSizesDiffer => k_is); (case iSizesDiffer => k_is); (case lSizesDiffer => k_is); (case cSizesDiffer => k_is); (case kSizesDiffer => k_is); (case tSizesDiffer => k_is); (case uSizesDiffer => kx_is); (case oSizesDiffer => kx_is); (case hSizesDiffer => k_is); (case saSizesDiffer => k_is); (case bSizesDiffer => k_is); (case ySizesDiffer => k_is); (case wSizesDiffer => k_is); (case nSizesDiffer => k_is); (case gSizesDiffer => k_is); (case xSizesDiffer => k_is); (case jSizesDiffer => k_is); (case aRootsDiffer => k_is); (case iRootsDiffer => k_is); (case lRootsDiffer => k_is); (case cRootsDiffer => k_is); (case kRootsDiffer => k_is); (case tRootsDiffer => k_is); (case uRootsDiffer => kx_is); (case oRootsDiffer => kx_is); (case hRootsDiffer => k_is); (case saRootsDiffer => k_is); (case bRootsDiffer => k_is); (case yRootsDiffer => k_is); (case wRootsDiffer => k_is); (case nRootsDiffer => k_is); (case gRootsDiffer => k_is); (case xRootsDiffer => k_is); (case jRootsDiffer => k_is); (case aNoWay => k_is); (case iNoWay => k_is); (case lNoWay => k_is); (case cNoWay => k_is); (case kNoWay => k_is); (case tNoWay => k_is); (case uNoWay => kx_is); (case oNoWay => kx_is); (case hNoWay => k_is); (case saNoWay => k_is); (case bNoWay => k_is); (case yNoWay => k_is); (case wNoWay => k_is); (case nNoWay => k_is); (case gNoWay => k_is); (case xNoWay => k_is); (case jNoWay => k_is); (case aNoNode => k_is); (case iNoNode => k_is); (case lNoNode => k_is); (case cNoNode => k_is); (case kNoNode => k_is); (case tNoNode => k_is); (case uNoNode => kx_is); (case oNoNode => kx_is); (case hNoNode => k_is); (case saNoNode => k_is); (case bNoNode => k_is); (case yNoNode => k_is); (case wNoNode => k_is); (case nNoNode => k_is); (case gNoNode => k_is); (case xNoNode => k_is); (case jNoNode => k_is)
    all_goals (refine' Ff.DefF.by ?a ?l ?c ?k; (case a => k_is); (case l => k_is); (case c => k_is); (case k => k_is))

