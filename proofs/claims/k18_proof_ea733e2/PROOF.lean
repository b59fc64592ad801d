import PyProof.Rows.All
import Wide.All
import OpenK.AllK
import Wide.FinOn
import KE.KExcInit
import HandS.Base
import HandS.Call
import HandS.List
import HandS.Ends
import HandS.Exc
import HandS.ExcInit
import HandS.ExcCtx
import HandS.TryMany
import KE.KTryMore
import HandS.HotCalls
import HandS.ExcField
import HandS.Lambda
import HandS.Codes
import HandS.Words
import HandS.WordsExc
import PyProof.TupleIter
import HandS.FStr
import HandS.Style
import HandS.Comp
import KE.KDflt
import HandS.Iter
import KE.GoesEnum
import PyProof.ReprRoads
import PyProof.ReprLen
import HandS.EndOwn
import HandS.More
import HandS.Set
import HandS.TupSets
import HandS.SetBool
import HandS.Strs
import HandS.Dict
import HandS.Text
import HandS.WordsList
import HandS.WordsDict
import HandS.Wide
import HandS.Conv
import HandS.SetFor
import HandS.IsInst
import HandS.Zip
import HandS.Deep
import HandS.SortInts
import HandS.Walk
import HandS.TupAny
import KE.KNestM
import KE.KExcLine
import PySem.Challenge.RW_findforests_k18_whole_same_effects
set_option Elab.async false
set_option linter.all false
set_option maxRecDepth 100000
set_option maxHeartbeats 4000000
/-! The mathematics of finds: forests as parent functions below n, with a rank that falls towards the roots. -/
namespace Ff
structure Fo (n : Nat) (p : Nat → Nat) (r : Nat → Nat) : Prop where
  lt : ∀ x, x < n → p x < n
  up : ∀ x, x < n → p x = x ∨ r (p x) < r x
  rb : ∀ x, x < n → r x < n
def root (p : Nat → Nat) : Nat → Nat → Nat
  | 0, x => x
  | k + 1, x => if p x = x then x else root p k (p x)
def ups (p : Nat → Nat) : Nat → Nat → List Nat
  | 0, _ => []
  | k + 1, x => if p x = x then [] else x :: ups p k (p x)
def path (p : Nat → Nat) (k x : Nat) : List Nat := ups p k x ++ [root p k x]
theorem root_of {p : Nat → Nat} {x : Nat} (h : p x = x) : ∀ k, root p k x = x
  | 0 => rfl
  | k + 1 => by show (if p x = x then x else _) = x; rw [if_pos h]
theorem ups_of {p : Nat → Nat} {x : Nat} (h : p x = x) : ∀ k, ups p k x = []
  | 0 => rfl
  | k + 1 => by show (if p x = x then [] else _) = []; rw [if_pos h]
theorem root_step {p : Nat → Nat} {x k : Nat} (h : p x ≠ x) : root p (k + 1) x = root p k (p x) := by
  show (if p x = x then x else _) = _; rw [if_neg h]
theorem ups_step {p : Nat → Nat} {x k : Nat} (h : p x ≠ x) : ups p (k + 1) x = x :: ups p k (p x) := by
  show (if p x = x then [] else _) = _; rw [if_neg h]
section
variable {n : Nat} {p : Nat → Nat} {r : Nat → Nat}
/-- enough steps: more of them change nothing -/
theorem root_more (F : Fo n p r) : ∀ (k x : Nat), x < n → r x ≤ k → root p (k + 1) x = root p k x
  | k, x, hx, hr => by
    by_cases h : p x = x
    · rw [root_of h, root_of h]
    · have u := (F.up x hx).resolve_left h
      cases k with
      | zero => omega
      | succ k => rw [root_step h, root_step h]; exact root_more F k (p x) (F.lt x hx) (by omega)
theorem ups_more (F : Fo n p r) : ∀ (k x : Nat), x < n → r x ≤ k → ups p (k + 1) x = ups p k x
  | k, x, hx, hr => by
    by_cases h : p x = x
    · rw [ups_of h, ups_of h]
    · have u := (F.up x hx).resolve_left h
      cases k with
      | zero => omega
      | succ k => rw [ups_step h, ups_step h]; rw [ups_more F k (p x) (F.lt x hx) (by omega)]
theorem root_n (F : Fo n p r) {x : Nat} (hx : x < n) (h : p x ≠ x) : root p n x = root p n (p x) := by
  have := F.rb x hx
  have e := (F.up x hx).resolve_left h
  rw [← root_more F n x hx (by omega), root_step h]
theorem ups_n (F : Fo n p r) {x : Nat} (hx : x < n) (h : p x ≠ x) : ups p n x = x :: ups p n (p x) := by
  have := F.rb x hx
  have e := (F.up x hx).resolve_left h
  rw [← ups_more F n x hx (by omega), ups_step h]
/-- induction from the roots -/
theorem Fo.ind (F : Fo n p r) {C : Nat → Prop} (h0 : ∀ x, x < n → p x = x → C x) (h1 : ∀ x, x < n → p x ≠ x → C (p x) → C x) : ∀ x, x < n → C x := by
  have : ∀ k x, r x ≤ k → x < n → C x := by
    intro k
    induction k with
    | zero =>
      intro x hr hx
      by_cases h : p x = x
      · exact h0 x hx h
      · have := (F.up x hx).resolve_left h; omega
    | succ k ih =>
      intro x hr hx
      by_cases h : p x = x
      · exact h0 x hx h
      · have := (F.up x hx).resolve_left h
        exact h1 x hx h (ih (p x) (by omega) (F.lt x hx))
  exact fun x hx => this (r x) x (Nat.le_refl _) hx
theorem root_lt (F : Fo n p r) : ∀ x, x < n → root p n x < n :=
  F.ind (fun x hx h => by rw [root_of h]; exact hx) (fun x hx h ih => by rw [root_n F hx h]; exact ih)
theorem root_fix (F : Fo n p r) : ∀ x, x < n → p (root p n x) = root p n x :=
  F.ind (fun x hx h => by rw [root_of h]; exact h) (fun x hx h ih => by rw [root_n F hx h]; exact ih)
theorem root_rank (F : Fo n p r) : ∀ x, x < n → root p n x = x ∨ r (root p n x) < r x :=
  F.ind (fun x hx h => .inl (root_of h n)) (fun x hx h ih => by
    have u := (F.up x hx).resolve_left h
    rw [root_n F hx h]
    rcases ih with e | e
    · rw [e]; exact .inr u
    · exact .inr (by omega))
theorem root_ne (F : Fo n p r) {x : Nat} (hx : x < n) (h : p x ≠ x) : root p n x ≠ x := fun e => h (by have z := root_fix F x hx; rw [e] at z; exact z)
theorem ups_lt (F : Fo n p r) : ∀ x, x < n → ∀ v ∈ ups p n x, v < n ∧ p v ≠ v ∧ root p n v = root p n x ∧ r v ≤ r x :=
  F.ind (fun x hx h v hv => by rw [ups_of h] at hv; cases hv) (fun x hx h ih v hv => by
    have u := (F.up x hx).resolve_left h
    rw [ups_n F hx h] at hv
    rcases List.mem_cons.mp hv with e | e
    · subst e; exact ⟨hx, h, rfl, Nat.le_refl _⟩
    · have z := ih v e
      refine ⟨z.1, z.2.1, z.2.2.1.trans (root_n F hx h).symm, by omega⟩)
theorem ups_len (F : Fo n p r) : ∀ x, x < n → (ups p n x).length ≤ r x :=
  F.ind (fun x hx h => by rw [ups_of h]; exact Nat.zero_le _) (fun x hx h ih => by
    have u := (F.up x hx).resolve_left h
    rw [ups_n F hx h, List.length_cons]; omega)
theorem ups_nodup (F : Fo n p r) : ∀ x, x < n → (ups p n x).Nodup :=
  F.ind (fun x hx h => by rw [ups_of h]; exact List.nodup_nil) (fun x hx h ih => by
    have u := (F.up x hx).resolve_left h
    rw [ups_n F hx h]
    refine List.nodup_cons.mpr ⟨fun hm => ?_, ih⟩
    have z := (ups_lt F (p x) (F.lt x hx) x hm).2.2.2
    omega)
theorem self_ups (F : Fo n p r) {x : Nat} (hx : x < n) (h : p x ≠ x) : x ∈ ups p n x := by rw [ups_n F hx h]; exact List.mem_cons_self
/-- a set of nodes with all nodes above them but the roots -/
def Closed (n : Nat) (p : Nat → Nat) (S : Nat → Bool) : Prop := ∀ v, v < n → S v = true → p v ≠ v ∧ (p (p v) = p v ∨ S (p v) = true)
def after (n : Nat) (p : Nat → Nat) (S : Nat → Bool) : Nat → Nat := fun v => if S v = true then root p n v else p v
theorem closed_ups (F : Fo n p r) {S : Nat → Bool} (C : Closed n p S) : ∀ x, x < n → S x = true → ∀ v ∈ ups p n x, S v = true :=
  F.ind (fun x hx h hS v hv => by rw [ups_of h] at hv; cases hv) (fun x hx h ih hS v hv => by
    rw [ups_n F hx h] at hv
    rcases List.mem_cons.mp hv with e | e
    · subst e; exact hS
    · rcases (C x hx hS).2 with z | z
      · rw [ups_of z] at e; cases e
      · exact ih z v e)
theorem after_fo (F : Fo n p r) {S : Nat → Bool} (C : Closed n p S) : Fo n (after n p S) r where
  lt := fun x hx => by unfold after; split; exact root_lt F x hx; exact F.lt x hx
  up := fun x hx => by
    unfold after; split
    · exact root_rank F x hx
    · exact F.up x hx
  rb := F.rb
theorem after_root (F : Fo n p r) {S : Nat → Bool} (C : Closed n p S) {x : Nat} (hx : x < n) (h : p x = x) : after n p S x = x := by
  unfold after; split
  · exact root_of h n
  · exact h
theorem after_nonroot (F : Fo n p r) {S : Nat → Bool} (C : Closed n p S) {x : Nat} (hx : x < n) (h : p x ≠ x) : after n p S x ≠ x := by
  unfold after; split
  · exact root_ne F hx h
  · exact h
theorem after_same_root (F : Fo n p r) {S : Nat → Bool} (C : Closed n p S) : ∀ x, x < n → root (after n p S) n x = root p n x :=
  F.ind (fun x hx h => by rw [root_of h, root_of (after_root F C hx h)]) (fun x hx h ih => by
    have hq := after_nonroot F C hx h
    rw [root_n (after_fo F C) hx hq]
    by_cases hS : S x = true
    · have e : after n p S x = root p n x := by unfold after; rw [if_pos hS]
      rw [e]
      exact root_of (after_root F C (root_lt F x hx) (root_fix F x hx)) n
    · have e : after n p S x = p x := by unfold after; rw [if_neg hS]
      rw [e, ih, root_n F hx h])
theorem after_ups (F : Fo n p r) {S : Nat → Bool} (C : Closed n p S) : ∀ x, x < n →
    (∀ v ∈ ups (after n p S) n x, v ∈ ups p n x) ∧ (∀ v ∈ ups p n x, S v = true ∨ v ∈ ups (after n p S) n x) :=
  F.ind (fun x hx h => by rw [ups_of h, ups_of (after_root F C hx h)]; exact ⟨fun _ z => z, fun _ z => .inr z⟩) (fun x hx h ih => by
    have hq := after_nonroot F C hx h
    have G := after_fo F C
    rw [ups_n G hx hq]
    by_cases hS : S x = true
    · have e : after n p S x = root p n x := by unfold after; rw [if_pos hS]
      rw [e, ups_of (after_root F C (root_lt F x hx) (root_fix F x hx))]
      refine ⟨fun v hv => ?_, fun v hv => .inl (closed_ups F C x hx hS v hv)⟩
      rw [List.mem_singleton.mp hv]; exact self_ups F hx h
    · have e : after n p S x = p x := by unfold after; rw [if_neg hS]
      rw [e, ups_n F hx h]
      refine ⟨fun v hv => ?_, fun v hv => ?_⟩
      · rcases List.mem_cons.mp hv with z | z
        · rw [z]; exact List.mem_cons_self
        · exact List.mem_cons_of_mem _ (ih.1 v z)
      · rcases List.mem_cons.mp hv with z | z
        · exact .inr (by rw [z]; exact List.mem_cons_self)
        · rcases ih.2 v z with y | y
          · exact .inl y
          · exact .inr (List.mem_cons_of_mem _ y))
def low (p : Nat → Nat) (x : Nat) : Nat := if p x = x then 0 else 1
def deep (p : Nat → Nat) (v : Nat) : Bool := decide (p (p v) ≠ p v)
theorem after_cost (F : Fo n p r) {S : Nat → Bool} (C : Closed n p S) : ∀ x, x < n →
    (ups (after n p S) n x).length = low p x + (ups p n x).countP (fun v => deep p v && !S v) :=
  F.ind (fun x hx h => by rw [ups_of h, ups_of (after_root F C hx h)]; unfold low; rw [if_pos h]; rfl) (fun x hx h ih => by
    have hq := after_nonroot F C hx h
    have G := after_fo F C
    rw [ups_n G hx hq, List.length_cons]
    have hl : low p x = 1 := by unfold low; rw [if_neg h]
    rw [hl]
    by_cases hS : S x = true
    · have e : after n p S x = root p n x := by unfold after; rw [if_pos hS]
      rw [e, ups_of (after_root F C (root_lt F x hx) (root_fix F x hx))]
      have z : (ups p n x).countP (fun v => deep p v && !S v) = 0 := by
        refine List.countP_eq_zero.mpr fun v hv => ?_
        rw [closed_ups F C x hx hS v hv]; simp
      rw [z]; rfl
    · have e : after n p S x = p x := by unfold after; rw [if_neg hS]
      have eS : S x = false := by simpa using hS
      rw [e, ih, ups_n F hx h, List.countP_cons, eS]
      unfold low deep
      by_cases hd : p (p x) = p x
      · rw [if_pos hd]; simp [hd]; omega
      · rw [if_neg hd]; simp [hd]; omega)
def join (S T : Nat → Bool) : Nat → Bool := fun v => S v || T v
def upB (p : Nat → Nat) (n x : Nat) : Nat → Bool := fun v => (ups p n x).contains v
theorem upB_iff {v x : Nat} : upB p n x v = true ↔ v ∈ ups p n x := by unfold upB; exact List.contains_iff_mem
theorem ups_above (F : Fo n p r) : ∀ x, x < n → ∀ v ∈ ups p n x, p (p v) = p v ∨ p v ∈ ups p n x :=
  F.ind (fun x hx h v hv => by rw [ups_of h] at hv; cases hv) (fun x hx h ih v hv => by
    rw [ups_n F hx h] at hv ⊢
    rcases List.mem_cons.mp hv with e | e
    · subst e
      by_cases hp : p (p v) = p v
      · exact .inl hp
      · exact .inr (List.mem_cons_of_mem _ (self_ups F (F.lt v hx) hp))
    · rcases ih v e with z | z
      · exact .inl z
      · exact .inr (List.mem_cons_of_mem _ z))
theorem closed_join (F : Fo n p r) {S : Nat → Bool} (C : Closed n p S) {x : Nat} (hx : x < n) : Closed n p (join S (upB p n x)) := fun v hv h => by
  unfold join at h ⊢
  rcases Bool.or_eq_true _ _ |>.mp h with z | z
  · refine ⟨(C v hv z).1, ?_⟩
    rcases (C v hv z).2 with y | y
    · exact .inl y
    · exact .inr (by rw [y]; rfl)
  · have m := upB_iff.mp z
    refine ⟨(ups_lt F x hx v m).2.1, ?_⟩
    rcases ups_above F x hx v m with y | y
    · exact .inl y
    · exact .inr (by rw [upB_iff.mpr y, Bool.or_true])
theorem closed_no : Closed n p (fun _ => false) := fun v _ h => by cases h
def fnd (n : Nat) (p : Nat → Nat) (x : Nat) : Nat → Nat := fun v => if v ∈ path p n x then root p n x else p v
theorem fnd_after (F : Fo n p r) {S : Nat → Bool} (C : Closed n p S) {x : Nat} (hx : x < n) {v : Nat} (hv : v < n) : fnd n (after n p S) x v = after n p (join S (upB p n x)) v := by
  unfold fnd path
  rw [after_same_root F C x hx]
  have A := after_ups F C x hx
  have R := root_fix F x hx
  have Rl := root_lt F x hx
  by_cases h1 : v ∈ ups (after n p S) n x
  · rw [if_pos (List.mem_append_left _ h1)]
    have m := A.1 v h1
    unfold after join
    rw [if_pos (by rw [upB_iff.mpr m, Bool.or_true])]
    exact ((ups_lt F x hx v m).2.2.1).symm
  · by_cases h2 : v = root p n x
    · rw [if_pos (List.mem_append_right _ (List.mem_singleton.mpr h2))]
      subst h2
      exact (after_root F (closed_join F C hx) Rl R).symm
    · rw [if_neg (fun z => by
        rcases List.mem_append.mp z with y | y
        · exact h1 y
        · exact h2 (List.mem_singleton.mp y))]
      by_cases h3 : v ∈ ups p n x
      · have s := (A.2 v h3).resolve_right h1
        unfold after join
        rw [if_pos s, if_pos (by rw [s]; rfl)]
      · unfold after join
        have e : upB p n x v = false := by
          cases hb : upB p n x v with
          | false => rfl
          | true => exact absurd (upB_iff.mp hb) h3
        rw [e, Bool.or_false]
/-- a parent function below n alone matters -/
theorem root_congr {q : Nat → Nat} (hl : ∀ x, x < n → p x < n) (h : ∀ v, v < n → q v = p v) : ∀ k x, x < n → root q k x = root p k x
  | 0, _, _ => rfl
  | k + 1, x, hx => by
    show (if q x = x then x else root q k (q x)) = (if p x = x then x else root p k (p x))
    rw [h x hx, root_congr hl h k (p x) (hl x hx)]
theorem ups_congr {q : Nat → Nat} (hl : ∀ x, x < n → p x < n) (h : ∀ v, v < n → q v = p v) : ∀ k x, x < n → ups q k x = ups p k x
  | 0, _, _ => rfl
  | k + 1, x, hx => by
    show (if q x = x then [] else x :: ups q k (q x)) = (if p x = x then [] else x :: ups p k (p x))
    rw [h x hx, ups_congr hl h k (p x) (hl x hx)]
theorem fnd_congr {q : Nat → Nat} (hl : ∀ x, x < n → p x < n) (h : ∀ v, v < n → q v = p v) {x v : Nat} (hx : x < n) (hv : v < n) : fnd n q x v = fnd n p x v := by
  unfold fnd path
  rw [root_congr hl h n x hx, ups_congr hl h n x hx, h v hv]
theorem Fo.congr {q : Nat → Nat} (F : Fo n p r) (h : ∀ v, v < n → q v = p v) : Fo n q r where
  lt := fun x hx => by rw [h x hx]; exact F.lt x hx
  up := fun x hx => by rw [h x hx]; exact F.up x hx
  rb := F.rb
theorem fnd_fo (F : Fo n p r) {x : Nat} (hx : x < n) : Fo n (fnd n p x) r := by
  have e : ∀ v, v < n → after n p (fun _ => false) v = p v := fun v _ => rfl
  have A := after_fo F (closed_join F closed_no hx)
  exact A.congr fun v hv => (fnd_congr F.lt e hx hv).symm.trans (fnd_after F closed_no hx hv)
end
def fndAll (n : Nat) : List Nat → (Nat → Nat) → Nat → Nat
  | [], p => p
  | x :: l, p => fndAll n l (fnd n p x)
def costs (n : Nat) : List Nat → (Nat → Nat) → List Nat
  | [], _ => []
  | x :: l, p => (ups p n x).length :: costs n l (fnd n p x)
theorem fndAll_snoc (n : Nat) : ∀ (l : List Nat) (x : Nat) (p : Nat → Nat), fndAll n (l ++ [x]) p = fnd n (fndAll n l p) x
  | [], _, _ => rfl
  | y :: l, x, p => fndAll_snoc n l x (fnd n p y)
theorem costs_snoc (n : Nat) : ∀ (l : List Nat) (x : Nat) (p : Nat → Nat), costs n (l ++ [x]) p = costs n l p ++ [(ups (fndAll n l p) n x).length]
  | [], _, _ => rfl
  | y :: l, x, p => by show _ :: costs n (l ++ [x]) (fnd n p y) = _ :: (costs n l (fnd n p y) ++ [_]); rw [costs_snoc n l x (fnd n p y)]; rfl
theorem costs_len (n : Nat) : ∀ (l : List Nat) (p : Nat → Nat), (costs n l p).length = l.length
  | [], _ => rfl
  | y :: l, p => by show (costs n l (fnd n p y)).length + 1 = l.length + 1; rw [costs_len n l]
def markB (n : Nat) (p : Nat → Nat) (l : List Nat) : Nat → Bool := fun v => l.any fun x => upB p n x v
section
variable {n : Nat} {p : Nat → Nat} {r : Nat → Nat}
theorem fndAll_fo (F : Fo n p r) : ∀ (l : List Nat), (∀ x ∈ l, x < n) → ∀ q, Fo n q r → Fo n (fndAll n l q) r
  | [], _, q, G => G
  | x :: l, h, q, G => fndAll_fo F l (fun y hy => h y (List.mem_cons_of_mem _ hy)) _ (fnd_fo G (h x List.mem_cons_self))
theorem fndAll_after (F : Fo n p r) : ∀ (l : List Nat), (∀ x ∈ l, x < n) → ∀ S, Closed n p S → ∀ q, (∀ v, v < n → q v = after n p S v) → ∀ v, v < n → fndAll n l q v = after n p (join S (markB n p l)) v
  | [], _, S, C, q, hq, v, hv => by
    show q v = _
    rw [hq v hv]
    unfold after join markB
    simp
  | x :: l, h, S, C, q, hq, v, hv => by
    have hx := h x List.mem_cons_self
    have G := after_fo F C
    show fndAll n l (fnd n q x) v = _
    rw [fndAll_after F l (fun y hy => h y (List.mem_cons_of_mem _ hy)) (join S (upB p n x)) (closed_join F C hx) (fnd n q x) (fun u hu => (fnd_congr G.lt hq hx hu).trans (fnd_after F C hx hu)) v hv]
    have e : join (join S (upB p n x)) (markB n p l) = join S (markB n p (x :: l)) := by
      funext u
      show ((S u || upB p n x u) || l.any _) = (S u || (upB p n x u || l.any _))
      rw [Bool.or_assoc]
    rw [e]
theorem behind_eq (F : Fo n p r) (l : List Nat) (h : ∀ x ∈ l, x < n) (v : Nat) (hv : v < n) : fndAll n l p v = if markB n p l v = true then root p n v else p v := by
  rw [fndAll_after F l h (fun _ => false) closed_no p (fun u _ => rfl) v hv]
  unfold after join
  simp
theorem countP_split (f g : Nat → Bool) : ∀ l : List Nat, l.countP (fun v => f v && !g v) + l.countP (fun v => f v && g v) = l.countP f
  | [] => rfl
  | x :: l => by
    have ih := countP_split f g l
    rw [List.countP_cons, List.countP_cons, List.countP_cons, ← ih]
    cases f x <;> cases g x <;> simp <;> omega
theorem count_range (F : Fo n p r) {x : Nat} (hx : x < n) (f : Nat → Bool) : (ups p n x).countP f = (List.range n).countP (fun v => upB p n x v && f v) := by
  have P : (ups p n x).Perm ((List.range n).filter (upB p n x)) := by
    refine (List.perm_ext_iff_of_nodup (ups_nodup F x hx) (List.Nodup.sublist List.filter_sublist List.nodup_range)).mpr fun v => ?_
    rw [List.mem_filter, List.mem_range, upB_iff]
    exact ⟨fun h => ⟨(ups_lt F x hx v h).1, h⟩, fun h => h.2⟩
  rw [P.countP_eq, List.countP_filter]
  exact List.countP_congr fun v _ => by rw [Bool.and_comm]
theorem cost_sum (F : Fo n p r) : ∀ (l : List Nat), (∀ x ∈ l, x < n) → ∀ S, Closed n p S → ∀ q, (∀ v, v < n → q v = after n p S v) →
    (costs n l q).sum = (l.map (low p)).sum + (List.range n).countP (fun v => (deep p v && !S v) && markB n p l v)
  | [], _, S, C, q, hq => by
    have e : (List.range n).countP (fun v => (deep p v && !S v) && markB n p [] v) = 0 := List.countP_eq_zero.mpr fun v _ => by unfold markB; simp
    rw [e]; rfl
  | x :: l, h, S, C, q, hq => by
    have hx := h x List.mem_cons_self
    have G := after_fo F C
    show (ups q n x).length + (costs n l (fnd n q x)).sum = (low p x + (l.map (low p)).sum) + _
    rw [cost_sum F l (fun y hy => h y (List.mem_cons_of_mem _ hy)) (join S (upB p n x)) (closed_join F C hx) (fnd n q x) (fun u hu => (fnd_congr G.lt hq hx hu).trans (fnd_after F C hx hu))]
    rw [ups_congr G.lt hq n x hx, after_cost F C x hx, count_range F hx]
    have e := countP_split (fun v => (deep p v && !S v) && markB n p (x :: l) v) (upB p n x) (List.range n)
    rw [← e]
    have e1 : (List.range n).countP (fun v => ((deep p v && !S v) && markB n p (x :: l) v) && upB p n x v) = (List.range n).countP (fun v => upB p n x v && (deep p v && !S v)) := List.countP_congr fun v _ => by
      show (((deep p v && !S v) && (upB p n x v || markB n p l v)) && upB p n x v) = true ↔ (upB p n x v && (deep p v && !S v)) = true
      cases upB p n x v <;> cases deep p v <;> cases S v <;> simp
    have e2 : (List.range n).countP (fun v => ((deep p v && !S v) && markB n p (x :: l) v) && !upB p n x v) = (List.range n).countP (fun v => (deep p v && !join S (upB p n x) v) && markB n p l v) := List.countP_congr fun v _ => by
      show (((deep p v && !S v) && (upB p n x v || markB n p l v)) && !upB p n x v) = true ↔ ((deep p v && !(S v || upB p n x v)) && markB n p l v) = true
      cases upB p n x v <;> cases deep p v <;> cases S v <;> simp
    rw [e1, e2]
    omega
theorem cost_total (F : Fo n p r) (l : List Nat) (h : ∀ x ∈ l, x < n) : (costs n l p).sum = (l.map (low p)).sum + (List.range n).countP (fun v => deep p v && markB n p l v) := by
  rw [cost_sum F l h (fun _ => false) closed_no p (fun u _ => rfl)]
  congr 1
  exact List.countP_congr fun v _ => by simp
theorem mark_same {l m : List Nat} (h : ∀ x, x ∈ l ↔ x ∈ m) (v : Nat) : markB n p l v = markB n p m v := by
  unfold markB
  refine Bool.eq_iff_iff.mpr ?_
  rw [List.any_eq_true, List.any_eq_true]
  exact ⟨fun ⟨x, a, b⟩ => ⟨x, (h x).mp a, b⟩, fun ⟨x, a, b⟩ => ⟨x, (h x).mpr a, b⟩⟩
theorem behind_same (F : Fo n p r) {l m : List Nat} (hl : ∀ x ∈ l, x < n) (h : ∀ x, x ∈ l ↔ x ∈ m) (v : Nat) (hv : v < n) : fndAll n m p v = fndAll n l p v := by
  rw [behind_eq F m (fun x hx => hl x ((h x).mpr hx)) v hv, behind_eq F l hl v hv, mark_same h]
theorem cost_same (F : Fo n p r) {l m : List Nat} (hl : ∀ x ∈ l, x < n) (h : l.Perm m) : (costs n m p).sum = (costs n l p).sum := by
  rw [cost_total F m (fun x hx => hl x (h.mem_iff.mpr hx)), cost_total F l hl, (h.map (low p)).sum_nat]
  congr 1
  exact List.countP_congr fun v _ => by rw [mark_same (fun x => h.mem_iff) v]
end
end Ff
namespace Ff
theorem path_cons {p : Nat → Nat} {k x : Nat} (h : p x ≠ x) : path p (k + 1) x = x :: path p k (p x) := by
  unfold path
  rw [ups_step h, root_step h]
  rfl
theorem path_of {p : Nat → Nat} {k x : Nat} (h : p x = x) : path p k x = [x] := by
  unfold path
  rw [ups_of h, root_of h]
  rfl
theorem path_succ (p : Nat → Nat) : ∀ k x, path p (k + 1) x = if p (root p k x) = root p k x then path p k x else path p k x ++ [p (root p k x)]
  | 0, x => by
    by_cases h : p x = x
    · rw [path_of h, if_pos (show p (root p 0 x) = root p 0 x from h)]; rfl
    · rw [path_cons h, if_neg (show ¬ p (root p 0 x) = root p 0 x from h)]; rfl
  | k + 1, x => by
    by_cases h : p x = x
    · rw [path_of h, root_of h, if_pos h, path_of h]
    · rw [path_cons h, root_step h, path_succ p k (p x), path_cons h]
      split <;> rfl
theorem path_fixed {p : Nat → Nat} {i x : Nat} (h : p (root p i x) = root p i x) : ∀ j, path p (i + j) x = path p i x ∧ root p (i + j) x = root p i x
  | 0 => ⟨rfl, rfl⟩
  | j + 1 => by
    have ih := path_fixed h j
    have e : path p (i + (j + 1)) x = path p i x := by
      show path p ((i + j) + 1) x = _
      rw [path_succ, ih.2, if_pos h]
      exact ih.1
    refine ⟨e, ?_⟩
    unfold path at e
    have z := congrArg List.getLast? e
    rw [List.getLast?_append, List.getLast?_append] at z
    simpa using z
theorem root_lt0 {n : Nat} {p : Nat → Nat} (hl : ∀ x, x < n → p x < n) : ∀ k x, x < n → root p k x < n
  | 0, _, h => h
  | k + 1, x, h => by
    show (if p x = x then x else root p k (p x)) < n
    split
    · exact h
    · exact root_lt0 hl k (p x) (hl x h)
theorem ups_len0 (p : Nat → Nat) : ∀ k x, (ups p k x).length ≤ k
  | 0, _ => Nat.le_refl _
  | k + 1, x => by
    show (if p x = x then [] else x :: ups p k (p x)).length ≤ k + 1
    split
    · exact Nat.zero_le _
    · have := ups_len0 p k (p x)
      rw [List.length_cons]; omega
theorem path_len0 (p : Nat → Nat) (k x : Nat) : (path p k x).length ≤ k + 1 := by
  unfold path
  have := ups_len0 p k x
  rw [List.length_append, List.length_singleton]; omega
end Ff
namespace Ff
theorem root_succ (p : Nat → Nat) : ∀ k x, root p (k + 1) x = p (root p k x)
  | 0, x => by
    by_cases h : p x = x
    · rw [root_of h]; show x = p x; rw [h]
    · rw [root_step h]; rfl
  | k + 1, x => by
    by_cases h : p x = x
    · rw [root_of h, root_of h, h]
    · rw [root_step h, root_step h, root_succ p k (p x)]
theorem ups_succ (p : Nat → Nat) : ∀ k x, ups p (k + 1) x = if p (root p k x) = root p k x then ups p k x else ups p k x ++ [root p k x]
  | 0, x => by
    by_cases h : p x = x
    · rw [ups_of h, if_pos (show p (root p 0 x) = root p 0 x from h)]; rfl
    · rw [ups_step h, if_neg (show ¬ p (root p 0 x) = root p 0 x from h)]; rfl
  | k + 1, x => by
    by_cases h : p x = x
    · rw [ups_of h, root_of h, if_pos h, ups_of h]
    · rw [ups_step h, root_step h, ups_succ p k (p x), ups_step h]
      split <;> rfl
end Ff

/-! Ways between forests: changed nodes, needed nodes. -/
namespace Ff
def chg (p q : Nat → Nat) (v : Nat) : Bool := decide (p v ≠ q v)
/-- finds lead from p to q -/
def Way (n : Nat) (p q : Nat → Nat) : Prop := ∀ v, v < n → chg p q v = true → ∀ u ∈ ups p n v, q u = root p n u
def needB (n : Nat) (p q : Nat → Nat) (v : Nat) : Bool := chg p q v && !(List.range n).any fun u => chg p q u && (decide (v ≠ u) && (ups p n u).contains v)
def needS (n : Nat) (p q : Nat → Nat) : List Nat := (List.range n).filter (needB n p q)
theorem chg_iff {p q : Nat → Nat} {v : Nat} : chg p q v = true ↔ p v ≠ q v := by unfold chg; exact decide_eq_true_iff
theorem needB_iff {n : Nat} {p q : Nat → Nat} {v : Nat} : needB n p q v = true ↔ p v ≠ q v ∧ ∀ u, u < n → p u ≠ q u → v ≠ u → v ∉ ups p n u := by
  unfold needB
  rw [Bool.and_eq_true, chg_iff, Bool.not_eq_true']
  refine and_congr_right fun _ => ?_
  rw [List.any_eq_false]
  constructor
  · intro h u hu hc hn hm
    refine h u (List.mem_range.mpr hu) ?_
    rw [Bool.and_eq_true, Bool.and_eq_true, chg_iff]
    exact ⟨hc, decide_eq_true hn, List.contains_iff_mem.mpr hm⟩
  · intro h u hu z
    rw [Bool.and_eq_true, Bool.and_eq_true, chg_iff] at z
    exact h u (List.mem_range.mp hu) z.1 (of_decide_eq_true z.2.1) (List.contains_iff_mem.mp z.2.2)
theorem needS_mem {n : Nat} {p q : Nat → Nat} {v : Nat} : v ∈ needS n p q ↔ v < n ∧ needB n p q v = true := by
  unfold needS; rw [List.mem_filter, List.mem_range]
theorem needS_nodup (n : Nat) (p q : Nat → Nat) : (needS n p q).Nodup := List.Nodup.sublist List.filter_sublist List.nodup_range
theorem needS_len (n : Nat) (p q : Nat → Nat) : (needS n p q).length ≤ n := Nat.le_trans (List.length_filter_le _ _) (by rw [List.length_range]; exact Nat.le_refl _)
section
variable {n : Nat} {p r : Nat → Nat}
theorem ups_trans (F : Fo n p r) {u v : Nat} : ∀ x, x < n → u ∈ ups p n x → v ∈ ups p n u → v ∈ ups p n x :=
  F.ind (C := fun x => u ∈ ups p n x → v ∈ ups p n u → v ∈ ups p n x) (fun x hx h a _ => by rw [ups_of h] at a; cases a) (fun x hx h ih a b => by
    rw [ups_n F hx h] at a
    rcases List.mem_cons.mp a with e | e
    · subst e; exact b
    · rw [ups_n F hx h]; exact List.mem_cons_of_mem _ (ih e b))
theorem ups_rank (F : Fo n p r) {v x : Nat} (hx : x < n) (h : v ∈ ups p n x) (ne : v ≠ x) : r v < r x := by
  by_cases e : p x = x
  · rw [ups_of e] at h; cases h
  · rw [ups_n F hx e] at h
    rcases List.mem_cons.mp h with z | z
    · exact absurd z ne
    · have := (ups_lt F (p x) (F.lt x hx) v z).2.2.2
      have := (F.up x hx).resolve_left e
      omega
theorem mark_iff {l : List Nat} {v : Nat} : markB n p l v = true ↔ ∃ x ∈ l, v ∈ ups p n x := by
  unfold markB
  rw [List.any_eq_true]
  exact ⟨fun ⟨x, a, b⟩ => ⟨x, a, upB_iff.mp b⟩, fun ⟨x, a, b⟩ => ⟨x, a, upB_iff.mpr b⟩⟩
theorem mark_closed (F : Fo n p r) {l : List Nat} (h : ∀ x ∈ l, x < n) : Closed n p (markB n p l) := fun v hv hm => by
  obtain ⟨x, hx, m⟩ := mark_iff.mp hm
  refine ⟨(ups_lt F x (h x hx) v m).2.1, ?_⟩
  rcases ups_above F x (h x hx) v m with y | y
  · exact .inl y
  · exact .inr (mark_iff.mpr ⟨x, hx, y⟩)
/-- behind finds: what is changed was marked -/
theorem behind_chg (F : Fo n p r) {l : List Nat} (h : ∀ x ∈ l, x < n) {v : Nat} (hv : v < n) (hc : p v ≠ fndAll n l p v) : markB n p l v = true ∧ fndAll n l p v = root p n v ∧ p v ≠ root p n v := by
  have e := behind_eq F l h v hv
  by_cases m : markB n p l v = true
  · rw [if_pos m] at e
    exact ⟨m, e, by rw [← e]; exact hc⟩
  · rw [if_neg m] at e
    exact absurd e.symm hc
theorem way_behind (F : Fo n p r) {l : List Nat} (h : ∀ x ∈ l, x < n) : Way n p (fndAll n l p) := fun v hv hc u hu => by
  have m := (behind_chg F h hv (chg_iff.mp hc)).1
  have hun := (ups_lt F v hv u hu).1
  obtain ⟨x, hx, mx⟩ := mark_iff.mp m
  rw [behind_eq F l h u hun, if_pos (mark_iff.mpr ⟨x, hx, ups_trans F x (h x hx) mx hu⟩)]
/-- whoever is above another one is no child of the root's -/
theorem above_deep (F : Fo n p r) {x v : Nat} (hx : x < n) (h : v ∈ ups p n x) (ne : v ≠ x) : p x ≠ root p n x := by
  have hr : p x ≠ x := fun e => by rw [ups_of e] at h; cases h
  rw [ups_n F hx hr] at h
  rcases List.mem_cons.mp h with z | z
  · exact absurd z ne
  · intro e
    have f := root_fix F x hx
    rw [← e] at f
    rw [ups_of f] at z
    cases z
theorem need_found (F : Fo n p r) {l : List Nat} (h : ∀ x ∈ l, x < n) {v : Nat} (hv : v < n) (hn : needB n p (fndAll n l p) v = true) : v ∈ l := by
  obtain ⟨hc, ho⟩ := needB_iff.mp hn
  obtain ⟨m, _, _⟩ := behind_chg F h hv hc
  obtain ⟨x, hx, mx⟩ := mark_iff.mp m
  by_cases e : v = x
  · rw [e]; exact hx
  · have hxn := h x hx
    have hr : p x ≠ x := fun z => by rw [ups_of z] at mx; cases mx
    have bx : fndAll n l p x = root p n x := by rw [behind_eq F l h x hxn, if_pos (mark_iff.mpr ⟨x, hx, self_ups F hxn hr⟩)]
    exact absurd mx (ho x hxn (by rw [bx]; exact above_deep F hxn mx e) e)
/-- above a needed one, or needed -/
theorem need_below (F : Fo n p r) {q : Nat → Nat} (hq : ∀ v, v < n → p v = v → q v = v) : ∀ k v, n - r v ≤ k → v < n → p v ≠ q v → ∃ u, u < n ∧ needB n p q u = true ∧ v ∈ ups p n u := by
  intro k
  induction k with
  | zero => intro v hk hv _; have := F.rb v hv; omega
  | succ k ih =>
    intro v hk hv hc
    have nr : p v ≠ v := fun e => hc (by rw [hq v hv e]; exact e)
    cases hb : needB n p q v with
    | true => exact ⟨v, hv, hb, self_ups F hv nr⟩
    | false =>
      have z : ¬ (p v ≠ q v ∧ ∀ u, u < n → p u ≠ q u → v ≠ u → v ∉ ups p n u) := fun y => by rw [needB_iff.mpr y] at hb; cases hb
      have : ∃ u, u < n ∧ p u ≠ q u ∧ v ≠ u ∧ v ∈ ups p n u := by
        refine Classical.byContradiction fun y => z ⟨hc, fun u a b c d => y ⟨u, a, b, c, d⟩⟩
      obtain ⟨u, hu, cu, ne, mu⟩ := this
      have rk := ups_rank F hu mu ne
      obtain ⟨w, hw, nw, mw⟩ := ih u (by have := F.rb u hu; omega) hu cu
      exact ⟨w, hw, nw, ups_trans F w hw mw mu⟩
/-- a way: finds of the needed ones lead there -/
theorem need_leads (F : Fo n p r) {q : Nat → Nat} (hq : ∀ v, v < n → p v = v → q v = v) (W : Way n p q) (v : Nat) (hv : v < n) : fndAll n (needS n p q) p v = q v := by
  have hl : ∀ x ∈ needS n p q, x < n := fun x hx => (needS_mem.mp hx).1
  rw [behind_eq F _ hl v hv]
  by_cases m : markB n p (needS n p q) v = true
  · rw [if_pos m]
    obtain ⟨x, hx, mx⟩ := mark_iff.mp m
    have hb := needS_mem.mp hx
    exact (W x hb.1 (chg_iff.mpr (needB_iff.mp hb.2).1) v mx).symm
  · rw [if_neg m]
    refine Classical.byContradiction fun hc => ?_
    obtain ⟨u, hu, nu, mu⟩ := need_below F hq n v (by omega) hv hc
    exact m (mark_iff.mpr ⟨u, needS_mem.mpr ⟨hu, nu⟩, mu⟩)
theorem behind_root (F : Fo n p r) {l : List Nat} (h : ∀ x ∈ l, x < n) (v : Nat) (hv : v < n) (e : p v = v) : fndAll n l p v = v := by
  rw [behind_eq F l h v hv]
  split
  · exact root_of e n
  · exact e
theorem filter_single {f : Nat → Bool} {m : Nat} (hm : m < n) (h : ∀ v, v < n → (f v = true ↔ v = m)) : (List.range n).filter f = [m] := by
  have e : (List.range n).filter f = (List.range n).filter (fun v => v == m) := by
    refine List.filter_congr fun v hv => ?_
    have := h v (List.mem_range.mp hv)
    by_cases z : v = m
    · rw [this.mpr z, z]; simp
    · have y : f v = false := by
        cases hf : f v with
        | false => rfl
        | true => exact absurd (this.mp hf) z
      rw [y]; simp [z]
  rw [e]
  have c : (List.range n).filter (fun v => v == m) = List.replicate ((List.range n).count m) m := List.filter_beq _
  rw [c, (List.nodup_range (n := n)).count, if_pos (List.mem_range.mpr hm)]
  rfl
/-- all but one of the needed ones do not suffice -/
theorem rest_needs (F : Fo n p r) {q : Nat → Nat} (hq : ∀ v, v < n → p v = v → q v = v) (W : Way n p q) {rest : List Nat} {m : Nat} (hmn : m < n) (hm : needB n p q m = true)
    (hr : ∀ x ∈ rest, x ∈ needS n p q ∧ x ≠ m) (hall : ∀ x ∈ needS n p q, x = m ∨ x ∈ rest) :
    fndAll n rest p m ≠ q m ∧ Way n (fndAll n rest p) q ∧ needS n (fndAll n rest p) q = [m] := by
  have hl : ∀ x ∈ rest, x < n := fun x hx => (needS_mem.mp (hr x hx).1).1
  obtain ⟨cm, om⟩ := needB_iff.mp hm
  have C := mark_closed F hl
  have hS : ∀ v, v < n → fndAll n rest p v = after n p (markB n p rest) v := fun v hv => by rw [behind_eq F rest hl v hv]; rfl
  have G := after_fo F C
  have hm0 : markB n p rest m ≠ true := fun z => by
    obtain ⟨x, hx, mx⟩ := mark_iff.mp z
    have hb := needS_mem.mp (hr x hx).1
    exact om x hb.1 (needB_iff.mp hb.2).1 (fun e => (hr x hx).2 e.symm) mx
  have rm : fndAll n rest p m = p m := by rw [behind_eq F rest hl m hmn, if_neg hm0]
  have mchg : fndAll n rest p m ≠ q m := by rw [rm]; exact cm
  have uc : ∀ x, x < n → ups (fndAll n rest p) n x = ups (after n p (markB n p rest)) n x := fun x hx => ups_congr G.lt hS n x hx
  have rc : ∀ x, x < n → root (fndAll n rest p) n x = root p n x := fun x hx => (root_congr G.lt hS n x hx).trans (after_same_root F C x hx)
  -- what is still changed
  have still : ∀ v, v < n → fndAll n rest p v ≠ q v → markB n p rest v ≠ true ∧ p v ≠ q v ∧ v ∈ ups p n m := fun v hv hc => by
    have e := behind_eq F rest hl v hv
    by_cases mv : markB n p rest v = true
    · rw [if_pos mv] at e
      obtain ⟨x, hx, mx⟩ := mark_iff.mp mv
      have hb := needS_mem.mp (hr x hx).1
      exact absurd (e.trans (W x hb.1 (chg_iff.mpr (needB_iff.mp hb.2).1) v mx).symm) hc
    · rw [if_neg mv] at e
      have pc : p v ≠ q v := by rw [← e]; exact hc
      obtain ⟨u, hu, nu, mu⟩ := need_below F hq n v (by omega) hv pc
      rcases hall u (needS_mem.mpr ⟨hu, nu⟩) with z | z
      · exact ⟨mv, pc, z ▸ mu⟩
      · exact absurd (mark_iff.mpr ⟨u, z, mu⟩) mv
  refine ⟨mchg, fun v hv hc u hu => ?_, filter_single hmn fun v hv => ?_⟩
  · obtain ⟨_, pc, _⟩ := still v hv (chg_iff.mp hc)
    rw [uc v hv] at hu
    have hu' := (after_ups F C v hv).1 u hu
    rw [rc u (ups_lt F v hv u hu').1]
    exact W v hv (chg_iff.mpr pc) u hu'
  · rw [needB_iff]
    constructor
    · rintro ⟨hc, ho⟩
      refine Classical.byContradiction fun ne => ?_
      obtain ⟨mv, _, vm⟩ := still v hv hc
      refine ho m hmn mchg ne ?_
      rw [uc m hmn]
      exact ((after_ups F C m hmn).2 v vm).resolve_left mv
    · rintro rfl
      refine ⟨mchg, fun u hu hc ne hm2 => ?_⟩
      obtain ⟨_, _, um⟩ := still u hu hc
      rw [uc u hu] at hm2
      have a := ups_rank F hu ((after_ups F C u hu).1 v hm2) ne
      have b := ups_rank F hmn um (fun e => ne e.symm)
      omega
end
end Ff
namespace Ff
section
variable {n : Nat} {p r : Nat → Nat}
theorem fndAll_append (n : Nat) : ∀ (l m : List Nat) (p : Nat → Nat), fndAll n (l ++ m) p = fndAll n m (fndAll n l p)
  | [], _, _ => rfl
  | x :: l, m, p => fndAll_append n l m (fnd n p x)
theorem behind_same_root (F : Fo n p r) {l : List Nat} (h : ∀ x ∈ l, x < n) (v : Nat) (hv : v < n) : root (fndAll n l p) n v = root p n v := by
  have C := mark_closed F h
  have hS : ∀ v, v < n → fndAll n l p v = after n p (markB n p l) v := fun v hv => by rw [behind_eq F l h v hv]; rfl
  exact (root_congr (after_fo F C).lt hS n v hv).trans (after_same_root F C v hv)
theorem behind_ups (F : Fo n p r) {l : List Nat} (h : ∀ x ∈ l, x < n) {x v : Nat} (hx : x < n) (hv : v ∈ ups (fndAll n l p) n x) : v ∈ ups p n x := by
  have C := mark_closed F h
  have hS : ∀ v, v < n → fndAll n l p v = after n p (markB n p l) v := fun v hv => by rw [behind_eq F l h v hv]; rfl
  rw [ups_congr (after_fo F C).lt hS n x hx] at hv
  exact (after_ups F C x hx).1 v hv
/-- a node keeps its parent or hangs on its root -/
theorem behind_or (F : Fo n p r) {l : List Nat} (h : ∀ x ∈ l, x < n) (v : Nat) (hv : v < n) : fndAll n l p v = p v ∨ fndAll n l p v = root p n v := by
  rw [behind_eq F l h v hv]
  split
  · exact .inr rfl
  · exact .inl rfl
/-- what is needed over two ways is needed over one of them -/
theorem need_two (F : Fo n p r) {l m : List Nat} (hl : ∀ x ∈ l, x < n) (hm : ∀ x ∈ m, x < n) {v : Nat} (hv : v < n) (hn : needB n p (fndAll n m (fndAll n l p)) v = true) :
    needB n p (fndAll n l p) v = true ∨ needB n (fndAll n l p) (fndAll n m (fndAll n l p)) v = true := by
  have G : Fo n (fndAll n l p) r := fndAll_fo F l hl p F
  obtain ⟨hc, ho⟩ := needB_iff.mp hn
  -- once on the root, always on the root
  have stay : ∀ u, u < n → fndAll n l p u = root p n u → fndAll n m (fndAll n l p) u = root p n u := fun u hu e => by
    rcases behind_or G hm u hu with z | z
    · rw [z, e]
    · rw [z, behind_same_root F hl u hu]
  by_cases h1 : p v = fndAll n l p v
  · refine .inr (needB_iff.mpr ⟨by rw [← h1]; exact hc, fun u hu hcu ne hmu => ?_⟩)
    refine ho u hu ?_ ne (behind_ups F hl hu hmu)
    rcases behind_or F hl u hu with z | z
    · rw [← z]; exact hcu
    · exact absurd (z.trans (stay u hu z).symm) hcu
  · refine .inl (needB_iff.mpr ⟨h1, fun u hu hcu ne hmu => ?_⟩)
    refine ho u hu ?_ ne hmu
    have z := (behind_or F hl u hu).resolve_left (fun e => hcu e.symm)
    rw [stay u hu z, ← z]; exact hcu
theorem flat_fo (F : Fo n p r) : Fo n (fun v => root p n v) r where
  lt := root_lt F
  up := root_rank F
  rb := F.rb
theorem flat_way (F : Fo n p r) : Way n p (fun v => root p n v) := fun _ _ _ _ _ => rfl
theorem flat_roots (F : Fo n p r) (v : Nat) (hv : v < n) : p v = v ↔ root p n v = v :=
  ⟨fun e => root_of e n, fun e => Classical.byContradiction fun z => root_ne F hv z e⟩
theorem flat_ups (F : Fo n p r) (v : Nat) (hv : v < n) : (ups (fun v => root p n v) n v).length ≤ 1 := by
  by_cases e : root p n v = v
  · rw [ups_of (p := fun v => root p n v) e]; exact Nat.zero_le _
  · rw [ups_n (flat_fo F) hv e]
    have f : root p n (root p n v) = root p n v := root_of (root_fix F v hv) n
    rw [ups_of (p := fun v => root p n v) f]
    exact Nat.le_refl _
theorem deep_chg (F : Fo n p r) (v : Nat) (hv : v < n) : decide (2 ≤ (ups p n v).length) = chg p (fun v => root p n v) v := by
  unfold chg
  refine decide_eq_decide.mpr ?_
  show 2 ≤ (ups p n v).length ↔ p v ≠ root p n v
  by_cases e : p v = v
  · rw [ups_of e, root_of e]; simp [e]
  · rw [ups_n F hv e, root_n F hv e, List.length_cons]
    constructor
    · intro h z
      rw [ups_of (by rw [z]; exact root_fix F (p v) (F.lt v hv))] at h
      simp at h
    · intro h
      have e2 : p (p v) ≠ p v := fun z => h (root_of z n).symm
      rw [ups_n F (F.lt v hv) e2, List.length_cons]; omega
/-- no way back -/
theorem no_way_back (F : Fo n p r) {l : List Nat} (hl : ∀ x ∈ l, x < n) : Way n (fndAll n l p) p ↔ ∀ v, v < n → p v = fndAll n l p v := by
  have G : Fo n (fndAll n l p) r := fndAll_fo F l hl p F
  constructor
  · intro W v hv
    refine Classical.byContradiction fun hc => ?_
    have z := (behind_or F hl v hv).resolve_left (fun e => hc e.symm)
    have nr : fndAll n l p v ≠ v := by
      intro e
      rw [z] at e
      have pr : p v = v := by
        have y := root_fix F v hv
        rw [e] at y; exact y
      exact hc (by rw [z, e, pr])
    have := W v hv (chg_iff.mpr fun e => hc e.symm) v (self_ups G hv nr)
    rw [behind_same_root F hl v hv, ← z] at this
    exact hc this
  · intro h v hv hc
    exact absurd (h v hv).symm (chg_iff.mp hc)
end
end Ff

/-! Forests by any falling measure; a parent exchanged. -/
namespace Ff
section
variable {n : Nat} {p ρ : Nat → Nat}
theorem bounded (ρ : Nat → Nat) : ∀ n, ∃ M, ∀ v, v < n → ρ v ≤ M
  | 0 => ⟨0, fun v h => by omega⟩
  | n + 1 => by
    obtain ⟨M, h⟩ := bounded ρ n
    refine ⟨M + ρ n, fun v hv => ?_⟩
    by_cases e : v = n
    · rw [e]; omega
    · have := h v (by omega); omega
theorem upsW (hl : ∀ x, x < n → p x < n) (hu : ∀ x, x < n → p x = x ∨ ρ (p x) < ρ x) : ∀ (k x : Nat), x < n → ρ x ≤ k → ups p (k + 1) x = ups p k x
  | k, x, hx, hr => by
    by_cases h : p x = x
    · rw [ups_of h, ups_of h]
    · have u := (hu x hx).resolve_left h
      cases k with
      | zero => omega
      | succ k => rw [ups_step h, ups_step h]; rw [upsW hl hu k (p x) (hl x hx) (by omega)]
theorem ups_memW (hl : ∀ x, x < n → p x < n) (hu : ∀ x, x < n → p x = x ∨ ρ (p x) < ρ x) : ∀ (k x : Nat), x < n → ∀ v ∈ ups p k x, v < n ∧ p v ≠ v ∧ ρ v ≤ ρ x
  | 0, x, hx, v, hv => by cases hv
  | k + 1, x, hx, v, hv => by
    by_cases h : p x = x
    · rw [ups_of h] at hv; cases hv
    · have u := (hu x hx).resolve_left h
      rw [ups_step h] at hv
      rcases List.mem_cons.mp hv with e | e
      · subst e; exact ⟨hx, h, Nat.le_refl _⟩
      · have z := ups_memW hl hu k (p x) (hl x hx) v e
        exact ⟨z.1, z.2.1, by omega⟩
theorem ups_nodupW (hl : ∀ x, x < n → p x < n) (hu : ∀ x, x < n → p x = x ∨ ρ (p x) < ρ x) : ∀ (k x : Nat), x < n → (ups p k x).Nodup
  | 0, x, hx => List.nodup_nil
  | k + 1, x, hx => by
    by_cases h : p x = x
    · rw [ups_of h]; exact List.nodup_nil
    · have u := (hu x hx).resolve_left h
      rw [ups_step h]
      refine List.nodup_cons.mpr ⟨fun hm => ?_, ups_nodupW hl hu k (p x) (hl x hx)⟩
      have := (ups_memW hl hu k (p x) (hl x hx) x hm).2.2
      omega
theorem nodup_len {l : List Nat} (nd : l.Nodup) (h : ∀ v ∈ l, v < n) {w : Nat} (hw : w < n) (ho : w ∉ l) : l.length < n := by
  have P : (w :: l).Perm ((List.range n).filter fun v => (w :: l).contains v) := by
    refine (List.perm_ext_iff_of_nodup (List.nodup_cons.mpr ⟨ho, nd⟩) (List.Nodup.sublist List.filter_sublist List.nodup_range)).mpr fun v => ?_
    rw [List.mem_filter, List.mem_range, List.contains_iff_mem]
    refine ⟨fun z => ⟨?_, z⟩, fun z => z.2⟩
    rcases List.mem_cons.mp z with y | y
    · rw [y]; exact hw
    · exact h v y
  have e := P.length_eq
  rw [List.length_cons] at e
  have := List.length_filter_le (fun v => (w :: l).contains v) (List.range n)
  rw [List.length_range] at this
  omega
/-- any falling measure makes a forest -/
theorem fo_of_weak (hl : ∀ x, x < n → p x < n) (hu : ∀ x, x < n → p x = x ∨ ρ (p x) < ρ x) : ∃ r, Fo n p r := by
  obtain ⟨M, hM⟩ := bounded ρ n
  have st : ∀ x, x < n → p x ≠ x → ups p M x = x :: ups p M (p x) := fun x hx h => by
    rw [← upsW hl hu M x hx (hM x hx), ups_step h]
  refine ⟨fun v => (ups p M v).length, hl, fun x hx => ?_, fun x hx => ?_⟩
  · by_cases h : p x = x
    · exact .inl h
    · refine .inr ?_
      show (ups p M (p x)).length < (ups p M x).length
      rw [st x hx h, List.length_cons]; omega
  · -- some root is not on the way
    have : ∀ k x, x < n → ρ x ≤ k → p (root p k x) = root p k x ∧ root p k x < n := by
      intro k
      induction k with
      | zero =>
        intro x hx hr
        rcases hu x hx with z | z
        · exact ⟨z, hx⟩
        · omega
      | succ k ih =>
        intro x hx hr
        by_cases h : p x = x
        · rw [root_of h]; exact ⟨h, hx⟩
        · rw [root_step h]
          exact ih (p x) (hl x hx) (by have := (hu x hx).resolve_left h; omega)
    obtain ⟨h1, h2⟩ := this M x hx (hM x hx)
    exact nodup_len (ups_nodupW hl hu M x hx) (fun v hv => (ups_memW hl hu M x hx v hv).1) h2 (fun hm => (ups_memW hl hu M x hx _ hm).2.1 h1)
end
/-- a node hung on one that is not below it -/
theorem exchange_fo {n : Nat} {p r : Nat → Nat} (F : Fo n p r) {a b : Nat} (ha : a < n) (hb : b < n) (hr : p a ≠ a) (hn : a ∉ path p n b) : ∃ r', Fo n (fun v => if v = a then b else p v) r' := by
  -- below a, and a itself, go beyond b
  let low : Nat → Bool := fun v => decide (a ∈ path p n v)
  have lowa : low a = true := decide_eq_true (by unfold path; exact List.mem_append_left _ (self_ups F ha hr))
  have lowb : low b = false := decide_eq_false hn
  have pathn : ∀ v, v < n → p v ≠ v → path p n v = v :: path p n (p v) := fun v hv h => by
    unfold path; rw [ups_n F hv h, root_n F hv h]; rfl
  have step : ∀ v, v < n → v ≠ a → p v ≠ v → low (p v) = low v := fun v hv ne h => by
    show decide (a ∈ path p n (p v)) = decide (a ∈ path p n v)
    rw [pathn v hv h]
    refine decide_eq_decide.mpr ⟨fun z => List.mem_cons_of_mem _ z, fun z => ?_⟩
    rcases List.mem_cons.mp z with y | y
    · exact absurd y.symm ne
    · exact y
  refine fo_of_weak (ρ := fun v => if low v = true then r v + n else r v) (fun x hx => ?_) (fun x hx => ?_)
  · show (if x = a then b else p x) < n
    split
    · exact hb
    · exact F.lt x hx
  · by_cases e : x = a
    · subst e
      refine .inr ?_
      show (if low (if x = x then b else p x) = true then r (if x = x then b else p x) + n else r (if x = x then b else p x)) < (if low x = true then r x + n else r x)
      rw [if_pos rfl, lowb, lowa, if_pos rfl, if_neg (by decide)]
      have := F.rb b hb
      omega
    · show (if x = a then b else p x) = x ∨ (if low (if x = a then b else p x) = true then r (if x = a then b else p x) + n else r (if x = a then b else p x)) < (if low x = true then r x + n else r x)
      rw [if_neg e]
      by_cases h : p x = x
      · exact .inl h
      · have u := (F.up x hx).resolve_left h
        refine .inr ?_
        rw [step x hx e h]
        cases low x <;> simp <;> omega
theorem exchange_root {n : Nat} {p : Nat → Nat} {a b : Nat} (hr : p a ≠ a) (ne : b ≠ a) (v : Nat) : (if v = a then b else p v) = v ↔ p v = v := by
  by_cases e : v = a
  · subst e
    rw [if_pos rfl]
    exact ⟨fun z => absurd z ne, fun z => absurd z hr⟩
  · rw [if_neg e]
end Ff

/-! Falling products and choices. -/
namespace Ff
def fallN (s : Int) : Nat → Int
  | 0 => 1
  | k + 1 => fallN s k * (if s - (k : Int) > 0 then s - (k : Int) else 0)
def fall (s c : Int) : Int := if c < 0 then 0 else fallN s c.toNat
def binom (s c : Int) : Int := if c < 0 then 0 else fall s c / fall c c
def choose : Nat → Nat → Nat
  | _, 0 => 1
  | 0, _ + 1 => 0
  | n + 1, k + 1 => choose n k + choose n (k + 1)
def fact : Nat → Nat
  | 0 => 1
  | k + 1 => (k + 1) * fact k
theorem fact_pos : ∀ k, 0 < fact k
  | 0 => Nat.one_pos
  | k + 1 => Nat.mul_pos (Nat.succ_pos k) (fact_pos k)
theorem choose_zero (n : Nat) : choose n 0 = 1 := by cases n <;> rfl
/-- (n + 1 choose k + 1) (k + 1) = (n + 1) (n choose k) -/
theorem choose_succ : ∀ n k, choose (n + 1) (k + 1) * (k + 1) = (n + 1) * choose n k
  | 0, 0 => rfl
  | 0, k + 1 => by show (0 + 0) * (k + 1 + 1) = (0 + 1) * 0; simp
  | n + 1, 0 => by
    have h := choose_succ n 0
    rw [choose_zero] at h
    rw [choose_zero]
    show (choose (n + 1) 0 + choose (n + 1) (0 + 1)) * (0 + 1) = (n + 1 + 1) * 1
    rw [choose_zero]
    omega
  | n + 1, k + 1 => by
    have h1 := choose_succ n k
    have h2 := choose_succ n (k + 1)
    show (choose (n + 1) (k + 1) + choose (n + 1) (k + 1 + 1)) * (k + 1 + 1) = (n + 1 + 1) * choose (n + 1) (k + 1)
    have e : choose (n + 1) (k + 1) = choose n k + choose n (k + 1) := rfl
    have e1 : choose (n + 1) (k + 1) * (k + 1 + 1) = (n + 1) * choose n k + choose (n + 1) (k + 1) := by rw [Nat.mul_add, Nat.mul_one, h1]
    have e2 : (n + 1 + 1) * choose (n + 1) (k + 1) = ((n + 1) * choose n k + (n + 1) * choose n (k + 1)) + choose (n + 1) (k + 1) := by rw [Nat.add_mul, Nat.one_mul, e, Nat.mul_add]
    rw [Nat.add_mul, h2, e1, e2]
    generalize (n + 1) * choose n k = x
    generalize (n + 1) * choose n (k + 1) = y
    omega
theorem fall_rec (n : Nat) : ∀ k : Nat, fallN ((n + 1 : Nat) : Int) (k + 1) = ((n + 1 : Nat) : Int) * fallN (n : Int) k
  | 0 => by
    show 1 * (if ((n + 1 : Nat) : Int) - ((0 : Nat) : Int) > 0 then ((n + 1 : Nat) : Int) - ((0 : Nat) : Int) else 0) = ((n + 1 : Nat) : Int) * 1
    rw [if_pos (by omega)]; omega
  | k + 1 => by
    show fallN ((n + 1 : Nat) : Int) (k + 1) * (if ((n + 1 : Nat) : Int) - ((k + 1 : Nat) : Int) > 0 then ((n + 1 : Nat) : Int) - ((k + 1 : Nat) : Int) else 0) = ((n + 1 : Nat) : Int) * (fallN (n : Int) k * (if (n : Int) - (k : Int) > 0 then (n : Int) - (k : Int) else 0))
    rw [fall_rec n k, Int.mul_assoc]
    congr 2
    rw [show ((n + 1 : Nat) : Int) - ((k + 1 : Nat) : Int) = (n : Int) - (k : Int) by omega]
theorem fall_choose : ∀ k n : Nat, fallN (n : Int) k = ((choose n k * fact k : Nat) : Int)
  | 0, n => by show (1 : Int) = ((choose n 0 * fact 0 : Nat) : Int); cases n <;> rfl
  | k + 1, 0 => by
    show fallN 0 k * (if ((0 : Nat) : Int) - (k : Int) > 0 then ((0 : Nat) : Int) - (k : Int) else 0) = ((0 * fact (k + 1) : Nat) : Int)
    rw [if_neg (by omega), Int.mul_zero, Nat.zero_mul]; rfl
  | k + 1, n + 1 => by
    rw [fall_rec, fall_choose k n]
    have h := choose_succ n k
    show ((n + 1 : Nat) : Int) * ((choose n k * fact k : Nat) : Int) = ((choose (n + 1) (k + 1) * ((k + 1) * fact k) : Nat) : Int)
    rw [← Int.natCast_mul, ← Nat.mul_assoc, ← Nat.mul_assoc, h]
theorem choose_self : ∀ n, choose n n = 1 ∧ ∀ k, n < k → choose n k = 0
  | 0 => ⟨rfl, fun k h => by cases k with | zero => omega | succ k => rfl⟩
  | n + 1 => by
    have ih := choose_self n
    refine ⟨?_, fun k h => ?_⟩
    · show choose n n + choose n (n + 1) = 1
      rw [ih.1, ih.2 (n + 1) (by omega)]
    · cases k with
      | zero => omega
      | succ k => show choose n k + choose n (k + 1) = 0; rw [ih.2 k (by omega), ih.2 (k + 1) (by omega)]
theorem binom_nat (n k : Nat) : binom (n : Int) (k : Int) = (choose n k : Int) := by
  unfold binom fall
  rw [if_neg (by omega), if_neg (by omega), if_neg (by omega), Int.toNat_natCast, fall_choose, fall_choose, (choose_self k).1, Nat.one_mul, Int.natCast_mul]
  exact Int.mul_ediv_cancel _ (by have := fact_pos k; omega)
/-- sums of neighbours -/
theorem pascal (s c : Int) (h : 0 < s) : binom s c = binom (s - 1) (c - 1) + binom (s - 1) c := by
  obtain ⟨n, rfl⟩ : ∃ n : Nat, s = ((n + 1 : Nat) : Int) := ⟨(s - 1).toNat, by omega⟩
  rw [show ((n + 1 : Nat) : Int) - 1 = (n : Int) by omega]
  by_cases hc : c < 0
  · unfold binom
    rw [if_pos hc, if_pos (by omega), if_pos hc]; rfl
  · by_cases h0 : c = 0
    · subst h0
      have e1 := binom_nat (n + 1) 0
      have e2 := binom_nat n 0
      have e3 : binom (n : Int) (0 - 1) = 0 := by unfold binom; rw [if_pos (by omega)]
      rw [e3]
      rw [choose_zero] at e1 e2
      show binom ((n + 1 : Nat) : Int) ((0 : Nat) : Int) = 0 + binom (n : Int) ((0 : Nat) : Int)
      rw [e1, e2]; rfl
    · obtain ⟨k, rfl⟩ : ∃ k : Nat, c = ((k + 1 : Nat) : Int) := ⟨(c - 1).toNat, by omega⟩
      rw [show ((k + 1 : Nat) : Int) - 1 = (k : Int) by omega, binom_nat, binom_nat, binom_nat]
      show ((choose n k + choose n (k + 1) : Nat) : Int) = _
      omega
end Ff

namespace Ff
theorem nodup_le : ∀ (m : Nat) (l : List Nat), l.Nodup → (∀ x ∈ l, x < m) → l.length ≤ m
  | 0, l, _, h => by
    cases l with
    | nil => exact Nat.le_refl _
    | cons a r => exact absurd (h a List.mem_cons_self) (by omega)
  | m + 1, l, hn, h => by
    have ih := nodup_le m (l.erase m) (hn.erase m) fun x hx => by
      have z := (hn.mem_erase_iff (a := x) (b := m)).mp hx
      have := h x z.2
      omega
    have e := List.length_erase (a := m) (l := l)
    split at e <;> omega
/-- the root c hung on a -/
def lnk (p : Nat → Nat) (c a : Nat) : Nat → Nat := fun v => if v = c then a else p v
section
variable {n : Nat} {p r : Nat → Nat}
def lnkR (n : Nat) (p : Nat → Nat) (c : Nat) : Nat → Nat := fun x => (ups p n x).length + if root p n x = c then 1 else 0
theorem lnk_fo (F : Fo n p r) {c a : Nat} (hc : c < n) (ha : a < n) (pc : p c = c) (pa : p a = a) (ne : c ≠ a) : Fo n (lnk p c a) (lnkR n p c) where
  lt := fun x hx => by
    unfold lnk
    split
    · exact ha
    · exact F.lt x hx
  up := fun x hx => by
    unfold lnk
    by_cases e : x = c
    · rw [if_pos e]
      right
      unfold lnkR
      rw [e, ups_of pa, ups_of pc, root_of pa, root_of pc, if_neg (Ne.symm ne), if_pos rfl]
      decide
    · rw [if_neg e]
      by_cases h : p x = x
      · exact .inl h
      · right
        unfold lnkR
        rw [ups_n F hx h, root_n F hx h, List.length_cons]
        omega
  rb := fun x hx => by
    unfold lnkR
    have h1 := ups_lt F x hx
    have h2 := ups_nodup F x hx
    by_cases e : root p n x = c
    · rw [if_pos e]
      have h := nodup_le n (ups p n x ++ [c, a]) (by
        refine List.nodup_append.mpr ⟨h2, by simp [ne], fun y hy z hz e2 => ?_⟩
        have := (h1 y hy).2.1
        rw [e2] at this
        rcases List.mem_cons.mp hz with z1 | z1
        · rw [z1] at this; exact this pc
        · rw [List.mem_singleton.mp z1] at this; exact this pa) fun y hy => by
        rcases List.mem_append.mp hy with z | z
        · exact (h1 y z).1
        · rcases List.mem_cons.mp z with z1 | z1
          · rw [z1]; exact hc
          · rw [List.mem_singleton.mp z1]; exact ha
      rw [List.length_append] at h
      simp at h
      omega
    · rw [if_neg e]
      have := ups_len F x hx
      have := F.rb x hx
      omega
theorem lnk_root (F : Fo n p r) {c a : Nat} (hc : c < n) (ha : a < n) (pc : p c = c) (pa : p a = a) (ne : c ≠ a) : ∀ x, x < n → root (lnk p c a) n x = if root p n x = c then a else root p n x := by
  have F2 := lnk_fo F hc ha pc pa ne
  have qa : lnk p c a a = a := by unfold lnk; rw [if_neg (Ne.symm ne)]; exact pa
  refine F.ind (fun x hx h => ?_) (fun x hx h ih => ?_)
  · rw [root_of h]
    by_cases e : x = c
    · have qx : lnk p c a x = a := by unfold lnk; rw [if_pos e]
      rw [if_pos e, root_n F2 hx (by rw [qx, e]; exact Ne.symm ne), qx, root_of qa]
    · rw [if_neg e]
      exact root_of (by unfold lnk; rw [if_neg e]; exact h) n
  · have e : x ≠ c := fun z => h (by rw [z]; exact pc)
    have qx : lnk p c a x = p x := by unfold lnk; rw [if_neg e]
    rw [root_n F2 hx (by rw [qx]; exact h), qx, ih, root_n F hx h]
end
/-- which error a root asks for -/
def chkE (n : Nat) (p : Nat → Nat) (x : Int) : Option Bool := if 0 ≤ x ∧ x < (n : Int) then (if p x.toNat = x.toNat then none else some true) else some false
end Ff

namespace Ff
/-- the roots in their order, the first k of them linked -/
structure Chain (n : Nat) (p r : Nat → Nat) (os : List Nat) (k : Nat) : Prop where
  fo : Fo n p r
  fix : ∀ y ∈ os.drop k, y < n ∧ p y = y
  all : ∀ x, x < n → root p n x ∈ os.drop k
theorem Chain.step {n : Nat} {p r : Nat → Nat} {os : List Nat} {k : Nat} (C : Chain n p r os k) (nd : os.Nodup) (h : k + 1 < os.length) : ∃ r', Chain n (lnk p os[k] os[k + 1]) r' os (k + 1) ∧ os[k] < n ∧ os[k + 1] < n ∧ p os[k] = os[k] ∧ p os[k + 1] = os[k + 1] ∧ os[k] ≠ os[k + 1] := by
  have d1 : os.drop k = os[k] :: os.drop (k + 1) := List.drop_eq_getElem_cons (by omega)
  have d2 : os.drop (k + 1) = os[k + 1] :: os.drop (k + 2) := List.drop_eq_getElem_cons h
  have nk : (os.drop k).Nodup := nd.sublist (List.drop_sublist _ _)
  rw [d1] at nk
  have nmem : os[k] ∉ os.drop (k + 1) := (List.nodup_cons.mp nk).1
  have ma : os[k + 1] ∈ os.drop (k + 1) := by rw [d2]; exact List.mem_cons_self
  have hc := C.fix os[k] (by rw [d1]; exact List.mem_cons_self)
  have ha := C.fix os[k + 1] (by rw [d1]; exact List.mem_cons_of_mem _ ma)
  have ne : os[k] ≠ os[k + 1] := fun e => nmem (by rw [e]; exact ma)
  refine ⟨_, ⟨lnk_fo C.fo hc.1 ha.1 hc.2 ha.2 ne, fun y hy => ?_, fun x hx => ?_⟩, hc.1, ha.1, hc.2, ha.2, ne⟩
  · have := C.fix y (by rw [d1]; exact List.mem_cons_of_mem _ hy)
    refine ⟨this.1, ?_⟩
    unfold lnk
    rw [if_neg (fun e => nmem (by rw [← e]; exact hy))]
    exact this.2
  · rw [lnk_root C.fo hc.1 ha.1 hc.2 ha.2 ne x hx]
    have := C.all x hx
    rw [d1] at this
    by_cases e : root p n x = os[k]
    · rw [if_pos e]; exact ma
    · rw [if_neg e]; exact (List.mem_cons.mp this).resolve_left e
theorem Chain.start {n : Nat} {p r : Nat → Nat} (F : Fo n p r) {os : List Nat} (h : os.Perm ((List.range n).filter fun v => decide (p v = v))) : Chain n p r os 0 where
  fo := F
  fix := fun y hy => by
    have := h.mem_iff.mp hy
    have z := List.mem_filter.mp this
    exact ⟨List.mem_range.mp z.1, of_decide_eq_true z.2⟩
  all := fun x hx => h.mem_iff.mpr (List.mem_filter.mpr ⟨List.mem_range.mpr (root_lt F x hx), decide_eq_true (root_fix F x hx)⟩)
theorem Chain.done {n : Nat} {p r : Nat → Nat} {os : List Nat} {k : Nat} (C : Chain n p r os k) (h : k + 1 = os.length) (x : Nat) (hx : x < n) : root p n x = os[k] := by
  have := C.all x hx
  rw [List.drop_eq_getElem_cons (by omega), List.drop_eq_nil_of_le (by omega)] at this
  exact List.mem_singleton.mp this
end Ff

namespace Ff
/-- the first of a filter -/
theorem filt_first {n i : Nat} {g : Nat → Bool} (hi : i < n) (h0 : ∀ v, v < i → g v = false) (h1 : g i = true) : ∃ rest, (List.range n).filter g = i :: rest := by
  obtain ⟨k, rfl⟩ : ∃ k, n = i + 1 + k := ⟨n - (i + 1), by omega⟩
  have e : (List.range (i + 1 + k)).filter g = (List.range (i + 1)).filter g ++ ((List.range k).map (i + 1 + ·)).filter g := by
    rw [List.range_add, List.filter_append]
  have e2 : (List.range (i + 1)).filter g = [i] := by
    rw [List.range_succ, List.filter_append]
    have : (List.range i).filter g = [] := List.filter_eq_nil_iff.mpr fun v hv => by rw [h0 v (List.mem_range.mp hv)]; simp
    rw [this]
    simp [List.filter, h1]
  rw [e, e2]
  exact ⟨_, rfl⟩
theorem filt_none {n : Nat} {g : Nat → Bool} (h : ∀ v, v < n → g v = false) : (List.range n).filter g = [] := List.filter_eq_nil_iff.mpr fun v hv => by rw [h v (List.mem_range.mp hv)]; simp
section
variable {n : Nat} {p : Nat → Nat}
def fixB (p : Nat → Nat) (y : Nat) : Bool := decide (p y = y)
theorem root_stay {k x : Nat} (h : p (root p k x) = root p k x) : ∀ j, root p (k + j) x = root p k x
  | 0 => rfl
  | j + 1 => by rw [Nat.add_succ, root_succ, root_stay h j]; exact h
theorem root_add (x : Nat) (i : Nat) : ∀ j, root p (i + j) x = root p j (root p i x)
  | 0 => rfl
  | j + 1 => by rw [Nat.add_succ, root_succ, root_succ, root_add x i j]
/-- what is fixed after n steps is fixed before -/
theorem fix_before (hl : ∀ v, v < n → p v < n) {x : Nat} (hx : x < n) (h : p (root p n x) = root p n x) : ∃ j, j < n ∧ p (root p j x) = root p j x := by
  -- two of n + 1 places are one node
  have pig : ∃ i j, i < j ∧ j ≤ n ∧ root p i x = root p j x := by
    refine Classical.byContradiction fun no => ?_
    have nd : ((List.range (n + 1)).map fun k => root p k x).Nodup := by
      unfold List.Nodup
      rw [List.pairwise_map]
      refine List.Pairwise.imp_of_mem (fun {a b} ha hb lt e => no ⟨a, b, lt, by have := List.mem_range.mp hb; omega, e⟩) (List.pairwise_lt_range)
    have := nodup_le n _ nd fun y hy => by
      obtain ⟨k, _, rfl⟩ := List.mem_map.mp hy
      exact root_lt0 hl k x hx
    rw [List.length_map, List.length_range] at this
    omega
  obtain ⟨i, j, hij, hj, e⟩ := pig
  refine ⟨i, by omega, ?_⟩
  have per : ∀ t, root p (i + t * (j - i)) x = root p i x := fun t => by
    induction t with
    | zero => simp
    | succ t ih =>
      have e1 : i + (t + 1) * (j - i) = (i + t * (j - i)) + (j - i) := by rw [Nat.succ_mul]; omega
      rw [e1, root_add, ih, ← root_add, show i + (j - i) = j by omega, e]
  have big : n ≤ i + n * (j - i) := by
    have : n * 1 ≤ n * (j - i) := Nat.mul_le_mul_left n (by omega)
    omega
  obtain ⟨m, hm⟩ : ∃ m, i + n * (j - i) = n + m := ⟨i + n * (j - i) - n, by omega⟩
  have z := per n
  rw [hm, root_stay h m] at z
  rw [← z]; exact h
end
/-- a row of integers as parents -/
def par (xs : List Int) : Nat → Nat := fun v => (xs.getD v 0).toNat
def wideB (xs : List Int) (v : Nat) : Bool := !(decide (0 ≤ xs.getD v 0) && decide (xs.getD v 0 < (xs.length : Int)))
def wideL (xs : List Int) : List Nat := (List.range xs.length).filter (wideB xs)
def ringB (n : Nat) (p : Nat → Nat) (v : Nat) : Bool := !decide (p (root p n v) = root p n v)
def ringsL (xs : List Int) : List Nat := (List.range xs.length).filter (ringB xs.length (par xs))
/-- 0: none; 1: TooManyNodes; 2: BadParent; 3: Cycle -/
inductive Ver
  | ok
  | many
  | bad (v : Nat)
  | cyc (v : Nat)
def verdict (xs : List Int) : Ver := if 40 < xs.length then .many else match wideL xs with
  | v :: _ => .bad v
  | [] => match ringsL xs with
    | v :: _ => .cyc v
    | [] => .ok
theorem wide_iff {xs : List Int} {v : Nat} : wideB xs v = false ↔ 0 ≤ xs.getD v 0 ∧ xs.getD v 0 < (xs.length : Int) := by
  unfold wideB
  rw [Bool.not_eq_false', Bool.and_eq_true, decide_eq_true_iff, decide_eq_true_iff]
theorem par_lt {xs : List Int} (h : ∀ v, v < xs.length → wideB xs v = false) : ∀ v, v < xs.length → par xs v < xs.length := fun v hv => by
  have := wide_iff.mp (h v hv)
  unfold par
  omega
end Ff

namespace Ff
theorem ups_fix (p : Nat → Nat) : ∀ (j k x : Nat), j ≤ k → p (root p j x) = root p j x → ups p k x = ups p j x ∧ (ups p j x).length ≤ j
  | 0, k, x, _, h => by
    have h' : p x = x := h
    refine ⟨?_, Nat.le_refl _⟩
    cases k with
    | zero => rfl
    | succ k =>
      show (if p x = x then [] else x :: ups p k (p x)) = []
      rw [if_pos h']
  | j + 1, 0, x, hk, _ => by omega
  | j + 1, k + 1, x, hk, h => by
    by_cases e : p x = x
    · have a : ups p (k + 1) x = [] := by
        show (if p x = x then [] else x :: ups p k (p x)) = []
        rw [if_pos e]
      have b : ups p (j + 1) x = [] := by
        show (if p x = x then [] else x :: ups p j (p x)) = []
        rw [if_pos e]
      rw [a, b]
      exact ⟨rfl, Nat.zero_le _⟩
    · have a : ups p (k + 1) x = x :: ups p k (p x) := by
        show (if p x = x then [] else x :: ups p k (p x)) = _
        rw [if_neg e]
      have b : ups p (j + 1) x = x :: ups p j (p x) := by
        show (if p x = x then [] else x :: ups p j (p x)) = _
        rw [if_neg e]
      have c : root p (j + 1) x = root p j (p x) := by
        show (if p x = x then x else root p j (p x)) = _
        rw [if_neg e]
      rw [c] at h
      obtain ⟨i1, i2⟩ := ups_fix p j k (p x) (by omega) h
      rw [a, b, i1]
      exact ⟨rfl, by rw [List.length_cons]; omega⟩
/-- a row without a ring is a forest -/
theorem fo_of {n : Nat} {p : Nat → Nat} (hl : ∀ v, v < n → p v < n) (hr : ∀ v, v < n → p (root p n v) = root p n v) : Fo n p (fun v => (ups p n v).length) := by
  refine ⟨hl, fun x hx => ?_, fun x hx => ?_⟩
  · by_cases e : p x = x
    · exact .inl e
    · refine .inr ?_
      obtain ⟨j, hj, h⟩ := fix_before hl hx (hr x hx)
      cases j with
      | zero => exact absurd h e
      | succ j =>
        have c : root p (j + 1) x = root p j (p x) := by
          show (if p x = x then x else root p j (p x)) = _
          rw [if_neg e]
        rw [c] at h
        obtain ⟨m, rfl⟩ : ∃ m, n = m + 1 := ⟨n - 1, by omega⟩
        have a : ups p (m + 1) x = x :: ups p m (p x) := by
          show (if p x = x then [] else x :: ups p m (p x)) = _
          rw [if_neg e]
        have b1 := (ups_fix p j m (p x) (by omega) h).1
        have b2 := (ups_fix p j (m + 1) (p x) (by omega) h).1
        show (ups p (m + 1) (p x)).length < (ups p (m + 1) x).length
        rw [a, b2, b1, List.length_cons]
        omega
  · obtain ⟨j, hj, h⟩ := fix_before hl hx (hr x hx)
    obtain ⟨b1, b2⟩ := ups_fix p j n x (by omega) h
    show (ups p n x).length < n
    rw [b1]
    omega
theorem ver_ok {xs : List Int} : verdict xs = .ok ↔ xs.length ≤ 40 ∧ (∀ v, v < xs.length → wideB xs v = false) ∧ ∀ v, v < xs.length → ringB xs.length (par xs) v = false := by
  unfold verdict
  by_cases h : 40 < xs.length
  · rw [if_pos h]
    constructor
    · intro z; cases z
    · intro z; omega
  · rw [if_neg h]
    constructor
    · intro z
      refine ⟨by omega, ?_, ?_⟩
      · cases e : wideL xs with
        | cons v r => rw [e] at z; cases z
        | nil =>
          intro v hv
          have := List.filter_eq_nil_iff.mp e v (List.mem_range.mpr hv)
          simpa using this
      · cases e : wideL xs with
        | cons v r => rw [e] at z; cases z
        | nil =>
          rw [e] at z
          cases e2 : ringsL xs with
          | cons v r => rw [e2] at z; cases z
          | nil =>
            intro v hv
            have := List.filter_eq_nil_iff.mp e2 v (List.mem_range.mpr hv)
            simpa using this
    · rintro ⟨_, h1, h2⟩
      have e1 : wideL xs = [] := filt_none h1
      have e2 : ringsL xs = [] := filt_none h2
      rw [e1, e2]
end Ff

/-! Histories: finds, links and rounds. -/
namespace Ff
inductive Stp : Type
  | fnd (z : Int)
  | lnk (c a : Int)
  | rnd (k : Int) (kd : Bool) (ss : List Stp)
mutual
def nest : Stp → Nat
  | .fnd _ => 0
  | .lnk _ _ => 0
  | .rnd _ _ ss => nests ss + 1
def nests : List Stp → Nat
  | [] => 0
  | s :: r => max (nest s) (nests r)
end
mutual
/-- the number of finds -/
def nFnd : Stp → Int
  | .fnd _ => 1
  | .lnk _ _ => 0
  | .rnd k _ ss => k * nFnds ss
def nFnds : List Stp → Int
  | [] => 0
  | s :: r => nFnd s + nFnds r
end
mutual
/-- the number of written steps -/
def nWr : Stp → Nat
  | .fnd _ => 1
  | .lnk _ _ => 1
  | .rnd _ _ ss => 1 + nWrs ss
def nWrs : List Stp → Nat
  | [] => 0
  | s :: r => nWr s + nWrs r
end
def lim30 : Int := 10 ^ 30
mutual
/-- a step of a history; links where they are allowed -/
def Wf (top : Bool) : Stp → Prop
  | .fnd _ => True
  | .lnk _ _ => top = true
  | .rnd k _ ss => 0 ≤ k ∧ k ≤ lim30 ∧ Wfs false ss
def Wfs (top : Bool) : List Stp → Prop
  | [] => True
  | s :: r => Wf top s ∧ Wfs top r
end
theorem nests_mem : ∀ {l : List Stp} {s : Stp}, s ∈ l → nest s ≤ nests l
  | x :: l, s, h => by
    rw [nests]
    rcases List.mem_cons.mp h with e | h
    · rw [e]; omega
    · have := nests_mem h; omega
theorem wfs_mem {top : Bool} : ∀ {l : List Stp} {s : Stp}, Wfs top l → s ∈ l → Wf top s
  | x :: l, s, w, h => by
    rw [Wfs] at w
    rcases List.mem_cons.mp h with e | h
    · rw [e]; exact w.1
    · exact wfs_mem w.2 h
theorem wfs_of {top : Bool} : ∀ {l : List Stp}, (∀ s ∈ l, Wf top s) → Wfs top l
  | [], _ => by rw [Wfs]; trivial
  | x :: l, h => by
    rw [Wfs]
    exact ⟨h x List.mem_cons_self, wfs_of fun s hs => h s (List.mem_cons_of_mem _ hs)⟩
theorem nests_le {m : Nat} : ∀ {l : List Stp}, (∀ s ∈ l, nest s ≤ m) → nests l ≤ m
  | [], _ => by rw [nests]; omega
  | x :: l, h => by
    rw [nests]
    have h1 := h x List.mem_cons_self
    have h2 := nests_le fun s hs => h s (List.mem_cons_of_mem _ hs)
    omega
theorem nFnds_app : ∀ l m : List Stp, nFnds (l ++ m) = nFnds l + nFnds m
  | [], m => by rw [List.nil_append, nFnds]; omega
  | x :: l, m => by rw [List.cons_append, nFnds, nFnds, nFnds_app l m]; omega
theorem nWrs_app : ∀ l m : List Stp, nWrs (l ++ m) = nWrs l + nWrs m
  | [], m => by rw [List.nil_append, nWrs]; omega
  | x :: l, m => by rw [List.cons_append, nWrs, nWrs, nWrs_app l m]; omega
theorem take_snoc {α : Type} {l : List α} {i : Nat} {x : α} (h : l[i]? = some x) : l.take (i + 1) = l.take i ++ [x] := by
  rw [List.take_succ, h]; rfl
theorem nFnds_take {l : List Stp} {i : Nat} {s : Stp} (h : l[i]? = some s) : nFnds (l.take (i + 1)) = nFnds (l.take i) + nFnd s := by
  rw [take_snoc h, nFnds_app, nFnds, nFnds]; omega
theorem nWrs_take {l : List Stp} {i : Nat} {s : Stp} (h : l[i]? = some s) : nWrs (l.take (i + 1)) = nWrs (l.take i) + nWr s := by
  rw [take_snoc h, nWrs_app, nWrs, nWrs]; omega
mutual
theorem nFnd_nonneg {top : Bool} : ∀ s : Stp, Wf top s → 0 ≤ nFnd s
  | .fnd _, _ => by rw [nFnd]; decide
  | .lnk _ _, _ => by rw [nFnd]; decide
  | .rnd k _ ss, w => by
    rw [Wf] at w
    rw [nFnd]
    exact Int.mul_nonneg w.1 (nFnds_nonneg ss w.2.2)
theorem nFnds_nonneg {top : Bool} : ∀ l : List Stp, Wfs top l → 0 ≤ nFnds l
  | [], _ => by rw [nFnds]; decide
  | s :: r, w => by
    rw [Wfs] at w
    rw [nFnds]
    have h1 := nFnd_nonneg s w.1
    have h2 := nFnds_nonneg r w.2
    omega
end
/-- bounds of the number of finds, by the number of written steps and the nesting -/
theorem lim_pos : 1 ≤ lim30 := by decide
theorem pow_mono {a b : Nat} (h : a ≤ b) : lim30 ^ a ≤ lim30 ^ b := by
  obtain ⟨c, rfl⟩ : ∃ c, b = a + c := ⟨b - a, by omega⟩
  induction c with
  | zero => exact Int.le_refl _
  | succ c ih =>
    have := ih (by omega)
    rw [← Nat.add_assoc, Int.pow_succ]
    have h0 : (0 : Int) ≤ lim30 ^ (a + c) := Int.pow_nonneg (by have := lim_pos; omega)
    have : lim30 ^ (a + c) * 1 ≤ lim30 ^ (a + c) * lim30 := Int.mul_le_mul_of_nonneg_left lim_pos h0
    omega
mutual
theorem nFnd_le {top : Bool} : ∀ s : Stp, Wf top s → nFnd s ≤ (nWr s : Int) * lim30 ^ nest s
  | .fnd _, _ => by rw [nFnd, nWr, nest]; decide
  | .lnk _ _, _ => by rw [nFnd, nWr, nest]; decide
  | .rnd k _ ss, w => by
    rw [Wf] at w
    rw [nFnd, nWr, nest]
    have h1 := nFnds_le ss w.2.2
    have h0 := nFnds_nonneg ss w.2.2
    have hp : (0 : Int) ≤ lim30 ^ nests ss := Int.pow_nonneg (by have := lim_pos; omega)
    have h2 : k * nFnds ss ≤ lim30 * ((nWrs ss : Int) * lim30 ^ nests ss) := Int.mul_le_mul w.2.1 h1 h0 (by have := lim_pos; omega)
    have h3 : lim30 * ((nWrs ss : Int) * lim30 ^ nests ss) = (nWrs ss : Int) * lim30 ^ (nests ss + 1) := by
      rw [Int.pow_succ, ← Int.mul_assoc, ← Int.mul_assoc, Int.mul_comm lim30, Int.mul_assoc, Int.mul_assoc, Int.mul_comm lim30]
    have h4 : (nWrs ss : Int) * lim30 ^ (nests ss + 1) ≤ ((1 + nWrs ss : Nat) : Int) * lim30 ^ (nests ss + 1) := Int.mul_le_mul_of_nonneg_right (by omega) (Int.pow_nonneg (by have := lim_pos; omega))
    omega
theorem nFnds_le {top : Bool} : ∀ l : List Stp, Wfs top l → nFnds l ≤ (nWrs l : Int) * lim30 ^ nests l
  | [], _ => by rw [nFnds, nWrs, nests]; decide
  | s :: r, w => by
    rw [Wfs] at w
    rw [nFnds, nWrs, nests]
    have h1 := nFnd_le s w.1
    have h2 := nFnds_le r w.2
    have m1 : lim30 ^ nest s ≤ lim30 ^ (max (nest s) (nests r)) := pow_mono (by omega)
    have m2 : lim30 ^ nests r ≤ lim30 ^ (max (nest s) (nests r)) := pow_mono (by omega)
    have g1 : (nWr s : Int) * lim30 ^ nest s ≤ (nWr s : Int) * lim30 ^ (max (nest s) (nests r)) := Int.mul_le_mul_of_nonneg_left m1 (by omega)
    have g2 : (nWrs r : Int) * lim30 ^ nests r ≤ (nWrs r : Int) * lim30 ^ (max (nest s) (nests r)) := Int.mul_le_mul_of_nonneg_left m2 (by omega)
    have g3 : ((nWr s + nWrs r : Nat) : Int) * lim30 ^ (max (nest s) (nests r)) = (nWr s : Int) * lim30 ^ (max (nest s) (nests r)) + (nWrs r : Int) * lim30 ^ (max (nest s) (nests r)) := by
      rw [Int.natCast_add, Int.add_mul]
    omega
end
end Ff

/-! What a history does. -/
namespace Ff
inductive Er : Type
  | no (z : Int)
  | nr (z : Int)
  | sr (z : Int)
inductive Rs (α : Type) : Type
  | ok (a : α)
  | er (e : Er)
def linkR (n : Nat) (p : Nat → Nat) (c a : Int) : Rs (Nat → Nat) :=
  match chkE n p c with
  | some false => .er (.no c)
  | some true => .er (.nr c)
  | none => match chkE n p a with
    | some false => .er (.no a)
    | some true => .er (.nr a)
    | none => if c = a then .er (.sr c) else .ok (lnk p c.toNat a.toNat)
mutual
/-- the number of finds of nodes that are no roots -/
def low1 (p : Nat → Nat) : Stp → Int
  | .fnd z => if p z.toNat = z.toNat then 0 else 1
  | .lnk _ _ => 0
  | .rnd k _ ss => if 0 < k then k * lows p ss else 0
def lows (p : Nat → Nat) : List Stp → Int
  | [] => 0
  | s :: r => low1 p s + lows p r
end
/-- one after another -/
def Rs.seq {X : Type} (a : Rs (X × Int)) (f : X → Rs (X × Int)) : Rs (X × Int) := match a with
  | .er e => .er e
  | .ok (q, c) => match f q with
    | .er e => .er e
    | .ok (q2, c2) => .ok (q2, c + c2)
theorem seq_er {X : Type} {e : Er} {f : X → Rs (X × Int)} : (Rs.er e : Rs (X × Int)).seq f = .er e := rfl
theorem seq_one {X : Type} (a : Rs (X × Int)) : a.seq (fun q => .ok (q, 0)) = a := by
  cases a with
  | er e => rfl
  | ok a =>
    obtain ⟨q, c⟩ := a
    show Rs.ok (q, c + 0) = Rs.ok (q, c)
    rw [Int.add_zero]
theorem one_seq {X : Type} (p : X) (f : X → Rs (X × Int)) : (Rs.ok (p, 0)).seq f = f p := by
  unfold Rs.seq
  cases h : f p with
  | er e => simp [h]
  | ok a =>
    obtain ⟨q, c⟩ := a
    simp [h]
theorem seq_assoc {X : Type} (a : Rs (X × Int)) (f g : X → Rs (X × Int)) : (a.seq f).seq g = a.seq fun q => (f q).seq g := by
  cases a with
  | er e => rfl
  | ok a =>
    obtain ⟨q, c⟩ := a
    unfold Rs.seq
    cases h : f q with
    | er e => simp [h]
    | ok b =>
      obtain ⟨q2, c2⟩ := b
      cases h2 : g q2 with
      | er e => simp [h, h2]
      | ok d =>
        obtain ⟨q3, c3⟩ := d
        simp [h, h2, Int.add_assoc]
mutual
/-- a step at work: the forest and the cost, or an error -/
def stepR (n : Nat) : Stp → (Nat → Nat) → Rs ((Nat → Nat) × Int)
  | .fnd z, p => if 0 ≤ z ∧ z < (n : Int) then .ok (fnd n p z.toNat, ((ups p n z.toNat).length : Int)) else .er (.no z)
  | .lnk c a, p => match linkR n p c a with
    | .ok q => .ok (q, 0)
    | .er e => .er e
  | .rnd k _ ss, p => if k = 0 then .ok (p, 0) else match stepsR n ss p with
    | .ok (q, c) => .ok (q, c + (k - 1) * lows q ss)
    | .er e => .er e
def stepsR (n : Nat) : List Stp → (Nat → Nat) → Rs ((Nat → Nat) × Int)
  | [], p => .ok (p, 0)
  | s :: r, p => (stepR n s p).seq fun q => stepsR n r q
end
theorem stepsR_nil (n : Nat) (p : Nat → Nat) : stepsR n [] p = .ok (p, 0) := by rw [stepsR]
theorem stepsR_cons (n : Nat) (s : Stp) (r : List Stp) (p : Nat → Nat) : stepsR n (s :: r) p = (stepR n s p).seq (stepsR n r) := by rw [stepsR]
theorem stepsR_app (n : Nat) : ∀ (l m : List Stp) (p : Nat → Nat), stepsR n (l ++ m) p = (stepsR n l p).seq (stepsR n m)
  | [], m, p => by rw [List.nil_append, stepsR_nil, one_seq]
  | s :: l, m, p => by
    rw [List.cons_append, stepsR_cons, stepsR_cons, seq_assoc]
    congr 1
    funext q
    exact stepsR_app n l m q
theorem stepsR_snoc {n : Nat} {ss : List Stp} {p q : Nat → Nat} {c : Int} {i : Nat} {s : Stp} (hs : ss[i]? = some s) (h : stepsR n (ss.take i) p = .ok (q, c)) : stepsR n (ss.take (i + 1)) p = (Rs.ok (q, c)).seq (stepR n s) := by
  rw [take_snoc hs, stepsR_app, h]
  congr 1
  funext q'
  rw [stepsR_cons, show stepsR n [] = fun q => .ok (q, 0) from funext fun q => stepsR_nil n q, seq_one]
theorem stepsR_err {n : Nat} {ss : List Stp} {p : Nat → Nat} {i : Nat} {e : Er} (h : stepsR n (ss.take i) p = .er e) : stepsR n ss p = .er e := by
  have := stepsR_app n (ss.take i) (ss.drop i) p
  rw [List.take_append_drop, h] at this
  exact this
theorem lows_app (p : Nat → Nat) : ∀ l m : List Stp, lows p (l ++ m) = lows p l + lows p m
  | [], m => by rw [List.nil_append, lows]; omega
  | x :: l, m => by rw [List.cons_append, lows, lows, lows_app p l m]; omega
theorem lows_take {p : Nat → Nat} {l : List Stp} {i : Nat} {s : Stp} (h : l[i]? = some s) : lows p (l.take (i + 1)) = lows p (l.take i) + low1 p s := by
  rw [take_snoc h, lows_app, lows, lows]; omega
mutual
theorem low1_le {top : Bool} (p : Nat → Nat) : ∀ s : Stp, Wf top s → 0 ≤ low1 p s ∧ low1 p s ≤ nFnd s
  | .fnd z, _ => by rw [low1, nFnd]; split <;> omega
  | .lnk _ _, _ => by rw [low1, nFnd]; omega
  | .rnd k _ ss, w => by
    rw [Wf] at w
    rw [low1, nFnd]
    obtain ⟨h1, h2⟩ := lows_le p ss w.2.2
    split
    · exact ⟨Int.mul_nonneg w.1 h1, Int.mul_le_mul_of_nonneg_left h2 w.1⟩
    · exact ⟨Int.le_refl _, Int.mul_nonneg w.1 (nFnds_nonneg ss w.2.2)⟩
theorem lows_le {top : Bool} (p : Nat → Nat) : ∀ l : List Stp, Wfs top l → 0 ≤ lows p l ∧ lows p l ≤ nFnds l
  | [], _ => by rw [lows, nFnds]; omega
  | s :: r, w => by
    rw [Wfs] at w
    rw [lows, nFnds]
    have h1 := low1_le p s w.1
    have h2 := lows_le p r w.2
    omega
end
theorem linkR_fo {n : Nat} {p r : Nat → Nat} (F : Fo n p r) {c a : Int} {q : Nat → Nat} (h : linkR n p c a = .ok q) : ∃ r', Fo n q r' := by
  unfold linkR at h
  cases h1 : chkE n p c with
  | some b => rw [h1] at h; cases b <;> cases h
  | none =>
    rw [h1] at h
    cases h2 : chkE n p a with
    | some b => rw [h2] at h; cases b <;> cases h
    | none =>
      rw [h2] at h
      have h : (if c = a then Rs.er (.sr c) else .ok (lnk p c.toNat a.toNat)) = Rs.ok q := h
      by_cases e : c = a
      · rw [if_pos e] at h; cases h
      · rw [if_neg e] at h
        injection h with h
        unfold chkE at h1 h2
        by_cases hc : 0 ≤ c ∧ c < (n : Int)
        · by_cases ha : 0 ≤ a ∧ a < (n : Int)
          · rw [if_pos hc] at h1
            rw [if_pos ha] at h2
            by_cases pc : p c.toNat = c.toNat
            · by_cases pa : p a.toNat = a.toNat
              · rw [← h]
                exact ⟨_, lnk_fo F (by omega) (by omega) pc pa (by omega)⟩
              · rw [if_neg pa] at h2; cases h2
            · rw [if_neg pc] at h1; cases h1
          · rw [if_neg ha] at h2; cases h2
        · rw [if_neg hc] at h1; cases h1
mutual
theorem stepR_fo {n : Nat} : ∀ (s : Stp) {p r : Nat → Nat}, Fo n p r → ∀ {q : Nat → Nat} {c : Int}, stepR n s p = .ok (q, c) → ∃ r', Fo n q r'
  | .fnd z, p, r, F, q, c, h => by
    rw [stepR] at h
    by_cases hz : 0 ≤ z ∧ z < (n : Int)
    · rw [if_pos hz] at h
      injection h with h
      injection h with h _
      rw [← h]
      exact ⟨r, fnd_fo F (by omega)⟩
    · rw [if_neg hz] at h; cases h
  | .lnk x a, p, r, F, q, c, h => by
    rw [stepR] at h
    cases e : linkR n p x a with
    | er _ => rw [e] at h; cases h
    | ok q' =>
      rw [e] at h
      injection h with h
      injection h with h _
      rw [← h]
      exact linkR_fo F e
  | .rnd k _ ss, p, r, F, q, c, h => by
    rw [stepR] at h
    by_cases hk : k = 0
    · rw [if_pos hk] at h
      injection h with h
      injection h with h _
      rw [← h]; exact ⟨r, F⟩
    · rw [if_neg hk] at h
      cases e : stepsR n ss p with
      | er _ => rw [e] at h; cases h
      | ok a =>
        obtain ⟨q', c'⟩ := a
        rw [e] at h
        injection h with h
        injection h with h _
        rw [← h]
        exact stepsR_fo ss F e
theorem stepsR_fo {n : Nat} : ∀ (l : List Stp) {p r : Nat → Nat}, Fo n p r → ∀ {q : Nat → Nat} {c : Int}, stepsR n l p = .ok (q, c) → ∃ r', Fo n q r'
  | [], p, r, F, q, c, h => by
    rw [stepsR] at h
    injection h with h
    injection h with h _
    rw [← h]; exact ⟨r, F⟩
  | s :: l, p, r, F, q, c, h => by
    rw [stepsR_cons] at h
    cases e : stepR n s p with
    | er _ => rw [e] at h; cases h
    | ok a =>
      obtain ⟨q1, c1⟩ := a
      rw [e] at h
      obtain ⟨r1, F1⟩ := stepR_fo s F e
      cases e2 : stepsR n l q1 with
      | er _ =>
        unfold Rs.seq at h
        simp [e2] at h
      | ok b =>
        obtain ⟨q2, c2⟩ := b
        unfold Rs.seq at h
        simp [e2] at h
        rw [← h.1]
        exact stepsR_fo l F1 e2
end
end Ff

/-! A round once more: every find costs at most one, the forest stays. -/
namespace Ff
section
variable {n : Nat} {p r : Nat → Nat}
theorem d1_path (F : Fo n p r) {x : Nat} (hx : x < n) (h : p (p x) = p x) : root p n x = p x ∧ (ups p n x).length = (if p x = x then 0 else 1) ∧ ∀ v, v ∈ path p n x → v = x ∨ v = p x := by
  by_cases e : p x = x
  · have hr : root p n x = x := root_of e n
    refine ⟨by rw [hr, e], by rw [ups_of e, if_pos e]; rfl, fun v hv => ?_⟩
    unfold path at hv
    rw [ups_of e, hr] at hv
    exact .inl (by simpa using hv)
  · have hu : ups p n x = [x] := by rw [ups_n F hx e, ups_of h]
    have hr : root p n x = p x := by
      have h1 := (ups_lt F x hx x (by rw [hu]; exact List.mem_singleton.mpr rfl)).2.2.1
      have hn : 1 ≤ n := by omega
      obtain ⟨m, rfl⟩ : ∃ m, n = m + 1 := ⟨n - 1, by omega⟩
      rw [root_step e, root_of h]
    refine ⟨hr, by rw [hu, if_neg e]; rfl, fun v hv => ?_⟩
    unfold path at hv
    rw [hu, hr] at hv
    simpa using hv
theorem fnd_d1 (F : Fo n p r) {x : Nat} (hx : x < n) (h : p (p x) = p x) : fnd n p x = p := by
  obtain ⟨h1, _, h3⟩ := d1_path F hx h
  funext v
  unfold fnd
  by_cases hv : v ∈ path p n x
  · rw [if_pos hv, h1]
    rcases h3 v hv with e | e
    · rw [e]
    · rw [e, h]
  · rw [if_neg hv]
/-- what hangs on a root stays there -/
theorem fnd_keep (F : Fo n p r) {x z : Nat} (hx : x < n) (hz : z < n) (h : p (p z) = p z) : fnd n p x (fnd n p x z) = fnd n p x z := by
  have hroot : ∀ v, v < n → p v = v → fnd n p x v = v := fun v hv e => by
    unfold fnd
    by_cases hm : v ∈ path p n x
    · rw [if_pos hm]
      unfold path at hm
      rw [List.mem_append, List.mem_singleton] at hm
      rcases hm with hm | hm
      · exact absurd e (ups_lt F x hx v hm).2.1
      · exact hm.symm
    · rw [if_neg hm, e]
  by_cases hm : z ∈ path p n x
  · have e : fnd n p x z = root p n x := by unfold fnd; rw [if_pos hm]
    rw [e]
    exact hroot _ (root_lt F x hx) (root_fix F x hx)
  · have e : fnd n p x z = p z := by unfold fnd; rw [if_neg hm]
    rw [e]
    exact hroot _ (F.lt z hz) h
theorem fnd_got (F : Fo n p r) {x : Nat} (hx : x < n) : fnd n p x (fnd n p x x) = fnd n p x x := by
  have hm : x ∈ path p n x := by
    by_cases e : p x = x
    · unfold path; rw [ups_of e, root_of e]; simp
    · unfold path; rw [ups_n F hx e]; simp
  have e : fnd n p x x = root p n x := by unfold fnd; rw [if_pos hm]
  rw [e]
  have hm2 : root p n x ∈ path p n x := by unfold path; simp
  unfold fnd; rw [if_pos hm2]
end
mutual
/-- the nodes that are found are nodes -/
def InX (n : Nat) : Stp → Prop
  | .fnd z => 0 ≤ z ∧ z < (n : Int)
  | .lnk _ _ => True
  | .rnd k _ ss => 0 < k → InXs n ss
def InXs (n : Nat) : List Stp → Prop
  | [] => True
  | s :: r => InX n s ∧ InXs n r
end
theorem inXs_mem {n : Nat} : ∀ {l : List Stp} {s : Stp}, InXs n l → s ∈ l → InX n s
  | x :: l, s, w, h => by
    rw [InXs] at w
    rcases List.mem_cons.mp h with e | h
    · rw [e]; exact w.1
    · exact inXs_mem w.2 h
mutual
theorem ran_in {n : Nat} : ∀ (s : Stp) {p q : Nat → Nat} {c : Int} {top : Bool}, Wf top s → stepR n s p = .ok (q, c) → InX n s
  | .fnd z, p, q, c, top, w, h => by
    rw [stepR] at h
    rw [InX]
    by_cases hz : 0 ≤ z ∧ z < (n : Int)
    · exact hz
    · rw [if_neg hz] at h; cases h
  | .lnk x a, p, q, c, top, w, h => by rw [InX]; trivial
  | .rnd k _ ss, p, q, c, top, w, h => by
    rw [InX]
    rw [stepR] at h
    rw [Wf] at w
    intro hk
    rw [if_neg (by omega)] at h
    cases e : stepsR n ss p with
    | er _ => rw [e] at h; cases h
    | ok a => obtain ⟨q', c'⟩ := a; exact rans_in ss w.2.2 e
theorem rans_in {n : Nat} : ∀ (l : List Stp) {p q : Nat → Nat} {c : Int} {top : Bool}, Wfs top l → stepsR n l p = .ok (q, c) → InXs n l
  | [], p, q, c, top, w, h => by rw [InXs]; trivial
  | s :: l, p, q, c, top, w, h => by
    rw [Wfs] at w
    rw [stepsR_cons] at h
    rw [InXs]
    cases e : stepR n s p with
    | er _ => rw [e] at h; cases h
    | ok a =>
      obtain ⟨q1, c1⟩ := a
      rw [e] at h
      refine ⟨ran_in s w.1 e, ?_⟩
      cases e2 : stepsR n l q1 with
      | er _ =>
        unfold Rs.seq at h
        simp [e2] at h
      | ok b => obtain ⟨q2, c2⟩ := b; exact rans_in l w.2 e2
end
mutual
/-- all that is found hangs on its root -/
def Dn (q : Nat → Nat) : Stp → Prop
  | .fnd z => q (q z.toNat) = q z.toNat
  | .lnk _ _ => True
  | .rnd k _ ss => 0 < k → Dns q ss
def Dns (q : Nat → Nat) : List Stp → Prop
  | [] => True
  | s :: r => Dn q s ∧ Dns q r
end
def Keep (n : Nat) (p q : Nat → Nat) : Prop := ∀ z, z < n → p (p z) = p z → q (q z) = q z
mutual
theorem step_keep {n : Nat} : ∀ (s : Stp) {p r : Nat → Nat}, Fo n p r → Wf false s → ∀ {q : Nat → Nat} {c : Int}, stepR n s p = .ok (q, c) → Keep n p q
  | .fnd z, p, r, F, w, q, c, h => by
    rw [stepR] at h
    by_cases hz : 0 ≤ z ∧ z < (n : Int)
    · rw [if_pos hz] at h
      injection h with h
      injection h with h _
      rw [← h]
      exact fun v hv e => fnd_keep F (by omega) hv e
    · rw [if_neg hz] at h; cases h
  | .lnk x a, p, r, F, w, q, c, h => by rw [Wf] at w; cases w
  | .rnd k _ ss, p, r, F, w, q, c, h => by
    rw [stepR] at h
    rw [Wf] at w
    by_cases hk : k = 0
    · rw [if_pos hk] at h
      injection h with h
      injection h with h _
      rw [← h]; exact fun v hv e => e
    · rw [if_neg hk] at h
      cases e : stepsR n ss p with
      | er _ => rw [e] at h; cases h
      | ok a =>
        obtain ⟨q', c'⟩ := a
        rw [e] at h
        injection h with h
        injection h with h _
        rw [← h]
        exact steps_keep ss F w.2.2 e
theorem steps_keep {n : Nat} : ∀ (l : List Stp) {p r : Nat → Nat}, Fo n p r → Wfs false l → ∀ {q : Nat → Nat} {c : Int}, stepsR n l p = .ok (q, c) → Keep n p q
  | [], p, r, F, w, q, c, h => by
    rw [stepsR] at h
    injection h with h
    injection h with h _
    rw [← h]; exact fun v hv e => e
  | s :: l, p, r, F, w, q, c, h => by
    rw [stepsR_cons] at h
    rw [Wfs] at w
    cases e : stepR n s p with
    | er _ => rw [e] at h; cases h
    | ok a =>
      obtain ⟨q1, c1⟩ := a
      rw [e] at h
      obtain ⟨r1, F1⟩ := stepR_fo s F e
      cases e2 : stepsR n l q1 with
      | er _ => unfold Rs.seq at h; simp [e2] at h
      | ok b =>
        obtain ⟨q2, c2⟩ := b
        unfold Rs.seq at h
        simp [e2] at h
        rw [← h.1]
        exact fun v hv e3 => steps_keep l F1 w.2 e2 v hv (step_keep s F w.1 e v hv e3)
end
mutual
theorem Dn_keep {n : Nat} {p q : Nat → Nat} (k : Keep n p q) : ∀ (s : Stp), InX n s → Dn p s → Dn q s
  | .fnd z, hi, h => by
    rw [Dn] at h ⊢
    rw [InX] at hi
    exact k _ (by omega) h
  | .lnk _ _, _, _ => by rw [Dn]; trivial
  | .rnd kk _ ss, hi, h => by
    rw [Dn] at h ⊢
    rw [InX] at hi
    exact fun hk => Dns_keep k ss (hi hk) (h hk)
theorem Dns_keep {n : Nat} {p q : Nat → Nat} (k : Keep n p q) : ∀ (l : List Stp), InXs n l → Dns p l → Dns q l
  | [], _, _ => by rw [Dns]; trivial
  | s :: l, hi, h => by
    rw [Dns] at h ⊢
    rw [InXs] at hi
    exact ⟨Dn_keep k s hi.1 h.1, Dns_keep k l hi.2 h.2⟩
end
mutual
theorem step_got {n : Nat} : ∀ (s : Stp) {p r : Nat → Nat}, Fo n p r → Wf false s → ∀ {q : Nat → Nat} {c : Int}, stepR n s p = .ok (q, c) → Dn q s
  | .fnd z, p, r, F, w, q, c, h => by
    rw [stepR] at h
    rw [Dn]
    by_cases hz : 0 ≤ z ∧ z < (n : Int)
    · rw [if_pos hz] at h
      injection h with h
      injection h with h _
      rw [← h]
      exact fnd_got F (by omega)
    · rw [if_neg hz] at h; cases h
  | .lnk x a, p, r, F, w, q, c, h => by rw [Wf] at w; cases w
  | .rnd k _ ss, p, r, F, w, q, c, h => by
    rw [stepR] at h
    rw [Wf] at w
    rw [Dn]
    intro hk
    rw [if_neg (by omega)] at h
    cases e : stepsR n ss p with
    | er _ => rw [e] at h; cases h
    | ok a =>
      obtain ⟨q', c'⟩ := a
      rw [e] at h
      injection h with h
      injection h with h _
      rw [← h]
      exact steps_got ss F w.2.2 e
theorem steps_got {n : Nat} : ∀ (l : List Stp) {p r : Nat → Nat}, Fo n p r → Wfs false l → ∀ {q : Nat → Nat} {c : Int}, stepsR n l p = .ok (q, c) → Dns q l
  | [], p, r, F, w, q, c, h => by rw [Dns]; trivial
  | s :: l, p, r, F, w, q, c, h => by
    rw [stepsR_cons] at h
    rw [Wfs] at w
    rw [Dns]
    cases e : stepR n s p with
    | er _ => rw [e] at h; cases h
    | ok a =>
      obtain ⟨q1, c1⟩ := a
      rw [e] at h
      obtain ⟨r1, F1⟩ := stepR_fo s F e
      cases e2 : stepsR n l q1 with
      | er _ => unfold Rs.seq at h; simp [e2] at h
      | ok b =>
        obtain ⟨q2, c2⟩ := b
        unfold Rs.seq at h
        simp [e2] at h
        rw [← h.1]
        exact ⟨Dn_keep (steps_keep l F1 w.2 e2) s (ran_in s w.1 e) (step_got s F w.1 e), steps_got l F1 w.2 e2⟩
end
mutual
theorem step_again {n : Nat} : ∀ (s : Stp) {q r : Nat → Nat}, Fo n q r → Wf false s → InX n s → Dn q s → stepR n s q = .ok (q, low1 q s)
  | .fnd z, q, r, F, w, hi, h => by
    rw [InX] at hi
    rw [Dn] at h
    rw [stepR, if_pos hi, low1]
    have hz : z.toNat < n := by omega
    obtain ⟨_, h2, _⟩ := d1_path F hz h
    rw [fnd_d1 F hz h, h2]
    by_cases e : q z.toNat = z.toNat
    · rw [if_pos e, if_pos e]; rfl
    · rw [if_neg e, if_neg e]; rfl
  | .lnk x a, q, r, F, w, hi, h => by rw [Wf] at w; cases w
  | .rnd k _ ss, q, r, F, w, hi, h => by
    rw [InX] at hi
    rw [Dn] at h
    rw [Wf] at w
    rw [stepR, low1]
    by_cases hk : k = 0
    · rw [if_pos hk, if_neg (by omega)]
    · have hp : 0 < k := by have := w.1; omega
      rw [if_neg hk, if_pos hp, steps_again ss F w.2.2 (hi hp) (h hp)]
      show Rs.ok (q, lows q ss + (k - 1) * lows q ss) = Rs.ok (q, k * lows q ss)
      rw [Int.sub_mul, Int.one_mul]
      congr 2
      omega
theorem steps_again {n : Nat} : ∀ (l : List Stp) {q r : Nat → Nat}, Fo n q r → Wfs false l → InXs n l → Dns q l → stepsR n l q = .ok (q, lows q l)
  | [], q, r, F, w, hi, h => by rw [stepsR, lows]
  | s :: l, q, r, F, w, hi, h => by
    rw [Wfs] at w
    rw [InXs] at hi
    rw [Dns] at h
    rw [stepsR_cons, step_again s F w.1 hi.1 h.1, lows]
    unfold Rs.seq
    simp [steps_again l F w.2 hi.2 h.2]
end
/-- the same steps once more -/
theorem again_steps {n : Nat} {ss : List Stp} {p r q : Nat → Nat} {c : Int} (F : Fo n p r) (w : Wfs false ss) (h : stepsR n ss p = .ok (q, c)) : stepsR n ss q = .ok (q, lows q ss) := by
  obtain ⟨r', F'⟩ := stepsR_fo ss F h
  exact steps_again ss F' w (rans_in ss w h) (steps_got ss F w h)
end Ff

/-! Epochs: finds and links in their order; histories written out. -/
namespace Ff
def fS (xs : List Nat) : List Stp := xs.map fun x : Nat => .fnd (x : Int)
theorem fS_len (xs : List Nat) : (fS xs).length = xs.length := by unfold fS; rw [List.length_map]
theorem fS_cons (x : Nat) (xs : List Nat) : fS (x :: xs) = .fnd (x : Int) :: fS xs := rfl
section
variable {n : Nat} {p q r : Nat → Nat}
theorem stepsR_fS : ∀ (xs : List Nat) (p : Nat → Nat), (∀ x ∈ xs, x < n) → stepsR n (fS xs) p = .ok (fndAll n xs p, ((costs n xs p).sum : Int))
  | [], p, _ => by
    show stepsR n [] p = _
    rw [stepsR_nil]; rfl
  | x :: xs, p, h => by
    have hx := h x List.mem_cons_self
    rw [fS_cons, stepsR_cons, stepR, if_pos ⟨by omega, by omega⟩]
    have e : ((x : Nat) : Int).toNat = x := by omega
    rw [e]
    unfold Rs.seq
    simp only
    rw [stepsR_fS xs (fnd n p x) fun y hy => h y (List.mem_cons_of_mem _ hy)]
    simp only
    show Rs.ok (fndAll n xs (fnd n p x), _) = Rs.ok (fndAll n xs (fnd n p x), _)
    have e2 : (costs n (x :: xs) p).sum = (ups p n x).length + (costs n xs (fnd n p x)).sum := by
      show ((ups p n x).length :: costs n xs (fnd n p x)).sum = _
      rw [List.sum_cons]
    rw [e2, Int.natCast_add]
theorem fnds_congr : ∀ (xs : List Nat) (p q : Nat → Nat), (∀ x, x < n → p x < n) → (∀ v, v < n → q v = p v) → (∀ x ∈ xs, x < n) → (∀ v, v < n → fndAll n xs q v = fndAll n xs p v) ∧ costs n xs q = costs n xs p
  | [], p, q, hl, h, _ => ⟨h, rfl⟩
  | x :: xs, p, q, hl, h, hx => by
    have hx0 := hx x List.mem_cons_self
    have e : ∀ v, v < n → fnd n q x v = fnd n p x v := fun v hv => fnd_congr hl h hx0 hv
    have hl2 : ∀ v, v < n → fnd n p x v < n := fun v hv => by
      unfold fnd
      by_cases z : v ∈ path p n x
      · rw [if_pos z]; exact root_lt0 hl n x hx0
      · rw [if_neg z]; exact hl v hv
    obtain ⟨h1, h2⟩ := fnds_congr xs (fnd n p x) (fnd n q x) hl2 e fun y hy => hx y (List.mem_cons_of_mem _ hy)
    refine ⟨h1, ?_⟩
    show (ups q n x).length :: costs n xs (fnd n q x) = (ups p n x).length :: costs n xs (fnd n p x)
    rw [h2, ups_congr hl h n x hx0]
theorem linkR_ok {a b : Nat} (ha : a < n) (hb : b < n) (pa : p a = a) (pb : p b = b) (ne : a ≠ b) : linkR n p (a : Int) (b : Int) = .ok (lnk p a b) := by
  unfold linkR chkE
  have e1 : ((a : Nat) : Int).toNat = a := by omega
  have e2 : ((b : Nat) : Int).toNat = b := by omega
  have h1 : 0 ≤ (a : Int) ∧ (a : Int) < (n : Int) := by omega
  have h2 : 0 ≤ (b : Int) ∧ (b : Int) < (n : Int) := by omega
  rw [if_pos h1, if_pos h2, e1, e2, if_pos pa, if_pos pb]
  simp only
  rw [if_neg (by omega)]
theorem lnk_congr {a b : Nat} (h : ∀ v, v < n → q v = p v) : ∀ v, v < n → lnk q a b v = lnk p a b v := fun v hv => by
  unfold lnk
  by_cases e : v = a
  · rw [if_pos e, if_pos e]
  · rw [if_neg e, if_neg e, h v hv]
/-- one more epoch -/
theorem epoch_step {ss : List Stp} {p0 : Nat → Nat} {c : Int} (h : stepsR n ss p0 = .ok (q, c)) {a b : Nat} (ha : a < n) (hb : b < n) (pa : q a = a) (pb : q b = b) (ne : a ≠ b) {xs : List Nat} (hx : ∀ x ∈ xs, x < n) :
    stepsR n (ss ++ [.lnk (a : Int) (b : Int)] ++ fS xs) p0 = .ok (fndAll n xs (lnk q a b), c + ((costs n xs (lnk q a b)).sum : Int)) := by
  rw [List.append_assoc, stepsR_app, h]
  unfold Rs.seq
  simp only
  rw [stepsR_app, stepsR_cons, stepR, linkR_ok ha hb pa pb ne]
  simp only
  have e : (Rs.ok (lnk q a b, 0)).seq (stepsR n []) = .ok (lnk q a b, 0) := by
    rw [one_seq, stepsR_nil]
  rw [e]
  unfold Rs.seq
  simp only
  rw [stepsR_fS xs _ hx]
  simp only
  rw [Int.zero_add]
theorem Chain.finds {os : List Nat} {k : Nat} (C : Chain n p r os k) {xs : List Nat} (hx : ∀ x ∈ xs, x < n) : Chain n (fndAll n xs p) r os k where
  fo := fndAll_fo C.fo xs hx p C.fo
  fix := fun y hy => ⟨(C.fix y hy).1, behind_root C.fo hx y (C.fix y hy).1 (C.fix y hy).2⟩
  all := fun x hxn => by rw [behind_same_root C.fo hx x hxn]; exact C.all x hxn
/-- in another order -/
theorem other_order (F : Fo n p r) (h : ∀ v, v < n → q v = p v) {xs ys : List Nat} (hx : ∀ x ∈ xs, x < n) (hp : ys.Perm xs) :
    (∀ v, v < n → fndAll n ys q v = fndAll n xs p v) ∧ (costs n ys q).sum = (costs n xs p).sum := by
  have hy : ∀ x ∈ ys, x < n := fun x hxy => hx x (hp.mem_iff.mp hxy)
  obtain ⟨h1, h2⟩ := fnds_congr ys p q F.lt h hy
  refine ⟨fun v hv => (h1 v hv).trans (behind_same F hx (fun x => hp.symm.mem_iff) v hv), ?_⟩
  rw [h2]
  exact cost_same F hx hp.symm
end
mutual
/-- written out, each round at most m times -/
def exp1 (m : Int) : Stp → List Stp
  | .fnd z => [.fnd z]
  | .lnk c a => [.lnk c a]
  | .rnd k _ ss => if 0 < k * nFnds ss then (List.replicate (min m k).toNat (exps m ss)).flatten else []
def exps (m : Int) : List Stp → List Stp
  | [] => []
  | s :: r => exp1 m s ++ exps m r
end
theorem exps_app (m : Int) : ∀ l k : List Stp, exps m (l ++ k) = exps m l ++ exps m k
  | [], k => by rw [List.nil_append, exps, List.nil_append]
  | x :: l, k => by rw [List.cons_append, exps, exps, exps_app m l k, List.append_assoc]
theorem exps_take {m : Int} {l : List Stp} {i : Nat} {s : Stp} (h : l[i]? = some s) : exps m (l.take (i + 1)) = exps m (l.take i) ++ exp1 m s := by
  rw [take_snoc h, exps_app, exps, exps, List.append_nil]
theorem exps_take_le (m : Int) (ss : List Stp) (i : Nat) : (exps m (ss.take i)).length ≤ (exps m ss).length := by
  have h := exps_app m (ss.take i) (ss.drop i)
  rw [List.take_append_drop] at h
  rw [h, List.length_append]
  omega
theorem exp1_mem : ∀ {m : Int} {ss : List Stp} {s : Stp}, s ∈ ss → (exp1 m s).length ≤ (exps m ss).length
  | m, x :: l, s, h => by
    rw [exps, List.length_append]
    rcases List.mem_cons.mp h with e | h
    · rw [e]; omega
    · have := exp1_mem (m := m) h; omega
def IsFnd (n : Nat) (s : Stp) : Prop := ∃ u : Nat, s = .fnd (u : Int) ∧ u < n
theorem fnds_list {n : Nat} : ∀ {l : List Stp}, (∀ s ∈ l, IsFnd n s) → ∃ xs : List Nat, l = fS xs ∧ ∀ x ∈ xs, x < n
  | [], _ => ⟨[], rfl, by simp⟩
  | s :: l, h => by
    obtain ⟨u, e, hu⟩ := h s List.mem_cons_self
    obtain ⟨xs, e2, hx⟩ := fnds_list fun t ht => h t (List.mem_cons_of_mem _ ht)
    refine ⟨u :: xs, by rw [e, e2]; rfl, fun x hxm => ?_⟩
    rcases List.mem_cons.mp hxm with z | z
    · rw [z]; exact hu
    · exact hx x z
theorem pow1 {m : Nat} (h : 1 ≤ m) : ∀ {a b : Nat}, a ≤ b → m ^ a ≤ m ^ b := fun {a b} z => Nat.pow_le_pow_right h z
mutual
theorem exp1_len {m : Nat} (h : 1 ≤ m) {top : Bool} : ∀ s : Stp, Wf top s → (exp1 m s).length ≤ nWr s * m ^ nest s
  | .fnd _, _ => by rw [exp1, nWr, nest]; simp
  | .lnk _ _, _ => by rw [exp1, nWr, nest]; simp
  | .rnd k _ ss, w => by
    rw [Wf] at w
    rw [exp1, nWr, nest]
    by_cases z : 0 < k * nFnds ss
    · rw [if_pos z, List.length_flatten, List.map_replicate, List.sum_replicate_nat]
      have h1 := exps_len h ss w.2.2
      have h2 : (min (m : Int) k).toNat ≤ m := by omega
      have h3 := Nat.mul_le_mul h2 h1
      have h4 : m * (nWrs ss * m ^ nests ss) = nWrs ss * m ^ (nests ss + 1) := by
        rw [Nat.pow_succ, Nat.mul_comm, Nat.mul_assoc]
      rw [h4] at h3
      exact Nat.le_trans h3 (Nat.mul_le_mul_right _ (by omega))
    · rw [if_neg z]; exact Nat.zero_le _
theorem exps_len {m : Nat} (h : 1 ≤ m) {top : Bool} : ∀ l : List Stp, Wfs top l → (exps m l).length ≤ nWrs l * m ^ nests l
  | [], _ => by rw [exps, nWrs]; simp
  | s :: r, w => by
    rw [Wfs] at w
    rw [exps, nWrs, nests, List.length_append, Nat.add_mul]
    have h1 := exp1_len h s w.1
    have h2 := exps_len h r w.2
    have g1 : nWr s * m ^ nest s ≤ nWr s * m ^ max (nest s) (nests r) := Nat.mul_le_mul_left _ (pow1 h (by omega))
    have g2 : nWrs r * m ^ nests r ≤ nWrs r * m ^ max (nest s) (nests r) := Nat.mul_le_mul_left _ (pow1 h (by omega))
    omega
end
/-- finds and links of nodes -/
def FlatN (n : Nat) (s : Stp) : Prop := (∃ u : Nat, s = .fnd (u : Int) ∧ u < n) ∨ ∃ a b : Nat, s = .lnk (a : Int) (b : Int) ∧ a < n ∧ b < n
theorem flat_all {n : Nat} : ∀ {l : List Stp}, (∀ s ∈ l, FlatN n s) → Wfs true l ∧ nests l = 0 ∧ nWrs l = l.length
  | [], _ => by rw [Wfs, nests, nWrs]; exact ⟨trivial, rfl, rfl⟩
  | s :: l, h => by
    obtain ⟨h1, h2, h3⟩ := flat_all fun t ht => h t (List.mem_cons_of_mem _ ht)
    rw [Wfs, nests, nWrs, h2, h3, List.length_cons]
    rcases h s List.mem_cons_self with ⟨u, rfl, _⟩ | ⟨a, b, rfl, _⟩
    · rw [Wf, nest, nWr]; exact ⟨⟨trivial, h1⟩, rfl, by omega⟩
    · rw [Wf, nest, nWr]; exact ⟨⟨rfl, h1⟩, rfl, by omega⟩
theorem flat_fS {n : Nat} {xs : List Nat} (h : ∀ x ∈ xs, x < n) : ∀ s ∈ fS xs, FlatN n s := fun s hs => by
  obtain ⟨x, hx, rfl⟩ := List.mem_map.mp hs
  exact .inl ⟨x, rfl, h x hx⟩
/-! sorted lists -/
theorem sorted_eq : ∀ {l m : List Int}, l.Pairwise (· ≤ ·) → m.Pairwise (· ≤ ·) → l.Perm m → l = m
  | [], m, _, _, h => h.nil_eq
  | x :: l, [], _, _, h => by have := h.length_eq; simp at this
  | x :: l, y :: m, hl, hm, h => by
    have hx := List.pairwise_cons.mp hl
    have hy := List.pairwise_cons.mp hm
    have e : x = y := by
      have h1 : x ∈ y :: m := h.mem_iff.mp List.mem_cons_self
      have h2 : y ∈ x :: l := h.mem_iff.mpr List.mem_cons_self
      rcases List.mem_cons.mp h1 with z | z
      · exact z
      · rcases List.mem_cons.mp h2 with z2 | z2
        · exact z2.symm
        · have := hx.1 y z2
          have := hy.1 x z
          omega
    subst e
    rw [sorted_eq hx.2 hy.2 (List.Perm.cons_inv h)]
theorem sort_ex : ∀ l : List Int, ∃ m : List Int, m.Perm l ∧ m.Pairwise (· ≤ ·)
  | [] => ⟨[], .refl _, .nil⟩
  | x :: l => by
    obtain ⟨m, h1, h2⟩ := sort_ex l
    have ins : ∀ m : List Int, m.Pairwise (· ≤ ·) → ∃ k : List Int, k.Perm (x :: m) ∧ k.Pairwise (· ≤ ·) := fun m => by
      induction m with
      | nil => intro _; exact ⟨[x], .refl _, by simp⟩
      | cons y m ih =>
        intro hm
        have hy := List.pairwise_cons.mp hm
        by_cases z : x ≤ y
        · exact ⟨x :: y :: m, .refl _, List.pairwise_cons.mpr ⟨fun a ha => by
            rcases List.mem_cons.mp ha with e | e
            · omega
            · have := hy.1 a e; omega, hm⟩⟩
        · obtain ⟨k, k1, k2⟩ := ih hy.2
          refine ⟨y :: k, (k1.cons y).trans (List.Perm.swap x y m), List.pairwise_cons.mpr ⟨fun a ha => ?_, k2⟩⟩
          rcases List.mem_cons.mp (k1.mem_iff.mp ha) with e | e
          · omega
          · exact hy.1 a e
    obtain ⟨k, k1, k2⟩ := ins m h2
    exact ⟨k, k1.trans (h1.cons x), k2⟩
noncomputable def srt (l : List Int) : List Int := Classical.choose (sort_ex l)
theorem srt_of {l m : List Int} (h : m.Perm l) (hm : m.Pairwise (· ≤ ·)) : m = srt l := sorted_eq hm (Classical.choose_spec (sort_ex l)).2 (h.trans (Classical.choose_spec (sort_ex l)).1.symm)
theorem srt_perm {l m : List Int} (h : l.Perm m) : srt l = srt m := srt_of ((Classical.choose_spec (sort_ex l)).1.trans h) (Classical.choose_spec (sort_ex l)).2
theorem srt_len (l : List Int) : (srt l).length = l.length := (Classical.choose_spec (sort_ex l)).1.length_eq
end Ff

/-! Rounds of finds: what they do, and how often each node is found. -/
namespace Ff
mutual
/-- the nodes of the finds that are done, each round once -/
def nd1 : Stp → List Nat
  | .fnd z => [z.toNat]
  | .lnk _ _ => []
  | .rnd k _ ss => if 0 < k then nds ss else []
def nds : List Stp → List Nat
  | [] => []
  | s :: r => nd1 s ++ nds r
end
mutual
def Inn (n : Nat) : Stp → Prop
  | .fnd z => 0 ≤ z ∧ z < (n : Int)
  | .lnk _ _ => True
  | .rnd _ _ ss => Inns n ss
def Inns (n : Nat) : List Stp → Prop
  | [] => True
  | s :: r => Inn n s ∧ Inns n r
end
mutual
/-- how often a node is found -/
def tl1 (v : Nat) : Stp → Int
  | .fnd z => if z.toNat = v then 1 else 0
  | .lnk _ _ => 0
  | .rnd k _ ss => k * tls v ss
def tls (v : Nat) : List Stp → Int
  | [] => 0
  | s :: r => tl1 v s + tls v r
end
mutual
/-- a node that is written -/
def oc1 (v : Nat) : Stp → Bool
  | .fnd z => decide (z.toNat = v)
  | .lnk _ _ => false
  | .rnd _ _ ss => ocs v ss
def ocs (v : Nat) : List Stp → Bool
  | [] => false
  | s :: r => oc1 v s || ocs v r
end
theorem inns_mem {n : Nat} : ∀ {l : List Stp} {s : Stp}, Inns n l → s ∈ l → Inn n s
  | x :: l, s, w, h => by
    rw [Inns] at w
    rcases List.mem_cons.mp h with e | h
    · rw [e]; exact w.1
    · exact inns_mem w.2 h
theorem inns_of {n : Nat} : ∀ {l : List Stp}, (∀ s ∈ l, Inn n s) → Inns n l
  | [], _ => by rw [Inns]; trivial
  | x :: l, h => by
    rw [Inns]
    exact ⟨h x List.mem_cons_self, inns_of fun s hs => h s (List.mem_cons_of_mem _ hs)⟩
theorem tls_app (v : Nat) : ∀ l m : List Stp, tls v (l ++ m) = tls v l + tls v m
  | [], m => by rw [List.nil_append, tls]; omega
  | x :: l, m => by rw [List.cons_append, tls, tls, tls_app v l m]; omega
theorem ocs_app (v : Nat) : ∀ l m : List Stp, ocs v (l ++ m) = (ocs v l || ocs v m)
  | [], m => by rw [List.nil_append, ocs]; rfl
  | x :: l, m => by rw [List.cons_append, ocs, ocs, ocs_app v l m, Bool.or_assoc]
theorem tls_take {v : Nat} {l : List Stp} {i : Nat} {s : Stp} (h : l[i]? = some s) : tls v (l.take (i + 1)) = tls v (l.take i) + tl1 v s := by
  rw [take_snoc h, tls_app, tls, tls]; omega
theorem ocs_take {v : Nat} {l : List Stp} {i : Nat} {s : Stp} (h : l[i]? = some s) : ocs v (l.take (i + 1)) = (ocs v (l.take i) || oc1 v s) := by
  rw [take_snoc h, ocs_app, ocs, ocs, Bool.or_false]
theorem nds_app : ∀ l m : List Stp, nds (l ++ m) = nds l ++ nds m
  | [], m => by rw [List.nil_append, nds, List.nil_append]
  | x :: l, m => by rw [List.cons_append, nds, nds, nds_app l m, List.append_assoc]
theorem nds_take {l : List Stp} {i : Nat} {s : Stp} (h : l[i]? = some s) : nds (l.take (i + 1)) = nds (l.take i) ++ nd1 s := by
  rw [take_snoc h, nds_app, nds, nds, List.append_nil]
mutual
theorem tl1_facts {top : Bool} (v : Nat) : ∀ s : Stp, Wf top s → 0 ≤ tl1 v s ∧ (0 < tl1 v s ↔ v ∈ nd1 s) ∧ (oc1 v s = false → tl1 v s = 0)
  | .fnd z, _ => by
    rw [tl1, nd1, oc1]
    by_cases e : z.toNat = v
    · rw [if_pos e]; simp [e]
    · rw [if_neg e]; simp; exact fun h => e h.symm
  | .lnk _ _, _ => by rw [tl1, nd1, oc1]; simp
  | .rnd k _ ss, w => by
    rw [Wf] at w
    obtain ⟨h1, h2, h3⟩ := tls_facts v ss w.2.2
    rw [tl1, nd1, oc1]
    refine ⟨Int.mul_nonneg w.1 h1, ?_, fun z => by rw [h3 z, Int.mul_zero]⟩
    by_cases hk : 0 < k
    · rw [if_pos hk, ← h2]
      constructor
      · intro z
        rcases Int.lt_or_eq_of_le h1 with y | y
        · exact y
        · rw [← y, Int.mul_zero] at z; omega
      · exact fun z => Int.mul_pos hk z
    · have : k = 0 := by have := w.1; omega
      rw [if_neg hk, this, Int.zero_mul]; simp
theorem tls_facts {top : Bool} (v : Nat) : ∀ l : List Stp, Wfs top l → 0 ≤ tls v l ∧ (0 < tls v l ↔ v ∈ nds l) ∧ (ocs v l = false → tls v l = 0)
  | [], _ => by rw [tls, nds, ocs]; simp
  | s :: r, w => by
    rw [Wfs] at w
    obtain ⟨h1, h2, h3⟩ := tl1_facts v s w.1
    obtain ⟨g1, g2, g3⟩ := tls_facts v r w.2
    rw [tls, nds, ocs]
    refine ⟨by omega, ?_, fun z => ?_⟩
    · rw [List.mem_append, ← h2, ← g2]; omega
    · rw [Bool.or_eq_false_iff] at z
      rw [h3 z.1, g3 z.2]; rfl
end
mutual
theorem nd1_lt {n : Nat} : ∀ s : Stp, Inn n s → ∀ x ∈ nd1 s, x < n
  | .fnd z, i, x, h => by
    rw [Inn] at i
    rw [nd1, List.mem_singleton] at h
    omega
  | .lnk _ _, i, x, h => by rw [nd1] at h; cases h
  | .rnd k _ ss, i, x, h => by
    rw [Inn] at i
    rw [nd1] at h
    by_cases hk : 0 < k
    · rw [if_pos hk] at h; exact nds_lt ss i x h
    · rw [if_neg hk] at h; cases h
theorem nds_lt {n : Nat} : ∀ l : List Stp, Inns n l → ∀ x ∈ nds l, x < n
  | [], i, x, h => by rw [nds] at h; cases h
  | s :: r, i, x, h => by
    rw [Inns] at i
    rw [nds, List.mem_append] at h
    rcases h with h | h
    · exact nd1_lt s i.1 x h
    · exact nds_lt r i.2 x h
end
mutual
theorem oc1_lt {n : Nat} (v : Nat) : ∀ s : Stp, Inn n s → oc1 v s = true → v < n
  | .fnd z, i, h => by
    rw [Inn] at i
    rw [oc1] at h
    have := of_decide_eq_true h
    omega
  | .lnk _ _, i, h => by rw [oc1] at h; cases h
  | .rnd k _ ss, i, h => by
    rw [Inn] at i
    rw [oc1] at h
    exact ocs_lt v ss i h
theorem ocs_lt {n : Nat} (v : Nat) : ∀ l : List Stp, Inns n l → ocs v l = true → v < n
  | [], i, h => by rw [ocs] at h; cases h
  | s :: r, i, h => by
    rw [Inns] at i
    rw [ocs, Bool.or_eq_true] at h
    rcases h with h | h
    · exact oc1_lt v s i.1 h
    · exact ocs_lt v r i.2 h
end
section
variable {n : Nat} {p r : Nat → Nat}
theorem behind_iff (F : Fo n p r) {l : List Nat} (h : ∀ x ∈ l, x < n) (v : Nat) (hv : v < n) : fndAll n l p v = v ↔ p v = v := by
  constructor
  · intro e
    by_cases z : p v = v
    · exact z
    · have := after_nonroot F (mark_closed F h) hv z
      have e2 : fndAll n l p v = after n p (markB n p l) v := by rw [behind_eq F l h v hv]; rfl
      exact absurd (e2.symm.trans e) this
  · exact behind_root F h v hv
theorem low_behind (F : Fo n p r) {l : List Nat} (h : ∀ x ∈ l, x < n) {v : Nat} (hv : v < n) : low (fndAll n l p) v = low p v := by
  unfold low
  by_cases e : p v = v
  · rw [if_pos e, if_pos ((behind_iff F h v hv).mpr e)]
  · rw [if_neg e, if_neg (fun z => e ((behind_iff F h v hv).mp z))]
mutual
theorem low1_behind (F : Fo n p r) {l : List Nat} (h : ∀ x ∈ l, x < n) : ∀ s : Stp, Inn n s → low1 (fndAll n l p) s = low1 p s
  | .fnd z, i => by
    rw [Inn] at i
    rw [low1, low1]
    have hz : z.toNat < n := by omega
    by_cases e : p z.toNat = z.toNat
    · rw [if_pos e, if_pos ((behind_iff F h _ hz).mpr e)]
    · rw [if_neg e, if_neg (fun y => e ((behind_iff F h _ hz).mp y))]
  | .lnk _ _, _ => by rw [low1, low1]
  | .rnd k _ ss, i => by
    rw [Inn] at i
    rw [low1, low1, lows_behind F h ss i]
theorem lows_behind (F : Fo n p r) {l : List Nat} (h : ∀ x ∈ l, x < n) : ∀ ss : List Stp, Inns n ss → lows (fndAll n l p) ss = lows p ss
  | [], _ => by rw [lows, lows]
  | s :: r, i => by
    rw [Inns] at i
    rw [lows, lows, low1_behind F h s i.1, lows_behind F h r i.2]
end
theorem costs_append (n : Nat) : ∀ (l m : List Nat) (p : Nat → Nat), costs n (l ++ m) p = costs n l p ++ costs n m (fndAll n l p)
  | [], _, _ => rfl
  | x :: l, m, p => by show _ :: costs n (l ++ m) (fnd n p x) = _; rw [costs_append n l m (fnd n p x)]; rfl
/-- what is beyond one for each find of a node that is no root -/
def ovr (n : Nat) (l : List Nat) (p : Nat → Nat) : Int := ((costs n l p).sum : Int) - ((l.map (low p)).sum : Int)
theorem ovr_app (F : Fo n p r) {l m : List Nat} (hl : ∀ x ∈ l, x < n) (hm : ∀ x ∈ m, x < n) : ovr n (l ++ m) p = ovr n l p + ovr n m (fndAll n l p) := by
  unfold ovr
  rw [costs_append, List.sum_append, List.map_append, List.sum_append]
  have e : m.map (low (fndAll n l p)) = m.map (low p) := List.map_congr_left fun v hv => low_behind F hl (hm v hv)
  rw [e]
  omega
theorem ovr_cnt (F : Fo n p r) {l : List Nat} (h : ∀ x ∈ l, x < n) : ovr n l p = (((List.range n).countP fun v => deep p v && markB n p l v : Nat) : Int) := by
  unfold ovr
  rw [cost_total F l h]; omega
end
mutual
theorem round1 {n : Nat} : ∀ (s : Stp) {p r : Nat → Nat}, Fo n p r → Wf false s → Inn n s → stepR n s p = .ok (fndAll n (nd1 s) p, low1 p s + ovr n (nd1 s) p)
  | .fnd z, p, r, F, w, i => by
    rw [Inn] at i
    rw [stepR, if_pos i, nd1, low1]
    unfold ovr
    show Rs.ok (fnd n p z.toNat, _) = Rs.ok (fnd n p z.toNat, _)
    have e1 : (costs n [z.toNat] p).sum = (ups p n z.toNat).length := by show [(ups p n z.toNat).length].sum = _; simp
    have e2 : ([z.toNat].map (low p)).sum = low p z.toNat := by simp
    rw [e1, e2]
    unfold low
    congr 2
    by_cases e : p z.toNat = z.toNat
    · rw [if_pos e, if_pos e]; omega
    · rw [if_neg e, if_neg e]; omega
  | .lnk _ _, p, r, F, w, i => by rw [Wf] at w; cases w
  | .rnd k kd ss, p, r, F, w, i => by
    rw [Wf] at w
    rw [Inn] at i
    rw [stepR, nd1, low1]
    by_cases hk : k = 0
    · rw [if_pos hk, if_neg (by omega), if_neg (by omega)]
      unfold ovr
      rfl
    · have hk1 : 0 < k := by have := w.1; omega
      rw [if_neg hk, if_pos hk1, if_pos hk1, rounds ss F w.2.2 i]
      simp only
      rw [lows_behind F (nds_lt ss i) ss i]
      congr 2
      rw [Int.sub_mul, Int.one_mul]
      omega
theorem rounds {n : Nat} : ∀ (l : List Stp) {p r : Nat → Nat}, Fo n p r → Wfs false l → Inns n l → stepsR n l p = .ok (fndAll n (nds l) p, lows p l + ovr n (nds l) p)
  | [], p, r, F, w, i => by
    rw [stepsR_nil, nds, lows]
    unfold ovr
    rfl
  | s :: l, p, r, F, w, i => by
    rw [Wfs] at w
    rw [Inns] at i
    have h1 := nd1_lt s i.1
    have h2 := nds_lt l i.2
    have G := fndAll_fo F (nd1 s) h1 p F
    rw [stepsR_cons, round1 s F w.1 i.1]
    unfold Rs.seq
    simp only
    rw [rounds l G w.2 i.2]
    simp only
    rw [nds, lows, fndAll_append, ovr_app F h1 h2, lows_behind F h1 l i.2]
    congr 2
    omega
end
/-! sums over the nodes -/
def sumR (n : Nat) (f : Nat → Int) : Int := ((List.range n).map f).sum
theorem sumR_succ (n : Nat) (f : Nat → Int) : sumR (n + 1) f = sumR n f + f n := by
  unfold sumR
  rw [List.range_succ, List.map_append, List.sum_append]; simp
theorem sumR_add (f g : Nat → Int) : ∀ n, sumR n (fun v => f v + g v) = sumR n f + sumR n g
  | 0 => rfl
  | n + 1 => by rw [sumR_succ, sumR_succ, sumR_succ, sumR_add f g n]; omega
theorem sumR_mul (k : Int) (f : Nat → Int) : ∀ n, sumR n (fun v => k * f v) = k * sumR n f
  | 0 => by show (0 : Int) = k * 0; rw [Int.mul_zero]
  | n + 1 => by rw [sumR_succ, sumR_succ, sumR_mul k f n, Int.mul_add]
theorem sumR_congr {f g : Nat → Int} : ∀ n, (∀ v, v < n → f v = g v) → sumR n f = sumR n g
  | 0, _ => rfl
  | n + 1, h => by rw [sumR_succ, sumR_succ, sumR_congr n fun v hv => h v (by omega), h n (by omega)]
theorem sumR_zero : ∀ n, sumR n (fun _ => 0) = 0
  | 0 => rfl
  | n + 1 => by rw [sumR_succ, sumR_zero n]; rfl
theorem sumR_one {u : Nat} (g : Nat → Int) : ∀ n, sumR n (fun v => (if u = v then 1 else 0) * g v) = if u < n then g u else 0
  | 0 => rfl
  | n + 1 => by
    rw [sumR_succ, sumR_one g n]
    by_cases h : u < n
    · have h1 : u ≠ n := by omega
      have h2 : u < n + 1 := by omega
      rw [if_pos h, if_pos h2, if_neg h1]; omega
    · rw [if_neg h]
      by_cases e : u = n
      · have h2 : u < n + 1 := by omega
        rw [if_pos e, if_pos h2, e]; omega
      · have h2 : ¬ u < n + 1 := by omega
        rw [if_neg e, if_neg h2]; omega
mutual
theorem sum_low1 {top : Bool} {n : Nat} (g : Nat → Int) : ∀ s : Stp, Wf top s → Inn n s → sumR n (fun v => tl1 v s * g v) = match s with
    | .fnd z => g z.toNat
    | .lnk _ _ => 0
    | .rnd k _ ss => k * sumR n (fun v => tls v ss * g v)
  | .fnd z, _, i => by
    rw [Inn] at i
    have : (fun v => tl1 v (.fnd z) * g v) = fun v => (if z.toNat = v then 1 else 0) * g v := funext fun v => by rw [tl1]
    rw [this, sumR_one, if_pos (by omega)]
  | .lnk c a, _, _ => by
    have : (fun v => tl1 v (.lnk c a) * g v) = fun v => 0 := funext fun v => by rw [tl1, Int.zero_mul]
    rw [this]; exact sumR_zero n
  | .rnd k kd ss, _, _ => by
    have : (fun v => tl1 v (.rnd k kd ss) * g v) = fun v => k * (tls v ss * g v) := funext fun v => by rw [tl1, Int.mul_assoc]
    rw [this, sumR_mul]
end
theorem sum_cons {n : Nat} (g : Nat → Int) (s : Stp) (l : List Stp) : sumR n (fun v => tls v (s :: l) * g v) = sumR n (fun v => tl1 v s * g v) + sumR n (fun v => tls v l * g v) := by
  rw [← sumR_add]
  exact sumR_congr n fun v _ => by rw [tls, Int.add_mul]
mutual
theorem low1_sum {top : Bool} {n : Nat} (p : Nat → Nat) : ∀ s : Stp, Wf top s → Inn n s → low1 p s = sumR n (fun v => tl1 v s * (low p v : Int))
  | .fnd z, w, i => by
    rw [sum_low1 (top := top) _ (.fnd z) w i, low1]
    show _ = ((low p z.toNat : Nat) : Int)
    unfold low
    split <;> rfl
  | .lnk c a, w, i => by rw [sum_low1 (top := top) _ (.lnk c a) w i, low1]
  | .rnd k kd ss, w, i => by
    rw [sum_low1 (top := top) _ (.rnd k kd ss) w i, low1]
    rw [Wf] at w
    rw [Inn] at i
    show _ = k * sumR n (fun v => tls v ss * (low p v : Int))
    rw [← lows_sum p ss w.2.2 i]
    by_cases hk : 0 < k
    · rw [if_pos hk]
    · have : k = 0 := by have := w.1; omega
      rw [if_neg hk, this, Int.zero_mul]
theorem lows_sum {top : Bool} {n : Nat} (p : Nat → Nat) : ∀ l : List Stp, Wfs top l → Inns n l → lows p l = sumR n (fun v => tls v l * (low p v : Int))
  | [], _, _ => by
    rw [lows]
    have : (fun v => tls v [] * (low p v : Int)) = fun v => 0 := funext fun v => by rw [tls, Int.zero_mul]
    rw [this, sumR_zero]
  | s :: l, w, i => by
    rw [Wfs] at w
    rw [Inns] at i
    rw [lows, sum_cons, low1_sum p s w.1 i.1, lows_sum p l w.2 i.2]
end
mutual
theorem nFnd_sum {top : Bool} {n : Nat} : ∀ s : Stp, Wf top s → Inn n s → nFnd s = sumR n (fun v => tl1 v s * 1)
  | .fnd z, w, i => by rw [sum_low1 (top := top) _ (.fnd z) w i, nFnd]
  | .lnk c a, w, i => by rw [sum_low1 (top := top) _ (.lnk c a) w i, nFnd]
  | .rnd k kd ss, w, i => by
    rw [sum_low1 (top := top) _ (.rnd k kd ss) w i, nFnd]
    rw [Wf] at w
    rw [Inn] at i
    show _ = k * sumR n (fun v => tls v ss * 1)
    rw [← nFnds_sum ss w.2.2 i]
theorem nFnds_sum {top : Bool} {n : Nat} : ∀ l : List Stp, Wfs top l → Inns n l → nFnds l = sumR n (fun v => tls v l * 1)
  | [], _, _ => by
    rw [nFnds]
    have : (fun v => tls v [] * 1) = fun v => (0 : Int) := funext fun v => by rw [tls, Int.zero_mul]
    rw [this, sumR_zero]
  | s :: l, w, i => by
    rw [Wfs] at w
    rw [Inns] at i
    rw [nFnds, sum_cons (fun _ => 1), nFnd_sum s w.1 i.1, nFnds_sum l w.2 i.2]
end
/-- the nodes that are found, ascending -/
def fns (n : Nat) (l : List Stp) : List Nat := (List.range n).filter fun v => decide (0 < tls v l)
theorem fns_mem {top : Bool} {n : Nat} {l : List Stp} (w : Wfs top l) (i : Inns n l) (v : Nat) : v ∈ fns n l ↔ v ∈ nds l := by
  unfold fns
  rw [List.mem_filter, List.mem_range, decide_eq_true_iff, (tls_facts v l w).2.1]
  exact ⟨fun h => h.2, fun h => ⟨nds_lt l i v h, h⟩⟩
theorem fns_lt {n : Nat} {l : List Stp} : ∀ x ∈ fns n l, x < n := fun x h => List.mem_range.mp (List.mem_filter.mp h).1
theorem sum_filter {n : Nat} (f : Nat → Int) (b : Nat → Bool) : (((List.range n).filter b).map f).sum = sumR n (fun v => if b v = true then f v else 0) := by
  unfold sumR
  induction n with
  | zero => rfl
  | succ n ih =>
    rw [List.range_succ, List.filter_append, List.map_append, List.sum_append, ih, List.map_append, List.sum_append]
    congr 1
    by_cases e : b n = true
    · simp [e]
    · simp [e]
section
variable {n : Nat} {p r : Nat → Nat}
theorem fns_sum {top : Bool} {l : List Stp} (w : Wfs top l) (i : Inns n l) : ((fns n l).map fun v => tls v l).sum = nFnds l := by
  unfold fns
  rw [sum_filter, nFnds_sum l w i]
  refine sumR_congr n fun v _ => ?_
  rw [Int.mul_one]
  by_cases e : 0 < tls v l
  · rw [decide_eq_true e, if_pos rfl]
  · rw [decide_eq_false e, if_neg (by simp)]
    have := (tls_facts v l w).1
    omega
theorem fns_low {top : Bool} {l : List Stp} (w : Wfs top l) (i : Inns n l) : (((fns n l).filter fun v => !decide (p v = v)).map fun v => tls v l).sum = lows p l := by
  unfold fns
  rw [List.filter_filter, sum_filter, lows_sum p l w i]
  refine sumR_congr n fun v _ => ?_
  have h0 := (tls_facts v l w).1
  unfold low
  by_cases e : p v = v
  · rw [if_pos e, decide_eq_true e]
    show (if (false && _) = true then _ else _) = _
    rw [Bool.false_and, if_neg (by simp)]
    simp
  · rw [if_neg e, decide_eq_false e]
    show (if (true && _) = true then _ else _) = _
    rw [Bool.true_and]
    by_cases z : 0 < tls v l
    · rw [decide_eq_true z, if_pos rfl]; simp
    · rw [decide_eq_false z, if_neg (by simp)]
      have : tls v l = 0 := by omega
      rw [this]; simp
theorem chg_deep (F : Fo n p r) {l : List Nat} (h : ∀ x ∈ l, x < n) (v : Nat) (hv : v < n) : decide (fndAll n l p v ≠ p v) = (deep p v && markB n p l v) := by
  rw [behind_eq F l h v hv, Bool.eq_iff_iff, decide_eq_true_iff, Bool.and_eq_true]
  unfold deep
  rw [decide_eq_true_iff]
  by_cases m : markB n p l v = true
  · rw [if_pos m]
    have pv := F.lt v hv
    constructor
    · refine fun z => ⟨fun e => z ?_, m⟩
      by_cases e2 : p v = v
      · rw [root_of e2, e2]
      · rw [root_n F hv e2, root_of e]
    · rintro ⟨z, _⟩ e
      exact z (by rw [← e]; exact root_fix F v hv)
  · rw [if_neg m]
    exact ⟨fun z => absurd rfl z, fun z => absurd z.2 m⟩
/-- the first run -/
theorem run_one {l : List Stp} (F : Fo n p r) (w : Wfs false l) (i : Inns n l) : ∃ q, stepsR n l p = .ok (q, lows p l + (((List.range n).filter fun v => !decide (fndAll n (fns n l) p v = p v)).length : Nat)) ∧ ∀ v, v < n → q v = fndAll n (fns n l) p v := by
  refine ⟨_, ?_, fun v hv => behind_same F fns_lt (fns_mem w i) v hv⟩
  rw [rounds l F w i, ovr_cnt F (nds_lt l i)]
  congr 3
  rw [List.countP_eq_length_filter]
  congr 2
  refine List.filter_congr fun v hv => ?_
  have hv := List.mem_range.mp hv
  rw [← mark_same (fns_mem w i) v, ← chg_deep F fns_lt v hv]
  simp
/-- the second run -/
theorem run_two {l : List Stp} (F : Fo n p r) (w : Wfs false l) (i : Inns n l) : ∃ q, stepsR n l (fndAll n (fns n l) p) = .ok (q, lows p l) ∧ ∀ v, v < n → q v = fndAll n (fns n l) p v := by
  have hf := fns_lt (n := n) (l := l)
  have G := fndAll_fo F (fns n l) hf p F
  have hN := nds_lt l i
  refine ⟨fndAll n (nds l) (fndAll n (fns n l) p), ?_, fun v hv => ?_⟩
  · rw [rounds l G w i, ovr_cnt G hN, lows_behind F hf l i]
    have z : (List.range n).countP (fun v => deep (fndAll n (fns n l) p) v && markB n (fndAll n (fns n l) p) (nds l) v) = 0 := by
      rw [List.countP_eq_zero]
      intro v hv h
      have hv := List.mem_range.mp hv
      rw [Bool.and_eq_true] at h
      obtain ⟨x, hx, hm⟩ := mark_iff.mp h.2
      have hxf := (fns_mem w i x).mpr hx
      have hm2 := behind_ups F hf (hN x hx) hm
      have mk : markB n p (fns n l) v = true := mark_iff.mpr ⟨x, hxf, hm2⟩
      have e : fndAll n (fns n l) p v = root p n v := by rw [behind_eq F _ hf v hv, if_pos mk]
      have hd := h.1
      unfold deep at hd
      refine (of_decide_eq_true hd) ?_
      rw [e]
      exact behind_root F hf _ (root_lt F v hv) (root_fix F v hv)
    rw [z]
    congr 2
    omega
  · rw [← fndAll_append]
    refine behind_same F hf (fun x => ?_) v hv
    rw [List.mem_append]
    exact ⟨fun h => .inl h, fun h => h.elim id fun h => (fns_mem w i x).mpr h⟩
end
end Ff

/-! Rounds written out in full. -/
namespace Ff
mutual
def wr1 : Stp → List Stp
  | .fnd z => [.fnd z]
  | .lnk c a => [.lnk c a]
  | .rnd k _ ss => if 0 < k * nFnds ss then (List.replicate k.toNat (wrs ss)).flatten else []
def wrs : List Stp → List Stp
  | [] => []
  | s :: r => wr1 s ++ wrs r
end
theorem wrs_app : ∀ l k : List Stp, wrs (l ++ k) = wrs l ++ wrs k
  | [], k => by rw [List.nil_append, wrs, List.nil_append]
  | x :: l, k => by rw [List.cons_append, wrs, wrs, wrs_app l k, List.append_assoc]
theorem wrs_take {l : List Stp} {i : Nat} {s : Stp} (h : l[i]? = some s) : wrs (l.take (i + 1)) = wrs (l.take i) ++ wr1 s := by
  rw [take_snoc h, wrs_app, wrs, wrs, List.append_nil]
theorem wrs_take_le (ss : List Stp) (i : Nat) : (wrs (ss.take i)).length ≤ (wrs ss).length := by
  have h := wrs_app (ss.take i) (ss.drop i)
  rw [List.take_append_drop] at h
  rw [h, List.length_append]
  omega
/-- the number of links -/
def nLk (l : List Stp) : Nat := (l.filter fun s => match s with | .lnk _ _ => true | _ => false).length
mutual
theorem wr1_len : ∀ s : Stp, Wf false s → ((wr1 s).length : Int) = nFnd s
  | .fnd _, _ => by rw [wr1, nFnd]; rfl
  | .lnk _ _, w => by rw [Wf] at w; cases w
  | .rnd k _ ss, w => by
    rw [Wf] at w
    rw [wr1, nFnd]
    have h := wrs_len ss w.2.2
    by_cases z : 0 < k * nFnds ss
    · rw [if_pos z, List.length_flatten, List.map_replicate, List.sum_replicate_nat, Int.natCast_mul, h]
      congr 1
      have := w.1
      omega
    · rw [if_neg z]
      have h1 := Int.mul_nonneg w.1 (nFnds_nonneg ss w.2.2)
      show (0 : Int) = _
      omega
theorem wrs_len : ∀ l : List Stp, Wfs false l → ((wrs l).length : Int) = nFnds l
  | [], _ => by rw [wrs, nFnds]; rfl
  | s :: r, w => by
    rw [Wfs] at w
    rw [wrs, nFnds, List.length_append, Int.natCast_add, wr1_len s w.1, wrs_len r w.2]
end
theorem wrs_le : ∀ l : List Stp, Wfs true l → ((wrs l).length : Int) ≤ nFnds l + l.length
  | [], _ => by rw [wrs, nFnds]; decide
  | s :: r, w => by
    rw [Wfs] at w
    have h := wrs_le r w.2
    rw [wrs, nFnds, List.length_append, Int.natCast_add, List.length_cons]
    have h1 : ((wr1 s).length : Int) ≤ nFnd s + 1 := by
      cases s with
      | fnd z => rw [wr1, nFnd]; simp
      | lnk c a => rw [wr1, nFnd]; simp
      | rnd k kd ss =>
        have w1 := w.1
        rw [Wf] at w1
        have := wr1_len (.rnd k kd ss) (by rw [Wf]; exact w1)
        omega
    omega
mutual
theorem none1 {n : Nat} {p : Nat → Nat} : ∀ s : Stp, Wf false s → nFnd s = 0 → stepR n s p = .ok (p, 0)
  | .fnd _, _, h => by rw [nFnd] at h; omega
  | .lnk _ _, w, _ => by rw [Wf] at w; cases w
  | .rnd k kd ss, w, h => by
    rw [Wf] at w
    rw [nFnd] at h
    rw [stepR]
    by_cases hk : k = 0
    · rw [if_pos hk]
    · have h0 : nFnds ss = 0 := by
        rcases Int.mul_eq_zero.mp h with z | z
        · exact absurd z hk
        · exact z
      rw [if_neg hk, nones ss w.2.2 h0]
      simp only
      have l := lows_le p ss w.2.2
      have : lows p ss = 0 := by omega
      rw [this, Int.mul_zero, Int.add_zero]
theorem nones {n : Nat} {p : Nat → Nat} : ∀ l : List Stp, Wfs false l → nFnds l = 0 → stepsR n l p = .ok (p, 0)
  | [], _, _ => stepsR_nil n p
  | s :: r, w, h => by
    rw [Wfs] at w
    rw [nFnds] at h
    have h1 := nFnd_nonneg s w.1
    have h2 := nFnds_nonneg r w.2
    rw [stepsR_cons, none1 s w.1 (by omega), one_seq]
    exact nones r w.2 (by omega)
end
theorem rep_run {n : Nat} {ss : List Stp} {p r q : Nat → Nat} {c : Int} (F : Fo n p r) (w : Wfs false ss) (h : stepsR n ss p = .ok (q, c)) : ∀ k : Nat, stepsR n (List.replicate (k + 1) ss).flatten p = .ok (q, c + (k : Int) * lows q ss)
  | 0 => by
    rw [List.replicate_one, List.flatten_singleton, h]
    congr 2
    omega
  | k + 1 => by
    rw [List.replicate_succ', List.flatten_append, stepsR_app, rep_run F w h k]
    unfold Rs.seq
    simp only
    rw [List.flatten_singleton, again_steps F w h]
    simp only
    congr 2
    rw [Int.natCast_add, Int.add_mul]
    omega
mutual
theorem wr1_run {n : Nat} {top : Bool} : ∀ (s : Stp) {p r q : Nat → Nat} {c : Int}, Fo n p r → Wf top s → stepR n s p = .ok (q, c) → stepsR n (wr1 s) p = .ok (q, c)
  | .fnd z, p, r, q, c, F, w, h => by
    rw [wr1, stepsR_cons, h]
    unfold Rs.seq
    simp only
    rw [stepsR_nil]
    simp only
    rw [Int.add_zero]
  | .lnk x a, p, r, q, c, F, w, h => by
    rw [wr1, stepsR_cons, h]
    unfold Rs.seq
    simp only
    rw [stepsR_nil]
    simp only
    rw [Int.add_zero]
  | .rnd k kd ss, p, r, q, c, F, w, h => by
    rw [Wf] at w
    rw [wr1]
    by_cases z : 0 < k * nFnds ss
    · rw [if_pos z]
      have hk : k ≠ 0 := fun e => by rw [e, Int.zero_mul] at z; omega
      rw [stepR, if_neg hk] at h
      cases e : stepsR n ss p with
      | er e2 => rw [e] at h; cases h
      | ok a =>
        obtain ⟨q1, c1⟩ := a
        rw [e] at h
        have e3 := wrs_run ss F w.2.2 e
        have wfw : Wfs false (wrs ss) := wfs_of fun s hs => wrs_wf ss w.2.2 s hs
        obtain ⟨m, hm⟩ : ∃ m : Nat, k.toNat = m + 1 := ⟨k.toNat - 1, by have := w.1; omega⟩
        rw [hm, rep_run F wfw e3 m]
        injection h with h
        injection h with h1 h2
        rw [← h1, ← h2, lows_wrs ss w.2.2]
        have : ((m : Nat) : Int) = k - 1 := by have := w.1; omega
        rw [this]
    · rw [if_neg z, stepsR_nil]
      have h0 : nFnd (.rnd k kd ss) = 0 := by
        rw [nFnd]
        have := Int.mul_nonneg w.1 (nFnds_nonneg ss w.2.2)
        omega
      rw [none1 (.rnd k kd ss) (by rw [Wf]; exact w) h0] at h
      exact h
theorem wrs_run {n : Nat} {top : Bool} : ∀ (l : List Stp) {p r q : Nat → Nat} {c : Int}, Fo n p r → Wfs top l → stepsR n l p = .ok (q, c) → stepsR n (wrs l) p = .ok (q, c)
  | [], p, r, q, c, F, w, h => by rw [wrs]; exact h
  | s :: l, p, r, q, c, F, w, h => by
    rw [Wfs] at w
    rw [stepsR_cons] at h
    rw [wrs, stepsR_app]
    cases e : stepR n s p with
    | er e2 => rw [e] at h; cases h
    | ok a =>
      obtain ⟨q1, c1⟩ := a
      obtain ⟨r1, F1⟩ := stepR_fo s F e
      rw [wr1_run s F w.1 e]
      rw [e] at h
      cases e2 : stepsR n l q1 with
      | er e3 => unfold Rs.seq at h; simp [e2] at h
      | ok b =>
        obtain ⟨q2, c2⟩ := b
        have := wrs_run l F1 w.2 e2
        unfold Rs.seq at h ⊢
        simp only [e2] at h
        simp only [this]
        exact h
theorem wr1_wf : ∀ (s : Stp), Wf false s → ∀ t ∈ wr1 s, Wf false t
  | .fnd z, _, t, h => by
    rw [wr1, List.mem_singleton] at h
    rw [h, Wf]; trivial
  | .lnk _ _, w, t, h => by rw [Wf] at w; cases w
  | .rnd k _ ss, w, t, h => by
    rw [Wf] at w
    rw [wr1] at h
    by_cases z : 0 < k * nFnds ss
    · rw [if_pos z, List.mem_flatten] at h
      obtain ⟨l, hl, ht⟩ := h
      rw [(List.mem_replicate.mp hl).2] at ht
      exact wrs_wf ss w.2.2 t ht
    · rw [if_neg z] at h; cases h
theorem wrs_wf : ∀ (l : List Stp), Wfs false l → ∀ t ∈ wrs l, Wf false t
  | [], _, t, h => by rw [wrs] at h; cases h
  | s :: r, w, t, h => by
    rw [Wfs] at w
    rw [wrs, List.mem_append] at h
    rcases h with h | h
    · exact wr1_wf s w.1 t h
    · exact wrs_wf r w.2 t h
theorem low1_wr {q : Nat → Nat} : ∀ (s : Stp), Wf false s → lows q (wr1 s) = low1 q s
  | .fnd z, _ => by rw [wr1, lows, lows, Int.add_zero]
  | .lnk _ _, w => by rw [Wf] at w; cases w
  | .rnd k _ ss, w => by
    rw [Wf] at w
    rw [wr1, low1]
    have rep : ∀ m : Nat, lows q (List.replicate m (wrs ss)).flatten = (m : Int) * lows q ss := fun m => by
      induction m with
      | zero => rw [List.replicate_zero, List.flatten_nil, lows]; omega
      | succ m ih => rw [List.replicate_succ, List.flatten_cons, lows_app, ih, lows_wrs ss w.2.2, Int.natCast_add, Int.add_mul]; omega
    by_cases z : 0 < k * nFnds ss
    · have hk : 0 < k := by
        have := w.1
        rcases Int.lt_or_eq_of_le this with y | y
        · exact y
        · rw [← y, Int.zero_mul] at z; omega
      rw [if_pos z, if_pos hk, rep]
      congr 1
      omega
    · rw [if_neg z, lows]
      by_cases hk : 0 < k
      · rw [if_pos hk]
        have l := lows_le q ss w.2.2
        have h0 := nFnds_nonneg ss w.2.2
        have : nFnds ss = 0 := by
          rcases Int.lt_or_eq_of_le h0 with y | y
          · exact absurd (Int.mul_pos hk y) z
          · exact y.symm
        have : lows q ss = 0 := by omega
        rw [this, Int.mul_zero]
      · rw [if_neg hk]
theorem lows_wrs {q : Nat → Nat} : ∀ (l : List Stp), Wfs false l → lows q (wrs l) = lows q l
  | [], _ => by rw [wrs]
  | s :: r, w => by
    rw [Wfs] at w
    rw [wrs, lows_app, lows, low1_wr s w.1, lows_wrs r w.2]
end
end Ff

/-! Numbers of forests, and all rows of few nodes. -/
namespace Ff
/-- the number of forests whose roots are r given nodes -/
def cfN (n r : Nat) : Nat := if r ≤ n then (if r = n then 1 else r * n ^ (n - r - 1)) else 0
def cfI (n : Nat) (r : Int) : Int := if 0 ≤ r ∧ r ≤ (n : Int) then (cfN n r.toNat : Int) else 0
/-- the law's own sum, layer by layer: the total and the choices -/
def layN (rest many : Nat) : Nat → Nat × Nat
  | 0 => (0, 1)
  | k + 1 => let s := layN rest many k; (s.1 + s.2 * cfN rest k, s.2 * (rest - k) * many / (k + 1))
def layOk (far : Nat) : Bool := (List.range far).all fun m => (layN (far - (m + 1)) (m + 1) (far - (m + 1) + 1)).1 == cfN far (m + 1)
theorem lay_all : ∀ far, far < 61 → layOk far = true := by decide +kernel
theorem lay_cf {far many : Nat} (h1 : 1 ≤ many) (h2 : many ≤ far) (h3 : far ≤ 60) : (layN (far - many) many (far - many + 1)).1 = cfN far many := by
  have := List.all_eq_true.mp (lay_all far (by omega)) (many - 1) (List.mem_range.mpr (by omega))
  rw [show many - 1 + 1 = many by omega] at this
  exact beq_iff_eq.mp this
end Ff

namespace Ff
/-- all rows of i numbers below n -/
def rowsM (n : Nat) : Nat → List (List Nat)
  | 0 => [[]]
  | i + 1 => (rowsM n i).flatMap fun row => (List.range n).map fun v => row ++ [v]
def parN (row : List Nat) : Nat → Nat := fun v => row.getD v 0
def noRing (n : Nat) (row : List Nat) : Bool := (List.range n).all fun v => decide (parN row (root (parN row) n v) = root (parN row) n v)
def forM (n : Nat) : List (List Nat) := (rowsM n n).filter (noRing n)
def rootN (n : Nat) (row : List Nat) : List Nat := (List.range n).filter fun v => decide (parN row v = v)
def treM (n : Nat) : List (List Nat) := (forM n).filter fun row => decide ((rootN n row).length = 1)
def cntOk (n : Nat) : Bool := (List.range 8).all (fun r => ((forM n).filter fun row => decide (rootN n row = List.range r)).length == cfN n r) && ((treM n).length == n * cfN n 1)
theorem cnt_all : ∀ n, n < 6 → cntOk n = true := by decide +kernel
theorem cnt_cf {n r : Nat} (h : n ≤ 5) (hr : r ≤ 7) : ((forM n).filter fun row => decide (rootN n row = List.range r)).length = cfN n r := by
  have := cnt_all n (by omega)
  unfold cntOk at this
  rw [Bool.and_eq_true, List.all_eq_true] at this
  exact beq_iff_eq.mp (this.1 r (List.mem_range.mpr (by omega)))
theorem cnt_tr {n : Nat} (h : n ≤ 5) : (treM n).length = n * cfN n 1 := by
  have := cnt_all n (by omega)
  unfold cntOk at this
  rw [Bool.and_eq_true] at this
  exact beq_iff_eq.mp this.2
theorem rows_len (n : Nat) : ∀ i, (rowsM n i).length = n ^ i
  | 0 => rfl
  | i + 1 => by
    show ((rowsM n i).flatMap _).length = _
    rw [List.length_flatMap]
    have : (rowsM n i).map (fun row => ((List.range n).map fun v => row ++ [v]).length) = (rowsM n i).map fun _ => n := List.map_congr_left fun e _ => by rw [List.length_map, List.length_range]
    rw [this, List.map_const', List.sum_replicate_nat, rows_len n i, Nat.pow_succ]
theorem rows_mem {n : Nat} : ∀ i, ∀ row ∈ rowsM n i, row.length = i ∧ ∀ x ∈ row, x < n
  | 0, row, h => by
    rw [List.mem_singleton.mp h]
    exact ⟨rfl, fun x hx => by cases hx⟩
  | i + 1, row, h => by
    obtain ⟨r0, h0, h1⟩ := List.mem_flatMap.mp h
    obtain ⟨v, hv, rfl⟩ := List.mem_map.mp h1
    obtain ⟨i1, i2⟩ := rows_mem i r0 h0
    refine ⟨by rw [List.length_append, i1]; rfl, fun x hx => ?_⟩
    rcases List.mem_append.mp hx with h | h
    · exact i2 x h
    · rw [List.mem_singleton.mp h]
      exact List.mem_range.mp hv
/-- the row as integers -/
def rowI (row : List Nat) : List Int := row.map fun v : Nat => (v : Int)
theorem par_row (row : List Nat) : par (rowI row) = parN row := by
  funext v
  unfold par parN rowI
  rw [List.getD_eq_getElem?_getD, List.getD_eq_getElem?_getD, List.getElem?_map]
  cases row[v]? with
  | none => rfl
  | some x => simp
theorem ver_row {n : Nat} (hn : n ≤ 40) {row : List Nat} (hl : row.length = n) (hx : ∀ x ∈ row, x < n) : (match verdict (rowI row) with | .ok => true | _ => false) = noRing n row := by
  have hlen : (rowI row).length = n := by unfold rowI; rw [List.length_map, hl]
  have hw : ∀ v, v < (rowI row).length → wideB (rowI row) v = false := fun v hv => by
    rw [wide_iff, hlen]
    unfold rowI
    rw [List.getD_eq_getElem?_getD, List.getElem?_map]
    have hv' : v < row.length := by omega
    rw [List.getElem?_eq_getElem hv']
    have := hx row[v] (List.getElem_mem hv')
    simp
    omega
  have key : verdict (rowI row) = .ok ↔ noRing n row = true := by
    rw [ver_ok, hlen, par_row]
    unfold noRing
    rw [List.all_eq_true]
    constructor
    · rintro ⟨_, _, h⟩ v hv
      have := h v (List.mem_range.mp hv)
      unfold ringB at this
      simpa using this
    · intro h
      refine ⟨hn, hlen ▸ hw, fun v hv => ?_⟩
      have := h v (List.mem_range.mpr hv)
      unfold ringB
      simpa using this
  cases e : verdict (rowI row) with
  | ok => exact (key.mp e).symm
  | many =>
    cases e2 : noRing n row with
    | false => rfl
    | true => have := key.mpr e2; rw [e] at this; cases this
  | bad v =>
    cases e2 : noRing n row with
    | false => rfl
    | true => have := key.mpr e2; rw [e] at this; cases this
  | cyc v =>
    cases e2 : noRing n row with
    | false => rfl
    | true => have := key.mpr e2; rw [e] at this; cases this
end Ff

namespace ExX
open PySem PySem.Spec PyProof.Rows L2 Builtin.ObjectAttr
/-- an own class over some built-in exception, its instances having a dict -/
structure ExB (K : PySem.W.Frag) (C : Addr) (nid : String) (tl : List Value) : Prop where
  ini : PySem.W.excInitIn K C tl nid = true
  ov : PySem.W.excOver K C tl = true
  hdt : PySem.W.hasDictIn K C = true
  sat : PySem.W.findIn K (.ref C) "__setattr__" = some (some (.builtin "object.__setattr__"))
  sub : PySem.W.subIn K (.ref C) (.type "BaseException") = some true
  typ : PySem.W.typeIn K (.ref C) = some (.type "type")
  kep : PySem.W.keepIn K (.ref C) = true
def exB (K : PySem.W.Frag) (C : Addr) (nid : String) (tl : List Value) : Bool :=
  PySem.W.excInitIn K C tl nid && PySem.W.excOver K C tl && PySem.W.hasDictIn K C && decide (PySem.W.findIn K (.ref C) "__setattr__" = some (some (.builtin "object.__setattr__"))) && decide (PySem.W.subIn K (.ref C) (.type "BaseException") = some true) &&
    decide (PySem.W.typeIn K (.ref C) = some (.type "type")) && PySem.W.keepIn K (.ref C)
theorem exB_ok {K : PySem.W.Frag} {C : Addr} {nid : String} {tl : List Value} (h : exB K C nid tl = true) : ExB K C nid tl := by
  unfold exB at h
  simp only [Bool.and_eq_true, decide_eq_true_eq] at h
  obtain ⟨⟨⟨⟨⟨⟨a, b⟩, c⟩, d⟩, e⟩, f⟩, g⟩ := h
  exact ⟨a, b, c, d, e, f, g⟩
section
variable {prog : Program} {w : World} {A : Around} {R : Result → Shared → Prop} {hp : Heap} {g : Array GenState} {dr : Drawn} {tk0 : Nat} {os : OsState} {K : PySem.W.Frag} {B nid : String} {tl : List Value} {x C t1 : Addr} {nm : Str} {tk : Tok} {v : Value}
theorem sa_new (SB : StoreFacts B tl "object.__setattr__" "object") (X : K.In hp) (T : ExB K C nid tl) (hx : hp.get? x = some (PySem.W.excObj C t1 none .none)) (ha : PySem.W.findIn K (.ref C) nm = some none)
    (hq : ∀ h2 tk2 dx, (∀ b o, b ≠ x → hp.get? b = some o → h2.get? b = some o) → hp.objs.size ≤ dx → dx ≠ x → h2.get? x = some (PySem.W.excObj C t1 (some dx) .none) →
      h2.Ns1 dx (fun y => if y = nm then some v else none) → R (.ok (.ret .none)) ⟨h2, g, dr, tk2, os⟩) :
    codeAny (model prog w) A (.call (.builtin "object.__setattr__") ⟨[.ref x, .str nm tk, v], []⟩) R ⟨hp, g, dr, tk0, os⟩ := by
  refine PySem.W.osa_openX (od := none) (r := none) SB X ⟨hx, rfl, rfl, trivial⟩ T.ov (by unfold PySem.W.takerIn; rw [ha]; rfl) fun b => ?_
  obtain ⟨cd, hc, hd2⟩ := PySem.W.any_some T.hdt
  have hxs : x ≠ hp.objs.size := Nat.ne_of_lt (Heap.lt_size hx)
  refine wpAny_bind (wpAny_pure (wpAny_bind (PySem.W.instanceDict_exc hx (PySem.W.looks_clsIn X hc) hd2 ?_)))
  show wpAny _ _ (storeInDict hp.objs.size (.str nm tk) nm v) _ _ _
  refine HandSPX.store_in_new ?_ ?_
  · exact ⟨_, #[], _, (Heap.get?_update_ne _ _ _ _ hxs.symm).trans (Heap.get?_push_at rfl rfl), rfl, fun e he => absurd he (by simp), fun _ => rfl⟩
  · intro h2 tk2 hn hs
    have hx1 := Heap.get?_push_of_some (h := hp) (PySem.W.dictOf [] 0) hx
    refine hq h2 tk2 hp.objs.size (fun b o hb ho => ?_) (Nat.le_refl _) hxs.symm ?_ hn
    · exact (hs.2 b (Nat.ne_of_lt (Heap.lt_size ho))).trans ((Heap.get?_update_ne _ _ _ _ hb).trans (Heap.get?_push_of_some _ ho))
    · exact (hs.2 x hxs).trans (Heap.get?_update_self _ hx1 rfl)
theorem sa_old {dx : Addr} {m0 : Str → Option Value} {nl : List Str} (SB : StoreFacts B tl "object.__setattr__" "object") (X : K.In hp) (T : ExB K C nid tl) (hx : hp.get? x = some (PySem.W.excObj C t1 (some dx) .none)) (hns : hp.Ns1 dx m0) (hw : Within m0 nl) (hz : nl.length ≤ 1000)
    (ha : PySem.W.findIn K (.ref C) nm = some none)
    (hq : ∀ h2 tk2, (∀ b o, b ≠ dx → hp.get? b = some o → h2.get? b = some o) → h2.Ns1 dx (fun y => if y = nm then some v else m0 y) → R (.ok (.ret .none)) ⟨h2, g, dr, tk2, os⟩) :
    codeAny (model prog w) A (.call (.builtin "object.__setattr__") ⟨[.ref x, .str nm tk, v], []⟩) R ⟨hp, g, dr, tk0, os⟩ := by
  obtain ⟨oD, esD, epD, hoD, hdD, _⟩ := hns.count hw
  refine PySem.W.osa_openX (od := some oD) (r := none) SB X ⟨hx, rfl, rfl, hoD⟩ T.ov (by unfold PySem.W.takerIn; rw [ha]; rfl) fun b => ?_
  show wpAny _ _ (storeInOwnDict (.ref x) (.ref C) (.str nm tk) nm v b) _ _ _
  obtain ⟨cd, hc, hd2⟩ := PySem.W.any_some T.hdt
  have lc : PySem.W.Looks (model prog w) hp (classData C) cd := PySem.W.looks_clsIn X hc
  obtain ⟨c1, c2, c3, c4, c5, c6, c7, c8, c9, c10, c11⟩ := cd
  dsimp only at hd2
  subst hd2
  unfold storeInOwnDict ownDictForStores
  repeat (first | with_reducible refine PySem.OEX.store_in_old hns hw hz ?_ | with_reducible refine wpAny_loadPart_at hx ?_ | with_reducible refine lc.at ?_ | wp_step)
  intro h2 tk2 hn hs
  exact hq h2 tk2 (fun b o hb ho => (hs.2 b hb).trans ho) hn
end
section
variable {X : Cx} {pins : List (Addr × Obj)} {σ : L2.St} {H : Hp} {s : Shared} {a C dx : Addr} {f : Str} {y : V} {u : Value} {fs : List (Str × V)} {Q : Unit → Shared → Prop} {E : Value → Shared → Prop} {A : Around} {B nid iid : String} {tl : List Value}
/-- the object at a gets its dict at dx -/
theorem inv_dict {hp h2 : Heap} {g : Array GenState} {dr : Drawn} {tk tk2 : Nat} {os : OsState} {t1 : Addr} (I : Inv X pins σ H ⟨hp, g, dr, tk, os⟩) (e : H a = some (exo a C none)) (ry : RelV y u) (k : ∀ b o, b ≠ a → hp.get? b = some o → h2.get? b = some o) (dn : hp.objs.size ≤ dx)
    (hx : h2.get? a = some (PySem.W.excObj C t1 (some dx) .none)) (hn : h2.Ns1 dx (fun y => if y = f then some u else none)) : Inv X pins σ (upd (upd H dx (exd dx [(f, y)])) a (exo a C (some dx))) ⟨h2, g, dr, tk2, os⟩ := by
  have fresh : H dx = none := I.hok.fresh dn
  have old_ne : ∀ {b : Addr} {o : Obj}, hp.get? b = some o → b ≠ dx := fun {b o} q => Nat.ne_of_lt (Nat.lt_of_lt_of_le (Heap.lt_size q) dn)
  have free_ne : ∀ {b : Addr}, H b = none → b ≠ a := fun {b} n z => by
    subst z
    rw [e] at n
    cases n
  have look : ∀ {b : Addr} {o : HO}, H b = some o → b ≠ a → upd (upd H dx (exd dx [(f, y)])) a (exo a C (some dx)) b = some o := fun {b o} q hb => by rw [upd_ne hb, upd_ne (ne_of_none q fresh)]; exact q
  refine I.un (t' := tk2) ⟨fun b o q n _ _ => k b o (free_ne n) q, fun b o q n _ _ => ⟨o.slots, k b o (free_ne n) q⟩, fun b o q n _ => ?_, fun b o q _ => ?_, fun b xs q => look q (at_ne e q exo_tup), fun b o v q => look q (at_ne e q exo_frz), fun b ps q => ⟨#[], ?_⟩⟩ fun b o q => ?_
  · rw [upd_ne (free_ne n), upd_ne (old_ne q)]
    exact n
  · by_cases hb : b = a
    · exact ⟨_, hb ▸ hx⟩
    · exact ⟨o, k b o hb q⟩
  · rw [look q (at_ne e q exo_tbl)]
    simp
  · by_cases hb : b = a
    · rw [hb, upd_same] at q
      rw [hb, ← Option.some.inj q]
      exact exo_ok hx
    rw [upd_ne hb] at q
    by_cases hd : b = dx
    · rw [hd, upd_same] at q
      rw [hd, ← Option.some.inj q]
      exact exd_ok hn (relO_put (fs := []) ry fun _ => True.intro)
    rw [upd_ne hd] at q
    refine (I.hok b o q).stay (fun c v hc z => k c v ?_ z) (fun c hc => look hc (at_ne e hc exo_own)) fun c xs hc => look hc (at_ne e hc exo_tup)
    rcases hc with hc | hc
    · exact hc ▸ hb
    · exact at_ne e hc exo_own
theorem st_new (SB : StoreFacts B tl "object.__setattr__" "object") (T : ExB X.K C nid tl) (I : Inv X pins σ H s) (e : H a = some (exo a C none)) (hno : PySem.W.findIn X.K (.ref C) f = some none) (ry : RelV y u)
    (h : ∀ dx s2, H dx = none → dx ≠ a → Inv X pins σ (upd (upd H dx (exd dx [(f, y)])) a (exo a C (some dx))) s2 → Q () s2) : wpAny (model X.prog X.w) A (setAttr (.ref a) f u) Q E s := by
  obtain ⟨t1, ho⟩ := exo_at I.hok e
  obtain ⟨hp, g, dr, tk, os⟩ := s
  exact PySem.W.set_plain I.kIn (ox := PySem.W.excObj C t1 none .none) (od := none) ⟨ho, rfl, rfl, trivial⟩ T.sat (sa_new SB I.kIn T ho hno fun h2 tk2 dx k dn dne hx hn => h dx _ (I.hok.fresh dn) dne (inv_dict I e ry k dn hx hn))
theorem st_old (SB : StoreFacts B tl "object.__setattr__" "object") (T : ExB X.K C nid tl) (I : Inv X pins σ H s) (e : H a = some (exo a C (some dx))) (ed : H dx = some (exd dx fs)) (hl : fs.length ≤ 900) (hno : PySem.W.findIn X.K (.ref C) f = some none) (ry : RelV y u)
    (h : ∀ s2, Inv X pins σ (upd H dx (exd dx ((f, y) :: fs))) s2 → Q () s2) : wpAny (model X.prog X.w) A (setAttr (.ref a) f u) Q E s := by
  obtain ⟨t1, ho⟩ := exo_at I.hok e
  obtain ⟨mA, hns, rel⟩ := exd_at I.hok ed
  have hw := within_of rel
  obtain ⟨hp, g, dr, tk, os⟩ := s
  obtain ⟨oD, _, _, hoD, _, _⟩ := hns.count hw
  refine PySem.W.set_plain I.kIn (ox := PySem.W.excObj C t1 (some dx) .none) (od := some oD) ⟨ho, rfl, rfl, hoD⟩ T.sat (sa_old SB I.kIn T ho hns hw (by rw [List.length_map]; omega) hno fun h2 tk2 k hn => ?_)
  obtain ⟨o, es, ep, e1, er⟩ := hn
  exact h _ (I.write (t' := tk2) (x := dx) (e := dx) (o := exd dx ((f, y) :: fs)) (by rw [ed]; trivial) (.inl rfl) k ⟨o, e1⟩ (exd_ok ⟨o, es, ep, e1, er⟩ (relO_put ry rel)))
/-- B.__init__(self, ..): it lays the args anew, which are not told -/
theorem base_init {us : List Value} {Q : Value → Shared → Prop} (FB : ExcBaseFacts B nid iid tl) (T : ExB X.K C nid tl) (I : Inv X pins σ H s) (e : H a = some (exo a C none)) (hl : us.length ≤ sizeLine) (h : ∀ s2, Inv X pins σ H s2 → Q .none s2) :
    wpAny (model X.prog X.w) A (call (.builtin iid) (.ref a :: us)) Q E s := by
  obtain ⟨nm, N, qn, bs, bm, hdct, sn, sub, ab, col, dd, k0, k1, k2, k3, k5, hC, hT⟩ := PySem.W.excInit_of I.kIn T.ini
  obtain ⟨t1, ho⟩ := exo_at I.hok e
  obtain ⟨hp, g, dr, tk, os⟩ := s
  refine wpAny_call (PySem.HandSPX.init_base FB hT hC ho hl fun h2 t2 k hx => h _ ?_)
  have J := I.write (t' := tk) (x := a) (e := a) (o := exo a C none) (by rw [e]; trivial) (.inl rfl) k ⟨_, hx⟩ (exo_ok hx)
  have same : upd H a (exo a C none) = H := funext fun b => by
    by_cases hb : b = a
    · rw [hb, upd_same, e]
    · rw [upd_ne hb]
  rwa [same] at J
end
/-! ### rules -/
/-- self.f = e, self an exception in the making -/
def tSt (K : PySem.W.Frag) (nid : String) (tl : List Value) (f : Str) (to te : TE) : TS := fun D σ H => te σ H fun y H1 => to σ H1 fun x H2 => ∃ a C : Addr, x = .ref a ∧ ExB K C nid tl ∧ PySem.W.findIn K (.ref C) f = some none ∧
  ((H2 a = some (exo a C none) ∧ ∀ dx, H2 dx = none → dx ≠ a → D.nx σ (upd (upd H2 dx (exd dx [(f, y)])) a (exo a C (some dx)))) ∨
    ∃ (dx : Addr) (fs : List (Str × V)), H2 a = some (exo a C (some dx)) ∧ H2 dx = some (exd dx fs) ∧ fs.length ≤ 900 ∧ D.nx σ (upd H2 dx (exd dx ((f, y) :: fs))))
/-- B.__init__(self, ..) -/
def tBi (K : PySem.W.Frag) (nid : String) (tl : List Value) (ta : TA) : TE := fun σ H Q => ta σ H fun vs H1 => ∃ (a C : Addr) (ws : List V), vs = .ref a :: ws ∧ ws.length ≤ 1000 ∧ ExB K C nid tl ∧ H1 a = some (exo a C none) ∧ Q .non H1
section
variable {X : Cx} {o e : Expr} {es : List Expr} {to te : TE} {ta : TA} {f x : Str} {p p1 p2 pos : Pos} {B nid iid : String} {tl : List Value}
theorem ps_st (SB : StoreFacts B tl "object.__setattr__" "object") (ho : PE X o to) (he : PE X e te) (hs : swapsWith e (some (.Attribute o f p)) pos.line X.env = pure false := by rfl) : PS X (.Assign [.Attribute o f p] e pos) (tSt X.K nid tl f to te) := by
  refine ⟨fun pins s σ H D I h => plainObj_wpAny_Assign_Attribute (thn (he.run pins s σ H _ I h) fun v s1 ⟨y, H1, I1, r1, q1⟩ => thn (ho.run pins s1 σ H1 _ I1 q1) fun u s2 ⟨z, H2, I2, r2, a, C, ex, T, hno, q⟩ => ?_) hs⟩
  subst ex
  obtain rfl : u = Value.ref a := r2
  rcases q with ⟨ea, q⟩ | ⟨dx, fs, ea, ed, hl, q⟩
  · exact st_new SB T I2 ea hno r1 fun dx s3 n ne J => ⟨σ, _, J, q dx n ne⟩
  · exact st_old SB T I2 ea ed hl hno r1 fun s3 J => ⟨σ, _, J, q⟩
theorem pe_bi {xB : Str} {pl : Sem Bool} (FB : ExcBaseFacts B nid iid tl) (ty : typeOf (.type B) = pure (.type "type")) (st : Manifest.isStub B = false) (bo : bootBuiltins xB = some (.type B)) (hn1 : xB ≠ "__name__") (hn2 : (xB == ("__debug__" : Str)) = false) (hh : PySem.W.handedIn (.builtin iid) = true) (hg : Gl X xB) (hm : X.mg xB = none) (vV : PySem.W.findCls X.K (.type B) (.type "type") "__init__" = some (.val (.builtin iid))) (ha : PA X (e :: es) ta)
    (hc : eval (.Call (.Attribute (.Name xB p1) "__init__" p2) (e :: es) [] pos) X.env = (do
      let z ← eval (.Name xB p1) X.env
      standAt p2.atName
      let (f1, fst) ← holding [z] (getMethod z "__init__" pl)
      callWith pos f1 fst (backTo pos (starEach (e :: es) X.env)) (backToKw pos (keywordEach [] X.env))) := by rfl)
    (he : starEach (e :: es) X.env = (false, eval e X.env) :: starEach es X.env := by rfl) (hpl : (backTo pos (starEach es X.env)).any (·.1) = false := by rfl) :
    PE X (.Call (.Attribute (.Name xB p1) "__init__" p2) (e :: es) [] pos) (tBi X.K nid tl ta) := by
  refine ⟨fun pins s σ H Q I h => PySem.W.methodCall_KW (ld_blt I hg hm bo ?_ hn1 hn2) hc⟩
  obtain ⟨m, fr⟩ := I.fr
  refine PySem.W.method_type fr I.ok.mod.kin ty st vV hh ?_
  show wpAny _ _ (callWith pos (Value.builtin iid) [] (backTo pos (starEach (e :: es) X.env)) []) _ _ _
  refine PyProof.Rows.callWith_method1 (thn (ha.run pos pins _ σ H _ (I.tok _) h) fun us s1 ⟨vs, H1, I1, r1, a, C, ws, ev, hl, T, ea, q⟩ => ?_) he hpl
  subst ev
  cases r1 with
  | @cons _ u0 _ ur ra rw2 =>
    obtain rfl : u0 = Value.ref a := ra
    exact base_init FB T I1 ea (by rw [← Paired.length rw2, sizeLine_eq]; omega) fun s2 J => ⟨.non, H1, J, rfl, q⟩
end
end ExX

namespace ExX
open PySem PySem.Spec PyProof.Rows L2 Builtin.ObjectAttr
/-- what the written part says of D.__init__, read off the class itself: the def at f -/
structure ClsI (K : PySem.W.Frag) (D f : Addr) : Prop where
  rd : PySem.W.readsIn K D (.type "type") = true
  fc : PySem.W.findCls K (.ref D) (.type "type") "__init__" = some (.val (.ref f))
  sp : PySem.W.specialIn K (.ref D) "__getattribute__" = some (some (.builtin "type.__getattribute__"))
  kp : PySem.W.keepIn K (.ref f) = true
  kd : PySem.W.keepIn K (.ref D) = true
def clsI (K : PySem.W.Frag) (D f : Addr) : Bool := PySem.W.readsIn K D (.type "type") && (match PySem.W.findCls K (.ref D) (.type "type") "__init__" with | some (.val v) => decide (v = .ref f) | _ => false) &&
  decide (PySem.W.specialIn K (.ref D) "__getattribute__" = some (some (.builtin "type.__getattribute__"))) && PySem.W.keepIn K (.ref f) && PySem.W.keepIn K (.ref D)
theorem clsI_ok {K : PySem.W.Frag} {D f : Addr} (h : clsI K D f = true) : ClsI K D f := by
  unfold clsI at h
  simp only [Bool.and_eq_true, decide_eq_true_eq] at h
  obtain ⟨⟨⟨⟨a, b⟩, c⟩, d⟩, e⟩ := h
  refine ⟨a, ?_, c, d, e⟩
  split at b
  · rename_i v hv
    rw [hv, of_decide_eq_true b]
  · cases b
/-- what C(..) asks, the arguments evaluated -/
def mkW (C : Addr) (sp : Sp) (vs : List V) (H1 : Hp) (Q : XK) : Prop := vs.length ≤ 1000 ∧ ∀ a, H1 a = none → sp (.ref a :: vs) (upd H1 a (exo a C none))
  (fun v H2 => v = .non ∧ ∃ (d : Addr) (fs : List (Str × V)), H2 a = some (exo a C (some d)) ∧ H2 d = some (exd d fs) ∧ H1 d = none ∧ Q (.ref C) (some d) (upd (del H2 a) d (.xd fs))) (fun _ _ _ => False)
section
variable {X : Cx} {e : Expr} {es : List Expr} {ta : TA} {x : Str} {p p1 p2 pos : Pos} {CX : CXT} {k : Nat} {D f : Addr} {fd : FuncData} {ps : List Str} {sp : Sp} {E : XK}
theorem pe_ci {pl : Sem Bool} (T : ClsI X.K D f) (F : FnOk X.prog X.w X.K X.mg X.base CX k f fd ps sp) (hr : Room k X.A) (hg : Gl X x) (hm : X.mg x = some (.ref D)) (hb : L2.Binds X.K fd ps []) (hx : Passes CX X E) (ha : PA X (e :: es) ta)
    (hdb : (x == ("__debug__" : Str)) = false := by decide)
    (hc : eval (.Call (.Attribute (.Name x p1) "__init__" p2) (e :: es) [] pos) X.env = (do
      let z ← eval (.Name x p1) X.env
      standAt p2.atName
      let (f1, fst) ← holding [z] (getMethod z "__init__" pl)
      callWith pos f1 fst (backTo pos (starEach (e :: es) X.env)) (backToKw pos (keywordEach [] X.env))) := by rfl)
    (he : starEach (e :: es) X.env = (false, eval e X.env) :: starEach es X.env := by rfl) (hpl : (backTo pos (starEach es X.env)).any (·.1) = false := by rfl) :
    PE X (.Call (.Attribute (.Name x p1) "__init__" p2) (e :: es) [] pos) (tCall sp [] E ta) := by
  refine ⟨fun pins s σ H Q I h => PySem.W.methodCall_KW (ld_glob I hg hm ?_ hdb) hc⟩
  refine PySem.W.method_cls I.kIn T.sp (PySem.W.cls_value I.kIn T.rd T.fc rfl ?_)
  refine PySem.W.callWith_K (first := []) (h₀ := X.base) I.ok.mod.kin T.kp (thn (ha.run pos pins _ σ H _ (I.tok _) h) fun us s1 ⟨vs, H1, I1, r, q⟩ => ⟨I1.kIn, ?_⟩) he hpl
  exact run_fn F hr hb .nil hx I1 r q
theorem pmk {C fI : Addr} {B nid iid : String} {tl : List Value} {R : List V → Hp → XK → Prop} (FB : ExcBaseFacts B nid iid tl) (T : ExB X.K C nid tl) (iC : PySem.W.findIn X.K (.ref C) "__init__" = some (some (.ref fI))) (tI : PySem.W.typeIn X.K (.ref fI) = some (.type "function"))
    (F1 : FnOk X.prog X.w X.K X.mg X.base CX k fI fd ps sp) (hr : Room (k + 1) X.A) (hb : L2.Binds X.K fd ps []) (hx : Passes CX X (fun _ _ _ => False)) (hg : Gl X x) (hm : X.mg x = some (.ref C)) (ha : PA X (e :: es) ta) (hR : ∀ vs H1 Q, R vs H1 Q → mkW C sp vs H1 Q)
    (hdb : (x == ("__debug__" : Str)) = false := by decide) (he : starEach (e :: es) X.env = (false, eval e X.env) :: starEach es X.env := by rfl) (hpl : (backTo pos (starEach es X.env)).any (·.1) = false := by rfl) :
    L2N.PMk X (.Call (.Name x p) (e :: es) [] pos) (fun σ H Q => ta σ H fun vs H1 => R vs H1 Q) := by
  intro pins s σ H Q I h
  refine wpAny_Call_Name_kw (ld_glob I hg hm ?_ hdb)
  refine PySem.W.callWith_K (h₀ := X.base) I.ok.mod.kin T.kep (thn (ha.run pos pins s σ H _ I h) fun us s1 ⟨vs, H1, I1, r1, q0⟩ => ⟨I1.kIn, ?_⟩) he hpl
  obtain ⟨hz, q1⟩ := hR _ _ _ q0
  obtain ⟨nm, N, qn, bs, bm, hdct, sn, sub, ab, col, dd, k0, k1, k2, k3, k5, hC, hT⟩ := PySem.W.excInit_of I1.kIn T.ini
  obtain ⟨hp, g, dr, tk, os⟩ := s1
  -- the new exception lies behind its args
  let h1 : Heap := (hp.push (PySem.W.kdv_tup us)).push (PySem.HandSPX.excO C hp.objs.size)
  have kk : ∀ b o, hp.get? b = some o → h1.get? b = some o := fun b o e => Heap.get?_push_of_some _ (Heap.get?_push_of_some _ e)
  have new : h1.get? (hp.objs.size + 1) = some (PySem.HandSPX.excO C hp.objs.size) := by show Heap.get? ((hp.push (PySem.W.kdv_tup us)).push (PySem.HandSPX.excO C hp.objs.size)) _ = _; heap_get
  have hq := q1 (hp.objs.size + 1) (I1.hok.fresh (Nat.le_succ _))
  have I2 : Inv X pins σ (upd H1 (hp.objs.size + 1) (exo (hp.objs.size + 1) C none)) ⟨h1, g, dr, tk, os⟩ := I1.laid (t' := tk) (a := hp.objs.size + 1) (o := exo (hp.objs.size + 1) C none) kk (Nat.le_succ _) (exo_ok new)
  have r2 : Vals (V.ref (hp.objs.size + 1) :: vs) (Value.ref (hp.objs.size + 1) :: us) := .cons rfl r1
  have hl : (Value.ref (hp.objs.size + 1) :: us).length = ps.length := by rw [← r2.length]; exact F1.len _ _ _ _ hq
  have hb2 := hb ⟨h1, g, dr, tk, os⟩ (Value.ref (hp.objs.size + 1) :: us) I2.kIn (by rw [List.append_nil]; exact hl)
  rw [List.append_nil] at hb2
  show wpAny _ _ (call (.ref C) us) _ _ _
  refine wpAny_call (PySem.HandSPX.call_own FB hT hC (PySem.W.looks_findIn I1.kIn iC) (fun self => PySem.W.bind_fn I1.kIn self tI) (by rw [← Paired.length r1, sizeLine_eq]; omega) ?_)
  refine codeAny_mono (F1.run _ X.stack _ _ ⟨Value.ref (hp.objs.size + 1) :: us, []⟩ _ _ _ (fun _ _ _ => False) (hr.make C us []) (I2.env0.make C us []) hb2 r2 hq) fun r s2 z => ?_
  cases r with
  | error er => exact hx pins σ _ _ er s2 I2 z
  | ok fl =>
    cases fl with
    | ret u =>
      obtain ⟨v, H2, os2, bare2, un2, hok2, rv, ev, d, fs, ea, ed, hd1, q2⟩ := z
      subst ev
      obtain ⟨h2, g2, d2, t2, os3⟩ := s2
      obtain ⟨t0, G, J, kG, ge, hoe, na⟩ := mk_end0 (d2 := d2) (t2 := t2) I1 (Nat.le_succ _) kk un2 hok2 os2 bare2 ea ed hd1
      exact ⟨rv, _, _, _, ⟨G, g2, d2, t2, os3⟩, _, .ref C, some d, rfl, J, kG, ge, hoe, ⟨rfl, rfl, fun vs z => by cases z; rfl⟩, rfl, rfl, na, rfl, bare2, raises_own T.sub T.typ, q2⟩
    | _ => exact z.elim
end
end ExX

namespace ExX
open PySem PySem.Spec PyProof.Rows L2
/-- what an except clause's own expression t asks of an exception's class -/
def Tst (X : Cx) (t : Expr) (m : Value → Option Bool) : Prop := ∀ (a : Addr) (oe : Obj) (pn pins : List (Addr × Obj)) (σ : L2.St) (H : Hp) (s : Shared) (b : Bool) (Q : Bool → Shared → Prop) (E : Value → Shared → Prop), Inv (X.suite a ((a, oe) :: pn)) pins σ H s → m oe.cls = some b →
  (∀ h2, (∀ c o, s.heap.get? c = some o → h2.get? c = some o) → Q b { s with heap := h2 }) →
  wpAny (model X.prog X.w) (X.A.mark (some (.ref a))) (eval t X.env) (fun c s1 => wpAny (model X.prog X.w) (X.A.mark (some (.ref a))) (excMatches (.ref a) c) Q E s1) E s
section
variable {X : Cx} {x x1 x2 x3 : Str} {C C1 C2 C3 : Addr} {np np1 np2 np3 tp : Pos}
theorem tst_one (hg : Gl X x) (hm : X.mg x = some (.ref C)) (hdb : (x == ("__debug__" : Str)) = false := by decide) : Tst X (.Name x np) (fun cls => PySem.W.exmOne X.K cls (.ref C)) := by
  intro a oe pn pins σ H s b Q E I hb q
  have at1 := (I.pin (a, oe) (List.mem_append_left _ List.mem_cons_self)).1
  have lt : PySem.W.Looks (model X.prog X.w) s.heap (typeOf (.ref a)) oe.cls := fun A Q E s2 k q => wpAny_typeOf_ref (k _ _ at1) q
  exact ld_glob (X := X.suite a ((a, oe) :: pn)) I hg hm ((PySem.W.exm_one I.kIn lt hb).here (q s.heap fun _ _ e => e)) hdb
theorem tst_two {ctx} (hg1 : Gl X x1) (hm1 : X.mg x1 = some (.ref C1)) (hg2 : Gl X x2) (hm2 : X.mg x2 = some (.ref C2)) (hd1 : (x1 == ("__debug__" : Str)) = false := by decide) (hd2 : (x2 == ("__debug__" : Str)) = false := by decide) :
    Tst X (.Tuple [.Name x1 np1, .Name x2 np2] ctx tp) (fun cls => PySem.W.exmAny X.K cls [.ref C1, .ref C2]) := by
  intro a oe pn pins σ H s b Q E I hb q
  have at1 := (I.pin (a, oe) (List.mem_append_left _ List.mem_cons_self)).1
  refine wpAny_Tuple_spliced (Calls.spliced_cons (ld_glob (X := X.suite a ((a, oe) :: pn)) I hg1 hm1 (Calls.spliced_cons (ld_glob (X := X.suite a ((a, oe) :: pn)) I hg2 hm2 (Calls.spliced_nil ⟨by rw [sizeLine_eq]; simp, ?_⟩) hd2)) hd1))
  have lt : PySem.W.Looks (model X.prog X.w) (s.heap.push { cls := .type "tuple", data := .seq [Value.ref C1, .ref C2].toArray }) (typeOf (.ref a)) oe.cls := fun A Q E s2 k q => wpAny_typeOf_ref (k _ _ (Heap.get?_push_of_some _ at1)) q
  exact (PySem.W.exm_tup2 (I.kIn.keeps fun _ _ e => Heap.get?_push_of_some _ e) lt (Heap.get?_push_size _ rfl) hb).here (q _ fun _ _ e => Heap.get?_push_of_some _ e)
theorem tst_three {ctx} (hg1 : Gl X x1) (hm1 : X.mg x1 = some (.ref C1)) (hg2 : Gl X x2) (hm2 : X.mg x2 = some (.ref C2)) (hg3 : Gl X x3) (hm3 : X.mg x3 = some (.ref C3)) (hd1 : (x1 == ("__debug__" : Str)) = false := by decide) (hd2 : (x2 == ("__debug__" : Str)) = false := by decide) (hd3 : (x3 == ("__debug__" : Str)) = false := by decide) :
    Tst X (.Tuple [.Name x1 np1, .Name x2 np2, .Name x3 np3] ctx tp) (fun cls => PySem.W.exmAny X.K cls [.ref C1, .ref C2, .ref C3]) := by
  intro a oe pn pins σ H s b Q E I hb q
  have at1 := (I.pin (a, oe) (List.mem_append_left _ List.mem_cons_self)).1
  refine wpAny_Tuple_spliced (Calls.spliced_cons (ld_glob (X := X.suite a ((a, oe) :: pn)) I hg1 hm1 (Calls.spliced_cons (ld_glob (X := X.suite a ((a, oe) :: pn)) I hg2 hm2 (Calls.spliced_cons (ld_glob (X := X.suite a ((a, oe) :: pn)) I hg3 hm3 (Calls.spliced_nil ⟨by rw [sizeLine_eq]; simp, ?_⟩) hd3)) hd2)) hd1))
  have lt : PySem.W.Looks (model X.prog X.w) (s.heap.push { cls := .type "tuple", data := .seq [Value.ref C1, .ref C2, .ref C3].toArray }) (typeOf (.ref a)) oe.cls := fun A Q E s2 k q => wpAny_typeOf_ref (k _ _ (Heap.get?_push_of_some _ at1)) q
  exact (PySem.W.exm_tup3 (I.kIn.keeps fun _ _ e => Heap.get?_push_of_some _ e) lt (Heap.get?_push_size _ rfl) hb).here (q _ fun _ _ e => Heap.get?_push_of_some _ e)
end
/-- the ends with the slot i unset -/
def unset (i : Nat) (D : Ends) : Ends := { nx := fun σ H => D.nx (σ.set i none) H, rt := D.rt, bk := fun σ H => D.bk (σ.set i none) H, ct := fun σ H => D.ct (σ.set i none) H }
/-- a clause: whom it takes, the slot of its name, its suite's reading -/
structure Cl where
  m : Value → Option Bool
  slot : Option Nat
  ts : Addr → Value → Option Addr → TS
def Cl.wish (c : Cl) (D : Ends) (a : Addr) (cls : Value) (d : Option Addr) (σ : L2.St) (H : Hp) : Prop := match c.slot with
  | none => c.ts a cls d D σ H
  | some i => c.ts a cls d (unset i D) (σ.set i (some (.ref a))) H
def wCl (Wout : WX) (D : Ends) : List Cl → WX
  | [] => Wout
  | c :: r => fun cls d σ H => ∃ b, c.m cls = some b ∧ (b = true → ∀ a, H a = none → c.wish D a cls d σ H) ∧ (b = false → wCl Wout D r cls d σ H)
inductive ClsOk (X : Cx) : List ExceptHandler → List Cl → Prop
  | nil : ClsOk X [] []
  | only {t : Expr} {m : Value → Option Bool} {ts : Addr → Value → Option Addr → TS} {b0 : Stmt} {su : List Stmt} {ps : Pos} {hds : List ExceptHandler} {l : List Cl} (hc : Tst X t m)
      (hsu : ∀ (a : Addr) (oe : Obj) (cls : Value) (d : Option Addr) (pn : List (Addr × Obj)), L2N.Zn cls d oe → (∃ vs, oe.data = .fields vs) → PSs (X.suite a ((a, oe) :: pn)) (b0 :: su) (ts a cls d)) (r : ClsOk X hds l) :
      ClsOk X (.ExceptHandler (some t) none (b0 :: su) ps :: hds) (⟨m, none, ts⟩ :: l)
  | named {t : Expr} {m : Value → Option Bool} {ts : Addr → Value → Option Addr → TS} {b0 : Stmt} {su : List Stmt} {ps : Pos} {n : Str} {i : Nat} {hds : List ExceptHandler} {l : List Cl} (hN : X.N.Nodup) (hi : X.N[i]? = some n) (hln : X.env.kindOf n = some .local) (hc : Tst X t m)
      (hsu : ∀ (a : Addr) (oe : Obj) (cls : Value) (d : Option Addr) (pn : List (Addr × Obj)), L2N.Zn cls d oe → (∃ vs, oe.data = .fields vs) → PSs (X.suite a ((a, oe) :: pn)) (b0 :: su) (ts a cls d)) (r : ClsOk X hds l) :
      ClsOk X (.ExceptHandler (some t) (some n) (b0 :: su) ps :: hds) (⟨m, some i, ts⟩ :: l)
theorem flying_kept {B h h2 : Heap} {l : List Env} {a : Addr} {Z : Obj → Prop} (fl : HandSPX.FlyingZ B l a Z h) (k : ∀ c o, h.get? c = some o → h2.get? c = some o) : HandSPX.FlyingZ B l a Z h2 := by
  obtain ⟨f1, f2, f3, oe, vs, T, oT, ts, e1, e2, e3, e4, e5, e6, e7, e8⟩ := fl
  exact ⟨fun b o q => k _ _ (f1 b o q), f2, f3.of_keeps fun b o hb _ => ⟨o, k b o hb, rfl⟩, oe, vs, T, oT, ts, k _ _ e1, e2, e3, e4, e5, e6, k _ _ e7, e8⟩
section
variable {X : Cx} {body : List Stmt} {h0 : ExceptHandler} {hds : List ExceptHandler} {l : List Cl} {pos : Pos} {tb : WX → TS} {Wout : WX}
theorem ps_tryC (hs : X.stack = X.env :: X.outer) (hf : X.env.frame = some X.env.locals) (tk : L2N.Takes X Wout)
    (hb : ∀ (W : WX) (pn : List (Addr × Obj)) (xe : Value → Shared → Prop), L2N.Takes (X.tr pn xe) W → PassesOwn (model X.prog X.w) X.A X.env xe → PSs (X.tr pn xe) body (tb W)) (hh : ClsOk X (h0 :: hds) l) :
    PS X (.Try body (h0 :: hds) [] [] pos) (fun D σ H => tb (wCl Wout D l) D σ H) := by
  refine ⟨fun pins s σ H D I h => wpAny_Try_except ?_⟩
  have ok := I.ok
  have hfr : X.A.frames = some (X.env :: X.outer) := hs ▸ ok.frames
  refine wpAny_mono ((hb (wCl Wout D l) (X.pn ++ pins) (fun e s1 => wpAny (model X.prog X.w) X.A (noteFrame e X.env) (fun _ s2 => wpAny (model X.prog X.w) X.A (setFlight e none) (fun _ s3 => wpAny (model X.prog X.w) X.A (handleBy e X.env (h0 :: hds)) (SP X pins D) X.xe s3) X.xe s2) X.xe s1)
    (fun u s1 xx => ?_) PassesOwn.looking).run [] s σ H D (I.toTry _) h) (fun f s1 hsp => ?_) (fun e s1 he => he)
  · obtain ⟨a, B, sI, pinsT, σ1, H1, cls, d, rfl, J0, nb, up, sky, na, os1, ag, w⟩ := xx
    have J : Inv X pins σ1 H1 sI := J0.ofTry ok
    rw [hs] at sky
    show wpAny (model X.prog X.w) X.A (noteFrame (.ref a) X.env) _ _ _
    refine L2N.Sky.land L2N.Zn.steady hfr hf sky fun h3 fl3 up3 => ?_
    -- the clauses, from any heap in which the exception flies
    have go : ∀ {hs2 : List ExceptHandler} {l2 : List Cl}, ClsOk X hs2 l2 → ∀ h4, HandSPX.FlyingZ B (X.env :: X.outer) a (L2N.Zn cls d) h4 → sI.heap.UpToSlots h4 → wCl Wout D l2 cls d σ1 H1 →
        wpAny (model X.prog X.w) X.A (handleBy (.ref a) X.env hs2) (SP X pins D) X.xe { s1 with heap := h4 } := by
      intro hs2 l2 hk
      have su : ∀ {h5 : Heap}, HandSPX.FlyingZ B (X.env :: X.outer) a (L2N.Zn cls d) h5 → sI.heap.UpToSlots h5 → ∃ oe vs, L2N.Zn cls d oe ∧ oe.data = .fields vs ∧ Inv (X.suite a ((a, oe) :: (X.pn ++ pins))) [] σ1 H1 { s1 with heap := h5 } := fun {h5} fl5 up5 => by
        have J5 : Inv X pins σ1 H1 { s1 with heap := h5 } := J.landed nb fl5.1 up5 os1 ag
        obtain ⟨oe, vs, he, hz, hd⟩ := fl5.there
        have nfr : a ∉ frs (X.env :: X.outer) := fun hm => by
          obtain ⟨_, o2, e2, hnf⟩ := fl5.2.2.1.mem hm
          rw [he] at e2
          exact hnf vs (Option.some.inj e2 ▸ hd)
        refine ⟨oe, vs, hz, hd, J5.suite he hd na (fun z => nfr (List.mem_filterMap.mpr ⟨X.env, List.mem_cons_self, by rw [hf, z]⟩)) fun hm => ?_⟩
        obtain ⟨e, he2, q⟩ := List.mem_filterMap.mp hm
        exact nfr (List.mem_filterMap.mpr ⟨e, List.mem_cons_of_mem _ he2, q⟩)
      induction hk with
      | nil =>
        intro h4 fl4 up4 w
        refine wpAny_handleBy_nil ?_
        obtain ⟨k1, k2, k3, oe, vs, T, oT, ts2, he, hz, hd, h1, hr⟩ := id fl4
        unfold PySem.passOn
        refine wpAny_bind (wpAny_field he hd h1 ?_)
        rw [if_neg (show ¬ ((Value.ref T == Value.none) = true) from by simp)]
        have fin : wpAny (model X.prog X.w) X.A (setFlight (.ref a) X.env.frame) (fun _ s4 => wpAny (model X.prog X.w) X.A (throw (.ref a) : Sem Flow) (SP X pins D) X.xe s4) X.xe { s1 with heap := h4 } := by
          rw [hf]
          exact HandSPX.setFlight_upZ fl4 fun h5 hh5 up5 => wpAny_throw (tk _ _ ⟨a, B, sI, pins, σ1, H1, cls, d, rfl, J, nb, up4.trans up5, .inr (.inr (by rw [hs]; exact hh5)), na, os1, ag, w⟩)
        first
          | exact wpAny_bind (wpAny_pure (wpAny_bind fin))
          | exact wpAny_bind fin
      | only hc hsu r ih =>
        intro h4 fl4 up4 w
        obtain ⟨b, hb1, hyes, hno⟩ := w
        obtain ⟨oe, vs, hz, hd, S4⟩ := su fl4 up4
        refine wpAny_handleBy_cons (codeAny_handlers_test (hc a oe _ _ _ _ _ b _ _ S4 (by rw [hz.1]; exact hb1) fun h5 k5 => ?_)) (by intro q; cases q)
        have fl5 := flying_kept fl4 k5
        have up5 : sI.heap.UpToSlots h5 := up4.trans fun c o e _ => ⟨o.slots, k5 c o e⟩
        cases b with
        | true =>
          refine codeAny_handlers_suite (HandSPX.lands_againZ fl5 fun h6 fl6 up6 => ?_)
          obtain ⟨oe6, vs6, hz6, hd6, S6⟩ := su fl6 (up5.trans up6)
          refine wpAny_mono ((hsu a oe6 cls d _ hz6 ⟨_, hd6⟩).run [] _ _ H1 _ S6 (hyes rfl a na)) (fun f s6 hsp => ?_) (fun _ _ z => False.elim z)
          cases f with
          | ret u => obtain ⟨v6, σ6, H6, S7, r6, q6⟩ := hsp; exact ⟨_, _, _, S7.unsuite ok, r6, q6⟩
          | _ => obtain ⟨σ6, H6, S7, q6⟩ := hsp; exact ⟨_, _, S7.unsuite ok, q6⟩
        | false => exact ih h5 fl5 up5 (hno rfl)
      | @named t m ts b0 sui ps n i hds3 l3 hN hi hln hc hsu r ih =>
        intro h4 fl4 up4 w
        obtain ⟨b, hb1, hyes, hno⟩ := w
        obtain ⟨oe, vs, hz, hd, S4⟩ := su fl4 up4
        refine wpAny_handleBy_cons (codeAny_handlers_test (hc a oe _ _ _ _ _ b _ _ S4 (by rw [hz.1]; exact hb1) fun h5 k5 => ?_)) (by intro q; cases q)
        have fl5 := flying_kept fl4 k5
        have up5 : sI.heap.UpToSlots h5 := up4.trans fun c o e _ => ⟨o.slots, k5 c o e⟩
        cases b with
        | true =>
          refine codeAny_handlers_suite_as (HandSPX.lands_againZ fl5 fun h6 fl6 up6 => ?_)
          obtain ⟨oe6, vs6, hz6, hd6, S6⟩ := su fl6 (up5.trans up6)
          refine store_ok (X := X.suite a ((a, oe6) :: (X.pn ++ pins))) (v := .ref a) S6 hN hi (.inl hln) rfl (fun s7 S7 => ?_) (.inr hln)
          refine wpAny_mono ((hsu a oe6 cls d _ hz6 ⟨_, hd6⟩).run [] s7 _ H1 _ S7 (hyes rfl a na)) (fun f s8 hsp => ?_) (fun _ _ z => False.elim z)
          have fin : ∀ {σ8 : L2.St} {H8 : Hp} {Q : Shared → Prop}, Inv (X.suite a ((a, oe6) :: (X.pn ++ pins))) [] σ8 H8 s8 → (∀ s9, Inv X pins (σ8.set i none) H8 s9 → Q s9) →
              wpAny (model X.prog X.w) X.A (do bindName X.env n .none; unbindBehindTheSuite X.env n ps) (fun _ s9 => Q s9) X.xe s8 := fun {σ8 H8 Q} S8 hq => gone_ok (S8.unsuite ok) hN hi hln hq
          cases f with
          | ret u => obtain ⟨v8, σ8, H8, S8, r8, q8⟩ := hsp; exact fin S8 fun s9 J9 => ⟨_, _, _, J9, r8, q8⟩
          | _ => obtain ⟨σ8, H8, S8, q8⟩ := hsp; exact fin S8 fun s9 J9 => ⟨_, _, J9, q8⟩
        | false => exact ih h5 fl5 up5 (hno rfl)
    exact go hh h3 fl3 (up.trans up3) w
  · cases f with
    | next =>
      obtain ⟨σ1, H1, J, q⟩ := hsp
      exact wpAny_execs_nil ⟨σ1, H1, J.ofTry ok, q⟩
    | ret u =>
      obtain ⟨v, σ1, H1, J, r, q⟩ := hsp
      exact ⟨v, σ1, H1, J.ofTry ok, r, q⟩
    | _ =>
      obtain ⟨σ1, H1, J, q⟩ := hsp
      exact ⟨σ1, H1, J.ofTry ok, q⟩
end
end ExX

namespace ExX
open PySem PySem.Spec PyProof.Rows L2
/-- a promise that also speaks of the exception that is handled: its place, class and dict -/
abbrev SpE := Addr → Value → Option Addr → Sp
structure FnE (P : Program) (w : World) (K : PySem.W.Frag) (mg : Str → Option Value) (base : Heap) (CX : CXT) (k : Nat) (f : Addr) (fd : FuncData) (ps : List Str) (sp : SpE) : Prop where
  len : ∀ a cls d vs H Q E, sp a cls d vs H Q E → vs.length = ps.length
  run : ∀ (A : Around) (outer : List Env) (s : Shared) (H : Hp) (args : Args) (us : List Value) (vs : List V) (Q : VK) (E : XK) (p : Addr × Obj) (cls : Value) (d : Option Addr), L2H.RoomH k A → Zc cls d p.2 → (∃ z, p.2.data = .fields z) → L2H.PinOk outer H s p → Env0 P w K mg base A outer s H →
    BindsTo s fd args (ps.zip us) → Vals vs us → sp p.1 cls d vs H Q E → codeAny (model P w) A (.call (.ref f) args) (CR CX outer P w H s Q E) s
theorem fn_ofE {CX : CXT} {P : Program} {w : World} {K : PySem.W.Frag} {mg : Str → Option Value} {base : Heap} {k : Nat} {f : Addr} {name qual : Str} {params : Arguments} {body : List Stmt} {scope : Scope} {dV kV doc pm cdv ct oc : Value} {an od : Option Addr} {osl : Array (Option Value)} {N ps : List Str} {sp : SpE}
    (lk : K.lookup f = some ⟨oc, od, .func (PySem.W.fnOf name qual params body scope dV kV doc pm an cdv ct), osl⟩) (hcd : PySem.W.codeIn K cdv qual = true) (S : FnScope N ps scope) (len : ∀ a cls d vs H Q E, sp a cls d vs H Q E → vs.length = ps.length)
    (hbody : ∀ (A : Around) (outer : List Env) (s : Shared) (H : Hp) (vs : List V) (Q : VK) (E : XK) (p : Addr × Obj) (cls : Value) (d : Option Addr), Zc cls d p.2 → (∃ z, p.2.data = .fields z) → L2H.RoomH k (A.deeper (envOfC qual scope s.heap.objs.size f cdv)) → sp p.1 cls d vs H Q E →
      ∃ t, PSs (L2H.cxH CX P w K mg base N qual scope f cdv A outer s H E p) body t ∧ t { nx := fun _ H1 => Q .non H1, rt := Q } (L2.start N vs) H) :
    FnE P w K mg base CX (k + 1) f (PySem.W.fnOf name qual params body scope dV kV doc pm an cdv ct) ps sp := by
  refine ⟨len, fun A outer s H args us vs Q E p cls d hr hz hd hpin e0 hb r hsp => ?_⟩
  have KX : K.In s.heap := e0.mod.kin.keeps fun b o e => (e0.bs b o e).1
  have hkind : ∀ y ∈ ps.zip us, scope.names.lookup y.1 = some .local ∨ (scope.names.lookup y.1 = some .cell ∧ ((cellsFrom (s.heap.objs.size + 1) scope.names []).lookup y.1).isSome = true) := fun y hy =>
    (S.par y.1 (List.of_mem_zip hy).1).imp id fun q => ⟨q, PySem.W.cellsFrom_some _ _ _ (.inl q)⟩
  refine codeAny_call_function hr.depth (KX _ _ lk) rfl S.co S.gen rfl (PySem.W.codeRec_of KX hcd) (hb _ _ _ _ (wpAny_newFunctionEnv_cells S.kind hkind fun env he s1 x => ?_))
  subst he
  refine ⟨(e0.mod.nolimit.keeps fun b o e => (e0.bs b o e).1).keeps x.toInCall.keep, codeAny_func ?_⟩
  obtain ⟨t, ht, hq⟩ := hbody A outer s H vs Q E p cls d hz hd (hr.deeper _) hsp
  have I : Inv (L2H.cxH CX P w K mg base N qual scope f cdv A outer s H E p) [] (L2.start N vs) H s1 := L2H.inv_startH S hpin e0 (len _ _ _ _ _ _ _ hsp) r x
  refine wpAny_mono (ht.run [] s1 (L2.start N vs) H _ I hq) (fun fl s2 hs => ?_) fun e s2 hs => hs
  cases fl with
  | ret u =>
    obtain ⟨v, σ2, H2, J, rv, q⟩ := hs
    exact ⟨v, H2, J.os, J.bare, J.base, J.hok, rv, q⟩
  | next =>
    obtain ⟨σ2, H2, J, q⟩ := hs
    exact ⟨V.non, H2, J.os, J.bare, J.base, J.hok, rfl, q⟩
  | brk =>
    obtain ⟨_, _, _, q⟩ := hs
    exact q.elim
  | cont =>
    obtain ⟨_, _, _, q⟩ := hs
    exact q.elim
/-- the field f of the handled exception -/
def tFe (K : PySem.W.Frag) (a : Addr) (cls : Value) (d : Option Addr) (f : Str) (te : TE) : TE := fun σ H Q => te σ H fun x H1 => x = .ref a ∧
  ∃ (C dd : Addr) (fs : List (Str × V)) (v : V), cls = .ref C ∧ XfC K C ∧ PySem.W.findIn K (.ref C) f = some none ∧ d = some dd ∧ H1 dd = some (.xd fs) ∧ fs.lookup f = some v ∧ Q v H1
section
variable {X : Cx} {a : Addr} {oe : Obj} {cls : Value} {d : Option Addr} {e : Expr} {te : TE} {pos q : Pos} {n x : Str}
theorem pe_fe (hp : (a, oe) ∈ X.pn) (hz : Zc cls d oe) (hf : ∃ z, oe.data = .fields z) (he : PE X e te) (hb : attributeBase e n X.env (eval e X.env) = eval e X.env := by rfl) : PE X (.Attribute e n pos) (tFe X.K a cls d n te) := by
  refine ⟨fun pins s σ H Q I h => attr_of hb (thn (he.run pins s σ H _ I h) fun u s1 ⟨z, H1, I1, rx, ex, C, dd, fs, v, ec, T, hno, ed, ea, l, w⟩ => ?_)⟩
  subst ex ec ed
  obtain rfl : u = Value.ref a := rx
  have ha := (I1.pin (a, oe) (List.mem_append_left _ hp)).1
  obtain ⟨vs, hd⟩ := hf
  obtain ⟨mA, hns, hr⟩ : ObjOk X.prog X.w H1 s1.heap dd (.xd fs) := I1.hok dd _ ea
  obtain ⟨od, ho, hl⟩ := lookIn_ns hns
  obtain ⟨u, hu, ru⟩ := RelO.some_of (v := v) (o := mA n) (by rw [← l]; exact hr n)
  exact HandSPX.exc_get I1.kIn (⟨ha, hz.1, by unfold PySem.W.notCls; rw [hd] <;> rfl, by rw [hz.2]; exact ho⟩ : PySem.W.InstAt s1.heap a oe C (some od)) T.ga T.gg T.exC (PySem.W.findObj_own T.hdC hno rfl (by rw [hl, hu])) (handed_of ru) ⟨v, H1, I1.tok _, ru, w⟩
variable {CX : CXT} {k : Nat} {f : Addr} {fd : FuncData} {ps : List Str} {sp : SpE} {E : XK} {es : List Expr} {t : TA}
/-- f(e, ..) where an exception is handled -/
theorem pe_callE (F : FnE X.prog X.w X.K X.mg X.base CX k f fd ps sp) (hr : L2H.RoomH k X.A) (hp : (a, oe) ∈ X.pn) (hz : Zc cls d oe) (hf : ∃ z, oe.data = .fields z) (hg : Gl X x) (hm : X.mg x = some (.ref f)) (hk : PySem.W.keepIn X.K (.ref f) = true) (hb : L2.Binds X.K fd ps []) (hx : Passes CX X E)
    (hargs : PA X (e :: es) t) (hdb : (x == ("__debug__" : Str)) = false := by decide) (he : starEach (e :: es) X.env = (false, eval e X.env) :: starEach es X.env := by rfl) (hpl : (backTo pos (starEach es X.env)).any (·.1) = false := by rfl) :
    PE X (.Call (.Name x q) (e :: es) [] pos) (tCall (sp a cls d) [] E t) := by
  refine ⟨fun pins s σ H Q I h => wpAny_Call_Name_kw (ld_glob I hg hm ?_ hdb)⟩
  refine PySem.W.callWith_K (h₀ := X.base) I.ok.mod.kin hk (thn (hargs.run pos pins s σ H _ I h) fun us s1 ⟨vs, H1, I1, r, w⟩ => ⟨I1.kIn, ?_⟩) he hpl
  replace w : sp a cls d (vs ++ []) H1 Q E := w
  rw [List.append_nil] at w
  have hl : us.length = ps.length := by rw [← r.length]; exact F.len _ _ _ _ _ _ _ w
  have b := hb s1 us I1.kIn (by rw [List.append_nil]; exact hl)
  rw [List.append_nil] at b
  have P1 := I1.pin (a, oe) (List.mem_append_left _ hp)
  have hpin : L2H.PinOk X.stack H1 s1 (a, oe) := ⟨P1.1, P1.2.1, fun hm => (List.mem_cons.mp (I1.stkSub a hm)).elim P1.2.2.1 P1.2.2.2.1, P1.2.2.2.2⟩
  refine wpAny_call (codeAny_mono (F.run X.A X.stack s1 H1 ⟨us, []⟩ us vs Q E (a, oe) cls d hr hz hf hpin I1.env0 b r w) fun r s2 hq => ?_)
  cases r with
  | error e => exact hx pins σ H1 s1 e s2 I1 hq
  | ok fl =>
    cases fl with
    | ret u => exact I1.after hq
    | _ => exact hq.elim
end
end ExX

namespace ExX
open PySem PySem.Spec PyProof.Rows L2 LamX
theorem un_over {fs fs2 : List Addr} {H H1 H2 : Hp} {h h1 h2 : Heap} (a : Un fs [] H H1 h h1) (b : Un fs2 [] H1 H2 h1 h2) (hl : ∀ c ∈ fs2, c ∈ fs ∨ h.objs.size ≤ c) : Un fs [] H H2 h h2 where
  keep := fun c o q n hc _ => b.keep c o (a.keep c o q n hc (by simp)) (a.free c o q n (by simp)) (fun z => (hl c z).elim hc fun y => Nat.not_lt.mpr y (Heap.lt_size q)) (by simp)
  slot := fun c o q n hc _ => by
    obtain ⟨sl, e⟩ := a.slot c o q n hc (by simp)
    obtain ⟨sl2, e2⟩ := b.any e (a.free c o q n (by simp)) (by simp)
    exact ⟨sl2, e2⟩
  free := fun c o q n _ => by
    obtain ⟨sl, e⟩ := a.any q n (by simp)
    exact b.free c _ e (a.free c o q n (by simp)) (by simp)
  there := fun c o q _ => by
    obtain ⟨o1, e⟩ := a.there c o q (by simp)
    exact b.there c o1 e (by simp)
  tups := fun c xs q => b.tups c xs (a.tups c xs q)
  frzs := fun c o u q => b.frzs c o u (a.frzs c o u q)
  tbls := fun c ps q => by
    obtain ⟨m, e⟩ := a.tbls c ps q
    obtain ⟨m2, e2⟩ := b.tbls c _ e
    exact ⟨m ++ m2, by rw [e2, Array.append_assoc]⟩
/-- the lambda at f, its code object at c2, made in X -/
def CloO (X : Cx) (params : Arguments) (body : Expr) (scope : Scope) (f c2 : Addr) : HO := .ext fun h => ∃ pm ctv : Value, h.get? f = some (PySem.W.kla_obj "<lambda>" (X.env.qual ++ "<lambda>") params body scope (cloFrom X.env.cells scope.names []) pm c2 ctv)
theorem cloO_tbl {X : Cx} {params : Arguments} {body : Expr} {scope : Scope} {f c2 : Addr} (ps : Array Value) : CloO X params body scope f c2 ≠ .tbl ps := fun z => by
  unfold CloO at z
  cases z
theorem clo_ok {X : Cx} {params : Arguments} {body : Expr} {scope : Scope} {f c2 : Addr} {P : Program} {w : World} {H : Hp} {h : Heap} {pm ctv : Value} (e : h.get? f = some (PySem.W.kla_obj "<lambda>" (X.env.qual ++ "<lambda>") params body scope (cloFrom X.env.cells scope.names []) pm c2 ctv)) :
    ObjOk P w H h f (CloO X params body scope f c2) := ⟨⟨pm, ctv, e⟩, ⟨_, e⟩, fun h1 h2 ⟨a, b, c⟩ st => ⟨a, b, st _ c⟩⟩
section
variable {X : Cx} {pins : List (Addr × Obj)} {σ : L2.St} {H : Hp} {s : Shared}
/-- a lambda is made and tracked -/
theorem lam_made {T : List (Addr × Str)} {c P : Addr} {params : Arguments} {body : Expr} {scope : Scope} {pos : Pos} {E : Value → Shared → Prop} {Q : Value → Shared → Prop} (I : Inv X pins σ H s) (TB : TabB X.base X.mg c P) (hcode : X.env.code = .ref c)
    (hm : (P, X.env.qual ++ "<lambda>") ∈ T) (hu : ∀ p ∈ T, p.1 = P → p.2 = X.env.qual ++ "<lambda>") (hT : Tabs T H) (hdef : defaultsOf params X.env = ([], [])) (hfree : ∀ y ∈ scope.names, y.2 = .free → ∃ c, X.env.cells.lookup y.1 = some c)
    (h : ∀ (f c2 : Addr) (H1 : Hp) (s1 : Shared), Inv X pins σ (upd H1 f (CloO X params body scope f c2)) s1 → ExtN H H1 → Tabs T H1 → H1 f = none → H1 c2 = some (CodeO c2 (X.env.qual ++ "<lambda>")) → Q (.ref f) s1) :
    wpAny (model X.prog X.w) X.A (eval (.Lambda params body scope pos) X.env) Q E s := by
  obtain ⟨ps, hP, ht, ha⟩ := hT _ hm
  refine PySem.W.kla_eval hdef ?_
  have bP : s.heap.BuiltinsAt X.mg P := TB.bm.keeps I.bk
  have hPs : s.heap.get? P = some { cls := .none, data := .fields ps } := I.hok P _ hP
  cases hc : codeAmong pos ps.toList with
  | none =>
    refine PySem.W.kla_makeFunction (mg := X.mg) (c := c) (P := P) (ps := ps) (closure_ok hfree) I.ok.glob (I.mod.glob.keeps I.bk) hcode (TB.code.keeps I.bk) hPs ht hc TB.gP bP fun c2 ctv h2 tk hx hge hlt hrec htb => ?_
    obtain ⟨c3, oc, vs, t, e2, hoc, hd, hv⟩ := hrec
    cases e2
    have nC : H c2 = none := I.hok.fresh hge
    have I1 := inv_table (t' := tk) (more := #[rawInt pos.line, rawInt pos.col, .ref c2]) (h' := h2) I hP hx htb hge ⟨oc, vs, t, hoc, hd, hv⟩
    have hE : ExtN H (upd (upd H P (.tbl (ps ++ #[rawInt pos.line, rawInt pos.col, .ref c2]))) c2 (CodeO c2 (X.env.qual ++ "<lambda>"))) := fun b o e n => by
      rw [upd_ne (ne_of_none e nC), upd_ne (show b ≠ P from fun z => n ps (Option.some.inj (e.symm.trans (by rw [z]; exact hP))))]
      exact e
    have eL : (ps ++ #[rawInt pos.line, rawInt pos.col, .ref c2]).toList = ps.toList ++ [rawInt pos.line, rawInt pos.col, .ref c2] := by simp
    refine h h2.objs.size c2 _ _ (I1.laid (t' := tk) (fun _ _ e => Heap.get?_push_of_some _ e) (Nat.le_refl _) (clo_ok (Heap.get?_push_size _ rfl))) hE (fun p hp => ?_) (I1.hok.fresh (Nat.le_refl _)) upd_same
    by_cases hb : p.1 = P
    · refine ⟨_, by rw [hb, upd_ne (ne_of_none hP nC), upd_same], by rw [eL]; exact PySem.TriplesOk_snoc _ _ _ _ ht, fun pz cv hcv => ?_⟩
      rw [eL] at hcv
      rw [hu p hp hb]
      rcases among_app _ ht hcv with z | z
      · obtain ⟨c0, e1, e2⟩ := ha pz cv z
        exact ⟨c0, e1, hE _ _ e2 codeO_ne⟩
      · exact ⟨c2, z, upd_same⟩
    · obtain ⟨psz, a1, a2, a3⟩ := hT p hp
      refine ⟨psz, by rw [upd_ne (ne_of_none a1 nC), upd_ne hb]; exact a1, a2, fun pz cv hcv => ?_⟩
      obtain ⟨c0, e1, e2⟩ := a3 pz cv hcv
      exact ⟨c0, e1, hE _ _ e2 codeO_ne⟩
  | some cv =>
    obtain ⟨c2, e, hco⟩ := ha pos cv hc
    subst e
    refine PySem.W.kla_makeFunctionHit (mg := X.mg) (c := c) (P := P) (ps := ps) (closure_ok hfree) I.ok.glob (I.mod.glob.keeps I.bk) hcode (TB.code.keeps I.bk) hPs ht hc bP fun ctv h2 tk hx hsz => ?_
    have I1 : Inv X pins σ H { s with heap := h2, toks := tk } := I.kept hx
    exact h h2.objs.size c2 H _ (I1.laid (t' := tk) (fun _ _ e => Heap.get?_push_of_some _ e) (Nat.le_refl _) (clo_ok (Heap.get?_push_size _ rfl))) (ExtN.refl H) hT (I1.hok.fresh (Nat.le_refl _)) hco
end
/-- what is at f acts as tl tells, called from behind s0, H0 -/
structure Acts (P : Program) (w : World) (K : PySem.W.Frag) (mg : Str → Option Value) (base : Heap) (k : Nat) (fs : List Addr) (f : Addr) (s0 : Shared) (H0 : Hp) (tl : XK → Hp → VK → Prop) : Prop where
  fn : ∀ (s1 : Shared) (HZ : Hp) (Q : VK) (E : XK), HOk P w HZ s1.heap → tl E HZ Q → PySem.W.FnAt f s1.heap
  run : ∀ (A : Around) (outer : List Env) (s1 : Shared) (HZ : Hp) (Q : VK) (E : XK), Room k A → Env0 P w K mg base A outer s1 HZ → Un fs [] H0 HZ s0.heap s1.heap → tl E HZ Q →
    codeAny (model P w) A (.call (.ref f) ⟨[], []⟩) (CR (L2N.CX P w) outer P w HZ s1 Q E) s1
/-- the context of a lambda's body: what is raised there has no context of its own -/
abbrev lamC (X : Cx) (A : Around) (outer : List Env) (s : Shared) (H : Hp) (E : XK) (scope : Scope) (f c2 : Addr) : Cx := (lamCx X A outer s H E scope f c2).wish fun e s1 =>
  wpAny (model X.prog X.w) (A.deeper (lamEnv X scope s.heap.objs.size f c2)) (leaving (lamEnv X scope s.heap.objs.size f c2) e) (fun _ s2 => L2N.CX X.prog X.w outer H s E e s2) (fun e2 s2 => L2N.CX X.prog X.w outer H s E e2 s2) s1
/-- a lambda of X's text: what its body reads -/
structure LamD (X : Cx) (k : Nat) where
  params : Arguments
  body : Expr
  scope : Scope
  tb : XK → TE
  L : LamS X.env.scope scope
  hbind : ∀ (q : Str) (cl : List (Str × Addr)) (pm cv ctv : Value), bindArgs (PySem.W.kla_fn "<lambda>" q params body scope cl pm cv ctv) ⟨[], []⟩ = pure []
  hbody : ∀ (f c2 : Addr) (E : XK) (A : Around) (outer : List Env) (s : Shared) (H : Hp), Room k (A.deeper (lamEnv X scope s.heap.objs.size f c2)) → PE (lamC X A outer s H E scope f c2) body (tb E)
/-- such a lambda stands at f -/
def LamD.At {X : Cx} {k : Nat} (D : LamD X k) (f : Addr) (H : Hp) : Prop := ∃ c2, H f = some (CloO X D.params D.body D.scope f c2) ∧ H c2 = some (CodeO c2 (X.env.qual ++ "<lambda>"))
/-- what it does, made with the slots σ -/
def LamD.does {X : Cx} {k : Nat} (D : LamD X k) (f : Addr) (σ : L2.St) : XK → Hp → VK → Prop := fun E HZ Q => D.At f HZ ∧ D.tb E σ HZ Q
section
variable {X : Cx} {pins : List (Addr × Obj)} {σ : L2.St} {H : Hp} {s : Shared}
theorem acts_of {k : Nat} (D : LamD X k) {f : Addr} (I : Inv X pins σ H s) : Acts X.prog X.w X.K X.mg X.base (k + 1) (frs X.stack) f s H (D.does f σ) := by
  refine ⟨fun s1 HZ Q E hok ⟨⟨c2, hcf, hcc⟩, ht⟩ => ?_, fun A outer s1 HZ Q E hr e0 un ⟨⟨c2, hcf, hcc⟩, ht⟩ => ?_⟩
  · obtain ⟨⟨pm, ctv, of1⟩, _, _⟩ := hok f _ hcf
    exact ⟨_, _, _, _, of1⟩
  obtain ⟨⟨pm, ctv, of1⟩, _, _⟩ := e0.hok f _ hcf
  obtain ⟨⟨oc, vs, t, hoc, hdc, hvc⟩, _, _⟩ := e0.hok c2 _ hcc
  refine PySem.W.kla_callFunE hr.depth of1 rfl D.L.co D.L.gen rfl ⟨c2, oc, vs, t, rfl, hoc, hdc, hvc⟩ ?_
  rw [D.hbind]
  have lim : s1.heap.NoLimit := e0.mod.nolimit.keeps fun b o e => (e0.bs b o e).1
  refine wpAny_pure (wpAny_newFunctionEnv (fun y hy => (D.L.own y hy).2) (fun y hy => absurd hy (by simp)) (fun h1 hns hsb => ⟨lim.fresh _ hsb, ?_⟩) D.L.kind)
  show codeAny _ _ (.expr D.body (lamEnv X D.scope s1.heap.objs.size f c2)) _ _
  have kp : ∀ b o, s1.heap.get? b = some o → h1.get? b = some o := fun b o e => hsb.extBut b o (Nat.ne_of_lt (Heap.lt_size e)) (Heap.get?_push_of_some _ e)
  have J : Inv (lamCx X A outer s1 HZ E D.scope f c2) [] σ HZ { s1 with heap := h1, toks := s1.toks + ([] : List (Str × Value)).length } := lam_start2 I D.L e0 hr.hd un hns kp
  refine PySem.W.kla_codeExpr (wpAny_mono ((D.hbody f c2 E A outer s1 HZ (hr.deeper _)).run [] _ _ HZ Q (J.wish _) ht) (fun v s2 hq => ?_) fun e s2 hq => hq)
  obtain ⟨w2, H2, J2, rv, q⟩ := hq
  exact ⟨w2, H2, J2.os, J2.bare, J2.base, J2.hok, rv, q⟩
end
/-- a(), a the name of what acts -/
theorem pe_do {Z : Cx} {W : WX} {k i : Nat} {a : Str} {f : Addr} {fs : List Addr} {s0 : Shared} {H0 : Hp} {tl : XK → Hp → VK → Prop} {p1 p2 : Pos} (ac : Acts Z.prog Z.w Z.K Z.mg Z.base k fs f s0 H0 tl) (hr : Room k Z.A) (hex : Z.ex = []) (hU : Un fs [] H0 Z.H_0 s0.heap Z.s_0.heap)
    (ho : ∀ c ∈ frs Z.outer, c ∈ fs ∨ s0.heap.objs.size ≤ c) (tk : L2N.Takes Z W) (hN : Z.N[i]? = some a) (hv : Vis Z.env.scope a) (hd : (a == ("__debug__" : Str)) = false := by decide) (hcd : (a == ("__classdict__" : Str)) = false := by decide) :
    PE Z (.Call (.Name a p1) [] [] p2) (fun σ H Q => σ[i]? = some (some (.ref f)) ∧ ∃ (E1 : XK) (Q1 : VK), tl E1 H Q1 ∧ (∀ cls d H1, E1 cls d H1 → W cls d σ H1) ∧ ∀ v H1, Q1 v H1 → Q v H1) := by
  refine ⟨fun pins s σ H Q I ⟨hs, E1, Q1, ht, hE, hQ⟩ => wpAny_Call_Name_kw (thn ((pe_var (pos := p1) (i := i) hN hv hd hcd).run pins s σ H (fun v H1 => v = .ref f ∧ H1 = H) I ⟨.ref f, hs, rfl, rfl⟩) fun u s1 ⟨v, H1, I1, r1, ev, eH⟩ => ?_)⟩
  subst ev eH
  obtain rfl : u = Value.ref f := r1
  have base : Un (frs Z.outer) [] Z.H_0 H1 Z.s_0.heap s1.heap := hex ▸ I1.base
  refine PySem.W.callWith_F0 (ac.fn _ _ _ _ I1.hok ht) (wpAny_call (codeAny_mono (ac.run Z.A Z.stack s1 H1 Q1 E1 hr I1.env0 (un_over hU base ho) ht) fun r s2 hq => ?_))
  cases r with
  | error e => exact tk e s2 (L2N.XE.of_call I1 (fun cls d H2 z => hE cls d H2 z) hq)
  | ok fl =>
    cases fl with
    | ret u =>
      obtain ⟨v, H2, c1, c2, c3, c4, c5, c6⟩ := hq
      exact I1.after ⟨v, H2, c1, c2, c3, c4, c5, hQ _ _ c6⟩
    | _ => exact hq.elim
/-- a def of one parameter, handed what acts; it lets nothing out -/
structure FnL (P : Program) (w : World) (K : PySem.W.Frag) (mg : Str → Option Value) (base : Heap) (k : Nat) (g : Addr) (TT : (XK → Hp → VK → Prop) → Hp → VK → Prop) : Prop where
  run : ∀ (kk : Nat) (f : Addr) (fs : List Addr) (s0 : Shared) (H0 : Hp) (tl : XK → Hp → VK → Prop), Acts P w K mg base kk fs f s0 H0 tl → ∀ (A : Around) (outer : List Env) (s : Shared) (H : Hp) (Q : VK), Room (kk + k) A → Env0 P w K mg base A outer s H → Un fs [] H0 H s0.heap s.heap →
    (∀ c ∈ frs outer, c ∈ fs ∨ s0.heap.objs.size ≤ c) → s0.heap.objs.size ≤ s.heap.objs.size → TT tl H Q → codeAny (model P w) A (.call (.ref g) ⟨[.ref f], []⟩) (CR C8.CX0 outer P w H s Q C8.E0) s
section
variable {P : Program} {w : World} {K : PySem.W.Frag} {mg : Str → Option Value} {base : Heap} {k : Nat} {g : Addr} {TT : (XK → Hp → VK → Prop) → Hp → VK → Prop}
theorem fnL_of {x qual a : Str} {st : Stmt} {fd : FuncData} {N : List Str} (F : Fun K x qual st g fd) (S : FnScope N [a] (defScope st)) (hb : L2.Binds K fd [a] [])
    (hbody : ∀ (kk : Nat) (f : Addr) (fs : List Addr) (s0 : Shared) (H0 : Hp) (tl : XK → Hp → VK → Prop), Acts P w K mg base kk fs f s0 H0 tl → ∀ (cdv : Value) (A : Around) (outer : List Env) (s : Shared) (H : Hp) (Q : VK), Room (kk + k) (A.deeper (envOfC qual (defScope st) s.heap.objs.size g cdv)) → Un fs [] H0 H s0.heap s.heap →
      (∀ c ∈ frs outer, c ∈ fs ∨ s0.heap.objs.size ≤ c) → s0.heap.objs.size ≤ s.heap.objs.size → TT tl H Q → ∃ t, PSs (cxOf C8.CX0 P w K mg base N qual (defScope st) g cdv A outer s H C8.E0) (defBody st) t ∧ t { nx := fun _ H1 => Q .non H1, rt := Q } (L2.start N [.ref f]) H) :
    FnL P w K mg base (k + 1) g TT := by
  refine ⟨fun kk f fs s0 H0 tl ac A outer s H Q hr e0 hU ho hz ht => ?_⟩
  obtain ⟨oc, od, kV, doc, pm, an, cdv, ct, osl, rfl, lk, hcd⟩ := F.ex
  have b := hb s [.ref f] (e0.mod.kin.keeps fun b o e => (e0.bs b o e).1) rfl
  exact run_ofS (k := kk + k) (N := N) (ps := [a]) (us := [.ref f]) (vs := [.ref f]) lk hcd S hr e0 b (.cons rfl .nil) rfl fun hr2 => hbody kk f fs s0 H0 tl ac cdv A outer s H Q hr2 hU ho hz ht
end
section
variable {Z : Cx} {k kk i : Nat} {g : Addr} {TT : (XK → Hp → VK → Prop) → Hp → VK → Prop} {x a : Str} {p p1 pos : Pos}
/-- x(a), a the name of what acts -/
theorem pe_hand {f : Addr} {fs : List Addr} {s0 : Shared} {H0 : Hp} {tl : XK → Hp → VK → Prop} (G : FnL Z.prog Z.w Z.K Z.mg Z.base k g TT) (ac : Acts Z.prog Z.w Z.K Z.mg Z.base kk fs f s0 H0 tl) (hr : Room (kk + k) Z.A) (hex : Z.ex = []) (hU : Un fs [] H0 Z.H_0 s0.heap Z.s_0.heap)
    (ho : ∀ c ∈ frs Z.stack, c ∈ fs ∨ s0.heap.objs.size ≤ c) (hg : Gl Z x) (hm : Z.mg x = some (.ref g)) (hk : PySem.W.keepIn Z.K (.ref g) = true) (hN : Z.N[i]? = some a) (hv : Vis Z.env.scope a) (hos : ∀ c ∈ frs Z.outer, c ∈ frs Z.stack) (hz : s0.heap.objs.size ≤ Z.s_0.heap.objs.size) (hdb : (x == ("__debug__" : Str)) = false := by decide) (hd : (a == ("__debug__" : Str)) = false := by decide)
    (hcd : (a == ("__classdict__" : Str)) = false := by decide) (he : starEach [Expr.Name a p1] Z.env = (false, eval (.Name a p1) Z.env) :: starEach [] Z.env := by rfl) (hpl : (backTo pos (starEach [] Z.env)).any (·.1) = false := by rfl) :
    PE Z (.Call (.Name x p) [.Name a p1] [] pos) (fun σ H Q => σ[i]? = some (some (.ref f)) ∧ TT tl H Q) := by
  refine ⟨fun pins s σ H Q I ⟨hs, ht⟩ => wpAny_Call_Name_kw (ld_glob I hg hm ?_ hdb)⟩
  refine PySem.W.callWith_K (h₀ := Z.base) I.ok.mod.kin hk (thn ((pa_cons (pe_var (pos := p1) (i := i) hN hv hd hcd) pa_nil).run pos pins s σ H (fun vs H1 => vs = [.ref f] ∧ H1 = H) I ⟨.ref f, hs, rfl, rfl⟩) fun us s1 ⟨vs, H1, I1, r, ev, eH⟩ => ⟨I1.kIn, ?_⟩) he hpl
  subst ev eH
  cases r with
  | @cons _ u0 _ ur ra rw2 =>
    cases rw2
    obtain rfl : u0 = Value.ref f := ra
    have base : Un (frs Z.outer) [] Z.H_0 H1 Z.s_0.heap s1.heap := hex ▸ I1.base
    refine wpAny_call (codeAny_mono (G.run kk f fs s0 H0 tl ac Z.A Z.stack s1 H1 Q hr I1.env0 (un_over hU base fun c hc => ho c (hos c hc)) ho (Nat.le_trans hz I1.sz) ht) fun r s2 hq => ?_)
    cases r with
    | error e => exact (show False from hq).elim
    | ok fl =>
      cases fl with
      | ret u => exact I1.after hq
      | _ => exact hq.elim
/-- x(e), e giving a lambda of the def's own text -/
theorem pe_give {e : Expr} {te : TE} (G : FnL Z.prog Z.w Z.K Z.mg Z.base k g TT) (hr : Room (kk + 1 + k) Z.A) (hg : Gl Z x) (hm : Z.mg x = some (.ref g)) (hk : PySem.W.keepIn Z.K (.ref g) = true) (h1 : PE Z e te) (hdb : (x == ("__debug__" : Str)) = false := by decide)
    (he : starEach [e] Z.env = (false, eval e Z.env) :: starEach [] Z.env := by rfl) (hpl : (backTo pos (starEach [] Z.env)).any (·.1) = false := by rfl) :
    PE Z (.Call (.Name x p) [e] [] pos) (fun σ H Q => te σ H fun v H1 => ∃ (f : Addr) (D : LamD Z kk), [v] = [V.ref f] ∧ TT (D.does f σ) H1 Q) := by
  refine ⟨fun pins s σ H Q I h => wpAny_Call_Name_kw (ld_glob I hg hm ?_ hdb)⟩
  refine PySem.W.callWith_K (h₀ := Z.base) I.ok.mod.kin hk (thn ((pa_cons h1 pa_nil he).run pos pins s σ H (fun vs H1 => ∃ (f : Addr) (D : LamD Z kk), vs = [.ref f] ∧ TT (D.does f σ) H1 Q) I h) fun us s1 ⟨vs, H1, I1, r, f, D, ev, ht⟩ => ⟨I1.kIn, ?_⟩) he hpl
  subst ev
  cases r with
  | @cons _ u0 _ ur ra rw2 =>
    cases rw2
    obtain rfl : u0 = Value.ref f := ra
    refine wpAny_call (codeAny_mono (G.run (kk + 1) f (frs Z.stack) s1 H1 _ (acts_of D I1) Z.A Z.stack s1 H1 Q hr I1.env0 Un.refl (fun c hc => .inl hc) (Nat.le_refl _) ht) fun r s2 hq => ?_)
    cases r with
    | error e => exact (show False from hq).elim
    | ok fl =>
      cases fl with
      | ret u => exact I1.after hq
      | _ => exact hq.elim
/-- lambda: body -/
theorem pe_lam {T : List (Addr × Str)} {c PT : Addr} (D : LamD Z kk) (TB : TabB Z.base Z.mg c PT) (hcode : Z.env.code = .ref c) (hmT : (PT, Z.env.qual ++ "<lambda>") ∈ T) (hu : ∀ q ∈ T, q.1 = PT → q.2 = Z.env.qual ++ "<lambda>") (hdef : defaultsOf D.params Z.env = ([], [])) :
    PE Z (.Lambda D.params D.body D.scope pos) (fun _ H Q => Tabs T H ∧ ∀ f H1, ExtN H H1 → Tabs T H1 → D.At f H1 → Q (.ref f) H1) := by
  refine ⟨fun pins s σ H Q I ⟨hT, h⟩ => lam_made I TB hcode hmT hu hT hdef (D.L.has I.ok) fun f c2 H1 s1 I1 eN T1 nf hc => ?_⟩
  have ne : ∀ {b : Addr} {o : HO}, H1 b = some o → upd H1 f (CloO Z D.params D.body D.scope f c2) b = some o := fun {b o} e => by rw [upd_ne (ne_of_none e nf)]; exact e
  exact ⟨.ref f, _, I1, rfl, h f _ (fun b o e n => ne (eN b o e n)) (T1.ext fun b o e => ne e) ⟨c2, upd_same, ne hc⟩⟩
/-- x(lambda: body) -/
theorem pe_ask {T : List (Addr × Str)} {c PT : Addr} {lp : Pos} (D : LamD Z kk) (G : FnL Z.prog Z.w Z.K Z.mg Z.base k g TT) (hr : Room (kk + 1 + k) Z.A) (hg : Gl Z x) (hm : Z.mg x = some (.ref g)) (hk : PySem.W.keepIn Z.K (.ref g) = true) (TB : TabB Z.base Z.mg c PT) (hcode : Z.env.code = .ref c)
    (hmT : (PT, Z.env.qual ++ "<lambda>") ∈ T) (hu : ∀ q ∈ T, q.1 = PT → q.2 = Z.env.qual ++ "<lambda>") (hdef : defaultsOf D.params Z.env = ([], [])) (hdb : (x == ("__debug__" : Str)) = false := by decide)
    (he : starEach [.Lambda D.params D.body D.scope lp] Z.env = (false, eval (.Lambda D.params D.body D.scope lp) Z.env) :: starEach [] Z.env := by rfl) (hpl : (backTo pos (starEach [] Z.env)).any (·.1) = false := by rfl) :
    PE Z (.Call (.Name x p) [.Lambda D.params D.body D.scope lp] [] pos) (fun σ H Q => Tabs T H ∧ ∀ f H1, ExtN H H1 → Tabs T H1 → D.At f H1 → TT (D.does f σ) H1 Q) :=
  ⟨fun pins s σ H Q I ⟨h1, h2⟩ => (pe_give (kk := kk) G hr hg hm hk (pe_lam D TB hcode hmT hu hdef) hdb he hpl).run pins s σ H Q I ⟨h1, fun f H1 a b c => ⟨f, D, rfl, h2 f H1 a b c⟩⟩⟩
theorem LamD.At.same {D : LamD Z kk} {f : Addr} {H H1 : Hp} (a : D.At f H) (s : ∀ b o, H b = some o → H1 b = some o) : D.At f H1 := by
  obtain ⟨c2, h1, h2⟩ := a
  exact ⟨c2, s _ _ h1, s _ _ h2⟩
end
end ExX

namespace ExX
open PySem PySem.Spec PyProof.Rows L2
section
variable {prog : Program} {w : World} {A : Around} {E : Value → Shared → Prop} {s : Shared}
/-- a tuple's iterator is at its end, while x1 is handled -/
theorem next_end_hot {it t i : Nat} {items : Array Value} {x1 : Addr} {Q : Option Value → Shared → Prop} (hot : HotX.HotAt A x1 s.heap) (hit : s.heap.IsTupleIter it t i) (ht : s.heap.IsTuple t items) (hx : items[i]? = none) (hne : x1 ≠ it)
    (hQ : ∀ h2, (∀ b o, b ≠ it → s.heap.get? b = some o → h2.get? b = some o) → Q none { s with heap := h2 }) : wpAny (model prog w) A (pyNext (.ref it)) Q E s := by
  obtain ⟨hh, o1, v1, h1, d1, c1⟩ := hot
  obtain ⟨o, ho, hc, hd⟩ := id hit
  obtain ⟨ol, hol, hcl, nl, hdl⟩ := id ht
  unfold pyNext
  refine wpAny_bind (wpAny_attempt (wpAny_callSpecial?_slot (name := Str.ofString "__next__") hit.typeIs F.slot_tuple_iterator_next
    (wpAny_call_entry F.slot_tuple_iterator_next hit.typeIs F.entry_tuple_iterator_next ?_ (F.args_tuple_iterator_next_1 _))))
  show wpAny _ _ (field (.ref it) 0 >>= _) _ _ s
  refine wpAny_bind (wpAny_field ho hd (x := .ref t) rfl ?_)
  show wpAny _ _ (if (Value.ref t == Value.none) = true then _ else _) _ _ s
  rw [if_neg (show ¬ ((Value.ref t == Value.none) = true) from by simp)]
  show wpAny _ _ (field (.ref it) 1 >>= _) _ _ s
  refine wpAny_bind (wpAny_field ho hd (x := .int i 0) rfl ?_)
  show wpAny _ _ (seqItems? (.ref t) >>= _) _ _ s
  refine wpAny_bind (wpAny_seqItems hol hdl ?_)
  simp only [Int.toNat_natCast, hx]
  refine wpAny_bind (wpAny_rule (wpAny_bind (wpAny_setField ho hd (by simp) ?_)))
  show wpAny _ _ (newExc (.type "StopIteration") [] >>= _) _ _ _
  refine wpAny_bind ?_
  simp only [newExc, newTuple]
  refine wpAny_bind (wpAny_newObj_type ?_ (by size_fits))
  refine wpAny_bind (m := firstArgMember _ _) (wpAny_of_eq (a := Value.none) (by first | rfl | (simp only [firstArgMember]; rfl)) (wpAny_newObj_type ?_ (by size_fits)))
  have k : ∀ b u, b ≠ it → s.heap.get? b = some u → (s.heap.update it (Obj.mapFields (·.setIfInBounds 0 Value.none))).get? b = some u := fun b u hb e => (Heap.get?_update_other _ _ (Ne.symm hb)).trans e
  have sz := Heap.lt_size (k x1 o1 hne h1)
  refine HotX.raiseNew_hot (x1 := x1) ⟨hh, o1, v1, Heap.get?_push_of_some _ (Heap.get?_push_of_some _ (k _ _ hne h1)), d1, c1⟩ (Nat.ne_of_lt (Heap.lt_size (Heap.get?_push_of_some _ (k _ _ hne h1)))) (Heap.get?_push_size _ rfl) rfl (by first | (simp; done) | (simp; omega)) ?_
  refine wpAny_bind (wpAny_isInstance (T := "StopIteration") (b := true) ⟨_, Heap.get?_update_self _ (Heap.get?_push_size _ rfl) rfl, rfl⟩ isSubtype_stop ?_)
  refine wpAny_pure (hQ _ fun b o hb e => ?_)
  rw [Heap.get?_update_other _ _ (Nat.ne_of_gt (Heap.lt_size (Heap.get?_push_of_some _ (k b o hb e))))]
  exact Heap.get?_push_of_some _ (Heap.get?_push_of_some _ (k b o hb e))
theorem unpack_hot {t : Addr} {items : Array Value} {x1 : Addr} {Q : List Value → Shared → Prop} (hot : HotX.HotAt A x1 s.heap) (ht : s.heap.IsTuple t items)
    (hQ : ∀ h2, (∀ b o, b ≠ s.heap.objs.size → s.heap.get? b = some o → h2.get? b = some o) → Q items.toList { s with heap := h2 }) : wpAny (model prog w) A (unpackItems (.ref t) items.size none) Q E s := by
  have hlt : t ≠ s.heap.objs.size := by obtain ⟨o, ho, _⟩ := ht; exact Nat.ne_of_lt (Heap.lt_size ho)
  obtain ⟨hh, o1, v1, h1, d1, c1⟩ := hot
  have hxs : x1 ≠ s.heap.objs.size := Nat.ne_of_lt (Heap.lt_size h1)
  unfold unpackItems
  refine wpAny_bind ?_
  unfold notIterableAtAll
  refine wpAny_bind (wpAny_specialOf ht.typeIs F.slot_tuple_iter.lookup (wpAny_pure ?_))
  simp only [Bool.false_eq_true, if_false]
  refine wpAny_bind (wpAny_holding (wpAny_pyIter_tuple ht ?_))
  refine wpAny_bind (wpAny_holding (wpAny_draw_tuple hlt items.size 0 _ _ ⟨_, Heap.get?_push_size _ rfl, rfl, rfl⟩ (ht.push _) (by omega) fun h2 hit2 hs2 => ?_))
  have all : List.take items.size (List.drop 0 items.toList) = items.toList := by rw [List.drop_zero]; exact List.take_of_length_le (by simp)
  rw [all, if_neg (by simp)]
  have ht2 : h2.IsTuple t items := (ht.push _).extBut hs2.extBut hlt
  refine wpAny_bind (wpAny_holding (next_end_hot (x1 := x1) ⟨hh, o1, v1, hs2.extBut _ _ hxs (Heap.get?_push_of_some _ h1), d1, c1⟩ hit2 ht2 (by simp) hxs fun h3 k3 => ?_))
  simp only [Option.isSome_none, Bool.false_eq_true, if_false]
  exact wpAny_pure (hQ h3 fun b o hb e => k3 b o hb (hs2.extBut b o hb (Heap.get?_push_of_some _ e)))
end
/-- a, b = x, y where an exception is handled -/
theorem ps_parH {X : Cx} {pos : Pos} {i j : Nat} {x y : Str} {a b : Expr} {ta : TA} {px py pt : Pos} {kt k2 pt2} (hc : L2H.HotC X) (hN : X.N.Nodup) (hi : X.N[i]? = some x) (hj : X.N[j]? = some y) (hij : i ≠ j)
    (hx : X.env.scope.names.lookup x = some .local) (hy : X.env.scope.names.lookup y = some .local) (ha : PA X [a, b] ta)
    (hw : swappedStores [.Tuple [.Name x px, .Name y py] kt pt] (.Tuple [a, b] k2 pt2) X.env = pure (some [x, y]))
    (hs : swapsWithSole [.Tuple [.Name x px, .Name y py] kt pt] (.Tuple [a, b] k2 pt2) pos.line X.env = pure false := by rfl) :
    PS X (.Assign [.Tuple [.Name x px, .Name y py] kt pt] (.Tuple [a, b] k2 pt2) pos) (tPar i j ta) := by
  refine ⟨fun pins s σ H D I h => ?_⟩
  rw [exec_Assign_arm]
  refine wpAny_bind (wpAny_standAt ?_)
  rw [hs]
  refine wpAny_bind (wpAny_pure ?_)
  rw [if_neg (by decide)]
  refine wpAny_bind (Tuple_ (thn (ha.run _ pins s σ H _ I h) fun us s1 ⟨vs, H1, I1, r1, v, z, e1, q1⟩ => ?_))
  subst e1
  obtain ⟨u1, u2, rfl, rv, rz⟩ : ∃ u1 u2, us = [u1, u2] ∧ RelV v u1 ∧ RelV z u2 := by
    cases r1 with
    | cons p q =>
      cases q with
      | cons p2 q2 =>
        cases q2
        exact ⟨_, _, rfl, p, p2⟩
  refine wpAny_newObj_type ?_ (by show 2 ≤ sizeLine; decide)
  have I2 : Inv X pins σ H1 { s1 with heap := s1.heap.push { cls := .type "tuple", data := .seq [u1, u2].toArray } } := I1.kept (t' := s1.toks) fun b o e => Heap.get?_push_of_some _ e
  rw [hw]
  refine wpAny_bind (wpAny_pure ?_)
  show wpAny (model X.prog X.w) X.A (do rule "assign.swapped-stores"; let items ← unpackItems (.ref s1.heap.objs.size) 2 none; assignInOrder [fun v => bindName X.env y v, fun v => bindName X.env x v] items.reverse; pure Flow.next) _ _ _
  obtain ⟨x1, hot⟩ := hc.at I2
  refine wpAny_bind (wpAny_rule (wpAny_bind (unpack_hot (items := #[u1, u2]) hot (IsTup.new s1.heap _) fun h2 k2 => ?_)))
  have I3 := I2.kept (h' := h2) (t' := s1.toks) fun b o e => k2 b o (Nat.ne_of_lt (Heap.lt_size e)) e
  show wpAny _ _ (assignInOrder [fun v => bindName X.env y v, fun v => bindName X.env x v] [u2, u1] >>= fun _ => pure Flow.next) _ _ _
  refine wpAny_bind (assignInOrder_cons (wpAny_bindName (store_ok I3 hN hj (.inl hy) rz (fun s2 I4 => ?_) (.inr hy))))
  refine assignInOrder_cons (wpAny_bindName (store_ok I4 hN hi (.inl hx) rv (fun s3 I5 => assignInOrder_nil (wpAny_pure ?_)) (.inr hx)))
  rw [List.set_comm _ _ (Ne.symm hij)] at I5
  exact ⟨_, H1, I5, q1⟩
end ExX

namespace ExX
open PySem PySem.Spec PyProof.Rows L2
abbrev luTail : List Value := [.type "LookupError", .type "Exception", .type "BaseException", .type "object"]
abbrev vaTail : List Value := [.type "ValueError", .type "Exception", .type "BaseException", .type "object"]
/-- the body of a class -/
def clsB : Stmt → List Stmt
  | .ClassDef _ _ _ b _ _ _ _ _ _ _ => b
  | _ => []
abbrev initS (s : Stmt) : Stmt := (clsB s).getD 0 (.Pass ⟨0, 0, 0, 0⟩)
theorem txt_int {i : Int} (h : i.natAbs.log2 < 1920) : (Str.ofString (toString i)).length ≤ 1921 := by
  rw [PySem.ofString_length]
  exact int_text_length_le (by decide) h
theorem fits {z : Str} (h : z.length ≤ 10000) : z.length ≤ sizeLine := by rw [sizeLine_eq]; omega
theorem fits_cat {a b : Str} {m n : Nat} (h1 : a.length ≤ m) (h2 : b.length ≤ n) : (a ++ b).length ≤ m + n := by rw [Str.length_append]; omega
/-- an int whose text is short enough -/
def Prt (v : V) : Prop := ∃ i : Int, v = .int i ∧ i.natAbs.log2 < 1920
/-- __init__ of the two classes above all others -/
def spTop (K : PySem.W.Frag) (nid : String) (tl : List Value) : Sp := fun vs H Q _ => ∃ (a C : Addr) (tag msg : Str), vs = [.ref a, .str tag, .str msg] ∧ H a = some (exo a C none) ∧ ExB K C nid tl ∧ PySem.W.findIn K (.ref C) "tag" = some none ∧
  ∀ dx, H dx = none → dx ≠ a → Q .non (upd (upd H dx (exd dx [("tag", .str tag)])) a (exo a C (some dx)))
/-- __init__ of an error with one field -/
def spErrI (K : PySem.W.Frag) (nid : String) (tl : List Value) (fld tag : Str) : Sp := fun vs H Q _ => ∃ (a C : Addr) (v : V), vs = [.ref a, v] ∧ Prt v ∧ H a = some (exo a C none) ∧ ExB K C nid tl ∧ PySem.W.findIn K (.ref C) "tag" = some none ∧ PySem.W.findIn K (.ref C) fld = some none ∧
  ∀ dx, H dx = none → dx ≠ a → Q .non (upd (upd (upd H dx (exd dx [("tag", .str tag)])) a (exo a C (some dx))) dx (exd dx [(fld, v), ("tag", .str tag)]))
/-- an error is on its way: its class, its dict, new, with the field and the tag -/
def Flies (H : Hp) (E : XK) (C : Addr) (fld tag : Str) (v : V) : Prop := ∀ d H1, H d = none → H1 d = some (.xd [(fld, v), ("tag", .str tag)]) → Same H H1 → E (.ref C) (some d) H1
structure Raisable (P : Program) (w : World) (K : PySem.W.Frag) (mg : Str → Option Value) (base : Heap) (k : Nat) (x : Str) (C : Addr) (fld tag : Str) : Prop where
  ex : ∃ (B nid iid : String) (tl : List Value) (fI : Addr) (fd : FuncData), ExcBaseFacts B nid iid tl ∧ ExB K C nid tl ∧ PySem.W.findIn K (.ref C) "__init__" = some (some (.ref fI)) ∧ PySem.W.typeIn K (.ref fI) = some (.type "function") ∧
    FnOk P w K mg base CX0 k fI fd ["self", fld] (spErrI K nid tl fld tag) ∧ L2.Binds K fd ["self", fld] []
  g : mg x = some (.ref C)
  nt : PySem.W.findIn K (.ref C) "tag" = some none
  nf : PySem.W.findIn K (.ref C) fld = some none
  xf : XfC K C
section
variable {X : Cx} {k : Nat} {x fld tag : Str} {C : Addr} {e : Expr} {te : TE} {p pos : Pos}
theorem mk_flies {K : PySem.W.Frag} {nid : String} {tl : List Value} {vs : List V} {H1 : Hp} {Q : XK} (T : ExB K C nid tl) (nt : PySem.W.findIn K (.ref C) "tag" = some none) (nf : PySem.W.findIn K (.ref C) fld = some none) (h : ∃ v, vs = [v] ∧ Prt v ∧ Flies H1 Q C fld tag v) : mkW C (spErrI K nid tl fld tag) vs H1 Q := by
  obtain ⟨v, rfl, hp, fl⟩ := h
  refine ⟨by show 1 ≤ 1000; decide, fun a na => ⟨a, C, v, rfl, hp, upd_same, T, nt, nf, fun dx nd ne => ⟨rfl, dx, _, ?_, upd_same, ?_, ?_⟩⟩⟩
  · rw [upd_ne ne.symm, upd_same]
  · rw [upd_ne ne] at nd
    exact nd
  · rw [upd_ne ne] at nd
    refine fl dx _ nd upd_same fun b o q => ?_
    have hb : b ≠ dx := ne_of_none q nd
    have ha : b ≠ a := ne_of_none q na
    rw [upd_ne hb, del_ne ha, upd_ne hb, upd_ne ha, upd_ne hb, upd_ne ha]
    exact q
theorem pmk_err (T : Raisable X.prog X.w X.K X.mg X.base k x C fld tag) (hr : Room (k + 1) X.A) (hg : Gl X x) (h : PE X e te) (hdb : (x == ("__debug__" : Str)) = false := by decide) (he : starEach [e] X.env = (false, eval e X.env) :: starEach [] X.env := by rfl) (hpl : (backTo pos (starEach [] X.env)).any (·.1) = false := by rfl) :
    L2N.PMk X (.Call (.Name x p) [e] [] pos) (fun σ H Q => te σ H fun v H1 => ∃ v0, [v] = [v0] ∧ Prt v0 ∧ Flies H1 Q C fld tag v0) := by
  obtain ⟨B, nid, iid, tl, fI, fd, FB, TB, iC, tI, G, b⟩ := T.ex
  exact pmk (R := fun vs H1 Q => ∃ v, vs = [v] ∧ Prt v ∧ Flies H1 Q C fld tag v) FB TB iC tI G hr b pass0 hg T.g (pa_cons h pa_nil he) (fun vs H1 Q z => mk_flies TB T.nt T.nf z) hdb he hpl
end
/-- a def that may raise -/
theorem okN {P : Program} {w : World} {K : PySem.W.Frag} {mg : Str → Option Value} {base : Heap} {x qual : Str} {st : Stmt} {f : Addr} {fd : FuncData} {N ps : List Str} {k : Nat} {sp : Sp} (F : Fun K x qual st f fd) (S : FnScope N ps (defScope st)) (len : ∀ vs H Q E, sp vs H Q E → vs.length = ps.length)
    (hbody : ∀ (cdv : Value) (A : Around) (outer : List Env) (s : Shared) (H : Hp) (vs : List V) (Q : VK) (E : XK), Room k (A.deeper (envOfC qual (defScope st) s.heap.objs.size f cdv)) → sp vs H Q E → L2N.Takes (cxOf (L2N.CX P w) P w K mg base N qual (defScope st) f cdv A outer s H E) (fun cls d _ H1 => E cls d H1) →
      ∃ t, PSs (cxOf (L2N.CX P w) P w K mg base N qual (defScope st) f cdv A outer s H E) (defBody st) t ∧ t { nx := fun _ H1 => Q .non H1, rt := Q } (start N vs) H) : FnOk P w K mg base (L2N.CX P w) (k + 1) f fd ps sp := by
  obtain ⟨oc, od, kV, doc, pm, an, cdv, ct, osl, rfl, lk, hcd⟩ := F.ex
  exact fn_of lk hcd S len fun A outer s H vs Q E hr hsp => hbody cdv A outer s H vs Q E hr hsp (L2N.takes_of rfl rfl rfl rfl)
/-- such a def, known by its name -/
structure KnX (P : Program) (w : World) (K : PySem.W.Frag) (mg : Str → Option Value) (base : Heap) (k : Nat) (x : Str) (ps : List Str) (sp : Sp) (f : Addr) (fd : FuncData) : Prop where
  kp : PySem.W.keepIn K (.ref f) = true
  G : FnOk P w K mg base (L2N.CX P w) k f fd ps sp
  b : L2.Binds K fd ps []
  g : mg x = some (.ref f)
theorem lookN {X : Cx} {W : WX} (tk : L2N.Takes X W) {E : XK} (hW : ∀ cls d σ H, E cls d H → W cls d σ H) : Passes (L2N.CX X.prog X.w) X E := L2N.passes_call tk hW
theorem sm_none {H H1 : Hp} (s : Same H H1) {t : Addr} (n : H1 t = none) : H t = none := by
  cases e : H t with
  | none => rfl
  | some o => rw [s _ _ e] at n; cases n
theorem takesN0 {X : Cx} : L2N.Takes X (fun _ _ _ _ => False) := fun _ _ ⟨_, _, _, _, _, _, _, _, _, _, _, _, _, _, _, _, z⟩ => z.elim
end ExX

namespace ExX
open PySem PySem.Spec PyProof.Rows L2
/-- a list comprehension without tests whose element may ask what the def around it knows where the block begins -/
theorem pe_lcI {X : Cx} {elt tg iter : Expr} {scope : Scope} {own : List (Str × Nat)} {pos : Pos} {wi : TI} {g : TG} {te : L2.St → TE} (calm : X.calm = true) (nd : X.N.Nodup) (walk : PI X tg iter wi) (bo : BlkOk X.N X.env.scope scope own)
    (target : ∀ (s : Shared) (H : Hp) (C : Addr) (cl : List (Str × Addr)) (fp : List Addr), PG (X.blk s H scope (compEnvC scope cl C X.env) fp) tg g)
    (item : ∀ (pins : List (Addr × Obj)) (σ : L2.St) (s : Shared) (H : Hp) (C : Addr) (cl : List (Str × Addr)) (fp : List Addr), Inv X pins σ H s → (∀ b ∈ fp, FpOk X pins H b) → PE (X.blk s H scope (compEnvC scope cl C X.env) fp) elt (te σ))
    (fold : ∀ x, foldedSetIterable iter X.env x = pure x := by intro _; rfl) :
    PE X (.ListComp elt [⟨tg, iter, [], 0⟩] scope pos) (fun σ H Q => tLc wi g tYes (te σ) (own.map (·.2)) σ H Q) := by
  refine ⟨fun pins s σ H Q I hyp => ?_⟩
  rw [eval_ListComp]
  have cells : ∀ y ∈ scope.names, y.2 = .free → ∃ c, X.env.cells.lookup y.1 = some c := fun y hy e => (bo.free y hy e).elim (fun z => I.ok.has _ (.inl z)) fun z => I.ok.has _ (.inr z)
  refine wpAny_comprehension_free (use := none) rfl fold (closure_ok cells) bo.kind (fun y hy e => by rw [bo.uniq y hy, e]) (thn (walk.run pins s σ H _ I hyp) fun _ _ h1 => thn h1 fun _ s2 h2 => ?_)
  obtain ⟨it, fp, tn, J, H2, rfl, I2, T, t2, f2, rd⟩ := h2
  refine wpAny_newObj_type (newEnv_comp ?_) (by show 0 ≤ sizeLine; decide)
  -- the new list, at the end of the heap
  obtain ⟨D, eD⟩ : ∃ D, D = s2.heap.objs.size := ⟨_, rfl⟩
  rw [← eD]
  obtain ⟨W, ⟨m0, w0⟩, turn⟩ := rd D (I2.hok.fresh (Nat.le_of_eq eD.symm))
  obtain ⟨H3, eH⟩ : ∃ H3, H3 = upd H2 D (.lst []) := ⟨_, rfl⟩
  obtain ⟨s3, e3⟩ : ∃ s3 : Shared, s3 = { s2 with heap := s2.heap.push { cls := .type "list", data := .seq ([] : List Value).toArray } } := ⟨_, rfl⟩
  have old : ∀ b o, s2.heap.get? b = some o → s3.heap.get? b = some o := fun b o e => by rw [e3]; exact Heap.get?_push_of_some _ e
  have I3 : Inv X pins σ H3 s3 := by
    rw [eH, e3]
    exact I2.laid (t' := s2.toks) (fun b o e => Heap.get?_push_of_some _ e) (Nat.le_of_eq eD.symm) ⟨Nat.zero_le _, [], 0, .nil, by rw [eD]; exact Heap.get?_push_size _ rfl⟩
  have f3 : ∀ b ∈ fp, FpOk X pins H3 b ∧ b < s3.heap.objs.size := fun b hb => by
    obtain ⟨o, e, _⟩ := T.obj _ _ t2 b hb
    exact ⟨⟨by rw [eH, upd_ne (by rw [eD]; exact Nat.ne_of_lt (Heap.lt_size e))]; exact (f2 b hb).1, (f2 b hb).2⟩, Heap.lt_size (old b o e)⟩
  have st := block_start I3 bo nd f3
  rw [← eH] at w0
  rw [← e3]
  -- the block's own names
  obtain ⟨cl, ecl⟩ : ∃ cl, cl = cellsFrom (s3.heap.objs.size + 1) scope.names (cloFrom X.env.cells scope.names []) := ⟨_, rfl⟩
  obtain ⟨C, eC⟩ : ∃ C, C = s3.heap.objs.size := ⟨_, rfl⟩
  have pI := item pins σ s3 H3 C cl fp I3 fun b hb => (f3 b hb).1
  have pG := target s3 H3 C cl fp
  obtain ⟨ce, ece⟩ : ∃ ce, ce = compEnvC scope cl C X.env := ⟨_, rfl⟩
  have ceL : ce.locals = C := by rw [ece]; rfl
  rw [← ecl, ← eC, ← ece] at st
  rw [← ece] at pI pG
  show codeAny _ _ (.compStart (.ListComp elt [⟨tg, iter, [], 0⟩] scope pos) 0 (.ref it) (.ref D) (compEnvC scope (cellsFrom (s3.heap.objs.size + 1) scope.names (cloFrom X.env.cells scope.names [])) s3.heap.objs.size X.env)) (compPost (model X.prog X.w) X.A X.xe none _ (.ref D) s3.heap.objs.size) _
  rw [← ecl, ← eC, ← ece]
  have tb : tn 0 (pushCells (s3.heap.push { cls := .type "dict", data := .dict #[] }) scope.names) := T.keep _ _ _ t2 fun b _ o e => pushCells_keeps _ _ _ _ (Heap.get?_push_of_some _ (old b o e))
  obtain ⟨s4, e4⟩ : ∃ s4 : Shared, s4 = { s3 with heap := pushCells (s3.heap.push { cls := .type "dict", data := .dict #[] }) scope.names } := ⟨_, rfl⟩
  rw [← e4] at st ⊢
  have t4 : tn 0 s4.heap := by rw [e4]; exact tb
  have fOk : ∀ {σ1 : L2.St} {H1 : Hp} {s1 : Shared}, Inv (X.blk s3 H3 scope ce fp) [] σ1 H1 s1 → (∀ b ∈ fp, H1 b = none) → ∀ b ∈ fp, FpOk (X.blk s3 H3 scope ce fp) [] H1 b := fun J1 n b hb =>
    ⟨n b hb, (J1.ok.exf b hb).1, J1.ok.exfs b hb, .inl hb, (J1.ok.exf b hb).2, fun p hp => by cases hp⟩
  have lp : codeAny (model X.prog X.w) X.A (.compLoop (.ListComp elt [⟨tg, iter, [], 0⟩] scope pos) 0 (.ref it) (.ref D) ce) (compPost (model X.prog X.w) X.A X.xe none (EP X pins σ Q) (.ref D) C) s4 := by
    refine compLoop_any (fun n s1 => ∃ i H1, Inv (X.blk s3 H3 scope ce fp) [] (wipe σ (own.map (·.2))) H1 s1 ∧ tn i s1.heap ∧ (∀ b ∈ fp, H1 b = none) ∧ W i n H1) (fun n s5 ⟨i, H5, I5, t5, n5, w5⟩ => ?_) m0 ⟨0, H3, st, t4, fun b hb => (f3 b hb).1.1, w0⟩
    rcases turn i n H5 w5 with ⟨stop, q⟩ | ⟨go, Nx, hNx, step⟩
    · refine thnF (T.done (X.blk s3 H3 scope ce fp) rfl rfl rfl calm i [] s5 _ H5 (fun _ _ => False) I5 (fOk I5 n5) t5 stop) fun r s6 ⟨er, I6⟩ => ?_
      subst er
      have I7 : Inv X pins σ H5 s6 := I3.call' (ch := fp) I6.os I6.base I6.hok I6.bare fun b hb => ⟨(f3 b hb).1.2.2.2.1, (f3 b hb).1.2.1, (f3 b hb).1.2.2.2.2.1, (f3 b hb).1.2.2.2.2.2⟩
      have nC : H5 C = none := by rw [← ceL]; exact I6.free
      obtain ⟨m, hm, _⟩ := I6.loc
      have hm : s6.heap.Ns ce.locals m := hm
      rw [ceL] at hm
      refine ⟨m, hm, fun h8 sb => ?_⟩
      obtain ⟨g0, g1, g2, g3, g4, g5⟩ := I3.fpOk (Nat.le_of_eq eC.symm) nC
      exact ⟨.ref D, H5, I7.turned (t' := s6.toks) (fun b o hb e => (sb.2 b hb).trans e) g0 g1 g3 g4 g5, rfl, q⟩
    · refine thnF (T.item (X.blk s3 H3 scope ce fp) rfl rfl rfl calm i [] s5 _ H5 (fun _ _ => False) I5 (fOk I5 n5) t5 go) fun r s6 ⟨u, er, h6⟩ => ?_
      subst er
      refine thnF h6 fun _ s7 ⟨x, H7, I7, r7, y7, t7, n7⟩ => ?_
      refine thnF (pG.run _ s7 _ H7 x u _ (I7.pinned (fOk I7 n7) (T.obj _ _ t7)) r7 (step x H7 y7)) fun _ s8 ⟨σ8, H8, I8, e8, q8⟩ => wpAny_tests_nil ?_
      rw [if_pos rfl]
      refine thnF (pI.run _ s8 σ8 H8 _ I8 (show te σ σ8 H8 _ from q8)) fun z s9 ⟨yv, H9, I9, r9, acc, hD9, hz9, nx⟩ => ?_
      refine app_ok (X := X.blk s3 H3 scope ce fp) I9 hD9 hz9 r9 fun s10 I10 => ?_
      obtain ⟨m1, lt, w1⟩ := hNx _ nx
      have stay : ∀ b ∈ fp, ∀ o, s7.heap.get? b = some o → s10.heap.get? b = some o ∧ upd H9 D (.lst (acc ++ [yv])) b = none := fun b hb o e => by
        have z := I10.pin (b, o) (List.mem_append_right _ (List.mem_append_right _ (mem_pinsAt hb e)))
        exact ⟨z.1, z.2.1⟩
      refine ⟨m1, lt, i + 1, _, (I10.unpinned (pins := [])).weak (by rw [← e8, wipe_length]) (fun j v e => ?_), T.keep _ _ _ t7 fun b hb o e => (stay b hb o e).1, fun b hb => ?_, w1⟩
      · rw [← e8] at e
        exact (wipe_some e).1
      · obtain ⟨o, e, _⟩ := T.obj _ _ t7 b hb
        exact (stay b hb o e).2
  exact codeAny_compStart_list lp (T.self X.A 0 _ _ _ t4 lp)
/-! ### a lambda with one parameter that has a default -/
open LamX
structure LamT (N : List Str) (sc scope : Scope) (a : Str) : Prop where
  kind : scope.kind = .function
  co : scope.isCoroutine = false
  gen : scope.isGenerator = false
  cel : ∀ y ∈ scope.names, y.2 ≠ .cell
  loc : ∀ y ∈ N, scope.names.lookup y ≠ some .local
  arg : scope.names.lookup a = some .local
  free : ∀ y ∈ scope.names, y.2 = .free → sc.names.lookup y.1 = some .cell ∨ sc.names.lookup y.1 = some .free
def lamTB (N : List Str) (sc scope : Scope) (a : Str) : Bool := decide (scope.kind = .function) && (!scope.isCoroutine && (!scope.isGenerator && (decide (scope.names.lookup a = some .local) && ((N.all fun y => !decide (scope.names.lookup y = some .local)) &&
  scope.names.all fun y => !decide (y.2 = .cell) && (!decide (y.2 = .free) || (decide (sc.names.lookup y.1 = some .cell) || decide (sc.names.lookup y.1 = some .free)))))))
theorem lamT_by {N : List Str} {sc scope : Scope} {a : Str} (h : lamTB N sc scope a = true) : LamT N sc scope a := by
  unfold lamTB at h
  simp only [Bool.and_eq_true, Bool.or_eq_true, Bool.not_eq_true', decide_eq_true_eq, decide_eq_false_iff_not, List.all_eq_true] at h
  obtain ⟨h1, h2, h3, h4, h5, h6⟩ := h
  exact ⟨h1, h2, h3, fun y hy => (h6 y hy).1, h5, h4, fun y hy e => (h6 y hy).2.elim (fun z => absurd e z) id⟩
section
variable {X : Cx} {pins : List (Addr × Obj)} {σ : L2.St} {H HZ : Hp} {s s1 : Shared}
theorem LamT.has {scope : Scope} {a : Str} (L : LamT X.N X.env.scope scope a) (ok : X.Ok) : ∀ y ∈ scope.names, y.2 = .free → ∃ c, X.env.cells.lookup y.1 = some c := fun y hy e => (L.free y hy e).elim (fun z => ok.has _ (.inl z)) fun z => ok.has _ (.inr z)
/-- the body of such a lambda begins -/
theorem lamT_start {A : Around} {outer : List Env} {E : XK} {scope : Scope} {f c2 : Addr} {a : Str} {g : Heap} {tk : Nat} {m1 : Str → Option Value} (I : Inv X pins σ H s) (L : LamT X.N X.env.scope scope a) (e0 : Env0 X.prog X.w X.K X.mg X.base A outer s1 HZ) (hd : A.handled = none)
    (un : Un (frs X.stack) [] H HZ s.heap s1.heap) (hns : g.Ns s1.heap.objs.size m1) (kp : ∀ b o, s1.heap.get? b = some o → g.get? b = some o) : Inv (lamCx X A outer s1 HZ E scope f c2) [] σ HZ { s1 with heap := g, toks := tk } := by
  have hF := L.has I.ok
  have up : ∀ {y c}, (cloFrom X.env.cells scope.names []).lookup y = some c → X.env.cells.lookup y = some c := fun {y c} e => by
    rcases cloFrom_mem (PySem.mem_of_lookup e) with z | ⟨z1, z2⟩
    · cases z
    · obtain ⟨c1, e1⟩ := hF _ z1 rfl
      have e1 : X.env.cells.lookup y = some c1 := e1
      have e2 : c = c1 := by rw [z2, e1]; rfl
      rw [e2]; exact e1
  have dn : ∀ {y}, scope.names.lookup y = some .free → ∃ c, (cloFrom X.env.cells scope.names []).lookup y = some c := fun {y} hl => mem_lookup (cloFrom_has (cells := X.env.cells) (acc := []) (PySem.mem_of_lookup hl))
  have stay : ∀ {c : Addr} {v : Option Value}, H c = none → s.heap.IsCell c v → g.IsCell c v := fun {c v} n ⟨o, ho, hd⟩ => by
    obtain ⟨sl, q⟩ := un.any ho n (by simp)
    exact ⟨_, kp _ _ q, hd⟩
  have no : ∀ {b : Addr} {R : Prop}, b ∈ (lamCx X A outer s1 HZ E scope f c2).ex → R := fun {b R} z => by cases (show b ∈ ([] : List Addr) from z)
  refine ⟨⟨e0.mod, L.kind, rfl, rfl, Nat.le_refl _, fun y z c e1 e2 => I.ok.inj y z c (up e1) (up e2), fun y hy => ?_, fun y c z _ => (Bool.noConfusion (show false = true from z)), fun _ => hd, Around.frames_deeper e0.frames, .inr ⟨rfl, rfl⟩, fun b z => no z, e0.bs, e0.bsz, fun b o e z => no z,
      fun b z => no z, e0.funs, e0.frf⟩, rfl, e0.bare, Un.kept kp, ⟨m1, hns, fun i y v e1 e2 e3 => ?_⟩, fun y c e => ?_, e0.hok.fresh (Nat.le_refl _), fun y c e => ?_, fun q hq => ?_, e0.hok.kept kp, I.len⟩
  · rcases (show scope.names.lookup y = some .cell ∨ scope.names.lookup y = some .free from hy) with z | z
    · exact (L.cel _ (PySem.mem_of_lookup z) rfl).elim
    · exact dn z
  · rcases (show Vis scope y from e3) with k | k | k
    · exact (L.loc y (List.mem_of_getElem? e1) k).elim
    · exact (L.cel _ (PySem.mem_of_lookup k) rfl).elim
    · obtain ⟨m, hn, hl⟩ := I.loc
      have fr := L.free _ (PySem.mem_of_lookup k) rfl
      obtain ⟨u, r, q⟩ := hl i y v e1 e2 (fr.elim (fun z => .inr (.inl z)) fun z => .inr (.inr z))
      obtain ⟨c, ec⟩ := dn k
      refine ⟨u, r, .inr ⟨.inr k, c, ec, ?_⟩⟩
      rcases q with ⟨k2, _⟩ | ⟨_, c3, e4, z⟩
      · have k2 : X.env.scope.names.lookup y = some .local := k2
        have fr : X.env.scope.names.lookup y = some .cell ∨ X.env.scope.names.lookup y = some .free := fr
        rw [k2] at fr
        rcases fr with fr | fr <;> cases fr
      · have := up ec
        rw [e4] at this
        cases this
        exact stay (I.freeC y _ e4) z
  · obtain ⟨v, z⟩ := I.cell y c (up e)
    exact ⟨v, stay (I.freeC y c (up e)) z⟩
  · obtain ⟨v, o, ho, hd⟩ := I.cell y c (up e)
    exact un.free c o ho (I.freeC y c (up e)) (by simp)
  · cases (show q ∈ ([] : List (Addr × Obj)) ++ [] from hq)
end
/-- the lambda at f, its code object at c2, the tuple of its default at T -/
def CloD (X : Cx) (params : Arguments) (body : Expr) (scope : Scope) (f c2 T : Addr) : HO := .ext fun h => ∃ doc pm ctv : Value, h.get? f = some (PySem.W.kdv_obj "<lambda>" (X.env.qual ++ "<lambda>") params (.expr body) scope (cloFrom X.env.cells scope.names []) (.ref T) doc pm c2 ctv)
theorem cloD_ok {X : Cx} {params : Arguments} {body : Expr} {scope : Scope} {f c2 T : Addr} {P : Program} {w : World} {H : Hp} {h : Heap} {doc pm ctv : Value} (e : h.get? f = some (PySem.W.kdv_obj "<lambda>" (X.env.qual ++ "<lambda>") params (.expr body) scope (cloFrom X.env.cells scope.names []) (.ref T) doc pm c2 ctv)) :
    ObjOk P w H h f (CloD X params body scope f c2 T) := ⟨⟨doc, pm, ctv, e⟩, ⟨_, e⟩, fun h1 h2 ⟨a, b, c, d⟩ st => ⟨a, b, c, st _ d⟩⟩
section
variable {X : Cx} {pins : List (Addr × Obj)} {σ : L2.St} {H : Hp} {s : Shared}
theorem lamT_made {T : List (Addr × Str)} {c P : Addr} {params : Arguments} {body e0 : Expr} {scope : Scope} {pos : Pos} {y0 : V} {Q : Value → Shared → Prop} (I : Inv X pins σ H s) (TB : TabB X.base X.mg c P) (hcode : X.env.code = .ref c)
    (hm : (P, X.env.qual ++ "<lambda>") ∈ T) (hu : ∀ p ∈ T, p.1 = P → p.2 = X.env.qual ++ "<lambda>") (hT : Tabs T H) (hdf : params.defaults = [e0]) (hkw : params.kw_defaults = []) (he0 : PE X e0 (fun _ H Q => Q y0 H)) (hfree : ∀ y ∈ scope.names, y.2 = .free → ∃ c, X.env.cells.lookup y.1 = some c)
    (h : ∀ (f c2 t : Addr) (H1 : Hp) (s1 : Shared), Inv X pins σ (upd H1 f (CloD X params body scope f c2 t)) s1 → ExtN H H1 → Tabs T H1 → H1 f = none → H1 c2 = some (CodeO c2 (X.env.qual ++ "<lambda>")) → H1 t = some (.tup [y0]) → Q (.ref f) s1) :
    wpAny (model X.prog X.w) X.A (eval (.Lambda params body scope pos) X.env) Q X.xe s := by
  refine PySem.W.kdv_lam (by rw [hdf]; rfl) hkw ?_
  rw [hdf]
  show wpAny _ _ (evalAll [eval e0 X.env]) _ _ _
  refine evalAll_cons (thn (he0.run pins s σ H (fun v H1 => v = y0 ∧ H1 = H) I ⟨rfl, rfl⟩) fun u s0 ⟨v, H0, I0, r0, ev, eH⟩ => evalAll_nil ?_)
  rw [ev] at r0
  rw [eH] at I0
  rw [makeFunction_eq]
  simp only [List.zip_nil_right, List.filterMap_nil, List.isEmpty_nil, List.isEmpty_cons, Bool.false_eq_true, if_false, if_true, pure_bind]
  refine wpAny_bind (PySem.wpAny_newTextTuple ?_)
  obtain ⟨t, et⟩ : ∃ t, t = s0.heap.objs.size := ⟨_, rfl⟩
  rw [← et]
  have nT : H t = none := I0.hok.fresh (Nat.le_of_eq et.symm)
  obtain ⟨s2, e2⟩ : ∃ s2 : Shared, s2 = { s0 with heap := s0.heap.push { cls := .type "tuple", data := .seq [u].toArray } } := ⟨_, rfl⟩
  have I2 : Inv X pins σ (upd H t (.tup [y0])) s2 := by
    rw [e2]
    refine I0.laid (t' := s0.toks) (fun b o e => Heap.get?_push_of_some _ e) (Nat.le_of_eq et.symm) ⟨by show 1 ≤ sizeLine; decide, [u], .cons r0 .nil, ?_⟩
    rw [et]
    exact IsTup.new s0.heap _
  rw [← e2]
  have x1 : ExtN H (upd H t (.tup [y0])) := fun b o e _ => by rw [upd_ne (ne_of_none e nT)]; exact e
  have hT2 : Tabs T (upd H t (.tup [y0])) := hT.ext fun b o e => by rw [upd_ne (ne_of_none e nT)]; exact e
  obtain ⟨ps, hP, ht, ha⟩ := hT2 _ hm
  have bP : s2.heap.BuiltinsAt X.mg P := TB.bm.keeps I2.bk
  have hPs : s2.heap.get? P = some { cls := .none, data := .fields ps } := I2.hok P _ hP
  cases hc : codeAmong pos ps.toList with
  | none =>
    refine PySem.W.kdv_makeTail (mg := X.mg) (c := c) (P := P) (ps := ps) (closure_ok hfree) I2.ok.glob (I2.mod.glob.keeps I2.bk) hcode (TB.code.keeps I2.bk) hPs ht hc TB.gP bP fun c2 ctv doc h3 tk hx hge hlt hrec htb => ?_
    obtain ⟨c3, oc, vs, tq, z2, hoc, hd, hv⟩ := hrec
    cases z2
    have nC := I2.hok.fresh (a := c2) hge
    have I3 := inv_table (t' := tk) (more := #[rawInt pos.line, rawInt pos.col, .ref c2]) (h' := h3) I2 hP hx htb hge ⟨oc, vs, tq, hoc, hd, hv⟩
    have hE : ExtN (upd H t (.tup [y0])) (upd (upd (upd H t (.tup [y0])) P (.tbl (ps ++ #[rawInt pos.line, rawInt pos.col, .ref c2]))) c2 (CodeO c2 (X.env.qual ++ "<lambda>"))) := fun b o e n => by
      have nb : b ≠ P := fun z => n ps (Option.some.inj (e.symm.trans (by rw [z]; exact hP)))
      rw [upd_ne (ne_of_none e nC), upd_ne nb]
      exact e
    have eL : (ps ++ #[rawInt pos.line, rawInt pos.col, .ref c2]).toList = ps.toList ++ [rawInt pos.line, rawInt pos.col, .ref c2] := by simp
    refine h h3.objs.size c2 t _ _ (I3.laid (t' := tk) (fun _ _ e => Heap.get?_push_of_some _ e) (Nat.le_refl _) (cloD_ok (Heap.get?_push_size _ rfl))) (fun b o e n => hE b o (x1 b o e n) n) (fun p hp => ?_) (I3.hok.fresh (Nat.le_refl _)) upd_same (hE _ _ upd_same (by intro ps z; cases z))
    by_cases hb : p.1 = P
    · refine ⟨_, by rw [hb, upd_ne (ne_of_none hP nC), upd_same], by rw [eL]; exact PySem.TriplesOk_snoc _ _ _ _ ht, fun pz cv hcv => ?_⟩
      rw [eL] at hcv
      rw [hu p hp hb]
      rcases among_app _ ht hcv with z | z
      · obtain ⟨c0, q1, q2⟩ := ha pz cv z
        exact ⟨c0, q1, hE _ _ q2 codeO_ne⟩
      · exact ⟨c2, z, upd_same⟩
    · obtain ⟨psz, a1, a2, a3⟩ := hT2 p hp
      refine ⟨psz, by rw [upd_ne (ne_of_none a1 nC), upd_ne hb]; exact a1, a2, fun pz cv hcv => ?_⟩
      obtain ⟨c0, q1, q2⟩ := a3 pz cv hcv
      exact ⟨c0, q1, hE _ _ q2 codeO_ne⟩
  | some cv =>
    obtain ⟨c2, e, hco⟩ := ha pos cv hc
    subst e
    refine PySem.W.kdv_makeTailHit (mg := X.mg) (c := c) (P := P) (ps := ps) (closure_ok hfree) I2.ok.glob (I2.mod.glob.keeps I2.bk) hcode (TB.code.keeps I2.bk) hPs ht hc bP fun ctv doc h3 tk hx hsz => ?_
    have I3 : Inv X pins σ (upd H t (.tup [y0])) { s2 with heap := h3, toks := tk } := I2.kept hx
    exact h h3.objs.size c2 t _ _ (I3.laid (t' := tk) (fun _ _ e => Heap.get?_push_of_some _ e) (Nat.le_refl _) (cloD_ok (Heap.get?_push_size _ rfl))) x1 hT2 (I3.hok.fresh (Nat.le_refl _)) hco upd_same
end
/-- a lambda that was made in X: where it stands, what its call asks -/
structure Lam (X : Cx) (k : Nat) where
  At : Addr → Hp → Prop
  tb : XK → TE
  acts : ∀ {pins : List (Addr × Obj)} {σ : L2.St} {H : Hp} {s : Shared} {f : Addr}, Inv X pins σ H s → Acts X.prog X.w X.K X.mg X.base (k + 1) (frs X.stack) f s H (fun E HZ Q => At f HZ ∧ tb E σ HZ Q)
  same : ∀ {f : Addr} {H H1 : Hp}, At f H → ExtN H H1 → At f H1
def Lam.does {X : Cx} {k : Nat} (D : Lam X k) (f : Addr) (σ : L2.St) : XK → Hp → VK → Prop := fun E HZ Q => D.At f HZ ∧ D.tb E σ HZ Q
def LamD.lam {X : Cx} {k : Nat} (D : LamD X k) : Lam X k where
  At := D.At
  tb := D.tb
  acts := fun I => acts_of D I
  same := fun ⟨c2, h1, h2⟩ e => ⟨c2, e _ _ h1 cloO_tbl, e _ _ h2 codeO_ne⟩
/-- a lambda of X's text with one parameter that has a default -/
structure LamP (X : Cx) (k : Nat) where
  params : Arguments
  body : Expr
  scope : Scope
  a : Str
  e0 : Expr
  y0 : V
  tb : XK → TE
  L : LamT X.N X.env.scope scope a
  hdf : params.defaults = [e0]
  hkw : params.kw_defaults = []
  he0 : PE X e0 (fun _ H Q => Q y0 H)
  hbind : ∀ (q : Str) (cl : List (Str × Addr)) (T : Addr) (doc pm cv ctv : Value), ∃ kk : Option (Array Value) → Sem (List (Str × Value)), bindArgs (PySem.W.kdv_fn "<lambda>" q params (.expr body) scope cl (.ref T) doc pm cv ctv) ⟨[], []⟩ = seqItems? (.ref T) >>= kk ∧ ∀ u, kk (some #[u]) = pure [(a, u)]
  hbody : ∀ (f c2 : Addr) (E : XK) (A : Around) (outer : List Env) (s : Shared) (H : Hp), Room k (A.deeper (lamEnv X scope s.heap.objs.size f c2)) → PE (lamC X A outer s H E scope f c2) body (tb E)
def LamP.At {X : Cx} {k : Nat} (D : LamP X k) (f : Addr) (H : Hp) : Prop := ∃ c2 T, H f = some (CloD X D.params D.body D.scope f c2 T) ∧ H c2 = some (CodeO c2 (X.env.qual ++ "<lambda>")) ∧ H T = some (.tup [D.y0])
theorem cloD_tbl {X : Cx} {params : Arguments} {body : Expr} {scope : Scope} {f c2 T : Addr} (ps : Array Value) : CloD X params body scope f c2 T ≠ .tbl ps := fun z => by
  unfold CloD at z
  cases z
theorem actsP {X : Cx} {k : Nat} (D : LamP X k) {pins : List (Addr × Obj)} {σ : L2.St} {H : Hp} {s : Shared} {f : Addr} (I : Inv X pins σ H s) : Acts X.prog X.w X.K X.mg X.base (k + 1) (frs X.stack) f s H (fun E HZ Q => D.At f HZ ∧ D.tb E σ HZ Q) := by
  refine ⟨fun s1 HZ Q E hok ⟨⟨c2, T, hcf, hcc, hT⟩, ht⟩ => ?_, fun A outer s1 HZ Q E hr e0 un ⟨⟨c2, T, hcf, hcc, hT⟩, ht⟩ => ?_⟩
  · obtain ⟨⟨doc, pm, ctv, of1⟩, _, _⟩ := hok f _ hcf
    exact ⟨_, _, _, _, of1⟩
  obtain ⟨⟨doc, pm, ctv, of1⟩, _, _⟩ := e0.hok f _ hcf
  obtain ⟨⟨oc, vs, t, hoc, hdc, hvc⟩, _, _⟩ := e0.hok c2 _ hcc
  obtain ⟨_, its, rT, oT, hoT, _, nT, hsT⟩ := e0.hok T _ hT
  cases rT with
  | @cons _ u _ ur ru rr =>
    cases rr
    obtain ⟨kk, hb1, hb2⟩ := D.hbind (X.env.qual ++ "<lambda>") (cloFrom X.env.cells D.scope.names []) T doc pm (.ref c2) ctv
    have bt : BindsTo s1 (PySem.W.kdv_fn "<lambda>" (X.env.qual ++ "<lambda>") D.params (.expr D.body) D.scope (cloFrom X.env.cells D.scope.names []) (.ref T) doc pm (.ref c2) ctv) ⟨[], []⟩ [(D.a, u)] := BindsTo.of_defaults rfl hoT hsT hb1 (hb2 u)
    refine PySem.W.kla_callFunE hr.depth of1 rfl D.L.co D.L.gen rfl ⟨c2, oc, vs, t, rfl, hoc, hdc, hvc⟩ (bt _ _ _ _ ?_)
    have lim : s1.heap.NoLimit := e0.mod.nolimit.keeps fun b o e => (e0.bs b o e).1
    refine wpAny_newFunctionEnv D.L.cel (fun y hy => by rw [List.mem_singleton.mp hy]; exact D.L.arg) (fun h1 hns hsb => ⟨lim.fresh _ hsb, ?_⟩) D.L.kind
    show codeAny _ _ (.expr D.body (lamEnv X D.scope s1.heap.objs.size f c2)) _ _
    have kp : ∀ b o, s1.heap.get? b = some o → h1.get? b = some o := fun b o e => hsb.extBut b o (Nat.ne_of_lt (Heap.lt_size e)) (Heap.get?_push_of_some _ e)
    have J : Inv (lamCx X A outer s1 HZ E D.scope f c2) [] σ HZ { s1 with heap := h1, toks := s1.toks + [(D.a, u)].length } := lamT_start I D.L e0 hr.hd un hns kp
    refine PySem.W.kla_codeExpr (wpAny_mono ((D.hbody f c2 E A outer s1 HZ (hr.deeper _)).run [] _ _ HZ Q (J.wish _) ht) (fun v s2 hq => ?_) fun e s2 hq => hq)
    obtain ⟨w2, H2, J2, rv, q⟩ := hq
    exact ⟨w2, H2, J2.os, J2.bare, J2.base, J2.hok, rv, q⟩
def LamP.lam {X : Cx} {k : Nat} (D : LamP X k) : Lam X k where
  At := D.At
  tb := D.tb
  acts := fun I => actsP D I
  same := fun ⟨c2, T, h1, h2, h3⟩ e => ⟨c2, T, e _ _ h1 cloD_tbl, e _ _ h2 codeO_ne, e _ _ h3 (by intro ps z; cases z)⟩
section
variable {Z : Cx} {k kk i : Nat} {g : Addr} {TT : (XK → Hp → VK → Prop) → Hp → VK → Prop} {x a : Str} {p p1 pos : Pos}
/-- lambda a=..: body -/
theorem pe_lamP {T : List (Addr × Str)} {c PT : Addr} (D : LamP Z kk) (TB : TabB Z.base Z.mg c PT) (hcode : Z.env.code = .ref c) (hmT : (PT, Z.env.qual ++ "<lambda>") ∈ T) (hu : ∀ q ∈ T, q.1 = PT → q.2 = Z.env.qual ++ "<lambda>") :
    PE Z (.Lambda D.params D.body D.scope pos) (fun _ H Q => Tabs T H ∧ ∀ f H1, ExtN H H1 → Tabs T H1 → D.lam.At f H1 → Q (.ref f) H1) := by
  refine ⟨fun pins s σ H Q I ⟨hT, h⟩ => lamT_made I TB hcode hmT hu hT D.hdf D.hkw D.he0 (D.L.has I.ok) fun f c2 t H1 s1 I1 eN T1 nf hc ht => ?_⟩
  have ne : ∀ {b : Addr} {o : HO}, H1 b = some o → upd H1 f (CloD Z D.params D.body D.scope f c2 t) b = some o := fun {b o} e => by rw [upd_ne (ne_of_none e nf)]; exact e
  exact ⟨.ref f, _, I1, rfl, h f _ (fun b o e n => ne (eN b o e n)) (T1.ext fun b o e => ne e) ⟨c2, t, upd_same, ne hc, ne ht⟩⟩
/-- x(a) in a comprehension's block, a one of the lambdas of the def around -/
theorem pe_item {scope : Scope} (G : FnL Z.prog Z.w Z.K Z.mg Z.base k g TT) (hr : Room (kk + 1 + k) Z.A) (hk : PySem.W.keepIn Z.K (.ref g) = true) (hm : Z.mg x = some (.ref g)) (hNi : Z.N[i]? = some a)
    (hg : ∀ (s : Shared) (H : Hp) (C : Addr) (cl : List (Str × Addr)) (fp : List Addr), Gl (Z.blk s H scope (compEnvC scope cl C Z.env) fp) x) (hv : ∀ (C : Addr) (cl : List (Str × Addr)), Vis (compEnvC scope cl C Z.env).scope a)
    (he : ∀ env : Env, starEach [Expr.Name a p1] env = (false, eval (.Name a p1) env) :: starEach [] env := by intro _; rfl) (hpl : ∀ env : Env, (backTo pos (starEach [] env)).any (·.1) = false := by intro _; rfl)
    (hdb : (x == ("__debug__" : Str)) = false := by decide) (hd : (a == ("__debug__" : Str)) = false := by decide) (hcd : (a == ("__classdict__" : Str)) = false := by decide) :
    ∀ (pins : List (Addr × Obj)) (σ : L2.St) (s : Shared) (H : Hp) (C : Addr) (cl : List (Str × Addr)) (fp : List Addr), Inv Z pins σ H s → (∀ b ∈ fp, FpOk Z pins H b) →
      PE (Z.blk s H scope (compEnvC scope cl C Z.env) fp) (.Call (.Name x p) [.Name a p1] [] pos) (fun σ1 H1 Q => ∃ (f : Addr) (D : Lam Z kk), σ1[i]? = some (some (.ref f)) ∧ TT (D.does f σ) H1 Q) := by
  intro pins σ s H C cl fp I hf
  refine ⟨fun pins1 s1 σ1 H1 Q I1 ⟨f, D, hs, ht⟩ => wpAny_Call_Name_kw (ld_glob I1 (hg s H C cl fp) hm ?_ hdb)⟩
  refine PySem.W.callWith_K (h₀ := Z.base) I1.ok.mod.kin hk (thn ((pa_cons (pe_var (X := Z.blk s H scope (compEnvC scope cl C Z.env) fp) (pos := p1) (i := i) hNi (hv C cl) hd hcd) pa_nil (he _)).run pos pins1 s1 σ1 H1 (fun vs H2 => vs = [.ref f] ∧ H2 = H1) I1 ⟨.ref f, hs, rfl, rfl⟩) fun us s2 ⟨vs, H2, I2, r, ev, eH⟩ => ⟨I2.kIn, ?_⟩) (he _) (hpl _)
  subst ev
  rw [eH] at I2
  cases r with
  | @cons _ u0 _ ur ra rw2 =>
    cases rw2
    obtain rfl : u0 = Value.ref f := ra
    have IX : Inv Z pins σ H1 s2 := I.call' (ch := fp) I2.os I2.base I2.hok I2.bare fun b hb => ⟨(hf b hb).2.2.2.1, (hf b hb).2.1, (hf b hb).2.2.2.2.1, (hf b hb).2.2.2.2.2⟩
    refine wpAny_call (codeAny_mono (G.run (kk + 1) f (frs Z.stack) s2 H1 _ (D.acts IX) Z.A Z.stack s2 H1 Q hr I2.env0 Un.refl (fun c hc => .inl hc) (Nat.le_refl _) ht) fun r s3 hq => ?_)
    cases r with
    | error e => exact (show False from hq).elim
    | ok fl =>
      cases fl with
      | ret u => exact I2.after hq
      | _ => exact hq.elim
end
end ExX

namespace ExX
open PySem PySem.Spec PyProof.Rows L2
/-- a list or a tuple -/
def Kd (k : Bool) (K : PySem.W.Frag) (H : Hp) (a : Addr) (xs : List V) : Prop := if k = true then SqL K H a xs else SqT K H a xs
theorem Kd.same {k : Bool} {K : PySem.W.Frag} {H H1 : Hp} {a : Addr} {xs : List V} (h : Kd k K H a xs) (s : Same H H1) : Kd k K H1 a xs := by
  cases k
  · rcases (show SqT K H a xs from h) with (h | ⟨o, h⟩) | h
    · exact .inl (.inl (s _ _ h))
    · exact .inl (.inr ⟨o, s _ _ h⟩)
    · exact .inr h
  · exact s.seq (show SqL K H a xs from h)
theorem Kd.l {K : PySem.W.Frag} {H : Hp} {a : Addr} {xs : List V} (h : SqL K H a xs) : Kd true K H a xs := h
theorem Kd.t {K : PySem.W.Frag} {H : Hp} {a : Addr} {xs : List V} (h : SqT K H a xs) : Kd false K H a xs := h
theorem Kd.sq {k : Bool} {K : PySem.W.Frag} {H : Hp} {a : Addr} {xs : List V} (h : Kd k K H a xs) : SqL K H a xs ∨ SqT K H a xs := by
  cases k
  · exact .inr h
  · exact .inl h
/-- what is walked is one of both -/
def iKd (k : Bool) (K : PySem.W.Frag) (tl : TE) : TI := fun σ H R => if k = true then iList K tl σ H R else iTup K tl σ H R
theorem pi_kd {X : Cx} {tg l : Expr} {tl : TE} (k : Bool) (hl : PE X l tl) : PI X tg l (iKd k X.K tl) := by
  cases k
  · exact ⟨fun pins s σ H R I h => (pi_tup hl).run pins s σ H R I h⟩
  · exact ⟨fun pins s σ H R I h => (pi_list hl).run pins s σ H R I h⟩
theorem for_kd {k : Bool} {K : PySem.W.Frag} {i0 : Nat} {a : Addr} {xs : List V} {g : TG} {tb : TS} {D : Ends} {σ : L2.St} {H : Hp} (hv : σ[i0]? = some (some (.ref a))) (hS : Kd k K H a xs) (Pv : Nat → L2.St → Hp → Prop) (h0 : Pv 0 σ H) (hl : ∀ i σ H, i ≤ xs.length → Pv i σ H → Kd k K H a xs)
    (hs : ∀ i x σ H, xs[i]? = some x → Pv i σ H → g x σ H fun σ2 H2 => tb { D with nx := Pv (i + 1), ct := Pv (i + 1), bk := D.nx } σ2 H2) (hd : ∀ σ H, Pv xs.length σ H → D.nx σ H) : tFor (iKd k K (tVar i0)) g tb D σ H := by
  cases k
  · exact ⟨_, hv, a, rfl, ⟨_, hS⟩, for_tup (xs := xs) Pv h0 hl hs hd⟩
  · exact ⟨_, hv, a, rfl, ⟨_, hS⟩, for_list (xs := xs) Pv h0 hl hs hd⟩
/-- both promises of a def -/
def spOr (s1 s2 : Sp) : Sp := fun vs H Q E => s1 vs H Q (fun _ _ _ => False) ∨ s2 vs H Q E
theorem fn_or {P : Program} {w : World} {K : PySem.W.Frag} {mg : Str → Option Value} {base : Heap} {CX : CXT} {j k : Nat} {f : Addr} {fd : FuncData} {ps : List Str} {s1 s2 : Sp} (F1 : FnOk P w K mg base CX0 j f fd ps s1) (F2 : FnOk P w K mg base CX k f fd ps s2) (h : j ≤ k) : FnOk P w K mg base CX k f fd ps (spOr s1 s2) := by
  refine ⟨fun vs H Q E z => z.elim (F1.len _ _ _ _) (F2.len _ _ _ _), fun A outer s H args us vs Q E hr e0 b r z => ?_⟩
  rcases z with z | z
  · refine codeAny_mono (F1.run A outer s H args us vs Q (fun _ _ _ => False) (hr.mono h) e0 b r z) fun res s2 q => ?_
    cases res with
    | ok fl => cases fl <;> exact q
    | error e => exact (show False from q).elim
  · exact F2.run A outer s H args us vs Q E hr e0 b r z
theorem lookNE {X : Cx} {E : XK} (tk : L2N.Takes X (fun cls d _ H => E cls d H)) : Passes (L2N.CX X.prog X.w) X E := L2N.passes_call tk fun _ _ _ _ z => z
/-- nodes up to the first that is none -/
def NodesEnd (xs : List Int) (n : Nat) (good : List Nat) (ok : Prop) (bad : Int → Prop) : Prop := (∀ x ∈ good, x < n) ∧
  ((xs = good.map (fun v : Nat => (v : Int)) ∧ ok) ∨ ∃ (z : Int) (rest : List Int), xs = good.map (fun v : Nat => (v : Int)) ++ z :: rest ∧ (z < 0 ∨ (n : Int) ≤ z) ∧ z.natAbs.log2 < 1920 ∧ bad z)
theorem NodesEnd.at {xs : List Int} {n : Nat} {good : List Nat} {ok : Prop} {bad : Int → Prop} (h : NodesEnd xs n good ok bad) {i : Nat} {v : V} (hv : (xs.map V.int)[i]? = some v) (hi : i ≤ good.length) :
    (∃ u, good[i]? = some u ∧ v = .int (u : Int) ∧ u < n) ∨ (∃ z, v = .int z ∧ (z < 0 ∨ (n : Int) ≤ z) ∧ z.natAbs.log2 < 1920 ∧ bad z) := by
  rw [List.getElem?_map] at hv
  obtain ⟨k, hk, rfl⟩ := Option.map_eq_some_iff.mp hv
  by_cases h1 : i < good.length
  · refine .inl ⟨good[i], List.getElem?_eq_getElem h1, ?_, h.1 _ (List.getElem_mem h1)⟩
    have e : xs[i]? = some ((good[i] : Nat) : Int) := by
      rcases h.2 with ⟨e, _⟩ | ⟨z, rest, e, _⟩
      · rw [e, List.getElem?_map, List.getElem?_eq_getElem h1]; rfl
      · rw [e, List.getElem?_append_left (by rw [List.length_map]; exact h1), List.getElem?_map, List.getElem?_eq_getElem h1]; rfl
    rw [hk] at e
    rw [Option.some.inj e]
  · have hi2 : i = good.length := by omega
    rcases h.2 with ⟨e, _⟩ | ⟨z, rest, e, h2⟩
    · rw [e, List.getElem?_eq_none (by rw [List.length_map]; omega)] at hk; cases hk
    · rw [e, List.getElem?_append_right (by rw [List.length_map]; omega), List.length_map, hi2, Nat.sub_self] at hk
      have hk : some z = some k := hk
      rw [← Option.some.inj hk]
      exact .inr ⟨z, rfl, h2⟩
theorem NodesEnd.done {xs : List Int} {n : Nat} {good : List Nat} {ok : Prop} {bad : Int → Prop} (h : NodesEnd xs n good ok bad) (hl : (xs.map V.int).length ≤ good.length) : xs = good.map (fun v : Nat => (v : Int)) ∧ ok := by
  rw [List.length_map] at hl
  rcases h.2 with h | ⟨z, rest, e, _⟩
  · exact h
  · rw [e] at hl
    simp at hl
    omega
end ExX
namespace ExX
open PySem PySem.Spec PyProof.Rows L2
theorem lc_kd {k : Bool} {K : PySem.W.Frag} {i0 : Nat} {a : Addr} {xs : List V} {g : TG} {tt : TT} {te : TE} {vs : List Nat} {σ : L2.St} {H : Hp} {Q : VK} (hv : σ[i0]? = some (some (.ref a))) (hS : Kd k K H a xs)
    (h : ∀ D, H D = none → ∃ Pv : Nat → Hp → Prop, Pv 0 (upd H D (.lst [])) ∧ (∀ i H, i ≤ xs.length → Pv i H → Kd k K H a xs) ∧ (∀ i x H, xs[i]? = some x → Pv i H → g x (wipe σ vs) H fun σ2 H2 => wipe σ2 vs = wipe σ vs ∧ tt σ2 H2 fun b H3 =>
      if b = true then te σ2 H3 fun y H4 => ∃ acc, H4 D = some (.lst acc) ∧ acc.length < sizeLine ∧ Pv (i + 1) (upd H4 D (.lst (acc ++ [y]))) else Pv (i + 1) H3) ∧ (∀ H, Pv xs.length H → Q (.ref D) H)) : tLc (iKd k K (tVar i0)) g tt te vs σ H Q := by
  cases k
  · refine ⟨_, hv, a, rfl, ⟨_, hS⟩, fun D nD => ?_⟩
    obtain ⟨Pv, h0, hl, hs, hd⟩ := h D nD
    exact lc_tup (xs := xs) (Qd := Q (.ref D)) Pv h0 hl hs hd
  · refine ⟨_, hv, a, rfl, ⟨_, hS⟩, fun D nD => ?_⟩
    obtain ⟨Pv, h0, hl, hs, hd⟩ := h D nD
    exact lc_list (xs := xs) (Qd := Q (.ref D)) Pv h0 hl hs hd
theorem NodesEnd.len {xs : List Int} {n : Nat} {good : List Nat} {ok : Prop} {bad : Int → Prop} (h : NodesEnd xs n good ok bad) : good.length ≤ xs.length := by
  rcases h.2 with ⟨e, _⟩ | ⟨z, rest, e, _⟩
  · rw [e, List.length_map]; exact Nat.le_refl _
  · rw [e]; simp
end ExX
namespace ExX
open PySem PySem.Spec PyProof.Rows L2
theorem slc_kd {k : Bool} {K : PySem.W.Frag} {i0 j : Nat} {a : Addr} {xs : List V} {g : TG} {tt : TT} {te : TE} {vs : List Nat} {σ : L2.St} {H : Hp} {N : Ends} (hv : σ[i0]? = some (some (.ref a))) (hS : Kd k K H a xs)
    (h : ∀ D, H D = none → ∃ Pv : Nat → Hp → Prop, Pv 0 (upd H D (.lst [])) ∧ (∀ i H, i ≤ xs.length → Pv i H → Kd k K H a xs) ∧ (∀ i x H, xs[i]? = some x → Pv i H → g x (wipe σ vs) H fun σ2 H2 => wipe σ2 vs = wipe σ vs ∧ tt σ2 H2 fun b H3 =>
      if b = true then te σ2 H3 fun y H4 => ∃ acc, H4 D = some (.lst acc) ∧ acc.length < sizeLine ∧ Pv (i + 1) (upd H4 D (.lst (acc ++ [y]))) else Pv (i + 1) H3) ∧ (∀ H, Pv xs.length H → N.nx (σ.set j (some (.ref D))) H)) : tAsg (tLc (iKd k K (tVar i0)) g tt te vs) (gName j) N σ H :=
  lc_kd (Q := fun x H1 => gName j x σ H1 N.nx) hv hS h
end ExX
namespace ExX
open PySem PySem.Spec PyProof.Rows L2
/-- three parameters, given by keywords in the reverse order -/
def sw3 {α : Type} : List α → List α → List α
  | [], [c, b, a] => [a, b, c]
  | _, _ => []
theorem sw3_rel {vs : List V} {us : List Value} {zs : List V} {ws : List Value} (r : Vals vs us) (s : Vals zs ws) : Vals (sw3 vs zs) (sw3 us ws) := by
  cases r with
  | cons _ _ => exact .nil
  | nil =>
    cases s with
    | nil => exact .nil
    | cons h1 t1 =>
      cases t1 with
      | nil => exact .nil
      | cons h2 t2 =>
        cases t2 with
        | nil => exact .nil
        | cons h3 t3 =>
          cases t3 with
          | nil => exact .cons h3 (.cons h2 (.cons h1 .nil))
          | cons _ _ => exact .nil
theorem fun_sw3 {K : PySem.W.Frag} {x qual : Str} {st : Stmt} {f : Addr} {fd : FuncData} {a b c : Str} (F : Fun K x qual st f fd)
    (h : ∀ (kV doc pm : Value) (an : Option Addr) (cdv ct : Value) (u v w : Value), bindArgs (PySem.W.fnOf x qual (defArgs st) (defBody st) (defScope st) .none kV doc pm an cdv ct) ⟨[], [(c, u), (b, v), (a, w)]⟩ = pure [(a, w), (b, v), (c, u)]) : KBinds K fd [a, b, c] [c, b, a] sw3 sw3 := by
  obtain ⟨oc, od, kV, doc, pm, an, cdv, ct, osl, rfl, lk, hcd⟩ := F.ex
  refine ⟨fun s us ws _ hl => ?_, sw3_rel⟩
  match us, ws, hl with
  | [], [u, v, w], _ => exact .of_eq (h kV doc pm an cdv ct u v w)
end ExX
namespace ExX
open PySem PySem.Spec PyProof.Rows L2
/-- f(e, ..) where what is raised is wished for at the slots of the call -/
theorem pe_callN {X : Cx} {W : WX} {k : Nat} {f : Addr} {fd : FuncData} {ps : List Str} {sp : Sp} {x : Str} {q pos : Pos} {e : Expr} {es : List Expr} {t : TA} (F : FnOk X.prog X.w X.K X.mg X.base (L2N.CX X.prog X.w) k f fd ps sp) (hr : Room k X.A) (hg : Gl X x) (hm : X.mg x = some (.ref f)) (hk : PySem.W.keepIn X.K (.ref f) = true) (hb : L2.Binds X.K fd ps []) (tk : L2N.Takes X W)
    (ha : PA X (e :: es) t) (hdb : (x == ("__debug__" : Str)) = false := by decide) (he : starEach (e :: es) X.env = (false, eval e X.env) :: starEach es X.env := by rfl) (hpl : (backTo pos (starEach es X.env)).any (·.1) = false := by rfl) :
    PE X (.Call (.Name x q) (e :: es) [] pos) (fun σ H Q => t σ H fun vs H1 => sp vs H1 Q fun cls d H2 => W cls d σ H2) := by
  refine ⟨fun pins s σ H Q I h => wpAny_Call_Name_kw (ld_glob I hg hm ?_ hdb)⟩
  refine PySem.W.callWith_K (h₀ := X.base) I.ok.mod.kin hk (thn (ha.run pos pins s σ H _ I h) fun us s1 ⟨vs, H1, I1, r, w⟩ => ⟨I1.kIn, ?_⟩) he hpl
  have hl : us.length = ps.length := by rw [← r.length]; exact F.len _ _ _ _ w
  have b := hb s1 us I1.kIn (by rw [List.append_nil]; exact hl)
  rw [List.append_nil] at b
  refine wpAny_call (codeAny_mono (F.run X.A X.stack s1 H1 ⟨us, []⟩ us vs Q _ hr I1.env0 b r w) fun res s2 hq => ?_)
  cases res with
  | error er => exact tk er s2 (L2N.XE.of_call I1 (fun cls d H2 z => z) hq)
  | ok fl =>
    cases fl with
    | ret u => exact I1.after hq
    | _ => exact hq.elim
end ExX
namespace ExX
open PySem PySem.Spec PyProof.Rows L2
/-- one parameter, given by its keyword -/
def sw1 {α : Type} : List α → List α → List α
  | [], [a] => [a]
  | _, _ => []
theorem sw1_rel {vs : List V} {us : List Value} {zs : List V} {ws : List Value} (r : Vals vs us) (s : Vals zs ws) : Vals (sw1 vs zs) (sw1 us ws) := by
  cases r with
  | cons _ _ => exact .nil
  | nil =>
    cases s with
    | nil => exact .nil
    | cons h1 t1 =>
      cases t1 with
      | nil => exact .cons h1 .nil
      | cons h2 t2 => exact .nil
theorem fun_sw1 {K : PySem.W.Frag} {x qual : Str} {st : Stmt} {f : Addr} {fd : FuncData} {a : Str} (F : Fun K x qual st f fd)
    (h : ∀ (kV doc pm : Value) (an : Option Addr) (cdv ct : Value) (u : Value), bindArgs (PySem.W.fnOf x qual (defArgs st) (defBody st) (defScope st) .none kV doc pm an cdv ct) ⟨[], [(a, u)]⟩ = pure [(a, u)]) : KBinds K fd [a] [a] sw1 sw1 := by
  obtain ⟨oc, od, kV, doc, pm, an, cdv, ct, osl, rfl, lk, hcd⟩ := F.ex
  refine ⟨fun s us ws _ hl => ?_, sw1_rel⟩
  match us, ws, hl with
  | [], [u], _ => exact .of_eq (h kV doc pm an cdv ct u)
end ExX

namespace ExX
open PySem PySem.Spec PyProof.Rows L2
theorem meets_enum1 {v : Value} {o : Obj} {H : Heap → Prop} (B : Begins v o H) : Meets (Builtin.«enumerate.__new__» ⟨[.type "enumerate", v], []⟩) (fun _ R s => H s.heap ∧
      R (.ok (.ret (.ref (s.heap.push o).objs.size))) { s with heap := (s.heap.push o).push { cls := .type "enumerate", data := .fields #[.none, .bool false, .ref s.heap.objs.size, rawInt 0, .none, .none] } }) :=
  .of_wp fun prog w A R s h => by
    obtain ⟨hp, g, d, tk, os⟩ := s
    obtain ⟨h1, h⟩ := h
    have hsub := sub_enumerate
    have q1 : ∀ {A' : Around} {E : Value → Shared → Prop} {Q : Value → Shared → Prop}, Q (.ref hp.objs.size) ⟨hp.push o, g, d, tk, os⟩ → wpAny (model prog w) A' (pyIter v) Q E ⟨hp, g, d, tk, os⟩ := fun q => B.iter prog w _ _ ⟨hp, g, d, tk, os⟩ _ h1 q
    wp_walk using q1
    refine wpAny_stack_any fun st => wpAny_pure ?_
    split
    · rename_i c _ _ _ _ _
      cases (c == Value.type "enumerate") <;> (wp_walk using q1; exact ⟨_, rfl, h⟩)
    · wp_walk using q1
      exact ⟨_, rfl, h⟩
/-- enumerate(t), t a tuple -/
theorem call_enumT {prog : Program} {w : World} {A : Around} {E : Value → Shared → Prop} {s : Shared} {t : Addr} {items : Array Value} {Q : Value → Shared → Prop} (hT : s.heap.IsTuple t items)
    (h : ∀ h1, IsEnum h1 (s.heap.objs.size + 1) s.heap.objs.size 0 .none → h1.IsTupleIter s.heap.objs.size t 0 → (∀ b o, s.heap.get? b = some o → h1.get? b = some o) → Q (.ref (s.heap.objs.size + 1)) { s with heap := h1 }) :
    wpAny (model prog w) A (call (.type "enumerate") [.ref t]) Q E s := by
  refine callType_new F.called_enumerate (by decide) (F.typeCall_enumerate_1 _) (F.newCall_enumerate_1 _) (fun obj => F.args_object_init_2 obj _) F.entry_enumerate_new (meets_enum1 (begins_tuple t items)) ⟨hT, ?_⟩
  obtain ⟨oI, eI⟩ : ∃ oI : Obj, oI = { cls := .type "tuple_iterator", data := .fields #[.ref t, .int 0 0] } := ⟨_, rfl⟩
  rw [← eI]
  have sz : (s.heap.push oI).objs.size = s.heap.objs.size + 1 := Heap.size_push ..
  show _ ∧ _
  rw [sz]
  have he := Heap.get?_push_size (s.heap.push oI) (o := { cls := .type "enumerate", data := .fields #[.none, .bool false, .ref s.heap.objs.size, rawInt 0, .none, .none] }) rfl
  rw [sz] at he
  have hi : ((s.heap.push oI).push { cls := .type "enumerate", data := .fields #[.none, .bool false, .ref s.heap.objs.size, rawInt 0, .none, .none] }).get? s.heap.objs.size = some oI := Heap.get?_push_of_some _ (Heap.get?_push_size _ (by rw [eI]; rfl))
  exact ⟨⟨_, he, rfl⟩, h _ he ⟨_, hi, by rw [eI], by rw [eI]; rfl⟩ fun b o x => Heap.get?_push_of_some _ (Heap.get?_push_of_some _ x)⟩
/-- the tuple at a, each item with its number in a new pair -/
def ItE (K : PySem.W.Frag) (a : Addr) : It :=
  ⟨fun i H => ∃ (xs : List V) (x : V), SqT K H a xs ∧ xs[i]? = some x, fun i H v H1 => ∃ T x, v = .ref T ∧ H T = none ∧ H1 = upd H T (.tup [.int (i : Nat), x]) ∧ ∀ xs, SqT K H a xs → xs[i]? = some x, fun i H => ∃ xs : List V, SqT K H a xs ∧ xs.length ≤ i⟩
theorem turn_enumT {P : Program} {w : World} {K : PySem.W.Frag} {elts : List Expr} {kk : Nat} {tpos : Pos} (a e it : Addr) :
    Turn P w K (.Tuple elts kk tpos) (ItE K a) [e, it] e (fun i h => (∃ old, IsEnum h e it ((i : Nat) : Int) old) ∧ h.IsTupleIter it a i ∧ e ≠ it ∧ a ≠ it ∧ a ≠ e) where
  mem := by simp
  obj := fun i h ⟨⟨old, he⟩, ⟨o, ho, hc, hd⟩, _⟩ b hb => by
    rcases List.mem_cons.mp hb with z | z
    · rw [z]; exact ⟨_, he, fun v q => nomatch q⟩
    · rw [List.mem_singleton.mp z]; exact ⟨o, ho, fun v q => by rw [hd] at q; cases q⟩
  keep := fun i h h1 ⟨⟨old, he⟩, hi, r⟩ k => ⟨⟨old, k e (by simp) _ he⟩, hi.at fun o q => k it (by simp) o q, r⟩
  item := by
    intro X hP hw hK hc i pins s σ H E I hf ⟨⟨old, he⟩, hit, hne, hai, hae⟩ ⟨xs, x, hq, hx⟩
    subst hP hw hK
    obtain ⟨its, rv, p, hz⟩ := I.tuple hq
    obtain ⟨u, hu, ru⟩ := rv.get hx
    have hel : e < s.heap.objs.size := Heap.lt_size he
    have hil : it < s.heap.objs.size := by obtain ⟨_, q, _⟩ := hit; exact Heap.lt_size q
    have hlt : i < its.toArray.size := by
      have := (List.getElem?_eq_some_iff.mp hu).1
      simpa using this
    have D := Draws.tuple (prog := X.prog) (w := X.w) (A := X.A.in1) (by simpa using I.ok.hd hc) it a hai its.toArray
    refine wpAny_pyNext_enum_itemD D he ⟨hit, p⟩ hlt hne (by simp [hne, Ne.symm hae]) fun x2 h1 tk hP2 ho ⟨hit1, _⟩ hT hsz hk => ?_
    have e2 : x2 = u := by
      have z : its.toArray[i]? = some u := by simpa using hu
      exact Option.some.inj (hP2.symm.trans z)
    subst e2
    refine ⟨_, rfl, wpAny_letOwnedTupleGo_enum (s := { s with heap := h1, toks := tk + 1 }) ho fun h2 he2 sb => ?_⟩
    have hT2 : h2.get? s.heap.objs.size = some { cls := .type "tuple", data := .seq #[.int i tk, x2] } := (sb.2 _ (Nat.ne_of_gt hel)).trans hT
    have new : ObjOk X.prog X.w (upd H s.heap.objs.size (.tup [.int (i : Nat), x])) h2 s.heap.objs.size (.tup [.int (i : Nat), x]) := ⟨by show 2 ≤ sizeLine; decide, [.int i tk, x2], .cons ⟨_, rfl⟩ (.cons ru .nil), ⟨_, hT2, rfl, _, rfl⟩⟩
    have I1 : Inv X pins σ (upd H s.heap.objs.size (.tup [.int (i : Nat), x])) { s with heap := h2, toks := tk + 1 } :=
      I.turnedNew (ch := [e, it]) (fun b ob hb q => (sb.2 b (fun z => hb (by simp [z]))).trans (hk b ob (fun z => hb (by simp [z])) (fun z => hb (by simp [z])) q)) hf (Nat.le_refl _) new
    refine ⟨.ref s.heap.objs.size, _, I1, rfl, ⟨_, x, rfl, I.hok.fresh (Nat.le_refl _), rfl, fun ys hy => by rw [I.tuple_inj hy hq]; exact hx⟩, ⟨⟨x2, ?_⟩, hit1.at fun o q => (sb.2 it (Ne.symm hne)).trans q, hne, hai, hae⟩, fun b hb => ?_⟩
    · rw [show ((i + 1 : Nat) : Int) = (i : Int) + 1 by omega]; exact he2
    · have hb2 : b < s.heap.objs.size := by
        rcases List.mem_cons.mp hb with z | z
        · rw [z]; exact hel
        · rw [List.mem_singleton.mp z]; exact hil
      rw [upd_ne (Nat.ne_of_lt hb2)]
      exact (hf b hb).1
  done := by
    intro X hP hw hK hc i pins s σ H E I hf ⟨⟨old, he⟩, hit, hne, hai, hae⟩ ⟨xs, hq, hx⟩
    subst hP hw hK
    obtain ⟨its, rv, p, hz⟩ := I.tuple hq
    obtain ⟨f0, f1, f2, f3, f4, f5⟩ := hf it (by simp)
    have hl := rv.length
    have hh : X.A.in1.handled = none := by simpa using I.ok.hd hc
    have D0 : Draws X.prog X.w X.A.in1 it [it, a] i (fun j v => False) (fun j h => j = i ∧ h.IsTupleIter it a i ∧ h.IsTuple a its.toArray) :=
      { live := fun _ _ ⟨_, ⟨o, ho, _⟩, _⟩ => ⟨o, ho⟩
        frame := fun _ _ _ ⟨r, st1, st2⟩ hk => ⟨r, st1.at fun o e => hk it (by simp) o e, st2.at fun o e => hk a (by simp) o e⟩
        item := fun j s Q E hj ⟨r, _⟩ _ => absurd r (Nat.ne_of_lt hj)
        done := fun s Q E ⟨_, st1, st2⟩ hE => wpAny_nextOf_tuple_end hh st1 st2 (by simp; omega) hE }
    exact wpAny_pyNext_enum_endD D0 he ⟨rfl, hit, p⟩ fun h1 eb => ⟨rfl, I.turned (t' := s.toks) (fun b o hb q => eb b o hb q) f0 f1 f3 f4 f5⟩
  self := fun A i s Q E ⟨⟨_, he⟩, _⟩ h => wpAny_pyIter_enum he h
def iEnumT (K : PySem.W.Frag) (ta : TA) : TI := fun σ H R => ta σ H fun vs H1 => ∃ a xs, vs = [.ref a] ∧ SqT K H1 a xs ∧ R (ItE K a) H1
theorem pi_enumT {X : Cx} {e : Expr} {ta : TA} {p pos tpos : Pos} {elts : List Expr} {kk : Nat} (hg : Gl X "enumerate") (hm : X.mg "enumerate" = none) (ha : PA X [e] ta) (hs : starEach [e] X.env = [(false, eval e X.env)] := by rfl) :
    PI X (.Tuple elts kk tpos) (.Call (.Name "enumerate" p) [e] [] pos) (iEnumT X.K ta) := by
  refine ⟨fun pins s σ H R I h => ?_⟩
  refine Call_ (ld_blt I hg hm boot_enumerate (PyProof.Rows.callWith_type1 (thn (ha.run pos pins s σ H _ I h) fun us s1 ⟨vs, H1, I1, r1, a, xs, ex, hq, q⟩ => ?_) hs rfl))
  subst ex
  cases r1 with
  | cons r rr =>
    cases rr
    cases r
    obtain ⟨its, rv, p2, hz⟩ := I1.tuple hq
    have al : a < s1.heap.objs.size := p2.lt
    refine call_enumT p2 fun h1 he hit hk => wpAny_pyIter_enum he ?_
    have I2 : Inv X pins σ H1 { s1 with heap := h1 } := I1.kept (t' := s1.toks) hk
    refine ⟨s1.heap.objs.size + 1, [s1.heap.objs.size + 1, s1.heap.objs.size], _, _, H1, rfl, I2, turn_enumT a (s1.heap.objs.size + 1) s1.heap.objs.size, ⟨⟨.none, he⟩, hit, Nat.succ_ne_self _, Nat.ne_of_lt al, Nat.ne_of_lt (Nat.lt_succ_of_lt al)⟩, fun b hb => ?_, q⟩
    have hle : s1.heap.objs.size ≤ b := by
      rcases List.mem_cons.mp hb with z | z
      · rw [z]; exact Nat.le_succ _
      · rw [List.mem_singleton.mp z]; exact Nat.le_refl _
    exact I1.fpOk hle (I1.hok.fresh hle)
/-- a comprehension over enumerate(t) -/
theorem lc_enumT {K : PySem.W.Frag} {a : Addr} {xs : List V} {g : TG} {tt : TT} {te : TE} {vs : List Nat} {σ : L2.St} {H1 : Hp} {D : Addr} {Qd : Hp → Prop} (Pv : Nat → Hp → Prop) (h0 : Pv 0 (upd H1 D (.lst []))) (hl : ∀ i H, i ≤ xs.length → Pv i H → SqT K H a xs)
    (hs : ∀ i x H T, xs[i]? = some x → Pv i H → H T = none → g (.ref T) (wipe σ vs) (upd H T (.tup [.int (i : Nat), x])) fun σ2 H2 => wipe σ2 vs = wipe σ vs ∧ tt σ2 H2 fun b H3 =>
      if b = true then te σ2 H3 fun y H4 => ∃ acc, H4 D = some (.lst acc) ∧ acc.length < sizeLine ∧ Pv (i + 1) (upd H4 D (.lst (acc ++ [y]))) else Pv (i + 1) H3) (hd : ∀ H, Pv xs.length H → Qd H) :
    ∃ W : Nat → Nat → Hp → Prop, (∃ m, W 0 m (upd H1 D (.lst []))) ∧ ∀ i m H, W i m H →
      ((ItE K a).stop i H ∧ Qd H) ∨ ((ItE K a).go i H ∧ ∃ Nx : Hp → Prop, (∀ H2, Nx H2 → ∃ m2, m2 < m ∧ W (i + 1) m2 H2) ∧ ∀ x H2, (ItE K a).yld i H x H2 → g x (wipe σ vs) H2 fun σ2 H2 => wipe σ2 vs = wipe σ vs ∧ tt σ2 H2 fun b H3 =>
        if b = true then te σ2 H3 fun y H4 => ∃ acc, H4 D = some (.lst acc) ∧ acc.length < sizeLine ∧ Nx (upd H4 D (.lst (acc ++ [y]))) else Nx H3) := by
  refine ⟨fun i m H => m = xs.length - i ∧ i ≤ xs.length ∧ Pv i H, ⟨xs.length, by simp, Nat.zero_le _, h0⟩, fun i m H ⟨em, hi, hp⟩ => ?_⟩
  subst em
  have hq := hl i H hi hp
  by_cases hlt : i < xs.length
  · refine .inr ⟨⟨xs, xs[i], hq, by simp [hlt]⟩, Pv (i + 1), fun H2 p2 => ⟨xs.length - (i + 1), by omega, rfl, hlt, p2⟩, fun x H2 ⟨T, y, ex, nT, eH, hy⟩ => ?_⟩
    subst ex eH
    exact hs i y H T (hy xs hq) hp nT
  · have : i = xs.length := by omega
    subst this
    exact .inl ⟨⟨xs, hq, Nat.le_refl _⟩, hd H hp⟩
end ExX
namespace ExX
open PySem PySem.Spec PyProof.Rows L2
theorem for_enumT {K : PySem.W.Frag} {a : Addr} {xs : List V} {g : TG} {tb : TS} {D : Ends} {σ : L2.St} {H : Hp} (Pv : Nat → L2.St → Hp → Prop) (h0 : Pv 0 σ H) (hl : ∀ i σ H, i ≤ xs.length → Pv i σ H → SqT K H a xs)
    (hs : ∀ i x σ H T, xs[i]? = some x → Pv i σ H → H T = none → g (.ref T) σ (upd H T (.tup [.int (i : Nat), x])) fun σ2 H2 => tb { D with nx := Pv (i + 1), ct := Pv (i + 1), bk := D.nx } σ2 H2) (hd : ∀ σ H, Pv xs.length σ H → D.nx σ H) :
    ∃ W : Nat → Nat → L2.St → Hp → Prop, (∃ m, W 0 m σ H) ∧ ∀ i m σ H, W i m σ H →
      ((ItE K a).stop i H ∧ D.nx σ H) ∨ ((ItE K a).go i H ∧ ∃ N : L2.St → Hp → Prop, (∀ σ2 H2, N σ2 H2 → ∃ m2, m2 < m ∧ W (i + 1) m2 σ2 H2) ∧ ∀ x H2, (ItE K a).yld i H x H2 → g x σ H2 fun σ2 H2 => tb { D with nx := N, ct := N, bk := D.nx } σ2 H2) := by
  refine ⟨fun i m σ H => m = xs.length - i ∧ i ≤ xs.length ∧ Pv i σ H, ⟨xs.length, by simp, Nat.zero_le _, h0⟩, fun i m σ H ⟨em, hi, hp⟩ => ?_⟩
  subst em
  have hq := hl i σ H hi hp
  by_cases hlt : i < xs.length
  · refine .inr ⟨⟨xs, xs[i], hq, by simp [hlt]⟩, Pv (i + 1), fun σ2 H2 p2 => ⟨xs.length - (i + 1), by omega, rfl, hlt, p2⟩, fun x H2 ⟨T, y, ex, nT, eH, hy⟩ => ?_⟩
    subst ex eH
    exact hs i y σ H T (hy xs hq) hp nT
  · have : i = xs.length := by omega
    subst this
    exact .inl ⟨⟨xs, hq, Nat.le_refl _⟩, hd σ H hp⟩
end ExX

namespace ExX
open PySem PySem.Spec PyProof.Rows L2
/-- a def that may raise, called where it does not -/
theorem fn_no {P : Program} {w : World} {K : PySem.W.Frag} {mg : Str → Option Value} {base : Heap} {k : Nat} {f : Addr} {fd : FuncData} {ps : List Str} {sp sp' : Sp} (F : FnOk P w K mg base (L2N.CX P w) k f fd ps sp) (h : ∀ vs H Q E, sp' vs H Q E → sp vs H Q (fun _ _ _ => False)) : FnOk P w K mg base CX0 k f fd ps sp' := by
  refine ⟨fun vs H Q E z => F.len _ _ _ _ (h _ _ _ _ z), fun A outer s H args us vs Q E hr e0 b r z => ?_⟩
  refine codeAny_mono (F.run A outer s H args us vs Q (fun _ _ _ => False) hr e0 b r (h _ _ _ _ z)) fun res s2 q => ?_
  cases res with
  | ok fl => cases fl <;> exact q
  | error e =>
    have q : L2N.CX P w outer H s (fun _ _ _ => False) e s2 := q
    unfold L2N.CX at q
    simp at q
def noE (sp : Sp) : Sp := fun vs H Q _ => sp vs H Q fun _ _ _ => False
theorem fn_noE {P : Program} {w : World} {K : PySem.W.Frag} {mg : Str → Option Value} {base : Heap} {k : Nat} {f : Addr} {fd : FuncData} {ps : List Str} {sp : Sp} (F : FnOk P w K mg base (L2N.CX P w) k f fd ps sp) : FnOk P w K mg base CX0 k f fd ps (noE sp) := fn_no F fun _ _ _ _ z => z
theorem Flies.same {H H1 : Hp} {E : XK} {C : Addr} {fld tag : Str} {v : V} (f : Flies H E C fld tag v) (s : Same H H1) : Flies H1 E C fld tag v := fun d H2 n h s2 => f d H2 (sm_none s n) h (s.trans s2)
end ExX

/-! repr of data, and a law that shows data: nothing else is being shown where it is called. -/
namespace RpG
open PySem PySem.Spec PyProof.Rows L2
/-- repr(x), x nested data without dicts -/
def rRepr (K : PySem.W.Frag) : List V → Hp → VK → Prop := fun vs H Q => ∃ (a : Addr) (d : PyData), vs = [.ref a] ∧ Dp K H (.ref a) d ∧ d.showable = true ∧ d.hasDict = false ∧ d.depth ≤ 60 ∧ d.shown.length ≤ sizeLine ∧ Q (.str d.shown) H
theorem cr_repr {X : Cx} (hg : X.A.guards = some []) (hu : X.A.units + 64 < cLine) : CallR X (.builtin "repr") (rRepr X.K) := by
  intro pins s σ H vs us Q I r h
  obtain ⟨a, d, rfl, hd, hsh, hnd, hdp, hlen, q⟩ := h
  rw [Vals.ref1 r]
  obtain ⟨as, rd⟩ := Dp.reads I d (.ref a) (.ref a) hd rfl
  refine repr_of_reads' rd hsh (fun z => by rw [hnd] at z; cases z) hg (by omega) (fun _ _ e => e) (fun h' u tk hk => ?_) hlen
  exact ⟨.str d.shown, H, I.kept hk, ⟨u, rfl⟩, q⟩
/-- a def's promise where nothing is being shown -/
structure FnG (P : Program) (w : World) (K : PySem.W.Frag) (mg : Str → Option Value) (base : Heap) (CX : CXT) (k : Nat) (f : Addr) (fd : FuncData) (ps : List Str) (sp : Sp) : Prop where
  len : ∀ vs H Q E, sp vs H Q E → vs.length = ps.length
  run : ∀ (A : Around) (out : List Env) (s : Shared) (H : Hp) (args : Args) (us : List Value) (vs : List V) (Q : VK) (E : XK), Room k A → A.guards = some [] →
    Env0 P w K mg base A out s H → BindsTo s fd args (ps.zip us) → Vals vs us → sp vs H Q E → codeAny (model P w) A (.call (.ref f) args) (CR CX out P w H s Q E) s
section
variable {P : Program} {w : World} {K : PySem.W.Frag} {mg : Str → Option Value} {base : Heap}
theorem okG {x qual : Str} {st : Stmt} {f : Addr} {fd : FuncData} {N ps : List Str} {k : Nat} {sp : Sp} (F : Fun K x qual st f fd) (S : FnScope N ps (defScope st))
    (len : ∀ vs H Q E, sp vs H Q E → vs.length = ps.length)
    (bd : ∀ (cdv : Value) (A : Around) (out : List Env) (s : Shared) (H : Hp) (vs : List V) (Q : VK) (E : XK), A.guards = some [] → Room k (A.deeper (envOfC qual (defScope st) s.heap.objs.size f cdv)) → sp vs H Q E →
      ∃ t, PSs (cxOf CX0 P w K mg base N qual (defScope st) f cdv A out s H E).nox (defBody st) t ∧ t { nx := fun _ H' => Q .non H', rt := Q } (start N vs) H) :
    FnG P w K mg base CX0 (k + 1) f fd ps sp := by
  obtain ⟨oc, od, kV, doc, pm, an, cdv, ct, osl, rfl, lk, hcd⟩ := F.ex
  constructor
  · exact len
  intro A out s H args us vs Q E hr gd e0 hb rv hsp
  have up : ∀ b o, base.get? b = some o → s.heap.get? b = some o := fun b o e => (e0.bs b o e).1
  have KX : K.In s.heap := e0.mod.kin.keeps up
  have par : ∀ y ∈ ps.zip us, (defScope st).names.lookup y.1 = some .local ∨
      ((defScope st).names.lookup y.1 = some .cell ∧ ((cellsFrom (s.heap.objs.size + 1) (defScope st).names []).lookup y.1).isSome = true) := by
    rintro ⟨nm, v⟩ hy
    exact (S.par nm (List.of_mem_zip hy).1).imp id fun q => ⟨q, PySem.W.cellsFrom_some _ _ _ (.inl q)⟩
  refine codeAny_call_function hr.depth (KX _ _ lk) rfl S.co S.gen rfl (PySem.W.codeRec_of KX hcd) (hb _ _ _ _ ?_)
  refine wpAny_newFunctionEnv_cells S.kind par fun env he s1 ic => ?_
  subst he
  refine ⟨(e0.mod.nolimit.keeps up).keeps ic.toInCall.keep, codeAny_func ?_⟩
  obtain ⟨t, ht0, hq⟩ := bd cdv A out s H vs Q E gd (hr.deeper _) hsp
  have ht := ht0.nox
  have J0 := inv_start (CX := CX0) (E := E) S hr.hd e0 (len _ _ _ _ hsp) rv ic
  refine wpAny_mono (ht.run [] s1 (start N vs) H _ J0 hq) (fun fl s' hs => ?_) fun e s' hs => hs
  match fl, hs with
  | .ret u, ⟨v, σ', H', J, r, q⟩ => exact ⟨v, H', J.os, J.bare, J.base, J.hok, r, q⟩
  | .next, ⟨σ', H', J, q⟩ => exact ⟨V.non, H', J.os, J.bare, J.base, J.hok, rfl, q⟩
  | .brk, ⟨_, _, _, q⟩ => exact False.elim q
  | .cont, ⟨_, _, _, q⟩ => exact False.elim q
end
section
variable {P : Program} {w : World} {K : PySem.W.Frag} {mg mb : Str → Option Value} {k : Nat} {fa a : Addr} {fd : FuncData} {x : Str} {sp : Sp} {s1 : Shared} {vs : List Value} {ns : List Int}
/-- what a law's call must show -/
abbrev Told (s1 : Shared) : Result → Shared → Prop := fun r s' => r = .ok (.ret (.bool true)) ∧ OldK s1.heap s'.heap ∧ s'.os = s1.os ∧ AllBare s'.gens
theorem call_core (KX : K.In s1.heap) (hns : s1.heap.Ns mainGlobals mg) (hb : s1.heap.Ns builtinsNs mb) (hbb : ∀ y : Str, y ≠ "__name__" → mb y = bootBuiltins y) (hlim : s1.heap.NoLimit) (hg : s1.gens = #[])
    (ha : s1.heap.get? a = some { cls := .type "list", data := .seq vs.toArray }) (hr : Room k callerA)
    (F : ∀ base : Heap, K.In base → base.Ns mainGlobals mg → FnG P w K mg base CX0 k fa fd [x] sp) (bnd : ∀ (s : Shared) (u : Value), BindsTo s fd ⟨[u], []⟩ [(x, u)])
    {H : Hp} (hO : Only H) (hok : HOk P w H s1.heap) (hA : ∀ b, H b ≠ none → b = a) (hK : H a ≠ none → K.lookup a = none)
    (hsp : sp [.ref a] H (fun v _ => v = .bl true) fun _ _ _ => False) : codeAny (model P w) callerA (.call (.ref fa) ⟨[.ref a], []⟩) (Told s1) s1 := by
  have keepB : ∀ {b : Addr} {o : Obj}, s1.heap.get? b = some o → H b = none → (hidT s1.heap H).get? b = some o := fun e z => hidT_get e z
  have free : ∀ {b : Addr} {o : Obj}, s1.heap.get? b = some o → (∀ n, o.data ≠ Data.seq vs.toArray n) → H b = none := fun {b o} e nd => by
    by_cases z : H b = none
    · exact z
    · have eb := hA b z
      rw [eb, ha] at e
      exact absurd rfl (by cases e; exact nd _)
  have nsB : ∀ {b : Addr} {m : Str → Option Value}, s1.heap.Ns b m → (hidT s1.heap H).Ns b m := fun h => by
    obtain ⟨o, es, ep, e, dd, rest⟩ := h
    exact ⟨o, es, ep, keepB e (free e fun n z => by rw [dd] at z; cases z), dd, rest⟩
  have KB : K.In (hidT s1.heap H) := fun b o e => by
    refine keepB (KX b o e) ?_
    by_cases z : H b = none
    · exact z
    · have eb := hA b z
      subst eb
      rw [hK z] at e
      cases e
  have md : Mod K mg (hidT s1.heap H) := by
    obtain ⟨mc, l1, l2⟩ := hlim
    exact ⟨KB, nsB hns, ⟨mb, nsB hb, hbb⟩, ⟨mc, nsB l1, l2⟩⟩
  have none0 : ∀ b : Addr, b ∉ frs ([] : List Env) := fun b z => absurd (show b ∈ ([] : List Addr) from z) (by simp)
  have env : Env0 P w K mg (hidT s1.heap H) callerA [] s1 H := ⟨rfl, md, fun _ _ e => of_hidT e, Nat.le_of_eq (hidT_size _ _), trivial, fun b z => absurd z (none0 b), hok, .of_eq hg⟩
  have go := (F _ KB (nsB hns)).run callerA [] s1 H ⟨[.ref a], []⟩ [.ref a] [.ref a] _ _ hr rfl env (bnd s1 (.ref a)) (.cons rfl .nil) hsp
  refine codeAny_mono go fun res s' out => ?_
  match res, out with
  | .error _, out => exact (show False from out).elim
  | .ok .next, out => exact (show False from out).elim
  | .ok .brk, out => exact (show False from out).elim
  | .ok .cont, out => exact (show False from out).elim
  | .ok (.ret u), ⟨v, H', hos, hba, un, hok2, rel, hv⟩ =>
    have hv : v = .bl true := hv
    rw [hv] at rel
    have eu : u = Value.bool true := rel
    refine ⟨by rw [eu], OldK.of_keep fun b o e => ?_, hos, hba⟩
    rcases hO b with z | ⟨ob, ys, z⟩
    · exact un.keep b o e z (none0 b) (by simp)
    · have h1 := (hok b _ z).1
      have h2 := (hok2 b _ (un.frzs b ob _ z)).1
      rw [h1] at e
      rw [← e]; exact h2
theorem call_law (KX : K.In s1.heap) (hns : s1.heap.Ns mainGlobals mg) (hb : s1.heap.Ns builtinsNs mb) (hbb : ∀ y : Str, y ≠ "__name__" → mb y = bootBuiltins y) (hlim : s1.heap.NoLimit) (hg : s1.gens = #[])
    (ha : s1.heap.get? a = some { cls := .type "list", data := .seq vs.toArray }) (hi : IntsAre vs ns) (hl : ns.length ≤ sizeLine) (hr : Room k callerA)
    (F : ∀ base : Heap, K.In base → base.Ns mainGlobals mg → FnG P w K mg base CX0 k fa fd [x] sp) (bnd : ∀ (s : Shared) (u : Value), BindsTo s fd ⟨[u], []⟩ [(x, u)])
    (hsp : ∀ H : Hp, Only H → SqL K H a (ns.map V.int) → sp [.ref a] H (fun v _ => v = .bl true) fun _ _ _ => False) : codeAny (model P w) callerA (.call (.ref fa) ⟨[.ref a], []⟩) (Told s1) s1 := by
  have rv := vals_ints hi
  cases hk : K.lookup a with
  | some o =>
    have e := KX a o hk
    rw [ha] at e
    have eo := Option.some.inj e
    subst eo
    have hO : Only (fun _ => none) := fun _ => .inl rfl
    refine call_core KX hns hb hbb hlim hg ha hr F bnd hO (fun b u z => nomatch (show (none : Option HO) = some u from z)) (fun b z => absurd rfl z) (fun z => absurd rfl z) (hsp _ hO ?_)
    exact .inr ⟨_, vs.toArray, _, hk, rfl, rfl, rfl, by rw [List.size_toArray, hi.length]; exact hl, by simpa using rv⟩
  | none =>
    let fz : HO := .frz { cls := .type "list", data := .seq vs.toArray } (.lst (ns.map V.int))
    have at_a : (fun b : Addr => if b = a then some fz else none) a = some fz := if_pos rfl
    have off : ∀ b, b ≠ a → (fun b : Addr => if b = a then some fz else none) b = none := fun b z => if_neg z
    have hO : Only (fun b : Addr => if b = a then some fz else none) := fun b => by
      by_cases z : b = a
      · exact .inr ⟨_, _, if_pos z⟩
      · exact .inl (off b z)
    refine call_core KX hns hb hbb hlim hg ha hr F bnd hO (fun b u z => ?_) (fun b z => ?_) (fun _ => hk) (hsp _ hO (.inl (.inr ⟨_, at_a⟩)))
    · by_cases eb : b = a
      · subst eb
        rw [if_pos rfl] at z
        have ez := Option.some.inj z
        rw [← ez]
        exact ⟨ha, by rw [List.length_map]; exact hl, vs, _, rv, ha⟩
      · rw [if_neg eb] at z; cases z
    · by_cases eb : b = a
      · exact eb
      · exact absurd (off b eb) z
end
/-- the end of a law that shows data -/
theorem walkG {l : PySem.W.OpenLaw} {n k : Nat} {q : Program} {loose : List Str} {XP : (Str → Option Value) → Heap → Prop} {YP : World → Heap → Prop} {d : DefRec} {K : Params → PySem.W.Frag} {sp : World → Sp} {x : Str}
    (hn : l.most = some n) (hn2 : n ≤ sizeLine) (hdf : d.params.defaults = []) (hr : Room k callerA) (hY : ∀ (w : World) (h : Heap), YP w h → (K w.params).In h)
    (F : ∀ (w : World) (mg : Str → Option Value) (fa : Addr) (h : Heap), (K w.params).In h → h.Ns mainGlobals mg → mg d.name = some (.ref fa) → ∃ fd : FuncData, (∀ (s : Shared) (u : Value), BindsTo s fd ⟨[u], []⟩ [(x, u)]) ∧
      ∀ base : Heap, (K w.params).In base → base.Ns mainGlobals mg → FnG l.prog w (K w.params) mg base CX0 k fa fd [x] (sp w))
    (hsp : ∀ (w : World) (H : Hp) (a : Addr) (ns : List Int), ns.length ≤ n → Only H → SqL (K w.params) H a (ns.map V.int) → sp w [.ref a] H (fun v _ => v = .bl true) fun _ _ _ => False) :
    PySem.W.WalkO q loose XP YP l.row.toRowW d [] (fun f vs => PySem.call f vs) := by
  refine Att.attach_call hn hdf fun w _ s1 mg mb fa _ _ _ _ a vs ns G Y _ _ _ hmg hobj hints hlen hg => ?_
  obtain ⟨fd, bnd, ok⟩ := F w mg fa _ (hY w _ Y) G.T.g hmg
  exact call_law (hY w _ Y) G.T.g G.T.b G.T.builtins G.T.nolimit hg hobj hints (Nat.le_trans hlen hn2) hr ok bnd fun H hO hS => hsp w H a ns hlen hO hS
end RpG

/-! An end for a law whose lambdas stand in several defs: the tables of all of them are empty. -/
namespace LamX
open PySem PySem.Spec PyProof.Rows L2
theorem walk_many {law : PySem.W.OpenLaw} {top lev : Nat} {prg : Program} {ls : List Str} {XQ : (Str → Option Value) → Heap → Prop} {YQ : World → Heap → Prop} {dr : DefRec} {KK : Params → PySem.W.Frag} {CQ : World → CXT} {arg : Str}
    (h1 : law.most = some top) (h2 : top ≤ sizeLine)
    (h3 : dr.params.defaults = []) (h4 : Room lev callerA)
    (h5 : ∀ (w : World) (hp : Heap), YQ w hp → (KK w.params).In hp)
    (h6 : ∀ (w : World) (gl : Str → Option Value) (af : Addr) (hp : Heap), YQ w hp → (KK w.params).In hp → hp.Ns mainGlobals gl → gl dr.name = some (.ref af) →
      (∀ (y : Str) (ay : Addr), ((recsOf prg).any fun e => e.name == y) = true → gl y = some (.ref ay) → OwnTab (KK w.params) ay hp) → LawAtS law w (KK w.params) (CQ w) lev top arg gl af hp)
    (h7 : ∀ (w : World) (Hh : Hp) (sh : Shared) (er : Value) (sh' : Shared), CQ w [] Hh sh (fun _ _ _ => False) er sh' → False) :
    PySem.W.WalkO prg ls XQ YQ law.row.toRowW dr [] (fun g us => PySem.call g us) := by
  refine Att.attach_callB h1 h3 ?_
  intro w sA sB gl mb af ob pm cd dc aa vv nn GG YY x1 x2 x3 x4 x5 x6 x7 x8 x9
  have hk := h5 w _ YY
  obtain ⟨fd, cs, sp, t1, t2, t3, t4, t5, t6⟩ := h6 w gl af _ YY hk GG.T.g x4 (by
    intro y ay hy gy c P o1 fd1 e dd vs1 sl k1 k2 k3 k4 k5
    obtain ⟨rec, mem, nm⟩ := List.any_eq_true.mp hy
    obtain ⟨b1, b2, b3, b4, b5, r1, r2, r3, r4, r5, r6⟩ := GG.T.tab rec mem
    rw [beq_iff_eq.mp nm, gy] at r1
    cases r1
    rw [hk _ _ k1] at r2
    cases r2
    rw [k2] at r3
    cases r3
    rw [k3] at r4
    cases r4
    obtain ⟨⟨oc, vc, e1, _, e3, e4⟩, fin⟩ := r6
    rw [hk _ _ k4] at e1
    cases e1
    cases e3
    rw [k5] at e4
    cases e4
    exact fin)
  refine law_callTs hk GG.T.g GG.T.b GG.T.builtins GG.T.nolimit x9 t1 t2 t3 GG.T.bmain x5 x6 ?_ h4 t6 t4 ?_ ?_
  · exact Nat.le_trans x7 h2
  · exact fun Hh hH hS => t5 Hh aa nn x7 x8 hH hS
  · exact fun Hh er sh' => h7 w Hh sB er sh'
end LamX

/-! The end of a law that shows data and has lambdas too. -/
namespace RpH
open PySem PySem.Spec PyProof.Rows L2 LamX RpG
section
variable {P : Program} {w : World} {K : PySem.W.Frag} {mg mb : Str → Option Value} {base : Heap} {k : Nat} {fa a : Addr} {fd : FuncData} {x : Str} {sp : Sp} {z1 : Shared} {vs : List Value} {ns : List Int} {tb : List (Addr × Addr)}
/-- an empty table -/
abbrev ETab : Obj := { cls := .none, data := .fields #[] }
theorem tabOf {h : Heap} (e : ∀ p ∈ tb, h.get? p.2 = some ETab) {b : Addr} (m : b ∈ tb.map (·.2)) : h.get? b = some ETab := by
  obtain ⟨p, hp, rfl⟩ := List.mem_map.mp m
  exact e p hp
theorem core_tab (KX : K.In z1.heap) (hns : z1.heap.Ns mainGlobals mg) (hb : z1.heap.Ns builtinsNs mb) (hbb : ∀ y : Str, y ≠ "__name__" → mb y = bootBuiltins y) (hlim : z1.heap.NoLimit) (hg : z1.gens = #[])
    (et : ∀ p ∈ tb, z1.heap.get? p.2 = some ETab) (ek : ∀ p ∈ tb, K.lookup p.2 = none) (ec : ∀ p ∈ tb, PySem.W.CodeHd z1.heap p.1 p.2)
    (bmn : ∃ (m : Addr) (o : Obj), mg "__builtins__" = some (.ref m) ∧ m ≠ builtinsNs ∧ z1.heap.get? m = some o ∧ o.cls = .type "module" ∧ o.dict = some builtinsNs ∧ o.data = .plain)
    (ha : z1.heap.get? a = some { cls := .type "list", data := .seq vs.toArray }) (hr : Room k callerA)
    (F : ∀ base : Heap, K.In base → base.Ns mainGlobals mg → (∀ p ∈ tb, TabB base mg p.1 p.2) → FnG P w K mg base CX0 k fa fd [x] sp) (bnd : ∀ (s : Shared) (u : Value), BindsTo s fd ⟨[u], []⟩ [(x, u)])
    {H : Hp} (hT : ∀ p ∈ tb, H p.2 = some (.tbl #[])) (hO : ∀ b, H b = none ∨ b ∈ tb.map (·.2) ∨ ∃ o ys, H b = some (.frz o (.lst ys))) (hok : HOk P w H z1.heap) (hA : ∀ b, H b ≠ none → b = a ∨ b ∈ tb.map (·.2)) (hK : H a ≠ none → K.lookup a = none)
    (hsp : sp [.ref a] H (fun v _ => v = .bl true) fun _ _ _ => False) : codeAny (model P w) callerA (.call (.ref fa) ⟨[.ref a], []⟩) (Told z1) z1 := by
  have keepB : ∀ {b : Addr} {o : Obj}, z1.heap.get? b = some o → H b = none → (hidT z1.heap H).get? b = some o := fun e z => hidT_get e z
  have free : ∀ {b : Addr} {o : Obj}, z1.heap.get? b = some o → (∀ n, o.data ≠ Data.seq vs.toArray n) → o.data ≠ Data.fields #[] → H b = none := fun {b o} e n1 n2 => by
    by_cases z : H b = none
    · exact z
    · rcases hA b z with eb | eb
      · rw [eb, ha] at e
        exact absurd rfl (by cases e; exact n1 _)
      · rw [tabOf et eb] at e
        exact absurd rfl (by cases e; exact n2)
  have nsB : ∀ {b : Addr} {m : Str → Option Value}, z1.heap.Ns b m → (hidT z1.heap H).Ns b m := fun h => by
    obtain ⟨o, es, ep, e, dd, rest⟩ := h
    exact ⟨o, es, ep, keepB e (free e (fun n z => by rw [dd] at z; cases z) fun z => by rw [dd] at z; cases z), dd, rest⟩
  have KB : K.In (hidT z1.heap H) := fun b o e => by
    refine keepB (KX b o e) ?_
    by_cases z : H b = none
    · exact z
    · rcases hA b z with eb | eb
      · subst eb
        rw [hK z] at e
        cases e
      · obtain ⟨p, hp, rfl⟩ := List.mem_map.mp eb
        rw [ek p hp] at e
        cases e
  have md : Mod K mg (hidT z1.heap H) := by
    obtain ⟨mc, l1, l2⟩ := hlim
    exact ⟨KB, nsB hns, ⟨mb, nsB hb, hbb⟩, ⟨mc, nsB l1, l2⟩⟩
  have none0 : ∀ b : Addr, b ∉ frs ([] : List Env) := fun b z => absurd (show b ∈ ([] : List Addr) from z) (by simp)
  have TB : ∀ p ∈ tb, TabB (hidT z1.heap H) mg p.1 p.2 := fun p hp => by
    have e0 := et p hp
    constructor
    · obtain ⟨o, us, fl, tf, fg, tg, iF, tx, tt, h1, h2, h3, h4, hrest⟩ := ec p hp
      refine ⟨o, us, fl, tf, fg, tg, iF, tx, tt, keepB h1 (free h1 (fun n z => by rw [h3] at z; cases z) fun z => ?_), h2, h3, h4, hrest⟩
      rw [h3] at z
      cases z
      cases h4
    · obtain ⟨m, o, h1, h2, h3, h4, h5, h6⟩ := bmn
      refine ⟨m, o, h1, h2, ?_, ?_, keepB h3 (free h3 (fun n z => by rw [h6] at z; cases z) fun z => by rw [h6] at z; cases z), h4, h5, h6⟩
      · intro q
        obtain ⟨o2, es, ep, g1, g2, _⟩ := hns
        rw [q, g1] at h3
        cases h3
        rw [g2] at h6
        cases h6
      · intro q
        rw [q, e0] at h3
        cases h3
        cases h6
    · intro q
      obtain ⟨o2, es, ep, g1, g2, _⟩ := hns
      rw [q, e0] at g1
      cases g1
      cases g2
  have env : Env0 P w K mg (hidT z1.heap H) callerA [] z1 H := ⟨rfl, md, fun _ _ e => of_hidT e, Nat.le_of_eq (hidT_size _ _), trivial, fun b z => absurd z (none0 b), hok, .of_eq hg⟩
  have go := (F _ KB (nsB hns) TB).run callerA [] z1 H ⟨[.ref a], []⟩ [.ref a] [.ref a] _ _ hr rfl env (bnd z1 (.ref a)) (.cons rfl .nil) hsp
  refine codeAny_mono go fun res s' out => ?_
  match res, out with
  | .error _, out => exact (show False from out).elim
  | .ok .next, out => exact (show False from out).elim
  | .ok .brk, out => exact (show False from out).elim
  | .ok .cont, out => exact (show False from out).elim
  | .ok (.ret u), ⟨v, H', hos, hba, un, hok2, rel, hv⟩ =>
    have hv : v = .bl true := hv
    rw [hv] at rel
    have eu : u = Value.bool true := rel
    have stays : ∀ {b : Addr} {o : Obj}, b ∉ tb.map (·.2) → z1.heap.get? b = some o → s'.heap.get? b = some o := fun {b o} nb e => by
      rcases hO b with z | z | ⟨ob, ys, z⟩
      · exact un.keep b o e z (none0 b) (by simp)
      · exact absurd z nb
      · have h1 := (hok b _ z).1
        have h2 := (hok2 b _ (un.frzs b ob _ z)).1
        rw [h1] at e
        rw [← e]; exact h2
    have grew : ∀ p ∈ tb, ∃ more : Array Value, s'.heap.get? p.2 = some { cls := .none, data := .fields more } := fun p hp => by
      obtain ⟨more, z⟩ := un.tbls p.2 #[] (hT p hp)
      exact ⟨_, hok2 p.2 _ z⟩
    refine ⟨by rw [eu], ⟨fun b o e => ?_, fun b o e => ?_⟩, hos, hba⟩
    · by_cases mb : b ∈ tb.map (·.2)
      · obtain ⟨p, hp, rfl⟩ := List.mem_map.mp mb
        obtain ⟨more, hm⟩ := grew p hp
        have ee := (et p hp).symm.trans e
        have ee := Option.some.inj ee
        subst ee
        refine .inr (.inl ⟨((ec p hp).tab (et p hp)).isCodeTable, rfl, #[], more, rfl, ?_⟩)
        rw [Array.empty_append]
        exact hm
      · exact .inl (stays mb e)
    · by_cases mb : b ∈ tb.map (·.2)
      · obtain ⟨p, hp, rfl⟩ := List.mem_map.mp mb
        obtain ⟨more, hm⟩ := grew p hp
        exact ⟨_, hm⟩
      · exact ⟨o, stays mb e⟩
theorem call_tab (KX : K.In z1.heap) (hns : z1.heap.Ns mainGlobals mg) (hb : z1.heap.Ns builtinsNs mb) (hbb : ∀ y : Str, y ≠ "__name__" → mb y = bootBuiltins y) (hlim : z1.heap.NoLimit) (hg : z1.gens = #[])
    (et : ∀ p ∈ tb, z1.heap.get? p.2 = some ETab) (ek : ∀ p ∈ tb, K.lookup p.2 = none) (ec : ∀ p ∈ tb, PySem.W.CodeHd z1.heap p.1 p.2)
    (bmn : ∃ (m : Addr) (o : Obj), mg "__builtins__" = some (.ref m) ∧ m ≠ builtinsNs ∧ z1.heap.get? m = some o ∧ o.cls = .type "module" ∧ o.dict = some builtinsNs ∧ o.data = .plain)
    (ha : z1.heap.get? a = some { cls := .type "list", data := .seq vs.toArray }) (hi : IntsAre vs ns) (hl : ns.length ≤ sizeLine) (hr : Room k callerA)
    (F : ∀ base : Heap, K.In base → base.Ns mainGlobals mg → (∀ p ∈ tb, TabB base mg p.1 p.2) → FnG P w K mg base CX0 k fa fd [x] sp) (bnd : ∀ (s : Shared) (u : Value), BindsTo s fd ⟨[u], []⟩ [(x, u)])
    (hsp : ∀ H : Hp, (∀ p ∈ tb, H p.2 = some (.tbl #[])) → SqL K H a (ns.map V.int) → sp [.ref a] H (fun v _ => v = .bl true) fun _ _ _ => False) : codeAny (model P w) callerA (.call (.ref fa) ⟨[.ref a], []⟩) (Told z1) z1 := by
  have rv := vals_ints hi
  have nota : a ∉ tb.map (·.2) := fun z => by
    have q := tabOf et z
    rw [ha] at q
    have q := congrArg Obj.data (Option.some.inj q)
    cases q
  have inT : ∀ p ∈ tb, p.2 ∈ tb.map (·.2) := fun p hp => List.mem_map.mpr ⟨p, hp, rfl⟩
  cases hk : K.lookup a with
  | some o =>
    have e := KX a o hk
    rw [ha] at e
    have eo := Option.some.inj e
    subst eo
    let G : Hp := fun b => if b ∈ tb.map (·.2) then some (.tbl #[]) else none
    have yes : ∀ {b : Addr}, b ∈ tb.map (·.2) → G b = some (.tbl #[]) := fun m => if_pos m
    have no : ∀ {b : Addr}, b ∉ tb.map (·.2) → G b = none := fun m => if_neg m
    have hTG : ∀ p ∈ tb, G p.2 = some (.tbl #[]) := fun p hp => yes (inT p hp)
    refine core_tab KX hns hb hbb hlim hg et ek ec bmn ha hr F bnd (H := G) hTG (fun b => ?_) (fun b u z => ?_) (fun b z => ?_) (fun z => absurd (no nota) z) (hsp G hTG ?_)
    · by_cases m : b ∈ tb.map (·.2)
      · exact .inr (.inl m)
      · exact .inl (no m)
    · by_cases m : b ∈ tb.map (·.2)
      · have q := (yes m).symm.trans z
        have q := Option.some.inj q
        subst q
        exact tabOf et m
      · have q := (no m).symm.trans z
        cases q
    · by_cases m : b ∈ tb.map (·.2)
      · exact .inr m
      · exact absurd (no m) z
    · exact .inr ⟨_, vs.toArray, _, hk, rfl, rfl, rfl, by rw [List.size_toArray, hi.length]; exact hl, by simpa using rv⟩
  | none =>
    let fz : HO := .frz { cls := .type "list", data := .seq vs.toArray } (.lst (ns.map V.int))
    let G : Hp := fun b => if b = a then some fz else if b ∈ tb.map (·.2) then some (.tbl #[]) else none
    have at_a : G a = some fz := if_pos rfl
    have yes : ∀ {b : Addr}, b ≠ a → b ∈ tb.map (·.2) → G b = some (.tbl #[]) := fun n m => (if_neg n).trans (if_pos m)
    have no : ∀ {b : Addr}, b ≠ a → b ∉ tb.map (·.2) → G b = none := fun n m => (if_neg n).trans (if_neg m)
    have hTG : ∀ p ∈ tb, G p.2 = some (.tbl #[]) := fun p hp => yes (fun z => nota (z ▸ inT p hp)) (inT p hp)
    refine core_tab KX hns hb hbb hlim hg et ek ec bmn ha hr F bnd (H := G) hTG (fun b => ?_) (fun b u z => ?_) (fun b z => ?_) (fun _ => hk) (hsp G hTG (.inl (.inr ⟨_, at_a⟩)))
    · by_cases eb : b = a
      · exact .inr (.inr ⟨_, _, by rw [eb]; exact at_a⟩)
      · by_cases m : b ∈ tb.map (·.2)
        · exact .inr (.inl m)
        · exact .inl (no eb m)
    · by_cases eb : b = a
      · subst eb
        have q := Option.some.inj (at_a.symm.trans z)
        rw [← q]
        exact ⟨ha, by rw [List.length_map]; exact hl, vs, _, rv, ha⟩
      · by_cases m : b ∈ tb.map (·.2)
        · have q := Option.some.inj ((yes eb m).symm.trans z)
          subst q
          exact tabOf et m
        · have q := (no eb m).symm.trans z
          cases q
    · by_cases eb : b = a
      · exact .inl eb
      · by_cases m : b ∈ tb.map (·.2)
        · exact .inr m
        · exact absurd (no eb m) z
/-- a def with lambdas of its own, where nothing is being shown -/
theorem okGL {qual y : Str} {st : Stmt} {f : Addr} {N ps : List Str} {oc kV dc pm cdv ct : Value} {od an : Option Addr} {sl : Array (Option Value)} (lk : K.lookup f = some ⟨oc, od, .func (PySem.W.fnOf y qual (defArgs st) (defBody st) (defScope st) .none kV dc pm an cdv ct), sl⟩) (hcd : PySem.W.codeIn K cdv qual = true)
    (S : FnScope N ps (defScope st)) (len : ∀ vs H Q E, sp vs H Q E → vs.length = ps.length)
    (bd : ∀ (A : Around) (out : List Env) (s : Shared) (H : Hp) (vs : List V) (Q : VK) (E : XK), A.guards = some [] → Room k (A.deeper (envOfC qual (defScope st) s.heap.objs.size f cdv)) → sp vs H Q E →
      ∃ t, PSs (cxOf CX0 P w K mg base N qual (defScope st) f cdv A out s H E).nox (defBody st) t ∧ t { nx := fun _ H' => Q .non H', rt := Q } (start N vs) H) :
    FnG P w K mg base CX0 (k + 1) f (PySem.W.fnOf y qual (defArgs st) (defBody st) (defScope st) .none kV dc pm an cdv ct) ps sp := by
  constructor
  · exact len
  intro A out s H args us vs Q E hr gd e0 hbi rv hs0
  have old : ∀ b o, base.get? b = some o → s.heap.get? b = some o := fun b o e => (e0.bs b o e).1
  have KX := e0.mod.kin.keeps old
  have par : ∀ y ∈ ps.zip us, (defScope st).names.lookup y.1 = some .local ∨
      ((defScope st).names.lookup y.1 = some .cell ∧ ((cellsFrom (s.heap.objs.size + 1) (defScope st).names []).lookup y.1).isSome = true) := by
    rintro ⟨nm, v⟩ hy
    exact (S.par nm (List.of_mem_zip hy).1).imp id fun q => ⟨q, PySem.W.cellsFrom_some _ _ _ (.inl q)⟩
  refine codeAny_call_function hr.depth (KX _ _ lk) rfl S.co S.gen rfl (PySem.W.codeRec_of KX hcd) (hbi _ _ _ _ ?_)
  refine wpAny_newFunctionEnv_cells S.kind par fun env he s1 ic => ?_
  subst he
  refine ⟨(e0.mod.nolimit.keeps old).keeps ic.toInCall.keep, codeAny_func ?_⟩
  obtain ⟨t, ht0, hq⟩ := bd A out s H vs Q E gd (hr.deeper _) hs0
  have ht := ht0.nox
  have J0 := inv_start (CX := CX0) (E := E) S hr.hd e0 (len _ _ _ _ hs0) rv ic
  refine wpAny_mono (ht.run [] s1 (start N vs) H _ J0 hq) (fun fl s' hs => ?_) fun e s' hs => hs
  match fl, hs with
  | .ret u, ⟨v, σ', H', J, r, q⟩ => exact ⟨v, H', J.os, J.bare, J.base, J.hok, r, q⟩
  | .next, ⟨σ', H', J, q⟩ => exact ⟨V.non, H', J.os, J.bare, J.base, J.hok, rfl, q⟩
  | .brk, ⟨_, _, _, q⟩ => exact False.elim q
  | .cont, ⟨_, _, _, q⟩ => exact False.elim q
/-- what such a law must have at its end -/
def LawG (l : PySem.W.OpenLaw) (w : World) (K : PySem.W.Frag) (k n : Nat) (x : Str) (mg : Str → Option Value) (fa : Addr) (h : Heap) : Prop :=
  ∃ (fd : FuncData) (tb : List (Addr × Addr)) (sp : Sp), (∀ p ∈ tb, h.get? p.2 = some ETab) ∧ (∀ p ∈ tb, K.lookup p.2 = none) ∧ (∀ p ∈ tb, PySem.W.CodeHd h p.1 p.2) ∧ (∀ (s : Shared) (u : Value), BindsTo s fd ⟨[u], []⟩ [(x, u)]) ∧
    (∀ (H : Hp) (a : Addr) (ns : List Int), ns.length ≤ n → (∀ p ∈ tb, H p.2 = some (.tbl #[])) → SqL K H a (ns.map V.int) → sp [.ref a] H (fun v _ => v = .bl true) fun _ _ _ => False) ∧
    ∀ base : Heap, K.In base → base.Ns mainGlobals mg → (∀ p ∈ tb, TabB base mg p.1 p.2) → FnG l.prog w K mg base CX0 k fa fd [x] sp
end
theorem walk_gm {law : PySem.W.OpenLaw} {top lev : Nat} {prg : Program} {ls : List Str} {XQ : (Str → Option Value) → Heap → Prop} {YQ : World → Heap → Prop} {dr : DefRec} {KK : Params → PySem.W.Frag} {arg : Str}
    (h1 : law.most = some top) (h2 : top ≤ sizeLine) (h3 : dr.params.defaults = []) (h4 : Room lev callerA) (h5 : ∀ (w : World) (hp : Heap), YQ w hp → (KK w.params).In hp)
    (h6 : ∀ (w : World) (gl : Str → Option Value) (af : Addr) (hp : Heap), YQ w hp → (KK w.params).In hp → hp.Ns mainGlobals gl → gl dr.name = some (.ref af) →
      (∀ (y : Str) (ay : Addr), ((recsOf prg).any fun e => e.name == y) = true → gl y = some (.ref ay) → OwnTab (KK w.params) ay hp) → LawG law w (KK w.params) lev top arg gl af hp) :
    PySem.W.WalkO prg ls XQ YQ law.row.toRowW dr [] (fun g us => PySem.call g us) := by
  refine Att.attach_callB h1 h3 ?_
  intro w sA sB gl mb af ob pm cd dc aa vv nn GG YY x1 x2 x3 x4 x5 x6 x7 x8 x9
  have hk := h5 w _ YY
  obtain ⟨fd, tb, sp, t1, t2, t3, t4, t5, t6⟩ := h6 w gl af _ YY hk GG.T.g x4 (by
    intro y ay hy gy c P o1 fd1 e dd vs1 sl k1 k2 k3 k4 k5
    obtain ⟨rec, mem, nm⟩ := List.any_eq_true.mp hy
    obtain ⟨b1, b2, b3, b4, b5, r1, r2, r3, r4, r5, r6⟩ := GG.T.tab rec mem
    rw [beq_iff_eq.mp nm, gy] at r1
    cases r1
    rw [hk _ _ k1] at r2
    cases r2
    rw [k2] at r3
    cases r3
    rw [k3] at r4
    cases r4
    obtain ⟨⟨oc, vc, e1, _, e3, e4⟩, fin⟩ := r6
    rw [hk _ _ k4] at e1
    cases e1
    cases e3
    rw [k5] at e4
    cases e4
    exact fin)
  exact call_tab hk GG.T.g GG.T.b GG.T.builtins GG.T.nolimit x9 t1 t2 t3 GG.T.bmain x5 x6 (Nat.le_trans x7 h2) h4 t6 t4 fun Hh hH hS => t5 Hh aa nn x7 hH hS
end RpH

/-! a number is taken out of a set -/
namespace ExX
open PySem PySem.Spec PyProof.Rows L2
theorem eraseAt_list {α : Type} (xs : Array α) (p : Nat) : (SetTable.eraseAt xs p).toList = xs.toList.eraseIdx p := by
  unfold SetTable.eraseAt
  rw [Array.toList_append, Array.toList_extract, Array.toList_extract, List.eraseIdx_eq_take_drop_succ]
  simp only [List.extract, List.drop_zero, Nat.sub_zero]
  rw [List.take_of_length_le (l := List.drop (p + 1) xs.toList) (by simp)]
theorem insertAt_len {α : Type} (xs : Array α) (p : Nat) (x : α) : (SetTable.insertAt xs p x).size = xs.size + 1 := by
  unfold SetTable.insertAt
  simp
  omega
theorem drop_fits {t : SetTable} {n i : Nat} (h : t.fits n = true) (hi : i < n) : (t.drop i).fits (n - 1) = true := by
  unfold SetTable.fits at h
  rw [Bool.and_eq_true, beq_iff_eq, decide_eq_true_iff] at h
  obtain ⟨h1, h2⟩ := h
  unfold SetTable.fits SetTable.drop
  have hs : t.place[i]? = some (t.place[i]'(by omega)) := Array.getElem?_eq_getElem (by omega)
  rw [hs]
  dsimp only
  have e1 : (SetTable.eraseAt t.place i).size = n - 1 := by
    rw [← Array.length_toList, eraseAt_list, List.length_eraseIdx, Array.length_toList, if_pos (by omega), h1]
  rw [Bool.and_eq_true, beq_iff_eq, decide_eq_true_iff]
  refine ⟨e1, ?_⟩
  unfold SetTable.fill at h2 ⊢
  dsimp only
  rw [e1, insertAt_len]
  omega
theorem ris_erase {l : List Nat} (h : Ris l) (i : Nat) : Ris (l.eraseIdx i) := List.Pairwise.sublist (List.eraseIdx_sublist l i) h
section
variable {P : Program} {w : World} {A : Around} {E : Value → Shared → Prop} {s : Shared} {a : Addr} {S : Int → Bool} {n : Nat}
theorem drop_led (t : SetTable) (i : Nat) : (t.drop i).led = t.led := by
  unfold SetTable.drop
  split <;> rfl
theorem drop_ris {t : SetTable} (r : Ris t.place.toList) (i : Nat) : Ris (t.drop i).place.toList := by
  unfold SetTable.drop
  split
  · dsimp only
    rw [eraseAt_list]
    exact ris_erase r i
  · exact r
theorem setR_discard_hashed {k : Int} {tk : Tok} {Q : Bool → Shared → Prop} (R : SetR w s.heap a S n)
    (hQ : ∀ h', Heap.SameBut a s.heap h' → SetR w h' a (fun j => S j && !decide (j = k)) (if S k = true then n - 1 else n) → Q (S k) { s with heap := h' }) :
    wpAny (model P w) A (setDiscardHashed a (.int k tk) ((intKind P w).hash k)) Q E s := by
  obtain ⟨o, es, ep, t, ho, hex, hd, g, nd, hm, hb, hf, hn, hr, hl⟩ := R
  have hkey : (intKind P w).is k (.int k tk) = true := intKind_is P w k tk
  have hsc : (Value.int k tk).scannable = true := rfl
  have hel : ElemsOf (intKind P w) es.toList := good_elems g
  unfold setDiscardHashed setFind setFindIn
  refine wpAny_bind (wpAny_bind (wpAny_setState_of ho hd hf ?_))
  dsimp only
  rw [byScan_of hsc hb hel]
  simp only [↓reduceIte]
  refine wpAny_bind (wpAny_rule ?_)
  refine wpAny_bind (wpAny_setScan_of hkey ho hd hf hel ?_)
  cases hfi : List.findIdx? (fun e => (intKind P w).is k e.2) es.toList with
  | none =>
    dsimp only
    have hnk : k ∉ es.toList.map keyOf := fun z => by
      obtain ⟨e, he, q⟩ := (good_mem (P := P) (w := w) g k).1 z
      have c := List.findIdx?_eq_none_iff.mp hfi e he
      rw [q] at c
      cases c
    have hSk : S k = false := by
      cases q : S k with
      | false => rfl
      | true => exact absurd ((hm k).1 q) hnk
    refine wpAny_pure (wpAny_pure ?_)
    have q := hQ s.heap (Heap.SameBut.refl a s.heap) ⟨o, es, ep, t, ho, hex, hd, g, nd, fun i => by
      rw [Bool.and_eq_true, hm i]
      exact ⟨fun z => z.1, fun z => ⟨z, by simp only [Bool.not_eq_true', decide_eq_false_iff_not]; exact fun e => hnk (e ▸ z)⟩⟩, hb, hf, by rw [hSk]; exact hn, hr, hl⟩
    rw [hSk] at q
    exact q
  | some j =>
    dsimp only
    obtain ⟨hj, pj, _⟩ := List.findIdx?_eq_some_iff_getElem.mp hfi
    have hSk : S k = true := (hm k).2 ((good_mem (P := P) (w := w) g k).2 ⟨es.toList[j], List.getElem_mem hj, pj⟩)
    rw [Nat.zero_add]
    refine wpAny_pure ?_
    dsimp only
    refine wpAny_bind (wpAny_setState_of ho hd hf ?_)
    dsimp only
    have pm := (erase_perm es.toList j _ (List.getElem?_eq_getElem hj)).map keyOf
    rw [List.map_cons, (good_is (g _ (List.getElem_mem hj)) k).1 pj, ← eraseAt_list] at pm
    have g1 : ∀ e ∈ (SetTable.eraseAt es j).toList, GoodE e := fun e he => by
      rw [eraseAt_list] at he
      exact g e ((List.eraseIdx_sublist es.toList j).subset he)
    have nd1 := List.nodup_cons.mp (pm.nodup_iff.mpr nd)
    have hj' : j < es.size := by rw [← Array.length_toList]; exact hj
    have hsz : (SetTable.eraseAt es j).size = es.size - 1 := by rw [← Array.length_toList, eraseAt_list, List.length_eraseIdx, if_pos hj, Array.length_toList]
    have hb1 : (SetTable.eraseAt es j).size < scanBound := by rw [hsz]; omega
    refine wpAny_bind (wpAny_storeSet_of ho hd ?_ (fits_of_scanBound hb1))
    have ho1 := store_at (es' := SetTable.eraseAt es j) (t' := t.drop j) ho hd
    refine wpAny_bind (wpAny_point (wpAny_pure ?_))
    have q := hQ _ (Heap.SameBut.update s.heap a (Obj.putSet (SetTable.eraseAt es j) (t.drop j))) ⟨_, _, _, _, ho1, hex, rfl, g1, nd1.2, fun i => ?_, hb1, by rw [hsz]; exact drop_fits hf hj', by rw [if_pos hSk, hsz, hn], drop_ris hr j, hl.imp id fun z => by rw [drop_led]; exact z⟩
    · rw [hSk] at q
      exact q
    · rw [Bool.and_eq_true, hm i, ← pm.mem_iff, List.mem_cons]
      simp only [Bool.not_eq_true', decide_eq_false_iff_not]
      constructor
      · rintro ⟨z | z, ne⟩
        · exact absurd z ne
        · exact z
      · exact fun z => ⟨.inr z, fun e => nd1.1 (e ▸ z)⟩
/-- one number of the other set: out if it is there, in if it is not -/
theorem setR_flip {k : Int} {tk : Tok} {Q : Unit → Shared → Prop} (R : SetR w s.heap a S n) (room : n + 1 < scanBound)
    (hQ : ∀ h', Heap.SameBut a s.heap h' → SetR w h' a (fun j => S j ^^ decide (j = k)) (if S k = true then n - 1 else n + 1) → Q () { s with heap := h' }) :
    wpAny (model P w) A (holding [.int k tk] (do
      if !(← setDiscardHashed a (.int k tk) ((intKind P w).hash k)) then
        let _ ← setAddHashed a (.int k tk) ((intKind P w).hash k))) Q E s := by
  refine wpAny_holding ?_
  refine wpAny_bind (setR_discard_hashed R fun h1 sb1 R1 => ?_)
  cases hS : S k with
  | true =>
    rw [hS, if_pos rfl] at R1
    refine wpAny_pure (hQ h1 sb1 ?_)
    rw [hS, if_pos rfl]
    refine R1.congr fun j => ?_
    by_cases e : j = k
    · subst e; rw [hS, decide_eq_true rfl]; rfl
    · rw [decide_eq_false e]; cases S j <;> rfl
  | false =>
    rw [hS, if_neg (by decide)] at R1
    refine wpAny_bind (setR_add_hashed (s := { s with heap := h1 }) R1 room fun h2 sb2 R2 => wpAny_pure (hQ h2 (sb1.trans sb2) ?_))
    have e0 : (S k && !decide (k = k)) = false := by rw [hS]; rfl
    rw [hS, if_neg (by decide)]
    rw [e0, if_neg (by decide)] at R2
    refine R2.congr fun j => ?_
    by_cases e : j = k
    · subst e; rw [hS, decide_eq_true rfl]; rfl
    · rw [decide_eq_false e]; cases S j <;> rfl
/-- a walk over a set: its entries in some order -/
theorem setWalk_ok {o : Obj} {es : Array (Int × Value)} {ep : Nat} {t : SetTable} {Q : Array (Int × Value) → Shared → Prop} (ho : s.heap.get? a = some o) (hd : o.data = .set es ep t) (hf : t.fits es.size = true)
    (hl : w.params.followText "set-order" = true ∨ t.led = true) (hQ : ∀ out d, out.toList.Perm es.toList → Q out { s with drawn := d }) : wpAny (model P w) A (setWalk a) Q E s := by
  unfold setWalk
  refine wpAny_bind (wpAny_setState_of ho hd hf ?_)
  dsimp only
  refine wpAny_bind (wpAny_byText ?_)
  cases hb : w.params.followText "set-order" with
  | true =>
    rw [if_pos rfl]
    refine wpAny_bind (wpAny_askSetting ?_)
    exact wpAny_pure (hQ _ s.drawn (pick_perm _ es))
  | false =>
    rw [if_neg (by decide)]
    have hled : t.led = true := hl.resolve_left (by rw [hb]; decide)
    split
    · refine wpAny_bind (drawOrder_at _ _ _ _ (by rw [Array.length_toList]; exact Nat.le_refl _) fun ys d h => wpAny_pure (hQ _ d ?_))
      rw [List.toList_toArray]
      exact h
    · refine wpAny_bind ?_
      change wpAny (model P w) A (if (!t.led && decide (es.size > 1)) = true then unsupported "set:maker-not-led" else pure ()) _ E s
      rw [hled]
      exact wpAny_pure (wpAny_pure (hQ es s.drawn (List.Perm.refl _)))
theorem forIn_arr {M : Model} {A : Around} {E : Value → Shared → Prop} {s : Shared} {α β : Type} (f : α → β → Sem (ForInStep β)) (I : List α → β → Shared → Prop) (Q : β → Shared → Prop)
    (turn : ∀ x rest b s, I (x :: rest) b s → wpAny M A (f x b) (fun r s' => match r with | .yield b' => I rest b' s' | .done b' => Q b' s') E s)
    (fin : ∀ b s, I [] b s → Q b s) (xs : Array α) (b : β) (h : I xs.toList b s) : wpAny M A (forIn xs b f) Q E s := by
  rw [← Array.forIn_toList]
  exact wpAny_forIn_list f I Q turn fin _ b h
/-- nothing in a set of ints is asked whether it is equal -/
theorem setsQuiet_ok : ∀ (sets : List Addr) {Q : Bool → Shared → Prop}, (∀ b ∈ sets, ∃ S n, SetR w s.heap b S n) → (Q true s) → wpAny (model P w) A (setsQuiet sets) Q E s := by
  intro sets Q h q
  unfold setsQuiet
  refine wpAny_bind (wpAny_forIn_list _ (fun l b s' => s' = s ∧ b = (none, ()) ∧ ∀ x ∈ l, ∃ S n, SetR w s.heap x S n) _ ?_ ?_ sets _ ⟨rfl, rfl, h⟩)
  · rintro a rest b s' ⟨rfl, rfl, hs⟩
    obtain ⟨S, n, o, es, ep, t, ho, hex, hd, g, nd, hm, hb, hf, hn, hr, hl⟩ := hs a List.mem_cons_self
    refine wpAny_bind ?_
    unfold setEntries
    refine wpAny_bind (wpAny_setState_of ho hd hf (wpAny_pure ?_))
    refine wpAny_bind (forIn_arr _ (fun l b s2 => s2 = s' ∧ b = (none, ()) ∧ ∀ e ∈ l, GoodE e) _ ?_ ?_ es _ ⟨rfl, rfl, g⟩)
    · rintro ⟨h0, x⟩ rest2 b s2 ⟨rfl, rfl, hg⟩
      obtain ⟨k, tk, e1, _⟩ := hg _ List.mem_cons_self
      have e1 : x = Value.int k tk := e1
      subst e1
      exact wpAny_pure ⟨rfl, rfl, fun e he => hg e (List.mem_cons_of_mem _ he)⟩
    · rintro b s2 ⟨rfl, rfl, _⟩
      exact wpAny_pure ⟨rfl, rfl, fun x hx => hs x (List.mem_cons_of_mem _ hx)⟩
  · rintro b s' ⟨rfl, rfl, _⟩
    exact wpAny_pure q
/-- a walk over a set that nobody sees; the set that is filled may lose two marks -/
theorem setWalkUnseen_ok {f : Addr} {Sf : Int → Bool} {nf : Nat} {Q : Array (Int × Value) → Shared → Prop} {o : Obj} {es : Array (Int × Value)} {ep : Nat} {t : SetTable} (ho : s.heap.get? a = some o) (hd : o.data = .set es ep t) (hf : t.fits es.size = true)
    (hl : w.params.followText "set-order" = true ∨ t.led = true) (hR : ∃ S n, SetR w s.heap a S n) (Rf : SetR w s.heap f Sf nf)
    (hQ : ∀ out d h', out.toList.Perm es.toList → Heap.SameBut f s.heap h' → SetR w h' f Sf nf → Q out { s with heap := h', drawn := d }) : wpAny (model P w) A (setWalkUnseen a [f] (some f)) Q E s := by
  unfold setWalkUnseen
  refine wpAny_bind (wpAny_setState_of ho hd hf ?_)
  dsimp only
  refine wpAny_bind (wpAny_byText ?_)
  have walk : wpAny (model P w) A (setWalk a) Q E s := setWalk_ok ho hd hf hl fun out d p => hQ out d s.heap p (Heap.SameBut.refl f s.heap) Rf
  split
  · exact walk
  · refine wpAny_bind (setsQuiet_ok [a, f] (fun b hb => ?_) ?_)
    · have hb' : b = a ∨ b = f := by simpa using hb
      rcases hb' with rfl | rfl
      · exact hR
      · exact ⟨_, _, Rf⟩
    · rw [if_neg (by decide)]
      refine wpAny_bind (wpAny_rule ?_)
      obtain ⟨o2, es2, ep2, t2, ho2, hex2, hd2, g2, nd2, hm2, hb2, hf2, hn2, hr2, hl2⟩ := id Rf
      refine wpAny_bind (wpAny_setState_of ho2 hd2 hf2 ?_)
      dsimp only
      split
      · refine wpAny_bind (wpAny_storeSet_of ho2 hd2 ?_ (fits_of_scanBound hb2))
        have ho3 := store_at (es' := es2) (t' := { t2 with led := t2.led && t.led, plain := t2.plain && t.plain }) ho2 hd2
        refine wpAny_pure (hQ es s.drawn _ (List.Perm.refl _) (Heap.SameBut.update s.heap f _) ⟨_, es2, _, _, ho3, hex2, rfl, g2, nd2, hm2, hb2, hf2, hn2, hr2, ?_⟩)
        rcases hl with h | h
        · exact .inl h
        · rcases hl2 with h2 | h2
          · exact .inl h2
          · exact .inr (by show (t2.led && t.led) = true; rw [h, h2]; rfl)
      · exact wpAny_pure (hQ es s.drawn s.heap (List.Perm.refl _) (Heap.SameBut.refl f s.heap) Rf)
theorem anySet_set {Q : Bool → Shared → Prop} (h : s.TypeIs (.ref a) "set") (q : Q true s) : wpAny (model P w) A (Builtin.Frozenset.isAnySet (.ref a)) Q E s := by
  unfold Builtin.Frozenset.isAnySet orM
  refine wpAny_bind (wpAny_isInstance h (b := true) (by rfl) ?_)
  exact wpAny_pure q
theorem epoch_ok {o : Obj} {es : Array (Int × Value)} {ep : Nat} {t : SetTable} {Q : Nat → Shared → Prop} (ho : s.heap.get? a = some o) (hd : o.data = .set es ep t) (hf : t.fits es.size = true) (q : Q ep s) : wpAny (model P w) A (setEpoch a) Q E s := by
  unfold setEpoch
  exact wpAny_bind (wpAny_setState_of ho hd hf (wpAny_pure q))
theorem symUpdate_ok {b : Addr} {T : Int → Bool} {m : Nat} {id : String} {Q : Unit → Shared → Prop} (R : SetR w s.heap a S n) (RT : SetR w s.heap b T m) (hab : b ≠ a) (room : n + m < scanBound)
    (hQ : ∀ h' d N, Heap.SameBut a s.heap h' → SetR w h' a (fun j => S j ^^ T j) N → N ≤ n + m → Q () { s with heap := h', drawn := d }) : wpAny (model P w) A (Builtin.Frozenset.symmetricDifferenceUpdate id a (.ref b)) Q E s := by
  have RT2 := RT
  obtain ⟨o, es, ep, t, ho, hex, hd, g, nd, hm, hb, hf, hn, hr, hl⟩ := RT2
  have hesl : es.toList.length = m := by rw [Array.length_toList]; exact hn
  unfold Builtin.Frozenset.symmetricDifferenceUpdate
  rw [if_neg (fun z => hab (by simpa using z))]
  dsimp only
  refine wpAny_bind (wpAny_typeOf (T := "set") (RT.setOf (P := P)).typeIs ?_)
  rw [if_neg (by decide)]
  refine wpAny_bind (anySet_set (RT.setOf (P := P)).typeIs ?_)
  rw [if_pos rfl]
  refine wpAny_bind (wpAny_pure ?_)
  refine wpAny_bind (show wpAny _ _ (Builtin.Frozenset.addrOf (.ref b)) _ _ _ from wpAny_pure ?_)
  refine wpAny_bind (epoch_ok ho hd hf ?_)
  refine wpAny_holding ?_
  refine wpAny_bind (setWalkUnseen_ok ho hd hf hl ⟨_, _, RT⟩ R fun out d h1 pm sb R1 => ?_)
  refine wpAny_bind (forIn_arr _ (fun l _ s' => ∃ done h' N, s' = { s with heap := h', drawn := d } ∧ (done ++ l).Perm es.toList ∧ Heap.SameBut a s.heap h' ∧ SetR w h' a (fun j => S j ^^ decide (j ∈ done.map keyOf)) N ∧ N ≤ n + done.length) _ ?_ ?_ out _ ⟨[], h1, n, rfl, pm, sb, R1.congr fun j => by simp, by simp⟩)
  · rintro ⟨h0, x⟩ rest u s' ⟨done, h', N, rfl, pm, sb, R', hN⟩
    have hme : (h0, x) ∈ es.toList := pm.subset (List.mem_append_right _ List.mem_cons_self)
    obtain ⟨k, tk, ex, eh⟩ := g _ hme
    have ex : x = Value.int k tk := ex
    have eh : h0 = hashInt k := eh
    subst ex
    subst eh
    have hlen : done.length + (rest.length + 1) = m := by
      have := pm.length_eq
      rw [List.length_append, List.length_cons, hesl] at this
      exact this
    have hnk : k ∉ done.map keyOf := by
      have nd2 := (pm.map keyOf).nodup_iff.mpr nd
      rw [List.map_append, List.map_cons] at nd2
      exact fun z => (List.nodup_append.mp nd2).2.2 _ z _ List.mem_cons_self rfl
    refine wpAny_bind (setR_flip (s := { s with heap := h', drawn := d }) (tk := tk) R' (by omega) fun h2 sb2 R2 => ?_)
    have sb3 := sb.trans sb2
    unfold Builtin.Frozenset.unchanged
    have ho2 : h2.get? b = some o := by rw [sb3.2 b hab]; exact ho
    refine wpAny_bind (wpAny_bind (epoch_ok (s := { s with heap := h2, drawn := d }) ho2 hd hf ?_))
    rw [if_neg (by simp)]
    refine wpAny_pure (wpAny_pure ⟨done ++ [(hashInt k, Value.int k tk)], h2, _, rfl, by rw [List.append_assoc]; exact pm, sb3, R2.congr fun j => ?_, ?_⟩)
    · rw [List.map_append, List.map_singleton]
      show (S j ^^ decide (j ∈ done.map keyOf ++ [k])) = _
      by_cases e : j = k
      · subst e
        simp [hnk]
      · simp [e]
    · rw [List.length_append, List.length_singleton]
      split <;> omega
  · rintro u s' ⟨done, h', N, rfl, pm, sb, R', hN⟩
    rw [List.append_nil] at pm
    refine wpAny_pure (hQ h' d N sb (R'.congr fun j => ?_) (by have := pm.length_eq; rw [hesl] at this; omega))
    congr 1
    have := (hm j).trans (pm.map keyOf).mem_iff.symm
    cases hT : T j with
    | true => exact (decide_eq_true (this.1 hT)).symm
    | false => exact (decide_eq_false fun z => by rw [this.2 z] at hT; cases hT).symm
end
end ExX

/-! a set's table laid anew: a small number finds a place -/
namespace ExX
open PySem PySem.Spec PyProof.Rows L2
/-- the places where a search begins its runs -/
def visits (mask : Nat) : Nat → Nat → Nat → List Nat
  | 0, _, _ => []
  | fuel + 1, i, p => i :: visits mask fuel (SetTable.leap mask i p).1 (SetTable.leap mask i p).2
theorem free_at {mask : Nat} {owner : Array (Option Nat)} : ∀ (fuel i p : Nat), i ≤ mask → (∃ j ∈ visits mask fuel i p, owner.getD j (some 0) = none) → ∃ j, SetTable.layClean.free mask owner fuel i p = some j ∧ j ≤ mask ∧ owner.getD j (some 0) = none
  | 0, _, _, _, ⟨j, h, _⟩ => by cases h
  | fuel + 1, i, p, hi, ⟨j, h, hj⟩ => by
    have run : SetTable.runEnd mask i ≤ mask := by
      unfold SetTable.runEnd
      split <;> omega
    unfold SetTable.layClean.free
    cases hf : (List.range (SetTable.runEnd mask i + 1 - i)).find? fun k => (owner.getD (i + k) (some 0)).isNone with
    | some k =>
      have hk := List.mem_range.mp (List.mem_of_find?_eq_some hf)
      have hn := List.find?_some hf
      exact ⟨i + k, rfl, by omega, Option.isNone_iff_eq_none.mp hn⟩
    | none =>
      dsimp only
      have hr : i ≤ SetTable.runEnd mask i := by
        unfold SetTable.runEnd
        split <;> omega
      have h0 := List.find?_eq_none.mp hf 0 (List.mem_range.mpr (by omega))
      have hlt : (SetTable.leap mask i p).1 ≤ mask := Nat.lt_succ_iff.mp (Nat.mod_lt _ (Nat.succ_pos mask))
      refine free_at fuel _ _ hlt ⟨j, ?_, hj⟩
      rcases List.mem_cons.mp h with e | h
      · subst e
        rw [Nat.add_zero, hj] at h0
        exact absurd rfl h0
      · exact h
/-- every search comes by every place -/
def allSeen (mask : Nat) : Bool := (List.range 64).all fun h => (List.range (mask + 1)).all fun j => (visits mask (SetTable.turns mask) (h % (mask + 1)) h).contains j
theorem seen7 : allSeen 7 = true := by decide +kernel
theorem seen15 : allSeen 15 = true := by decide +kernel
theorem seen31 : allSeen 31 = true := by decide +kernel
theorem seen63 : allSeen 63 = true := by decide +kernel
theorem seen127 : allSeen 127 = true := by decide +kernel
theorem seen_at {mask h j : Nat} (s : allSeen mask = true) (hh : h < 64) (hj : j ≤ mask) : j ∈ visits mask (SetTable.turns mask) (h % (mask + 1)) h := by
  unfold allSeen at s
  have a := List.all_eq_true.mp s h (List.mem_range.mpr hh)
  have b := List.all_eq_true.mp a j (List.mem_range.mpr (by omega))
  exact List.contains_iff_mem.mp b
end ExX

namespace ExX
open PySem PySem.Spec PyProof.Rows L2
theorem set_perm {k : Nat} : ∀ (l : List (Option Nat)) (j : Nat), l[j]? = some none → ((l.set j (some k)).filterMap fun x => x).Perm (k :: l.filterMap fun x => x)
  | [], j, h => by simp at h
  | x :: l, 0, h => by
    have e : x = none := by simpa using h
    subst e
    exact List.Perm.refl _
  | x :: l, j + 1, h => by
    have ih := set_perm (k := k) l j (by simpa using h)
    rw [List.set_cons_succ]
    cases x with
    | none => exact ih
    | some y => exact (ih.cons y).trans (List.Perm.swap k y _)
theorem none_in : ∀ (l : List (Option Nat)), (l.filterMap fun x => x).length < l.length → ∃ j : Nat, l[j]? = some none
  | [], h => by simp at h
  | none :: l, _ => ⟨0, rfl⟩
  | some y :: l, h => by
    obtain ⟨j, hj⟩ := none_in l (by simpa using h)
    exact ⟨j + 1, by simpa using hj⟩
/-- small numbers, no more than there are places: the table is laid -/
theorem lay_ok {mask : Nat} (sn : allSeen mask = true) (hs : Array Int) (h64 : ∀ h ∈ hs.toList, 0 ≤ h ∧ h < 64) (hl : hs.size ≤ mask + 1) : ∃ owner, SetTable.layClean mask hs = some owner ∧ owner.size = mask + 1 ∧ (owner.toList.filterMap fun x => x).Perm (List.range hs.size) := by
  have go : ∀ (l : List Int) (owner : Array (Option Nat)) (k : Nat), (∀ h ∈ l, 0 ≤ h ∧ h < 64) → owner.size = mask + 1 → (owner.toList.filterMap fun x => x).Perm (List.range k) → k + l.length ≤ mask + 1 →
      ∃ o2, (l.foldl (init := some (owner, k)) fun acc h => do
        let (owner, k) ← acc
        let j ← SetTable.layClean.free mask owner (SetTable.turns mask) (SetTable.bits h % (mask + 1)) (SetTable.bits h)
        pure (owner.setIfInBounds j (some k), k + 1)) = some (o2, k + l.length) ∧ o2.size = mask + 1 ∧ (o2.toList.filterMap fun x => x).Perm (List.range (k + l.length)) := by
    intro l
    induction l with
    | nil => exact fun owner k _ h1 h2 _ => ⟨owner, rfl, h1, h2⟩
    | cons h l ih =>
      intro owner k hh h1 h2 h3
      rw [List.length_cons] at h3
      obtain ⟨a1, a2⟩ := hh h List.mem_cons_self
      have hb : SetTable.bits h < 64 := by unfold SetTable.bits; omega
      obtain ⟨j0, hj0⟩ := none_in owner.toList (by rw [h2.length_eq, List.length_range, Array.length_toList, h1]; omega)
      have hj0' : j0 < owner.size := by rw [← Array.length_toList]; exact (List.getElem?_eq_some_iff.mp hj0).1
      have g0 : owner.getD j0 (some 0) = none := by
        rw [Array.getD_eq_getD_getElem?, ← Array.getElem?_toList, hj0]
        rfl
      obtain ⟨j, e, hj, gj⟩ := free_at (mask := mask) (owner := owner) (SetTable.turns mask) (SetTable.bits h % (mask + 1)) (SetTable.bits h) (Nat.lt_succ_iff.mp (Nat.mod_lt _ (Nat.succ_pos mask))) ⟨j0, seen_at sn hb (by omega), g0⟩
      have gj' : owner.toList[j]? = some none := by
        rw [Array.getD_eq_getD_getElem?] at gj
        rw [Array.getElem?_toList]
        have hlt : j < owner.size := by omega
        rw [Array.getElem?_eq_getElem hlt] at gj ⊢
        simpa using gj
      obtain ⟨o2, q1, q2, q3⟩ := ih (owner.setIfInBounds j (some k)) (k + 1) (fun x hx => hh x (List.mem_cons_of_mem _ hx)) (by simpa using h1) (by
        rw [Array.toList_setIfInBounds, List.range_succ]
        exact (set_perm _ _ gj').trans ((h2.cons k).trans (List.perm_append_singleton _ _).symm)) (by omega)
      refine ⟨o2, ?_, q2, by rw [List.length_cons, show k + (l.length + 1) = k + 1 + l.length by omega]; exact q3⟩
      rw [List.foldl_cons, List.length_cons, show k + (l.length + 1) = k + 1 + l.length by omega, ← q1]
      congr 1
      show (do
        let j ← SetTable.layClean.free mask owner (SetTable.turns mask) (SetTable.bits h % (mask + 1)) (SetTable.bits h)
        pure (owner.setIfInBounds j (some k), k + 1)) = _
      rw [e]
      rfl
  obtain ⟨o2, q1, q2, q3⟩ := go hs.toList (Array.replicate (mask + 1) none) 0 h64 (by simp) (by simp [List.filterMap_replicate]) (by rw [Array.length_toList]; omega)
  rw [Nat.zero_add, Array.length_toList] at q3
  refine ⟨o2, ?_, q2, q3⟩
  unfold SetTable.layClean
  rw [← Array.foldl_toList]
  erw [q1]
  rfl
end ExX

/-! a set made from a set, and set ^ set -/
namespace ExX
open PySem PySem.Spec PyProof.Rows L2
theorem own_list {m : Nat} {owner : Array (Option Nat)} (hs : owner.size = m + 1) : owner.toList = (List.range (m + 1)).map fun j => owner.getD j none := by
  refine List.ext_getElem (by simp [hs]) fun i h1 h2 => ?_
  rw [List.getElem_map, List.getElem_range, Array.getD_eq_getD_getElem?]
  have : i < owner.size := by simpa using h1
  rw [Array.getElem?_eq_getElem this]
  simp
theorem laid_ok {mask : Nat} (sn : allSeen mask = true) {hs : Array Int} (h64 : ∀ h ∈ hs.toList, 0 ≤ h ∧ h < 64) (hl : hs.size ≤ mask + 1) (f mv : Nat) (led pl : Bool) :
    ∃ t order, SetTable.laid mask f mv led pl hs = some (t, order) ∧ order.toList.Perm (List.range hs.size) ∧ Ris t.place.toList ∧ t.place.size = hs.size ∧ t.dummies = #[] ∧ t.mask = mask ∧ t.led = led := by
  obtain ⟨owner, e, sz, pm⟩ := lay_ok sn hs h64 hl
  have e2 : (((List.range (mask + 1)).filterMap fun j => (owner.getD j none).map (j, ·)).map (·.2)) = owner.toList.filterMap fun x => x := by
    rw [own_list sz, List.map_filterMap, List.filterMap_map]
    congr 1
    funext j
    simp only [Function.comp_def]
    cases owner.getD j none <;> rfl
  refine ⟨_, _, by unfold SetTable.laid; rw [e]; rfl, ?_, ?_, ?_, rfl, rfl, rfl⟩
  · show (((List.range (mask + 1)).filterMap fun j => (owner.getD j none).map (j, ·)).map (·.2)).Perm _
    rw [e2]; exact pm
  · refine (ris_live (fun j => owner.getD j none) (List.range (mask + 1)) ?_).1
    unfold Ris
    exact List.pairwise_lt_range
  · show (((List.range (mask + 1)).filterMap fun j => (owner.getD j none).map (j, ·)).map (·.1)).toArray.size = _
    have := pm.length_eq
    rw [← e2, List.length_map, List.length_range] at this
    rw [List.size_toArray, List.length_map, this]
theorem size_ok : ((List.range 60).all fun n => decide (n < 5) || (allSeen (SetTable.sizeAbove (n * 2) - 1) && decide (n ≤ SetTable.sizeAbove (n * 2) - 1) && decide (SetTable.sizeAbove (n * 2) ≤ 128))) = true := by
  have key : ∀ n, n < 60 → 5 ≤ n → SetTable.sizeAbove (n * 2) = 16 ∧ n < 16 ∨ SetTable.sizeAbove (n * 2) = 32 ∧ n < 32 ∨ SetTable.sizeAbove (n * 2) = 64 ∧ n < 64 ∨ SetTable.sizeAbove (n * 2) = 128 := by decide +kernel
  rw [List.all_eq_true]
  intro n hn
  have hn := List.mem_range.mp hn
  by_cases h5 : n < 5
  · rw [decide_eq_true h5]; rfl
  have h64 := hn
  rcases key n hn (by omega) with ⟨e, h⟩ | ⟨e, h⟩ | ⟨e, h⟩ | e
  · rw [e, show allSeen (16 - 1) = true from seen15, decide_eq_true (show n ≤ 16 - 1 by omega), decide_eq_true (show 16 ≤ 128 by omega)]; simp
  · rw [e, show allSeen (32 - 1) = true from seen31, decide_eq_true (show n ≤ 32 - 1 by omega), decide_eq_true (show 32 ≤ 128 by omega)]; simp
  · rw [e, show allSeen (64 - 1) = true from seen63, decide_eq_true (show n ≤ 64 - 1 by omega), decide_eq_true (show 64 ≤ 128 by omega)]; simp
  · rw [e, show allSeen (128 - 1) = true from seen127, decide_eq_true (show n ≤ 128 - 1 by omega), decide_eq_true (show 128 ≤ 128 by omega)]; simp
theorem size_at {n : Nat} (h : n < 60) (h5 : 5 ≤ n) : allSeen (SetTable.sizeAbove (n * 2) - 1) = true ∧ n ≤ SetTable.sizeAbove (n * 2) - 1 ∧ SetTable.sizeAbove (n * 2) ≤ 128 := by
  have := List.all_eq_true.mp size_ok n (List.mem_range.mpr h)
  rw [decide_eq_false (by omega), Bool.false_or, Bool.and_eq_true, Bool.and_eq_true, decide_eq_true_eq, decide_eq_true_eq] at this
  exact ⟨this.1.1, this.1.2, this.2⟩
theorem hash_small {k : Int} (h0 : 0 ≤ k) (h1 : k < 64) : hashInt k = k := by
  have : ∀ n, n < 64 → hashInt ((n : Nat) : Int) = ((n : Nat) : Int) := by decide +kernel
  have := this k.toNat (by omega)
  rw [show ((k.toNat : Nat) : Int) = k by omega] at this
  exact this
theorem range_take {α : Type} (es : Array α) : (List.range es.size).filterMap (fun i => es[i]?) = es.toList := by
  have key : ∀ n, n ≤ es.toList.length → (List.range n).filterMap (fun i => es.toList[i]?) = es.toList.take n := by
    intro n
    induction n with
    | zero => intro _; rfl
    | succ n ih =>
      intro hn
      rw [List.range_succ, List.filterMap_append, ih (by omega), List.take_succ, List.getElem?_eq_getElem (by omega), List.filterMap_cons_some (List.getElem?_eq_getElem (by omega))]
      rfl
  have := key es.toList.length (Nat.le_refl _)
  rw [List.take_length, Array.length_toList] at this
  rw [← this]
  congr 1
  funext i
  rw [Array.getElem?_toList]
theorem order_perm {α : Type} (es : Array α) (order : Array Nat) (hp : order.toList.Perm (List.range es.size)) : (order.filterMap (es[·]?)).toList.Perm es.toList := by
  have h := hp.filterMap (fun i => es[i]?)
  rw [range_take] at h
  rw [Array.toList_filterMap]
  exact h
theorem setMerge_eq (s o : Addr) (each : Sem Unit) : setMerge s o each = (do
  if s == o then return
  let (eo, epoch, to) ← setState o
  if eo.isEmpty then return
  setRoomFor s eo.size
  let (_, _, ts) ← setState s
  match ts.road to with
  | .slotForSlot => storeSet s eo { to with finger := ts.finger, led := ts.led && to.led, moves := ts.moves, plain := ts.plain && to.plain }
  | .clean =>
    let (es, t) ← (do
      let some (t, order) := SetTable.laid ts.mask ts.finger ts.moves (led := ts.led && to.led) (plain := ts.plain && to.plain) (eo.map (·.1)) | unsupported "internal:set-table-without-room"
      let es' := order.filterMap (eo[·]?)
      if es'.size != eo.size then unsupported "internal:set-table-lost-an-element"
      pure (es', t) : Sem (Array (Int × Value) × SetTable))
    storeSet s es t
  | .oneByOne =>
    for (h, x) in ← setWalkUnseen o [s] (some s) do
      let _ ← holding [x] (setAddHashed s x h)
      each
      if (← setState o).2.1 != epoch then unsupported "set.changed-during-merge") := by rfl
section
variable {P : Program} {w : World} {A : Around} {E : Value → Shared → Prop} {s : Shared} {a : Addr}
/-- an empty set with nothing gone from it -/
def Emp (w : World) (h : Heap) (a : Addr) (n : Nat) : Prop := ∃ o ep t, h.get? a = some o ∧ o.ExactSet ∧ o.data = .set #[] ep t ∧ t.place = #[] ∧ t.dummies = #[] ∧ allSeen t.mask = true ∧ n ≤ t.mask ∧ (w.params.followText "set-order" = true ∨ t.led = true)
theorem room_ok {n : Nat} {o : Obj} {ep f mv : Nat} {l : Bool} {Q : Unit → Shared → Prop} (ho : s.heap.get? a = some o) (hex : o.ExactSet) (hd : o.data = .set #[] ep (.fresh f mv l)) (hn : n < 60) (hl : w.params.followText "set-order" = true ∨ l = true)
    (hQ : ∀ h', Heap.SameBut a s.heap h' → Emp w h' a n → Q () { s with heap := h' }) : wpAny (model P w) A (setRoomFor a n) Q E s := by
  have hf0 : (SetTable.fresh f mv l).fits (#[] : Array (Int × Value)).size = true := by unfold SetTable.fits SetTable.fill; rfl
  unfold setRoomFor
  refine wpAny_bind (wpAny_setState_of ho hd hf0 ?_)
  dsimp only
  by_cases h5 : n < 5
  · have e : (SetTable.fresh f mv l).roomFor n = none := by
      unfold SetTable.roomFor SetTable.fill
      rw [if_neg]
      show ¬ ((0 + 0 + n) * 5 ≥ 7 * 3)
      omega
    rw [e]
    exact wpAny_pure (hQ s.heap (Heap.SameBut.refl a s.heap) ⟨o, ep, _, ho, hex, hd, rfl, rfl, seen7, by show n ≤ 7; omega, hl⟩)
  · have e : (SetTable.fresh f mv l).roomFor n = some (n * 2) := by
      unfold SetTable.roomFor SetTable.fill
      rw [if_pos]
      · show some ((0 + n) * 2) = _
        rw [Nat.zero_add]
      · show (0 + 0 + n) * 5 ≥ 7 * 3
        omega
    rw [e]
    dsimp only
    obtain ⟨s1, s2, s3⟩ := size_at hn (by omega)
    obtain ⟨t', order, el, pm, ri, ps, dm, mk, ld⟩ := laid_ok s1 (hs := #[]) (fun h hh => by simp at hh) (by simp) (SetTable.fresh f mv l).finger ((SetTable.fresh f mv l).movedTo (SetTable.sizeAbove (n * 2) - 1)) (SetTable.fresh f mv l).led (SetTable.fresh f mv l).plain
    have er : (SetTable.fresh f mv l).relaid ((#[] : Array (Int × Value)).map (·.1)) (n * 2) = some (t', order) := by
      rw [show ((#[] : Array (Int × Value)).map (·.1)) = #[] from by simp]
      exact el
    have eo : order = #[] := by
      have := pm.length_eq
      simp at this
      exact this
    rw [setRelay_eq]
    refine wpAny_bind (wpAny_setState_of ho hd hf0 ?_)
    dsimp only
    refine wp_if_neg (by rw [sizeLine_eq]; omega) ?_
    try refine wpAny_bind (wpAny_pure ?_)
    rw [er]
    dsimp only
    subst eo
    refine wpAny_bind ?_
    refine wp_if_neg (by simp) ?_
    try refine wpAny_bind (wpAny_pure ?_)
    refine wpAny_pure ?_
    dsimp only
    refine wpAny_storeSet_of ho hd ?_ (by simp)
    have sb : Heap.SameBut a s.heap (s.heap.update a (Obj.putSet ((#[] : Array Nat).filterMap ((#[] : Array (Int × Value))[·]?)) t')) := Heap.SameBut.update ..
    refine hQ _ sb ⟨_, _, t', store_at ho hd, ⟨hex.1, hex.2.1, hex.2.2⟩, rfl, ?_, dm, by rw [mk]; exact s1, by rw [mk]; exact s2, by rw [ld]; exact hl⟩
    rw [← Array.size_eq_zero_iff, ps]
    rfl
end
end ExX

/-! a set made from a set, and set ^ set -/
namespace ExX
open PySem PySem.Spec PyProof.Rows L2
section
variable {P : Program} {w : World} {A : Around} {E : Value → Shared → Prop} {s : Shared} {a : Addr}
theorem emp_set {n : Nat} {h : Heap} (e : Emp w h a n) : SetR w h a (fun _ => false) 0 := by
  obtain ⟨o, ep, t, ho, hex, hd, hp, hdm, sn, hl, ld⟩ := e
  refine ⟨o, #[], ep, t, ho, hex, hd, fun e h => by simp at h, by simp, fun k => by simp, by unfold scanBound; simp, ?_, rfl, by rw [hp]; exact List.Pairwise.nil, ld⟩
  unfold SetTable.fits SetTable.fill
  rw [hp, hdm]
  rfl
/-- what is merged into a fresh set -/
theorem merge_fresh {b : Addr} {T : Int → Bool} {m : Nat} {o : Obj} {ep f mv : Nat} {l : Bool} {each : Sem Unit} {Q : Unit → Shared → Prop} (ho : s.heap.get? a = some o) (hex : o.ExactSet) (hd : o.data = .set #[] ep (.fresh f mv l)) (hl : w.params.followText "set-order" = true ∨ l = true)
    (RT : SetR w s.heap b T m) (hab : a ≠ b) (hm : m < 60) (small : ∀ k, T k = true → 0 ≤ k ∧ k < 64)
    (hQ : ∀ h', Heap.SameBut a s.heap h' → SetR w h' a T m → Q () { s with heap := h' }) : wpAny (model P w) A (setMerge a b each) Q E s := by
  obtain ⟨ob, eb, epb, tb, hob, hexb, hdb, gb, ndb, mb, bb, fb, nb, rb, lb⟩ := RT
  rw [setMerge_eq]
  refine wp_if_neg (by simpa using hab) ?_
  try refine wpAny_bind (wpAny_pure ?_)
  refine wpAny_bind (wpAny_setState_of hob hdb fb ?_)
  dsimp only
  by_cases h0 : eb.isEmpty = true
  · refine wp_if_pos h0 ?_
    refine wpAny_pure (hQ s.heap (Heap.SameBut.refl a s.heap) ?_)
    have e : eb = #[] := by simpa using h0
    subst e
    have em : m = 0 := nb.symm
    subst em
    refine ⟨o, #[], ep, _, ho, hex, hd, fun e h => by simp at h, by simp, fun k => by rw [mb k], bb, by unfold SetTable.fits SetTable.fill; rfl, rfl, List.Pairwise.nil, hl⟩
  refine wp_if_neg h0 ?_
  try refine wpAny_bind (wpAny_pure ?_)
  refine wpAny_bind (room_ok ho hex hd (by omega) hl fun h1 sb1 em => ?_)
  obtain ⟨o1, ep1, t1, ho1, hex1, hd1, hp1, hdm1, sn1, hm1, l1⟩ := em
  refine wpAny_bind (wpAny_setState_of (s := { s with heap := h1 }) ho1 hd1 (by unfold SetTable.fits SetTable.fill; rw [hp1, hdm1]; rfl) ?_)
  dsimp only
  have hfill : (t1.fill != 0) = false := by unfold SetTable.fill; rw [hp1, hdm1]; rfl
  have hled : w.params.followText "set-order" = true ∨ (t1.led && tb.led) = true := by
    rcases l1 with h | h
    · exact .inl h
    · rcases lb with h2 | h2
      · exact .inl h2
      · exact .inr (by rw [h, h2]; rfl)
  unfold SetTable.road
  rw [hfill]
  simp only [Bool.false_eq_true, ↓reduceIte]
  by_cases hr : (t1.mask == tb.mask && tb.dummies.isEmpty) = true
  · rw [if_pos hr]
    dsimp only
    refine wpAny_storeSet_of (s := { s with heap := h1 }) ho1 hd1 ?_ (by rw [nb, sizeLine_eq]; omega)
    have sb : Heap.SameBut a h1 (h1.update a (Obj.putSet eb { tb with finger := t1.finger, led := t1.led && tb.led, moves := t1.moves, plain := t1.plain && tb.plain })) := Heap.SameBut.update ..
    refine hQ _ (sb1.trans sb) ⟨_, eb, _, _, store_at ho1 hd1, ⟨hex1.1, hex1.2.1, hex1.2.2⟩, rfl, gb, ndb, mb, bb, fb, nb, rb, hled⟩
  · rw [if_neg hr]
    dsimp only
    have hsz : (eb.map (·.1)).size = eb.size := by simp
    obtain ⟨t2, order, el, pm, ri, ps, dm, mk, ld⟩ := laid_ok sn1 (hs := eb.map (·.1)) (fun h hh => by
      rw [Array.toList_map] at hh
      obtain ⟨e, he, rfl⟩ := List.mem_map.mp hh
      obtain ⟨k, tk, e2, e1⟩ := gb e he
      have hk : T k = true := (mb k).2 (List.mem_map.mpr ⟨e, he, by unfold keyOf; rw [e2]⟩)
      obtain ⟨k0, k1⟩ := small k hk
      rw [e1, hash_small k0 k1]
      exact ⟨k0, k1⟩) (by rw [hsz]; omega) t1.finger t1.moves (t1.led && tb.led) (t1.plain && tb.plain)
    rw [hsz] at pm ps
    have op := order_perm eb order pm
    have osz : (order.filterMap (eb[·]?)).size = eb.size := by rw [← Array.length_toList, op.length_eq, Array.length_toList]
    rw [el]
    dsimp only
    refine wpAny_bind ?_
    refine wp_if_neg (by rw [osz]; simp) ?_
    try refine wpAny_bind (wpAny_pure ?_)
    refine wpAny_pure ?_
    dsimp only
    refine wpAny_storeSet_of (s := { s with heap := h1 }) ho1 hd1 ?_ (by rw [osz, nb, sizeLine_eq]; omega)
    have sb : Heap.SameBut a h1 (h1.update a (Obj.putSet (order.filterMap (eb[·]?)) t2)) := Heap.SameBut.update ..
    refine hQ _ (sb1.trans sb) ⟨_, _, _, t2, store_at ho1 hd1, ⟨hex1.1, hex1.2.1, hex1.2.2⟩, rfl, fun e he => gb e (op.subset he), (op.map keyOf).nodup_iff.mpr ndb, fun k => (mb k).trans (op.map keyOf).mem_iff.symm, by rw [osz]; exact bb, ?_, by rw [osz]; exact nb, ri, by rw [ld]; exact hled⟩
    unfold SetTable.fits SetTable.fill
    rw [ps, osz, dm, mk, Bool.and_eq_true, beq_iff_eq, decide_eq_true_eq]
    exact ⟨rfl, hm1⟩
theorem newFrom_ok {b : Addr} {T : Int → Bool} {m : Nat} {id : String} {Q : Value → Shared → Prop} (RT : SetR w s.heap b T m) (hm : m < 60) (small : ∀ k, T k = true → 0 ≤ k ∧ k < 64)
    (hQ : ∀ h', (∀ c o, s.heap.get? c = some o → h'.get? c = some o) → SetR w h' s.heap.objs.size T m → Q (.ref s.heap.objs.size) { s with heap := h' }) : wpAny (model P w) A (Builtin.Frozenset.newFrom id (.type "set") (.ref b)) Q E s := by
  unfold Builtin.Frozenset.newFrom
  refine wpAny_bind (PpSet.newSet_ok ?_)
  generalize hs1 : ({ s with heap := s.heap.push { cls := .type "set", dict := none, data := .set #[] 0 (.fresh 0 0 (!w.params.followText "set-order")) } } : Shared) = s1
  have kp : ∀ c o, s.heap.get? c = some o → s1.heap.get? c = some o := fun c o h => by rw [← hs1]; exact Heap.get?_push_of_some _ h
  have hn : s1.heap.get? s.heap.objs.size = some { cls := .type "set", dict := none, data := .set #[] 0 (.fresh 0 0 (!w.params.followText "set-order")) } := by rw [← hs1]; exact Heap.get?_push_size _ rfl
  have RT1 : SetR w s1.heap b T m := RT.at fun o h => kp b o h
  have hne : s.heap.objs.size ≠ b := fun z => absurd RT.lt (by rw [z]; exact Nat.lt_irrefl _)
  refine wpAny_bind (show wpAny _ _ (Builtin.Frozenset.addrOf (.ref s.heap.objs.size)) _ _ _ from wpAny_pure ?_)
  refine wpAny_bind (wpAny_holding ?_)
  unfold Builtin.Frozenset.updateFrom
  refine wpAny_bind (anySet_set (s := s1) (RT1.setOf (P := P)).typeIs ?_)
  rw [if_pos rfl]
  refine wpAny_bind (show wpAny _ _ (Builtin.Frozenset.addrOf (.ref b)) _ _ _ from wpAny_pure ?_)
  unfold Builtin.Frozenset.merge
  have RT2 := RT1
  obtain ⟨ob, eb, epb, tb, hob, hexb, hdb, gb, ndb, mb, bb, fb, nb, rb, lb⟩ := RT2
  refine wpAny_bind (epoch_ok hob hdb fb ?_)
  refine merge_fresh (s := s1) hn ⟨rfl, rfl, rfl⟩ rfl ?_ RT1 hne hm small fun h' sb R => ?_
  · cases w.params.followText "set-order" with
    | true => exact .inl rfl
    | false => exact .inr rfl
  refine wpAny_pure ?_
  have e : ({ s1 with heap := h' } : Shared) = { s with heap := h' } := by rw [← hs1]
  rw [e]
  exact hQ h' (fun c o h => by
    rw [sb.2 c (fun z => by
      rw [z] at h
      exact Nat.lt_irrefl _ (Heap.lt_size h))]
    exact kp c o h) R
end
end ExX

/-! set ^ set -/
namespace ExX
open PySem PySem.Spec PyProof.Rows L2
theorem entry_set_xor : entryFor table "set.__xor__" = some Builtin.«frozenset.__xor__» :=
  entryFor_alias (id' := "frozenset.__xor__") (by kernel_rfl) rfl (by decide +kernel) (by kernel_rfl)
theorem xor_eq (args : Args) : Builtin.«frozenset.__xor__» args = (do
  let (self, other) ← Builtin.Frozenset.slot1 "__xor__" args
  if !(← Builtin.Frozenset.isAnySet self <&&> Builtin.Frozenset.isAnySet other) then rule s!"frozenset.{"__xor__"}.declined"; return ← ret .notImplemented
  let l ← Builtin.Frozenset.addrOf self
  let v ← (do
    let result ← Builtin.Frozenset.newFrom s!"frozenset.{"__xor__"}" (← Builtin.Frozenset.baseOf l) other
    holding [result] (Builtin.Frozenset.symmetricDifferenceUpdate s!"frozenset.{"__xor__"}" (← Builtin.Frozenset.addrOf result) (.ref l))
    return result : Sem Value)
  ret v : Sem Fin) := by rfl
theorem set_few {w : World} {h : Heap} {a : Addr} {S : Int → Bool} {n B : Nat} (R : SetR w h a S n) (sm : ∀ k, S k = true → 0 ≤ k ∧ k < B) : n ≤ B := by
  obtain ⟨o, es, ep, t, ho, hex, hd, g, nd, hm, hb, hf, hn, hr, hl⟩ := R
  have hlen : es.toList.length = n := by rw [Array.length_toList]; exact hn
  have a1 : ((es.toList.map keyOf).map Int.toNat).Nodup := by
    refine List.pairwise_map.mpr (List.Pairwise.imp_of_mem (fun {x y} hx hy e => ?_) nd)
    have := sm x ((hm x).2 hx)
    have := sm y ((hm y).2 hy)
    exact fun z => e (by omega)
  have a2 := nat_nodup_len ((es.toList.map keyOf).map Int.toNat) (List.range B) a1 fun x hx => by
    obtain ⟨k, hk, rfl⟩ := List.mem_map.mp hx
    have := sm k ((hm k).2 hk)
    exact List.mem_range.mpr (by omega)
  rw [List.length_map, List.length_map, List.length_range, hlen] at a2
  exact a2
section
variable {P : Program} {w : World} {A : Around} {E : Value → Shared → Prop} {s : Shared} {a b : Addr} {S T : Int → Bool} {n m : Nat}
theorem xor_body {Q : Value → Shared → Prop} (R : SetR w s.heap a S n) (RT : SetR w s.heap b T m) (sS : ∀ k, S k = true → 0 ≤ k ∧ k < 50) (sT : ∀ k, T k = true → 0 ≤ k ∧ k < 50)
    (hQ : ∀ h' d N, (∀ c o, s.heap.get? c = some o → h'.get? c = some o) → SetR w h' s.heap.objs.size (fun j => T j ^^ S j) N → N < 64 → Q (.ref s.heap.objs.size) { s with heap := h', drawn := d }) :
    wpAny (model P w) A (Builtin.«frozenset.__xor__» ⟨[.ref a, .ref b], []⟩) (fun fin s' => ∃ v, fin = .done (.ret v) ∧ Q v s') E s := by
  have hn := set_few (B := 50) R fun k h => by have := sS k h; omega
  have hm := set_few (B := 50) RT fun k h => by have := sT k h; omega
  rw [xor_eq]
  refine wpAny_bind (m := Builtin.Frozenset.slot1 "__xor__" _) (show wpAny _ _ (pure (Value.ref a, Value.ref b)) _ _ _ from wpAny_pure ?_)
  dsimp only
  unfold andM
  refine wpAny_bind (wpAny_bind (anySet_set (R.setOf (P := P)).typeIs ?_))
  show wpAny _ _ (Builtin.Frozenset.isAnySet (Value.ref b)) _ _ _
  refine anySet_set (RT.setOf (P := P)).typeIs ?_
  refine wp_if_neg (by simp) ?_
  refine wpAny_bind (show wpAny _ _ (Builtin.Frozenset.addrOf (.ref a)) _ _ _ from wpAny_pure ?_)
  refine wpAny_bind ?_
  unfold Builtin.Frozenset.baseOf
  refine wpAny_bind (wpAny_bind (wpAny_isInstance (R.setOf (P := P)).typeIs (b := true) (by rfl) ?_))
  refine wpAny_pure ?_
  rw [if_pos rfl]
  refine wpAny_bind (newFrom_ok RT (by omega) (fun k h => by have := sT k h; omega) fun h1 kp R1 => ?_)
  refine wpAny_bind (show wpAny _ _ (Builtin.Frozenset.addrOf (.ref s.heap.objs.size)) _ _ _ from wpAny_pure ?_)
  refine wpAny_bind (wpAny_holding ?_)
  have Ra : SetR w h1 a S n := R.at fun o h => kp a o h
  have hne : a ≠ s.heap.objs.size := fun z => absurd R.lt (by rw [z]; exact Nat.lt_irrefl _)
  refine symUpdate_ok (s := { s with heap := h1 }) R1 Ra hne (by unfold scanBound; omega) fun h2 d N sb R2 hN => ?_
  refine wpAny_pure ?_
  refine wpAny_pure ⟨_, rfl, hQ h2 d N (fun c o h => ?_) R2 ?_⟩
  · rw [sb.2 c (fun z => by
      rw [z] at h
      exact Nat.lt_irrefl _ (Heap.lt_size h))]
    exact kp c o h
  · have := set_few (B := 50) R2 fun k h => by
      cases hT : T k with
      | true => have := sT k hT; omega
      | false =>
        rw [hT] at h
        have h : S k = true := by simpa using h
        have := sS k h; omega
    omega
end
def rXorS (w : World) : R2 := fun x y H Q => ∃ (a b : Addr) (S T : Int → Bool) (n m : Nat), x = .ref a ∧ y = .ref b ∧ H a = some (SetO w a S n) ∧ H b = some (SetO w b T m) ∧ (∀ k, S k = true → 0 ≤ k ∧ k < 50) ∧ (∀ k, T k = true → 0 ≤ k ∧ k < 50) ∧
  ∀ p N, H p = none → N < 64 → Q (.ref p) (upd H p (SetO w p (fun j => T j ^^ S j) N))
theorem op_xorS {X : Cx} : OpR X (binaryOp .BitXor) (rXorS X.w) := by
  intro pins s σ H x y v u Q I rx ry h
  obtain ⟨a, b, S, T, n, m, rfl, rfl, ha, hb, sS, sT, q⟩ := h
  cases rx
  cases ry
  have RA := setO_get I ha
  have RB := setO_get I hb
  refine wpAny_binaryOp_same (op := .BitXor) (T := "set") (RA.setOf (P := X.prog)).typeIs (RB.setOf (P := X.prog)).typeIs F.fills_set_xor F.slot_set_xor ?_
  refine wpAny_call_entry F.slot_set_xor (RA.setOf (P := X.prog)).typeIs entry_set_xor ?_ (F.args_set_xor_2 _ _)
  refine xor_body RA RB sS sT fun h' d N kp R hN => ?_
  refine ⟨(fun z => nomatch z), ?_⟩
  have hn : H s.heap.objs.size = none := I.hok.fresh (Nat.le_refl _)
  have J : Inv X pins σ (upd H s.heap.objs.size (SetO X.w s.heap.objs.size (fun j => T j ^^ S j) N)) { s with heap := h', gens := s.gens, drawn := d, toks := s.toks } :=
    I.call (ch := []) (Un.laid kp (Nat.le_refl _) hn) (I.hok.laid kp (Nat.le_refl _) (setO_new R)) I.bare (fun _ z => nomatch z)
  exact ⟨.ref _, _, J, rfl, q _ N hn hN⟩
end ExX

namespace Ff
open PySem PySem.Spec PyProof.Rows L2
def topS (i : Nat) : Stmt := PySem.Challenge.pw_findforests_k18_whole_same_effects.main.body.getD i (.Pass ⟨0, 0, 0, 0⟩)
/-- all but what stands at d is as it was -/
def Sb (d : Addr) (H H' : Hp) : Prop := ∀ b o, b ≠ d → H b = some o → H' b = some o
theorem Sb.refl {d : Addr} {H : Hp} : Sb d H H := fun _ _ _ h => h
theorem Sb.trans {d : Addr} {H H1 H2 : Hp} (a : Sb d H H1) (b : Sb d H1 H2) : Sb d H H2 := fun c o n h => b c o n (a c o n h)
theorem Sb.of {d : Addr} {H H' : Hp} (s : Same H H') : Sb d H H' := fun b o _ h => s b o h
theorem Sb.put {d : Addr} {H : Hp} {o : HO} : Sb d H (upd H d o) := fun b u n h => by rw [upd_ne n]; exact h
theorem same_new {H : Hp} {p : Addr} {o : HO} (h : H p = none) : Same H (upd H p o) := fun b x e => by
  rw [upd_ne (ne_of_none e h)]
  exact e
theorem same_sqt {H : Hp} {K : PySem.W.Frag} {a : Addr} {xs : List V} {H' : Hp} (e : Same H H') (h : SqT K H a xs) : SqT K H' a xs := by
  rcases h with (h | ⟨o, h⟩) | h
  · exact .inl (.inl (e _ _ h))
  · exact .inl (.inr ⟨o, e _ _ h⟩)
  · exact .inr h
/-- the state of the draws: a list of a list of ints and three ints -/
def DrawAt (H : Hp) (d l : Addr) : Prop := ∃ (ns : List Int) (i j k : Int),
  H d = some (.lst [.ref l, .int i, .int j, .int k]) ∧ H l = some (.lst (ns.map V.int)) ∧ 0 ≤ i ∧ 0 ≤ k ∧ k < 2305843009213693951
theorem draw_ne {H : Hp} {d l : Addr} {ns : List Int} {i j k : Int} (h : H d = some (.lst [.ref l, .int i, .int j, .int k])) (h' : H l = some (.lst (ns.map V.int))) : l ≠ d :=
  ne_of h' h (by
    intro z
    cases ns with
    | nil => cases z
    | cons a r => injection z with z; injection z with z _; cases z)
theorem DrawAt.same {H H' : Hp} {d l : Addr} (D : DrawAt H d l) (s : Same H H') : DrawAt H' d l := by
  obtain ⟨ns, i, j, k, h, h', r⟩ := D
  exact ⟨ns, i, j, k, s _ _ h, s _ _ h', r⟩
def spTake : Sp := fun vs H Q _ => ∃ (d l : Addr) (m : Int), vs = [.ref d, .int m] ∧ DrawAt H d l ∧ 1 ≤ m ∧ m.natAbs < 2 ^ 1000 ∧
  ∀ (r : Nat) H', (r : Int) < m → DrawAt H' d l → Sb d H H' → Q (.int r) H'
section
variable {P : Program} {w : World} {K : PySem.W.Frag} {mg : Str → Option Value} {base : Heap}
theorem dix {K : PySem.W.Frag} {H : Hp} {d : Addr} {xs : List V} (h : H d = some (.lst xs)) {k : Nat} {v : V} (e : xs[k]? = some v) : SqL K H d xs ∧ atI xs (k : Int) = some v := ⟨SqL.of h, atI_nat e⟩
end
theorem Sb.sql {K : PySem.W.Frag} {d a : Addr} {H H' : Hp} {xs : List V} (e : Sb d H H') (n : a ≠ d) (h : SqL K H a xs) : SqL K H' a xs := by
  rcases h with (h | ⟨o, h⟩) | h
  · exact .inl (.inl (e _ _ n h))
  · exact .inl (.inr ⟨o, e _ _ n h⟩)
  · exact .inr h
theorem Sb.sqt {K : PySem.W.Frag} {d a : Addr} {H H' : Hp} {xs : List V} (e : Sb d H H') (n : a ≠ d) (h : SqT K H a xs) : SqT K H' a xs := by
  rcases h with (h | ⟨o, h⟩) | h
  · exact .inl (.inl (e _ _ n h))
  · exact .inl (.inr ⟨o, e _ _ n h⟩)
  · exact .inr h
theorem DrawAt.ne {H : Hp} {d l p : Addr} (D : DrawAt H d l) (h : H p = none) : p ≠ d := by
  obtain ⟨ns, i, j, k, e, _⟩ := D
  exact (ne_of_none e h).symm
theorem DrawAt.nel {H : Hp} {d l p : Addr} (D : DrawAt H d l) (h : H p = none) : p ≠ l := by
  obtain ⟨ns, i, j, k, _, e, _⟩ := D
  exact (ne_of_none e h).symm
theorem DrawAt.put {H : Hp} {d l p : Addr} {o : HO} (D : DrawAt H d l) (h : p ≠ d) (h2 : p ≠ l) : DrawAt (upd H p o) d l := by
  obtain ⟨ns, i, j, k, g, g', r⟩ := D
  exact ⟨ns, i, j, k, by rw [upd_ne h.symm]; exact g, by rw [upd_ne h2.symm]; exact g', r⟩
theorem DrawAt.new {H : Hp} {d l p : Addr} {o : HO} (D : DrawAt H d l) (h : H p = none) : DrawAt (upd H p o) d l := D.same (same_new h)
theorem Sb.over {d p : Addr} {H H' : Hp} {o : HO} (e : Sb d H H') (h : H p = none) : Sb d H (upd H' p o) := fun b u n hb => by
  rw [upd_ne (ne_of_none hb h)]
  exact e b u n hb
theorem same_over {p : Addr} {H H' : Hp} {o : HO} (e : Same H H') (h : H p = none) : Same H (upd H' p o) := fun b u hb => by
  rw [upd_ne (ne_of_none hb h)]
  exact e b u hb
theorem Sb.free {d : Addr} {H H' : Hp} (e : Sb d H H') {p : Addr} (n : p ≠ d) (h : H' p = none) : H p = none := by
  cases z : H p with
  | none => rfl
  | some o => rw [e p o n z] at h; cases h
structure Tx (mg : Str → Option Value) : Prop where
  len : mg "len" = none
  range : mg "range" = none
  list : mg "list" = none
  tuple : mg "tuple" = none
  max : mg "max" = none
  min : mg "min" = none
def spOf (K : PySem.W.Frag) : Sp := fun vs H Q _ => ∃ (d l a : Addr) (xs : List V), vs = [.ref d, .ref a] ∧ DrawAt H d l ∧ a ≠ d ∧ SqL K H a xs ∧ 1 ≤ xs.length ∧ xs.length ≤ 1000 ∧
  ∀ (i : Nat) (v : V) H', xs[i]? = some v → DrawAt H' d l → Sb d H H' → Q v H'
def spShuf (K : PySem.W.Frag) : Sp := fun vs H Q _ => ∃ (d l a : Addr) (xs : List V), vs = [.ref d, .ref a] ∧ DrawAt H d l ∧ a ≠ d ∧ SqL K H a xs ∧ xs.length ≤ 1000 ∧
  ∀ (p : Addr) (ys : List V) H', ys.Perm xs → H p = none → p ≠ d → H' p = some (.lst ys) → DrawAt H' d l → Sb d H H' → Q (.ref p) H'
def spSize : Sp := fun vs H Q _ => ∃ (d l : Addr) (m : Nat), vs = [.ref d, .int m] ∧ DrawAt H d l ∧ m ≤ 1000 ∧
  ∀ (r : Nat) H', r ≤ m → DrawAt H' d l → Sb d H H' → Q (.int r) H'
def spStart (K : PySem.W.Frag) : Sp := fun vs H Q _ => ∃ (a : Addr) (ns : List Int), vs = [.ref a] ∧ SqL K H a (ns.map V.int) ∧ ns.length ≤ 63 ∧
  ∀ (d l : Addr) H', H d = none → DrawAt H' d l → Same H H' → Q (.ref d) H'
section
variable {P : Program} {w : World} {K : PySem.W.Frag} {mg : Str → Option Value} {base : Heap}
theorem insert_perm {xs : List V} (i : Nat) (y : V) : (xs.take i ++ [y] ++ xs.drop i).Perm (xs ++ [y]) := by
  rw [List.append_assoc]
  refine (List.Perm.append_left _ (List.perm_append_comm)).trans ?_
  rw [← List.append_assoc, List.take_append_drop]
end
abbrev vi (n : Nat) : V := .int (n : Int)
def natsV (l : List Nat) : List V := l.map vi
def tupOf (n : Nat) (p : Nat → Nat) : List V := (List.range n).map fun v => vi (p v)
theorem tupOf_len (n : Nat) (p : Nat → Nat) : (tupOf n p).length = n := by unfold tupOf; rw [List.length_map, List.length_range]
theorem tupOf_at {n : Nat} {p : Nat → Nat} {i : Nat} (h : i < n) : (tupOf n p)[i]? = some (vi (p i)) := by
  unfold tupOf
  rw [List.getElem?_map, List.getElem?_range h]
  rfl
theorem tupOf_congr {n : Nat} {p q : Nat → Nat} (h : ∀ v, v < n → p v = q v) : tupOf n p = tupOf n q := by
  unfold tupOf
  exact List.map_congr_left fun v hv => by rw [h v (List.mem_range.mp hv)]
theorem tupOf_set {n : Nat} {p : Nat → Nat} {i y : Nat} : (tupOf n p).set i (vi y) = tupOf n (fun v => if v = i then y else p v) := by
  refine List.ext_getElem? fun j => ?_
  rw [List.getElem?_set]
  by_cases hj : j < n
  · rw [tupOf_at hj, tupOf_at hj, tupOf_len]
    by_cases e : i = j
    · subst e
      rw [if_pos rfl, if_pos hj, if_pos rfl]
    · rw [if_neg e, if_neg (fun z => e z.symm)]
  · have z1 : (tupOf n p)[j]? = none := List.getElem?_eq_none (by rw [tupOf_len]; omega)
    have z2 : (tupOf n (fun v => if v = i then y else p v))[j]? = none := List.getElem?_eq_none (by rw [tupOf_len]; omega)
    rw [z1, z2, tupOf_len]
    by_cases e : i = j
    · rw [if_pos e, if_neg (by omega)]
    · rw [if_neg e]
theorem natsV_len (l : List Nat) : (natsV l).length = l.length := List.length_map _
theorem natsV_last (p : Nat → Nat) (k x : Nat) : atI (natsV (path p k x)) (-1) = some (vi (root p k x)) := by
  unfold natsV path
  rw [List.map_append]
  exact atI_last _ _
/-- a list or a tuple that is read -/
def Sq (K : PySem.W.Frag) (H : Hp) (a : Addr) (xs : List V) : Prop := SqL K H a xs ∨ SqT K H a xs
theorem Sq.same {K : PySem.W.Frag} {H H' : Hp} {a : Addr} {xs : List V} (h : Sq K H a xs) (e : Same H H') : Sq K H' a xs := h.imp (fun z => e.seq z) (fun z => same_sqt e z)
theorem Sq.sb {K : PySem.W.Frag} {d : Addr} {H H' : Hp} {a : Addr} {xs : List V} (h : Sq K H a xs) (e : Sb d H H') (n : a ≠ d) : Sq K H' a xs := h.imp (fun z => e.sql n z) (fun z => e.sqt n z)
theorem Sq.ix {K : PySem.W.Frag} {H : Hp} {a : Addr} {xs : List V} (h : Sq K H a xs) {i : Int} {v : V} {Q : VK} (e : atI xs i = some v) (q : Q v H) : rIx K (.ref a) (.int i) H Q := by
  rcases h with z | z
  · exact .inl ⟨a, xs, i, v, rfl, rfl, z, e, q⟩
  · exact .inr (.inl ⟨a, xs, i, v, rfl, rfl, z, e, q⟩)
def spChk (K : PySem.W.Frag) : Sp := fun vs H Q _ => ∃ (a : Addr) (xs : List V) (x : Nat), vs = [.ref a, vi x] ∧ Sq K H a xs ∧ x < xs.length ∧ Q .non H
/-- path_of, and the law's own -/
def spPath (K : PySem.W.Frag) : Sp := fun vs H Q _ => ∃ (a : Addr) (n : Nat) (p : Nat → Nat) (x : Nat), vs = [.ref a, vi x] ∧ Sq K H a (tupOf n p) ∧ n ≤ 1000 ∧ (∀ v, v < n → p v < n) ∧ x < n ∧
  ∀ (q : Addr) H', H q = none → H' q = some (.lst (natsV (path p n x))) → Same H H' → Q (.ref q) H'
def spPathOf (K : PySem.W.Frag) : Sp := fun vs H Q _ => ∃ (a : Addr) (n : Nat) (p r : Nat → Nat) (x : Nat), vs = [.ref a, vi x] ∧ Sq K H a (tupOf n p) ∧ n ≤ 1000 ∧ Fo n p r ∧ x < n ∧
  ∀ (q : Addr) H', H q = none → H' q = some (.lst (natsV (path p n x))) → Same H H' → Q (.ref q) H'
def spRoot (K : PySem.W.Frag) : Sp := fun vs H Q _ => ∃ (a : Addr) (n : Nat) (p : Nat → Nat) (x : Nat), vs = [.ref a, vi x] ∧ Sq K H a (tupOf n p) ∧ n ≤ 1000 ∧ (∀ v, v < n → p v < n) ∧ x < n ∧
  ∀ H', Same H H' → Q (vi (root p n x)) H'
def spFind (K : PySem.W.Frag) : Sp := fun vs H Q _ => ∃ (a : Addr) (n : Nat) (p r : Nat → Nat) (x : Nat), vs = [.ref a, vi x] ∧ Sq K H a (tupOf n p) ∧ n ≤ 1000 ∧ Fo n p r ∧ x < n ∧
  ∀ (t g : Addr) H', H t = none → H g = none → H' t = some (.tup [.ref g, vi (ups p n x).length]) → H' g = some (.tup (tupOf n (fnd n p x))) → Same H H' → Q (.ref t) H'
def spFindAll (K : PySem.W.Frag) : Sp := fun vs H Q _ => ∃ (a b : Addr) (n : Nat) (p r : Nat → Nat) (xs : List Nat), vs = [.ref a, .ref b] ∧ SqT K H a (tupOf n p) ∧ SqL K H b (natsV xs) ∧ n ≤ 1000 ∧ xs.length ≤ 1000 ∧ Fo n p r ∧ (∀ x ∈ xs, x < n) ∧
  ∀ (t g c : Addr) H', H t = none → H c = none → (g = a ∨ H g = none) → H' t = some (.tup [.ref g, .ref c]) → SqT K H' g (tupOf n (fndAll n xs p)) → H' c = some (.lst (natsV (costs n xs p))) → Same H H' → Q (.ref t) H'
/-- an integer that is one of the numbers below -/
def spNum : Sp := fun vs H Q _ => ∃ (n x : Nat), vs = [vi n, vi x] ∧ x < n ∧ Q .non H
def setAll (y : Nat) : List Nat → (Nat → Nat) → Nat → Nat
  | [], p => p
  | v :: l, p => setAll y l (fun u => if u = v then y else p u)
theorem setAll_snoc (y v : Nat) : ∀ (l : List Nat) (p : Nat → Nat), setAll y (l ++ [v]) p = fun u => if u = v then y else setAll y l p u
  | [], _ => rfl
  | a :: l, p => setAll_snoc y v l _
theorem setAll_eq (y : Nat) : ∀ (l : List Nat) (p : Nat → Nat) (u : Nat), setAll y l p u = if u ∈ l then y else p u
  | [], p, u => by rw [if_neg (List.not_mem_nil)]; rfl
  | a :: l, p, u => by
    show setAll y l _ u = _
    rw [setAll_eq y l]
    by_cases h1 : u ∈ l
    · rw [if_pos h1, if_pos (List.mem_cons_of_mem _ h1)]
    · rw [if_neg h1]
      by_cases h2 : u = a
      · rw [if_pos h2, if_pos (by rw [h2]; exact List.mem_cons_self)]
      · rw [if_neg h2, if_neg (fun z => (List.mem_cons.mp z).elim h2 h1)]
theorem fnd_setAll (n : Nat) (p : Nat → Nat) (x : Nat) : setAll (root p n x) (path p n x) p = fnd n p x := by
  funext u
  rw [setAll_eq]
  rfl
theorem path_lt {n : Nat} {p r : Nat → Nat} (F : Fo n p r) {x : Nat} (hx : x < n) : ∀ v ∈ path p n x, v < n := fun v hv => by
  unfold path at hv
  rcases List.mem_append.mp hv with h | h
  · exact (ups_lt F x hx v h).1
  · rw [List.mem_singleton.mp h]; exact root_lt F x hx
theorem ixN_nat {n i : Nat} (h : i < n) : ixN n (i : Int) = some i := by
  unfold ixN
  rw [if_pos (by omega), if_pos (by omega)]
  simp
theorem perm_of_map {α β : Type} {f : α → β} {zs ys : List β} (h : zs.Perm ys) : ∀ l : List α, zs = l.map f → ∃ l' : List α, ys = l'.map f ∧ l.Perm l' := by
  induction h with
  | nil => intro l e; exact ⟨l, e, List.Perm.refl _⟩
  | cons x h ih =>
    intro l e
    cases l with
    | nil => cases e
    | cons a r =>
      injection e with e1 e2
      obtain ⟨l', h1, h2⟩ := ih r e2
      exact ⟨a :: l', by rw [h1, e1]; rfl, h2.cons a⟩
  | swap x y l0 =>
    intro l e
    match l, e with
    | a :: b :: r, e =>
      injection e with e1 e2
      injection e2 with e2 e3
      exact ⟨b :: a :: r, by rw [e1, e2, e3]; rfl, List.Perm.swap _ _ _⟩
  | trans h1 h2 ih1 ih2 =>
    intro l e
    obtain ⟨l1, a, b⟩ := ih1 l e
    obtain ⟨l2, c, d⟩ := ih2 l1 a
    exact ⟨l2, c, b.trans d⟩
theorem rgV_nat (n : Nat) : rgV 0 (n : Int) = natsV (List.range n) := by
  unfold rgV natsV
  rw [show ((n : Int) - 0).toNat = n by omega]
  exact List.map_congr_left fun i _ => by show V.int (0 + (i : Int)) = V.int (i : Int); rw [Int.zero_add]
theorem rgOk_nat {n : Nat} (h : n ≤ 1000) : RgOk 0 (n : Int) := ⟨by decide, by decide, by omega, by omega, by omega⟩
theorem shuf_nats {l : List Nat} {ys : List V} (h : ys.Perm (natsV l)) : ∃ ks : List Nat, ys = natsV ks ∧ ks.Perm l := by
  obtain ⟨l', e, p⟩ := perm_of_map h.symm l rfl
  exact ⟨l', e, p.symm⟩
/-- the assignments of the renaming -/
def asg (ks ps : List Nat) : Nat → Nat → Nat
  | 0 => fun _ => 0
  | i + 1 => fun v => if v = ks.getD i 0 then ks.getD (ps.getD i 0) 0 else asg ks ps i v
theorem getD_inj {ks : List Nat} (nd : ks.Nodup) {i j : Nat} (hi : i < ks.length) (hj : j < ks.length) (e : ks.getD i 0 = ks.getD j 0) : i = j := by
  rw [List.getD_eq_getElem?_getD, List.getD_eq_getElem?_getD, List.getElem?_eq_getElem hi, List.getElem?_eq_getElem hj] at e
  exact (List.getElem_inj nd).mp e
theorem asg_at {ks ps : List Nat} (nd : ks.Nodup) : ∀ i, i ≤ ks.length → ∀ j, j < i → asg ks ps i (ks.getD j 0) = ks.getD (ps.getD j 0) 0
  | 0, _, j, h => by omega
  | i + 1, hi, j, h => by
    show (if ks.getD j 0 = ks.getD i 0 then _ else _) = _
    by_cases e : j = i
    · subst e; rw [if_pos rfl]
    · rw [if_neg (fun z => e (getD_inj nd (by omega) (by omega) z))]
      exact asg_at nd i (by omega) j (by omega)
theorem renamed_fo {ks ps : List Nat} {n : Nat} (hk : ks.Perm (List.range n)) (hp : ∀ j, j < n → ps.getD j 0 ≤ j) : ∃ r, Fo n (asg ks ps n) r := by
  have nd : ks.Nodup := hk.nodup_iff.mpr List.nodup_range
  have hl : ks.length = n := by rw [hk.length_eq, List.length_range]
  have hm : ∀ v, v < n → ∃ j, j < n ∧ ks.getD j 0 = v := fun v hv => by
    obtain ⟨j, hj, e⟩ := List.getElem_of_mem (hk.mem_iff.mpr (List.mem_range.mpr hv))
    exact ⟨j, by omega, by rw [List.getD_eq_getElem?_getD, List.getElem?_eq_getElem hj]; exact e⟩
  have hb : ∀ j, j < n → ks.getD j 0 < n := fun j hj => by
    have hj' : j < ks.length := by omega
    rw [List.getD_eq_getElem?_getD, List.getElem?_eq_getElem hj']
    exact List.mem_range.mp (hk.mem_iff.mp (List.getElem_mem hj'))
  have hi : ∀ j, j < n → ks.idxOf (ks.getD j 0) = j := fun j hj => by
    have hj' : j < ks.length := by omega
    have hmem : ks.getD j 0 ∈ ks := by
      rw [List.getD_eq_getElem?_getD, List.getElem?_eq_getElem hj']
      exact List.getElem_mem hj'
    have h1 := List.idxOf_lt_length_of_mem hmem
    refine getD_inj nd h1 hj' ?_
    rw [List.getD_eq_getElem?_getD, List.getElem?_eq_getElem h1]
    exact List.getElem_idxOf h1
  refine ⟨fun v => ks.idxOf v, fun v hv => ?_, fun v hv => ?_, fun v hv => ?_⟩
  · obtain ⟨j, hj, rfl⟩ := hm v hv
    rw [asg_at nd n (by omega) j hj]
    have := hp j hj
    exact hb _ (by omega)
  · obtain ⟨j, hj, rfl⟩ := hm v hv
    rw [asg_at nd n (by omega) j hj]
    have h1 := hp j hj
    by_cases e : ps.getD j 0 = j
    · exact .inl (by rw [e])
    · exact .inr (by show ks.idxOf _ < ks.idxOf _; rw [hi _ (by omega), hi _ hj]; omega)
  · obtain ⟨j, hj, rfl⟩ := hm v hv
    show ks.idxOf _ < n
    rw [hi j hj]; exact hj
/-- a new forest -/
def spRen (K : PySem.W.Frag) : Sp := fun vs H Q _ => ∃ (d l a : Addr) (ps : List Nat), vs = [.ref d, .ref a] ∧ DrawAt H d l ∧ a ≠ d ∧ SqL K H a (natsV ps) ∧ ps.length ≤ 1000 ∧ (∀ j, j < ps.length → ps.getD j 0 ≤ j) ∧
  ∀ (t : Addr) (p r : Nat → Nat) H', H t = none → H' t = some (.tup (tupOf ps.length p)) → Fo ps.length p r → DrawAt H' d l → Sb d H H' → Q (.ref t) H'
def spFor : Sp := fun vs H Q _ => ∃ (d l : Addr) (n m : Nat), vs = [.ref d, vi n, vi m] ∧ DrawAt H d l ∧ n ≤ 1000 ∧
  ∀ (t : Addr) (p r : Nat → Nat) H', H t = none → H' t = some (.tup (tupOf n p)) → Fo n p r → DrawAt H' d l → Sb d H H' → Q (.ref t) H'
def spSome : Sp := fun vs H Q _ => ∃ (d l : Addr) (m : Nat), vs = [.ref d, vi m] ∧ DrawAt H d l ∧ m ≤ 1000 ∧
  ∀ (t : Addr) (n : Nat) (p r : Nat → Nat) H', n ≤ m → H t = none → H' t = some (.tup (tupOf n p)) → Fo n p r → DrawAt H' d l → Sb d H H' → Q (.ref t) H'
def spNodes : Sp := fun vs H Q _ => ∃ (d l : Addr) (n m : Nat), vs = [.ref d, vi n, vi m] ∧ DrawAt H d l ∧ n ≤ 1000 ∧ m ≤ 500 ∧
  ∀ (a : Addr) (xs : List Nat) H', H a = none → H' a = some (.lst (natsV xs)) → (∀ x ∈ xs, x < n) → xs.length ≤ m → DrawAt H' d l → Sb d H H' → Q (.ref a) H'
theorem rep0 (n : Nat) : (List.replicate n [V.int 0]).flatten = tupOf n (fun _ => 0) := by
  refine List.ext_getElem? fun i => ?_
  have e : (List.replicate n [V.int 0]).flatten = List.replicate n (V.int 0) := by
    induction n with
    | zero => rfl
    | succ n ih => rw [List.replicate_succ, List.flatten_cons, ih]; rfl
  rw [e]
  by_cases h : i < n
  · rw [tupOf_at h, List.getElem?_replicate, if_pos h]; rfl
  · rw [List.getElem?_eq_none (by rw [List.length_replicate]; omega), List.getElem?_eq_none (by rw [tupOf_len]; omega)]
theorem natsV_at {l : List Nat} {i : Nat} (h : i < l.length) : (natsV l)[i]? = some (vi (l.getD i 0)) := by
  unfold natsV
  rw [List.getElem?_map, List.getElem?_eq_getElem h, List.getD_eq_getElem?_getD, List.getElem?_eq_getElem h]
  rfl
section
variable {P : Program} {w : World} {A : Around} {E : Value → Shared → Prop} {s : Shared}
/-- an empty set, new -/
abbrev newSet (w : World) : Obj := { cls := .type "set", dict := none, data := .set #[] 0 (.fresh 0 0 (!w.params.followText "set-order")) }
end
section
variable {P : Program} {w : World} {A : Around} {E : Value → Shared → Prop} {s : Shared}
theorem set_of_ints {l : Addr} {items : Array Value} (ns : List Int) {Q : Value → Shared → Prop} (hh : A.handled = none) (hl : s.heap.IsList l items) (hit : IntsAre items.toList ns) (hb : ns.length + 1 < scanBound)
    (fin : ∀ (h' : Heap) (tk c : Nat), SetR w h' s.heap.objs.size (fun j => decide (j ∈ ns)) c → c ≤ ns.length → (∀ b o, s.heap.get? b = some o → h'.get? b = some o) → Q (.ref s.heap.objs.size) { s with heap := h', toks := tk }) :
    wpAny (model P w) A (call (.type "set") [.ref l]) Q E s := by
  have size_eq : items.size = ns.length := by rw [← Array.length_toList]; exact IntsAre.length hit
  obtain ⟨c, tl, hmro⟩ := F.called_set.mro; have hmade := F.called_set.made; have hsub := F.called_set.sub
  refine wpAny_call (codeAny_of_tree ?_); show wpAny _ _ (callAny (.type "set") _) _ _ _
  refine wpAny_pure ⟨Code.quiet_builtin _ (by decide +kernel), codeAny_builtin F.entry_type_call ?_⟩; rw [Around.under_plain (weight_type_call_type "set" [.ref l] []) rfl]
  have h1 := F.called_set.notType; have h2 := F.called_set.canCreate; have hct := F.typeCall_set_1 (.ref l)
  (repeat (any_goals (first | assumption | wp_step)))
  refine codeAny_mono (code_set_led1 (.ref l) (E := E) (Q₁ := fun obj s1 => obj = .ref s.heap.objs.size ∧ s1 = { s with heap := s.heap.push (newSet w) }) ⟨rfl, rfl⟩) fun r s1 hr => ?_
  match r, hr with
  | .error e, hr => exact hr
  | .ok (.ret obj), hr =>
      obtain ⟨rfl, rfl⟩ := hr
      have at0 : (s.heap.push (newSet w)).get? s.heap.objs.size = some (newSet w) := Heap.get?_push_size _ rfl
      have ty0 : Shared.TypeIs { s with heap := s.heap.push (newSet w) } (.ref s.heap.objs.size) "set" := ⟨_, at0, rfl⟩
      have hli := F.called_set.init.lookup; have hbi := F.called_set.init.bind (.ref s.heap.objs.size)
      (repeat (any_goals (first | assumption | wp_step)))
      refine codeAny_mono (codeAny_call_builtin (R := wants (fun r s2 => r = .none ∧ ∃ h' tk c, s2 = { s with heap := h', toks := tk } ∧ SetR w h' s.heap.objs.size (fun j => decide (j ∈ ns)) c ∧ c ≤ ns.length ∧ (∀ b o, s.heap.get? b = some o → h'.get? b = some o)) E) F.called_set.init.plain F.entry_set_init (check_set_init_1 ty0 ?_)) fun r2 s2 hr2 => ?_
      · obtain ⟨⟨kl, dl, el, sl⟩, hol, hcl, nl, hdl⟩ := hl
        simp only at hcl hdl; subst hcl; subst hdl
        have at1 : (s.heap.push (newSet w)).get? l = some { cls := .type "list", dict := dl, data := .seq items nl, slots := sl } := Heap.get?_push_of_some _ hol
        have hsls := F.sub_list_set; have hslf := F.sub_list_frozenset; have hne : (Value.type "list" == Value.type "dict") = false := by decide
        have isl : (s.heap.push (newSet w)).IsList l items := ⟨_, at1, rfl, nl, rfl⟩
        unfold Builtin.«set.__init__» noKeywords Builtin.Frozenset.updateFrom; generalize hPI : pyIter = PI; wp_walk; subst hPI
        refine wpAny_pyIter_list isl (wpAny_bind (wpAny_runValue ?_))
        have lt0 : l < s.heap.objs.size := Heap.lt_size hol
        have hd3 : A.in1.in1.in1.handled = none := by simp [hh]
        have sz1 : (s.heap.push (newSet w)).objs.size = s.heap.objs.size + 1 := Heap.size_push ..
        have nel : l ≠ (s.heap.push (newSet w)).objs.size := by rw [sz1]; exact Nat.ne_of_lt (Nat.lt_succ_of_lt lt0)
        have out0 : s.heap.objs.size ∉ [(s.heap.push (newSet w)).objs.size, l] := by
          rw [sz1]; intro z
          rcases List.mem_cons.mp z with z | z
          · exact Nat.ne_of_lt (Nat.lt_succ_self _) z
          · exact Nat.ne_of_gt lt0 (List.mem_singleton.mp z)
        have val : ∀ (i : Nat) (v : Value), items[i]? = some v → ∃ k t, ns[i]? = some k ∧ v = .int k t := fun i v hv => by
          have hi : i < ns.length := by rw [← size_eq]; exact (Array.getElem?_eq_some_iff.mp hv).1
          obtain ⟨t, e⟩ := IntsAre.int_at hit i v (by rw [Array.getElem?_toList]; exact hv)
          refine ⟨ns[i], t, List.getElem?_eq_getElem hi, ?_⟩
          rw [e, List.getD_eq_getElem?_getD, List.getElem?_eq_getElem hi]; rfl
        refine set_update_ints ((Walks.list hd3 _ l nel items).toS) s.heap.objs.size out0 ns size_eq hb val (items.size - 0) 0 _ (by omega) (Nat.zero_le _) ⟨⟨_, Heap.get?_push_size _ rfl, rfl, rfl⟩, (isl.push _)⟩ ⟨0, Nat.le_refl 0, setR_new_at (Heap.get?_push_of_some _ at0)⟩ ?_
        rintro ⟨h', g2, d2, t2, o2⟩ c' hm hc' hS'
        obtain rfl : g2 = s.gens := hm.gens
        obtain rfl : d2 = s.drawn := hm.drawn
        obtain rfl : o2 = s.os := hm.os
        show wpAny _ _ _ _ _ _; refine wpAny_pure ?_; show wpAny _ _ (ret Value.none) _ _ _
        refine wpAny_pure ⟨rfl, h', t2, c', rfl, hS', by omega, fun b o e => ?_⟩
        have b0 : b < s.heap.objs.size := Heap.lt_size e
        refine hm.heap b o (fun z => ?_) (Heap.get?_push_of_some _ (Heap.get?_push_of_some _ e))
        rcases List.mem_cons.mp z with z | z
        · exact Nat.ne_of_lt b0 z
        · exact Nat.ne_of_lt (Nat.lt_succ_of_lt b0) ((List.mem_singleton.mp z).trans sz1)
      · match r2, hr2 with
        | .error e, hr2 => exact hr2
        | .ok (.ret r), hr2 =>
            obtain ⟨rfl, h', tk, c', rfl, hS', hc', hk'⟩ := hr2
            (repeat (any_goals (first | assumption | wp_step)))
            exact fin _ _ _ hS' hc' hk'
end
/-- set(xs), a list of ints -/
def rSetI (K : PySem.W.Frag) (w : World) : List V → Hp → VK → Prop := fun xs H Q => ∃ (l : Addr) (ns : List Int), xs = [V.ref l] ∧ SqL K H l (ns.map V.int) ∧ ns.length < 64 ∧
  ∀ (a : Addr) (c : Nat), H a = none → c ≤ ns.length → Q (.ref a) (upd H a (SetO w a (fun j => decide (j ∈ ns)) c))
theorem cr_setI {X : Cx} (hc : X.calm = true) : CallR X (.type "set") (rSetI X.K X.w) := by
  intro pins s σ H xs us Q I r h
  obtain ⟨l, ns, rfl, hl, hf, q⟩ := h
  rw [Vals.ref1 r]
  obtain ⟨its, rv, pl, hz⟩ := I.list hl
  refine set_of_ints (P := X.prog) (w := X.w) ns (I.ok.hd hc) pl.isList (ints_of_vals rv) (by unfold scanBound; omega) fun h' tk c R cl k => ?_
  exact ⟨.ref s.heap.objs.size, upd H s.heap.objs.size (SetO X.w s.heap.objs.size (fun j => decide (j ∈ ns)) c), I.laid (t' := tk) k (Nat.le_refl _) (setO_new R), rfl, q _ c (I.hok.fresh (Nat.le_refl _)) cl⟩
theorem dpAll_ints {K : PySem.W.Frag} {H : Hp} : ∀ l : List Int, DpAll K H (l.map V.int) (l.map PyData.int)
  | [] => .nil
  | x :: r => .cons (.int x) (dpAll_ints r)
theorem lay_ints : ∀ l : List Int, PyData.canLayAll0 (l.map PyData.int) = true
  | [] => by simp [PyData.canLayAll0]
  | x :: r => by simp [PyData.canLayAll0, PyData.canLay0, lay_ints r]
theorem depth_ints : ∀ l : List Int, PyData.depthAll (l.map PyData.int) ≤ 1
  | [] => by simp [PyData.depthAll]
  | x :: r => by
    have := depth_ints r
    simp [PyData.depthAll, PyData.depth]
    omega
theorem shaped_tup (l : List Int) : SeqAt.shaped (.tuple (l.map PyData.int)) = true := by
  unfold SeqAt.shaped
  have := depth_ints l
  simp [PyData.canLay0, lay_ints, PyData.depth]
  omega
def intsOf (n : Nat) (p : Nat → Nat) : List Int := (List.range n).map fun v => (p v : Int)
theorem tupOf_ints (n : Nat) (p : Nat → Nat) : tupOf n p = (intsOf n p).map V.int := by
  unfold tupOf intsOf
  rw [List.map_map]
  rfl
theorem eqv_tup (l : List Int) : PyData.eqv (.tuple (l.map PyData.int)) (.tuple (l.map PyData.int)) = true := SeqAt.eqv_refl _ (SeqAt.canLay_of_shaped (shaped_tup l))
theorem natsV_ints (l : List Nat) : natsV l = (l.map fun n : Nat => (n : Int)).map V.int := by
  unfold natsV
  rw [List.map_map]
  rfl
theorem sum_cast : ∀ l : List Nat, (l.map fun n : Nat => (n : Int)).sum = (l.sum : Nat)
  | [] => rfl
  | x :: r => by
    rw [List.map_cons, List.sum_cons, List.sum_cons, sum_cast r]
    omega
def spLaw (K : PySem.W.Frag) : Sp := fun vs H Q _ => ∃ (a : Addr) (ns : List Int), vs = [.ref a] ∧ SqL K H a (ns.map V.int) ∧ ns.length ≤ 63 ∧ ∀ H', Q (.bl true) H'
theorem DrawAt.net {H : Hp} {d l t : Addr} {xs : List V} (D : DrawAt H d l) (h : H t = some (.tup xs)) : t ≠ d := by
  obtain ⟨ns, i, j, k, e, _⟩ := D
  exact ne_of h e (by intro z; cases z)
theorem cut_last (l : List Nat) (y : Nat) : cutV (natsV (l ++ [y])) none (some (-1)) = natsV l := by
  unfold cutV
  have e1 : HT.sIx (natsV (l ++ [y])).length (natsV (l ++ [y])).length (some (-1)) = l.length := by
    rw [natsV_len, List.length_append, List.length_singleton]
    unfold HT.sIx
    simp
    omega
  rw [e1, HT.sIx_none]
  unfold natsV
  rw [List.map_append]
  simp
theorem flat_nats (l : List Nat) : (natsV l).all flatV = true := by
  unfold natsV
  rw [List.all_eq_true]
  intro v hv
  obtain ⟨n, _, rfl⟩ := List.mem_map.mp hv
  rfl
theorem inV_nats (l : List Nat) (v : Nat) : inV (vi v) (natsV l) = decide (v ∈ l) := by
  unfold inV natsV
  rw [List.any_map]
  refine Bool.eq_iff_iff.mpr ?_
  rw [List.any_eq_true, decide_eq_true_eq]
  constructor
  · rintro ⟨x, hx, e⟩
    have z : ((x : Int) == (v : Int)) = true := e
    have : x = v := by have := eq_of_beq z; omega
    rw [← this]; exact hx
  · intro h
    exact ⟨v, h, by show ((v : Int) == (v : Int)) = true; simp⟩
def markL (n : Nat) (p : Nat → Nat) (l : List Nat) : List Nat := l.flatMap fun x => ups p n x
theorem markL_mem {n : Nat} {p : Nat → Nat} {l : List Nat} {v : Nat} : v ∈ markL n p l ↔ markB n p l v = true := by
  unfold markL markB
  rw [List.mem_flatMap, List.any_eq_true]
  exact ⟨fun ⟨x, a, b⟩ => ⟨x, a, upB_iff.mpr b⟩, fun ⟨x, a, b⟩ => ⟨x, a, upB_iff.mp b⟩⟩
theorem markL_len (n : Nat) (p : Nat → Nat) : ∀ l : List Nat, (markL n p l).length ≤ l.length * n
  | [] => Nat.zero_le _
  | x :: r => by
    have h1 := markL_len n p r
    have h2 := ups_len0 p n x
    show (ups p n x ++ markL n p r).length ≤ (r.length + 1) * n
    rw [List.length_append, Nat.add_mul]
    omega
theorem ints_perm {l : List Nat} {ns : List Int} (h : ns.Perm (l.map fun n : Nat => (n : Int))) : ∃ ys : List Nat, ns.map V.int = natsV ys ∧ ys.Perm l := by
  obtain ⟨ys, e, p⟩ := perm_of_map h.symm l rfl
  exact ⟨ys, by rw [natsV_ints, e], p.symm⟩
theorem ints_of_mem : ∀ {ns : List Int}, (∀ k ∈ ns, ∃ m : Nat, k = (m : Int)) → ∃ ys : List Nat, ns = ys.map fun n : Nat => (n : Int)
  | [], _ => ⟨[], rfl⟩
  | k :: r, h => by
    obtain ⟨m, e⟩ := h k List.mem_cons_self
    obtain ⟨ys, e2⟩ := ints_of_mem (ns := r) fun j hj => h j (List.mem_cons_of_mem _ hj)
    exact ⟨m :: ys, by rw [e, e2]; rfl⟩
/-- a def of the text as the top has left it -/
def DefF (K : PySem.W.Frag) (x : Str) (st : Stmt) : Prop := ∃ (f : Addr) (oc : Value) (od an : Option Addr) (sl : Array (Option Value)) (kV dc pm cd ct : Value),
  PySem.W.nsIn K mainGlobals x = some (some (.ref f)) ∧ K.lookup f = some ⟨oc, od, .func (PySem.W.fnOf x x (defArgs st) (defBody st) (defScope st) .none kV dc pm an cd ct), sl⟩ ∧ PySem.W.codeIn K cd x = true ∧ PySem.W.keepIn K (.ref f) = true
theorem DefF.by {K : PySem.W.Frag} {x : Str} {st : Stmt} {f : Addr} {oc : Value} {od an : Option Addr} {sl : Array (Option Value)} {kV dc pm cd ct : Value} (a : PySem.W.nsIn K mainGlobals x = some (some (.ref f)))
    (l : K.lookup f = some ⟨oc, od, .func (PySem.W.fnOf x x (defArgs st) (defBody st) (defScope st) .none kV dc pm an cd ct), sl⟩) (c : PySem.W.codeIn K cd x = true) (k : PySem.W.keepIn K (.ref f) = true) : DefF K x st := ⟨f, oc, od, an, sl, kV, dc, pm, cd, ct, a, l, c, k⟩
theorem DefF.get {K : PySem.W.Frag} {h : Heap} {mg : Str → Option Value} {x : Str} {st : Stmt} (D : DefF K x st) (X : K.In h) (G : h.Ns mainGlobals mg) : ∃ f fd, Fun K x x st f fd ∧ mg x = some (.ref f) := by
  obtain ⟨f, oc, od, an, sl, kV, dc, pm, cd, ct, a, l, c, k⟩ := D
  exact ⟨f, _, fun_mk (st := st) l c k, PySem.W.mg_of X G a⟩
abbrev sameN : List Str := ["_law_found_here", "_law_due", "_law_one_in", "_law_other"]
/-- plain data of at most so many storeys -/
inductive Sm : Nat → PyData → Prop
  | non (n : Nat) : Sm n .none
  | bl (n : Nat) (b : Bool) : Sm n (.bool b)
  | int (n : Nat) (i : Int) : Sm n (.int i)
  | str (n : Nat) (x : Str) : Sm n (.str x)
  | lst {n : Nat} {ds : List PyData} (h : ds.length ≤ 1000) (k : ∀ d ∈ ds, Sm n d) : Sm (n + 1) (.list ds)
  | tup {n : Nat} {ds : List PyData} (h : ds.length ≤ 1000) (k : ∀ d ∈ ds, Sm n d) : Sm (n + 1) (.tuple ds)
def spSame (K : PySem.W.Frag) (n : Nat) : Sp := fun vs H Q _ => ∃ (v u : V) (d : PyData), vs = [v, u] ∧ Dp K H v d ∧ Dp K H u d ∧ Sm n d ∧ ∀ H', Same H H' → Q (.bl true) H'
structure TxS (mg : Str → Option Value) : Prop where
  isinstance : mg "isinstance" = none
  list : mg "list" = none
  tuple : mg "tuple" = none
  bool : mg "bool" = none
  int : mg "int" = none
  str : mg "str" = none
  len : mg "len" = none
  all : mg "all" = none
  zip : mg "zip" = none
section
variable {X : Cx}
theorem pe_ty {x : Str} {n : String} {pos : Pos} (hg : Gl X x) (hm : X.mg x = none) (hv : bootBuiltins x = some (.type n)) (h1 : x ≠ "__name__" := by decide) (h2 : (x == ("__debug__" : Str)) = false := by decide) : PE X (.Name x pos) (tC (.ty n)) := pe_bltn hg hm hv rfl h1 h2
end
theorem kit2 {K : PySem.W.Frag} {t a b : String} {r s : Bool} (h1 : kitB t a = some r) (h2 : kitB t b = some s) : PySem.W.kitAny K (.type t) [.type a, .type b] = some (r || s) :=
  kitAny_cons (kit_ty h1) (fun e => kitAny_cons (kit_ty h2) (fun e2 => by rw [e, e2]; rfl) (fun e2 => by rw [e2, Bool.or_true])) (fun e => by rw [e]; rfl)
theorem dpl_len {K : PySem.W.Frag} {H : Hp} : ∀ {xs : List V} {ds : List PyData}, DpAll K H xs ds → xs.length = ds.length
  | _, _, .nil => rfl
  | _, _, .cons _ r => by rw [List.length_cons, List.length_cons, dpl_len r]
theorem dpl_at {K : PySem.W.Frag} {H : Hp} : ∀ {xs : List V} {ds : List PyData}, DpAll K H xs ds → ∀ {i : Nat} {x : V}, xs[i]? = some x → ∃ d, ds[i]? = some d ∧ Dp K H x d
  | _, _, .cons h r, 0, x, e => ⟨_, rfl, (Option.some.inj e) ▸ h⟩
  | _, _, .cons h r, i + 1, x, e => dpl_at r (i := i) e
mutual
theorem dp_same {K : PySem.W.Frag} {H H' : Hp} (e : Same H H') : ∀ {v : V} {d : PyData}, Dp K H v d → Dp K H' v d
  | _, _, .non => .non
  | _, _, .bl b => .bl b
  | _, _, .int i => .int i
  | _, _, .str x => .str x
  | _, _, .lst s r => .lst (e.seq s) (dpl_same e r)
  | _, _, .tup s r => .tup (same_sqt e s) (dpl_same e r)
theorem dpl_same {K : PySem.W.Frag} {H H' : Hp} (e : Same H H') : ∀ {vs : List V} {ds : List PyData}, DpAll K H vs ds → DpAll K H' vs ds
  | _, _, .nil => .nil
  | _, _, .cons h r => .cons (dp_same e h) (dpl_same e r)
end
theorem tyL {K : PySem.W.Frag} {H : Hp} {a : Addr} {xs : List V} (h : SqL K H a xs) : TyX K H (.ref a) (.type "list") := by
  rcases h with (h | ⟨o, h⟩) | ⟨o, _, _, h, c, _⟩
  · exact .base (.lst h)
  · exact .base (.frz h)
  · exact .kList h c
theorem tyT {K : PySem.W.Frag} {H : Hp} {a : Addr} {xs : List V} (h : SqT K H a xs) : TyX K H (.ref a) (.type "tuple") := by
  rcases h with (h | ⟨o, h⟩) | ⟨o, _, _, h, c, _⟩
  · exact .base (.tup h)
  · exact .fTuple h
  · exact .kTuple h c
abbrev markedN : List Str := ["forest", "nodes", "marked", "node", "passed"]
abbrev afterN : List Str := ["forest", "nodes", "parents", "node"]
abbrev totalN : List Str := ["forest", "nodes", "deep", "lower", "node"]
/-- a def whose promise is known -/
structure Kn (P : Program) (w : World) (K : PySem.W.Frag) (mg : Str → Option Value) (base : Heap) (k : Nat) (x : Str) (st : Stmt) (ps : List Str) (sp : Sp) (f : Addr) (fd : FuncData) : Prop where
  F : Fun K x x st f fd
  G : FnOk P w K mg base CX0 k f fd ps sp
  b : Binds K fd ps []
  g : mg x = some (.ref f)
def spRootOf (K : PySem.W.Frag) : Sp := fun vs H Q _ => ∃ (a : Addr) (n : Nat) (p r : Nat → Nat) (x : Nat), vs = [.ref a, vi x] ∧ Sq K H a (tupOf n p) ∧ n ≤ 1000 ∧ Fo n p r ∧ x < n ∧ ∀ H', Same H H' → Q (vi (root p n x)) H'
def spDepthOf (K : PySem.W.Frag) : Sp := fun vs H Q _ => ∃ (a : Addr) (n : Nat) (p r : Nat → Nat) (x : Nat), vs = [.ref a, vi x] ∧ Sq K H a (tupOf n p) ∧ n ≤ 1000 ∧ Fo n p r ∧ x < n ∧ ∀ H', Same H H' → Q (vi (ups p n x).length) H'
def markS (n : Nat) (p : Nat → Nat) (l : List Nat) : List Nat := (List.range n).filter (markB n p l)
def spMarked (K : PySem.W.Frag) : Sp := fun vs H Q _ => ∃ (a b : Addr) (n : Nat) (p r : Nat → Nat) (xs : List Nat), vs = [.ref a, .ref b] ∧ Sq K H a (tupOf n p) ∧ SqL K H b (natsV xs) ∧ n ≤ 60 ∧ xs.length ≤ 1000 ∧ Fo n p r ∧ (∀ x ∈ xs, x < n) ∧
  ∀ (q : Addr) H', H q = none → H' q = some (.lst (natsV (markS n p xs))) → Same H H' → Q (.ref q) H'
def spAfter (K : PySem.W.Frag) : Sp := fun vs H Q _ => ∃ (a b : Addr) (n : Nat) (p r : Nat → Nat) (xs : List Nat), vs = [.ref a, .ref b] ∧ Sq K H a (tupOf n p) ∧ SqL K H b (natsV xs) ∧ n ≤ 60 ∧ xs.length ≤ 1000 ∧ Fo n p r ∧ (∀ x ∈ xs, x < n) ∧
  ∀ (q : Addr) H', H q = none → H' q = some (.tup (tupOf n (fndAll n xs p))) → Same H H' → Q (.ref q) H'
def spTotal (K : PySem.W.Frag) : Sp := fun vs H Q _ => ∃ (a b : Addr) (n : Nat) (p r : Nat → Nat) (xs : List Nat), vs = [.ref a, .ref b] ∧ Sq K H a (tupOf n p) ∧ SqL K H b (natsV xs) ∧ n ≤ 60 ∧ xs.length ≤ 1000 ∧ Fo n p r ∧ (∀ x ∈ xs, x < n) ∧
  ∀ H', Same H H' → Q (vi (costs n xs p).sum) H'
theorem rise_eq : ∀ {l m : List Int}, l.Pairwise (· < ·) → m.Pairwise (· < ·) → (∀ k, k ∈ l ↔ k ∈ m) → l = m
  | [], [], _, _, _ => rfl
  | [], b :: m, _, _, h => by have := (h b).mpr List.mem_cons_self; cases this
  | a :: l, [], _, _, h => by have := (h a).mp List.mem_cons_self; cases this
  | a :: l, b :: m, hl, hm, h => by
    obtain ⟨h1, h2⟩ := List.pairwise_cons.mp hl
    obtain ⟨g1, g2⟩ := List.pairwise_cons.mp hm
    have e : a = b := by
      rcases List.mem_cons.mp ((h a).mp List.mem_cons_self) with z | z
      · exact z
      · rcases List.mem_cons.mp ((h b).mpr List.mem_cons_self) with y | y
        · exact y.symm
        · have := g1 a z
          have := h1 b y
          omega
    subst e
    rw [rise_eq h2 g2 fun k => ?_]
    constructor
    · intro z
      rcases List.mem_cons.mp ((h k).mp (List.mem_cons_of_mem _ z)) with y | y
      · have := h1 k z; omega
      · exact y
    · intro z
      rcases List.mem_cons.mp ((h k).mpr (List.mem_cons_of_mem _ z)) with y | y
      · have := g1 k z; omega
      · exact y
theorem rise_filter (n : Nat) (f : Nat → Bool) : (((List.range n).filter f).map fun v : Nat => (v : Int)).Pairwise (· < ·) := by
  rw [List.pairwise_map]
  refine List.Pairwise.imp (fun {a b} h => by omega) ((List.pairwise_lt_range (n := n)).filter f)
theorem count_up {n k : Nat} {f g : Nat → Bool} (hk : k < n) (h1 : f k = false) (h2 : ∀ v, g v = (f v || decide (v = k))) : (List.range n).countP g = (List.range n).countP f + 1 := by
  have e := countP_split g f (List.range n)
  have e1 : (List.range n).countP (fun v => g v && f v) = (List.range n).countP f := List.countP_congr fun v _ => by
    rw [h2 v]; cases f v <;> simp
  have e2 : (List.range n).countP (fun v => g v && !f v) = 1 := by
    have z : ∀ v, (g v && !f v) = (v == k) := fun v => by
      rw [h2 v]
      by_cases hv : v = k
      · subst hv; rw [h1]; simp
      · have : (v == k) = false := beq_eq_false_iff_ne.mpr hv
        rw [this]; simp [hv]
    rw [List.countP_congr (q := fun v => v == k) fun v _ => by rw [z v]]
    have c := (List.nodup_range (n := n)).count (a := k)
    rw [if_pos (List.mem_range.mpr hk)] at c
    exact c
  omega
/-- the marked ones hung on their roots, one by one -/
def hang (n : Nat) (p : Nat → Nat) : List Nat → (Nat → Nat) → Nat → Nat
  | [], q => q
  | v :: l, q => hang n p l (fun u => if u = v then root p n v else q u)
theorem hang_snoc (n : Nat) (p : Nat → Nat) (v : Nat) : ∀ (l : List Nat) (q : Nat → Nat), hang n p (l ++ [v]) q = fun u => if u = v then root p n v else hang n p l q u
  | [], _ => rfl
  | a :: l, q => hang_snoc n p v l _
theorem hang_eq (n : Nat) (p : Nat → Nat) : ∀ (l : List Nat) (q : Nat → Nat) (u : Nat), hang n p l q u = if u ∈ l then root p n u else q u
  | [], q, u => by rw [if_neg (List.not_mem_nil)]; rfl
  | a :: l, q, u => by
    show hang n p l _ u = _
    rw [hang_eq n p l]
    by_cases h1 : u ∈ l
    · rw [if_pos h1, if_pos (List.mem_cons_of_mem _ h1)]
    · rw [if_neg h1]
      by_cases h2 : u = a
      · subst h2; rw [if_pos rfl, if_pos List.mem_cons_self]
      · rw [if_neg h2, if_neg (fun z => (List.mem_cons.mp z).elim h2 h1)]
theorem markS_mem {n : Nat} {p : Nat → Nat} {l : List Nat} {v : Nat} : v ∈ markS n p l ↔ v < n ∧ markB n p l v = true := by
  unfold markS
  rw [List.mem_filter, List.mem_range]
theorem markS_len (n : Nat) (p : Nat → Nat) (l : List Nat) : (markS n p l).length ≤ n := by
  unfold markS
  exact Nat.le_trans (List.length_filter_le _ _) (by rw [List.length_range]; exact Nat.le_refl _)
theorem mark_nonroot {n : Nat} {p r : Nat → Nat} (F : Fo n p r) {l : List Nat} (h : ∀ x ∈ l, x < n) {v : Nat} (hm : markB n p l v = true) : v < n ∧ p v ≠ v := by
  unfold markB at hm
  obtain ⟨x, hx, e⟩ := List.any_eq_true.mp hm
  have z := ups_lt F x (h x hx) v (upB_iff.mp e)
  exact ⟨z.1, z.2.1⟩
theorem deep_iff {n : Nat} {p r : Nat → Nat} (F : Fo n p r) {v : Nat} (hv : v < n) (h : p v ≠ v) : deep p v = decide (2 ≤ (ups p n v).length) := by
  unfold deep
  rw [ups_n F hv h]
  refine decide_eq_decide.mpr ?_
  rw [List.length_cons]
  constructor
  · intro z
    rw [ups_n F (F.lt v hv) z, List.length_cons]
    omega
  · intro z e
    rw [ups_of e] at z
    simp at z
structure Pair (K : PySem.W.Frag) (H : Hp) (a b : Addr) (n : Nat) (p q r r' : Nat → Nat) : Prop where
  sa : SqT K H a (tupOf n p)
  sb : SqT K H b (tupOf n q)
  le : n ≤ 60
  fa : Fo n p r
  fb : Fo n q r'
  ro : ∀ v, v < n → (p v = v ↔ q v = v)
theorem Pair.same {K : PySem.W.Frag} {H H' : Hp} {a b : Addr} {n : Nat} {p q r r' : Nat → Nat} (h : Pair K H a b n p q r r') (e : Same H H') : Pair K H' a b n p q r r' := ⟨same_sqt e h.sa, same_sqt e h.sb, h.le, h.fa, h.fb, h.ro⟩
def spNeeded (K : PySem.W.Frag) : Sp := fun vs H Q _ => ∃ (a b : Addr) (n : Nat) (p q r r' : Nat → Nat), vs = [.ref a, .ref b] ∧ Pair K H a b n p q r r' ∧ Way n p q ∧
  ∀ (l : Addr) H', H l = none → H' l = some (.lst (natsV (needS n p q))) → Same H H' → Q (.ref l) H'
def spBar (K : PySem.W.Frag) : Sp := fun vs H Q _ => ∃ (a b : Addr) (n : Nat) (p q r r' : Nat → Nat), vs = [.ref a, .ref b] ∧ Pair K H a b n p q r r' ∧
  (Way n p q → ∀ H', Same H H' → Q .non H') ∧ (¬ Way n p q → ∀ (t : Addr) (x y : Nat) H', H' t = some (.tup [vi x, vi y]) → Same H H' → Q (.ref t) H')
def spWayCost (K : PySem.W.Frag) : Sp := fun vs H Q _ => ∃ (a b : Addr) (n : Nat) (p q r r' : Nat → Nat), vs = [.ref a, .ref b] ∧ Pair K H a b n p q r r' ∧ Way n p q ∧
  ∀ H', Same H H' → Q (vi (costs n (needS n p q) p).sum) H'
theorem behind_roots {n : Nat} {p r : Nat → Nat} (F : Fo n p r) {l : List Nat} (h : ∀ x ∈ l, x < n) (v : Nat) (hv : v < n) : p v = v ↔ fndAll n l p v = v := by
  constructor
  · exact behind_root F h v hv
  · intro e
    rw [behind_eq F l h v hv] at e
    by_cases m : markB n p l v = true
    · rw [if_pos m] at e
      refine Classical.byContradiction fun z => root_ne F hv z e
    · rw [if_neg m] at e; exact e
theorem eqv_ints : ∀ l m : List Int, PyData.eqvAll (l.map PyData.int) (m.map PyData.int) = decide (l = m)
  | [], [] => by simp [PyData.eqvAll]
  | [], b :: m => by simp [PyData.eqvAll]
  | a :: l, [] => by simp [PyData.eqvAll]
  | a :: l, b :: m => by
    rw [List.map_cons, List.map_cons, PyData.eqvAll, eqv_ints l m]
    by_cases e : a = b
    · subst e
      by_cases f : l = m
      · subst f; simp [PyData.eqv]
      · simp [PyData.eqv, f]
    · simp [PyData.eqv, e]
theorem eqv_tups (l m : List Int) : PyData.eqv (.tuple (l.map PyData.int)) (.tuple (m.map PyData.int)) = decide (l = m) := by
  rw [← eqv_ints l m]
  simp [PyData.eqv]
theorem eqv_lsts (l m : List Int) : PyData.eqv (.list (l.map PyData.int)) (.list (m.map PyData.int)) = decide (l = m) := by
  rw [← eqv_ints l m]
  simp [PyData.eqv]
theorem shaped_lst (l : List Int) : SeqAt.shaped (.list (l.map PyData.int)) = true := by
  unfold SeqAt.shaped
  have := depth_ints l
  simp [PyData.canLay0, lay_ints, PyData.depth]
  omega
theorem intsOf_inj {n : Nat} {p q : Nat → Nat} (h : intsOf n p = intsOf n q) {v : Nat} (hv : v < n) : p v = q v := by
  have e := congrArg (fun l : List Int => l[v]?) h
  unfold intsOf at e
  simp only [List.getElem?_map, List.getElem?_range hv, Option.map_some] at e
  have := Option.some.inj e
  omega
theorem natsI (l : List Nat) : natsV l = (l.map fun n : Nat => (n : Int)).map V.int := natsV_ints l
theorem castI {l m : List Nat} (h : (l.map fun n : Nat => (n : Int)) = m.map fun n : Nat => (n : Int)) : l = m := by
  refine List.map_inj_right (f := fun n : Nat => (n : Int)) (fun a b e => by omega) |>.mp h
abbrev Kx (P : Program) (w : World) (K : PySem.W.Frag) (mg : Str → Option Value) (base : Heap) (k : Nat) (x : Str) (st : Stmt) (ps : List Str) (sp : Sp) : Prop := ∃ f fd, Kn P w K mg base k x st ps sp f fd
section
variable {X : Cx} {CX : CXT} {k : Nat} {f : Addr} {fd : FuncData} {ps ks : List Str} {sp : Sp} {g : List Value → List Value → List Value} {gV : List V → List V → List V} {E : XK} {x : Str} {p pos : Pos} {kws : List Keyword} {tk : TA}
theorem pe_kws (F : FnOk X.prog X.w X.K X.mg X.base CX k f fd ps sp) (hr : Room k X.A) (hg : Gl X x) (hm : X.mg x = some (.ref f)) (hk : PySem.W.keepIn X.K (.ref f) = true) (hb : KBinds X.K fd ps ks g gV) (hx : Passes CX X E) (hkw : PK X kws tk)
    (hall : (backToKw pos (keywordEach kws X.env)).all (·.1.isSome) = true := by rfl) (hks : (backToKw pos (keywordEach kws X.env)).filterMap (·.1) = ks := by rfl) (hdb : (x == ("__debug__" : Str)) = false := by decide)
    (hpl : ((backTo pos (starEach [] X.env)).any (·.1) || (backToKw pos (keywordEach kws X.env)).any (·.1.isNone)) = false := by rfl) : PE X (.Call (.Name x p) [] kws pos) (tCallK sp gV E tNil tk) := by
  refine ⟨fun pins s σ H Q I h => wpAny_Call_Name_kw (ld_glob I hg hm (PySem.W.callWith_KW0 (h₀ := X.base) I.ok.mod.kin hk hall ?_ hpl) hdb)⟩
  refine thn (hkw.run pos pins s σ H _ I h) fun ws s2 ⟨zs, H2, I2, rz, q2⟩ => ⟨I2.kIn, ?_⟩
  rw [hks]; exact run_fnk (us := []) (vs := []) F hr hb hx I2 .nil rz q2
end
/-- two parameters, given by keywords in the other order -/
def sw2 {α : Type} : List α → List α → List α
  | [], [b, a] => [a, b]
  | _, _ => []
theorem sw2_rel {vs : List V} {us : List Value} {zs : List V} {ws : List Value} (r : Vals vs us) (s : Vals zs ws) : Vals (sw2 vs zs) (sw2 us ws) := by
  cases r with
  | cons _ _ => exact .nil
  | nil =>
    cases s with
    | nil => exact .nil
    | cons h1 t1 =>
      cases t1 with
      | nil => exact .nil
      | cons h2 t2 =>
        cases t2 with
        | nil => exact .cons h2 (.cons h1 .nil)
        | cons _ _ => exact .nil
theorem Fun.sw {K : PySem.W.Frag} {x qual : Str} {st : Stmt} {f : Addr} {fd : FuncData} {a b : Str} (F : Fun K x qual st f fd)
    (h : ∀ (kV doc pm : Value) (an : Option Addr) (cdv ct : Value) (u v : Value), bindArgs (PySem.W.fnOf x qual (defArgs st) (defBody st) (defScope st) .none kV doc pm an cdv ct) ⟨[], [(b, u), (a, v)]⟩ = pure [(a, v), (b, u)]) : KBinds K fd [a, b] [b, a] sw2 sw2 := by
  obtain ⟨oc, od, kV, doc, pm, an, cdv, ct, osl, rfl, lk, hcd⟩ := F.ex
  refine ⟨fun s us ws _ hl => ?_, sw2_rel⟩
  match us, ws, hl with
  | [], [u, v], _ => exact .of_eq (h kV doc pm an cdv ct u v)
abbrev sTake : Stmt := topS 33
abbrev sStart : Stmt := topS 32
abbrev sOf : Stmt := topS 34
abbrev sShuf : Stmt := topS 35
abbrev sPath : Stmt := topS 39
abbrev sRoot : Stmt := topS 40
abbrev sNum : Stmt := topS 15
abbrev sRen : Stmt := topS 41
abbrev sFor : Stmt := topS 42
abbrev sLFind : Stmt := topS 43
abbrev sLFound : Stmt := topS 44
theorem scTake : FnScope ["_law_draw", "_law_many", "_law_cell", "_law_digit", "_law_square"] ["_law_draw", "_law_many"] (defScope sTake) := ⟨rfl, rfl, rfl, by decide +kernel, rfl, by decide +kernel, by decide +kernel⟩
theorem scStart : FnScope ["_law_script"] ["_law_script"] (defScope sStart) := ⟨rfl, rfl, rfl, by decide +kernel, rfl, by decide +kernel, by decide +kernel⟩
theorem scOf : FnScope ["_law_draw", "_law_some"] ["_law_draw", "_law_some"] (defScope sOf) := ⟨rfl, rfl, rfl, by decide +kernel, rfl, by decide +kernel, by decide +kernel⟩
theorem scShuf : FnScope ["_law_draw", "_law_some", "_law_found_here", "_law_one_in"] ["_law_draw", "_law_some"] (defScope sShuf) := ⟨rfl, rfl, rfl, by decide +kernel, rfl, by decide +kernel, by decide +kernel⟩
theorem scPath : FnScope ["_law_forest_here", "_law_node", "_law_found_here", "_law_step_here"] ["_law_forest_here", "_law_node"] (defScope sPath) := ⟨rfl, rfl, rfl, by decide +kernel, rfl, by decide +kernel, by decide +kernel⟩
theorem scRoot : FnScope ["_law_forest_here", "_law_node"] ["_law_forest_here", "_law_node"] (defScope sRoot) := ⟨rfl, rfl, rfl, by decide +kernel, rfl, by decide +kernel, by decide +kernel⟩
theorem scNum : FnScope ["size", "node"] ["size", "node"] (defScope sNum) := ⟨rfl, rfl, rfl, by decide +kernel, rfl, by decide +kernel, by decide +kernel⟩
theorem scRen : FnScope ["_law_draw", "_law_parents", "_law_names", "_law_found_here", "_law_node"] ["_law_draw", "_law_parents"] (defScope sRen) := ⟨rfl, rfl, rfl, by decide +kernel, rfl, by decide +kernel, by decide +kernel⟩
theorem scFor : FnScope ["_law_draw", "_law_size_in", "_law_many", "_law_pick", "_law_parents", "_law_node", "_law_near", "_law_above"] ["_law_draw", "_law_size_in", "_law_many"] (defScope sFor) := ⟨rfl, rfl, rfl, by decide +kernel, rfl, by decide +kernel, by decide +kernel⟩
theorem scLFind : FnScope ["_law_forest_here", "_law_node", "_law_found_here", "_law_cost", "_law_here", "_law_root_here", "_law_step_here", "_law_above"] ["_law_forest_here", "_law_node"] (defScope sLFind) := ⟨rfl, rfl, rfl, by decide +kernel, rfl, by decide +kernel, by decide +kernel⟩
theorem scLFound : FnScope ["_law_forest_here", "_law_nodes", "_law_costs", "_law_node", "_law_cost"] ["_law_forest_here", "_law_nodes"] (defScope sLFound) := ⟨rfl, rfl, rfl, by decide +kernel, rfl, by decide +kernel, by decide +kernel⟩
section
variable {P : Program} {w : World} {K : PySem.W.Frag} {mg : Str → Option Value} {base : Heap}
theorem ok_take {f : Addr} {fd : FuncData} {k : Nat} (F : Fun K "_law_take" "_law_take" sTake f fd) (ml : mg "len" = none) : FnOk P w K mg base CX0 (k + 1) f fd ["_law_draw", "_law_many"] spTake := by
  refine F.ok scTake (fun vs H Q E h => ?_) (fun cdv A outer s H vs Q E hr h => ?_)
  · obtain ⟨d, l, m, rfl, _⟩ := h
    rfl
  · obtain ⟨d, l, m, rfl, hD, hm1, hm2, q⟩ := h
    have c61 : (0 : Int) < 2305843009213693951 := by decide
    refine ⟨_, C8.pss_cut (ps_if (PW.pt (pw_and (pt_cmpR op_lt (pe_ix ix_list (pv 0) pe_int (fun _ _ => rfl)) (pv 1) (nomark _))
        (pw_and1 (pt_cmpR op_lt (pe_ix ix_list (pv 0) pe_int (fun _ _ => rfl)) (pe_callB call_len_seq (by rfl) ml PySem.boot_len (pa_cons (pe_ix ix_list (pv 0) pe_int (fun _ _ => rfl)) pa_nil)) (nomark _)))))
        (pss_cons (ps_set (i := 2) scTake.nd rfl (.inl rfl) (pe_ix ix_list (pe_ix ix_list (pv 0) pe_int (fun _ _ => rfl)) (pe_ix ix_list (pv 0) pe_int (fun _ _ => rfl)) (fun _ _ => rfl)))
        (pss_cons (ps_asg (pe_op op_add (pe_ix ix_list (pv 0) pe_int (fun _ _ => rfl)) pe_int) (pg_sub (pv 0) pe_int set_list))
        (pss_cons (ps_asg pe_int (pg_sub (pv 0) pe_int set_list))
        (C8.pss_cut (ps_if (pt_cmpR op_ge (pv 2) (pe_op op_pow pe_int pe_int) (nomark _)) (pss_one (ps_asg (pv 2) (pg_sub (pv 0) pe_int set_list))) pss_nil)
        (pss_one (ps_asg (pe_op op_mod (pe_op op_add (pe_op op_add (pe_op op_mul (pe_ix ix_list (pv 0) pe_int (fun _ _ => rfl)) pe_int) (pe_op op_mul (pe_op op_mod (pv 2) pe_int) pe_int)) (pe_ix ix_list (pv 0) pe_int (fun _ _ => rfl))) pe_int) (pg_sub (pv 0) pe_int set_list))))))) pss_nil)
      (pss_cons (ps_if (pt_cmpR op_ge (pe_ix ix_list (pv 0) pe_int (fun _ _ => rfl)) (pv 1) (nomark _))
        (pss_cons (ps_set (i := 3) scTake.nd rfl (.inl rfl) (pe_op op_mod (pe_ix ix_list (pv 0) pe_int (fun _ _ => rfl)) (pv 1)))
        (pss_cons (ps_asg (pe_op op_fdivW (pe_ix ix_list (pv 0) pe_int (fun _ _ => rfl)) (pv 1)) (pg_sub (pv 0) pe_int set_list))
        (pss_one (ps_ret (pv 3))))) pss_nil)
      (pss_cons (ps_set (i := 4) scTake.nd rfl (.inl rfl) (pe_op op_mod (pe_op op_mul (pe_ix ix_list (pv 0) pe_int (fun _ _ => rfl)) (pe_ix ix_list (pv 0) pe_int (fun _ _ => rfl))) pe_int))
      (pss_cons (ps_asg (pe_op op_mod (pe_op op_add (pe_op op_add (pe_op op_mul (pv 4) pe_int) (pe_op op_mul (pe_ix ix_list (pv 0) pe_int (fun _ _ => rfl)) pe_int)) pe_int) pe_int) (pg_sub (pv 0) pe_int set_list))
      (pss_one (ps_ret (pe_op op_mod (pe_op op_fdiv (pe_ix ix_list (pv 0) pe_int (fun _ _ => rfl)) pe_int) (pv 1))))))), ?_⟩
    refine ⟨fun σ H' => (∃ c, σ = [some (.ref d), some (.int m), c, none, none]) ∧ DrawAt H' d l ∧ Sb d H H', ?_, ?_⟩
    · obtain ⟨ns, i, j, c, h1, h2, h3, h4, h5⟩ := hD
      have ne := draw_ne h1 h2
      have x1 : atI [V.ref l, V.int i, V.int j, V.int c] 0 = some (.ref l) := rfl
      have x2 : atI [V.ref l, V.int i, V.int j, V.int c] 1 = some (.int i) := rfl
      have x3 : atI [V.ref l, V.int i, V.int j, V.int c] 2 = some (.int j) := rfl
      have x4 : atI [V.ref l, V.int i, V.int j, V.int c] 3 = some (.int c) := rfl
      refine ⟨_, rfl, d, _, _, _, rfl, rfl, SqL.of h1, x3, _, rfl, _, _, rfl, rfl, _, rfl, ite2 (fun e1 => ?_) (fun e1 => ?_)⟩
      · refine ⟨_, rfl, d, _, _, _, rfl, rfl, SqL.of h1, x2, _, rfl, d, _, _, _, rfl, rfl, SqL.of h1, x1, l, _, rfl, .inl (SqL.of h2), _, _, rfl, rfl, _, rfl, ite2 (fun e2 => ?_) (fun e2 => ?_)⟩
        · have hi : i < ((ns.map V.int).length : Int) := of_decide_eq_true e2
          rw [List.length_map] at hi
          obtain ⟨u, rfl⟩ : ∃ u : Nat, i = u := ⟨i.toNat, by omega⟩
          have hu : u < ns.length := by omega
          have gu : (ns.map V.int)[u]? = some (.int ns[u]) := by rw [List.getElem?_map, List.getElem?_eq_getElem hu]; rfl
          refine ⟨_, rfl, d, _, _, _, rfl, rfl, SqL.of h1, x1, _, rfl, d, _, _, _, rfl, rfl, SqL.of h1, x2, l, _, _, _, rfl, rfl, SqL.of h2, atI_nat gu, ?_⟩
          refine ⟨_, rfl, d, _, _, _, rfl, rfl, SqL.of h1, x2, _, _, rfl, rfl, _, rfl, d, _, _, 1, rfl, rfl, h1, rfl, ?_⟩
          refine ⟨_, rfl, d, _, _, 2, rfl, rfl, upd_same, rfl, ?_⟩
          refine ⟨fun σ H' => σ = [some (.ref d), some (.int m), some (.int ns[u]), none, none] ∧ (∃ jj : Int, H' d = some (.lst [.ref l, .int ((u : Int) + 1), .int jj, .int c])) ∧ H' l = some (.lst (ns.map V.int)) ∧ Sb d H H', ?_, ?_⟩
          · refine ⟨_, rfl, _, _, rfl, rfl, ⟨by decide, by decide, by decide⟩, _, _, rfl, rfl, _, rfl, ite2 (fun e3 => ?_) (fun e3 => ?_)⟩
            · refine ⟨_, rfl, _, rfl, d, _, _, 2, rfl, rfl, upd_same, rfl, rfl, ⟨ns[u], upd_same⟩, ?_, ?_⟩
              · rw [upd_ne ne, upd_ne ne, upd_ne ne]; exact h2
              · exact (Sb.put.trans Sb.put).trans Sb.put
            · refine ⟨rfl, ⟨0, upd_same⟩, ?_, ?_⟩
              · rw [upd_ne ne, upd_ne ne]; exact h2
              · exact Sb.put.trans Sb.put
          · rintro σ H2 ⟨rfl, ⟨jj, g1⟩, g2, g3⟩
            have y2 : atI [V.ref l, V.int ((u : Int) + 1), V.int jj, V.int c] 1 = some (.int ((u : Int) + 1)) := rfl
            have y4 : atI [V.ref l, V.int ((u : Int) + 1), V.int jj, V.int c] 3 = some (.int c) := rfl
            refine ⟨_, rfl, d, _, _, _, rfl, rfl, SqL.of g1, y4, _, _, rfl, rfl, .inl ⟨by omega, by omega⟩, _, rfl, _, _, rfl, rfl, c61, _, _, rfl, rfl, .inr ⟨by decide, by decide⟩, _, _, rfl, rfl, _, rfl, d, _, _, _, rfl, rfl, SqL.of g1, y2, _, _, rfl, rfl, _, _, rfl, rfl, c61, _, rfl, d, _, _, 3, rfl, rfl, g1, rfl, ⟨_, rfl⟩, ?_, g3.trans Sb.put⟩
            exact ⟨ns, _, jj, _, upd_same, by rw [upd_ne ne]; exact g2, by omega, Int.emod_nonneg _ (by omega), Int.emod_lt_of_pos _ c61⟩
        · exact ⟨⟨_, rfl⟩, ⟨ns, i, j, c, h1, h2, h3, h4, h5⟩, Sb.refl⟩
      · exact ⟨⟨_, rfl⟩, ⟨ns, i, j, c, h1, h2, h3, h4, h5⟩, Sb.refl⟩
    · rintro σ H1 ⟨⟨c0, rfl⟩, ⟨ns, i, j, c, h1, h2, h3, h4, h5⟩, sb⟩
      have ne := draw_ne h1 h2
      have x3 : atI [V.ref l, V.int i, V.int j, V.int c] 2 = some (.int j) := rfl
      have x4 : atI [V.ref l, V.int i, V.int j, V.int c] 3 = some (.int c) := rfl
      refine ⟨_, rfl, d, _, _, _, rfl, rfl, SqL.of h1, x3, _, rfl, _, _, rfl, rfl, _, rfl, ite2 (fun e1 => ?_) (fun e1 => ?_)⟩
      · have hj : m ≤ j := of_decide_eq_true e1
        refine ⟨_, rfl, d, _, _, _, rfl, rfl, SqL.of h1, x3, _, rfl, _, _, rfl, rfl, (by show (0:Int) < m; omega), ?_⟩
        refine ⟨_, rfl, d, _, _, _, rfl, rfl, SqL.of h1, x3, _, rfl, _, _, rfl, rfl, wide_div (b := 1000) (by omega) hm2 (by decide) (by decide), _, rfl, d, _, _, 2, rfl, rfl, h1, rfl, ?_⟩
        have hb : 0 ≤ j % m := Int.emod_nonneg _ (by omega)
        have hb2 : j % m < m := Int.emod_lt_of_pos _ (by omega)
        obtain ⟨r, er⟩ : ∃ r : Nat, j % m = r := ⟨(j % m).toNat, by omega⟩
        refine ⟨_, rfl, ?_⟩
        show Q (.int (j % m)) _
        rw [er]
        refine q r _ (by omega) ⟨ns, i, j / m, c, upd_same, by rw [upd_ne ne]; exact h2, h3, h4, h5⟩ (sb.trans Sb.put)
      · refine ⟨_, rfl, d, _, _, _, rfl, rfl, SqL.of h1, x4, _, rfl, d, _, _, _, rfl, rfl, SqL.of h1, x4, _, _, rfl, rfl, .inl ⟨by omega, by omega⟩, _, _, rfl, rfl, c61, ?_⟩
        have s0 : 0 ≤ c * c % 2305843009213693951 := Int.emod_nonneg _ (by omega)
        have s1 : c * c % 2305843009213693951 < 2305843009213693951 := Int.emod_lt_of_pos _ c61
        generalize hsq : c * c % 2305843009213693951 = sq at s0 s1
        refine ⟨.int (c * c % 2305843009213693951), rfl, _, _, rfl, rfl, .inl ⟨by rw [hsq]; omega, by rw [hsq]; omega⟩, _, rfl, d, _, _, _, rfl, rfl, SqL.of h1, x4, _, _, rfl, rfl, .inl ⟨by omega, by omega⟩, _, _, rfl, rfl, _, _, rfl, rfl, _, _, rfl, rfl, c61, _, rfl, d, _, _, 3, rfl, rfl, h1, rfl, ?_⟩
        have t0 : 0 ≤ (c * c % 2305843009213693951 * 48271 + c * 16807 + 12345) % 2305843009213693951 := Int.emod_nonneg _ (by omega)
        have t1 : (c * c % 2305843009213693951 * 48271 + c * 16807 + 12345) % 2305843009213693951 < 2305843009213693951 := Int.emod_lt_of_pos _ c61
        refine ⟨_, rfl, d, _, _, _, rfl, rfl, SqL.of upd_same, rfl, _, _, rfl, rfl, ⟨by decide, by decide⟩, _, rfl, _, _, rfl, rfl, (by show (0:Int) < m; omega), ?_⟩
        generalize hz : (c * c % 2305843009213693951 * 48271 + c * 16807 + 12345) % 2305843009213693951 = z at t0 t1
        have b0 : 0 ≤ (z / 1021) % m := Int.emod_nonneg _ (by omega)
        have b1 : (z / 1021) % m < m := Int.emod_lt_of_pos _ (by omega)
        obtain ⟨r, er⟩ : ∃ r : Nat, (z / 1021) % m = r := ⟨((z / 1021) % m).toNat, by omega⟩
        show Q (.int (z / 1021 % m)) _
        rw [er]
        refine q r _ (by omega) ⟨ns, i, j, z, ?_, by rw [upd_ne ne]; exact h2, h3, t0, t1⟩ (sb.trans Sb.put)
        rw [upd_same, ← hz]
        rfl
end
section
variable {P : Program} {w : World} {K : PySem.W.Frag} {mg : Str → Option Value} {base : Heap}
theorem ok_start {f : Addr} {fd : FuncData} {k : Nat} (F : Fun K "_law_start" "_law_start" sStart f fd) (T : Tx mg) : FnOk P w K mg base CX0 (k + 1) f fd ["_law_script"] (spStart K) := by
  refine F.ok scStart (fun vs H Q E h => ?_) (fun cdv A outer s H vs Q E hr h => ?_)
  · obtain ⟨a, ns, rfl, _⟩ := h
    rfl
  · obtain ⟨a, ns, rfl, hS, hlen, q⟩ := h
    refine ⟨_, pss_one (ps_ret (pe_lst (pa_cons (pe_callTy call_list_of (by rfl) T.list (by decide +kernel) (pa_cons (pe_slice sl_list (pv 0) po_none (po_some pe_int)) pa_nil))
      (pa_cons pe_int (pa_cons pe_int (pa_cons (pe_op op_add pe_int (pe_op op_mul pe_int (pe_callB call_len_seq (by rfl) T.len PySem.boot_len (pa_cons (pe_slice sl_list (pv 0) po_none (po_some pe_int)) pa_nil)))) pa_nil)))))), ?_⟩
    have cut : ∃ ms : List Int, cutV (ns.map V.int) none (some 63) = ms.map V.int ∧ ms.length ≤ ns.length := by
      refine ⟨(ns.drop (HT.sIx (ns.map V.int).length 0 none)).take (HT.sIx (ns.map V.int).length (ns.map V.int).length (some 63) - HT.sIx (ns.map V.int).length 0 none), ?_, ?_⟩
      · unfold cutV
        rw [List.map_take, List.map_drop]
      · rw [List.length_take, List.length_drop]
        omega
    obtain ⟨ms, em, hml⟩ := cut
    refine ⟨_, rfl, 63, rfl, a, _, rfl, hS, fun c nc => ?_⟩
    rw [em]
    have s1 : Same H (upd H c (.lst (ms.map V.int))) := same_new nc
    refine ⟨c, _, rfl, .inl (SqL.of upd_same), fun l nl => ?_⟩
    have s2 : Same (upd H c (.lst (ms.map V.int))) (upd (upd H c (.lst (ms.map V.int))) l (.lst (ms.map V.int))) := same_new nl
    refine ⟨_, rfl, 63, rfl, a, _, rfl, s2.seq (s1.seq hS), fun c2 nc2 => ?_⟩
    rw [em]
    have s3 := same_new (o := .lst (ms.map V.int)) nc2
    refine ⟨c2, _, rfl, .inl (SqL.of upd_same), _, _, rfl, rfl, .inl ⟨by decide, by decide⟩, _, _, rfl, rfl, ?_⟩
    refine ⟨by show 4 ≤ sizeLine; decide, fun d nd => ?_⟩
    have s4 := same_new (o := .lst [V.ref l, V.int 0, V.int 0, V.int (9494 + 37 * ((ms.map V.int).length : Int))]) nd
    refine q d l _ (((s1.trans s2).trans s3).free nd) ⟨ms, 0, 0, 9494 + 37 * ((ms.map V.int).length : Int), upd_same, ?_, by omega, by omega, by rw [List.length_map]; omega⟩ (((s1.trans s2).trans s3).trans s4)
    exact s4 _ _ (s3 _ _ upd_same)
end
section
variable {P : Program} {w : World} {K : PySem.W.Frag} {mg : Str → Option Value} {base : Heap}
theorem ok_of {f fT : Addr} {fd fdT : FuncData} (F : Fun K "_law_of" "_law_of" sOf f fd) (GT : FnOk P w K mg base CX0 1 fT fdT ["_law_draw", "_law_many"] spTake) (FT : Fun K "_law_take" "_law_take" sTake fT fdT) (bT : Binds K fdT ["_law_draw", "_law_many"] []) (gT : mg "_law_take" = some (.ref fT)) (T : Tx mg) :
    FnOk P w K mg base CX0 2 f fd ["_law_draw", "_law_some"] (spOf K) := by
  refine F.ok scOf (fun vs H Q E h => ?_) (fun cdv A outer s H vs Q E hr h => ?_)
  · obtain ⟨d, l, a, xs, rfl, _⟩ := h
    rfl
  · obtain ⟨d, l, a, xs, rfl, hD, ne, hS, h1, h2, q⟩ := h
    refine ⟨_, pss_one (ps_ret (pe_ix ix_list (pv 1) (pe_call GT hr (by rfl) gT FT.kp bT .nil pass0 (pa_cons (pv 0) (pa_cons (pe_callB call_len_seq (by rfl) T.len PySem.boot_len (pa_cons (pv 1) pa_nil)) pa_nil))) (fun _ _ => rfl))), ?_⟩
    refine ⟨_, rfl, _, rfl, _, rfl, a, xs, rfl, .inl hS, d, l, xs.length, rfl, hD, by omega, Nat.lt_of_le_of_lt (show _ ≤ 1000 by omega) (by decide +kernel), fun r H' hr' hD' sb => ?_⟩
    have hr2 : r < xs.length := by omega
    exact ⟨a, xs, _, xs[r], rfl, rfl, sb.sql ne hS, atI_nat (List.getElem?_eq_getElem hr2), q r _ H' (List.getElem?_eq_getElem hr2) hD' sb⟩
end
section
variable {P : Program} {w : World} {K : PySem.W.Frag} {mg : Str → Option Value} {base : Heap}
theorem ok_shuf {f fT : Addr} {fd fdT : FuncData} (F : Fun K "_law_shuffled" "_law_shuffled" sShuf f fd) (GT : FnOk P w K mg base CX0 1 fT fdT ["_law_draw", "_law_many"] spTake) (FT : Fun K "_law_take" "_law_take" sTake fT fdT) (bT : Binds K fdT ["_law_draw", "_law_many"] []) (gT : mg "_law_take" = some (.ref fT)) (T : Tx mg) :
    FnOk P w K mg base CX0 2 f fd ["_law_draw", "_law_some"] (spShuf K) := by
  refine F.ok scShuf (fun vs H Q E h => ?_) (fun cdv A outer s H vs Q E hr h => ?_)
  · obtain ⟨d, l, a, xs, rfl, _⟩ := h
    rfl
  · obtain ⟨d, l, a, xs, rfl, hD, ne, hS, hl, q⟩ := h
    refine ⟨_, pss_cons (ps_set (i := 2) scShuf.nd rfl (.inl rfl) (pe_lst pa_nil))
      (pss_cons (ps_for PassesOwn.never rfl (pi_list (pv 1)) (pg_name (i := 3) scShuf.nd rfl (.inl rfl))
        (pss_one (ps_expr (pe_bm PySem.F.plainAttrs_list PySem.F.slot_list_insert PySem.F.type_list_insert mt_insert (pv 2)
          (pa_cons (pe_call GT hr (by rfl) gT FT.kp bT .nil pass0 (pa_cons (pv 0) (pa_cons (pe_op op_add (pe_callB call_len_seq (by rfl) T.len PySem.boot_len (pa_cons (pv 2) pa_nil)) pe_int) pa_nil))) (pa_cons (pv 3) pa_nil))))))
      (pss_one (ps_ret (pv 2)))), ?_⟩
    refine ⟨Nat.zero_le _, fun p np => ?_⟩
    have npd : p ≠ d := hD.ne np
    have s1 : Same H (upd H p (.lst [])) := same_new np
    refine ⟨_, rfl, a, rfl, ⟨_, s1.seq hS⟩, ?_⟩
    refine for_list (xs := xs) (fun i σ H' => (∃ c, σ = [some (.ref d), some (.ref a), some (.ref p), c]) ∧ ∃ ys : List V, ys.Perm (xs.take i) ∧ H' p = some (.lst ys) ∧ DrawAt H' d l ∧ Sb d H H') ⟨⟨none, rfl⟩, [], by simp, upd_same, hD.new np, Sb.of s1⟩ ?_ ?_ ?_
    · rintro i σ H' _ ⟨_, ys, _, _, _, sb⟩
      exact sb.sql ne hS
    · rintro i x σ H' hx ⟨⟨c, rfl⟩, ys, hy, hp, hD', sb⟩
      have hyl : ys.length = i := by
        rw [hy.length_eq, List.length_take]
        have := (List.getElem?_eq_some_iff.mp hx).1
        omega
      have hil : i < xs.length := (List.getElem?_eq_some_iff.mp hx).1
      refine ⟨_, rfl, .inl ⟨rfl, _, SqL.of hp⟩, _, rfl, _, rfl, p, ys, rfl, .inl (SqL.of hp), _, _, rfl, rfl, d, l, _, rfl, hD', by omega, Nat.lt_of_le_of_lt (show _ ≤ 1001 by omega) (by decide +kernel), fun r H2 hr2 hD2 sb2 => ?_⟩
      have hp2 : H2 p = some (.lst ys) := sb2 _ _ npd hp
      refine ⟨_, rfl, p, ys, r, x, rfl, rfl, hp2, Nat.lt_of_lt_of_le (show ys.length < 1001 by omega) (by decide), by omega, by omega, ⟨_, rfl⟩, ys.take r ++ [x] ++ ys.drop r, ?_, upd_same, ?_, ?_⟩
      · rw [List.take_add_one, hx]
        exact (insert_perm r x).trans (hy.append_right _)
      · exact hD2.put npd (hD.nel np)
      · exact (sb.trans sb2).over np
    · rintro σ H' ⟨⟨c, rfl⟩, ys, hy, hp, hD', sb⟩
      rw [List.take_length] at hy
      exact ⟨_, rfl, q p ys H' hy np npd hp hD' sb⟩
end
section
variable {P : Program} {w : World} {K : PySem.W.Frag} {mg : Str → Option Value} {base : Heap}
theorem ok_path {f : Addr} {fd : FuncData} {k : Nat} (F : Fun K "_law_path" "_law_path" sPath f fd) (T : Tx mg) : FnOk P w K mg base CX0 (k + 1) f fd ["_law_forest_here", "_law_node"] (spPath K) := by
  refine F.ok scPath (fun vs H Q E h => ?_) (fun cdv A outer s H vs Q E hr h => ?_)
  · obtain ⟨a, n, p, x, rfl, _⟩ := h
    rfl
  · obtain ⟨a, n, p, x, rfl, hS, hn, hl, hx, q⟩ := h
    refine ⟨_, pss_cons (ps_set (i := 2) scPath.nd rfl (.inl rfl) (pe_lst (pa_cons (pv 1) pa_nil)))
      (pss_cons (ps_for PassesOwn.never rfl (pi_range1 (by rfl) T.range (pa_cons (pe_callB call_len_seq (by rfl) T.len PySem.boot_len (pa_cons (pv 0) pa_nil)) pa_nil)) (pg_name (i := 3) scPath.nd rfl (.inl rfl))
        (pss_one (ps_if (pt_cmpR op_ne (pe_ix ix_seq (pv 0) (pe_ix ix_list (pv 2) (pe_un un_neg pe_int) (fun _ _ => rfl)) (fun _ _ => rfl)) (pe_ix ix_list (pv 2) (pe_un un_neg pe_int) (fun _ _ => rfl)) (nomark _))
          (pss_one (ps_expr (pe_bm PySem.F.plainAttrs_list PySem.F.slot_list_append PySem.F.type_list_append mt_append (pv 2) (pa_cons (pe_ix ix_seq (pv 0) (pe_ix ix_list (pv 2) (pe_un un_neg pe_int) (fun _ _ => rfl)) (fun _ _ => rfl)) pa_nil)))) pss_nil)))
      (pss_one (ps_ret (pv 2)))), ?_⟩
    refine ⟨_, rfl, by show 1 ≤ sizeLine; decide, fun c nc => ?_⟩
    have s1 : Same H (upd H c (.lst [vi x])) := same_new nc
    refine ⟨_, rfl, a, _, rfl, hS.same s1, _, rfl, by rw [tupOf_len]; omega, by rw [tupOf_len]; omega, ?_⟩
    rw [tupOf_len]
    refine for_range (lo := 0) (n := (n : Int).toNat) (fun i σ H' => (∃ y, σ = [some (.ref a), some (vi x), some (.ref c), y]) ∧ H' c = some (.lst (natsV (path p i x))) ∧ Same H H') ⟨⟨none, rfl⟩, upd_same, s1⟩ ?_ ?_
    · rintro i σ H' hi ⟨⟨y, rfl⟩, hc, sm⟩
      have hi' : i < n := by omega
      have hr := root_lt0 hl i x hx
      refine ⟨_, rfl, _, rfl, 1, rfl, c, _, _, _, rfl, rfl, SqL.of hc, natsV_last p i x, (hS.same sm).ix (atI_nat (tupOf_at hr)) ⟨_, rfl, 1, rfl, c, _, _, _, rfl, rfl, SqL.of hc, natsV_last p i x, rfl, _, rfl, ite2 (fun e => ?_) (fun e => ?_)⟩⟩
      · have e' : ¬ p (root p i x) = root p i x := fun z => by
          rw [z] at e
          simp at e
        refine ⟨_, rfl, .inl ⟨rfl, _, SqL.of hc⟩, _, rfl, _, rfl, 1, rfl, c, _, _, _, rfl, rfl, SqL.of hc, natsV_last p i x, (hS.same sm).ix (atI_nat (tupOf_at hr)) ⟨c, _, _, rfl, rfl, hc, ?_, ⟨_, rfl⟩, ?_, same_over sm nc⟩⟩
        · rw [natsV_len]
          have := path_len0 p i x
          exact Nat.lt_of_le_of_lt (show _ ≤ 1001 by omega) (by decide)
        · rw [upd_same, path_succ, if_neg e']
          unfold natsV
          rw [List.map_append]
          rfl
      · have e' : p (root p i x) = root p i x := by
          have z : ¬ (!decide ((vi (p (root p i x))) = vi (root p i x))) = true := e
          simp at z
          omega
        refine ⟨⟨_, rfl⟩, ?_, sm⟩
        rw [path_succ, if_pos e']
        exact hc
    · rintro σ H' ⟨⟨y, rfl⟩, hc, sm⟩
      refine ⟨_, rfl, q c H' nc ?_ sm⟩
      exact hc
end
section
variable {P : Program} {w : World} {K : PySem.W.Frag} {mg : Str → Option Value} {base : Heap}
theorem ok_root {f fP : Addr} {fd fdP : FuncData} (F : Fun K "_law_root" "_law_root" sRoot f fd) (GP : FnOk P w K mg base CX0 1 fP fdP ["_law_forest_here", "_law_node"] (spPath K)) (FP : Fun K "_law_path" "_law_path" sPath fP fdP) (bP : Binds K fdP ["_law_forest_here", "_law_node"] []) (gP : mg "_law_path" = some (.ref fP)) :
    FnOk P w K mg base CX0 2 f fd ["_law_forest_here", "_law_node"] (spRoot K) := by
  refine F.ok scRoot (fun vs H Q E h => ?_) (fun cdv A outer s H vs Q E hr h => ?_)
  · obtain ⟨a, n, p, x, rfl, _⟩ := h
    rfl
  · obtain ⟨a, n, p, x, rfl, hS, hn, hl, hx, q⟩ := h
    refine ⟨_, pss_one (ps_ret (pe_ix ix_list (pe_call GP hr (by rfl) gP FP.kp bP .nil pass0 (pa_cons (pv 0) (pa_cons (pv 1) pa_nil))) (pe_un un_neg pe_int) (fun _ _ => rfl))), ?_⟩
    exact ⟨_, rfl, _, rfl, a, n, p, x, rfl, hS, hn, hl, hx, fun c H' nc hc sm => ⟨1, rfl, c, _, _, _, rfl, rfl, SqL.of hc, natsV_last p n x, q H' sm⟩⟩
end
section
variable {P : Program} {w : World} {K : PySem.W.Frag} {mg : Str → Option Value} {base : Heap}
theorem ok_num {f : Addr} {fd : FuncData} {k : Nat} (F : Fun K "check_number" "check_number" sNum f fd) : FnOk P w K mg base CX0 (k + 1) f fd ["size", "node"] spNum := by
  refine F.ok scNum (fun vs H Q E h => ?_) (fun cdv A outer s H vs Q E hr h => ?_)
  · obtain ⟨n, x, rfl, _⟩ := h
    rfl
  · obtain ⟨n, x, rfl, hx, q⟩ := h
    refine ⟨_, pss_one (ps_if (pt_not (pt_chain op_le op_lt pe_int (pv 1) (pv 0))) (pss_one ps_never) pss_nil), ?_⟩
    have e1 : decide ((0 : Int) ≤ (x : Int)) = true := decide_eq_true (by omega)
    have e2 : decide ((x : Int) < (n : Int)) = true := decide_eq_true (by omega)
    refine ⟨_, rfl, _, _, rfl, rfl, _, rfl, ?_⟩
    show if decide ((0 : Int) ≤ (x : Int)) = true then _ else _
    rw [e1]
    refine iteT ⟨_, rfl, _, _, rfl, rfl, _, rfl, ?_⟩
    show if (!decide ((x : Int) < (n : Int))) = true then _ else _
    rw [e2]
    exact iteF q
end
section
variable {P : Program} {w : World} {K : PySem.W.Frag} {mg : Str → Option Value} {base : Heap}
theorem ok_ren {f fS : Addr} {fd fdS : FuncData} (F : Fun K "_law_renamed" "_law_renamed" sRen f fd) (GS : FnOk P w K mg base CX0 2 fS fdS ["_law_draw", "_law_some"] (spShuf K)) (FS : Fun K "_law_shuffled" "_law_shuffled" sShuf fS fdS) (bS : Binds K fdS ["_law_draw", "_law_some"] []) (gS : mg "_law_shuffled" = some (.ref fS)) (T : Tx mg) :
    FnOk P w K mg base CX0 3 f fd ["_law_draw", "_law_parents"] (spRen K) := by
  refine F.ok scRen (fun vs H Q E h => ?_) (fun cdv A outer s H vs Q E hr h => ?_)
  · obtain ⟨d, l, a, ps, rfl, _⟩ := h
    rfl
  · obtain ⟨d, l, a, ps, rfl, hD, ne, hS, hl, hps, q⟩ := h
    refine ⟨_, pss_cons (ps_set (i := 2) scRen.nd rfl (.inl rfl) (pe_call GS hr (by rfl) gS FS.kp bS .nil pass0 (pa_cons (pv 0) (pa_cons (pe_listRg rfl (by rfl) T.list (prg_1 (by rfl) T.range (pe_callB call_len_seq (by rfl) T.len PySem.boot_len (pa_cons (pv 1) pa_nil)))) pa_nil))))
      (pss_cons (ps_set (i := 3) scRen.nd rfl (.inl rfl) (pe_op op_rep (pe_lst (pa_cons pe_int pa_nil)) (pe_callB call_len_seq (by rfl) T.len PySem.boot_len (pa_cons (pv 1) pa_nil))))
      (pss_cons (ps_for PassesOwn.never rfl (pi_range1 (by rfl) T.range (pa_cons (pe_callB call_len_seq (by rfl) T.len PySem.boot_len (pa_cons (pv 1) pa_nil)) pa_nil)) (pg_name (i := 4) scRen.nd rfl (.inl rfl))
        (pss_one (ps_asg (pe_ix ix_list (pv 2) (pe_ix ix_list (pv 1) (pv 4) (fun _ _ => rfl)) (fun _ _ => rfl)) (pg_sub (pv 3) (pe_ix ix_list (pv 2) (pv 4) (fun _ _ => rfl)) set_list))))
      (pss_one (ps_ret (pe_callTy call_tuple_of (by rfl) T.tuple (by decide +kernel) (pa_cons (pv 3) pa_nil)))))), ?_⟩
    refine ⟨_, rfl, _, rfl, a, _, rfl, .inl hS, _, rfl, ?_⟩
    rw [natsV_len]
    refine ⟨rgOk_nat hl, fun c nc => ?_⟩
    rw [rgV_nat]
    have s1 := same_new (o := .lst (natsV (List.range ps.length))) nc
    refine ⟨d, l, c, _, rfl, hD.new nc, hD.ne nc, SqL.of upd_same, by rw [natsV_len, List.length_range]; exact hl, fun nm ys H1 hy nnm nnd hnm hD1 sb1 => ?_⟩
    obtain ⟨ks, rfl, hk⟩ := shuf_nats hy
    have hkl : ks.length = ps.length := by rw [hk.length_eq, List.length_range]
    have sbA : Sb d H H1 := (Sb.of s1).trans sb1
    refine ⟨by show 1 ≤ sizeLine; decide, fun z nz => ?_⟩
    have s2 := same_new (o := .lst [V.int 0]) nz
    have sbB : Sb d H (upd H1 z (.lst [V.int 0])) := sbA.trans (Sb.of s2)
    refine ⟨_, rfl, a, _, rfl, .inl (sbB.sql ne hS), z, _, _, rfl, rfl, upd_same, by omega, by rw [natsV_len]; omega, ?_, fun g ng => ?_⟩
    · rw [natsV_len]
      show 1 * _ ≤ sizeLine
      exact Nat.le_trans (show _ ≤ 1000 by omega) (by decide)
    rw [natsV_len, show ((ps.length : Nat) : Int).toNat = ps.length by omega, rep0]
    have s3 := same_new (o := .lst (tupOf ps.length fun _ => 0)) ng
    have sbC := sbB.trans (Sb.of s3)
    have hnmC := s3 _ _ (s2 _ _ hnm)
    have hDC : DrawAt (upd (upd H1 z (.lst [V.int 0])) g (.lst (tupOf ps.length fun _ => 0))) d l := (hD1.new nz).new ng
    have ngd : g ≠ d := (hD1.new nz).ne ng
    have ngl : g ≠ l := (hD1.new nz).nel ng
    have ng0 : H g = none := sbB.free ngd ng
    have ngn : nm ≠ g := ne_of_none (s2 _ _ hnm) ng
    refine ⟨_, rfl, a, _, rfl, .inl (sbC.sql ne hS), _, rfl, by rw [natsV_len]; omega, by rw [natsV_len]; omega, ?_⟩
    rw [natsV_len]
    refine for_range (lo := 0) (n := ((ps.length : Nat) : Int).toNat) (fun i σ H' => (∃ y, σ = [some (.ref d), some (.ref a), some (.ref nm), some (.ref g), y]) ∧ H' nm = some (.lst (natsV ks)) ∧ H' g = some (.lst (tupOf ps.length (asg ks ps i))) ∧ DrawAt H' d l ∧ Sb d H H') ⟨⟨none, rfl⟩, hnmC, upd_same, hDC, sbC⟩ ?_ ?_
    · rintro i σ H' hi ⟨⟨y, rfl⟩, h1, h2, h3, h4⟩
      have hi' : i < ps.length := by omega
      have hpi := hps i hi'
      have hki : ks.getD i 0 < ps.length := by
        have hj' : i < ks.length := by omega
        rw [List.getD_eq_getElem?_getD, List.getElem?_eq_getElem hj']
        exact List.mem_range.mp (hk.mem_iff.mp (List.getElem_mem hj'))
      refine ⟨_, rfl, _, rfl, _, rfl, a, _, _, _, rfl, rfl, h4.sql ne hS, ?_, nm, _, _, _, rfl, rfl, SqL.of h1, atI_nat (natsV_at (show ps.getD i 0 < ks.length by omega)), _, rfl, _, rfl, _, rfl, nm, _, _, _, rfl, rfl, SqL.of h1, ?_, g, _, _, ks.getD i 0, rfl, rfl, h2, by rw [tupOf_len]; exact ixN_nat hki, ⟨_, rfl⟩, by rw [upd_ne ngn]; exact h1, ?_, h3.put ngd ngl, h4.over ng0⟩
      · show atI (natsV ps) (0 + (i : Int)) = _
        rw [Int.zero_add]
        exact atI_nat (natsV_at hi')
      · show atI (natsV ks) (0 + (i : Int)) = _
        rw [Int.zero_add]
        exact atI_nat (natsV_at (by omega))
      · rw [upd_same, tupOf_set]
        rfl
    · rintro σ H' ⟨⟨y, rfl⟩, h1, h2, h3, h4⟩
      refine ⟨_, rfl, g, _, rfl, .inl ⟨SqL.of h2, fun t nt => ?_⟩⟩
      have s4 := same_new (o := .tup (tupOf ps.length (asg ks ps ps.length))) nt
      obtain ⟨r, hr⟩ := renamed_fo (n := ps.length) (ps := ps) hk hps
      exact q t _ r _ (h4.free (h3.ne nt) nt) upd_same hr (h3.new nt) (h4.trans (Sb.of s4))
end
section
variable {P : Program} {w : World} {K : PySem.W.Frag} {mg : Str → Option Value} {base : Heap}
theorem ok_for {f fT fR : Addr} {fd fdT fdR : FuncData} (F : Fun K "_law_forest" "_law_forest" sFor f fd) (GT : FnOk P w K mg base CX0 1 fT fdT ["_law_draw", "_law_many"] spTake) (FT : Fun K "_law_take" "_law_take" sTake fT fdT) (bT : Binds K fdT ["_law_draw", "_law_many"] []) (gT : mg "_law_take" = some (.ref fT))
    (GR : FnOk P w K mg base CX0 3 fR fdR ["_law_draw", "_law_parents"] (spRen K)) (FR : Fun K "_law_renamed" "_law_renamed" sRen fR fdR) (bR : Binds K fdR ["_law_draw", "_law_parents"] []) (gR : mg "_law_renamed" = some (.ref fR)) (T : Tx mg) :
    FnOk P w K mg base CX0 4 f fd ["_law_draw", "_law_size_in", "_law_many"] spFor := by
  refine F.ok scFor (fun vs H Q E h => ?_) (fun cdv A outer s H vs Q E hr h => ?_)
  · obtain ⟨d, l, n, m, rfl, _⟩ := h
    rfl
  · obtain ⟨d, l, n, m, rfl, hD, hn, q⟩ := h
    have hr1 : Room 1 (A.deeper (envOfC "_law_forest" (defScope sFor) s.heap.objs.size f cdv)) := hr.mono (by decide)
    refine ⟨_, pss_cons (ps_par (i := 3) (j := 4) (by rfl) scFor.nd rfl rfl (by decide) rfl rfl (pa_cons (pe_call GT hr1 (by rfl) gT FT.kp bT .nil pass0 (pa_cons (pv 0) (pa_cons pe_int pa_nil))) (pa_cons (pe_lst pa_nil) pa_nil)) (by rfl))
      (pss_cons (ps_for PassesOwn.never rfl (pi_range1 (by rfl) T.range (pa_cons (pv 1) pa_nil)) (pg_name (i := 5) scFor.nd rfl (.inl rfl))
        (pss_cons (ps_set (i := 6) scFor.nd rfl (.inl rfl) (pe_lst (pa_cons (pe_op op_sub (pv 5) pe_int) (pa_cons pe_int (pa_cons (pe_callB (call_max2 rfl) (by rfl) T.max (by decide +kernel) (pa_cons pe_int (pa_cons (pe_op op_sub (pv 5) pe_int) pa_nil)))
            (pa_cons (pe_callB (call_max2 rfl) (by rfl) T.max (by decide +kernel) (pa_cons pe_int (pa_cons (pe_op op_sub (pe_op op_sub (pv 5) pe_int) (pe_op op_mod (pv 5) pe_int)) pa_nil))) pa_nil))))))
        (C8.pss_cut (ps_set (i := 7) scFor.nd rfl (.inl rfl) (pe_ifExp (pt_cmpR op_lt (pv 3) pe_int (nomark _)) (pe_ix ix_list (pv 6) (pv 3) (fun _ _ => rfl))
            (pe_call GT hr1 (by rfl) gT FT.kp bT .nil pass0 (pa_cons (pv 0) (pa_cons (pe_callB (call_max2 rfl) (by rfl) T.max (by decide +kernel) (pa_cons pe_int (pa_cons (pv 5) pa_nil))) pa_nil)))))
        (C8.pss_cut (ps_if (pt_cmpR op_eq (pv 3) pe_int (nomark _)) (pss_one (ps_set (i := 7) scFor.nd rfl (.inl rfl) (pe_callB (call_max2 rfl) (by rfl) T.max (by decide +kernel) (pa_cons pe_int (pa_cons (pe_op op_sub (pe_op op_sub (pv 5) pe_int) (pe_call GT hr1 (by rfl) gT FT.kp bT .nil pass0 (pa_cons (pv 0) (pa_cons pe_int pa_nil)))) pa_nil))))) pss_nil)
        (C8.pss_cut (ps_if (PW.pt (pw_or (pt_cmpR op_eq (pv 5) pe_int (nomark _)) (pw_or1 (PW.pt (pw_and (pt_cmpR op_lt (pv 5) (pv 2) (nomark _)) (pw_and1 (pt_cmpR op_eq (pe_call GT hr1 (by rfl) gT FT.kp bT .nil pass0 (pa_cons (pv 0) (pa_cons pe_int pa_nil))) pe_int (nomark _))))))))
            (pss_one (ps_set (i := 7) scFor.nd rfl (.inl rfl) (pv 5))) pss_nil)
        (pss_one (ps_expr (pe_bm PySem.F.plainAttrs_list PySem.F.slot_list_append PySem.F.type_list_append mt_append (pv 4) (pa_cons (pv 7) pa_nil)))))))))
      (pss_one (ps_ret (pe_call GR hr (by rfl) gR FR.kp bR .nil pass0 (pa_cons (pv 0) (pa_cons (pv 4) pa_nil)))))), ?_⟩
    refine ⟨_, rfl, d, l, 6, rfl, hD, by decide, by decide +kernel, fun k H1 hk hD1 sb1 => ?_⟩
    refine ⟨Nat.zero_le _, fun pa npa => ⟨_, _, rfl, ?_⟩⟩
    have npd := hD1.ne npa
    have npl := hD1.nel npa
    have np0 : H pa = none := sb1.free npd npa
    refine ⟨_, rfl, _, rfl, by omega, by omega, ?_⟩
    refine for_range (lo := 0) (n := ((n : Nat) : Int).toNat) (fun i σ H' => (∃ y1 y2 y3, σ = [some (.ref d), some (vi n), some (vi m), some (vi k), some (.ref pa), y1, y2, y3]) ∧
      (∃ ps : List Nat, H' pa = some (.lst (natsV ps)) ∧ ps.length = i ∧ ∀ j, j < i → ps.getD j 0 ≤ j) ∧ DrawAt H' d l ∧ Sb d H H') ⟨⟨none, none, none, rfl⟩, ⟨[], upd_same, rfl, fun j h => by omega⟩, hD1.new npa, sb1.over np0⟩ ?_ ?_
    · rintro i σ H2 hi ⟨⟨y1, y2, y3, rfl⟩, ⟨ps, hps, hpl, hpb⟩, hD2, sb2⟩
      have hin : i < n := by omega
      show tSeq _ _ _ [some (.ref d), some (vi n), some (vi m), some (vi k), some (.ref pa), some (.int (0 + (i : Int))), y2, y3] H2
      rw [Int.zero_add]
      -- near
      refine ⟨_, rfl, _, _, rfl, rfl, _, rfl, _, _, rfl, rfl, _, _, rfl, _, rfl, _, _, rfl, rfl, _, rfl, _, _, rfl, rfl, (by show (0 : Int) < 2; decide), _, _, rfl, rfl, _, _, rfl, by show 4 ≤ sizeLine; decide, fun nr nnr => ?_⟩
      have hD3 := hD2.new (o := .lst [V.int ((i : Int) - 1), V.int 0, V.int (if (i : Int) - 2 > 0 then (i : Int) - 2 else 0), V.int (if (i : Int) - 1 - (i : Int) % 2 > 0 then (i : Int) - 1 - (i : Int) % 2 else 0)]) nnr
      have nrd := hD2.ne nnr
      have nrl := hD2.nel nnr
      have nr0 : H nr = none := sb2.free nrd nnr
      have nrp : pa ≠ nr := ne_of_none hps nnr
      have hpsN : (upd H2 nr (.lst [V.int ((i : Int) - 1), V.int 0, V.int (if (i : Int) - 2 > 0 then (i : Int) - 2 else 0), V.int (if (i : Int) - 1 - (i : Int) % 2 > 0 then (i : Int) - 1 - (i : Int) % 2 else 0)])) pa = some (.lst (natsV ps)) := by rw [upd_ne nrp]; exact hps
      refine ⟨fun σ' H' => (∃ av : Int, σ' = [some (.ref d), some (vi n), some (vi m), some (vi k), some (.ref pa), some (.int (i : Int)), some (.ref nr), some (.int av)] ∧ (1 ≤ i → 0 ≤ av ∧ av ≤ i)) ∧ H' pa = some (.lst (natsV ps)) ∧ DrawAt H' d l ∧ Sb d H H', ?_, ?_⟩
      · -- above
        refine ⟨_, rfl, _, _, rfl, rfl, _, rfl, ite2 (fun e => ?_) (fun e => ?_)⟩
        · have hk4 : k < 4 := by
            have z : (k : Int) < 4 := of_decide_eq_true e
            omega
          have pick : ∃ av : Int, atI [V.int ((i : Int) - 1), V.int 0, V.int (if (i : Int) - 2 > 0 then (i : Int) - 2 else 0), V.int (if (i : Int) - 1 - (i : Int) % 2 > 0 then (i : Int) - 1 - (i : Int) % 2 else 0)] (k : Int) = some (.int av) ∧ (1 ≤ i → 0 ≤ av ∧ av ≤ i) := by
            match k, hk4 with
            | 0, _ => exact ⟨_, rfl, fun h => by omega⟩
            | 1, _ => exact ⟨_, rfl, fun h => by omega⟩
            | 2, _ => exact ⟨_, rfl, fun h => by split <;> omega⟩
            | 3, _ => exact ⟨_, rfl, fun h => by split <;> omega⟩
          obtain ⟨av, e1, e2⟩ := pick
          exact ⟨_, rfl, _, rfl, nr, _, _, _, rfl, rfl, SqL.of upd_same, e1, ⟨av, rfl, e2⟩, hpsN, hD3, sb2.over nr0⟩
        · refine ⟨_, rfl, _, rfl, _, _, rfl, d, l, _, rfl, hD3, ?_, ?_, fun r H4 hr4 hD4 sb4 => ⟨⟨r, rfl, ?_⟩, ?_, hD4, (sb2.over nr0).trans sb4⟩⟩
          · show (1 : Int) ≤ if (i : Int) > 1 then (i : Int) else 1
            split <;> omega
          · show (if (i : Int) > 1 then (i : Int) else 1).natAbs < 2 ^ 1000
            exact Nat.lt_of_le_of_lt (show _ ≤ 1001 by split <;> omega) (by decide +kernel)
          · intro h1
            have z : (r : Int) < if (i : Int) > 1 then (i : Int) else 1 := hr4
            split at z <;> omega
          · exact sb4 _ _ npd hpsN
      · rintro σ' H' ⟨⟨av, rfl, hav⟩, hpa, hD4, sb4⟩
        refine ⟨fun σ' H' => (∃ av : Int, σ' = [some (.ref d), some (vi n), some (vi m), some (vi k), some (.ref pa), some (.int (i : Int)), some (.ref nr), some (.int av)] ∧ (1 ≤ i → 0 ≤ av ∧ av ≤ i)) ∧ H' pa = some (.lst (natsV ps)) ∧ DrawAt H' d l ∧ Sb d H H', ?_, ?_⟩
        · refine ⟨_, rfl, rfl, _, rfl, ite2 (fun e => ?_) (fun e => ?_)⟩
          · refine ⟨_, rfl, _, _, rfl, rfl, _, rfl, d, l, 3, rfl, hD4, by decide, by decide +kernel, fun r H5 hr5 hD5 sb5 => ?_⟩
            refine ⟨_, _, rfl, rfl, _, _, rfl, ⟨_, rfl, fun h1 => ?_⟩, sb5 _ _ npd hpa, hD5, sb4.trans sb5⟩
            split <;> omega
          · exact ⟨⟨av, rfl, hav⟩, hpa, hD4, sb4⟩
        · rintro σ' H' ⟨⟨av, rfl, hav⟩, hpa, hD4, sb4⟩
          refine ⟨fun σ' H' => (∃ av : Nat, σ' = [some (.ref d), some (vi n), some (vi m), some (vi k), some (.ref pa), some (.int (i : Int)), some (.ref nr), some (vi av)] ∧ av ≤ i) ∧ H' pa = some (.lst (natsV ps)) ∧ DrawAt H' d l ∧ Sb d H H', ?_, ?_⟩
          · refine ⟨_, rfl, rfl, _, rfl, ite2 (fun e => ?_) (fun e => ?_)⟩
            · exact ⟨_, rfl, ⟨i, rfl, Nat.le_refl _⟩, hpa, hD4, sb4⟩
            · have hi1 : 1 ≤ i := by
                by_cases z : i = 0
                · subst z; exact absurd rfl e
                · omega
              have hav' := hav hi1
              refine ⟨_, rfl, _, rfl, _, _, rfl, rfl, _, rfl, ite2 (fun e2 => ?_) (fun e2 => ?_)⟩
              · refine ⟨_, rfl, d, l, 2, rfl, hD4, by decide, by decide +kernel, fun r H5 hr5 hD5 sb5 => ?_⟩
                refine ⟨rfl, _, rfl, ite2 (fun e3 => ?_) (fun e3 => ?_)⟩
                · exact ⟨_, rfl, ⟨i, rfl, Nat.le_refl _⟩, sb5 _ _ npd hpa, hD5, sb4.trans sb5⟩
                · exact ⟨⟨av.toNat, by rw [show vi av.toNat = V.int av from congrArg V.int (by omega)], by omega⟩, sb5 _ _ npd hpa, hD5, sb4.trans sb5⟩
              · exact ⟨⟨av.toNat, by rw [show vi av.toNat = V.int av from congrArg V.int (by omega)], by omega⟩, hpa, hD4, sb4⟩
          · rintro σ' H' ⟨⟨av, rfl, hav⟩, hpa, hD4, sb4⟩
            refine ⟨_, rfl, .inl ⟨rfl, _, SqL.of hpa⟩, _, rfl, pa, _, _, rfl, rfl, hpa, ?_, ⟨_, _, _, rfl⟩, ⟨ps ++ [av], ?_, ?_, ?_⟩, hD4.put npd npl, sb4.over np0⟩
            · rw [natsV_len]; exact Nat.lt_of_le_of_lt (show _ ≤ 1000 by omega) (by decide)
            · rw [upd_same]; unfold natsV; rw [List.map_append]; rfl
            · rw [List.length_append, hpl]; rfl
            · intro j hj
              rw [List.getD_eq_getElem?_getD]
              by_cases z : j < i
              · rw [List.getElem?_append_left (by omega), ← List.getD_eq_getElem?_getD]; exact hpb j z
              · have e : j = i := by omega
                subst e
                rw [List.getElem?_append_right (by omega), hpl, Nat.sub_self]
                exact hav
    · rintro σ H2 ⟨⟨y1, y2, y3, rfl⟩, ⟨ps, hps, hpl, hpb⟩, hD2, sb2⟩
      have hpl' : ps.length = n := by omega
      subst hpl'
      exact ⟨_, rfl, _, rfl, d, l, pa, ps, rfl, hD2, npd, SqL.of hps, hn, (fun j hj => hpb j (by omega)), fun t p r H3 nt ht hF hD3 sb3 => q t p r H3 (sb2.free (hD2.ne nt) nt) ht hF hD3 (sb2.trans sb3)⟩
end
section
variable {P : Program} {w : World} {K : PySem.W.Frag} {mg : Str → Option Value} {base : Heap}
theorem ok_lFind {f fR : Addr} {fd fdR : FuncData} (F : Fun K "_law_find" "_law_find" sLFind f fd) (T1 : Kn P w K mg base 2 "_law_root" sRoot ["_law_forest_here", "_law_node"] (spRoot K) fR fdR) (T : Tx mg) : FnOk P w K mg base CX0 3 f fd ["_law_forest_here", "_law_node"] (spFind K) := by
  refine F.ok scLFind (fun vs H Q E h => ?_) (fun cdv A outer s H vs Q E hr h => ?_)
  · obtain ⟨a, n, p, r, x, rfl, _⟩ := h
    rfl
  · obtain ⟨a, n, p, r, x, rfl, hS, hn, hF, hx, q⟩ := h
    refine ⟨_, pss_cons (ps_par3 (i := 2) (j := 3) (l := 4) (by rfl) scLFind.nd rfl rfl rfl (by decide) (by decide) (by decide) rfl rfl rfl (pa_cons (pe_callTy call_list_of (by rfl) T.list (by decide +kernel) (pa_cons (pv 0) pa_nil)) (pa_cons pe_int (pa_cons (pv 1) pa_nil))) (by rfl))
      (pss_cons (ps_set (i := 5) scLFind.nd rfl (.inl rfl) (pe_call T1.G hr (by rfl) T1.g T1.F.kp T1.b .nil pass0 (pa_cons (pv 0) (pa_cons (pv 1) pa_nil))))
      (pss_cons (ps_for PassesOwn.never rfl (pi_range1 (by rfl) T.range (pa_cons (pe_callB call_len_seq (by rfl) T.len PySem.boot_len (pa_cons (pv 0) pa_nil)) pa_nil)) (pg_name (i := 6) scLFind.nd rfl (.inl rfl))
        (pss_one (ps_if (pt_cmpR op_ne (pv 4) (pv 5) (nomark _))
          (pss_cons (ps_set (i := 7) scLFind.nd rfl (.inl rfl) (pe_ix ix_seq (pv 0) (pv 4) (fun _ _ => rfl)))
          (pss_cons (ps_asg (pv 5) (pg_sub (pv 2) (pv 4) set_list))
          (pss_one (ps_par (i := 4) (j := 3) (by rfl) scLFind.nd rfl rfl (by decide) rfl rfl (pa_cons (pv 7) (pa_cons (pe_op op_add (pv 3) pe_int) pa_nil)) (by rfl))))) pss_nil)))
      (pss_one (ps_ret (pe_tup (pa_cons (pe_callTy call_tuple_of (by rfl) T.tuple (by decide +kernel) (pa_cons (pv 2) pa_nil)) (pa_cons (pv 3) pa_nil))))))), ?_⟩
    refine ⟨_, rfl, a, _, rfl, hS, fun l nl => ⟨_, rfl, _, _, _, rfl, ?_⟩⟩
    have s1 := same_new (o := .lst (tupOf n p)) nl
    refine ⟨_, rfl, _, rfl, a, n, p, x, rfl, hS.same s1, hn, hF.lt, hx, fun H2 s2 => ?_⟩
    have hl2 := s2 _ _ (upd_same (H := H) (a := l) (o := .lst (tupOf n p)))
    have s12 := s1.trans s2
    refine ⟨_, rfl, a, _, rfl, hS.same s12, _, rfl, by rw [tupOf_len]; omega, by rw [tupOf_len]; omega, ?_⟩
    rw [tupOf_len]
    refine for_range (lo := 0) (n := (n : Int).toNat) (fun i σ H' => (∃ y6 y7, σ = [some (.ref a), some (vi x), some (.ref l), some (vi (ups p i x).length), some (vi (root p i x)), some (vi (root p n x)), y6, y7]) ∧ H' l = some (.lst (tupOf n (setAll (root p n x) (ups p i x) p))) ∧ Same H H') ⟨⟨_, _, rfl⟩, hl2, s12⟩ ?_ ?_
    · rintro i σ H' hi ⟨⟨y6, y7, rfl⟩, hl', sm⟩
      have hi' : i < n := by omega
      have hrl := root_lt0 hF.lt i x hx
      refine ⟨_, rfl, _, rfl, rfl, _, rfl, ite2 (fun e => ?_) (fun e => ?_)⟩
      · have ne : root p i x ≠ root p n x := fun z => by rw [z] at e; simp at e
        have nf : ¬ p (root p i x) = root p i x := fun z => ne (by
          have y := (path_fixed z (n - i)).2
          rw [show i + (n - i) = n by omega] at y
          exact y.symm)
        refine ⟨_, rfl, _, rfl, (hS.same sm).ix (atI_nat (tupOf_at hrl)) ?_⟩
        refine ⟨_, rfl, _, rfl, _, rfl, l, _, _, root p i x, rfl, rfl, hl', by rw [tupOf_len]; exact ixN_nat hrl, ?_⟩
        refine ⟨_, rfl, _, rfl, _, _, rfl, rfl, _, _, rfl, ⟨some (.int (0 + (i : Int))), some (vi (p (root p i x))), ?_⟩, ?_, same_over sm nl⟩
        · have e1 : root p (i + 1) x = p (root p i x) := root_succ p i x
          have e2 : (vi (ups p (i + 1) x).length) = V.int (((ups p i x).length : Int) + 1) := by
            rw [ups_succ, if_neg nf, List.length_append]
            rfl
          rw [e1, e2]
          rfl
        · rw [upd_same, tupOf_set, ups_succ, if_neg nf, setAll_snoc]
      · have eq : root p i x = root p n x := by
          have z : ¬ (!decide (vi (root p i x) = vi (root p n x))) = true := e
          simp at z
          omega
        have fx : p (root p i x) = root p i x := by rw [eq]; exact root_fix hF x hx
        have e1 : root p (i + 1) x = root p i x := by rw [root_succ, fx]
        have e2 : ups p (i + 1) x = ups p i x := by rw [ups_succ, if_pos fx]
        refine ⟨⟨some (.int (0 + (i : Int))), y7, ?_⟩, ?_, sm⟩
        · rw [e1, e2]; rfl
        · rw [e2]; exact hl'
    · rintro σ H' ⟨⟨y6, y7, rfl⟩, hl', sm⟩
      have en : (n : Int).toNat = n := by omega
      rw [en] at hl'
      have ef : tupOf n (setAll (root p n x) (ups p n x) p) = tupOf n (fnd n p x) := tupOf_congr fun v hv => by
        rw [setAll_eq]
        unfold fnd Ff.path
        by_cases h : v ∈ ups p n x
        · rw [if_pos h, if_pos (List.mem_append_left _ h)]
        · rw [if_neg h]
          by_cases h2 : v = root p n x
          · rw [if_pos (List.mem_append_right _ (List.mem_singleton.mpr h2)), h2]; exact root_fix hF x hx
          · rw [if_neg (fun z => (List.mem_append.mp z).elim h (fun y => h2 (List.mem_singleton.mp y)))]
      rw [ef] at hl'
      refine ⟨_, rfl, l, _, rfl, .inl ⟨SqL.of hl', fun g ng => ?_⟩⟩
      have s3 := same_new (o := .tup (tupOf n (fnd n p x))) ng
      refine ⟨_, rfl, by show 2 ≤ sizeLine; decide, fun t nt => ?_⟩
      have s4 := same_new (o := .tup [V.ref g, vi (ups p n x).length]) nt
      show Q (.ref t) (upd (upd H' g (.tup (tupOf n (fnd n p x)))) t (.tup [V.ref g, vi (ups p (n : Int).toNat x).length]))
      rw [en]
      exact q t g _ ((sm.trans s3).free nt) (sm.free ng) upd_same (s4 _ _ upd_same) ((sm.trans s3).trans s4)
end
section
variable {P : Program} {w : World} {K : PySem.W.Frag} {mg : Str → Option Value} {base : Heap}
theorem ok_lFound {f fP : Addr} {fd fdP : FuncData} (F : Fun K "_law_found" "_law_found" sLFound f fd) (T1 : Kn P w K mg base 3 "_law_find" sLFind ["_law_forest_here", "_law_node"] (spFind K) fP fdP) :
    FnOk P w K mg base CX0 4 f fd ["_law_forest_here", "_law_nodes"] (spFindAll K) := by
  refine F.ok scLFound (fun vs H Q E h => ?_) (fun cdv A outer s H vs Q E hr h => ?_)
  · obtain ⟨a, b, n, p, r, xs, rfl, _⟩ := h
    rfl
  · obtain ⟨a, b, n, p, r, xs, rfl, hS, hB, hn, hxl, hF, hx, q⟩ := h
    refine ⟨_, pss_cons (ps_set (i := 2) scLFound.nd rfl (.inl rfl) (pe_lst pa_nil))
      (pss_cons (ps_for PassesOwn.never rfl (pi_list (pv 1)) (pg_name (i := 3) scLFound.nd rfl (.inl rfl))
        (pss_cons (ps_asg (pe_call T1.G hr (by rfl) T1.g T1.F.kp T1.b .nil pass0 (pa_cons (pv 0) (pa_cons (pv 3) pa_nil))) (pg_tup rfl (pgs_cons (pg_name (i := 0) scLFound.nd rfl (.inl rfl)) (pgs_cons (pg_name (i := 4) scLFound.nd rfl (.inl rfl)) pgs_nil))))
        (pss_one (ps_expr (pe_bm PySem.F.plainAttrs_list PySem.F.slot_list_append PySem.F.type_list_append mt_append (pv 2) (pa_cons (pv 4) pa_nil))))))
      (pss_one (ps_ret (pe_tup (pa_cons (pv 0) (pa_cons (pv 2) pa_nil)))))), ?_⟩
    refine ⟨Nat.zero_le _, fun c nc => ?_⟩
    have s1 : Same H (upd H c (.lst [])) := same_new nc
    refine ⟨_, rfl, b, rfl, ⟨_, s1.seq hB⟩, ?_⟩
    refine for_list (xs := natsV xs) (fun i σ H' => (∃ g y z, σ = [some (.ref g), some (.ref b), some (.ref c), y, z] ∧ (g = a ∨ H g = none) ∧ SqT K H' g (tupOf n (fndAll n (xs.take i) p))) ∧ H' c = some (.lst (natsV (costs n (xs.take i) p))) ∧ Same H H')
      ⟨⟨a, none, none, rfl, .inl rfl, same_sqt s1 hS⟩, upd_same, s1⟩ (fun i σ H' _ h => h.2.2.seq hB) ?_ ?_
    · rintro i v σ H' hv ⟨⟨g, y, z, rfl, hga, hg⟩, hc, sm⟩
      unfold natsV at hv
      rw [List.getElem?_map] at hv
      obtain ⟨u, hu, rfl⟩ := Option.map_eq_some_iff.mp hv
      have hun : u < n := hx u (List.mem_of_getElem? hu)
      have hF' : Fo n (fndAll n (xs.take i) p) r := fndAll_fo hF _ (fun x hx' => hx x (List.mem_of_mem_take hx')) p hF
      refine ⟨_, rfl, _, rfl, g, n, _, r, u, rfl, .inr hg, hn, hF', hun, fun t g2 H2 nt ng2 ht hg2 s2 => ?_⟩
      refine ⟨t, _, rfl, SqT.of ht, rfl, _, _, rfl, _, _, rfl, rfl, ?_⟩
      have hc2 := s2 _ _ hc
      have hcn : c ≠ g2 := ne_of_none hc ng2
      refine ⟨_, rfl, .inl ⟨rfl, _, SqL.of hc2⟩, _, rfl, c, _, _, rfl, rfl, hc2, ?_, ⟨g2, _, _, rfl, .inr (sm.free ng2), ?_⟩, ?_, same_over (sm.trans s2) nc⟩
      · rw [natsV_len, costs_len, List.length_take]
        exact Nat.lt_of_le_of_lt (show _ ≤ 1000 by omega) (by decide)
      · have e : fndAll n (xs.take (i + 1)) p = fnd n (fndAll n (xs.take i) p) u := by
          rw [List.take_add_one, hu]
          exact fndAll_snoc n _ u p
        rw [e]
        exact SqT.of (by rw [upd_ne hcn.symm]; exact hg2)
      · rw [upd_same]
        have e : costs n (xs.take (i + 1)) p = costs n (xs.take i) p ++ [(ups (fndAll n (xs.take i) p) n u).length] := by
          rw [List.take_add_one, hu]
          exact costs_snoc n _ u p
        rw [e]
        unfold natsV
        rw [List.map_append]
        rfl
    · rintro σ H' ⟨⟨g, y, z, rfl, hga, hg⟩, hc, sm⟩
      rw [natsV_len, List.take_length] at hg hc
      refine ⟨_, rfl, _, rfl, by show 2 ≤ sizeLine; decide, fun t nt => ?_⟩
      have s4 := same_new (o := .tup [V.ref g, V.ref c]) nt
      exact q t g c _ (sm.free nt) nc hga upd_same (same_sqt s4 hg) (s4 _ _ hc) (sm.trans s4)
end
end Ff

namespace Ff
open PySem PySem.Spec PyProof.Rows L2 ExX LamX
abbrev sForE : Stmt := topS 1
abbrev sMiss : Stmt := topS 2
abbrev sNoNode : Stmt := topS 9
theorem scForEI : FnScope ["self", "tag", "message"] ["self", "tag", "message"] (defScope (initS sForE)) := ⟨rfl, rfl, rfl, by decide +kernel, rfl, by decide +kernel, by decide +kernel⟩
theorem scMissI : FnScope ["self", "tag", "message"] ["self", "tag", "message"] (defScope (initS sMiss)) := ⟨rfl, rfl, rfl, by decide +kernel, rfl, by decide +kernel, by decide +kernel⟩
theorem scNoNodeI : FnScope ["self", "node"] ["self", "node"] (defScope (initS sNoNode)) := ⟨rfl, rfl, rfl, by decide +kernel, rfl, by decide +kernel, by decide +kernel⟩
theorem ty_lu : typeOf (.type "LookupError") = pure (.type "type") := by kernel_rfl
theorem ty_va : typeOf (.type "ValueError") = pure (.type "type") := by kernel_rfl
theorem bo_lu : bootBuiltins "LookupError" = some (.type "LookupError") := by kernel_rfl
theorem bo_va : bootBuiltins "ValueError" = some (.type "ValueError") := by kernel_rfl
section
variable {P : Program} {w : World} {K : PySem.W.Frag} {mg : Str → Option Value} {base : Heap}
theorem ok_missI {f : Addr} {fd : FuncData} {k : Nat} (F : Fun K "__init__" "Missing.__init__" (initS sMiss) f fd) (z : mg "LookupError" = none) (v : PySem.W.findCls K (.type "LookupError") (.type "type") "__init__" = some (.val (.builtin "LookupError.__init__"))) :
    FnOk P w K mg base CX0 (k + 1) f fd ["self", "tag", "message"] (spTop K "LookupError.__new__" luTail) := by
  refine F.ok scMissI (fun vs H Q E h => ?_) (fun cdv A outer s H vs Q E hr h => ?_)
  · obtain ⟨a, C, tag, msg, rfl, _⟩ := h
    rfl
  · obtain ⟨a, C, tag, msg, rfl, ha, T, nt, q⟩ := h
    refine ⟨_, pss_cons (ps_expr (pe_bi (xB := "LookupError") PySem.F.excBase_LookupError ty_lu (by decide +kernel) bo_lu (by decide) (by decide) (by decide +kernel) (by rfl) z v (pa_cons (pv 0) (pa_cons (pv 2) pa_nil))))
      (pss_one (ps_st (nid := "LookupError.__new__") PySem.F.store_LookupError (pv 0) (pv 1))), ?_⟩
    exact ⟨_, rfl, _, rfl, a, C, _, rfl, by show 1 ≤ 1000; decide, T, ha, _, rfl, _, rfl, a, C, rfl, T, nt, .inl ⟨ha, fun dx n ne => q dx n ne⟩⟩
end
section
variable {P : Program} {w : World} {K : PySem.W.Frag} {mg : Str → Option Value} {base : Heap}
theorem ok_forEI {f : Addr} {fd : FuncData} {k : Nat} (F : Fun K "__init__" "ForestError.__init__" (initS sForE) f fd) (z : mg "ValueError" = none) (v : PySem.W.findCls K (.type "ValueError") (.type "type") "__init__" = some (.val (.builtin "ValueError.__init__"))) :
    FnOk P w K mg base CX0 (k + 1) f fd ["self", "tag", "message"] (spTop K "ValueError.__new__" vaTail) := by
  refine F.ok scForEI (fun vs H Q E h => ?_) (fun cdv A outer s H vs Q E hr h => ?_)
  · obtain ⟨a, C, tag, msg, rfl, _⟩ := h
    rfl
  · obtain ⟨a, C, tag, msg, rfl, ha, T, nt, q⟩ := h
    refine ⟨_, pss_cons (ps_expr (pe_bi (xB := "ValueError") PySem.F.excBase_ValueError ty_va (by decide +kernel) bo_va (by decide) (by decide) (by decide +kernel) (by rfl) z v (pa_cons (pv 0) (pa_cons (pv 2) pa_nil))))
      (pss_one (ps_st (nid := "ValueError.__new__") PySem.F.store_ValueError (pv 0) (pv 1))), ?_⟩
    exact ⟨_, rfl, _, rfl, a, C, _, rfl, by show 1 ≤ 1000; decide, T, ha, _, rfl, _, rfl, a, C, rfl, T, nt, .inl ⟨ha, fun dx n ne => q dx n ne⟩⟩
end
section
variable {P : Program} {w : World} {K : PySem.W.Frag} {mg : Str → Option Value} {base : Heap}
theorem ok_noNodeI {f fM CM : Addr} {fd fdM : FuncData} (F : Fun K "__init__" "NoNode.__init__" (initS sNoNode) f fd) (TM : ClsI K CM fM) (gM : mg "Missing" = some (.ref CM)) (GM : FnOk P w K mg base CX0 1 fM fdM ["self", "tag", "message"] (spTop K "LookupError.__new__" luTail)) (bM : Binds K fdM ["self", "tag", "message"] []) :
    FnOk P w K mg base CX0 2 f fd ["self", "node"] (spErrI K "LookupError.__new__" luTail "node" "NoNode") := by
  refine F.ok scNoNodeI (fun vs H Q E h => ?_) (fun cdv A outer s H vs Q E hr h => ?_)
  · obtain ⟨a, C, v, rfl, _⟩ := h
    rfl
  · obtain ⟨a, C, v, rfl, ⟨i, rfl, hi⟩, ha, T, nt, nf, q⟩ := h
    refine ⟨_, pss_cons (ps_expr (pe_ci TM GM hr (by rfl) gM bM pass0 (pa_cons (pv 0) (pa_cons pe_str (pa_cons (pe_joined (.cons pe_str (.cons (pe_fmt (pv 1)) .nil))) pa_nil)))))
      (pss_one (ps_st (nid := "LookupError.__new__") PySem.F.store_LookupError (pv 0) (pv 1))), ?_⟩
    have f0 : (Str.empty ++ Str.ofString "there is no node ").length ≤ 100 := by decide +kernel
    refine ⟨_, rfl, ⟨_, rfl, fits (by omega), _, rfl, .inr ⟨i, rfl, hi, _, rfl, fits (Nat.le_trans (fits_cat f0 (txt_int hi)) (by decide)), ?_⟩⟩⟩
    refine ⟨a, C, _, _, rfl, ha, T, nt, fun dx n ne => ⟨_, rfl, _, rfl, a, C, rfl, T, nf, .inr ⟨dx, _, upd_same, ?_, by show 1 ≤ 900; decide, q dx n ne⟩⟩⟩
    rw [upd_ne ne, upd_same]
end
section
variable {P : Program} {w : World} {K : PySem.W.Frag} {mg : Str → Option Value} {base : Heap}
def spChkX (K : PySem.W.Frag) (C : Addr) : Sp := fun vs H Q E => ∃ (a : Addr) (xs : List V) (x : Int), vs = [.ref a, .int x] ∧ Sq K H a xs ∧ (x < 0 ∨ (xs.length : Int) ≤ x) ∧ x.natAbs.log2 < 1920 ∧ Flies H E C "node" "NoNode" (.int x)
end
abbrev sField : Stmt := topS 36
abbrev sOut : Stmt := topS 37
abbrev sErr : Stmt := topS 38
theorem scField : FnScope ["_law_e"] ["_law_e"] (defScope sField) := ⟨rfl, rfl, rfl, by decide +kernel, rfl, by decide +kernel, by decide +kernel⟩
theorem scOut : FnScope ["_law_ask", "_law_answer", "_law_tag", "_law_field_here", "_law_e"] ["_law_ask"] (defScope sOut) := ⟨rfl, rfl, rfl, by decide +kernel, rfl, by decide +kernel, by decide +kernel⟩
theorem scErr : FnScope ["_law_ask"] ["_law_ask"] (defScope sErr) := ⟨rfl, rfl, rfl, by decide +kernel, rfl, by decide +kernel, by decide +kernel⟩
/-- the handled error has a tag of the table and its field -/
structure Told (K : PySem.W.Frag) (cls : Value) (d : Option Addr) (H : Hp) (tag fld : Str) (v : V) : Prop where
  ex : ∃ C dd : Addr, cls = .ref C ∧ XfC K C ∧ PySem.W.findIn K (.ref C) "tag" = some none ∧ PySem.W.findIn K (.ref C) fld = some none ∧ d = some dd ∧ H dd = some (.xd [(fld, v), ("tag", .str tag)])
def nodeTags : List Str := ["BadParent", "Cycle", "NotRoot", "SameRoot", "RootsDiffer", "NoWay", "BadWeight", "NoNode"]
def limitTags : List Str := ["TooManyNodes", "TooLong", "TooManyForests", "TooManyWatches"]
def posTags : List Str := ["BadStep", "BadCost", "Contradiction", "ParseError"]
def sizeTags : List Str := ["SizesDiffer", "BadSize"]
def nameTags : List Str := ["BadName", "NameTaken", "NoForest"]
def wordTags : List Str := ["BadCommand", "BadCount"]
def TagOk (tag fld : Str) : Prop := (tag ∈ nodeTags ∧ fld = "node") ∨ (tag ∈ limitTags ∧ fld = "limit") ∨ (tag ∈ posTags ∧ fld = "pos") ∨ (tag ∈ sizeTags ∧ fld = "size") ∨ (tag ∈ nameTags ∧ fld = "name") ∨ (tag = "BadCommand" ∧ fld = "word") ∨ (tag = "BadCount" ∧ fld = "count") ∨ (tag = "NoWatch" ∧ fld = "number")
def spField (K : PySem.W.Frag) : SpE := fun a cls d vs H Q _ => vs = [.ref a] ∧ ∃ (tag fld : Str) (v : V), Told K cls d H tag fld v ∧ TagOk tag fld ∧ ∀ H1, Same H H1 → Q v H1
section
variable {P : Program} {w : World} {K : PySem.W.Frag} {mg : Str → Option Value} {base : Heap}
theorem ok_field {f : Addr} {fd : FuncData} {k : Nat} (F : Fun K "_law_field" "_law_field" sField f fd) : FnE P w K mg base CX0 (k + 1) f fd ["_law_e"] (spField K) := by
  obtain ⟨oc, od, kV, doc, pm, an, cdv, ct, osl, rfl, lk, hcd⟩ := F.ex
  refine fn_ofE lk hcd scField (fun a cls d vs H Q E h => ?_) fun A outer s H vs Q E p cls d hz hd hr h => ?_
  · obtain ⟨rfl, _⟩ := h
    rfl
  · obtain ⟨rfl, tag, fld, v, ⟨C, dd, ec, xf, nt, nf, ed, hdd⟩, ht, q⟩ := h
    refine ⟨_, pss_cons (ps_if (pt_cmpR (show OpR _ (compareOp .In) (rIn K false) from op_in_seq) (pe_fe (a := p.1) (oe := p.2) (by exact List.mem_cons_self) hz hd (pv 0)) (pe_tup (pa_cons pe_str (pa_cons pe_str (pa_cons pe_str (pa_cons pe_str (pa_cons pe_str (pa_cons pe_str (pa_cons pe_str (pa_cons pe_str pa_nil))))))))) (by rfl)) (pss_one (ps_ret (pe_fe (a := p.1) (oe := p.2) (by exact List.mem_cons_self) hz hd (pv 0)))) pss_nil)
      (pss_cons (ps_if (pt_cmpR (show OpR _ (compareOp .In) (rIn K false) from op_in_seq) (pe_fe (a := p.1) (oe := p.2) (by exact List.mem_cons_self) hz hd (pv 0)) (pe_tup (pa_cons pe_str (pa_cons pe_str (pa_cons pe_str (pa_cons pe_str pa_nil))))) (by rfl)) (pss_one (ps_ret (pe_fe (a := p.1) (oe := p.2) (by exact List.mem_cons_self) hz hd (pv 0)))) pss_nil)
      (pss_cons (ps_if (pt_cmpR (show OpR _ (compareOp .In) (rIn K false) from op_in_seq) (pe_fe (a := p.1) (oe := p.2) (by exact List.mem_cons_self) hz hd (pv 0)) (pe_tup (pa_cons pe_str (pa_cons pe_str (pa_cons pe_str (pa_cons pe_str pa_nil))))) (by rfl)) (pss_one (ps_ret (pe_fe (a := p.1) (oe := p.2) (by exact List.mem_cons_self) hz hd (pv 0)))) pss_nil)
      (pss_cons (ps_if (pt_cmpR (show OpR _ (compareOp .In) (rIn K false) from op_in_seq) (pe_fe (a := p.1) (oe := p.2) (by exact List.mem_cons_self) hz hd (pv 0)) (pe_tup (pa_cons pe_str (pa_cons pe_str pa_nil))) (by rfl)) (pss_one (ps_ret (pe_fe (a := p.1) (oe := p.2) (by exact List.mem_cons_self) hz hd (pv 0)))) pss_nil)
      (pss_cons (ps_if (pt_cmpR (show OpR _ (compareOp .In) (rIn K false) from op_in_seq) (pe_fe (a := p.1) (oe := p.2) (by exact List.mem_cons_self) hz hd (pv 0)) (pe_tup (pa_cons pe_str (pa_cons pe_str (pa_cons pe_str pa_nil)))) (by rfl)) (pss_one (ps_ret (pe_fe (a := p.1) (oe := p.2) (by exact List.mem_cons_self) hz hd (pv 0)))) pss_nil)
      (pss_cons (ps_if (pt_cmpR (show OpR _ (compareOp .In) (rIn K false) from op_in_seq) (pe_fe (a := p.1) (oe := p.2) (by exact List.mem_cons_self) hz hd (pv 0)) (pe_tup (pa_cons pe_str (pa_cons pe_str pa_nil))) (by rfl)) (pss_one (ps_ret (pe_ifExp (pt_cmpR op_eq (pe_fe (a := p.1) (oe := p.2) (by exact List.mem_cons_self) hz hd (pv 0)) pe_str (nomark _)) (pe_fe (a := p.1) (oe := p.2) (by exact List.mem_cons_self) hz hd (pv 0)) (pe_fe (a := p.1) (oe := p.2) (by exact List.mem_cons_self) hz hd (pv 0))))) pss_nil)
      (pss_one (ps_ret (pe_fe (a := p.1) (oe := p.2) (by exact List.mem_cons_self) hz hd (pv 0))))))))), ?_⟩
    have lt : List.lookup (Str.ofString "tag") [(fld, v), (Str.ofString "tag", V.str tag)] = some (.str tag) := by
      rcases ht with ⟨_, rfl⟩ | ⟨_, rfl⟩ | ⟨_, rfl⟩ | ⟨_, rfl⟩ | ⟨_, rfl⟩ | ⟨_, rfl⟩ | ⟨_, rfl⟩ | ⟨_, rfl⟩ <;> rfl
    have lf : List.lookup fld [(fld, v), (Str.ofString "tag", V.str tag)] = some v := by simp [List.lookup]
    rcases ht with ⟨hm, rfl⟩ | ⟨hm, rfl⟩ | ⟨hm, rfl⟩ | ⟨hm, rfl⟩ | ⟨hm, rfl⟩ | ⟨hm, rfl⟩ | ⟨hm, rfl⟩ | ⟨hm, rfl⟩
    · have e : inV (.str tag) (nodeTags.map V.str) = true ∧ True := by
        simp only [nodeTags, List.mem_cons, List.not_mem_nil, or_false] at hm
        rcases hm with z | z | z | z | z | z | z | z <;> (subst z; exact ⟨rfl, trivial⟩)
      refine ⟨_, rfl, rfl, C, dd, _, _, ec, xf, nt, ed, hdd, lt, by show 8 ≤ sizeLine; decide, fun t1 n1 => ?_⟩
      have s1 := (same_new (o := .tup (nodeTags.map V.str)) n1)
      refine ⟨t1, _, rfl, .inr (SqT.of upd_same), rfl, rfl, _, rfl, ?_⟩
      show if inV (.str tag) (nodeTags.map V.str) = true then _ else _
      rw [e.1]
      exact iteT ⟨_, rfl, rfl, C, dd, _, _, ec, xf, nf, ed, s1 _ _ hdd, lf, q _ s1⟩
    · have e : inV (.str tag) (nodeTags.map V.str) = false ∧ inV (.str tag) (limitTags.map V.str) = true ∧ True := by
        simp only [limitTags, List.mem_cons, List.not_mem_nil, or_false] at hm
        rcases hm with z | z | z | z <;> (subst z; exact ⟨rfl, rfl, trivial⟩)
      refine ⟨_, rfl, rfl, C, dd, _, _, ec, xf, nt, ed, hdd, lt, by show 8 ≤ sizeLine; decide, fun t1 n1 => ?_⟩
      have s1 := (same_new (o := .tup (nodeTags.map V.str)) n1)
      refine ⟨t1, _, rfl, .inr (SqT.of upd_same), rfl, rfl, _, rfl, ?_⟩
      show if inV (.str tag) (nodeTags.map V.str) = true then _ else _
      rw [e.1]
      refine iteF ⟨_, rfl, rfl, C, dd, _, _, ec, xf, nt, ed, s1 _ _ hdd, lt, by show 4 ≤ sizeLine; decide, fun t2 n2 => ?_⟩
      have s2 := s1.trans (same_new (o := .tup (limitTags.map V.str)) n2)
      refine ⟨t2, _, rfl, .inr (SqT.of upd_same), rfl, rfl, _, rfl, ?_⟩
      show if inV (.str tag) (limitTags.map V.str) = true then _ else _
      rw [e.2.1]
      exact iteT ⟨_, rfl, rfl, C, dd, _, _, ec, xf, nf, ed, s2 _ _ hdd, lf, q _ s2⟩
    · have e : inV (.str tag) (nodeTags.map V.str) = false ∧ inV (.str tag) (limitTags.map V.str) = false ∧ inV (.str tag) (posTags.map V.str) = true ∧ True := by
        simp only [posTags, List.mem_cons, List.not_mem_nil, or_false] at hm
        rcases hm with z | z | z | z <;> (subst z; exact ⟨rfl, rfl, rfl, trivial⟩)
      refine ⟨_, rfl, rfl, C, dd, _, _, ec, xf, nt, ed, hdd, lt, by show 8 ≤ sizeLine; decide, fun t1 n1 => ?_⟩
      have s1 := (same_new (o := .tup (nodeTags.map V.str)) n1)
      refine ⟨t1, _, rfl, .inr (SqT.of upd_same), rfl, rfl, _, rfl, ?_⟩
      show if inV (.str tag) (nodeTags.map V.str) = true then _ else _
      rw [e.1]
      refine iteF ⟨_, rfl, rfl, C, dd, _, _, ec, xf, nt, ed, s1 _ _ hdd, lt, by show 4 ≤ sizeLine; decide, fun t2 n2 => ?_⟩
      have s2 := s1.trans (same_new (o := .tup (limitTags.map V.str)) n2)
      refine ⟨t2, _, rfl, .inr (SqT.of upd_same), rfl, rfl, _, rfl, ?_⟩
      show if inV (.str tag) (limitTags.map V.str) = true then _ else _
      rw [e.2.1]
      refine iteF ⟨_, rfl, rfl, C, dd, _, _, ec, xf, nt, ed, s2 _ _ hdd, lt, by show 4 ≤ sizeLine; decide, fun t3 n3 => ?_⟩
      have s3 := s2.trans (same_new (o := .tup (posTags.map V.str)) n3)
      refine ⟨t3, _, rfl, .inr (SqT.of upd_same), rfl, rfl, _, rfl, ?_⟩
      show if inV (.str tag) (posTags.map V.str) = true then _ else _
      rw [e.2.2.1]
      exact iteT ⟨_, rfl, rfl, C, dd, _, _, ec, xf, nf, ed, s3 _ _ hdd, lf, q _ s3⟩
    · have e : inV (.str tag) (nodeTags.map V.str) = false ∧ inV (.str tag) (limitTags.map V.str) = false ∧ inV (.str tag) (posTags.map V.str) = false ∧ inV (.str tag) (sizeTags.map V.str) = true ∧ True := by
        simp only [sizeTags, List.mem_cons, List.not_mem_nil, or_false] at hm
        rcases hm with z | z <;> (subst z; exact ⟨rfl, rfl, rfl, rfl, trivial⟩)
      refine ⟨_, rfl, rfl, C, dd, _, _, ec, xf, nt, ed, hdd, lt, by show 8 ≤ sizeLine; decide, fun t1 n1 => ?_⟩
      have s1 := (same_new (o := .tup (nodeTags.map V.str)) n1)
      refine ⟨t1, _, rfl, .inr (SqT.of upd_same), rfl, rfl, _, rfl, ?_⟩
      show if inV (.str tag) (nodeTags.map V.str) = true then _ else _
      rw [e.1]
      refine iteF ⟨_, rfl, rfl, C, dd, _, _, ec, xf, nt, ed, s1 _ _ hdd, lt, by show 4 ≤ sizeLine; decide, fun t2 n2 => ?_⟩
      have s2 := s1.trans (same_new (o := .tup (limitTags.map V.str)) n2)
      refine ⟨t2, _, rfl, .inr (SqT.of upd_same), rfl, rfl, _, rfl, ?_⟩
      show if inV (.str tag) (limitTags.map V.str) = true then _ else _
      rw [e.2.1]
      refine iteF ⟨_, rfl, rfl, C, dd, _, _, ec, xf, nt, ed, s2 _ _ hdd, lt, by show 4 ≤ sizeLine; decide, fun t3 n3 => ?_⟩
      have s3 := s2.trans (same_new (o := .tup (posTags.map V.str)) n3)
      refine ⟨t3, _, rfl, .inr (SqT.of upd_same), rfl, rfl, _, rfl, ?_⟩
      show if inV (.str tag) (posTags.map V.str) = true then _ else _
      rw [e.2.2.1]
      refine iteF ⟨_, rfl, rfl, C, dd, _, _, ec, xf, nt, ed, s3 _ _ hdd, lt, by show 2 ≤ sizeLine; decide, fun t4 n4 => ?_⟩
      have s4 := s3.trans (same_new (o := .tup (sizeTags.map V.str)) n4)
      refine ⟨t4, _, rfl, .inr (SqT.of upd_same), rfl, rfl, _, rfl, ?_⟩
      show if inV (.str tag) (sizeTags.map V.str) = true then _ else _
      rw [e.2.2.2.1]
      exact iteT ⟨_, rfl, rfl, C, dd, _, _, ec, xf, nf, ed, s4 _ _ hdd, lf, q _ s4⟩
    · have e : inV (.str tag) (nodeTags.map V.str) = false ∧ inV (.str tag) (limitTags.map V.str) = false ∧ inV (.str tag) (posTags.map V.str) = false ∧ inV (.str tag) (sizeTags.map V.str) = false ∧ inV (.str tag) (nameTags.map V.str) = true ∧ True := by
        simp only [nameTags, List.mem_cons, List.not_mem_nil, or_false] at hm
        rcases hm with z | z | z <;> (subst z; exact ⟨rfl, rfl, rfl, rfl, rfl, trivial⟩)
      refine ⟨_, rfl, rfl, C, dd, _, _, ec, xf, nt, ed, hdd, lt, by show 8 ≤ sizeLine; decide, fun t1 n1 => ?_⟩
      have s1 := (same_new (o := .tup (nodeTags.map V.str)) n1)
      refine ⟨t1, _, rfl, .inr (SqT.of upd_same), rfl, rfl, _, rfl, ?_⟩
      show if inV (.str tag) (nodeTags.map V.str) = true then _ else _
      rw [e.1]
      refine iteF ⟨_, rfl, rfl, C, dd, _, _, ec, xf, nt, ed, s1 _ _ hdd, lt, by show 4 ≤ sizeLine; decide, fun t2 n2 => ?_⟩
      have s2 := s1.trans (same_new (o := .tup (limitTags.map V.str)) n2)
      refine ⟨t2, _, rfl, .inr (SqT.of upd_same), rfl, rfl, _, rfl, ?_⟩
      show if inV (.str tag) (limitTags.map V.str) = true then _ else _
      rw [e.2.1]
      refine iteF ⟨_, rfl, rfl, C, dd, _, _, ec, xf, nt, ed, s2 _ _ hdd, lt, by show 4 ≤ sizeLine; decide, fun t3 n3 => ?_⟩
      have s3 := s2.trans (same_new (o := .tup (posTags.map V.str)) n3)
      refine ⟨t3, _, rfl, .inr (SqT.of upd_same), rfl, rfl, _, rfl, ?_⟩
      show if inV (.str tag) (posTags.map V.str) = true then _ else _
      rw [e.2.2.1]
      refine iteF ⟨_, rfl, rfl, C, dd, _, _, ec, xf, nt, ed, s3 _ _ hdd, lt, by show 2 ≤ sizeLine; decide, fun t4 n4 => ?_⟩
      have s4 := s3.trans (same_new (o := .tup (sizeTags.map V.str)) n4)
      refine ⟨t4, _, rfl, .inr (SqT.of upd_same), rfl, rfl, _, rfl, ?_⟩
      show if inV (.str tag) (sizeTags.map V.str) = true then _ else _
      rw [e.2.2.2.1]
      refine iteF ⟨_, rfl, rfl, C, dd, _, _, ec, xf, nt, ed, s4 _ _ hdd, lt, by show 3 ≤ sizeLine; decide, fun t5 n5 => ?_⟩
      have s5 := s4.trans (same_new (o := .tup (nameTags.map V.str)) n5)
      refine ⟨t5, _, rfl, .inr (SqT.of upd_same), rfl, rfl, _, rfl, ?_⟩
      show if inV (.str tag) (nameTags.map V.str) = true then _ else _
      rw [e.2.2.2.2.1]
      exact iteT ⟨_, rfl, rfl, C, dd, _, _, ec, xf, nf, ed, s5 _ _ hdd, lf, q _ s5⟩
    · have e : inV (.str tag) (nodeTags.map V.str) = false ∧ inV (.str tag) (limitTags.map V.str) = false ∧ inV (.str tag) (posTags.map V.str) = false ∧ inV (.str tag) (sizeTags.map V.str) = false ∧ inV (.str tag) (nameTags.map V.str) = false ∧ inV (.str tag) (wordTags.map V.str) = true ∧ True := by subst hm; exact ⟨rfl, rfl, rfl, rfl, rfl, rfl, trivial⟩
      refine ⟨_, rfl, rfl, C, dd, _, _, ec, xf, nt, ed, hdd, lt, by show 8 ≤ sizeLine; decide, fun t1 n1 => ?_⟩
      have s1 := (same_new (o := .tup (nodeTags.map V.str)) n1)
      refine ⟨t1, _, rfl, .inr (SqT.of upd_same), rfl, rfl, _, rfl, ?_⟩
      show if inV (.str tag) (nodeTags.map V.str) = true then _ else _
      rw [e.1]
      refine iteF ⟨_, rfl, rfl, C, dd, _, _, ec, xf, nt, ed, s1 _ _ hdd, lt, by show 4 ≤ sizeLine; decide, fun t2 n2 => ?_⟩
      have s2 := s1.trans (same_new (o := .tup (limitTags.map V.str)) n2)
      refine ⟨t2, _, rfl, .inr (SqT.of upd_same), rfl, rfl, _, rfl, ?_⟩
      show if inV (.str tag) (limitTags.map V.str) = true then _ else _
      rw [e.2.1]
      refine iteF ⟨_, rfl, rfl, C, dd, _, _, ec, xf, nt, ed, s2 _ _ hdd, lt, by show 4 ≤ sizeLine; decide, fun t3 n3 => ?_⟩
      have s3 := s2.trans (same_new (o := .tup (posTags.map V.str)) n3)
      refine ⟨t3, _, rfl, .inr (SqT.of upd_same), rfl, rfl, _, rfl, ?_⟩
      show if inV (.str tag) (posTags.map V.str) = true then _ else _
      rw [e.2.2.1]
      refine iteF ⟨_, rfl, rfl, C, dd, _, _, ec, xf, nt, ed, s3 _ _ hdd, lt, by show 2 ≤ sizeLine; decide, fun t4 n4 => ?_⟩
      have s4 := s3.trans (same_new (o := .tup (sizeTags.map V.str)) n4)
      refine ⟨t4, _, rfl, .inr (SqT.of upd_same), rfl, rfl, _, rfl, ?_⟩
      show if inV (.str tag) (sizeTags.map V.str) = true then _ else _
      rw [e.2.2.2.1]
      refine iteF ⟨_, rfl, rfl, C, dd, _, _, ec, xf, nt, ed, s4 _ _ hdd, lt, by show 3 ≤ sizeLine; decide, fun t5 n5 => ?_⟩
      have s5 := s4.trans (same_new (o := .tup (nameTags.map V.str)) n5)
      refine ⟨t5, _, rfl, .inr (SqT.of upd_same), rfl, rfl, _, rfl, ?_⟩
      show if inV (.str tag) (nameTags.map V.str) = true then _ else _
      rw [e.2.2.2.2.1]
      refine iteF ⟨_, rfl, rfl, C, dd, _, _, ec, xf, nt, ed, s5 _ _ hdd, lt, by show 2 ≤ sizeLine; decide, fun t6 n6 => ?_⟩
      have s6 := s5.trans (same_new (o := .tup (wordTags.map V.str)) n6)
      refine ⟨t6, _, rfl, .inr (SqT.of upd_same), rfl, rfl, _, rfl, ?_⟩
      show if inV (.str tag) (wordTags.map V.str) = true then _ else _
      rw [e.2.2.2.2.2.1]
      refine iteT ⟨_, rfl, rfl, C, dd, _, _, ec, xf, nt, ed, s6 _ _ hdd, lt, rfl, _, rfl, ?_⟩
      subst hm
      exact iteT ⟨_, rfl, rfl, C, dd, _, _, ec, xf, nf, ed, s6 _ _ hdd, lf, q _ s6⟩
    · have e : inV (.str tag) (nodeTags.map V.str) = false ∧ inV (.str tag) (limitTags.map V.str) = false ∧ inV (.str tag) (posTags.map V.str) = false ∧ inV (.str tag) (sizeTags.map V.str) = false ∧ inV (.str tag) (nameTags.map V.str) = false ∧ inV (.str tag) (wordTags.map V.str) = true ∧ True := by subst hm; exact ⟨rfl, rfl, rfl, rfl, rfl, rfl, trivial⟩
      refine ⟨_, rfl, rfl, C, dd, _, _, ec, xf, nt, ed, hdd, lt, by show 8 ≤ sizeLine; decide, fun t1 n1 => ?_⟩
      have s1 := (same_new (o := .tup (nodeTags.map V.str)) n1)
      refine ⟨t1, _, rfl, .inr (SqT.of upd_same), rfl, rfl, _, rfl, ?_⟩
      show if inV (.str tag) (nodeTags.map V.str) = true then _ else _
      rw [e.1]
      refine iteF ⟨_, rfl, rfl, C, dd, _, _, ec, xf, nt, ed, s1 _ _ hdd, lt, by show 4 ≤ sizeLine; decide, fun t2 n2 => ?_⟩
      have s2 := s1.trans (same_new (o := .tup (limitTags.map V.str)) n2)
      refine ⟨t2, _, rfl, .inr (SqT.of upd_same), rfl, rfl, _, rfl, ?_⟩
      show if inV (.str tag) (limitTags.map V.str) = true then _ else _
      rw [e.2.1]
      refine iteF ⟨_, rfl, rfl, C, dd, _, _, ec, xf, nt, ed, s2 _ _ hdd, lt, by show 4 ≤ sizeLine; decide, fun t3 n3 => ?_⟩
      have s3 := s2.trans (same_new (o := .tup (posTags.map V.str)) n3)
      refine ⟨t3, _, rfl, .inr (SqT.of upd_same), rfl, rfl, _, rfl, ?_⟩
      show if inV (.str tag) (posTags.map V.str) = true then _ else _
      rw [e.2.2.1]
      refine iteF ⟨_, rfl, rfl, C, dd, _, _, ec, xf, nt, ed, s3 _ _ hdd, lt, by show 2 ≤ sizeLine; decide, fun t4 n4 => ?_⟩
      have s4 := s3.trans (same_new (o := .tup (sizeTags.map V.str)) n4)
      refine ⟨t4, _, rfl, .inr (SqT.of upd_same), rfl, rfl, _, rfl, ?_⟩
      show if inV (.str tag) (sizeTags.map V.str) = true then _ else _
      rw [e.2.2.2.1]
      refine iteF ⟨_, rfl, rfl, C, dd, _, _, ec, xf, nt, ed, s4 _ _ hdd, lt, by show 3 ≤ sizeLine; decide, fun t5 n5 => ?_⟩
      have s5 := s4.trans (same_new (o := .tup (nameTags.map V.str)) n5)
      refine ⟨t5, _, rfl, .inr (SqT.of upd_same), rfl, rfl, _, rfl, ?_⟩
      show if inV (.str tag) (nameTags.map V.str) = true then _ else _
      rw [e.2.2.2.2.1]
      refine iteF ⟨_, rfl, rfl, C, dd, _, _, ec, xf, nt, ed, s5 _ _ hdd, lt, by show 2 ≤ sizeLine; decide, fun t6 n6 => ?_⟩
      have s6 := s5.trans (same_new (o := .tup (wordTags.map V.str)) n6)
      refine ⟨t6, _, rfl, .inr (SqT.of upd_same), rfl, rfl, _, rfl, ?_⟩
      show if inV (.str tag) (wordTags.map V.str) = true then _ else _
      rw [e.2.2.2.2.2.1]
      refine iteT ⟨_, rfl, rfl, C, dd, _, _, ec, xf, nt, ed, s6 _ _ hdd, lt, rfl, _, rfl, ?_⟩
      subst hm
      exact iteF ⟨_, rfl, rfl, C, dd, _, _, ec, xf, nf, ed, s6 _ _ hdd, lf, q _ s6⟩
    · have e : inV (.str tag) (nodeTags.map V.str) = false ∧ inV (.str tag) (limitTags.map V.str) = false ∧ inV (.str tag) (posTags.map V.str) = false ∧ inV (.str tag) (sizeTags.map V.str) = false ∧ inV (.str tag) (nameTags.map V.str) = false ∧ inV (.str tag) (wordTags.map V.str) = false ∧ True := by subst hm; exact ⟨rfl, rfl, rfl, rfl, rfl, rfl, trivial⟩
      refine ⟨_, rfl, rfl, C, dd, _, _, ec, xf, nt, ed, hdd, lt, by show 8 ≤ sizeLine; decide, fun t1 n1 => ?_⟩
      have s1 := (same_new (o := .tup (nodeTags.map V.str)) n1)
      refine ⟨t1, _, rfl, .inr (SqT.of upd_same), rfl, rfl, _, rfl, ?_⟩
      show if inV (.str tag) (nodeTags.map V.str) = true then _ else _
      rw [e.1]
      refine iteF ⟨_, rfl, rfl, C, dd, _, _, ec, xf, nt, ed, s1 _ _ hdd, lt, by show 4 ≤ sizeLine; decide, fun t2 n2 => ?_⟩
      have s2 := s1.trans (same_new (o := .tup (limitTags.map V.str)) n2)
      refine ⟨t2, _, rfl, .inr (SqT.of upd_same), rfl, rfl, _, rfl, ?_⟩
      show if inV (.str tag) (limitTags.map V.str) = true then _ else _
      rw [e.2.1]
      refine iteF ⟨_, rfl, rfl, C, dd, _, _, ec, xf, nt, ed, s2 _ _ hdd, lt, by show 4 ≤ sizeLine; decide, fun t3 n3 => ?_⟩
      have s3 := s2.trans (same_new (o := .tup (posTags.map V.str)) n3)
      refine ⟨t3, _, rfl, .inr (SqT.of upd_same), rfl, rfl, _, rfl, ?_⟩
      show if inV (.str tag) (posTags.map V.str) = true then _ else _
      rw [e.2.2.1]
      refine iteF ⟨_, rfl, rfl, C, dd, _, _, ec, xf, nt, ed, s3 _ _ hdd, lt, by show 2 ≤ sizeLine; decide, fun t4 n4 => ?_⟩
      have s4 := s3.trans (same_new (o := .tup (sizeTags.map V.str)) n4)
      refine ⟨t4, _, rfl, .inr (SqT.of upd_same), rfl, rfl, _, rfl, ?_⟩
      show if inV (.str tag) (sizeTags.map V.str) = true then _ else _
      rw [e.2.2.2.1]
      refine iteF ⟨_, rfl, rfl, C, dd, _, _, ec, xf, nt, ed, s4 _ _ hdd, lt, by show 3 ≤ sizeLine; decide, fun t5 n5 => ?_⟩
      have s5 := s4.trans (same_new (o := .tup (nameTags.map V.str)) n5)
      refine ⟨t5, _, rfl, .inr (SqT.of upd_same), rfl, rfl, _, rfl, ?_⟩
      show if inV (.str tag) (nameTags.map V.str) = true then _ else _
      rw [e.2.2.2.2.1]
      refine iteF ⟨_, rfl, rfl, C, dd, _, _, ec, xf, nt, ed, s5 _ _ hdd, lt, by show 2 ≤ sizeLine; decide, fun t6 n6 => ?_⟩
      have s6 := s5.trans (same_new (o := .tup (wordTags.map V.str)) n6)
      refine ⟨t6, _, rfl, .inr (SqT.of upd_same), rfl, rfl, _, rfl, ?_⟩
      show if inV (.str tag) (wordTags.map V.str) = true then _ else _
      rw [e.2.2.2.2.2.1]
      exact iteF ⟨_, rfl, rfl, C, dd, _, _, ec, xf, nf, ed, s6 _ _ hdd, lf, q _ s6⟩
end
section
variable {P : Program} {w : World} {K : PySem.W.Frag} {mg : Str → Option Value} {base : Heap}
/-- what the law makes of what it asks -/
def OutE (K : PySem.W.Frag) (CF CM : Addr) (Q : Str → V → Addr → Hp → Hp → Prop) : XK := fun cls d H1 => PySem.W.exmAny K cls [.ref CF, .ref CM] = some true ∧ ∃ (tag fld : Str) (v : V), Told K cls d H1 tag fld v ∧ TagOk tag fld ∧ ∀ t H2, H1 t = none → Same H1 H2 → Q tag v t H1 H2
end
section
variable {P : Program} {w : World} {K : PySem.W.Frag} {mg : Str → Option Value} {base : Heap}
def TTout (K : PySem.W.Frag) (CF CM : Addr) (tl : XK → Hp → VK → Prop) (H : Hp) (Q : VK) : Prop := ∀ Ha, Same H Ha → ∃ (E1 : XK) (Q1 : VK), tl E1 Ha Q1 ∧
  (∀ cls d H1, E1 cls d H1 → OutE K CF CM (fun tag v t _ H2 => H2 t = some (.tup [.non, .str tag, v]) → Q (.ref t) H2) cls d H1) ∧ ∀ v H1, Q1 v H1 → ∀ t H2, H1 t = none → Same H1 H2 → H2 t = some (.tup [v, .str "", .non]) → Q (.ref t) H2
end
section
variable {P : Program} {w : World} {K : PySem.W.Frag} {mg : Str → Option Value} {base : Heap}
theorem ok_out {f fF CF CM CE : Addr} {fd fdF : FuncData} (F : Fun K "_law_outcome" "_law_outcome" sOut f fd) (b : Binds K fd ["_law_ask"] []) (G : FnE P w K mg base CX0 1 fF fdF ["_law_e"] (spField K)) (kF : PySem.W.keepIn K (.ref fF) = true) (bF : Binds K fdF ["_law_e"] []) (gF : mg "_law_field" = some (.ref fF))
    (g1 : mg "ForestError" = some (.ref CF)) (g2 : mg "Missing" = some (.ref CM)) (g3 : mg "EmptyHistory" = some (.ref CE)) : FnL P w K mg base 3 f (TTout K CF CM) := by
  refine fnL_of F scOut b fun kk ask fs s0 H0 tl ac cdv A outer s H Q hr hU ho hz ht => ?_
  refine ⟨_, pss_cons (ps_asg (pe_tup (pa_cons pe_non (pa_cons pe_str (pa_cons pe_non pa_nil)))) (pg_tup rfl (pgs_cons (pg_name (i := 1) scOut.nd rfl (.inl rfl)) (pgs_cons (pg_name (i := 2) scOut.nd rfl (.inl rfl)) (pgs_cons (pg_name (i := 3) scOut.nd rfl (.inl rfl)) pgs_nil)))))
    (pss_cons (ps_tryC (X := cxOf C8.CX0 P w K mg base _ "_law_outcome" (defScope sOut) f cdv A outer s H C8.E0) (tb := fun W D σ H => σ[0]? = some (some (.ref ask)) ∧ ∃ (E1 : XK) (Q1 : VK), tl E1 H Q1 ∧ (∀ cls d H1, E1 cls d H1 → W cls d σ H1) ∧ ∀ v H1, Q1 v H1 → D.nx (σ.set 1 (some v)) H1) rfl rfl (Wout := fun _ _ _ _ => False) takesN0 (fun W pn xe tk _ => ?_)
      (.named (i := 4) scOut.nd rfl rfl (tst_two (by rfl) g1 (by rfl) g2) (fun a oe cls d pn hz hd => pss_one (ps_parH (X := Cx.suite (cxOf C8.CX0 P w K mg base ["_law_ask", "_law_answer", "_law_tag", "_law_field_here", "_law_e"] "_law_outcome" (defScope sOut) f cdv A outer s H C8.E0) a ((a, oe) :: pn)) (i := 2) (j := 3) ?_ scOut.nd rfl rfl (by decide) rfl rfl (pa_cons (show PE (Cx.suite (cxOf C8.CX0 P w K mg base ["_law_ask", "_law_answer", "_law_tag", "_law_field_here", "_law_e"] "_law_outcome" (defScope sOut) f cdv A outer s H C8.E0) a ((a, oe) :: pn)) _ (tFe K a cls d "tag" (tVar 4)) from pe_fe (X := Cx.suite (cxOf C8.CX0 P w K mg base ["_law_ask", "_law_answer", "_law_tag", "_law_field_here", "_law_e"] "_law_outcome" (defScope sOut) f cdv A outer s H C8.E0) a ((a, oe) :: pn))  (by exact List.mem_cons_self) hz.zc hd (pv 4)) (pa_cons (pe_callE (X := Cx.suite (cxOf C8.CX0 P w K mg base ["_law_ask", "_law_answer", "_law_tag", "_law_field_here", "_law_e"] "_law_outcome" (defScope sOut) f cdv A outer s H C8.E0) a ((a, oe) :: pn))  G ?_ (by exact List.mem_cons_self) hz.zc hd (by rfl) gF kF bF pass0 (pa_cons (pv 4) pa_nil)) pa_nil)) (by rfl)))
      (.named (i := 4) scOut.nd rfl rfl (tst_one (by rfl) g3) (fun a oe cls d pn hz hd => pss_one ps_never) .nil)))
    (pss_one (ps_ret (pe_tup (pa_cons (pv 1) (pa_cons (pv 2) (pa_cons (pv 3) pa_nil))))))), ?_⟩
  · exact pss_one (ps_set (i := 1) scOut.nd rfl (.inl rfl) (pe_do (Z := (cxOf C8.CX0 P w K mg base ["_law_ask", "_law_answer", "_law_tag", "_law_field_here", "_law_e"] "_law_outcome" (defScope sOut) f cdv A outer s H C8.E0).tr pn xe) (i := 0) ac (hr.mono (by omega)) rfl hU ho tk rfl (.inl rfl)))
  · obtain ⟨vs, hv⟩ := hd
    exact ⟨(a, oe), ⟨rfl, vs, hv, hz.2.2 vs hv⟩, List.mem_cons_self⟩
  · exact L2H.RoomH.mono (k := kk + 2) ⟨hr.dp, hr.un⟩ (by omega)
  · refine ⟨by show 3 ≤ sizeLine; decide, fun t0 n0 => ?_⟩
    have s1 := same_new (o := .tup [.non, .str "", .non]) n0
    refine ⟨t0, _, rfl, SqT.of upd_same, rfl, _, _, rfl, _, _, rfl, _, _, rfl, rfl, ?_⟩
    obtain ⟨E1, Q1, h1, h2, h3⟩ := ht _ s1
    refine ⟨rfl, E1, Q1, h1, fun cls d H1 h => ?_, fun v H1 h => ?_⟩
    · obtain ⟨hm, tag, fld, v, td, tg, q⟩ := h2 cls d H1 h
      obtain ⟨C, dd, ec, xf, nt, nf, ed, hdd⟩ := id td.ex
      have lt : List.lookup (Str.ofString "tag") [(fld, v), (Str.ofString "tag", V.str tag)] = some (.str tag) := by
        rcases tg with ⟨_, rfl⟩ | ⟨_, rfl⟩ | ⟨_, rfl⟩ | ⟨_, rfl⟩ | ⟨_, rfl⟩ | ⟨_, rfl⟩ | ⟨_, rfl⟩ | ⟨_, rfl⟩ <;> rfl
      refine ⟨true, hm, fun _ a na => ?_, fun z => by cases z⟩
      refine ⟨_, rfl, rfl, C, dd, _, _, ec, xf, nt, ed, hdd, lt, _, rfl, rfl, tag, fld, v, td, tg, fun H2 s2 => ⟨_, _, rfl, ?_⟩⟩
      exact ⟨_, rfl, _, rfl, _, rfl, by show 3 ≤ sizeLine; decide, fun t n => q t _ (sm_none s2 n) (s2.trans (same_new n)) upd_same⟩
    · exact ⟨_, rfl, _, rfl, _, rfl, by show 3 ≤ sizeLine; decide, fun t n => h3 v H1 h t _ n (same_new n) upd_same⟩
end
section
variable {P : Program} {w : World} {K : PySem.W.Frag} {mg : Str → Option Value} {base : Heap}
/-- the same without the answer -/
def TTerr (K : PySem.W.Frag) (CF CM : Addr) (tl : XK → Hp → VK → Prop) (H : Hp) (Q : VK) : Prop := ∀ Ha, Same H Ha → ∃ (E1 : XK) (Q1 : VK), tl E1 Ha Q1 ∧
  (∀ cls d H1, E1 cls d H1 → OutE K CF CM (fun tag v t _ H2 => H2 t = some (.tup [.str tag, v]) → Q (.ref t) H2) cls d H1) ∧ ∀ v H1, Q1 v H1 → ∀ t H2, H1 t = none → Same H1 H2 → H2 t = some (.tup [.str "", .non]) → Q (.ref t) H2
end
section
variable {P : Program} {w : World} {K : PySem.W.Frag} {mg : Str → Option Value} {base : Heap}
theorem cut3 (a b c : V) : cutV [a, b, c] (some 1) none = [b, c] := rfl
end
section
variable {P : Program} {w : World} {K : PySem.W.Frag} {mg : Str → Option Value} {base : Heap}
theorem ok_err {f fO CF CM : Addr} {fd : FuncData} (F : Fun K "_law_error" "_law_error" sErr f fd) (b : Binds K fd ["_law_ask"] []) (G : FnL P w K mg base 3 fO (TTout K CF CM)) (kO : PySem.W.keepIn K (.ref fO) = true) (gO : mg "_law_outcome" = some (.ref fO)) : FnL P w K mg base 4 f (TTerr K CF CM) := by
  refine fnL_of F scErr b fun kk ask fs s0 H0 tl ac cdv A outer s H Q hr hU ho hz ht => ?_
  refine ⟨_, pss_one (ps_ret (pe_slice sl_tup (pe_hand (Z := cxOf C8.CX0 P w K mg base ["_law_ask"] "_law_error" (defScope sErr) f cdv A outer s H C8.E0) (i := 0) G ac hr rfl hU ?_ (by rfl) gO kO rfl (.inl rfl) ?_ hz) (po_some pe_int) po_none)), ?_⟩
  · intro c hc
    rcases List.mem_cons.mp (show c ∈ s.heap.objs.size :: frs outer from hc) with z | z
    · exact .inr (z ▸ hz)
    · exact ho c z
  · exact fun c hc => List.mem_cons_of_mem _ hc
  · refine ⟨rfl, fun Ha sa => ?_⟩
    obtain ⟨E1, Q1, h1, h2, h3⟩ := ht Ha sa
    refine ⟨E1, Q1, h1, fun cls d H1 h => ?_, fun v H1 h t H2 n s2 e => ?_⟩
    · obtain ⟨hm, tag, fld, v, td, tg, q⟩ := h2 cls d H1 h
      refine ⟨hm, tag, fld, v, td, tg, fun t H2 n s2 e => ?_⟩
      refine ⟨_, rfl, t, _, rfl, SqT.of e, by simp [HT.sIx], fun t2 n2 => ?_⟩
      rw [cut3]
      exact q t2 _ (sm_none s2 n2) (s2.trans (same_new n2)) upd_same
    · refine ⟨_, rfl, t, _, rfl, SqT.of e, by simp [HT.sIx], fun t2 n2 => ?_⟩
      rw [cut3]
      exact h3 v H1 h t2 _ (sm_none s2 n2) (s2.trans (same_new n2)) upd_same
end
abbrev sStrange : Stmt := topS 45
theorem scStrange : FnScope ["_law_draw", "_law_size_in"] ["_law_draw", "_law_size_in"] (defScope sStrange) := ⟨rfl, rfl, rfl, by decide +kernel, rfl, by decide +kernel, by decide +kernel⟩
/-- an integer that is no node -/
def spStrange : Sp := fun vs H Q _ => ∃ (d l : Addr) (n : Nat), vs = [.ref d, vi n] ∧ DrawAt H d l ∧ n ≤ 1000 ∧ ∀ (z : Int) H', (z < 0 ∨ (n : Int) ≤ z) → -2000000000 ≤ z → z ≤ 2000000000 → DrawAt H' d l → Sb d H H' → Q (.int z) H'
section
variable {P : Program} {w : World} {K : PySem.W.Frag} {mg : Str → Option Value} {base : Heap}
theorem ok_strange {f fT fO : Addr} {fd fdT fdO : FuncData} (F : Fun K "_law_strange" "_law_strange" sStrange f fd) (k1 : Kn P w K mg base 1 "_law_take" sTake ["_law_draw", "_law_many"] spTake fT fdT) (k2 : Kn P w K mg base 2 "_law_of" sOf ["_law_draw", "_law_some"] (spOf K) fO fdO) :
    FnOk P w K mg base CX0 3 f fd ["_law_draw", "_law_size_in"] spStrange := by
  refine F.ok scStrange (fun vs H Q E h => ?_) (fun cdv A outer s H vs Q E hr h => ?_)
  · obtain ⟨d, l, n, rfl, _⟩ := h
    rfl
  · obtain ⟨d, l, n, rfl, hD, hn, q⟩ := h
    have r1 : Room 1 (A.deeper (envOfC "_law_strange" (defScope sStrange) s.heap.objs.size f cdv)) := hr.mono (by decide)
    refine ⟨_, pss_one (ps_ret (pe_call k2.G hr (by rfl) k2.g k2.F.kp k2.b .nil pass0 (pa_cons (pv 0) (pa_cons (pe_lst (pa_cons (pv 1) (pa_cons (pe_op op_sub pe_int pe_int) (pa_cons (pe_op op_add (pv 1) (pe_call k1.G r1 (by rfl) k1.g k1.F.kp k1.b .nil pass0 (pa_cons (pv 0) (pa_cons (pe_op op_pow pe_int pe_int) pa_nil))))
      (pa_cons (pe_op op_sub (pe_op op_sub pe_int pe_int) (pe_call k1.G r1 (by rfl) k1.g k1.F.kp k1.b .nil pass0 (pa_cons (pv 0) (pa_cons (pe_op op_pow pe_int pe_int) pa_nil)))) pa_nil))))) pa_nil)))), ?_⟩
    have big : (10 : Int) ^ (9 : Int).toNat = 1000000000 := by decide
    refine ⟨_, rfl, _, rfl, _, _, rfl, rfl, _, rfl, _, rfl, _, _, rfl, rfl, ⟨by decide, by decide, by decide⟩, d, l, _, rfl, hD, by decide, by decide +kernel, fun x H1 hx hD1 sb1 => ?_⟩
    rw [big] at hx
    refine ⟨_, _, rfl, rfl, _, _, rfl, rfl, _, rfl, _, _, rfl, rfl, ⟨by decide, by decide, by decide⟩, d, l, _, rfl, hD1, by decide, by decide +kernel, fun y H2 hy hD2 sb2 => ?_⟩
    rw [big] at hy
    refine ⟨_, _, rfl, rfl, by show 4 ≤ sizeLine; decide, fun c nc => ?_⟩
    refine ⟨d, l, c, _, rfl, hD2.new nc, hD2.ne nc, SqL.of upd_same, by show 1 ≤ 4; decide, by show 4 ≤ 1000; decide, fun j v H3 hv hD3 sb3 => ?_⟩
    have hz : ∃ z : Int, v = .int z ∧ (z < 0 ∨ (n : Int) ≤ z) ∧ -2000000000 ≤ z ∧ z ≤ 2000000000 := by
      match j, hv with
      | 0, hv => exact ⟨_, (Option.some.inj hv).symm, .inr (Int.le_refl _), by omega, by omega⟩
      | 1, hv => exact ⟨0 - 1, (Option.some.inj hv).symm, .inl (by decide), by decide, by decide⟩
      | 2, hv => exact ⟨(n : Int) + x, (Option.some.inj hv).symm, .inr (by omega), by omega, by omega⟩
      | 3, hv => exact ⟨0 - 1 - (y : Int), (Option.some.inj hv).symm, .inl (by omega), by omega, by omega⟩
    obtain ⟨z, rfl, h1, h2, h3⟩ := hz
    exact q z H3 h1 h2 h3 hD3 (((sb1.trans sb2).trans (Sb.of (same_new nc))).trans sb3)
end
section
variable {P : Program} {w : World} {K : PySem.W.Frag} {mg : Str → Option Value} {base : Heap}
def spNumX (C : Addr) : Sp := fun vs H Q E => ∃ (n x : Int), vs = [.int n, .int x] ∧ (x < 0 ∨ n ≤ x) ∧ x.natAbs.log2 < 1920 ∧ Flies H E C "node" "NoNode" (.int x)
end
section
variable {P : Program} {w : World} {K : PySem.W.Frag} {mg : Str → Option Value} {base : Heap}
theorem okX_num {f C : Addr} {fd : FuncData} (F : Fun K "check_number" "check_number" sNum f fd) (R : Raisable P w K mg base 2 "NoNode" C "node" "NoNode") : FnOk P w K mg base (L2N.CX P w) 4 f fd ["size", "node"] (spNumX C) := by
  refine okN F scNum (fun vs H Q E h => ?_) (fun cdv A outer s H vs Q E hr h tk => ?_)
  · obtain ⟨n, x, rfl, _⟩ := h
    rfl
  · obtain ⟨n, x, rfl, hx, hb, fl⟩ := h
    refine ⟨_, pss_one (ps_if (pt_not (pt_chain op_le op_lt pe_int (pv 1) (pv 0))) (pss_one (L2N.ps_raise rfl tk (pmk_err R hr (by rfl) (pv 1)))) pss_nil), ?_⟩
    refine ⟨_, rfl, _, _, rfl, rfl, _, rfl, ?_⟩
    show if decide ((0 : Int) ≤ x) = true then _ else _
    by_cases h0 : (0 : Int) ≤ x
    · rw [decide_eq_true h0]
      refine iteT ⟨_, rfl, _, _, rfl, rfl, _, rfl, ?_⟩
      show if (!decide (x < n)) = true then _ else _
      rw [decide_eq_false (show ¬ x < n by omega)]
      exact iteT ⟨_, rfl, _, rfl, ⟨x, rfl, hb⟩, fl⟩
    · rw [decide_eq_false h0]
      refine iteF ⟨_, rfl, ?_⟩
      exact iteT ⟨_, rfl, _, rfl, ⟨x, rfl, hb⟩, fl⟩
end
def spLawT (K : PySem.W.Frag) (PT : Addr) : Sp := fun vs H Q _ => ∃ (a : Addr) (ns : List Int), vs = [.ref a] ∧ H PT = some (.tbl #[]) ∧ SqL K H a (ns.map V.int) ∧ ns.length ≤ 63 ∧ ∀ H1, Q (.bl true) H1
/-- a second find of the same node -/
theorem again_same {n : Nat} {p r : Nat → Nat} (F : Fo n p r) {x : Nat} (hx : x < n) (v : Nat) (hv : v < n) : fnd n (fnd n p x) x v = fnd n p x v := by
  have h := behind_same F (l := [x]) (m := [x, x]) (by intro y hy; rw [List.mem_singleton.mp hy]; exact hx) (fun y => by simp) v hv
  exact h
theorem again_cost {n : Nat} {p r : Nat → Nat} (F : Fo n p r) {x : Nat} (hx : x < n) : (ups (fnd n p x) n x).length = low p x := by
  have h1 := cost_total F [x] (by intro y hy; rw [List.mem_singleton.mp hy]; exact hx)
  have h2 := cost_total F [x, x] (by intro y hy; simp at hy; rw [hy]; exact hx)
  have e : (List.range n).countP (fun v => deep p v && markB n p [x, x] v) = (List.range n).countP (fun v => deep p v && markB n p [x] v) := by
    refine List.countP_congr fun v _ => ?_
    rw [mark_same (n := n) (p := p) (l := [x, x]) (m := [x]) (fun y => by simp) v]
  rw [e] at h2
  simp only [costs, List.sum_cons, List.sum_nil, List.map_cons, List.map_nil] at h1 h2
  omega
theorem low_min {n : Nat} {p r : Nat → Nat} (F : Fo n p r) {x : Nat} (hx : x < n) : (if ((ups p n x).length : Int) < 1 then ((ups p n x).length : Int) else 1) = ((low p x : Nat) : Int) := by
  unfold low
  by_cases e : p x = x
  · rw [if_pos e, ups_of e]; simp
  · rw [if_neg e, ups_n F hx e, List.length_cons, if_neg (by omega)]; rfl
/-- all but tables stays, but what stands at d -/
theorem tabs_sb {T : List (Addr × Str)} {H H1 : Hp} {d : Addr} (t : Tabs T H) (s : Sb d H H1) (nd : ∃ xs, H d = some (.lst xs)) : Tabs T H1 := by
  obtain ⟨xs, hd⟩ := nd
  intro p hp
  obtain ⟨ps, h1, h2, h3⟩ := t p hp
  refine ⟨ps, s _ _ (ne_of h1 hd (by intro z; cases z)) h1, h2, fun pos cv hc => ?_⟩
  obtain ⟨c, e1, e2⟩ := h3 pos cv hc
  exact ⟨c, e1, s _ _ (ne_of e2 hd (by unfold CodeO; intro z; cases z)) e2⟩
theorem DrawAt.lst {H : Hp} {d l : Addr} (D : DrawAt H d l) : ∃ xs, H d = some (.lst xs) := by
  obtain ⟨ns, i, j, k, h, _⟩ := D
  exact ⟨_, h⟩
theorem DrawAt.ext {H H1 : Hp} {d l : Addr} (D : DrawAt H d l) (s : ExtN H H1) : DrawAt H1 d l := by
  obtain ⟨ns, i, j, k, h, h2, r⟩ := D
  exact ⟨ns, i, j, k, s _ _ h (by intro ps z; cases z), s _ _ h2 (by intro ps z; cases z), r⟩
theorem shaped_err {x : Str} (h : PyData.strOk x = true) (z : Int) : SeqAt.shaped (.tuple [.str x, .int z]) = true := by
  unfold SeqAt.shaped
  simp [PyData.canLay0, PyData.canLayAll0, PyData.depth, PyData.depthAll, h]
theorem bits_ok {z : Int} (h1 : -2000000000 ≤ z) (h2 : z ≤ 2000000000) : z.natAbs.log2 < 1920 := by
  by_cases h0 : z.natAbs = 0
  · rw [h0]; decide
  · refine (Nat.log2_lt h0).mpr (Nat.lt_of_le_of_lt (show z.natAbs ≤ 2000000000 by omega) ?_)
    exact Nat.lt_of_lt_of_le (show 2000000000 < 2 ^ 31 by decide) (Nat.pow_le_pow_right (by decide) (by decide))
/-- what a find answers, as data -/
def dFind (n : Nat) (q : Nat → Nat) (c : Nat) : PyData := .tuple [.tuple ((intsOf n q).map PyData.int), .int (c : Int)]
theorem dp_find {K : PySem.W.Frag} {H : Hp} {t g : Addr} {n c : Nat} {q : Nat → Nat} (h1 : H t = some (.tup [.ref g, vi c])) (h2 : SqT K H g (tupOf n q)) : Dp K H (.ref t) (dFind n q c) := by
  rw [tupOf_ints] at h2
  exact .tup (SqT.of h1) (.cons (.tup h2 (dpAll_ints _)) (.cons (.int _) .nil))
theorem sm_forest {n k : Nat} (h : n ≤ 1000) (q : Nat → Nat) : Sm (k + 1) (.tuple ((intsOf n q).map PyData.int)) := by
  refine .tup (by rw [List.length_map]; unfold intsOf; rw [List.length_map, List.length_range]; omega) fun d hd => ?_
  obtain ⟨i, _, e⟩ := List.mem_map.mp hd
  rw [← e]; exact .int _ _
theorem sm_find {n k : Nat} (h : n ≤ 1000) (q : Nat → Nat) (c : Nat) : Sm (k + 2) (dFind n q c) := by
  refine .tup (by show 2 ≤ 1000; decide) fun d hd => ?_
  rcases List.mem_cons.mp hd with z | z
  · rw [z]; exact sm_forest h q
  · rw [List.mem_singleton.mp z]; exact .int _ _
theorem cut_take (zs : List V) (j : Nat) : cutV zs none (some (j : Int)) = zs.take j := by
  unfold cutV
  rw [HT.sIx_none, HT.sIx_nat, List.drop_zero, Nat.sub_zero]
  by_cases h : j ≤ zs.length
  · rw [Nat.min_eq_left h]
  · rw [Nat.min_eq_right (by omega), List.take_of_length_le (Nat.le_refl _), List.take_of_length_le (by omega)]
theorem cut_drop (zs : List V) (j : Nat) : cutV zs (some (j : Int)) none = zs.drop j := by
  unfold cutV
  rw [HT.sIx_none, HT.sIx_nat]
  by_cases h : j ≤ zs.length
  · rw [Nat.min_eq_left h]
    exact List.take_of_length_le (by rw [List.length_drop]; omega)
  · rw [Nat.min_eq_right (by omega), List.drop_eq_nil_of_le (Nat.le_refl _), List.drop_eq_nil_of_le (by omega)]
    simp
/-- what a list of finds answers, as data -/
def dFindAll (n : Nat) (q : Nat → Nat) (cs : List Nat) : PyData := .tuple [.tuple ((intsOf n q).map PyData.int), .list ((cs.map fun n : Nat => (n : Int)).map PyData.int)]
theorem dp_nats {K : PySem.W.Frag} {H : Hp} {a : Addr} {l : List Nat} (h : SqL K H a (natsV l)) : Dp K H (.ref a) (.list ((l.map fun n : Nat => (n : Int)).map PyData.int)) := by
  rw [natsI] at h
  exact .lst h (dpAll_ints _)
theorem dp_forest {K : PySem.W.Frag} {H : Hp} {a : Addr} {n : Nat} {p : Nat → Nat} (h : SqT K H a (tupOf n p)) : Dp K H (.ref a) (.tuple ((intsOf n p).map PyData.int)) := by
  rw [tupOf_ints] at h
  exact .tup h (dpAll_ints _)
theorem dp_findAll {K : PySem.W.Frag} {H : Hp} {t g c : Addr} {n : Nat} {q : Nat → Nat} {cs : List Nat} (h1 : H t = some (.tup [.ref g, .ref c])) (h2 : SqT K H g (tupOf n q)) (h3 : SqL K H c (natsV cs)) : Dp K H (.ref t) (dFindAll n q cs) :=
  .tup (SqT.of h1) (.cons (dp_forest h2) (.cons (dp_nats h3) .nil))
theorem sm_ints {k : Nat} {l : List Int} (h : l.length ≤ 1000) : Sm (k + 1) (.list (l.map PyData.int)) := by
  refine .lst (by rw [List.length_map]; exact h) fun d hd => ?_
  obtain ⟨i, _, e⟩ := List.mem_map.mp hd
  rw [← e]; exact .int _ _
theorem sm_findAll {n k : Nat} (h : n ≤ 1000) (q : Nat → Nat) {cs : List Nat} (hc : cs.length ≤ 1000) : Sm (k + 2) (dFindAll n q cs) := by
  refine .tup (by show 2 ≤ 1000; decide) fun d hd => ?_
  rcases List.mem_cons.mp hd with z | z
  · rw [z]; exact sm_forest h q
  · rw [List.mem_singleton.mp z]; exact sm_ints (by rw [List.length_map]; exact hc)
/-- a list that does not stand in the draws' cell -/
theorem DrawAt.nel2 {H : Hp} {d l a : Addr} {xs : List V} (D : DrawAt H d l) (h : H a = some (.lst xs)) (n : a ≠ d) : True := trivial
/-- find_all: all nodes of a list or tuple found, or the first that is none raised -/
def spFindAllB (K : PySem.W.Frag) (C : Addr) : Sp := fun vs H Q E => ∃ (k : Bool) (a b : Addr) (n : Nat) (p r : Nat → Nat) (xs : List Int) (good : List Nat), vs = [.ref a, .ref b] ∧ SqT K H a (tupOf n p) ∧ Kd k K H b (xs.map V.int) ∧ n ≤ 1000 ∧ xs.length ≤ 1000 ∧ Fo n p r ∧
  NodesEnd xs n good (∀ (t g c : Addr) H', H t = none → H c = none → (g = a ∨ H g = none) → H' t = some (.tup [.ref g, .ref c]) → SqT K H' g (tupOf n (fndAll n good p)) → H' c = some (.lst (natsV (costs n good p))) → Same H H' → Q (.ref t) H')
    (fun z => Flies H E C "node" "NoNode" (.int z))
section
variable {P : Program} {w : World} {K : PySem.W.Frag} {mg : Str → Option Value} {base : Heap}
theorem flies_same {H H1 : Hp} {E : XK} {C : Addr} {fld tag : Str} {v : V} (h : Flies H E C fld tag v) (s : Same H H1) : Flies H1 E C fld tag v := fun d H2 n e s2 => h d H2 (sm_none s n) e (s.trans s2)
end
section
variable {P : Program} {w : World} {K : PySem.W.Frag} {mg : Str → Option Value} {base : Heap}
theorem same_ext {H H1 : Hp} (s : Same H H1) : ExtN H H1 := fun b o e _ => s b o e
end
section
variable {P : Program} {w : World} {K : PySem.W.Frag} {mg : Str → Option Value} {base : Heap}
/-- what is asked raises: the law's reader answers with the tag and the field -/
theorem ask_no {X : Cx} {kk : Nat} {D : Lam X kk} {f C CF CM : Addr} {σ : L2.St} {H : Hp} {Q : VK} {x fld tag : Str} {v : V} {lv : Nat} (R : Raisable P w K mg base lv x C fld tag) (hex : PySem.W.exmAny K (.ref C) [.ref CF, .ref CM] = some true) (tg : TagOk tag fld) (hA : D.At f H)
    (hc : ∀ Ha E, Same H Ha → Flies Ha E C fld tag v → D.tb E σ Ha fun _ _ => False) (q : ∀ t H2, H t = none → Same H H2 → H2 t = some (.tup [.str tag, v]) → Q (.ref t) H2) : TTerr K CF CM (D.does f σ) H Q := by
  intro Ha sa
  refine ⟨fun cls d H1 => cls = .ref C ∧ ∃ dd, d = some dd ∧ H1 dd = some (.xd [(fld, v), ("tag", .str tag)]) ∧ Same Ha H1, fun _ _ => False, ⟨D.same hA (same_ext sa), hc Ha _ sa fun dd H1 n1 h1 s1 => ⟨rfl, dd, rfl, h1, s1⟩⟩, ?_, fun _ _ h => h.elim⟩
  rintro cls d H1 ⟨rfl, dd, rfl, hdd, s1⟩
  exact ⟨hex, tag, fld, v, ⟨C, dd, rfl, R.xf, R.nt, R.nf, rfl, hdd⟩, tg, fun t H2 n s2 e => q t H2 (sm_none (sa.trans s1) n) ((sa.trans s1).trans s2) e⟩
end
section
variable {P : Program} {w : World} {K : PySem.W.Frag} {mg : Str → Option Value} {base : Heap}
theorem wipe_one {σ : L2.St} {i : Nat} {x : Option V} : wipe ((wipe σ [i]).set i x) [i] = wipe σ [i] := by
  show ((σ.set i none).set i x).set i none = σ.set i none
  rw [List.set_set, List.set_set]
end
section
variable {P : Program} {w : World} {K : PySem.W.Frag} {mg : Str → Option Value} {base : Heap}
/-- a list of lambdas, each raising the same -/
theorem asks_no {X : Cx} {kk j lv : Nat} (σ : L2.St) {H : Hp} {C CF CM la D : Addr} (fs : List Addr) {Qd : Hp → Prop} {x fld tag : Str} {v : V} (R : Raisable P w K mg base lv x C fld tag) (hex : PySem.W.exmAny K (.ref C) [.ref CF, .ref CM] = some true) (tg : TagOk tag fld) (hl : H la = some (.lst (fs.map V.ref))) (nD : H D = none) (hj : j < σ.length) (hm : fs.length ≤ 1000)
    (hf : ∀ f ∈ fs, ∃ L : Lam X kk, L.At f H ∧ ∀ Ha E, Same H Ha → Flies Ha E C fld tag v → L.tb E σ Ha fun _ _ => False)
    (q : ∀ (ts : List Addr) H1, ts.length = fs.length → H1 D = some (.lst (ts.map V.ref)) → (∀ t ∈ ts, H1 t = some (.tup [.str tag, v])) → Same H H1 → Qd H1) :
    ∃ W : Nat → Nat → Hp → Prop, (∃ m, W 0 m (upd H D (.lst []))) ∧ ∀ i m H, W i m H →
      ((Itl K la).stop i H ∧ Qd H) ∨ ((Itl K la).go i H ∧ ∃ Nx : Hp → Prop, (∀ H', Nx H' → ∃ m', m' < m ∧ W (i + 1) m' H') ∧ ∀ x H', (Itl K la).yld i H x H' → gName j x (wipe σ [j]) H' fun σ2 H2 => wipe σ2 [j] = wipe σ [j] ∧ tYes σ2 H2 fun b H3 =>
        if b = true then (∃ (f : Addr) (L : Lam X kk), σ2[j]? = some (some (.ref f)) ∧ TTerr K CF CM (L.does f σ) H3 fun y H4 => ∃ acc, H4 D = some (.lst acc) ∧ acc.length < sizeLine ∧ Nx (upd H4 D (.lst (acc ++ [y])))) else Nx H3) := by
  refine lc_list (K := K) (a := la) (xs := fs.map V.ref) (g := gName j) (tt := tYes) (te := fun σ1 H1 Q => ∃ (f : Addr) (D : Lam X kk), σ1[j]? = some (some (.ref f)) ∧ TTerr K CF CM (D.does f σ) H1 Q) (vs := [j]) (σ := σ) (Qd := Qd) (fun i H1 => ∃ ts : List Addr, ts.length = i ∧ H1 D = some (.lst (ts.map V.ref)) ∧ (∀ t ∈ ts, H1 t = some (.tup [.str tag, v])) ∧ Same H H1)
    ⟨[], rfl, upd_same, by simp, same_new nD⟩ (fun i H1 _ h => h.elim fun ts h => SqL.of (h.2.2.2 _ _ hl)) ?_ ?_
  · rintro k y H1 hy ⟨ts, hlen, hD, hts, s1⟩
    rw [List.getElem?_map] at hy
    obtain ⟨f, hff, rfl⟩ := Option.map_eq_some_iff.mp hy
    obtain ⟨L, hA, hc⟩ := hf f (List.mem_of_getElem? hff)
    have hk : k < fs.length := (List.getElem?_eq_some_iff.mp hff).1
    refine ⟨wipe_one, f, L, List.getElem?_set_self (by rw [wipe_length]; exact hj), ?_⟩
    refine ask_no R hex tg (L.same hA (same_ext s1)) (fun Ha E sa fl => hc Ha E (s1.trans sa) fl) fun t H2 nt s2 e => ?_
    have nDt : t ≠ D := (ne_of_none hD nt).symm
    refine ⟨_, s2 _ _ hD, by rw [List.length_map, hlen]; exact Nat.lt_of_le_of_lt (show k ≤ 1000 by omega) (by decide), ts ++ [t], by rw [List.length_append, hlen]; rfl, by rw [upd_same, List.map_append]; rfl, fun t2 h2 => ?_, same_over (s1.trans s2) nD⟩
    rcases List.mem_append.mp h2 with h2 | h2
    · have e2 := hts t2 h2
      rw [upd_ne (ne_of e2 hD (by intro z; cases z))]
      exact s2 _ _ e2
    · rw [List.mem_singleton.mp h2, upd_ne nDt]
      exact e
  · rintro H1 ⟨ts, hlen, hD, hts, s1⟩
    rw [List.length_map] at hlen
    exact q ts H1 hlen hD hts s1
end
section
variable {P : Program} {w : World} {K : PySem.W.Frag} {mg : Str → Option Value} {base : Heap}
/-- such answers as data -/
def dErrs (m : Nat) (tag : Str) (z : Int) : PyData := .list (List.replicate m (.tuple [.str tag, .int z]))
end
section
variable {P : Program} {w : World} {K : PySem.W.Frag} {mg : Str → Option Value} {base : Heap}
theorem dp_errs {H : Hp} {tag : Str} {z : Int} : ∀ {ts : List Addr}, (∀ t ∈ ts, H t = some (.tup [.str tag, .int z])) → DpAll K H (ts.map V.ref) (List.replicate ts.length (.tuple [.str tag, .int z]))
  | [], _ => .nil
  | t :: r, h => .cons (.tup (SqT.of (h t List.mem_cons_self)) (.cons (.str _) (.cons (.int _) .nil))) (dp_errs fun u hu => h u (List.mem_cons_of_mem _ hu))
end
section
variable {P : Program} {w : World} {K : PySem.W.Frag} {mg : Str → Option Value} {base : Heap}
theorem shaped_errs {m : Nat} {tag : Str} (h : PyData.strOk tag = true) (hm : m ≤ 4) (z : Int) : SeqAt.shaped (dErrs m tag z) = true := by
  unfold SeqAt.shaped dErrs
  match m, hm with
  | 0, _ => simp [List.replicate, PyData.canLay0, PyData.canLayAll0, PyData.depth, PyData.depthAll, h]
  | 1, _ => simp [List.replicate, PyData.canLay0, PyData.canLayAll0, PyData.depth, PyData.depthAll, h]
  | 2, _ => simp [List.replicate, PyData.canLay0, PyData.canLayAll0, PyData.depth, PyData.depthAll, h]
  | 3, _ => simp [List.replicate, PyData.canLay0, PyData.canLayAll0, PyData.depth, PyData.depthAll, h]
  | 4, _ => simp [List.replicate, PyData.canLay0, PyData.canLayAll0, PyData.depth, PyData.depthAll, h]
end
abbrev linkN : List Str := ["forest", "child", "above", "parents"]
abbrev uniteN : List Str := ["forest", "one", "other", "found", "costs", "child", "above"]
/-- what check_root answers -/
def spChkRB (K : PySem.W.Frag) (CN CR : Addr) : Sp := fun vs H Q E => ∃ (a : Addr) (n : Nat) (p : Nat → Nat) (x : Int), vs = [.ref a, .int x] ∧ Sq K H a (tupOf n p) ∧ x.natAbs.log2 < 1920 ∧
  ((chkE n p x = none ∧ ∀ H', Same H H' → Q .non H') ∨ (chkE n p x = some false ∧ Flies H E CN "node" "NoNode" (.int x)) ∨ (chkE n p x = some true ∧ Flies H E CR "node" "NotRoot" (.int x)))
def spLinkB (K : PySem.W.Frag) (CN CR CS : Addr) : Sp := fun vs H Q E => ∃ (a : Addr) (n : Nat) (p : Nat → Nat) (x y : Int), vs = [.ref a, .int x, .int y] ∧ Sq K H a (tupOf n p) ∧ n ≤ 1000 ∧ x.natAbs.log2 < 1920 ∧ y.natAbs.log2 < 1920 ∧
  ((chkE n p x = some false ∧ Flies H E CN "node" "NoNode" (.int x)) ∨ (chkE n p x = some true ∧ Flies H E CR "node" "NotRoot" (.int x)) ∨
   (chkE n p x = none ∧ ((chkE n p y = some false ∧ Flies H E CN "node" "NoNode" (.int y)) ∨ (chkE n p y = some true ∧ Flies H E CR "node" "NotRoot" (.int y)) ∨
     (chkE n p y = none ∧ ((x = y ∧ Flies H E CS "node" "SameRoot" (.int x)) ∨ (x ≠ y ∧ ∀ (q : Addr) H', H q = none → H' q = some (.tup (tupOf n (lnk p x.toNat y.toNat))) → Same H H' → Q (.ref q) H'))))))
def uniF (n : Nat) (p : Nat → Nat) (u v : Nat) : Nat → Nat := if root p n u = root p n v then fndAll n [u, v] p else lnk (fndAll n [u, v] p) (root p n u) (root p n v)
def spUniteB (K : PySem.W.Frag) (C : Addr) : Sp := fun vs H Q E => ∃ (a : Addr) (n : Nat) (p r : Nat → Nat) (x y : Int) (good : List Nat), vs = [.ref a, .int x, .int y] ∧ SqT K H a (tupOf n p) ∧ n ≤ 1000 ∧ Fo n p r ∧
  NodesEnd [x, y] n good (∀ u v, good = [u, v] → ∀ (t g : Addr) H', H t = none → H' t = some (.tup [.ref g, vi (costs n [u, v] p).sum]) → SqT K H' g (tupOf n (uniF n p u v)) → Same H H' → Q (.ref t) H') (fun z => Flies H E C "node" "NoNode" (.int z))
theorem bits_small {u : Nat} (h : u < 2000000000) : (u : Int).natAbs.log2 < 1920 := bits_ok (z := (u : Int)) (by omega) (by omega)
theorem chkE_node {n : Nat} {p : Nat → Nat} {x : Int} : (chkE n p x = some false ∧ (x < 0 ∨ (n : Int) ≤ x)) ∨ ∃ u : Nat, x = (u : Int) ∧ u < n ∧ ((chkE n p x = none ∧ p u = u) ∨ (chkE n p x = some true ∧ p u ≠ u)) := by
  unfold chkE
  by_cases h : 0 ≤ x ∧ x < (n : Int)
  · obtain ⟨u, rfl⟩ : ∃ u : Nat, x = u := ⟨x.toNat, by omega⟩
    right
    refine ⟨u, rfl, by omega, ?_⟩
    rw [if_pos h, Int.toNat_natCast]
    by_cases e : p u = u
    · rw [if_pos e]; exact .inl ⟨rfl, e⟩
    · rw [if_neg e]; exact .inr ⟨rfl, e⟩
  · left
    rw [if_neg h]
    exact ⟨rfl, by omega⟩
abbrev linkedN : List Str := ["_law_forest_in", "_law_child_in", "_law_above", "_law_node"]
/-- what a link answers, as data -/
def errD (b : Bool) (z : Int) : PyData := .tuple [.none, .str (if b = true then "NotRoot" else "NoNode"), .int z]
def linkD (n : Nat) (p : Nat → Nat) (x y : Int) : PyData := match chkE n p x with
  | some b => errD b x
  | none => match chkE n p y with
    | some b => errD b y
    | none => if x = y then .tuple [.none, .str "SameRoot", .int x] else .tuple [.tuple ((intsOf n (lnk p x.toNat y.toNat)).map PyData.int), .str "", .none]
def spLinked (K : PySem.W.Frag) : Sp := fun vs H Q _ => ∃ (a : Addr) (n : Nat) (p : Nat → Nat) (x y : Int), vs = [.ref a, .int x, .int y] ∧ SqT K H a (tupOf n p) ∧ n ≤ 1000 ∧ ∀ (t : Addr) H', Dp K H' (.ref t) (linkD n p x y) → Same H H' → Q (.ref t) H'
section
variable {P : Program} {w : World} {K : PySem.W.Frag} {mg : Str → Option Value} {base : Heap}
/-- one turn of the law's own check -/
theorem chk_turn {n : Nat} {p : Nat → Nat} {x : Int} {a : Addr} {H : Hp} {A B C D : Prop} (hS : SqT K H a (tupOf n p)) (h : (chkE n p x = some false ∧ A) ∨ (chkE n p x = some true ∧ B) ∨ (chkE n p x = none ∧ C)) : True := trivial
end
abbrev aboveN : List Str := ["forest", "one", "other", "path"]
abbrev rootsN : List Str := ["forest", "node", "parent"]
abbrev kidsN : List Str := ["forest", "node", "child", "parent"]
abbrev subN : List Str := ["forest", "node", "low"]
theorem in_nats (u : Nat) : ∀ l : List Nat, inV (vi u) (natsV l) = decide (u ∈ l)
  | [] => by simp [inV, natsV]
  | x :: l => by
    have ih := in_nats u l
    unfold inV natsV at ih ⊢
    rw [List.map_cons, List.any_cons, ih]
    by_cases e : x = u
    · subst e
      simp [eqV]
    · have h1 : eqV (vi x) (vi u) = false := by
        simp only [eqV]
        simp
        omega
      rw [h1]
      simp [Ne.symm e]
def rootsL (n : Nat) (p : Nat → Nat) : List Nat := (List.range n).filter fun v => decide (p v = v)
def kidsL (n : Nat) (p : Nat → Nat) (v : Nat) : List Nat := (List.range n).filter fun c => decide (p c = v) && !decide (c = v)
def subL (n : Nat) (p : Nat → Nat) (v : Nat) : List Nat := (List.range n).filter fun x => decide (v ∈ path p n x)
theorem filt_le (n : Nat) (g : Nat → Bool) : ((List.range n).filter g).length ≤ n := Nat.le_trans (List.length_filter_le _ _) (by rw [List.length_range]; exact Nat.le_refl _)
theorem filt_succ (k : Nat) (g : Nat → Bool) : (List.range (k + 1)).filter g = (List.range k).filter g ++ if g k = true then [k] else [] := by
  rw [List.range_succ, List.filter_append]
  cases e : g k <;> simp [List.filter, e]
/-- one turn of a filter over nodes -/
theorem filt_turn {k : Nat} {g : Nat → Bool} {H : Hp} {D : Addr} (hk : k < 1000) (hD : H D = some (.lst (natsV ((List.range k).filter g)))) : (natsV ((List.range k).filter g)).length < sizeLine ∧
    (g k = true → ∀ y, y = vi k → upd H D (.lst (natsV ((List.range k).filter g) ++ [y])) D = some (.lst (natsV ((List.range (k + 1)).filter g)))) ∧ (g k = false → H D = some (.lst (natsV ((List.range (k + 1)).filter g)))) := by
  refine ⟨?_, fun e y hy => ?_, fun e => ?_⟩
  · have := filt_le k g
    rw [natsV_len]
    exact Nat.lt_of_le_of_lt (show _ ≤ 1000 by omega) (by decide)
  · rw [upd_same, hy, filt_succ, if_pos e]
    unfold natsV
    rw [List.map_append]
    rfl
  · rw [filt_succ, e]
    simp only [Bool.false_eq_true, if_false, List.append_nil]
    exact hD
def spRootsOf (K : PySem.W.Frag) : Sp := fun vs H Q _ => ∃ (a : Addr) (n : Nat) (p : Nat → Nat), vs = [.ref a] ∧ SqT K H a (tupOf n p) ∧ n ≤ 900 ∧ ∀ (q : Addr) H', H q = none → H' q = some (.lst (natsV (rootsL n p))) → Same H H' → Q (.ref q) H'
/-- a def of a node: its answer, or the node raised -/
def spNodeB (K : PySem.W.Frag) (C : Addr) (F : Nat → (Nat → Nat) → Nat → List Nat) : Sp := fun vs H Q E => ∃ (a : Addr) (n : Nat) (p r : Nat → Nat) (x : Int), vs = [.ref a, .int x] ∧ SqT K H a (tupOf n p) ∧ n ≤ 900 ∧ Fo n p r ∧
  ((∃ u : Nat, x = (u : Int) ∧ u < n ∧ ∀ (q : Addr) H', H q = none → H' q = some (.lst (natsV (F n p u))) → Same H H' → Q (.ref q) H') ∨ ((x < 0 ∨ (n : Int) ≤ x) ∧ x.natAbs.log2 < 1920 ∧ Flies H E C "node" "NoNode" (.int x)))
def spAboveB (K : PySem.W.Frag) (C : Addr) : Sp := fun vs H Q E => ∃ (a : Addr) (n : Nat) (p r : Nat → Nat) (x y : Int) (good : List Nat), vs = [.ref a, .int x, .int y] ∧ SqT K H a (tupOf n p) ∧ n ≤ 900 ∧ Fo n p r ∧
  NodesEnd [x, y] n good (∀ u v, good = [u, v] → ∀ H', Same H H' → Q (.bl (decide (u ≠ v) && decide (u ∈ path p n v))) H') (fun z => Flies H E C "node" "NoNode" (.int z))
abbrev sBadPar : Stmt := topS 4
abbrev sCycle : Stmt := topS 5
abbrev sTooMany : Stmt := topS 6
abbrev sLeads : Stmt := topS 12
abbrev sCheck : Stmt := topS 13
abbrev sIsFor : Stmt := topS 14
theorem scBadParI : FnScope ["self", "node"] ["self", "node"] (defScope (initS sBadPar)) := ⟨rfl, rfl, rfl, by decide +kernel, rfl, by decide +kernel, by decide +kernel⟩
theorem scCycleI : FnScope ["self", "node"] ["self", "node"] (defScope (initS sCycle)) := ⟨rfl, rfl, rfl, by decide +kernel, rfl, by decide +kernel, by decide +kernel⟩
theorem scTooManyI : FnScope ["self", "limit"] ["self", "limit"] (defScope (initS sTooMany)) := ⟨rfl, rfl, rfl, by decide +kernel, rfl, by decide +kernel, by decide +kernel⟩
theorem scLeads : FnScope ["parents", "node", "place", "step"] ["parents", "node"] (defScope sLeads) := ⟨rfl, rfl, rfl, by decide +kernel, rfl, by decide +kernel, by decide +kernel⟩
theorem scCheck : FnScope ["parents", "node", "parent"] ["parents"] (defScope sCheck) := ⟨rfl, rfl, rfl, by decide +kernel, rfl, by decide +kernel, by decide +kernel⟩
theorem scIsFor : FnScope ["parents"] ["parents"] (defScope sIsFor) := ⟨rfl, rfl, rfl, by decide +kernel, rfl, by decide +kernel, by decide +kernel⟩
def spLeads (K : PySem.W.Frag) : Sp := fun vs H Q _ => ∃ (a : Addr) (n : Nat) (p : Nat → Nat) (x : Nat), vs = [.ref a, vi x] ∧ SqT K H a (tupOf n p) ∧ n ≤ 1000 ∧ (∀ v, v < n → p v < n) ∧ x < n ∧ Q (.bl (!ringB n p x)) H
def CheckO (CT CB CC : Addr) (xs : List Int) (H : Hp) (E : XK) (Q : VK) : Prop := match verdict xs with
  | .ok => ∀ H', Same H H' → Q .non H'
  | .many => Flies H E CT "limit" "TooManyNodes" (.int 40)
  | .bad v => Flies H E CB "node" "BadParent" (vi v)
  | .cyc v => Flies H E CC "node" "Cycle" (vi v)
def spCheckB (K : PySem.W.Frag) (CT CB CC : Addr) : Sp := fun vs H Q E => ∃ (a : Addr) (xs : List Int), vs = [.ref a] ∧ SqT K H a (xs.map V.int) ∧ xs.length ≤ 1000 ∧ CheckO CT CB CC xs H E Q
def okV (xs : List Int) : Bool := match verdict xs with
  | .ok => true
  | _ => false
def spIsFor (K : PySem.W.Frag) : Sp := fun vs H Q _ => ∃ (a : Addr) (xs : List Int), vs = [.ref a] ∧ SqT K H a (xs.map V.int) ∧ xs.length ≤ 1000 ∧ ∀ H', Same H H' → Q (.bl (okV xs)) H'
theorem row_tup {xs : List Int} (h : ∀ v, v < xs.length → wideB xs v = false) : xs.map V.int = tupOf xs.length (par xs) := by
  refine List.ext_getElem? fun i => ?_
  by_cases hi : i < xs.length
  · rw [List.getElem?_map, List.getElem?_eq_getElem hi, tupOf_at hi]
    have z := (wide_iff.mp (h i hi)).1
    rw [List.getD_eq_getElem?_getD, List.getElem?_eq_getElem hi] at z
    show some (V.int xs[i]) = some (V.int ((xs.getD i 0).toNat : Int))
    rw [List.getD_eq_getElem?_getD, List.getElem?_eq_getElem hi]
    have z : (0 : Int) ≤ xs[i] := z
    show some (V.int xs[i]) = some (V.int ((xs[i]).toNat : Int))
    rw [Int.toNat_of_nonneg z]
  · rw [List.getElem?_eq_none (by rw [List.length_map]; omega), List.getElem?_eq_none (by rw [tupOf_len]; omega)]
section
variable {P : Program} {w : World} {K : PySem.W.Frag} {mg : Str → Option Value} {base : Heap}
theorem ok_badParI {f fM CM : Addr} {fd fdM : FuncData} (F : Fun K "__init__" "BadParent.__init__" (initS sBadPar) f fd) (TM : ClsI K CM fM) (gM : mg "ForestError" = some (.ref CM)) (GM : FnOk P w K mg base CX0 1 fM fdM ["self", "tag", "message"] (spTop K "ValueError.__new__" vaTail)) (bM : Binds K fdM ["self", "tag", "message"] []) :
    FnOk P w K mg base CX0 2 f fd ["self", "node"] (spErrI K "ValueError.__new__" vaTail "node" "BadParent") := by
  refine F.ok scBadParI (fun vs H Q E h => ?_) (fun cdv A outer s H vs Q E hr h => ?_)
  · obtain ⟨a, C, v, rfl, _⟩ := h
    rfl
  · obtain ⟨a, C, v, rfl, ⟨i, rfl, hi⟩, ha, T, nt, nf, q⟩ := h
    refine ⟨_, pss_cons (ps_expr (pe_ci TM GM hr (by rfl) gM bM pass0 (pa_cons (pv 0) (pa_cons pe_str (pa_cons (pe_joined (.cons pe_str (.cons (pe_fmt (pv 1)) (.cons pe_str .nil)))) pa_nil)))))
      (pss_one (ps_st (nid := "ValueError.__new__") PySem.F.store_ValueError (pv 0) (pv 1))), ?_⟩
    have f0 : (Str.empty ++ Str.ofString "the parent of node ").length ≤ 100 := by decide +kernel
    have f1 : (Str.ofString " is no node").length ≤ 100 := by decide +kernel
    have l1 := fits_cat f0 (txt_int hi)
    refine ⟨_, rfl, ⟨_, rfl, fits (by omega), _, rfl, .inr ⟨i, rfl, hi, _, rfl, fits (Nat.le_trans l1 (by decide)), _, rfl, fits (Nat.le_trans (fits_cat l1 f1) (by decide)), ?_⟩⟩⟩
    refine ⟨a, C, _, _, rfl, ha, T, nt, fun dx n ne => ⟨_, rfl, _, rfl, a, C, rfl, T, nf, .inr ⟨dx, _, upd_same, ?_, by show 1 ≤ 900; decide, q dx n ne⟩⟩⟩
    rw [upd_ne ne, upd_same]
end
section
variable {P : Program} {w : World} {K : PySem.W.Frag} {mg : Str → Option Value} {base : Heap}
theorem ok_cycleI {f fM CM : Addr} {fd fdM : FuncData} (F : Fun K "__init__" "Cycle.__init__" (initS sCycle) f fd) (TM : ClsI K CM fM) (gM : mg "ForestError" = some (.ref CM)) (GM : FnOk P w K mg base CX0 1 fM fdM ["self", "tag", "message"] (spTop K "ValueError.__new__" vaTail)) (bM : Binds K fdM ["self", "tag", "message"] []) :
    FnOk P w K mg base CX0 2 f fd ["self", "node"] (spErrI K "ValueError.__new__" vaTail "node" "Cycle") := by
  refine F.ok scCycleI (fun vs H Q E h => ?_) (fun cdv A outer s H vs Q E hr h => ?_)
  · obtain ⟨a, C, v, rfl, _⟩ := h
    rfl
  · obtain ⟨a, C, v, rfl, ⟨i, rfl, hi⟩, ha, T, nt, nf, q⟩ := h
    refine ⟨_, pss_cons (ps_expr (pe_ci TM GM hr (by rfl) gM bM pass0 (pa_cons (pv 0) (pa_cons pe_str (pa_cons (pe_joined (.cons pe_str (.cons (pe_fmt (pv 1)) (.cons pe_str .nil)))) pa_nil)))))
      (pss_one (ps_st (nid := "ValueError.__new__") PySem.F.store_ValueError (pv 0) (pv 1))), ?_⟩
    have f0 : (Str.empty ++ Str.ofString "the parents of node ").length ≤ 100 := by decide +kernel
    have f1 : (Str.ofString " do not lead to a root").length ≤ 100 := by decide +kernel
    have l1 := fits_cat f0 (txt_int hi)
    refine ⟨_, rfl, ⟨_, rfl, fits (by omega), _, rfl, .inr ⟨i, rfl, hi, _, rfl, fits (Nat.le_trans l1 (by decide)), _, rfl, fits (Nat.le_trans (fits_cat l1 f1) (by decide)), ?_⟩⟩⟩
    refine ⟨a, C, _, _, rfl, ha, T, nt, fun dx n ne => ⟨_, rfl, _, rfl, a, C, rfl, T, nf, .inr ⟨dx, _, upd_same, ?_, by show 1 ≤ 900; decide, q dx n ne⟩⟩⟩
    rw [upd_ne ne, upd_same]
end
section
variable {P : Program} {w : World} {K : PySem.W.Frag} {mg : Str → Option Value} {base : Heap}
theorem ok_tooManyI {f fM CM : Addr} {fd fdM : FuncData} (F : Fun K "__init__" "TooManyNodes.__init__" (initS sTooMany) f fd) (TM : ClsI K CM fM) (gM : mg "ForestError" = some (.ref CM)) (GM : FnOk P w K mg base CX0 1 fM fdM ["self", "tag", "message"] (spTop K "ValueError.__new__" vaTail)) (bM : Binds K fdM ["self", "tag", "message"] []) :
    FnOk P w K mg base CX0 2 f fd ["self", "limit"] (spErrI K "ValueError.__new__" vaTail "limit" "TooManyNodes") := by
  refine F.ok scTooManyI (fun vs H Q E h => ?_) (fun cdv A outer s H vs Q E hr h => ?_)
  · obtain ⟨a, C, v, rfl, _⟩ := h
    rfl
  · obtain ⟨a, C, v, rfl, ⟨i, rfl, hi⟩, ha, T, nt, nf, q⟩ := h
    refine ⟨_, pss_cons (ps_expr (pe_ci TM GM hr (by rfl) gM bM pass0 (pa_cons (pv 0) (pa_cons pe_str (pa_cons (pe_joined (.cons pe_str (.cons (pe_fmt (pv 1)) (.cons pe_str .nil)))) pa_nil)))))
      (pss_one (ps_st (nid := "ValueError.__new__") PySem.F.store_ValueError (pv 0) (pv 1))), ?_⟩
    have f0 : (Str.empty ++ Str.ofString "there are more than ").length ≤ 100 := by decide +kernel
    have f1 : (Str.ofString " nodes").length ≤ 100 := by decide +kernel
    have l1 := fits_cat f0 (txt_int hi)
    refine ⟨_, rfl, ⟨_, rfl, fits (by omega), _, rfl, .inr ⟨i, rfl, hi, _, rfl, fits (Nat.le_trans l1 (by decide)), _, rfl, fits (Nat.le_trans (fits_cat l1 f1) (by decide)), ?_⟩⟩⟩
    refine ⟨a, C, _, _, rfl, ha, T, nt, fun dx n ne => ⟨_, rfl, _, rfl, a, C, rfl, T, nf, .inr ⟨dx, _, upd_same, ?_, by show 1 ≤ 900; decide, q dx n ne⟩⟩⟩
    rw [upd_ne ne, upd_same]
end
section
variable {P : Program} {w : World} {K : PySem.W.Frag} {mg : Str → Option Value} {base : Heap}
theorem ok_leads {f : Addr} {fd : FuncData} {k : Nat} (F : Fun K "leads_to_root" "leads_to_root" sLeads f fd) (T : Tx mg) : FnOk P w K mg base CX0 (k + 1) f fd ["parents", "node"] (spLeads K) := by
  refine F.ok scLeads (fun vs H Q E h => ?_) (fun cdv A outer s H vs Q E hr h => ?_)
  · obtain ⟨a, n, p, x, rfl, _⟩ := h
    rfl
  · obtain ⟨a, n, p, x, rfl, hS, hn, hl, hx, q⟩ := h
    refine ⟨_, pss_cons (ps_set (i := 2) scLeads.nd rfl (.inl rfl) (pv 1))
      (pss_cons (ps_for PassesOwn.never rfl (pi_range1 (by rfl) T.range (pa_cons (pe_callB call_len_seq (by rfl) T.len PySem.boot_len (pa_cons (pv 0) pa_nil)) pa_nil)) (pg_name (i := 3) scLeads.nd rfl (.inl rfl))
        (pss_cons (ps_if (pt_cmpR op_eq (pe_ix ix_tup (pv 0) (pv 2) (fun _ _ => rfl)) (pv 2) (nomark _)) (pss_one (ps_ret pe_bl)) pss_nil)
        (pss_one (ps_set (i := 2) scLeads.nd rfl (.inl rfl) (pe_ix ix_tup (pv 0) (pv 2) (fun _ _ => rfl))))))
      (pss_one (ps_ret pe_bl))), ?_⟩
    refine ⟨_, rfl, _, rfl, a, _, rfl, .inr hS, _, rfl, by rw [tupOf_len]; omega, by rw [tupOf_len]; omega, ?_⟩
    rw [tupOf_len]
    have en : ((n : Nat) : Int).toNat = n := by omega
    refine for_range (lo := 0) (n := ((n : Nat) : Int).toNat) (fun i σ H' => (∃ z3, σ = [some (.ref a), some (vi x), some (vi (root p i x)), z3]) ∧ (∀ j, j < i → p (root p j x) ≠ root p j x) ∧ H' = H) ⟨⟨_, rfl⟩, fun j hj => by omega, rfl⟩ ?_ ?_
    · rintro i σ H' hi ⟨⟨z3, rfl⟩, hno, rfl⟩
      have hr0 : root p i x < n := root_lt0 hl i x hx
      refine ⟨_, rfl, _, rfl, a, _, _, _, rfl, rfl, hS, atI_nat (tupOf_at hr0), _, rfl, rfl, _, rfl, ?_⟩
      show if decide (vi (p (root p i x)) = vi (root p i x)) = true then _ else _
      by_cases e : p (root p i x) = root p i x
      · rw [decide_eq_true (by rw [e])]
        refine iteT ?_
        have : ringB n p x = false := by
          unfold ringB
          obtain ⟨j, rfl⟩ : ∃ j, n = i + j := ⟨n - i, by omega⟩
          rw [root_stay e j, decide_eq_true e]; rfl
        rw [this] at q
        exact q
      · rw [decide_eq_false (fun z => e (by injection z with z; omega))]
        refine iteF ⟨_, rfl, _, rfl, a, _, _, _, rfl, rfl, hS, atI_nat (tupOf_at hr0), ⟨some (.int (0 + (i : Int))), ?_⟩, fun j hj => ?_, rfl⟩
        · rw [root_succ]; rfl
        · by_cases ej : j = i
          · rw [ej]; exact e
          · exact hno j (by omega)
    · rintro σ H' ⟨⟨z3, rfl⟩, hno, rfl⟩
      rw [en] at hno
      have : ringB n p x = true := by
        unfold ringB
        rw [decide_eq_false (fun z => by
          obtain ⟨j, hj, e⟩ := fix_before hl hx z
          exact hno j hj e)]
        rfl
      rw [this] at q
      exact q
end
section
variable {P : Program} {w : World} {K : PySem.W.Frag} {mg : Str → Option Value} {base : Heap}
theorem okB_check {f fL CT CB CC : Addr} {fd fdL : FuncData} {tN : Tok} (F : Fun K "check_forest" "check_forest" sCheck f fd) (k1 : Kn P w K mg base 1 "leads_to_root" sLeads ["parents", "node"] (spLeads K) fL fdL) (T : Tx mg) (tE : mg "enumerate" = none) (gN : mg "MAX_NODES" = some (.int 40 tN)) (RT : Raisable P w K mg base 2 "TooManyNodes" CT "limit" "TooManyNodes") (RB : Raisable P w K mg base 2 "BadParent" CB "node" "BadParent") (RC : Raisable P w K mg base 2 "Cycle" CC "node" "Cycle") :
    FnOk P w K mg base (L2N.CX P w) 4 f fd ["parents"] (spCheckB K CT CB CC) := by
  refine okN F scCheck (fun vs H Q E h => ?_) (fun cdv A outer s H vs Q E hr h tk => ?_)
  · obtain ⟨a, xs, rfl, _⟩ := h
    rfl
  · obtain ⟨a, xs, rfl, hS, hn, h⟩ := h
    refine ⟨_, pss_cons (ps_if (pt_cmpR op_gt (pe_callB call_len_seq (by rfl) T.len PySem.boot_len (pa_cons (pv 0) pa_nil)) (pe_glob (v := .int 40) rfl gN ⟨_, rfl⟩) (nomark _)) (pss_one (L2N.ps_raise rfl tk (pmk_err RT hr (by rfl) (pe_glob (v := .int 40) rfl gN ⟨_, rfl⟩)))) pss_nil)
      (pss_cons (ps_for PassesOwn.leaving rfl (pi_enumT (by rfl) tE (pa_cons (pv 0) pa_nil)) (pg_tup rfl (pgs_cons (pg_name (i := 1) scCheck.nd rfl (.inl rfl)) (pgs_cons (pg_name (i := 2) scCheck.nd rfl (.inl rfl)) pgs_nil)))
        (pss_one (ps_if (pt_not (pt_chain op_le op_lt pe_int (pv 2) (pe_callB call_len_seq (by rfl) T.len PySem.boot_len (pa_cons (pv 0) pa_nil)))) (pss_one (L2N.ps_raise rfl tk (pmk_err RB hr (by rfl) (pv 1)))) pss_nil)))
      (pss_one (ps_for PassesOwn.leaving rfl (pi_range1 (by rfl) T.range (pa_cons (pe_callB call_len_seq (by rfl) T.len PySem.boot_len (pa_cons (pv 0) pa_nil)) pa_nil)) (pg_name (i := 1) scCheck.nd rfl (.inl rfl))
        (pss_one (ps_if (pt_not (pt_val (pe_call k1.G (hr.mono (by decide)) (by rfl) k1.g k1.F.kp k1.b .nil pass0 (pa_cons (pv 0) (pa_cons (pv 1) pa_nil))))) (pss_one (L2N.ps_raise rfl tk (pmk_err RC hr (by rfl) (pv 1)))) pss_nil))))), ?_⟩
    refine ⟨_, rfl, a, _, rfl, .inr hS, _, _, rfl, rfl, _, rfl, ?_⟩
    show if decide ((40 : Int) < ((xs.map V.int).length : Int)) = true then _ else _
    rw [List.length_map]
    unfold CheckO verdict at h
    by_cases h40 : 40 < xs.length
    · rw [decide_eq_true (show (40 : Int) < (xs.length : Int) by omega)]
      rw [if_pos h40] at h
      exact iteT ⟨_, rfl, ⟨40, rfl, by decide⟩, h⟩
    · rw [decide_eq_false (show ¬ (40 : Int) < (xs.length : Int) by omega)]
      rw [if_neg h40] at h
      refine iteF ⟨_, rfl, a, _, rfl, hS, ?_⟩
      refine for_enumT (K := K) (a := a) (xs := xs.map V.int) (fun i σ H' => (∃ z1 z2, σ = [some (.ref a), z1, z2]) ∧ (∀ v, v < i → wideB xs v = false) ∧ Same H H') ⟨⟨_, _, rfl⟩, fun v hv => by omega, Same.refl _⟩ (fun i σ H' _ h => same_sqt h.2.2 hS) ?_ ?_
      · rintro i x σ H' T2 hx ⟨⟨z1, z2, rfl⟩, hw, sm⟩ nT
        have hi : i < xs.length := by have := (List.getElem?_eq_some_iff.mp hx).1; rwa [List.length_map] at this
        rw [List.getElem?_map, List.getElem?_eq_getElem hi] at hx
        cases hx
        have gD : xs.getD i 0 = xs[i] := by rw [List.getD_eq_getElem?_getD, List.getElem?_eq_getElem hi]; rfl
        have s2 := same_new (o := .tup [V.int (i : Int), V.int xs[i]]) nT
        have sm2 := sm.trans s2
        refine ⟨T2, _, rfl, SqT.of upd_same, rfl, _, _, rfl, _, _, rfl, rfl, ?_⟩
        refine ⟨_, rfl, _, _, rfl, rfl, _, rfl, ?_⟩
        show if decide ((0 : Int) ≤ xs[i]) = true then _ else _
        have bad : wideB xs i = true → Flies H E CB "node" "BadParent" (vi i) := fun hb => by
          obtain ⟨rest, er⟩ := filt_first hi hw hb
          unfold wideL at h
          rw [er] at h
          exact h
        have good : (0 : Int) ≤ xs[i] → xs[i] < (xs.length : Int) → ∀ v, v < i + 1 → wideB xs v = false := fun a1 a2 v hv => by
          by_cases e : v = i
          · rw [e]; exact wide_iff.mpr (by rw [gD]; exact ⟨a1, a2⟩)
          · exact hw v (by omega)
        have isbad : ¬ ((0 : Int) ≤ xs[i] ∧ xs[i] < (xs.length : Int)) → wideB xs i = true := fun hb => by
          cases e : wideB xs i with
          | true => rfl
          | false => exact absurd (by have z := wide_iff.mp e; rw [gD] at z; exact z) hb
        by_cases h0 : (0 : Int) ≤ xs[i]
        · rw [decide_eq_true h0]
          refine iteT ⟨_, rfl, a, _, rfl, .inr (same_sqt sm2 hS), _, _, rfl, rfl, _, rfl, ?_⟩
          show if (!decide (xs[i] < ((xs.map V.int).length : Int))) = true then _ else _
          rw [List.length_map]
          by_cases h1 : xs[i] < (xs.length : Int)
          · rw [decide_eq_true h1]
            exact iteF ⟨⟨_, _, rfl⟩, good h0 h1, sm2⟩
          · rw [decide_eq_false h1]
            exact iteT ⟨_, rfl, _, rfl, ⟨_, rfl, bits_ok (by omega) (by omega)⟩, flies_same (bad (isbad fun z => h1 z.2)) sm2⟩
        · rw [decide_eq_false h0]
          refine iteF ⟨_, rfl, ?_⟩
          exact iteT ⟨_, rfl, _, rfl, ⟨_, rfl, bits_ok (by omega) (by omega)⟩, flies_same (bad (isbad fun z => h0 z.1)) sm2⟩
      · rintro σ H' ⟨⟨z1, z2, rfl⟩, hw, sm⟩
        rw [List.length_map] at hw
        have hS2 : SqT K H a (tupOf xs.length (par xs)) := by rw [← row_tup hw]; exact hS
        unfold wideL at h
        rw [filt_none hw] at h
        refine ⟨_, rfl, a, _, rfl, .inr (same_sqt sm hS), _, rfl, by rw [List.length_map]; omega, by rw [List.length_map]; omega, ?_⟩
        rw [List.length_map]
        refine for_range (lo := 0) (n := ((xs.length : Nat) : Int).toNat) (fun i σ H' => (∃ z1 z2, σ = [some (.ref a), z1, z2]) ∧ (∀ v, v < i → ringB xs.length (par xs) v = false) ∧ Same H H') ⟨⟨_, _, rfl⟩, fun v hv => by omega, sm⟩ ?_ ?_
        · rintro i σ H2 hi ⟨⟨z1, z2, rfl⟩, hno, sm2⟩
          have hin : i < xs.length := by omega
          refine ⟨_, rfl, _, rfl, a, xs.length, par xs, i, by show [V.ref a, V.int (0 + (i : Int))] = [V.ref a, V.int (i : Int)]; rw [Int.zero_add], same_sqt sm2 hS2, by omega, par_lt hw, hin, _, rfl, ?_⟩
          cases e : ringB xs.length (par xs) i with
          | false =>
            refine iteF ⟨⟨_, _, rfl⟩, fun v hv => ?_, sm2⟩
            by_cases ev : v = i
            · rw [ev]; exact e
            · exact hno v (by omega)
          | true =>
            obtain ⟨rest, er⟩ := filt_first hin hno e
            unfold ringsL at h
            rw [er] at h
            refine iteT ⟨_, rfl, _, rfl, ⟨_, rfl, bits_ok (by omega) (by omega)⟩, ?_⟩
            rw [Int.zero_add]
            exact flies_same h sm2
        · rintro σ H2 ⟨⟨z1, z2, rfl⟩, hno, sm2⟩
          rw [show ((xs.length : Nat) : Int).toNat = xs.length by omega] at hno
          unfold ringsL at h
          rw [filt_none hno] at h
          exact h H2 sm2
end
section
variable {P : Program} {w : World} {K : PySem.W.Frag} {mg : Str → Option Value} {base : Heap}
theorem ok_isFor {f fC CT CB CC : Addr} {fd fdC : FuncData} (F : Fun K "is_forest" "is_forest" sIsFor f fd) (k1 : KnX P w K mg base 4 "check_forest" ["parents"] (spCheckB K CT CB CC) fC fdC) (gT : mg "TooManyNodes" = some (.ref CT)) (gB : mg "BadParent" = some (.ref CB)) (gC : mg "Cycle" = some (.ref CC))
    (mT : PySem.W.exmAny K (.ref CT) [.ref CT, .ref CB, .ref CC] = some true) (mB : PySem.W.exmAny K (.ref CB) [.ref CT, .ref CB, .ref CC] = some true) (mC : PySem.W.exmAny K (.ref CC) [.ref CT, .ref CB, .ref CC] = some true) :
    FnOk P w K mg base CX0 5 f fd ["parents"] (spIsFor K) := by
  refine F.ok scIsFor (fun vs H Q E h => ?_) (fun cdv A outer s H vs Q E hr h => ?_)
  · obtain ⟨a, xs, rfl, _⟩ := h
    rfl
  · obtain ⟨a, xs, rfl, hS, hn, q⟩ := h
    refine ⟨_, pss_cons (ps_tryC (tb := fun W D σ H => (tCons (tVar 0) tNil) σ H fun vs H1 => spCheckB K CT CB CC vs H1 (fun _ H2 => D.nx σ H2) fun cls d H2 => W cls d σ H2) rfl rfl (Wout := fun _ _ _ _ => False) takesN0
        (fun W pn xe tk _ => pss_one (ps_expr (pe_callN k1.G hr (by rfl) k1.g k1.kp k1.b tk (pa_cons (pv 0) pa_nil))))
        (.only (tst_three (by rfl) gT (by rfl) gB (by rfl) gC) (fun a oe cls d pn hz hd => pss_one (ps_ret pe_bl)) .nil))
      (pss_one (ps_ret pe_bl)), ?_⟩
    refine ⟨_, rfl, a, xs, rfl, hS, hn, ?_⟩
    unfold CheckO
    have q2 := q
    unfold okV at q2
    cases e : verdict xs with
    | ok =>
      rw [e] at q2
      exact fun H1 s1 => q2 H1 s1
    | many =>
      rw [e] at q2
      exact fun d H1 n1 h1 s1 => ⟨true, mT, fun _ ea na => q2 H1 s1, fun z => by cases z⟩
    | bad v =>
      rw [e] at q2
      exact fun d H1 n1 h1 s1 => ⟨true, mB, fun _ ea na => q2 H1 s1, fun z => by cases z⟩
    | cyc v =>
      rw [e] at q2
      exact fun d H1 n1 h1 s1 => ⟨true, mC, fun _ ea na => q2 H1 s1, fun z => by cases z⟩
end
section
variable {P : Program} {w : World} {K : PySem.W.Frag} {mg : Str → Option Value} {base : Heap}
theorem out_no {X : Cx} {kk : Nat} {D : Lam X kk} {f C CF CM : Addr} {σ : L2.St} {H : Hp} {Q : VK} {x fld tag : Str} {v : V} {lv : Nat} (R : Raisable P w K mg base lv x C fld tag) (hex : PySem.W.exmAny K (.ref C) [.ref CF, .ref CM] = some true) (tg : TagOk tag fld) (hA : D.At f H)
    (hc : ∀ Ha E, Same H Ha → Flies Ha E C fld tag v → D.tb E σ Ha fun _ _ => False) (q : ∀ t H2, H t = none → Same H H2 → H2 t = some (.tup [.non, .str tag, v]) → Q (.ref t) H2) : TTout K CF CM (D.does f σ) H Q := by
  intro Ha sa
  refine ⟨fun cls d H1 => cls = .ref C ∧ ∃ dd, d = some dd ∧ H1 dd = some (.xd [(fld, v), ("tag", .str tag)]) ∧ Same Ha H1, fun _ _ => False, ⟨D.same hA (same_ext sa), hc Ha _ sa fun dd H1 n1 h1 s1 => ⟨rfl, dd, rfl, h1, s1⟩⟩, ?_, fun _ _ h => h.elim⟩
  rintro cls d H1 ⟨rfl, dd, rfl, hdd, s1⟩
  exact ⟨hex, tag, fld, v, ⟨C, dd, rfl, R.xf, R.nt, R.nf, rfl, hdd⟩, tg, fun t H2 n s2 e => q t H2 (sm_none (sa.trans s1) n) ((sa.trans s1).trans s2) e⟩
end
section
variable {P : Program} {w : World} {K : PySem.W.Frag} {mg : Str → Option Value} {base : Heap}
theorem out_yes {X : Cx} {kk : Nat} {D : Lam X kk} {f CF CM : Addr} {σ : L2.St} {H : Hp} {Q : VK} (Q1 : Hp → VK) (hA : D.At f H) (hc : ∀ Ha, Same H Ha → D.tb (fun _ _ _ => False) σ Ha (Q1 Ha))
    (q : ∀ Ha v H1, Same H Ha → Q1 Ha v H1 → ∀ t H2, H1 t = none → Same H1 H2 → H2 t = some (.tup [v, .str "", .non]) → Q (.ref t) H2) : TTout K CF CM (D.does f σ) H Q := by
  intro Ha sa
  exact ⟨fun _ _ _ => False, Q1 Ha, ⟨D.same hA (same_ext sa), hc Ha sa⟩, fun _ _ _ h => h.elim, fun v H1 h t H2 n s2 e => q Ha v H1 sa h t H2 n s2 e⟩
end
section
variable {P : Program} {w : World} {K : PySem.W.Frag} {mg : Str → Option Value} {base : Heap}
/-- what is asked answers -/
theorem ask_yes {X : Cx} {kk : Nat} {D : Lam X kk} {f CF CM : Addr} {σ : L2.St} {H : Hp} {Q : VK} (hA : D.At f H) (hc : ∀ Ha, Same H Ha → D.tb (fun _ _ _ => False) σ Ha fun _ H1 => Same Ha H1)
    (q : ∀ t H2, H t = none → Same H H2 → H2 t = some (.tup [.str "", .non]) → Q (.ref t) H2) : TTerr K CF CM (D.does f σ) H Q := by
  intro Ha sa
  exact ⟨fun _ _ _ => False, fun _ H1 => Same Ha H1, ⟨D.same hA (same_ext sa), hc Ha sa⟩, fun _ _ _ h => h.elim, fun v H1 h t H2 n s2 e => q t H2 (sm_none (sa.trans h) n) ((sa.trans h).trans s2) e⟩
end
section
variable {P : Program} {w : World} {K : PySem.W.Frag} {mg : Str → Option Value} {base : Heap}
/-- a list of lambdas, each answering -/
theorem asks_yes {X : Cx} {kk j : Nat} (σ : L2.St) {H : Hp} {CF CM la D : Addr} (fs : List Addr) {Qd : Hp → Prop} (hl : H la = some (.lst (fs.map V.ref))) (nD : H D = none) (hj : j < σ.length) (hm : fs.length ≤ 1000)
    (hf : ∀ f ∈ fs, ∃ L : Lam X kk, L.At f H ∧ ∀ Ha, Same H Ha → L.tb (fun _ _ _ => False) σ Ha fun _ H1 => Same Ha H1)
    (q : ∀ (ts : List Addr) H1, ts.length = fs.length → H1 D = some (.lst (ts.map V.ref)) → (∀ t ∈ ts, H1 t = some (.tup [.str "", .non])) → Same H H1 → Qd H1) :
    ∃ W : Nat → Nat → Hp → Prop, (∃ m, W 0 m (upd H D (.lst []))) ∧ ∀ i m H, W i m H →
      ((Itl K la).stop i H ∧ Qd H) ∨ ((Itl K la).go i H ∧ ∃ Nx : Hp → Prop, (∀ H', Nx H' → ∃ m', m' < m ∧ W (i + 1) m' H') ∧ ∀ x H', (Itl K la).yld i H x H' → gName j x (wipe σ [j]) H' fun σ2 H2 => wipe σ2 [j] = wipe σ [j] ∧ tYes σ2 H2 fun b H3 =>
        if b = true then (∃ (f : Addr) (L : Lam X kk), σ2[j]? = some (some (.ref f)) ∧ TTerr K CF CM (L.does f σ) H3 fun y H4 => ∃ acc, H4 D = some (.lst acc) ∧ acc.length < sizeLine ∧ Nx (upd H4 D (.lst (acc ++ [y])))) else Nx H3) := by
  refine lc_list (K := K) (a := la) (xs := fs.map V.ref) (g := gName j) (tt := tYes) (te := fun σ1 H1 Q => ∃ (f : Addr) (D : Lam X kk), σ1[j]? = some (some (.ref f)) ∧ TTerr K CF CM (D.does f σ) H1 Q) (vs := [j]) (σ := σ) (Qd := Qd) (fun i H1 => ∃ ts : List Addr, ts.length = i ∧ H1 D = some (.lst (ts.map V.ref)) ∧ (∀ t ∈ ts, H1 t = some (.tup [.str "", .non])) ∧ Same H H1)
    ⟨[], rfl, upd_same, by simp, same_new nD⟩ (fun i H1 _ h => h.elim fun ts h => SqL.of (h.2.2.2 _ _ hl)) ?_ ?_
  · rintro k y H1 hy ⟨ts, hlen, hD, hts, s1⟩
    rw [List.getElem?_map] at hy
    obtain ⟨f, hff, rfl⟩ := Option.map_eq_some_iff.mp hy
    obtain ⟨L, hA, hc⟩ := hf f (List.mem_of_getElem? hff)
    have hk : k < fs.length := (List.getElem?_eq_some_iff.mp hff).1
    refine ⟨wipe_one, f, L, List.getElem?_set_self (by rw [wipe_length]; exact hj), ?_⟩
    refine ask_yes (L.same hA (same_ext s1)) (fun Ha sa => hc Ha (s1.trans sa)) fun t H2 nt s2 e => ?_
    have nDt : t ≠ D := (ne_of_none hD nt).symm
    refine ⟨_, s2 _ _ hD, by rw [List.length_map, hlen]; exact Nat.lt_of_le_of_lt (show k ≤ 1000 by omega) (by decide), ts ++ [t], by rw [List.length_append, hlen]; rfl, by rw [upd_same, List.map_append]; rfl, fun t2 h2 => ?_, same_over (s1.trans s2) nD⟩
    rcases List.mem_append.mp h2 with h2 | h2
    · have e2 := hts t2 h2
      rw [upd_ne (ne_of e2 hD (by intro z; cases z))]
      exact s2 _ _ e2
    · rw [List.mem_singleton.mp h2, upd_ne nDt]
      exact e
  · rintro H1 ⟨ts, hlen, hD, hts, s1⟩
    rw [List.length_map] at hlen
    exact q ts H1 hlen hD hts s1
end
section
variable {P : Program} {w : World} {K : PySem.W.Frag} {mg : Str → Option Value} {base : Heap}
/-- the same tuple many times, as data -/
def dReps (m : Nat) (d : PyData) : PyData := .list (List.replicate m d)
end
section
variable {P : Program} {w : World} {K : PySem.W.Frag} {mg : Str → Option Value} {base : Heap}
theorem dp_reps {H : Hp} {xs : List V} {ds : List PyData} (hd : DpAll K H xs ds) : ∀ {ts : List Addr}, (∀ t ∈ ts, H t = some (.tup xs)) → DpAll K H (ts.map V.ref) (List.replicate ts.length (.tuple ds))
  | [], _ => .nil
  | t :: r, h => .cons (.tup (SqT.of (h t List.mem_cons_self)) hd) (dp_reps hd fun u hu => h u (List.mem_cons_of_mem _ hu))
end
section
variable {P : Program} {w : World} {K : PySem.W.Frag} {mg : Str → Option Value} {base : Heap}
theorem shaped_reps {m : Nat} {tag : Str} (h : PyData.strOk tag = true) (hm : m ≤ 8) {d : PyData} (hd : d = .none ∨ ∃ z, d = .int z) : SeqAt.shaped (dReps m (.tuple [.str tag, d])) = true := by
  unfold SeqAt.shaped dReps
  have e : ∀ m, PyData.canLayAll0 (List.replicate m (.tuple [.str tag, d])) = true ∧ PyData.depthAll (List.replicate m (.tuple [.str tag, d])) ≤ 2 := by
    intro m
    induction m with
    | zero => exact ⟨by simp [PyData.canLayAll0], by simp [PyData.depthAll]⟩
    | succ m ih =>
      obtain ⟨i1, i2⟩ := ih
      rw [List.replicate_succ]
      refine ⟨?_, ?_⟩
      · rcases hd with rfl | ⟨z, rfl⟩ <;> simp [PyData.canLay0, PyData.canLayAll0, h, i1]
      · rcases hd with rfl | ⟨z, rfl⟩ <;> (rw [PyData.depthAll]; simp only [PyData.depth, PyData.depthAll]; omega)
  obtain ⟨e1, e2⟩ := e m
  simp [PyData.canLay0, PyData.depth, e1]
  omega
end
/-- one given by its place, one by its keyword -/
def swA {α : Type} : List α → List α → List α
  | [a], [b] => [a, b]
  | _, _ => []
theorem swA_rel {vs : List V} {us : List Value} {zs : List V} {ws : List Value} (r : Vals vs us) (s : Vals zs ws) : Vals (swA vs zs) (swA us ws) := by
  cases r with
  | nil => exact .nil
  | cons h1 t1 =>
    cases t1 with
    | cons _ _ => exact .nil
    | nil =>
      cases s with
      | nil => exact .nil
      | cons h2 t2 =>
        cases t2 with
        | nil => exact .cons h1 (.cons h2 .nil)
        | cons _ _ => exact .nil
theorem fun_swA {K : PySem.W.Frag} {x qual : Str} {st : Stmt} {f : Addr} {fd : FuncData} {a b : Str} (F : Fun K x qual st f fd)
    (h : ∀ (kV doc pm : Value) (an : Option Addr) (cdv ct : Value) (u v : Value), bindArgs (PySem.W.fnOf x qual (defArgs st) (defBody st) (defScope st) .none kV doc pm an cdv ct) ⟨[u], [(b, v)]⟩ = pure [(a, u), (b, v)]) : KBinds K fd [a, b] [b] swA swA := by
  obtain ⟨oc, od, kV, doc, pm, an, cdv, ct, osl, rfl, lk, hcd⟩ := F.ex
  refine ⟨fun s us ws _ hl => ?_, swA_rel⟩
  match us, ws, hl with
  | [u], [v], _ => exact .of_eq (h kV doc pm an cdv ct u v)
/-- a list of pairs of ints, each a tuple -/
inductive PrL (H : Hp) : List V → List (Int × Int) → Prop
  | nil : PrL H [] []
  | cons {t : Addr} {xs : List V} {x y : Int} {ps : List (Int × Int)} (h : H t = some (.tup [.int x, .int y])) (r : PrL H xs ps) : PrL H (.ref t :: xs) ((x, y) :: ps)
theorem PrL.same {H H' : Hp} {xs : List V} {ps : List (Int × Int)} (h : PrL H xs ps) (s : Same H H') : PrL H' xs ps := by
  induction h with
  | nil => exact .nil
  | cons h r ih => exact .cons (s _ _ h) ih
theorem PrL.ext {H H' : Hp} {xs : List V} {ps : List (Int × Int)} (h : PrL H xs ps) (s : ExtN H H') : PrL H' xs ps := by
  induction h with
  | nil => exact .nil
  | cons h r ih => exact .cons (s _ _ h (by intro ps z; cases z)) ih
theorem PrL.sb {H H' : Hp} {d : Addr} {xs : List V} {ps : List (Int × Int)} (h : PrL H xs ps) (s : Sb d H H') (hd : ∃ ys, H d = some (.lst ys)) : PrL H' xs ps := by
  obtain ⟨ys, hd⟩ := hd
  induction h with
  | nil => exact .nil
  | cons h r ih => exact .cons (s _ _ (ne_of h hd (by intro z; cases z)) h) ih
theorem PrL.upd {H : Hp} {D : Addr} {acc acc' : List V} {xs : List V} {ps : List (Int × Int)} (h : PrL H xs ps) (hD : H D = some (.lst acc)) : PrL (L2.upd H D (.lst acc')) xs ps := by
  induction h with
  | nil => exact .nil
  | cons h r ih => exact .cons (by rw [upd_ne (ne_of h hD (by intro z; cases z))]; exact h) ih
theorem PrL.len {H : Hp} {xs : List V} {ps : List (Int × Int)} (h : PrL H xs ps) : xs.length = ps.length := by
  induction h with
  | nil => rfl
  | cons h r ih => simp [ih]
theorem PrL.app {H : Hp} {xs ys : List V} {ps qs : List (Int × Int)} (h : PrL H xs ps) (h2 : PrL H ys qs) : PrL H (xs ++ ys) (ps ++ qs) := by
  induction h with
  | nil => exact h2
  | cons h r ih => exact .cons h ih
theorem PrL.get {H : Hp} {xs : List V} {ps : List (Int × Int)} (h : PrL H xs ps) : ∀ {i : Nat} {v : V}, xs[i]? = some v → ∃ t x y, v = .ref t ∧ ps[i]? = some (x, y) ∧ H t = some (.tup [.int x, .int y]) := by
  induction h with
  | nil => intro i v e; simp at e
  | cons h r ih =>
    intro i v e
    cases i with
    | zero => exact ⟨_, _, _, (Option.some.inj e).symm, rfl, h⟩
    | succ i => exact ih e
theorem PrL.take {H : Hp} {xs : List V} {ps : List (Int × Int)} (h : PrL H xs ps) : ∀ k : Nat, PrL H (xs.take k) (ps.take k) := by
  induction h with
  | nil => intro k; simp; exact .nil
  | cons h r ih =>
    intro k
    cases k with
    | zero => exact .nil
    | succ k => exact .cons h (ih k)
theorem PrL.drop {H : Hp} {xs : List V} {ps : List (Int × Int)} (h : PrL H xs ps) : ∀ k : Nat, PrL H (xs.drop k) (ps.drop k) := by
  induction h with
  | nil => intro k; simp; exact .nil
  | cons h r ih =>
    intro k
    cases k with
    | zero => exact .cons h r
    | succ k => exact ih k
def prD (p : Int × Int) : PyData := .tuple [.int p.1, .int p.2]
theorem PrL.dp {K : PySem.W.Frag} {H : Hp} {xs : List V} {ps : List (Int × Int)} (h : PrL H xs ps) : DpAll K H xs (ps.map prD) := by
  induction h with
  | nil => exact .nil
  | cons h r ih => exact .cons (.tup (SqT.of h) (.cons (.int _) (.cons (.int _) .nil))) ih
theorem prs_lay : ∀ ps : List (Int × Int), PyData.canLayAll0 (ps.map prD) = true ∧ PyData.depthAll (ps.map prD) ≤ 2
  | [] => ⟨by simp [PyData.canLayAll0], by simp [PyData.depthAll]⟩
  | p :: ps => by
    obtain ⟨i1, i2⟩ := prs_lay ps
    rw [List.map_cons]
    refine ⟨by simp [prD, PyData.canLay0, PyData.canLayAll0, i1], ?_⟩
    rw [PyData.depthAll]
    simp only [prD, PyData.depth, PyData.depthAll] at i2 ⊢
    omega
theorem shaped_prs (ps : List (Int × Int)) : SeqAt.shaped (.list (ps.map prD)) = true := by
  obtain ⟨e1, e2⟩ := prs_lay ps
  unfold SeqAt.shaped
  simp [PyData.canLay0, PyData.depth, e1]
  omega
theorem shaped_pr (p : Int × Int) : SeqAt.shaped (prD p) = true := by
  unfold SeqAt.shaped prD
  simp [PyData.canLay0, PyData.canLayAll0, PyData.depth, PyData.depthAll]
theorem eqv_pr (p q : Int × Int) : PyData.eqv (prD p) (prD q) = decide (p = q) := by
  obtain ⟨a, b⟩ := p
  obtain ⟨c, d⟩ := q
  unfold prD
  simp [PyData.eqv, PyData.eqvAll, Prod.mk.injEq]
  rfl
theorem eqv_prs_nil : ∀ ps : List (Int × Int), PyData.eqv (.list (ps.map prD)) (.list []) = decide (ps = [])
  | [] => by simp [PyData.eqv, PyData.eqvAll]
  | p :: ps => by simp [PyData.eqv, PyData.eqvAll]
theorem any_prs (ps : List (Int × Int)) (p : Int × Int) : ((ps.map prD).any fun z => PyData.eqv z (prD p)) = decide (p ∈ ps) := by
  rw [Bool.eq_iff_iff, List.any_map, List.any_eq_true, decide_eq_true_iff]
  constructor
  · rintro ⟨x, hx, e⟩
    have e : PyData.eqv (prD x) (prD p) = true := e
    rw [eqv_pr] at e
    rw [← of_decide_eq_true e]; exact hx
  · intro h
    exact ⟨p, h, by show PyData.eqv (prD p) (prD p) = true; rw [eqv_pr]; simp⟩
theorem sm_prs {k : Nat} {ps : List (Int × Int)} (h : ps.length ≤ 1000) : Sm (k + 2) (.list (ps.map prD)) := by
  refine .lst (by rw [List.length_map]; exact h) fun d hd => ?_
  obtain ⟨p, _, e⟩ := List.mem_map.mp hd
  rw [← e]
  refine .tup (by show 2 ≤ 1000; decide) fun x hx => ?_
  simp only [List.mem_cons, List.not_mem_nil, or_false] at hx
  rcases hx with z | z <;> rw [z] <;> exact .int _ _
abbrev sIsFnd : Stmt := topS 20
abbrev isFndN : List Str := ["step"]
theorem scIsFnd : FnScope isFndN ["step"] (defScope sIsFnd) := ⟨rfl, rfl, rfl, by decide +kernel, rfl, by decide +kernel, by decide +kernel⟩
abbrev sForm : Stmt := topS 21
abbrev formN : List Str := ["step", "word"]
theorem scForm : FnScope formN ["step", "word"] (defScope sForm) := ⟨rfl, rfl, rfl, by decide +kernel, rfl, by decide +kernel, by decide +kernel⟩
abbrev sIsLnk : Stmt := topS 22
abbrev isLnkN : List Str := ["step"]
theorem scIsLnk : FnScope isLnkN ["step"] (defScope sIsLnk) := ⟨rfl, rfl, rfl, by decide +kernel, rfl, by decide +kernel, by decide +kernel⟩
abbrev sIsRnd : Stmt := topS 23
abbrev isRndN : List Str := ["step"]
theorem scIsRnd : FnScope isRndN ["step"] (defScope sIsRnd) := ⟨rfl, rfl, rfl, by decide +kernel, rfl, by decide +kernel, by decide +kernel⟩
abbrev sMay : Stmt := topS 24
abbrev mayN : List Str := ["step", "depth"]
theorem scMay : FnScope mayN ["step", "depth"] (defScope sMay) := ⟨rfl, rfl, rfl, by decide +kernel, rfl, by decide +kernel, by decide +kernel⟩
abbrev sChkS : Stmt := topS 25
abbrev chkSN : List Str := ["steps", "depth", "pos", "step"]
theorem scChkS : FnScope chkSN ["steps", "depth", "pos"] (defScope sChkS) := ⟨rfl, rfl, rfl, by decide +kernel, rfl, by decide +kernel, by decide +kernel⟩
abbrev sChkH : Stmt := topS 26
abbrev chkHN : List Str := ["history"]
theorem scChkH : FnScope chkHN ["history"] (defScope sChkH) := ⟨rfl, rfl, rfl, by decide +kernel, rfl, by decide +kernel, by decide +kernel⟩
abbrev findsN : List Str := ["steps", "total", "step"]
abbrev cntFN : List Str := ["history"]
def ob (kd : Bool) (xs : List V) : HO := if kd = true then .lst xs else .tup xs
theorem ob_kd {kd : Bool} {K : PySem.W.Frag} {H : Hp} {a : Addr} {xs : List V} (h : H a = some (ob kd xs)) : Kd kd K H a xs := by
  cases kd
  · exact Kd.t (SqT.of h)
  · exact Kd.l (SqL.of h)
theorem ob_sq {kd : Bool} {K : PySem.W.Frag} {H : Hp} {a : Addr} {xs : List V} (h : H a = some (ob kd xs)) : Sq K H a xs := by
  cases kd
  · exact .inr (SqT.of h)
  · exact .inl (SqL.of h)
mutual
/-- a value that is a step -/
inductive StAt (H : Hp) : V → Stp → Prop
  | fnd (z : Int) : StAt H (.int z) (.fnd z)
  | lnk {t : Addr} {c a : Int} : H t = some (.tup [.str "link", .int c, .int a]) → StAt H (.ref t) (.lnk c a)
  | rnd {t b : Addr} {k : Int} {kd : Bool} {xs : List V} {ss : List Stp} : H t = some (.tup [.str "repeat", .int k, .ref b]) → H b = some (ob kd xs) → StsAt H xs ss → StAt H (.ref t) (.rnd k kd ss)
inductive StsAt (H : Hp) : List V → List Stp → Prop
  | nil : StsAt H [] []
  | cons {v : V} {xs : List V} {s : Stp} {ss : List Stp} : StAt H v s → StsAt H xs ss → StsAt H (v :: xs) (s :: ss)
end
mutual
theorem StAt.same {H H' : Hp} (e : Same H H') : ∀ {v : V} {s : Stp}, StAt H v s → StAt H' v s
  | _, _, .fnd z => .fnd z
  | _, _, .lnk h => .lnk (e _ _ h)
  | _, _, .rnd h1 h2 h3 => .rnd (e _ _ h1) (e _ _ h2) (StsAt.same e h3)
theorem StsAt.same {H H' : Hp} (e : Same H H') : ∀ {xs : List V} {ss : List Stp}, StsAt H xs ss → StsAt H' xs ss
  | _, _, .nil => .nil
  | _, _, .cons h r => .cons (StAt.same e h) (StsAt.same e r)
end
theorem ob_tab {kd : Bool} {xs : List V} (ps : Array Value) : ob kd xs ≠ .tbl ps := by cases kd <;> (intro z; cases z)
mutual
theorem StAt.ext {H H' : Hp} (e : ExtN H H') : ∀ {v : V} {s : Stp}, StAt H v s → StAt H' v s
  | _, _, .fnd z => .fnd z
  | _, _, .lnk h => .lnk (e _ _ h (by intro ps z; cases z))
  | _, _, .rnd h1 h2 h3 => .rnd (e _ _ h1 (by intro ps z; cases z)) (e _ _ h2 ob_tab) (StsAt.ext e h3)
theorem StsAt.ext {H H' : Hp} (e : ExtN H H') : ∀ {xs : List V} {ss : List Stp}, StsAt H xs ss → StsAt H' xs ss
  | _, _, .nil => .nil
  | _, _, .cons h r => .cons (StAt.ext e h) (StsAt.ext e r)
end
theorem StAt.not_list {H : Hp} {l : Addr} {ys : List V} {s : Stp} (h : StAt H (.ref l) s) (hl : H l = some (.lst ys)) : False := by
  cases h with
  | lnk h => rw [hl] at h; cases h
  | rnd h _ _ => rw [hl] at h; cases h
theorem DrawAt.ne_steps {H : Hp} {d l b : Addr} {kd : Bool} {xs : List V} {ss : List Stp} (D : DrawAt H d l) (hb : H b = some (ob kd xs)) (h : StsAt H xs ss) : b ≠ d := by
  intro z
  subst z
  obtain ⟨ns, i, j, k, h1, h2, _⟩ := D
  rw [h1] at hb
  cases kd with
  | false => cases Option.some.inj hb
  | true =>
    have hb : some (HO.lst _) = some (HO.lst xs) := hb
    injection hb with hb
    injection hb with hb
    subst hb
    cases h with
    | cons h _ => exact h.not_list h2
mutual
theorem StAt.sb {H H' : Hp} {d l : Addr} (D : DrawAt H d l) (e : Sb d H H') : ∀ {v : V} {s : Stp}, StAt H v s → StAt H' v s
  | _, _, .fnd z => .fnd z
  | _, _, .lnk h => .lnk (e _ _ (D.net h) h)
  | _, _, .rnd h1 h2 h3 => .rnd (e _ _ (D.net h1) h1) (e _ _ (D.ne_steps h2 h3) h2) (StsAt.sb D e h3)
theorem StsAt.sb {H H' : Hp} {d l : Addr} (D : DrawAt H d l) (e : Sb d H H') : ∀ {xs : List V} {ss : List Stp}, StsAt H xs ss → StsAt H' xs ss
  | _, _, .nil => .nil
  | _, _, .cons h r => .cons (StAt.sb D e h) (StsAt.sb D e r)
end
theorem StsAt.len {H : Hp} : ∀ {xs : List V} {ss : List Stp}, StsAt H xs ss → xs.length = ss.length
  | _, _, .nil => rfl
  | _, _, .cons h r => by simp [StsAt.len r]
theorem StsAt.get {H : Hp} : ∀ {xs : List V} {ss : List Stp}, StsAt H xs ss → ∀ {i : Nat} {v : V}, xs[i]? = some v → ∃ s, ss[i]? = some s ∧ StAt H v s
  | _, _, .nil, i, v, e => by simp at e
  | _, _, .cons h r, 0, v, e => by cases Option.some.inj e; exact ⟨_, rfl, h⟩
  | _, _, .cons h r, i + 1, v, e => StsAt.get r e
theorem StsAt.app {H : Hp} : ∀ {xs ys : List V} {ss rr : List Stp}, StsAt H xs ss → StsAt H ys rr → StsAt H (xs ++ ys) (ss ++ rr)
  | _, _, _, _, .nil, h2 => h2
  | _, _, _, _, .cons h r, h2 => .cons h (StsAt.app r h2)
theorem StsAt.take {H : Hp} : ∀ {xs : List V} {ss : List Stp}, StsAt H xs ss → ∀ k, StsAt H (xs.take k) (ss.take k)
  | _, _, .nil, k => by simp; exact .nil
  | _, _, .cons h r, 0 => .nil
  | _, _, .cons h r, k + 1 => .cons h (StsAt.take r k)
theorem StsAt.drop {H : Hp} : ∀ {xs : List V} {ss : List Stp}, StsAt H xs ss → ∀ k, StsAt H (xs.drop k) (ss.drop k)
  | _, _, .nil, k => by simp; exact .nil
  | _, _, .cons h r, 0 => .cons h r
  | _, _, .cons h r, k + 1 => StsAt.drop r k
def isF : Stp → Bool
  | .fnd _ => true
  | _ => false
def isL : Stp → Bool
  | .lnk _ _ => true
  | _ => false
def isR : Stp → Bool
  | .rnd _ _ _ => true
  | _ => false
def spIsFnd : Sp := fun vs H Q _ => ∃ (v : V) (s : Stp), vs = [v] ∧ StAt H v s ∧ Q (.bl (isF s)) H
def spForm : Sp := fun vs H Q _ => ∃ (v : V) (s : Stp) (lk : Bool), vs = [v, .str (if lk = true then "link" else "repeat")] ∧ StAt H v s ∧ Q (.bl (if lk = true then isL s else isR s)) H
def spIsLnk : Sp := fun vs H Q _ => ∃ (v : V) (s : Stp), vs = [v] ∧ StAt H v s ∧ Q (.bl (isL s)) H
def spIsRnd : Sp := fun vs H Q _ => ∃ (v : V) (s : Stp) (top : Bool), vs = [v] ∧ StAt H v s ∧ Wf top s ∧ ∀ H', Same H H' → Q (.bl (isR s)) H'
def spMay : Sp := fun vs H Q _ => ∃ (v : V) (s : Stp) (dep : Nat), vs = [v, vi dep] ∧ StAt H v s ∧ Wf (decide (dep = 0)) s ∧ dep + nest s ≤ 4 ∧ ∀ H', Same H H' → Q (.bl true) H'
def spChkS (n : Nat) : Sp := fun vs H Q _ => ∃ (kd : Bool) (a : Addr) (xs : List V) (ss : List Stp) (dep pos : Nat), vs = [.ref a, vi dep, vi pos] ∧ H a = some (ob kd xs) ∧ StsAt H xs ss ∧ Wfs (decide (dep = 0)) ss ∧ nests ss ≤ n ∧ dep + nests ss ≤ 4 ∧ pos + nWrs ss ≤ 100 ∧ ∀ H', Same H H' → Q (vi (pos + nWrs ss)) H'
def spChkH (n : Nat) : Sp := fun vs H Q _ => ∃ (kd : Bool) (a : Addr) (xs : List V) (ss : List Stp), vs = [.ref a] ∧ H a = some (ob kd xs) ∧ StsAt H xs ss ∧ Wfs true ss ∧ nests ss ≤ n ∧ n ≤ 4 ∧ nWrs ss ≤ 100 ∧ ∀ H', Same H H' → Q .non H'
def spFinds (n : Nat) : Sp := fun vs H Q _ => ∃ (kd : Bool) (a : Addr) (xs : List V) (ss : List Stp) (top : Bool), vs = [.ref a] ∧ H a = some (ob kd xs) ∧ StsAt H xs ss ∧ Wfs top ss ∧ nests ss ≤ n ∧ nests ss ≤ 10 ∧ nWrs ss ≤ 1000 ∧ ∀ H', Same H H' → Q (.int (nFnds ss)) H'
def spCntF (n : Nat) : Sp := fun vs H Q _ => ∃ (kd : Bool) (a : Addr) (xs : List V) (ss : List Stp), vs = [.ref a] ∧ H a = some (ob kd xs) ∧ StsAt H xs ss ∧ Wfs true ss ∧ nests ss ≤ n ∧ n ≤ 4 ∧ nWrs ss ≤ 100 ∧ ∀ H', Same H H' → Q (.int (nFnds ss)) H'
theorem nWr_pos : ∀ s : Stp, 1 ≤ nWr s
  | .fnd _ => by rw [nWr]; omega
  | .lnk _ _ => by rw [nWr]; omega
  | .rnd _ _ ss => by rw [nWr]; omega
theorem nWrs_take_le (ss : List Stp) (i : Nat) : nWrs (ss.take i) ≤ nWrs ss := by
  have h := nWrs_app (ss.take i) (ss.drop i)
  rw [List.take_append_drop] at h
  omega
theorem nWrs_mem : ∀ {ss : List Stp} {s : Stp}, s ∈ ss → nWr s ≤ nWrs ss
  | x :: l, s, h => by
    rw [nWrs]
    rcases List.mem_cons.mp h with e | h
    · rw [e]; omega
    · have := nWrs_mem h; omega
theorem lim_bits : lim30.natAbs < 2 ^ 100 := by decide
theorem pow_bits : ∀ n : Nat, (lim30 ^ n).natAbs < 2 ^ (100 * n + 1)
  | 0 => by rw [Int.pow_zero]; decide
  | n + 1 => by
    have := wide_lt (pow_bits n) lim_bits
    rw [Int.pow_succ, show 100 * (n + 1) + 1 = 100 * n + 1 + 100 by omega]
    exact this
theorem nFnds_bits {top : Bool} {ss : List Stp} (w : Wfs top ss) (hn : nests ss ≤ 10) (hw : nWrs ss ≤ 1000) : (nFnds ss).natAbs < 2 ^ 1011 := by
  have h0 := nFnds_nonneg ss w
  have h1 := nFnds_le ss w
  have hp : lim30 ^ nests ss ≤ lim30 ^ 10 := pow_mono hn
  have h2 : (nWrs ss : Int) * lim30 ^ nests ss ≤ 1000 * lim30 ^ 10 := Int.mul_le_mul (by omega) hp (Int.pow_nonneg (by have := lim_pos; omega)) (by decide)
  have h3 : (1000 * lim30 ^ 10).natAbs < 2 ^ 1011 := by
    have := wide_lt (i := 1000) (a := 10) (by decide) (pow_bits 10)
    exact this
  exact wide_le h0 (by omega) h3
section
variable {P : Program} {w : World} {K : PySem.W.Frag} {mg : Str → Option Value} {base : Heap}
theorem ok_isFnd {f : Addr} {fd : FuncData} {k : Nat} (F : Fun K "is_find" "is_find" sIsFnd f fd) (TS : TxS mg) : FnOk P w K mg base CX0 (k + 1) f fd ["step"] spIsFnd := by
  refine F.ok scIsFnd (fun vs H Q E h => ?_) (fun cdv A outer s H vs Q E hr h => ?_)
  · obtain ⟨v, st, rfl, _⟩ := h
    rfl
  · obtain ⟨v, st, rfl, hs, q⟩ := h
    refine ⟨_, (pss_one (ps_ret (pe_callB call_isi (by rfl) TS.isinstance (by decide +kernel) (pa_cons (pv 0) (pa_cons (pe_ty (n := "int") (by rfl) TS.int (by decide +kernel)) pa_nil))))), ?_⟩
    cases hs with
    | fnd z => exact ⟨_, rfl, _, _, _, _, _, rfl, .ty _, .base (.int z), kit_ty (r := true) (by decide +kernel), q⟩
    | lnk h => exact ⟨_, rfl, _, _, _, _, _, rfl, .ty _, .base (.tup h), kit_ty (r := false) (by decide +kernel), q⟩
    | rnd h _ _ => exact ⟨_, rfl, _, _, _, _, _, rfl, .ty _, .base (.tup h), kit_ty (r := false) (by decide +kernel), q⟩
end
section
variable {P : Program} {w : World} {K : PySem.W.Frag} {mg : Str → Option Value} {base : Heap}
theorem ok_form {f : Addr} {fd : FuncData} {k : Nat} (F : Fun K "has_form" "has_form" sForm f fd) (T : Tx mg) (TS : TxS mg) : FnOk P w K mg base CX0 (k + 1) f fd ["step", "word"] spForm := by
  refine F.ok scForm (fun vs H Q E h => ?_) (fun cdv A outer s H vs Q E hr h => ?_)
  · obtain ⟨v, st, lk, rfl, _⟩ := h
    rfl
  · obtain ⟨v, st, lk, rfl, hs, q⟩ := h
    refine ⟨_, (pss_one (ps_ret (pe_and (pe_callB call_isi (by rfl) TS.isinstance (by decide +kernel) (pa_cons (pv 0) (pa_cons (pe_ty (n := "tuple") (by rfl) TS.tuple (by decide +kernel)) pa_nil))) (pe_and (pe_cmpR op_eq (pe_callB call_len_seq (by rfl) T.len PySem.boot_len (pa_cons (pv 0) pa_nil)) pe_int (nomark _)) (pe_one (pe_cmpR op_eq (pe_ix (show IxR _ (rIx K) from ix_seq) (pv 0) pe_int (fun _ _ => rfl)) (pv 1) (nomark _))))))), ?_⟩
    cases hs with
    | fnd z => exact ⟨_, rfl, _, _, _, _, _, rfl, .ty _, .base (.int z), kit_ty (r := false) (by decide +kernel), _, rfl, iteF (by cases lk <;> exact q)⟩
    | lnk h =>
      refine ⟨_, rfl, _, _, _, _, _, rfl, .ty _, .base (.tup h), kit_ty (r := true) (by decide +kernel), _, rfl, iteT ?_⟩
      refine ⟨_, rfl, _, _, rfl, .inr (SqT.of h), rfl, _, rfl, iteT ?_⟩
      refine ⟨_, rfl, Sq.ix (.inr (SqT.of h)) rfl ⟨_, rfl, rfl, ?_⟩⟩
      cases lk <;> exact q
    | rnd h _ _ =>
      refine ⟨_, rfl, _, _, _, _, _, rfl, .ty _, .base (.tup h), kit_ty (r := true) (by decide +kernel), _, rfl, iteT ?_⟩
      refine ⟨_, rfl, _, _, rfl, .inr (SqT.of h), rfl, _, rfl, iteT ?_⟩
      refine ⟨_, rfl, Sq.ix (.inr (SqT.of h)) rfl ⟨_, rfl, rfl, ?_⟩⟩
      cases lk <;> exact q
end
section
variable {P : Program} {w : World} {K : PySem.W.Frag} {mg : Str → Option Value} {base : Heap}
theorem ok_isLnk {f fA : Addr} {fd fdA : FuncData} (F : Fun K "is_link" "is_link" sIsLnk f fd) (kA : Kn P w K mg base 1 "has_form" sForm ["step", "word"] spForm fA fdA) (TS : TxS mg) : FnOk P w K mg base CX0 2 f fd ["step"] spIsLnk := by
  refine F.ok scIsLnk (fun vs H Q E h => ?_) (fun cdv A outer s H vs Q E hr h => ?_)
  · obtain ⟨v, st, rfl, _⟩ := h
    rfl
  · obtain ⟨v, st, rfl, hs, q⟩ := h
    have hrm : ∀ {j : Nat}, j ≤ 1 → Room j (A.deeper (envOfC "is_link" (defScope sIsLnk) s.heap.objs.size f cdv)) := fun h => hr.mono h
    refine ⟨_, (pss_one (ps_ret (pe_and (pe_call kA.G (hrm (by omega)) (by rfl) kA.g kA.F.kp kA.b .nil pass0 (pa_cons (pv 0) (pa_cons pe_str pa_nil))) (pe_one (pe_callB call_isi (by rfl) TS.isinstance (by decide +kernel) (pa_cons (pe_ix (show IxR _ (rIx K) from ix_seq) (pv 0) pe_int (fun _ _ => rfl)) (pa_cons (pe_ty (n := "int") (by rfl) TS.int (by decide +kernel)) pa_nil))))))), ?_⟩
    refine ⟨_, rfl, v, st, true, rfl, hs, _, rfl, ?_⟩
    cases hs with
    | fnd z => exact iteF q
    | lnk h => exact iteT ⟨_, rfl, Sq.ix (.inr (SqT.of h)) rfl ⟨_, _, _, _, _, rfl, .ty _, .base (.int _), kit_ty (r := true) (by decide +kernel), q⟩⟩
    | rnd h _ _ => exact iteF q
end
section
variable {P : Program} {w : World} {K : PySem.W.Frag} {mg : Str → Option Value} {base : Heap}
theorem ok_isRnd {f fA : Addr} {fd fdA : FuncData} {tL : Tok} (F : Fun K "is_round" "is_round" sIsRnd f fd) (kA : Kn P w K mg base 1 "has_form" sForm ["step", "word"] spForm fA fdA) (TS : TxS mg) (gL : mg "COUNT_LIMIT" = some (.int 1000000000000000000000000000000 tL)) : FnOk P w K mg base CX0 2 f fd ["step"] spIsRnd := by
  refine F.ok scIsRnd (fun vs H Q E h => ?_) (fun cdv A outer s H vs Q E hr h => ?_)
  · obtain ⟨v, st, top, rfl, _⟩ := h
    rfl
  · obtain ⟨v, st, top, rfl, hs, wf, q⟩ := h
    have hrm : ∀ {j : Nat}, j ≤ 1 → Room j (A.deeper (envOfC "is_round" (defScope sIsRnd) s.heap.objs.size f cdv)) := fun h => hr.mono h
    refine ⟨_, (pss_one (ps_ret (pe_and (pe_call kA.G (hrm (by omega)) (by rfl) kA.g kA.F.kp kA.b .nil pass0 (pa_cons (pv 0) (pa_cons pe_str pa_nil))) (pe_and (pe_callB call_isiT (by rfl) TS.isinstance (by decide +kernel) (pa_cons (pe_ix (show IxR _ (rIx K) from ix_seq) (pv 0) pe_int (fun _ _ => rfl)) (pa_cons (pe_tup (pa_cons (pe_ty (n := "list") (by rfl) TS.list (by decide +kernel)) (pa_cons (pe_ty (n := "tuple") (by rfl) TS.tuple (by decide +kernel)) pa_nil))) pa_nil))) (pe_one (pe_chain op_le op_le pe_int (pe_ix (show IxR _ (rIx K) from ix_seq) (pv 0) pe_int (fun _ _ => rfl)) (pe_glob (v := .int 1000000000000000000000000000000) rfl gL ⟨_, rfl⟩))))))), ?_⟩
    refine ⟨_, rfl, v, st, false, rfl, hs, _, rfl, ?_⟩
    cases hs with
    | fnd z => exact iteF (q H (Same.refl _))
    | lnk h => exact iteF (q H (Same.refl _))
    | @rnd t b k kd xs ss h h2 h3 =>
      rw [Wf] at wf
      refine iteT ⟨_, rfl, Sq.ix (.inr (SqT.of h)) rfl ⟨by show 2 ≤ sizeLine; decide, fun tp ntp => ?_⟩⟩
      have s1 := same_new (o := .tup [V.ty "list", V.ty "tuple"]) ntp
      have e1 : decide ((0 : Int) ≤ k) = true := decide_eq_true wf.1
      have el : lim30 = 1000000000000000000000000000000 := by decide
      have e2 : decide (k ≤ (1000000000000000000000000000000 : Int)) = true := decide_eq_true (el ▸ wf.2.1)
      cases kd with
      | false =>
        refine ⟨_, tp, _, _, _, _, rfl, upd_same, .cons (.ty _) (.cons (.ty _) .nil), tyT (SqT.of (s1 _ _ h2)), kit2 (r := false) (s := true) (by decide +kernel) (by decide +kernel), _, rfl, iteT ?_⟩
        refine ⟨_, rfl, Sq.ix (.inr (SqT.of (s1 _ _ h))) rfl ⟨_, _, rfl, rfl, _, rfl, ?_⟩⟩
        show if decide ((0 : Int) ≤ k) = true then _ else _
        rw [e1]
        refine iteT ⟨_, _, rfl, rfl, ?_⟩
        show Q (.bl (decide (k ≤ (1000000000000000000000000000000 : Int)))) _
        rw [e2]
        exact q _ s1
      | true =>
        refine ⟨_, tp, _, _, _, _, rfl, upd_same, .cons (.ty _) (.cons (.ty _) .nil), tyL (SqL.of (s1 _ _ h2)), kit2 (r := true) (s := false) (by decide +kernel) (by decide +kernel), _, rfl, iteT ?_⟩
        refine ⟨_, rfl, Sq.ix (.inr (SqT.of (s1 _ _ h))) rfl ⟨_, _, rfl, rfl, _, rfl, ?_⟩⟩
        show if decide ((0 : Int) ≤ k) = true then _ else _
        rw [e1]
        refine iteT ⟨_, _, rfl, rfl, ?_⟩
        show Q (.bl (decide (k ≤ (1000000000000000000000000000000 : Int)))) _
        rw [e2]
        exact q _ s1
end
section
variable {P : Program} {w : World} {K : PySem.W.Frag} {mg : Str → Option Value} {base : Heap}
theorem ok_may {f fL fR fF : Addr} {fd fdL fdR fdF : FuncData} {tN : Tok} (F : Fun K "may_stand" "may_stand" sMay f fd) (kL : Kn P w K mg base 2 "is_link" sIsLnk ["step"] spIsLnk fL fdL) (kR : Kn P w K mg base 2 "is_round" sIsRnd ["step"] spIsRnd fR fdR) (kF : Kn P w K mg base 1 "is_find" sIsFnd ["step"] spIsFnd fF fdF) (gN : mg "MAX_NESTING" = some (.int 4 tN)) : FnOk P w K mg base CX0 3 f fd ["step", "depth"] spMay := by
  refine F.ok scMay (fun vs H Q E h => ?_) (fun cdv A outer s H vs Q E hr h => ?_)
  · obtain ⟨v, st, dep, rfl, _⟩ := h
    rfl
  · obtain ⟨v, st, dep, rfl, hs, wf, hd, q⟩ := h
    have hrm : ∀ {j : Nat}, j ≤ 2 → Room j (A.deeper (envOfC "may_stand" (defScope sMay) s.heap.objs.size f cdv)) := fun h => hr.mono h
    refine ⟨_, (pss_cons (ps_if (pt_val (pe_call kL.G (hrm (by omega)) (by rfl) kL.g kL.F.kp kL.b .nil pass0 (pa_cons (pv 0) pa_nil)))
        (pss_one (ps_ret (pe_cmpR op_eq (pv 1) pe_int (nomark _)))) pss_nil)
      (pss_cons (ps_if (pt_val (pe_call kR.G (hrm (by omega)) (by rfl) kR.g kR.F.kp kR.b .nil pass0 (pa_cons (pv 0) pa_nil)))
        (pss_one (ps_ret (pe_cmpR op_lt (pv 1) (pe_glob (v := .int 4) rfl gN ⟨_, rfl⟩) (nomark _)))) pss_nil)
      (pss_one (ps_ret (pe_call kF.G (hrm (by omega)) (by rfl) kF.g kF.F.kp kF.b .nil pass0 (pa_cons (pv 0) pa_nil)))))), ?_⟩
    refine ⟨_, rfl, v, st, rfl, hs, _, rfl, ?_⟩
    cases st with
    | lnk c a =>
      rw [Wf] at wf
      have e : dep = 0 := of_decide_eq_true wf
      subst e
      exact iteT ⟨_, rfl, rfl, q H (Same.refl _)⟩
    | rnd k kd ss =>
      refine iteF ⟨_, rfl, v, _, _, rfl, hs, wf, fun H1 s1 => ⟨_, rfl, iteT ⟨_, rfl, _, _, rfl, rfl, ?_⟩⟩⟩
      rw [nest] at hd
      show Q (.bl (decide ((dep : Int) < 4))) H1
      rw [decide_eq_true (by omega)]
      exact q H1 s1
    | fnd z => exact iteF ⟨_, rfl, v, _, _, rfl, hs, wf, fun H1 s1 => ⟨_, rfl, iteF ⟨_, rfl, v, _, rfl, hs.same s1, q H1 s1⟩⟩⟩
end
section
variable {P : Program} {w : World} {K : PySem.W.Frag} {mg : Str → Option Value} {base : Heap}
theorem ok_chkS {f fM fR : Addr} {fd fdM fdR : FuncData} {tS : Tok} (F : Fun K "check_steps" "check_steps" sChkS f fd) (kM : Kn P w K mg base 3 "may_stand" sMay ["step", "depth"] spMay fM fdM) (kR : Kn P w K mg base 2 "is_round" sIsRnd ["step"] spIsRnd fR fdR) (b : Binds K fd ["steps", "depth", "pos"] []) (g : mg "check_steps" = some (.ref f)) (gS : mg "MAX_STEPS" = some (.int 100 tS)) :
    ∀ n, FnOk P w K mg base CX0 (n + 4) f fd ["steps", "depth", "pos"] (spChkS n) := by
  intro n
  have main : ∀ n, (∀ sp' : Sp, (∀ vs H Q E, sp' vs H Q E → ∃ m, m < n ∧ spChkS m vs H Q E) → FnOk P w K mg base CX0 (n + 3) f fd ["steps", "depth", "pos"] sp') → FnOk P w K mg base CX0 (n + 4) f fd ["steps", "depth", "pos"] (spChkS n) := by
    intro n ih0
    have ih := ih0 (fun vs H Q E => ∃ m, m < n ∧ spChkS m vs H Q E) fun _ _ _ _ h => h
    refine F.ok scChkS (fun vs H Q E h => ?_) (fun cdv A outer s H vs Q E hr h => ?_)
    · obtain ⟨kd0, a, xs, ss, dep, pos, rfl, _⟩ := h
      rfl
    · obtain ⟨kd0, a, xs, ss, dep, pos, rfl, ha, hss, wf, hn, hd, hw, q⟩ := h
      have hrm : ∀ {j : Nat}, j ≤ n + 3 → Room j (A.deeper (envOfC "check_steps" (defScope sChkS) s.heap.objs.size f cdv)) := fun h => hr.mono h
      refine ⟨_, (pss_cons (ps_for PassesOwn.never rfl (pi_kd kd0 (pv 0)) (pg_name (i := 3) scChkS.nd rfl (.inl rfl))
        (pss_cons (ps_if (pt_cmpR op_ge (pv 2) (pe_glob (v := .int 100) rfl gS ⟨_, rfl⟩) (nomark _))
          (pss_one ps_never) pss_nil)
        (pss_cons (ps_if (pt_not (pt_val (pe_call kM.G (hrm (by omega)) (by rfl) kM.g kM.F.kp kM.b .nil pass0 (pa_cons (pv 3) (pa_cons (pv 1) pa_nil)))))
          (pss_one ps_never) pss_nil)
        (pss_cons (ps_aug (i := 2) scChkS.nd rfl (.inl rfl) pe_int ip_add)
        (pss_one (ps_if (pt_val (pe_call kR.G (hrm (by omega)) (by rfl) kR.g kR.F.kp kR.b .nil pass0 (pa_cons (pv 3) pa_nil)))
          (pss_one (ps_set (i := 2) scChkS.nd rfl (.inl rfl) (pe_call ih (hrm (by omega)) (by rfl) g F.kp b .nil pass0 (pa_cons (pe_ix (show IxR _ (rIx K) from ix_seq) (pv 3) pe_int (fun _ _ => rfl)) (pa_cons (pe_op op_add (pv 1) pe_int) (pa_cons (pv 2) pa_nil)))))) pss_nil))))))
      (pss_one (ps_ret (pv 2)))), ?_⟩
      refine for_kd (xs := xs) rfl (ob_kd ha) (fun i σ H' => (∃ y, σ = [some (.ref a), some (vi dep), some (vi (pos + nWrs (ss.take i))), y]) ∧ Same H H') ⟨⟨_, rfl⟩, Same.refl _⟩ (fun i σ H' _ h => ob_kd (h.2 _ _ ha)) ?_ ?_
      · rintro i v σ H' hv ⟨⟨y, rfl⟩, sm⟩
        obtain ⟨st, hst, hat⟩ := hss.get hv
        have hmem := List.mem_of_getElem? hst
        have hti := nWrs_take hst
        have htl := nWrs_take_le ss (i + 1)
        have hp := nWr_pos st
        have hat' := hat.same sm
        have wfs := wfs_mem wf hmem
        have hne := nests_mem hmem
        refine ⟨_, rfl, _, _, rfl, rfl, _, rfl, ?_⟩
        show if decide ((100 : Int) ≤ ((pos + nWrs (ss.take i) : Nat) : Int)) = true then _ else _
        rw [decide_eq_false (by omega)]
        refine iteF ⟨_, rfl, _, rfl, v, st, dep, rfl, hat', wfs, by omega, fun H1 s1 => ⟨_, rfl, iteF ?_⟩⟩
        refine ⟨_, rfl, _, _, rfl, rfl, ?_⟩
        refine ⟨_, rfl, v, st, _, rfl, hat'.same s1, wfs, fun H2 s2 => ⟨_, rfl, ?_⟩⟩
        have s02 := (sm.trans s1).trans s2
        cases st with
        | fnd z =>
          refine iteF ⟨⟨some v, ?_⟩, s02⟩
          rw [hti, nWr]; rfl
        | lnk c a =>
          refine iteF ⟨⟨some v, ?_⟩, s02⟩
          rw [hti, nWr]; rfl
        | rnd k kd2 s2' =>
          have h3 := hat'.same (s1.trans s2)
          cases h3 with
          | @rnd t b2 _ _ ys _ ht hb hsts =>
            rw [Wf] at wfs
            rw [nest] at hne
            rw [nWr] at hti
            refine iteT ⟨_, rfl, Sq.ix (.inr (SqT.of ht)) rfl ⟨_, rfl, _, _, rfl, rfl, _, rfl, nests s2', by omega, kd2, b2, ys, s2', dep + 1, pos + nWrs (ss.take i) + 1, rfl, hb, hsts, ?_, Nat.le_refl _, by omega, by omega, fun H3 s3 => ⟨⟨some (.ref t), ?_⟩, s02.trans s3⟩⟩⟩
            · rw [decide_eq_false (by omega)]; exact wfs.2.2
            · rw [hti, show pos + nWrs (ss.take i) + 1 + nWrs s2' = pos + (nWrs (ss.take i) + (1 + nWrs s2')) by omega]; rfl
      · rintro σ H' ⟨⟨y, rfl⟩, sm⟩
        rw [hss.len, List.take_length]
        exact ⟨_, rfl, q H' sm⟩
  induction n using Nat.strongRecOn with
  | _ n ih =>
    refine main n fun sp' h => ?_
    cases n with
    | zero => exact ⟨fun vs H Q E z => by obtain ⟨m, hm, _⟩ := h _ _ _ _ z; omega, fun A outer s H args us vs Q E hr e0 bb r z => by obtain ⟨m, hm, _⟩ := h _ _ _ _ z; omega⟩
    | succ n =>
      refine FnOk.imp (FnOk.mono (ih n (by omega)) (by omega)) fun vs H Q E z => ?_
      obtain ⟨m, hm, kd, a, xs, ss, dep, pos, e, h1, h2, h3, h4, h5⟩ := h _ _ _ _ z
      exact ⟨kd, a, xs, ss, dep, pos, e, h1, h2, h3, by omega, h5⟩
end
section
variable {P : Program} {w : World} {K : PySem.W.Frag} {mg : Str → Option Value} {base : Heap}
theorem ok_chkH {f fC : Addr} {fd fdC : FuncData} (F : Fun K "check_history" "check_history" sChkH f fd) (n : Nat) (kC : Kn P w K mg base (n + 4) "check_steps" sChkS ["steps", "depth", "pos"] (spChkS n) fC fdC) : FnOk P w K mg base CX0 (n + 5) f fd ["history"] (spChkH n) := by
  refine F.ok scChkH (fun vs H Q E h => ?_) (fun cdv A outer s H vs Q E hr h => ?_)
  · obtain ⟨kd, a, xs, ss, rfl, _⟩ := h
    rfl
  · obtain ⟨kd, a, xs, ss, rfl, ha, hss, wf, hn, hn4, hw, q⟩ := h
    have hrm : ∀ {j : Nat}, j ≤ n + 4 → Room j (A.deeper (envOfC "check_history" (defScope sChkH) s.heap.objs.size f cdv)) := fun h => hr.mono h
    refine ⟨_, (pss_one (ps_expr (pe_call kC.G (hrm (by omega)) (by rfl) kC.g kC.F.kp kC.b .nil pass0 (pa_cons (pv 0) (pa_cons pe_int (pa_cons pe_int pa_nil)))))), ?_⟩
    exact ⟨_, rfl, kd, a, xs, ss, 0, 0, rfl, ha, hss, wf, hn, by omega, by omega, fun H1 s1 => q H1 s1⟩
end
end Ff

namespace Ff
open PySem PySem.Spec PyProof.Rows L2 ExX LamX
abbrev sE_NoNode : Stmt := topS 9
theorem scE_NoNode : FnScope ["self", "node"] ["self", "node"] (defScope (initS sE_NoNode)) := ⟨rfl, rfl, rfl, by decide +kernel, rfl, by decide +kernel, by decide +kernel⟩
abbrev sE_BadStep : Stmt := topS 7
theorem scE_BadStep : FnScope ["self", "pos"] ["self", "pos"] (defScope (initS sE_BadStep)) := ⟨rfl, rfl, rfl, by decide +kernel, rfl, by decide +kernel, by decide +kernel⟩
abbrev sE_TooManyNodes : Stmt := topS 6
theorem scE_TooManyNodes : FnScope ["self", "limit"] ["self", "limit"] (defScope (initS sE_TooManyNodes)) := ⟨rfl, rfl, rfl, by decide +kernel, rfl, by decide +kernel, by decide +kernel⟩
abbrev sE_BadParent : Stmt := topS 4
theorem scE_BadParent : FnScope ["self", "node"] ["self", "node"] (defScope (initS sE_BadParent)) := ⟨rfl, rfl, rfl, by decide +kernel, rfl, by decide +kernel, by decide +kernel⟩
abbrev sE_Cycle : Stmt := topS 5
theorem scE_Cycle : FnScope ["self", "node"] ["self", "node"] (defScope (initS sE_Cycle)) := ⟨rfl, rfl, rfl, by decide +kernel, rfl, by decide +kernel, by decide +kernel⟩
section
variable {P : Program} {w : World} {K : PySem.W.Frag} {mg : Str → Option Value} {base : Heap}
theorem ok_E_NoNode {f fM CM : Addr} {fd fdM : FuncData} (F : Fun K "__init__" "NoNode.__init__" (initS sE_NoNode) f fd) (TM : ClsI K CM fM) (gM : mg "Missing" = some (.ref CM)) (GM : FnOk P w K mg base CX0 1 fM fdM ["self", "tag", "message"] (spTop K "LookupError.__new__" luTail)) (bM : Binds K fdM ["self", "tag", "message"] []) :
    FnOk P w K mg base CX0 2 f fd ["self", "node"] (spErrI K "LookupError.__new__" luTail "node" "NoNode") := by
  refine F.ok scE_NoNode (fun vs H Q E h => ?_) (fun cdv A outer s H vs Q E hr h => ?_)
  · obtain ⟨a, C, v, rfl, _⟩ := h
    rfl
  · obtain ⟨a, C, v, rfl, ⟨i, rfl, hi⟩, ha, T, nt, nf, q⟩ := h
    refine ⟨_, pss_cons (ps_expr (pe_ci TM GM hr (by rfl) gM bM pass0 (pa_cons (pv 0) (pa_cons pe_str (pa_cons (pe_joined (.cons pe_str (.cons (pe_fmt (pv 1)) .nil))) pa_nil)))))
      (pss_one (ps_st (nid := "LookupError.__new__") PySem.F.store_LookupError (pv 0) (pv 1))), ?_⟩
    have f0 : (Str.empty ++ Str.ofString "there is no node ").length ≤ 100 := by decide +kernel
    refine ⟨_, rfl, ⟨_, rfl, fits (by omega), _, rfl, .inr ⟨i, rfl, hi, _, rfl, fits (Nat.le_trans (fits_cat f0 (txt_int hi)) (by decide)), ?_⟩⟩⟩
    refine ⟨a, C, _, _, rfl, ha, T, nt, fun dx n ne => ⟨_, rfl, _, rfl, a, C, rfl, T, nf, .inr ⟨dx, _, upd_same, ?_, by show 1 ≤ 900; decide, q dx n ne⟩⟩⟩
    rw [upd_ne ne, upd_same]
theorem ok_E_BadStep {f fM CM : Addr} {fd fdM : FuncData} (F : Fun K "__init__" "BadStep.__init__" (initS sE_BadStep) f fd) (TM : ClsI K CM fM) (gM : mg "ForestError" = some (.ref CM)) (GM : FnOk P w K mg base CX0 1 fM fdM ["self", "tag", "message"] (spTop K "ValueError.__new__" vaTail)) (bM : Binds K fdM ["self", "tag", "message"] []) :
    FnOk P w K mg base CX0 2 f fd ["self", "pos"] (spErrI K "ValueError.__new__" vaTail "pos" "BadStep") := by
  refine F.ok scE_BadStep (fun vs H Q E h => ?_) (fun cdv A outer s H vs Q E hr h => ?_)
  · obtain ⟨a, C, v, rfl, _⟩ := h
    rfl
  · obtain ⟨a, C, v, rfl, ⟨i, rfl, hi⟩, ha, T, nt, nf, q⟩ := h
    refine ⟨_, pss_cons (ps_expr (pe_ci TM GM hr (by rfl) gM bM pass0 (pa_cons (pv 0) (pa_cons pe_str (pa_cons (pe_joined (.cons pe_str (.cons (pe_fmt (pv 1)) (.cons pe_str .nil)))) pa_nil)))))
      (pss_one (ps_st (nid := "ValueError.__new__") PySem.F.store_ValueError (pv 0) (pv 1))), ?_⟩
    have f0 : (Str.empty ++ Str.ofString "the step at position ").length ≤ 100 := by decide +kernel
    have f1 : (Str.ofString " is none of a history").length ≤ 100 := by decide +kernel
    have l1 := fits_cat f0 (txt_int hi)
    refine ⟨_, rfl, ⟨_, rfl, fits (by omega), _, rfl, .inr ⟨i, rfl, hi, _, rfl, fits (Nat.le_trans l1 (by decide)), _, rfl, fits (Nat.le_trans (fits_cat l1 f1) (by decide)), ?_⟩⟩⟩
    refine ⟨a, C, _, _, rfl, ha, T, nt, fun dx n ne => ⟨_, rfl, _, rfl, a, C, rfl, T, nf, .inr ⟨dx, _, upd_same, ?_, by show 1 ≤ 900; decide, q dx n ne⟩⟩⟩
    rw [upd_ne ne, upd_same]
theorem ok_E_TooManyNodes {f fM CM : Addr} {fd fdM : FuncData} (F : Fun K "__init__" "TooManyNodes.__init__" (initS sE_TooManyNodes) f fd) (TM : ClsI K CM fM) (gM : mg "ForestError" = some (.ref CM)) (GM : FnOk P w K mg base CX0 1 fM fdM ["self", "tag", "message"] (spTop K "ValueError.__new__" vaTail)) (bM : Binds K fdM ["self", "tag", "message"] []) :
    FnOk P w K mg base CX0 2 f fd ["self", "limit"] (spErrI K "ValueError.__new__" vaTail "limit" "TooManyNodes") := by
  refine F.ok scE_TooManyNodes (fun vs H Q E h => ?_) (fun cdv A outer s H vs Q E hr h => ?_)
  · obtain ⟨a, C, v, rfl, _⟩ := h
    rfl
  · obtain ⟨a, C, v, rfl, ⟨i, rfl, hi⟩, ha, T, nt, nf, q⟩ := h
    refine ⟨_, pss_cons (ps_expr (pe_ci TM GM hr (by rfl) gM bM pass0 (pa_cons (pv 0) (pa_cons pe_str (pa_cons (pe_joined (.cons pe_str (.cons (pe_fmt (pv 1)) (.cons pe_str .nil)))) pa_nil)))))
      (pss_one (ps_st (nid := "ValueError.__new__") PySem.F.store_ValueError (pv 0) (pv 1))), ?_⟩
    have f0 : (Str.empty ++ Str.ofString "there are more than ").length ≤ 100 := by decide +kernel
    have f1 : (Str.ofString " nodes").length ≤ 100 := by decide +kernel
    have l1 := fits_cat f0 (txt_int hi)
    refine ⟨_, rfl, ⟨_, rfl, fits (by omega), _, rfl, .inr ⟨i, rfl, hi, _, rfl, fits (Nat.le_trans l1 (by decide)), _, rfl, fits (Nat.le_trans (fits_cat l1 f1) (by decide)), ?_⟩⟩⟩
    refine ⟨a, C, _, _, rfl, ha, T, nt, fun dx n ne => ⟨_, rfl, _, rfl, a, C, rfl, T, nf, .inr ⟨dx, _, upd_same, ?_, by show 1 ≤ 900; decide, q dx n ne⟩⟩⟩
    rw [upd_ne ne, upd_same]
theorem ok_E_BadParent {f fM CM : Addr} {fd fdM : FuncData} (F : Fun K "__init__" "BadParent.__init__" (initS sE_BadParent) f fd) (TM : ClsI K CM fM) (gM : mg "ForestError" = some (.ref CM)) (GM : FnOk P w K mg base CX0 1 fM fdM ["self", "tag", "message"] (spTop K "ValueError.__new__" vaTail)) (bM : Binds K fdM ["self", "tag", "message"] []) :
    FnOk P w K mg base CX0 2 f fd ["self", "node"] (spErrI K "ValueError.__new__" vaTail "node" "BadParent") := by
  refine F.ok scE_BadParent (fun vs H Q E h => ?_) (fun cdv A outer s H vs Q E hr h => ?_)
  · obtain ⟨a, C, v, rfl, _⟩ := h
    rfl
  · obtain ⟨a, C, v, rfl, ⟨i, rfl, hi⟩, ha, T, nt, nf, q⟩ := h
    refine ⟨_, pss_cons (ps_expr (pe_ci TM GM hr (by rfl) gM bM pass0 (pa_cons (pv 0) (pa_cons pe_str (pa_cons (pe_joined (.cons pe_str (.cons (pe_fmt (pv 1)) (.cons pe_str .nil)))) pa_nil)))))
      (pss_one (ps_st (nid := "ValueError.__new__") PySem.F.store_ValueError (pv 0) (pv 1))), ?_⟩
    have f0 : (Str.empty ++ Str.ofString "the parent of node ").length ≤ 100 := by decide +kernel
    have f1 : (Str.ofString " is no node").length ≤ 100 := by decide +kernel
    have l1 := fits_cat f0 (txt_int hi)
    refine ⟨_, rfl, ⟨_, rfl, fits (by omega), _, rfl, .inr ⟨i, rfl, hi, _, rfl, fits (Nat.le_trans l1 (by decide)), _, rfl, fits (Nat.le_trans (fits_cat l1 f1) (by decide)), ?_⟩⟩⟩
    refine ⟨a, C, _, _, rfl, ha, T, nt, fun dx n ne => ⟨_, rfl, _, rfl, a, C, rfl, T, nf, .inr ⟨dx, _, upd_same, ?_, by show 1 ≤ 900; decide, q dx n ne⟩⟩⟩
    rw [upd_ne ne, upd_same]
theorem ok_E_Cycle {f fM CM : Addr} {fd fdM : FuncData} (F : Fun K "__init__" "Cycle.__init__" (initS sE_Cycle) f fd) (TM : ClsI K CM fM) (gM : mg "ForestError" = some (.ref CM)) (GM : FnOk P w K mg base CX0 1 fM fdM ["self", "tag", "message"] (spTop K "ValueError.__new__" vaTail)) (bM : Binds K fdM ["self", "tag", "message"] []) :
    FnOk P w K mg base CX0 2 f fd ["self", "node"] (spErrI K "ValueError.__new__" vaTail "node" "Cycle") := by
  refine F.ok scE_Cycle (fun vs H Q E h => ?_) (fun cdv A outer s H vs Q E hr h => ?_)
  · obtain ⟨a, C, v, rfl, _⟩ := h
    rfl
  · obtain ⟨a, C, v, rfl, ⟨i, rfl, hi⟩, ha, T, nt, nf, q⟩ := h
    refine ⟨_, pss_cons (ps_expr (pe_ci TM GM hr (by rfl) gM bM pass0 (pa_cons (pv 0) (pa_cons pe_str (pa_cons (pe_joined (.cons pe_str (.cons (pe_fmt (pv 1)) (.cons pe_str .nil)))) pa_nil)))))
      (pss_one (ps_st (nid := "ValueError.__new__") PySem.F.store_ValueError (pv 0) (pv 1))), ?_⟩
    have f0 : (Str.empty ++ Str.ofString "the parents of node ").length ≤ 100 := by decide +kernel
    have f1 : (Str.ofString " do not lead to a root").length ≤ 100 := by decide +kernel
    have l1 := fits_cat f0 (txt_int hi)
    refine ⟨_, rfl, ⟨_, rfl, fits (by omega), _, rfl, .inr ⟨i, rfl, hi, _, rfl, fits (Nat.le_trans l1 (by decide)), _, rfl, fits (Nat.le_trans (fits_cat l1 f1) (by decide)), ?_⟩⟩⟩
    refine ⟨a, C, _, _, rfl, ha, T, nt, fun dx n ne => ⟨_, rfl, _, rfl, a, C, rfl, T, nf, .inr ⟨dx, _, upd_same, ?_, by show 1 ≤ 900; decide, q dx n ne⟩⟩⟩
    rw [upd_ne ne, upd_same]
end
end Ff

namespace Ff
open PySem PySem.Spec PyProof.Rows L2 ExX LamX
mutual
/-- ints that can be printed -/
def Sml : Stp → Prop
  | .fnd z => z.natAbs.log2 < 1920
  | .lnk c a => c.natAbs.log2 < 1920 ∧ a.natAbs.log2 < 1920
  | .rnd _ _ ss => Smls ss
def Smls : List Stp → Prop
  | [] => True
  | s :: r => Sml s ∧ Smls r
end
theorem smls_mem : ∀ {l : List Stp} {s : Stp}, Smls l → s ∈ l → Sml s
  | x :: l, s, w, h => by
    rw [Smls] at w
    rcases List.mem_cons.mp h with e | h
    · rw [e]; exact w.1
    · exact smls_mem w.2 h
theorem smls_of : ∀ {l : List Stp}, (∀ s ∈ l, Sml s) → Smls l
  | [], _ => by rw [Smls]; trivial
  | x :: l, h => by
    rw [Smls]
    exact ⟨h x List.mem_cons_self, smls_of fun s hs => h s (List.mem_cons_of_mem _ hs)⟩
def ErO (CN CR CS : Addr) (H : Hp) (E : XK) : Er → Prop
  | .no z => Flies H E CN "node" "NoNode" (.int z)
  | .nr z => Flies H E CR "node" "NotRoot" (.int z)
  | .sr z => Flies H E CS "node" "SameRoot" (.int z)
theorem ErO.same {CN CR CS : Addr} {H H1 : Hp} {E : XK} {e : Er} (h : ErO CN CR CS H E e) (s : Same H H1) : ErO CN CR CS H1 E e := by
  cases e with
  | no z => exact Flies.same h s
  | nr z => exact Flies.same h s
  | sr z => exact Flies.same h s
def RunO (K : PySem.W.Frag) (CN CR CS : Addr) (n : Nat) (H : Hp) (Q : VK) (E : XK) : Rs ((Nat → Nat) × Int) → Prop
  | .er e => ErO CN CR CS H E e
  | .ok (q, c) => ∀ (t g : Addr) H', H t = none → H' t = some (.tup [.ref g, .int c]) → SqT K H' g (tupOf n q) → Same H H' → Q (.ref t) H'
theorem RunO.same {K : PySem.W.Frag} {CN CR CS : Addr} {n : Nat} {H H1 : Hp} {Q : VK} {E : XK} {r : Rs ((Nat → Nat) × Int)} (h : RunO K CN CR CS n H Q E r) (s : Same H H1) : RunO K CN CR CS n H1 Q E r := by
  cases r with
  | er e => exact ErO.same h s
  | ok a => obtain ⟨q, c⟩ := a; exact fun t g H' nt ht hg s' => h t g H' (sm_none s nt) ht hg (s.trans s')
def spLow (K : PySem.W.Frag) (m : Nat) : Sp := fun vs H Q _ => ∃ (kd : Bool) (a b : Addr) (xs : List V) (ss : List Stp) (n : Nat) (p : Nat → Nat), vs = [.ref a, .ref b] ∧ SqT K H a (tupOf n p) ∧ H b = some (ob kd xs) ∧ StsAt H xs ss ∧ Wfs false ss ∧ nests ss ≤ m ∧ nests ss ≤ 10 ∧ nWrs ss ≤ 1000 ∧ InXs n ss ∧ ∀ H', Same H H' → Q (.int (lows p ss)) H'
def spRunR (K : PySem.W.Frag) (CN CR CS : Addr) (m : Nat) : Sp := fun vs H Q E => ∃ (a : Addr) (v : V) (k : Int) (kd : Bool) (ss : List Stp) (n : Nat) (p r : Nat → Nat), vs = [.ref a, v] ∧ SqT K H a (tupOf n p) ∧ n ≤ 60 ∧ Fo n p r ∧ StAt H v (.rnd k kd ss) ∧ Wf true (.rnd k kd ss) ∧ nests ss + 1 ≤ m ∧ nests ss ≤ 9 ∧ nWrs ss ≤ 1000 ∧ Smls ss ∧ RunO K CN CR CS n H Q E (stepR n (.rnd k kd ss) p)
def spRunS (K : PySem.W.Frag) (CN CR CS : Addr) (m : Nat) : Sp := fun vs H Q E => ∃ (kd : Bool) (a b : Addr) (xs : List V) (ss : List Stp) (n : Nat) (p r : Nat → Nat) (top : Bool), vs = [.ref a, .ref b] ∧ SqT K H a (tupOf n p) ∧ n ≤ 60 ∧ Fo n p r ∧ H b = some (ob kd xs) ∧ StsAt H xs ss ∧ Wfs top ss ∧ nests ss ≤ m ∧ nests ss ≤ 10 ∧ nWrs ss ≤ 1000 ∧ Smls ss ∧ RunO K CN CR CS n H Q E (stepsR n ss p)
def spRunH (K : PySem.W.Frag) (CN CR CS : Addr) (m : Nat) : Sp := fun vs H Q E => ∃ (kd : Bool) (a b : Addr) (xs : List V) (ss : List Stp) (n : Nat) (p r : Nat → Nat), vs = [.ref a, .ref b] ∧ SqT K H a (tupOf n p) ∧ n ≤ 60 ∧ Fo n p r ∧ H b = some (ob kd xs) ∧ StsAt H xs ss ∧ Wfs true ss ∧ nests ss ≤ m ∧ m ≤ 4 ∧ nWrs ss ≤ 100 ∧ Smls ss ∧ RunO K CN CR CS n H Q E (stepsR n ss p)
theorem wf_top {top : Bool} {k : Int} {kd : Bool} {ss : List Stp} (h : Wf top (.rnd k kd ss)) : Wf true (.rnd k kd ss) := by
  rw [Wf] at h ⊢
  exact h
theorem lows_bits {top : Bool} {p : Nat → Nat} {ss : List Stp} (w : Wfs top ss) (hn : nests ss ≤ 10) (hw : nWrs ss ≤ 1000) : (lows p ss).natAbs < 2 ^ 1011 := by
  obtain ⟨h0, h1⟩ := lows_le p ss w
  exact wide_le h0 h1 (nFnds_bits w hn hw)
section
variable {P : Program} {w : World} {K : PySem.W.Frag} {mg : Str → Option Value} {base : Heap}
end
end Ff

namespace Ff
open PySem PySem.Spec PyProof.Rows L2 ExX LamX
abbrev sStep : Stmt := topS 47
abbrev stepN : List Str := ["_law_draw", "_law_size_in", "_law_deep", "_law_count", "_law_steps", "_law_k"]
theorem scStep : FnScope stepN ["_law_draw", "_law_size_in", "_law_deep"] (defScope sStep) := ⟨rfl, rfl, rfl, by decide +kernel, rfl, by decide +kernel, by decide +kernel⟩
mutual
/-- a value that is a step, all of whose addresses are of a kind -/
inductive StP (N : Addr → Prop) (H : Hp) : V → Stp → Prop
  | fnd (z : Int) : StP N H (.int z) (.fnd z)
  | lnk {t : Addr} {c a : Int} : N t → H t = some (.tup [.str "link", .int c, .int a]) → StP N H (.ref t) (.lnk c a)
  | rnd {t b : Addr} {k : Int} {kd : Bool} {xs : List V} {ss : List Stp} : N t → N b → H t = some (.tup [.str "repeat", .int k, .ref b]) → H b = some (ob kd xs) → StsP N H xs ss → StP N H (.ref t) (.rnd k kd ss)
inductive StsP (N : Addr → Prop) (H : Hp) : List V → List Stp → Prop
  | nil : StsP N H [] []
  | cons {v : V} {xs : List V} {s : Stp} {ss : List Stp} : StP N H v s → StsP N H xs ss → StsP N H (v :: xs) (s :: ss)
end
mutual
theorem StP.at {N : Addr → Prop} {H : Hp} : ∀ {v : V} {s : Stp}, StP N H v s → StAt H v s
  | _, _, .fnd z => .fnd z
  | _, _, .lnk _ h => .lnk h
  | _, _, .rnd _ _ h1 h2 h3 => .rnd h1 h2 (StsP.at h3)
theorem StsP.at {N : Addr → Prop} {H : Hp} : ∀ {xs : List V} {ss : List Stp}, StsP N H xs ss → StsAt H xs ss
  | _, _, .nil => .nil
  | _, _, .cons h r => .cons (StP.at h) (StsP.at r)
end
mutual
theorem StP.mv {N N' : Addr → Prop} {H H' : Hp} (hN : ∀ x, N x → N' x) (e : ∀ x o, N x → H x = some o → (∀ ps, o ≠ .tbl ps) → H' x = some o) : ∀ {v : V} {s : Stp}, StP N H v s → StP N' H' v s
  | _, _, .fnd z => .fnd z
  | _, _, .lnk n h => .lnk (hN _ n) (e _ _ n h (by intro ps z; cases z))
  | _, _, .rnd n1 n2 h1 h2 h3 => .rnd (hN _ n1) (hN _ n2) (e _ _ n1 h1 (by intro ps z; cases z)) (e _ _ n2 h2 ob_tab) (StsP.mv hN e h3)
theorem StsP.mv {N N' : Addr → Prop} {H H' : Hp} (hN : ∀ x, N x → N' x) (e : ∀ x o, N x → H x = some o → (∀ ps, o ≠ .tbl ps) → H' x = some o) : ∀ {xs : List V} {ss : List Stp}, StsP N H xs ss → StsP N' H' xs ss
  | _, _, .nil => .nil
  | _, _, .cons h r => .cons (StP.mv hN e h) (StsP.mv hN e r)
end
theorem StsP.app {N : Addr → Prop} {H : Hp} : ∀ {xs ys : List V} {ss rr : List Stp}, StsP N H xs ss → StsP N H ys rr → StsP N H (xs ++ ys) (ss ++ rr)
  | _, _, _, _, .nil, h2 => h2
  | _, _, _, _, .cons h r, h2 => .cons h (StsP.app r h2)
theorem StsP.len {N : Addr → Prop} {H : Hp} {xs : List V} {ss : List Stp} (h : StsP N H xs ss) : xs.length = ss.length := h.at.len
theorem StsP.get {N : Addr → Prop} {H : Hp} : ∀ {xs : List V} {ss : List Stp}, StsP N H xs ss → ∀ {i : Nat} {v : V}, xs[i]? = some v → ∃ s, ss[i]? = some s ∧ StP N H v s
  | _, _, .nil, i, v, e => by simp at e
  | _, _, .cons h r, 0, v, e => by cases Option.some.inj e; exact ⟨_, rfl, h⟩
  | _, _, .cons h r, i + 1, v, e => StsP.get r e
mutual
/-- all finds are below -/
def InR (n : Nat) : Stp → Prop
  | .fnd z => 0 ≤ z ∧ z < (n : Int)
  | .lnk _ _ => True
  | .rnd _ _ ss => InRs n ss
def InRs (n : Nat) : List Stp → Prop
  | [] => True
  | s :: r => InR n s ∧ InRs n r
end
theorem inRs_of {n : Nat} : ∀ {l : List Stp}, (∀ s ∈ l, InR n s) → InRs n l
  | [], _ => by rw [InRs]; trivial
  | x :: l, h => by
    rw [InRs]
    exact ⟨h x List.mem_cons_self, inRs_of fun s hs => h s (List.mem_cons_of_mem _ hs)⟩
def wrB : Nat → Nat
  | 0 => 1
  | n + 1 => 1 + 3 * wrB n
theorem wrB_mono (n : Nat) : wrB n ≤ wrB (n + 1) := by
  show wrB n ≤ 1 + 3 * wrB n
  omega
theorem nWrs_bound {m : Nat} : ∀ {l : List Stp}, (∀ s ∈ l, nWr s ≤ m) → nWrs l ≤ l.length * m
  | [], _ => by rw [nWrs]; omega
  | x :: l, h => by
    have h1 := h x List.mem_cons_self
    have h2 := nWrs_bound fun s hs => h s (List.mem_cons_of_mem _ hs)
    rw [nWrs, List.length_cons, Nat.succ_mul]
    omega
/-- a drawn step -/
structure Drawn (size deep : Nat) (s : Stp) : Prop where
  wf : Wf false s
  ne : nest s ≤ deep
  wr : nWr s ≤ wrB deep
  inn : InR size s
def spStep (deep : Nat) : Sp := fun vs H Q _ => ∃ (d l : Addr) (size : Nat), vs = [.ref d, vi size, vi deep] ∧ DrawAt H d l ∧ 1 ≤ size ∧ size ≤ 1000 ∧
  ∀ (v : V) (s : Stp) H', StP (fun x => H x = none) H' v s → Drawn size deep s → DrawAt H' d l → Sb d H H' → Q v H'
section
variable {P : Program} {w : World} {K : PySem.W.Frag} {mg : Str → Option Value} {base : Heap}
theorem ok_step {f fT fO : Addr} {fd fdT fdO : FuncData} (F : Fun K "_law_step" "_law_step" sStep f fd) (k1 : Kn P w K mg base 1 "_law_take" sTake ["_law_draw", "_law_many"] spTake fT fdT) (k2 : Kn P w K mg base 2 "_law_of" sOf ["_law_draw", "_law_some"] (spOf K) fO fdO) (b : Binds K fd ["_law_draw", "_law_size_in", "_law_deep"] []) (g : mg "_law_step" = some (.ref f)) (T : Tx mg) :
    ∀ n, FnOk P w K mg base CX0 (n + 3) f fd ["_law_draw", "_law_size_in", "_law_deep"] (spStep n) := by
  intro n
  have main : ∀ n, (∀ sp' : Sp, (∀ vs H Q E, sp' vs H Q E → ∃ m, n = m + 1 ∧ spStep m vs H Q E) → FnOk P w K mg base CX0 (n + 2) f fd ["_law_draw", "_law_size_in", "_law_deep"] sp') → FnOk P w K mg base CX0 (n + 3) f fd ["_law_draw", "_law_size_in", "_law_deep"] (spStep n) := by
    intro n ih0
    have ih := ih0 (fun vs H Q E => ∃ m, n = m + 1 ∧ spStep m vs H Q E) fun _ _ _ _ h => h
    refine F.ok scStep (fun vs H Q E h => ?_) (fun cdv A outer s H vs Q E hr h => ?_)
    · obtain ⟨d, l, size, rfl, _⟩ := h
      rfl
    · obtain ⟨d, l, size, rfl, hD, hs1, hs2, q⟩ := h
      have hrm : ∀ {j : Nat}, j ≤ n + 2 → Room j (A.deeper (envOfC "_law_step" (defScope sStep) s.heap.objs.size f cdv)) := fun h => hr.mono h
      refine ⟨_, (pss_cons (ps_if (PW.pt (pw_or (pt_cmpR op_eq (pv 2) pe_int (nomark _)) (pw_or1 (pt_cmpR op_gt (pe_call k1.G (hrm (by omega)) (by rfl) k1.g k1.F.kp k1.b .nil pass0 (pa_cons (pv 0) (pa_cons pe_int pa_nil))) pe_int (nomark _)))))
        (pss_one (ps_ret (pe_call k1.G (hrm (by omega)) (by rfl) k1.g k1.F.kp k1.b .nil pass0 (pa_cons (pv 0) (pa_cons (pv 1) pa_nil))))) pss_nil)
      (pss_cons (ps_set (i := 3) scStep.nd rfl (.inl rfl) (pe_call k2.G (hrm (by omega)) (by rfl) k2.g k2.F.kp k2.b .nil pass0 (pa_cons (pv 0) (pa_cons (pe_lst (pa_cons pe_int (pa_cons pe_int (pa_cons pe_int (pa_cons pe_int (pa_cons (pe_call k1.G (hrm (by omega)) (by rfl) k1.g k1.F.kp k1.b .nil pass0 (pa_cons (pv 0) (pa_cons pe_int pa_nil))) (pa_cons (pe_op op_pow pe_int pe_int) (pa_cons (pe_call k1.G (hrm (by omega)) (by rfl) k1.g k1.F.kp k1.b .nil pass0 (pa_cons (pv 0) (pa_cons (pe_op op_pow pe_int pe_int) pa_nil))) pa_nil)))))))) pa_nil))))
      (pss_cons (ps_setLc (i := 4) (own := [("_law_k", 5)]) (g := gName 5) (by rfl) scStep.nd rfl rfl (sw_true rfl rfl rfl (by decide +kernel)) (pi_range1 (by rfl) T.range (pa_cons (pe_call k1.G (hrm (by omega)) (by rfl) k1.g k1.F.kp k1.b .nil pass0 (pa_cons (pv 0) (pa_cons pe_int pa_nil))) pa_nil)) (blkOk_by (own := [("_law_k", 5)]) (N := stepN) (sc := defScope sStep) (by decide +kernel)) (fun _ _ _ _ _ => (pg_name (i := 5) scStep.nd rfl (.inl rfl))) (fun _ _ _ _ _ => pts_nil) (fun _ _ _ _ _ => (pe_call ih (hrm (by omega)) (by rfl) g F.kp b .nil pass0 (pa_cons (pv 0) (pa_cons (pv 1) (pa_cons (pe_op op_sub (pv 2) pe_int) pa_nil))))))
      (pss_one (ps_ret (pe_tup (pa_cons pe_str (pa_cons (pv 3) (pa_cons (pe_call k2.G (hrm (by omega)) (by rfl) k2.g k2.F.kp k2.b .nil pass0 (pa_cons (pv 0) (pa_cons (pe_lst (pa_cons (pe_callTy call_tuple_of (by rfl) T.tuple (by decide +kernel) (pa_cons (pv 4) pa_nil)) (pa_cons (pv 4) pa_nil))) pa_nil))) pa_nil))))))))), ?_⟩
      have nb : ((size : Nat) : Int).natAbs < 2 ^ 1000 := Nat.lt_of_le_of_lt (show _ ≤ 1001 by omega) (by decide +kernel)
      have wb : 1 ≤ wrB n := by cases n <;> (unfold wrB; omega)
      have fin : ∀ (r : Nat) H', (r : Int) < ((size : Nat) : Int) → DrawAt H' d l → Sb d H H' → Q (.int r) H' := fun r H' hr hD' sb' => q (.int r) (.fnd r) H' (.fnd _) ⟨by rw [Wf]; trivial, by rw [nest]; omega, by rw [nWr]; exact wb, by rw [InR]; omega⟩ hD' sb'
      refine ⟨_, rfl, rfl, _, rfl, ?_⟩
      show if decide (V.int ((n : Nat) : Int) = V.int 0) = true then _ else _
      by_cases hn : n = 0
      · rw [decide_eq_true (by rw [hn]; rfl)]
        exact iteT ⟨_, rfl, _, rfl, d, l, size, rfl, hD, by omega, nb, fun r H1 hr hD1 sb1 => fin r H1 hr hD1 sb1⟩
      rw [decide_eq_false (fun z => hn (by injection z with z; omega))]
      refine iteF ⟨_, rfl, d, l, 3, rfl, hD, by decide, by decide +kernel, fun r H1 hr1 hD1 sb1 => ⟨_, _, rfl, rfl, _, rfl, ite2 (fun e => ?_) (fun e => ?_)⟩⟩
      · exact ⟨_, rfl, _, rfl, d, l, size, rfl, hD1, by omega, nb, fun r2 H2 hr2 hD2 sb2 => fin r2 H2 hr2 hD2 (sb1.trans sb2)⟩
      obtain ⟨m, rfl⟩ : ∃ m, n = m + 1 := ⟨n - 1, by omega⟩
      -- count
      have p30 : (10 : Int) ^ (30 : Int).toNat = 1000000000000000000000000000000 := by decide
      refine ⟨_, rfl, _, rfl, d, l, 9, rfl, hD1, by decide, by decide +kernel, fun c9 H2 hc9 hD2 sb2 => ?_⟩
      refine ⟨_, _, rfl, rfl, ⟨by decide, by decide, by decide⟩, _, rfl, _, _, rfl, rfl, ⟨by decide, by decide, by decide⟩, d, l, _, rfl, hD2, by decide, by decide +kernel, fun cb H3 hcb hD3 sb3 => ?_⟩
      rw [p30] at hcb
      refine ⟨by show 7 ≤ sizeLine; decide, fun lc nlc => ?_⟩
      refine ⟨d, l, lc, _, rfl, hD3.new nlc, hD3.ne nlc, SqL.of upd_same, by show 1 ≤ 7; decide, by show 7 ≤ 1000; decide, fun j v H4 hv hD4 sb4 => ?_⟩
      have el : lim30 = 1000000000000000000000000000000 := by decide
      obtain ⟨k, rfl, hk0, hk1⟩ : ∃ k : Int, v = .int k ∧ 0 ≤ k ∧ k ≤ lim30 := by
        rw [el]
        match j, hv with
        | 0, hv => exact ⟨_, (Option.some.inj hv).symm, by decide, by decide⟩
        | 1, hv => exact ⟨_, (Option.some.inj hv).symm, by decide, by decide⟩
        | 2, hv => exact ⟨_, (Option.some.inj hv).symm, by decide, by decide⟩
        | 3, hv => exact ⟨_, (Option.some.inj hv).symm, by decide, by decide⟩
        | 4, hv => exact ⟨_, (Option.some.inj hv).symm, by omega, by omega⟩
        | 5, hv => exact ⟨_, (Option.some.inj hv).symm, by decide, by decide⟩
        | 6, hv => exact ⟨_, (Option.some.inj hv).symm, by omega, by omega⟩
      have sb04 : Sb d H H4 := (((sb1.trans sb2).trans sb3).trans (Sb.of (same_new nlc))).trans sb4
      -- steps
      refine ⟨_, rfl, d, l, 4, rfl, hD4, by decide, by decide +kernel, fun many H5 hmany hD5 sb5 => ?_⟩
      have sb05 := sb04.trans sb5
      refine ⟨_, rfl, by omega, by omega, fun D nD => ?_⟩
      have Dd : D ≠ d := hD5.ne nD
      have nD0 : H D = none := sb05.free Dd nD
      refine lc_range (lo := 0) (n := ((many : Nat) : Int).toNat) (fun i H' => ∃ xs ss, H' D = some (.lst xs) ∧ StsP (fun x => H x = none ∧ x ≠ D) H' xs ss ∧ ss.length = i ∧ (∀ s ∈ ss, Drawn size m s) ∧ DrawAt H' d l ∧ Sb d H H') ⟨[], [], upd_same, .nil, rfl, by simp, hD5.new nD, sb05.over nD0⟩ ?_ ?_
      · rintro i H' hi ⟨xs, ss, hDD, hst, hsl, hdr, hD', sb'⟩
        refine ⟨rfl, ?_⟩
        refine ⟨_, rfl, _, rfl, _, rfl, _, _, rfl, rfl, m, rfl, d, l, size, ?_, hD', hs1, hs2, fun v st H6 hv hdv hD6 sb6 => ?_⟩
        · show [V.ref d, vi size, V.int (((m + 1 : Nat) : Int) - 1)] = [V.ref d, vi size, vi m]
          rw [show ((m + 1 : Nat) : Int) - 1 = (m : Int) by omega]
        have hDD6 := sb6 _ _ Dd hDD
        obtain ⟨ys, hys⟩ := hD'.lst
        have nx : ∀ x, H' x = none → H x = none ∧ x ≠ D := fun x hx => ⟨sb'.free (fun z => by rw [z, hys] at hx; cases hx) hx, fun z => by rw [z, hDD] at hx; cases hx⟩
        refine ⟨xs, hDD6, ?_, xs ++ [v], ss ++ [st], upd_same, ?_, by rw [List.length_append, hsl]; rfl, ?_, ?_, (sb'.trans sb6).over nD0⟩
        · rw [hst.len, hsl]; exact Nat.lt_of_le_of_lt (show i ≤ 1000 by omega) (by decide)
        · refine (StsP.mv (N := fun x => H x = none ∧ x ≠ D) (H := H6) (fun x h => h) (fun x o h e _ => by rw [upd_ne h.2]; exact e) ((StsP.mv (fun x h => h) (fun x o h e _ => sb6 x o (fun z => by obtain ⟨zs, hzs⟩ := hD.lst; rw [z, hzs] at h; cases h.1) e) hst).app (.cons (StP.mv nx (fun x o _ e _ => e) hv) .nil)))
        · intro s hs
          rcases List.mem_append.mp hs with h | h
          · exact hdr s h
          · rw [List.mem_singleton.mp h]; exact hdv
        · exact hD6.put Dd (hD5.nel nD)
      · rintro H6 ⟨xs, ss, hDD, hst, hsl, hdr, hD6, sb6⟩
        refine ⟨_, rfl, _, rfl, _, rfl, D, _, rfl, .inl ⟨SqL.of hDD, fun tu ntu => ?_⟩⟩
        have s7 := same_new (o := .tup xs) ntu
        refine ⟨_, rfl, by show 2 ≤ sizeLine; decide, fun lo nlo => ?_⟩
        have s8 := same_new (o := .lst [V.ref tu, V.ref D]) nlo
        have s68 := s7.trans s8
        have hD8 := hD6.same s68
        refine ⟨d, l, lo, _, rfl, hD8, (hD6.same s7).ne nlo, SqL.of upd_same, by show 1 ≤ 2; decide, by show 2 ≤ 1000; decide, fun jj vv H9 hvv hD9 sb9 => ?_⟩
        have tud : tu ≠ d := hD6.ne ntu
        have ntu0 : H tu = none := sb6.free tud ntu
        have hst9 : StsP (fun x => H x = none) H9 xs ss := StsP.mv (fun x h => h.1) (fun x o h e _ => sb9 x o (fun z => by obtain ⟨zs, hzs⟩ := hD.lst; rw [z, hzs] at h; cases h.1) (s68 x o e)) hst
        have hDD9 := sb9 _ _ Dd (s68 _ _ hDD)
        have htu9 := sb9 _ _ tud (s8 _ _ (upd_same (H := H6) (a := tu) (o := .tup xs)))
        obtain ⟨bb, kd, rfl, hbb, nbb⟩ : ∃ (bb : Addr) (kd : Bool), vv = .ref bb ∧ H9 bb = some (ob kd xs) ∧ H bb = none := by
          match jj, hvv with
          | 0, hvv => exact ⟨tu, false, (Option.some.inj hvv).symm, htu9, ntu0⟩
          | 1, hvv => exact ⟨D, true, (Option.some.inj hvv).symm, hDD9, nD0⟩
        refine ⟨by show 3 ≤ sizeLine; decide, fun t nt => ?_⟩
        have s10 := same_new (o := .tup [V.str "repeat", V.int k, V.ref bb]) nt
        have sb09 : Sb d H H9 := (sb6.trans (Sb.of s68)).trans sb9
        have hl : ss.length ≤ 3 := by omega
        have hwr := nWrs_bound (m := wrB m) fun s hs => (hdr s hs).wr
        refine q (.ref t) (.rnd k kd ss) _ (.rnd (sb09.free (hD9.ne nt) nt) nbb upd_same (s10 _ _ hbb) (StsP.mv (fun x h => h) (fun x o _ e _ => s10 x o e) hst9)) ⟨?_, ?_, ?_, ?_⟩ (hD9.same s10) (sb09.trans (Sb.of s10))
        · rw [Wf]; exact ⟨hk0, hk1, wfs_of fun s hs => (hdr s hs).wf⟩
        · rw [nest]
          have := nests_le (m := m) fun s hs => (hdr s hs).ne
          omega
        · rw [nWr]
          show 1 + nWrs ss ≤ 1 + 3 * wrB m
          have : ss.length * wrB m ≤ 3 * wrB m := Nat.mul_le_mul_right _ hl
          omega
        · rw [InR]; exact inRs_of fun s hs => (hdr s hs).inn
  induction n with
  | zero => exact main 0 fun sp' h => ⟨fun vs H Q E z => by obtain ⟨m, hm, _⟩ := h _ _ _ _ z; omega, fun A outer s H args us vs Q E hr e0 bb r z => by obtain ⟨m, hm, _⟩ := h _ _ _ _ z; omega⟩
  | succ n ih =>
    refine main (n + 1) fun sp' h => FnOk.imp ih fun vs H Q E z => ?_
    obtain ⟨m, hm, h2⟩ := h _ _ _ _ z
    have : m = n := by omega
    rw [← this]; exact h2
end
end Ff

namespace Ff
open PySem PySem.Spec PyProof.Rows L2 ExX LamX
abbrev sRounds : Stmt := topS 48
abbrev roundsN : List Str := ["_law_draw", "_law_size_in", "_law_most", "_law_deep", "_law_k"]
theorem scRounds : FnScope roundsN ["_law_draw", "_law_size_in", "_law_most", "_law_deep"] (defScope sRounds) := ⟨rfl, rfl, rfl, by decide +kernel, rfl, by decide +kernel, by decide +kernel⟩
abbrev sLength : Stmt := topS 49
abbrev lengthN : List Str := ["_law_steps", "_law_total", "_law_step_here"]
theorem scLength : FnScope lengthN ["_law_steps"] (defScope sLength) := ⟨rfl, rfl, rfl, by decide +kernel, rfl, by decide +kernel, by decide +kernel⟩
abbrev sExpd : Stmt := topS 50
abbrev expdN : List Str := ["_law_steps", "_law_most", "_law_found_here", "_law_step_here", "_law_inner", "_law_k"]
theorem scExpd : FnScope expdN ["_law_steps", "_law_most"] (defScope sExpd) := ⟨rfl, rfl, rfl, by decide +kernel, rfl, by decide +kernel, by decide +kernel⟩
def rLenS (K : PySem.W.Frag) : List V → Hp → VK → Prop := fun xs H Q => ∃ p ys, xs = [.ref p] ∧ (SqL K H p ys ∨ SqT K H p ys) ∧ Q (.int ys.length) H
/-- lists of drawn steps -/
inductive RdAt (N : Addr → Prop) (H : Hp) : List Addr → List (List Stp) → Prop
  | nil : RdAt N H [] []
  | cons {b : Addr} {xs : List V} {as : List Addr} {ps : List (List Stp)} {ss : List Stp} : N b → H b = some (.lst xs) → StsP N H xs ss → RdAt N H as ps → RdAt N H (b :: as) (ss :: ps)
theorem RdAt.mv {N N' : Addr → Prop} {H H' : Hp} (hN : ∀ x, N x → N' x) (e : ∀ x o, N x → H x = some o → (∀ ps, o ≠ .tbl ps) → H' x = some o) : ∀ {as : List Addr} {ps : List (List Stp)}, RdAt N H as ps → RdAt N' H' as ps
  | _, _, .nil => .nil
  | _, _, .cons n h1 h2 r => .cons (hN _ n) (e _ _ n h1 (by intro ps z; cases z)) (h2.mv hN e) (RdAt.mv hN e r)
theorem RdAt.app {N : Addr → Prop} {H : Hp} : ∀ {as bs : List Addr} {ps qs : List (List Stp)}, RdAt N H as ps → RdAt N H bs qs → RdAt N H (as ++ bs) (ps ++ qs)
  | _, _, _, _, .nil, h => h
  | _, _, _, _, .cons n h1 h2 r, h => .cons n h1 h2 (RdAt.app r h)
theorem RdAt.len {N : Addr → Prop} {H : Hp} : ∀ {as : List Addr} {ps : List (List Stp)}, RdAt N H as ps → as.length = ps.length
  | _, _, .nil => rfl
  | _, _, .cons _ _ _ r => by simp [RdAt.len r]
theorem RdAt.get {N : Addr → Prop} {H : Hp} : ∀ {as : List Addr} {ps : List (List Stp)}, RdAt N H as ps → ∀ {i : Nat} {b : Addr}, as[i]? = some b → ∃ ss xs, ps[i]? = some ss ∧ N b ∧ H b = some (.lst xs) ∧ StsP N H xs ss
  | _, _, .nil, i, b, e => by simp at e
  | _, _, .cons n h1 h2 r, 0, b, e => by cases Option.some.inj e; exact ⟨_, _, rfl, n, h1, h2⟩
  | _, _, .cons n h1 h2 r, i + 1, b, e => RdAt.get r e
mutual
theorem exp1_in {m : Int} {n : Nat} : ∀ {s : Stp}, Wf false s → InR n s → ∀ t ∈ exp1 m s, IsFnd n t
  | .fnd z, _, i, t, h => by
    rw [exp1, List.mem_singleton] at h
    rw [InR] at i
    exact ⟨z.toNat, by rw [h]; congr 1; omega, by omega⟩
  | .lnk _ _, w, i, t, h => by rw [Wf] at w; cases w
  | .rnd k _ ss, w, i, t, h => by
    rw [Wf] at w
    rw [InR] at i
    rw [exp1] at h
    by_cases z : 0 < k * nFnds ss
    · rw [if_pos z, List.mem_flatten] at h
      obtain ⟨l, hl, ht⟩ := h
      rw [(List.mem_replicate.mp hl).2] at ht
      exact exps_in w.2.2 i t ht
    · rw [if_neg z] at h; cases h
theorem exps_in {m : Int} {n : Nat} : ∀ {ss : List Stp}, Wfs false ss → InRs n ss → ∀ t ∈ exps m ss, IsFnd n t
  | [], _, _, t, h => by rw [exps] at h; cases h
  | s :: r, w, i, t, h => by
    rw [Wfs] at w
    rw [InRs] at i
    rw [exps, List.mem_append] at h
    rcases h with h | h
    · exact exp1_in w.1 i.1 t h
    · exact exps_in w.2 i.2 t h
end
theorem StsAt.nats {H : Hp} : ∀ {ys : List V} {zs : List Nat}, StsAt H ys (fS zs) → ys = natsV zs
  | ys, [], h => by
    rw [show fS [] = [] from rfl] at h
    cases h; rfl
  | ys, z :: zs, h => by
    rw [fS_cons] at h
    cases h with
    | cons h r =>
      cases h
      rw [StsAt.nats r]; rfl
theorem StsAt.of_nats {H : Hp} : ∀ zs : List Nat, StsAt H (natsV zs) (fS zs)
  | [] => .nil
  | z :: zs => .cons (.fnd _) (StsAt.of_nats zs)
def spRounds (deep : Nat) : Sp := fun vs H Q _ => ∃ (d l : Addr) (size most : Nat), vs = [.ref d, vi size, vi most, vi deep] ∧ DrawAt H d l ∧ 1 ≤ size ∧ size ≤ 1000 ∧ most ≤ 100 ∧
  ∀ (D : Addr) (xs : List V) (ss : List Stp) H', H D = none → D ≠ d → H' D = some (.lst xs) → StsP (fun x => H x = none ∧ x ≠ D) H' xs ss → ss.length ≤ most → (∀ s ∈ ss, Drawn size deep s) → DrawAt H' d l → Sb d H H' → Q (.ref D) H'
def spLength (n : Nat) : Sp := fun vs H Q _ => ∃ (kd : Bool) (a : Addr) (xs : List V) (ss : List Stp) (top : Bool), vs = [.ref a] ∧ H a = some (ob kd xs) ∧ StsAt H xs ss ∧ Wfs top ss ∧ nests ss ≤ n ∧ nests ss ≤ 10 ∧ nWrs ss ≤ 1000 ∧ Q (.int (nFnds ss)) H
def spExpd (n : Nat) : Sp := fun vs H Q _ => ∃ (kd : Bool) (a : Addr) (xs : List V) (ss : List Stp) (top : Bool) (m : Nat), vs = [.ref a, vi m] ∧ H a = some (ob kd xs) ∧ StsAt H xs ss ∧ Wfs top ss ∧ nests ss ≤ n ∧ nests ss ≤ 10 ∧ nWrs ss ≤ 1000 ∧ 1 ≤ m ∧ m ≤ 10000 ∧ (exps m ss).length ≤ 100000 ∧
  ∀ (q : Addr) (ys : List V) H', H q = none → H' q = some (.lst ys) → StsAt H ys (exps m ss) → Same H H' → Q (.ref q) H'
mutual
theorem exp1_fnd {m : Int} : ∀ {s : Stp}, Wf false s → ∀ t ∈ exp1 m s, isF t = true
  | .fnd z, _, t, h => by
    rw [exp1, List.mem_singleton] at h
    rw [h]; rfl
  | .lnk _ _, w, t, h => by rw [Wf] at w; cases w
  | .rnd k _ ss, w, t, h => by
    rw [Wf] at w
    rw [exp1] at h
    by_cases z : 0 < k * nFnds ss
    · rw [if_pos z, List.mem_flatten] at h
      obtain ⟨l, hl, ht⟩ := h
      rw [(List.mem_replicate.mp hl).2] at ht
      exact exps_fnd w.2.2 t ht
    · rw [if_neg z] at h; cases h
theorem exps_fnd {m : Int} : ∀ {ss : List Stp}, Wfs false ss → ∀ t ∈ exps m ss, isF t = true
  | [], _, t, h => by rw [exps] at h; cases h
  | s :: r, w, t, h => by
    rw [Wfs] at w
    rw [exps, List.mem_append] at h
    rcases h with h | h
    · exact exp1_fnd w.1 t h
    · exact exps_fnd w.2 t h
end
theorem StsAt.fnds {H H' : Hp} : ∀ {xs : List V} {ss : List Stp}, StsAt H xs ss → (∀ t ∈ ss, isF t = true) → StsAt H' xs ss
  | _, _, .nil, _ => .nil
  | _, _, .cons h r, z => by
    refine .cons ?_ (StsAt.fnds r fun t ht => z t (List.mem_cons_of_mem _ ht))
    have := z _ List.mem_cons_self
    cases h with
    | fnd y => exact .fnd y
    | lnk h => cases this
    | rnd h1 h2 h3 => cases this
theorem StsAt.rep {H : Hp} {xs : List V} {ss : List Stp} (h : StsAt H xs ss) : ∀ k : Nat, StsAt H (List.replicate k xs).flatten (List.replicate k ss).flatten
  | 0 => by simp; exact .nil
  | k + 1 => by
    rw [List.replicate_succ, List.replicate_succ, List.flatten_cons, List.flatten_cons]
    exact h.app (StsAt.rep h k)
theorem rep_snoc {α : Type} (l : List α) (k : Nat) : (List.replicate (k + 1) l).flatten = (List.replicate k l).flatten ++ l := by
  rw [List.replicate_succ', List.flatten_append]; simp
mutual
/-- rounds with tuples -/
def tup1 : Stp → Stp
  | .fnd z => .fnd z
  | .lnk c a => .lnk c a
  | .rnd k _ ss => .rnd k false (tups ss)
def tups : List Stp → List Stp
  | [] => []
  | s :: r => tup1 s :: tups r
end
theorem tups_app : ∀ l k : List Stp, tups (l ++ k) = tups l ++ tups k
  | [], k => by rw [List.nil_append, tups, List.nil_append]
  | x :: l, k => by rw [List.cons_append, tups, tups, tups_app l k, List.cons_append]
theorem tups_take {l : List Stp} {i : Nat} {s : Stp} (h : l[i]? = some s) : tups (l.take (i + 1)) = tups (l.take i) ++ [tup1 s] := by
  rw [take_snoc h, tups_app, tups, tups]
theorem tups_len : ∀ l : List Stp, (tups l).length = l.length
  | [] => by rw [tups]
  | x :: l => by rw [tups, List.length_cons, List.length_cons, tups_len l]
theorem tups_fS : ∀ xs : List Nat, tups (fS xs) = fS xs
  | [] => by show tups [] = []; rw [tups]
  | x :: xs => by rw [fS_cons, tups, tups_fS xs, tup1]
mutual
theorem StAt.tput {H : Hp} {D : Addr} {acc acc' : List V} (hD : H D = some (.lst acc)) : ∀ {s : Stp} {v : V}, StAt H v (tup1 s) → StAt (upd H D (.lst acc')) v (tup1 s)
  | .fnd z, v, h => by
    rw [tup1] at h ⊢
    cases h; exact .fnd z
  | .lnk c a, v, h => by
    rw [tup1] at h ⊢
    cases h with
    | lnk h => exact .lnk (by rw [upd_ne (ne_of h hD (by intro z; cases z))]; exact h)
  | .rnd k kd ss, v, h => by
    rw [tup1] at h ⊢
    cases h with
    | rnd h1 h2 h3 => exact .rnd (by rw [upd_ne (ne_of h1 hD (by intro z; cases z))]; exact h1) (by rw [upd_ne (ne_of h2 hD (by intro z; cases z))]; exact h2) (StsAt.tput hD h3)
theorem StsAt.tput {H : Hp} {D : Addr} {acc acc' : List V} (hD : H D = some (.lst acc)) : ∀ {ss : List Stp} {xs : List V}, StsAt H xs (tups ss) → StsAt (upd H D (.lst acc')) xs (tups ss)
  | [], xs, h => by
    rw [tups] at h ⊢
    cases h; exact .nil
  | s :: r, xs, h => by
    rw [tups] at h ⊢
    cases h with
    | cons h r => exact .cons (StAt.tput hD h) (StsAt.tput hD r)
end
theorem List.reverseRecOn' {α : Type} {C : List α → Prop} (l : List α) (nil : C []) (snoc : ∀ l x, C l → C (l ++ [x])) : C l := by
  have : ∀ n (l : List α), l.length = n → C l := fun n => by
    induction n with
    | zero => intro l h; rw [List.length_eq_zero_iff.mp h]; exact nil
    | succ n ih =>
      intro l h
      have hne : l ≠ [] := fun z => by rw [z] at h; cases h
      rw [← List.dropLast_concat_getLast hne]
      exact snoc _ _ (ih _ (by rw [List.length_dropLast]; omega))
  exact this _ l rfl
def kdOf : Stp → Bool
  | .rnd _ kd _ => kd
  | _ => true
/-- the epochs: those that are done, and the last -/
def epD (ss : List Stp) : List (List Stp) × List Stp := ss.foldl (fun dc s => if isL s = true then (dc.1 ++ [dc.2], []) else (dc.1, dc.2 ++ [tup1 s])) ([], [])
theorem epD_snoc (ss : List Stp) (s : Stp) : epD (ss ++ [s]) = if isL s = true then ((epD ss).1 ++ [(epD ss).2], []) else ((epD ss).1, (epD ss).2 ++ [tup1 s]) := by
  unfold epD
  rw [List.foldl_append]; rfl
theorem epD_take {l : List Stp} {i : Nat} {s : Stp} (h : l[i]? = some s) : epD (l.take (i + 1)) = if isL s = true then ((epD (l.take i)).1 ++ [(epD (l.take i)).2], []) else ((epD (l.take i)).1, (epD (l.take i)).2 ++ [tup1 s]) := by
  rw [take_snoc h, epD_snoc]
/-- lists of steps at addresses -/
inductive EpAt (H : Hp) : List Addr → List (List Stp) → Prop
  | nil : EpAt H [] []
  | cons {b : Addr} {ys : List V} {as : List Addr} {ps : List (List Stp)} {ss : List Stp} : H b = some (.lst ys) → StsAt H ys (tups ss) → EpAt H as ps → EpAt H (b :: as) (tups ss :: ps)
theorem EpAt.app {H : Hp} : ∀ {as bs : List Addr} {ps qs : List (List Stp)}, EpAt H as ps → EpAt H bs qs → EpAt H (as ++ bs) (ps ++ qs)
  | _, _, _, _, .nil, h => h
  | _, _, _, _, .cons h1 h2 r, h => .cons h1 h2 (EpAt.app r h)
theorem EpAt.same {H H' : Hp} (e : Same H H') : ∀ {as : List Addr} {ps : List (List Stp)}, EpAt H as ps → EpAt H' as ps
  | _, _, .nil => .nil
  | _, _, .cons h1 h2 r => .cons (e _ _ h1) (h2.same e) (EpAt.same e r)
theorem EpAt.put {H : Hp} {D : Addr} {acc acc' : List V} (hD : H D = some (.lst acc)) : ∀ {as : List Addr} {ps : List (List Stp)}, EpAt H as ps → D ∉ as → EpAt (upd H D (.lst acc')) as ps
  | _, _, .nil, _ => .nil
  | _, _, .cons h1 h2 r, n => by
    refine .cons (by rw [upd_ne (fun z => n (by rw [z]; exact List.mem_cons_self))]; exact h1) (h2.tput hD) (EpAt.put hD r fun z => n (List.mem_cons_of_mem _ z))
theorem EpAt.len {H : Hp} : ∀ {as : List Addr} {ps : List (List Stp)}, EpAt H as ps → as.length = ps.length
  | _, _, .nil => rfl
  | _, _, .cons _ _ r => by simp [EpAt.len r]
theorem EpAt.get {H : Hp} : ∀ {as : List Addr} {ps : List (List Stp)}, EpAt H as ps → ∀ {i : Nat} {b : Addr}, as[i]? = some b → ∃ p ys, ps[i]? = some p ∧ H b = some (.lst ys) ∧ StsAt H ys p
  | _, _, .nil, i, b, e => by simp at e
  | _, _, .cons h1 h2 r, 0, b, e => by cases Option.some.inj e; exact ⟨_, _, rfl, h1, h2⟩
  | _, _, .cons h1 h2 r, i + 1, b, e => EpAt.get r e
theorem EpAt.free {H : Hp} {b : Addr} (nb : H b = none) : ∀ {as : List Addr} {ps : List (List Stp)}, EpAt H as ps → b ∉ as
  | _, _, .nil => by simp
  | _, _, .cons h1 h2 r => fun z => by
    rcases List.mem_cons.mp z with z | z
    · rw [← z, nb] at h1; cases h1
    · exact EpAt.free nb r z
def refsV (as : List Addr) : List V := as.map V.ref
section
variable {P : Program} {w : World} {K : PySem.W.Frag} {mg : Str → Option Value} {base : Heap}
theorem ok_rounds {f fT fS : Addr} {fd fdT fdS : FuncData} (F : Fun K "_law_rounds" "_law_rounds" sRounds f fd) (m : Nat) (k1 : Kn P w K mg base 1 "_law_take" sTake ["_law_draw", "_law_many"] spTake fT fdT) (k2 : Kn P w K mg base (m + 3) "_law_step" sStep ["_law_draw", "_law_size_in", "_law_deep"] (spStep m) fS fdS) (T : Tx mg) :
    FnOk P w K mg base CX0 (m + 4) f fd ["_law_draw", "_law_size_in", "_law_most", "_law_deep"] (spRounds m) := by
  refine F.ok scRounds (fun vs H Q E h => ?_) (fun cdv A outer s H vs Q E hr h => ?_)
  · obtain ⟨d, l, size, most, rfl, _⟩ := h
    rfl
  · obtain ⟨d, l, size, most, rfl, hD, hs1, hs2, hm, q⟩ := h
    have hrm : ∀ {j : Nat}, j ≤ m + 3 → Room j (A.deeper (envOfC "_law_rounds" (defScope sRounds) s.heap.objs.size f cdv)) := fun h => hr.mono h
    refine ⟨_, (pss_one (ps_ret (pe_lc (own := [("_law_k", 4)]) (g := gName 4) (by rfl) scRounds.nd (pi_range1 (by rfl) T.range (pa_cons (pe_call k1.G (hrm (by omega)) (by rfl) k1.g k1.F.kp k1.b .nil pass0 (pa_cons (pv 0) (pa_cons (pe_op op_add (pv 2) pe_int) pa_nil))) pa_nil)) (blkOk_by (own := [("_law_k", 4)]) (N := roundsN) (sc := defScope sRounds) (by decide +kernel)) (fun _ _ _ _ _ => (pg_name (i := 4) scRounds.nd rfl (.inl rfl))) (fun _ _ _ _ _ => pts_nil) (fun _ _ _ _ _ => (pe_call k2.G (hrm (by omega)) (by rfl) k2.g k2.F.kp k2.b .nil pass0 (pa_cons (pv 0) (pa_cons (pv 1) (pa_cons (pv 3) pa_nil)))))))), ?_⟩
    refine ⟨_, rfl, _, rfl, _, _, rfl, rfl, d, l, _, rfl, hD, by omega, Nat.lt_of_le_of_lt (show _ ≤ 1001 by omega) (by decide +kernel), fun many H5 hmany hD5 sb5 => ?_⟩
    refine ⟨_, rfl, by omega, by omega, fun D nD => ?_⟩
    have Dd : D ≠ d := hD5.ne nD
    have nD0 : H D = none := sb5.free Dd nD
    refine lc_range (lo := 0) (n := ((many : Nat) : Int).toNat) (fun i H' => ∃ xs ss, H' D = some (.lst xs) ∧ StsP (fun x => H x = none ∧ x ≠ D) H' xs ss ∧ ss.length = i ∧ (∀ s ∈ ss, Drawn size m s) ∧ DrawAt H' d l ∧ Sb d H H') ⟨[], [], upd_same, .nil, rfl, by simp, hD5.new nD, sb5.over nD0⟩ ?_ ?_
    · rintro i H' hi ⟨xs, ss, hDD, hst, hsl, hdr, hD', sb'⟩
      refine ⟨rfl, ?_⟩
      refine ⟨_, rfl, _, rfl, _, rfl, d, l, size, rfl, hD', hs1, hs2, fun v st H6 hv hdv hD6 sb6 => ?_⟩
      have hDD6 := sb6 _ _ Dd hDD
      obtain ⟨ys, hys⟩ := hD'.lst
      have nx : ∀ x, H' x = none → H x = none ∧ x ≠ D := fun x hx => ⟨sb'.free (fun z => by rw [z, hys] at hx; cases hx) hx, fun z => by rw [z, hDD] at hx; cases hx⟩
      refine ⟨xs, hDD6, ?_, xs ++ [v], ss ++ [st], upd_same, ?_, by rw [List.length_append, hsl]; rfl, ?_, ?_, (sb'.trans sb6).over nD0⟩
      · rw [hst.len, hsl]; exact Nat.lt_of_le_of_lt (show i ≤ 1000 by omega) (by decide)
      · refine (StsP.mv (N := fun x => H x = none ∧ x ≠ D) (H := H6) (fun x h => h) (fun x o h e _ => by rw [upd_ne h.2]; exact e) ((StsP.mv (fun x h => h) (fun x o h e _ => sb6 x o (fun z => by obtain ⟨zs, hzs⟩ := hD.lst; rw [z, hzs] at h; cases h.1) e) hst).app (.cons (StP.mv nx (fun x o _ e _ => e) hv) .nil)))
      · intro s hs
        rcases List.mem_append.mp hs with h | h
        · exact hdr s h
        · rw [List.mem_singleton.mp h]; exact hdv
      · exact hD6.put Dd (hD5.nel nD)
    · rintro H6 ⟨xs, ss, hDD, hst, hsl, hdr, hD6, sb6⟩
      exact q D xs ss H6 nD0 Dd hDD hst (by omega) hdr hD6 sb6
theorem ok_length {f : Addr} {fd : FuncData} (F : Fun K "_law_length" "_law_length" sLength f fd) (TS : TxS mg) (b : Binds K fd ["_law_steps"] []) (g : mg "_law_length" = some (.ref f)) :
    ∀ n, FnOk P w K mg base CX0 (n + 1) f fd ["_law_steps"] (spLength n) := by
  intro n
  have main : ∀ n, (∀ sp' : Sp, (∀ vs H Q E, sp' vs H Q E → ∃ m, m < n ∧ spLength m vs H Q E) → FnOk P w K mg base CX0 n f fd ["_law_steps"] sp') → FnOk P w K mg base CX0 (n + 1) f fd ["_law_steps"] (spLength n) := by
    intro n ih0
    have ih := ih0 (fun vs H Q E => ∃ m, m < n ∧ spLength m vs H Q E) fun _ _ _ _ h => h
    refine F.ok scLength (fun vs H Q E h => ?_) (fun cdv A outer s H vs Q E hr h => ?_)
    · obtain ⟨kd0, a, xs, ss, top, rfl, _⟩ := h
      rfl
    · obtain ⟨kd0, a, xs, ss, top, rfl, ha, hss, wf, hn, hn4, hw, q⟩ := h
      have hrm : ∀ {j : Nat}, j ≤ n → Room j (A.deeper (envOfC "_law_length" (defScope sLength) s.heap.objs.size f cdv)) := fun h => hr.mono h
      refine ⟨_, (pss_cons (ps_set (i := 1) scLength.nd rfl (.inl rfl) pe_int)
      (pss_cons (ps_for PassesOwn.never rfl (pi_kd kd0 (pv 0)) (pg_name (i := 2) scLength.nd rfl (.inl rfl))
        (pss_one (ps_if (pt_val (pe_callB call_isi (by rfl) TS.isinstance (by decide +kernel) (pa_cons (pv 2) (pa_cons (pe_ty (n := "int") (by rfl) TS.int (by decide +kernel)) pa_nil))))
          (pss_one (ps_set (i := 1) scLength.nd rfl (.inl rfl) (pe_op op_add (pv 1) pe_int))) (pss_one (ps_if (pt_cmpR op_eq (pe_ix (show IxR _ (rIx K) from ix_seq) (pv 2) pe_int (fun _ _ => rfl)) pe_str (nomark _))
            (pss_one (ps_set (i := 1) scLength.nd rfl (.inl rfl) (pe_op op_add (pv 1) (pe_op op_mulW (pe_ix (show IxR _ (rIx K) from ix_seq) (pv 2) pe_int (fun _ _ => rfl)) (pe_call ih (hrm (by omega)) (by rfl) g F.kp b .nil pass0 (pa_cons (pe_ix (show IxR _ (rIx K) from ix_seq) (pv 2) pe_int (fun _ _ => rfl)) pa_nil)))))) pss_nil)))))
      (pss_one (ps_ret (pv 1))))), ?_⟩
      refine for_kd (xs := xs) rfl (ob_kd ha) (fun i σ H' => (∃ y, σ = [some (.ref a), some (.int (nFnds (ss.take i))), y]) ∧ H' = H) ⟨⟨_, rfl⟩, rfl⟩ (fun i σ H' _ h => by rw [h.2]; exact ob_kd ha) ?_ ?_
      · rintro i v σ H' hv ⟨⟨y, rfl⟩, rfl⟩
        obtain ⟨st, hst, hat⟩ := hss.get hv
        have hmem := List.mem_of_getElem? hst
        have hti := nFnds_take hst
        have wfs := wfs_mem wf hmem
        have hne := nests_mem hmem
        have hwm := nWrs_mem hmem
        cases hat with
        | fnd z =>
          refine ⟨_, rfl, _, _, _, _, _, rfl, .ty _, .base (.int z), kit_ty (r := true) (by decide +kernel), _, rfl, iteT ?_⟩
          refine ⟨_, rfl, _, _, rfl, rfl, ⟨some (.int z), ?_⟩, rfl⟩
          rw [hti, nFnd]; rfl
        | @lnk t c0 a0 h =>
          refine ⟨_, rfl, _, _, _, _, _, rfl, .ty _, .base (.tup h), kit_ty (r := false) (by decide +kernel), _, rfl, iteF ?_⟩
          refine ⟨_, rfl, Sq.ix (.inr (SqT.of h)) rfl ⟨rfl, _, rfl, iteF ⟨⟨some (.ref t), ?_⟩, rfl⟩⟩⟩
          rw [hti, nFnd, Int.add_zero]; rfl
        | @rnd t b2 k kd2 ys s2' ht hb hsts =>
          refine ⟨_, rfl, _, _, _, _, _, rfl, .ty _, .base (.tup ht), kit_ty (r := false) (by decide +kernel), _, rfl, iteF ?_⟩
          rw [Wf] at wfs
          rw [nest] at hne
          rw [nWr] at hwm
          rw [nFnd] at hti
          refine ⟨_, rfl, Sq.ix (.inr (SqT.of ht)) rfl ⟨rfl, _, rfl, iteT ?_⟩⟩
          refine ⟨_, rfl, _, rfl, Sq.ix (.inr (SqT.of ht)) rfl ⟨_, rfl, Sq.ix (.inr (SqT.of ht)) rfl ⟨nests s2', by omega, kd2, b2, ys, s2', false, rfl, hb, hsts, wfs.2.2, Nat.le_refl _, by omega, by omega, _, _, rfl, rfl, ?_, _, _, rfl, rfl, ⟨some (.ref t), ?_⟩, rfl⟩⟩⟩
          · have hk : k.natAbs < 2 ^ 100 := wide_le wfs.1 wfs.2.1 lim_bits
            exact wide_mul hk (nFnds_bits wfs.2.2 (by omega) (by omega)) (by decide) (by decide) (by decide)
          · rw [hti]; rfl
      · rintro σ H' ⟨⟨y, rfl⟩, rfl⟩
        rw [hss.len, List.take_length]
        exact ⟨_, rfl, q⟩
  induction n using Nat.strongRecOn with
  | _ n ih =>
    refine main n fun sp' h => ?_
    cases n with
    | zero => exact ⟨fun vs H Q E z => by obtain ⟨m, hm, _⟩ := h _ _ _ _ z; omega, fun A outer s H args us vs Q E hr e0 bb r z => by obtain ⟨m, hm, _⟩ := h _ _ _ _ z; omega⟩
    | succ n =>
      refine FnOk.imp (FnOk.mono (ih n (by omega)) (by omega)) fun vs H Q E z => ?_
      obtain ⟨m, hm, kd, a, xs, ss, top, e, h1, h2, h3, h4, h5, h6⟩ := h _ _ _ _ z
      exact ⟨kd, a, xs, ss, top, e, h1, h2, h3, by omega, h5, h6⟩
theorem ok_expd {f fN : Addr} {fd fdN : FuncData} (F : Fun K "_law_expanded" "_law_expanded" sExpd f fd) (T : Tx mg) (TS : TxS mg) (kN : ∀ m, Kn P w K mg base (m + 1) "_law_length" sLength ["_law_steps"] (spLength m) fN fdN) (b : Binds K fd ["_law_steps", "_law_most"] []) (g : mg "_law_expanded" = some (.ref f)) :
    ∀ n, FnOk P w K mg base CX0 (n + 2) f fd ["_law_steps", "_law_most"] (spExpd n) := by
  intro n
  have main : ∀ n, (∀ sp' : Sp, (∀ vs H Q E, sp' vs H Q E → ∃ m, m < n ∧ spExpd m vs H Q E) → FnOk P w K mg base CX0 (n + 1) f fd ["_law_steps", "_law_most"] sp') → FnOk P w K mg base CX0 (n + 2) f fd ["_law_steps", "_law_most"] (spExpd n) := by
    intro n ih0
    have ih := ih0 (fun vs H Q E => ∃ m, m < n ∧ spExpd m vs H Q E) fun _ _ _ _ h => h
    have kN := kN n
    refine F.ok scExpd (fun vs H Q E h => ?_) (fun cdv A outer s H vs Q E hr h => ?_)
    · obtain ⟨kd0, a, xs, ss, top, m, rfl, _⟩ := h
      rfl
    · obtain ⟨kd0, a, xs, ss, top, m, rfl, ha, hss, wf, hn, hn4, hw, hm1, hm2, hlen, q⟩ := h
      have hrm : ∀ {j : Nat}, j ≤ n + 1 → Room j (A.deeper (envOfC "_law_expanded" (defScope sExpd) s.heap.objs.size f cdv)) := fun h => hr.mono h
      refine ⟨_, (pss_cons (ps_set (i := 2) scExpd.nd rfl (.inl rfl) (pe_lst pa_nil))
      (pss_cons (ps_for PassesOwn.never rfl (pi_kd kd0 (pv 0)) (pg_name (i := 3) scExpd.nd rfl (.inl rfl))
        (pss_one (ps_if (PW.pt (pw_or (pt_val (pe_callB call_isi (by rfl) TS.isinstance (by decide +kernel) (pa_cons (pv 3) (pa_cons (pe_ty (n := "int") (by rfl) TS.int (by decide +kernel)) pa_nil)))) (pw_or1 (pt_cmpR op_eq (pe_ix (show IxR _ (rIx K) from ix_seq) (pv 3) pe_int (fun _ _ => rfl)) pe_str (nomark _)))))
          (pss_one (ps_expr (pe_bm PySem.F.plainAttrs_list PySem.F.slot_list_append PySem.F.type_list_append mt_append (pv 2) (pa_cons (pv 3) pa_nil)))) (pss_one (ps_if (pt_cmpR op_gt (pe_op op_mulW (pe_ix (show IxR _ (rIx K) from ix_seq) (pv 3) pe_int (fun _ _ => rfl)) (pe_call kN.G (hrm (by omega)) (by rfl) kN.g kN.F.kp kN.b .nil pass0 (pa_cons (pe_ix (show IxR _ (rIx K) from ix_seq) (pv 3) pe_int (fun _ _ => rfl)) pa_nil))) pe_int (nomark _))
            (pss_cons (ps_set (i := 4) scExpd.nd rfl (.inl rfl) (pe_call ih (hrm (by omega)) (by rfl) g F.kp b .nil pass0 (pa_cons (pe_ix (show IxR _ (rIx K) from ix_seq) (pv 3) pe_int (fun _ _ => rfl)) (pa_cons (pv 1) pa_nil))))
            (pss_one (ps_for PassesOwn.never rfl (pi_range1 (by rfl) T.range (pa_cons (pe_callB (call_min2 rfl) (by rfl) T.min (by decide +kernel) (pa_cons (pv 1) (pa_cons (pe_ix (show IxR _ (rIx K) from ix_seq) (pv 3) pe_int (fun _ _ => rfl)) pa_nil))) pa_nil)) (pg_name (i := 5) scExpd.nd rfl (.inl rfl))
              (pss_one (ps_expr (pe_bm PySem.F.plainAttrs_list PySem.F.slot_list_extend PySem.F.type_list_extend mt_extend (pv 2) (pa_cons (pv 4) pa_nil))))))) pss_nil)))))
      (pss_one (ps_ret (pv 2))))), ?_⟩
      refine ⟨Nat.zero_le _, fun L nL => ?_⟩
      refine for_kd (xs := xs) rfl (ob_kd ((same_new nL) _ _ ha)) (fun i σ H' => (∃ y3 y4 y5, σ = [some (.ref a), some (vi m), some (.ref L), y3, y4, y5]) ∧ Same H H' ∧ ∃ ys, H' L = some (.lst ys) ∧ StsAt H ys (exps m (ss.take i))) ⟨⟨_, _, _, rfl⟩, same_new nL, [], upd_same, by rw [List.take_zero, exps]; exact .nil⟩ (fun i σ H' _ h => ob_kd (h.2.1 _ _ ha)) ?_ ?_
      · rintro i v σ H' hv ⟨⟨y3, y4, y5, rfl⟩, sm, ys, hL, hys⟩
        obtain ⟨st, hst, hat⟩ := hss.get hv
        have hmem := List.mem_of_getElem? hst
        have hti := exps_take (m := m) hst
        have htl := exps_take_le m ss (i + 1)
        have wfs := wfs_mem wf hmem
        have hne := nests_mem hmem
        have hwm := nWrs_mem hmem
        have hyl := hys.len
        rw [hti, List.length_append] at htl
        have big : ∀ k : Nat, k ≤ 100000 → k ≤ sizeLine := fun k h => Nat.le_trans h (by decide)
        have one : (exp1 m st).length = 1 → ys.length < sizeLine := fun z => Nat.lt_of_lt_of_le (show ys.length < 100000 by omega) (by decide)
        cases hat with
        | fnd z =>
          refine ⟨_, rfl, _, _, _, _, _, rfl, .ty _, .base (.int z), kit_ty (r := true) (by decide +kernel), _, rfl, iteT ?_⟩
          rw [exp1] at hti
          exact ⟨_, rfl, .inl ⟨rfl, _, SqL.of hL⟩, _, rfl, L, _, _, rfl, rfl, hL, one (by rw [exp1]; rfl), ⟨_, _, _, rfl⟩, same_over sm nL, _, upd_same, by rw [hti]; exact hys.app (.cons (.fnd z) .nil)⟩
        | @lnk t c0 a0 h =>
          refine ⟨_, rfl, _, _, _, _, _, rfl, .ty _, .base (.tup (sm _ _ h)), kit_ty (r := false) (by decide +kernel), _, rfl, iteF ?_⟩
          rw [exp1] at hti
          refine ⟨_, rfl, Sq.ix (.inr (SqT.of (sm _ _ h))) rfl ⟨rfl, _, rfl, iteT ?_⟩⟩
          exact ⟨_, rfl, .inl ⟨rfl, _, SqL.of hL⟩, _, rfl, L, _, _, rfl, rfl, hL, one (by rw [exp1]; rfl), ⟨_, _, _, rfl⟩, same_over sm nL, _, upd_same, by rw [hti]; exact hys.app (.cons (.lnk h) .nil)⟩
        | @rnd t b2 k kd2 zs s2' ht hb hsts =>
          have ht' := sm _ _ ht
          refine ⟨_, rfl, _, _, _, _, _, rfl, .ty _, .base (.tup ht'), kit_ty (r := false) (by decide +kernel), _, rfl, iteF ?_⟩
          rw [Wf] at wfs
          rw [nest] at hne
          rw [nWr] at hwm
          refine ⟨_, rfl, Sq.ix (.inr (SqT.of ht')) rfl ⟨rfl, _, rfl, iteF ?_⟩⟩
          have hk : k.natAbs < 2 ^ 100 := wide_le wfs.1 wfs.2.1 lim_bits
          refine ⟨_, rfl, Sq.ix (.inr (SqT.of ht')) rfl ⟨_, rfl, Sq.ix (.inr (SqT.of ht')) rfl ⟨kd2, b2, zs, s2', false, rfl, sm _ _ hb, hsts.same sm, wfs.2.2, by omega, by omega, by omega, _, _, rfl, rfl, wide_mul hk (nFnds_bits wfs.2.2 (by omega) (by omega)) (by decide) (by decide) (by decide), _, _, rfl, rfl, _, rfl, ?_⟩⟩⟩
          show if decide ((0 : Int) < k * nFnds s2') = true then _ else _
          rw [exp1] at hti
          by_cases hz : 0 < k * nFnds s2'
          · rw [decide_eq_true hz]
            rw [if_pos hz] at hti
            have hk1 : 1 ≤ k := by
              have h0 := wfs.1
              by_cases e : k = 0
              · rw [e, Int.zero_mul] at hz; omega
              · omega
            have hlr : (exp1 m (.rnd k kd2 s2')).length = (min (m : Int) k).toNat * (exps m s2').length := by
              rw [exp1, if_pos hz, List.length_flatten, List.map_replicate, List.sum_replicate_nat]
            have hmk : 1 ≤ (min (m : Int) k).toNat := by omega
            have hle : (exps m s2').length ≤ (min (m : Int) k).toNat * (exps m s2').length := Nat.le_mul_of_pos_left _ hmk
            refine iteT ⟨_, rfl, Sq.ix (.inr (SqT.of ht')) rfl ⟨_, rfl, nests s2', by omega, kd2, b2, zs, s2', false, m, rfl, sm _ _ hb, hsts.same sm, wfs.2.2, Nat.le_refl _, by omega, by omega, hm1, hm2, by omega, fun I us H2 nI hI hus s2 => ?_⟩⟩
            have hus0 : StsAt H us (exps m s2') := hus.fnds (exps_fnd wfs.2.2)
            have s02 := sm.trans s2
            have hL2 := s2 _ _ hL
            have LI : L ≠ I := fun z => by rw [← z, hL] at nI; cases nI
            refine ⟨_, rfl, _, rfl, Sq.ix (.inr (SqT.of (s2 _ _ ht'))) rfl ⟨_, _, rfl, ?_⟩⟩
            have emin : (if k < ((m : Nat) : Int) then k else ((m : Nat) : Int)) = min (m : Int) k := by
              by_cases e : k < (m : Int)
              · rw [if_pos e]; omega
              · rw [if_neg e]; omega
            rw [emin]
            generalize hM : min (m : Int) k = M at hti hlr hle hmk
            have hM2 : M ≤ 10000 := by omega
            refine ⟨_, rfl, by omega, by omega, ?_⟩
            refine for_range (lo := 0) (n := M.toNat) (fun j σ H' => (∃ y5, σ = [some (.ref a), some (vi m), some (.ref L), some (.ref t), some (.ref I), y5]) ∧ Same H H' ∧ H' I = some (.lst us) ∧ ∃ ws, H' L = some (.lst ws) ∧ StsAt H ws (exps m (ss.take i) ++ (List.replicate j (exps m s2')).flatten)) ⟨⟨_, rfl⟩, s02, hI, ys, hL2, by simp; exact hys⟩ ?_ ?_
            · rintro j σ H3 hj ⟨⟨y5, rfl⟩, s3, hI3, ws, hL3, hws⟩
              have hwl := hws.len
              rw [List.length_append, List.length_flatten, List.map_replicate, List.sum_replicate_nat] at hwl
              have hjl : (j + 1) * (exps m s2').length ≤ M.toNat * (exps m s2').length := Nat.mul_le_mul_right _ hj
              rw [Nat.succ_mul] at hjl
              have hul := hus.len
              refine ⟨_, rfl, .inl ⟨rfl, _, SqL.of hL3⟩, _, rfl, L, I, _, _, rfl, rfl, hL3, hI3, big _ (by omega), ⟨_, rfl⟩, same_over s3 nL, by rw [upd_ne (Ne.symm LI)]; exact hI3, _, upd_same, ?_⟩
              rw [rep_snoc, ← List.append_assoc]
              exact hws.app hus0
            · rintro σ H3 ⟨⟨y5, rfl⟩, s3, hI3, ws, hL3, hws⟩
              exact ⟨⟨_, _, _, rfl⟩, s3, ws, hL3, by rw [hti]; exact hws⟩
          · rw [decide_eq_false hz]
            rw [if_neg hz, List.append_nil] at hti
            exact iteF ⟨⟨_, _, _, rfl⟩, sm, ys, hL, by rw [hti]; exact hys⟩
      · rintro σ H' ⟨⟨y3, y4, y5, rfl⟩, sm, ys, hL, hys⟩
        rw [hss.len, List.take_length] at hys
        exact ⟨_, rfl, q L ys H' nL hL hys sm⟩
  induction n using Nat.strongRecOn with
  | _ n ih =>
    refine main n fun sp' h => ?_
    cases n with
    | zero => exact ⟨fun vs H Q E z => by obtain ⟨m, hm, _⟩ := h _ _ _ _ z; omega, fun A outer s H args us vs Q E hr e0 bb r z => by obtain ⟨m, hm, _⟩ := h _ _ _ _ z; omega⟩
    | succ n =>
      refine FnOk.imp (FnOk.mono (ih n (by omega)) (by omega)) fun vs H Q E z => ?_
      obtain ⟨m, hm, kd, a, xs, ss, top, m2, e, h1, h2, h3, h4, h5, h6⟩ := h _ _ _ _ z
      exact ⟨kd, a, xs, ss, top, m2, e, h1, h2, h3, by omega, h5, h6⟩
end
end Ff

namespace Ff
open PySem PySem.Spec PyProof.Rows L2 ExX LamX
abbrev sNIn : Stmt := topS 27
abbrev nInN : List Str := ["steps", "nodes", "step"]
theorem scNIn : FnScope nInN ["steps"] (defScope sNIn) := ⟨rfl, rfl, rfl, by decide +kernel, rfl, by decide +kernel, by decide +kernel⟩
abbrev sFNd : Stmt := topS 28
abbrev fNdN : List Str := ["history"]
theorem scFNd : FnScope fNdN ["history"] (defScope sFNd) := ⟨rfl, rfl, rfl, by decide +kernel, rfl, by decide +kernel, by decide +kernel⟩
/-! sets of any integers -/
theorem setR_le2 {w : World} {h : Heap} {a : Addr} {ns : List Int} {n : Nat} (R : SetR w h a (fun j => decide (j ∈ ns)) n) : n ≤ ns.length := by
  obtain ⟨o, es, ep, t, ho, hex, hd, g, nd, hm, hb, hf, hn, hr, hl⟩ := R
  have hlen : es.toList.length = n := by rw [Array.length_toList]; exact hn
  have key : ∀ (l m : List Int), l.Nodup → (∀ x ∈ l, x ∈ m) → l.length ≤ m.length := fun l => by
    induction l with
    | nil => intro m _ _; exact Nat.zero_le _
    | cons x l ih =>
      intro m nd h
      have hx := h x List.mem_cons_self
      obtain ⟨n1, n2⟩ := List.nodup_cons.mp nd
      have := ih (m.erase x) n2 fun y hy => (List.mem_erase_of_ne (fun e => n1 (by rw [← e]; exact hy))).2 (h y (List.mem_cons_of_mem _ hy))
      rw [List.length_erase_of_mem hx] at this
      have := List.length_pos_of_mem hx
      rw [List.length_cons]; omega
  have := key (es.toList.map keyOf) ns nd fun x hx => of_decide_eq_true ((hm x).2 hx)
  rw [List.length_map, hlen] at this
  exact this
def rSetF (K : PySem.W.Frag) (w : World) : List V → Hp → VK → Prop := fun xs H Q => ∃ (l : Addr) (ns : List Int), xs = [V.ref l] ∧ SqL K H l (ns.map V.int) ∧ ns.length < 4000 ∧
  ∀ (a : Addr) (c : Nat), H a = none → c ≤ ns.length → Q (.ref a) (upd H a (SetO w a (fun j => decide (j ∈ ns)) c))
theorem cr_setF {X : Cx} (hc : X.calm = true) : CallR X (.type "set") (rSetF X.K X.w) := by
  intro pins s σ H xs us Q I r h
  obtain ⟨l, ns, rfl, hl, hf, q⟩ := h
  rw [Vals.ref1 r]
  obtain ⟨its, rv, pl, hz⟩ := I.list hl
  refine set_of_ints (P := X.prog) (w := X.w) ns (I.ok.hd hc) pl.isList (ints_of_vals rv) (by unfold scanBound; omega) fun h' tk c R cl k => ?_
  exact ⟨.ref s.heap.objs.size, upd H s.heap.objs.size (SetO X.w s.heap.objs.size (fun j => decide (j ∈ ns)) c), I.laid (t' := tk) k (Nat.le_refl _) (setO_new R), rfl, q _ c (I.hok.fresh (Nat.le_refl _)) (setR_le2 R)⟩
/-! the nodes that are found, any integers -/
mutual
def ndI1 : Stp → List Int
  | .fnd z => [z]
  | .lnk _ _ => []
  | .rnd k _ ss => if 0 < k then ndI ss else []
def ndI : List Stp → List Int
  | [] => []
  | s :: r => ndI1 s ++ ndI r
end
theorem ndI_app : ∀ l m : List Stp, ndI (l ++ m) = ndI l ++ ndI m
  | [], m => by rw [List.nil_append, ndI, List.nil_append]
  | x :: l, m => by rw [List.cons_append, ndI, ndI, ndI_app l m, List.append_assoc]
theorem ndI_take {l : List Stp} {i : Nat} {s : Stp} (h : l[i]? = some s) : ndI (l.take (i + 1)) = ndI (l.take i) ++ ndI1 s := by
  rw [take_snoc h, ndI_app, ndI, ndI, List.append_nil]
theorem ndI_take_le (ss : List Stp) (i : Nat) : (ndI (ss.take i)).length ≤ (ndI ss).length := by
  have h := ndI_app (ss.take i) (ss.drop i)
  rw [List.take_append_drop] at h
  rw [h, List.length_append]
  omega
mutual
theorem ndI1_len : ∀ s : Stp, (ndI1 s).length ≤ nWr s
  | .fnd _ => by rw [ndI1, nWr]; exact Nat.le_refl _
  | .lnk _ _ => by rw [ndI1, nWr]; exact Nat.zero_le _
  | .rnd k _ ss => by
    have := ndI_len ss
    rw [ndI1, nWr]
    split
    · omega
    · exact Nat.zero_le _
theorem ndI_len : ∀ l : List Stp, (ndI l).length ≤ nWrs l
  | [] => by rw [ndI, nWrs]; exact Nat.le_refl _
  | x :: l => by
    have h1 := ndI1_len x
    have h2 := ndI_len l
    rw [ndI, nWrs, List.length_append]
    omega
end
/-! of nodes, as they are -/
mutual
theorem ndI1_nat {n : Nat} : ∀ s : Stp, Inn n s → ndI1 s = (nd1 s).map fun v : Nat => (v : Int)
  | .fnd z, h => by
    rw [Inn] at h
    rw [ndI1, nd1]
    show [z] = [((z.toNat : Nat) : Int)]
    congr 1; omega
  | .lnk _ _, _ => by rw [ndI1, nd1]; rfl
  | .rnd k _ ss, h => by
    rw [Inn] at h
    rw [ndI1, nd1]
    split
    · exact ndI_nat ss h
    · rfl
theorem ndI_nat {n : Nat} : ∀ l : List Stp, Inns n l → ndI l = (nds l).map fun v : Nat => (v : Int)
  | [], _ => by rw [ndI, nds]; rfl
  | x :: l, h => by
    rw [Inns] at h
    rw [ndI, nds, ndI1_nat x h.1, ndI_nat l h.2, List.map_append]
end
def spNIn (n : Nat) : Sp := fun vs H Q _ => ∃ (kd : Bool) (a : Addr) (xs : List V) (ss : List Stp) (top : Bool), vs = [.ref a] ∧ H a = some (ob kd xs) ∧ StsAt H xs ss ∧ Wfs top ss ∧ nests ss ≤ n ∧ nWrs ss ≤ 1000 ∧ ∀ (q : Addr) H', H q = none → H' q = some (.lst ((ndI ss).map V.int)) → Same H H' → Q (.ref q) H'
def spFNd (n : Nat) : Sp := fun vs H Q _ => ∃ (kd : Bool) (a : Addr) (xs : List V) (ss : List Stp), vs = [.ref a] ∧ H a = some (ob kd xs) ∧ StsAt H xs ss ∧ Wfs true ss ∧ nests ss ≤ n ∧ n ≤ 4 ∧ nWrs ss ≤ 60 ∧ ∀ (q : Addr) (ns : List Int) H', H q = none → H' q = some (.lst (ns.map V.int)) → ns.Pairwise (· < ·) → (∀ k, k ∈ ns ↔ k ∈ ndI ss) → ns.length ≤ 60 → Same H H' → Q (.ref q) H'
section
variable {P : Program} {w : World} {K : PySem.W.Frag} {mg : Str → Option Value} {base : Heap}
theorem ok_nin {f fF fR : Addr} {fd fdF fdR : FuncData} (F : Fun K "nodes_in" "nodes_in" sNIn f fd) (kF : Kn P w K mg base 1 "is_find" sIsFnd ["step"] spIsFnd fF fdF) (kR : Kn P w K mg base 2 "is_round" sIsRnd ["step"] spIsRnd fR fdR) (b : Binds K fd ["steps"] []) (g : mg "nodes_in" = some (.ref f)) :
    ∀ n, FnOk P w K mg base CX0 (n + 3) f fd ["steps"] (spNIn n) := by
  intro n
  have main : ∀ n, (∀ sp' : Sp, (∀ vs H Q E, sp' vs H Q E → ∃ m, m < n ∧ spNIn m vs H Q E) → FnOk P w K mg base CX0 (n + 2) f fd ["steps"] sp') → FnOk P w K mg base CX0 (n + 3) f fd ["steps"] (spNIn n) := by
    intro n ih0
    have ih := ih0 (fun vs H Q E => ∃ m, m < n ∧ spNIn m vs H Q E) fun _ _ _ _ h => h
    refine F.ok scNIn (fun vs H Q E h => ?_) (fun cdv A outer s H vs Q E hr h => ?_)
    · obtain ⟨kd0, a, xs, ss, top, rfl, _⟩ := h
      rfl
    · obtain ⟨kd0, a, xs, ss, top, rfl, ha, hss, wf, hn, hw, q⟩ := h
      have hrm : ∀ {j : Nat}, j ≤ n + 2 → Room j (A.deeper (envOfC "nodes_in" (defScope sNIn) s.heap.objs.size f cdv)) := fun h => hr.mono h
      refine ⟨_, (pss_cons (ps_set (i := 1) scNIn.nd rfl (.inl rfl) (pe_lst pa_nil))
      (pss_cons (ps_for PassesOwn.never rfl (pi_kd kd0 (pv 0)) (pg_name (i := 2) scNIn.nd rfl (.inl rfl))
        (pss_one (ps_if (pt_val (pe_call kF.G (hrm (by omega)) (by rfl) kF.g kF.F.kp kF.b .nil pass0 (pa_cons (pv 2) pa_nil)))
          (pss_one (ps_expr (pe_bm PySem.F.plainAttrs_list PySem.F.slot_list_append PySem.F.type_list_append mt_append (pv 1) (pa_cons (pv 2) pa_nil)))) (pss_one (ps_if (PW.pt (pw_and (pt_val (pe_call kR.G (hrm (by omega)) (by rfl) kR.g kR.F.kp kR.b .nil pass0 (pa_cons (pv 2) pa_nil))) (pw_and1 (pt_cmpR op_gt (pe_ix (show IxR _ (rIx K) from ix_seq) (pv 2) pe_int (fun _ _ => rfl)) pe_int (nomark _)))))
            (pss_one (ps_expr (pe_bm PySem.F.plainAttrs_list PySem.F.slot_list_extend PySem.F.type_list_extend mt_extend (pv 1) (pa_cons (pe_call ih (hrm (by omega)) (by rfl) g F.kp b .nil pass0 (pa_cons (pe_ix (show IxR _ (rIx K) from ix_seq) (pv 2) pe_int (fun _ _ => rfl)) pa_nil)) pa_nil)))) pss_nil)))))
      (pss_one (ps_ret (pv 1))))), ?_⟩
      refine ⟨Nat.zero_le _, fun L nL => ?_⟩
      have hndl := ndI_len ss
      refine for_kd (xs := xs) rfl (ob_kd ((same_new nL) _ _ ha)) (fun i σ H' => (∃ y, σ = [some (.ref a), some (.ref L), y]) ∧ Same H H' ∧ H' L = some (.lst ((ndI (ss.take i)).map V.int))) ⟨⟨_, rfl⟩, same_new nL, by rw [List.take_zero, ndI]; exact upd_same⟩ (fun i σ H' _ h => ob_kd (h.2.1 _ _ ha)) ?_ ?_
      · rintro i v σ H' hv ⟨⟨y, rfl⟩, sm, hL⟩
        obtain ⟨st, hst, hat⟩ := hss.get hv
        have hmem := List.mem_of_getElem? hst
        have hti := ndI_take hst
        have htl := ndI_take_le ss (i + 1)
        have htl0 := ndI_take_le ss i
        have hat' := hat.same sm
        have wfs := wfs_mem wf hmem
        have hne := nests_mem hmem
        have hwm := nWrs_mem hmem
        rw [hti, List.length_append] at htl
        refine ⟨_, rfl, v, st, rfl, hat', _, rfl, ?_⟩
        cases st with
        | fnd z =>
          cases hat'
          rw [ndI1] at hti
          refine iteT ⟨_, rfl, .inl ⟨rfl, _, SqL.of hL⟩, _, rfl, L, _, _, rfl, rfl, hL, ?_, ⟨_, rfl⟩, same_over sm nL, ?_⟩
          · rw [List.length_map]; exact Nat.lt_of_le_of_lt (show _ ≤ 1000 by omega) (by decide)
          · rw [upd_same, hti, List.map_append]; rfl
        | lnk c a0 =>
          rw [ndI1, List.append_nil] at hti
          refine iteF ⟨_, rfl, v, _, _, rfl, hat', wfs, fun H1 s1 => ⟨_, rfl, iteF ⟨⟨_, rfl⟩, sm.trans s1, ?_⟩⟩⟩
          rw [hti]; exact s1 _ _ hL
        | rnd k kd2 s2' =>
          refine iteF ⟨_, rfl, v, _, _, rfl, hat', wfs, fun H1 s1 => ⟨_, rfl, ?_⟩⟩
          have h3 := hat'.same s1
          cases h3 with
          | @rnd t b2 _ _ ys _ ht hb hsts =>
            rw [Wf] at wfs
            rw [nest] at hne
            rw [nWr] at hwm
            rw [ndI1] at hti htl
            refine iteT ⟨_, rfl, Sq.ix (.inr (SqT.of ht)) rfl ⟨_, _, rfl, rfl, _, rfl, ?_⟩⟩
            show if decide ((0 : Int) < k) = true then _ else _
            have hL1 := s1 _ _ hL
            by_cases hk : 0 < k
            · rw [decide_eq_true hk]
              rw [if_pos hk] at hti htl
              refine iteT ⟨_, rfl, .inl ⟨rfl, _, SqL.of hL1⟩, _, rfl, Sq.ix (.inr (SqT.of ht)) rfl ⟨nests s2', by omega, kd2, b2, ys, s2', false, rfl, hb, hsts, wfs.2.2, Nat.le_refl _, by omega, fun I H2 nI hI s2 => ?_⟩⟩
              refine ⟨L, I, _, _, rfl, rfl, s2 _ _ hL1, hI, ?_, ⟨_, rfl⟩, same_over ((sm.trans s1).trans s2) nL, ?_⟩
              · rw [List.length_map, List.length_map]; exact Nat.le_trans (show _ ≤ 1000 by omega) (by decide)
              · rw [upd_same, hti, List.map_append]
            · rw [decide_eq_false hk]
              rw [if_neg hk, List.append_nil] at hti
              refine iteF ⟨⟨_, rfl⟩, sm.trans s1, ?_⟩
              rw [hti]; exact hL1
      · rintro σ H' ⟨⟨y, rfl⟩, sm, hL⟩
        rw [hss.len, List.take_length] at hL
        exact ⟨_, rfl, q L H' nL hL sm⟩
  induction n using Nat.strongRecOn with
  | _ n ih =>
    refine main n fun sp' h => ?_
    cases n with
    | zero => exact ⟨fun vs H Q E z => by obtain ⟨m, hm, _⟩ := h _ _ _ _ z; omega, fun A outer s H args us vs Q E hr e0 bb r z => by obtain ⟨m, hm, _⟩ := h _ _ _ _ z; omega⟩
    | succ n =>
      refine FnOk.imp (FnOk.mono (ih n (by omega)) (by omega)) fun vs H Q E z => ?_
      obtain ⟨m, hm, kd, a, xs, ss, top, e, h1, h2, h3, h4, h5⟩ := h _ _ _ _ z
      exact ⟨kd, a, xs, ss, top, e, h1, h2, h3, by omega, h5⟩
theorem ok_fnd {f fH fI : Addr} {fd fdH fdI : FuncData} (F : Fun K "found_nodes" "found_nodes" sFNd f fd) (n : Nat) (kH : Kn P w K mg base (n + 5) "check_history" sChkH ["history"] (spChkH n) fH fdH) (kI : Kn P w K mg base (n + 3) "nodes_in" sNIn ["steps"] (spNIn n) fI fdI) (z_set : mg "set" = none) (z_sorted : mg "sorted" = none) :
    FnOk P w K mg base CX0 (n + 6) f fd ["history"] (spFNd n) := by
  refine F.ok scFNd (fun vs H Q E h => ?_) (fun cdv A outer s H vs Q E hr h => ?_)
  · obtain ⟨kd, a, xs, ss, rfl, _⟩ := h
    rfl
  · obtain ⟨kd0, a, xs, ss, rfl, ha, hss, wf, hn, hn4, hw, q⟩ := h
    have hrm : ∀ {j : Nat}, j ≤ n + 5 → Room j (A.deeper (envOfC "found_nodes" (defScope sFNd) s.heap.objs.size f cdv)) := fun h => hr.mono h
    refine ⟨_, (pss_cons (ps_expr (pe_call kH.G (hrm (by omega)) (by rfl) kH.g kH.F.kp kH.b .nil pass0 (pa_cons (pv 0) pa_nil)))
      (pss_one (ps_ret (pe_callB (cr_sortedSet rfl) (by rfl) z_sorted (by decide +kernel) (pa_cons (pe_callTy (cr_setF rfl) (by rfl) z_set (by decide +kernel) (pa_cons (pe_call kI.G (hrm (by omega)) (by rfl) kI.g kI.F.kp kI.b .nil pass0 (pa_cons (pv 0) pa_nil)) pa_nil)) pa_nil))))), ?_⟩
    refine ⟨_, rfl, kd0, a, xs, ss, rfl, ha, hss, wf, hn, hn4, by omega, fun H1 s1 => ?_⟩
    refine ⟨_, rfl, kd0, a, xs, ss, true, rfl, s1 _ _ ha, hss.same s1, wf, hn, by omega, fun L H2 nL hL s2 => ?_⟩
    have hndl := ndI_len ss
    refine ⟨L, _, rfl, SqL.of hL, by omega, fun S c nS hc => ?_⟩
    refine ⟨S, _, c, rfl, upd_same, by omega, fun ns pq hpw hmem hlen npq => ?_⟩
    exact q pq ns _ (sm_none ((s1.trans s2).trans (same_new nS)) npq) upd_same hpw (fun k => by rw [hmem k, decide_eq_true_iff]) (by omega) (((s1.trans s2).trans (same_new nS)).trans (same_new npq))
end
end Ff

namespace Ff
open PySem PySem.Spec PyProof.Rows L2 ExX LamX
/-! an empty tuple is no step -/
def spFormE : Sp := fun vs H Q _ => ∃ (t : Addr) (z : Str), vs = [.ref t, .str z] ∧ H t = some (.tup []) ∧ Q (.bl false) H
def spOneE : Sp := fun vs H Q _ => ∃ t : Addr, vs = [.ref t] ∧ H t = some (.tup []) ∧ Q (.bl false) H
def spMayE : Sp := fun vs H Q _ => ∃ (t : Addr) (d : Nat), vs = [.ref t, vi d] ∧ H t = some (.tup []) ∧ Q (.bl false) H
def spCkSE (CB : Addr) : Sp := fun vs H Q E => ∃ a t : Addr, vs = [.ref a, vi 0, vi 0] ∧ H a = some (.lst [.ref t]) ∧ H t = some (.tup []) ∧ Flies H E CB "pos" "BadStep" (.int 0)
def spOneX (CB : Addr) : Sp := fun vs H Q E => ∃ a t : Addr, vs = [.ref a] ∧ H a = some (.lst [.ref t]) ∧ H t = some (.tup []) ∧ Flies H E CB "pos" "BadStep" (.int 0)
section
variable {P : Program} {w : World} {K : PySem.W.Frag} {mg : Str → Option Value} {base : Heap} {CB : Addr}
theorem okE_isFnd {f : Addr} {fd : FuncData} {k : Nat} (F : Fun K "is_find" "is_find" sIsFnd f fd) (TS : TxS mg) : FnOk P w K mg base CX0 (k + 1) f fd ["step"] spOneE := by
  refine F.ok scIsFnd (fun vs H Q E h => ?_) (fun cdv A outer s H vs Q E hr h => ?_)
  · obtain ⟨v, rfl, _⟩ := h
    rfl
  · obtain ⟨t, rfl, ht, q⟩ := h
    refine ⟨_, (pss_one (ps_ret (pe_callB call_isi (by rfl) TS.isinstance (by decide +kernel) (pa_cons (pv 0) (pa_cons (pe_ty (n := "int") (by rfl) TS.int (by decide +kernel)) pa_nil))))), ?_⟩
    exact ⟨_, rfl, _, _, _, _, _, rfl, .ty _, .base (.tup ht), kit_ty (r := false) (by decide +kernel), q⟩
theorem okE_form {f : Addr} {fd : FuncData} {k : Nat} (F : Fun K "has_form" "has_form" sForm f fd) (T : Tx mg) (TS : TxS mg) : FnOk P w K mg base CX0 (k + 1) f fd ["step", "word"] spFormE := by
  refine F.ok scForm (fun vs H Q E h => ?_) (fun cdv A outer s H vs Q E hr h => ?_)
  · obtain ⟨t, z, rfl, _⟩ := h
    rfl
  · obtain ⟨t, z, rfl, ht, q⟩ := h
    refine ⟨_, (pss_one (ps_ret (pe_and (pe_callB call_isi (by rfl) TS.isinstance (by decide +kernel) (pa_cons (pv 0) (pa_cons (pe_ty (n := "tuple") (by rfl) TS.tuple (by decide +kernel)) pa_nil))) (pe_and (pe_cmpR op_eq (pe_callB call_len_seq (by rfl) T.len PySem.boot_len (pa_cons (pv 0) pa_nil)) pe_int (nomark _)) (pe_one (pe_cmpR op_eq (pe_ix (show IxR _ (rIx K) from ix_seq) (pv 0) pe_int (fun _ _ => rfl)) (pv 1) (nomark _))))))), ?_⟩
    refine ⟨_, rfl, _, _, _, _, _, rfl, .ty _, .base (.tup ht), kit_ty (r := true) (by decide +kernel), _, rfl, iteT ?_⟩
    exact ⟨_, rfl, _, _, rfl, .inr (SqT.of ht), rfl, _, rfl, iteF q⟩
theorem okE_isLnk {f fA : Addr} {fd fdA : FuncData} (F : Fun K "is_link" "is_link" sIsLnk f fd) (kA : Kn P w K mg base 1 "has_form" sForm ["step", "word"] spFormE fA fdA) (TS : TxS mg) : FnOk P w K mg base CX0 2 f fd ["step"] spOneE := by
  refine F.ok scIsLnk (fun vs H Q E h => ?_) (fun cdv A outer s H vs Q E hr h => ?_)
  · obtain ⟨t, rfl, _⟩ := h
    rfl
  · obtain ⟨t, rfl, ht, q⟩ := h
    have hrm : ∀ {j : Nat}, j ≤ 1 → Room j (A.deeper (envOfC "is_link" (defScope sIsLnk) s.heap.objs.size f cdv)) := fun h => hr.mono h
    refine ⟨_, (pss_one (ps_ret (pe_and (pe_call kA.G (hrm (by decide)) (by rfl) kA.g kA.F.kp kA.b .nil pass0 (pa_cons (pv 0) (pa_cons pe_str pa_nil))) (pe_one (pe_callB call_isi (by rfl) TS.isinstance (by decide +kernel) (pa_cons (pe_ix (show IxR _ (rIx K) from ix_seq) (pv 0) pe_int (fun _ _ => rfl)) (pa_cons (pe_ty (n := "int") (by rfl) TS.int (by decide +kernel)) pa_nil))))))), ?_⟩
    exact ⟨_, rfl, t, _, rfl, ht, _, rfl, iteF q⟩
theorem okE_isRnd {f fA : Addr} {fd fdA : FuncData} {tL : Tok} (F : Fun K "is_round" "is_round" sIsRnd f fd) (kA : Kn P w K mg base 1 "has_form" sForm ["step", "word"] spFormE fA fdA) (TS : TxS mg) (gL : mg "COUNT_LIMIT" = some (.int 1000000000000000000000000000000 tL)) : FnOk P w K mg base CX0 2 f fd ["step"] spOneE := by
  refine F.ok scIsRnd (fun vs H Q E h => ?_) (fun cdv A outer s H vs Q E hr h => ?_)
  · obtain ⟨t, rfl, _⟩ := h
    rfl
  · obtain ⟨t, rfl, ht, q⟩ := h
    have hrm : ∀ {j : Nat}, j ≤ 1 → Room j (A.deeper (envOfC "is_round" (defScope sIsRnd) s.heap.objs.size f cdv)) := fun h => hr.mono h
    refine ⟨_, (pss_one (ps_ret (pe_and (pe_call kA.G (hrm (by decide)) (by rfl) kA.g kA.F.kp kA.b .nil pass0 (pa_cons (pv 0) (pa_cons pe_str pa_nil))) (pe_and (pe_callB call_isiT (by rfl) TS.isinstance (by decide +kernel) (pa_cons (pe_ix (show IxR _ (rIx K) from ix_seq) (pv 0) pe_int (fun _ _ => rfl)) (pa_cons (pe_tup (pa_cons (pe_ty (n := "list") (by rfl) TS.list (by decide +kernel)) (pa_cons (pe_ty (n := "tuple") (by rfl) TS.tuple (by decide +kernel)) pa_nil))) pa_nil))) (pe_one (pe_chain op_le op_le pe_int (pe_ix (show IxR _ (rIx K) from ix_seq) (pv 0) pe_int (fun _ _ => rfl)) (pe_glob (v := .int 1000000000000000000000000000000) rfl gL ⟨_, rfl⟩))))))), ?_⟩
    exact ⟨_, rfl, t, _, rfl, ht, _, rfl, iteF q⟩
theorem okE_may {f fL fR fF : Addr} {fd fdL fdR fdF : FuncData} {tN : Tok} (F : Fun K "may_stand" "may_stand" sMay f fd) (kL : Kn P w K mg base 2 "is_link" sIsLnk ["step"] spOneE fL fdL) (kR : Kn P w K mg base 2 "is_round" sIsRnd ["step"] spOneE fR fdR) (kF : Kn P w K mg base 1 "is_find" sIsFnd ["step"] spOneE fF fdF) (gN : mg "MAX_NESTING" = some (.int 4 tN)) : FnOk P w K mg base CX0 3 f fd ["step", "depth"] spMayE := by
  refine F.ok scMay (fun vs H Q E h => ?_) (fun cdv A outer s H vs Q E hr h => ?_)
  · obtain ⟨t, d, rfl, _⟩ := h
    rfl
  · obtain ⟨t, d, rfl, ht, q⟩ := h
    have hrm : ∀ {j : Nat}, j ≤ 2 → Room j (A.deeper (envOfC "may_stand" (defScope sMay) s.heap.objs.size f cdv)) := fun h => hr.mono h
    refine ⟨_, (pss_cons (ps_if (pt_val (pe_call kL.G (hrm (by decide)) (by rfl) kL.g kL.F.kp kL.b .nil pass0 (pa_cons (pv 0) pa_nil)))
        (pss_one (ps_ret (pe_cmpR op_eq (pv 1) pe_int (nomark _)))) pss_nil)
      (pss_cons (ps_if (pt_val (pe_call kR.G (hrm (by decide)) (by rfl) kR.g kR.F.kp kR.b .nil pass0 (pa_cons (pv 0) pa_nil)))
        (pss_one (ps_ret (pe_cmpR op_lt (pv 1) (pe_glob (v := .int 4) rfl gN ⟨_, rfl⟩) (nomark _)))) pss_nil)
      (pss_one (ps_ret (pe_call kF.G (hrm (by decide)) (by rfl) kF.g kF.F.kp kF.b .nil pass0 (pa_cons (pv 0) pa_nil)))))), ?_⟩
    exact ⟨_, rfl, t, rfl, ht, _, rfl, iteF ⟨_, rfl, t, rfl, ht, _, rfl, iteF ⟨_, rfl, t, rfl, ht, q⟩⟩⟩
theorem okE_ckS {f fM fR : Addr} {fd fdM fdR : FuncData} {tS : Tok} (F : Fun K "check_steps" "check_steps" sChkS f fd) (kM : Kn P w K mg base 3 "may_stand" sMay ["step", "depth"] spMayE fM fdM) (kR : Kn P w K mg base 2 "is_round" sIsRnd ["step"] spOneE fR fdR) (b : Binds K fd ["steps", "depth", "pos"] []) (g : mg "check_steps" = some (.ref f)) (gS : mg "MAX_STEPS" = some (.int 100 tS))
    (RB : Raisable P w K mg base 2 "BadStep" CB "pos" "BadStep") : FnOk P w K mg base (L2N.CX P w) 4 f fd ["steps", "depth", "pos"] (spCkSE CB) := by
  have ih : FnOk P w K mg base (L2N.CX P w) 3 f fd ["steps", "depth", "pos"] (fun _ _ _ _ => False) := ⟨fun _ _ _ _ z => z.elim, fun _ _ _ _ _ _ _ _ _ _ _ _ _ z => z.elim⟩
  refine okN F scChkS (fun vs H Q E h => ?_) (fun cdv A outer s H vs Q E hr h tk => ?_)
  · obtain ⟨a, t, rfl, _⟩ := h
    rfl
  · obtain ⟨a, t, rfl, ha, ht, q⟩ := h
    have hrm : ∀ {j : Nat}, j ≤ 3 → Room j (A.deeper (envOfC "check_steps" (defScope sChkS) s.heap.objs.size f cdv)) := fun h => hr.mono h
    refine ⟨_, (pss_cons (ps_for PassesOwn.leaving rfl (pi_kd true (pv 0)) (pg_name (i := 3) scChkS.nd rfl (.inl rfl))
        (pss_cons (ps_if (pt_cmpR op_ge (pv 2) (pe_glob (v := .int 100) rfl gS ⟨_, rfl⟩) (nomark _))
          (pss_one ps_never) pss_nil)
        (pss_cons (ps_if (pt_not (pt_val (pe_call kM.G (hrm (by decide)) (by rfl) kM.g kM.F.kp kM.b .nil pass0 (pa_cons (pv 3) (pa_cons (pv 1) pa_nil)))))
          (pss_one (L2N.ps_raise rfl tk (pmk_err RB (hrm (by decide)) (by rfl) (pv 2)))) pss_nil)
        (pss_cons (ps_aug (i := 2) scChkS.nd rfl (.inl rfl) pe_int ip_add)
        (pss_one (ps_if (pt_val (pe_call kR.G (hrm (by decide)) (by rfl) kR.g kR.F.kp kR.b .nil pass0 (pa_cons (pv 3) pa_nil)))
          (pss_one (ps_set (i := 2) scChkS.nd rfl (.inl rfl) (pe_call ih (hrm (by decide)) (by rfl) g F.kp b .nil (lookNE tk) (pa_cons (pe_ix (show IxR _ (rIx K) from ix_seq) (pv 3) pe_int (fun _ _ => rfl)) (pa_cons (pe_op op_add (pv 1) pe_int) (pa_cons (pv 2) pa_nil)))))) pss_nil))))))
      (pss_one (ps_ret (pv 2)))), ?_⟩
    refine for_kd (k := true) (xs := [.ref t]) rfl (ob_kd (kd := true) ha) (fun i σ H' => i = 0 ∧ H' = H ∧ ∃ y, σ = [some (.ref a), some (vi 0), some (vi 0), y]) ⟨rfl, rfl, _, rfl⟩ (fun i σ H' _ h => by rw [h.2.1]; exact ob_kd (kd := true) ha) ?_ ?_
    · rintro i v σ H' hv ⟨rfl, rfl, y, rfl⟩
      obtain rfl : V.ref t = v := Option.some.inj hv
      refine ⟨_, rfl, _, _, rfl, rfl, _, rfl, iteF ?_⟩
      refine ⟨_, rfl, _, rfl, t, 0, rfl, ht, _, rfl, iteT ⟨_, rfl, _, rfl, ⟨0, rfl, by decide⟩, q⟩⟩
    · rintro σ H' ⟨h0, _⟩
      exact absurd h0 (by simp)
theorem okE_ckH {f fC : Addr} {fd fdC : FuncData} (F : Fun K "check_history" "check_history" sChkH f fd) (kC : KnX P w K mg base 4 "check_steps" ["steps", "depth", "pos"] (spCkSE CB) fC fdC) : FnOk P w K mg base (L2N.CX P w) 5 f fd ["history"] (spOneX CB) := by
  refine okN F scChkH (fun vs H Q E h => ?_) (fun cdv A outer s H vs Q E hr h tk => ?_)
  · obtain ⟨a, t, rfl, _⟩ := h
    rfl
  · obtain ⟨a, t, rfl, ha, ht, q⟩ := h
    have hrm : ∀ {j : Nat}, j ≤ 4 → Room j (A.deeper (envOfC "check_history" (defScope sChkH) s.heap.objs.size f cdv)) := fun h => hr.mono h
    refine ⟨_, (pss_one (ps_expr (pe_call kC.G (hrm (by decide)) (by rfl) kC.g kC.kp kC.b .nil (lookNE tk) (pa_cons (pv 0) (pa_cons pe_int (pa_cons pe_int pa_nil)))))), ?_⟩
    exact ⟨_, rfl, a, t, rfl, ha, ht, q⟩
theorem okE_fnd {f fH fI : Addr} {fd fdH fdI : FuncData} (F : Fun K "found_nodes" "found_nodes" sFNd f fd) (kH : KnX P w K mg base 5 "check_history" ["history"] (spOneX CB) fH fdH) (kI : Kn P w K mg base 7 "nodes_in" sNIn ["steps"] (spNIn 4) fI fdI) (z_set : mg "set" = none) (z_sorted : mg "sorted" = none) :
    FnOk P w K mg base (L2N.CX P w) 8 f fd ["history"] (spOneX CB) := by
  refine okN F scFNd (fun vs H Q E h => ?_) (fun cdv A outer s H vs Q E hr h tk => ?_)
  · obtain ⟨a, t, rfl, _⟩ := h
    rfl
  · obtain ⟨a, t, rfl, ha, ht, q⟩ := h
    have hrm : ∀ {j : Nat}, j ≤ 7 → Room j (A.deeper (envOfC "found_nodes" (defScope sFNd) s.heap.objs.size f cdv)) := fun h => hr.mono h
    refine ⟨_, (pss_cons (ps_expr (pe_call kH.G (hrm (by decide)) (by rfl) kH.g kH.kp kH.b .nil (lookNE tk) (pa_cons (pv 0) pa_nil)))
      (pss_one (ps_ret (pe_callB (cr_sortedSet rfl) (by rfl) z_sorted (by decide +kernel) (pa_cons (pe_callTy (cr_setF rfl) (by rfl) z_set (by decide +kernel) (pa_cons (pe_call kI.G (hrm (by decide)) (by rfl) kI.g kI.F.kp kI.b .nil pass0 (pa_cons (pv 0) pa_nil)) pa_nil)) pa_nil))))), ?_⟩
    exact ⟨_, rfl, a, t, rfl, ha, ht, q⟩
end
end Ff

namespace Ff
open PySem PySem.Spec PyProof.Rows L2 ExX LamX
abbrev sC3 : Stmt := topS 29
abbrev c3N : List Str := ["size", "node", "above", "root", "low", "parents"]
theorem scC3 : FnScope c3N ["size", "node"] (defScope sC3) := ⟨rfl, rfl, rfl, by decide +kernel, rfl, by decide +kernel, by decide +kernel⟩
/-! the chain of three nodes -/
def ab3 (u : Nat) : Nat := if u = 0 then 1 else 0
def rt3 (u : Nat) : Nat := if u ≤ 1 then 2 else 1
def c3 (u v : Nat) : Nat := if v = u then ab3 u else if v = ab3 u then rt3 u else v
theorem filt_u (i u : Nat) : ((List.range (i + 1)).filter fun v => !decide (v = u)) = ((List.range i).filter fun v => !decide (v = u)) ++ (if i = u then [] else [i]) := by
  rw [List.range_succ, List.filter_append]
  congr 1
  by_cases h : i = u
  · rw [if_pos h]; simp [h]
  · rw [if_neg h]; simp [h]
theorem two_low {n u : Nat} (hn : 3 ≤ n) (hu : u < n) : ((List.range n).filter fun v => !decide (v = u)).take 2 = [ab3 u, rt3 u] := by
  obtain ⟨m, rfl⟩ : ∃ m, n = 3 + m := ⟨n - 3, by omega⟩
  rw [List.range_add, List.filter_append]
  have e : List.range 3 = [0, 1, 2] := rfl
  rw [e]
  unfold ab3 rt3
  by_cases h0 : u = 0
  · subst h0; rfl
  by_cases h1 : u = 1
  · subst h1; rfl
  by_cases h2 : u = 2
  · subst h2; rfl
  rw [if_neg h0, if_neg (by omega)]
  simp [show ¬ 0 = u by omega, show ¬ 1 = u by omega, show ¬ 2 = u by omega]
theorem tup_set2 {n u : Nat} (hn : 3 ≤ n) (hu : u < n) : (((List.range n).map fun v : Nat => V.int (v : Int)).set u (V.int (ab3 u : Int))).set (ab3 u) (V.int (rt3 u : Int)) = tupOf n (c3 u) := by
  unfold tupOf
  refine List.ext_getElem? fun i => ?_
  have hne : ab3 u ≠ u := by unfold ab3; split <;> omega
  have hab : ab3 u < n := by unfold ab3; split <;> omega
  rw [List.getElem?_set, List.getElem?_set, List.getElem?_map, List.getElem?_map]
  simp only [List.length_set, List.length_map, List.length_range]
  by_cases h1 : ab3 u = i
  · subst h1
    rw [if_pos rfl, if_pos hab, List.getElem?_range hab]
    unfold c3
    rw [Option.map_some, if_neg hne, if_pos rfl]
    all_goals rfl
  rw [if_neg h1]
  by_cases h2 : u = i
  · subst h2
    rw [if_pos rfl, if_pos hu, List.getElem?_range hu]
    unfold c3
    rw [Option.map_some, if_pos rfl]
    all_goals rfl
  rw [if_neg h2]
  by_cases h3 : i < n
  · rw [List.getElem?_range h3]
    unfold c3
    rw [Option.map_some, Option.map_some, if_neg (fun z => h2 z.symm), if_neg (fun z => h1 z.symm)]
    all_goals rfl
  · rw [List.getElem?_eq_none (by rw [List.length_range]; omega)]
    all_goals rfl
def spC3 : Sp := fun vs H Q _ => ∃ n u : Nat, vs = [vi n, vi u] ∧ 3 ≤ n ∧ n ≤ 60 ∧ u < n ∧ ∀ (q : Addr) H', H q = none → H' q = some (.tup (tupOf n (c3 u))) → Same H H' → Q (.ref q) H'
section
variable {P : Program} {w : World} {K : PySem.W.Frag} {mg : Str → Option Value} {base : Heap}
theorem ok_c3 {f : Addr} {fd : FuncData} {k : Nat} (F : Fun K "chain_of_three" "chain_of_three" sC3 f fd) (T : Tx mg) : FnOk P w K mg base CX0 (k + 1) f fd ["size", "node"] spC3 := by
  refine F.ok scC3 (fun vs H Q E h => ?_) (fun cdv A outer s H vs Q E hr h => ?_)
  · obtain ⟨n, u, rfl, _⟩ := h
    rfl
  · obtain ⟨n, u, rfl, hn3, hn, hu, q⟩ := h
    refine ⟨_, (pss_cons (ps_asg (pe_slice sl_list (pe_lc (own := [("low", 4)]) (g := gName 4) (by rfl) scC3.nd (pi_range1 (by rfl) T.range (pa_cons (pv 0) pa_nil)) (blkOk_by (own := [("low", 4)]) (N := c3N) (sc := defScope sC3) (by decide +kernel)) (fun _ _ _ _ _ => (pg_name (i := 4) scC3.nd rfl (.inl rfl))) (fun _ _ _ _ _ => (pts_one (pt_cmpR op_ne (pv 4) (pv 1) (nomark _)))) (fun _ _ _ _ _ => (pv 4))) po_none (po_some pe_int)) (pg_unl rfl (pgs_cons (pg_name (i := 2) scC3.nd rfl (.inl rfl)) (pgs_cons (pg_name (i := 3) scC3.nd rfl (.inl rfl)) pgs_nil))))
      (pss_cons (ps_set (i := 5) scC3.nd rfl (.inl rfl) (pe_listRg rfl (by rfl) T.list (prg_1 (by rfl) T.range (pv 0))))
      (pss_cons (ps_asg (pv 2) (pg_sub (pv 5) (pv 1) set_list))
      (pss_cons (ps_asg (pv 3) (pg_sub (pv 5) (pv 2) set_list))
      (pss_one (ps_ret (pe_callTy call_tuple_of (by rfl) T.tuple (by decide +kernel) (pa_cons (pv 5) pa_nil)))))))), ?_⟩
    have hbig : ∀ {k : Nat}, k ≤ 1000 → k ≤ sizeLine := fun h => Nat.le_trans h (by decide)
    refine ⟨_, rfl, _, rfl, by omega, by omega, fun D nD => ?_⟩
    have hnn : ((n : Nat) : Int).toNat = n := by omega
    rw [hnn]
    refine lc_range (lo := 0) (n := n) (fun i H' => H' D = some (.lst (natsV ((List.range i).filter fun v => !decide (v = u)))) ∧ Same H H') ⟨upd_same, same_new nD⟩ ?_ ?_
    · rintro i H' hi ⟨hD, sm⟩
      refine ⟨rfl, _, rfl, _, rfl, rfl, _, rfl, ?_⟩
      have e0 : (0 : Int) + (i : Int) = ((i : Nat) : Int) := by omega
      rw [e0]
      by_cases hiu : i = u
      · subst hiu
        rw [decide_eq_true rfl]
        refine iteF ⟨?_, sm⟩
        rw [filt_u, if_pos rfl, List.append_nil]
        exact hD
      · rw [decide_eq_false (fun z => hiu (by injection z with z; omega))]
        refine iteT ⟨_, rfl, _, hD, ?_, ?_, same_over sm nD⟩
        · rw [natsV_len]
          have := List.length_filter_le (fun v => !decide (v = u)) (List.range i)
          rw [List.length_range] at this
          exact Nat.lt_of_le_of_lt (show _ ≤ 1000 by omega) (by decide)
        · rw [upd_same, filt_u, if_neg hiu]
          unfold natsV
          rw [List.map_append]
          rfl
    rintro H1 ⟨hD, s1⟩
    refine ⟨_, rfl, D, _, rfl, SqL.of hD, fun q1 nq1 => ?_⟩
    have et : cutV (natsV ((List.range n).filter fun v => !decide (v = u))) none (some 2) = [V.int (ab3 u : Int), V.int (rt3 u : Int)] := by
      rw [show ((2 : Int)) = ((2 : Nat) : Int) from rfl, cut_take]
      unfold natsV
      rw [← List.map_take, two_low hn3 hu]
      rfl
    rw [et]
    have s2 := same_new (o := .lst [V.int (ab3 u : Int), V.int (rt3 u : Int)]) nq1
    have hq1 : upd H1 q1 (.lst [V.int (ab3 u : Int), V.int (rt3 u : Int)]) q1 = some (.lst [V.int (ab3 u : Int), V.int (rt3 u : Int)]) := upd_same
    generalize upd H1 q1 (.lst [V.int (ab3 u : Int), V.int (rt3 u : Int)]) = H2 at s2 hq1 ⊢
    refine ⟨q1, _, rfl, SqL.of hq1, rfl, ?_⟩
    refine ⟨_, _, rfl, _, _, rfl, rfl, _, rfl, _, rfl, rgOk_nat (n := n) (by omega), fun p3 np3 => ?_⟩
    rw [rgV_nat]
    have s3 := same_new (o := .lst (natsV (List.range n))) np3
    have hp3 : upd H2 p3 (.lst (natsV (List.range n))) p3 = some (.lst (natsV (List.range n))) := upd_same
    generalize upd H2 p3 (.lst (natsV (List.range n))) = H3 at s3 hp3 ⊢
    have e1 : ixN (natsV (List.range n)).length (u : Int) = some u := by rw [natsV_len, List.length_range]; exact ixN_nat hu
    have hab : ab3 u < n := by unfold ab3; split <;> omega
    refine ⟨_, rfl, _, rfl, _, rfl, p3, _, _, u, rfl, rfl, hp3, e1, ?_⟩
    refine ⟨_, rfl, _, rfl, _, rfl, p3, _, _, ab3 u, rfl, rfl, upd_same, by rw [List.length_set, natsV_len, List.length_range]; exact ixN_nat hab, ?_⟩
    refine ⟨_, rfl, p3, _, rfl, .inl ⟨SqL.of upd_same, fun l nl => ?_⟩⟩
    have s13 := (s1.trans s2).trans s3
    have np : H p3 = none := (s1.trans s2).free np3
    have s14 : Same H (upd (upd H3 p3 (.lst ((natsV (List.range n)).set u (V.int (ab3 u : Int))))) p3 (.lst (((natsV (List.range n)).set u (V.int (ab3 u : Int))).set (ab3 u) (V.int (rt3 u : Int))))) := same_over (same_over s13 np) np
    refine q l _ (s14.free nl) ?_ (s14.trans (same_new nl))
    rw [upd_same, ← tup_set2 hn3 hu]
    rfl
end
end Ff

namespace Ff
open PySem PySem.Spec PyProof.Rows L2 ExX LamX
abbrev sEff : Stmt := topS 30
abbrev effN : List Str := ["one", "other", "size", "first", "second", "node", "differing"]
theorem scEff : FnScope effN ["one", "other", "size"] (defScope sEff) := ⟨rfl, rfl, rfl, by decide +kernel, rfl, by decide +kernel, by decide +kernel⟩
/-- a history, or the list of an empty tuple -/
inductive Hst (H : Hp) (a : Addr) : Option (List Stp) → Prop
  | bad {t : Addr} : H a = some (.lst [.ref t]) → H t = some (.tup []) → Hst H a none
  | ok {kd : Bool} {xs : List V} {ss : List Stp} : H a = some (ob kd xs) → StsAt H xs ss → Wfs true ss → nests ss ≤ 4 → nWrs ss ≤ 60 → Hst H a (some ss)
theorem Hst.same {H H' : Hp} (e : Same H H') {a : Addr} {o : Option (List Stp)} (h : Hst H a o) : Hst H' a o := by
  cases h with
  | bad h1 h2 => exact .bad (e _ _ h1) (e _ _ h2)
  | ok h1 h2 h3 h4 h5 => exact .ok (e _ _ h1) (h2.same e) h3 h4 h5
def OkN (n : Nat) (ss : List Stp) : Prop := ∀ k ∈ ndI ss, 0 ≤ k ∧ k < (n : Int)
/-- the least wrong node of the first, then of the second -/
def WrN (n : Nat) (s1 s2 : List Stp) (x : Int) : Prop := (x ∈ ndI s1 ∧ ¬ (0 ≤ x ∧ x < (n : Int)) ∧ ∀ y ∈ ndI s1, ¬ (0 ≤ y ∧ y < (n : Int)) → x ≤ y) ∨ (OkN n s1 ∧ x ∈ ndI s2 ∧ ¬ (0 ≤ x ∧ x < (n : Int)) ∧ ∀ y ∈ ndI s2, ¬ (0 ≤ y ∧ y < (n : Int)) → x ≤ y)
def SmE (s1 s2 : List Stp) : Prop := ∀ k, k ∈ ndI s1 ↔ k ∈ ndI s2
/-- the least node that one finds and the other does not -/
def Dif (s1 s2 : List Stp) (u : Nat) : Prop := ¬ (((u : Int) ∈ ndI s1) ↔ ((u : Int) ∈ ndI s2)) ∧ ∀ v : Nat, v < u → (((v : Int) ∈ ndI s1) ↔ ((v : Int) ∈ ndI s2))
theorem Dif.uniq {s1 s2 : List Stp} {u v : Nat} (a : Dif s1 s2 u) (b : Dif s1 s2 v) : u = v := by
  rcases Nat.lt_trichotomy u v with h | h | h
  · exact absurd (b.2 u h) a.1
  · exact h
  · exact absurd (a.2 v h) b.1
def spEff (CN CB : Addr) : Sp := fun vs H Q E => ∃ (a b : Addr) (n : Nat) (o1 o2 : Option (List Stp)), vs = [.ref a, .ref b, vi n] ∧ n ≤ 45 ∧ Hst H a o1 ∧ Hst H b o2 ∧
  ((o1 = none ∨ o2 = none) → ∀ H', Same H H' → Flies H' E CB "pos" "BadStep" (.int 0)) ∧
  ∀ s1 s2, o1 = some s1 → o2 = some s2 →
    (∀ x, WrN n s1 s2 x → x.natAbs.log2 < 1920 ∧ ∀ H', Same H H' → Flies H' E CN "node" "NoNode" (.int x)) ∧
    (OkN n s1 → OkN n s2 → (n < 3 ∨ SmE s1 s2) → ∀ H', Same H H' → Q .non H') ∧
    (OkN n s1 → OkN n s2 → 3 ≤ n → ∀ u, u < n → Dif s1 s2 u → ∀ (q2 q : Addr) H', H q = none → H' q = some (.tup [.ref q2, vi u]) → H' q2 = some (.tup (tupOf n (c3 u))) → Same H H' → Q (.ref q) H')
theorem asc_le {l : List Int} (h : l.Pairwise (· < ·)) {i j : Nat} {x y : Int} (hx : l[i]? = some x) (hy : l[j]? = some y) (hij : i ≤ j) : x ≤ y := by
  obtain ⟨hi, rfl⟩ := List.getElem?_eq_some_iff.mp hx
  obtain ⟨hj, rfl⟩ := List.getElem?_eq_some_iff.mp hy
  by_cases e : i = j
  · subst e; exact Int.le_refl _
  · exact Int.le_of_lt (List.pairwise_iff_getElem.mp h i j hi hj (by omega))
theorem wr_of {n : Nat} {s1 s2 : List Stp} {ns1 ns2 : List Int} (pw1 : ns1.Pairwise (· < ·)) (mm1 : ∀ k, k ∈ ns1 ↔ k ∈ ndI s1) (pw2 : ns2.Pairwise (· < ·)) (mm2 : ∀ k, k ∈ ns2 ↔ k ∈ ndI s2) {i : Nat} {k : Int} (hk : (ns1 ++ ns2)[i]? = some k) (bad : ¬ (0 ≤ k ∧ k < (n : Int)))
    (good : ∀ j x, j < i → (ns1 ++ ns2)[j]? = some x → 0 ≤ x ∧ x < (n : Int)) : WrN n s1 s2 k := by
  by_cases h : i < ns1.length
  · rw [List.getElem?_append_left h] at hk
    refine .inl ⟨(mm1 k).1 (List.mem_of_getElem? hk), bad, fun y hy by_ => ?_⟩
    obtain ⟨j, hj⟩ := List.mem_iff_getElem?.mp ((mm1 y).2 hy)
    have hjl := (List.getElem?_eq_some_iff.mp hj).1
    by_cases hji : j < i
    · exact absurd (good j y hji (by rw [List.getElem?_append_left hjl]; exact hj)) by_
    · exact asc_le pw1 hk hj (by omega)
  · rw [List.getElem?_append_right (by omega)] at hk
    refine .inr ⟨fun y hy => ?_, (mm2 k).1 (List.mem_of_getElem? hk), bad, fun y hy by_ => ?_⟩
    · obtain ⟨j, hj⟩ := List.mem_iff_getElem?.mp ((mm1 y).2 hy)
      have hjl := (List.getElem?_eq_some_iff.mp hj).1
      exact good j y (by omega) (by rw [List.getElem?_append_left hjl]; exact hj)
    · obtain ⟨j, hj⟩ := List.mem_iff_getElem?.mp ((mm2 y).2 hy)
      by_cases hji : ns1.length + j < i
      · exact absurd (good (ns1.length + j) y hji (by rw [List.getElem?_append_right (by omega), show ns1.length + j - ns1.length = j by omega]; exact hj)) by_
      · exact asc_le pw2 hk hj (by omega)
theorem xor_iff {a b : Prop} [Decidable a] [Decidable b] : (decide b ^^ decide a) = true ↔ ¬ (a ↔ b) := by
  by_cases h1 : a <;> by_cases h2 : b <;> simp [h1, h2]
section
variable {P : Program} {w : World} {K : PySem.W.Frag} {mg : Str → Option Value} {base : Heap} {CB CN : Addr}
theorem okB_eff {f fF fN fC : Addr} {fd fdF fdN fdC : FuncData} (F : Fun K "effect_difference" "effect_difference" sEff f fd) (T : Tx mg) (xF : KnX P w K mg base 10 "found_nodes" ["history"] (spOr (spFNd 4) (spOneX CB)) fF fdF) (xN : KnX P w K mg base 4 "check_number" ["size", "node"] (spOr spNum (spNumX CN)) fN fdN) (kC : Kn P w K mg base 1 "chain_of_three" sC3 ["size", "node"] spC3 fC fdC) (z_set : mg "set" = none) (z_sorted : mg "sorted" = none) :
    FnOk P w K mg base (L2N.CX P w) 11 f fd ["one", "other", "size"] (spEff CN CB) := by
  refine okN F scEff (fun vs H Q E h => ?_) (fun cdv A outer s H vs Q E hr h tk => ?_)
  · obtain ⟨a, b, n, o1, o2, rfl, _⟩ := h
    rfl
  · obtain ⟨a, b, n, o1, o2, rfl, hn, h1, h2, qb, qo⟩ := h
    have hrm : ∀ {j : Nat}, j ≤ 10 → Room j (A.deeper (envOfC "effect_difference" (defScope sEff) s.heap.objs.size f cdv)) := fun h => hr.mono h
    refine ⟨_, (pss_cons (ps_set (i := 3) scEff.nd rfl (.inl rfl) (pe_call xF.G (hrm (by decide)) (by rfl) xF.g xF.kp xF.b .nil (lookNE tk) (pa_cons (pv 0) pa_nil)))
      (pss_cons (ps_set (i := 4) scEff.nd rfl (.inl rfl) (pe_call xF.G (hrm (by decide)) (by rfl) xF.g xF.kp xF.b .nil (lookNE tk) (pa_cons (pv 1) pa_nil)))
      (pss_cons (ps_for PassesOwn.leaving rfl (pi_list (pe_op op_cat (pv 3) (pv 4))) (pg_name (i := 5) scEff.nd rfl (.inl rfl))
        (pss_one (ps_expr (pe_call xN.G (hrm (by decide)) (by rfl) xN.g xN.kp xN.b .nil (lookNE tk) (pa_cons (pv 2) (pa_cons (pv 5) pa_nil))))))
      (pss_cons (ps_set (i := 6) scEff.nd rfl (.inl rfl) (pe_callB (cr_sortedSet rfl) (by rfl) z_sorted (by decide +kernel) (pa_cons (pe_op op_xorS (pe_callTy (cr_setF rfl) (by rfl) z_set (by decide +kernel) (pa_cons (pv 3) pa_nil)) (pe_callTy (cr_setF rfl) (by rfl) z_set (by decide +kernel) (pa_cons (pv 4) pa_nil))) pa_nil)))
      (pss_cons (ps_if (PW.pt (pw_or (pt_cmpR op_lt (pv 2) pe_int (nomark _)) (pw_or1 (pt_not (pt_truth (pv 6) (by intro _; rfl))))))
        (pss_one (ps_ret pe_non)) pss_nil)
      (pss_one (ps_ret (pe_tup (pa_cons (pe_call kC.G (hrm (by decide)) (by rfl) kC.g kC.F.kp kC.b .nil pass0 (pa_cons (pv 2) (pa_cons (pe_ix (show IxR _ (rIx K) from ix_seq) (pv 6) pe_int (fun _ _ => rfl)) pa_nil))) (pa_cons (pe_ix (show IxR _ (rIx K) from ix_seq) (pv 6) pe_int (fun _ _ => rfl)) pa_nil)))))))))), ?_⟩
    cases h1 with
    | bad e1 e2 => exact ⟨_, rfl, .inr ⟨a, _, rfl, e1, e2, qb (.inl rfl) H (Same.refl H)⟩⟩
    | @ok kd1 xs1 s1 e1 e2 e3 e4 e5 =>
    refine ⟨_, rfl, .inl ⟨kd1, a, xs1, s1, rfl, e1, e2, e3, e4, by omega, e5, fun F1 ns1 H1 nF1 hF1 pw1 mm1 ln1 sm1 => ?_⟩⟩
    have h2 := h2.same sm1
    cases h2 with
    | bad g1 g2 => exact ⟨_, rfl, .inr ⟨b, _, rfl, g1, g2, qb (.inr rfl) H1 sm1⟩⟩
    | @ok kd2 xs2 s2 g1 g2 g3 g4 g5 =>
    refine ⟨_, rfl, .inl ⟨kd2, b, xs2, s2, rfl, g1, g2, g3, g4, by omega, g5, fun F2 ns2 H2 nF2 hF2 pw2 mm2 ln2 sm2 => ?_⟩⟩
    obtain ⟨qw, qn, qy⟩ := qo s1 s2 rfl rfl
    have hF1' := sm2 _ _ hF1
    have sm12 := sm1.trans sm2
    clear qb qo
    have hbig : ∀ {k : Nat}, k ≤ 1000 → k ≤ sizeLine := fun h => Nat.le_trans h (by decide)
    refine ⟨_, rfl, _, rfl, F1, F2, _, _, rfl, rfl, hF1', hF2, hbig (by rw [List.length_map, List.length_map]; omega), fun L nL => ?_⟩
    have s3 := same_new (o := .lst (ns1.map V.int ++ ns2.map V.int)) nL
    have hL : upd H2 L (.lst (ns1.map V.int ++ ns2.map V.int)) L = some (.lst ((ns1 ++ ns2).map V.int)) := by rw [upd_same, List.map_append]
    generalize upd H2 L (.lst (ns1.map V.int ++ ns2.map V.int)) = H3 at s3 hL ⊢
    have sm13 := sm12.trans s3
    have hF1 := s3 _ _ hF1'
    have hF2 := s3 _ _ hF2
    refine ⟨L, rfl, ⟨_, SqL.of hL⟩, for_it (walk_list (xs := (ns1 ++ ns2).map V.int)) (fun i σ H' => H' = H3 ∧ (∃ y, σ = [some (.ref a), some (.ref b), some (vi n), some (.ref F1), some (.ref F2), y, none]) ∧ ∀ j x, j < i → (ns1 ++ ns2)[j]? = some x → 0 ≤ x ∧ x < (n : Int)) ⟨rfl, ⟨_, rfl⟩, fun j x hj => absurd hj (Nat.not_lt_zero _)⟩ (fun i σ H' _ h => by rw [h.1]; exact SqL.of hL) ?_ ?_⟩
    · rintro i x σ H' H'' hi ⟨rfl, ⟨y, rfl⟩, good⟩ ⟨rfl, hx⟩
      rw [List.getElem?_map] at hx
      cases hk : (ns1 ++ ns2)[i]? with
      | none => rw [hk] at hx; cases hx
      | some k =>
        rw [hk] at hx
        injection hx with hx
        subst hx
        refine ⟨_, rfl, _, rfl, ?_⟩
        by_cases ok : 0 ≤ k ∧ k < (n : Int)
        · refine .inl ⟨n, k.toNat, ?_, by omega, rfl, ⟨_, rfl⟩, fun j x hj hjx => ?_⟩
          · show [vi n, V.int k] = [vi n, V.int ((k.toNat : Nat) : Int)]
            rw [show ((k.toNat : Nat) : Int) = k by omega]
          · by_cases e : j = i
            · subst e
              rw [hk] at hjx
              injection hjx with hjx
              rw [← hjx]; exact ok
            · exact good j x (by omega) hjx
        · obtain ⟨w1, w2⟩ := qw k (wr_of pw1 mm1 pw2 mm2 hk ok good)
          exact .inr ⟨(n : Int), k, rfl, by omega, w1, w2 _ sm13⟩
    rintro σ H' ⟨rfl, ⟨y, rfl⟩, good⟩
    have ok1 : OkN n s1 := fun k hk => by
      obtain ⟨j, hj⟩ := List.mem_iff_getElem?.mp ((mm1 k).2 hk)
      have hjl := (List.getElem?_eq_some_iff.mp hj).1
      exact good j k (by rw [List.length_map, List.length_append]; omega) (by rw [List.getElem?_append_left hjl]; exact hj)
    have ok2 : OkN n s2 := fun k hk => by
      obtain ⟨j, hj⟩ := List.mem_iff_getElem?.mp ((mm2 k).2 hk)
      have hjl := (List.getElem?_eq_some_iff.mp hj).1
      exact good (ns1.length + j) k (by rw [List.length_map, List.length_append]; omega) (by rw [List.getElem?_append_right (by omega), show ns1.length + j - ns1.length = j by omega]; exact hj)
    clear good qw hL
    refine ⟨_, rfl, F1, ns1, rfl, SqL.of hF1, by omega, fun A1 c1 nA1 hc1 => ?_⟩
    have u1 := same_new (o := SetO w A1 (fun j => decide (j ∈ ns1)) c1) nA1
    refine ⟨_, rfl, F2, ns2, rfl, SqL.of (u1 _ _ hF2), by omega, fun A2 c2 nA2 hc2 => ?_⟩
    have u2 := same_new (o := SetO w A2 (fun j => decide (j ∈ ns2)) c2) nA2
    refine ⟨A1, A2, _, _, c1, c2, rfl, rfl, u2 _ _ upd_same, upd_same, fun k hk => ?_, fun k hk => ?_, fun p N np hN => ?_⟩
    · have := ok1 k ((mm1 k).1 (of_decide_eq_true hk)); omega
    · have := ok2 k ((mm2 k).1 (of_decide_eq_true hk)); omega
    have u3 := same_new (o := SetO w p (fun j => decide (j ∈ ns2) ^^ decide (j ∈ ns1)) N) np
    refine ⟨p, _, N, rfl, upd_same, hN, fun ns q pw hm hl nq => ?_⟩
    have u4 := same_new (o := .lst (ns.map V.int)) nq
    have uu : Same H' (upd (upd (upd (upd H' A1 (SetO w A1 (fun j => decide (j ∈ ns1)) c1)) A2 (SetO w A2 (fun j => decide (j ∈ ns2)) c2)) p (SetO w p (fun j => decide (j ∈ ns2) ^^ decide (j ∈ ns1)) N)) q (.lst (ns.map V.int))) := ((u1.trans u2).trans u3).trans u4
    show gName 6 (V.ref q) [some (V.ref a), some (V.ref b), some (vi n), some (V.ref F1), some (V.ref F2), y, none] (upd (upd (upd (upd H' A1 (SetO w A1 (fun j => decide (j ∈ ns1)) c1)) A2 (SetO w A2 (fun j => decide (j ∈ ns2)) c2)) p (SetO w p (fun j => decide (j ∈ ns2) ^^ decide (j ∈ ns1)) N)) q (.lst (ns.map V.int))) _
    have hq : (upd (upd (upd (upd H' A1 (SetO w A1 (fun j => decide (j ∈ ns1)) c1)) A2 (SetO w A2 (fun j => decide (j ∈ ns2)) c2)) p (SetO w p (fun j => decide (j ∈ ns2) ^^ decide (j ∈ ns1)) N)) q (.lst (ns.map V.int))) q = some (.lst (ns.map V.int)) := upd_same
    generalize (upd (upd (upd (upd H' A1 (SetO w A1 (fun j => decide (j ∈ ns1)) c1)) A2 (SetO w A2 (fun j => decide (j ∈ ns2)) c2)) p (SetO w p (fun j => decide (j ∈ ns2) ^^ decide (j ∈ ns1)) N)) q (.lst (ns.map V.int))) = H4 at uu hq ⊢
    have sm14 := sm13.trans uu
    have hm2 : ∀ k, k ∈ ns ↔ ¬ (k ∈ ndI s1 ↔ k ∈ ndI s2) := fun k => by rw [hm k, xor_iff, mm1, mm2]
    clear hm hN np nq u1 u2 u3 u4 hc1 hc2 nA1 nA2
    refine ⟨_, rfl, _, _, rfl, rfl, _, rfl, ?_⟩
    show if decide ((n : Int) < 3) = true then _ else _
    by_cases h3 : n < 3
    · rw [decide_eq_true (show (n : Int) < 3 by omega)]
      exact iteT (iteT (qn ok1 ok2 (.inl h3) _ sm14))
    rw [decide_eq_false (show ¬ (n : Int) < 3 by omega)]
    refine iteF ⟨_, rfl, _, .inl ⟨_, SqL.of hq, rfl⟩, ?_⟩
    cases ns with
    | nil =>
      refine iteT (qn ok1 ok2 (.inr fun k => ?_) _ sm14)
      have := hm2 k
      exact Classical.byContradiction fun z => absurd ((this).2 z) (by simp)
    | cons k0 r =>
      have hk0 := (hm2 k0).1 List.mem_cons_self
      have hr : 0 ≤ k0 ∧ k0 < (n : Int) := by
        by_cases h1 : k0 ∈ ndI s1
        · exact ok1 k0 h1
        · by_cases h2 : k0 ∈ ndI s2
          · exact ok2 k0 h2
          · exact absurd ⟨fun z => absurd z h1, fun z => absurd z h2⟩ hk0
      obtain ⟨u, rfl⟩ : ∃ u : Nat, k0 = (u : Int) := ⟨k0.toNat, by omega⟩
      have hu : u < n := by omega
      have dif : Dif s1 s2 u := ⟨hk0, fun v hv => by
        refine Classical.byContradiction fun z => ?_
        have hv2 := (hm2 (v : Int)).2 z
        rcases List.mem_cons.mp hv2 with e | e
        · omega
        · have := (List.pairwise_cons.mp pw).1 _ e
          omega⟩
      refine iteF ?_
      refine ⟨_, rfl, _, rfl, .inl ⟨q, _, _, _, rfl, rfl, SqL.of hq, show atI _ ((0 : Nat) : Int) = _ from atI_nat rfl, ?_⟩⟩
      refine ⟨n, u, rfl, by omega, by omega, hu, fun q3 H5 nq3 hq3 s5 => ?_⟩
      refine ⟨_, rfl, .inl ⟨q, _, _, _, rfl, rfl, SqL.of (s5 _ _ hq), show atI _ ((0 : Nat) : Int) = _ from atI_nat rfl, ?_⟩⟩
      refine ⟨by show 2 ≤ sizeLine; decide, fun tt nt => ?_⟩
      have s6 := same_new (o := .tup [.ref q3, .int (u : Int)]) nt
      exact qy ok1 ok2 (by omega) u hu dif q3 tt _ ((sm14.trans s5).free nt) upd_same (s6 _ _ hq3) ((sm14.trans s5).trans s6)
end
end Ff

namespace Ff
open PySem PySem.Spec PyProof.Rows L2 ExX LamX
abbrev sRes : Stmt := topS 51
abbrev resN : List Str := ["_law_forest_here", "_law_steps", "_law_step_here"]
theorem scRes : FnScope resN ["_law_forest_here", "_law_steps"] (defScope sRes) := ⟨rfl, rfl, rfl, by decide +kernel, rfl, by decide +kernel, by decide +kernel⟩
def fN : List Stp → List Nat
  | [] => []
  | .fnd z :: r => z.toNat :: fN r
  | .lnk _ _ :: r => fN r
  | .rnd _ _ _ :: r => fN r
theorem fN_app : ∀ l m : List Stp, fN (l ++ m) = fN l ++ fN m
  | [], m => by rw [List.nil_append]; rfl
  | .fnd z :: r, m => by rw [List.cons_append, fN, fN, fN_app r m, List.cons_append]
  | .lnk _ _ :: r, m => by rw [List.cons_append, fN, fN, fN_app r m]
  | .rnd _ _ _ :: r, m => by rw [List.cons_append, fN, fN, fN_app r m]
mutual
theorem nd1_nil : ∀ s : Stp, Wf false s → nFnd s = 0 → nd1 s = []
  | .fnd _, _, h => by rw [nFnd] at h; omega
  | .lnk _ _, _, _ => by rw [nd1]
  | .rnd k _ ss, w, h => by
    rw [Wf] at w
    rw [nFnd] at h
    rw [nd1]
    by_cases hk : 0 < k
    · rw [if_pos hk]
      refine nds_nil ss w.2.2 ?_
      rcases Int.mul_eq_zero.mp h with z | z
      · omega
      · exact z
    · rw [if_neg hk]
theorem nds_nil : ∀ l : List Stp, Wfs false l → nFnds l = 0 → nds l = []
  | [], _, _ => by rw [nds]
  | s :: r, w, h => by
    rw [Wfs] at w
    rw [nFnds] at h
    have h1 := nFnd_nonneg s w.1
    have h2 := nFnds_nonneg r w.2
    rw [nds, nd1_nil s w.1 (by omega), nds_nil r w.2 (by omega)]; rfl
end
mutual
theorem exp1_nd {top : Bool} : ∀ s : Stp, Wf top s → fN (exp1 ((1 : Nat) : Int) s) = nd1 s
  | .fnd z, _ => by rw [exp1, nd1, fN, fN]
  | .lnk c a, _ => by rw [exp1, nd1, fN, fN]
  | .rnd k _ ss, w => by
    rw [Wf] at w
    rw [exp1, nd1]
    by_cases z : 0 < k * nFnds ss
    · have hk : 0 < k := by
        rcases Int.lt_or_eq_of_le w.1 with y | y
        · exact y
        · rw [← y, Int.zero_mul] at z; omega
      have e : (min (((1 : Nat) : Int)) k).toNat = 1 := by omega
      rw [if_pos z, if_pos hk, e, List.replicate_one, List.flatten_singleton]
      exact exps_nd ss w.2.2
    · rw [if_neg z, fN]
      by_cases hk : 0 < k
      · rw [if_pos hk]
        have h0 := nFnds_nonneg ss w.2.2
        refine (nds_nil ss w.2.2 ?_).symm
        rcases Int.lt_or_eq_of_le h0 with y | y
        · exact absurd (Int.mul_pos hk y) z
        · exact y.symm
      · rw [if_neg hk]
theorem exps_nd {top : Bool} : ∀ l : List Stp, Wfs top l → fN (exps ((1 : Nat) : Int) l) = nds l
  | [], _ => by rw [exps, nds, fN]
  | s :: r, w => by
    rw [Wfs] at w
    rw [exps, nds, fN_app, exp1_nd s w.1, exps_nd r w.2]
end
mutual
theorem exp1_inn2 {m : Int} {n : Nat} : ∀ s : Stp, Inn n s → ∀ t ∈ exp1 m s, Inn n t
  | .fnd z, i, t, h => by rw [exp1, List.mem_singleton] at h; rw [h]; exact i
  | .lnk c a, i, t, h => by rw [exp1, List.mem_singleton] at h; rw [h]; exact i
  | .rnd k _ ss, i, t, h => by
    rw [Inn] at i
    rw [exp1] at h
    by_cases z : 0 < k * nFnds ss
    · rw [if_pos z, List.mem_flatten] at h
      obtain ⟨l, hl, ht⟩ := h
      rw [(List.mem_replicate.mp hl).2] at ht
      exact exps_inn2 ss i t ht
    · rw [if_neg z] at h; cases h
theorem exps_inn2 {m : Int} {n : Nat} : ∀ l : List Stp, Inns n l → ∀ t ∈ exps m l, Inn n t
  | [], _, t, h => by rw [exps] at h; cases h
  | s :: r, i, t, h => by
    rw [Inns] at i
    rw [exps, List.mem_append] at h
    rcases h with h | h
    · exact exp1_inn2 s i.1 t h
    · exact exps_inn2 r i.2 t h
end

theorem fN_nats {H : Hp} : ∀ {ys : List V} {ss : List Stp}, StsAt H ys ss → (∀ t ∈ ss, isF t = true) → (∀ (n : Nat), (∀ t ∈ ss, Inn n t) → ys = natsV (fN ss))
  | _, _, .nil, _, _, _ => rfl
  | _, _, .cons (s := s) h r, hf, n, hi => by
    have := hf _ List.mem_cons_self
    cases h with
    | fnd z =>
      have hz := hi _ List.mem_cons_self
      rw [Inn] at hz
      have ih := fN_nats r (fun t ht => hf t (List.mem_cons_of_mem _ ht)) n (fun t ht => hi t (List.mem_cons_of_mem _ ht))
      rw [fN, ih]
      unfold natsV
      rw [List.map_cons]
      congr 1
      show V.int z = V.int ((z.toNat : Nat) : Int)
      congr 1; omega
    | lnk h => cases this
    | rnd h1 h2 h3 => cases this
/-! effects -/
section
variable {n : Nat} {p r : Nat → Nat}
theorem low_same (F : Fo n p r) (hn : n < 3) {l : List Nat} (h : ∀ x ∈ l, x < n) (v : Nat) (hv : v < n) : fndAll n l p v = p v := by
  rw [behind_eq F l h v hv]
  split
  · have h1 := F.lt v hv
    by_cases e : p v = v
    · rw [root_of e, e]
    · have h2 : p (p v) = p v := by
        rcases F.up (p v) h1 with z | z
        · exact z
        · rcases F.up v hv with y | y
          · exact absurd y e
          · have h3 := F.lt (p v) h1
            have : p (p v) = v ∨ p (p v) = p v := by omega
            rcases this with q | q
            · rw [q] at z; omega
            · exact q
      obtain ⟨m, rfl⟩ : ∃ m, n = m + 1 := ⟨n - 1, by omega⟩
      show (if p v = v then v else root p m (p v)) = p v
      rw [if_neg e, root_of h2]
  · rfl
theorem c3_fo {n u : Nat} (hn : 3 ≤ n) (hu : u < n) : Fo n (c3 u) (fun v => if v = u then 2 else if v = ab3 u then 1 else 0) := by
  have h1 : ab3 u ≠ u := by unfold ab3; split <;> omega
  have h2 : rt3 u ≠ u := by unfold rt3; split <;> omega
  have h3 : rt3 u ≠ ab3 u := by unfold rt3 ab3; split <;> split <;> omega
  have h4 : ab3 u < n := by unfold ab3; split <;> omega
  have h5 : rt3 u < n := by unfold rt3; split <;> omega
  refine ⟨fun x hx => ?_, fun x hx => ?_, fun x hx => ?_⟩
  · unfold c3; split
    · exact h4
    · split
      · exact h5
      · exact hx
  · unfold c3
    by_cases e : x = u
    · right
      rw [if_pos e, if_pos e, if_neg h1, if_pos rfl]; decide
    · rw [if_neg e, if_neg e]
      by_cases e2 : x = ab3 u
      · right
        rw [if_pos e2, if_pos e2, if_neg h2, if_neg h3]; decide
      · left; rw [if_neg e2]
  · show (if x = u then 2 else if x = ab3 u then 1 else 0) < n
    split
    · omega
    · split <;> omega
theorem c3_find {n u : Nat} (hn : 3 ≤ n) (hu : u < n) {l : List Nat} (h : ∀ x ∈ l, x < n) : fndAll n l (c3 u) u = if u ∈ l then rt3 u else ab3 u := by
  have h1 : ab3 u ≠ u := by unfold ab3; split <;> omega
  have h2 : rt3 u ≠ u := by unfold rt3; split <;> omega
  have h3 : rt3 u ≠ ab3 u := by unfold rt3 ab3; split <;> split <;> omega
  have cu : c3 u u = ab3 u := by unfold c3; rw [if_pos rfl]
  have ca : c3 u (ab3 u) = rt3 u := by unfold c3; rw [if_neg h1, if_pos rfl]
  have cr : c3 u (rt3 u) = rt3 u := by unfold c3; rw [if_neg h2, if_neg h3]
  have leaf : ∀ v, v ≠ u → c3 u v ≠ u := fun v hv => by
    unfold c3
    rw [if_neg hv]
    split
    · exact h2
    · exact hv
  have hroot : root (c3 u) n u = rt3 u := by
    obtain ⟨m, rfl⟩ : ∃ m, n = m + 3 := ⟨n - 3, by omega⟩
    show (if c3 u u = u then u else root (c3 u) (m + 2) (c3 u u)) = _
    rw [cu, if_neg h1]
    show (if c3 u (ab3 u) = ab3 u then ab3 u else root (c3 u) (m + 1) (c3 u (ab3 u))) = _
    rw [ca, if_neg h3, root_of cr]
  have noup : ∀ (k x : Nat), x ≠ u → u ∉ ups (c3 u) k x := fun k => by
    induction k with
    | zero => exact fun x _ => by show u ∉ []; simp
    | succ k ih =>
      intro x hx
      show u ∉ (if c3 u x = x then [] else x :: ups (c3 u) k (c3 u x))
      split
      · simp
      · intro z
        rcases List.mem_cons.mp z with z | z
        · exact hx z.symm
        · exact ih _ (leaf x hx) z
  rw [behind_eq (c3_fo hn hu) l h u hu]
  by_cases hm : u ∈ l
  · rw [if_pos hm, hroot]
    have : markB n (c3 u) l u = true := by
      unfold markB
      rw [List.any_eq_true]
      refine ⟨u, hm, ?_⟩
      unfold upB
      rw [ups_n (c3_fo hn hu) hu (by rw [cu]; exact h1)]
      simp
    rw [if_pos this]
  · rw [if_neg hm, cu]
    have : markB n (c3 u) l u = false := by
      unfold markB
      rw [List.any_eq_false]
      intro x hx
      unfold upB
      have := noup n x (fun e => hm (by rw [← e]; exact hx))
      simpa using this
    rw [this]
    rfl
end
theorem nds_len2 (ss : List Stp) : (nds ss).length ≤ nWrs ss := by
  have h : ∀ s : Stp, (nd1 s).length ≤ nWr s := fun s => by
    induction s using Stp.rec (motive_2 := fun l => (nds l).length ≤ nWrs l) with
    | fnd _ => rw [nd1, nWr]; exact Nat.le_refl _
    | lnk _ _ => rw [nd1, nWr]; exact Nat.zero_le _
    | rnd k _ ss ih =>
      rw [nd1, nWr]
      split
      · omega
      · exact Nat.zero_le _
    | nil => rw [nds]; exact Nat.zero_le _
    | cons x l h1 h2 => rw [nds, nWrs, List.length_append]; omega
  induction ss with
  | nil => rw [nds]; exact Nat.zero_le _
  | cons x l ih => rw [nds, nWrs, List.length_append]; have := h x; omega
def spRes (K : PySem.W.Frag) : Sp := fun vs H Q _ => ∃ (t b : Addr) (n : Nat) (p r : Nat → Nat) (kd : Bool) (xs : List V) (ss : List Stp), vs = [.ref t, .ref b] ∧ SqT K H t (tupOf n p) ∧ n ≤ 60 ∧ Fo n p r ∧ H b = some (ob kd xs) ∧ StsAt H xs ss ∧ Wfs false ss ∧ nests ss ≤ 4 ∧ nWrs ss ≤ 60 ∧ Inns n ss ∧
  ∀ (q : Addr) H', SqT K H' q (tupOf n (fndAll n (nds ss) p)) → Same H H' → Q (.ref q) H'
section
variable {P : Program} {w : World} {K : PySem.W.Frag} {mg : Str → Option Value} {base : Heap}
theorem ok_res {f fF fE : Addr} {fd fdF fdE : FuncData} (F : Fun K "_law_result" "_law_result" sRes f fd) (T : Tx mg) (kF : Kn P w K mg base 4 "_law_found" sLFound ["_law_forest_here", "_law_nodes"] (spFindAll K) fF fdF) (kE : Kn P w K mg base 6 "_law_expanded" sExpd ["_law_steps", "_law_most"] (spExpd 4) fE fdE) : FnOk P w K mg base CX0 7 f fd ["_law_forest_here", "_law_steps"] (spRes K) := by
  refine F.ok scRes (fun vs H Q E h => ?_) (fun cdv A outer s H vs Q E hr h => ?_)
  · obtain ⟨t, b, n, p, r, kd, xs, ss, rfl, _⟩ := h
    rfl
  · obtain ⟨t, b, n, p, r, kd, xs, ss, rfl, ht, hn, hF, hb, hss, wf, hne, hw, hin, q⟩ := h
    have hrm : ∀ {j : Nat}, j ≤ 6 → Room j (A.deeper (envOfC "_law_result" (defScope sRes) s.heap.objs.size f cdv)) := fun h => hr.mono h
    refine ⟨_, (pss_one (ps_ret (pe_ix (show IxR _ (rIx K) from ix_seq) (pe_call kF.G (hrm (by decide)) (by rfl) kF.g kF.F.kp kF.b .nil pass0 (pa_cons (pv 0) (pa_cons (pe_lc (own := [("_law_step_here", 2)]) (g := gName 2) (by rfl) scRes.nd (pi_list (pe_call kE.G (hrm (by decide)) (by rfl) kE.g kE.F.kp kE.b .nil pass0 (pa_cons (pv 1) (pa_cons pe_int pa_nil)))) (blkOk_by (own := [("_law_step_here", 2)]) (N := resN) (sc := defScope sRes) (by decide +kernel)) (fun _ _ _ _ _ => (pg_name (i := 2) scRes.nd rfl (.inl rfl))) (fun _ _ _ _ _ => pts_nil) (fun _ _ _ _ _ => (pv 2))) pa_nil))) pe_int (fun _ _ => rfl)))), ?_⟩
    have hel : (exps ((1 : Nat) : Int) ss).length ≤ 60 := by
      have := exps_len (m := 1) (Nat.le_refl 1) ss wf
      rw [Nat.one_pow, Nat.mul_one] at this
      exact Nat.le_trans this hw
    have hnl := nds_len2 ss
    refine ⟨_, rfl, _, rfl, kd, b, xs, ss, false, 1, rfl, hb, hss, wf, hne, by omega, by omega, Nat.le_refl 1, by decide, by omega, fun q1 ys H1 nq1 hq1 hys s1 => ⟨q1, rfl, ⟨_, SqL.of hq1⟩, fun D nD => ?_⟩⟩
    have hyn : ys = natsV (nds ss) := by
      rw [fN_nats hys (exps_fnd wf) n (exps_inn2 ss hin), exps_nd ss wf]
    subst hyn
    refine lc_list (xs := natsV (nds ss)) (fun i H' => H' D = some (.lst ((natsV (nds ss)).take i)) ∧ Same H1 H') ⟨upd_same, same_new nD⟩ (fun i H' _ h => SqL.of (h.2 _ _ hq1)) ?_ ?_
    · rintro i x H' hx ⟨hD, sm⟩
      refine ⟨rfl, _, rfl, _, hD, ?_, ?_, same_over sm nD⟩
      · rw [List.length_take, natsV_len]
        exact Nat.lt_of_le_of_lt (show _ ≤ 1000 by omega) (by decide)
      · rw [upd_same, List.take_add_one, hx]
        rfl
    rintro H2 ⟨hD, s2⟩
    rw [List.take_length] at hD
    have s02 := s1.trans s2
    refine ⟨t, D, n, p, r, nds ss, rfl, same_sqt s02 ht, SqL.of hD, by omega, by omega, hF, nds_lt ss hin, fun t2 g c H3 nt2 nc hg ht2 hgt hc s3 => ?_⟩
    exact Sq.ix (.inr (SqT.of ht2)) rfl (q g H3 hgt (s02.trans s3))
end
end Ff

namespace Ff
open PySem PySem.Spec PyProof.Rows L2 ExX LamX
abbrev sTup : Stmt := topS 46
abbrev tupN : List Str := ["_law_size_in", "_law_found_here", "_law_step_here", "_law_longer", "_law_first", "_law_node"]
theorem scTup : FnScope tupN ["_law_size_in"] (defScope sTup) := ⟨rfl, rfl, rfl, by decide +kernel, rfl, by decide +kernel, by decide +kernel⟩
/-- a list of rows, each a tuple -/
inductive RwAt (H : Hp) : List V → List (List Nat) → Prop
  | nil : RwAt H [] []
  | cons {t : Addr} {xs : List V} {row : List Nat} {rows : List (List Nat)} (h : H t = some (.tup (natsV row))) (r : RwAt H xs rows) : RwAt H (.ref t :: xs) (row :: rows)
theorem RwAt.same {H H' : Hp} {xs : List V} {rs : List (List Nat)} (h : RwAt H xs rs) (s : Same H H') : RwAt H' xs rs := by
  induction h with
  | nil => exact .nil
  | cons h r ih => exact .cons (s _ _ h) ih
theorem RwAt.ext {H H' : Hp} {xs : List V} {rs : List (List Nat)} (h : RwAt H xs rs) (s : ExtN H H') : RwAt H' xs rs := by
  induction h with
  | nil => exact .nil
  | cons h r ih => exact .cons (s _ _ h (by intro ps z; cases z)) ih
theorem RwAt.sb {H H' : Hp} {d : Addr} {ys : List V} {xs : List V} {rs : List (List Nat)} (h : RwAt H xs rs) (s : Sb d H H') (hd : H d = some (.lst ys)) : RwAt H' xs rs := by
  induction h with
  | nil => exact .nil
  | cons h r ih => exact .cons (s _ _ (ne_of h hd (by intro z; cases z)) h) ih
theorem RwAt.put {H : Hp} {D : Addr} {acc acc' : List V} {xs : List V} {rs : List (List Nat)} (h : RwAt H xs rs) (hD : H D = some (.lst acc)) : RwAt (upd H D (.lst acc')) xs rs := by
  induction h with
  | nil => exact .nil
  | cons h r ih => exact .cons (by rw [upd_ne (ne_of h hD (by intro z; cases z))]; exact h) ih
theorem RwAt.len {H : Hp} {xs : List V} {rs : List (List Nat)} (h : RwAt H xs rs) : xs.length = rs.length := by
  induction h with
  | nil => rfl
  | cons h r ih => rw [List.length_cons, List.length_cons, ih]
theorem RwAt.app {H : Hp} {xs ys : List V} {rs qs : List (List Nat)} (h : RwAt H xs rs) (h2 : RwAt H ys qs) : RwAt H (xs ++ ys) (rs ++ qs) := by
  induction h with
  | nil => exact h2
  | cons h r ih => exact .cons h ih
theorem RwAt.get {H : Hp} {xs : List V} {rs : List (List Nat)} (h : RwAt H xs rs) : ∀ {i : Nat} {v : V}, xs[i]? = some v → ∃ t row, v = .ref t ∧ rs[i]? = some row ∧ H t = some (.tup (natsV row)) := by
  induction h with
  | nil => intro i v e; simp at e
  | cons h r ih =>
    intro i v e
    cases i with
    | zero => exact ⟨_, _, (Option.some.inj e).symm, rfl, h⟩
    | succ i => exact ih e
theorem filt_take {α : Type} {g : α → Bool} {l : List α} {i : Nat} {x : α} (h : l[i]? = some x) : (l.take (i + 1)).filter g = (l.take i).filter g ++ if g x = true then [x] else [] := by
  rw [List.take_add_one, h, List.filter_append]
  cases e : g x <;> simp [List.filter, e]
def spTup : Sp := fun vs H Q _ => ∃ n : Nat, vs = [vi n] ∧ n ≤ 5 ∧ ∀ (q : Addr) (xs : List V) H', H q = none → H' q = some (.lst xs) → RwAt H' xs (rowsM n n) → Same H H' → Q (.ref q) H'
theorem natsV_app (l m : List Nat) : natsV (l ++ m) = natsV l ++ natsV m := by unfold natsV; rw [List.map_append]
theorem flat_len {n : Nat} (rs : List (List Nat)) : (rs.flatMap fun row => (List.range n).map fun v => row ++ [v]).length = rs.length * n := by
  rw [List.length_flatMap]
  have : rs.map (fun row => ((List.range n).map fun v => row ++ [v]).length) = rs.map fun _ => n := List.map_congr_left fun e _ => by rw [List.length_map, List.length_range]
  rw [this, List.map_const', List.sum_replicate_nat]
theorem pow5 {n i : Nat} (hn : n ≤ 5) (hi : i ≤ 5) : n ^ i ≤ 3125 := by
  have h1 : n ^ i ≤ 5 ^ i := Nat.pow_le_pow_left hn i
  have h2 : 5 ^ i ≤ 5 ^ 5 := Nat.pow_le_pow_right (by decide) hi
  omega
section
variable {P : Program} {w : World} {K : PySem.W.Frag} {mg : Str → Option Value} {base : Heap}
theorem ok_tup {f : Addr} {fd : FuncData} (F : Fun K "_law_tuples" "_law_tuples" sTup f fd) (T : Tx mg) : FnOk P w K mg base CX0 1 f fd ["_law_size_in"] spTup := by
  refine F.ok scTup (fun vs H Q E h => ?_) (fun cdv A outer s H vs Q E hr h => ?_)
  · obtain ⟨n, rfl, _⟩ := h
    rfl
  · obtain ⟨n, rfl, hn, q⟩ := h
    refine ⟨_, (pss_cons (ps_set (i := 1) scTup.nd rfl (.inl rfl) (pe_lst (pa_cons (pe_tup pa_nil) pa_nil)))
      (pss_cons (ps_for PassesOwn.never rfl (pi_range1 (by rfl) T.range (pa_cons (pv 0) pa_nil)) (pg_name (i := 2) scTup.nd rfl (.inl rfl))
        (pss_cons (ps_set (i := 3) scTup.nd rfl (.inl rfl) (pe_lst pa_nil))
        (pss_cons (ps_for PassesOwn.never rfl (pi_list (pv 1)) (pg_name (i := 4) scTup.nd rfl (.inr rfl))
          (pss_one (ps_expr (pe_bm PySem.F.plainAttrs_list PySem.F.slot_list_extend PySem.F.type_list_extend mt_extend (pv 3) (pa_cons (pe_lc (own := [("_law_node", 5)]) (g := gName 5) (by rfl) scTup.nd (pi_range1 (by rfl) T.range (pa_cons (pv 0) pa_nil)) (blkOk_by (own := [("_law_node", 5)]) (N := tupN) (sc := defScope sTup) (by decide +kernel)) (fun _ _ _ _ _ => (pg_name (i := 5) scTup.nd rfl (.inl rfl))) (fun _ _ _ _ _ => pts_nil) (fun _ _ _ _ _ => (pe_op (show OpR _ (binaryOp .Add) (rCatA K) from op_catA) (pv 4) (pe_tup (pa_cons (pv 5) pa_nil))))) pa_nil)))))
        (pss_one (ps_set (i := 1) scTup.nd rfl (.inl rfl) (pv 3))))))
      (pss_one (ps_ret (pv 1))))), ?_⟩
    refine ⟨Nat.zero_le _, fun e0 ne0 => ⟨by show 1 ≤ sizeLine; decide, fun l0 nl0 => ?_⟩⟩
    have s1 := same_new (o := .tup []) ne0
    have s2 := same_new (o := .lst [V.ref e0]) nl0
    have hr0 : RwAt (upd (upd H e0 (.tup [])) l0 (.lst [V.ref e0])) [V.ref e0] (rowsM n 0) := .cons (s2 _ _ upd_same) .nil
    refine ⟨_, rfl, _, rfl, by omega, by omega, ?_⟩
    refine for_range (lo := 0) (n := ((n : Nat) : Int).toNat) (fun i σ H' => (∃ (ln : Addr) (xs : List V) (y2 y3 y4 : Option V), σ = [some (vi n), some (.ref ln), y2, y3, y4, none] ∧ H ln = none ∧ H' ln = some (.lst xs) ∧ RwAt H' xs (rowsM n i)) ∧ Same H H') ⟨⟨l0, _, _, _, _, rfl, sm_none s1 nl0, upd_same, hr0⟩, s1.trans s2⟩ ?_ ?_
    · rintro i σ H1 hi ⟨⟨ln, xs, y2, y3, y4, rfl, nln, hln, hrw⟩, sm⟩
      refine ⟨Nat.zero_le _, fun lo nlo => ?_⟩
      have s3 := same_new (o := .lst []) nlo
      have nll : ln ≠ lo := ne_of_none hln nlo
      have hxl := hrw.len
      rw [rows_len] at hxl
      have hpi := pow5 hn (show i ≤ 5 by omega)
      refine ⟨_, rfl, ln, rfl, ⟨_, SqL.of (s3 _ _ hln)⟩, ?_⟩
      refine for_list (K := K) (a := ln) (xs := xs) (fun j σ H' => (∃ (ys : List V) (y4 : Option V), σ = [some (vi n), some (.ref ln), some (.int (0 + (i : Int))), some (.ref lo), y4, none] ∧ H' lo = some (.lst ys) ∧ RwAt H' ys (((rowsM n i).take j).flatMap fun row => (List.range n).map fun v => row ++ [v])) ∧ Sb lo H1 H') ⟨⟨[], _, rfl, upd_same, .nil⟩, Sb.of s3⟩ (fun j σ H' _ h => SqL.of (h.2 _ _ nll hln)) ?_ ?_
      · rintro j x σ H2 hx ⟨⟨ys, z4, rfl, hlo, hys⟩, sb2⟩
        obtain ⟨t, row, rfl, hrj, ht⟩ := hrw.get hx
        have nt : t ≠ lo := ne_of_none ht nlo
        have ht2 := sb2 _ _ nt ht
        obtain ⟨hrl, hrx⟩ := rows_mem i row (List.mem_of_getElem? hrj)
        refine ⟨_, rfl, .inl ⟨rfl, _, SqL.of hlo⟩, _, rfl, _, rfl, by omega, by omega, fun D nD => ?_⟩
        refine lc_range (lo := 0) (n := ((n : Nat) : Int).toNat) (fun k H' => (∃ vs, H' D = some (.lst vs) ∧ RwAt H' vs ((List.range k).map fun v => row ++ [v])) ∧ Same H2 H') ⟨⟨[], upd_same, .nil⟩, same_new nD⟩ ?_ ?_
        · rintro k H3 hk ⟨⟨vs, hD, hvs⟩, sm3⟩
          have hlen : vs.length < sizeLine := by
            rw [hvs.len, List.length_map, List.length_range]
            exact Nat.lt_of_le_of_lt (show _ ≤ 1000 by omega) (by decide)
          refine ⟨rfl, _, rfl, _, rfl, by show 1 ≤ sizeLine; decide, fun c1 nc1 => ?_⟩
          have sc := same_new (o := .tup [V.int (0 + (k : Int))]) nc1
          have fin : ∀ {H' : Hp} (p : Addr), Same H3 H' → H' p = some (.tup (natsV (row ++ [k]))) → ∃ acc, H' D = some (.lst acc) ∧ acc.length < sizeLine ∧ ((∃ vs, upd H' D (.lst (acc ++ [V.ref p])) D = some (.lst vs) ∧ RwAt (upd H' D (.lst (acc ++ [V.ref p]))) vs ((List.range (k + 1)).map fun v => row ++ [v])) ∧ Same H2 (upd H' D (.lst (acc ++ [V.ref p])))) := fun p s' hp => by
            refine ⟨vs, s' _ _ hD, hlen, ⟨vs ++ [V.ref p], upd_same, ?_⟩, same_over (sm3.trans s') nD⟩
            rw [List.range_succ, List.map_append]
            exact ((hvs.same s').app (.cons hp .nil)).put (s' _ _ hD)
          refine ⟨t, c1, _, _, rfl, rfl, SqT.of (sc _ _ (sm3 _ _ ht2)), SqT.of upd_same, Nat.le_trans (show _ ≤ 1000 by rw [natsV_len, hrl]; simp; omega) (by decide), fun e => ?_, fun _ e => (by cases e), fun _ _ p np => ?_⟩
          · refine fin c1 sc ?_
            have er : row = [] := by
              cases row with
              | nil => rfl
              | cons _ _ => cases e
            rw [upd_same, er, Int.zero_add]
            rfl
          · refine fin p (sc.trans (same_new np)) ?_
            rw [upd_same, natsV_app, Int.zero_add]
            rfl
        · rintro H3 ⟨⟨vs, hD, hvs⟩, sm3⟩
          rw [show ((n : Nat) : Int).toNat = n by omega] at hvs
          have hlo' := sm3 _ _ hlo
          have hyl := hys.len
          rw [flat_len, List.length_take, rows_len] at hyl
          have hvl := hvs.len
          rw [List.length_map, List.length_range] at hvl
          have hb : min j (n ^ i) * n ≤ 3125 * 5 := Nat.mul_le_mul (by omega) hn
          refine ⟨lo, D, ys, vs, rfl, rfl, hlo', hD, Nat.le_trans (show _ ≤ 20000 by omega) (by decide), ?_⟩
          refine ⟨⟨ys ++ vs, _, rfl, upd_same, ?_⟩, (sb2.trans (Sb.of sm3)).trans Sb.put⟩
          rw [List.take_add_one, hrj, List.flatMap_append]
          refine RwAt.put ?_ hlo'
          refine (hys.same sm3).app ?_
          rw [show (some row).toList = [row] from rfl, List.flatMap_cons, List.flatMap_nil, List.append_nil]
          exact hvs
      · rintro σ H2 ⟨⟨ys, z4, rfl, hlo, hys⟩, sb2⟩
        rw [List.take_of_length_le (by rw [rows_len, hxl]; exact Nat.le_refl _)] at hys
        have s2' : Same H1 H2 := fun x o h => sb2 x o (ne_of_none h nlo) h
        exact ⟨_, rfl, ⟨lo, ys, _, _, _, rfl, sm_none sm nlo, hlo, hys⟩, sm.trans s2'⟩
    · rintro σ H1 ⟨⟨ln, xs, y2, y3, y4, rfl, nln, hln, hrw⟩, sm⟩
      rw [show ((n : Nat) : Int).toNat = n by omega] at hrw
      exact ⟨_, rfl, q ln xs H1 nln hln hrw sm⟩
end
end Ff

namespace Ff
open PySem PySem.Spec PyProof.Rows L2 ExX LamX
theorem ints_lenI (n : Nat) (p : Nat → Nat) : (intsOf n p).length = n := by unfold intsOf; rw [List.length_map, List.length_range]
theorem par_intsI {n : Nat} {p : Nat → Nat} {v : Nat} (hv : v < n) : par (intsOf n p) v = p v := by
  unfold par intsOf
  rw [List.getD_eq_getElem?_getD, List.getElem?_map, List.getElem?_range hv]
  rfl
theorem fo_verdI {n : Nat} {p r : Nat → Nat} (F : Fo n p r) (hn : n ≤ 40) : verdict (intsOf n p) = .ok := by
  have hl := ints_lenI n p
  refine ver_ok.mpr ⟨by rw [hl]; exact hn, fun v hv => ?_, fun v hv => ?_⟩
  · rw [hl] at hv
    have e : (intsOf n p).getD v 0 = (p v : Int) := by
      unfold intsOf
      rw [List.getD_eq_getElem?_getD, List.getElem?_map, List.getElem?_range hv]
      rfl
    unfold wideB
    rw [e, hl, decide_eq_true (by omega), decide_eq_true (by have := F.lt v hv; omega)]
    rfl
  · rw [hl] at hv ⊢
    have e : ∀ k x, x < n → root (par (intsOf n p)) k x = root p k x := fun k => by
      induction k with
      | zero => exact fun x hx => rfl
      | succ k ih =>
        intro x hx
        show (if par (intsOf n p) x = x then x else root (par (intsOf n p)) k (par (intsOf n p) x)) = (if p x = x then x else root p k (p x))
        rw [par_intsI hx, ih _ (F.lt x hx)]
    unfold ringB
    rw [e n v hv, par_intsI (root_lt F v hv), root_fix F v hv, decide_eq_true rfl]
    rfl
theorem okV_iff {L : List Int} (h : okV L = true) : L.length ≤ 40 ∧ L.map V.int = tupOf L.length (par L) ∧ ∃ r, Fo L.length (par L) r := by
  have hv : verdict L = .ok := by
    unfold okV at h
    split at h
    · assumption
    · cases h
  obtain ⟨h1, h2, h3⟩ := ver_ok.mp hv
  have hlt : ∀ v, v < L.length → par L v < L.length := fun v hv => by
    have := (wide_iff.mp (h2 v hv))
    unfold par
    omega
  refine ⟨h1, row_tup h2, _, fo_of hlt fun v hv => ?_⟩
  have := h3 v hv
  unfold ringB at this
  simpa using this
theorem dp_intl {K : PySem.W.Frag} {H : Hp} : ∀ l : List Int, DpAll K H (l.map V.int) (l.map PyData.int)
  | [] => .nil
  | x :: r => .cons (.int x) (dp_intl r)
theorem eqv_refl2 {d : PyData} (h : SeqAt.shaped d = true) : PyData.eqv d d = true := SeqAt.eqv_refl _ (SeqAt.canLay_of_shaped h)
/-- the same nodes, by the integers -/
theorem sme_nds {n : Nat} {s1 s2 : List Stp} (i1 : Inns n s1) (i2 : Inns n s2) (h : SmE s1 s2) : ∀ x, x ∈ nds s1 ↔ x ∈ nds s2 := fun x => by
  have := h (x : Int)
  rw [ndI_nat s1 i1, ndI_nat s2 i2, List.mem_map, List.mem_map] at this
  constructor
  · intro hx
    obtain ⟨y, hy, e⟩ := this.1 ⟨x, hx, rfl⟩
    rw [show x = y by omega]; exact hy
  · intro hx
    obtain ⟨y, hy, e⟩ := this.2 ⟨x, hx, rfl⟩
    rw [show x = y by omega]; exact hy
theorem dif_nds {n : Nat} {s1 s2 : List Stp} {u : Nat} (i1 : Inns n s1) (i2 : Inns n s2) (h : Dif s1 s2 u) : ¬ (u ∈ nds s1 ↔ u ∈ nds s2) := fun z => h.1 (by
  rw [ndI_nat s1 i1, ndI_nat s2 i2, List.mem_map, List.mem_map]
  constructor
  · rintro ⟨y, hy, e⟩
    exact ⟨u, z.1 (by rw [show u = y by omega]; exact hy), rfl⟩
  · rintro ⟨y, hy, e⟩
    exact ⟨u, z.2 (by rw [show u = y by omega]; exact hy), rfl⟩)
theorem res_same {n : Nat} {p r : Nat → Nat} {s1 s2 : List Stp} (F : Fo n p r) (i1 : Inns n s1) (i2 : Inns n s2) (h : n < 3 ∨ SmE s1 s2) : tupOf n (fndAll n (nds s1) p) = tupOf n (fndAll n (nds s2) p) := by
  unfold tupOf
  refine List.map_congr_left fun v hv => ?_
  have hv := List.mem_range.mp hv
  have e : fndAll n (nds s1) p v = fndAll n (nds s2) p v := by
    rcases h with h | h
    · rw [low_same F h (nds_lt s1 i1) v hv, low_same F h (nds_lt s2 i2) v hv]
    · exact (behind_same F (nds_lt s1 i1) (sme_nds i1 i2 h) v hv).symm
  rw [e]
theorem ints_tup {n : Nat} {p q : Nat → Nat} (h : tupOf n p = tupOf n q) : intsOf n p = intsOf n q := by
  unfold tupOf at h
  unfold intsOf
  refine List.map_congr_left fun v hv => ?_
  have hv2 := List.mem_range.mp hv
  have := congrArg (fun l : List V => l[v]?) h
  simp only [List.getElem?_map, List.getElem?_range hv2, Option.map_some] at this
  have := Option.some.inj this
  injection this
theorem okV_fo {n : Nat} {p r : Nat → Nat} (F : Fo n p r) (hn : n ≤ 40) : okV (intsOf n p) = true := by
  unfold okV
  rw [fo_verdI F hn]
theorem eff_sp {CN CB B O : Addr} {n : Nat} {ss os : List Stp} {H : Hp} {Q : VK} {E : XK} (hn : n ≤ 45) (h1 : Hst H B (some ss)) (h2 : Hst H O (some os)) (ok1 : OkN n ss) (ok2 : OkN n os)
    (key : ∀ v H', ((v = .non ∧ (n < 3 ∨ SmE ss os)) ∨ ∃ (u : Nat) (q2 q : Addr), v = .ref q ∧ 3 ≤ n ∧ u < n ∧ Dif ss os u ∧ H' q = some (.tup [.ref q2, vi u]) ∧ H' q2 = some (.tup (tupOf n (c3 u)))) → Same H H' → Q v H') : noE (spEff CN CB) [.ref B, .ref O, vi n] H Q E := by
  refine ⟨B, O, n, some ss, some os, rfl, hn, h1, h2, fun z => ?_, fun s1 s2 e1 e2 => ?_⟩
  · rcases z with z | z <;> cases z
  · cases e1
    cases e2
    refine ⟨fun x hx => ?_, fun _ _ hs H' sm => key _ _ (.inl ⟨rfl, hs⟩) sm, fun _ _ h3 u hu dif q2 q H' _ hq hq2 sm => key _ _ (.inr ⟨u, q2, q, rfl, h3, hu, dif, hq, hq2⟩) sm⟩
    rcases hx with ⟨x1, x2, _⟩ | ⟨_, x1, x2, _⟩
    · exact absurd (ok1 x x1) x2
    · exact absurd (ok2 x x1) x2
theorem tcons_c {v : V} {tr : TA} {σ : L2.St} {H : Hp} {Q : List V → Hp → Prop} (h : tr σ H fun xs H2 => Q (v :: xs) H2) : tCons (tC v) tr σ H Q := h
theorem tnil_of {σ : L2.St} {H : Hp} {F : List V → Hp → Prop} (h : F [] H) : tNil σ H F := h
/-- ints of few signs -/
def Few (z : Int) : Prop := z.natAbs < 10 ^ 31
theorem Few.bits {z : Int} (h : Few z) : z.natAbs.log2 < 103 := by
  by_cases h0 : z.natAbs = 0
  · rw [h0]; decide
  · exact (Nat.log2_lt h0).mpr (Nat.lt_trans h (by decide))
theorem Few.shown {z : Int} (h : Few z) : (PyData.shown (.int z)).length ≤ 40 := by
  have e := int_text_length_le10 (k := 31) (by decide) h
  show (Str.ofString (toString z)).length ≤ 40
  rw [PySem.ofString_length]
  omega
structure Shw (d : PyData) : Prop where
  sh : d.showable = true
  nd : d.hasDict = false
  lv : d.leavesShort 40 = true
structure Shws (ds : List PyData) : Prop where
  sh : PyData.showableAll ds = true
  nd : PyData.hasDictAll ds = false
  lv : PyData.leavesShortAll 40 ds = true
theorem Few.shw {z : Int} (h : Few z) : Shw (.int z) := ⟨by have := h.bits; simp [PyData.showable]; omega, by simp [PyData.hasDict], by have := h.shown; simp [PyData.leavesShort, this]⟩
theorem Few.wt {z : Int} (h : Few z) : (PyData.int z).weight ≤ 103 := by
  have := h.bits
  simp only [PyData.weight]
  split <;> omega
theorem Shws.nil : Shws [] := ⟨rfl, rfl, rfl⟩
theorem Shws.cons {d : PyData} {ds : List PyData} (h : Shw d) (r : Shws ds) : Shws (d :: ds) :=
  ⟨by simp [PyData.showableAll, h.sh, r.sh], by simp [PyData.hasDictAll, h.nd, r.nd], by simp [PyData.leavesShortAll, h.lv, r.lv]⟩
theorem Shws.tup {ds : List PyData} (r : Shws ds) : Shw (.tuple ds) := ⟨by simp [PyData.showable, r.sh], by simp [PyData.hasDict, r.nd], by simp [PyData.leavesShort, r.lv]⟩
theorem Shws.lst {ds : List PyData} (r : Shws ds) : Shw (.list ds) := ⟨by simp [PyData.showable, r.sh], by simp [PyData.hasDict, r.nd], by simp [PyData.leavesShort, r.lv]⟩
theorem shws_ints : ∀ L : List Int, (∀ z ∈ L, Few z) → Shws (L.map PyData.int) ∧ PyData.depthAll (L.map PyData.int) ≤ 1 ∧ PyData.weightAll (L.map PyData.int) ≤ 104 * L.length
  | [], _ => ⟨.nil, by simp [PyData.depthAll], by simp [PyData.weightAll]⟩
  | z :: r, h => by
    obtain ⟨h1, h2, h3⟩ := shws_ints r fun y hy => h y (List.mem_cons_of_mem _ hy)
    have hz := h z List.mem_cons_self
    have hw := hz.wt
    refine ⟨.cons hz.shw h1, ?_, ?_⟩
    · rw [List.map_cons]; simp only [PyData.depthAll, PyData.depth]; omega
    · rw [List.map_cons]; simp only [PyData.weightAll, List.length_cons]; omega
theorem repr_pair {L : List Int} {u : Int} (hL : ∀ z ∈ L, Few z) (hu : Few u) (hl : L.length ≤ 100) :
    (PyData.tuple [.tuple (L.map PyData.int), .int u]).showable = true ∧ (PyData.tuple [.tuple (L.map PyData.int), .int u]).hasDict = false ∧ (PyData.tuple [.tuple (L.map PyData.int), .int u]).depth ≤ 60 ∧ (PyData.shown (.tuple [.tuple (L.map PyData.int), .int u])).length ≤ sizeLine := by
  obtain ⟨g1, g2, g3⟩ := shws_ints L hL
  have s : Shw (.tuple [.tuple (L.map PyData.int), .int u]) := (Shws.cons g1.tup (.cons hu.shw .nil)).tup
  have hw := hu.wt
  have hd := PyData.shown_le 40 (by decide) _ s.lv
  refine ⟨s.sh, s.nd, ?_, ?_⟩
  · simp only [PyData.depth, PyData.depthAll]; omega
  · refine Nat.le_trans hd (Nat.le_trans (show _ ≤ 2000000 by simp only [PyData.weight, PyData.weightAll] at hw ⊢; omega) (by decide))
theorem ints_map (n : Nat) (p : Nat → Nat) : (intsOf n p).map V.int = tupOf n p := by unfold intsOf tupOf; rw [List.map_map]; rfl
theorem log_b {z : Int} (h : z.natAbs ≤ 2000000000) : z.natAbs.log2 < 1920 := by
  by_cases h0 : z.natAbs = 0
  · rw [h0]; decide
  · exact (Nat.log2_lt h0).mpr (Nat.lt_of_le_of_lt h (by decide +kernel))
theorem ndI_fnds : ∀ zs : List Int, ndI (zs.map Stp.fnd) = zs
  | [] => by rw [List.map_nil, ndI]
  | z :: r => by rw [List.map_cons, ndI, ndI1, ndI_fnds r]; rfl
theorem hst_f {H : Hp} {a : Addr} {zs : List Int} (h : H a = some (.lst (zs.map V.int))) (hl : zs.length ≤ 60) : Hst H a (some (zs.map Stp.fnd)) := by
  have key : ∀ zs : List Int, StsAt H (zs.map V.int) (zs.map Stp.fnd) ∧ Wfs true (zs.map Stp.fnd) ∧ nests (zs.map Stp.fnd) = 0 ∧ nWrs (zs.map Stp.fnd) = zs.length := fun zs => by
    induction zs with
    | nil => exact ⟨.nil, by rw [List.map_nil, Wfs]; trivial, by rw [List.map_nil, nests], by rw [List.map_nil, nWrs]; rfl⟩
    | cons z r ih =>
      obtain ⟨a, b, c, d⟩ := ih
      refine ⟨.cons (.fnd z) a, ?_, ?_, ?_⟩
      · rw [List.map_cons, Wfs, Wf]; exact ⟨trivial, b⟩
      · rw [List.map_cons, nests, nest, c]; rfl
      · rw [List.map_cons, nWrs, nWr, d, List.length_cons]; omega
  obtain ⟨a, b, c, d⟩ := key zs
  exact .ok (kd := true) h a b (by rw [c]; omega) (by rw [d]; exact hl)
theorem eff_no {CN CB a b : Addr} {n : Nat} {s1 s2 : List Stp} {H : Hp} {Q : VK} {E : XK} {x0 : Int} (hn : n ≤ 45) (h1 : Hst H a (some s1)) (h2 : Hst H b (some s2)) (hx : ∀ x, WrN n s1 s2 x → x = x0) (hno : ¬ (OkN n s1 ∧ OkN n s2)) (hb : x0.natAbs.log2 < 1920)
    (fl : Flies H E CN "node" "NoNode" (.int x0)) : spEff CN CB [.ref a, .ref b, vi n] H Q E := by
  refine ⟨a, b, n, some s1, some s2, rfl, hn, h1, h2, fun z => ?_, fun t1 t2 e1 e2 => ?_⟩
  · rcases z with z | z <;> cases z
  · cases e1
    cases e2
    refine ⟨fun x z => ?_, fun o1 o2 => absurd ⟨o1, o2⟩ hno, fun o1 o2 => absurd ⟨o1, o2⟩ hno⟩
    rw [hx x z]
    exact ⟨hb, fun H' s => fl.same s⟩
theorem eff_bs {CN CB a b : Addr} {n : Nat} {o1 o2 : Option (List Stp)} {H : Hp} {Q : VK} {E : XK} (hn : n ≤ 45) (h1 : Hst H a o1) (h2 : Hst H b o2) (h : o1 = none ∨ o2 = none) (fl : Flies H E CB "pos" "BadStep" (.int 0)) : spEff CN CB [.ref a, .ref b, vi n] H Q E := by
  refine ⟨a, b, n, o1, o2, rfl, hn, h1, h2, fun _ H' s => fl.same s, fun t1 t2 e1 e2 => ?_⟩
  rcases h with h | h
  · rw [e1] at h; cases h
  · rw [e2] at h; cases h
theorem wr_one {n : Nat} {z y : Int} (hz : z < 0 ∨ (n : Int) ≤ z) : (∀ x, WrN n [.fnd z] [.fnd y] x → x = z) ∧ ¬ (OkN n [.fnd z] ∧ OkN n [.fnd y]) := by
  have e1 : ndI [.fnd z] = [z] := ndI_fnds [z]
  have hb : ¬ OkN n [.fnd z] := fun h => by
    have := h z (by rw [e1]; exact List.mem_singleton.mpr rfl)
    omega
  refine ⟨fun x hx => ?_, fun h => hb h.1⟩
  rcases hx with ⟨h1, _⟩ | ⟨h1, _⟩
  · rw [e1] at h1; exact List.mem_singleton.mp h1
  · exact absurd h1 hb
theorem wr_two {n : Nat} {z y : Int} {ss : List Stp} (ok : OkN n ss) (hz : z < 0 ∨ (n : Int) ≤ z) (hy : z < y) : (∀ x, WrN n ss [.fnd z, .fnd y] x → x = z) ∧ ¬ (OkN n ss ∧ OkN n [.fnd z, .fnd y]) := by
  have e1 : ndI [.fnd z, .fnd y] = [z, y] := ndI_fnds [z, y]
  have zm : z ∈ ndI [.fnd z, .fnd y] := by rw [e1]; exact List.mem_cons_self
  refine ⟨fun x hx => ?_, fun h => ?_⟩
  · rcases hx with ⟨h1, h2, _⟩ | ⟨_, h1, h2, h3⟩
    · exact absurd (ok x h1) h2
    · have := h3 z zm (by omega)
      rw [e1] at h1
      rcases List.mem_cons.mp h1 with h | h
      · exact h
      · have := List.mem_singleton.mp h
        omega
  · have := h.2 z zm
    omega
end Ff

namespace Ff
open PySem PySem.Spec PyProof.Rows L2 ExX LamX
/-! errors of lambdas made in a comprehension -/
structure RdK (K : PySem.W.Frag) (CF CM C : Addr) (fld : Str) : Prop where
  hex : PySem.W.exmAny K (.ref C) [.ref CF, .ref CM] = some true
  xf : XfC K C
  nt : PySem.W.findIn K (.ref C) "tag" = some none
  nf : PySem.W.findIn K (.ref C) fld = some none
theorem TabS.keepB {H H' : Hp} {P : Addr} {q : Str} (t : TabS H P q) (k : ∀ b o, H b = some o → (∀ xs, o ≠ .lst xs) → (∀ C dx fs, o ≠ .ins C dx fs) → H' b = some o) : TabS H' P q := by
  obtain ⟨ps, h1, h2, h3⟩ := t
  refine ⟨ps, k _ _ h1 (by intro xs z; cases z) (by intro C dx fs z; cases z), h2, fun pos cv hc => ?_⟩
  obtain ⟨c, e1, e2⟩ := h3 pos cv hc
  exact ⟨c, e1, k _ _ e2 (by intro xs z; unfold CodeO at z; cases z) (by intro C dx fs z; unfold CodeO at z; cases z)⟩
theorem Tabs.keepB {T : List (Addr × Str)} {H H' : Hp} (t : Tabs T H) (k : ∀ b o, H b = some o → (∀ xs, o ≠ .lst xs) → (∀ C dx fs, o ≠ .ins C dx fs) → H' b = some o) : Tabs T H' := fun p hp => TabS.keepB (t p hp) k
section
variable {P : Program} {w : World} {K : PySem.W.Frag} {mg : Str → Option Value} {base : Heap}
/-- one error, a lambda of any make -/
theorem ask_flB {C CF CM : Addr} {tl : XK → Hp → VK → Prop} {H : Hp} {Q : VK} {fld tag : Str} {v : V} (R : RdK K CF CM C fld) (tg : TagOk tag fld)
    (hc : ∀ Ha E, Same H Ha → Flies Ha E C fld tag v → tl E Ha fun _ _ => False) (q : ∀ t H2, H t = none → Same H H2 → H2 t = some (.tup [.str tag, v]) → Q (.ref t) H2) : TTerr K CF CM tl H Q := by
  intro Ha sa
  refine ⟨fun cls d H1 => cls = .ref C ∧ ∃ dd, d = some dd ∧ H1 dd = some (.xd [(fld, v), ("tag", .str tag)]) ∧ Same Ha H1, fun _ _ => False, hc Ha _ sa fun dd H1 n1 h1 s1 => ⟨rfl, dd, rfl, h1, s1⟩, ?_, fun _ _ h => h.elim⟩
  rintro cls d H1 ⟨rfl, dd, rfl, hdd, s1⟩
  exact ⟨R.hex, tag, fld, v, ⟨C, dd, rfl, R.xf, R.nt, R.nf, rfl, hdd⟩, tg, fun t H2 n s2 e => q t H2 (sm_none (sa.trans s1) n) ((sa.trans s1).trans s2) e⟩
/-- the errors of lambdas made in the block, one for each item of a list -/
theorem asksB_fl {j : Nat} (σ : L2.St) {H : Hp} {CF CM la D : Addr} {TT : List (Addr × Str)} {tb : XK → TE} (xs : List V) (es : List (Str × V)) {Qd : Hp → Prop} (hl : H la = some (.lst xs)) (nD : H D = none) (hj : j < σ.length) (hm : xs.length ≤ 1000) (he : es.length = xs.length) (hT : Tabs TT H)
    (hf : ∀ (i : Nat) (x : V) (e : Str × V), xs[i]? = some x → es[i]? = some e → ∃ (C : Addr) (fld : Str), RdK K CF CM C fld ∧ TagOk e.1 fld ∧ ∀ Ha E, ExtN H Ha → Tabs TT Ha → Flies Ha E C fld e.1 e.2 → tb E ((wipe σ [j]).set j (some x)) Ha fun _ _ => False)
    (q : ∀ (ts : List Addr) H1, ts.length = es.length → H1 D = some (.lst (ts.map V.ref)) → (∀ (i : Nat) (t : Addr) (e : Str × V), ts[i]? = some t → es[i]? = some e → H1 t = some (.tup [.str e.1, e.2])) → ExtN H H1 → Tabs TT H1 → Qd H1) :
    ∃ W : Nat → Nat → Hp → Prop, (∃ m, W 0 m (upd H D (.lst []))) ∧ ∀ i m H, W i m H →
      ((Itl K la).stop i H ∧ Qd H) ∨ ((Itl K la).go i H ∧ ∃ Nx : Hp → Prop, (∀ H', Nx H' → ∃ m', m' < m ∧ W (i + 1) m' H') ∧ ∀ x H', (Itl K la).yld i H x H' → gName j x (wipe σ [j]) H' fun σ2 H2 => wipe σ2 [j] = wipe σ [j] ∧ tYes σ2 H2 fun b H3 =>
        if b = true then (Tabs TT H3 ∧ ∀ (f : Addr) (H1 : Hp), ExtN H3 H1 → Tabs TT H1 → ∀ At : Hp → Prop, At H1 → (∀ Ha Hb, At Ha → (∀ b o, Ha b = some o → Hb b = some o) → At Hb) → TTerr K CF CM (fun E HZ Q' => At HZ ∧ tb E σ2 HZ Q') H1 fun y H4 => ∃ acc, H4 D = some (.lst acc) ∧ acc.length < sizeLine ∧ Nx (upd H4 D (.lst (acc ++ [y])))) else Nx H3) := by
  have nt : ∀ {xs : List V} (ps), (HO.lst xs) ≠ .tbl ps := fun _ z => by cases z
  refine lc_list (K := K) (a := la) (xs := xs) (g := gName j) (tt := tYes) (te := fun σ2 H3 Q => Tabs TT H3 ∧ ∀ (f : Addr) (H1 : Hp), ExtN H3 H1 → Tabs TT H1 → ∀ At : Hp → Prop, At H1 → (∀ Ha Hb, At Ha → (∀ b o, Ha b = some o → Hb b = some o) → At Hb) → TTerr K CF CM (fun E HZ Q' => At HZ ∧ tb E σ2 HZ Q') H1 Q) (vs := [j]) (σ := σ) (Qd := Qd) (fun i H1 => ∃ ts : List Addr, ts.length = i ∧ H1 D = some (.lst (ts.map V.ref)) ∧ (∀ (i : Nat) (t : Addr) (e : Str × V), ts[i]? = some t → es[i]? = some e → H1 t = some (.tup [.str e.1, e.2])) ∧ ExtN H H1 ∧ Tabs TT H1)
    ⟨[], rfl, upd_same, by simp, same_ext (same_new nD), hT.ext (same_new nD)⟩ (fun i H1 _ h => h.elim fun ts h => SqL.of (h.2.2.2.1 _ _ hl nt)) ?_ ?_
  · rintro k y H1 hy ⟨ts, hlen, hD, hts, s1, hT1⟩
    have hk : k < xs.length := (List.getElem?_eq_some_iff.mp hy).1
    have hee : es[k]? = some es[k] := List.getElem?_eq_getElem (by omega)
    generalize es[k] = e at hee
    obtain ⟨C, fld, R, tg, hc⟩ := hf k y e hy hee
    refine ⟨wipe_one, hT1, fun f H2 e12 hT2 At hA hAs => ?_⟩
    refine ask_flB R tg (fun Ha E sa fl => ⟨hAs _ _ hA sa, hc Ha E (fun b o h n => sa _ _ (e12 b o (s1 b o h n) n)) (hT2.ext sa) fl⟩) fun t H3 nt3 s3 et => ?_
    have hD3 := s3 _ _ (e12 _ _ hD nt)
    have nDt : t ≠ D := fun z => by rw [z, e12 _ _ hD nt] at nt3; cases nt3
    have s13 : ExtN H1 H3 := fun b o h n => s3 _ _ (e12 b o h n)
    have old : ∀ {b : Addr} {o : HO}, H1 b = some o → (∀ ps, o ≠ .tbl ps) → b ≠ D → upd H3 D (.lst ((ts ++ [t]).map V.ref)) b = some o := fun h n nb => by rw [upd_ne nb]; exact s13 _ _ h n
    refine ⟨_, hD3, by rw [List.length_map, hlen]; exact Nat.lt_of_le_of_lt (show k ≤ 1000 by omega) (by decide), ts ++ [t], by rw [List.length_append, hlen]; rfl, by rw [upd_same, List.map_append]; rfl, fun i t2 e2 h2 h3 => ?_, fun b o h n => ?_, ?_⟩
    · by_cases hi : i < ts.length
      · rw [List.getElem?_append_left hi] at h2
        have e2 := hts i t2 e2 h2 h3
        rw [upd_ne (ne_of e2 hD (by intro z; cases z))]
        exact s13 _ _ e2 (fun _ z => by cases z)
      · rw [List.getElem?_append_right (by omega)] at h2
        have hi2 : i = k := by
          have := (List.getElem?_eq_some_iff.mp h2).1
          rw [List.length_singleton] at this
          omega
        subst hi2
        rw [show i - ts.length = 0 by omega, List.getElem?_cons_zero] at h2
        rw [hee] at h3
        cases h2
        cases h3
        rw [upd_ne nDt]
        exact et
    · have nb : b ≠ D := ne_of_none h nD
      rw [upd_ne nb]
      exact s13 _ _ (s1 b o h n) n
    · exact Tabs.keepB (hT2.ext s3) fun b o h n _ => by rw [upd_ne fun z => by rw [z, hD3] at h; cases h; exact n _ rfl]; exact h
  · rintro H1 ⟨ts, hlen, hD, hts, s1, hT1⟩
    exact q ts H1 (by omega) hD hts s1 hT1
end
end Ff

namespace Ff
open PySem PySem.Spec PyProof.Rows L2 ExX LamX
abbrev sLaw : Stmt := topS 52
abbrev lawN : List Str := ["_law_script", "_law_draw", "_law_turn", "_law_size_in", "_law_one_z", "_law_at", "_law_fresh", "_law_other_z", "_law_told", "_law_some", "_law_row", "_law_forest_here", "_law_node", "_law_odd", "_law_asks", "_law_ask"]
theorem scLaw : FnScope lawN ["_law_script"] (defScope sLaw) := ⟨rfl, rfl, rfl, by decide +kernel, rfl, by decide +kernel, by decide +kernel⟩
abbrev lamQ : Str := (envOfC "law" (defScope sLaw) 0 0 .none).qual ++ "<lambda>"
def sw3 {α : Type} : List α → List α → List α
  | [], [c, b, a] => [a, b, c]
  | _, _ => []
theorem sw3_rel {vs : List V} {us : List Value} {zs : List V} {ws : List Value} (r : Vals vs us) (s : Vals zs ws) : Vals (sw3 vs zs) (sw3 us ws) := by
  cases r with
  | cons _ _ => exact .nil
  | nil =>
    cases s with
    | nil => exact .nil
    | cons h1 t1 =>
      cases t1 with
      | nil => exact .nil
      | cons h2 t2 =>
        cases t2 with
        | nil => exact .nil
        | cons h3 t3 =>
          cases t3 with
          | nil => exact .cons h3 (.cons h2 (.cons h1 .nil))
          | cons _ _ => exact .nil
theorem fun_sw3 {K : PySem.W.Frag} {x qual : Str} {st : Stmt} {f : Addr} {fd : FuncData} {a b c : Str} (F : Fun K x qual st f fd)
    (h : ∀ (kV doc pm : Value) (an : Option Addr) (cdv ct : Value) (u v w : Value), bindArgs (PySem.W.fnOf x qual (defArgs st) (defBody st) (defScope st) .none kV doc pm an cdv ct) ⟨[], [(c, w), (b, v), (a, u)]⟩ = pure [(a, u), (b, v), (c, w)]) : KBinds K fd [a, b, c] [c, b, a] sw3 sw3 := by
  obtain ⟨oc, od, kV, doc, pm, an, cdv, ct, osl, rfl, lk, hcd⟩ := F.ex
  refine ⟨fun s us ws _ hl => ?_, sw3_rel⟩
  match us, ws, hl with
  | [], [w, v, u], _ => exact .of_eq (h kV doc pm an cdv ct u v w)

section
variable {K : PySem.W.Frag}
theorem ask_fl {X : Cx} {kk : Nat} {D : Lam X kk} {f C CF CM : Addr} {σ : L2.St} {H : Hp} {Q : VK} {fld tag : Str} {v : V} (R : RdK K CF CM C fld) (tg : TagOk tag fld) (hA : D.At f H)
    (hc : ∀ Ha E, Same H Ha → Flies Ha E C fld tag v → D.tb E σ Ha fun _ _ => False) (q : ∀ t H2, H t = none → Same H H2 → H2 t = some (.tup [.str tag, v]) → Q (.ref t) H2) : TTerr K CF CM (D.does f σ) H Q := by
  intro Ha sa
  refine ⟨fun cls d H1 => cls = .ref C ∧ ∃ dd, d = some dd ∧ H1 dd = some (.xd [(fld, v), ("tag", .str tag)]) ∧ Same Ha H1, fun _ _ => False, ⟨D.same hA (same_ext sa), hc Ha _ sa fun dd H1 n1 h1 s1 => ⟨rfl, dd, rfl, h1, s1⟩⟩, ?_, fun _ _ h => h.elim⟩
  rintro cls d H1 ⟨rfl, dd, rfl, hdd, s1⟩
  exact ⟨R.hex, tag, fld, v, ⟨C, dd, rfl, R.xf, R.nt, R.nf, rfl, hdd⟩, tg, fun t H2 n s2 e => q t H2 (sm_none (sa.trans s1) n) ((sa.trans s1).trans s2) e⟩
theorem asks_fl {X : Cx} {kk j : Nat} (σ : L2.St) {H : Hp} {CF CM la D : Addr} (fs : List Addr) (es : List (Str × V)) {Qd : Hp → Prop} (hl : H la = some (.lst (fs.map V.ref))) (nD : H D = none) (hj : j < σ.length) (hm : fs.length ≤ 1000) (he : es.length = fs.length)
    (hf : ∀ (i : Nat) (f : Addr) (e : Str × V), fs[i]? = some f → es[i]? = some e → ∃ (L : Lam X kk) (C : Addr) (fld : Str), L.At f H ∧ RdK K CF CM C fld ∧ TagOk e.1 fld ∧ ∀ Ha E, Same H Ha → Flies Ha E C fld e.1 e.2 → L.tb E σ Ha fun _ _ => False)
    (q : ∀ (ts : List Addr) H1, ts.length = es.length → H1 D = some (.lst (ts.map V.ref)) → (∀ (i : Nat) (t : Addr) (e : Str × V), ts[i]? = some t → es[i]? = some e → H1 t = some (.tup [.str e.1, e.2])) → Same H H1 → Qd H1) :
    ∃ W : Nat → Nat → Hp → Prop, (∃ m, W 0 m (upd H D (.lst []))) ∧ ∀ i m H, W i m H →
      ((Itl K la).stop i H ∧ Qd H) ∨ ((Itl K la).go i H ∧ ∃ Nx : Hp → Prop, (∀ H', Nx H' → ∃ m', m' < m ∧ W (i + 1) m' H') ∧ ∀ x H', (Itl K la).yld i H x H' → gName j x (wipe σ [j]) H' fun σ2 H2 => wipe σ2 [j] = wipe σ [j] ∧ tYes σ2 H2 fun b H3 =>
        if b = true then (∃ (f : Addr) (L : Lam X kk), σ2[j]? = some (some (.ref f)) ∧ TTerr K CF CM (L.does f σ) H3 fun y H4 => ∃ acc, H4 D = some (.lst acc) ∧ acc.length < sizeLine ∧ Nx (upd H4 D (.lst (acc ++ [y])))) else Nx H3) := by
  refine lc_list (K := K) (a := la) (xs := fs.map V.ref) (g := gName j) (tt := tYes) (te := fun σ1 H1 Q => ∃ (f : Addr) (D : Lam X kk), σ1[j]? = some (some (.ref f)) ∧ TTerr K CF CM (D.does f σ) H1 Q) (vs := [j]) (σ := σ) (Qd := Qd) (fun i H1 => ∃ ts : List Addr, ts.length = i ∧ H1 D = some (.lst (ts.map V.ref)) ∧ (∀ (i : Nat) (t : Addr) (e : Str × V), ts[i]? = some t → es[i]? = some e → H1 t = some (.tup [.str e.1, e.2])) ∧ Same H H1)
    ⟨[], rfl, upd_same, by simp, same_new nD⟩ (fun i H1 _ h => h.elim fun ts h => SqL.of (h.2.2.2 _ _ hl)) ?_ ?_
  · rintro k y H1 hy ⟨ts, hlen, hD, hts, s1⟩
    rw [List.getElem?_map] at hy
    obtain ⟨f, hff, rfl⟩ := Option.map_eq_some_iff.mp hy
    have hk : k < fs.length := (List.getElem?_eq_some_iff.mp hff).1
    have hee : es[k]? = some es[k] := List.getElem?_eq_getElem (by omega)
    generalize es[k] = e at hee
    obtain ⟨L, C, fld, hA, R, tg, hc⟩ := hf k f e hff hee
    refine ⟨wipe_one, f, L, List.getElem?_set_self (by rw [wipe_length]; exact hj), ?_⟩
    refine ask_fl R tg (L.same hA (same_ext s1)) (fun Ha E sa fl => hc Ha E (s1.trans sa) fl) fun t H2 nt s2 et => ?_
    have nDt : t ≠ D := (ne_of_none hD nt).symm
    refine ⟨_, s2 _ _ hD, by rw [List.length_map, hlen]; exact Nat.lt_of_le_of_lt (show k ≤ 1000 by omega) (by decide), ts ++ [t], by rw [List.length_append, hlen]; rfl, by rw [upd_same, List.map_append]; rfl, fun i t2 e2 h2 h3 => ?_, same_over (s1.trans s2) nD⟩
    by_cases hi : i < ts.length
    · rw [List.getElem?_append_left hi] at h2
      have e2 := hts i t2 e2 h2 h3
      rw [upd_ne (ne_of e2 hD (by intro z; cases z))]
      exact s2 _ _ e2
    · rw [List.getElem?_append_right (by omega)] at h2
      have hi2 : i = k := by
        have := (List.getElem?_eq_some_iff.mp h2).1
        rw [List.length_singleton] at this
        omega
      subst hi2
      rw [show i - ts.length = 0 by omega, List.getElem?_cons_zero] at h2
      rw [hee] at h3
      cases h2
      cases h3
      rw [upd_ne nDt]
      exact et
  · rintro H1 ⟨ts, hlen, hD, hts, s1⟩
    rw [List.length_map] at hlen
    exact q ts H1 (by omega) hD hts s1

end
mutual
theorem inn_ofR {n : Nat} : ∀ s : Stp, InR n s → Inn n s
  | .fnd z, h => by rw [InR] at h; rw [Inn]; exact h
  | .lnk _ _, _ => by rw [Inn]; trivial
  | .rnd _ _ ss, h => by rw [InR] at h; rw [Inn]; exact inns_ofR2 ss h
theorem inns_ofR2 {n : Nat} : ∀ ss : List Stp, InRs n ss → Inns n ss
  | [], _ => by rw [Inns]; trivial
  | s :: r, h => by rw [InRs] at h; rw [Inns]; exact ⟨inn_ofR s h.1, inns_ofR2 r h.2⟩
end
/-- a drawn history without links -/
structure Hd (n k : Nat) (ss : List Stp) : Prop where
  len : ss.length ≤ k
  el : ∀ s ∈ ss, Wf false s ∧ nest s ≤ 1 ∧ nWr s ≤ 4 ∧ Inn n s
theorem Hd.nil {n k : Nat} : Hd n k [] := ⟨Nat.zero_le _, fun s h => nomatch h⟩
theorem Hd.app {n k m : Nat} {a b : List Stp} (x : Hd n k a) (y : Hd n m b) : Hd n (k + m) (a ++ b) := ⟨by rw [List.length_append]; have := x.len; have := y.len; omega, fun s h => (List.mem_append.mp h).elim (x.el s) (y.el s)⟩
theorem Hd.sub {n k : Nat} {a b : List Stp} (x : Hd n k a) (h : b.Sublist a) : Hd n k b := ⟨Nat.le_trans h.length_le x.len, fun s hs => x.el s (h.subset hs)⟩
theorem Hd.rev {n k : Nat} {a : List Stp} (x : Hd n k a) : Hd n k a.reverse := ⟨by rw [List.length_reverse]; exact x.len, fun s hs => x.el s (List.mem_reverse.mp hs)⟩
theorem Hd.up {n k m : Nat} {a : List Stp} (x : Hd n k a) (h : k ≤ m) : Hd n m a := ⟨Nat.le_trans x.len h, x.el⟩
theorem Hd.wf {n k : Nat} {a : List Stp} (x : Hd n k a) : Wfs false a := wfs_of fun s hs => (x.el s hs).1
theorem Hd.ne {n k : Nat} {a : List Stp} (x : Hd n k a) : nests a ≤ 1 := nests_le fun s hs => (x.el s hs).2.1
theorem Hd.wr {n k : Nat} {a : List Stp} (x : Hd n k a) : nWrs a ≤ k * 4 := Nat.le_trans (nWrs_bound (m := 4) fun s hs => (x.el s hs).2.2.1) (Nat.mul_le_mul_right 4 x.len)
theorem Hd.inn {n k : Nat} {a : List Stp} (x : Hd n k a) : Inns n a := inns_of fun s hs => (x.el s hs).2.2.2
theorem wfs_up : ∀ {l : List Stp}, Wfs false l → Wfs true l
  | [], _ => by rw [Wfs]; trivial
  | s :: l, w => by
    rw [Wfs] at w ⊢
    refine ⟨?_, wfs_up w.2⟩
    cases s with
    | fnd z => rw [Wf]; trivial
    | lnk c a => rw [Wf]
    | rnd k kd ss => have := w.1; rw [Wf] at this ⊢; exact this
theorem hd_fS {n : Nat} {zs : List Nat} (h : ∀ z ∈ zs, z < n) : Hd n zs.length (fS zs) := by
  have e : fS zs = zs.map fun z : Nat => Stp.fnd (z : Int) := rfl
  refine ⟨by rw [e, List.length_map]; exact Nat.le_refl _, fun s hs => ?_⟩
  rw [e] at hs
  obtain ⟨z, hz, rfl⟩ := List.mem_map.mp hs
  rw [Wf, nest, nWr, Inn]
  have := h z hz
  exact ⟨trivial, by omega, by omega, by omega, by omega⟩
theorem StsAt.rev {H : Hp} : ∀ {xs : List V} {ss : List Stp}, StsAt H xs ss → StsAt H xs.reverse ss.reverse
  | _, _, .nil => .nil
  | _, _, .cons h r => by
    rw [List.reverse_cons, List.reverse_cons]
    exact (StsAt.rev r).app (.cons h .nil)
theorem Hd.hst {n k : Nat} {H : Hp} {a : Addr} {kd : Bool} {xs : List V} {ss : List Stp} (x : Hd n k ss) (hk : k ≤ 15) (h1 : H a = some (ob kd xs)) (h2 : StsAt H xs ss) : Hst H a (some ss) := .ok h1 h2 (wfs_up x.wf) (Nat.le_trans x.ne (by omega)) (Nat.le_trans x.wr (by omega))
theorem Hd.okN {n k : Nat} {ss : List Stp} (x : Hd n k ss) : OkN n ss := fun z hz => by
  rw [ndI_nat ss x.inn] at hz
  obtain ⟨v, hv, rfl⟩ := List.mem_map.mp hz
  have := nds_lt ss x.inn v hv
  omega
theorem cut_dr (xs : List V) (k : Nat) : cutV xs (some (k : Int)) none = xs.drop k := by
  show (xs.drop (HT.sIx xs.length 0 (some (k : Int)))).take (xs.length - HT.sIx xs.length 0 (some (k : Int))) = _
  rw [HT.sIx_nat]
  by_cases h : k ≤ xs.length
  · rw [Nat.min_eq_left h]
    exact List.take_of_length_le (by rw [List.length_drop]; omega)
  · rw [Nat.min_eq_right (by omega), List.drop_eq_nil_of_le (Nat.le_refl _), List.drop_eq_nil_of_le (by omega), List.take_nil]
section
variable {P : Program} {w : World} {K : PySem.W.Frag} {mg : Str → Option Value} {base : Heap}
theorem ok_law {f c PT CN CB CF CM fEr fX : Addr} {fdX : FuncData} {kV dc pm ct oc : Value} {an od : Option Addr} {sl : Array (Option Value)} (lk : K.lookup f = some ⟨oc, od, .func (PySem.W.fnOf "law" "law" (defArgs sLaw) (defBody sLaw) (defScope sLaw) .none kV dc pm an (.ref c) ct), sl⟩) (hcd : PySem.W.codeIn K (.ref c) "law" = true)
    (TB : TabB base mg c PT) (T : Tx mg) (TS : TxS mg) (z_repr : mg "repr" = none)
    (k1 : Kx P w K mg base 1 "_law_start" sStart ["_law_script"] (spStart K)) (k2 : Kx P w K mg base 5 "_law_rounds" sRounds ["_law_draw", "_law_size_in", "_law_most", "_law_deep"] (spRounds 1)) (k3 : Kx P w K mg base 1 "_law_take" sTake ["_law_draw", "_law_many"] spTake) (k4 : Kx P w K mg base 2 "_law_of" sOf ["_law_draw", "_law_some"] (spOf K))
    (k5 : Kx P w K mg base 4 "_law_forest" sFor ["_law_draw", "_law_size_in", "_law_many"] spFor) (k6 : Kx P w K mg base 1 "_law_tuples" sTup ["_law_size_in"] spTup) (k7 : Kx P w K mg base 3 "_law_strange" sStrange ["_law_draw", "_law_size_in"] spStrange) (k8 : Kx P w K mg base 7 "_law_result" sRes ["_law_forest_here", "_law_steps"] (spRes K))
    (k9 : Kx P w K mg base 10 "found_nodes" sFNd ["history"] (spFNd 4)) (k10 : Kx P w K mg base 5 "is_forest" sIsFor ["parents"] (spIsFor K)) (kE : Kx P w K mg base 11 "effect_difference" sEff ["one", "other", "size"] (noE (spEff CN CB)))
    (GE : FnL P w K mg base 4 fEr (TTerr K CF CM)) (kEr : PySem.W.keepIn K (.ref fEr) = true) (gEr : mg "_law_error" = some (.ref fEr))
    (xE : KnX P w K mg base 11 "effect_difference" ["one", "other", "size"] (spEff CN CB) fX fdX) (RN : RdK K CF CM CN "node") (RB : RdK K CF CM CB "pos") :
    RpG.FnG P w K mg base CX0 18 f (PySem.W.fnOf "law" "law" (defArgs sLaw) (defBody sLaw) (defScope sLaw) .none kV dc pm an (.ref c) ct) ["_law_script"] (spLawT K PT) := by
  obtain ⟨_, _, k1⟩ := k1
  obtain ⟨_, _, k2⟩ := k2
  obtain ⟨_, _, k3⟩ := k3
  obtain ⟨_, _, k4⟩ := k4
  obtain ⟨_, _, k5⟩ := k5
  obtain ⟨_, _, k6⟩ := k6
  obtain ⟨_, _, k7⟩ := k7
  obtain ⟨_, _, k8⟩ := k8
  obtain ⟨_, _, k9⟩ := k9
  obtain ⟨_, _, k10⟩ := k10
  obtain ⟨_, _, kE⟩ := kE
  refine RpH.okGL (k := 17) lk hcd scLaw (fun vs H Q E h => ?_) fun A outer s H vs Q E hgd hr h => ?_
  · obtain ⟨a, ns, rfl, _⟩ := h
    rfl
  · obtain ⟨a, ns, rfl, hP, hS, hlen, qfin⟩ := h
    have hrm : ∀ {j : Nat}, j ≤ 17 → Room j (A.deeper (envOfC "law" (defScope sLaw) s.heap.objs.size f (.ref c))) := fun h => hr.mono h
    have hrU := hr.units
    refine ⟨_, (pss_cons (ps_set (i := 1) scLaw.nd rfl (.inl rfl) (pe_call k1.G (hrm (by decide)) (by rfl) k1.g k1.F.kp k1.b .nil pass0 (pa_cons (pv 0) pa_nil)))
      (pss_cons (ps_for PassesOwn.never rfl (pi_range1 (by rfl) T.range (pa_cons pe_int pa_nil)) (pg_name (i := 2) scLaw.nd rfl (.inl rfl))
        (pss_cons (ps_set (i := 3) scLaw.nd rfl (.inr rfl) (pe_call k4.G (hrm (by decide)) (by rfl) k4.g k4.F.kp k4.b .nil pass0 (pa_cons (pv 1) (pa_cons (pe_lst (pa_cons (pe_call k3.G (hrm (by decide)) (by rfl) k3.g k3.F.kp k3.b .nil pass0 (pa_cons (pv 1) (pa_cons pe_int pa_nil))) (pa_cons pe_int (pa_cons (pe_op op_add pe_int (pe_call k3.G (hrm (by decide)) (by rfl) k3.g k3.F.kp k3.b .nil pass0 (pa_cons (pv 1) (pa_cons pe_int pa_nil)))) pa_nil)))) pa_nil))))
        (C8.pss_cut (ps_set (i := 4) scLaw.nd rfl (.inr rfl) (pe_ifExp (pt_cmpR op_gt (pv 3) pe_int (nomark _)) (pe_call k2.G (hrm (by decide)) (by rfl) k2.g k2.F.kp k2.b .nil pass0 (pa_cons (pv 1) (pa_cons (pv 3) (pa_cons pe_int (pa_cons pe_int pa_nil))))) (pe_lst pa_nil)))
        (pss_cons (ps_set (i := 5) scLaw.nd rfl (.inl rfl) (pe_call k3.G (hrm (by decide)) (by rfl) k3.g k3.F.kp k3.b .nil pass0 (pa_cons (pv 1) (pa_cons (pe_op op_add (pe_callB call_len_seq (by rfl) T.len PySem.boot_len (pa_cons (pv 4) pa_nil)) pe_int) pa_nil))))
        (C8.pss_cut (ps_set (i := 6) scLaw.nd rfl (.inl rfl) (pe_ifExp (pt_cmpR op_gt (pv 3) pe_int (nomark _)) (pe_lst (pa_cons (pe_call k3.G (hrm (by decide)) (by rfl) k3.g k3.F.kp k3.b .nil pass0 (pa_cons (pv 1) (pa_cons (pv 3) pa_nil))) pa_nil)) (pe_lst pa_nil)))
        (pss_cons (ps_set (i := 7) scLaw.nd rfl (.inl rfl) (pe_call k4.G (hrm (by decide)) (by rfl) k4.g k4.F.kp k4.b .nil pass0 (pa_cons (pv 1) (pa_cons (pe_lst (pa_cons (pe_op op_cat (pe_slice sl_list (pv 4) po_none (po_some (pv 5))) (pe_slice sl_list (pv 4) (po_some (pe_op op_add (pv 5) pe_int)) po_none)) (pa_cons (pe_op op_cat (pv 4) (pv 6)) (pa_cons (pe_op op_cat (pe_revL (pv 4)) (pv 4)) (pa_cons (pe_op op_cat (pe_slice sl_list (pv 4) (po_some (pv 5)) po_none) (pv 6)) pa_nil))))) pa_nil))))
        (pss_cons (ps_set (i := 8) scLaw.nd rfl (.inl rfl) (pe_call kE.G (hrm (by decide)) (by rfl) kE.g kE.F.kp kE.b .nil pass0 (pa_cons (pv 4) (pa_cons (pv 7) (pa_cons (pv 3) pa_nil)))))
        (C8.pss_cut (ps_if (pt_cmpR op_isN (pv 8) pe_non (nomark _))
          (C8.pss_cut (ps_set (i := 9) scLaw.nd rfl (.inl rfl) (pe_ifExp (pt_cmpR op_gt (pv 3) pe_int (nomark _)) (pe_lst (pa_cons (pe_call k5.G (hrm (by decide)) (by rfl) k5.g k5.F.kp k5.b .nil pass0 (pa_cons (pv 1) (pa_cons (pv 3) (pa_cons pe_int pa_nil)))) pa_nil)) (pe_lc (own := [("_law_row", 10)]) (g := gName 10) (by rfl) scLaw.nd (pi_list (pe_call k6.G (hrm (by decide)) (by rfl) k6.g k6.F.kp k6.b .nil pass0 (pa_cons (pv 3) pa_nil))) (blkOk_by (own := [("_law_row", 10)]) (N := lawN) (sc := defScope sLaw) (by decide +kernel)) (fun _ _ _ _ _ => (pg_name (i := 10) scLaw.nd rfl (.inl rfl))) (fun _ _ _ _ _ => (pts_one (pt_val (pe_call k10.G (hrm (by decide)) (by rfl) k10.g k10.F.kp k10.b .nil pass0 (pa_cons (pv 10) pa_nil))))) (fun _ _ _ _ _ => (pv 10)))))
          (pss_cons (ps_for PassesOwn.never rfl (pi_list (pv 9)) (pg_name (i := 11) scLaw.nd rfl (.inl rfl))
            (pss_one (ps_if (pt_cmpR (op_neD hrU) (pe_call k8.G (hrm (by decide)) (by rfl) k8.g k8.F.kp k8.b .nil pass0 (pa_cons (pv 11) (pa_cons (pv 4) pa_nil))) (pe_call k8.G (hrm (by decide)) (by rfl) k8.g k8.F.kp k8.b .nil pass0 (pa_cons (pv 11) (pa_cons (pv 7) pa_nil))) (nomark _))
              (pss_one (ps_ret pe_bl)) pss_nil)))
          (pss_one (ps_if (PW.pt (pw_and (pt_cmpR op_gt (pv 3) pe_int (nomark _)) (pw_and1 (pt_cmpR (op_neD hrU) (pe_call k9.G (hrm (by decide)) (by rfl) k9.g k9.F.kp k9.b .nil pass0 (pa_cons (pv 4) pa_nil)) (pe_call k9.G (hrm (by decide)) (by rfl) k9.g k9.F.kp k9.b .nil pass0 (pa_cons (pv 7) pa_nil)) (nomark _)))))
            (pss_one (ps_ret pe_bl)) pss_nil)))) (pss_cons (ps_if (PW.pt (pw_or (pt_not (pt_val (pe_callB call_isi (by rfl) TS.isinstance (by decide +kernel) (pa_cons (pv 8) (pa_cons (pe_ty (n := "tuple") (by rfl) TS.tuple (by decide +kernel)) pa_nil))))) (pw_or (pt_cmpR op_ne (pe_callB call_len_seq (by rfl) T.len PySem.boot_len (pa_cons (pv 8) pa_nil)) pe_int (nomark _)) (pw_or (pt_cmpR op_ne (pe_callB call_len_seq (by rfl) T.len PySem.boot_len (pa_cons (pe_ix (show IxR _ (rIx K) from ix_seq) (pv 8) pe_int (fun _ _ => rfl)) pa_nil)) (pv 3) (nomark _)) (pw_or1 (pt_not (pt_val (pe_call k10.G (hrm (by decide)) (by rfl) k10.g k10.F.kp k10.b .nil pass0 (pa_cons (pe_ix (show IxR _ (rIx K) from ix_seq) (pv 8) pe_int (fun _ _ => rfl)) pa_nil)))))))))
            (pss_one (ps_ret pe_bl)) pss_nil)
          (pss_cons (ps_asg (pv 8) (pg_tup rfl (pgs_cons (pg_name (i := 11) scLaw.nd rfl (.inl rfl)) (pgs_cons (pg_name (i := 12) scLaw.nd rfl (.inl rfl)) pgs_nil))))
          (pss_cons (ps_if (pt_cmpR op_eq (pe_ix (show IxR _ (rIx K) from ix_seq) (pe_call k8.G (hrm (by decide)) (by rfl) k8.g k8.F.kp k8.b .nil pass0 (pa_cons (pv 11) (pa_cons (pv 4) pa_nil))) (pv 12) (fun _ _ => rfl)) (pe_ix (show IxR _ (rIx K) from ix_seq) (pe_call k8.G (hrm (by decide)) (by rfl) k8.g k8.F.kp k8.b .nil pass0 (pa_cons (pv 11) (pa_cons (pv 7) pa_nil))) (pv 12) (fun _ _ => rfl)) (nomark _))
            (pss_one (ps_ret pe_bl)) pss_nil)
          (pss_one (ps_if (pt_cmpR op_ne (pe_callB (RpG.cr_repr hgd hr.units) (by rfl) z_repr (by decide +kernel) (pa_cons (pe_kws kE.G (hrm (by decide)) (by rfl) kE.g kE.F.kp (fun_sw3 kE.F fun _ _ _ _ _ _ _ _ _ => rfl) pass0 (pk_cons (pv 3) (pk_cons (pe_callTy call_tuple_of (by rfl) T.tuple (by decide +kernel) (pa_cons (pv 7) pa_nil)) (pk_cons (pe_callTy call_tuple_of (by rfl) T.tuple (by decide +kernel) (pa_cons (pv 4) pa_nil)) pk_nil)))) pa_nil)) (pe_callB (RpG.cr_repr hgd hr.units) (by rfl) z_repr (by decide +kernel) (pa_cons (pv 8) pa_nil)) (nomark _))
            (pss_one (ps_ret pe_bl)) pss_nil))))))
        (pss_cons (ps_set (i := 13) scLaw.nd rfl (.inr rfl) (pe_call k7.G (hrm (by decide)) (by rfl) k7.g k7.F.kp k7.b .nil pass0 (pa_cons (pv 1) (pa_cons (pv 3) pa_nil))))
        (pss_cons (ps_set (i := 14) scLaw.nd rfl (.inl rfl) (pe_lst (pa_cons (pe_lam (Z := (cxOf CX0 P w K mg base lawN "law" (defScope sLaw) f (.ref c) A outer s H E).nox) (kk := 12) (T := [(PT, lamQ)]) (D := (⟨_, _, _, fun E => tCall (spEff CN CB) [] E (tCons (tLst (tCons (tVar 13) tNil)) (tCons (tLst (tCons (tOp (rI0 fun i j => V.int (i + j)) (tVar 3) (tOp (rI CPow fun i j => V.int (i ^ j.toNat)) (tC (.int 10)) (tC (.int 10)))) tNil)) (tCons (tVar 3) tNil))), lamS_by (sc := defScope sLaw) (by decide +kernel), fun _ _ _ _ _ => rfl, fun f2 c2 E2 A2 outer2 s2 H2 hr2 => pe_call (X := lamC ((cxOf CX0 P w K mg base lawN "law" (defScope sLaw) f (.ref c) A outer s H E).nox) A2 outer2 s2 H2 E2 _ f2 c2) xE.G (Room.mono hr2 (by decide)) (by rfl) xE.g xE.kp xE.b .nil (lookN (L2N.takes_of rfl rfl rfl rfl) fun _ _ _ _ z => z) (pa_cons (pe_lst (pa_cons (pv 13) pa_nil)) (pa_cons (pe_lst (pa_cons (pe_op op_add (pv 3) (pe_op op_pow pe_int pe_int)) pa_nil)) (pa_cons (pv 3) pa_nil)))⟩ : LamD ((cxOf CX0 P w K mg base lawN "law" (defScope sLaw) f (.ref c) A outer s H E).nox) 12)) TB rfl (List.mem_singleton.mpr rfl) (fun q hq _ => by rw [List.mem_singleton.mp hq]; rfl) rfl) (pa_cons (pe_lamP (Z := (cxOf CX0 P w K mg base lawN "law" (defScope sLaw) f (.ref c) A outer s H E).nox) (kk := 12) (T := [(PT, lamQ)]) (D := (⟨_, _, _, "_law_a", _, .int 0, fun E => tCall (spEff CN CB) [] E (tCons (tVar 4) (tCons (tLst (tCons (tVar 13) (tCons (tOp (rI0 fun i j => V.int (i + j)) (tVar 3) (tOp (rI CPow fun i j => V.int (i ^ j.toNat)) (tC (.int 10)) (tC (.int 10)))) tNil))) (tCons (tVar 3) tNil))), lamT_by (N := lawN) (sc := defScope sLaw) (by decide +kernel), rfl, rfl, pe_int, fun _ _ _ _ _ _ _ => ⟨_, rfl, fun _ => rfl⟩, fun f2 c2 E2 A2 outer2 s2 H2 hr2 => pe_call (X := lamC ((cxOf CX0 P w K mg base lawN "law" (defScope sLaw) f (.ref c) A outer s H E).nox) A2 outer2 s2 H2 E2 _ f2 c2) xE.G (Room.mono hr2 (by decide)) (by rfl) xE.g xE.kp xE.b .nil (lookN (L2N.takes_of rfl rfl rfl rfl) fun _ _ _ _ z => z) (pa_cons (pv 4) (pa_cons (pe_lst (pa_cons (pv 13) (pa_cons (pe_op op_add (pv 3) (pe_op op_pow pe_int pe_int)) pa_nil))) (pa_cons (pv 3) pa_nil)))⟩ : LamP ((cxOf CX0 P w K mg base lawN "law" (defScope sLaw) f (.ref c) A outer s H E).nox) 12)) TB rfl (List.mem_singleton.mpr rfl) (fun q hq _ => by rw [List.mem_singleton.mp hq]; rfl)) pa_nil))))
        (pss_one (ps_if (pt_cmpR (op_neD hrU) (pe_lcI (own := [("_law_ask", 15)]) (g := gName 15) (by rfl) scLaw.nd (pi_list (pv 14)) (blkOk_by (own := [("_law_ask", 15)]) (N := lawN) (sc := defScope sLaw) (by decide +kernel)) (fun _ _ _ _ _ => pg_name (i := 15) scLaw.nd rfl (Or.inl rfl)) (pe_item (Z := (cxOf CX0 P w K mg base lawN "law" (defScope sLaw) f (.ref c) A outer s H E).nox) (kk := 12) (i := 15) GE (hrm (j := 17) (by decide)) kEr gEr rfl (fun _ _ _ _ _ => by rfl) (fun _ _ => .inl rfl))) (pe_op op_rep (pe_lst (pa_cons (pe_tup (pa_cons pe_str (pa_cons (pv 13) pa_nil))) pa_nil)) pe_int) (nomark _))
          (pss_one (ps_ret pe_bl)) pss_nil))))))))))))
      (pss_cons (ps_set (i := 14) scLaw.nd rfl (.inl rfl) (pe_lst (pa_cons (pe_lam (Z := (cxOf CX0 P w K mg base lawN "law" (defScope sLaw) f (.ref c) A outer s H E).nox) (kk := 12) (T := [(PT, lamQ)]) (D := (⟨_, _, _, fun E => tCall (spEff CN CB) [] E (tCons (tLst (tCons (tC (.int 9)) tNil)) (tCons (tLst (tCons (tTup tNil) tNil)) (tCons (tC (.int 3)) tNil))), lamS_by (sc := defScope sLaw) (by decide +kernel), fun _ _ _ _ _ => rfl, fun f2 c2 E2 A2 outer2 s2 H2 hr2 => pe_call (X := lamC ((cxOf CX0 P w K mg base lawN "law" (defScope sLaw) f (.ref c) A outer s H E).nox) A2 outer2 s2 H2 E2 _ f2 c2) xE.G (Room.mono hr2 (by decide)) (by rfl) xE.g xE.kp xE.b .nil (lookN (L2N.takes_of rfl rfl rfl rfl) fun _ _ _ _ z => z) (pa_cons (pe_lst (pa_cons pe_int pa_nil)) (pa_cons (pe_lst (pa_cons (pe_tup pa_nil) pa_nil)) (pa_cons pe_int pa_nil)))⟩ : LamD ((cxOf CX0 P w K mg base lawN "law" (defScope sLaw) f (.ref c) A outer s H E).nox) 12)) TB rfl (List.mem_singleton.mpr rfl) (fun q hq _ => by rw [List.mem_singleton.mp hq]; rfl) rfl) (pa_cons (pe_lamP (Z := (cxOf CX0 P w K mg base lawN "law" (defScope sLaw) f (.ref c) A outer s H E).nox) (kk := 12) (T := [(PT, lamQ)]) (D := (⟨_, _, _, "_law_a", _, .int 0, fun E => tCall (spEff CN CB) [] E (tCons (tLst tNil) (tCons (tLst (tCons (tTup tNil) tNil)) (tCons (tC (.int 3)) tNil))), lamT_by (N := lawN) (sc := defScope sLaw) (by decide +kernel), rfl, rfl, pe_int, fun _ _ _ _ _ _ _ => ⟨_, rfl, fun _ => rfl⟩, fun f2 c2 E2 A2 outer2 s2 H2 hr2 => pe_call (X := lamC ((cxOf CX0 P w K mg base lawN "law" (defScope sLaw) f (.ref c) A outer s H E).nox) A2 outer2 s2 H2 E2 _ f2 c2) xE.G (Room.mono hr2 (by decide)) (by rfl) xE.g xE.kp xE.b .nil (lookN (L2N.takes_of rfl rfl rfl rfl) fun _ _ _ _ z => z) (pa_cons (pe_lst pa_nil) (pa_cons (pe_lst (pa_cons (pe_tup pa_nil) pa_nil)) (pa_cons pe_int pa_nil)))⟩ : LamP ((cxOf CX0 P w K mg base lawN "law" (defScope sLaw) f (.ref c) A outer s H E).nox) 12)) TB rfl (List.mem_singleton.mpr rfl) (fun q hq _ => by rw [List.mem_singleton.mp hq]; rfl)) (pa_cons (pe_lamP (Z := (cxOf CX0 P w K mg base lawN "law" (defScope sLaw) f (.ref c) A outer s H E).nox) (kk := 12) (T := [(PT, lamQ)]) (D := (⟨_, _, _, "_law_b", _, .int 0, fun E => tCall (spEff CN CB) [] E (tCons (tLst (tCons (tTup tNil) tNil)) (tCons (tLst (tCons (tTup tNil) tNil)) (tCons (tC (.int 0)) tNil))), lamT_by (N := lawN) (sc := defScope sLaw) (by decide +kernel), rfl, rfl, pe_int, fun _ _ _ _ _ _ _ => ⟨_, rfl, fun _ => rfl⟩, fun f2 c2 E2 A2 outer2 s2 H2 hr2 => pe_call (X := lamC ((cxOf CX0 P w K mg base lawN "law" (defScope sLaw) f (.ref c) A outer s H E).nox) A2 outer2 s2 H2 E2 _ f2 c2) xE.G (Room.mono hr2 (by decide)) (by rfl) xE.g xE.kp xE.b .nil (lookN (L2N.takes_of rfl rfl rfl rfl) fun _ _ _ _ z => z) (pa_cons (pe_lst (pa_cons (pe_tup pa_nil) pa_nil)) (pa_cons (pe_lst (pa_cons (pe_tup pa_nil) pa_nil)) (pa_cons pe_int pa_nil)))⟩ : LamP ((cxOf CX0 P w K mg base lawN "law" (defScope sLaw) f (.ref c) A outer s H E).nox) 12)) TB rfl (List.mem_singleton.mpr rfl) (fun q hq _ => by rw [List.mem_singleton.mp hq]; rfl)) pa_nil)))))
      (pss_cons (ps_if (pt_cmpR (op_neD hrU) (pe_lcI (own := [("_law_ask", 15)]) (g := gName 15) (by rfl) scLaw.nd (pi_list (pv 14)) (blkOk_by (own := [("_law_ask", 15)]) (N := lawN) (sc := defScope sLaw) (by decide +kernel)) (fun _ _ _ _ _ => pg_name (i := 15) scLaw.nd rfl (Or.inl rfl)) (pe_item (Z := (cxOf CX0 P w K mg base lawN "law" (defScope sLaw) f (.ref c) A outer s H E).nox) (kk := 12) (i := 15) GE (hrm (j := 17) (by decide)) kEr gEr rfl (fun _ _ _ _ _ => by rfl) (fun _ _ => .inl rfl))) (pe_op op_rep (pe_lst (pa_cons (pe_tup (pa_cons pe_str (pa_cons pe_int pa_nil))) pa_nil)) pe_int) (nomark _))
        (pss_one (ps_ret pe_bl)) pss_nil)
      (pss_one (ps_ret (pe_and (pe_cmpR op_isN (pe_call kE.G (hrm (by decide)) (by rfl) kE.g kE.F.kp kE.b .nil pass0 (pa_cons (pe_lst (pa_cons pe_int pa_nil)) (pa_cons (pe_lst (pa_cons pe_int pa_nil)) (pa_cons pe_int pa_nil)))) pe_non (nomark _)) (pe_one (pe_cmpR op_notN (pe_call kE.G (hrm (by decide)) (by rfl) kE.g kE.F.kp kE.b .nil pass0 (pa_cons (pe_lst (pa_cons pe_int pa_nil)) (pa_cons (pe_lst pa_nil) (pa_cons pe_int pa_nil)))) pe_non (nomark _)))))))))), ?_⟩
    have hT0 : Tabs [(PT, lamQ)] H := fun p hp => by
      rw [List.mem_singleton.mp hp]
      exact TabS.nil hP
    refine ⟨_, rfl, a, ns, rfl, hS, hlen, fun d l H0 nd hD0 s0 => ?_⟩
    refine ⟨_, rfl, by decide, by decide, ?_⟩
    have hbig : ∀ {k : Nat}, k ≤ 1000 → k ≤ sizeLine := fun h => Nat.le_trans h (by decide)
    refine for_range (lo := 0) (n := 4) (fun i σ H' => (∃ y2 y3 y4 y5 y6 y7 y8 y9 y11 y12 y13 y14, σ = [some (.ref a), some (.ref d), y2, y3, y4, y5, y6, y7, y8, y9, none, y11, y12, y13, y14, none]) ∧ DrawAt H' d l ∧ Tabs [(PT, lamQ)] H') ⟨⟨_, _, _, _, _, _, _, _, _, _, _, _, rfl⟩, hD0, hT0.ext s0⟩ ?_ ?_
    · rintro i σ H1 hi ⟨⟨y2, y3, y4, y5, y6, y7, y8, y9, y11, y12, y13, y14, rfl⟩, hD1, hT1⟩
      refine ⟨_, rfl, _, rfl, d, l, 5, rfl, hD1, by decide, by decide, fun t1 H2 ht1 hD2 sb2 => ?_⟩
      refine ⟨_, rfl, d, l, 40, rfl, hD2, by decide, by decide, fun t2 H3 ht2 hD3 sb3 => ⟨_, _, rfl, rfl, by show 3 ≤ sizeLine; decide, fun lo nlo => ⟨d, l, lo, _, rfl, hD3.new nlo, hD3.ne nlo, SqL.of upd_same, by show 1 ≤ 3; decide, by show 3 ≤ 1000; decide, fun j v H4 hv hD4 sb4 => ?_⟩⟩⟩
      obtain ⟨n, rfl, hn⟩ : ∃ n : Nat, v = vi n ∧ n ≤ 40 := by
        match j, hv with
        | 0, h => exact ⟨t1, (Option.some.inj h).symm, by omega⟩
        | 1, h => exact ⟨4, (Option.some.inj h).symm, by decide⟩
        | 2, h => exact ⟨1 + t2, by rw [← Option.some.inj h]; show V.int (1 + (t2 : Int)) = V.int ((1 + t2 : Nat) : Int); congr 1, by omega⟩
      have hT4 := tabs_sb ((tabs_sb (tabs_sb hT1 sb2 hD1.lst) sb3 hD2.lst).ext (same_new nlo)) sb4 (hD3.new nlo).lst
      clear hv hT1 hD1 sb2 hD2 sb3 hD3 sb4 nlo
      -- one
      refine ⟨fun σ H' => ∃ (B : Addr) (xs : List V) (ss : List Stp), σ = [some (.ref a), some (.ref d), some (V.int (0 + (i : Int))), some (vi n), some (.ref B), y5, y6, y7, y8, y9, none, y11, y12, y13, y14, none] ∧ B ≠ d ∧ H' B = some (.lst xs) ∧ StsAt H' xs ss ∧ Hd n 5 ss ∧ DrawAt H' d l ∧ Tabs [(PT, lamQ)] H', ?_, ?_⟩
      · refine ⟨_, rfl, _, _, rfl, rfl, _, rfl, ?_⟩
        show if decide ((0 : Int) < (n : Int)) = true then _ else _
        by_cases h0 : 0 < n
        · rw [decide_eq_true (by omega)]
          refine iteT ⟨_, rfl, _, rfl, d, l, n, 5, rfl, hD4, h0, by omega, by decide, fun B xs ss H5 nB Bd hB hst0 hsl hdrw hD5 sb5 => ?_⟩
          exact ⟨B, xs, ss, rfl, Bd, hB, hst0.at, ⟨hsl, fun s hs => ⟨(hdrw s hs).wf, (hdrw s hs).ne, (hdrw s hs).wr, inn_ofR s (hdrw s hs).inn⟩⟩, hD5, tabs_sb hT4 sb5 hD4.lst⟩
        · rw [decide_eq_false (by omega)]
          refine iteF ⟨by show 0 ≤ sizeLine; decide, fun B nB => ?_⟩
          have s5 := same_new (o := .lst []) nB
          exact ⟨B, [], [], rfl, hD4.ne nB, upd_same, .nil, .nil, hD4.same s5, hT4.ext s5⟩
      rintro σ H5 ⟨B, xs, ss, rfl, Bd, hB, hst, hd1, hD5, hT5⟩
      have hxl : xs.length ≤ 5 := by rw [hst.len]; exact hd1.len
      -- at
      refine ⟨_, rfl, _, rfl, B, _, rfl, .inl (SqL.of hB), _, _, rfl, rfl, d, l, xs.length + 1, rfl, hD5, by omega, Nat.lt_of_le_of_lt (show xs.length + 1 ≤ 100 by omega) (by decide +kernel), fun at_ H6 hat hD6 sb6 => ?_⟩
      have hB6 := sb6 _ _ Bd hB
      have hst6 := hst.sb hD5 sb6
      have hT6 := tabs_sb hT5 sb6 hD5.lst
      clear hT4 hD4 hT5 hst hB
      -- fresh
      refine ⟨fun σ H' => ∃ (Fr : Addr) (fs : List Nat), σ = [some (.ref a), some (.ref d), some (V.int (0 + (i : Int))), some (vi n), some (.ref B), some (vi at_), some (.ref Fr), y7, y8, y9, none, y11, y12, y13, y14, none] ∧ Fr ≠ d ∧ H' Fr = some (.lst (natsV fs)) ∧ fs.length ≤ 1 ∧ (∀ z ∈ fs, z < n) ∧ H' B = some (.lst xs) ∧ StsAt H' xs ss ∧ DrawAt H' d l ∧ Tabs [(PT, lamQ)] H', ?_, ?_⟩
      · refine ⟨_, rfl, _, _, rfl, rfl, _, rfl, ?_⟩
        show if decide ((0 : Int) < (n : Int)) = true then _ else _
        by_cases h0 : 0 < n
        · rw [decide_eq_true (by omega)]
          refine iteT ⟨_, rfl, _, rfl, d, l, n, rfl, hD6, by omega, Nat.lt_of_le_of_lt (show n ≤ 100 by omega) (by decide +kernel), fun z H7 hz hD7 sb7 => ⟨by show 1 ≤ sizeLine; decide, fun Fr nF => ?_⟩⟩
          have s7 := same_new (o := .lst [V.int (z : Int)]) nF
          exact ⟨Fr, [z], rfl, hD7.ne nF, upd_same, Nat.le_refl 1, fun y hy => by rw [List.mem_singleton.mp hy]; omega, s7 _ _ (sb7 _ _ Bd hB6), (hst6.sb hD6 sb7).same s7, hD7.same s7, (tabs_sb hT6 sb7 hD6.lst).ext s7⟩
        · rw [decide_eq_false (by omega)]
          refine iteF ⟨by show 0 ≤ sizeLine; decide, fun Fr nF => ?_⟩
          have s7 := same_new (o := .lst []) nF
          exact ⟨Fr, [], rfl, hD6.ne nF, upd_same, Nat.zero_le _, (fun y hy => nomatch hy), s7 _ _ hB6, hst6.same s7, hD6.same s7, hT6.ext s7⟩
      rintro σ H7 ⟨Fr, fs, rfl, Fd, hF7, hfl, hfn, hB7, hst7, hD7, hT7⟩
      clear hT6 hD6 hst6 hB6 sb6 hD5
      -- other
      have hfl2 : (natsV fs).length ≤ 1 := by rw [natsV_len]; exact hfl
      refine ⟨_, rfl, _, rfl, _, rfl, _, rfl, B, _, rfl, SqL.of hB7, fun q1 nq1 => ?_⟩
      rw [cut_take]
      have u1 := same_new (o := .lst (xs.take at_)) nq1
      have hq1 : upd H7 q1 (.lst (xs.take at_)) q1 = some (.lst (xs.take at_)) := upd_same
      generalize upd H7 q1 (.lst (xs.take at_)) = H8 at u1 hq1 ⊢
      refine ⟨_, rfl, _, rfl, _, _, rfl, rfl, _, rfl, B, _, rfl, SqL.of (u1 _ _ hB7), fun q2 nq2 => ?_⟩
      rw [show ((at_ : Int) + 1) = ((at_ + 1 : Nat) : Int) by omega, cut_dr]
      have u2 := same_new (o := .lst (xs.drop (at_ + 1))) nq2
      have hq2 : upd H8 q2 (.lst (xs.drop (at_ + 1))) q2 = some (.lst (xs.drop (at_ + 1))) := upd_same
      generalize upd H8 q2 (.lst (xs.drop (at_ + 1))) = H9 at u2 hq2 ⊢
      refine ⟨q1, q2, _, _, rfl, rfl, u2 _ _ hq1, hq2, hbig (by rw [List.length_take, List.length_drop]; omega), fun c1 nc1 => ?_⟩
      have u3 := same_new (o := .lst (xs.take at_ ++ xs.drop (at_ + 1))) nc1
      have hc1 : upd H9 c1 (.lst (xs.take at_ ++ xs.drop (at_ + 1))) c1 = _ := upd_same
      generalize upd H9 c1 (.lst (xs.take at_ ++ xs.drop (at_ + 1))) = H10 at u3 hc1 ⊢
      have u13 := (u1.trans u2).trans u3
      refine ⟨_, rfl, _, rfl, B, Fr, _, _, rfl, rfl, u13 _ _ hB7, u13 _ _ hF7, hbig (by omega), fun c2 nc2 => ?_⟩
      have u4 := same_new (o := .lst (xs ++ natsV fs)) nc2
      have hc2 : upd H10 c2 (.lst (xs ++ natsV fs)) c2 = _ := upd_same
      generalize upd H10 c2 (.lst (xs ++ natsV fs)) = H11 at u4 hc2 ⊢
      have u14 := u13.trans u4
      refine ⟨_, rfl, B, _, rfl, SqL.of (u14 _ _ hB7), fun q3 nq3 => ?_⟩
      have u5 := same_new (o := .lst xs.reverse) nq3
      have hq3 : upd H11 q3 (.lst xs.reverse) q3 = _ := upd_same
      generalize upd H11 q3 (.lst xs.reverse) = H12 at u5 hq3 ⊢
      have u15 := u14.trans u5
      refine ⟨_, rfl, q3, B, _, _, rfl, rfl, hq3, u15 _ _ hB7, hbig (by rw [List.length_reverse]; omega), fun cz3 nc3 => ?_⟩
      have u6 := same_new (o := .lst (xs.reverse ++ xs)) nc3
      have hc3 : upd H12 cz3 (.lst (xs.reverse ++ xs)) cz3 = _ := upd_same
      generalize upd H12 cz3 (.lst (xs.reverse ++ xs)) = H13 at u6 hc3 ⊢
      have u16 := u15.trans u6
      refine ⟨_, rfl, _, rfl, _, rfl, B, _, rfl, SqL.of (u16 _ _ hB7), fun q4 nq4 => ?_⟩
      rw [cut_dr]
      have u7 := same_new (o := .lst (xs.drop at_)) nq4
      have hq4 : upd H13 q4 (.lst (xs.drop at_)) q4 = _ := upd_same
      generalize upd H13 q4 (.lst (xs.drop at_)) = H14 at u7 hq4 ⊢
      have u17 := u16.trans u7
      refine ⟨_, rfl, q4, Fr, _, _, rfl, rfl, hq4, u17 _ _ hF7, hbig (by rw [List.length_drop]; omega), fun c4 nc4 => ?_⟩
      have u8 := same_new (o := .lst (xs.drop at_ ++ natsV fs)) nc4
      have hc4 : upd H14 c4 (.lst (xs.drop at_ ++ natsV fs)) c4 = _ := upd_same
      generalize upd H14 c4 (.lst (xs.drop at_ ++ natsV fs)) = H15 at u8 hc4 ⊢
      have u18 := u17.trans u8
      refine ⟨by show 4 ≤ sizeLine; decide, fun lo2 nlo2 => ?_⟩
      have u9 := same_new (o := .lst [V.ref c1, V.ref c2, V.ref cz3, V.ref c4]) nlo2
      have hlo2 : upd H15 lo2 (.lst [V.ref c1, V.ref c2, V.ref cz3, V.ref c4]) lo2 = _ := upd_same
      generalize upd H15 lo2 (.lst [V.ref c1, V.ref c2, V.ref cz3, V.ref c4]) = H16 at u9 hlo2 ⊢
      have u19 := u18.trans u9
      have hD16 := hD7.same u19
      have hT16 := hT7.ext u19
      have hst16 := hst7.same u19
      have hfs16 : StsAt H16 (natsV fs) (fS fs) := StsAt.of_nats fs
      have hdf : Hd n 1 (fS fs) := (hd_fS hfn).up hfl
      refine ⟨d, l, lo2, _, rfl, hD16, hD7.ne (u18.free nlo2), SqL.of hlo2, by show 1 ≤ 4; decide, by show 4 ≤ 1000; decide, fun j v H17 hv hD17 sb17 => ?_⟩
      have hT17 := tabs_sb hT16 sb17 hD16.lst
      obtain ⟨O, ys, os, rfl, hO, hys, hd2⟩ : ∃ (O : Addr) (ys : List V) (os : List Stp), v = .ref O ∧ H17 O = some (.lst ys) ∧ StsAt H17 ys os ∧ Hd n 10 os := by
        have cc : ∀ (c : Addr) (zs : List V) (rs : List Stp), H16 c = some (.lst zs) → c ≠ d → StsAt H16 zs rs → Hd n 10 rs → v = .ref c → ∃ (O : Addr) (ys : List V) (os : List Stp), v = .ref O ∧ H17 O = some (.lst ys) ∧ StsAt H17 ys os ∧ Hd n 10 os := fun c zs rs h1 hne h2 h3 h4 => ⟨c, zs, rs, h4, sb17 _ _ hne h1, h2.sb hD16 sb17, h3⟩
        match j, hv with
        | 0, h => exact cc c1 _ _ (u9 _ _ (u8 _ _ (u7 _ _ (u6 _ _ (u5 _ _ (u4 _ _ hc1)))))) (hD7.ne ((u1.trans u2).free nc1)) ((hst16.take at_).app (hst16.drop (at_ + 1))) ((hd1.sub (List.take_sublist _ _)).app (hd1.sub (List.drop_sublist _ _))) (Option.some.inj h).symm
        | 1, h => exact cc c2 _ _ (u9 _ _ (u8 _ _ (u7 _ _ (u6 _ _ (u5 _ _ hc2))))) (hD7.ne (u13.free nc2)) (hst16.app hfs16) ((hd1.app hdf).up (by decide)) (Option.some.inj h).symm
        | 2, h => exact cc cz3 _ _ (u9 _ _ (u8 _ _ (u7 _ _ hc3))) (hD7.ne (u15.free nc3)) (hst16.rev.app hst16) (hd1.rev.app hd1) (Option.some.inj h).symm
        | 3, h => exact cc c4 _ _ (u9 _ _ hc4) (hD7.ne (u17.free nc4)) ((hst16.drop at_).app hfs16) (((hd1.sub (List.drop_sublist _ _)).app hdf).up (by decide)) (Option.some.inj h).symm
      have hB17 := sb17 _ _ Bd (u19 _ _ hB7)
      have hst17 := hst16.sb hD16 sb17
      clear hv u1 u2 u3 u4 u5 u6 u7 u8 u9 hq1 hq2 hq3 hq4 hc1 hc2 hc3 hc4 hlo2 u13 u14 u15 u16 u17 u18 u19 nq1 nq2 nq3 nq4 nc1 nc2 nc3 nc4 nlo2 hst16 hfs16 sb17 hT16 hD16 hF7 hB7 hst7 hT7 hD7 hfl2 Fd
      have i1 := hd1.inn
      have i2 := hd2.inn
      have ok1 := hd1.okN
      have ok2 := hd2.okN
      have w1 := hd1.wr
      have w2 := hd2.wr
      have ne1 := hd1.ne
      have ne2 := hd2.ne
      have Od : O ≠ d := hD17.ne_steps (kd := true) hO hys
      refine ⟨_, rfl, _, rfl, _, rfl, tnil_of ?_⟩
      show noE (spEff CN CB) [.ref B, .ref O, vi n] _ _ _
      refine eff_sp (by omega) (hd1.hst (kd := true) (by decide) hB17 hst17) (hd2.hst (kd := true) (by decide) hO hys) ok1 ok2 fun told H18 htold s18 => ?_
      have hB18 := s18 _ _ hB17
      have hO18 := s18 _ _ hO
      have hst18 := hst17.same s18
      have hys18 := hys.same s18
      have hD18 := hD17.same s18
      have hT18 := hT17.ext s18
      clear hB17 hO hst17 hys hD17 hT17 s18
      refine ⟨fun σ H' => (∃ y8 y9 y11 y12, σ = [some (.ref a), some (.ref d), some (V.int (0 + (i : Int))), some (vi n), some (.ref B), some (vi at_), some (.ref Fr), some (.ref O), y8, y9, none, y11, y12, y13, y14, none]) ∧ H' B = some (.lst xs) ∧ StsAt H' xs ss ∧ DrawAt H' d l ∧ Tabs [(PT, lamQ)] H', ?_, ?_⟩
      · rcases htold with ⟨rfl, hsame⟩ | ⟨u, q2, q, rfl, h3, hu, dif, hq, hq2⟩
        · refine ⟨_, rfl, rfl, true, rfl, iteT ?_⟩
          refine ⟨fun σ H' => ∃ (S : Addr) (vs : List V), σ = [some (.ref a), some (.ref d), some (V.int (0 + (i : Int))), some (vi n), some (.ref B), some (vi at_), some (.ref Fr), some (.ref O), some .non, some (.ref S), none, y11, y12, y13, y14, none] ∧ H' S = some (.lst vs) ∧ (∀ v ∈ vs, ∃ t p r, v = .ref t ∧ H' t = some (.tup (tupOf n p)) ∧ Fo n p r) ∧ H' B = some (.lst xs) ∧ StsAt H' xs ss ∧ H' O = some (.lst ys) ∧ StsAt H' ys os ∧ DrawAt H' d l ∧ Tabs [(PT, lamQ)] H', ?_, ?_⟩
          · refine ⟨_, rfl, _, _, rfl, rfl, _, rfl, ?_⟩
            show if decide ((4 : Int) < (n : Int)) = true then _ else _
            by_cases h4 : 4 < n
            · rw [decide_eq_true (by omega)]
              refine iteT ⟨_, rfl, _, rfl, d, l, n, 3, rfl, hD18, by omega, fun t p r H19 nt ht hF hD19 sb19 => ⟨by show 1 ≤ sizeLine; decide, fun S nS => ?_⟩⟩
              have s19 := same_new (o := .lst [V.ref t]) nS
              refine ⟨S, [.ref t], rfl, upd_same, fun v hv => ⟨t, p, r, List.mem_singleton.mp hv, s19 _ _ ht, hF⟩, s19 _ _ (sb19 _ _ Bd hB18), (hst18.sb hD18 sb19).same s19, s19 _ _ (sb19 _ _ Od hO18), (hys18.sb hD18 sb19).same s19, hD19.same s19, (tabs_sb hT18 sb19 hD18.lst).ext s19⟩
            · rw [decide_eq_false (by omega)]
              refine iteF ⟨_, rfl, n, rfl, by omega, fun R rows H19 nR hR hrw s19 => ⟨R, rfl, ⟨_, SqL.of hR⟩, fun D nD => ?_⟩⟩
              have hrl := hrw.len
              rw [rows_len] at hrl
              have hp5 := pow5 (show n ≤ 5 by omega) (show n ≤ 5 by omega)
              refine lc_list (xs := rows) (fun j H' => (∃ vs, H' D = some (.lst vs) ∧ vs.length ≤ j ∧ ∀ v ∈ vs, ∃ t p r, v = .ref t ∧ H' t = some (.tup (tupOf n p)) ∧ Fo n p r) ∧ Same H19 H') ⟨⟨[], upd_same, Nat.le_refl _, fun v hv => nomatch hv⟩, same_new nD⟩ (fun j H' _ h => SqL.of (h.2 _ _ hR)) ?_ ?_
              · rintro j x H20 hx ⟨⟨vs, hD, hvl, hvs⟩, sm⟩
                obtain ⟨t, row, rfl, hrow, ht⟩ := hrw.get hx
                obtain ⟨r1, r2⟩ := rows_mem n row (List.mem_of_getElem? hrow)
                have hj : j < rows.length := (List.getElem?_eq_some_iff.mp hx).1
                have ht20 := sm _ _ ht
                have en : natsV row = (row.map fun z : Nat => (z : Int)).map V.int := by unfold natsV; rw [List.map_map]; rfl
                rw [en] at ht20
                have hvs2 : vs.length < sizeLine := Nat.lt_of_le_of_lt (show _ ≤ 10000 by omega) (by decide)
                refine ⟨rfl, _, rfl, t, _, rfl, SqT.of ht20, by rw [List.length_map]; omega, fun H21 s21 => ⟨_, rfl, ?_⟩⟩
                cases ek : okV (row.map fun z : Nat => (z : Int)) with
                | false => exact iteF ⟨⟨vs, s21 _ _ hD, by omega, fun v hv => by
                    obtain ⟨t', p, r, e1, e2, e3⟩ := hvs v hv
                    exact ⟨t', p, r, e1, s21 _ _ e2, e3⟩⟩, sm.trans s21⟩
                | true =>
                  obtain ⟨k1, k2, r, k3⟩ := okV_iff ek
                  have hlen : (row.map fun z : Nat => (z : Int)).length = n := by rw [List.length_map]; exact r1
                  rw [hlen] at k2 k3
                  rw [k2] at ht20
                  refine iteT ⟨_, rfl, vs, s21 _ _ hD, hvs2, ⟨vs ++ [.ref t], upd_same, by rw [List.length_append]; exact Nat.add_le_add_right hvl 1, fun v hv => ?_⟩, same_over (sm.trans s21) nD⟩
                  have nDt : ∀ {t' : Addr} {ws : List V}, H21 t' = some (.tup ws) → t' ≠ D := fun h z => by
                    rw [z, s21 _ _ hD] at h; cases h
                  rcases List.mem_append.mp hv with hv | hv
                  · obtain ⟨t', p, r', e1, e2, e3⟩ := hvs v hv
                    have e2 := s21 _ _ e2
                    exact ⟨t', p, r', e1, by rw [upd_ne (nDt e2)]; exact e2, e3⟩
                  · have e2 := s21 _ _ ht20
                    exact ⟨t, _, r, List.mem_singleton.mp hv, by rw [upd_ne (nDt e2)]; exact e2, k3⟩
              · rintro H20 ⟨⟨vs, hD, hvl, hvs⟩, sm⟩
                have s := s19.trans sm
                exact ⟨D, vs, rfl, hD, hvs, s _ _ hB18, hst18.same s, s _ _ hO18, hys18.same s, hD18.same s, hT18.ext s⟩
          rintro σ H19 ⟨S, vs, rfl, hS, hvs, hB19, hst19, hO19, hys19, hD19, hT19⟩
          refine ⟨_, rfl, S, rfl, ⟨_, SqL.of hS⟩, ?_⟩
          refine for_list (K := K) (a := S) (xs := vs) (fun j σ H' => (∃ y, σ = [some (.ref a), some (.ref d), some (V.int (0 + (i : Int))), some (vi n), some (.ref B), some (vi at_), some (.ref Fr), some (.ref O), some .non, some (.ref S), none, y, y12, y13, y14, none]) ∧ Same H19 H') ⟨⟨_, rfl⟩, Same.refl _⟩ (fun j σ H' _ h => SqL.of (h.2 _ _ hS)) ?_ ?_
          · rintro j x σ H20 hx ⟨⟨y, rfl⟩, sm⟩
            obtain ⟨t, p, r, rfl, ht, hF⟩ := hvs x (List.mem_of_getElem? hx)
            refine ⟨_, rfl, _, rfl, t, B, n, p, r, true, xs, ss, rfl, SqT.of (sm _ _ ht), by omega, hF, sm _ _ hB19, hst19.same sm, hd1.wf, by omega, by omega, i1, fun g1 H21 hg1 s21 => ?_⟩
            have sm2 := sm.trans s21
            refine ⟨_, rfl, _, rfl, t, O, n, p, r, true, ys, os, rfl, SqT.of (sm2 _ _ ht), by omega, hF, sm2 _ _ hO19, hys19.same sm2, hd2.wf, by omega, by omega, i2, fun g2 H22 hg2 s22 => ?_⟩
            have hg1' := same_sqt s22 hg1
            rw [res_same hF i1 i2 hsame] at hg1'
            refine ⟨_, _, dp_forest hg1', dp_forest hg2, shaped_tup _, shaped_tup _, _, rfl, ?_⟩
            rw [eqv_refl2 (shaped_tup _)]
            exact iteF ⟨⟨_, rfl⟩, sm2.trans s22⟩
          rintro σ H20 ⟨⟨y, rfl⟩, sm⟩
          have hB20 := sm _ _ hB19
          have hst20 := hst19.same sm
          have hD20 := hD19.same sm
          have hT20 := hT19.ext sm
          refine ⟨_, rfl, _, _, rfl, rfl, _, rfl, ?_⟩
          by_cases h2 : 2 < n
          · rw [decide_eq_true (show (2 : Int) < (n : Int) by omega)]
            have hsm : SmE ss os := by
              rcases hsame with z | z
              · omega
              · exact z
            refine iteT ⟨_, rfl, true, B, xs, ss, rfl, hB20, hst20, wfs_up hd1.wf, by omega, by decide, by omega, fun g1 ns1 H21 ng1 hg1 pw1 mm1 ln1 s21 => ?_⟩
            refine ⟨_, rfl, true, O, ys, os, rfl, s21 _ _ (sm _ _ hO19), (hys19.same sm).same s21, wfs_up hd2.wf, by omega, by decide, by omega, fun g2 ns2 H22 ng2 hg2 pw2 mm2 ln2 s22 => ?_⟩
            obtain rfl : ns1 = ns2 := rise_eq pw1 pw2 fun k => by rw [mm1, mm2, hsm k]
            refine ⟨_, _, .lst (SqL.of (s22 _ _ hg1)) (dp_intl ns1), .lst (SqL.of hg2) (dp_intl ns1), shaped_lst _, shaped_lst _, _, rfl, ?_⟩
            rw [eqv_refl2 (shaped_lst _)]
            have s := s21.trans s22
            exact iteF ⟨⟨_, _, _, _, rfl⟩, s _ _ hB20, hst20.same s, hD20.same s, hT20.ext s⟩
          · rw [decide_eq_false (show ¬ (2 : Int) < (n : Int) by omega)]
            exact iteF (iteF ⟨⟨_, _, _, _, rfl⟩, hB20, hst20, hD20, hT20⟩)
        · refine ⟨_, rfl, rfl, false, rfl, iteF ?_⟩
          have lenu : (tupOf n (c3 u)).length = n := tupOf_len n _
          refine ⟨_, rfl, _, _, _, _, _, rfl, .ty _, .base (.tup hq), kit_ty (r := true) (by decide +kernel), _, rfl, iteF ?_⟩
          refine ⟨_, rfl, q, _, rfl, .inr (SqT.of hq), rfl, _, rfl, iteF ?_⟩
          refine ⟨_, rfl, Sq.ix (.inr (SqT.of hq)) rfl ⟨q2, _, rfl, .inr (SqT.of hq2), _, rfl, rfl, _, rfl, ?_⟩⟩
          rw [lenu, decide_eq_true rfl]
          refine iteF ?_
          have hq2i : SqT K H18 q2 ((intsOf n (c3 u)).map V.int) := by rw [ints_map]; exact SqT.of hq2
          refine ⟨_, rfl, Sq.ix (.inr (SqT.of hq)) rfl ⟨q2, _, rfl, hq2i, by rw [ints_lenI]; omega, fun H19 s19 => ⟨_, rfl, ?_⟩⟩⟩
          rw [okV_fo (c3_fo h3 hu) hn]
          refine iteF ?_
          have hq19 := s19 _ _ hq
          have hq219 := s19 _ _ hq2
          have hB19 := s19 _ _ hB18
          have hO19 := s19 _ _ hO18
          have hst19 := hst18.same s19
          have hys19 := hys18.same s19
          have hD19 := hD18.same s19
          have hT19 := hT18.ext s19
          refine ⟨_, rfl, q, _, rfl, SqT.of hq19, rfl, _, _, rfl, _, _, rfl, rfl, ?_⟩
          have F3 := c3_fo h3 hu
          refine ⟨_, rfl, _, rfl, q2, B, n, c3 u, _, true, xs, ss, rfl, SqT.of hq219, by omega, F3, hB19, hst19, hd1.wf, by omega, by omega, i1, fun g1 H20 hg1 s20 => ?_⟩
          refine ⟨_, rfl, .inr (.inl ⟨g1, _, _, _, rfl, rfl, hg1, atI_nat (tupOf_at hu), ?_⟩)⟩
          refine ⟨_, rfl, _, rfl, q2, O, n, c3 u, _, true, ys, os, rfl, SqT.of (s20 _ _ hq219), by omega, F3, s20 _ _ hO19, hys19.same s20, hd2.wf, by omega, by omega, i2, fun g2 H21 hg2 s21 => ?_⟩
          refine ⟨_, rfl, .inr (.inl ⟨g2, _, _, _, rfl, rfl, hg2, atI_nat (tupOf_at hu), ?_⟩)⟩
          have s1921 := s20.trans s21
          refine ⟨rfl, _, rfl, ?_⟩
          have hdiff : decide (vi (fndAll n (nds ss) (c3 u) u) = vi (fndAll n (nds os) (c3 u) u)) = false := by
            rw [c3_find h3 hu (nds_lt ss i1), c3_find h3 hu (nds_lt os i2)]
            have hn1 := dif_nds i1 i2 dif
            have h3' : rt3 u ≠ ab3 u := by unfold rt3 ab3; split <;> split <;> omega
            refine decide_eq_false fun z => ?_
            injection z with z
            by_cases m1 : u ∈ nds ss
            · by_cases m2 : u ∈ nds os
              · exact hn1 ⟨fun _ => m2, fun _ => m1⟩
              · rw [if_pos m1, if_neg m2] at z; exact h3' (by omega)
            · by_cases m2 : u ∈ nds os
              · rw [if_neg m1, if_pos m2] at z; exact h3' (by omega)
              · exact hn1 ⟨fun y => absurd y m1, fun y => absurd y m2⟩
          rw [hdiff]
          refine iteF ?_
          -- repr
          refine ⟨_, rfl, _, rfl, O, ys, rfl, .inl ⟨SqL.of (s1921 _ _ hO19), fun O2 nO2 => ⟨_, rfl, B, xs, rfl, .inl ⟨SqL.of ((same_new nO2) _ _ (s1921 _ _ hB19)), fun B2 nB2 => tnil_of ?_⟩⟩⟩⟩
          have v1 := same_new (o := .tup ys) nO2
          have v2 := same_new (o := .tup xs) nB2
          have hO2 := v2 _ _ (upd_same (H := H21) (a := O2) (o := .tup ys))
          have hB2 : upd (upd H21 O2 (.tup ys)) B2 (.tup xs) B2 = some (.tup xs) := upd_same
          have v12 := (s1921.trans v1).trans v2
          generalize upd (upd H21 O2 (.tup ys)) B2 (.tup xs) = H22 at hO2 hB2 v12 ⊢
          show noE (spEff CN CB) [.ref B2, .ref O2, vi n] _ _ _
          refine eff_sp (by omega) (hd1.hst (kd := false) (by decide) hB2 (hst19.same v12)) (hd2.hst (kd := false) (by decide) hO2 (hys19.same v12)) ok1 ok2 fun told2 H23 ht2 s23 => ?_
          have v13 := v12.trans s23
          rcases ht2 with ⟨rfl, hs2⟩ | ⟨u', q2', q', rfl, _, hu', dif', hq', hq2'⟩
          · exfalso
            rcases hs2 with z | z
            · omega
            · exact dif.1 (z (u : Int))
          obtain rfl := dif.uniq dif'
          have fewL : ∀ z ∈ intsOf n (c3 u), Few z := fun z hz => by
            unfold intsOf at hz
            obtain ⟨v, hv, rfl⟩ := List.mem_map.mp hz
            have := F3.lt v (List.mem_range.mp hv)
            exact Nat.lt_of_le_of_lt (show ((c3 u v : Nat) : Int).natAbs ≤ 1000 by omega) (by decide)
          obtain ⟨r1, r2, r3, r4⟩ := repr_pair (u := (u : Int)) fewL (Nat.lt_of_le_of_lt (show ((u : Nat) : Int).natAbs ≤ 1000 by omega) (by decide)) (by rw [ints_lenI]; omega)
          refine tnil_of ⟨q', _, rfl, .tup (SqT.of hq') (.cons (dp_forest (SqT.of hq2')) (.cons (.int _) .nil)), r1, r2, r3, r4, ?_⟩
          refine ⟨_, rfl, tnil_of ⟨q, _, rfl, .tup (SqT.of (v13 _ _ hq19)) (.cons (dp_forest (SqT.of (v13 _ _ hq219))) (.cons (.int _) .nil)), r1, r2, r3, r4, ?_⟩⟩
          refine ⟨rfl, _, rfl, ?_⟩
          rw [decide_eq_true rfl]
          exact iteF ⟨⟨_, _, _, _, rfl⟩, v13 _ _ hB19, hst19.same v13, hD19.same v13, hT19.ext v13⟩
      · rintro σ H20 ⟨⟨y8', y9', y11', y12', rfl⟩, hB20, hst20, hD20, hT20⟩
        refine ⟨_, rfl, _, rfl, d, l, n, rfl, hD20, by omega, fun z H21 hz zl zu hD21 sb21 => ?_⟩
        have hB21 := sb21 _ _ Bd hB20
        have hst21 := hst20.sb hD20 sb21
        have hT21 := tabs_sb hT20 sb21 hD20.lst
        refine ⟨hT21, fun f1 K1 e1 hT1 hA1 => ⟨hT1, fun f2 K2 e2 hT2 hA2 => ⟨by show 2 ≤ sizeLine; decide, fun la nla => ?_⟩⟩⟩
        have sl := same_new (o := .lst [V.ref f1, V.ref f2]) nla
        have p1 := (LamD.lam _).same hA1 (fun b o e n => sl _ _ (e2 b o e n))
        have p2 := (LamP.lam _).same hA2 (fun b o e n => sl _ _ e)
        have hla : upd K2 la (.lst [V.ref f1, V.ref f2]) la = some (.lst ([f1, f2].map V.ref)) := upd_same
        have ntl : ∀ {xs : List V} (ps), (HO.lst xs) ≠ .tbl ps := fun _ z => by cases z
        have hB22 := sl _ _ (e2 _ _ (e1 _ _ hB21 ntl) ntl)
        have hst22 := ((hst21.ext e1).ext e2).same sl
        have hD22 := ((hD21.ext e1).ext e2).same sl
        have hT22 := hT2.ext sl
        generalize upd K2 la (.lst [V.ref f1, V.ref f2]) = K3 at p1 p2 hla hB22 hst22 hD22 hT22 ⊢
        refine ⟨_, rfl, la, rfl, ⟨_, SqL.of hla⟩, fun D nD => ?_⟩
        have zb : z.natAbs.log2 < 1920 := log_b (by omega)
        have tgN : TagOk "NoNode" "node" := .inl ⟨by decide, rfl⟩
        have p1010 : (10 : Int) ^ (10 : Int).toNat = 10000000000 := by decide
        refine asks_fl (kk := 12) (j := 15) [some (.ref a), some (.ref d), some (V.int (0 + (i : Int))), some (vi n), some (.ref B), some (vi at_), some (.ref Fr), some (.ref O), y8', y9', none, y11', y12', some (.int z), some (.ref la), none] [f1, f2] [("NoNode", V.int z), ("NoNode", V.int z)] hla nD (by show 15 < 16; decide) (by show 2 ≤ 1000; decide) rfl (fun i f' e hf he => ?_) fun ts H9 hts hDD htt s9 => ?_
        · match i, hf, he with
          | 0, hf, he =>
            cases hf
            cases he
            refine ⟨_, CN, "node", p1, RN, tgN, fun Ha E sa fl => ?_⟩
            refine ⟨_, rfl, by show 1 ≤ sizeLine; decide, fun g1 ng1 => ⟨_, rfl, _, _, rfl, rfl, ⟨by decide, by decide, by decide⟩, _, _, rfl, rfl, by show 1 ≤ sizeLine; decide, fun g2 ng2 => ⟨_, rfl, tnil_of ?_⟩⟩⟩
            show spEff CN CB [.ref g1, .ref g2, vi n] (upd (upd Ha g1 (.lst [.int z])) g2 (.lst [.int ((n : Int) + (10 : Int) ^ (10 : Int).toNat)])) _ _
            rw [p1010]
            obtain ⟨b1, b2⟩ := wr_one (y := (n : Int) + 10000000000) hz
            exact eff_no (by omega) (hst_f (zs := [z]) ((same_new ng2) _ _ upd_same) (by show 1 ≤ 60; decide)) (hst_f (zs := [(n : Int) + 10000000000]) upd_same (by show 1 ≤ 60; decide)) b1 b2 zb (Flies.same fl ((same_new ng1).trans (same_new ng2)))
          | 1, hf, he =>
            cases hf
            cases he
            refine ⟨_, CN, "node", p2, RN, tgN, fun Ha E sa fl => ?_⟩
            refine ⟨_, rfl, _, rfl, _, rfl, _, _, rfl, rfl, ⟨by decide, by decide, by decide⟩, _, _, rfl, rfl, by show 2 ≤ sizeLine; decide, fun g2 ng2 => ⟨_, rfl, tnil_of ?_⟩⟩
            show spEff CN CB [.ref B, .ref g2, vi n] (upd Ha g2 (.lst [.int z, .int ((n : Int) + (10 : Int) ^ (10 : Int).toNat)])) _ _
            rw [p1010]
            obtain ⟨b1, b2⟩ := wr_two (y := (n : Int) + 10000000000) ok1 hz (by omega)
            have t2 := same_new (o := .lst [V.int z, V.int ((n : Int) + 10000000000)]) ng2
            exact eff_no (by omega) (hd1.hst (kd := true) (by decide) ((sa.trans t2) _ _ hB22) (hst22.same (sa.trans t2))) (hst_f (zs := [z, (n : Int) + 10000000000]) upd_same (by show 2 ≤ 60; decide)) b1 b2 zb (Flies.same fl t2)
        refine ⟨_, rfl, by show 2 ≤ sizeLine; decide, fun pt npt => ⟨by show 1 ≤ sizeLine; decide, fun pl npl => ⟨pl, 2, [V.ref pt], rfl, rfl, upd_same, by decide, by decide, by show 1 * 2 ≤ sizeLine; decide, fun pr npr => ?_⟩⟩⟩
        have v1 := same_new (o := .tup [V.str "NoNode", V.int z]) npt
        have hpt : upd H9 pt (.tup [V.str "NoNode", V.int z]) pt = _ := upd_same
        have v2 := same_new (o := .lst [V.ref pt]) npl
        have v3 := same_new (o := .lst (List.replicate (2 : Int).toNat [V.ref pt]).flatten) npr
        have v13 := (v1.trans v2).trans v3
        have hpr : upd (upd (upd H9 pt (.tup [V.str "NoNode", V.int z])) pl (.lst [V.ref pt])) pr (.lst (List.replicate (2 : Int).toNat [V.ref pt]).flatten) pr = some (.lst ((List.replicate 2 pt).map V.ref)) := upd_same
        have hpt3 := (v2.trans v3) _ _ hpt
        have hDD3 := v13 _ _ hDD
        have htt3 : ∀ t ∈ ts, upd (upd (upd H9 pt (.tup [V.str "NoNode", V.int z])) pl (.lst [V.ref pt])) pr (.lst (List.replicate (2 : Int).toNat [V.ref pt]).flatten) t = some (.tup [V.str "NoNode", V.int z]) := fun t ht => by
          obtain ⟨j, hj⟩ := List.mem_iff_getElem?.mp ht
          have hjl : j < 2 := by
            have := (List.getElem?_eq_some_iff.mp hj).1
            rw [hts] at this
            exact this
          exact v13 _ _ (htt j t (("NoNode" : Str), V.int z) hj (by
            match j, hjl with
            | 0, _ => rfl
            | 1, _ => rfl))
        have s10 := s9.trans v13
        generalize upd (upd (upd H9 pt (.tup [V.str "NoNode", V.int z])) pl (.lst [V.ref pt])) pr (.lst (List.replicate (2 : Int).toNat [V.ref pt]).flatten) = H10 at hpr hpt3 hDD3 htt3 s10 ⊢
        have htl : ts.length = 2 := by rw [hts]; rfl
        have d1 : Dp K H10 (.ref D) (dErrs 2 "NoNode" z) := .lst (SqL.of hDD3) (by have y := dp_errs (K := K) htt3; rw [htl] at y; exact y)
        have d2 : Dp K H10 (.ref pr) (dErrs 2 "NoNode" z) := .lst (SqL.of hpr) (dp_errs (K := K) (ts := List.replicate 2 pt) fun t ht => by rw [List.eq_of_mem_replicate ht]; exact hpt3)
        have hsh : SeqAt.shaped (dErrs 2 "NoNode" z) = true := shaped_errs (by decide +kernel) (by decide) _
        refine ⟨_, _, d1, d2, hsh, hsh, _, rfl, ?_⟩
        rw [eqv_refl2 hsh]
        exact iteF ⟨⟨_, _, _, _, _, _, _, _, _, _, _, _, rfl⟩, hD22.same s10, hT22.ext s10⟩
    · rintro σ H20 ⟨⟨y2, y3, y4, y5, y6, y7, y8, y9, y11, y12, y13, y14, rfl⟩, hD20, hT20⟩
      refine ⟨hT20, fun f1 K1 e1 hT1 hA1 => ⟨hT1, fun f2 K2 e2 hT2 hA2 => ⟨hT2, fun f3 K4 e3 hT3 hA3 => ⟨by show 3 ≤ sizeLine; decide, fun la nla => ?_⟩⟩⟩⟩
      have sl := same_new (o := .lst [V.ref f1, V.ref f2, V.ref f3]) nla
      have p1 := (LamD.lam _).same hA1 (fun b o e n => sl _ _ (e3 b o (e2 b o e n) n))
      have p2 := (LamP.lam _).same hA2 (fun b o e n => sl _ _ (e3 b o e n))
      have p3 := (LamP.lam _).same hA3 (fun b o e n => sl _ _ e)
      have hla : upd K4 la (.lst [V.ref f1, V.ref f2, V.ref f3]) la = some (.lst ([f1, f2, f3].map V.ref)) := upd_same
      generalize upd K4 la (.lst [V.ref f1, V.ref f2, V.ref f3]) = K3 at p1 p2 p3 hla ⊢
      refine ⟨_, rfl, la, rfl, ⟨_, SqL.of hla⟩, fun D nD => ?_⟩
      have tgB : TagOk "BadStep" "pos" := .inr (.inr (.inl ⟨by decide, rfl⟩))
      refine asks_fl (kk := 12) (j := 15) [some (.ref a), some (.ref d), y2, y3, y4, y5, y6, y7, y8, y9, none, y11, y12, y13, some (.ref la), none] [f1, f2, f3] [("BadStep", V.int 0), ("BadStep", V.int 0), ("BadStep", V.int 0)] hla nD (by show 15 < 16; decide) (by show 3 ≤ 1000; decide) rfl (fun i f' e hf he => ?_) fun ts H9 hts hDD htt s9 => ?_
      · match i, hf, he with
        | 0, hf, he =>
          cases hf
          cases he
          refine ⟨_, CB, "pos", p1, RB, tgB, fun Ha E sa fl => ?_⟩
          refine ⟨by show 1 ≤ sizeLine; decide, fun g1 ng1 => ⟨by show 0 ≤ sizeLine; decide, fun z0 nz0 => ⟨by show 1 ≤ sizeLine; decide, fun g2 ng2 => tcons_c (tnil_of ?_)⟩⟩⟩
          have t1 := same_new (o := .lst [V.int 9]) ng1
          have t2 := same_new (o := .tup []) nz0
          have t3 := same_new (o := .lst [V.ref z0]) ng2
          show spEff CN CB [.ref g1, .ref g2, vi 3] _ _ _
          exact eff_bs (by decide) (hst_f (zs := [9]) (t3 _ _ (t2 _ _ upd_same)) (by decide)) (.bad upd_same (t3 _ _ upd_same)) (.inr rfl) (Flies.same fl ((t1.trans t2).trans t3))
        | 1, hf, he =>
          cases hf
          cases he
          refine ⟨_, CB, "pos", p2, RB, tgB, fun Ha E sa fl => ?_⟩
          refine ⟨by show 0 ≤ sizeLine; decide, fun g1 ng1 => ⟨by show 0 ≤ sizeLine; decide, fun z0 nz0 => ⟨by show 1 ≤ sizeLine; decide, fun g2 ng2 => tcons_c (tnil_of ?_)⟩⟩⟩
          have t1 := same_new (o := .lst []) ng1
          have t2 := same_new (o := .tup []) nz0
          have t3 := same_new (o := .lst [V.ref z0]) ng2
          show spEff CN CB [.ref g1, .ref g2, vi 3] _ _ _
          exact eff_bs (by decide) (hst_f (zs := []) (t3 _ _ (t2 _ _ upd_same)) (by decide)) (.bad upd_same (t3 _ _ upd_same)) (.inr rfl) (Flies.same fl ((t1.trans t2).trans t3))
        | 2, hf, he =>
          cases hf
          cases he
          refine ⟨_, CB, "pos", p3, RB, tgB, fun Ha E sa fl => ?_⟩
          refine ⟨by show 0 ≤ sizeLine; decide, fun y0 ny0 => ⟨by show 1 ≤ sizeLine; decide, fun g1 ng1 => ⟨by show 0 ≤ sizeLine; decide, fun z0 nz0 => ⟨by show 1 ≤ sizeLine; decide, fun g2 ng2 => tcons_c (tnil_of ?_)⟩⟩⟩⟩
          have t0 := same_new (o := .tup []) ny0
          have t1 := same_new (o := .lst [V.ref y0]) ng1
          have t2 := same_new (o := .tup []) nz0
          have t3 := same_new (o := .lst [V.ref z0]) ng2
          show spEff CN CB [.ref g1, .ref g2, vi 0] _ _ _
          exact eff_bs (by decide) (.bad (t3 _ _ (t2 _ _ upd_same)) (t3 _ _ (t2 _ _ (t1 _ _ upd_same)))) (.bad upd_same (t3 _ _ upd_same)) (.inl rfl) (Flies.same fl (((t0.trans t1).trans t2).trans t3))
      refine ⟨by show 2 ≤ sizeLine; decide, fun pt npt => ⟨by show 1 ≤ sizeLine; decide, fun pl npl => ⟨pl, 3, [V.ref pt], rfl, rfl, upd_same, by decide, by decide, by show 1 * 3 ≤ sizeLine; decide, fun pr npr => ?_⟩⟩⟩
      have v1 := same_new (o := .tup [V.str "BadStep", V.int 0]) npt
      have hpt : upd H9 pt (.tup [V.str "BadStep", V.int 0]) pt = _ := upd_same
      have v2 := same_new (o := .lst [V.ref pt]) npl
      have v3 := same_new (o := .lst (List.replicate (3 : Int).toNat [V.ref pt]).flatten) npr
      have v13 := (v1.trans v2).trans v3
      have hpr : upd (upd (upd H9 pt (.tup [V.str "BadStep", V.int 0])) pl (.lst [V.ref pt])) pr (.lst (List.replicate (3 : Int).toNat [V.ref pt]).flatten) pr = some (.lst ((List.replicate 3 pt).map V.ref)) := upd_same
      have hpt3 := (v2.trans v3) _ _ hpt
      have hDD3 := v13 _ _ hDD
      have htt3 : ∀ t ∈ ts, upd (upd (upd H9 pt (.tup [V.str "BadStep", V.int 0])) pl (.lst [V.ref pt])) pr (.lst (List.replicate (3 : Int).toNat [V.ref pt]).flatten) t = some (.tup [V.str "BadStep", V.int 0]) := fun t ht => by
        obtain ⟨j, hj⟩ := List.mem_iff_getElem?.mp ht
        have hjl : j < 3 := by
          have := (List.getElem?_eq_some_iff.mp hj).1
          rw [hts] at this
          exact this
        exact v13 _ _ (htt j t (("BadStep" : Str), V.int 0) hj (by
          match j, hjl with
          | 0, _ => rfl
          | 1, _ => rfl
          | 2, _ => rfl))
      have s10 := s9.trans v13
      generalize upd (upd (upd H9 pt (.tup [V.str "BadStep", V.int 0])) pl (.lst [V.ref pt])) pr (.lst (List.replicate (3 : Int).toNat [V.ref pt]).flatten) = H10 at hpr hpt3 hDD3 htt3 s10 ⊢
      have htl : ts.length = 3 := by rw [hts]; rfl
      have d1 : Dp K H10 (.ref D) (dErrs 3 "BadStep" 0) := .lst (SqL.of hDD3) (by have y := dp_errs (K := K) htt3; rw [htl] at y; exact y)
      have d2 : Dp K H10 (.ref pr) (dErrs 3 "BadStep" 0) := .lst (SqL.of hpr) (dp_errs (K := K) (ts := List.replicate 3 pt) fun t ht => by rw [List.eq_of_mem_replicate ht]; exact hpt3)
      have hsh : SeqAt.shaped (dErrs 3 "BadStep" 0) = true := shaped_errs (by decide +kernel) (by decide) _
      refine ⟨_, _, d1, d2, hsh, hsh, _, rfl, ?_⟩
      rw [eqv_refl2 hsh]
      refine iteF ?_
      have ok0 : ∀ m : Nat, 1 ≤ m → OkN m [.fnd 0] := fun m hm k hk => by
        rw [show ndI [.fnd 0] = [0] from ndI_fnds [0]] at hk
        rw [List.mem_singleton.mp hk]; omega
      refine ⟨by show 1 ≤ sizeLine; decide, fun g1 ng1 => ⟨by show 1 ≤ sizeLine; decide, fun g2 ng2 => tcons_c (tnil_of ?_)⟩⟩
      have t1 := same_new (o := .lst [V.int 0]) ng1
      have t2 := same_new (o := .lst [V.int 1]) ng2
      show noE (spEff CN CB) [.ref g1, .ref g2, vi 2] _ _ _
      refine eff_sp (by decide) (hst_f (zs := [0]) (t2 _ _ upd_same) (by decide)) (hst_f (zs := [1]) upd_same (by decide)) (ok0 2 (by decide)) (fun k hk => by
        rw [show ndI ([1].map Stp.fnd) = [1] from ndI_fnds [1]] at hk
        rw [List.mem_singleton.mp hk]; decide) fun told H11 ht s11 => ?_
      rcases ht with ⟨rfl, _⟩ | ⟨u, q2, q, rfl, h3, _⟩
      case inr => exact absurd h3 (by decide)
      refine ⟨rfl, _, rfl, iteT ?_⟩
      refine ⟨by show 1 ≤ sizeLine; decide, fun g3 ng3 => ⟨by show 0 ≤ sizeLine; decide, fun g4 ng4 => tcons_c (tnil_of ?_)⟩⟩
      have t3 := same_new (o := .lst [V.int 0]) ng3
      have t4 := same_new (o := .lst []) ng4
      show noE (spEff CN CB) [.ref g3, .ref g4, vi 3] _ _ _
      refine eff_sp (by decide) (hst_f (zs := [0]) (t4 _ _ upd_same) (by decide)) (hst_f (zs := []) upd_same (by decide)) (ok0 3 (by decide)) (fun k hk => by
        rw [show ndI (([] : List Int).map Stp.fnd) = [] from ndI_fnds []] at hk
        cases hk) fun told2 H12 ht s12 => ?_
      rcases ht with ⟨rfl, hs⟩ | ⟨u, q2, q, rfl, h3, _⟩
      · exfalso
        rcases hs with h | h
        · omega
        · have := (h 0).1 (by rw [show ndI ([0].map Stp.fnd) = [0] from ndI_fnds [0]]; exact List.mem_cons_self)
          rw [show ndI (([] : List Int).map Stp.fnd) = [] from ndI_fnds []] at this
          cases this
      · exact ⟨rfl, qfin _⟩
end
end Ff

namespace Ff
open PySem PySem.Spec PyProof.Rows L2 ExX LamX
theorem all_mk {l : PySem.W.OpenLaw} {w : World} {K : PySem.W.Frag} {h : Heap} {mg : Str → Option Value} {fa : Addr} (X : K.In h) (G : h.Ns mainGlobals mg) (hfa : mg "law" = some (.ref fa)) (own : LamX.OwnTab K fa h)
    (d0 : DefF K "leads_to_root" sLeads)
    (d1 : DefF K "check_forest" sCheck)
    (d2 : DefF K "is_forest" sIsFor)
    (d3 : DefF K "check_number" sNum)
    (d4 : DefF K "is_find" sIsFnd)
    (d5 : DefF K "has_form" sForm)
    (d6 : DefF K "is_link" sIsLnk)
    (d7 : DefF K "is_round" sIsRnd)
    (d8 : DefF K "may_stand" sMay)
    (d9 : DefF K "check_steps" sChkS)
    (d10 : DefF K "check_history" sChkH)
    (d11 : DefF K "nodes_in" sNIn)
    (d12 : DefF K "found_nodes" sFNd)
    (d13 : DefF K "chain_of_three" sC3)
    (d14 : DefF K "effect_difference" sEff)
    (d15 : DefF K "_law_start" sStart)
    (d16 : DefF K "_law_take" sTake)
    (d17 : DefF K "_law_of" sOf)
    (d18 : DefF K "_law_shuffled" sShuf)
    (d19 : DefF K "_law_field" sField)
    (d20 : DefF K "_law_outcome" sOut)
    (d21 : DefF K "_law_error" sErr)
    (d22 : DefF K "_law_path" sPath)
    (d23 : DefF K "_law_root" sRoot)
    (d24 : DefF K "_law_renamed" sRen)
    (d25 : DefF K "_law_forest" sFor)
    (d26 : DefF K "_law_find" sLFind)
    (d27 : DefF K "_law_found" sLFound)
    (d28 : DefF K "_law_strange" sStrange)
    (d29 : DefF K "_law_tuples" sTup)
    (d30 : DefF K "_law_step" sStep)
    (d31 : DefF K "_law_rounds" sRounds)
    (d32 : DefF K "_law_length" sLength)
    (d33 : DefF K "_law_expanded" sExpd)
    (d34 : DefF K "_law_result" sRes)
    (z_len : PySem.W.nsIn K mainGlobals "len" = some none)
    (z_range : PySem.W.nsIn K mainGlobals "range" = some none)
    (z_list : PySem.W.nsIn K mainGlobals "list" = some none)
    (z_tuple : PySem.W.nsIn K mainGlobals "tuple" = some none)
    (z_max : PySem.W.nsIn K mainGlobals "max" = some none)
    (z_min : PySem.W.nsIn K mainGlobals "min" = some none)
    (z_isinstance : PySem.W.nsIn K mainGlobals "isinstance" = some none)
    (z_bool : PySem.W.nsIn K mainGlobals "bool" = some none)
    (z_int : PySem.W.nsIn K mainGlobals "int" = some none)
    (z_str : PySem.W.nsIn K mainGlobals "str" = some none)
    (z_all : PySem.W.nsIn K mainGlobals "all" = some none)
    (z_zip : PySem.W.nsIn K mainGlobals "zip" = some none)
    (z_set : PySem.W.nsIn K mainGlobals "set" = some none)
    (z_sorted : PySem.W.nsIn K mainGlobals "sorted" = some none)
    (z_sum : PySem.W.nsIn K mainGlobals "sum" = some none)
    (z_ValueError : PySem.W.nsIn K mainGlobals "ValueError" = some none)
    (z_LookupError : PySem.W.nsIn K mainGlobals "LookupError" = some none)
    (z_enumerate : PySem.W.nsIn K mainGlobals "enumerate" = some none)
    (z_repr : PySem.W.nsIn K mainGlobals "repr" = some none)
    {fL c PT : Addr} {oc eL : Value} {od an ddL : Option Addr} {sl slL : Array (Option Value)} {kV dc pm ct : Value} {vsL : Array Value}
    (aL : PySem.W.nsIn K mainGlobals "law" = some (some (.ref fL))) (lL : K.lookup fL = some ⟨oc, od, .func (PySem.W.fnOf "law" "law" (defArgs sLaw) (defBody sLaw) (defScope sLaw) .none kV dc pm an (.ref c) ct), sl⟩) (cL : PySem.W.codeIn K (.ref c) "law" = true)
    (kL : K.lookup c = some ⟨eL, ddL, .fields vsL, slL⟩) (vL : vsL[11]? = some (.ref PT)) (hL : PySem.W.codeHdIn K c PT = true) (nL : K.lookup PT = none)
    {CForestError fForestError : Addr} {ocForestError : Value} {odForestError anForestError : Option Addr} {slForestError : Array (Option Value)} {kVForestError dcForestError pmForestError cdForestError ctForestError : Value}
    (aForestError : PySem.W.nsIn K mainGlobals "ForestError" = some (some (.ref CForestError))) (iForestError : PySem.W.findIn K (.ref CForestError) "__init__" = some (some (.ref fForestError))) (lForestError : K.lookup fForestError = some ⟨ocForestError, odForestError, .func (PySem.W.fnOf "__init__" "ForestError.__init__" (defArgs (initS sForE)) (defBody (initS sForE)) (defScope (initS sForE)) .none kVForestError dcForestError pmForestError anForestError cdForestError ctForestError), slForestError⟩)
    (cForestError : PySem.W.codeIn K cdForestError "ForestError.__init__" = true) (kForestError : PySem.W.keepIn K (.ref fForestError) = true)
    (rForestError : PySem.W.readsIn K CForestError (.type "type") = true) (mForestError : PySem.W.findCls K (.ref CForestError) (.type "type") "__init__" = some (.val (.ref fForestError))) (pForestError : PySem.W.specialIn K (.ref CForestError) "__getattribute__" = some (some (.builtin "type.__getattribute__"))) (qForestError : PySem.W.keepIn K (.ref CForestError) = true) (vForestError : PySem.W.findCls K (.type "ValueError") (.type "type") "__init__" = some (.val (.builtin "ValueError.__init__")))
    {CMissing fMissing : Addr} {ocMissing : Value} {odMissing anMissing : Option Addr} {slMissing : Array (Option Value)} {kVMissing dcMissing pmMissing cdMissing ctMissing : Value}
    (aMissing : PySem.W.nsIn K mainGlobals "Missing" = some (some (.ref CMissing))) (iMissing : PySem.W.findIn K (.ref CMissing) "__init__" = some (some (.ref fMissing))) (lMissing : K.lookup fMissing = some ⟨ocMissing, odMissing, .func (PySem.W.fnOf "__init__" "Missing.__init__" (defArgs (initS sMiss)) (defBody (initS sMiss)) (defScope (initS sMiss)) .none kVMissing dcMissing pmMissing anMissing cdMissing ctMissing), slMissing⟩)
    (cMissing : PySem.W.codeIn K cdMissing "Missing.__init__" = true) (kMissing : PySem.W.keepIn K (.ref fMissing) = true)
    (rMissing : PySem.W.readsIn K CMissing (.type "type") = true) (mMissing : PySem.W.findCls K (.ref CMissing) (.type "type") "__init__" = some (.val (.ref fMissing))) (pMissing : PySem.W.specialIn K (.ref CMissing) "__getattribute__" = some (some (.builtin "type.__getattribute__"))) (qMissing : PySem.W.keepIn K (.ref CMissing) = true) (vMissing : PySem.W.findCls K (.type "LookupError") (.type "type") "__init__" = some (.val (.builtin "LookupError.__init__")))
    {CNoNode fNoNode : Addr} {ocNoNode : Value} {odNoNode anNoNode : Option Addr} {slNoNode : Array (Option Value)} {kVNoNode dcNoNode pmNoNode cdNoNode ctNoNode : Value}
    (aNoNode : PySem.W.nsIn K mainGlobals "NoNode" = some (some (.ref CNoNode))) (iNoNode : PySem.W.findIn K (.ref CNoNode) "__init__" = some (some (.ref fNoNode))) (lNoNode : K.lookup fNoNode = some ⟨ocNoNode, odNoNode, .func (PySem.W.fnOf "__init__" "NoNode.__init__" (defArgs (initS sNoNode)) (defBody (initS sNoNode)) (defScope (initS sNoNode)) .none kVNoNode dcNoNode pmNoNode anNoNode cdNoNode ctNoNode), slNoNode⟩)
    (cNoNode : PySem.W.codeIn K cdNoNode "NoNode.__init__" = true) (kNoNode : PySem.W.keepIn K (.ref fNoNode) = true)
    (tNoNode : PySem.W.typeIn K (.ref fNoNode) = some (.type "function")) (uNoNode : PySem.W.excInitIn K CNoNode luTail "LookupError.__new__" = true) (oNoNode : PySem.W.excOver K CNoNode luTail = true) (hNoNode : PySem.W.hasDictIn K CNoNode = true) (saNoNode : PySem.W.findIn K (.ref CNoNode) "__setattr__" = some (some (.builtin "object.__setattr__"))) (bNoNode : PySem.W.subIn K (.ref CNoNode) (.type "BaseException") = some true)
    (yNoNode : PySem.W.typeIn K (.ref CNoNode) = some (.type "type")) (wNoNode : PySem.W.keepIn K (.ref CNoNode) = true) (nNoNode : PySem.W.findIn K (.ref CNoNode) "tag" = some none) (gNoNode : PySem.W.findIn K (.ref CNoNode) "node" = some none) (xNoNode : PySem.W.findIn K (.ref CNoNode) "__getattribute__" = some (some (.builtin "BaseException.__getattribute__"))) (jNoNode : PySem.W.findIn K (.ref CNoNode) "__getattr__" = some none)
    (zNoNode : PySem.W.exmAny K (.ref CNoNode) [.ref CForestError, .ref CMissing] = some true)
    {CBadStep fBadStep : Addr} {ocBadStep : Value} {odBadStep anBadStep : Option Addr} {slBadStep : Array (Option Value)} {kVBadStep dcBadStep pmBadStep cdBadStep ctBadStep : Value}
    (aBadStep : PySem.W.nsIn K mainGlobals "BadStep" = some (some (.ref CBadStep))) (iBadStep : PySem.W.findIn K (.ref CBadStep) "__init__" = some (some (.ref fBadStep))) (lBadStep : K.lookup fBadStep = some ⟨ocBadStep, odBadStep, .func (PySem.W.fnOf "__init__" "BadStep.__init__" (defArgs (initS sE_BadStep)) (defBody (initS sE_BadStep)) (defScope (initS sE_BadStep)) .none kVBadStep dcBadStep pmBadStep anBadStep cdBadStep ctBadStep), slBadStep⟩)
    (cBadStep : PySem.W.codeIn K cdBadStep "BadStep.__init__" = true) (kBadStep : PySem.W.keepIn K (.ref fBadStep) = true)
    (tBadStep : PySem.W.typeIn K (.ref fBadStep) = some (.type "function")) (uBadStep : PySem.W.excInitIn K CBadStep vaTail "ValueError.__new__" = true) (oBadStep : PySem.W.excOver K CBadStep vaTail = true) (hBadStep : PySem.W.hasDictIn K CBadStep = true) (saBadStep : PySem.W.findIn K (.ref CBadStep) "__setattr__" = some (some (.builtin "object.__setattr__"))) (bBadStep : PySem.W.subIn K (.ref CBadStep) (.type "BaseException") = some true)
    (yBadStep : PySem.W.typeIn K (.ref CBadStep) = some (.type "type")) (wBadStep : PySem.W.keepIn K (.ref CBadStep) = true) (nBadStep : PySem.W.findIn K (.ref CBadStep) "tag" = some none) (gBadStep : PySem.W.findIn K (.ref CBadStep) "pos" = some none) (xBadStep : PySem.W.findIn K (.ref CBadStep) "__getattribute__" = some (some (.builtin "BaseException.__getattribute__"))) (jBadStep : PySem.W.findIn K (.ref CBadStep) "__getattr__" = some none)
    (zBadStep : PySem.W.exmAny K (.ref CBadStep) [.ref CForestError, .ref CMissing] = some true)
    {CTooManyNodes fTooManyNodes : Addr} {ocTooManyNodes : Value} {odTooManyNodes anTooManyNodes : Option Addr} {slTooManyNodes : Array (Option Value)} {kVTooManyNodes dcTooManyNodes pmTooManyNodes cdTooManyNodes ctTooManyNodes : Value}
    (aTooManyNodes : PySem.W.nsIn K mainGlobals "TooManyNodes" = some (some (.ref CTooManyNodes))) (iTooManyNodes : PySem.W.findIn K (.ref CTooManyNodes) "__init__" = some (some (.ref fTooManyNodes))) (lTooManyNodes : K.lookup fTooManyNodes = some ⟨ocTooManyNodes, odTooManyNodes, .func (PySem.W.fnOf "__init__" "TooManyNodes.__init__" (defArgs (initS sTooMany)) (defBody (initS sTooMany)) (defScope (initS sTooMany)) .none kVTooManyNodes dcTooManyNodes pmTooManyNodes anTooManyNodes cdTooManyNodes ctTooManyNodes), slTooManyNodes⟩)
    (cTooManyNodes : PySem.W.codeIn K cdTooManyNodes "TooManyNodes.__init__" = true) (kTooManyNodes : PySem.W.keepIn K (.ref fTooManyNodes) = true)
    (tTooManyNodes : PySem.W.typeIn K (.ref fTooManyNodes) = some (.type "function")) (uTooManyNodes : PySem.W.excInitIn K CTooManyNodes vaTail "ValueError.__new__" = true) (oTooManyNodes : PySem.W.excOver K CTooManyNodes vaTail = true) (hTooManyNodes : PySem.W.hasDictIn K CTooManyNodes = true) (saTooManyNodes : PySem.W.findIn K (.ref CTooManyNodes) "__setattr__" = some (some (.builtin "object.__setattr__"))) (bTooManyNodes : PySem.W.subIn K (.ref CTooManyNodes) (.type "BaseException") = some true)
    (yTooManyNodes : PySem.W.typeIn K (.ref CTooManyNodes) = some (.type "type")) (wTooManyNodes : PySem.W.keepIn K (.ref CTooManyNodes) = true) (nTooManyNodes : PySem.W.findIn K (.ref CTooManyNodes) "tag" = some none) (gTooManyNodes : PySem.W.findIn K (.ref CTooManyNodes) "limit" = some none) (xTooManyNodes : PySem.W.findIn K (.ref CTooManyNodes) "__getattribute__" = some (some (.builtin "BaseException.__getattribute__"))) (jTooManyNodes : PySem.W.findIn K (.ref CTooManyNodes) "__getattr__" = some none)
    (zTooManyNodes : PySem.W.exmAny K (.ref CTooManyNodes) [.ref CForestError, .ref CMissing] = some true)
    {CBadParent fBadParent : Addr} {ocBadParent : Value} {odBadParent anBadParent : Option Addr} {slBadParent : Array (Option Value)} {kVBadParent dcBadParent pmBadParent cdBadParent ctBadParent : Value}
    (aBadParent : PySem.W.nsIn K mainGlobals "BadParent" = some (some (.ref CBadParent))) (iBadParent : PySem.W.findIn K (.ref CBadParent) "__init__" = some (some (.ref fBadParent))) (lBadParent : K.lookup fBadParent = some ⟨ocBadParent, odBadParent, .func (PySem.W.fnOf "__init__" "BadParent.__init__" (defArgs (initS sBadPar)) (defBody (initS sBadPar)) (defScope (initS sBadPar)) .none kVBadParent dcBadParent pmBadParent anBadParent cdBadParent ctBadParent), slBadParent⟩)
    (cBadParent : PySem.W.codeIn K cdBadParent "BadParent.__init__" = true) (kBadParent : PySem.W.keepIn K (.ref fBadParent) = true)
    (tBadParent : PySem.W.typeIn K (.ref fBadParent) = some (.type "function")) (uBadParent : PySem.W.excInitIn K CBadParent vaTail "ValueError.__new__" = true) (oBadParent : PySem.W.excOver K CBadParent vaTail = true) (hBadParent : PySem.W.hasDictIn K CBadParent = true) (saBadParent : PySem.W.findIn K (.ref CBadParent) "__setattr__" = some (some (.builtin "object.__setattr__"))) (bBadParent : PySem.W.subIn K (.ref CBadParent) (.type "BaseException") = some true)
    (yBadParent : PySem.W.typeIn K (.ref CBadParent) = some (.type "type")) (wBadParent : PySem.W.keepIn K (.ref CBadParent) = true) (nBadParent : PySem.W.findIn K (.ref CBadParent) "tag" = some none) (gBadParent : PySem.W.findIn K (.ref CBadParent) "node" = some none) (xBadParent : PySem.W.findIn K (.ref CBadParent) "__getattribute__" = some (some (.builtin "BaseException.__getattribute__"))) (jBadParent : PySem.W.findIn K (.ref CBadParent) "__getattr__" = some none)
    (zBadParent : PySem.W.exmAny K (.ref CBadParent) [.ref CForestError, .ref CMissing] = some true)
    {CCycle fCycle : Addr} {ocCycle : Value} {odCycle anCycle : Option Addr} {slCycle : Array (Option Value)} {kVCycle dcCycle pmCycle cdCycle ctCycle : Value}
    (aCycle : PySem.W.nsIn K mainGlobals "Cycle" = some (some (.ref CCycle))) (iCycle : PySem.W.findIn K (.ref CCycle) "__init__" = some (some (.ref fCycle))) (lCycle : K.lookup fCycle = some ⟨ocCycle, odCycle, .func (PySem.W.fnOf "__init__" "Cycle.__init__" (defArgs (initS sCycle)) (defBody (initS sCycle)) (defScope (initS sCycle)) .none kVCycle dcCycle pmCycle anCycle cdCycle ctCycle), slCycle⟩)
    (cCycle : PySem.W.codeIn K cdCycle "Cycle.__init__" = true) (kCycle : PySem.W.keepIn K (.ref fCycle) = true)
    (tCycle : PySem.W.typeIn K (.ref fCycle) = some (.type "function")) (uCycle : PySem.W.excInitIn K CCycle vaTail "ValueError.__new__" = true) (oCycle : PySem.W.excOver K CCycle vaTail = true) (hCycle : PySem.W.hasDictIn K CCycle = true) (saCycle : PySem.W.findIn K (.ref CCycle) "__setattr__" = some (some (.builtin "object.__setattr__"))) (bCycle : PySem.W.subIn K (.ref CCycle) (.type "BaseException") = some true)
    (yCycle : PySem.W.typeIn K (.ref CCycle) = some (.type "type")) (wCycle : PySem.W.keepIn K (.ref CCycle) = true) (nCycle : PySem.W.findIn K (.ref CCycle) "tag" = some none) (gCycle : PySem.W.findIn K (.ref CCycle) "node" = some none) (xCycle : PySem.W.findIn K (.ref CCycle) "__getattribute__" = some (some (.builtin "BaseException.__getattribute__"))) (jCycle : PySem.W.findIn K (.ref CCycle) "__getattr__" = some none)
    (zCycle : PySem.W.exmAny K (.ref CCycle) [.ref CForestError, .ref CMissing] = some true)
    {CEmptyHistory : Addr} (aEmptyHistory : PySem.W.nsIn K mainGlobals "EmptyHistory" = some (some (.ref CEmptyHistory)))
    {tM : Tok} (aMX : PySem.W.nsIn K mainGlobals "MAX_NODES" = some (some (.int 40 tM)))
    (mTooManyNodes : PySem.W.exmAny K (.ref CTooManyNodes) [.ref CTooManyNodes, .ref CBadParent, .ref CCycle] = some true)
    (mBadParent : PySem.W.exmAny K (.ref CBadParent) [.ref CTooManyNodes, .ref CBadParent, .ref CCycle] = some true)
    (mCycle : PySem.W.exmAny K (.ref CCycle) [.ref CTooManyNodes, .ref CBadParent, .ref CCycle] = some true)
    {tL : Tok} (aCL : PySem.W.nsIn K mainGlobals "COUNT_LIMIT" = some (some (.int 1000000000000000000000000000000 tL)))
    {tN : Tok} (aMN : PySem.W.nsIn K mainGlobals "MAX_NESTING" = some (some (.int 4 tN)))
    {tS : Tok} (aMS : PySem.W.nsIn K mainGlobals "MAX_STEPS" = some (some (.int 100 tS)))
    : RpH.LawG l w K 18 63 "_law_script" mg fa h := by
  obtain ⟨f_0, fd_0, F_0, g_0⟩ := d0.get X G
  obtain ⟨f_1, fd_1, F_1, g_1⟩ := d1.get X G
  obtain ⟨f_2, fd_2, F_2, g_2⟩ := d2.get X G
  obtain ⟨f_3, fd_3, F_3, g_3⟩ := d3.get X G
  obtain ⟨f_4, fd_4, F_4, g_4⟩ := d4.get X G
  obtain ⟨f_5, fd_5, F_5, g_5⟩ := d5.get X G
  obtain ⟨f_6, fd_6, F_6, g_6⟩ := d6.get X G
  obtain ⟨f_7, fd_7, F_7, g_7⟩ := d7.get X G
  obtain ⟨f_8, fd_8, F_8, g_8⟩ := d8.get X G
  obtain ⟨f_9, fd_9, F_9, g_9⟩ := d9.get X G
  obtain ⟨f_10, fd_10, F_10, g_10⟩ := d10.get X G
  obtain ⟨f_11, fd_11, F_11, g_11⟩ := d11.get X G
  obtain ⟨f_12, fd_12, F_12, g_12⟩ := d12.get X G
  obtain ⟨f_13, fd_13, F_13, g_13⟩ := d13.get X G
  obtain ⟨f_14, fd_14, F_14, g_14⟩ := d14.get X G
  obtain ⟨f_15, fd_15, F_15, g_15⟩ := d15.get X G
  obtain ⟨f_16, fd_16, F_16, g_16⟩ := d16.get X G
  obtain ⟨f_17, fd_17, F_17, g_17⟩ := d17.get X G
  obtain ⟨f_18, fd_18, F_18, g_18⟩ := d18.get X G
  obtain ⟨f_19, fd_19, F_19, g_19⟩ := d19.get X G
  obtain ⟨f_20, fd_20, F_20, g_20⟩ := d20.get X G
  obtain ⟨f_21, fd_21, F_21, g_21⟩ := d21.get X G
  obtain ⟨f_22, fd_22, F_22, g_22⟩ := d22.get X G
  obtain ⟨f_23, fd_23, F_23, g_23⟩ := d23.get X G
  obtain ⟨f_24, fd_24, F_24, g_24⟩ := d24.get X G
  obtain ⟨f_25, fd_25, F_25, g_25⟩ := d25.get X G
  obtain ⟨f_26, fd_26, F_26, g_26⟩ := d26.get X G
  obtain ⟨f_27, fd_27, F_27, g_27⟩ := d27.get X G
  obtain ⟨f_28, fd_28, F_28, g_28⟩ := d28.get X G
  obtain ⟨f_29, fd_29, F_29, g_29⟩ := d29.get X G
  obtain ⟨f_30, fd_30, F_30, g_30⟩ := d30.get X G
  obtain ⟨f_31, fd_31, F_31, g_31⟩ := d31.get X G
  obtain ⟨f_32, fd_32, F_32, g_32⟩ := d32.get X G
  obtain ⟨f_33, fd_33, F_33, g_33⟩ := d33.get X G
  obtain ⟨f_34, fd_34, F_34, g_34⟩ := d34.get X G
  have e := hfa.symm.trans (PySem.W.mg_of X G aL)
  cases e
  replace z_len := PySem.W.mg_none_of X G z_len
  replace z_range := PySem.W.mg_none_of X G z_range
  replace z_list := PySem.W.mg_none_of X G z_list
  replace z_tuple := PySem.W.mg_none_of X G z_tuple
  replace z_max := PySem.W.mg_none_of X G z_max
  replace z_min := PySem.W.mg_none_of X G z_min
  replace z_isinstance := PySem.W.mg_none_of X G z_isinstance
  replace z_bool := PySem.W.mg_none_of X G z_bool
  replace z_int := PySem.W.mg_none_of X G z_int
  replace z_str := PySem.W.mg_none_of X G z_str
  replace z_all := PySem.W.mg_none_of X G z_all
  replace z_zip := PySem.W.mg_none_of X G z_zip
  replace z_set := PySem.W.mg_none_of X G z_set
  replace z_sorted := PySem.W.mg_none_of X G z_sorted
  replace z_sum := PySem.W.mg_none_of X G z_sum
  replace z_ValueError := PySem.W.mg_none_of X G z_ValueError
  replace z_LookupError := PySem.W.mg_none_of X G z_LookupError
  replace z_enumerate := PySem.W.mg_none_of X G z_enumerate
  replace z_repr := PySem.W.mg_none_of X G z_repr
  have T : Tx mg := ⟨z_len, z_range, z_list, z_tuple, z_max, z_min⟩
  have TS : TxS mg := ⟨z_isinstance, z_list, z_tuple, z_bool, z_int, z_str, z_len, z_all, z_zip⟩
  have GForestError := PySem.W.mg_of X G aForestError
  have GMissing := PySem.W.mg_of X G aMissing
  have GNoNode := PySem.W.mg_of X G aNoNode
  have GBadStep := PySem.W.mg_of X G aBadStep
  have GTooManyNodes := PySem.W.mg_of X G aTooManyNodes
  have GBadParent := PySem.W.mg_of X G aBadParent
  have GCycle := PySem.W.mg_of X G aCycle
  have GEmptyHistory := PySem.W.mg_of X G aEmptyHistory
  have gM := PySem.W.mg_of X G aMX
  have gL := PySem.W.mg_of X G aCL
  have gN := PySem.W.mg_of X G aMN
  have gS := PySem.W.mg_of X G aMS
  have hP := own c PT _ _ _ _ _ _ lL rfl rfl kL vL
  refine ⟨PySem.W.fnOf "law" "law" (defArgs sLaw) (defBody sLaw) (defScope sLaw) .none kV dc pm an (.ref c) ct, [(c, PT)], spLawT K PT, fun p hp => ?_, fun p hp => ?_, fun p hp => ?_, fun s v => .of_eq rfl, fun H a ns hl hH hS => ⟨a, ns, rfl, hH (c, PT) (List.mem_singleton.mpr rfl), hS, hl, fun _ => rfl⟩, fun base _ _ hTB => ?_⟩
  · rw [List.mem_singleton.mp hp]; exact hP
  · rw [List.mem_singleton.mp hp]; exact nL
  · rw [List.mem_singleton.mp hp]; exact PySem.W.codeHd_of_K X hL
  have TB := hTB (c, PT) (List.mem_singleton.mpr rfl)
  have b_0 := F_0.binds (ps := ["parents", "node"]) fun _ _ _ _ _ _ us hl => match us, hl with | [_, _], _ => rfl
  have b_1 := F_1.binds (ps := ["parents"]) fun _ _ _ _ _ _ us hl => match us, hl with | [_], _ => rfl
  have b_2 := F_2.binds (ps := ["parents"]) fun _ _ _ _ _ _ us hl => match us, hl with | [_], _ => rfl
  have b_3 := F_3.binds (ps := ["size", "node"]) fun _ _ _ _ _ _ us hl => match us, hl with | [_, _], _ => rfl
  have b_4 := F_4.binds (ps := ["step"]) fun _ _ _ _ _ _ us hl => match us, hl with | [_], _ => rfl
  have b_5 := F_5.binds (ps := ["step", "word"]) fun _ _ _ _ _ _ us hl => match us, hl with | [_, _], _ => rfl
  have b_6 := F_6.binds (ps := ["step"]) fun _ _ _ _ _ _ us hl => match us, hl with | [_], _ => rfl
  have b_7 := F_7.binds (ps := ["step"]) fun _ _ _ _ _ _ us hl => match us, hl with | [_], _ => rfl
  have b_8 := F_8.binds (ps := ["step", "depth"]) fun _ _ _ _ _ _ us hl => match us, hl with | [_, _], _ => rfl
  have b_9 := F_9.binds (ps := ["steps", "depth", "pos"]) fun _ _ _ _ _ _ us hl => match us, hl with | [_, _, _], _ => rfl
  have b_10 := F_10.binds (ps := ["history"]) fun _ _ _ _ _ _ us hl => match us, hl with | [_], _ => rfl
  have b_11 := F_11.binds (ps := ["steps"]) fun _ _ _ _ _ _ us hl => match us, hl with | [_], _ => rfl
  have b_12 := F_12.binds (ps := ["history"]) fun _ _ _ _ _ _ us hl => match us, hl with | [_], _ => rfl
  have b_13 := F_13.binds (ps := ["size", "node"]) fun _ _ _ _ _ _ us hl => match us, hl with | [_, _], _ => rfl
  have b_14 := F_14.binds (ps := ["one", "other", "size"]) fun _ _ _ _ _ _ us hl => match us, hl with | [_, _, _], _ => rfl
  have b_15 := F_15.binds (ps := ["_law_script"]) fun _ _ _ _ _ _ us hl => match us, hl with | [_], _ => rfl
  have b_16 := F_16.binds (ps := ["_law_draw", "_law_many"]) fun _ _ _ _ _ _ us hl => match us, hl with | [_, _], _ => rfl
  have b_17 := F_17.binds (ps := ["_law_draw", "_law_some"]) fun _ _ _ _ _ _ us hl => match us, hl with | [_, _], _ => rfl
  have b_18 := F_18.binds (ps := ["_law_draw", "_law_some"]) fun _ _ _ _ _ _ us hl => match us, hl with | [_, _], _ => rfl
  have b_19 := F_19.binds (ps := ["_law_e"]) fun _ _ _ _ _ _ us hl => match us, hl with | [_], _ => rfl
  have b_20 := F_20.binds (ps := ["_law_ask"]) fun _ _ _ _ _ _ us hl => match us, hl with | [_], _ => rfl
  have b_21 := F_21.binds (ps := ["_law_ask"]) fun _ _ _ _ _ _ us hl => match us, hl with | [_], _ => rfl
  have b_22 := F_22.binds (ps := ["_law_forest_here", "_law_node"]) fun _ _ _ _ _ _ us hl => match us, hl with | [_, _], _ => rfl
  have b_23 := F_23.binds (ps := ["_law_forest_here", "_law_node"]) fun _ _ _ _ _ _ us hl => match us, hl with | [_, _], _ => rfl
  have b_24 := F_24.binds (ps := ["_law_draw", "_law_parents"]) fun _ _ _ _ _ _ us hl => match us, hl with | [_, _], _ => rfl
  have b_25 := F_25.binds (ps := ["_law_draw", "_law_size_in", "_law_many"]) fun _ _ _ _ _ _ us hl => match us, hl with | [_, _, _], _ => rfl
  have b_26 := F_26.binds (ps := ["_law_forest_here", "_law_node"]) fun _ _ _ _ _ _ us hl => match us, hl with | [_, _], _ => rfl
  have b_27 := F_27.binds (ps := ["_law_forest_here", "_law_nodes"]) fun _ _ _ _ _ _ us hl => match us, hl with | [_, _], _ => rfl
  have b_28 := F_28.binds (ps := ["_law_draw", "_law_size_in"]) fun _ _ _ _ _ _ us hl => match us, hl with | [_, _], _ => rfl
  have b_29 := F_29.binds (ps := ["_law_size_in"]) fun _ _ _ _ _ _ us hl => match us, hl with | [_], _ => rfl
  have b_30 := F_30.binds (ps := ["_law_draw", "_law_size_in", "_law_deep"]) fun _ _ _ _ _ _ us hl => match us, hl with | [_, _, _], _ => rfl
  have b_31 := F_31.binds (ps := ["_law_draw", "_law_size_in", "_law_most", "_law_deep"]) fun _ _ _ _ _ _ us hl => match us, hl with | [_, _, _, _], _ => rfl
  have b_32 := F_32.binds (ps := ["_law_steps"]) fun _ _ _ _ _ _ us hl => match us, hl with | [_], _ => rfl
  have b_33 := F_33.binds (ps := ["_law_steps", "_law_most"]) fun _ _ _ _ _ _ us hl => match us, hl with | [_, _], _ => rfl
  have b_34 := F_34.binds (ps := ["_law_forest_here", "_law_steps"]) fun _ _ _ _ _ _ us hl => match us, hl with | [_, _], _ => rfl
  have HForestError : Fun K "__init__" "ForestError.__init__" (initS sForE) fForestError _ := fun_mk (st := initS sForE) lForestError cForestError kForestError
  have IForestError : FnOk l.prog w K mg base CX0 1 fForestError _ ["self", "tag", "message"] (spTop K "ValueError.__new__" vaTail) := ok_forEI HForestError z_ValueError vForestError
  have JForestError := HForestError.binds (ps := ["self", "tag", "message"]) fun _ _ _ _ _ _ us hl => match us, hl with | [_, _, _], _ => rfl
  have LForestError : ClsI K CForestError fForestError := ⟨rForestError, mForestError, pForestError, kForestError, qForestError⟩
  have HMissing : Fun K "__init__" "Missing.__init__" (initS sMiss) fMissing _ := fun_mk (st := initS sMiss) lMissing cMissing kMissing
  have IMissing : FnOk l.prog w K mg base CX0 1 fMissing _ ["self", "tag", "message"] (spTop K "LookupError.__new__" luTail) := ok_missI HMissing z_LookupError vMissing
  have JMissing := HMissing.binds (ps := ["self", "tag", "message"]) fun _ _ _ _ _ _ us hl => match us, hl with | [_, _, _], _ => rfl
  have LMissing : ClsI K CMissing fMissing := ⟨rMissing, mMissing, pMissing, kMissing, qMissing⟩
  have HNoNode : Fun K "__init__" "NoNode.__init__" (initS sNoNode) fNoNode _ := fun_mk (st := initS sNoNode) lNoNode cNoNode kNoNode
  have JNoNode := HNoNode.binds (ps := ["self", "node"]) fun _ _ _ _ _ _ us hl => match us, hl with | [_, _], _ => rfl
  have RNoNode : Raisable l.prog w K mg base 2 "NoNode" CNoNode "node" "NoNode" := ⟨⟨_, _, _, _, fNoNode, _, PySem.F.excBase_LookupError, ⟨uNoNode, oNoNode, hNoNode, saNoNode, bNoNode, yNoNode, wNoNode⟩, iNoNode, tNoNode, ok_noNodeI HNoNode LMissing GMissing IMissing JMissing, JNoNode⟩, GNoNode, nNoNode, gNoNode, ⟨xNoNode, jNoNode, bNoNode, hNoNode⟩⟩
  have HBadStep : Fun K "__init__" "BadStep.__init__" (initS sE_BadStep) fBadStep _ := fun_mk (st := initS sE_BadStep) lBadStep cBadStep kBadStep
  have JBadStep := HBadStep.binds (ps := ["self", "pos"]) fun _ _ _ _ _ _ us hl => match us, hl with | [_, _], _ => rfl
  have RBadStep : Raisable l.prog w K mg base 2 "BadStep" CBadStep "pos" "BadStep" := ⟨⟨_, _, _, _, fBadStep, _, PySem.F.excBase_ValueError, ⟨uBadStep, oBadStep, hBadStep, saBadStep, bBadStep, yBadStep, wBadStep⟩, iBadStep, tBadStep, ok_E_BadStep HBadStep LForestError GForestError IForestError JForestError, JBadStep⟩, GBadStep, nBadStep, gBadStep, ⟨xBadStep, jBadStep, bBadStep, hBadStep⟩⟩
  have HTooManyNodes : Fun K "__init__" "TooManyNodes.__init__" (initS sTooMany) fTooManyNodes _ := fun_mk (st := initS sTooMany) lTooManyNodes cTooManyNodes kTooManyNodes
  have JTooManyNodes := HTooManyNodes.binds (ps := ["self", "limit"]) fun _ _ _ _ _ _ us hl => match us, hl with | [_, _], _ => rfl
  have RTooManyNodes : Raisable l.prog w K mg base 2 "TooManyNodes" CTooManyNodes "limit" "TooManyNodes" := ⟨⟨_, _, _, _, fTooManyNodes, _, PySem.F.excBase_ValueError, ⟨uTooManyNodes, oTooManyNodes, hTooManyNodes, saTooManyNodes, bTooManyNodes, yTooManyNodes, wTooManyNodes⟩, iTooManyNodes, tTooManyNodes, ok_tooManyI HTooManyNodes LForestError GForestError IForestError JForestError, JTooManyNodes⟩, GTooManyNodes, nTooManyNodes, gTooManyNodes, ⟨xTooManyNodes, jTooManyNodes, bTooManyNodes, hTooManyNodes⟩⟩
  have HBadParent : Fun K "__init__" "BadParent.__init__" (initS sBadPar) fBadParent _ := fun_mk (st := initS sBadPar) lBadParent cBadParent kBadParent
  have JBadParent := HBadParent.binds (ps := ["self", "node"]) fun _ _ _ _ _ _ us hl => match us, hl with | [_, _], _ => rfl
  have RBadParent : Raisable l.prog w K mg base 2 "BadParent" CBadParent "node" "BadParent" := ⟨⟨_, _, _, _, fBadParent, _, PySem.F.excBase_ValueError, ⟨uBadParent, oBadParent, hBadParent, saBadParent, bBadParent, yBadParent, wBadParent⟩, iBadParent, tBadParent, ok_badParI HBadParent LForestError GForestError IForestError JForestError, JBadParent⟩, GBadParent, nBadParent, gBadParent, ⟨xBadParent, jBadParent, bBadParent, hBadParent⟩⟩
  have HCycle : Fun K "__init__" "Cycle.__init__" (initS sCycle) fCycle _ := fun_mk (st := initS sCycle) lCycle cCycle kCycle
  have JCycle := HCycle.binds (ps := ["self", "node"]) fun _ _ _ _ _ _ us hl => match us, hl with | [_, _], _ => rfl
  have RCycle : Raisable l.prog w K mg base 2 "Cycle" CCycle "node" "Cycle" := ⟨⟨_, _, _, _, fCycle, _, PySem.F.excBase_ValueError, ⟨uCycle, oCycle, hCycle, saCycle, bCycle, yCycle, wCycle⟩, iCycle, tCycle, ok_cycleI HCycle LForestError GForestError IForestError JForestError, JCycle⟩, GCycle, nCycle, gCycle, ⟨xCycle, jCycle, bCycle, hCycle⟩⟩
  have k_0 : Kn l.prog w K mg base 1 "leads_to_root" sLeads ["parents", "node"] (spLeads K) f_0 fd_0 := ⟨F_0, ok_leads F_0 T, b_0, g_0⟩
  have k_3 : Kn l.prog w K mg base 1 "check_number" sNum ["size", "node"] spNum f_3 fd_3 := ⟨F_3, ok_num F_3 , b_3, g_3⟩
  have k_4 : Kn l.prog w K mg base 1 "is_find" sIsFnd ["step"] spIsFnd f_4 fd_4 := ⟨F_4, ok_isFnd F_4 TS, b_4, g_4⟩
  have k_5 : Kn l.prog w K mg base 1 "has_form" sForm ["step", "word"] spForm f_5 fd_5 := ⟨F_5, ok_form F_5 T TS, b_5, g_5⟩
  have k_6 : Kn l.prog w K mg base 2 "is_link" sIsLnk ["step"] spIsLnk f_6 fd_6 := ⟨F_6, ok_isLnk F_6 k_5 TS, b_6, g_6⟩
  have k_7 : Kn l.prog w K mg base 2 "is_round" sIsRnd ["step"] spIsRnd f_7 fd_7 := ⟨F_7, ok_isRnd F_7 k_5 TS gL, b_7, g_7⟩
  have k_8 : Kn l.prog w K mg base 3 "may_stand" sMay ["step", "depth"] spMay f_8 fd_8 := ⟨F_8, ok_may F_8 k_6 k_7 k_4 gN, b_8, g_8⟩
  have k_9 : Kn l.prog w K mg base 8 "check_steps" sChkS ["steps", "depth", "pos"] (spChkS 4) f_9 fd_9 := ⟨F_9, ok_chkS F_9 k_8 k_7 b_9 g_9 gS 4, b_9, g_9⟩
  have k_10 : Kn l.prog w K mg base 9 "check_history" sChkH ["history"] (spChkH 4) f_10 fd_10 := ⟨F_10, ok_chkH F_10 4 k_9, b_10, g_10⟩
  have k_11 : Kn l.prog w K mg base 7 "nodes_in" sNIn ["steps"] (spNIn 4) f_11 fd_11 := ⟨F_11, ok_nin F_11 k_4 k_7 b_11 g_11 4, b_11, g_11⟩
  have k_12 : Kn l.prog w K mg base 10 "found_nodes" sFNd ["history"] (spFNd 4) f_12 fd_12 := ⟨F_12, ok_fnd F_12 4 k_10 k_11 z_set z_sorted, b_12, g_12⟩
  have k_13 : Kn l.prog w K mg base 1 "chain_of_three" sC3 ["size", "node"] spC3 f_13 fd_13 := ⟨F_13, ok_c3 F_13 T, b_13, g_13⟩
  have k_15 : Kn l.prog w K mg base 1 "_law_start" sStart ["_law_script"] (spStart K) f_15 fd_15 := ⟨F_15, ok_start F_15 T, b_15, g_15⟩
  have k_16 : Kn l.prog w K mg base 1 "_law_take" sTake ["_law_draw", "_law_many"] spTake f_16 fd_16 := ⟨F_16, ok_take F_16 T.len, b_16, g_16⟩
  have k_17 : Kn l.prog w K mg base 2 "_law_of" sOf ["_law_draw", "_law_some"] (spOf K) f_17 fd_17 := ⟨F_17, ok_of F_17 k_16.G k_16.F k_16.b k_16.g T, b_17, g_17⟩
  have k_18 : Kn l.prog w K mg base 2 "_law_shuffled" sShuf ["_law_draw", "_law_some"] (spShuf K) f_18 fd_18 := ⟨F_18, ok_shuf F_18 k_16.G k_16.F k_16.b k_16.g T, b_18, g_18⟩
  have k_22 : Kn l.prog w K mg base 1 "_law_path" sPath ["_law_forest_here", "_law_node"] (spPath K) f_22 fd_22 := ⟨F_22, ok_path F_22 T, b_22, g_22⟩
  have k_23 : Kn l.prog w K mg base 2 "_law_root" sRoot ["_law_forest_here", "_law_node"] (spRoot K) f_23 fd_23 := ⟨F_23, ok_root F_23 k_22.G k_22.F k_22.b k_22.g, b_23, g_23⟩
  have k_24 : Kn l.prog w K mg base 3 "_law_renamed" sRen ["_law_draw", "_law_parents"] (spRen K) f_24 fd_24 := ⟨F_24, ok_ren F_24 k_18.G k_18.F k_18.b k_18.g T, b_24, g_24⟩
  have k_25 : Kn l.prog w K mg base 4 "_law_forest" sFor ["_law_draw", "_law_size_in", "_law_many"] spFor f_25 fd_25 := ⟨F_25, ok_for F_25 k_16.G k_16.F k_16.b k_16.g k_24.G k_24.F k_24.b k_24.g T, b_25, g_25⟩
  have k_26 : Kn l.prog w K mg base 3 "_law_find" sLFind ["_law_forest_here", "_law_node"] (spFind K) f_26 fd_26 := ⟨F_26, ok_lFind F_26 k_23 T, b_26, g_26⟩
  have k_27 : Kn l.prog w K mg base 4 "_law_found" sLFound ["_law_forest_here", "_law_nodes"] (spFindAll K) f_27 fd_27 := ⟨F_27, ok_lFound F_27 k_26, b_27, g_27⟩
  have k_28 : Kn l.prog w K mg base 3 "_law_strange" sStrange ["_law_draw", "_law_size_in"] spStrange f_28 fd_28 := ⟨F_28, ok_strange F_28 k_16 k_17, b_28, g_28⟩
  have k_29 : Kn l.prog w K mg base 1 "_law_tuples" sTup ["_law_size_in"] spTup f_29 fd_29 := ⟨F_29, ok_tup F_29 T, b_29, g_29⟩
  have k_30 : Kn l.prog w K mg base 4 "_law_step" sStep ["_law_draw", "_law_size_in", "_law_deep"] (spStep 1) f_30 fd_30 := ⟨F_30, ok_step F_30 k_16 k_17 b_30 g_30 T 1, b_30, g_30⟩
  have k_31 : Kn l.prog w K mg base 5 "_law_rounds" sRounds ["_law_draw", "_law_size_in", "_law_most", "_law_deep"] (spRounds 1) f_31 fd_31 := ⟨F_31, ok_rounds F_31 1 k_16 k_30 T, b_31, g_31⟩
  have k_32 : Kn l.prog w K mg base 5 "_law_length" sLength ["_law_steps"] (spLength 4) f_32 fd_32 := ⟨F_32, ok_length F_32 TS b_32 g_32 4, b_32, g_32⟩
  have k_33 : Kn l.prog w K mg base 6 "_law_expanded" sExpd ["_law_steps", "_law_most"] (spExpd 4) f_33 fd_33 := ⟨F_33, ok_expd F_33 T TS (fun m => ⟨F_32, ok_length F_32 TS b_32 g_32 m, b_32, g_32⟩) b_33 g_33 4, b_33, g_33⟩
  have x_num : KnX l.prog w K mg base 4 "check_number" ["size", "node"] (spNumX CNoNode) f_3 fd_3 := ⟨F_3.kp, okX_num F_3 RNoNode, b_3, g_3⟩
  have x_numB : KnX l.prog w K mg base 4 "check_number" ["size", "node"] (spOr spNum (spNumX CNoNode)) f_3 fd_3 := ⟨F_3.kp, fn_or k_3.G x_num.G (by decide), b_3, g_3⟩
  have x_check : KnX l.prog w K mg base 4 "check_forest" ["parents"] (spCheckB K CTooManyNodes CBadParent CCycle) f_1 fd_1 := ⟨F_1.kp, okB_check F_1 k_0 T z_enumerate gM RTooManyNodes RBadParent RCycle, b_1, g_1⟩
  have K_isf : Kn l.prog w K mg base 5 "is_forest" sIsFor ["parents"] (spIsFor K) f_2 _ := ⟨F_2, ok_isFor F_2 x_check GTooManyNodes GBadParent GCycle mTooManyNodes mBadParent mCycle, b_2, g_2⟩
  have k_34 : Kn l.prog w K mg base 7 "_law_result" sRes ["_law_forest_here", "_law_steps"] (spRes K) f_34 fd_34 := ⟨F_34, ok_res F_34 T k_27 k_33, b_34, g_34⟩
  have e_form : Kn l.prog w K mg base 1 "has_form" sForm ["step", "word"] spFormE f_5 fd_5 := ⟨F_5, okE_form F_5 T TS, b_5, g_5⟩
  have e_fnd1 : Kn l.prog w K mg base 1 "is_find" sIsFnd ["step"] spOneE f_4 fd_4 := ⟨F_4, okE_isFnd F_4 TS, b_4, g_4⟩
  have e_lnk : Kn l.prog w K mg base 2 "is_link" sIsLnk ["step"] spOneE f_6 fd_6 := ⟨F_6, okE_isLnk F_6 e_form TS, b_6, g_6⟩
  have e_rnd : Kn l.prog w K mg base 2 "is_round" sIsRnd ["step"] spOneE f_7 fd_7 := ⟨F_7, okE_isRnd F_7 e_form TS gL, b_7, g_7⟩
  have e_may : Kn l.prog w K mg base 3 "may_stand" sMay ["step", "depth"] spMayE f_8 fd_8 := ⟨F_8, okE_may F_8 e_lnk e_rnd e_fnd1 gN, b_8, g_8⟩
  have x_ckSE : KnX l.prog w K mg base 4 "check_steps" ["steps", "depth", "pos"] (spCkSE CBadStep) f_9 fd_9 := ⟨F_9.kp, okE_ckS F_9 e_may e_rnd b_9 g_9 gS RBadStep, b_9, g_9⟩
  have x_ckHE : KnX l.prog w K mg base 5 "check_history" ["history"] (spOneX CBadStep) f_10 fd_10 := ⟨F_10.kp, okE_ckH F_10 x_ckSE, b_10, g_10⟩
  have x_fndE : KnX l.prog w K mg base 8 "found_nodes" ["history"] (spOneX CBadStep) f_12 fd_12 := ⟨F_12.kp, okE_fnd F_12 x_ckHE k_11 z_set z_sorted, b_12, g_12⟩
  have x_fndB : KnX l.prog w K mg base 10 "found_nodes" ["history"] (spOr (spFNd 4) (spOneX CBadStep)) f_12 fd_12 := ⟨F_12.kp, fn_or k_12.G (FnOk.mono x_fndE.G (by decide)) (by decide), b_12, g_12⟩
  have x_eff : KnX l.prog w K mg base 11 "effect_difference" ["one", "other", "size"] (spEff CNoNode CBadStep) f_14 fd_14 := ⟨F_14.kp, okB_eff F_14 T x_fndB x_numB k_13 z_set z_sorted, b_14, g_14⟩
  have k_eff : Kn l.prog w K mg base 11 "effect_difference" sEff ["one", "other", "size"] (noE (spEff CNoNode CBadStep)) f_14 fd_14 := ⟨F_14, fn_noE x_eff.G, b_14, g_14⟩
  have E_f : ExX.FnE l.prog w K mg base CX0 1 f_19 _ ["_law_e"] (spField K) := ok_field F_19
  have E_o : ExX.FnL l.prog w K mg base 3 f_20 (TTout K CForestError CMissing) := ok_out F_20 b_20 E_f F_19.kp b_19 g_19 GForestError GMissing GEmptyHistory
  have E_e : ExX.FnL l.prog w K mg base 4 f_21 (TTerr K CForestError CMissing) := ok_err F_21 b_21 E_o F_20.kp g_20
  exact ok_law lL cL TB T TS z_repr ⟨_, _, k_15⟩ ⟨_, _, k_31⟩ ⟨_, _, k_16⟩ ⟨_, _, k_17⟩ ⟨_, _, k_25⟩ ⟨_, _, k_29⟩ ⟨_, _, k_28⟩ ⟨_, _, k_34⟩ ⟨_, _, k_12⟩ ⟨_, _, K_isf⟩ ⟨_, _, k_eff⟩ E_e F_21.kp g_21 x_eff ⟨zNoNode, RNoNode.xf, RNoNode.nt, RNoNode.nf⟩ ⟨zBadStep, RBadStep.xf, RBadStep.nt, RBadStep.nf⟩
end Ff
open PySem PySem.W PyProof.Rows
set_option maxHeartbeats 0 in
theorem PySem.Challenge.cw_findforests_k18_whole_same_effects_holds : PySem.Challenge.rw_findforests_k18_whole_same_effects.Holds := by
  w_on; o_law; k_head; (case hw => w_witness2)
  k_fill
  refine RpH.walk_gm (law := PySem.Challenge.rw_findforests_k18_whole_same_effects) (top := 63) (lev := 18) (arg := "_law_script") rfl (by decide) rfl ⟨rfl, by decide, by decide⟩ (fun w h Y => PySem.W.km_in_of Y) ?F
  case F =>
    intro w mg fa h Y KX G hmg own
    refine' Ff.all_mk KX G hmg (own _ _ ?rl hmg) ?d0 ?d1 ?d2 ?d3 ?d4 ?d5 ?d6 ?d7 ?d8 ?d9 ?d10 ?d11 ?d12 ?d13 ?d14 ?d15 ?d16 ?d17 ?d18 ?d19 ?d20 ?d21 ?d22 ?d23 ?d24 ?d25 ?d26 ?d27 ?d28 ?d29 ?d30 ?d31 ?d32 ?d33 ?d34 ?z_len ?z_range ?z_list ?z_tuple ?z_max ?z_min ?z_isinstance ?z_bool ?z_int ?z_str ?z_all ?z_zip ?z_set ?z_sorted ?z_sum ?z_ValueError ?z_LookupError ?z_enumerate ?z_repr ?aL ?lL ?cL ?kL ?vL ?hL ?nL ?aForestError ?iForestError ?lForestError ?cForestError ?kForestError ?rForestError ?mForestError ?pForestError ?qForestError ?vForestError ?aMissing ?iMissing ?lMissing ?cMissing ?kMissing ?rMissing ?mMissing ?pMissing ?qMissing ?vMissing ?aNoNode ?iNoNode ?lNoNode ?cNoNode ?kNoNode ?tNoNode ?uNoNode ?oNoNode ?hNoNode ?saNoNode ?bNoNode ?yNoNode ?wNoNode ?nNoNode ?gNoNode ?xNoNode ?jNoNode ?zNoNode ?aBadStep ?iBadStep ?lBadStep ?cBadStep ?kBadStep ?tBadStep ?uBadStep ?oBadStep ?hBadStep ?saBadStep ?bBadStep ?yBadStep ?wBadStep ?nBadStep ?gBadStep ?xBadStep ?jBadStep ?zBadStep ?aTooManyNodes ?iTooManyNodes ?lTooManyNodes ?cTooManyNodes ?kTooManyNodes ?tTooManyNodes ?uTooManyNodes ?oTooManyNodes ?hTooManyNodes ?saTooManyNodes ?bTooManyNodes ?yTooManyNodes ?wTooManyNodes ?nTooManyNodes ?gTooManyNodes ?xTooManyNodes ?jTooManyNodes ?zTooManyNodes ?aBadParent ?iBadParent ?lBadParent ?cBadParent ?kBadParent ?tBadParent ?uBadParent ?oBadParent ?hBadParent ?saBadParent ?bBadParent ?yBadParent ?wBadParent ?nBadParent ?gBadParent ?xBadParent ?jBadParent ?zBadParent ?aCycle ?iCycle ?lCycle ?cCycle ?kCycle ?tCycle ?uCycle ?oCycle ?hCycle ?saCycle ?bCycle ?yCycle ?wCycle ?nCycle ?gCycle ?xCycle ?jCycle ?zCycle ?aEmptyHistory ?aMX ?mTooManyNodes ?mBadParent ?mCycle ?aCL ?aMN ?aMS
    (case rl => decide +kernel); (case z_len => k_is); (case z_range => k_is); (case z_list => k_is); (case z_tuple => k_is); (case z_max => k_is); (case z_min => k_is); (case z_isinstance => k_is); (case z_bool => k_is); (case z_int => k_is); (case z_str => k_is); (case z_all => k_is); (case z_zip => k_is); (case z_set => k_is); (case z_sorted => k_is); (case z_sum => k_is); (case z_ValueError => k_is); (case z_LookupError => k_is); (case z_enumerate => k_is); (case z_repr => k_is); (case aL => k_is); (case lL => k_is); (case cL => k_is); (case kL => k_is); (case vL => rfl); (case hL => kernel_rfl); (case nL => kernel_rfl); (case aForestError => k_is); (case iForestError => k_is); (case lForestError => k_is); (case cForestError => k_is); (case kForestError => k_is); (case rForestError => k_is); (case mForestError => k_is); (case pForestError => k_is); (case qForestError => k_is); (case vForestError => k_is); (case aMissing => k_is); (case iMissing => k_is); (case lMissing => k_is); (case cMissing => k_is); (case kMissing => k_is); (case rMissing => k_is); (case mMissing => k_is); (case pMissing => k_is); (case qMissing => k_is); (case vMissing => k_is); (case aNoNode => k_is); (case iNoNode => k_is); (case lNoNode => k_is); (case cNoNode => k_is); (case kNoNode => k_is); (case tNoNode => k_is); (case uNoNode => kx_is); (case oNoNode => kx_is); (case hNoNode => k_is); (case saNoNode => k_is); (case bNoNode => k_is); (case yNoNode => k_is); (case wNoNode => k_is); (case nNoNode => k_is); (case gNoNode => k_is); (case xNoNode => k_is); (case jNoNode => k_is); (case zNoNode => kernel_rfl); (case aBadStep => k_is); (case iBadStep => k_is); (case lBadStep => k_is); (case cBadStep => k_is); (case kBadStep => k_is); (case tBadStep => k_is); (case uBadStep => kx_is); (case oBadStep => kx_is); (case hBadStep => k_is); (case saBadStep => k_is); (case bBadStep => k_is); (case yBadStep => k_is); (case wBadStep => k_is); (case nBadStep => k_is); (case gBadStep => k_is); (case xBadStep => k_is); (case jBadStep => k_is); (case zBadStep => kernel_rfl); (case aTooManyNodes => k_is); (case iTooManyNodes => k_is); (case lTooManyNodes => k_is); (case cTooManyNodes => k_is); (case kTooManyNodes => k_is); (case tTooManyNodes => k_is); (case uTooManyNodes => kx_is); (case oTooManyNodes => kx_is); (case hTooManyNodes => k_is); (case saTooManyNodes => k_is); (case bTooManyNodes => k_is); (case yTooManyNodes => k_is); (case wTooManyNodes => k_is); (case nTooManyNodes => k_is); (case gTooManyNodes => k_is); (case xTooManyNodes => k_is); (case jTooManyNodes => k_is); (case zTooManyNodes => kernel_rfl); (case aBadParent => k_is); (case iBadParent => k_is); (case lBadParent => k_is); (case cBadParent => k_is); (case kBadParent => k_is); (case tBadParent => k_is); (case uBadParent => kx_is); (case oBadParent => kx_is); (case hBadParent => k_is); (case saBadParent => k_is); (case bBadParent => k_is); (case yBadParent => k_is); (case wBadParent => k_is); (case nBadParent => k_is); (case gBadParent => k_is); (case xBadParent => k_is); (case jBadParent => k_is); (case zBadParent => kernel_rfl); (case aCycle => k_is); (case iCycle => k_is); (case lCycle => k_is); (case cCycle => k_is); (case kCycle => k_is); (case tCycle => k_is); (case uCycle => kx_is); (case oCycle => kx_is); (case hCycle => k_is); (case saCycle => k_is); (case bCycle => k_is); (case yCycle => k_is); (case wCycle => k_is); (case nCycle => k_is); (case gCycle => k_is); (case xCycle => k_is); (case jCycle => k_is); (case zCycle => kernel_rfl); (case aEmptyHistory => k_is); (case aMX => k_is); (case mTooManyNodes => kernel_rfl); (case mBadParent => kernel_rfl); (case mCycle => kernel_rfl); (case aCL => k_is); (case aMN => k_is); (case aMS => k_is)
    all_goals (refine' Ff.DefF.by ?a ?l ?c ?k; (case a => k_is); (case l => k_is); (case c => k_is); (case k => k_is))

