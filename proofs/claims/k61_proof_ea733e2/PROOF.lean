import PyProof.Rows.All
import Wide.All
import OpenK.AllK
import Wide.FinOn
import KE.KExcInit
import HandS.Base
import HandS.Call
import HandS.List
import HandS.Ends
import HandS.Exc
import HandS.ExcInit
import HandS.ExcCtx
import HandS.TryMany
import KE.KTryMore
import HandS.HotCalls
import HandS.ExcField
import HandS.Lambda
import HandS.Codes
import HandS.Words
import HandS.WordsExc
import PyProof.TupleIter
import HandS.FStr
import HandS.Style
import HandS.Comp
import KE.KDflt
import HandS.Iter
import KE.GoesEnum
import HandS.Defaults
import PyProof.CollectIter
import HandS.Dict
import PyProof.DictUpdate
import PyProof.DictDisplay
import HandS.Star
import HandS.CallLocal
import HandS.More
import HandS.Text
import HandS.WordsList
import HandS.WordsDict
import HandS.Wide
import HandS.Conv
import HandS.Strs
import HandS.SetFor
import HandS.IsInst
import HandS.Zip
import HandS.SortKw
import KE.DatumOrd
import HandS.HeadHook3
import KE.KStateDown
import KE.KNestM
import KE.KExcLine
import HandS.EndOwn
import HandS.HeadEnd
import HandS.HeadHook1
import HandS.HeadHook2
import HandS.HeadHook4
import HandS.HeadWalk
import HandS.Head0
import HandS.Head1
import HandS.Head2
import PySem.Challenge.RW_findforests_k61_whole_least_costs_of_way
set_option Elab.async false
set_option linter.all false
set_option maxRecDepth 100000
set_option maxHeartbeats 4000000
/-! The mathematics of finds: forests as parent functions below n, with a rank that falls towards the roots. -/
namespace Ff
structure Fo (n : Nat) (p : Nat → Nat) (r : Nat → Nat) : Prop where
  lt : ∀ x, x < n → p x < n
  up : ∀ x, x < n → p x = x ∨ r (p x) < r x
  rb : ∀ x, x < n → r x < n
def root (p : Nat → Nat) : Nat → Nat → Nat
  | 0, x => x
  | k + 1, x => if p x = x then x else root p k (p x)
def ups (p : Nat → Nat) : Nat → Nat → List Nat
  | 0, _ => []
  | k + 1, x => if p x = x then [] else x :: ups p k (p x)
def path (p : Nat → Nat) (k x : Nat) : List Nat := ups p k x ++ [root p k x]
theorem root_of {p : Nat → Nat} {x : Nat} (h : p x = x) : ∀ k, root p k x = x
  | 0 => rfl
  | k + 1 => by show (if p x = x then x else _) = x; rw [if_pos h]
theorem ups_of {p : Nat → Nat} {x : Nat} (h : p x = x) : ∀ k, ups p k x = []
  | 0 => rfl
  | k + 1 => by show (if p x = x then [] else _) = []; rw [if_pos h]
theorem root_step {p : Nat → Nat} {x k : Nat} (h : p x ≠ x) : root p (k + 1) x = root p k (p x) := by
  show (if p x = x then x else _) = _; rw [if_neg h]
theorem ups_step {p : Nat → Nat} {x k : Nat} (h : p x ≠ x) : ups p (k + 1) x = x :: ups p k (p x) := by
  show (if p x = x then [] else _) = _; rw [if_neg h]
section
variable {n : Nat} {p : Nat → Nat} {r : Nat → Nat}
/-- enough steps: more of them change nothing -/
theorem root_more (F : Fo n p r) : ∀ (k x : Nat), x < n → r x ≤ k → root p (k + 1) x = root p k x
  | k, x, hx, hr => by
    by_cases h : p x = x
    · rw [root_of h, root_of h]
    · have u := (F.up x hx).resolve_left h
      cases k with
      | zero => omega
      | succ k => rw [root_step h, root_step h]; exact root_more F k (p x) (F.lt x hx) (by omega)
theorem ups_more (F : Fo n p r) : ∀ (k x : Nat), x < n → r x ≤ k → ups p (k + 1) x = ups p k x
  | k, x, hx, hr => by
    by_cases h : p x = x
    · rw [ups_of h, ups_of h]
    · have u := (F.up x hx).resolve_left h
      cases k with
      | zero => omega
      | succ k => rw [ups_step h, ups_step h]; rw [ups_more F k (p x) (F.lt x hx) (by omega)]
theorem root_n (F : Fo n p r) {x : Nat} (hx : x < n) (h : p x ≠ x) : root p n x = root p n (p x) := by
  have := F.rb x hx
  have e := (F.up x hx).resolve_left h
  rw [← root_more F n x hx (by omega), root_step h]
theorem ups_n (F : Fo n p r) {x : Nat} (hx : x < n) (h : p x ≠ x) : ups p n x = x :: ups p n (p x) := by
  have := F.rb x hx
  have e := (F.up x hx).resolve_left h
  rw [← ups_more F n x hx (by omega), ups_step h]
/-- induction from the roots -/
theorem Fo.ind (F : Fo n p r) {C : Nat → Prop} (h0 : ∀ x, x < n → p x = x → C x) (h1 : ∀ x, x < n → p x ≠ x → C (p x) → C x) : ∀ x, x < n → C x := by
  have : ∀ k x, r x ≤ k → x < n → C x := by
    intro k
    induction k with
    | zero =>
      intro x hr hx
      by_cases h : p x = x
      · exact h0 x hx h
      · have := (F.up x hx).resolve_left h; omega
    | succ k ih =>
      intro x hr hx
      by_cases h : p x = x
      · exact h0 x hx h
      · have := (F.up x hx).resolve_left h
        exact h1 x hx h (ih (p x) (by omega) (F.lt x hx))
  exact fun x hx => this (r x) x (Nat.le_refl _) hx
theorem root_lt (F : Fo n p r) : ∀ x, x < n → root p n x < n :=
  F.ind (fun x hx h => by rw [root_of h]; exact hx) (fun x hx h ih => by rw [root_n F hx h]; exact ih)
theorem root_fix (F : Fo n p r) : ∀ x, x < n → p (root p n x) = root p n x :=
  F.ind (fun x hx h => by rw [root_of h]; exact h) (fun x hx h ih => by rw [root_n F hx h]; exact ih)
theorem root_rank (F : Fo n p r) : ∀ x, x < n → root p n x = x ∨ r (root p n x) < r x :=
  F.ind (fun x hx h => .inl (root_of h n)) (fun x hx h ih => by
    have u := (F.up x hx).resolve_left h
    rw [root_n F hx h]
    rcases ih with e | e
    · rw [e]; exact .inr u
    · exact .inr (by omega))
theorem root_ne (F : Fo n p r) {x : Nat} (hx : x < n) (h : p x ≠ x) : root p n x ≠ x := fun e => h (by have z := root_fix F x hx; rw [e] at z; exact z)
theorem ups_lt (F : Fo n p r) : ∀ x, x < n → ∀ v ∈ ups p n x, v < n ∧ p v ≠ v ∧ root p n v = root p n x ∧ r v ≤ r x :=
  F.ind (fun x hx h v hv => by rw [ups_of h] at hv; cases hv) (fun x hx h ih v hv => by
    have u := (F.up x hx).resolve_left h
    rw [ups_n F hx h] at hv
    rcases List.mem_cons.mp hv with e | e
    · subst e; exact ⟨hx, h, rfl, Nat.le_refl _⟩
    · have z := ih v e
      refine ⟨z.1, z.2.1, z.2.2.1.trans (root_n F hx h).symm, by omega⟩)
theorem ups_len (F : Fo n p r) : ∀ x, x < n → (ups p n x).length ≤ r x :=
  F.ind (fun x hx h => by rw [ups_of h]; exact Nat.zero_le _) (fun x hx h ih => by
    have u := (F.up x hx).resolve_left h
    rw [ups_n F hx h, List.length_cons]; omega)
theorem ups_nodup (F : Fo n p r) : ∀ x, x < n → (ups p n x).Nodup :=
  F.ind (fun x hx h => by rw [ups_of h]; exact List.nodup_nil) (fun x hx h ih => by
    have u := (F.up x hx).resolve_left h
    rw [ups_n F hx h]
    refine List.nodup_cons.mpr ⟨fun hm => ?_, ih⟩
    have z := (ups_lt F (p x) (F.lt x hx) x hm).2.2.2
    omega)
theorem self_ups (F : Fo n p r) {x : Nat} (hx : x < n) (h : p x ≠ x) : x ∈ ups p n x := by rw [ups_n F hx h]; exact List.mem_cons_self
/-- a set of nodes with all nodes above them but the roots -/
def Closed (n : Nat) (p : Nat → Nat) (S : Nat → Bool) : Prop := ∀ v, v < n → S v = true → p v ≠ v ∧ (p (p v) = p v ∨ S (p v) = true)
def after (n : Nat) (p : Nat → Nat) (S : Nat → Bool) : Nat → Nat := fun v => if S v = true then root p n v else p v
theorem closed_ups (F : Fo n p r) {S : Nat → Bool} (C : Closed n p S) : ∀ x, x < n → S x = true → ∀ v ∈ ups p n x, S v = true :=
  F.ind (fun x hx h hS v hv => by rw [ups_of h] at hv; cases hv) (fun x hx h ih hS v hv => by
    rw [ups_n F hx h] at hv
    rcases List.mem_cons.mp hv with e | e
    · subst e; exact hS
    · rcases (C x hx hS).2 with z | z
      · rw [ups_of z] at e; cases e
      · exact ih z v e)
theorem after_fo (F : Fo n p r) {S : Nat → Bool} (C : Closed n p S) : Fo n (after n p S) r where
  lt := fun x hx => by unfold after; split; exact root_lt F x hx; exact F.lt x hx
  up := fun x hx => by
    unfold after; split
    · exact root_rank F x hx
    · exact F.up x hx
  rb := F.rb
theorem after_root (F : Fo n p r) {S : Nat → Bool} (C : Closed n p S) {x : Nat} (hx : x < n) (h : p x = x) : after n p S x = x := by
  unfold after; split
  · exact root_of h n
  · exact h
theorem after_nonroot (F : Fo n p r) {S : Nat → Bool} (C : Closed n p S) {x : Nat} (hx : x < n) (h : p x ≠ x) : after n p S x ≠ x := by
  unfold after; split
  · exact root_ne F hx h
  · exact h
theorem after_same_root (F : Fo n p r) {S : Nat → Bool} (C : Closed n p S) : ∀ x, x < n → root (after n p S) n x = root p n x :=
  F.ind (fun x hx h => by rw [root_of h, root_of (after_root F C hx h)]) (fun x hx h ih => by
    have hq := after_nonroot F C hx h
    rw [root_n (after_fo F C) hx hq]
    by_cases hS : S x = true
    · have e : after n p S x = root p n x := by unfold after; rw [if_pos hS]
      rw [e]
      exact root_of (after_root F C (root_lt F x hx) (root_fix F x hx)) n
    · have e : after n p S x = p x := by unfold after; rw [if_neg hS]
      rw [e, ih, root_n F hx h])
theorem after_ups (F : Fo n p r) {S : Nat → Bool} (C : Closed n p S) : ∀ x, x < n →
    (∀ v ∈ ups (after n p S) n x, v ∈ ups p n x) ∧ (∀ v ∈ ups p n x, S v = true ∨ v ∈ ups (after n p S) n x) :=
  F.ind (fun x hx h => by rw [ups_of h, ups_of (after_root F C hx h)]; exact ⟨fun _ z => z, fun _ z => .inr z⟩) (fun x hx h ih => by
    have hq := after_nonroot F C hx h
    have G := after_fo F C
    rw [ups_n G hx hq]
    by_cases hS : S x = true
    · have e : after n p S x = root p n x := by unfold after; rw [if_pos hS]
      rw [e, ups_of (after_root F C (root_lt F x hx) (root_fix F x hx))]
      refine ⟨fun v hv => ?_, fun v hv => .inl (closed_ups F C x hx hS v hv)⟩
      rw [List.mem_singleton.mp hv]; exact self_ups F hx h
    · have e : after n p S x = p x := by unfold after; rw [if_neg hS]
      rw [e, ups_n F hx h]
      refine ⟨fun v hv => ?_, fun v hv => ?_⟩
      · rcases List.mem_cons.mp hv with z | z
        · rw [z]; exact List.mem_cons_self
        · exact List.mem_cons_of_mem _ (ih.1 v z)
      · rcases List.mem_cons.mp hv with z | z
        · exact .inr (by rw [z]; exact List.mem_cons_self)
        · rcases ih.2 v z with y | y
          · exact .inl y
          · exact .inr (List.mem_cons_of_mem _ y))
def low (p : Nat → Nat) (x : Nat) : Nat := if p x = x then 0 else 1
def deep (p : Nat → Nat) (v : Nat) : Bool := decide (p (p v) ≠ p v)
theorem after_cost (F : Fo n p r) {S : Nat → Bool} (C : Closed n p S) : ∀ x, x < n →
    (ups (after n p S) n x).length = low p x + (ups p n x).countP (fun v => deep p v && !S v) :=
  F.ind (fun x hx h => by rw [ups_of h, ups_of (after_root F C hx h)]; unfold low; rw [if_pos h]; rfl) (fun x hx h ih => by
    have hq := after_nonroot F C hx h
    have G := after_fo F C
    rw [ups_n G hx hq, List.length_cons]
    have hl : low p x = 1 := by unfold low; rw [if_neg h]
    rw [hl]
    by_cases hS : S x = true
    · have e : after n p S x = root p n x := by unfold after; rw [if_pos hS]
      rw [e, ups_of (after_root F C (root_lt F x hx) (root_fix F x hx))]
      have z : (ups p n x).countP (fun v => deep p v && !S v) = 0 := by
        refine List.countP_eq_zero.mpr fun v hv => ?_
        rw [closed_ups F C x hx hS v hv]; simp
      rw [z]; rfl
    · have e : after n p S x = p x := by unfold after; rw [if_neg hS]
      have eS : S x = false := by simpa using hS
      rw [e, ih, ups_n F hx h, List.countP_cons, eS]
      unfold low deep
      by_cases hd : p (p x) = p x
      · rw [if_pos hd]; simp [hd]; omega
      · rw [if_neg hd]; simp [hd]; omega)
def join (S T : Nat → Bool) : Nat → Bool := fun v => S v || T v
def upB (p : Nat → Nat) (n x : Nat) : Nat → Bool := fun v => (ups p n x).contains v
theorem upB_iff {v x : Nat} : upB p n x v = true ↔ v ∈ ups p n x := by unfold upB; exact List.contains_iff_mem
theorem ups_above (F : Fo n p r) : ∀ x, x < n → ∀ v ∈ ups p n x, p (p v) = p v ∨ p v ∈ ups p n x :=
  F.ind (fun x hx h v hv => by rw [ups_of h] at hv; cases hv) (fun x hx h ih v hv => by
    rw [ups_n F hx h] at hv ⊢
    rcases List.mem_cons.mp hv with e | e
    · subst e
      by_cases hp : p (p v) = p v
      · exact .inl hp
      · exact .inr (List.mem_cons_of_mem _ (self_ups F (F.lt v hx) hp))
    · rcases ih v e with z | z
      · exact .inl z
      · exact .inr (List.mem_cons_of_mem _ z))
theorem closed_join (F : Fo n p r) {S : Nat → Bool} (C : Closed n p S) {x : Nat} (hx : x < n) : Closed n p (join S (upB p n x)) := fun v hv h => by
  unfold join at h ⊢
  rcases Bool.or_eq_true _ _ |>.mp h with z | z
  · refine ⟨(C v hv z).1, ?_⟩
    rcases (C v hv z).2 with y | y
    · exact .inl y
    · exact .inr (by rw [y]; rfl)
  · have m := upB_iff.mp z
    refine ⟨(ups_lt F x hx v m).2.1, ?_⟩
    rcases ups_above F x hx v m with y | y
    · exact .inl y
    · exact .inr (by rw [upB_iff.mpr y, Bool.or_true])
theorem closed_no : Closed n p (fun _ => false) := fun v _ h => by cases h
def fnd (n : Nat) (p : Nat → Nat) (x : Nat) : Nat → Nat := fun v => if v ∈ path p n x then root p n x else p v
theorem fnd_after (F : Fo n p r) {S : Nat → Bool} (C : Closed n p S) {x : Nat} (hx : x < n) {v : Nat} (hv : v < n) : fnd n (after n p S) x v = after n p (join S (upB p n x)) v := by
  unfold fnd path
  rw [after_same_root F C x hx]
  have A := after_ups F C x hx
  have R := root_fix F x hx
  have Rl := root_lt F x hx
  by_cases h1 : v ∈ ups (after n p S) n x
  · rw [if_pos (List.mem_append_left _ h1)]
    have m := A.1 v h1
    unfold after join
    rw [if_pos (by rw [upB_iff.mpr m, Bool.or_true])]
    exact ((ups_lt F x hx v m).2.2.1).symm
  · by_cases h2 : v = root p n x
    · rw [if_pos (List.mem_append_right _ (List.mem_singleton.mpr h2))]
      subst h2
      exact (after_root F (closed_join F C hx) Rl R).symm
    · rw [if_neg (fun z => by
        rcases List.mem_append.mp z with y | y
        · exact h1 y
        · exact h2 (List.mem_singleton.mp y))]
      by_cases h3 : v ∈ ups p n x
      · have s := (A.2 v h3).resolve_right h1
        unfold after join
        rw [if_pos s, if_pos (by rw [s]; rfl)]
      · unfold after join
        have e : upB p n x v = false := by
          cases hb : upB p n x v with
          | false => rfl
          | true => exact absurd (upB_iff.mp hb) h3
        rw [e, Bool.or_false]
/-- a parent function below n alone matters -/
theorem root_congr {q : Nat → Nat} (hl : ∀ x, x < n → p x < n) (h : ∀ v, v < n → q v = p v) : ∀ k x, x < n → root q k x = root p k x
  | 0, _, _ => rfl
  | k + 1, x, hx => by
    show (if q x = x then x else root q k (q x)) = (if p x = x then x else root p k (p x))
    rw [h x hx, root_congr hl h k (p x) (hl x hx)]
theorem ups_congr {q : Nat → Nat} (hl : ∀ x, x < n → p x < n) (h : ∀ v, v < n → q v = p v) : ∀ k x, x < n → ups q k x = ups p k x
  | 0, _, _ => rfl
  | k + 1, x, hx => by
    show (if q x = x then [] else x :: ups q k (q x)) = (if p x = x then [] else x :: ups p k (p x))
    rw [h x hx, ups_congr hl h k (p x) (hl x hx)]
theorem fnd_congr {q : Nat → Nat} (hl : ∀ x, x < n → p x < n) (h : ∀ v, v < n → q v = p v) {x v : Nat} (hx : x < n) (hv : v < n) : fnd n q x v = fnd n p x v := by
  unfold fnd path
  rw [root_congr hl h n x hx, ups_congr hl h n x hx, h v hv]
theorem Fo.congr {q : Nat → Nat} (F : Fo n p r) (h : ∀ v, v < n → q v = p v) : Fo n q r where
  lt := fun x hx => by rw [h x hx]; exact F.lt x hx
  up := fun x hx => by rw [h x hx]; exact F.up x hx
  rb := F.rb
theorem fnd_fo (F : Fo n p r) {x : Nat} (hx : x < n) : Fo n (fnd n p x) r := by
  have e : ∀ v, v < n → after n p (fun _ => false) v = p v := fun v _ => rfl
  have A := after_fo F (closed_join F closed_no hx)
  exact A.congr fun v hv => (fnd_congr F.lt e hx hv).symm.trans (fnd_after F closed_no hx hv)
end
def fndAll (n : Nat) : List Nat → (Nat → Nat) → Nat → Nat
  | [], p => p
  | x :: l, p => fndAll n l (fnd n p x)
def costs (n : Nat) : List Nat → (Nat → Nat) → List Nat
  | [], _ => []
  | x :: l, p => (ups p n x).length :: costs n l (fnd n p x)
theorem fndAll_snoc (n : Nat) : ∀ (l : List Nat) (x : Nat) (p : Nat → Nat), fndAll n (l ++ [x]) p = fnd n (fndAll n l p) x
  | [], _, _ => rfl
  | y :: l, x, p => fndAll_snoc n l x (fnd n p y)
theorem costs_snoc (n : Nat) : ∀ (l : List Nat) (x : Nat) (p : Nat → Nat), costs n (l ++ [x]) p = costs n l p ++ [(ups (fndAll n l p) n x).length]
  | [], _, _ => rfl
  | y :: l, x, p => by show _ :: costs n (l ++ [x]) (fnd n p y) = _ :: (costs n l (fnd n p y) ++ [_]); rw [costs_snoc n l x (fnd n p y)]; rfl
theorem costs_len (n : Nat) : ∀ (l : List Nat) (p : Nat → Nat), (costs n l p).length = l.length
  | [], _ => rfl
  | y :: l, p => by show (costs n l (fnd n p y)).length + 1 = l.length + 1; rw [costs_len n l]
def markB (n : Nat) (p : Nat → Nat) (l : List Nat) : Nat → Bool := fun v => l.any fun x => upB p n x v
section
variable {n : Nat} {p : Nat → Nat} {r : Nat → Nat}
theorem fndAll_fo (F : Fo n p r) : ∀ (l : List Nat), (∀ x ∈ l, x < n) → ∀ q, Fo n q r → Fo n (fndAll n l q) r
  | [], _, q, G => G
  | x :: l, h, q, G => fndAll_fo F l (fun y hy => h y (List.mem_cons_of_mem _ hy)) _ (fnd_fo G (h x List.mem_cons_self))
theorem fndAll_after (F : Fo n p r) : ∀ (l : List Nat), (∀ x ∈ l, x < n) → ∀ S, Closed n p S → ∀ q, (∀ v, v < n → q v = after n p S v) → ∀ v, v < n → fndAll n l q v = after n p (join S (markB n p l)) v
  | [], _, S, C, q, hq, v, hv => by
    show q v = _
    rw [hq v hv]
    unfold after join markB
    simp
  | x :: l, h, S, C, q, hq, v, hv => by
    have hx := h x List.mem_cons_self
    have G := after_fo F C
    show fndAll n l (fnd n q x) v = _
    rw [fndAll_after F l (fun y hy => h y (List.mem_cons_of_mem _ hy)) (join S (upB p n x)) (closed_join F C hx) (fnd n q x) (fun u hu => (fnd_congr G.lt hq hx hu).trans (fnd_after F C hx hu)) v hv]
    have e : join (join S (upB p n x)) (markB n p l) = join S (markB n p (x :: l)) := by
      funext u
      show ((S u || upB p n x u) || l.any _) = (S u || (upB p n x u || l.any _))
      rw [Bool.or_assoc]
    rw [e]
theorem behind_eq (F : Fo n p r) (l : List Nat) (h : ∀ x ∈ l, x < n) (v : Nat) (hv : v < n) : fndAll n l p v = if markB n p l v = true then root p n v else p v := by
  rw [fndAll_after F l h (fun _ => false) closed_no p (fun u _ => rfl) v hv]
  unfold after join
  simp
theorem countP_split (f g : Nat → Bool) : ∀ l : List Nat, l.countP (fun v => f v && !g v) + l.countP (fun v => f v && g v) = l.countP f
  | [] => rfl
  | x :: l => by
    have ih := countP_split f g l
    rw [List.countP_cons, List.countP_cons, List.countP_cons, ← ih]
    cases f x <;> cases g x <;> simp <;> omega
theorem count_range (F : Fo n p r) {x : Nat} (hx : x < n) (f : Nat → Bool) : (ups p n x).countP f = (List.range n).countP (fun v => upB p n x v && f v) := by
  have P : (ups p n x).Perm ((List.range n).filter (upB p n x)) := by
    refine (List.perm_ext_iff_of_nodup (ups_nodup F x hx) (List.Nodup.sublist List.filter_sublist List.nodup_range)).mpr fun v => ?_
    rw [List.mem_filter, List.mem_range, upB_iff]
    exact ⟨fun h => ⟨(ups_lt F x hx v h).1, h⟩, fun h => h.2⟩
  rw [P.countP_eq, List.countP_filter]
  exact List.countP_congr fun v _ => by rw [Bool.and_comm]
theorem cost_sum (F : Fo n p r) : ∀ (l : List Nat), (∀ x ∈ l, x < n) → ∀ S, Closed n p S → ∀ q, (∀ v, v < n → q v = after n p S v) →
    (costs n l q).sum = (l.map (low p)).sum + (List.range n).countP (fun v => (deep p v && !S v) && markB n p l v)
  | [], _, S, C, q, hq => by
    have e : (List.range n).countP (fun v => (deep p v && !S v) && markB n p [] v) = 0 := List.countP_eq_zero.mpr fun v _ => by unfold markB; simp
    rw [e]; rfl
  | x :: l, h, S, C, q, hq => by
    have hx := h x List.mem_cons_self
    have G := after_fo F C
    show (ups q n x).length + (costs n l (fnd n q x)).sum = (low p x + (l.map (low p)).sum) + _
    rw [cost_sum F l (fun y hy => h y (List.mem_cons_of_mem _ hy)) (join S (upB p n x)) (closed_join F C hx) (fnd n q x) (fun u hu => (fnd_congr G.lt hq hx hu).trans (fnd_after F C hx hu))]
    rw [ups_congr G.lt hq n x hx, after_cost F C x hx, count_range F hx]
    have e := countP_split (fun v => (deep p v && !S v) && markB n p (x :: l) v) (upB p n x) (List.range n)
    rw [← e]
    have e1 : (List.range n).countP (fun v => ((deep p v && !S v) && markB n p (x :: l) v) && upB p n x v) = (List.range n).countP (fun v => upB p n x v && (deep p v && !S v)) := List.countP_congr fun v _ => by
      show (((deep p v && !S v) && (upB p n x v || markB n p l v)) && upB p n x v) = true ↔ (upB p n x v && (deep p v && !S v)) = true
      cases upB p n x v <;> cases deep p v <;> cases S v <;> simp
    have e2 : (List.range n).countP (fun v => ((deep p v && !S v) && markB n p (x :: l) v) && !upB p n x v) = (List.range n).countP (fun v => (deep p v && !join S (upB p n x) v) && markB n p l v) := List.countP_congr fun v _ => by
      show (((deep p v && !S v) && (upB p n x v || markB n p l v)) && !upB p n x v) = true ↔ ((deep p v && !(S v || upB p n x v)) && markB n p l v) = true
      cases upB p n x v <;> cases deep p v <;> cases S v <;> simp
    rw [e1, e2]
    omega
theorem cost_total (F : Fo n p r) (l : List Nat) (h : ∀ x ∈ l, x < n) : (costs n l p).sum = (l.map (low p)).sum + (List.range n).countP (fun v => deep p v && markB n p l v) := by
  rw [cost_sum F l h (fun _ => false) closed_no p (fun u _ => rfl)]
  congr 1
  exact List.countP_congr fun v _ => by simp
theorem mark_same {l m : List Nat} (h : ∀ x, x ∈ l ↔ x ∈ m) (v : Nat) : markB n p l v = markB n p m v := by
  unfold markB
  refine Bool.eq_iff_iff.mpr ?_
  rw [List.any_eq_true, List.any_eq_true]
  exact ⟨fun ⟨x, a, b⟩ => ⟨x, (h x).mp a, b⟩, fun ⟨x, a, b⟩ => ⟨x, (h x).mpr a, b⟩⟩
theorem behind_same (F : Fo n p r) {l m : List Nat} (hl : ∀ x ∈ l, x < n) (h : ∀ x, x ∈ l ↔ x ∈ m) (v : Nat) (hv : v < n) : fndAll n m p v = fndAll n l p v := by
  rw [behind_eq F m (fun x hx => hl x ((h x).mpr hx)) v hv, behind_eq F l hl v hv, mark_same h]
theorem cost_same (F : Fo n p r) {l m : List Nat} (hl : ∀ x ∈ l, x < n) (h : l.Perm m) : (costs n m p).sum = (costs n l p).sum := by
  rw [cost_total F m (fun x hx => hl x (h.mem_iff.mpr hx)), cost_total F l hl, (h.map (low p)).sum_nat]
  congr 1
  exact List.countP_congr fun v _ => by rw [mark_same (fun x => h.mem_iff) v]
end
end Ff
namespace Ff
theorem path_cons {p : Nat → Nat} {k x : Nat} (h : p x ≠ x) : path p (k + 1) x = x :: path p k (p x) := by
  unfold path
  rw [ups_step h, root_step h]
  rfl
theorem path_of {p : Nat → Nat} {k x : Nat} (h : p x = x) : path p k x = [x] := by
  unfold path
  rw [ups_of h, root_of h]
  rfl
theorem path_succ (p : Nat → Nat) : ∀ k x, path p (k + 1) x = if p (root p k x) = root p k x then path p k x else path p k x ++ [p (root p k x)]
  | 0, x => by
    by_cases h : p x = x
    · rw [path_of h, if_pos (show p (root p 0 x) = root p 0 x from h)]; rfl
    · rw [path_cons h, if_neg (show ¬ p (root p 0 x) = root p 0 x from h)]; rfl
  | k + 1, x => by
    by_cases h : p x = x
    · rw [path_of h, root_of h, if_pos h, path_of h]
    · rw [path_cons h, root_step h, path_succ p k (p x), path_cons h]
      split <;> rfl
theorem path_fixed {p : Nat → Nat} {i x : Nat} (h : p (root p i x) = root p i x) : ∀ j, path p (i + j) x = path p i x ∧ root p (i + j) x = root p i x
  | 0 => ⟨rfl, rfl⟩
  | j + 1 => by
    have ih := path_fixed h j
    have e : path p (i + (j + 1)) x = path p i x := by
      show path p ((i + j) + 1) x = _
      rw [path_succ, ih.2, if_pos h]
      exact ih.1
    refine ⟨e, ?_⟩
    unfold path at e
    have z := congrArg List.getLast? e
    rw [List.getLast?_append, List.getLast?_append] at z
    simpa using z
theorem root_lt0 {n : Nat} {p : Nat → Nat} (hl : ∀ x, x < n → p x < n) : ∀ k x, x < n → root p k x < n
  | 0, _, h => h
  | k + 1, x, h => by
    show (if p x = x then x else root p k (p x)) < n
    split
    · exact h
    · exact root_lt0 hl k (p x) (hl x h)
theorem ups_len0 (p : Nat → Nat) : ∀ k x, (ups p k x).length ≤ k
  | 0, _ => Nat.le_refl _
  | k + 1, x => by
    show (if p x = x then [] else x :: ups p k (p x)).length ≤ k + 1
    split
    · exact Nat.zero_le _
    · have := ups_len0 p k (p x)
      rw [List.length_cons]; omega
theorem path_len0 (p : Nat → Nat) (k x : Nat) : (path p k x).length ≤ k + 1 := by
  unfold path
  have := ups_len0 p k x
  rw [List.length_append, List.length_singleton]; omega
end Ff
namespace Ff
theorem root_succ (p : Nat → Nat) : ∀ k x, root p (k + 1) x = p (root p k x)
  | 0, x => by
    by_cases h : p x = x
    · rw [root_of h]; show x = p x; rw [h]
    · rw [root_step h]; rfl
  | k + 1, x => by
    by_cases h : p x = x
    · rw [root_of h, root_of h, h]
    · rw [root_step h, root_step h, root_succ p k (p x)]
theorem ups_succ (p : Nat → Nat) : ∀ k x, ups p (k + 1) x = if p (root p k x) = root p k x then ups p k x else ups p k x ++ [root p k x]
  | 0, x => by
    by_cases h : p x = x
    · rw [ups_of h, if_pos (show p (root p 0 x) = root p 0 x from h)]; rfl
    · rw [ups_step h, if_neg (show ¬ p (root p 0 x) = root p 0 x from h)]; rfl
  | k + 1, x => by
    by_cases h : p x = x
    · rw [ups_of h, root_of h, if_pos h, ups_of h]
    · rw [ups_step h, root_step h, ups_succ p k (p x), ups_step h]
      split <;> rfl
end Ff

/-! Ways between forests: changed nodes, needed nodes. -/
namespace Ff
def chg (p q : Nat → Nat) (v : Nat) : Bool := decide (p v ≠ q v)
/-- finds lead from p to q -/
def Way (n : Nat) (p q : Nat → Nat) : Prop := ∀ v, v < n → chg p q v = true → ∀ u ∈ ups p n v, q u = root p n u
def needB (n : Nat) (p q : Nat → Nat) (v : Nat) : Bool := chg p q v && !(List.range n).any fun u => chg p q u && (decide (v ≠ u) && (ups p n u).contains v)
def needS (n : Nat) (p q : Nat → Nat) : List Nat := (List.range n).filter (needB n p q)
theorem chg_iff {p q : Nat → Nat} {v : Nat} : chg p q v = true ↔ p v ≠ q v := by unfold chg; exact decide_eq_true_iff
theorem needB_iff {n : Nat} {p q : Nat → Nat} {v : Nat} : needB n p q v = true ↔ p v ≠ q v ∧ ∀ u, u < n → p u ≠ q u → v ≠ u → v ∉ ups p n u := by
  unfold needB
  rw [Bool.and_eq_true, chg_iff, Bool.not_eq_true']
  refine and_congr_right fun _ => ?_
  rw [List.any_eq_false]
  constructor
  · intro h u hu hc hn hm
    refine h u (List.mem_range.mpr hu) ?_
    rw [Bool.and_eq_true, Bool.and_eq_true, chg_iff]
    exact ⟨hc, decide_eq_true hn, List.contains_iff_mem.mpr hm⟩
  · intro h u hu z
    rw [Bool.and_eq_true, Bool.and_eq_true, chg_iff] at z
    exact h u (List.mem_range.mp hu) z.1 (of_decide_eq_true z.2.1) (List.contains_iff_mem.mp z.2.2)
theorem needS_mem {n : Nat} {p q : Nat → Nat} {v : Nat} : v ∈ needS n p q ↔ v < n ∧ needB n p q v = true := by
  unfold needS; rw [List.mem_filter, List.mem_range]
theorem needS_nodup (n : Nat) (p q : Nat → Nat) : (needS n p q).Nodup := List.Nodup.sublist List.filter_sublist List.nodup_range
theorem needS_len (n : Nat) (p q : Nat → Nat) : (needS n p q).length ≤ n := Nat.le_trans (List.length_filter_le _ _) (by rw [List.length_range]; exact Nat.le_refl _)
section
variable {n : Nat} {p r : Nat → Nat}
theorem ups_trans (F : Fo n p r) {u v : Nat} : ∀ x, x < n → u ∈ ups p n x → v ∈ ups p n u → v ∈ ups p n x :=
  F.ind (C := fun x => u ∈ ups p n x → v ∈ ups p n u → v ∈ ups p n x) (fun x hx h a _ => by rw [ups_of h] at a; cases a) (fun x hx h ih a b => by
    rw [ups_n F hx h] at a
    rcases List.mem_cons.mp a with e | e
    · subst e; exact b
    · rw [ups_n F hx h]; exact List.mem_cons_of_mem _ (ih e b))
theorem ups_rank (F : Fo n p r) {v x : Nat} (hx : x < n) (h : v ∈ ups p n x) (ne : v ≠ x) : r v < r x := by
  by_cases e : p x = x
  · rw [ups_of e] at h; cases h
  · rw [ups_n F hx e] at h
    rcases List.mem_cons.mp h with z | z
    · exact absurd z ne
    · have := (ups_lt F (p x) (F.lt x hx) v z).2.2.2
      have := (F.up x hx).resolve_left e
      omega
theorem mark_iff {l : List Nat} {v : Nat} : markB n p l v = true ↔ ∃ x ∈ l, v ∈ ups p n x := by
  unfold markB
  rw [List.any_eq_true]
  exact ⟨fun ⟨x, a, b⟩ => ⟨x, a, upB_iff.mp b⟩, fun ⟨x, a, b⟩ => ⟨x, a, upB_iff.mpr b⟩⟩
theorem mark_closed (F : Fo n p r) {l : List Nat} (h : ∀ x ∈ l, x < n) : Closed n p (markB n p l) := fun v hv hm => by
  obtain ⟨x, hx, m⟩ := mark_iff.mp hm
  refine ⟨(ups_lt F x (h x hx) v m).2.1, ?_⟩
  rcases ups_above F x (h x hx) v m with y | y
  · exact .inl y
  · exact .inr (mark_iff.mpr ⟨x, hx, y⟩)
/-- behind finds: what is changed was marked -/
theorem behind_chg (F : Fo n p r) {l : List Nat} (h : ∀ x ∈ l, x < n) {v : Nat} (hv : v < n) (hc : p v ≠ fndAll n l p v) : markB n p l v = true ∧ fndAll n l p v = root p n v ∧ p v ≠ root p n v := by
  have e := behind_eq F l h v hv
  by_cases m : markB n p l v = true
  · rw [if_pos m] at e
    exact ⟨m, e, by rw [← e]; exact hc⟩
  · rw [if_neg m] at e
    exact absurd e.symm hc
theorem way_behind (F : Fo n p r) {l : List Nat} (h : ∀ x ∈ l, x < n) : Way n p (fndAll n l p) := fun v hv hc u hu => by
  have m := (behind_chg F h hv (chg_iff.mp hc)).1
  have hun := (ups_lt F v hv u hu).1
  obtain ⟨x, hx, mx⟩ := mark_iff.mp m
  rw [behind_eq F l h u hun, if_pos (mark_iff.mpr ⟨x, hx, ups_trans F x (h x hx) mx hu⟩)]
/-- whoever is above another one is no child of the root's -/
theorem above_deep (F : Fo n p r) {x v : Nat} (hx : x < n) (h : v ∈ ups p n x) (ne : v ≠ x) : p x ≠ root p n x := by
  have hr : p x ≠ x := fun e => by rw [ups_of e] at h; cases h
  rw [ups_n F hx hr] at h
  rcases List.mem_cons.mp h with z | z
  · exact absurd z ne
  · intro e
    have f := root_fix F x hx
    rw [← e] at f
    rw [ups_of f] at z
    cases z
theorem need_found (F : Fo n p r) {l : List Nat} (h : ∀ x ∈ l, x < n) {v : Nat} (hv : v < n) (hn : needB n p (fndAll n l p) v = true) : v ∈ l := by
  obtain ⟨hc, ho⟩ := needB_iff.mp hn
  obtain ⟨m, _, _⟩ := behind_chg F h hv hc
  obtain ⟨x, hx, mx⟩ := mark_iff.mp m
  by_cases e : v = x
  · rw [e]; exact hx
  · have hxn := h x hx
    have hr : p x ≠ x := fun z => by rw [ups_of z] at mx; cases mx
    have bx : fndAll n l p x = root p n x := by rw [behind_eq F l h x hxn, if_pos (mark_iff.mpr ⟨x, hx, self_ups F hxn hr⟩)]
    exact absurd mx (ho x hxn (by rw [bx]; exact above_deep F hxn mx e) e)
/-- above a needed one, or needed -/
theorem need_below (F : Fo n p r) {q : Nat → Nat} (hq : ∀ v, v < n → p v = v → q v = v) : ∀ k v, n - r v ≤ k → v < n → p v ≠ q v → ∃ u, u < n ∧ needB n p q u = true ∧ v ∈ ups p n u := by
  intro k
  induction k with
  | zero => intro v hk hv _; have := F.rb v hv; omega
  | succ k ih =>
    intro v hk hv hc
    have nr : p v ≠ v := fun e => hc (by rw [hq v hv e]; exact e)
    cases hb : needB n p q v with
    | true => exact ⟨v, hv, hb, self_ups F hv nr⟩
    | false =>
      have z : ¬ (p v ≠ q v ∧ ∀ u, u < n → p u ≠ q u → v ≠ u → v ∉ ups p n u) := fun y => by rw [needB_iff.mpr y] at hb; cases hb
      have : ∃ u, u < n ∧ p u ≠ q u ∧ v ≠ u ∧ v ∈ ups p n u := by
        refine Classical.byContradiction fun y => z ⟨hc, fun u a b c d => y ⟨u, a, b, c, d⟩⟩
      obtain ⟨u, hu, cu, ne, mu⟩ := this
      have rk := ups_rank F hu mu ne
      obtain ⟨w, hw, nw, mw⟩ := ih u (by have := F.rb u hu; omega) hu cu
      exact ⟨w, hw, nw, ups_trans F w hw mw mu⟩
/-- a way: finds of the needed ones lead there -/
theorem need_leads (F : Fo n p r) {q : Nat → Nat} (hq : ∀ v, v < n → p v = v → q v = v) (W : Way n p q) (v : Nat) (hv : v < n) : fndAll n (needS n p q) p v = q v := by
  have hl : ∀ x ∈ needS n p q, x < n := fun x hx => (needS_mem.mp hx).1
  rw [behind_eq F _ hl v hv]
  by_cases m : markB n p (needS n p q) v = true
  · rw [if_pos m]
    obtain ⟨x, hx, mx⟩ := mark_iff.mp m
    have hb := needS_mem.mp hx
    exact (W x hb.1 (chg_iff.mpr (needB_iff.mp hb.2).1) v mx).symm
  · rw [if_neg m]
    refine Classical.byContradiction fun hc => ?_
    obtain ⟨u, hu, nu, mu⟩ := need_below F hq n v (by omega) hv hc
    exact m (mark_iff.mpr ⟨u, needS_mem.mpr ⟨hu, nu⟩, mu⟩)
theorem behind_root (F : Fo n p r) {l : List Nat} (h : ∀ x ∈ l, x < n) (v : Nat) (hv : v < n) (e : p v = v) : fndAll n l p v = v := by
  rw [behind_eq F l h v hv]
  split
  · exact root_of e n
  · exact e
theorem filter_single {f : Nat → Bool} {m : Nat} (hm : m < n) (h : ∀ v, v < n → (f v = true ↔ v = m)) : (List.range n).filter f = [m] := by
  have e : (List.range n).filter f = (List.range n).filter (fun v => v == m) := by
    refine List.filter_congr fun v hv => ?_
    have := h v (List.mem_range.mp hv)
    by_cases z : v = m
    · rw [this.mpr z, z]; simp
    · have y : f v = false := by
        cases hf : f v with
        | false => rfl
        | true => exact absurd (this.mp hf) z
      rw [y]; simp [z]
  rw [e]
  have c : (List.range n).filter (fun v => v == m) = List.replicate ((List.range n).count m) m := List.filter_beq _
  rw [c, (List.nodup_range (n := n)).count, if_pos (List.mem_range.mpr hm)]
  rfl
/-- all but one of the needed ones do not suffice -/
theorem rest_needs (F : Fo n p r) {q : Nat → Nat} (hq : ∀ v, v < n → p v = v → q v = v) (W : Way n p q) {rest : List Nat} {m : Nat} (hmn : m < n) (hm : needB n p q m = true)
    (hr : ∀ x ∈ rest, x ∈ needS n p q ∧ x ≠ m) (hall : ∀ x ∈ needS n p q, x = m ∨ x ∈ rest) :
    fndAll n rest p m ≠ q m ∧ Way n (fndAll n rest p) q ∧ needS n (fndAll n rest p) q = [m] := by
  have hl : ∀ x ∈ rest, x < n := fun x hx => (needS_mem.mp (hr x hx).1).1
  obtain ⟨cm, om⟩ := needB_iff.mp hm
  have C := mark_closed F hl
  have hS : ∀ v, v < n → fndAll n rest p v = after n p (markB n p rest) v := fun v hv => by rw [behind_eq F rest hl v hv]; rfl
  have G := after_fo F C
  have hm0 : markB n p rest m ≠ true := fun z => by
    obtain ⟨x, hx, mx⟩ := mark_iff.mp z
    have hb := needS_mem.mp (hr x hx).1
    exact om x hb.1 (needB_iff.mp hb.2).1 (fun e => (hr x hx).2 e.symm) mx
  have rm : fndAll n rest p m = p m := by rw [behind_eq F rest hl m hmn, if_neg hm0]
  have mchg : fndAll n rest p m ≠ q m := by rw [rm]; exact cm
  have uc : ∀ x, x < n → ups (fndAll n rest p) n x = ups (after n p (markB n p rest)) n x := fun x hx => ups_congr G.lt hS n x hx
  have rc : ∀ x, x < n → root (fndAll n rest p) n x = root p n x := fun x hx => (root_congr G.lt hS n x hx).trans (after_same_root F C x hx)
  -- what is still changed
  have still : ∀ v, v < n → fndAll n rest p v ≠ q v → markB n p rest v ≠ true ∧ p v ≠ q v ∧ v ∈ ups p n m := fun v hv hc => by
    have e := behind_eq F rest hl v hv
    by_cases mv : markB n p rest v = true
    · rw [if_pos mv] at e
      obtain ⟨x, hx, mx⟩ := mark_iff.mp mv
      have hb := needS_mem.mp (hr x hx).1
      exact absurd (e.trans (W x hb.1 (chg_iff.mpr (needB_iff.mp hb.2).1) v mx).symm) hc
    · rw [if_neg mv] at e
      have pc : p v ≠ q v := by rw [← e]; exact hc
      obtain ⟨u, hu, nu, mu⟩ := need_below F hq n v (by omega) hv pc
      rcases hall u (needS_mem.mpr ⟨hu, nu⟩) with z | z
      · exact ⟨mv, pc, z ▸ mu⟩
      · exact absurd (mark_iff.mpr ⟨u, z, mu⟩) mv
  refine ⟨mchg, fun v hv hc u hu => ?_, filter_single hmn fun v hv => ?_⟩
  · obtain ⟨_, pc, _⟩ := still v hv (chg_iff.mp hc)
    rw [uc v hv] at hu
    have hu' := (after_ups F C v hv).1 u hu
    rw [rc u (ups_lt F v hv u hu').1]
    exact W v hv (chg_iff.mpr pc) u hu'
  · rw [needB_iff]
    constructor
    · rintro ⟨hc, ho⟩
      refine Classical.byContradiction fun ne => ?_
      obtain ⟨mv, _, vm⟩ := still v hv hc
      refine ho m hmn mchg ne ?_
      rw [uc m hmn]
      exact ((after_ups F C m hmn).2 v vm).resolve_left mv
    · rintro rfl
      refine ⟨mchg, fun u hu hc ne hm2 => ?_⟩
      obtain ⟨_, _, um⟩ := still u hu hc
      rw [uc u hu] at hm2
      have a := ups_rank F hu ((after_ups F C u hu).1 v hm2) ne
      have b := ups_rank F hmn um (fun e => ne e.symm)
      omega
end
end Ff
namespace Ff
section
variable {n : Nat} {p r : Nat → Nat}
theorem fndAll_append (n : Nat) : ∀ (l m : List Nat) (p : Nat → Nat), fndAll n (l ++ m) p = fndAll n m (fndAll n l p)
  | [], _, _ => rfl
  | x :: l, m, p => fndAll_append n l m (fnd n p x)
theorem behind_same_root (F : Fo n p r) {l : List Nat} (h : ∀ x ∈ l, x < n) (v : Nat) (hv : v < n) : root (fndAll n l p) n v = root p n v := by
  have C := mark_closed F h
  have hS : ∀ v, v < n → fndAll n l p v = after n p (markB n p l) v := fun v hv => by rw [behind_eq F l h v hv]; rfl
  exact (root_congr (after_fo F C).lt hS n v hv).trans (after_same_root F C v hv)
theorem behind_ups (F : Fo n p r) {l : List Nat} (h : ∀ x ∈ l, x < n) {x v : Nat} (hx : x < n) (hv : v ∈ ups (fndAll n l p) n x) : v ∈ ups p n x := by
  have C := mark_closed F h
  have hS : ∀ v, v < n → fndAll n l p v = after n p (markB n p l) v := fun v hv => by rw [behind_eq F l h v hv]; rfl
  rw [ups_congr (after_fo F C).lt hS n x hx] at hv
  exact (after_ups F C x hx).1 v hv
/-- a node keeps its parent or hangs on its root -/
theorem behind_or (F : Fo n p r) {l : List Nat} (h : ∀ x ∈ l, x < n) (v : Nat) (hv : v < n) : fndAll n l p v = p v ∨ fndAll n l p v = root p n v := by
  rw [behind_eq F l h v hv]
  split
  · exact .inr rfl
  · exact .inl rfl
/-- what is needed over two ways is needed over one of them -/
theorem need_two (F : Fo n p r) {l m : List Nat} (hl : ∀ x ∈ l, x < n) (hm : ∀ x ∈ m, x < n) {v : Nat} (hv : v < n) (hn : needB n p (fndAll n m (fndAll n l p)) v = true) :
    needB n p (fndAll n l p) v = true ∨ needB n (fndAll n l p) (fndAll n m (fndAll n l p)) v = true := by
  have G : Fo n (fndAll n l p) r := fndAll_fo F l hl p F
  obtain ⟨hc, ho⟩ := needB_iff.mp hn
  -- once on the root, always on the root
  have stay : ∀ u, u < n → fndAll n l p u = root p n u → fndAll n m (fndAll n l p) u = root p n u := fun u hu e => by
    rcases behind_or G hm u hu with z | z
    · rw [z, e]
    · rw [z, behind_same_root F hl u hu]
  by_cases h1 : p v = fndAll n l p v
  · refine .inr (needB_iff.mpr ⟨by rw [← h1]; exact hc, fun u hu hcu ne hmu => ?_⟩)
    refine ho u hu ?_ ne (behind_ups F hl hu hmu)
    rcases behind_or F hl u hu with z | z
    · rw [← z]; exact hcu
    · exact absurd (z.trans (stay u hu z).symm) hcu
  · refine .inl (needB_iff.mpr ⟨h1, fun u hu hcu ne hmu => ?_⟩)
    refine ho u hu ?_ ne hmu
    have z := (behind_or F hl u hu).resolve_left (fun e => hcu e.symm)
    rw [stay u hu z, ← z]; exact hcu
theorem flat_fo (F : Fo n p r) : Fo n (fun v => root p n v) r where
  lt := root_lt F
  up := root_rank F
  rb := F.rb
theorem flat_way (F : Fo n p r) : Way n p (fun v => root p n v) := fun _ _ _ _ _ => rfl
theorem flat_roots (F : Fo n p r) (v : Nat) (hv : v < n) : p v = v ↔ root p n v = v :=
  ⟨fun e => root_of e n, fun e => Classical.byContradiction fun z => root_ne F hv z e⟩
theorem flat_ups (F : Fo n p r) (v : Nat) (hv : v < n) : (ups (fun v => root p n v) n v).length ≤ 1 := by
  by_cases e : root p n v = v
  · rw [ups_of (p := fun v => root p n v) e]; exact Nat.zero_le _
  · rw [ups_n (flat_fo F) hv e]
    have f : root p n (root p n v) = root p n v := root_of (root_fix F v hv) n
    rw [ups_of (p := fun v => root p n v) f]
    exact Nat.le_refl _
theorem deep_chg (F : Fo n p r) (v : Nat) (hv : v < n) : decide (2 ≤ (ups p n v).length) = chg p (fun v => root p n v) v := by
  unfold chg
  refine decide_eq_decide.mpr ?_
  show 2 ≤ (ups p n v).length ↔ p v ≠ root p n v
  by_cases e : p v = v
  · rw [ups_of e, root_of e]; simp [e]
  · rw [ups_n F hv e, root_n F hv e, List.length_cons]
    constructor
    · intro h z
      rw [ups_of (by rw [z]; exact root_fix F (p v) (F.lt v hv))] at h
      simp at h
    · intro h
      have e2 : p (p v) ≠ p v := fun z => h (root_of z n).symm
      rw [ups_n F (F.lt v hv) e2, List.length_cons]; omega
/-- no way back -/
theorem no_way_back (F : Fo n p r) {l : List Nat} (hl : ∀ x ∈ l, x < n) : Way n (fndAll n l p) p ↔ ∀ v, v < n → p v = fndAll n l p v := by
  have G : Fo n (fndAll n l p) r := fndAll_fo F l hl p F
  constructor
  · intro W v hv
    refine Classical.byContradiction fun hc => ?_
    have z := (behind_or F hl v hv).resolve_left (fun e => hc e.symm)
    have nr : fndAll n l p v ≠ v := by
      intro e
      rw [z] at e
      have pr : p v = v := by
        have y := root_fix F v hv
        rw [e] at y; exact y
      exact hc (by rw [z, e, pr])
    have := W v hv (chg_iff.mpr fun e => hc e.symm) v (self_ups G hv nr)
    rw [behind_same_root F hl v hv, ← z] at this
    exact hc this
  · intro h v hv hc
    exact absurd (h v hv).symm (chg_iff.mp hc)
end
end Ff

/-! Forests by any falling measure; a parent exchanged. -/
namespace Ff
section
variable {n : Nat} {p ρ : Nat → Nat}
theorem bounded (ρ : Nat → Nat) : ∀ n, ∃ M, ∀ v, v < n → ρ v ≤ M
  | 0 => ⟨0, fun v h => by omega⟩
  | n + 1 => by
    obtain ⟨M, h⟩ := bounded ρ n
    refine ⟨M + ρ n, fun v hv => ?_⟩
    by_cases e : v = n
    · rw [e]; omega
    · have := h v (by omega); omega
theorem upsW (hl : ∀ x, x < n → p x < n) (hu : ∀ x, x < n → p x = x ∨ ρ (p x) < ρ x) : ∀ (k x : Nat), x < n → ρ x ≤ k → ups p (k + 1) x = ups p k x
  | k, x, hx, hr => by
    by_cases h : p x = x
    · rw [ups_of h, ups_of h]
    · have u := (hu x hx).resolve_left h
      cases k with
      | zero => omega
      | succ k => rw [ups_step h, ups_step h]; rw [upsW hl hu k (p x) (hl x hx) (by omega)]
theorem ups_memW (hl : ∀ x, x < n → p x < n) (hu : ∀ x, x < n → p x = x ∨ ρ (p x) < ρ x) : ∀ (k x : Nat), x < n → ∀ v ∈ ups p k x, v < n ∧ p v ≠ v ∧ ρ v ≤ ρ x
  | 0, x, hx, v, hv => by cases hv
  | k + 1, x, hx, v, hv => by
    by_cases h : p x = x
    · rw [ups_of h] at hv; cases hv
    · have u := (hu x hx).resolve_left h
      rw [ups_step h] at hv
      rcases List.mem_cons.mp hv with e | e
      · subst e; exact ⟨hx, h, Nat.le_refl _⟩
      · have z := ups_memW hl hu k (p x) (hl x hx) v e
        exact ⟨z.1, z.2.1, by omega⟩
theorem ups_nodupW (hl : ∀ x, x < n → p x < n) (hu : ∀ x, x < n → p x = x ∨ ρ (p x) < ρ x) : ∀ (k x : Nat), x < n → (ups p k x).Nodup
  | 0, x, hx => List.nodup_nil
  | k + 1, x, hx => by
    by_cases h : p x = x
    · rw [ups_of h]; exact List.nodup_nil
    · have u := (hu x hx).resolve_left h
      rw [ups_step h]
      refine List.nodup_cons.mpr ⟨fun hm => ?_, ups_nodupW hl hu k (p x) (hl x hx)⟩
      have := (ups_memW hl hu k (p x) (hl x hx) x hm).2.2
      omega
theorem nodup_len {l : List Nat} (nd : l.Nodup) (h : ∀ v ∈ l, v < n) {w : Nat} (hw : w < n) (ho : w ∉ l) : l.length < n := by
  have P : (w :: l).Perm ((List.range n).filter fun v => (w :: l).contains v) := by
    refine (List.perm_ext_iff_of_nodup (List.nodup_cons.mpr ⟨ho, nd⟩) (List.Nodup.sublist List.filter_sublist List.nodup_range)).mpr fun v => ?_
    rw [List.mem_filter, List.mem_range, List.contains_iff_mem]
    refine ⟨fun z => ⟨?_, z⟩, fun z => z.2⟩
    rcases List.mem_cons.mp z with y | y
    · rw [y]; exact hw
    · exact h v y
  have e := P.length_eq
  rw [List.length_cons] at e
  have := List.length_filter_le (fun v => (w :: l).contains v) (List.range n)
  rw [List.length_range] at this
  omega
/-- any falling measure makes a forest -/
theorem fo_of_weak (hl : ∀ x, x < n → p x < n) (hu : ∀ x, x < n → p x = x ∨ ρ (p x) < ρ x) : ∃ r, Fo n p r := by
  obtain ⟨M, hM⟩ := bounded ρ n
  have st : ∀ x, x < n → p x ≠ x → ups p M x = x :: ups p M (p x) := fun x hx h => by
    rw [← upsW hl hu M x hx (hM x hx), ups_step h]
  refine ⟨fun v => (ups p M v).length, hl, fun x hx => ?_, fun x hx => ?_⟩
  · by_cases h : p x = x
    · exact .inl h
    · refine .inr ?_
      show (ups p M (p x)).length < (ups p M x).length
      rw [st x hx h, List.length_cons]; omega
  · -- some root is not on the way
    have : ∀ k x, x < n → ρ x ≤ k → p (root p k x) = root p k x ∧ root p k x < n := by
      intro k
      induction k with
      | zero =>
        intro x hx hr
        rcases hu x hx with z | z
        · exact ⟨z, hx⟩
        · omega
      | succ k ih =>
        intro x hx hr
        by_cases h : p x = x
        · rw [root_of h]; exact ⟨h, hx⟩
        · rw [root_step h]
          exact ih (p x) (hl x hx) (by have := (hu x hx).resolve_left h; omega)
    obtain ⟨h1, h2⟩ := this M x hx (hM x hx)
    exact nodup_len (ups_nodupW hl hu M x hx) (fun v hv => (ups_memW hl hu M x hx v hv).1) h2 (fun hm => (ups_memW hl hu M x hx _ hm).2.1 h1)
end
/-- a node hung on one that is not below it -/
theorem exchange_fo {n : Nat} {p r : Nat → Nat} (F : Fo n p r) {a b : Nat} (ha : a < n) (hb : b < n) (hr : p a ≠ a) (hn : a ∉ path p n b) : ∃ r', Fo n (fun v => if v = a then b else p v) r' := by
  -- below a, and a itself, go beyond b
  let low : Nat → Bool := fun v => decide (a ∈ path p n v)
  have lowa : low a = true := decide_eq_true (by unfold path; exact List.mem_append_left _ (self_ups F ha hr))
  have lowb : low b = false := decide_eq_false hn
  have pathn : ∀ v, v < n → p v ≠ v → path p n v = v :: path p n (p v) := fun v hv h => by
    unfold path; rw [ups_n F hv h, root_n F hv h]; rfl
  have step : ∀ v, v < n → v ≠ a → p v ≠ v → low (p v) = low v := fun v hv ne h => by
    show decide (a ∈ path p n (p v)) = decide (a ∈ path p n v)
    rw [pathn v hv h]
    refine decide_eq_decide.mpr ⟨fun z => List.mem_cons_of_mem _ z, fun z => ?_⟩
    rcases List.mem_cons.mp z with y | y
    · exact absurd y.symm ne
    · exact y
  refine fo_of_weak (ρ := fun v => if low v = true then r v + n else r v) (fun x hx => ?_) (fun x hx => ?_)
  · show (if x = a then b else p x) < n
    split
    · exact hb
    · exact F.lt x hx
  · by_cases e : x = a
    · subst e
      refine .inr ?_
      show (if low (if x = x then b else p x) = true then r (if x = x then b else p x) + n else r (if x = x then b else p x)) < (if low x = true then r x + n else r x)
      rw [if_pos rfl, lowb, lowa, if_pos rfl, if_neg (by decide)]
      have := F.rb b hb
      omega
    · show (if x = a then b else p x) = x ∨ (if low (if x = a then b else p x) = true then r (if x = a then b else p x) + n else r (if x = a then b else p x)) < (if low x = true then r x + n else r x)
      rw [if_neg e]
      by_cases h : p x = x
      · exact .inl h
      · have u := (F.up x hx).resolve_left h
        refine .inr ?_
        rw [step x hx e h]
        cases low x <;> simp <;> omega
theorem exchange_root {n : Nat} {p : Nat → Nat} {a b : Nat} (hr : p a ≠ a) (ne : b ≠ a) (v : Nat) : (if v = a then b else p v) = v ↔ p v = v := by
  by_cases e : v = a
  · subst e
    rw [if_pos rfl]
    exact ⟨fun z => absurd z ne, fun z => absurd z hr⟩
  · rw [if_neg e]
end Ff

/-! Falling products and choices. -/
namespace Ff
def fallN (s : Int) : Nat → Int
  | 0 => 1
  | k + 1 => fallN s k * (if s - (k : Int) > 0 then s - (k : Int) else 0)
def fall (s c : Int) : Int := if c < 0 then 0 else fallN s c.toNat
def binom (s c : Int) : Int := if c < 0 then 0 else fall s c / fall c c
def choose : Nat → Nat → Nat
  | _, 0 => 1
  | 0, _ + 1 => 0
  | n + 1, k + 1 => choose n k + choose n (k + 1)
def fact : Nat → Nat
  | 0 => 1
  | k + 1 => (k + 1) * fact k
theorem fact_pos : ∀ k, 0 < fact k
  | 0 => Nat.one_pos
  | k + 1 => Nat.mul_pos (Nat.succ_pos k) (fact_pos k)
theorem choose_zero (n : Nat) : choose n 0 = 1 := by cases n <;> rfl
/-- (n + 1 choose k + 1) (k + 1) = (n + 1) (n choose k) -/
theorem choose_succ : ∀ n k, choose (n + 1) (k + 1) * (k + 1) = (n + 1) * choose n k
  | 0, 0 => rfl
  | 0, k + 1 => by show (0 + 0) * (k + 1 + 1) = (0 + 1) * 0; simp
  | n + 1, 0 => by
    have h := choose_succ n 0
    rw [choose_zero] at h
    rw [choose_zero]
    show (choose (n + 1) 0 + choose (n + 1) (0 + 1)) * (0 + 1) = (n + 1 + 1) * 1
    rw [choose_zero]
    omega
  | n + 1, k + 1 => by
    have h1 := choose_succ n k
    have h2 := choose_succ n (k + 1)
    show (choose (n + 1) (k + 1) + choose (n + 1) (k + 1 + 1)) * (k + 1 + 1) = (n + 1 + 1) * choose (n + 1) (k + 1)
    have e : choose (n + 1) (k + 1) = choose n k + choose n (k + 1) := rfl
    have e1 : choose (n + 1) (k + 1) * (k + 1 + 1) = (n + 1) * choose n k + choose (n + 1) (k + 1) := by rw [Nat.mul_add, Nat.mul_one, h1]
    have e2 : (n + 1 + 1) * choose (n + 1) (k + 1) = ((n + 1) * choose n k + (n + 1) * choose n (k + 1)) + choose (n + 1) (k + 1) := by rw [Nat.add_mul, Nat.one_mul, e, Nat.mul_add]
    rw [Nat.add_mul, h2, e1, e2]
    generalize (n + 1) * choose n k = x
    generalize (n + 1) * choose n (k + 1) = y
    omega
theorem fall_rec (n : Nat) : ∀ k : Nat, fallN ((n + 1 : Nat) : Int) (k + 1) = ((n + 1 : Nat) : Int) * fallN (n : Int) k
  | 0 => by
    show 1 * (if ((n + 1 : Nat) : Int) - ((0 : Nat) : Int) > 0 then ((n + 1 : Nat) : Int) - ((0 : Nat) : Int) else 0) = ((n + 1 : Nat) : Int) * 1
    rw [if_pos (by omega)]; omega
  | k + 1 => by
    show fallN ((n + 1 : Nat) : Int) (k + 1) * (if ((n + 1 : Nat) : Int) - ((k + 1 : Nat) : Int) > 0 then ((n + 1 : Nat) : Int) - ((k + 1 : Nat) : Int) else 0) = ((n + 1 : Nat) : Int) * (fallN (n : Int) k * (if (n : Int) - (k : Int) > 0 then (n : Int) - (k : Int) else 0))
    rw [fall_rec n k, Int.mul_assoc]
    congr 2
    rw [show ((n + 1 : Nat) : Int) - ((k + 1 : Nat) : Int) = (n : Int) - (k : Int) by omega]
theorem fall_choose : ∀ k n : Nat, fallN (n : Int) k = ((choose n k * fact k : Nat) : Int)
  | 0, n => by show (1 : Int) = ((choose n 0 * fact 0 : Nat) : Int); cases n <;> rfl
  | k + 1, 0 => by
    show fallN 0 k * (if ((0 : Nat) : Int) - (k : Int) > 0 then ((0 : Nat) : Int) - (k : Int) else 0) = ((0 * fact (k + 1) : Nat) : Int)
    rw [if_neg (by omega), Int.mul_zero, Nat.zero_mul]; rfl
  | k + 1, n + 1 => by
    rw [fall_rec, fall_choose k n]
    have h := choose_succ n k
    show ((n + 1 : Nat) : Int) * ((choose n k * fact k : Nat) : Int) = ((choose (n + 1) (k + 1) * ((k + 1) * fact k) : Nat) : Int)
    rw [← Int.natCast_mul, ← Nat.mul_assoc, ← Nat.mul_assoc, h]
theorem choose_self : ∀ n, choose n n = 1 ∧ ∀ k, n < k → choose n k = 0
  | 0 => ⟨rfl, fun k h => by cases k with | zero => omega | succ k => rfl⟩
  | n + 1 => by
    have ih := choose_self n
    refine ⟨?_, fun k h => ?_⟩
    · show choose n n + choose n (n + 1) = 1
      rw [ih.1, ih.2 (n + 1) (by omega)]
    · cases k with
      | zero => omega
      | succ k => show choose n k + choose n (k + 1) = 0; rw [ih.2 k (by omega), ih.2 (k + 1) (by omega)]
theorem binom_nat (n k : Nat) : binom (n : Int) (k : Int) = (choose n k : Int) := by
  unfold binom fall
  rw [if_neg (by omega), if_neg (by omega), if_neg (by omega), Int.toNat_natCast, fall_choose, fall_choose, (choose_self k).1, Nat.one_mul, Int.natCast_mul]
  exact Int.mul_ediv_cancel _ (by have := fact_pos k; omega)
/-- sums of neighbours -/
theorem pascal (s c : Int) (h : 0 < s) : binom s c = binom (s - 1) (c - 1) + binom (s - 1) c := by
  obtain ⟨n, rfl⟩ : ∃ n : Nat, s = ((n + 1 : Nat) : Int) := ⟨(s - 1).toNat, by omega⟩
  rw [show ((n + 1 : Nat) : Int) - 1 = (n : Int) by omega]
  by_cases hc : c < 0
  · unfold binom
    rw [if_pos hc, if_pos (by omega), if_pos hc]; rfl
  · by_cases h0 : c = 0
    · subst h0
      have e1 := binom_nat (n + 1) 0
      have e2 := binom_nat n 0
      have e3 : binom (n : Int) (0 - 1) = 0 := by unfold binom; rw [if_pos (by omega)]
      rw [e3]
      rw [choose_zero] at e1 e2
      show binom ((n + 1 : Nat) : Int) ((0 : Nat) : Int) = 0 + binom (n : Int) ((0 : Nat) : Int)
      rw [e1, e2]; rfl
    · obtain ⟨k, rfl⟩ : ∃ k : Nat, c = ((k + 1 : Nat) : Int) := ⟨(c - 1).toNat, by omega⟩
      rw [show ((k + 1 : Nat) : Int) - 1 = (k : Int) by omega, binom_nat, binom_nat, binom_nat]
      show ((choose n k + choose n (k + 1) : Nat) : Int) = _
      omega
end Ff

namespace Ff
theorem nodup_le : ∀ (m : Nat) (l : List Nat), l.Nodup → (∀ x ∈ l, x < m) → l.length ≤ m
  | 0, l, _, h => by
    cases l with
    | nil => exact Nat.le_refl _
    | cons a r => exact absurd (h a List.mem_cons_self) (by omega)
  | m + 1, l, hn, h => by
    have ih := nodup_le m (l.erase m) (hn.erase m) fun x hx => by
      have z := (hn.mem_erase_iff (a := x) (b := m)).mp hx
      have := h x z.2
      omega
    have e := List.length_erase (a := m) (l := l)
    split at e <;> omega
/-- the root c hung on a -/
def lnk (p : Nat → Nat) (c a : Nat) : Nat → Nat := fun v => if v = c then a else p v
section
variable {n : Nat} {p r : Nat → Nat}
def lnkR (n : Nat) (p : Nat → Nat) (c : Nat) : Nat → Nat := fun x => (ups p n x).length + if root p n x = c then 1 else 0
theorem lnk_fo (F : Fo n p r) {c a : Nat} (hc : c < n) (ha : a < n) (pc : p c = c) (pa : p a = a) (ne : c ≠ a) : Fo n (lnk p c a) (lnkR n p c) where
  lt := fun x hx => by
    unfold lnk
    split
    · exact ha
    · exact F.lt x hx
  up := fun x hx => by
    unfold lnk
    by_cases e : x = c
    · rw [if_pos e]
      right
      unfold lnkR
      rw [e, ups_of pa, ups_of pc, root_of pa, root_of pc, if_neg (Ne.symm ne), if_pos rfl]
      decide
    · rw [if_neg e]
      by_cases h : p x = x
      · exact .inl h
      · right
        unfold lnkR
        rw [ups_n F hx h, root_n F hx h, List.length_cons]
        omega
  rb := fun x hx => by
    unfold lnkR
    have h1 := ups_lt F x hx
    have h2 := ups_nodup F x hx
    by_cases e : root p n x = c
    · rw [if_pos e]
      have h := nodup_le n (ups p n x ++ [c, a]) (by
        refine List.nodup_append.mpr ⟨h2, by simp [ne], fun y hy z hz e2 => ?_⟩
        have := (h1 y hy).2.1
        rw [e2] at this
        rcases List.mem_cons.mp hz with z1 | z1
        · rw [z1] at this; exact this pc
        · rw [List.mem_singleton.mp z1] at this; exact this pa) fun y hy => by
        rcases List.mem_append.mp hy with z | z
        · exact (h1 y z).1
        · rcases List.mem_cons.mp z with z1 | z1
          · rw [z1]; exact hc
          · rw [List.mem_singleton.mp z1]; exact ha
      rw [List.length_append] at h
      simp at h
      omega
    · rw [if_neg e]
      have := ups_len F x hx
      have := F.rb x hx
      omega
theorem lnk_root (F : Fo n p r) {c a : Nat} (hc : c < n) (ha : a < n) (pc : p c = c) (pa : p a = a) (ne : c ≠ a) : ∀ x, x < n → root (lnk p c a) n x = if root p n x = c then a else root p n x := by
  have F2 := lnk_fo F hc ha pc pa ne
  have qa : lnk p c a a = a := by unfold lnk; rw [if_neg (Ne.symm ne)]; exact pa
  refine F.ind (fun x hx h => ?_) (fun x hx h ih => ?_)
  · rw [root_of h]
    by_cases e : x = c
    · have qx : lnk p c a x = a := by unfold lnk; rw [if_pos e]
      rw [if_pos e, root_n F2 hx (by rw [qx, e]; exact Ne.symm ne), qx, root_of qa]
    · rw [if_neg e]
      exact root_of (by unfold lnk; rw [if_neg e]; exact h) n
  · have e : x ≠ c := fun z => h (by rw [z]; exact pc)
    have qx : lnk p c a x = p x := by unfold lnk; rw [if_neg e]
    rw [root_n F2 hx (by rw [qx]; exact h), qx, ih, root_n F hx h]
end
/-- which error a root asks for -/
def chkE (n : Nat) (p : Nat → Nat) (x : Int) : Option Bool := if 0 ≤ x ∧ x < (n : Int) then (if p x.toNat = x.toNat then none else some true) else some false
end Ff

namespace Ff
/-- the first of a filter -/
theorem filt_first {n i : Nat} {g : Nat → Bool} (hi : i < n) (h0 : ∀ v, v < i → g v = false) (h1 : g i = true) : ∃ rest, (List.range n).filter g = i :: rest := by
  obtain ⟨k, rfl⟩ : ∃ k, n = i + 1 + k := ⟨n - (i + 1), by omega⟩
  have e : (List.range (i + 1 + k)).filter g = (List.range (i + 1)).filter g ++ ((List.range k).map (i + 1 + ·)).filter g := by
    rw [List.range_add, List.filter_append]
  have e2 : (List.range (i + 1)).filter g = [i] := by
    rw [List.range_succ, List.filter_append]
    have : (List.range i).filter g = [] := List.filter_eq_nil_iff.mpr fun v hv => by rw [h0 v (List.mem_range.mp hv)]; simp
    rw [this]
    simp [List.filter, h1]
  rw [e, e2]
  exact ⟨_, rfl⟩
theorem filt_none {n : Nat} {g : Nat → Bool} (h : ∀ v, v < n → g v = false) : (List.range n).filter g = [] := List.filter_eq_nil_iff.mpr fun v hv => by rw [h v (List.mem_range.mp hv)]; simp
section
variable {n : Nat} {p : Nat → Nat}
def fixB (p : Nat → Nat) (y : Nat) : Bool := decide (p y = y)
theorem root_stay {k x : Nat} (h : p (root p k x) = root p k x) : ∀ j, root p (k + j) x = root p k x
  | 0 => rfl
  | j + 1 => by rw [Nat.add_succ, root_succ, root_stay h j]; exact h
theorem root_add (x : Nat) (i : Nat) : ∀ j, root p (i + j) x = root p j (root p i x)
  | 0 => rfl
  | j + 1 => by rw [Nat.add_succ, root_succ, root_succ, root_add x i j]
/-- what is fixed after n steps is fixed before -/
theorem fix_before (hl : ∀ v, v < n → p v < n) {x : Nat} (hx : x < n) (h : p (root p n x) = root p n x) : ∃ j, j < n ∧ p (root p j x) = root p j x := by
  -- two of n + 1 places are one node
  have pig : ∃ i j, i < j ∧ j ≤ n ∧ root p i x = root p j x := by
    refine Classical.byContradiction fun no => ?_
    have nd : ((List.range (n + 1)).map fun k => root p k x).Nodup := by
      unfold List.Nodup
      rw [List.pairwise_map]
      refine List.Pairwise.imp_of_mem (fun {a b} ha hb lt e => no ⟨a, b, lt, by have := List.mem_range.mp hb; omega, e⟩) (List.pairwise_lt_range)
    have := nodup_le n _ nd fun y hy => by
      obtain ⟨k, _, rfl⟩ := List.mem_map.mp hy
      exact root_lt0 hl k x hx
    rw [List.length_map, List.length_range] at this
    omega
  obtain ⟨i, j, hij, hj, e⟩ := pig
  refine ⟨i, by omega, ?_⟩
  have per : ∀ t, root p (i + t * (j - i)) x = root p i x := fun t => by
    induction t with
    | zero => simp
    | succ t ih =>
      have e1 : i + (t + 1) * (j - i) = (i + t * (j - i)) + (j - i) := by rw [Nat.succ_mul]; omega
      rw [e1, root_add, ih, ← root_add, show i + (j - i) = j by omega, e]
  have big : n ≤ i + n * (j - i) := by
    have : n * 1 ≤ n * (j - i) := Nat.mul_le_mul_left n (by omega)
    omega
  obtain ⟨m, hm⟩ : ∃ m, i + n * (j - i) = n + m := ⟨i + n * (j - i) - n, by omega⟩
  have z := per n
  rw [hm, root_stay h m] at z
  rw [← z]; exact h
end
/-- a row of integers as parents -/
def par (xs : List Int) : Nat → Nat := fun v => (xs.getD v 0).toNat
def wideB (xs : List Int) (v : Nat) : Bool := !(decide (0 ≤ xs.getD v 0) && decide (xs.getD v 0 < (xs.length : Int)))
def wideL (xs : List Int) : List Nat := (List.range xs.length).filter (wideB xs)
def ringB (n : Nat) (p : Nat → Nat) (v : Nat) : Bool := !decide (p (root p n v) = root p n v)
def ringsL (xs : List Int) : List Nat := (List.range xs.length).filter (ringB xs.length (par xs))
/-- 0: none; 1: TooManyNodes; 2: BadParent; 3: Cycle -/
inductive Ver
  | ok
  | many
  | bad (v : Nat)
  | cyc (v : Nat)
def verdict (xs : List Int) : Ver := if 40 < xs.length then .many else match wideL xs with
  | v :: _ => .bad v
  | [] => match ringsL xs with
    | v :: _ => .cyc v
    | [] => .ok
theorem wide_iff {xs : List Int} {v : Nat} : wideB xs v = false ↔ 0 ≤ xs.getD v 0 ∧ xs.getD v 0 < (xs.length : Int) := by
  unfold wideB
  rw [Bool.not_eq_false', Bool.and_eq_true, decide_eq_true_iff, decide_eq_true_iff]
theorem par_lt {xs : List Int} (h : ∀ v, v < xs.length → wideB xs v = false) : ∀ v, v < xs.length → par xs v < xs.length := fun v hv => by
  have := wide_iff.mp (h v hv)
  unfold par
  omega
end Ff

namespace Ff
theorem ups_fix (p : Nat → Nat) : ∀ (j k x : Nat), j ≤ k → p (root p j x) = root p j x → ups p k x = ups p j x ∧ (ups p j x).length ≤ j
  | 0, k, x, _, h => by
    have h' : p x = x := h
    refine ⟨?_, Nat.le_refl _⟩
    cases k with
    | zero => rfl
    | succ k =>
      show (if p x = x then [] else x :: ups p k (p x)) = []
      rw [if_pos h']
  | j + 1, 0, x, hk, _ => by omega
  | j + 1, k + 1, x, hk, h => by
    by_cases e : p x = x
    · have a : ups p (k + 1) x = [] := by
        show (if p x = x then [] else x :: ups p k (p x)) = []
        rw [if_pos e]
      have b : ups p (j + 1) x = [] := by
        show (if p x = x then [] else x :: ups p j (p x)) = []
        rw [if_pos e]
      rw [a, b]
      exact ⟨rfl, Nat.zero_le _⟩
    · have a : ups p (k + 1) x = x :: ups p k (p x) := by
        show (if p x = x then [] else x :: ups p k (p x)) = _
        rw [if_neg e]
      have b : ups p (j + 1) x = x :: ups p j (p x) := by
        show (if p x = x then [] else x :: ups p j (p x)) = _
        rw [if_neg e]
      have c : root p (j + 1) x = root p j (p x) := by
        show (if p x = x then x else root p j (p x)) = _
        rw [if_neg e]
      rw [c] at h
      obtain ⟨i1, i2⟩ := ups_fix p j k (p x) (by omega) h
      rw [a, b, i1]
      exact ⟨rfl, by rw [List.length_cons]; omega⟩
/-- a row without a ring is a forest -/
theorem fo_of {n : Nat} {p : Nat → Nat} (hl : ∀ v, v < n → p v < n) (hr : ∀ v, v < n → p (root p n v) = root p n v) : Fo n p (fun v => (ups p n v).length) := by
  refine ⟨hl, fun x hx => ?_, fun x hx => ?_⟩
  · by_cases e : p x = x
    · exact .inl e
    · refine .inr ?_
      obtain ⟨j, hj, h⟩ := fix_before hl hx (hr x hx)
      cases j with
      | zero => exact absurd h e
      | succ j =>
        have c : root p (j + 1) x = root p j (p x) := by
          show (if p x = x then x else root p j (p x)) = _
          rw [if_neg e]
        rw [c] at h
        obtain ⟨m, rfl⟩ : ∃ m, n = m + 1 := ⟨n - 1, by omega⟩
        have a : ups p (m + 1) x = x :: ups p m (p x) := by
          show (if p x = x then [] else x :: ups p m (p x)) = _
          rw [if_neg e]
        have b1 := (ups_fix p j m (p x) (by omega) h).1
        have b2 := (ups_fix p j (m + 1) (p x) (by omega) h).1
        show (ups p (m + 1) (p x)).length < (ups p (m + 1) x).length
        rw [a, b2, b1, List.length_cons]
        omega
  · obtain ⟨j, hj, h⟩ := fix_before hl hx (hr x hx)
    obtain ⟨b1, b2⟩ := ups_fix p j n x (by omega) h
    show (ups p n x).length < n
    rw [b1]
    omega
theorem ver_ok {xs : List Int} : verdict xs = .ok ↔ xs.length ≤ 40 ∧ (∀ v, v < xs.length → wideB xs v = false) ∧ ∀ v, v < xs.length → ringB xs.length (par xs) v = false := by
  unfold verdict
  by_cases h : 40 < xs.length
  · rw [if_pos h]
    constructor
    · intro z; cases z
    · intro z; omega
  · rw [if_neg h]
    constructor
    · intro z
      refine ⟨by omega, ?_, ?_⟩
      · cases e : wideL xs with
        | cons v r => rw [e] at z; cases z
        | nil =>
          intro v hv
          have := List.filter_eq_nil_iff.mp e v (List.mem_range.mpr hv)
          simpa using this
      · cases e : wideL xs with
        | cons v r => rw [e] at z; cases z
        | nil =>
          rw [e] at z
          cases e2 : ringsL xs with
          | cons v r => rw [e2] at z; cases z
          | nil =>
            intro v hv
            have := List.filter_eq_nil_iff.mp e2 v (List.mem_range.mpr hv)
            simpa using this
    · rintro ⟨_, h1, h2⟩
      have e1 : wideL xs = [] := filt_none h1
      have e2 : ringsL xs = [] := filt_none h2
      rw [e1, e2]
end Ff

namespace ExX
open PySem PySem.Spec PyProof.Rows L2 Builtin.ObjectAttr
/-- an own class over some built-in exception, its instances having a dict -/
structure ExB (K : PySem.W.Frag) (C : Addr) (nid : String) (tl : List Value) : Prop where
  ini : PySem.W.excInitIn K C tl nid = true
  ov : PySem.W.excOver K C tl = true
  hdt : PySem.W.hasDictIn K C = true
  sat : PySem.W.findIn K (.ref C) "__setattr__" = some (some (.builtin "object.__setattr__"))
  sub : PySem.W.subIn K (.ref C) (.type "BaseException") = some true
  typ : PySem.W.typeIn K (.ref C) = some (.type "type")
  kep : PySem.W.keepIn K (.ref C) = true
def exB (K : PySem.W.Frag) (C : Addr) (nid : String) (tl : List Value) : Bool :=
  PySem.W.excInitIn K C tl nid && PySem.W.excOver K C tl && PySem.W.hasDictIn K C && decide (PySem.W.findIn K (.ref C) "__setattr__" = some (some (.builtin "object.__setattr__"))) && decide (PySem.W.subIn K (.ref C) (.type "BaseException") = some true) &&
    decide (PySem.W.typeIn K (.ref C) = some (.type "type")) && PySem.W.keepIn K (.ref C)
theorem exB_ok {K : PySem.W.Frag} {C : Addr} {nid : String} {tl : List Value} (h : exB K C nid tl = true) : ExB K C nid tl := by
  unfold exB at h
  simp only [Bool.and_eq_true, decide_eq_true_eq] at h
  obtain ⟨⟨⟨⟨⟨⟨a, b⟩, c⟩, d⟩, e⟩, f⟩, g⟩ := h
  exact ⟨a, b, c, d, e, f, g⟩
section
variable {prog : Program} {w : World} {A : Around} {R : Result → Shared → Prop} {hp : Heap} {g : Array GenState} {dr : Drawn} {tk0 : Nat} {os : OsState} {K : PySem.W.Frag} {B nid : String} {tl : List Value} {x C t1 : Addr} {nm : Str} {tk : Tok} {v : Value}
theorem sa_new (SB : StoreFacts B tl "object.__setattr__" "object") (X : K.In hp) (T : ExB K C nid tl) (hx : hp.get? x = some (PySem.W.excObj C t1 none .none)) (ha : PySem.W.findIn K (.ref C) nm = some none)
    (hq : ∀ h2 tk2 dx, (∀ b o, b ≠ x → hp.get? b = some o → h2.get? b = some o) → hp.objs.size ≤ dx → dx ≠ x → h2.get? x = some (PySem.W.excObj C t1 (some dx) .none) →
      h2.Ns1 dx (fun y => if y = nm then some v else none) → R (.ok (.ret .none)) ⟨h2, g, dr, tk2, os⟩) :
    codeAny (model prog w) A (.call (.builtin "object.__setattr__") ⟨[.ref x, .str nm tk, v], []⟩) R ⟨hp, g, dr, tk0, os⟩ := by
  refine PySem.W.osa_openX (od := none) (r := none) SB X ⟨hx, rfl, rfl, trivial⟩ T.ov (by unfold PySem.W.takerIn; rw [ha]; rfl) fun b => ?_
  obtain ⟨cd, hc, hd2⟩ := PySem.W.any_some T.hdt
  have hxs : x ≠ hp.objs.size := Nat.ne_of_lt (Heap.lt_size hx)
  refine wpAny_bind (wpAny_pure (wpAny_bind (PySem.W.instanceDict_exc hx (PySem.W.looks_clsIn X hc) hd2 ?_)))
  show wpAny _ _ (storeInDict hp.objs.size (.str nm tk) nm v) _ _ _
  refine HandSPX.store_in_new ?_ ?_
  · exact ⟨_, #[], _, (Heap.get?_update_ne _ _ _ _ hxs.symm).trans (Heap.get?_push_at rfl rfl), rfl, fun e he => absurd he (by simp), fun _ => rfl⟩
  · intro h2 tk2 hn hs
    have hx1 := Heap.get?_push_of_some (h := hp) (PySem.W.dictOf [] 0) hx
    refine hq h2 tk2 hp.objs.size (fun b o hb ho => ?_) (Nat.le_refl _) hxs.symm ?_ hn
    · exact (hs.2 b (Nat.ne_of_lt (Heap.lt_size ho))).trans ((Heap.get?_update_ne _ _ _ _ hb).trans (Heap.get?_push_of_some _ ho))
    · exact (hs.2 x hxs).trans (Heap.get?_update_self _ hx1 rfl)
theorem sa_old {dx : Addr} {m0 : Str → Option Value} {nl : List Str} (SB : StoreFacts B tl "object.__setattr__" "object") (X : K.In hp) (T : ExB K C nid tl) (hx : hp.get? x = some (PySem.W.excObj C t1 (some dx) .none)) (hns : hp.Ns1 dx m0) (hw : Within m0 nl) (hz : nl.length ≤ 1000)
    (ha : PySem.W.findIn K (.ref C) nm = some none)
    (hq : ∀ h2 tk2, (∀ b o, b ≠ dx → hp.get? b = some o → h2.get? b = some o) → h2.Ns1 dx (fun y => if y = nm then some v else m0 y) → R (.ok (.ret .none)) ⟨h2, g, dr, tk2, os⟩) :
    codeAny (model prog w) A (.call (.builtin "object.__setattr__") ⟨[.ref x, .str nm tk, v], []⟩) R ⟨hp, g, dr, tk0, os⟩ := by
  obtain ⟨oD, esD, epD, hoD, hdD, _⟩ := hns.count hw
  refine PySem.W.osa_openX (od := some oD) (r := none) SB X ⟨hx, rfl, rfl, hoD⟩ T.ov (by unfold PySem.W.takerIn; rw [ha]; rfl) fun b => ?_
  show wpAny _ _ (storeInOwnDict (.ref x) (.ref C) (.str nm tk) nm v b) _ _ _
  obtain ⟨cd, hc, hd2⟩ := PySem.W.any_some T.hdt
  have lc : PySem.W.Looks (model prog w) hp (classData C) cd := PySem.W.looks_clsIn X hc
  obtain ⟨c1, c2, c3, c4, c5, c6, c7, c8, c9, c10, c11⟩ := cd
  dsimp only at hd2
  subst hd2
  unfold storeInOwnDict ownDictForStores
  repeat (first | with_reducible refine PySem.OEX.store_in_old hns hw hz ?_ | with_reducible refine wpAny_loadPart_at hx ?_ | with_reducible refine lc.at ?_ | wp_step)
  intro h2 tk2 hn hs
  exact hq h2 tk2 (fun b o hb ho => (hs.2 b hb).trans ho) hn
end
section
variable {X : Cx} {pins : List (Addr × Obj)} {σ : L2.St} {H : Hp} {s : Shared} {a C dx : Addr} {f : Str} {y : V} {u : Value} {fs : List (Str × V)} {Q : Unit → Shared → Prop} {E : Value → Shared → Prop} {A : Around} {B nid iid : String} {tl : List Value}
/-- the object at a gets its dict at dx -/
theorem inv_dict {hp h2 : Heap} {g : Array GenState} {dr : Drawn} {tk tk2 : Nat} {os : OsState} {t1 : Addr} (I : Inv X pins σ H ⟨hp, g, dr, tk, os⟩) (e : H a = some (exo a C none)) (ry : RelV y u) (k : ∀ b o, b ≠ a → hp.get? b = some o → h2.get? b = some o) (dn : hp.objs.size ≤ dx)
    (hx : h2.get? a = some (PySem.W.excObj C t1 (some dx) .none)) (hn : h2.Ns1 dx (fun y => if y = f then some u else none)) : Inv X pins σ (upd (upd H dx (exd dx [(f, y)])) a (exo a C (some dx))) ⟨h2, g, dr, tk2, os⟩ := by
  have fresh : H dx = none := I.hok.fresh dn
  have old_ne : ∀ {b : Addr} {o : Obj}, hp.get? b = some o → b ≠ dx := fun {b o} q => Nat.ne_of_lt (Nat.lt_of_lt_of_le (Heap.lt_size q) dn)
  have free_ne : ∀ {b : Addr}, H b = none → b ≠ a := fun {b} n z => by
    subst z
    rw [e] at n
    cases n
  have look : ∀ {b : Addr} {o : HO}, H b = some o → b ≠ a → upd (upd H dx (exd dx [(f, y)])) a (exo a C (some dx)) b = some o := fun {b o} q hb => by rw [upd_ne hb, upd_ne (ne_of_none q fresh)]; exact q
  refine I.un (t' := tk2) ⟨fun b o q n _ _ => k b o (free_ne n) q, fun b o q n _ _ => ⟨o.slots, k b o (free_ne n) q⟩, fun b o q n _ => ?_, fun b o q _ => ?_, fun b xs q => look q (at_ne e q exo_tup), fun b o v q => look q (at_ne e q exo_frz), fun b ps q => ⟨#[], ?_⟩⟩ fun b o q => ?_
  · rw [upd_ne (free_ne n), upd_ne (old_ne q)]
    exact n
  · by_cases hb : b = a
    · exact ⟨_, hb ▸ hx⟩
    · exact ⟨o, k b o hb q⟩
  · rw [look q (at_ne e q exo_tbl)]
    simp
  · by_cases hb : b = a
    · rw [hb, upd_same] at q
      rw [hb, ← Option.some.inj q]
      exact exo_ok hx
    rw [upd_ne hb] at q
    by_cases hd : b = dx
    · rw [hd, upd_same] at q
      rw [hd, ← Option.some.inj q]
      exact exd_ok hn (relO_put (fs := []) ry fun _ => True.intro)
    rw [upd_ne hd] at q
    refine (I.hok b o q).stay (fun c v hc z => k c v ?_ z) (fun c hc => look hc (at_ne e hc exo_own)) fun c xs hc => look hc (at_ne e hc exo_tup)
    rcases hc with hc | hc
    · exact hc ▸ hb
    · exact at_ne e hc exo_own
theorem st_new (SB : StoreFacts B tl "object.__setattr__" "object") (T : ExB X.K C nid tl) (I : Inv X pins σ H s) (e : H a = some (exo a C none)) (hno : PySem.W.findIn X.K (.ref C) f = some none) (ry : RelV y u)
    (h : ∀ dx s2, H dx = none → dx ≠ a → Inv X pins σ (upd (upd H dx (exd dx [(f, y)])) a (exo a C (some dx))) s2 → Q () s2) : wpAny (model X.prog X.w) A (setAttr (.ref a) f u) Q E s := by
  obtain ⟨t1, ho⟩ := exo_at I.hok e
  obtain ⟨hp, g, dr, tk, os⟩ := s
  exact PySem.W.set_plain I.kIn (ox := PySem.W.excObj C t1 none .none) (od := none) ⟨ho, rfl, rfl, trivial⟩ T.sat (sa_new SB I.kIn T ho hno fun h2 tk2 dx k dn dne hx hn => h dx _ (I.hok.fresh dn) dne (inv_dict I e ry k dn hx hn))
theorem st_old (SB : StoreFacts B tl "object.__setattr__" "object") (T : ExB X.K C nid tl) (I : Inv X pins σ H s) (e : H a = some (exo a C (some dx))) (ed : H dx = some (exd dx fs)) (hl : fs.length ≤ 900) (hno : PySem.W.findIn X.K (.ref C) f = some none) (ry : RelV y u)
    (h : ∀ s2, Inv X pins σ (upd H dx (exd dx ((f, y) :: fs))) s2 → Q () s2) : wpAny (model X.prog X.w) A (setAttr (.ref a) f u) Q E s := by
  obtain ⟨t1, ho⟩ := exo_at I.hok e
  obtain ⟨mA, hns, rel⟩ := exd_at I.hok ed
  have hw := within_of rel
  obtain ⟨hp, g, dr, tk, os⟩ := s
  obtain ⟨oD, _, _, hoD, _, _⟩ := hns.count hw
  refine PySem.W.set_plain I.kIn (ox := PySem.W.excObj C t1 (some dx) .none) (od := some oD) ⟨ho, rfl, rfl, hoD⟩ T.sat (sa_old SB I.kIn T ho hns hw (by rw [List.length_map]; omega) hno fun h2 tk2 k hn => ?_)
  obtain ⟨o, es, ep, e1, er⟩ := hn
  exact h _ (I.write (t' := tk2) (x := dx) (e := dx) (o := exd dx ((f, y) :: fs)) (by rw [ed]; trivial) (.inl rfl) k ⟨o, e1⟩ (exd_ok ⟨o, es, ep, e1, er⟩ (relO_put ry rel)))
/-- B.__init__(self, ..): it lays the args anew, which are not told -/
theorem base_init {us : List Value} {Q : Value → Shared → Prop} (FB : ExcBaseFacts B nid iid tl) (T : ExB X.K C nid tl) (I : Inv X pins σ H s) (e : H a = some (exo a C none)) (hl : us.length ≤ sizeLine) (h : ∀ s2, Inv X pins σ H s2 → Q .none s2) :
    wpAny (model X.prog X.w) A (call (.builtin iid) (.ref a :: us)) Q E s := by
  obtain ⟨nm, N, qn, bs, bm, hdct, sn, sub, ab, col, dd, k0, k1, k2, k3, k5, hC, hT⟩ := PySem.W.excInit_of I.kIn T.ini
  obtain ⟨t1, ho⟩ := exo_at I.hok e
  obtain ⟨hp, g, dr, tk, os⟩ := s
  refine wpAny_call (PySem.HandSPX.init_base FB hT hC ho hl fun h2 t2 k hx => h _ ?_)
  have J := I.write (t' := tk) (x := a) (e := a) (o := exo a C none) (by rw [e]; trivial) (.inl rfl) k ⟨_, hx⟩ (exo_ok hx)
  have same : upd H a (exo a C none) = H := funext fun b => by
    by_cases hb : b = a
    · rw [hb, upd_same, e]
    · rw [upd_ne hb]
  rwa [same] at J
end
/-! ### rules -/
/-- self.f = e, self an exception in the making -/
def tSt (K : PySem.W.Frag) (nid : String) (tl : List Value) (f : Str) (to te : TE) : TS := fun D σ H => te σ H fun y H1 => to σ H1 fun x H2 => ∃ a C : Addr, x = .ref a ∧ ExB K C nid tl ∧ PySem.W.findIn K (.ref C) f = some none ∧
  ((H2 a = some (exo a C none) ∧ ∀ dx, H2 dx = none → dx ≠ a → D.nx σ (upd (upd H2 dx (exd dx [(f, y)])) a (exo a C (some dx)))) ∨
    ∃ (dx : Addr) (fs : List (Str × V)), H2 a = some (exo a C (some dx)) ∧ H2 dx = some (exd dx fs) ∧ fs.length ≤ 900 ∧ D.nx σ (upd H2 dx (exd dx ((f, y) :: fs))))
/-- B.__init__(self, ..) -/
def tBi (K : PySem.W.Frag) (nid : String) (tl : List Value) (ta : TA) : TE := fun σ H Q => ta σ H fun vs H1 => ∃ (a C : Addr) (ws : List V), vs = .ref a :: ws ∧ ws.length ≤ 1000 ∧ ExB K C nid tl ∧ H1 a = some (exo a C none) ∧ Q .non H1
section
variable {X : Cx} {o e : Expr} {es : List Expr} {to te : TE} {ta : TA} {f x : Str} {p p1 p2 pos : Pos} {B nid iid : String} {tl : List Value}
theorem ps_st (SB : StoreFacts B tl "object.__setattr__" "object") (ho : PE X o to) (he : PE X e te) (hs : swapsWith e (some (.Attribute o f p)) pos.line X.env = pure false := by rfl) : PS X (.Assign [.Attribute o f p] e pos) (tSt X.K nid tl f to te) := by
  refine ⟨fun pins s σ H D I h => plainObj_wpAny_Assign_Attribute (thn (he.run pins s σ H _ I h) fun v s1 ⟨y, H1, I1, r1, q1⟩ => thn (ho.run pins s1 σ H1 _ I1 q1) fun u s2 ⟨z, H2, I2, r2, a, C, ex, T, hno, q⟩ => ?_) hs⟩
  subst ex
  obtain rfl : u = Value.ref a := r2
  rcases q with ⟨ea, q⟩ | ⟨dx, fs, ea, ed, hl, q⟩
  · exact st_new SB T I2 ea hno r1 fun dx s3 n ne J => ⟨σ, _, J, q dx n ne⟩
  · exact st_old SB T I2 ea ed hl hno r1 fun s3 J => ⟨σ, _, J, q⟩
theorem pe_bi {xB : Str} {pl : Sem Bool} (FB : ExcBaseFacts B nid iid tl) (ty : typeOf (.type B) = pure (.type "type")) (st : Manifest.isStub B = false) (bo : bootBuiltins xB = some (.type B)) (hn1 : xB ≠ "__name__") (hn2 : (xB == ("__debug__" : Str)) = false) (hh : PySem.W.handedIn (.builtin iid) = true) (hg : Gl X xB) (hm : X.mg xB = none) (vV : PySem.W.findCls X.K (.type B) (.type "type") "__init__" = some (.val (.builtin iid))) (ha : PA X (e :: es) ta)
    (hc : eval (.Call (.Attribute (.Name xB p1) "__init__" p2) (e :: es) [] pos) X.env = (do
      let z ← eval (.Name xB p1) X.env
      standAt p2.atName
      let (f1, fst) ← holding [z] (getMethod z "__init__" pl)
      callWith pos f1 fst (backTo pos (starEach (e :: es) X.env)) (backToKw pos (keywordEach [] X.env))) := by rfl)
    (he : starEach (e :: es) X.env = (false, eval e X.env) :: starEach es X.env := by rfl) (hpl : (backTo pos (starEach es X.env)).any (·.1) = false := by rfl) :
    PE X (.Call (.Attribute (.Name xB p1) "__init__" p2) (e :: es) [] pos) (tBi X.K nid tl ta) := by
  refine ⟨fun pins s σ H Q I h => PySem.W.methodCall_KW (ld_blt I hg hm bo ?_ hn1 hn2) hc⟩
  obtain ⟨m, fr⟩ := I.fr
  refine PySem.W.method_type fr I.ok.mod.kin ty st vV hh ?_
  show wpAny _ _ (callWith pos (Value.builtin iid) [] (backTo pos (starEach (e :: es) X.env)) []) _ _ _
  refine PyProof.Rows.callWith_method1 (thn (ha.run pos pins _ σ H _ (I.tok _) h) fun us s1 ⟨vs, H1, I1, r1, a, C, ws, ev, hl, T, ea, q⟩ => ?_) he hpl
  subst ev
  cases r1 with
  | @cons _ u0 _ ur ra rw2 =>
    obtain rfl : u0 = Value.ref a := ra
    exact base_init FB T I1 ea (by rw [← Paired.length rw2, sizeLine_eq]; omega) fun s2 J => ⟨.non, H1, J, rfl, q⟩
end
end ExX

namespace ExX
open PySem PySem.Spec PyProof.Rows L2 Builtin.ObjectAttr
/-- what the written part says of D.__init__, read off the class itself: the def at f -/
structure ClsI (K : PySem.W.Frag) (D f : Addr) : Prop where
  rd : PySem.W.readsIn K D (.type "type") = true
  fc : PySem.W.findCls K (.ref D) (.type "type") "__init__" = some (.val (.ref f))
  sp : PySem.W.specialIn K (.ref D) "__getattribute__" = some (some (.builtin "type.__getattribute__"))
  kp : PySem.W.keepIn K (.ref f) = true
  kd : PySem.W.keepIn K (.ref D) = true
def clsI (K : PySem.W.Frag) (D f : Addr) : Bool := PySem.W.readsIn K D (.type "type") && (match PySem.W.findCls K (.ref D) (.type "type") "__init__" with | some (.val v) => decide (v = .ref f) | _ => false) &&
  decide (PySem.W.specialIn K (.ref D) "__getattribute__" = some (some (.builtin "type.__getattribute__"))) && PySem.W.keepIn K (.ref f) && PySem.W.keepIn K (.ref D)
theorem clsI_ok {K : PySem.W.Frag} {D f : Addr} (h : clsI K D f = true) : ClsI K D f := by
  unfold clsI at h
  simp only [Bool.and_eq_true, decide_eq_true_eq] at h
  obtain ⟨⟨⟨⟨a, b⟩, c⟩, d⟩, e⟩ := h
  refine ⟨a, ?_, c, d, e⟩
  split at b
  · rename_i v hv
    rw [hv, of_decide_eq_true b]
  · cases b
/-- what C(..) asks, the arguments evaluated -/
def mkW (C : Addr) (sp : Sp) (vs : List V) (H1 : Hp) (Q : XK) : Prop := vs.length ≤ 1000 ∧ ∀ a, H1 a = none → sp (.ref a :: vs) (upd H1 a (exo a C none))
  (fun v H2 => v = .non ∧ ∃ (d : Addr) (fs : List (Str × V)), H2 a = some (exo a C (some d)) ∧ H2 d = some (exd d fs) ∧ H1 d = none ∧ Q (.ref C) (some d) (upd (del H2 a) d (.xd fs))) (fun _ _ _ => False)
section
variable {X : Cx} {e : Expr} {es : List Expr} {ta : TA} {x : Str} {p p1 p2 pos : Pos} {CX : CXT} {k : Nat} {D f : Addr} {fd : FuncData} {ps : List Str} {sp : Sp} {E : XK}
theorem pe_ci {pl : Sem Bool} (T : ClsI X.K D f) (F : FnOk X.prog X.w X.K X.mg X.base CX k f fd ps sp) (hr : Room k X.A) (hg : Gl X x) (hm : X.mg x = some (.ref D)) (hb : L2.Binds X.K fd ps []) (hx : Passes CX X E) (ha : PA X (e :: es) ta)
    (hdb : (x == ("__debug__" : Str)) = false := by decide)
    (hc : eval (.Call (.Attribute (.Name x p1) "__init__" p2) (e :: es) [] pos) X.env = (do
      let z ← eval (.Name x p1) X.env
      standAt p2.atName
      let (f1, fst) ← holding [z] (getMethod z "__init__" pl)
      callWith pos f1 fst (backTo pos (starEach (e :: es) X.env)) (backToKw pos (keywordEach [] X.env))) := by rfl)
    (he : starEach (e :: es) X.env = (false, eval e X.env) :: starEach es X.env := by rfl) (hpl : (backTo pos (starEach es X.env)).any (·.1) = false := by rfl) :
    PE X (.Call (.Attribute (.Name x p1) "__init__" p2) (e :: es) [] pos) (tCall sp [] E ta) := by
  refine ⟨fun pins s σ H Q I h => PySem.W.methodCall_KW (ld_glob I hg hm ?_ hdb) hc⟩
  refine PySem.W.method_cls I.kIn T.sp (PySem.W.cls_value I.kIn T.rd T.fc rfl ?_)
  refine PySem.W.callWith_K (first := []) (h₀ := X.base) I.ok.mod.kin T.kp (thn (ha.run pos pins _ σ H _ (I.tok _) h) fun us s1 ⟨vs, H1, I1, r, q⟩ => ⟨I1.kIn, ?_⟩) he hpl
  exact run_fn F hr hb .nil hx I1 r q
theorem pmk {C fI : Addr} {B nid iid : String} {tl : List Value} {R : List V → Hp → XK → Prop} (FB : ExcBaseFacts B nid iid tl) (T : ExB X.K C nid tl) (iC : PySem.W.findIn X.K (.ref C) "__init__" = some (some (.ref fI))) (tI : PySem.W.typeIn X.K (.ref fI) = some (.type "function"))
    (F1 : FnOk X.prog X.w X.K X.mg X.base CX k fI fd ps sp) (hr : Room (k + 1) X.A) (hb : L2.Binds X.K fd ps []) (hx : Passes CX X (fun _ _ _ => False)) (hg : Gl X x) (hm : X.mg x = some (.ref C)) (ha : PA X (e :: es) ta) (hR : ∀ vs H1 Q, R vs H1 Q → mkW C sp vs H1 Q)
    (hdb : (x == ("__debug__" : Str)) = false := by decide) (he : starEach (e :: es) X.env = (false, eval e X.env) :: starEach es X.env := by rfl) (hpl : (backTo pos (starEach es X.env)).any (·.1) = false := by rfl) :
    L2N.PMk X (.Call (.Name x p) (e :: es) [] pos) (fun σ H Q => ta σ H fun vs H1 => R vs H1 Q) := by
  intro pins s σ H Q I h
  refine wpAny_Call_Name_kw (ld_glob I hg hm ?_ hdb)
  refine PySem.W.callWith_K (h₀ := X.base) I.ok.mod.kin T.kep (thn (ha.run pos pins s σ H _ I h) fun us s1 ⟨vs, H1, I1, r1, q0⟩ => ⟨I1.kIn, ?_⟩) he hpl
  obtain ⟨hz, q1⟩ := hR _ _ _ q0
  obtain ⟨nm, N, qn, bs, bm, hdct, sn, sub, ab, col, dd, k0, k1, k2, k3, k5, hC, hT⟩ := PySem.W.excInit_of I1.kIn T.ini
  obtain ⟨hp, g, dr, tk, os⟩ := s1
  -- the new exception lies behind its args
  let h1 : Heap := (hp.push (PySem.W.kdv_tup us)).push (PySem.HandSPX.excO C hp.objs.size)
  have kk : ∀ b o, hp.get? b = some o → h1.get? b = some o := fun b o e => Heap.get?_push_of_some _ (Heap.get?_push_of_some _ e)
  have new : h1.get? (hp.objs.size + 1) = some (PySem.HandSPX.excO C hp.objs.size) := by show Heap.get? ((hp.push (PySem.W.kdv_tup us)).push (PySem.HandSPX.excO C hp.objs.size)) _ = _; heap_get
  have hq := q1 (hp.objs.size + 1) (I1.hok.fresh (Nat.le_succ _))
  have I2 : Inv X pins σ (upd H1 (hp.objs.size + 1) (exo (hp.objs.size + 1) C none)) ⟨h1, g, dr, tk, os⟩ := I1.laid (t' := tk) (a := hp.objs.size + 1) (o := exo (hp.objs.size + 1) C none) kk (Nat.le_succ _) (exo_ok new)
  have r2 : Vals (V.ref (hp.objs.size + 1) :: vs) (Value.ref (hp.objs.size + 1) :: us) := .cons rfl r1
  have hl : (Value.ref (hp.objs.size + 1) :: us).length = ps.length := by rw [← r2.length]; exact F1.len _ _ _ _ hq
  have hb2 := hb ⟨h1, g, dr, tk, os⟩ (Value.ref (hp.objs.size + 1) :: us) I2.kIn (by rw [List.append_nil]; exact hl)
  rw [List.append_nil] at hb2
  show wpAny _ _ (call (.ref C) us) _ _ _
  refine wpAny_call (PySem.HandSPX.call_own FB hT hC (PySem.W.looks_findIn I1.kIn iC) (fun self => PySem.W.bind_fn I1.kIn self tI) (by rw [← Paired.length r1, sizeLine_eq]; omega) ?_)
  refine codeAny_mono (F1.run _ X.stack _ _ ⟨Value.ref (hp.objs.size + 1) :: us, []⟩ _ _ _ (fun _ _ _ => False) (hr.make C us []) (I2.env0.make C us []) hb2 r2 hq) fun r s2 z => ?_
  cases r with
  | error er => exact hx pins σ _ _ er s2 I2 z
  | ok fl =>
    cases fl with
    | ret u =>
      obtain ⟨v, H2, os2, bare2, un2, hok2, rv, ev, d, fs, ea, ed, hd1, q2⟩ := z
      subst ev
      obtain ⟨h2, g2, d2, t2, os3⟩ := s2
      obtain ⟨t0, G, J, kG, ge, hoe, na⟩ := mk_end0 (d2 := d2) (t2 := t2) I1 (Nat.le_succ _) kk un2 hok2 os2 bare2 ea ed hd1
      exact ⟨rv, _, _, _, ⟨G, g2, d2, t2, os3⟩, _, .ref C, some d, rfl, J, kG, ge, hoe, ⟨rfl, rfl, fun vs z => by cases z; rfl⟩, rfl, rfl, na, rfl, bare2, raises_own T.sub T.typ, q2⟩
    | _ => exact z.elim
end
end ExX

namespace ExX
open PySem PySem.Spec PyProof.Rows L2
/-- what an except clause's own expression t asks of an exception's class -/
def Tst (X : Cx) (t : Expr) (m : Value → Option Bool) : Prop := ∀ (a : Addr) (oe : Obj) (pn pins : List (Addr × Obj)) (σ : L2.St) (H : Hp) (s : Shared) (b : Bool) (Q : Bool → Shared → Prop) (E : Value → Shared → Prop), Inv (X.suite a ((a, oe) :: pn)) pins σ H s → m oe.cls = some b →
  (∀ h2, (∀ c o, s.heap.get? c = some o → h2.get? c = some o) → Q b { s with heap := h2 }) →
  wpAny (model X.prog X.w) (X.A.mark (some (.ref a))) (eval t X.env) (fun c s1 => wpAny (model X.prog X.w) (X.A.mark (some (.ref a))) (excMatches (.ref a) c) Q E s1) E s
section
variable {X : Cx} {x x1 x2 x3 : Str} {C C1 C2 C3 : Addr} {np np1 np2 np3 tp : Pos}
theorem tst_one (hg : Gl X x) (hm : X.mg x = some (.ref C)) (hdb : (x == ("__debug__" : Str)) = false := by decide) : Tst X (.Name x np) (fun cls => PySem.W.exmOne X.K cls (.ref C)) := by
  intro a oe pn pins σ H s b Q E I hb q
  have at1 := (I.pin (a, oe) (List.mem_append_left _ List.mem_cons_self)).1
  have lt : PySem.W.Looks (model X.prog X.w) s.heap (typeOf (.ref a)) oe.cls := fun A Q E s2 k q => wpAny_typeOf_ref (k _ _ at1) q
  exact ld_glob (X := X.suite a ((a, oe) :: pn)) I hg hm ((PySem.W.exm_one I.kIn lt hb).here (q s.heap fun _ _ e => e)) hdb
theorem tst_two {ctx} (hg1 : Gl X x1) (hm1 : X.mg x1 = some (.ref C1)) (hg2 : Gl X x2) (hm2 : X.mg x2 = some (.ref C2)) (hd1 : (x1 == ("__debug__" : Str)) = false := by decide) (hd2 : (x2 == ("__debug__" : Str)) = false := by decide) :
    Tst X (.Tuple [.Name x1 np1, .Name x2 np2] ctx tp) (fun cls => PySem.W.exmAny X.K cls [.ref C1, .ref C2]) := by
  intro a oe pn pins σ H s b Q E I hb q
  have at1 := (I.pin (a, oe) (List.mem_append_left _ List.mem_cons_self)).1
  refine wpAny_Tuple_spliced (Calls.spliced_cons (ld_glob (X := X.suite a ((a, oe) :: pn)) I hg1 hm1 (Calls.spliced_cons (ld_glob (X := X.suite a ((a, oe) :: pn)) I hg2 hm2 (Calls.spliced_nil ⟨by rw [sizeLine_eq]; simp, ?_⟩) hd2)) hd1))
  have lt : PySem.W.Looks (model X.prog X.w) (s.heap.push { cls := .type "tuple", data := .seq [Value.ref C1, .ref C2].toArray }) (typeOf (.ref a)) oe.cls := fun A Q E s2 k q => wpAny_typeOf_ref (k _ _ (Heap.get?_push_of_some _ at1)) q
  exact (PySem.W.exm_tup2 (I.kIn.keeps fun _ _ e => Heap.get?_push_of_some _ e) lt (Heap.get?_push_size _ rfl) hb).here (q _ fun _ _ e => Heap.get?_push_of_some _ e)
theorem tst_three {ctx} (hg1 : Gl X x1) (hm1 : X.mg x1 = some (.ref C1)) (hg2 : Gl X x2) (hm2 : X.mg x2 = some (.ref C2)) (hg3 : Gl X x3) (hm3 : X.mg x3 = some (.ref C3)) (hd1 : (x1 == ("__debug__" : Str)) = false := by decide) (hd2 : (x2 == ("__debug__" : Str)) = false := by decide) (hd3 : (x3 == ("__debug__" : Str)) = false := by decide) :
    Tst X (.Tuple [.Name x1 np1, .Name x2 np2, .Name x3 np3] ctx tp) (fun cls => PySem.W.exmAny X.K cls [.ref C1, .ref C2, .ref C3]) := by
  intro a oe pn pins σ H s b Q E I hb q
  have at1 := (I.pin (a, oe) (List.mem_append_left _ List.mem_cons_self)).1
  refine wpAny_Tuple_spliced (Calls.spliced_cons (ld_glob (X := X.suite a ((a, oe) :: pn)) I hg1 hm1 (Calls.spliced_cons (ld_glob (X := X.suite a ((a, oe) :: pn)) I hg2 hm2 (Calls.spliced_cons (ld_glob (X := X.suite a ((a, oe) :: pn)) I hg3 hm3 (Calls.spliced_nil ⟨by rw [sizeLine_eq]; simp, ?_⟩) hd3)) hd2)) hd1))
  have lt : PySem.W.Looks (model X.prog X.w) (s.heap.push { cls := .type "tuple", data := .seq [Value.ref C1, .ref C2, .ref C3].toArray }) (typeOf (.ref a)) oe.cls := fun A Q E s2 k q => wpAny_typeOf_ref (k _ _ (Heap.get?_push_of_some _ at1)) q
  exact (PySem.W.exm_tup3 (I.kIn.keeps fun _ _ e => Heap.get?_push_of_some _ e) lt (Heap.get?_push_size _ rfl) hb).here (q _ fun _ _ e => Heap.get?_push_of_some _ e)
end
/-- the ends with the slot i unset -/
def unset (i : Nat) (D : Ends) : Ends := { nx := fun σ H => D.nx (σ.set i none) H, rt := D.rt, bk := fun σ H => D.bk (σ.set i none) H, ct := fun σ H => D.ct (σ.set i none) H }
/-- a clause: whom it takes, the slot of its name, its suite's reading -/
structure Cl where
  m : Value → Option Bool
  slot : Option Nat
  ts : Addr → Value → Option Addr → TS
def Cl.wish (c : Cl) (D : Ends) (a : Addr) (cls : Value) (d : Option Addr) (σ : L2.St) (H : Hp) : Prop := match c.slot with
  | none => c.ts a cls d D σ H
  | some i => c.ts a cls d (unset i D) (σ.set i (some (.ref a))) H
def wCl (Wout : WX) (D : Ends) : List Cl → WX
  | [] => Wout
  | c :: r => fun cls d σ H => ∃ b, c.m cls = some b ∧ (b = true → ∀ a, H a = none → c.wish D a cls d σ H) ∧ (b = false → wCl Wout D r cls d σ H)
inductive ClsOk (X : Cx) : List ExceptHandler → List Cl → Prop
  | nil : ClsOk X [] []
  | only {t : Expr} {m : Value → Option Bool} {ts : Addr → Value → Option Addr → TS} {b0 : Stmt} {su : List Stmt} {ps : Pos} {hds : List ExceptHandler} {l : List Cl} (hc : Tst X t m)
      (hsu : ∀ (a : Addr) (oe : Obj) (cls : Value) (d : Option Addr) (pn : List (Addr × Obj)), L2N.Zn cls d oe → (∃ vs, oe.data = .fields vs) → PSs (X.suite a ((a, oe) :: pn)) (b0 :: su) (ts a cls d)) (r : ClsOk X hds l) :
      ClsOk X (.ExceptHandler (some t) none (b0 :: su) ps :: hds) (⟨m, none, ts⟩ :: l)
  | named {t : Expr} {m : Value → Option Bool} {ts : Addr → Value → Option Addr → TS} {b0 : Stmt} {su : List Stmt} {ps : Pos} {n : Str} {i : Nat} {hds : List ExceptHandler} {l : List Cl} (hN : X.N.Nodup) (hi : X.N[i]? = some n) (hln : X.env.kindOf n = some .local) (hc : Tst X t m)
      (hsu : ∀ (a : Addr) (oe : Obj) (cls : Value) (d : Option Addr) (pn : List (Addr × Obj)), L2N.Zn cls d oe → (∃ vs, oe.data = .fields vs) → PSs (X.suite a ((a, oe) :: pn)) (b0 :: su) (ts a cls d)) (r : ClsOk X hds l) :
      ClsOk X (.ExceptHandler (some t) (some n) (b0 :: su) ps :: hds) (⟨m, some i, ts⟩ :: l)
theorem flying_kept {B h h2 : Heap} {l : List Env} {a : Addr} {Z : Obj → Prop} (fl : HandSPX.FlyingZ B l a Z h) (k : ∀ c o, h.get? c = some o → h2.get? c = some o) : HandSPX.FlyingZ B l a Z h2 := by
  obtain ⟨f1, f2, f3, oe, vs, T, oT, ts, e1, e2, e3, e4, e5, e6, e7, e8⟩ := fl
  exact ⟨fun b o q => k _ _ (f1 b o q), f2, f3.of_keeps fun b o hb _ => ⟨o, k b o hb, rfl⟩, oe, vs, T, oT, ts, k _ _ e1, e2, e3, e4, e5, e6, k _ _ e7, e8⟩
section
variable {X : Cx} {body : List Stmt} {h0 : ExceptHandler} {hds : List ExceptHandler} {l : List Cl} {pos : Pos} {tb : WX → TS} {Wout : WX}
theorem ps_tryC (hs : X.stack = X.env :: X.outer) (hf : X.env.frame = some X.env.locals) (tk : L2N.Takes X Wout)
    (hb : ∀ (W : WX) (pn : List (Addr × Obj)) (xe : Value → Shared → Prop), L2N.Takes (X.tr pn xe) W → PassesOwn (model X.prog X.w) X.A X.env xe → PSs (X.tr pn xe) body (tb W)) (hh : ClsOk X (h0 :: hds) l) :
    PS X (.Try body (h0 :: hds) [] [] pos) (fun D σ H => tb (wCl Wout D l) D σ H) := by
  refine ⟨fun pins s σ H D I h => wpAny_Try_except ?_⟩
  have ok := I.ok
  have hfr : X.A.frames = some (X.env :: X.outer) := hs ▸ ok.frames
  refine wpAny_mono ((hb (wCl Wout D l) (X.pn ++ pins) (fun e s1 => wpAny (model X.prog X.w) X.A (noteFrame e X.env) (fun _ s2 => wpAny (model X.prog X.w) X.A (setFlight e none) (fun _ s3 => wpAny (model X.prog X.w) X.A (handleBy e X.env (h0 :: hds)) (SP X pins D) X.xe s3) X.xe s2) X.xe s1)
    (fun u s1 xx => ?_) PassesOwn.looking).run [] s σ H D (I.toTry _) h) (fun f s1 hsp => ?_) (fun e s1 he => he)
  · obtain ⟨a, B, sI, pinsT, σ1, H1, cls, d, rfl, J0, nb, up, sky, na, os1, ag, w⟩ := xx
    have J : Inv X pins σ1 H1 sI := J0.ofTry ok
    rw [hs] at sky
    show wpAny (model X.prog X.w) X.A (noteFrame (.ref a) X.env) _ _ _
    refine L2N.Sky.land L2N.Zn.steady hfr hf sky fun h3 fl3 up3 => ?_
    -- the clauses, from any heap in which the exception flies
    have go : ∀ {hs2 : List ExceptHandler} {l2 : List Cl}, ClsOk X hs2 l2 → ∀ h4, HandSPX.FlyingZ B (X.env :: X.outer) a (L2N.Zn cls d) h4 → sI.heap.UpToSlots h4 → wCl Wout D l2 cls d σ1 H1 →
        wpAny (model X.prog X.w) X.A (handleBy (.ref a) X.env hs2) (SP X pins D) X.xe { s1 with heap := h4 } := by
      intro hs2 l2 hk
      have su : ∀ {h5 : Heap}, HandSPX.FlyingZ B (X.env :: X.outer) a (L2N.Zn cls d) h5 → sI.heap.UpToSlots h5 → ∃ oe vs, L2N.Zn cls d oe ∧ oe.data = .fields vs ∧ Inv (X.suite a ((a, oe) :: (X.pn ++ pins))) [] σ1 H1 { s1 with heap := h5 } := fun {h5} fl5 up5 => by
        have J5 : Inv X pins σ1 H1 { s1 with heap := h5 } := J.landed nb fl5.1 up5 os1 ag
        obtain ⟨oe, vs, he, hz, hd⟩ := fl5.there
        have nfr : a ∉ frs (X.env :: X.outer) := fun hm => by
          obtain ⟨_, o2, e2, hnf⟩ := fl5.2.2.1.mem hm
          rw [he] at e2
          exact hnf vs (Option.some.inj e2 ▸ hd)
        refine ⟨oe, vs, hz, hd, J5.suite he hd na (fun z => nfr (List.mem_filterMap.mpr ⟨X.env, List.mem_cons_self, by rw [hf, z]⟩)) fun hm => ?_⟩
        obtain ⟨e, he2, q⟩ := List.mem_filterMap.mp hm
        exact nfr (List.mem_filterMap.mpr ⟨e, List.mem_cons_of_mem _ he2, q⟩)
      induction hk with
      | nil =>
        intro h4 fl4 up4 w
        refine wpAny_handleBy_nil ?_
        obtain ⟨k1, k2, k3, oe, vs, T, oT, ts2, he, hz, hd, h1, hr⟩ := id fl4
        unfold PySem.passOn
        refine wpAny_bind (wpAny_field he hd h1 ?_)
        rw [if_neg (show ¬ ((Value.ref T == Value.none) = true) from by simp)]
        have fin : wpAny (model X.prog X.w) X.A (setFlight (.ref a) X.env.frame) (fun _ s4 => wpAny (model X.prog X.w) X.A (throw (.ref a) : Sem Flow) (SP X pins D) X.xe s4) X.xe { s1 with heap := h4 } := by
          rw [hf]
          exact HandSPX.setFlight_upZ fl4 fun h5 hh5 up5 => wpAny_throw (tk _ _ ⟨a, B, sI, pins, σ1, H1, cls, d, rfl, J, nb, up4.trans up5, .inr (.inr (by rw [hs]; exact hh5)), na, os1, ag, w⟩)
        first
          | exact wpAny_bind (wpAny_pure (wpAny_bind fin))
          | exact wpAny_bind fin
      | only hc hsu r ih =>
        intro h4 fl4 up4 w
        obtain ⟨b, hb1, hyes, hno⟩ := w
        obtain ⟨oe, vs, hz, hd, S4⟩ := su fl4 up4
        refine wpAny_handleBy_cons (codeAny_handlers_test (hc a oe _ _ _ _ _ b _ _ S4 (by rw [hz.1]; exact hb1) fun h5 k5 => ?_)) (by intro q; cases q)
        have fl5 := flying_kept fl4 k5
        have up5 : sI.heap.UpToSlots h5 := up4.trans fun c o e _ => ⟨o.slots, k5 c o e⟩
        cases b with
        | true =>
          refine codeAny_handlers_suite (HandSPX.lands_againZ fl5 fun h6 fl6 up6 => ?_)
          obtain ⟨oe6, vs6, hz6, hd6, S6⟩ := su fl6 (up5.trans up6)
          refine wpAny_mono ((hsu a oe6 cls d _ hz6 ⟨_, hd6⟩).run [] _ _ H1 _ S6 (hyes rfl a na)) (fun f s6 hsp => ?_) (fun _ _ z => False.elim z)
          cases f with
          | ret u => obtain ⟨v6, σ6, H6, S7, r6, q6⟩ := hsp; exact ⟨_, _, _, S7.unsuite ok, r6, q6⟩
          | _ => obtain ⟨σ6, H6, S7, q6⟩ := hsp; exact ⟨_, _, S7.unsuite ok, q6⟩
        | false => exact ih h5 fl5 up5 (hno rfl)
      | @named t m ts b0 sui ps n i hds3 l3 hN hi hln hc hsu r ih =>
        intro h4 fl4 up4 w
        obtain ⟨b, hb1, hyes, hno⟩ := w
        obtain ⟨oe, vs, hz, hd, S4⟩ := su fl4 up4
        refine wpAny_handleBy_cons (codeAny_handlers_test (hc a oe _ _ _ _ _ b _ _ S4 (by rw [hz.1]; exact hb1) fun h5 k5 => ?_)) (by intro q; cases q)
        have fl5 := flying_kept fl4 k5
        have up5 : sI.heap.UpToSlots h5 := up4.trans fun c o e _ => ⟨o.slots, k5 c o e⟩
        cases b with
        | true =>
          refine codeAny_handlers_suite_as (HandSPX.lands_againZ fl5 fun h6 fl6 up6 => ?_)
          obtain ⟨oe6, vs6, hz6, hd6, S6⟩ := su fl6 (up5.trans up6)
          refine store_ok (X := X.suite a ((a, oe6) :: (X.pn ++ pins))) (v := .ref a) S6 hN hi (.inl hln) rfl (fun s7 S7 => ?_) (.inr hln)
          refine wpAny_mono ((hsu a oe6 cls d _ hz6 ⟨_, hd6⟩).run [] s7 _ H1 _ S7 (hyes rfl a na)) (fun f s8 hsp => ?_) (fun _ _ z => False.elim z)
          have fin : ∀ {σ8 : L2.St} {H8 : Hp} {Q : Shared → Prop}, Inv (X.suite a ((a, oe6) :: (X.pn ++ pins))) [] σ8 H8 s8 → (∀ s9, Inv X pins (σ8.set i none) H8 s9 → Q s9) →
              wpAny (model X.prog X.w) X.A (do bindName X.env n .none; unbindBehindTheSuite X.env n ps) (fun _ s9 => Q s9) X.xe s8 := fun {σ8 H8 Q} S8 hq => gone_ok (S8.unsuite ok) hN hi hln hq
          cases f with
          | ret u => obtain ⟨v8, σ8, H8, S8, r8, q8⟩ := hsp; exact fin S8 fun s9 J9 => ⟨_, _, _, J9, r8, q8⟩
          | _ => obtain ⟨σ8, H8, S8, q8⟩ := hsp; exact fin S8 fun s9 J9 => ⟨_, _, J9, q8⟩
        | false => exact ih h5 fl5 up5 (hno rfl)
    exact go hh h3 fl3 (up.trans up3) w
  · cases f with
    | next =>
      obtain ⟨σ1, H1, J, q⟩ := hsp
      exact wpAny_execs_nil ⟨σ1, H1, J.ofTry ok, q⟩
    | ret u =>
      obtain ⟨v, σ1, H1, J, r, q⟩ := hsp
      exact ⟨v, σ1, H1, J.ofTry ok, r, q⟩
    | _ =>
      obtain ⟨σ1, H1, J, q⟩ := hsp
      exact ⟨σ1, H1, J.ofTry ok, q⟩
end
end ExX

namespace ExX
open PySem PySem.Spec PyProof.Rows L2
/-- a promise that also speaks of the exception that is handled: its place, class and dict -/
abbrev SpE := Addr → Value → Option Addr → Sp
structure FnE (P : Program) (w : World) (K : PySem.W.Frag) (mg : Str → Option Value) (base : Heap) (CX : CXT) (k : Nat) (f : Addr) (fd : FuncData) (ps : List Str) (sp : SpE) : Prop where
  len : ∀ a cls d vs H Q E, sp a cls d vs H Q E → vs.length = ps.length
  run : ∀ (A : Around) (outer : List Env) (s : Shared) (H : Hp) (args : Args) (us : List Value) (vs : List V) (Q : VK) (E : XK) (p : Addr × Obj) (cls : Value) (d : Option Addr), L2H.RoomH k A → Zc cls d p.2 → (∃ z, p.2.data = .fields z) → L2H.PinOk outer H s p → Env0 P w K mg base A outer s H →
    BindsTo s fd args (ps.zip us) → Vals vs us → sp p.1 cls d vs H Q E → codeAny (model P w) A (.call (.ref f) args) (CR CX outer P w H s Q E) s
theorem fn_ofE {CX : CXT} {P : Program} {w : World} {K : PySem.W.Frag} {mg : Str → Option Value} {base : Heap} {k : Nat} {f : Addr} {name qual : Str} {params : Arguments} {body : List Stmt} {scope : Scope} {dV kV doc pm cdv ct oc : Value} {an od : Option Addr} {osl : Array (Option Value)} {N ps : List Str} {sp : SpE}
    (lk : K.lookup f = some ⟨oc, od, .func (PySem.W.fnOf name qual params body scope dV kV doc pm an cdv ct), osl⟩) (hcd : PySem.W.codeIn K cdv qual = true) (S : FnScope N ps scope) (len : ∀ a cls d vs H Q E, sp a cls d vs H Q E → vs.length = ps.length)
    (hbody : ∀ (A : Around) (outer : List Env) (s : Shared) (H : Hp) (vs : List V) (Q : VK) (E : XK) (p : Addr × Obj) (cls : Value) (d : Option Addr), Zc cls d p.2 → (∃ z, p.2.data = .fields z) → L2H.RoomH k (A.deeper (envOfC qual scope s.heap.objs.size f cdv)) → sp p.1 cls d vs H Q E →
      ∃ t, PSs (L2H.cxH CX P w K mg base N qual scope f cdv A outer s H E p) body t ∧ t { nx := fun _ H1 => Q .non H1, rt := Q } (L2.start N vs) H) :
    FnE P w K mg base CX (k + 1) f (PySem.W.fnOf name qual params body scope dV kV doc pm an cdv ct) ps sp := by
  refine ⟨len, fun A outer s H args us vs Q E p cls d hr hz hd hpin e0 hb r hsp => ?_⟩
  have KX : K.In s.heap := e0.mod.kin.keeps fun b o e => (e0.bs b o e).1
  have hkind : ∀ y ∈ ps.zip us, scope.names.lookup y.1 = some .local ∨ (scope.names.lookup y.1 = some .cell ∧ ((cellsFrom (s.heap.objs.size + 1) scope.names []).lookup y.1).isSome = true) := fun y hy =>
    (S.par y.1 (List.of_mem_zip hy).1).imp id fun q => ⟨q, PySem.W.cellsFrom_some _ _ _ (.inl q)⟩
  refine codeAny_call_function hr.depth (KX _ _ lk) rfl S.co S.gen rfl (PySem.W.codeRec_of KX hcd) (hb _ _ _ _ (wpAny_newFunctionEnv_cells S.kind hkind fun env he s1 x => ?_))
  subst he
  refine ⟨(e0.mod.nolimit.keeps fun b o e => (e0.bs b o e).1).keeps x.toInCall.keep, codeAny_func ?_⟩
  obtain ⟨t, ht, hq⟩ := hbody A outer s H vs Q E p cls d hz hd (hr.deeper _) hsp
  have I : Inv (L2H.cxH CX P w K mg base N qual scope f cdv A outer s H E p) [] (L2.start N vs) H s1 := L2H.inv_startH S hpin e0 (len _ _ _ _ _ _ _ hsp) r x
  refine wpAny_mono (ht.run [] s1 (L2.start N vs) H _ I hq) (fun fl s2 hs => ?_) fun e s2 hs => hs
  cases fl with
  | ret u =>
    obtain ⟨v, σ2, H2, J, rv, q⟩ := hs
    exact ⟨v, H2, J.os, J.bare, J.base, J.hok, rv, q⟩
  | next =>
    obtain ⟨σ2, H2, J, q⟩ := hs
    exact ⟨V.non, H2, J.os, J.bare, J.base, J.hok, rfl, q⟩
  | brk =>
    obtain ⟨_, _, _, q⟩ := hs
    exact q.elim
  | cont =>
    obtain ⟨_, _, _, q⟩ := hs
    exact q.elim
/-- the field f of the handled exception -/
def tFe (K : PySem.W.Frag) (a : Addr) (cls : Value) (d : Option Addr) (f : Str) (te : TE) : TE := fun σ H Q => te σ H fun x H1 => x = .ref a ∧
  ∃ (C dd : Addr) (fs : List (Str × V)) (v : V), cls = .ref C ∧ XfC K C ∧ PySem.W.findIn K (.ref C) f = some none ∧ d = some dd ∧ H1 dd = some (.xd fs) ∧ fs.lookup f = some v ∧ Q v H1
section
variable {X : Cx} {a : Addr} {oe : Obj} {cls : Value} {d : Option Addr} {e : Expr} {te : TE} {pos q : Pos} {n x : Str}
theorem pe_fe (hp : (a, oe) ∈ X.pn) (hz : Zc cls d oe) (hf : ∃ z, oe.data = .fields z) (he : PE X e te) (hb : attributeBase e n X.env (eval e X.env) = eval e X.env := by rfl) : PE X (.Attribute e n pos) (tFe X.K a cls d n te) := by
  refine ⟨fun pins s σ H Q I h => attr_of hb (thn (he.run pins s σ H _ I h) fun u s1 ⟨z, H1, I1, rx, ex, C, dd, fs, v, ec, T, hno, ed, ea, l, w⟩ => ?_)⟩
  subst ex ec ed
  obtain rfl : u = Value.ref a := rx
  have ha := (I1.pin (a, oe) (List.mem_append_left _ hp)).1
  obtain ⟨vs, hd⟩ := hf
  obtain ⟨mA, hns, hr⟩ : ObjOk X.prog X.w H1 s1.heap dd (.xd fs) := I1.hok dd _ ea
  obtain ⟨od, ho, hl⟩ := lookIn_ns hns
  obtain ⟨u, hu, ru⟩ := RelO.some_of (v := v) (o := mA n) (by rw [← l]; exact hr n)
  exact HandSPX.exc_get I1.kIn (⟨ha, hz.1, by unfold PySem.W.notCls; rw [hd] <;> rfl, by rw [hz.2]; exact ho⟩ : PySem.W.InstAt s1.heap a oe C (some od)) T.ga T.gg T.exC (PySem.W.findObj_own T.hdC hno rfl (by rw [hl, hu])) (handed_of ru) ⟨v, H1, I1.tok _, ru, w⟩
variable {CX : CXT} {k : Nat} {f : Addr} {fd : FuncData} {ps : List Str} {sp : SpE} {E : XK} {es : List Expr} {t : TA}
/-- f(e, ..) where an exception is handled -/
theorem pe_callE (F : FnE X.prog X.w X.K X.mg X.base CX k f fd ps sp) (hr : L2H.RoomH k X.A) (hp : (a, oe) ∈ X.pn) (hz : Zc cls d oe) (hf : ∃ z, oe.data = .fields z) (hg : Gl X x) (hm : X.mg x = some (.ref f)) (hk : PySem.W.keepIn X.K (.ref f) = true) (hb : L2.Binds X.K fd ps []) (hx : Passes CX X E)
    (hargs : PA X (e :: es) t) (hdb : (x == ("__debug__" : Str)) = false := by decide) (he : starEach (e :: es) X.env = (false, eval e X.env) :: starEach es X.env := by rfl) (hpl : (backTo pos (starEach es X.env)).any (·.1) = false := by rfl) :
    PE X (.Call (.Name x q) (e :: es) [] pos) (tCall (sp a cls d) [] E t) := by
  refine ⟨fun pins s σ H Q I h => wpAny_Call_Name_kw (ld_glob I hg hm ?_ hdb)⟩
  refine PySem.W.callWith_K (h₀ := X.base) I.ok.mod.kin hk (thn (hargs.run pos pins s σ H _ I h) fun us s1 ⟨vs, H1, I1, r, w⟩ => ⟨I1.kIn, ?_⟩) he hpl
  replace w : sp a cls d (vs ++ []) H1 Q E := w
  rw [List.append_nil] at w
  have hl : us.length = ps.length := by rw [← r.length]; exact F.len _ _ _ _ _ _ _ w
  have b := hb s1 us I1.kIn (by rw [List.append_nil]; exact hl)
  rw [List.append_nil] at b
  have P1 := I1.pin (a, oe) (List.mem_append_left _ hp)
  have hpin : L2H.PinOk X.stack H1 s1 (a, oe) := ⟨P1.1, P1.2.1, fun hm => (List.mem_cons.mp (I1.stkSub a hm)).elim P1.2.2.1 P1.2.2.2.1, P1.2.2.2.2⟩
  refine wpAny_call (codeAny_mono (F.run X.A X.stack s1 H1 ⟨us, []⟩ us vs Q E (a, oe) cls d hr hz hf hpin I1.env0 b r w) fun r s2 hq => ?_)
  cases r with
  | error e => exact hx pins σ H1 s1 e s2 I1 hq
  | ok fl =>
    cases fl with
    | ret u => exact I1.after hq
    | _ => exact hq.elim
end
end ExX

namespace ExX
open PySem PySem.Spec PyProof.Rows L2 LamX
theorem un_over {fs fs2 : List Addr} {H H1 H2 : Hp} {h h1 h2 : Heap} (a : Un fs [] H H1 h h1) (b : Un fs2 [] H1 H2 h1 h2) (hl : ∀ c ∈ fs2, c ∈ fs ∨ h.objs.size ≤ c) : Un fs [] H H2 h h2 where
  keep := fun c o q n hc _ => b.keep c o (a.keep c o q n hc (by simp)) (a.free c o q n (by simp)) (fun z => (hl c z).elim hc fun y => Nat.not_lt.mpr y (Heap.lt_size q)) (by simp)
  slot := fun c o q n hc _ => by
    obtain ⟨sl, e⟩ := a.slot c o q n hc (by simp)
    obtain ⟨sl2, e2⟩ := b.any e (a.free c o q n (by simp)) (by simp)
    exact ⟨sl2, e2⟩
  free := fun c o q n _ => by
    obtain ⟨sl, e⟩ := a.any q n (by simp)
    exact b.free c _ e (a.free c o q n (by simp)) (by simp)
  there := fun c o q _ => by
    obtain ⟨o1, e⟩ := a.there c o q (by simp)
    exact b.there c o1 e (by simp)
  tups := fun c xs q => b.tups c xs (a.tups c xs q)
  frzs := fun c o u q => b.frzs c o u (a.frzs c o u q)
  tbls := fun c ps q => by
    obtain ⟨m, e⟩ := a.tbls c ps q
    obtain ⟨m2, e2⟩ := b.tbls c _ e
    exact ⟨m ++ m2, by rw [e2, Array.append_assoc]⟩
/-- the lambda at f, its code object at c2, made in X -/
def CloO (X : Cx) (params : Arguments) (body : Expr) (scope : Scope) (f c2 : Addr) : HO := .ext fun h => ∃ pm ctv : Value, h.get? f = some (PySem.W.kla_obj "<lambda>" (X.env.qual ++ "<lambda>") params body scope (cloFrom X.env.cells scope.names []) pm c2 ctv)
theorem cloO_tbl {X : Cx} {params : Arguments} {body : Expr} {scope : Scope} {f c2 : Addr} (ps : Array Value) : CloO X params body scope f c2 ≠ .tbl ps := fun z => by
  unfold CloO at z
  cases z
theorem clo_ok {X : Cx} {params : Arguments} {body : Expr} {scope : Scope} {f c2 : Addr} {P : Program} {w : World} {H : Hp} {h : Heap} {pm ctv : Value} (e : h.get? f = some (PySem.W.kla_obj "<lambda>" (X.env.qual ++ "<lambda>") params body scope (cloFrom X.env.cells scope.names []) pm c2 ctv)) :
    ObjOk P w H h f (CloO X params body scope f c2) := ⟨⟨pm, ctv, e⟩, ⟨_, e⟩, fun h1 h2 ⟨a, b, c⟩ st => ⟨a, b, st _ c⟩⟩
section
variable {X : Cx} {pins : List (Addr × Obj)} {σ : L2.St} {H : Hp} {s : Shared}
/-- a lambda is made and tracked -/
theorem lam_made {T : List (Addr × Str)} {c P : Addr} {params : Arguments} {body : Expr} {scope : Scope} {pos : Pos} {E : Value → Shared → Prop} {Q : Value → Shared → Prop} (I : Inv X pins σ H s) (TB : TabB X.base X.mg c P) (hcode : X.env.code = .ref c)
    (hm : (P, X.env.qual ++ "<lambda>") ∈ T) (hu : ∀ p ∈ T, p.1 = P → p.2 = X.env.qual ++ "<lambda>") (hT : Tabs T H) (hdef : defaultsOf params X.env = ([], [])) (hfree : ∀ y ∈ scope.names, y.2 = .free → ∃ c, X.env.cells.lookup y.1 = some c)
    (h : ∀ (f c2 : Addr) (H1 : Hp) (s1 : Shared), Inv X pins σ (upd H1 f (CloO X params body scope f c2)) s1 → ExtN H H1 → Tabs T H1 → H1 f = none → H1 c2 = some (CodeO c2 (X.env.qual ++ "<lambda>")) → Q (.ref f) s1) :
    wpAny (model X.prog X.w) X.A (eval (.Lambda params body scope pos) X.env) Q E s := by
  obtain ⟨ps, hP, ht, ha⟩ := hT _ hm
  refine PySem.W.kla_eval hdef ?_
  have bP : s.heap.BuiltinsAt X.mg P := TB.bm.keeps I.bk
  have hPs : s.heap.get? P = some { cls := .none, data := .fields ps } := I.hok P _ hP
  cases hc : codeAmong pos ps.toList with
  | none =>
    refine PySem.W.kla_makeFunction (mg := X.mg) (c := c) (P := P) (ps := ps) (closure_ok hfree) I.ok.glob (I.mod.glob.keeps I.bk) hcode (TB.code.keeps I.bk) hPs ht hc TB.gP bP fun c2 ctv h2 tk hx hge hlt hrec htb => ?_
    obtain ⟨c3, oc, vs, t, e2, hoc, hd, hv⟩ := hrec
    cases e2
    have nC : H c2 = none := I.hok.fresh hge
    have I1 := inv_table (t' := tk) (more := #[rawInt pos.line, rawInt pos.col, .ref c2]) (h' := h2) I hP hx htb hge ⟨oc, vs, t, hoc, hd, hv⟩
    have hE : ExtN H (upd (upd H P (.tbl (ps ++ #[rawInt pos.line, rawInt pos.col, .ref c2]))) c2 (CodeO c2 (X.env.qual ++ "<lambda>"))) := fun b o e n => by
      rw [upd_ne (ne_of_none e nC), upd_ne (show b ≠ P from fun z => n ps (Option.some.inj (e.symm.trans (by rw [z]; exact hP))))]
      exact e
    have eL : (ps ++ #[rawInt pos.line, rawInt pos.col, .ref c2]).toList = ps.toList ++ [rawInt pos.line, rawInt pos.col, .ref c2] := by simp
    refine h h2.objs.size c2 _ _ (I1.laid (t' := tk) (fun _ _ e => Heap.get?_push_of_some _ e) (Nat.le_refl _) (clo_ok (Heap.get?_push_size _ rfl))) hE (fun p hp => ?_) (I1.hok.fresh (Nat.le_refl _)) upd_same
    by_cases hb : p.1 = P
    · refine ⟨_, by rw [hb, upd_ne (ne_of_none hP nC), upd_same], by rw [eL]; exact PySem.TriplesOk_snoc _ _ _ _ ht, fun pz cv hcv => ?_⟩
      rw [eL] at hcv
      rw [hu p hp hb]
      rcases among_app _ ht hcv with z | z
      · obtain ⟨c0, e1, e2⟩ := ha pz cv z
        exact ⟨c0, e1, hE _ _ e2 codeO_ne⟩
      · exact ⟨c2, z, upd_same⟩
    · obtain ⟨psz, a1, a2, a3⟩ := hT p hp
      refine ⟨psz, by rw [upd_ne (ne_of_none a1 nC), upd_ne hb]; exact a1, a2, fun pz cv hcv => ?_⟩
      obtain ⟨c0, e1, e2⟩ := a3 pz cv hcv
      exact ⟨c0, e1, hE _ _ e2 codeO_ne⟩
  | some cv =>
    obtain ⟨c2, e, hco⟩ := ha pos cv hc
    subst e
    refine PySem.W.kla_makeFunctionHit (mg := X.mg) (c := c) (P := P) (ps := ps) (closure_ok hfree) I.ok.glob (I.mod.glob.keeps I.bk) hcode (TB.code.keeps I.bk) hPs ht hc bP fun ctv h2 tk hx hsz => ?_
    have I1 : Inv X pins σ H { s with heap := h2, toks := tk } := I.kept hx
    exact h h2.objs.size c2 H _ (I1.laid (t' := tk) (fun _ _ e => Heap.get?_push_of_some _ e) (Nat.le_refl _) (clo_ok (Heap.get?_push_size _ rfl))) (ExtN.refl H) hT (I1.hok.fresh (Nat.le_refl _)) hco
end
/-- what is at f acts as tl tells, called from behind s0, H0 -/
structure Acts (P : Program) (w : World) (K : PySem.W.Frag) (mg : Str → Option Value) (base : Heap) (k : Nat) (fs : List Addr) (f : Addr) (s0 : Shared) (H0 : Hp) (tl : XK → Hp → VK → Prop) : Prop where
  fn : ∀ (s1 : Shared) (HZ : Hp) (Q : VK) (E : XK), HOk P w HZ s1.heap → tl E HZ Q → PySem.W.FnAt f s1.heap
  run : ∀ (A : Around) (outer : List Env) (s1 : Shared) (HZ : Hp) (Q : VK) (E : XK), Room k A → Env0 P w K mg base A outer s1 HZ → Un fs [] H0 HZ s0.heap s1.heap → tl E HZ Q →
    codeAny (model P w) A (.call (.ref f) ⟨[], []⟩) (CR (L2N.CX P w) outer P w HZ s1 Q E) s1
/-- the context of a lambda's body: what is raised there has no context of its own -/
abbrev lamC (X : Cx) (A : Around) (outer : List Env) (s : Shared) (H : Hp) (E : XK) (scope : Scope) (f c2 : Addr) : Cx := (lamCx X A outer s H E scope f c2).wish fun e s1 =>
  wpAny (model X.prog X.w) (A.deeper (lamEnv X scope s.heap.objs.size f c2)) (leaving (lamEnv X scope s.heap.objs.size f c2) e) (fun _ s2 => L2N.CX X.prog X.w outer H s E e s2) (fun e2 s2 => L2N.CX X.prog X.w outer H s E e2 s2) s1
/-- a lambda of X's text: what its body reads -/
structure LamD (X : Cx) (k : Nat) where
  params : Arguments
  body : Expr
  scope : Scope
  tb : XK → TE
  L : LamS X.env.scope scope
  hbind : ∀ (q : Str) (cl : List (Str × Addr)) (pm cv ctv : Value), bindArgs (PySem.W.kla_fn "<lambda>" q params body scope cl pm cv ctv) ⟨[], []⟩ = pure []
  hbody : ∀ (f c2 : Addr) (E : XK) (A : Around) (outer : List Env) (s : Shared) (H : Hp), Room k (A.deeper (lamEnv X scope s.heap.objs.size f c2)) → PE (lamC X A outer s H E scope f c2) body (tb E)
/-- such a lambda stands at f -/
def LamD.At {X : Cx} {k : Nat} (D : LamD X k) (f : Addr) (H : Hp) : Prop := ∃ c2, H f = some (CloO X D.params D.body D.scope f c2) ∧ H c2 = some (CodeO c2 (X.env.qual ++ "<lambda>"))
/-- what it does, made with the slots σ -/
def LamD.does {X : Cx} {k : Nat} (D : LamD X k) (f : Addr) (σ : L2.St) : XK → Hp → VK → Prop := fun E HZ Q => D.At f HZ ∧ D.tb E σ HZ Q
section
variable {X : Cx} {pins : List (Addr × Obj)} {σ : L2.St} {H : Hp} {s : Shared}
theorem acts_of {k : Nat} (D : LamD X k) {f : Addr} (I : Inv X pins σ H s) : Acts X.prog X.w X.K X.mg X.base (k + 1) (frs X.stack) f s H (D.does f σ) := by
  refine ⟨fun s1 HZ Q E hok ⟨⟨c2, hcf, hcc⟩, ht⟩ => ?_, fun A outer s1 HZ Q E hr e0 un ⟨⟨c2, hcf, hcc⟩, ht⟩ => ?_⟩
  · obtain ⟨⟨pm, ctv, of1⟩, _, _⟩ := hok f _ hcf
    exact ⟨_, _, _, _, of1⟩
  obtain ⟨⟨pm, ctv, of1⟩, _, _⟩ := e0.hok f _ hcf
  obtain ⟨⟨oc, vs, t, hoc, hdc, hvc⟩, _, _⟩ := e0.hok c2 _ hcc
  refine PySem.W.kla_callFunE hr.depth of1 rfl D.L.co D.L.gen rfl ⟨c2, oc, vs, t, rfl, hoc, hdc, hvc⟩ ?_
  rw [D.hbind]
  have lim : s1.heap.NoLimit := e0.mod.nolimit.keeps fun b o e => (e0.bs b o e).1
  refine wpAny_pure (wpAny_newFunctionEnv (fun y hy => (D.L.own y hy).2) (fun y hy => absurd hy (by simp)) (fun h1 hns hsb => ⟨lim.fresh _ hsb, ?_⟩) D.L.kind)
  show codeAny _ _ (.expr D.body (lamEnv X D.scope s1.heap.objs.size f c2)) _ _
  have kp : ∀ b o, s1.heap.get? b = some o → h1.get? b = some o := fun b o e => hsb.extBut b o (Nat.ne_of_lt (Heap.lt_size e)) (Heap.get?_push_of_some _ e)
  have J : Inv (lamCx X A outer s1 HZ E D.scope f c2) [] σ HZ { s1 with heap := h1, toks := s1.toks + ([] : List (Str × Value)).length } := lam_start2 I D.L e0 hr.hd un hns kp
  refine PySem.W.kla_codeExpr (wpAny_mono ((D.hbody f c2 E A outer s1 HZ (hr.deeper _)).run [] _ _ HZ Q (J.wish _) ht) (fun v s2 hq => ?_) fun e s2 hq => hq)
  obtain ⟨w2, H2, J2, rv, q⟩ := hq
  exact ⟨w2, H2, J2.os, J2.bare, J2.base, J2.hok, rv, q⟩
end
/-- a(), a the name of what acts -/
theorem pe_do {Z : Cx} {W : WX} {k i : Nat} {a : Str} {f : Addr} {fs : List Addr} {s0 : Shared} {H0 : Hp} {tl : XK → Hp → VK → Prop} {p1 p2 : Pos} (ac : Acts Z.prog Z.w Z.K Z.mg Z.base k fs f s0 H0 tl) (hr : Room k Z.A) (hex : Z.ex = []) (hU : Un fs [] H0 Z.H_0 s0.heap Z.s_0.heap)
    (ho : ∀ c ∈ frs Z.outer, c ∈ fs ∨ s0.heap.objs.size ≤ c) (tk : L2N.Takes Z W) (hN : Z.N[i]? = some a) (hv : Vis Z.env.scope a) (hd : (a == ("__debug__" : Str)) = false := by decide) (hcd : (a == ("__classdict__" : Str)) = false := by decide) :
    PE Z (.Call (.Name a p1) [] [] p2) (fun σ H Q => σ[i]? = some (some (.ref f)) ∧ ∃ (E1 : XK) (Q1 : VK), tl E1 H Q1 ∧ (∀ cls d H1, E1 cls d H1 → W cls d σ H1) ∧ ∀ v H1, Q1 v H1 → Q v H1) := by
  refine ⟨fun pins s σ H Q I ⟨hs, E1, Q1, ht, hE, hQ⟩ => wpAny_Call_Name_kw (thn ((pe_var (pos := p1) (i := i) hN hv hd hcd).run pins s σ H (fun v H1 => v = .ref f ∧ H1 = H) I ⟨.ref f, hs, rfl, rfl⟩) fun u s1 ⟨v, H1, I1, r1, ev, eH⟩ => ?_)⟩
  subst ev eH
  obtain rfl : u = Value.ref f := r1
  have base : Un (frs Z.outer) [] Z.H_0 H1 Z.s_0.heap s1.heap := hex ▸ I1.base
  refine PySem.W.callWith_F0 (ac.fn _ _ _ _ I1.hok ht) (wpAny_call (codeAny_mono (ac.run Z.A Z.stack s1 H1 Q1 E1 hr I1.env0 (un_over hU base ho) ht) fun r s2 hq => ?_))
  cases r with
  | error e => exact tk e s2 (L2N.XE.of_call I1 (fun cls d H2 z => hE cls d H2 z) hq)
  | ok fl =>
    cases fl with
    | ret u =>
      obtain ⟨v, H2, c1, c2, c3, c4, c5, c6⟩ := hq
      exact I1.after ⟨v, H2, c1, c2, c3, c4, c5, hQ _ _ c6⟩
    | _ => exact hq.elim
/-- a def of one parameter, handed what acts; it lets nothing out -/
structure FnL (P : Program) (w : World) (K : PySem.W.Frag) (mg : Str → Option Value) (base : Heap) (k : Nat) (g : Addr) (TT : (XK → Hp → VK → Prop) → Hp → VK → Prop) : Prop where
  run : ∀ (kk : Nat) (f : Addr) (fs : List Addr) (s0 : Shared) (H0 : Hp) (tl : XK → Hp → VK → Prop), Acts P w K mg base kk fs f s0 H0 tl → ∀ (A : Around) (outer : List Env) (s : Shared) (H : Hp) (Q : VK), Room (kk + k) A → Env0 P w K mg base A outer s H → Un fs [] H0 H s0.heap s.heap →
    (∀ c ∈ frs outer, c ∈ fs ∨ s0.heap.objs.size ≤ c) → s0.heap.objs.size ≤ s.heap.objs.size → TT tl H Q → codeAny (model P w) A (.call (.ref g) ⟨[.ref f], []⟩) (CR C8.CX0 outer P w H s Q C8.E0) s
section
variable {P : Program} {w : World} {K : PySem.W.Frag} {mg : Str → Option Value} {base : Heap} {k : Nat} {g : Addr} {TT : (XK → Hp → VK → Prop) → Hp → VK → Prop}
theorem fnL_of {x qual a : Str} {st : Stmt} {fd : FuncData} {N : List Str} (F : Fun K x qual st g fd) (S : FnScope N [a] (defScope st)) (hb : L2.Binds K fd [a] [])
    (hbody : ∀ (kk : Nat) (f : Addr) (fs : List Addr) (s0 : Shared) (H0 : Hp) (tl : XK → Hp → VK → Prop), Acts P w K mg base kk fs f s0 H0 tl → ∀ (cdv : Value) (A : Around) (outer : List Env) (s : Shared) (H : Hp) (Q : VK), Room (kk + k) (A.deeper (envOfC qual (defScope st) s.heap.objs.size g cdv)) → Un fs [] H0 H s0.heap s.heap →
      (∀ c ∈ frs outer, c ∈ fs ∨ s0.heap.objs.size ≤ c) → s0.heap.objs.size ≤ s.heap.objs.size → TT tl H Q → ∃ t, PSs (cxOf C8.CX0 P w K mg base N qual (defScope st) g cdv A outer s H C8.E0) (defBody st) t ∧ t { nx := fun _ H1 => Q .non H1, rt := Q } (L2.start N [.ref f]) H) :
    FnL P w K mg base (k + 1) g TT := by
  refine ⟨fun kk f fs s0 H0 tl ac A outer s H Q hr e0 hU ho hz ht => ?_⟩
  obtain ⟨oc, od, kV, doc, pm, an, cdv, ct, osl, rfl, lk, hcd⟩ := F.ex
  have b := hb s [.ref f] (e0.mod.kin.keeps fun b o e => (e0.bs b o e).1) rfl
  exact run_ofS (k := kk + k) (N := N) (ps := [a]) (us := [.ref f]) (vs := [.ref f]) lk hcd S hr e0 b (.cons rfl .nil) rfl fun hr2 => hbody kk f fs s0 H0 tl ac cdv A outer s H Q hr2 hU ho hz ht
end
section
variable {Z : Cx} {k kk i : Nat} {g : Addr} {TT : (XK → Hp → VK → Prop) → Hp → VK → Prop} {x a : Str} {p p1 pos : Pos}
/-- x(a), a the name of what acts -/
theorem pe_hand {f : Addr} {fs : List Addr} {s0 : Shared} {H0 : Hp} {tl : XK → Hp → VK → Prop} (G : FnL Z.prog Z.w Z.K Z.mg Z.base k g TT) (ac : Acts Z.prog Z.w Z.K Z.mg Z.base kk fs f s0 H0 tl) (hr : Room (kk + k) Z.A) (hex : Z.ex = []) (hU : Un fs [] H0 Z.H_0 s0.heap Z.s_0.heap)
    (ho : ∀ c ∈ frs Z.stack, c ∈ fs ∨ s0.heap.objs.size ≤ c) (hg : Gl Z x) (hm : Z.mg x = some (.ref g)) (hk : PySem.W.keepIn Z.K (.ref g) = true) (hN : Z.N[i]? = some a) (hv : Vis Z.env.scope a) (hos : ∀ c ∈ frs Z.outer, c ∈ frs Z.stack) (hz : s0.heap.objs.size ≤ Z.s_0.heap.objs.size) (hdb : (x == ("__debug__" : Str)) = false := by decide) (hd : (a == ("__debug__" : Str)) = false := by decide)
    (hcd : (a == ("__classdict__" : Str)) = false := by decide) (he : starEach [Expr.Name a p1] Z.env = (false, eval (.Name a p1) Z.env) :: starEach [] Z.env := by rfl) (hpl : (backTo pos (starEach [] Z.env)).any (·.1) = false := by rfl) :
    PE Z (.Call (.Name x p) [.Name a p1] [] pos) (fun σ H Q => σ[i]? = some (some (.ref f)) ∧ TT tl H Q) := by
  refine ⟨fun pins s σ H Q I ⟨hs, ht⟩ => wpAny_Call_Name_kw (ld_glob I hg hm ?_ hdb)⟩
  refine PySem.W.callWith_K (h₀ := Z.base) I.ok.mod.kin hk (thn ((pa_cons (pe_var (pos := p1) (i := i) hN hv hd hcd) pa_nil).run pos pins s σ H (fun vs H1 => vs = [.ref f] ∧ H1 = H) I ⟨.ref f, hs, rfl, rfl⟩) fun us s1 ⟨vs, H1, I1, r, ev, eH⟩ => ⟨I1.kIn, ?_⟩) he hpl
  subst ev eH
  cases r with
  | @cons _ u0 _ ur ra rw2 =>
    cases rw2
    obtain rfl : u0 = Value.ref f := ra
    have base : Un (frs Z.outer) [] Z.H_0 H1 Z.s_0.heap s1.heap := hex ▸ I1.base
    refine wpAny_call (codeAny_mono (G.run kk f fs s0 H0 tl ac Z.A Z.stack s1 H1 Q hr I1.env0 (un_over hU base fun c hc => ho c (hos c hc)) ho (Nat.le_trans hz I1.sz) ht) fun r s2 hq => ?_)
    cases r with
    | error e => exact (show False from hq).elim
    | ok fl =>
      cases fl with
      | ret u => exact I1.after hq
      | _ => exact hq.elim
/-- x(e), e giving a lambda of the def's own text -/
theorem pe_give {e : Expr} {te : TE} (G : FnL Z.prog Z.w Z.K Z.mg Z.base k g TT) (hr : Room (kk + 1 + k) Z.A) (hg : Gl Z x) (hm : Z.mg x = some (.ref g)) (hk : PySem.W.keepIn Z.K (.ref g) = true) (h1 : PE Z e te) (hdb : (x == ("__debug__" : Str)) = false := by decide)
    (he : starEach [e] Z.env = (false, eval e Z.env) :: starEach [] Z.env := by rfl) (hpl : (backTo pos (starEach [] Z.env)).any (·.1) = false := by rfl) :
    PE Z (.Call (.Name x p) [e] [] pos) (fun σ H Q => te σ H fun v H1 => ∃ (f : Addr) (D : LamD Z kk), [v] = [V.ref f] ∧ TT (D.does f σ) H1 Q) := by
  refine ⟨fun pins s σ H Q I h => wpAny_Call_Name_kw (ld_glob I hg hm ?_ hdb)⟩
  refine PySem.W.callWith_K (h₀ := Z.base) I.ok.mod.kin hk (thn ((pa_cons h1 pa_nil he).run pos pins s σ H (fun vs H1 => ∃ (f : Addr) (D : LamD Z kk), vs = [.ref f] ∧ TT (D.does f σ) H1 Q) I h) fun us s1 ⟨vs, H1, I1, r, f, D, ev, ht⟩ => ⟨I1.kIn, ?_⟩) he hpl
  subst ev
  cases r with
  | @cons _ u0 _ ur ra rw2 =>
    cases rw2
    obtain rfl : u0 = Value.ref f := ra
    refine wpAny_call (codeAny_mono (G.run (kk + 1) f (frs Z.stack) s1 H1 _ (acts_of D I1) Z.A Z.stack s1 H1 Q hr I1.env0 Un.refl (fun c hc => .inl hc) (Nat.le_refl _) ht) fun r s2 hq => ?_)
    cases r with
    | error e => exact (show False from hq).elim
    | ok fl =>
      cases fl with
      | ret u => exact I1.after hq
      | _ => exact hq.elim
/-- lambda: body -/
theorem pe_lam {T : List (Addr × Str)} {c PT : Addr} (D : LamD Z kk) (TB : TabB Z.base Z.mg c PT) (hcode : Z.env.code = .ref c) (hmT : (PT, Z.env.qual ++ "<lambda>") ∈ T) (hu : ∀ q ∈ T, q.1 = PT → q.2 = Z.env.qual ++ "<lambda>") (hdef : defaultsOf D.params Z.env = ([], [])) :
    PE Z (.Lambda D.params D.body D.scope pos) (fun _ H Q => Tabs T H ∧ ∀ f H1, ExtN H H1 → Tabs T H1 → D.At f H1 → Q (.ref f) H1) := by
  refine ⟨fun pins s σ H Q I ⟨hT, h⟩ => lam_made I TB hcode hmT hu hT hdef (D.L.has I.ok) fun f c2 H1 s1 I1 eN T1 nf hc => ?_⟩
  have ne : ∀ {b : Addr} {o : HO}, H1 b = some o → upd H1 f (CloO Z D.params D.body D.scope f c2) b = some o := fun {b o} e => by rw [upd_ne (ne_of_none e nf)]; exact e
  exact ⟨.ref f, _, I1, rfl, h f _ (fun b o e n => ne (eN b o e n)) (T1.ext fun b o e => ne e) ⟨c2, upd_same, ne hc⟩⟩
/-- x(lambda: body) -/
theorem pe_ask {T : List (Addr × Str)} {c PT : Addr} {lp : Pos} (D : LamD Z kk) (G : FnL Z.prog Z.w Z.K Z.mg Z.base k g TT) (hr : Room (kk + 1 + k) Z.A) (hg : Gl Z x) (hm : Z.mg x = some (.ref g)) (hk : PySem.W.keepIn Z.K (.ref g) = true) (TB : TabB Z.base Z.mg c PT) (hcode : Z.env.code = .ref c)
    (hmT : (PT, Z.env.qual ++ "<lambda>") ∈ T) (hu : ∀ q ∈ T, q.1 = PT → q.2 = Z.env.qual ++ "<lambda>") (hdef : defaultsOf D.params Z.env = ([], [])) (hdb : (x == ("__debug__" : Str)) = false := by decide)
    (he : starEach [.Lambda D.params D.body D.scope lp] Z.env = (false, eval (.Lambda D.params D.body D.scope lp) Z.env) :: starEach [] Z.env := by rfl) (hpl : (backTo pos (starEach [] Z.env)).any (·.1) = false := by rfl) :
    PE Z (.Call (.Name x p) [.Lambda D.params D.body D.scope lp] [] pos) (fun σ H Q => Tabs T H ∧ ∀ f H1, ExtN H H1 → Tabs T H1 → D.At f H1 → TT (D.does f σ) H1 Q) :=
  ⟨fun pins s σ H Q I ⟨h1, h2⟩ => (pe_give (kk := kk) G hr hg hm hk (pe_lam D TB hcode hmT hu hdef) hdb he hpl).run pins s σ H Q I ⟨h1, fun f H1 a b c => ⟨f, D, rfl, h2 f H1 a b c⟩⟩⟩
theorem LamD.At.same {D : LamD Z kk} {f : Addr} {H H1 : Hp} (a : D.At f H) (s : ∀ b o, H b = some o → H1 b = some o) : D.At f H1 := by
  obtain ⟨c2, h1, h2⟩ := a
  exact ⟨c2, s _ _ h1, s _ _ h2⟩
end
end ExX

namespace ExX
open PySem PySem.Spec PyProof.Rows L2
section
variable {prog : Program} {w : World} {A : Around} {E : Value → Shared → Prop} {s : Shared}
/-- a tuple's iterator is at its end, while x1 is handled -/
theorem next_end_hot {it t i : Nat} {items : Array Value} {x1 : Addr} {Q : Option Value → Shared → Prop} (hot : HotX.HotAt A x1 s.heap) (hit : s.heap.IsTupleIter it t i) (ht : s.heap.IsTuple t items) (hx : items[i]? = none) (hne : x1 ≠ it)
    (hQ : ∀ h2, (∀ b o, b ≠ it → s.heap.get? b = some o → h2.get? b = some o) → Q none { s with heap := h2 }) : wpAny (model prog w) A (pyNext (.ref it)) Q E s := by
  obtain ⟨hh, o1, v1, h1, d1, c1⟩ := hot
  obtain ⟨o, ho, hc, hd⟩ := id hit
  obtain ⟨ol, hol, hcl, nl, hdl⟩ := id ht
  unfold pyNext
  refine wpAny_bind (wpAny_attempt (wpAny_callSpecial?_slot (name := Str.ofString "__next__") hit.typeIs F.slot_tuple_iterator_next
    (wpAny_call_entry F.slot_tuple_iterator_next hit.typeIs F.entry_tuple_iterator_next ?_ (F.args_tuple_iterator_next_1 _))))
  show wpAny _ _ (field (.ref it) 0 >>= _) _ _ s
  refine wpAny_bind (wpAny_field ho hd (x := .ref t) rfl ?_)
  show wpAny _ _ (if (Value.ref t == Value.none) = true then _ else _) _ _ s
  rw [if_neg (show ¬ ((Value.ref t == Value.none) = true) from by simp)]
  show wpAny _ _ (field (.ref it) 1 >>= _) _ _ s
  refine wpAny_bind (wpAny_field ho hd (x := .int i 0) rfl ?_)
  show wpAny _ _ (seqItems? (.ref t) >>= _) _ _ s
  refine wpAny_bind (wpAny_seqItems hol hdl ?_)
  simp only [Int.toNat_natCast, hx]
  refine wpAny_bind (wpAny_rule (wpAny_bind (wpAny_setField ho hd (by simp) ?_)))
  show wpAny _ _ (newExc (.type "StopIteration") [] >>= _) _ _ _
  refine wpAny_bind ?_
  simp only [newExc, newTuple]
  refine wpAny_bind (wpAny_newObj_type ?_ (by size_fits))
  refine wpAny_bind (m := firstArgMember _ _) (wpAny_of_eq (a := Value.none) (by first | rfl | (simp only [firstArgMember]; rfl)) (wpAny_newObj_type ?_ (by size_fits)))
  have k : ∀ b u, b ≠ it → s.heap.get? b = some u → (s.heap.update it (Obj.mapFields (·.setIfInBounds 0 Value.none))).get? b = some u := fun b u hb e => (Heap.get?_update_other _ _ (Ne.symm hb)).trans e
  have sz := Heap.lt_size (k x1 o1 hne h1)
  refine HotX.raiseNew_hot (x1 := x1) ⟨hh, o1, v1, Heap.get?_push_of_some _ (Heap.get?_push_of_some _ (k _ _ hne h1)), d1, c1⟩ (Nat.ne_of_lt (Heap.lt_size (Heap.get?_push_of_some _ (k _ _ hne h1)))) (Heap.get?_push_size _ rfl) rfl (by first | (simp; done) | (simp; omega)) ?_
  refine wpAny_bind (wpAny_isInstance (T := "StopIteration") (b := true) ⟨_, Heap.get?_update_self _ (Heap.get?_push_size _ rfl) rfl, rfl⟩ isSubtype_stop ?_)
  refine wpAny_pure (hQ _ fun b o hb e => ?_)
  rw [Heap.get?_update_other _ _ (Nat.ne_of_gt (Heap.lt_size (Heap.get?_push_of_some _ (k b o hb e))))]
  exact Heap.get?_push_of_some _ (Heap.get?_push_of_some _ (k b o hb e))
theorem unpack_hot {t : Addr} {items : Array Value} {x1 : Addr} {Q : List Value → Shared → Prop} (hot : HotX.HotAt A x1 s.heap) (ht : s.heap.IsTuple t items)
    (hQ : ∀ h2, (∀ b o, b ≠ s.heap.objs.size → s.heap.get? b = some o → h2.get? b = some o) → Q items.toList { s with heap := h2 }) : wpAny (model prog w) A (unpackItems (.ref t) items.size none) Q E s := by
  have hlt : t ≠ s.heap.objs.size := by obtain ⟨o, ho, _⟩ := ht; exact Nat.ne_of_lt (Heap.lt_size ho)
  obtain ⟨hh, o1, v1, h1, d1, c1⟩ := hot
  have hxs : x1 ≠ s.heap.objs.size := Nat.ne_of_lt (Heap.lt_size h1)
  unfold unpackItems
  refine wpAny_bind ?_
  unfold notIterableAtAll
  refine wpAny_bind (wpAny_specialOf ht.typeIs F.slot_tuple_iter.lookup (wpAny_pure ?_))
  simp only [Bool.false_eq_true, if_false]
  refine wpAny_bind (wpAny_holding (wpAny_pyIter_tuple ht ?_))
  refine wpAny_bind (wpAny_holding (wpAny_draw_tuple hlt items.size 0 _ _ ⟨_, Heap.get?_push_size _ rfl, rfl, rfl⟩ (ht.push _) (by omega) fun h2 hit2 hs2 => ?_))
  have all : List.take items.size (List.drop 0 items.toList) = items.toList := by rw [List.drop_zero]; exact List.take_of_length_le (by simp)
  rw [all, if_neg (by simp)]
  have ht2 : h2.IsTuple t items := (ht.push _).extBut hs2.extBut hlt
  refine wpAny_bind (wpAny_holding (next_end_hot (x1 := x1) ⟨hh, o1, v1, hs2.extBut _ _ hxs (Heap.get?_push_of_some _ h1), d1, c1⟩ hit2 ht2 (by simp) hxs fun h3 k3 => ?_))
  simp only [Option.isSome_none, Bool.false_eq_true, if_false]
  exact wpAny_pure (hQ h3 fun b o hb e => k3 b o hb (hs2.extBut b o hb (Heap.get?_push_of_some _ e)))
end
/-- a, b = x, y where an exception is handled -/
theorem ps_parH {X : Cx} {pos : Pos} {i j : Nat} {x y : Str} {a b : Expr} {ta : TA} {px py pt : Pos} {kt k2 pt2} (hc : L2H.HotC X) (hN : X.N.Nodup) (hi : X.N[i]? = some x) (hj : X.N[j]? = some y) (hij : i ≠ j)
    (hx : X.env.scope.names.lookup x = some .local) (hy : X.env.scope.names.lookup y = some .local) (ha : PA X [a, b] ta)
    (hw : swappedStores [.Tuple [.Name x px, .Name y py] kt pt] (.Tuple [a, b] k2 pt2) X.env = pure (some [x, y]))
    (hs : swapsWithSole [.Tuple [.Name x px, .Name y py] kt pt] (.Tuple [a, b] k2 pt2) pos.line X.env = pure false := by rfl) :
    PS X (.Assign [.Tuple [.Name x px, .Name y py] kt pt] (.Tuple [a, b] k2 pt2) pos) (tPar i j ta) := by
  refine ⟨fun pins s σ H D I h => ?_⟩
  rw [exec_Assign_arm]
  refine wpAny_bind (wpAny_standAt ?_)
  rw [hs]
  refine wpAny_bind (wpAny_pure ?_)
  rw [if_neg (by decide)]
  refine wpAny_bind (Tuple_ (thn (ha.run _ pins s σ H _ I h) fun us s1 ⟨vs, H1, I1, r1, v, z, e1, q1⟩ => ?_))
  subst e1
  obtain ⟨u1, u2, rfl, rv, rz⟩ : ∃ u1 u2, us = [u1, u2] ∧ RelV v u1 ∧ RelV z u2 := by
    cases r1 with
    | cons p q =>
      cases q with
      | cons p2 q2 =>
        cases q2
        exact ⟨_, _, rfl, p, p2⟩
  refine wpAny_newObj_type ?_ (by show 2 ≤ sizeLine; decide)
  have I2 : Inv X pins σ H1 { s1 with heap := s1.heap.push { cls := .type "tuple", data := .seq [u1, u2].toArray } } := I1.kept (t' := s1.toks) fun b o e => Heap.get?_push_of_some _ e
  rw [hw]
  refine wpAny_bind (wpAny_pure ?_)
  show wpAny (model X.prog X.w) X.A (do rule "assign.swapped-stores"; let items ← unpackItems (.ref s1.heap.objs.size) 2 none; assignInOrder [fun v => bindName X.env y v, fun v => bindName X.env x v] items.reverse; pure Flow.next) _ _ _
  obtain ⟨x1, hot⟩ := hc.at I2
  refine wpAny_bind (wpAny_rule (wpAny_bind (unpack_hot (items := #[u1, u2]) hot (IsTup.new s1.heap _) fun h2 k2 => ?_)))
  have I3 := I2.kept (h' := h2) (t' := s1.toks) fun b o e => k2 b o (Nat.ne_of_lt (Heap.lt_size e)) e
  show wpAny _ _ (assignInOrder [fun v => bindName X.env y v, fun v => bindName X.env x v] [u2, u1] >>= fun _ => pure Flow.next) _ _ _
  refine wpAny_bind (assignInOrder_cons (wpAny_bindName (store_ok I3 hN hj (.inl hy) rz (fun s2 I4 => ?_) (.inr hy))))
  refine assignInOrder_cons (wpAny_bindName (store_ok I4 hN hi (.inl hx) rv (fun s3 I5 => assignInOrder_nil (wpAny_pure ?_)) (.inr hx)))
  rw [List.set_comm _ _ (Ne.symm hij)] at I5
  exact ⟨_, H1, I5, q1⟩
end ExX

namespace ExX
open PySem PySem.Spec PyProof.Rows L2
abbrev luTail : List Value := [.type "LookupError", .type "Exception", .type "BaseException", .type "object"]
abbrev vaTail : List Value := [.type "ValueError", .type "Exception", .type "BaseException", .type "object"]
/-- the body of a class -/
def clsB : Stmt → List Stmt
  | .ClassDef _ _ _ b _ _ _ _ _ _ _ => b
  | _ => []
abbrev initS (s : Stmt) : Stmt := (clsB s).getD 0 (.Pass ⟨0, 0, 0, 0⟩)
theorem txt_int {i : Int} (h : i.natAbs.log2 < 1920) : (Str.ofString (toString i)).length ≤ 1921 := by
  rw [PySem.ofString_length]
  exact int_text_length_le (by decide) h
theorem fits {z : Str} (h : z.length ≤ 10000) : z.length ≤ sizeLine := by rw [sizeLine_eq]; omega
theorem fits_cat {a b : Str} {m n : Nat} (h1 : a.length ≤ m) (h2 : b.length ≤ n) : (a ++ b).length ≤ m + n := by rw [Str.length_append]; omega
/-- an int whose text is short enough -/
def Prt (v : V) : Prop := ∃ i : Int, v = .int i ∧ i.natAbs.log2 < 1920
/-- __init__ of the two classes above all others -/
def spTop (K : PySem.W.Frag) (nid : String) (tl : List Value) : Sp := fun vs H Q _ => ∃ (a C : Addr) (tag msg : Str), vs = [.ref a, .str tag, .str msg] ∧ H a = some (exo a C none) ∧ ExB K C nid tl ∧ PySem.W.findIn K (.ref C) "tag" = some none ∧
  ∀ dx, H dx = none → dx ≠ a → Q .non (upd (upd H dx (exd dx [("tag", .str tag)])) a (exo a C (some dx)))
/-- __init__ of an error with one field -/
def spErrI (K : PySem.W.Frag) (nid : String) (tl : List Value) (fld tag : Str) : Sp := fun vs H Q _ => ∃ (a C : Addr) (v : V), vs = [.ref a, v] ∧ Prt v ∧ H a = some (exo a C none) ∧ ExB K C nid tl ∧ PySem.W.findIn K (.ref C) "tag" = some none ∧ PySem.W.findIn K (.ref C) fld = some none ∧
  ∀ dx, H dx = none → dx ≠ a → Q .non (upd (upd (upd H dx (exd dx [("tag", .str tag)])) a (exo a C (some dx))) dx (exd dx [(fld, v), ("tag", .str tag)]))
/-- an error is on its way: its class, its dict, new, with the field and the tag -/
def Flies (H : Hp) (E : XK) (C : Addr) (fld tag : Str) (v : V) : Prop := ∀ d H1, H d = none → H1 d = some (.xd [(fld, v), ("tag", .str tag)]) → Same H H1 → E (.ref C) (some d) H1
structure Raisable (P : Program) (w : World) (K : PySem.W.Frag) (mg : Str → Option Value) (base : Heap) (k : Nat) (x : Str) (C : Addr) (fld tag : Str) : Prop where
  ex : ∃ (B nid iid : String) (tl : List Value) (fI : Addr) (fd : FuncData), ExcBaseFacts B nid iid tl ∧ ExB K C nid tl ∧ PySem.W.findIn K (.ref C) "__init__" = some (some (.ref fI)) ∧ PySem.W.typeIn K (.ref fI) = some (.type "function") ∧
    FnOk P w K mg base CX0 k fI fd ["self", fld] (spErrI K nid tl fld tag) ∧ L2.Binds K fd ["self", fld] []
  g : mg x = some (.ref C)
  nt : PySem.W.findIn K (.ref C) "tag" = some none
  nf : PySem.W.findIn K (.ref C) fld = some none
  xf : XfC K C
section
variable {X : Cx} {k : Nat} {x fld tag : Str} {C : Addr} {e : Expr} {te : TE} {p pos : Pos}
theorem mk_flies {K : PySem.W.Frag} {nid : String} {tl : List Value} {vs : List V} {H1 : Hp} {Q : XK} (T : ExB K C nid tl) (nt : PySem.W.findIn K (.ref C) "tag" = some none) (nf : PySem.W.findIn K (.ref C) fld = some none) (h : ∃ v, vs = [v] ∧ Prt v ∧ Flies H1 Q C fld tag v) : mkW C (spErrI K nid tl fld tag) vs H1 Q := by
  obtain ⟨v, rfl, hp, fl⟩ := h
  refine ⟨by show 1 ≤ 1000; decide, fun a na => ⟨a, C, v, rfl, hp, upd_same, T, nt, nf, fun dx nd ne => ⟨rfl, dx, _, ?_, upd_same, ?_, ?_⟩⟩⟩
  · rw [upd_ne ne.symm, upd_same]
  · rw [upd_ne ne] at nd
    exact nd
  · rw [upd_ne ne] at nd
    refine fl dx _ nd upd_same fun b o q => ?_
    have hb : b ≠ dx := ne_of_none q nd
    have ha : b ≠ a := ne_of_none q na
    rw [upd_ne hb, del_ne ha, upd_ne hb, upd_ne ha, upd_ne hb, upd_ne ha]
    exact q
theorem pmk_err (T : Raisable X.prog X.w X.K X.mg X.base k x C fld tag) (hr : Room (k + 1) X.A) (hg : Gl X x) (h : PE X e te) (hdb : (x == ("__debug__" : Str)) = false := by decide) (he : starEach [e] X.env = (false, eval e X.env) :: starEach [] X.env := by rfl) (hpl : (backTo pos (starEach [] X.env)).any (·.1) = false := by rfl) :
    L2N.PMk X (.Call (.Name x p) [e] [] pos) (fun σ H Q => te σ H fun v H1 => ∃ v0, [v] = [v0] ∧ Prt v0 ∧ Flies H1 Q C fld tag v0) := by
  obtain ⟨B, nid, iid, tl, fI, fd, FB, TB, iC, tI, G, b⟩ := T.ex
  exact pmk (R := fun vs H1 Q => ∃ v, vs = [v] ∧ Prt v ∧ Flies H1 Q C fld tag v) FB TB iC tI G hr b pass0 hg T.g (pa_cons h pa_nil he) (fun vs H1 Q z => mk_flies TB T.nt T.nf z) hdb he hpl
end
/-- a def that may raise -/
theorem okN {P : Program} {w : World} {K : PySem.W.Frag} {mg : Str → Option Value} {base : Heap} {x qual : Str} {st : Stmt} {f : Addr} {fd : FuncData} {N ps : List Str} {k : Nat} {sp : Sp} (F : Fun K x qual st f fd) (S : FnScope N ps (defScope st)) (len : ∀ vs H Q E, sp vs H Q E → vs.length = ps.length)
    (hbody : ∀ (cdv : Value) (A : Around) (outer : List Env) (s : Shared) (H : Hp) (vs : List V) (Q : VK) (E : XK), Room k (A.deeper (envOfC qual (defScope st) s.heap.objs.size f cdv)) → sp vs H Q E → L2N.Takes (cxOf (L2N.CX P w) P w K mg base N qual (defScope st) f cdv A outer s H E) (fun cls d _ H1 => E cls d H1) →
      ∃ t, PSs (cxOf (L2N.CX P w) P w K mg base N qual (defScope st) f cdv A outer s H E) (defBody st) t ∧ t { nx := fun _ H1 => Q .non H1, rt := Q } (start N vs) H) : FnOk P w K mg base (L2N.CX P w) (k + 1) f fd ps sp := by
  obtain ⟨oc, od, kV, doc, pm, an, cdv, ct, osl, rfl, lk, hcd⟩ := F.ex
  exact fn_of lk hcd S len fun A outer s H vs Q E hr hsp => hbody cdv A outer s H vs Q E hr hsp (L2N.takes_of rfl rfl rfl rfl)
/-- such a def, known by its name -/
structure KnX (P : Program) (w : World) (K : PySem.W.Frag) (mg : Str → Option Value) (base : Heap) (k : Nat) (x : Str) (ps : List Str) (sp : Sp) (f : Addr) (fd : FuncData) : Prop where
  kp : PySem.W.keepIn K (.ref f) = true
  G : FnOk P w K mg base (L2N.CX P w) k f fd ps sp
  b : L2.Binds K fd ps []
  g : mg x = some (.ref f)
theorem lookN {X : Cx} {W : WX} (tk : L2N.Takes X W) {E : XK} (hW : ∀ cls d σ H, E cls d H → W cls d σ H) : Passes (L2N.CX X.prog X.w) X E := L2N.passes_call tk hW
theorem sm_none {H H1 : Hp} (s : Same H H1) {t : Addr} (n : H1 t = none) : H t = none := by
  cases e : H t with
  | none => rfl
  | some o => rw [s _ _ e] at n; cases n
theorem takesN0 {X : Cx} : L2N.Takes X (fun _ _ _ _ => False) := fun _ _ ⟨_, _, _, _, _, _, _, _, _, _, _, _, _, _, _, _, z⟩ => z.elim
end ExX

namespace ExX
open PySem PySem.Spec PyProof.Rows L2
/-- a list comprehension without tests whose element may ask what the def around it knows where the block begins -/
theorem pe_lcI {X : Cx} {elt tg iter : Expr} {scope : Scope} {own : List (Str × Nat)} {pos : Pos} {wi : TI} {g : TG} {te : L2.St → TE} (calm : X.calm = true) (nd : X.N.Nodup) (walk : PI X tg iter wi) (bo : BlkOk X.N X.env.scope scope own)
    (target : ∀ (s : Shared) (H : Hp) (C : Addr) (cl : List (Str × Addr)) (fp : List Addr), PG (X.blk s H scope (compEnvC scope cl C X.env) fp) tg g)
    (item : ∀ (pins : List (Addr × Obj)) (σ : L2.St) (s : Shared) (H : Hp) (C : Addr) (cl : List (Str × Addr)) (fp : List Addr), Inv X pins σ H s → (∀ b ∈ fp, FpOk X pins H b) → PE (X.blk s H scope (compEnvC scope cl C X.env) fp) elt (te σ))
    (fold : ∀ x, foldedSetIterable iter X.env x = pure x := by intro _; rfl) :
    PE X (.ListComp elt [⟨tg, iter, [], 0⟩] scope pos) (fun σ H Q => tLc wi g tYes (te σ) (own.map (·.2)) σ H Q) := by
  refine ⟨fun pins s σ H Q I hyp => ?_⟩
  rw [eval_ListComp]
  have cells : ∀ y ∈ scope.names, y.2 = .free → ∃ c, X.env.cells.lookup y.1 = some c := fun y hy e => (bo.free y hy e).elim (fun z => I.ok.has _ (.inl z)) fun z => I.ok.has _ (.inr z)
  refine wpAny_comprehension_free (use := none) rfl fold (closure_ok cells) bo.kind (fun y hy e => by rw [bo.uniq y hy, e]) (thn (walk.run pins s σ H _ I hyp) fun _ _ h1 => thn h1 fun _ s2 h2 => ?_)
  obtain ⟨it, fp, tn, J, H2, rfl, I2, T, t2, f2, rd⟩ := h2
  refine wpAny_newObj_type (newEnv_comp ?_) (by show 0 ≤ sizeLine; decide)
  -- the new list, at the end of the heap
  obtain ⟨D, eD⟩ : ∃ D, D = s2.heap.objs.size := ⟨_, rfl⟩
  rw [← eD]
  obtain ⟨W, ⟨m0, w0⟩, turn⟩ := rd D (I2.hok.fresh (Nat.le_of_eq eD.symm))
  obtain ⟨H3, eH⟩ : ∃ H3, H3 = upd H2 D (.lst []) := ⟨_, rfl⟩
  obtain ⟨s3, e3⟩ : ∃ s3 : Shared, s3 = { s2 with heap := s2.heap.push { cls := .type "list", data := .seq ([] : List Value).toArray } } := ⟨_, rfl⟩
  have old : ∀ b o, s2.heap.get? b = some o → s3.heap.get? b = some o := fun b o e => by rw [e3]; exact Heap.get?_push_of_some _ e
  have I3 : Inv X pins σ H3 s3 := by
    rw [eH, e3]
    exact I2.laid (t' := s2.toks) (fun b o e => Heap.get?_push_of_some _ e) (Nat.le_of_eq eD.symm) ⟨Nat.zero_le _, [], 0, .nil, by rw [eD]; exact Heap.get?_push_size _ rfl⟩
  have f3 : ∀ b ∈ fp, FpOk X pins H3 b ∧ b < s3.heap.objs.size := fun b hb => by
    obtain ⟨o, e, _⟩ := T.obj _ _ t2 b hb
    exact ⟨⟨by rw [eH, upd_ne (by rw [eD]; exact Nat.ne_of_lt (Heap.lt_size e))]; exact (f2 b hb).1, (f2 b hb).2⟩, Heap.lt_size (old b o e)⟩
  have st := block_start I3 bo nd f3
  rw [← eH] at w0
  rw [← e3]
  -- the block's own names
  obtain ⟨cl, ecl⟩ : ∃ cl, cl = cellsFrom (s3.heap.objs.size + 1) scope.names (cloFrom X.env.cells scope.names []) := ⟨_, rfl⟩
  obtain ⟨C, eC⟩ : ∃ C, C = s3.heap.objs.size := ⟨_, rfl⟩
  have pI := item pins σ s3 H3 C cl fp I3 fun b hb => (f3 b hb).1
  have pG := target s3 H3 C cl fp
  obtain ⟨ce, ece⟩ : ∃ ce, ce = compEnvC scope cl C X.env := ⟨_, rfl⟩
  have ceL : ce.locals = C := by rw [ece]; rfl
  rw [← ecl, ← eC, ← ece] at st
  rw [← ece] at pI pG
  show codeAny _ _ (.compStart (.ListComp elt [⟨tg, iter, [], 0⟩] scope pos) 0 (.ref it) (.ref D) (compEnvC scope (cellsFrom (s3.heap.objs.size + 1) scope.names (cloFrom X.env.cells scope.names [])) s3.heap.objs.size X.env)) (compPost (model X.prog X.w) X.A X.xe none _ (.ref D) s3.heap.objs.size) _
  rw [← ecl, ← eC, ← ece]
  have tb : tn 0 (pushCells (s3.heap.push { cls := .type "dict", data := .dict #[] }) scope.names) := T.keep _ _ _ t2 fun b _ o e => pushCells_keeps _ _ _ _ (Heap.get?_push_of_some _ (old b o e))
  obtain ⟨s4, e4⟩ : ∃ s4 : Shared, s4 = { s3 with heap := pushCells (s3.heap.push { cls := .type "dict", data := .dict #[] }) scope.names } := ⟨_, rfl⟩
  rw [← e4] at st ⊢
  have t4 : tn 0 s4.heap := by rw [e4]; exact tb
  have fOk : ∀ {σ1 : L2.St} {H1 : Hp} {s1 : Shared}, Inv (X.blk s3 H3 scope ce fp) [] σ1 H1 s1 → (∀ b ∈ fp, H1 b = none) → ∀ b ∈ fp, FpOk (X.blk s3 H3 scope ce fp) [] H1 b := fun J1 n b hb =>
    ⟨n b hb, (J1.ok.exf b hb).1, J1.ok.exfs b hb, .inl hb, (J1.ok.exf b hb).2, fun p hp => by cases hp⟩
  have lp : codeAny (model X.prog X.w) X.A (.compLoop (.ListComp elt [⟨tg, iter, [], 0⟩] scope pos) 0 (.ref it) (.ref D) ce) (compPost (model X.prog X.w) X.A X.xe none (EP X pins σ Q) (.ref D) C) s4 := by
    refine compLoop_any (fun n s1 => ∃ i H1, Inv (X.blk s3 H3 scope ce fp) [] (wipe σ (own.map (·.2))) H1 s1 ∧ tn i s1.heap ∧ (∀ b ∈ fp, H1 b = none) ∧ W i n H1) (fun n s5 ⟨i, H5, I5, t5, n5, w5⟩ => ?_) m0 ⟨0, H3, st, t4, fun b hb => (f3 b hb).1.1, w0⟩
    rcases turn i n H5 w5 with ⟨stop, q⟩ | ⟨go, Nx, hNx, step⟩
    · refine thnF (T.done (X.blk s3 H3 scope ce fp) rfl rfl rfl calm i [] s5 _ H5 (fun _ _ => False) I5 (fOk I5 n5) t5 stop) fun r s6 ⟨er, I6⟩ => ?_
      subst er
      have I7 : Inv X pins σ H5 s6 := I3.call' (ch := fp) I6.os I6.base I6.hok I6.bare fun b hb => ⟨(f3 b hb).1.2.2.2.1, (f3 b hb).1.2.1, (f3 b hb).1.2.2.2.2.1, (f3 b hb).1.2.2.2.2.2⟩
      have nC : H5 C = none := by rw [← ceL]; exact I6.free
      obtain ⟨m, hm, _⟩ := I6.loc
      have hm : s6.heap.Ns ce.locals m := hm
      rw [ceL] at hm
      refine ⟨m, hm, fun h8 sb => ?_⟩
      obtain ⟨g0, g1, g2, g3, g4, g5⟩ := I3.fpOk (Nat.le_of_eq eC.symm) nC
      exact ⟨.ref D, H5, I7.turned (t' := s6.toks) (fun b o hb e => (sb.2 b hb).trans e) g0 g1 g3 g4 g5, rfl, q⟩
    · refine thnF (T.item (X.blk s3 H3 scope ce fp) rfl rfl rfl calm i [] s5 _ H5 (fun _ _ => False) I5 (fOk I5 n5) t5 go) fun r s6 ⟨u, er, h6⟩ => ?_
      subst er
      refine thnF h6 fun _ s7 ⟨x, H7, I7, r7, y7, t7, n7⟩ => ?_
      refine thnF (pG.run _ s7 _ H7 x u _ (I7.pinned (fOk I7 n7) (T.obj _ _ t7)) r7 (step x H7 y7)) fun _ s8 ⟨σ8, H8, I8, e8, q8⟩ => wpAny_tests_nil ?_
      rw [if_pos rfl]
      refine thnF (pI.run _ s8 σ8 H8 _ I8 (show te σ σ8 H8 _ from q8)) fun z s9 ⟨yv, H9, I9, r9, acc, hD9, hz9, nx⟩ => ?_
      refine app_ok (X := X.blk s3 H3 scope ce fp) I9 hD9 hz9 r9 fun s10 I10 => ?_
      obtain ⟨m1, lt, w1⟩ := hNx _ nx
      have stay : ∀ b ∈ fp, ∀ o, s7.heap.get? b = some o → s10.heap.get? b = some o ∧ upd H9 D (.lst (acc ++ [yv])) b = none := fun b hb o e => by
        have z := I10.pin (b, o) (List.mem_append_right _ (List.mem_append_right _ (mem_pinsAt hb e)))
        exact ⟨z.1, z.2.1⟩
      refine ⟨m1, lt, i + 1, _, (I10.unpinned (pins := [])).weak (by rw [← e8, wipe_length]) (fun j v e => ?_), T.keep _ _ _ t7 fun b hb o e => (stay b hb o e).1, fun b hb => ?_, w1⟩
      · rw [← e8] at e
        exact (wipe_some e).1
      · obtain ⟨o, e, _⟩ := T.obj _ _ t7 b hb
        exact (stay b hb o e).2
  exact codeAny_compStart_list lp (T.self X.A 0 _ _ _ t4 lp)
/-! ### a lambda with one parameter that has a default -/
open LamX
structure LamT (N : List Str) (sc scope : Scope) (a : Str) : Prop where
  kind : scope.kind = .function
  co : scope.isCoroutine = false
  gen : scope.isGenerator = false
  cel : ∀ y ∈ scope.names, y.2 ≠ .cell
  loc : ∀ y ∈ N, scope.names.lookup y ≠ some .local
  arg : scope.names.lookup a = some .local
  free : ∀ y ∈ scope.names, y.2 = .free → sc.names.lookup y.1 = some .cell ∨ sc.names.lookup y.1 = some .free
def lamTB (N : List Str) (sc scope : Scope) (a : Str) : Bool := decide (scope.kind = .function) && (!scope.isCoroutine && (!scope.isGenerator && (decide (scope.names.lookup a = some .local) && ((N.all fun y => !decide (scope.names.lookup y = some .local)) &&
  scope.names.all fun y => !decide (y.2 = .cell) && (!decide (y.2 = .free) || (decide (sc.names.lookup y.1 = some .cell) || decide (sc.names.lookup y.1 = some .free)))))))
theorem lamT_by {N : List Str} {sc scope : Scope} {a : Str} (h : lamTB N sc scope a = true) : LamT N sc scope a := by
  unfold lamTB at h
  simp only [Bool.and_eq_true, Bool.or_eq_true, Bool.not_eq_true', decide_eq_true_eq, decide_eq_false_iff_not, List.all_eq_true] at h
  obtain ⟨h1, h2, h3, h4, h5, h6⟩ := h
  exact ⟨h1, h2, h3, fun y hy => (h6 y hy).1, h5, h4, fun y hy e => (h6 y hy).2.elim (fun z => absurd e z) id⟩
section
variable {X : Cx} {pins : List (Addr × Obj)} {σ : L2.St} {H HZ : Hp} {s s1 : Shared}
theorem LamT.has {scope : Scope} {a : Str} (L : LamT X.N X.env.scope scope a) (ok : X.Ok) : ∀ y ∈ scope.names, y.2 = .free → ∃ c, X.env.cells.lookup y.1 = some c := fun y hy e => (L.free y hy e).elim (fun z => ok.has _ (.inl z)) fun z => ok.has _ (.inr z)
/-- the body of such a lambda begins -/
theorem lamT_start {A : Around} {outer : List Env} {E : XK} {scope : Scope} {f c2 : Addr} {a : Str} {g : Heap} {tk : Nat} {m1 : Str → Option Value} (I : Inv X pins σ H s) (L : LamT X.N X.env.scope scope a) (e0 : Env0 X.prog X.w X.K X.mg X.base A outer s1 HZ) (hd : A.handled = none)
    (un : Un (frs X.stack) [] H HZ s.heap s1.heap) (hns : g.Ns s1.heap.objs.size m1) (kp : ∀ b o, s1.heap.get? b = some o → g.get? b = some o) : Inv (lamCx X A outer s1 HZ E scope f c2) [] σ HZ { s1 with heap := g, toks := tk } := by
  have hF := L.has I.ok
  have up : ∀ {y c}, (cloFrom X.env.cells scope.names []).lookup y = some c → X.env.cells.lookup y = some c := fun {y c} e => by
    rcases cloFrom_mem (PySem.mem_of_lookup e) with z | ⟨z1, z2⟩
    · cases z
    · obtain ⟨c1, e1⟩ := hF _ z1 rfl
      have e1 : X.env.cells.lookup y = some c1 := e1
      have e2 : c = c1 := by rw [z2, e1]; rfl
      rw [e2]; exact e1
  have dn : ∀ {y}, scope.names.lookup y = some .free → ∃ c, (cloFrom X.env.cells scope.names []).lookup y = some c := fun {y} hl => mem_lookup (cloFrom_has (cells := X.env.cells) (acc := []) (PySem.mem_of_lookup hl))
  have stay : ∀ {c : Addr} {v : Option Value}, H c = none → s.heap.IsCell c v → g.IsCell c v := fun {c v} n ⟨o, ho, hd⟩ => by
    obtain ⟨sl, q⟩ := un.any ho n (by simp)
    exact ⟨_, kp _ _ q, hd⟩
  have no : ∀ {b : Addr} {R : Prop}, b ∈ (lamCx X A outer s1 HZ E scope f c2).ex → R := fun {b R} z => by cases (show b ∈ ([] : List Addr) from z)
  refine ⟨⟨e0.mod, L.kind, rfl, rfl, Nat.le_refl _, fun y z c e1 e2 => I.ok.inj y z c (up e1) (up e2), fun y hy => ?_, fun y c z _ => (Bool.noConfusion (show false = true from z)), fun _ => hd, Around.frames_deeper e0.frames, .inr ⟨rfl, rfl⟩, fun b z => no z, e0.bs, e0.bsz, fun b o e z => no z,
      fun b z => no z, e0.funs, e0.frf⟩, rfl, e0.bare, Un.kept kp, ⟨m1, hns, fun i y v e1 e2 e3 => ?_⟩, fun y c e => ?_, e0.hok.fresh (Nat.le_refl _), fun y c e => ?_, fun q hq => ?_, e0.hok.kept kp, I.len⟩
  · rcases (show scope.names.lookup y = some .cell ∨ scope.names.lookup y = some .free from hy) with z | z
    · exact (L.cel _ (PySem.mem_of_lookup z) rfl).elim
    · exact dn z
  · rcases (show Vis scope y from e3) with k | k | k
    · exact (L.loc y (List.mem_of_getElem? e1) k).elim
    · exact (L.cel _ (PySem.mem_of_lookup k) rfl).elim
    · obtain ⟨m, hn, hl⟩ := I.loc
      have fr := L.free _ (PySem.mem_of_lookup k) rfl
      obtain ⟨u, r, q⟩ := hl i y v e1 e2 (fr.elim (fun z => .inr (.inl z)) fun z => .inr (.inr z))
      obtain ⟨c, ec⟩ := dn k
      refine ⟨u, r, .inr ⟨.inr k, c, ec, ?_⟩⟩
      rcases q with ⟨k2, _⟩ | ⟨_, c3, e4, z⟩
      · have k2 : X.env.scope.names.lookup y = some .local := k2
        have fr : X.env.scope.names.lookup y = some .cell ∨ X.env.scope.names.lookup y = some .free := fr
        rw [k2] at fr
        rcases fr with fr | fr <;> cases fr
      · have := up ec
        rw [e4] at this
        cases this
        exact stay (I.freeC y _ e4) z
  · obtain ⟨v, z⟩ := I.cell y c (up e)
    exact ⟨v, stay (I.freeC y c (up e)) z⟩
  · obtain ⟨v, o, ho, hd⟩ := I.cell y c (up e)
    exact un.free c o ho (I.freeC y c (up e)) (by simp)
  · cases (show q ∈ ([] : List (Addr × Obj)) ++ [] from hq)
end
/-- the lambda at f, its code object at c2, the tuple of its default at T -/
def CloD (X : Cx) (params : Arguments) (body : Expr) (scope : Scope) (f c2 T : Addr) : HO := .ext fun h => ∃ doc pm ctv : Value, h.get? f = some (PySem.W.kdv_obj "<lambda>" (X.env.qual ++ "<lambda>") params (.expr body) scope (cloFrom X.env.cells scope.names []) (.ref T) doc pm c2 ctv)
theorem cloD_ok {X : Cx} {params : Arguments} {body : Expr} {scope : Scope} {f c2 T : Addr} {P : Program} {w : World} {H : Hp} {h : Heap} {doc pm ctv : Value} (e : h.get? f = some (PySem.W.kdv_obj "<lambda>" (X.env.qual ++ "<lambda>") params (.expr body) scope (cloFrom X.env.cells scope.names []) (.ref T) doc pm c2 ctv)) :
    ObjOk P w H h f (CloD X params body scope f c2 T) := ⟨⟨doc, pm, ctv, e⟩, ⟨_, e⟩, fun h1 h2 ⟨a, b, c, d⟩ st => ⟨a, b, c, st _ d⟩⟩
section
variable {X : Cx} {pins : List (Addr × Obj)} {σ : L2.St} {H : Hp} {s : Shared}
theorem lamT_made {T : List (Addr × Str)} {c P : Addr} {params : Arguments} {body e0 : Expr} {scope : Scope} {pos : Pos} {y0 : V} {Q : Value → Shared → Prop} (I : Inv X pins σ H s) (TB : TabB X.base X.mg c P) (hcode : X.env.code = .ref c)
    (hm : (P, X.env.qual ++ "<lambda>") ∈ T) (hu : ∀ p ∈ T, p.1 = P → p.2 = X.env.qual ++ "<lambda>") (hT : Tabs T H) (hdf : params.defaults = [e0]) (hkw : params.kw_defaults = []) (he0 : PE X e0 (fun _ H Q => Q y0 H)) (hfree : ∀ y ∈ scope.names, y.2 = .free → ∃ c, X.env.cells.lookup y.1 = some c)
    (h : ∀ (f c2 t : Addr) (H1 : Hp) (s1 : Shared), Inv X pins σ (upd H1 f (CloD X params body scope f c2 t)) s1 → ExtN H H1 → Tabs T H1 → H1 f = none → H1 c2 = some (CodeO c2 (X.env.qual ++ "<lambda>")) → H1 t = some (.tup [y0]) → Q (.ref f) s1) :
    wpAny (model X.prog X.w) X.A (eval (.Lambda params body scope pos) X.env) Q X.xe s := by
  refine PySem.W.kdv_lam (by rw [hdf]; rfl) hkw ?_
  rw [hdf]
  show wpAny _ _ (evalAll [eval e0 X.env]) _ _ _
  refine evalAll_cons (thn (he0.run pins s σ H (fun v H1 => v = y0 ∧ H1 = H) I ⟨rfl, rfl⟩) fun u s0 ⟨v, H0, I0, r0, ev, eH⟩ => evalAll_nil ?_)
  rw [ev] at r0
  rw [eH] at I0
  rw [makeFunction_eq]
  simp only [List.zip_nil_right, List.filterMap_nil, List.isEmpty_nil, List.isEmpty_cons, Bool.false_eq_true, if_false, if_true, pure_bind]
  refine wpAny_bind (PySem.wpAny_newTextTuple ?_)
  obtain ⟨t, et⟩ : ∃ t, t = s0.heap.objs.size := ⟨_, rfl⟩
  rw [← et]
  have nT : H t = none := I0.hok.fresh (Nat.le_of_eq et.symm)
  obtain ⟨s2, e2⟩ : ∃ s2 : Shared, s2 = { s0 with heap := s0.heap.push { cls := .type "tuple", data := .seq [u].toArray } } := ⟨_, rfl⟩
  have I2 : Inv X pins σ (upd H t (.tup [y0])) s2 := by
    rw [e2]
    refine I0.laid (t' := s0.toks) (fun b o e => Heap.get?_push_of_some _ e) (Nat.le_of_eq et.symm) ⟨by show 1 ≤ sizeLine; decide, [u], .cons r0 .nil, ?_⟩
    rw [et]
    exact IsTup.new s0.heap _
  rw [← e2]
  have x1 : ExtN H (upd H t (.tup [y0])) := fun b o e _ => by rw [upd_ne (ne_of_none e nT)]; exact e
  have hT2 : Tabs T (upd H t (.tup [y0])) := hT.ext fun b o e => by rw [upd_ne (ne_of_none e nT)]; exact e
  obtain ⟨ps, hP, ht, ha⟩ := hT2 _ hm
  have bP : s2.heap.BuiltinsAt X.mg P := TB.bm.keeps I2.bk
  have hPs : s2.heap.get? P = some { cls := .none, data := .fields ps } := I2.hok P _ hP
  cases hc : codeAmong pos ps.toList with
  | none =>
    refine PySem.W.kdv_makeTail (mg := X.mg) (c := c) (P := P) (ps := ps) (closure_ok hfree) I2.ok.glob (I2.mod.glob.keeps I2.bk) hcode (TB.code.keeps I2.bk) hPs ht hc TB.gP bP fun c2 ctv doc h3 tk hx hge hlt hrec htb => ?_
    obtain ⟨c3, oc, vs, tq, z2, hoc, hd, hv⟩ := hrec
    cases z2
    have nC := I2.hok.fresh (a := c2) hge
    have I3 := inv_table (t' := tk) (more := #[rawInt pos.line, rawInt pos.col, .ref c2]) (h' := h3) I2 hP hx htb hge ⟨oc, vs, tq, hoc, hd, hv⟩
    have hE : ExtN (upd H t (.tup [y0])) (upd (upd (upd H t (.tup [y0])) P (.tbl (ps ++ #[rawInt pos.line, rawInt pos.col, .ref c2]))) c2 (CodeO c2 (X.env.qual ++ "<lambda>"))) := fun b o e n => by
      have nb : b ≠ P := fun z => n ps (Option.some.inj (e.symm.trans (by rw [z]; exact hP)))
      rw [upd_ne (ne_of_none e nC), upd_ne nb]
      exact e
    have eL : (ps ++ #[rawInt pos.line, rawInt pos.col, .ref c2]).toList = ps.toList ++ [rawInt pos.line, rawInt pos.col, .ref c2] := by simp
    refine h h3.objs.size c2 t _ _ (I3.laid (t' := tk) (fun _ _ e => Heap.get?_push_of_some _ e) (Nat.le_refl _) (cloD_ok (Heap.get?_push_size _ rfl))) (fun b o e n => hE b o (x1 b o e n) n) (fun p hp => ?_) (I3.hok.fresh (Nat.le_refl _)) upd_same (hE _ _ upd_same (by intro ps z; cases z))
    by_cases hb : p.1 = P
    · refine ⟨_, by rw [hb, upd_ne (ne_of_none hP nC), upd_same], by rw [eL]; exact PySem.TriplesOk_snoc _ _ _ _ ht, fun pz cv hcv => ?_⟩
      rw [eL] at hcv
      rw [hu p hp hb]
      rcases among_app _ ht hcv with z | z
      · obtain ⟨c0, q1, q2⟩ := ha pz cv z
        exact ⟨c0, q1, hE _ _ q2 codeO_ne⟩
      · exact ⟨c2, z, upd_same⟩
    · obtain ⟨psz, a1, a2, a3⟩ := hT2 p hp
      refine ⟨psz, by rw [upd_ne (ne_of_none a1 nC), upd_ne hb]; exact a1, a2, fun pz cv hcv => ?_⟩
      obtain ⟨c0, q1, q2⟩ := a3 pz cv hcv
      exact ⟨c0, q1, hE _ _ q2 codeO_ne⟩
  | some cv =>
    obtain ⟨c2, e, hco⟩ := ha pos cv hc
    subst e
    refine PySem.W.kdv_makeTailHit (mg := X.mg) (c := c) (P := P) (ps := ps) (closure_ok hfree) I2.ok.glob (I2.mod.glob.keeps I2.bk) hcode (TB.code.keeps I2.bk) hPs ht hc bP fun ctv doc h3 tk hx hsz => ?_
    have I3 : Inv X pins σ (upd H t (.tup [y0])) { s2 with heap := h3, toks := tk } := I2.kept hx
    exact h h3.objs.size c2 t _ _ (I3.laid (t' := tk) (fun _ _ e => Heap.get?_push_of_some _ e) (Nat.le_refl _) (cloD_ok (Heap.get?_push_size _ rfl))) x1 hT2 (I3.hok.fresh (Nat.le_refl _)) hco upd_same
end
/-- a lambda that was made in X: where it stands, what its call asks -/
structure Lam (X : Cx) (k : Nat) where
  At : Addr → Hp → Prop
  tb : XK → TE
  acts : ∀ {pins : List (Addr × Obj)} {σ : L2.St} {H : Hp} {s : Shared} {f : Addr}, Inv X pins σ H s → Acts X.prog X.w X.K X.mg X.base (k + 1) (frs X.stack) f s H (fun E HZ Q => At f HZ ∧ tb E σ HZ Q)
  same : ∀ {f : Addr} {H H1 : Hp}, At f H → ExtN H H1 → At f H1
def Lam.does {X : Cx} {k : Nat} (D : Lam X k) (f : Addr) (σ : L2.St) : XK → Hp → VK → Prop := fun E HZ Q => D.At f HZ ∧ D.tb E σ HZ Q
def LamD.lam {X : Cx} {k : Nat} (D : LamD X k) : Lam X k where
  At := D.At
  tb := D.tb
  acts := fun I => acts_of D I
  same := fun ⟨c2, h1, h2⟩ e => ⟨c2, e _ _ h1 cloO_tbl, e _ _ h2 codeO_ne⟩
/-- a lambda of X's text with one parameter that has a default -/
structure LamP (X : Cx) (k : Nat) where
  params : Arguments
  body : Expr
  scope : Scope
  a : Str
  e0 : Expr
  y0 : V
  tb : XK → TE
  L : LamT X.N X.env.scope scope a
  hdf : params.defaults = [e0]
  hkw : params.kw_defaults = []
  he0 : PE X e0 (fun _ H Q => Q y0 H)
  hbind : ∀ (q : Str) (cl : List (Str × Addr)) (T : Addr) (doc pm cv ctv : Value), ∃ kk : Option (Array Value) → Sem (List (Str × Value)), bindArgs (PySem.W.kdv_fn "<lambda>" q params (.expr body) scope cl (.ref T) doc pm cv ctv) ⟨[], []⟩ = seqItems? (.ref T) >>= kk ∧ ∀ u, kk (some #[u]) = pure [(a, u)]
  hbody : ∀ (f c2 : Addr) (E : XK) (A : Around) (outer : List Env) (s : Shared) (H : Hp), Room k (A.deeper (lamEnv X scope s.heap.objs.size f c2)) → PE (lamC X A outer s H E scope f c2) body (tb E)
def LamP.At {X : Cx} {k : Nat} (D : LamP X k) (f : Addr) (H : Hp) : Prop := ∃ c2 T, H f = some (CloD X D.params D.body D.scope f c2 T) ∧ H c2 = some (CodeO c2 (X.env.qual ++ "<lambda>")) ∧ H T = some (.tup [D.y0])
theorem cloD_tbl {X : Cx} {params : Arguments} {body : Expr} {scope : Scope} {f c2 T : Addr} (ps : Array Value) : CloD X params body scope f c2 T ≠ .tbl ps := fun z => by
  unfold CloD at z
  cases z
theorem actsP {X : Cx} {k : Nat} (D : LamP X k) {pins : List (Addr × Obj)} {σ : L2.St} {H : Hp} {s : Shared} {f : Addr} (I : Inv X pins σ H s) : Acts X.prog X.w X.K X.mg X.base (k + 1) (frs X.stack) f s H (fun E HZ Q => D.At f HZ ∧ D.tb E σ HZ Q) := by
  refine ⟨fun s1 HZ Q E hok ⟨⟨c2, T, hcf, hcc, hT⟩, ht⟩ => ?_, fun A outer s1 HZ Q E hr e0 un ⟨⟨c2, T, hcf, hcc, hT⟩, ht⟩ => ?_⟩
  · obtain ⟨⟨doc, pm, ctv, of1⟩, _, _⟩ := hok f _ hcf
    exact ⟨_, _, _, _, of1⟩
  obtain ⟨⟨doc, pm, ctv, of1⟩, _, _⟩ := e0.hok f _ hcf
  obtain ⟨⟨oc, vs, t, hoc, hdc, hvc⟩, _, _⟩ := e0.hok c2 _ hcc
  obtain ⟨_, its, rT, oT, hoT, _, nT, hsT⟩ := e0.hok T _ hT
  cases rT with
  | @cons _ u _ ur ru rr =>
    cases rr
    obtain ⟨kk, hb1, hb2⟩ := D.hbind (X.env.qual ++ "<lambda>") (cloFrom X.env.cells D.scope.names []) T doc pm (.ref c2) ctv
    have bt : BindsTo s1 (PySem.W.kdv_fn "<lambda>" (X.env.qual ++ "<lambda>") D.params (.expr D.body) D.scope (cloFrom X.env.cells D.scope.names []) (.ref T) doc pm (.ref c2) ctv) ⟨[], []⟩ [(D.a, u)] := BindsTo.of_defaults rfl hoT hsT hb1 (hb2 u)
    refine PySem.W.kla_callFunE hr.depth of1 rfl D.L.co D.L.gen rfl ⟨c2, oc, vs, t, rfl, hoc, hdc, hvc⟩ (bt _ _ _ _ ?_)
    have lim : s1.heap.NoLimit := e0.mod.nolimit.keeps fun b o e => (e0.bs b o e).1
    refine wpAny_newFunctionEnv D.L.cel (fun y hy => by rw [List.mem_singleton.mp hy]; exact D.L.arg) (fun h1 hns hsb => ⟨lim.fresh _ hsb, ?_⟩) D.L.kind
    show codeAny _ _ (.expr D.body (lamEnv X D.scope s1.heap.objs.size f c2)) _ _
    have kp : ∀ b o, s1.heap.get? b = some o → h1.get? b = some o := fun b o e => hsb.extBut b o (Nat.ne_of_lt (Heap.lt_size e)) (Heap.get?_push_of_some _ e)
    have J : Inv (lamCx X A outer s1 HZ E D.scope f c2) [] σ HZ { s1 with heap := h1, toks := s1.toks + [(D.a, u)].length } := lamT_start I D.L e0 hr.hd un hns kp
    refine PySem.W.kla_codeExpr (wpAny_mono ((D.hbody f c2 E A outer s1 HZ (hr.deeper _)).run [] _ _ HZ Q (J.wish _) ht) (fun v s2 hq => ?_) fun e s2 hq => hq)
    obtain ⟨w2, H2, J2, rv, q⟩ := hq
    exact ⟨w2, H2, J2.os, J2.bare, J2.base, J2.hok, rv, q⟩
def LamP.lam {X : Cx} {k : Nat} (D : LamP X k) : Lam X k where
  At := D.At
  tb := D.tb
  acts := fun I => actsP D I
  same := fun ⟨c2, T, h1, h2, h3⟩ e => ⟨c2, T, e _ _ h1 cloD_tbl, e _ _ h2 codeO_ne, e _ _ h3 (by intro ps z; cases z)⟩
section
variable {Z : Cx} {k kk i : Nat} {g : Addr} {TT : (XK → Hp → VK → Prop) → Hp → VK → Prop} {x a : Str} {p p1 pos : Pos}
/-- lambda a=..: body -/
theorem pe_lamP {T : List (Addr × Str)} {c PT : Addr} (D : LamP Z kk) (TB : TabB Z.base Z.mg c PT) (hcode : Z.env.code = .ref c) (hmT : (PT, Z.env.qual ++ "<lambda>") ∈ T) (hu : ∀ q ∈ T, q.1 = PT → q.2 = Z.env.qual ++ "<lambda>") :
    PE Z (.Lambda D.params D.body D.scope pos) (fun _ H Q => Tabs T H ∧ ∀ f H1, ExtN H H1 → Tabs T H1 → D.lam.At f H1 → Q (.ref f) H1) := by
  refine ⟨fun pins s σ H Q I ⟨hT, h⟩ => lamT_made I TB hcode hmT hu hT D.hdf D.hkw D.he0 (D.L.has I.ok) fun f c2 t H1 s1 I1 eN T1 nf hc ht => ?_⟩
  have ne : ∀ {b : Addr} {o : HO}, H1 b = some o → upd H1 f (CloD Z D.params D.body D.scope f c2 t) b = some o := fun {b o} e => by rw [upd_ne (ne_of_none e nf)]; exact e
  exact ⟨.ref f, _, I1, rfl, h f _ (fun b o e n => ne (eN b o e n)) (T1.ext fun b o e => ne e) ⟨c2, t, upd_same, ne hc, ne ht⟩⟩
/-- x(a) in a comprehension's block, a one of the lambdas of the def around -/
theorem pe_item {scope : Scope} (G : FnL Z.prog Z.w Z.K Z.mg Z.base k g TT) (hr : Room (kk + 1 + k) Z.A) (hk : PySem.W.keepIn Z.K (.ref g) = true) (hm : Z.mg x = some (.ref g)) (hNi : Z.N[i]? = some a)
    (hg : ∀ (s : Shared) (H : Hp) (C : Addr) (cl : List (Str × Addr)) (fp : List Addr), Gl (Z.blk s H scope (compEnvC scope cl C Z.env) fp) x) (hv : ∀ (C : Addr) (cl : List (Str × Addr)), Vis (compEnvC scope cl C Z.env).scope a)
    (he : ∀ env : Env, starEach [Expr.Name a p1] env = (false, eval (.Name a p1) env) :: starEach [] env := by intro _; rfl) (hpl : ∀ env : Env, (backTo pos (starEach [] env)).any (·.1) = false := by intro _; rfl)
    (hdb : (x == ("__debug__" : Str)) = false := by decide) (hd : (a == ("__debug__" : Str)) = false := by decide) (hcd : (a == ("__classdict__" : Str)) = false := by decide) :
    ∀ (pins : List (Addr × Obj)) (σ : L2.St) (s : Shared) (H : Hp) (C : Addr) (cl : List (Str × Addr)) (fp : List Addr), Inv Z pins σ H s → (∀ b ∈ fp, FpOk Z pins H b) →
      PE (Z.blk s H scope (compEnvC scope cl C Z.env) fp) (.Call (.Name x p) [.Name a p1] [] pos) (fun σ1 H1 Q => ∃ (f : Addr) (D : Lam Z kk), σ1[i]? = some (some (.ref f)) ∧ TT (D.does f σ) H1 Q) := by
  intro pins σ s H C cl fp I hf
  refine ⟨fun pins1 s1 σ1 H1 Q I1 ⟨f, D, hs, ht⟩ => wpAny_Call_Name_kw (ld_glob I1 (hg s H C cl fp) hm ?_ hdb)⟩
  refine PySem.W.callWith_K (h₀ := Z.base) I1.ok.mod.kin hk (thn ((pa_cons (pe_var (X := Z.blk s H scope (compEnvC scope cl C Z.env) fp) (pos := p1) (i := i) hNi (hv C cl) hd hcd) pa_nil (he _)).run pos pins1 s1 σ1 H1 (fun vs H2 => vs = [.ref f] ∧ H2 = H1) I1 ⟨.ref f, hs, rfl, rfl⟩) fun us s2 ⟨vs, H2, I2, r, ev, eH⟩ => ⟨I2.kIn, ?_⟩) (he _) (hpl _)
  subst ev
  rw [eH] at I2
  cases r with
  | @cons _ u0 _ ur ra rw2 =>
    cases rw2
    obtain rfl : u0 = Value.ref f := ra
    have IX : Inv Z pins σ H1 s2 := I.call' (ch := fp) I2.os I2.base I2.hok I2.bare fun b hb => ⟨(hf b hb).2.2.2.1, (hf b hb).2.1, (hf b hb).2.2.2.2.1, (hf b hb).2.2.2.2.2⟩
    refine wpAny_call (codeAny_mono (G.run (kk + 1) f (frs Z.stack) s2 H1 _ (D.acts IX) Z.A Z.stack s2 H1 Q hr I2.env0 Un.refl (fun c hc => .inl hc) (Nat.le_refl _) ht) fun r s3 hq => ?_)
    cases r with
    | error e => exact (show False from hq).elim
    | ok fl =>
      cases fl with
      | ret u => exact I2.after hq
      | _ => exact hq.elim
end
end ExX

namespace ExX
open PySem PySem.Spec PyProof.Rows L2
/-- a list or a tuple -/
def Kd (k : Bool) (K : PySem.W.Frag) (H : Hp) (a : Addr) (xs : List V) : Prop := if k = true then SqL K H a xs else SqT K H a xs
theorem Kd.same {k : Bool} {K : PySem.W.Frag} {H H1 : Hp} {a : Addr} {xs : List V} (h : Kd k K H a xs) (s : Same H H1) : Kd k K H1 a xs := by
  cases k
  · rcases (show SqT K H a xs from h) with (h | ⟨o, h⟩) | h
    · exact .inl (.inl (s _ _ h))
    · exact .inl (.inr ⟨o, s _ _ h⟩)
    · exact .inr h
  · exact s.seq (show SqL K H a xs from h)
theorem Kd.l {K : PySem.W.Frag} {H : Hp} {a : Addr} {xs : List V} (h : SqL K H a xs) : Kd true K H a xs := h
theorem Kd.t {K : PySem.W.Frag} {H : Hp} {a : Addr} {xs : List V} (h : SqT K H a xs) : Kd false K H a xs := h
theorem Kd.sq {k : Bool} {K : PySem.W.Frag} {H : Hp} {a : Addr} {xs : List V} (h : Kd k K H a xs) : SqL K H a xs ∨ SqT K H a xs := by
  cases k
  · exact .inr h
  · exact .inl h
/-- what is walked is one of both -/
def iKd (k : Bool) (K : PySem.W.Frag) (tl : TE) : TI := fun σ H R => if k = true then iList K tl σ H R else iTup K tl σ H R
theorem pi_kd {X : Cx} {tg l : Expr} {tl : TE} (k : Bool) (hl : PE X l tl) : PI X tg l (iKd k X.K tl) := by
  cases k
  · exact ⟨fun pins s σ H R I h => (pi_tup hl).run pins s σ H R I h⟩
  · exact ⟨fun pins s σ H R I h => (pi_list hl).run pins s σ H R I h⟩
theorem for_kd {k : Bool} {K : PySem.W.Frag} {i0 : Nat} {a : Addr} {xs : List V} {g : TG} {tb : TS} {D : Ends} {σ : L2.St} {H : Hp} (hv : σ[i0]? = some (some (.ref a))) (hS : Kd k K H a xs) (Pv : Nat → L2.St → Hp → Prop) (h0 : Pv 0 σ H) (hl : ∀ i σ H, i ≤ xs.length → Pv i σ H → Kd k K H a xs)
    (hs : ∀ i x σ H, xs[i]? = some x → Pv i σ H → g x σ H fun σ2 H2 => tb { D with nx := Pv (i + 1), ct := Pv (i + 1), bk := D.nx } σ2 H2) (hd : ∀ σ H, Pv xs.length σ H → D.nx σ H) : tFor (iKd k K (tVar i0)) g tb D σ H := by
  cases k
  · exact ⟨_, hv, a, rfl, ⟨_, hS⟩, for_tup (xs := xs) Pv h0 hl hs hd⟩
  · exact ⟨_, hv, a, rfl, ⟨_, hS⟩, for_list (xs := xs) Pv h0 hl hs hd⟩
/-- both promises of a def -/
def spOr (s1 s2 : Sp) : Sp := fun vs H Q E => s1 vs H Q (fun _ _ _ => False) ∨ s2 vs H Q E
theorem fn_or {P : Program} {w : World} {K : PySem.W.Frag} {mg : Str → Option Value} {base : Heap} {CX : CXT} {j k : Nat} {f : Addr} {fd : FuncData} {ps : List Str} {s1 s2 : Sp} (F1 : FnOk P w K mg base CX0 j f fd ps s1) (F2 : FnOk P w K mg base CX k f fd ps s2) (h : j ≤ k) : FnOk P w K mg base CX k f fd ps (spOr s1 s2) := by
  refine ⟨fun vs H Q E z => z.elim (F1.len _ _ _ _) (F2.len _ _ _ _), fun A outer s H args us vs Q E hr e0 b r z => ?_⟩
  rcases z with z | z
  · refine codeAny_mono (F1.run A outer s H args us vs Q (fun _ _ _ => False) (hr.mono h) e0 b r z) fun res s2 q => ?_
    cases res with
    | ok fl => cases fl <;> exact q
    | error e => exact (show False from q).elim
  · exact F2.run A outer s H args us vs Q E hr e0 b r z
theorem lookNE {X : Cx} {E : XK} (tk : L2N.Takes X (fun cls d _ H => E cls d H)) : Passes (L2N.CX X.prog X.w) X E := L2N.passes_call tk fun _ _ _ _ z => z
/-- nodes up to the first that is none -/
def NodesEnd (xs : List Int) (n : Nat) (good : List Nat) (ok : Prop) (bad : Int → Prop) : Prop := (∀ x ∈ good, x < n) ∧
  ((xs = good.map (fun v : Nat => (v : Int)) ∧ ok) ∨ ∃ (z : Int) (rest : List Int), xs = good.map (fun v : Nat => (v : Int)) ++ z :: rest ∧ (z < 0 ∨ (n : Int) ≤ z) ∧ z.natAbs.log2 < 1920 ∧ bad z)
theorem NodesEnd.at {xs : List Int} {n : Nat} {good : List Nat} {ok : Prop} {bad : Int → Prop} (h : NodesEnd xs n good ok bad) {i : Nat} {v : V} (hv : (xs.map V.int)[i]? = some v) (hi : i ≤ good.length) :
    (∃ u, good[i]? = some u ∧ v = .int (u : Int) ∧ u < n) ∨ (∃ z, v = .int z ∧ (z < 0 ∨ (n : Int) ≤ z) ∧ z.natAbs.log2 < 1920 ∧ bad z) := by
  rw [List.getElem?_map] at hv
  obtain ⟨k, hk, rfl⟩ := Option.map_eq_some_iff.mp hv
  by_cases h1 : i < good.length
  · refine .inl ⟨good[i], List.getElem?_eq_getElem h1, ?_, h.1 _ (List.getElem_mem h1)⟩
    have e : xs[i]? = some ((good[i] : Nat) : Int) := by
      rcases h.2 with ⟨e, _⟩ | ⟨z, rest, e, _⟩
      · rw [e, List.getElem?_map, List.getElem?_eq_getElem h1]; rfl
      · rw [e, List.getElem?_append_left (by rw [List.length_map]; exact h1), List.getElem?_map, List.getElem?_eq_getElem h1]; rfl
    rw [hk] at e
    rw [Option.some.inj e]
  · have hi2 : i = good.length := by omega
    rcases h.2 with ⟨e, _⟩ | ⟨z, rest, e, h2⟩
    · rw [e, List.getElem?_eq_none (by rw [List.length_map]; omega)] at hk; cases hk
    · rw [e, List.getElem?_append_right (by rw [List.length_map]; omega), List.length_map, hi2, Nat.sub_self] at hk
      have hk : some z = some k := hk
      rw [← Option.some.inj hk]
      exact .inr ⟨z, rfl, h2⟩
theorem NodesEnd.done {xs : List Int} {n : Nat} {good : List Nat} {ok : Prop} {bad : Int → Prop} (h : NodesEnd xs n good ok bad) (hl : (xs.map V.int).length ≤ good.length) : xs = good.map (fun v : Nat => (v : Int)) ∧ ok := by
  rw [List.length_map] at hl
  rcases h.2 with h | ⟨z, rest, e, _⟩
  · exact h
  · rw [e] at hl
    simp at hl
    omega
end ExX
namespace ExX
open PySem PySem.Spec PyProof.Rows L2
theorem lc_kd {k : Bool} {K : PySem.W.Frag} {i0 : Nat} {a : Addr} {xs : List V} {g : TG} {tt : TT} {te : TE} {vs : List Nat} {σ : L2.St} {H : Hp} {Q : VK} (hv : σ[i0]? = some (some (.ref a))) (hS : Kd k K H a xs)
    (h : ∀ D, H D = none → ∃ Pv : Nat → Hp → Prop, Pv 0 (upd H D (.lst [])) ∧ (∀ i H, i ≤ xs.length → Pv i H → Kd k K H a xs) ∧ (∀ i x H, xs[i]? = some x → Pv i H → g x (wipe σ vs) H fun σ2 H2 => wipe σ2 vs = wipe σ vs ∧ tt σ2 H2 fun b H3 =>
      if b = true then te σ2 H3 fun y H4 => ∃ acc, H4 D = some (.lst acc) ∧ acc.length < sizeLine ∧ Pv (i + 1) (upd H4 D (.lst (acc ++ [y]))) else Pv (i + 1) H3) ∧ (∀ H, Pv xs.length H → Q (.ref D) H)) : tLc (iKd k K (tVar i0)) g tt te vs σ H Q := by
  cases k
  · refine ⟨_, hv, a, rfl, ⟨_, hS⟩, fun D nD => ?_⟩
    obtain ⟨Pv, h0, hl, hs, hd⟩ := h D nD
    exact lc_tup (xs := xs) (Qd := Q (.ref D)) Pv h0 hl hs hd
  · refine ⟨_, hv, a, rfl, ⟨_, hS⟩, fun D nD => ?_⟩
    obtain ⟨Pv, h0, hl, hs, hd⟩ := h D nD
    exact lc_list (xs := xs) (Qd := Q (.ref D)) Pv h0 hl hs hd
theorem NodesEnd.len {xs : List Int} {n : Nat} {good : List Nat} {ok : Prop} {bad : Int → Prop} (h : NodesEnd xs n good ok bad) : good.length ≤ xs.length := by
  rcases h.2 with ⟨e, _⟩ | ⟨z, rest, e, _⟩
  · rw [e, List.length_map]; exact Nat.le_refl _
  · rw [e]; simp
end ExX
namespace ExX
open PySem PySem.Spec PyProof.Rows L2
theorem slc_kd {k : Bool} {K : PySem.W.Frag} {i0 j : Nat} {a : Addr} {xs : List V} {g : TG} {tt : TT} {te : TE} {vs : List Nat} {σ : L2.St} {H : Hp} {N : Ends} (hv : σ[i0]? = some (some (.ref a))) (hS : Kd k K H a xs)
    (h : ∀ D, H D = none → ∃ Pv : Nat → Hp → Prop, Pv 0 (upd H D (.lst [])) ∧ (∀ i H, i ≤ xs.length → Pv i H → Kd k K H a xs) ∧ (∀ i x H, xs[i]? = some x → Pv i H → g x (wipe σ vs) H fun σ2 H2 => wipe σ2 vs = wipe σ vs ∧ tt σ2 H2 fun b H3 =>
      if b = true then te σ2 H3 fun y H4 => ∃ acc, H4 D = some (.lst acc) ∧ acc.length < sizeLine ∧ Pv (i + 1) (upd H4 D (.lst (acc ++ [y]))) else Pv (i + 1) H3) ∧ (∀ H, Pv xs.length H → N.nx (σ.set j (some (.ref D))) H)) : tAsg (tLc (iKd k K (tVar i0)) g tt te vs) (gName j) N σ H :=
  lc_kd (Q := fun x H1 => gName j x σ H1 N.nx) hv hS h
end ExX
namespace ExX
open PySem PySem.Spec PyProof.Rows L2
/-- three parameters, given by keywords in the reverse order -/
def sw3 {α : Type} : List α → List α → List α
  | [], [c, b, a] => [a, b, c]
  | _, _ => []
theorem sw3_rel {vs : List V} {us : List Value} {zs : List V} {ws : List Value} (r : Vals vs us) (s : Vals zs ws) : Vals (sw3 vs zs) (sw3 us ws) := by
  cases r with
  | cons _ _ => exact .nil
  | nil =>
    cases s with
    | nil => exact .nil
    | cons h1 t1 =>
      cases t1 with
      | nil => exact .nil
      | cons h2 t2 =>
        cases t2 with
        | nil => exact .nil
        | cons h3 t3 =>
          cases t3 with
          | nil => exact .cons h3 (.cons h2 (.cons h1 .nil))
          | cons _ _ => exact .nil
theorem fun_sw3 {K : PySem.W.Frag} {x qual : Str} {st : Stmt} {f : Addr} {fd : FuncData} {a b c : Str} (F : Fun K x qual st f fd)
    (h : ∀ (kV doc pm : Value) (an : Option Addr) (cdv ct : Value) (u v w : Value), bindArgs (PySem.W.fnOf x qual (defArgs st) (defBody st) (defScope st) .none kV doc pm an cdv ct) ⟨[], [(c, u), (b, v), (a, w)]⟩ = pure [(a, w), (b, v), (c, u)]) : KBinds K fd [a, b, c] [c, b, a] sw3 sw3 := by
  obtain ⟨oc, od, kV, doc, pm, an, cdv, ct, osl, rfl, lk, hcd⟩ := F.ex
  refine ⟨fun s us ws _ hl => ?_, sw3_rel⟩
  match us, ws, hl with
  | [], [u, v, w], _ => exact .of_eq (h kV doc pm an cdv ct u v w)
end ExX
namespace ExX
open PySem PySem.Spec PyProof.Rows L2
/-- f(e, ..) where what is raised is wished for at the slots of the call -/
theorem pe_callN {X : Cx} {W : WX} {k : Nat} {f : Addr} {fd : FuncData} {ps : List Str} {sp : Sp} {x : Str} {q pos : Pos} {e : Expr} {es : List Expr} {t : TA} (F : FnOk X.prog X.w X.K X.mg X.base (L2N.CX X.prog X.w) k f fd ps sp) (hr : Room k X.A) (hg : Gl X x) (hm : X.mg x = some (.ref f)) (hk : PySem.W.keepIn X.K (.ref f) = true) (hb : L2.Binds X.K fd ps []) (tk : L2N.Takes X W)
    (ha : PA X (e :: es) t) (hdb : (x == ("__debug__" : Str)) = false := by decide) (he : starEach (e :: es) X.env = (false, eval e X.env) :: starEach es X.env := by rfl) (hpl : (backTo pos (starEach es X.env)).any (·.1) = false := by rfl) :
    PE X (.Call (.Name x q) (e :: es) [] pos) (fun σ H Q => t σ H fun vs H1 => sp vs H1 Q fun cls d H2 => W cls d σ H2) := by
  refine ⟨fun pins s σ H Q I h => wpAny_Call_Name_kw (ld_glob I hg hm ?_ hdb)⟩
  refine PySem.W.callWith_K (h₀ := X.base) I.ok.mod.kin hk (thn (ha.run pos pins s σ H _ I h) fun us s1 ⟨vs, H1, I1, r, w⟩ => ⟨I1.kIn, ?_⟩) he hpl
  have hl : us.length = ps.length := by rw [← r.length]; exact F.len _ _ _ _ w
  have b := hb s1 us I1.kIn (by rw [List.append_nil]; exact hl)
  rw [List.append_nil] at b
  refine wpAny_call (codeAny_mono (F.run X.A X.stack s1 H1 ⟨us, []⟩ us vs Q _ hr I1.env0 b r w) fun res s2 hq => ?_)
  cases res with
  | error er => exact tk er s2 (L2N.XE.of_call I1 (fun cls d H2 z => z) hq)
  | ok fl =>
    cases fl with
    | ret u => exact I1.after hq
    | _ => exact hq.elim
end ExX
namespace ExX
open PySem PySem.Spec PyProof.Rows L2
/-- one parameter, given by its keyword -/
def sw1 {α : Type} : List α → List α → List α
  | [], [a] => [a]
  | _, _ => []
theorem sw1_rel {vs : List V} {us : List Value} {zs : List V} {ws : List Value} (r : Vals vs us) (s : Vals zs ws) : Vals (sw1 vs zs) (sw1 us ws) := by
  cases r with
  | cons _ _ => exact .nil
  | nil =>
    cases s with
    | nil => exact .nil
    | cons h1 t1 =>
      cases t1 with
      | nil => exact .cons h1 .nil
      | cons h2 t2 => exact .nil
theorem fun_sw1 {K : PySem.W.Frag} {x qual : Str} {st : Stmt} {f : Addr} {fd : FuncData} {a : Str} (F : Fun K x qual st f fd)
    (h : ∀ (kV doc pm : Value) (an : Option Addr) (cdv ct : Value) (u : Value), bindArgs (PySem.W.fnOf x qual (defArgs st) (defBody st) (defScope st) .none kV doc pm an cdv ct) ⟨[], [(a, u)]⟩ = pure [(a, u)]) : KBinds K fd [a] [a] sw1 sw1 := by
  obtain ⟨oc, od, kV, doc, pm, an, cdv, ct, osl, rfl, lk, hcd⟩ := F.ex
  refine ⟨fun s us ws _ hl => ?_, sw1_rel⟩
  match us, ws, hl with
  | [], [u], _ => exact .of_eq (h kV doc pm an cdv ct u)
end ExX

namespace ExX
open PySem PySem.Spec PyProof.Rows L2
theorem meets_enum1 {v : Value} {o : Obj} {H : Heap → Prop} (B : Begins v o H) : Meets (Builtin.«enumerate.__new__» ⟨[.type "enumerate", v], []⟩) (fun _ R s => H s.heap ∧
      R (.ok (.ret (.ref (s.heap.push o).objs.size))) { s with heap := (s.heap.push o).push { cls := .type "enumerate", data := .fields #[.none, .bool false, .ref s.heap.objs.size, rawInt 0, .none, .none] } }) :=
  .of_wp fun prog w A R s h => by
    obtain ⟨hp, g, d, tk, os⟩ := s
    obtain ⟨h1, h⟩ := h
    have hsub := sub_enumerate
    have q1 : ∀ {A' : Around} {E : Value → Shared → Prop} {Q : Value → Shared → Prop}, Q (.ref hp.objs.size) ⟨hp.push o, g, d, tk, os⟩ → wpAny (model prog w) A' (pyIter v) Q E ⟨hp, g, d, tk, os⟩ := fun q => B.iter prog w _ _ ⟨hp, g, d, tk, os⟩ _ h1 q
    wp_walk using q1
    refine wpAny_stack_any fun st => wpAny_pure ?_
    split
    · rename_i c _ _ _ _ _
      cases (c == Value.type "enumerate") <;> (wp_walk using q1; exact ⟨_, rfl, h⟩)
    · wp_walk using q1
      exact ⟨_, rfl, h⟩
/-- enumerate(t), t a tuple -/
theorem call_enumT {prog : Program} {w : World} {A : Around} {E : Value → Shared → Prop} {s : Shared} {t : Addr} {items : Array Value} {Q : Value → Shared → Prop} (hT : s.heap.IsTuple t items)
    (h : ∀ h1, IsEnum h1 (s.heap.objs.size + 1) s.heap.objs.size 0 .none → h1.IsTupleIter s.heap.objs.size t 0 → (∀ b o, s.heap.get? b = some o → h1.get? b = some o) → Q (.ref (s.heap.objs.size + 1)) { s with heap := h1 }) :
    wpAny (model prog w) A (call (.type "enumerate") [.ref t]) Q E s := by
  refine callType_new F.called_enumerate (by decide) (F.typeCall_enumerate_1 _) (F.newCall_enumerate_1 _) (fun obj => F.args_object_init_2 obj _) F.entry_enumerate_new (meets_enum1 (begins_tuple t items)) ⟨hT, ?_⟩
  obtain ⟨oI, eI⟩ : ∃ oI : Obj, oI = { cls := .type "tuple_iterator", data := .fields #[.ref t, .int 0 0] } := ⟨_, rfl⟩
  rw [← eI]
  have sz : (s.heap.push oI).objs.size = s.heap.objs.size + 1 := Heap.size_push ..
  show _ ∧ _
  rw [sz]
  have he := Heap.get?_push_size (s.heap.push oI) (o := { cls := .type "enumerate", data := .fields #[.none, .bool false, .ref s.heap.objs.size, rawInt 0, .none, .none] }) rfl
  rw [sz] at he
  have hi : ((s.heap.push oI).push { cls := .type "enumerate", data := .fields #[.none, .bool false, .ref s.heap.objs.size, rawInt 0, .none, .none] }).get? s.heap.objs.size = some oI := Heap.get?_push_of_some _ (Heap.get?_push_size _ (by rw [eI]; rfl))
  exact ⟨⟨_, he, rfl⟩, h _ he ⟨_, hi, by rw [eI], by rw [eI]; rfl⟩ fun b o x => Heap.get?_push_of_some _ (Heap.get?_push_of_some _ x)⟩
/-- the tuple at a, each item with its number in a new pair -/
def ItE (K : PySem.W.Frag) (a : Addr) : It :=
  ⟨fun i H => ∃ (xs : List V) (x : V), SqT K H a xs ∧ xs[i]? = some x, fun i H v H1 => ∃ T x, v = .ref T ∧ H T = none ∧ H1 = upd H T (.tup [.int (i : Nat), x]) ∧ ∀ xs, SqT K H a xs → xs[i]? = some x, fun i H => ∃ xs : List V, SqT K H a xs ∧ xs.length ≤ i⟩
theorem turn_enumT {P : Program} {w : World} {K : PySem.W.Frag} {elts : List Expr} {kk : Nat} {tpos : Pos} (a e it : Addr) :
    Turn P w K (.Tuple elts kk tpos) (ItE K a) [e, it] e (fun i h => (∃ old, IsEnum h e it ((i : Nat) : Int) old) ∧ h.IsTupleIter it a i ∧ e ≠ it ∧ a ≠ it ∧ a ≠ e) where
  mem := by simp
  obj := fun i h ⟨⟨old, he⟩, ⟨o, ho, hc, hd⟩, _⟩ b hb => by
    rcases List.mem_cons.mp hb with z | z
    · rw [z]; exact ⟨_, he, fun v q => nomatch q⟩
    · rw [List.mem_singleton.mp z]; exact ⟨o, ho, fun v q => by rw [hd] at q; cases q⟩
  keep := fun i h h1 ⟨⟨old, he⟩, hi, r⟩ k => ⟨⟨old, k e (by simp) _ he⟩, hi.at fun o q => k it (by simp) o q, r⟩
  item := by
    intro X hP hw hK hc i pins s σ H E I hf ⟨⟨old, he⟩, hit, hne, hai, hae⟩ ⟨xs, x, hq, hx⟩
    subst hP hw hK
    obtain ⟨its, rv, p, hz⟩ := I.tuple hq
    obtain ⟨u, hu, ru⟩ := rv.get hx
    have hel : e < s.heap.objs.size := Heap.lt_size he
    have hil : it < s.heap.objs.size := by obtain ⟨_, q, _⟩ := hit; exact Heap.lt_size q
    have hlt : i < its.toArray.size := by
      have := (List.getElem?_eq_some_iff.mp hu).1
      simpa using this
    have D := Draws.tuple (prog := X.prog) (w := X.w) (A := X.A.in1) (by simpa using I.ok.hd hc) it a hai its.toArray
    refine wpAny_pyNext_enum_itemD D he ⟨hit, p⟩ hlt hne (by simp [hne, Ne.symm hae]) fun x2 h1 tk hP2 ho ⟨hit1, _⟩ hT hsz hk => ?_
    have e2 : x2 = u := by
      have z : its.toArray[i]? = some u := by simpa using hu
      exact Option.some.inj (hP2.symm.trans z)
    subst e2
    refine ⟨_, rfl, wpAny_letOwnedTupleGo_enum (s := { s with heap := h1, toks := tk + 1 }) ho fun h2 he2 sb => ?_⟩
    have hT2 : h2.get? s.heap.objs.size = some { cls := .type "tuple", data := .seq #[.int i tk, x2] } := (sb.2 _ (Nat.ne_of_gt hel)).trans hT
    have new : ObjOk X.prog X.w (upd H s.heap.objs.size (.tup [.int (i : Nat), x])) h2 s.heap.objs.size (.tup [.int (i : Nat), x]) := ⟨by show 2 ≤ sizeLine; decide, [.int i tk, x2], .cons ⟨_, rfl⟩ (.cons ru .nil), ⟨_, hT2, rfl, _, rfl⟩⟩
    have I1 : Inv X pins σ (upd H s.heap.objs.size (.tup [.int (i : Nat), x])) { s with heap := h2, toks := tk + 1 } :=
      I.turnedNew (ch := [e, it]) (fun b ob hb q => (sb.2 b (fun z => hb (by simp [z]))).trans (hk b ob (fun z => hb (by simp [z])) (fun z => hb (by simp [z])) q)) hf (Nat.le_refl _) new
    refine ⟨.ref s.heap.objs.size, _, I1, rfl, ⟨_, x, rfl, I.hok.fresh (Nat.le_refl _), rfl, fun ys hy => by rw [I.tuple_inj hy hq]; exact hx⟩, ⟨⟨x2, ?_⟩, hit1.at fun o q => (sb.2 it (Ne.symm hne)).trans q, hne, hai, hae⟩, fun b hb => ?_⟩
    · rw [show ((i + 1 : Nat) : Int) = (i : Int) + 1 by omega]; exact he2
    · have hb2 : b < s.heap.objs.size := by
        rcases List.mem_cons.mp hb with z | z
        · rw [z]; exact hel
        · rw [List.mem_singleton.mp z]; exact hil
      rw [upd_ne (Nat.ne_of_lt hb2)]
      exact (hf b hb).1
  done := by
    intro X hP hw hK hc i pins s σ H E I hf ⟨⟨old, he⟩, hit, hne, hai, hae⟩ ⟨xs, hq, hx⟩
    subst hP hw hK
    obtain ⟨its, rv, p, hz⟩ := I.tuple hq
    obtain ⟨f0, f1, f2, f3, f4, f5⟩ := hf it (by simp)
    have hl := rv.length
    have hh : X.A.in1.handled = none := by simpa using I.ok.hd hc
    have D0 : Draws X.prog X.w X.A.in1 it [it, a] i (fun j v => False) (fun j h => j = i ∧ h.IsTupleIter it a i ∧ h.IsTuple a its.toArray) :=
      { live := fun _ _ ⟨_, ⟨o, ho, _⟩, _⟩ => ⟨o, ho⟩
        frame := fun _ _ _ ⟨r, st1, st2⟩ hk => ⟨r, st1.at fun o e => hk it (by simp) o e, st2.at fun o e => hk a (by simp) o e⟩
        item := fun j s Q E hj ⟨r, _⟩ _ => absurd r (Nat.ne_of_lt hj)
        done := fun s Q E ⟨_, st1, st2⟩ hE => wpAny_nextOf_tuple_end hh st1 st2 (by simp; omega) hE }
    exact wpAny_pyNext_enum_endD D0 he ⟨rfl, hit, p⟩ fun h1 eb => ⟨rfl, I.turned (t' := s.toks) (fun b o hb q => eb b o hb q) f0 f1 f3 f4 f5⟩
  self := fun A i s Q E ⟨⟨_, he⟩, _⟩ h => wpAny_pyIter_enum he h
def iEnumT (K : PySem.W.Frag) (ta : TA) : TI := fun σ H R => ta σ H fun vs H1 => ∃ a xs, vs = [.ref a] ∧ SqT K H1 a xs ∧ R (ItE K a) H1
theorem pi_enumT {X : Cx} {e : Expr} {ta : TA} {p pos tpos : Pos} {elts : List Expr} {kk : Nat} (hg : Gl X "enumerate") (hm : X.mg "enumerate" = none) (ha : PA X [e] ta) (hs : starEach [e] X.env = [(false, eval e X.env)] := by rfl) :
    PI X (.Tuple elts kk tpos) (.Call (.Name "enumerate" p) [e] [] pos) (iEnumT X.K ta) := by
  refine ⟨fun pins s σ H R I h => ?_⟩
  refine Call_ (ld_blt I hg hm boot_enumerate (PyProof.Rows.callWith_type1 (thn (ha.run pos pins s σ H _ I h) fun us s1 ⟨vs, H1, I1, r1, a, xs, ex, hq, q⟩ => ?_) hs rfl))
  subst ex
  cases r1 with
  | cons r rr =>
    cases rr
    cases r
    obtain ⟨its, rv, p2, hz⟩ := I1.tuple hq
    have al : a < s1.heap.objs.size := p2.lt
    refine call_enumT p2 fun h1 he hit hk => wpAny_pyIter_enum he ?_
    have I2 : Inv X pins σ H1 { s1 with heap := h1 } := I1.kept (t' := s1.toks) hk
    refine ⟨s1.heap.objs.size + 1, [s1.heap.objs.size + 1, s1.heap.objs.size], _, _, H1, rfl, I2, turn_enumT a (s1.heap.objs.size + 1) s1.heap.objs.size, ⟨⟨.none, he⟩, hit, Nat.succ_ne_self _, Nat.ne_of_lt al, Nat.ne_of_lt (Nat.lt_succ_of_lt al)⟩, fun b hb => ?_, q⟩
    have hle : s1.heap.objs.size ≤ b := by
      rcases List.mem_cons.mp hb with z | z
      · rw [z]; exact Nat.le_succ _
      · rw [List.mem_singleton.mp z]; exact Nat.le_refl _
    exact I1.fpOk hle (I1.hok.fresh hle)
/-- a comprehension over enumerate(t) -/
theorem lc_enumT {K : PySem.W.Frag} {a : Addr} {xs : List V} {g : TG} {tt : TT} {te : TE} {vs : List Nat} {σ : L2.St} {H1 : Hp} {D : Addr} {Qd : Hp → Prop} (Pv : Nat → Hp → Prop) (h0 : Pv 0 (upd H1 D (.lst []))) (hl : ∀ i H, i ≤ xs.length → Pv i H → SqT K H a xs)
    (hs : ∀ i x H T, xs[i]? = some x → Pv i H → H T = none → g (.ref T) (wipe σ vs) (upd H T (.tup [.int (i : Nat), x])) fun σ2 H2 => wipe σ2 vs = wipe σ vs ∧ tt σ2 H2 fun b H3 =>
      if b = true then te σ2 H3 fun y H4 => ∃ acc, H4 D = some (.lst acc) ∧ acc.length < sizeLine ∧ Pv (i + 1) (upd H4 D (.lst (acc ++ [y]))) else Pv (i + 1) H3) (hd : ∀ H, Pv xs.length H → Qd H) :
    ∃ W : Nat → Nat → Hp → Prop, (∃ m, W 0 m (upd H1 D (.lst []))) ∧ ∀ i m H, W i m H →
      ((ItE K a).stop i H ∧ Qd H) ∨ ((ItE K a).go i H ∧ ∃ Nx : Hp → Prop, (∀ H2, Nx H2 → ∃ m2, m2 < m ∧ W (i + 1) m2 H2) ∧ ∀ x H2, (ItE K a).yld i H x H2 → g x (wipe σ vs) H2 fun σ2 H2 => wipe σ2 vs = wipe σ vs ∧ tt σ2 H2 fun b H3 =>
        if b = true then te σ2 H3 fun y H4 => ∃ acc, H4 D = some (.lst acc) ∧ acc.length < sizeLine ∧ Nx (upd H4 D (.lst (acc ++ [y]))) else Nx H3) := by
  refine ⟨fun i m H => m = xs.length - i ∧ i ≤ xs.length ∧ Pv i H, ⟨xs.length, by simp, Nat.zero_le _, h0⟩, fun i m H ⟨em, hi, hp⟩ => ?_⟩
  subst em
  have hq := hl i H hi hp
  by_cases hlt : i < xs.length
  · refine .inr ⟨⟨xs, xs[i], hq, by simp [hlt]⟩, Pv (i + 1), fun H2 p2 => ⟨xs.length - (i + 1), by omega, rfl, hlt, p2⟩, fun x H2 ⟨T, y, ex, nT, eH, hy⟩ => ?_⟩
    subst ex eH
    exact hs i y H T (hy xs hq) hp nT
  · have : i = xs.length := by omega
    subst this
    exact .inl ⟨⟨xs, hq, Nat.le_refl _⟩, hd H hp⟩
end ExX
namespace ExX
open PySem PySem.Spec PyProof.Rows L2
theorem for_enumT {K : PySem.W.Frag} {a : Addr} {xs : List V} {g : TG} {tb : TS} {D : Ends} {σ : L2.St} {H : Hp} (Pv : Nat → L2.St → Hp → Prop) (h0 : Pv 0 σ H) (hl : ∀ i σ H, i ≤ xs.length → Pv i σ H → SqT K H a xs)
    (hs : ∀ i x σ H T, xs[i]? = some x → Pv i σ H → H T = none → g (.ref T) σ (upd H T (.tup [.int (i : Nat), x])) fun σ2 H2 => tb { D with nx := Pv (i + 1), ct := Pv (i + 1), bk := D.nx } σ2 H2) (hd : ∀ σ H, Pv xs.length σ H → D.nx σ H) :
    ∃ W : Nat → Nat → L2.St → Hp → Prop, (∃ m, W 0 m σ H) ∧ ∀ i m σ H, W i m σ H →
      ((ItE K a).stop i H ∧ D.nx σ H) ∨ ((ItE K a).go i H ∧ ∃ N : L2.St → Hp → Prop, (∀ σ2 H2, N σ2 H2 → ∃ m2, m2 < m ∧ W (i + 1) m2 σ2 H2) ∧ ∀ x H2, (ItE K a).yld i H x H2 → g x σ H2 fun σ2 H2 => tb { D with nx := N, ct := N, bk := D.nx } σ2 H2) := by
  refine ⟨fun i m σ H => m = xs.length - i ∧ i ≤ xs.length ∧ Pv i σ H, ⟨xs.length, by simp, Nat.zero_le _, h0⟩, fun i m σ H ⟨em, hi, hp⟩ => ?_⟩
  subst em
  have hq := hl i σ H hi hp
  by_cases hlt : i < xs.length
  · refine .inr ⟨⟨xs, xs[i], hq, by simp [hlt]⟩, Pv (i + 1), fun σ2 H2 p2 => ⟨xs.length - (i + 1), by omega, rfl, hlt, p2⟩, fun x H2 ⟨T, y, ex, nT, eH, hy⟩ => ?_⟩
    subst ex eH
    exact hs i y σ H T (hy xs hq) hp nT
  · have : i = xs.length := by omega
    subst this
    exact .inl ⟨⟨xs, hq, Nat.le_refl _⟩, hd σ H hp⟩
end ExX

namespace ExX
open PySem PySem.Spec PyProof.Rows L2
/-- a def that may raise, called where it does not -/
theorem fn_no {P : Program} {w : World} {K : PySem.W.Frag} {mg : Str → Option Value} {base : Heap} {k : Nat} {f : Addr} {fd : FuncData} {ps : List Str} {sp sp' : Sp} (F : FnOk P w K mg base (L2N.CX P w) k f fd ps sp) (h : ∀ vs H Q E, sp' vs H Q E → sp vs H Q (fun _ _ _ => False)) : FnOk P w K mg base CX0 k f fd ps sp' := by
  refine ⟨fun vs H Q E z => F.len _ _ _ _ (h _ _ _ _ z), fun A outer s H args us vs Q E hr e0 b r z => ?_⟩
  refine codeAny_mono (F.run A outer s H args us vs Q (fun _ _ _ => False) hr e0 b r (h _ _ _ _ z)) fun res s2 q => ?_
  cases res with
  | ok fl => cases fl <;> exact q
  | error e =>
    have q : L2N.CX P w outer H s (fun _ _ _ => False) e s2 := q
    unfold L2N.CX at q
    simp at q
def noE (sp : Sp) : Sp := fun vs H Q _ => sp vs H Q fun _ _ _ => False
theorem fn_noE {P : Program} {w : World} {K : PySem.W.Frag} {mg : Str → Option Value} {base : Heap} {k : Nat} {f : Addr} {fd : FuncData} {ps : List Str} {sp : Sp} (F : FnOk P w K mg base (L2N.CX P w) k f fd ps sp) : FnOk P w K mg base CX0 k f fd ps (noE sp) := fn_no F fun _ _ _ _ z => z
theorem Flies.same {H H1 : Hp} {E : XK} {C : Addr} {fld tag : Str} {v : V} (f : Flies H E C fld tag v) (s : Same H H1) : Flies H1 E C fld tag v := fun d H2 n h s2 => f d H2 (sm_none s n) h (s.trans s2)
end ExX

namespace ExX
open PySem PySem.Spec PyProof.Rows L2
/-! Method calls with keywords, and method calls whose error is wished for at the slots of the call. -/
section
variable {X : Cx} {CX : CXT} {k : Nat} {C f : Addr} {fd : FuncData} {ps ks : List Str} {m : Str} {sp : Sp} {g : List Value → List Value → List Value} {gV : List V → List V → List V} {E : XK} {o e : Expr} {es : List Expr} {kws : List Keyword} {apos pos : Pos} {ta : TE} {t tk : TA} {ds : List Value} {dvs : List V}
/-- o.m(e, .., k = v, ..) -/
def tMethK (C : Addr) (m : Str) (sp : Sp) (gV : List V → List V → List V) (E : XK) (ta : TE) (t tk : TA) : TE := fun σ H Q => ta σ H fun x H1 => ∃ a dx fs, x = .ref a ∧ H1 a = some (.ins C dx fs) ∧ fs.lookup m = none ∧
  t σ H1 fun vs H2 => tk σ H2 fun zs H3 => sp (gV (x :: vs) zs) H3 Q E
theorem pe_methK {pl : Sem Bool} (he : PE X o ta) (c : Cls X.K C) (hm : Meth X.K C m f) (F : FnOk X.prog X.w X.K X.mg X.base CX k f fd ps sp) (hr : Room k X.A) (hb : KBinds X.K fd ps ks g gV) (hx : Passes CX X E) (ha : PA X (e :: es) t) (hkw : PK X kws tk)
    (hall : (backToKw pos (keywordEach kws X.env)).all (·.1.isSome) = true := by rfl) (hks : (backToKw pos (keywordEach kws X.env)).filterMap (·.1) = ks := by rfl)
    (hst : starEach (e :: es) X.env = (false, eval e X.env) :: starEach es X.env := by rfl)
    (hpl : ((backTo pos (starEach (e :: es) X.env)).any (·.1) || (backToKw pos (keywordEach kws X.env)).any (·.1.isNone)) = false := by rfl)
    (ht : eval (.Call (.Attribute o m apos) (e :: es) kws pos) X.env = (do
      let ov ← eval o X.env
      standAt apos.atName
      let (f, first) ← holding [ov] (getMethod ov m pl)
      callWith pos f first (backTo pos (starEach (e :: es) X.env)) (backToKw pos (keywordEach kws X.env))) := by rfl) :
    PE X (.Call (.Attribute o m apos) (e :: es) kws pos) (tMethK C m sp gV E ta t tk) := by
  refine ⟨fun pins s σ H Q I h => ?_⟩
  refine PySem.W.methodCall_KW (pl := pl) (thn (he.run pins s σ H _ I h) fun u s1 ⟨x, H1, I1, rx, a, dx, fs, ex, ea, l, q⟩ => ?_) ht
  subst ex
  obtain rfl : u = Value.ref a := rx
  refine getmeth_ok I1 ea c hm l ?_
  refine PySem.W.callWith_KW (first := [.ref a]) (h₀ := X.base) I.ok.mod.kin hm.kp hall (thn (ha.run pos pins s1 σ H1 _ I1 q) fun us s2 ⟨vs, H2, I2, r, q2⟩ => ?_) hpl hst
  refine thn (hkw.run pos pins s2 σ H2 _ I2 q2) fun ws s3 ⟨zs, H3, I3, rz, q3⟩ => ⟨I3.kIn, ?_⟩
  rw [hks]
  exact run_fnk (us := .ref a :: us) (vs := .ref a :: vs) F hr hb hx I3 (.cons rfl r) rz q3
/-- o.m(k = v, ..) -/
theorem pe_methK0 {pl : Sem Bool} (he : PE X o ta) (c : Cls X.K C) (hm : Meth X.K C m f) (F : FnOk X.prog X.w X.K X.mg X.base CX k f fd ps sp) (hr : Room k X.A) (hb : KBinds X.K fd ps ks g gV) (hx : Passes CX X E) (hkw : PK X kws tk)
    (hall : (backToKw pos (keywordEach kws X.env)).all (·.1.isSome) = true := by rfl) (hks : (backToKw pos (keywordEach kws X.env)).filterMap (·.1) = ks := by rfl)
    (hpl : ((backTo pos (starEach [] X.env)).any (·.1) || (backToKw pos (keywordEach kws X.env)).any (·.1.isNone)) = false := by rfl)
    (ht : eval (.Call (.Attribute o m apos) [] kws pos) X.env = (do
      let ov ← eval o X.env
      standAt apos.atName
      let (f, first) ← holding [ov] (getMethod ov m pl)
      callWith pos f first (backTo pos (starEach [] X.env)) (backToKw pos (keywordEach kws X.env))) := by rfl) :
    PE X (.Call (.Attribute o m apos) [] kws pos) (tMethK C m sp gV E ta tNil tk) := by
  refine ⟨fun pins s σ H Q I h => ?_⟩
  refine PySem.W.methodCall_KW (pl := pl) (thn (he.run pins s σ H _ I h) fun u s1 ⟨x, H1, I1, rx, a, dx, fs, ex, ea, l, q⟩ => ?_) ht
  subst ex
  obtain rfl : u = Value.ref a := rx
  refine getmeth_ok I1 ea c hm l ?_
  refine PySem.W.callWith_KW0 (first := [.ref a]) (h₀ := X.base) I.ok.mod.kin hm.kp hall ?_ hpl
  refine thn (hkw.run pos pins s1 σ H1 _ I1 q) fun ws s3 ⟨zs, H3, I3, rz, q3⟩ => ⟨I3.kIn, ?_⟩
  rw [hks]
  exact run_fnk (us := [.ref a]) (vs := [.ref a]) F hr hb hx I3 (.cons rfl .nil) rz q3
end
section
variable {X : Cx} {W : WX} {k : Nat} {C f : Addr} {fd : FuncData} {ps ks : List Str} {m : Str} {sp : Sp} {g : List Value → List Value → List Value} {gV : List V → List V → List V} {o e : Expr} {es : List Expr} {kws : List Keyword} {apos pos : Pos} {ta : TE} {t tk : TA}
/-- a call whose error is wished for, from the values -/
theorem run_fnW {pins : List (Addr × Obj)} {σ : L2.St} {H : Hp} {s : Shared} {Q : VK} {us : List Value} {vs : List V} (F : FnOk X.prog X.w X.K X.mg X.base (L2N.CX X.prog X.w) k f fd ps sp) (hr : Room k X.A) (hb : L2.Binds X.K fd ps []) (tk : L2N.Takes X W) (I1 : Inv X pins σ H s) (r : Vals vs us)
    (w : sp vs H Q fun cls d H2 => W cls d σ H2) : wpAny (model X.prog X.w) X.A (call (.ref f) us) (EP X pins σ Q) X.xe s := by
  have hl : us.length = ps.length := by rw [← r.length]; exact F.len _ _ _ _ w
  have b := hb s us I1.kIn (by rw [List.append_nil]; exact hl)
  rw [List.append_nil] at b
  refine wpAny_call (codeAny_mono (F.run X.A X.stack s H ⟨us, []⟩ us vs Q _ hr I1.env0 b r w) fun res s2 hq => ?_)
  cases res with
  | error er => exact tk er s2 (L2N.XE.of_call I1 (fun cls d H2 z => z) hq)
  | ok fl =>
    cases fl with
    | ret u => exact I1.after hq
    | _ => exact hq.elim
theorem run_fnkW {pins : List (Addr × Obj)} {σ : L2.St} {H : Hp} {s : Shared} {Q : VK} {us ws : List Value} {vs zs : List V} (F : FnOk X.prog X.w X.K X.mg X.base (L2N.CX X.prog X.w) k f fd ps sp) (hr : Room k X.A) (hb : KBinds X.K fd ps ks g gV) (tk : L2N.Takes X W) (I1 : Inv X pins σ H s) (r : Vals vs us) (rz : Vals zs ws)
    (w : sp (gV vs zs) H Q fun cls d H2 => W cls d σ H2) : wpAny (model X.prog X.w) X.A (call (.ref f) us (ks.zip ws)) (EP X pins σ Q) X.xe s := by
  have r2 := hb.rel r rz
  have hl : (g us ws).length = ps.length := by rw [← r2.length]; exact F.len _ _ _ _ w
  refine wpAny_call (codeAny_mono (F.run X.A X.stack s H ⟨us, ks.zip ws⟩ (g us ws) (gV vs zs) Q _ hr I1.env0 (hb.to s us ws I1.kIn hl) r2 w) fun res s2 hq => ?_)
  cases res with
  | error er => exact tk er s2 (L2N.XE.of_call I1 (fun cls d H2 z => z) hq)
  | ok fl =>
    cases fl with
    | ret u => exact I1.after hq
    | _ => exact hq.elim
/-- o.m(e, ..), an error wished for -/
def tMethN (C : Addr) (m : Str) (sp : Sp) (W : WX) (ta : TE) (t : TA) : TE := fun σ H Q => ta σ H fun x H1 => ∃ a dx fs, x = .ref a ∧ H1 a = some (.ins C dx fs) ∧ fs.lookup m = none ∧
  t σ H1 fun vs H2 => sp (x :: vs) H2 Q fun cls d H3 => W cls d σ H3
theorem pe_methN {pl : Sem Bool} (he : PE X o ta) (c : Cls X.K C) (hm : Meth X.K C m f) (F : FnOk X.prog X.w X.K X.mg X.base (L2N.CX X.prog X.w) k f fd ps sp) (hr : Room k X.A) (hb : L2.Binds X.K fd ps []) (tk : L2N.Takes X W) (ha : PA X (e :: es) t)
    (hst : starEach (e :: es) X.env = (false, eval e X.env) :: starEach es X.env := by rfl) (hpl : (backTo pos (starEach es X.env)).any (·.1) = false := by rfl)
    (ht : eval (.Call (.Attribute o m apos) (e :: es) [] pos) X.env = (do
      let ov ← eval o X.env
      standAt apos.atName
      let (f, first) ← holding [ov] (getMethod ov m pl)
      callWith pos f first (backTo pos (starEach (e :: es) X.env)) (backToKw pos (keywordEach [] X.env))) := by rfl) :
    PE X (.Call (.Attribute o m apos) (e :: es) [] pos) (tMethN C m sp W ta t) := by
  refine ⟨fun pins s σ H Q I h => ?_⟩
  refine PySem.W.methodCall_KW (pl := pl) (thn (he.run pins s σ H _ I h) fun u s1 ⟨x, H1, I1, rx, a, dx, fs, ex, ea, l, q⟩ => ?_) ht
  subst ex
  obtain rfl : u = Value.ref a := rx
  refine getmeth_ok I1 ea c hm l ?_
  refine PySem.W.callWith_K (first := [.ref a]) (h₀ := X.base) I.ok.mod.kin hm.kp (thn (ha.run pos pins s1 σ H1 _ I1 q) fun us s2 ⟨vs, H2, I2, r, q2⟩ => ⟨I2.kIn, ?_⟩) hst hpl
  exact run_fnW (us := .ref a :: us) (vs := .ref a :: vs) F hr hb tk I2 (.cons rfl r) q2
/-- o.m(), an error wished for -/
theorem pe_methN0 {pl : Sem Bool} (he : PE X o ta) (c : Cls X.K C) (hm : Meth X.K C m f) (F : FnOk X.prog X.w X.K X.mg X.base (L2N.CX X.prog X.w) k f fd ps sp) (hr : Room k X.A) (hb : L2.Binds X.K fd ps []) (tk : L2N.Takes X W)
    (ht : eval (.Call (.Attribute o m apos) [] [] pos) X.env = (do
      let ov ← eval o X.env
      standAt apos.atName
      let (f, first) ← holding [ov] (getMethod ov m pl)
      callWith pos f first (backTo pos (starEach [] X.env)) (backToKw pos (keywordEach [] X.env))) := by rfl) :
    PE X (.Call (.Attribute o m apos) [] [] pos) (tMethN C m sp W ta tNil) := by
  refine ⟨fun pins s σ H Q I h => ?_⟩
  refine PySem.W.methodCall_KW (pl := pl) (thn (he.run pins s σ H _ I h) fun u s1 ⟨x, H1, I1, rx, a, dx, fs, ex, ea, l, q⟩ => ?_) ht
  subst ex
  obtain rfl : u = Value.ref a := rx
  refine getmeth_ok I1 ea c hm l ?_
  exact PySem.W.callWith_K0 (first := [.ref a]) I1.kIn hm.kp (run_fnW (us := [.ref a]) (vs := [.ref a]) F hr hb tk I1 (.cons rfl .nil) q)
/-- o.m(e, .., k = v, ..), an error wished for -/
def tMethKN (C : Addr) (m : Str) (sp : Sp) (gV : List V → List V → List V) (W : WX) (ta : TE) (t tk : TA) : TE := fun σ H Q => ta σ H fun x H1 => ∃ a dx fs, x = .ref a ∧ H1 a = some (.ins C dx fs) ∧ fs.lookup m = none ∧
  t σ H1 fun vs H2 => tk σ H2 fun zs H3 => sp (gV (x :: vs) zs) H3 Q fun cls d H4 => W cls d σ H4
theorem pe_methKN {pl : Sem Bool} (he : PE X o ta) (c : Cls X.K C) (hm : Meth X.K C m f) (F : FnOk X.prog X.w X.K X.mg X.base (L2N.CX X.prog X.w) k f fd ps sp) (hr : Room k X.A) (hb : KBinds X.K fd ps ks g gV) (tk' : L2N.Takes X W) (ha : PA X (e :: es) t) (hkw : PK X kws tk)
    (hall : (backToKw pos (keywordEach kws X.env)).all (·.1.isSome) = true := by rfl) (hks : (backToKw pos (keywordEach kws X.env)).filterMap (·.1) = ks := by rfl)
    (hst : starEach (e :: es) X.env = (false, eval e X.env) :: starEach es X.env := by rfl)
    (hpl : ((backTo pos (starEach (e :: es) X.env)).any (·.1) || (backToKw pos (keywordEach kws X.env)).any (·.1.isNone)) = false := by rfl)
    (ht : eval (.Call (.Attribute o m apos) (e :: es) kws pos) X.env = (do
      let ov ← eval o X.env
      standAt apos.atName
      let (f, first) ← holding [ov] (getMethod ov m pl)
      callWith pos f first (backTo pos (starEach (e :: es) X.env)) (backToKw pos (keywordEach kws X.env))) := by rfl) :
    PE X (.Call (.Attribute o m apos) (e :: es) kws pos) (tMethKN C m sp gV W ta t tk) := by
  refine ⟨fun pins s σ H Q I h => ?_⟩
  refine PySem.W.methodCall_KW (pl := pl) (thn (he.run pins s σ H _ I h) fun u s1 ⟨x, H1, I1, rx, a, dx, fs, ex, ea, l, q⟩ => ?_) ht
  subst ex
  obtain rfl : u = Value.ref a := rx
  refine getmeth_ok I1 ea c hm l ?_
  refine PySem.W.callWith_KW (first := [.ref a]) (h₀ := X.base) I.ok.mod.kin hm.kp hall (thn (ha.run pos pins s1 σ H1 _ I1 q) fun us s2 ⟨vs, H2, I2, r, q2⟩ => ?_) hpl hst
  refine thn (hkw.run pos pins s2 σ H2 _ I2 q2) fun ws s3 ⟨zs, H3, I3, rz, q3⟩ => ⟨I3.kIn, ?_⟩
  rw [hks]
  exact run_fnkW (us := .ref a :: us) (vs := .ref a :: vs) F hr hb tk' I3 (.cons rfl r) rz q3
end
end ExX

/-! word, *rest = a tuple: its first item, and the others in a new list. -/
namespace RSt
open PySem PySem.Spec PyProof.Rows L2
theorem drop {prog : Program} {w : World} {A : Around} {I : Addr} {fp wr : List Addr} {n k : Nat} {P : Nat → Value → Prop} {St : Nat → Heap → Prop} (hk : k ≤ n) (W : Walks prog w A I fp wr n P St) :
    Walks prog w A I fp wr (n - k) (fun i v => P (i + k) v) (fun i h => St (i + k) h) where
  sub := W.sub
  frame := fun i => W.frame (i + k)
  item := fun i s Q E hi st hQ => W.item (i + k) s Q E (by omega) st fun v h' tk hP hst => hQ v h' tk hP (by rw [show i + 1 + k = i + k + 1 by omega]; exact hst)
  done := fun s Q E st hQ => W.done s Q E (by rw [show n - k + k = n by omega] at st; exact st) hQ
  self := fun i => W.self (i + k)
theorem items_drop {items acc : Array Value} {k : Nat} (hk : k ≤ items.size) (h : ItemsOf (fun i v => items[i + k]? = some v) acc (items.size - k)) : acc.toList = items.toList.drop k := by
  refine List.ext_getElem? fun j => ?_
  rw [List.getElem?_drop]
  by_cases hj : j < acc.size
  · have e : acc[j]? = some acc[j] := by simp [hj]
    have := h.2 j _ e
    rw [Array.getElem?_toList, e, Array.getElem?_toList, Nat.add_comm]
    exact this.symm
  · have h1 := h.1
    rw [List.getElem?_eq_none (by simp; omega), List.getElem?_eq_none (by simp; omega)]
section
variable {prog : Program} {w : World} {A : Around} {E : Value → Shared → Prop} {s : Shared}
theorem star_items {t : Addr} {items : Array Value} {x : Value} {Q : List Value → Shared → Prop} (hh : A.handled = none) (ht : s.heap.IsTuple t items) (hx : items[0]? = some x) (hz : items.size ≤ sizeLine)
    (hQ : ∀ (h' : Heap) tk, (∀ b o, s.heap.get? b = some o → h'.get? b = some o) → Q [x, .ref h'.objs.size] { s with heap := h'.push { cls := .type "list", data := .seq (items.toList.drop 1).toArray }, toks := tk }) :
    wpAny (model prog w) A (unpackItems (.ref t) 2 (some 1)) Q E s := by
  have hlt : t ≠ s.heap.objs.size := by obtain ⟨o, ho, _⟩ := ht; exact Nat.ne_of_lt (Heap.lt_size ho)
  have h0 : 0 < items.size := by
    by_cases z : 0 < items.size
    · exact z
    · rw [Array.getElem?_eq_none (by omega)] at hx
      cases hx
  have he : items.toList.drop 0 = x :: items.toList.drop 1 := by
    have e : items.toList[0]? = some x := by simpa using hx
    cases hl : items.toList with
    | nil => rw [hl] at e; cases e
    | cons y ys =>
      rw [hl] at e
      cases e
      rfl
  unfold unpackItems
  refine wpAny_bind ?_
  unfold notIterableAtAll
  refine wpAny_bind (wpAny_specialOf ht.typeIs F.slot_tuple_iter.lookup ?_)
  refine wpAny_pure ?_
  simp only [Bool.false_eq_true, if_false]
  refine wpAny_bind (wpAny_holding (wpAny_pyIter_tuple ht ?_))
  refine wpAny_bind (wpAny_holding (wpAny_draw_tuple hlt 1 0 _ _ ⟨_, Heap.get?_push_size _ rfl, rfl, rfl⟩ (ht.push _) (by omega) fun h₁ hit₁ hs₁ => ?_))
  rw [he, List.take_succ_cons, List.take_zero, if_neg (by simp)]
  have ht₁ : h₁.IsTuple t items := (ht.push _).extBut hs₁.extBut hlt
  obtain ⟨o1, ho1, c1, d1⟩ := id hit₁
  obtain ⟨o2, ho2, _⟩ := id ht₁
  have k1 : ∀ b o, s.heap.get? b = some o → h₁.get? b = some o := fun b o e => hs₁.extBut b o (Nat.ne_of_lt (Heap.lt_size e)) (Heap.get?_push_of_some _ e)
  refine wpAny_bind (wpAny_holding (wpAny_collect_iter (T := "tuple_iterator") (.inr (.inr (.inr rfl))) (drop (k := 1) h0 (Walks.tuple (A := A.in1) hh s.heap.objs.size t hlt items)).toS
    (fun i s' st => st.1.typeIs) ⟨by simpa using hit₁, ht₁⟩ (fun b hb => ?_) (by simp) (fun s' acc hm hacc => ?_) (by omega)))
  · have e : b = s.heap.objs.size ∨ b = t := by simpa using hb
    rcases e with e | e
    · rw [e]; exact Heap.lt_size ho1
    · rw [e]; exact Heap.lt_size ho2
  · rw [items_drop h0 hacc, Moved.eq_with hm]
    rw [show 2 - 1 - 1 = 0 by rfl]
    refine wpAny_bind ?_
    rw [Nat.sub_zero, List.take_length, List.drop_length]
    refine wpAny_newList (wpAny_pure ?_) (by rw [List.length_drop]; show items.toList.length - 1 ≤ sizeLine; rw [Array.length_toList]; omega)
    refine hQ s'.heap s'.toks fun b o e => hm.heap b o (fun z => ?_) (k1 b o e)
    have e1 : b = s.heap.objs.size := List.mem_singleton.mp z
    exact absurd (Heap.lt_size e) (by rw [e1]; exact Nat.lt_irrefl _)
end
end RSt
namespace L2
open PySem PySem.Spec PyProof.Rows
/-- head, *rest = a tuple that has a first item -/
def gHead (K : PySem.W.Frag) (g1 g2 : TG) : TG := fun v σ H Q => ∃ a x xs, v = .ref a ∧ SqT K H a (x :: xs) ∧ ∀ p, H p = none → g1 x σ (upd H p (.lst xs)) fun σ1 H1 => g2 (.ref p) σ1 H1 Q
section
variable {X : Cx}
theorem pg_head {e1 e2 : Expr} {k : Nat} {p pos : Pos} {g1 g2 : TG} (hc : X.calm = true) (h1 : PG X e1 g1) (h2 : PG X e2 g2)
    (hn : assignEach [e1, .Starred e2 p] X.env = [(false, assign e1 X.env), (true, assign e2 X.env)] := by rfl) : PG X (.Tuple [e1, .Starred e2 p] k pos) (gHead X.K g1 g2) := by
  refine ⟨fun pins s σ H v u Q I r hw => ?_⟩
  obtain ⟨a, x, xs, e0, hq, hw⟩ := hw
  subst e0
  cases r
  obtain ⟨its, rv, ht, hz⟩ := I.tuple hq
  have hlen := rv.length
  cases rv with
  | @cons _ u _ us ru rr =>
    rw [assign_Tuple]
    refine wpAny_bind (wpAny_standAt ?_)
    unfold unpack
    rw [hn]
    refine wpAny_bind (wpAny_holding (RSt.star_items (I.ok.hd hc) (show s.heap.IsTuple a (u :: us).toArray from ht) (x := u) (by simp) (by simp at hlen ⊢; simp at hz; omega) fun h' tk hk => ?_))
    have I1 : Inv X pins σ H { s with heap := h', toks := tk } := I.kept hk
    have I2 := I1.laid (a := h'.objs.size) (o := .lst xs) (h' := h'.push { cls := .type "list", data := .seq ((u :: us).toArray.toList.drop 1).toArray }) (t' := tk) (fun b o e => Heap.get?_push_of_some _ e) (Nat.le_refl _)
      ⟨by simp at hz; omega, us, 0, rr, by rw [Heap.get?_push_size _ rfl]; rfl⟩
    refine assignInOrder_cons (thn (h1.run pins _ σ _ x u _ I2 ru (hw _ (I1.hok.fresh (Nat.le_refl _)))) fun _ s1 ⟨σ1, H1, I3, q1⟩ => ?_)
    refine assignInOrder_cons (thn (h2.run pins s1 σ1 H1 (.ref h'.objs.size) (.ref h'.objs.size) _ I3 rfl q1) fun _ s2 ⟨σ2, H2, I4, q2⟩ => ?_)
    exact assignInOrder_nil ⟨σ2, H2, I4, q2⟩
end
end L2

/-! {**d, k: v, ..}: a copy of a dict with more pairs. -/
namespace DUn
open PySem PyProof.Rows L2
section
variable {prog : Program} {w : World} {A : Around} {E : Value → Shared → Prop} {s : Shared}
theorem put_pairs {K : Type} [DecidableEq K] {knd : KeyKind prog w K} {d : Addr} {kvs : List (K × Value)} {k : K} {key v : Value} {Q : Unit → Shared → Prop} (hkey : knd.is k key = true) (hm : s.heap.DictOf knd d kvs)
    (hQ : ∀ h', h'.DictOf knd d (stored kvs k v) → Heap.SameBut d s.heap h' → Q () { s with heap := h' }) (hsz : kvs.length ≤ sizeLine) :
    wpAny (model prog w) A (dictPut d (knd.hash k) key v) Q E s := by
  obtain ⟨o, es, ep, ho, hc, hd, hk, hp, hn⟩ := hm
  have hes : es.size ≤ sizeLine := by
    have e1 := hp.length
    have e2 : es.toList.length = es.size := by simp
    omega
  unfold dictPut
  refine wpAny_bind (wpAny_dictFind_of hkey ho hd hk ?_)
  have hidx : (es.findIdx? fun e => knd.is k e.key) = kvs.findIdx? fun kv => decide (kv.1 = k) := by
    rw [← hp.findIdx k]; obtain ⟨l⟩ := es; simp
  cases hi : es.findIdx? fun e => knd.is k e.key with
  | some i =>
    refine wpAny_updateDict ho hd (hQ _ ⟨_, _, ep, Heap.get?_update_self _ ho (Obj.isFreed_of_dict (Obj.data_mapDict hd _)), hc.mapDict _, Obj.data_mapDict hd _, hk.modify _ _, ?_, ?_⟩ (Heap.SameBut.update ..))
    · rw [stored, if_pos (any_of_findIdx_some (hidx ▸ hi))]
      have hl : (es.toList.findIdx? fun e => knd.is k e.key) = some i := by rw [← hi]; obtain ⟨l⟩ := es; simp
      have := hp.modify hn hl v
      obtain ⟨l⟩ := es
      simpa using this
    · rw [stored, if_pos (any_of_findIdx_some (hidx ▸ hi)), keys_map_store]; exact hn
  | none =>
    have hnot : k ∉ kvs.map (·.1) := not_mem_of_findIdx_none (hidx ▸ hi)
    have hany : ¬ (kvs.any fun kv => decide (kv.1 = k)) = true := by
      rw [List.any_eq_true]; rintro ⟨kv, hkv, he⟩
      exact hnot (List.mem_map.mpr ⟨kv, hkv, of_decide_eq_true he⟩)
    refine wpAny_updateDictKeys (hz := hes) ho hd (hQ _ ⟨_, _, ep + 1, Heap.get?_update_self _ ho (Obj.isFreed_of_dict (Obj.data_mapDictKeys hd _)), hc.mapDictKeys _, Obj.data_mapDictKeys hd _, hk.push hkey _, ?_, ?_⟩ (Heap.SameBut.update ..))
    · rw [stored, if_neg hany]
      have := hp.append hkey (knd.hash k) v
      obtain ⟨l⟩ := es
      simpa using this
    · rw [stored, if_neg hany, List.map_append, List.nodup_append]
      refine ⟨hn, by simp, ?_⟩
      intro a ha b hb
      simp only [List.map_cons, List.map_nil, List.mem_singleton] at hb
      subst hb
      exact fun e => hnot (e ▸ ha)
theorem merge_pairs {d o : Addr} {kvs more : List (Key × Value)} {Q : Unit → Shared → Prop} (hdo : d ≠ o) (hoS : (o == sysModules) = false)
    (hd : s.heap.DictOf (mixKind prog w) d kvs) (ho : s.heap.DictOf (mixKind prog w) o more)
    (hQ : ∀ h', h'.DictOf (mixKind prog w) d (merged kvs more) → h'.DictOf (mixKind prog w) o more → Heap.SameBut d s.heap h' → Q () { s with heap := h' })
    (hsz : kvs.length + more.length ≤ sizeLine) : wpAny (model prog w) A (mergeMapping d (.ref o) false) Q E s := by
  obtain ⟨od, esd, epd, hod, hcd, hdd, hkd, hpd, hnd⟩ := id hd
  obtain ⟨oo, eso, epo, hoo, hco, hdo', hko, hpo, hno⟩ := id ho
  have hlen : more.length = eso.size := by rw [← hpo.length]; simp
  unfold mergeMapping
  refine wpAny_bind (wpAny_isInstance ho.typeIs isSubtype_dict_dict ?_)
  simp only [if_true]
  refine wpAny_bind (wpAny_specialOf ho.typeIs F.slot_dict_iter.lookup (wpAny_bind (wpAny_pure ?_)))
  simp only [beq_self_eq_true, hoS, Bool.false_eq_true, if_false]
  refine wpAny_bind (wpAny_dictEntries hod hdd ?_)
  have loop : wpAny (model prog w) A (do
      let l ← dictEntries o
      let epoch ← dictEpoch o
      forIn (List.range l.size) PUnit.unit fun i (_ : PUnit) => (do
          let l' ← dictEntries o
          match l'[i]? with
            | some e => do
              holding [e.key, e.val] (dictPut d e.hash e.key e.val)
              let ep' ← dictEpoch o
              if (ep' != epoch) = true then do
                  (unsupported "dict.changed-during-merge" : Sem PUnit)
                  pure (ForInStep.yield PUnit.unit)
                else pure (ForInStep.yield PUnit.unit)
            | _ => do
              (unsupported "dict.changed-during-merge" : Sem PUnit)
              pure (ForInStep.yield PUnit.unit) : Sem (ForInStep PUnit))
      pure ()) Q E s := by
    refine wpAny_bind (wpAny_dictEntries hoo hdo' (wpAny_bind (wpAny_dictEpoch hoo hdo' (wpAny_bind ?_))))
    refine wpAny_forIn_list _
      (fun rest _ s' => ∃ h' i, s' = { s with heap := h' } ∧ rest = (List.range eso.size).drop i ∧ i ≤ eso.size ∧ h'.DictOf (mixKind prog w) d (merged kvs (more.take i)) ∧ h'.get? o = some oo ∧ Heap.SameBut d s.heap h')
      _ ?_ ?_ _ _ ⟨s.heap, 0, rfl, by simp, Nat.zero_le _, by simpa [merged] using hd, hoo, Heap.SameBut.refl _ _⟩
    · rintro x rest b s' ⟨h', i, rfl, hr, hi, hd', hoo', hs'⟩
      have hlt : i < eso.size := by
        rcases Nat.lt_or_ge i eso.size with h | h
        · exact h
        · rw [List.drop_of_length_le (by rw [List.length_range]; exact h)] at hr
          cases hr
      obtain ⟨rfl, hrest⟩ : x = i ∧ rest = (List.range eso.size).drop (i + 1) := by
        rw [List.drop_eq_getElem_cons (by rw [List.length_range]; exact hlt)] at hr
        injection hr with h1 h2
        rw [List.getElem_range] at h1
        exact ⟨h1, h2⟩
      refine wpAny_bind (wpAny_dictEntries hoo' hdo' ?_)
      rw [Array.getElem?_eq_getElem hlt]
      obtain ⟨kv, hkv⟩ : ∃ kv, more[x]? = some kv := ⟨more[x]'(by rw [hlen]; exact hlt), List.getElem?_eq_getElem _⟩
      obtain ⟨k, v⟩ := kv
      obtain ⟨hkey, hval⟩ := hpo.get? (e := eso[x]) (by simp [hlt]) hkv
      obtain ⟨k', hkey', hhash⟩ := hko eso[x] (Array.getElem_mem hlt)
      obtain rfl : k' = k := (mixKind prog w).inj _ _ _ hkey' hkey
      show wpAny _ _ (holding [eso[x].key, eso[x].val] (dictPut d eso[x].hash eso[x].key eso[x].val) >>= _) _ _ _
      rw [hhash, hval]
      have hmx : (merged kvs (more.take x)).length ≤ sizeLine := by
        have e1 := merged_length_le kvs (more.take x)
        have e2 : (more.take x).length ≤ more.length := by rw [List.length_take]; omega
        omega
      refine wpAny_bind (wpAny_holding (put_pairs (hsz := hmx) hkey hd' fun h'' hd'' hs'' => ?_))
      have hoo'' : h''.get? o = some oo := (hs''.2 o (Ne.symm hdo)).trans hoo'
      refine wpAny_bind (wpAny_dictEpoch hoo'' hdo' ?_)
      rw [if_neg (by simp)]
      exact wpAny_pure ⟨h'', x + 1, rfl, hrest, hlt, by rw [merged_take_succ kvs more x (k', v) hkv]; exact hd'', hoo'', hs'.trans hs''⟩
    · rintro b s' ⟨h', i, rfl, hr, hi, hd', hoo', hs'⟩
      have hin : i = eso.size := by
        rcases Nat.lt_or_ge i eso.size with h | h
        · rw [List.drop_eq_getElem_cons (by rw [List.length_range]; exact h)] at hr
          cases hr
        · exact Nat.le_antisymm hi h
      refine wpAny_pure (hQ h' ?_ ⟨oo, eso, epo, hoo', hco, hdo', hko, hpo, hno⟩ hs')
      rw [hin, ← hlen, List.take_length] at hd'
      exact hd'
  split
  · refine wpAny_bind (wpAny_dictEntries hoo hdo' (wpAny_bind ?_))
    refine wpAny_of_eq (a := PUnit.unit) ?_ ?_
    · rw [← Array.forIn_toList]
      refine forIn_yield_id _ fun e he c => ?_
      obtain ⟨k, hkey, _⟩ := hko e (Array.mem_toList_iff.mp he)
      rcases keyIs_shape (show keyIs k e.key = true from hkey) with ⟨i, t, rfl, e2⟩ | ⟨x, t, rfl, e2⟩
      · rw [e2]
      · rw [e2]
    · exact loop
  · exact loop
theorem gather (f : (Option (Sem Value) × Sem Value) → (Option Addr × List (Sem Value × Sem Value)) → Sem (ForInStep (Option Addr × List (Sem Value × Sem Value)))) (m0 : Option Addr)
    (hf : ∀ (p : Sem Value × Sem Value) (run : List (Sem Value × Sem Value)), run.length + 1 < 17 → f (some p.1, p.2) (m0, run) = pure (.yield (m0, run ++ [p]))) :
    ∀ (items run : List (Sem Value × Sem Value)), run.length + items.length < 17 → forIn (items.map fun p => (some p.1, p.2)) (m0, run) f = pure (m0, run ++ items)
  | [], run, _ => by simp
  | p :: rest, run, h => by
    rw [List.map_cons, List.forIn_cons, hf p run (by simp at h; omega), pure_bind]
    have := gather f m0 hf rest (run ++ [p]) (by simp at h ⊢; omega)
    simpa using this
theorem display_un {vm : Sem Value} {pairs : List (Sem Value × Sem Value)} {Q : Value → Shared → Prop} (h0 : pairs ≠ []) (hlen : pairs.length < 17)
    (h : wpAny (model prog w) A vm (fun m s1 => ∀ E' : Value → Shared → Prop, wpAny (model prog w) A (mergeMapping s.heap.objs.size m false) (fun _ s2 => wpAny (model prog w) A (subDict pairs) (fun sub s3 =>
      ∀ E' : Value → Shared → Prop, wpAny (model prog w) A (mergeMapping s.heap.objs.size (.ref sub) false) (fun _ s4 => Q (.ref s.heap.objs.size) s4) E' s3) E s2) E' s1) E { s with heap := s.heap.push { cls := .type "dict", data := .dict #[] } }) :
    wpAny (model prog w) A (dictDisplay ((none, vm) :: pairs.map fun p => (some p.1, p.2))) Q E s := by
  unfold dictDisplay
  dsimp only
  rw [List.forIn_cons]
  refine wpAny_bind (wpAny_bind ?_)
  dsimp only
  simp only [List.isEmpty_nil, if_true]
  refine wpAny_bind (wpAny_pure ?_)
  refine wpAny_bind (wpAny_alloc (wpAny_bind (wpAny_holding (wpAny_mono h (fun m s1 h1 => ?_) fun _ _ e => e))))
  refine wpAny_bind (wpAny_onRaise (wpAny_tryCatch (wpAny_onRaise (wpAny_holding (wpAny_mono (h1 _) (fun _ s2 h2 => ?_) fun _ _ e => e)))))
  refine wpAny_pure ?_
  dsimp only
  rw [gather _ (some s.heap.objs.size) (fun p run h => by
    have hne : ((run ++ [(p.1, p.2)]).length == 17) = false := by simp; omega
    simp only [hne, Bool.false_eq_true, if_false]) pairs [] (by simpa using hlen)]
  refine wpAny_pure ?_
  rw [List.nil_append]
  refine wpAny_bind ?_
  dsimp only
  rw [if_neg (by simp [h0])]
  refine wpAny_bind (wpAny_holding (wpAny_mono h2 (fun sub s3 h3 => ?_) fun _ _ e => e))
  exact wpAny_bind (wpAny_onRaise (wpAny_holding (wpAny_mono (h3 _) (fun _ s4 h4 => wpAny_pure (wpAny_pure h4)) fun _ _ e => e)))
end
end DUn
namespace L2
open PySem PyProof.Rows
/-- {**d, k: v, ..} with keys ints and texts: the new dict p, the pairs gathered in another q -/
def tDispU (td : TE) (trs : List (TE × TE)) : TE := fun σ H Q => ∀ p, H p = none → td σ (upd H p (.dK [])) fun x H1 => H1 p = some (.dK []) ∧ ∃ m ms, x = V.ref m ∧ m ≠ p ∧ H1 m = some (.dK ms) ∧
  ∀ q, upd H1 p (.dK ms) q = none → tPairs trs σ (upd (upd H1 p (.dK ms)) q (.dK [])) fun ps H3 => H3 p = some (.dK ms) ∧ H3 q = some (.dK []) ∧ ∃ kvs : List (Key × V), ps = kvs.map (fun kv => (kV kv.1, kv.2)) ∧ kvs.length ≤ 15 ∧ ms.length ≤ 1000 ∧
    Q (.ref p) (upd (upd H3 q (.dK (mergeK [] kvs))) p (.dK (mergeK ms (mergeK [] kvs))))
section
variable {X : Cx}
theorem pe_dispU {e : Expr} {pos : Pos} {keys : List (Option Expr)} {values : List Expr} {td : TE} {trs : List (TE × TE)} (hd : PE X e td) (h : PPs X pos keys values trs) (hall : keys.all (·.isSome) = true := by rfl) (hl : keys.length = values.length := by rfl) (h0 : keys ≠ [] := by simp)
    (h15 : keys.length ≤ 15 := by decide) : PE X (.Dict (none :: keys) (e :: values) pos) (tDispU td trs) := by
  refine ⟨fun pins s σ H Q I q => ?_⟩
  have hn := I.hok.fresh (Nat.le_refl s.heap.objs.size)
  have I1 := I.laid (a := s.heap.objs.size) (o := .dK []) (h' := s.heap.push { cls := .type "dict", data := .dict #[] }) (t' := s.toks) (fun _ _ q => Heap.get?_push_of_some _ q) (Nat.le_refl _) (dk_empty s.heap I.big)
  have hpl := pairTrees_length keys values X.env pos hall hl
  rw [arm_eval_Dict]
  refine wpAny_bind (wpAny_standAt ?_)
  show wpAny _ _ (dictDisplay ((none, do let x ← eval e X.env; standAt pos; pure x) :: (evalEachOpt keys X.env).zip ((evalEach values X.env).map fun v => do let x ← v; standAt pos; pure x))) _ _ _
  rw [zip_pairTrees keys values X.env pos hall hl]
  refine DUn.display_un (fun z => by rw [z] at hpl; exact h0 (List.length_eq_zero_iff.mp hpl.symm)) (by omega) ?_
  refine wpAny_bind (thn (hd.run pins _ σ _ _ I1 (q _ hn)) fun v s1 ⟨x, H1, I2, rx, ep, m, ms, ex, hne, em, q2⟩ => ?_)
  subst ex
  obtain rfl : v = Value.ref m := rx
  refine wpAny_bind (wpAny_standAt (wpAny_pure fun E' => ?_))
  obtain ⟨zm, hms, vsM, rM, dM⟩ := dk_of I2.hok em
  obtain ⟨zp, hps, vs0, r0, dp⟩ := dk_of I2.hok ep
  cases r0
  have hvl : vsM.length = ms.length := rM.length.symm
  have hnd : (vsM.map (·.1)).Nodup := by obtain ⟨_, _, _, _, _, _, _, _, n⟩ := dM; exact n
  refine DUn.merge_pairs (Ne.symm hne) hms dp dM (fun h' dd' _ hs => ?_) (by rw [hvl]; simpa using zm)
  rw [merged_nil_of_nodup vsM hnd] at dd'
  have he : ∃ o, h'.get? s.heap.objs.size = some o := let ⟨o, _, _, ho, _⟩ := dd'; ⟨o, ho⟩
  have I3 : Inv X pins σ (upd H1 s.heap.objs.size (.dK ms)) { s1 with heap := h' } := d_write (t' := s1.toks) I2 (by rw [ep]; exact True.intro) hs he (dk_new zm hps rM dd')
  have I4 := I3.laid (a := h'.objs.size) (o := .dK []) (h' := h'.push { cls := .type "dict", data := .dict #[] }) (t' := s1.toks) (fun _ _ q => Heap.get?_push_of_some _ q) (Nat.le_refl _) (dk_empty h' I3.big)
  have hq := I3.hok.fresh (Nat.le_refl h'.objs.size)
  have hpq : s.heap.objs.size ≠ h'.objs.size := fun z => by rw [← z, upd_same] at hq; cases hq
  refine wpAny_subDict (knd := mixKind X.prog X.w) (by rw [hpl]; exact h15) (thn (h.run pins _ σ _ _ I4 (q2 _ hq)) fun ws s2 ⟨ps, H3, I5, rel, e3, e4, kvs, ek, lk, lm, q3⟩ => ?_)
  subst ek
  obtain ⟨rs, c, rk⟩ := carries_of (P := X.prog) (w := X.w) rel
  obtain ⟨zq, hqs, vs1, r1, dq⟩ := dk_of I5.hok e4
  cases r1
  refine ⟨rs, c, dq, fun h2 dd2 hs2 E2 => ?_⟩
  have hz : (mergeK [] kvs).length ≤ sizeLine := by
    have h1 := length_mergeK kvs []
    rw [List.length_nil] at h1
    rw [sizeLine_eq]; omega
  have he2 : ∃ o, h2.get? h'.objs.size = some o := let ⟨o, _, _, ho, _⟩ := dd2; ⟨o, ho⟩
  have I6 : Inv X pins σ (upd H3 h'.objs.size (.dK (mergeK [] kvs))) { s2 with heap := h2, toks := s2.toks + ws.length } := d_write (t' := s2.toks + ws.length) I5 (by rw [e4]; exact True.intro) hs2 he2 (dk_new hz hqs (rk.merge .nil) dd2)
  have ep6 : upd H3 h'.objs.size (.dK (mergeK [] kvs)) s.heap.objs.size = some (.dK ms) := by rw [upd_ne hpq]; exact e3
  obtain ⟨_, hps6, vs6, r6, d6⟩ := dk_of I6.hok ep6
  have hz2 : (mergeK ms (mergeK [] kvs)).length ≤ sizeLine := by
    have h1 := length_mergeK (mergeK [] kvs) ms
    have h2 := length_mergeK kvs []
    rw [List.length_nil] at h2
    rw [sizeLine_eq]; omega
  have hl6 : vs6.length = ms.length := r6.length.symm
  have hlq : (merged [] rs).length = (mergeK [] kvs).length := (rk.merge (vs := []) .nil).length.symm
  refine DUn.merge_pairs hpq hqs d6 dd2 (fun h3 dd3 _ hs3 => ?_) (by
    have h2 := length_mergeK kvs []
    rw [List.length_nil] at h2
    rw [hl6, hlq, sizeLine_eq]; omega)
  have he3 : ∃ o, h3.get? s.heap.objs.size = some o := let ⟨o, _, _, ho, _⟩ := dd3; ⟨o, ho⟩
  exact ⟨.ref s.heap.objs.size, _, d_write (t' := s2.toks + ws.length) I6 (by rw [ep6]; exact True.intro) hs3 he3 (dk_new hz2 hps6 ((rk.merge .nil).merge r6) dd3), rfl, q3⟩
end
end L2

/-! A def held by a local name, called with a star; get of a written dict. -/
namespace L2
open PySem PySem.Spec PyProof.Rows
section
variable {X : Cx} {k i : Nat} {x : Str} {p pos : Pos} {e : Expr} {es : List Expr} {t : TA}
theorem pe_callAS {S : Addr → Option Sp} (A : ∀ f sp, S f = some sp → Held X.prog X.w X.K X.mg X.base k f sp) (hr : Room k X.A) (hN : X.N[i]? = some x) (hv : Vis X.env.scope x) (ha : PA X (e :: es) t)
    (hdb : (x == ("__debug__" : Str)) = false := by decide) (hcd : (x == ("__classdict__" : Str)) = false := by decide)
    (he : starEach (e :: es) X.env = (false, eval e X.env) :: starEach es X.env := by rfl) (hst : (backTo pos (starEach es X.env)).any (·.1) = true := by rfl) : PE X (.Call (.Name x p) (e :: es) [] pos) (tCallA i S t) := by
  refine ⟨fun pins s σ H Q I h => ?_⟩
  obtain ⟨f, sp, hs, hS, ht⟩ := h
  obtain ⟨fd, ps, F, hk, hb⟩ := (A f sp hS).ex
  refine wpAny_Call_Name_kw (thn ((pe_var (pos := p) hN hv hdb hcd).run pins s σ H (fun v H1 => v = .ref f ∧ H1 = H) I ⟨.ref f, hs, rfl, rfl⟩) fun u s1 ⟨v, H1, I1, r1, q1⟩ => ?_)
  obtain ⟨rfl, rfl⟩ := q1
  cases r1
  refine PySem.W.callWith_S2 (h₀ := X.base) I.ok.mod.kin hk (thn (ha.run pos pins s1 σ _ _ I1 ht) fun us s2 ⟨vs, H2, I2, r, q⟩ => ⟨I2.kIn, ?_⟩) he hst
  have r' := run_fn (dvs := []) (ds := []) (E := fun _ _ _ => False) F hr hb .nil (fun _ _ _ _ _ _ _ z => z.elim) I2 r (by rw [List.append_nil]; exact q)
  exact r'
end
/-- d.get(x) of a written dict -/
def tKGet (K : PySem.W.Frag) (w : World) (td ty : TE) : TE := fun σ H Q => td σ H fun x H1 => ∃ a es n, x = .ref a ∧ KDict K w a es n ∧ ty σ H1 fun y H2 => ∃ (z : Str) (r : Option Value) (v : Option V), y = .str z ∧ PySem.W.nsIn K a z = some r ∧ RelO v r ∧ Q (v.getD .non) H2
section
variable {X : Cx} {o e : Expr} {apos cpos : Pos} {td ty : TE}
theorem pe_kget (ho : PE X o td) (he : PE X e ty) (m : M1 X o "get" apos e cpos) : PE X (.Call (.Attribute o "get" apos) [e] [] cpos) (tKGet X.K X.w td ty) := by
  refine ⟨fun pins s σ H Q I h => ?_⟩
  refine wpAny_Call_method m.base m.few m.line PySem.F.plainAttrs_dict PySem.F.slot_dict_get PySem.F.type_dict_get (thn (ho.run pins s σ H _ I h) fun u s1 ⟨x, H1, I1, rx, a, es, n, ex, D, q1⟩ => ?_)
  subst ex
  obtain rfl : u = Value.ref a := rx
  have hT := kd_type D I1
  refine ⟨hT, fun b q => ?_, ?_⟩
  · cases q
    exact ⟨_, I1.kIn _ _ D.at_, rfl⟩
  rw [m.trees]
  refine Calls.callWith_builtin rfl (Calls.evalArgs_plain (Calls.spliced_cons (thn (he.run pins s1 σ H1 _ I1 q1) fun iv s2 ⟨y, H2, I2, ry, z, r, v, ey, en, rv, q2⟩ => Calls.spliced_nil ?_)))
  subst ey
  obtain ⟨t, rfl⟩ := (show ∃ t, iv = Value.str z t from ry)
  have hm := PySem.W.mapOf_K (prog := X.prog) (w := X.w) I2.kIn D.at_ D.lit
  refine call_meetsIn PySem.F.slot_dict_get hm.typeIs PySem.F.entry_dict_get (PySem.F.args_dict_get_2 _ _) (meets_dict_get (strKind X.prog X.w) a (strKind_is X.prog X.w z t) D.low) ⟨_, hm, _, H2, I2.tok _, ?_, q2⟩
  rw [PySem.W.find_K D.at_ en]
  exact rv.getD rfl
end
end L2

namespace Ff
open PySem PySem.Spec PyProof.Rows L2
def topS (i : Nat) : Stmt := PySem.Challenge.pw_findforests_k61_whole_least_costs_of_way.main.body.getD i (.Pass ⟨0, 0, 0, 0⟩)
/-- all but what stands at d is as it was -/
def Sb (d : Addr) (H H' : Hp) : Prop := ∀ b o, b ≠ d → H b = some o → H' b = some o
theorem Sb.refl {d : Addr} {H : Hp} : Sb d H H := fun _ _ _ h => h
theorem Sb.trans {d : Addr} {H H1 H2 : Hp} (a : Sb d H H1) (b : Sb d H1 H2) : Sb d H H2 := fun c o n h => b c o n (a c o n h)
theorem Sb.of {d : Addr} {H H' : Hp} (s : Same H H') : Sb d H H' := fun b o _ h => s b o h
theorem Sb.put {d : Addr} {H : Hp} {o : HO} : Sb d H (upd H d o) := fun b u n h => by rw [upd_ne n]; exact h
theorem same_new {H : Hp} {p : Addr} {o : HO} (h : H p = none) : Same H (upd H p o) := fun b x e => by
  rw [upd_ne (ne_of_none e h)]
  exact e
theorem same_sqt {H : Hp} {K : PySem.W.Frag} {a : Addr} {xs : List V} {H' : Hp} (e : Same H H') (h : SqT K H a xs) : SqT K H' a xs := by
  rcases h with (h | ⟨o, h⟩) | h
  · exact .inl (.inl (e _ _ h))
  · exact .inl (.inr ⟨o, e _ _ h⟩)
  · exact .inr h
/-- the state of the draws: a list of a list of ints and three ints -/
def DrawAt (H : Hp) (d l : Addr) : Prop := ∃ (ns : List Int) (i j k : Int),
  H d = some (.lst [.ref l, .int i, .int j, .int k]) ∧ H l = some (.lst (ns.map V.int)) ∧ 0 ≤ i ∧ 0 ≤ k ∧ k < 2305843009213693951
theorem draw_ne {H : Hp} {d l : Addr} {ns : List Int} {i j k : Int} (h : H d = some (.lst [.ref l, .int i, .int j, .int k])) (h' : H l = some (.lst (ns.map V.int))) : l ≠ d :=
  ne_of h' h (by
    intro z
    cases ns with
    | nil => cases z
    | cons a r => injection z with z; injection z with z _; cases z)
theorem DrawAt.same {H H' : Hp} {d l : Addr} (D : DrawAt H d l) (s : Same H H') : DrawAt H' d l := by
  obtain ⟨ns, i, j, k, h, h', r⟩ := D
  exact ⟨ns, i, j, k, s _ _ h, s _ _ h', r⟩
def spTake : Sp := fun vs H Q _ => ∃ (d l : Addr) (m : Int), vs = [.ref d, .int m] ∧ DrawAt H d l ∧ 1 ≤ m ∧ m.natAbs < 2 ^ 1000 ∧
  ∀ (r : Nat) H', (r : Int) < m → DrawAt H' d l → Sb d H H' → Q (.int r) H'
section
variable {P : Program} {w : World} {K : PySem.W.Frag} {mg : Str → Option Value} {base : Heap}
theorem dix {K : PySem.W.Frag} {H : Hp} {d : Addr} {xs : List V} (h : H d = some (.lst xs)) {k : Nat} {v : V} (e : xs[k]? = some v) : SqL K H d xs ∧ atI xs (k : Int) = some v := ⟨SqL.of h, atI_nat e⟩
end
theorem Sb.sql {K : PySem.W.Frag} {d a : Addr} {H H' : Hp} {xs : List V} (e : Sb d H H') (n : a ≠ d) (h : SqL K H a xs) : SqL K H' a xs := by
  rcases h with (h | ⟨o, h⟩) | h
  · exact .inl (.inl (e _ _ n h))
  · exact .inl (.inr ⟨o, e _ _ n h⟩)
  · exact .inr h
theorem Sb.sqt {K : PySem.W.Frag} {d a : Addr} {H H' : Hp} {xs : List V} (e : Sb d H H') (n : a ≠ d) (h : SqT K H a xs) : SqT K H' a xs := by
  rcases h with (h | ⟨o, h⟩) | h
  · exact .inl (.inl (e _ _ n h))
  · exact .inl (.inr ⟨o, e _ _ n h⟩)
  · exact .inr h
theorem DrawAt.ne {H : Hp} {d l p : Addr} (D : DrawAt H d l) (h : H p = none) : p ≠ d := by
  obtain ⟨ns, i, j, k, e, _⟩ := D
  exact (ne_of_none e h).symm
theorem DrawAt.nel {H : Hp} {d l p : Addr} (D : DrawAt H d l) (h : H p = none) : p ≠ l := by
  obtain ⟨ns, i, j, k, _, e, _⟩ := D
  exact (ne_of_none e h).symm
theorem DrawAt.put {H : Hp} {d l p : Addr} {o : HO} (D : DrawAt H d l) (h : p ≠ d) (h2 : p ≠ l) : DrawAt (upd H p o) d l := by
  obtain ⟨ns, i, j, k, g, g', r⟩ := D
  exact ⟨ns, i, j, k, by rw [upd_ne h.symm]; exact g, by rw [upd_ne h2.symm]; exact g', r⟩
theorem DrawAt.new {H : Hp} {d l p : Addr} {o : HO} (D : DrawAt H d l) (h : H p = none) : DrawAt (upd H p o) d l := D.same (same_new h)
theorem Sb.over {d p : Addr} {H H' : Hp} {o : HO} (e : Sb d H H') (h : H p = none) : Sb d H (upd H' p o) := fun b u n hb => by
  rw [upd_ne (ne_of_none hb h)]
  exact e b u n hb
theorem same_over {p : Addr} {H H' : Hp} {o : HO} (e : Same H H') (h : H p = none) : Same H (upd H' p o) := fun b u hb => by
  rw [upd_ne (ne_of_none hb h)]
  exact e b u hb
theorem Sb.free {d : Addr} {H H' : Hp} (e : Sb d H H') {p : Addr} (n : p ≠ d) (h : H' p = none) : H p = none := by
  cases z : H p with
  | none => rfl
  | some o => rw [e p o n z] at h; cases h
structure Tx (mg : Str → Option Value) : Prop where
  len : mg "len" = none
  range : mg "range" = none
  list : mg "list" = none
  tuple : mg "tuple" = none
  max : mg "max" = none
  min : mg "min" = none
def spOf (K : PySem.W.Frag) : Sp := fun vs H Q _ => ∃ (d l a : Addr) (xs : List V), vs = [.ref d, .ref a] ∧ DrawAt H d l ∧ a ≠ d ∧ SqL K H a xs ∧ 1 ≤ xs.length ∧ xs.length ≤ 1000 ∧
  ∀ (i : Nat) (v : V) H', xs[i]? = some v → DrawAt H' d l → Sb d H H' → Q v H'
def spShuf (K : PySem.W.Frag) : Sp := fun vs H Q _ => ∃ (d l a : Addr) (xs : List V), vs = [.ref d, .ref a] ∧ DrawAt H d l ∧ a ≠ d ∧ SqL K H a xs ∧ xs.length ≤ 1000 ∧
  ∀ (p : Addr) (ys : List V) H', ys.Perm xs → H p = none → p ≠ d → H' p = some (.lst ys) → DrawAt H' d l → Sb d H H' → Q (.ref p) H'
def spSize : Sp := fun vs H Q _ => ∃ (d l : Addr) (m : Nat), vs = [.ref d, .int m] ∧ DrawAt H d l ∧ m ≤ 1000 ∧
  ∀ (r : Nat) H', r ≤ m → DrawAt H' d l → Sb d H H' → Q (.int r) H'
def spStart (K : PySem.W.Frag) : Sp := fun vs H Q _ => ∃ (a : Addr) (ns : List Int), vs = [.ref a] ∧ SqL K H a (ns.map V.int) ∧ ns.length ≤ 63 ∧
  ∀ (d l : Addr) H', H d = none → DrawAt H' d l → Same H H' → Q (.ref d) H'
section
variable {P : Program} {w : World} {K : PySem.W.Frag} {mg : Str → Option Value} {base : Heap}
theorem insert_perm {xs : List V} (i : Nat) (y : V) : (xs.take i ++ [y] ++ xs.drop i).Perm (xs ++ [y]) := by
  rw [List.append_assoc]
  refine (List.Perm.append_left _ (List.perm_append_comm)).trans ?_
  rw [← List.append_assoc, List.take_append_drop]
end
abbrev vi (n : Nat) : V := .int (n : Int)
def natsV (l : List Nat) : List V := l.map vi
def tupOf (n : Nat) (p : Nat → Nat) : List V := (List.range n).map fun v => vi (p v)
theorem tupOf_len (n : Nat) (p : Nat → Nat) : (tupOf n p).length = n := by unfold tupOf; rw [List.length_map, List.length_range]
theorem tupOf_at {n : Nat} {p : Nat → Nat} {i : Nat} (h : i < n) : (tupOf n p)[i]? = some (vi (p i)) := by
  unfold tupOf
  rw [List.getElem?_map, List.getElem?_range h]
  rfl
theorem tupOf_congr {n : Nat} {p q : Nat → Nat} (h : ∀ v, v < n → p v = q v) : tupOf n p = tupOf n q := by
  unfold tupOf
  exact List.map_congr_left fun v hv => by rw [h v (List.mem_range.mp hv)]
theorem tupOf_set {n : Nat} {p : Nat → Nat} {i y : Nat} : (tupOf n p).set i (vi y) = tupOf n (fun v => if v = i then y else p v) := by
  refine List.ext_getElem? fun j => ?_
  rw [List.getElem?_set]
  by_cases hj : j < n
  · rw [tupOf_at hj, tupOf_at hj, tupOf_len]
    by_cases e : i = j
    · subst e
      rw [if_pos rfl, if_pos hj, if_pos rfl]
    · rw [if_neg e, if_neg (fun z => e z.symm)]
  · have z1 : (tupOf n p)[j]? = none := List.getElem?_eq_none (by rw [tupOf_len]; omega)
    have z2 : (tupOf n (fun v => if v = i then y else p v))[j]? = none := List.getElem?_eq_none (by rw [tupOf_len]; omega)
    rw [z1, z2, tupOf_len]
    by_cases e : i = j
    · rw [if_pos e, if_neg (by omega)]
    · rw [if_neg e]
theorem natsV_len (l : List Nat) : (natsV l).length = l.length := List.length_map _
theorem natsV_last (p : Nat → Nat) (k x : Nat) : atI (natsV (path p k x)) (-1) = some (vi (root p k x)) := by
  unfold natsV path
  rw [List.map_append]
  exact atI_last _ _
/-- a list or a tuple that is read -/
def Sq (K : PySem.W.Frag) (H : Hp) (a : Addr) (xs : List V) : Prop := SqL K H a xs ∨ SqT K H a xs
theorem Sq.same {K : PySem.W.Frag} {H H' : Hp} {a : Addr} {xs : List V} (h : Sq K H a xs) (e : Same H H') : Sq K H' a xs := h.imp (fun z => e.seq z) (fun z => same_sqt e z)
theorem Sq.sb {K : PySem.W.Frag} {d : Addr} {H H' : Hp} {a : Addr} {xs : List V} (h : Sq K H a xs) (e : Sb d H H') (n : a ≠ d) : Sq K H' a xs := h.imp (fun z => e.sql n z) (fun z => e.sqt n z)
theorem Sq.ix {K : PySem.W.Frag} {H : Hp} {a : Addr} {xs : List V} (h : Sq K H a xs) {i : Int} {v : V} {Q : VK} (e : atI xs i = some v) (q : Q v H) : rIx K (.ref a) (.int i) H Q := by
  rcases h with z | z
  · exact .inl ⟨a, xs, i, v, rfl, rfl, z, e, q⟩
  · exact .inr (.inl ⟨a, xs, i, v, rfl, rfl, z, e, q⟩)
def spChk (K : PySem.W.Frag) : Sp := fun vs H Q _ => ∃ (a : Addr) (xs : List V) (x : Nat), vs = [.ref a, vi x] ∧ Sq K H a xs ∧ x < xs.length ∧ Q .non H
/-- path_of, and the law's own -/
def spPath (K : PySem.W.Frag) : Sp := fun vs H Q _ => ∃ (a : Addr) (n : Nat) (p : Nat → Nat) (x : Nat), vs = [.ref a, vi x] ∧ Sq K H a (tupOf n p) ∧ n ≤ 1000 ∧ (∀ v, v < n → p v < n) ∧ x < n ∧
  ∀ (q : Addr) H', H q = none → H' q = some (.lst (natsV (path p n x))) → Same H H' → Q (.ref q) H'
def spPathOf (K : PySem.W.Frag) : Sp := fun vs H Q _ => ∃ (a : Addr) (n : Nat) (p r : Nat → Nat) (x : Nat), vs = [.ref a, vi x] ∧ Sq K H a (tupOf n p) ∧ n ≤ 1000 ∧ Fo n p r ∧ x < n ∧
  ∀ (q : Addr) H', H q = none → H' q = some (.lst (natsV (path p n x))) → Same H H' → Q (.ref q) H'
def spRoot (K : PySem.W.Frag) : Sp := fun vs H Q _ => ∃ (a : Addr) (n : Nat) (p : Nat → Nat) (x : Nat), vs = [.ref a, vi x] ∧ Sq K H a (tupOf n p) ∧ n ≤ 1000 ∧ (∀ v, v < n → p v < n) ∧ x < n ∧
  ∀ H', Same H H' → Q (vi (root p n x)) H'
def spFind (K : PySem.W.Frag) : Sp := fun vs H Q _ => ∃ (a : Addr) (n : Nat) (p r : Nat → Nat) (x : Nat), vs = [.ref a, vi x] ∧ Sq K H a (tupOf n p) ∧ n ≤ 1000 ∧ Fo n p r ∧ x < n ∧
  ∀ (t g : Addr) H', H t = none → H g = none → H' t = some (.tup [.ref g, vi (ups p n x).length]) → H' g = some (.tup (tupOf n (fnd n p x))) → Same H H' → Q (.ref t) H'
def spFindAll (K : PySem.W.Frag) : Sp := fun vs H Q _ => ∃ (a b : Addr) (n : Nat) (p r : Nat → Nat) (xs : List Nat), vs = [.ref a, .ref b] ∧ SqT K H a (tupOf n p) ∧ SqL K H b (natsV xs) ∧ n ≤ 1000 ∧ xs.length ≤ 1000 ∧ Fo n p r ∧ (∀ x ∈ xs, x < n) ∧
  ∀ (t g c : Addr) H', H t = none → H c = none → (g = a ∨ H g = none) → H' t = some (.tup [.ref g, .ref c]) → SqT K H' g (tupOf n (fndAll n xs p)) → H' c = some (.lst (natsV (costs n xs p))) → Same H H' → Q (.ref t) H'
/-- an integer that is one of the numbers below -/
def spNum : Sp := fun vs H Q _ => ∃ (n x : Nat), vs = [vi n, vi x] ∧ x < n ∧ Q .non H
def setAll (y : Nat) : List Nat → (Nat → Nat) → Nat → Nat
  | [], p => p
  | v :: l, p => setAll y l (fun u => if u = v then y else p u)
theorem setAll_snoc (y v : Nat) : ∀ (l : List Nat) (p : Nat → Nat), setAll y (l ++ [v]) p = fun u => if u = v then y else setAll y l p u
  | [], _ => rfl
  | a :: l, p => setAll_snoc y v l _
theorem setAll_eq (y : Nat) : ∀ (l : List Nat) (p : Nat → Nat) (u : Nat), setAll y l p u = if u ∈ l then y else p u
  | [], p, u => by rw [if_neg (List.not_mem_nil)]; rfl
  | a :: l, p, u => by
    show setAll y l _ u = _
    rw [setAll_eq y l]
    by_cases h1 : u ∈ l
    · rw [if_pos h1, if_pos (List.mem_cons_of_mem _ h1)]
    · rw [if_neg h1]
      by_cases h2 : u = a
      · rw [if_pos h2, if_pos (by rw [h2]; exact List.mem_cons_self)]
      · rw [if_neg h2, if_neg (fun z => (List.mem_cons.mp z).elim h2 h1)]
theorem fnd_setAll (n : Nat) (p : Nat → Nat) (x : Nat) : setAll (root p n x) (path p n x) p = fnd n p x := by
  funext u
  rw [setAll_eq]
  rfl
theorem path_lt {n : Nat} {p r : Nat → Nat} (F : Fo n p r) {x : Nat} (hx : x < n) : ∀ v ∈ path p n x, v < n := fun v hv => by
  unfold path at hv
  rcases List.mem_append.mp hv with h | h
  · exact (ups_lt F x hx v h).1
  · rw [List.mem_singleton.mp h]; exact root_lt F x hx
theorem ixN_nat {n i : Nat} (h : i < n) : ixN n (i : Int) = some i := by
  unfold ixN
  rw [if_pos (by omega), if_pos (by omega)]
  simp
theorem perm_of_map {α β : Type} {f : α → β} {zs ys : List β} (h : zs.Perm ys) : ∀ l : List α, zs = l.map f → ∃ l' : List α, ys = l'.map f ∧ l.Perm l' := by
  induction h with
  | nil => intro l e; exact ⟨l, e, List.Perm.refl _⟩
  | cons x h ih =>
    intro l e
    cases l with
    | nil => cases e
    | cons a r =>
      injection e with e1 e2
      obtain ⟨l', h1, h2⟩ := ih r e2
      exact ⟨a :: l', by rw [h1, e1]; rfl, h2.cons a⟩
  | swap x y l0 =>
    intro l e
    match l, e with
    | a :: b :: r, e =>
      injection e with e1 e2
      injection e2 with e2 e3
      exact ⟨b :: a :: r, by rw [e1, e2, e3]; rfl, List.Perm.swap _ _ _⟩
  | trans h1 h2 ih1 ih2 =>
    intro l e
    obtain ⟨l1, a, b⟩ := ih1 l e
    obtain ⟨l2, c, d⟩ := ih2 l1 a
    exact ⟨l2, c, b.trans d⟩
theorem rgV_nat (n : Nat) : rgV 0 (n : Int) = natsV (List.range n) := by
  unfold rgV natsV
  rw [show ((n : Int) - 0).toNat = n by omega]
  exact List.map_congr_left fun i _ => by show V.int (0 + (i : Int)) = V.int (i : Int); rw [Int.zero_add]
theorem rgOk_nat {n : Nat} (h : n ≤ 1000) : RgOk 0 (n : Int) := ⟨by decide, by decide, by omega, by omega, by omega⟩
theorem shuf_nats {l : List Nat} {ys : List V} (h : ys.Perm (natsV l)) : ∃ ks : List Nat, ys = natsV ks ∧ ks.Perm l := by
  obtain ⟨l', e, p⟩ := perm_of_map h.symm l rfl
  exact ⟨l', e, p.symm⟩
/-- the assignments of the renaming -/
def asg (ks ps : List Nat) : Nat → Nat → Nat
  | 0 => fun _ => 0
  | i + 1 => fun v => if v = ks.getD i 0 then ks.getD (ps.getD i 0) 0 else asg ks ps i v
theorem getD_inj {ks : List Nat} (nd : ks.Nodup) {i j : Nat} (hi : i < ks.length) (hj : j < ks.length) (e : ks.getD i 0 = ks.getD j 0) : i = j := by
  rw [List.getD_eq_getElem?_getD, List.getD_eq_getElem?_getD, List.getElem?_eq_getElem hi, List.getElem?_eq_getElem hj] at e
  exact (List.getElem_inj nd).mp e
theorem asg_at {ks ps : List Nat} (nd : ks.Nodup) : ∀ i, i ≤ ks.length → ∀ j, j < i → asg ks ps i (ks.getD j 0) = ks.getD (ps.getD j 0) 0
  | 0, _, j, h => by omega
  | i + 1, hi, j, h => by
    show (if ks.getD j 0 = ks.getD i 0 then _ else _) = _
    by_cases e : j = i
    · subst e; rw [if_pos rfl]
    · rw [if_neg (fun z => e (getD_inj nd (by omega) (by omega) z))]
      exact asg_at nd i (by omega) j (by omega)
theorem renamed_fo {ks ps : List Nat} {n : Nat} (hk : ks.Perm (List.range n)) (hp : ∀ j, j < n → ps.getD j 0 ≤ j) : ∃ r, Fo n (asg ks ps n) r := by
  have nd : ks.Nodup := hk.nodup_iff.mpr List.nodup_range
  have hl : ks.length = n := by rw [hk.length_eq, List.length_range]
  have hm : ∀ v, v < n → ∃ j, j < n ∧ ks.getD j 0 = v := fun v hv => by
    obtain ⟨j, hj, e⟩ := List.getElem_of_mem (hk.mem_iff.mpr (List.mem_range.mpr hv))
    exact ⟨j, by omega, by rw [List.getD_eq_getElem?_getD, List.getElem?_eq_getElem hj]; exact e⟩
  have hb : ∀ j, j < n → ks.getD j 0 < n := fun j hj => by
    have hj' : j < ks.length := by omega
    rw [List.getD_eq_getElem?_getD, List.getElem?_eq_getElem hj']
    exact List.mem_range.mp (hk.mem_iff.mp (List.getElem_mem hj'))
  have hi : ∀ j, j < n → ks.idxOf (ks.getD j 0) = j := fun j hj => by
    have hj' : j < ks.length := by omega
    have hmem : ks.getD j 0 ∈ ks := by
      rw [List.getD_eq_getElem?_getD, List.getElem?_eq_getElem hj']
      exact List.getElem_mem hj'
    have h1 := List.idxOf_lt_length_of_mem hmem
    refine getD_inj nd h1 hj' ?_
    rw [List.getD_eq_getElem?_getD, List.getElem?_eq_getElem h1]
    exact List.getElem_idxOf h1
  refine ⟨fun v => ks.idxOf v, fun v hv => ?_, fun v hv => ?_, fun v hv => ?_⟩
  · obtain ⟨j, hj, rfl⟩ := hm v hv
    rw [asg_at nd n (by omega) j hj]
    have := hp j hj
    exact hb _ (by omega)
  · obtain ⟨j, hj, rfl⟩ := hm v hv
    rw [asg_at nd n (by omega) j hj]
    have h1 := hp j hj
    by_cases e : ps.getD j 0 = j
    · exact .inl (by rw [e])
    · exact .inr (by show ks.idxOf _ < ks.idxOf _; rw [hi _ (by omega), hi _ hj]; omega)
  · obtain ⟨j, hj, rfl⟩ := hm v hv
    show ks.idxOf _ < n
    rw [hi j hj]; exact hj
/-- a new forest -/
def spRen (K : PySem.W.Frag) : Sp := fun vs H Q _ => ∃ (d l a : Addr) (ps : List Nat), vs = [.ref d, .ref a] ∧ DrawAt H d l ∧ a ≠ d ∧ SqL K H a (natsV ps) ∧ ps.length ≤ 1000 ∧ (∀ j, j < ps.length → ps.getD j 0 ≤ j) ∧
  ∀ (t : Addr) (p r : Nat → Nat) H', H t = none → H' t = some (.tup (tupOf ps.length p)) → Fo ps.length p r → DrawAt H' d l → Sb d H H' → Q (.ref t) H'
def spFor : Sp := fun vs H Q _ => ∃ (d l : Addr) (n m : Nat), vs = [.ref d, vi n, vi m] ∧ DrawAt H d l ∧ n ≤ 1000 ∧
  ∀ (t : Addr) (p r : Nat → Nat) H', H t = none → H' t = some (.tup (tupOf n p)) → Fo n p r → DrawAt H' d l → Sb d H H' → Q (.ref t) H'
def spSome : Sp := fun vs H Q _ => ∃ (d l : Addr) (m : Nat), vs = [.ref d, vi m] ∧ DrawAt H d l ∧ m ≤ 1000 ∧
  ∀ (t : Addr) (n : Nat) (p r : Nat → Nat) H', n ≤ m → H t = none → H' t = some (.tup (tupOf n p)) → Fo n p r → DrawAt H' d l → Sb d H H' → Q (.ref t) H'
def spNodes : Sp := fun vs H Q _ => ∃ (d l : Addr) (n m : Nat), vs = [.ref d, vi n, vi m] ∧ DrawAt H d l ∧ n ≤ 1000 ∧ m ≤ 500 ∧
  ∀ (a : Addr) (xs : List Nat) H', H a = none → H' a = some (.lst (natsV xs)) → (∀ x ∈ xs, x < n) → xs.length ≤ m → DrawAt H' d l → Sb d H H' → Q (.ref a) H'
theorem rep0 (n : Nat) : (List.replicate n [V.int 0]).flatten = tupOf n (fun _ => 0) := by
  refine List.ext_getElem? fun i => ?_
  have e : (List.replicate n [V.int 0]).flatten = List.replicate n (V.int 0) := by
    induction n with
    | zero => rfl
    | succ n ih => rw [List.replicate_succ, List.flatten_cons, ih]; rfl
  rw [e]
  by_cases h : i < n
  · rw [tupOf_at h, List.getElem?_replicate, if_pos h]; rfl
  · rw [List.getElem?_eq_none (by rw [List.length_replicate]; omega), List.getElem?_eq_none (by rw [tupOf_len]; omega)]
theorem natsV_at {l : List Nat} {i : Nat} (h : i < l.length) : (natsV l)[i]? = some (vi (l.getD i 0)) := by
  unfold natsV
  rw [List.getElem?_map, List.getElem?_eq_getElem h, List.getD_eq_getElem?_getD, List.getElem?_eq_getElem h]
  rfl
section
variable {P : Program} {w : World} {A : Around} {E : Value → Shared → Prop} {s : Shared}
/-- an empty set, new -/
abbrev newSet (w : World) : Obj := { cls := .type "set", dict := none, data := .set #[] 0 (.fresh 0 0 (!w.params.followText "set-order")) }
end
section
variable {P : Program} {w : World} {A : Around} {E : Value → Shared → Prop} {s : Shared}
theorem set_of_ints {l : Addr} {items : Array Value} (ns : List Int) {Q : Value → Shared → Prop} (hh : A.handled = none) (hl : s.heap.IsList l items) (hit : IntsAre items.toList ns) (hb : ns.length + 1 < scanBound)
    (fin : ∀ (h' : Heap) (tk c : Nat), SetR w h' s.heap.objs.size (fun j => decide (j ∈ ns)) c → c ≤ ns.length → (∀ b o, s.heap.get? b = some o → h'.get? b = some o) → Q (.ref s.heap.objs.size) { s with heap := h', toks := tk }) :
    wpAny (model P w) A (call (.type "set") [.ref l]) Q E s := by
  have size_eq : items.size = ns.length := by rw [← Array.length_toList]; exact IntsAre.length hit
  obtain ⟨c, tl, hmro⟩ := F.called_set.mro; have hmade := F.called_set.made; have hsub := F.called_set.sub
  refine wpAny_call (codeAny_of_tree ?_); show wpAny _ _ (callAny (.type "set") _) _ _ _
  refine wpAny_pure ⟨Code.quiet_builtin _ (by decide +kernel), codeAny_builtin F.entry_type_call ?_⟩; rw [Around.under_plain (weight_type_call_type "set" [.ref l] []) rfl]
  have h1 := F.called_set.notType; have h2 := F.called_set.canCreate; have hct := F.typeCall_set_1 (.ref l)
  (repeat (any_goals (first | assumption | wp_step)))
  refine codeAny_mono (code_set_led1 (.ref l) (E := E) (Q₁ := fun obj s1 => obj = .ref s.heap.objs.size ∧ s1 = { s with heap := s.heap.push (newSet w) }) ⟨rfl, rfl⟩) fun r s1 hr => ?_
  match r, hr with
  | .error e, hr => exact hr
  | .ok (.ret obj), hr =>
      obtain ⟨rfl, rfl⟩ := hr
      have at0 : (s.heap.push (newSet w)).get? s.heap.objs.size = some (newSet w) := Heap.get?_push_size _ rfl
      have ty0 : Shared.TypeIs { s with heap := s.heap.push (newSet w) } (.ref s.heap.objs.size) "set" := ⟨_, at0, rfl⟩
      have hli := F.called_set.init.lookup; have hbi := F.called_set.init.bind (.ref s.heap.objs.size)
      (repeat (any_goals (first | assumption | wp_step)))
      refine codeAny_mono (codeAny_call_builtin (R := wants (fun r s2 => r = .none ∧ ∃ h' tk c, s2 = { s with heap := h', toks := tk } ∧ SetR w h' s.heap.objs.size (fun j => decide (j ∈ ns)) c ∧ c ≤ ns.length ∧ (∀ b o, s.heap.get? b = some o → h'.get? b = some o)) E) F.called_set.init.plain F.entry_set_init (check_set_init_1 ty0 ?_)) fun r2 s2 hr2 => ?_
      · obtain ⟨⟨kl, dl, el, sl⟩, hol, hcl, nl, hdl⟩ := hl
        simp only at hcl hdl; subst hcl; subst hdl
        have at1 : (s.heap.push (newSet w)).get? l = some { cls := .type "list", dict := dl, data := .seq items nl, slots := sl } := Heap.get?_push_of_some _ hol
        have hsls := F.sub_list_set; have hslf := F.sub_list_frozenset; have hne : (Value.type "list" == Value.type "dict") = false := by decide
        have isl : (s.heap.push (newSet w)).IsList l items := ⟨_, at1, rfl, nl, rfl⟩
        unfold Builtin.«set.__init__» noKeywords Builtin.Frozenset.updateFrom; generalize hPI : pyIter = PI; wp_walk; subst hPI
        refine wpAny_pyIter_list isl (wpAny_bind (wpAny_runValue ?_))
        have lt0 : l < s.heap.objs.size := Heap.lt_size hol
        have hd3 : A.in1.in1.in1.handled = none := by simp [hh]
        have sz1 : (s.heap.push (newSet w)).objs.size = s.heap.objs.size + 1 := Heap.size_push ..
        have nel : l ≠ (s.heap.push (newSet w)).objs.size := by rw [sz1]; exact Nat.ne_of_lt (Nat.lt_succ_of_lt lt0)
        have out0 : s.heap.objs.size ∉ [(s.heap.push (newSet w)).objs.size, l] := by
          rw [sz1]; intro z
          rcases List.mem_cons.mp z with z | z
          · exact Nat.ne_of_lt (Nat.lt_succ_self _) z
          · exact Nat.ne_of_gt lt0 (List.mem_singleton.mp z)
        have val : ∀ (i : Nat) (v : Value), items[i]? = some v → ∃ k t, ns[i]? = some k ∧ v = .int k t := fun i v hv => by
          have hi : i < ns.length := by rw [← size_eq]; exact (Array.getElem?_eq_some_iff.mp hv).1
          obtain ⟨t, e⟩ := IntsAre.int_at hit i v (by rw [Array.getElem?_toList]; exact hv)
          refine ⟨ns[i], t, List.getElem?_eq_getElem hi, ?_⟩
          rw [e, List.getD_eq_getElem?_getD, List.getElem?_eq_getElem hi]; rfl
        refine set_update_ints ((Walks.list hd3 _ l nel items).toS) s.heap.objs.size out0 ns size_eq hb val (items.size - 0) 0 _ (by omega) (Nat.zero_le _) ⟨⟨_, Heap.get?_push_size _ rfl, rfl, rfl⟩, (isl.push _)⟩ ⟨0, Nat.le_refl 0, setR_new_at (Heap.get?_push_of_some _ at0)⟩ ?_
        rintro ⟨h', g2, d2, t2, o2⟩ c' hm hc' hS'
        obtain rfl : g2 = s.gens := hm.gens
        obtain rfl : d2 = s.drawn := hm.drawn
        obtain rfl : o2 = s.os := hm.os
        show wpAny _ _ _ _ _ _; refine wpAny_pure ?_; show wpAny _ _ (ret Value.none) _ _ _
        refine wpAny_pure ⟨rfl, h', t2, c', rfl, hS', by omega, fun b o e => ?_⟩
        have b0 : b < s.heap.objs.size := Heap.lt_size e
        refine hm.heap b o (fun z => ?_) (Heap.get?_push_of_some _ (Heap.get?_push_of_some _ e))
        rcases List.mem_cons.mp z with z | z
        · exact Nat.ne_of_lt b0 z
        · exact Nat.ne_of_lt (Nat.lt_succ_of_lt b0) ((List.mem_singleton.mp z).trans sz1)
      · match r2, hr2 with
        | .error e, hr2 => exact hr2
        | .ok (.ret r), hr2 =>
            obtain ⟨rfl, h', tk, c', rfl, hS', hc', hk'⟩ := hr2
            (repeat (any_goals (first | assumption | wp_step)))
            exact fin _ _ _ hS' hc' hk'
end
/-- set(xs), a list of ints -/
def rSetI (K : PySem.W.Frag) (w : World) : List V → Hp → VK → Prop := fun xs H Q => ∃ (l : Addr) (ns : List Int), xs = [V.ref l] ∧ SqL K H l (ns.map V.int) ∧ ns.length < 64 ∧
  ∀ (a : Addr) (c : Nat), H a = none → c ≤ ns.length → Q (.ref a) (upd H a (SetO w a (fun j => decide (j ∈ ns)) c))
theorem cr_setI {X : Cx} (hc : X.calm = true) : CallR X (.type "set") (rSetI X.K X.w) := by
  intro pins s σ H xs us Q I r h
  obtain ⟨l, ns, rfl, hl, hf, q⟩ := h
  rw [Vals.ref1 r]
  obtain ⟨its, rv, pl, hz⟩ := I.list hl
  refine set_of_ints (P := X.prog) (w := X.w) ns (I.ok.hd hc) pl.isList (ints_of_vals rv) (by unfold scanBound; omega) fun h' tk c R cl k => ?_
  exact ⟨.ref s.heap.objs.size, upd H s.heap.objs.size (SetO X.w s.heap.objs.size (fun j => decide (j ∈ ns)) c), I.laid (t' := tk) k (Nat.le_refl _) (setO_new R), rfl, q _ c (I.hok.fresh (Nat.le_refl _)) cl⟩
theorem dpAll_ints {K : PySem.W.Frag} {H : Hp} : ∀ l : List Int, DpAll K H (l.map V.int) (l.map PyData.int)
  | [] => .nil
  | x :: r => .cons (.int x) (dpAll_ints r)
theorem lay_ints : ∀ l : List Int, PyData.canLayAll0 (l.map PyData.int) = true
  | [] => by simp [PyData.canLayAll0]
  | x :: r => by simp [PyData.canLayAll0, PyData.canLay0, lay_ints r]
theorem depth_ints : ∀ l : List Int, PyData.depthAll (l.map PyData.int) ≤ 1
  | [] => by simp [PyData.depthAll]
  | x :: r => by
    have := depth_ints r
    simp [PyData.depthAll, PyData.depth]
    omega
theorem shaped_tup (l : List Int) : SeqAt.shaped (.tuple (l.map PyData.int)) = true := by
  unfold SeqAt.shaped
  have := depth_ints l
  simp [PyData.canLay0, lay_ints, PyData.depth]
  omega
def intsOf (n : Nat) (p : Nat → Nat) : List Int := (List.range n).map fun v => (p v : Int)
theorem tupOf_ints (n : Nat) (p : Nat → Nat) : tupOf n p = (intsOf n p).map V.int := by
  unfold tupOf intsOf
  rw [List.map_map]
  rfl
theorem eqv_tup (l : List Int) : PyData.eqv (.tuple (l.map PyData.int)) (.tuple (l.map PyData.int)) = true := SeqAt.eqv_refl _ (SeqAt.canLay_of_shaped (shaped_tup l))
theorem natsV_ints (l : List Nat) : natsV l = (l.map fun n : Nat => (n : Int)).map V.int := by
  unfold natsV
  rw [List.map_map]
  rfl
theorem sum_cast : ∀ l : List Nat, (l.map fun n : Nat => (n : Int)).sum = (l.sum : Nat)
  | [] => rfl
  | x :: r => by
    rw [List.map_cons, List.sum_cons, List.sum_cons, sum_cast r]
    omega
def spLaw (K : PySem.W.Frag) : Sp := fun vs H Q _ => ∃ (a : Addr) (ns : List Int), vs = [.ref a] ∧ SqL K H a (ns.map V.int) ∧ ns.length ≤ 63 ∧ ∀ H', Q (.bl true) H'
theorem DrawAt.net {H : Hp} {d l t : Addr} {xs : List V} (D : DrawAt H d l) (h : H t = some (.tup xs)) : t ≠ d := by
  obtain ⟨ns, i, j, k, e, _⟩ := D
  exact ne_of h e (by intro z; cases z)
theorem cut_last (l : List Nat) (y : Nat) : cutV (natsV (l ++ [y])) none (some (-1)) = natsV l := by
  unfold cutV
  have e1 : HT.sIx (natsV (l ++ [y])).length (natsV (l ++ [y])).length (some (-1)) = l.length := by
    rw [natsV_len, List.length_append, List.length_singleton]
    unfold HT.sIx
    simp
    omega
  rw [e1, HT.sIx_none]
  unfold natsV
  rw [List.map_append]
  simp
theorem flat_nats (l : List Nat) : (natsV l).all flatV = true := by
  unfold natsV
  rw [List.all_eq_true]
  intro v hv
  obtain ⟨n, _, rfl⟩ := List.mem_map.mp hv
  rfl
theorem inV_nats (l : List Nat) (v : Nat) : inV (vi v) (natsV l) = decide (v ∈ l) := by
  unfold inV natsV
  rw [List.any_map]
  refine Bool.eq_iff_iff.mpr ?_
  rw [List.any_eq_true, decide_eq_true_eq]
  constructor
  · rintro ⟨x, hx, e⟩
    have z : ((x : Int) == (v : Int)) = true := e
    have : x = v := by have := eq_of_beq z; omega
    rw [← this]; exact hx
  · intro h
    exact ⟨v, h, by show ((v : Int) == (v : Int)) = true; simp⟩
def markL (n : Nat) (p : Nat → Nat) (l : List Nat) : List Nat := l.flatMap fun x => ups p n x
theorem markL_mem {n : Nat} {p : Nat → Nat} {l : List Nat} {v : Nat} : v ∈ markL n p l ↔ markB n p l v = true := by
  unfold markL markB
  rw [List.mem_flatMap, List.any_eq_true]
  exact ⟨fun ⟨x, a, b⟩ => ⟨x, a, upB_iff.mpr b⟩, fun ⟨x, a, b⟩ => ⟨x, a, upB_iff.mp b⟩⟩
theorem markL_len (n : Nat) (p : Nat → Nat) : ∀ l : List Nat, (markL n p l).length ≤ l.length * n
  | [] => Nat.zero_le _
  | x :: r => by
    have h1 := markL_len n p r
    have h2 := ups_len0 p n x
    show (ups p n x ++ markL n p r).length ≤ (r.length + 1) * n
    rw [List.length_append, Nat.add_mul]
    omega
theorem ints_perm {l : List Nat} {ns : List Int} (h : ns.Perm (l.map fun n : Nat => (n : Int))) : ∃ ys : List Nat, ns.map V.int = natsV ys ∧ ys.Perm l := by
  obtain ⟨ys, e, p⟩ := perm_of_map h.symm l rfl
  exact ⟨ys, by rw [natsV_ints, e], p.symm⟩
theorem ints_of_mem : ∀ {ns : List Int}, (∀ k ∈ ns, ∃ m : Nat, k = (m : Int)) → ∃ ys : List Nat, ns = ys.map fun n : Nat => (n : Int)
  | [], _ => ⟨[], rfl⟩
  | k :: r, h => by
    obtain ⟨m, e⟩ := h k List.mem_cons_self
    obtain ⟨ys, e2⟩ := ints_of_mem (ns := r) fun j hj => h j (List.mem_cons_of_mem _ hj)
    exact ⟨m :: ys, by rw [e, e2]; rfl⟩
/-- a def of the text as the top has left it -/
def DefF (K : PySem.W.Frag) (x : Str) (st : Stmt) : Prop := ∃ (f : Addr) (oc : Value) (od an : Option Addr) (sl : Array (Option Value)) (kV dc pm cd ct : Value),
  PySem.W.nsIn K mainGlobals x = some (some (.ref f)) ∧ K.lookup f = some ⟨oc, od, .func (PySem.W.fnOf x x (defArgs st) (defBody st) (defScope st) .none kV dc pm an cd ct), sl⟩ ∧ PySem.W.codeIn K cd x = true ∧ PySem.W.keepIn K (.ref f) = true
theorem DefF.by {K : PySem.W.Frag} {x : Str} {st : Stmt} {f : Addr} {oc : Value} {od an : Option Addr} {sl : Array (Option Value)} {kV dc pm cd ct : Value} (a : PySem.W.nsIn K mainGlobals x = some (some (.ref f)))
    (l : K.lookup f = some ⟨oc, od, .func (PySem.W.fnOf x x (defArgs st) (defBody st) (defScope st) .none kV dc pm an cd ct), sl⟩) (c : PySem.W.codeIn K cd x = true) (k : PySem.W.keepIn K (.ref f) = true) : DefF K x st := ⟨f, oc, od, an, sl, kV, dc, pm, cd, ct, a, l, c, k⟩
theorem DefF.get {K : PySem.W.Frag} {h : Heap} {mg : Str → Option Value} {x : Str} {st : Stmt} (D : DefF K x st) (X : K.In h) (G : h.Ns mainGlobals mg) : ∃ f fd, Fun K x x st f fd ∧ mg x = some (.ref f) := by
  obtain ⟨f, oc, od, an, sl, kV, dc, pm, cd, ct, a, l, c, k⟩ := D
  exact ⟨f, _, fun_mk (st := st) l c k, PySem.W.mg_of X G a⟩
abbrev sameN : List Str := ["_law_found", "_law_due", "_law_one", "_law_other"]
/-- plain data of at most so many storeys -/
inductive Sm : Nat → PyData → Prop
  | non (n : Nat) : Sm n .none
  | bl (n : Nat) (b : Bool) : Sm n (.bool b)
  | int (n : Nat) (i : Int) : Sm n (.int i)
  | str (n : Nat) (x : Str) : Sm n (.str x)
  | lst {n : Nat} {ds : List PyData} (h : ds.length ≤ 1000) (k : ∀ d ∈ ds, Sm n d) : Sm (n + 1) (.list ds)
  | tup {n : Nat} {ds : List PyData} (h : ds.length ≤ 1000) (k : ∀ d ∈ ds, Sm n d) : Sm (n + 1) (.tuple ds)
def spSame (K : PySem.W.Frag) (n : Nat) : Sp := fun vs H Q _ => ∃ (v u : V) (d : PyData), vs = [v, u] ∧ Dp K H v d ∧ Dp K H u d ∧ Sm n d ∧ ∀ H', Same H H' → Q (.bl true) H'
structure TxS (mg : Str → Option Value) : Prop where
  isinstance : mg "isinstance" = none
  list : mg "list" = none
  tuple : mg "tuple" = none
  bool : mg "bool" = none
  int : mg "int" = none
  str : mg "str" = none
  len : mg "len" = none
  all : mg "all" = none
  zip : mg "zip" = none
section
variable {X : Cx}
theorem pe_ty {x : Str} {n : String} {pos : Pos} (hg : Gl X x) (hm : X.mg x = none) (hv : bootBuiltins x = some (.type n)) (h1 : x ≠ "__name__" := by decide) (h2 : (x == ("__debug__" : Str)) = false := by decide) : PE X (.Name x pos) (tC (.ty n)) := pe_bltn hg hm hv rfl h1 h2
end
theorem kit2 {K : PySem.W.Frag} {t a b : String} {r s : Bool} (h1 : kitB t a = some r) (h2 : kitB t b = some s) : PySem.W.kitAny K (.type t) [.type a, .type b] = some (r || s) :=
  kitAny_cons (kit_ty h1) (fun e => kitAny_cons (kit_ty h2) (fun e2 => by rw [e, e2]; rfl) (fun e2 => by rw [e2, Bool.or_true])) (fun e => by rw [e]; rfl)
theorem dpl_len {K : PySem.W.Frag} {H : Hp} : ∀ {xs : List V} {ds : List PyData}, DpAll K H xs ds → xs.length = ds.length
  | _, _, .nil => rfl
  | _, _, .cons _ r => by rw [List.length_cons, List.length_cons, dpl_len r]
theorem dpl_at {K : PySem.W.Frag} {H : Hp} : ∀ {xs : List V} {ds : List PyData}, DpAll K H xs ds → ∀ {i : Nat} {x : V}, xs[i]? = some x → ∃ d, ds[i]? = some d ∧ Dp K H x d
  | _, _, .cons h r, 0, x, e => ⟨_, rfl, (Option.some.inj e) ▸ h⟩
  | _, _, .cons h r, i + 1, x, e => dpl_at r (i := i) e
mutual
theorem dp_same {K : PySem.W.Frag} {H H' : Hp} (e : Same H H') : ∀ {v : V} {d : PyData}, Dp K H v d → Dp K H' v d
  | _, _, .non => .non
  | _, _, .bl b => .bl b
  | _, _, .int i => .int i
  | _, _, .str x => .str x
  | _, _, .lst s r => .lst (e.seq s) (dpl_same e r)
  | _, _, .tup s r => .tup (same_sqt e s) (dpl_same e r)
theorem dpl_same {K : PySem.W.Frag} {H H' : Hp} (e : Same H H') : ∀ {vs : List V} {ds : List PyData}, DpAll K H vs ds → DpAll K H' vs ds
  | _, _, .nil => .nil
  | _, _, .cons h r => .cons (dp_same e h) (dpl_same e r)
end
theorem tyL {K : PySem.W.Frag} {H : Hp} {a : Addr} {xs : List V} (h : SqL K H a xs) : TyX K H (.ref a) (.type "list") := by
  rcases h with (h | ⟨o, h⟩) | ⟨o, _, _, h, c, _⟩
  · exact .base (.lst h)
  · exact .base (.frz h)
  · exact .kList h c
theorem tyT {K : PySem.W.Frag} {H : Hp} {a : Addr} {xs : List V} (h : SqT K H a xs) : TyX K H (.ref a) (.type "tuple") := by
  rcases h with (h | ⟨o, h⟩) | ⟨o, _, _, h, c, _⟩
  · exact .base (.tup h)
  · exact .fTuple h
  · exact .kTuple h c
abbrev markedN : List Str := ["forest", "nodes", "marked", "node", "passed"]
abbrev afterN : List Str := ["forest", "nodes", "parents", "node"]
abbrev totalN : List Str := ["forest", "nodes", "deep", "lower", "node"]
/-- a def whose promise is known -/
structure Kn (P : Program) (w : World) (K : PySem.W.Frag) (mg : Str → Option Value) (base : Heap) (k : Nat) (x : Str) (st : Stmt) (ps : List Str) (sp : Sp) (f : Addr) (fd : FuncData) : Prop where
  F : Fun K x x st f fd
  G : FnOk P w K mg base CX0 k f fd ps sp
  b : Binds K fd ps []
  g : mg x = some (.ref f)
def spRootOf (K : PySem.W.Frag) : Sp := fun vs H Q _ => ∃ (a : Addr) (n : Nat) (p r : Nat → Nat) (x : Nat), vs = [.ref a, vi x] ∧ Sq K H a (tupOf n p) ∧ n ≤ 1000 ∧ Fo n p r ∧ x < n ∧ ∀ H', Same H H' → Q (vi (root p n x)) H'
def spDepthOf (K : PySem.W.Frag) : Sp := fun vs H Q _ => ∃ (a : Addr) (n : Nat) (p r : Nat → Nat) (x : Nat), vs = [.ref a, vi x] ∧ Sq K H a (tupOf n p) ∧ n ≤ 1000 ∧ Fo n p r ∧ x < n ∧ ∀ H', Same H H' → Q (vi (ups p n x).length) H'
def markS (n : Nat) (p : Nat → Nat) (l : List Nat) : List Nat := (List.range n).filter (markB n p l)
def spMarked (K : PySem.W.Frag) : Sp := fun vs H Q _ => ∃ (a b : Addr) (n : Nat) (p r : Nat → Nat) (xs : List Nat), vs = [.ref a, .ref b] ∧ Sq K H a (tupOf n p) ∧ SqL K H b (natsV xs) ∧ n ≤ 60 ∧ xs.length ≤ 1000 ∧ Fo n p r ∧ (∀ x ∈ xs, x < n) ∧
  ∀ (q : Addr) H', H q = none → H' q = some (.lst (natsV (markS n p xs))) → Same H H' → Q (.ref q) H'
def spAfter (K : PySem.W.Frag) : Sp := fun vs H Q _ => ∃ (a b : Addr) (n : Nat) (p r : Nat → Nat) (xs : List Nat), vs = [.ref a, .ref b] ∧ Sq K H a (tupOf n p) ∧ SqL K H b (natsV xs) ∧ n ≤ 60 ∧ xs.length ≤ 1000 ∧ Fo n p r ∧ (∀ x ∈ xs, x < n) ∧
  ∀ (q : Addr) H', H q = none → H' q = some (.tup (tupOf n (fndAll n xs p))) → Same H H' → Q (.ref q) H'
def spTotal (K : PySem.W.Frag) : Sp := fun vs H Q _ => ∃ (a b : Addr) (n : Nat) (p r : Nat → Nat) (xs : List Nat), vs = [.ref a, .ref b] ∧ Sq K H a (tupOf n p) ∧ SqL K H b (natsV xs) ∧ n ≤ 60 ∧ xs.length ≤ 1000 ∧ Fo n p r ∧ (∀ x ∈ xs, x < n) ∧
  ∀ H', Same H H' → Q (vi (costs n xs p).sum) H'
theorem rise_eq : ∀ {l m : List Int}, l.Pairwise (· < ·) → m.Pairwise (· < ·) → (∀ k, k ∈ l ↔ k ∈ m) → l = m
  | [], [], _, _, _ => rfl
  | [], b :: m, _, _, h => by have := (h b).mpr List.mem_cons_self; cases this
  | a :: l, [], _, _, h => by have := (h a).mp List.mem_cons_self; cases this
  | a :: l, b :: m, hl, hm, h => by
    obtain ⟨h1, h2⟩ := List.pairwise_cons.mp hl
    obtain ⟨g1, g2⟩ := List.pairwise_cons.mp hm
    have e : a = b := by
      rcases List.mem_cons.mp ((h a).mp List.mem_cons_self) with z | z
      · exact z
      · rcases List.mem_cons.mp ((h b).mpr List.mem_cons_self) with y | y
        · exact y.symm
        · have := g1 a z
          have := h1 b y
          omega
    subst e
    rw [rise_eq h2 g2 fun k => ?_]
    constructor
    · intro z
      rcases List.mem_cons.mp ((h k).mp (List.mem_cons_of_mem _ z)) with y | y
      · have := h1 k z; omega
      · exact y
    · intro z
      rcases List.mem_cons.mp ((h k).mpr (List.mem_cons_of_mem _ z)) with y | y
      · have := g1 k z; omega
      · exact y
theorem rise_filter (n : Nat) (f : Nat → Bool) : (((List.range n).filter f).map fun v : Nat => (v : Int)).Pairwise (· < ·) := by
  rw [List.pairwise_map]
  refine List.Pairwise.imp (fun {a b} h => by omega) ((List.pairwise_lt_range (n := n)).filter f)
theorem count_up {n k : Nat} {f g : Nat → Bool} (hk : k < n) (h1 : f k = false) (h2 : ∀ v, g v = (f v || decide (v = k))) : (List.range n).countP g = (List.range n).countP f + 1 := by
  have e := countP_split g f (List.range n)
  have e1 : (List.range n).countP (fun v => g v && f v) = (List.range n).countP f := List.countP_congr fun v _ => by
    rw [h2 v]; cases f v <;> simp
  have e2 : (List.range n).countP (fun v => g v && !f v) = 1 := by
    have z : ∀ v, (g v && !f v) = (v == k) := fun v => by
      rw [h2 v]
      by_cases hv : v = k
      · subst hv; rw [h1]; simp
      · have : (v == k) = false := beq_eq_false_iff_ne.mpr hv
        rw [this]; simp [hv]
    rw [List.countP_congr (q := fun v => v == k) fun v _ => by rw [z v]]
    have c := (List.nodup_range (n := n)).count (a := k)
    rw [if_pos (List.mem_range.mpr hk)] at c
    exact c
  omega
/-- the marked ones hung on their roots, one by one -/
def hang (n : Nat) (p : Nat → Nat) : List Nat → (Nat → Nat) → Nat → Nat
  | [], q => q
  | v :: l, q => hang n p l (fun u => if u = v then root p n v else q u)
theorem hang_snoc (n : Nat) (p : Nat → Nat) (v : Nat) : ∀ (l : List Nat) (q : Nat → Nat), hang n p (l ++ [v]) q = fun u => if u = v then root p n v else hang n p l q u
  | [], _ => rfl
  | a :: l, q => hang_snoc n p v l _
theorem hang_eq (n : Nat) (p : Nat → Nat) : ∀ (l : List Nat) (q : Nat → Nat) (u : Nat), hang n p l q u = if u ∈ l then root p n u else q u
  | [], q, u => by rw [if_neg (List.not_mem_nil)]; rfl
  | a :: l, q, u => by
    show hang n p l _ u = _
    rw [hang_eq n p l]
    by_cases h1 : u ∈ l
    · rw [if_pos h1, if_pos (List.mem_cons_of_mem _ h1)]
    · rw [if_neg h1]
      by_cases h2 : u = a
      · subst h2; rw [if_pos rfl, if_pos List.mem_cons_self]
      · rw [if_neg h2, if_neg (fun z => (List.mem_cons.mp z).elim h2 h1)]
theorem markS_mem {n : Nat} {p : Nat → Nat} {l : List Nat} {v : Nat} : v ∈ markS n p l ↔ v < n ∧ markB n p l v = true := by
  unfold markS
  rw [List.mem_filter, List.mem_range]
theorem markS_len (n : Nat) (p : Nat → Nat) (l : List Nat) : (markS n p l).length ≤ n := by
  unfold markS
  exact Nat.le_trans (List.length_filter_le _ _) (by rw [List.length_range]; exact Nat.le_refl _)
theorem mark_nonroot {n : Nat} {p r : Nat → Nat} (F : Fo n p r) {l : List Nat} (h : ∀ x ∈ l, x < n) {v : Nat} (hm : markB n p l v = true) : v < n ∧ p v ≠ v := by
  unfold markB at hm
  obtain ⟨x, hx, e⟩ := List.any_eq_true.mp hm
  have z := ups_lt F x (h x hx) v (upB_iff.mp e)
  exact ⟨z.1, z.2.1⟩
theorem deep_iff {n : Nat} {p r : Nat → Nat} (F : Fo n p r) {v : Nat} (hv : v < n) (h : p v ≠ v) : deep p v = decide (2 ≤ (ups p n v).length) := by
  unfold deep
  rw [ups_n F hv h]
  refine decide_eq_decide.mpr ?_
  rw [List.length_cons]
  constructor
  · intro z
    rw [ups_n F (F.lt v hv) z, List.length_cons]
    omega
  · intro z e
    rw [ups_of e] at z
    simp at z
structure Pair (K : PySem.W.Frag) (H : Hp) (a b : Addr) (n : Nat) (p q r r' : Nat → Nat) : Prop where
  sa : SqT K H a (tupOf n p)
  sb : SqT K H b (tupOf n q)
  le : n ≤ 60
  fa : Fo n p r
  fb : Fo n q r'
  ro : ∀ v, v < n → (p v = v ↔ q v = v)
theorem Pair.same {K : PySem.W.Frag} {H H' : Hp} {a b : Addr} {n : Nat} {p q r r' : Nat → Nat} (h : Pair K H a b n p q r r') (e : Same H H') : Pair K H' a b n p q r r' := ⟨same_sqt e h.sa, same_sqt e h.sb, h.le, h.fa, h.fb, h.ro⟩
def spNeeded (K : PySem.W.Frag) : Sp := fun vs H Q _ => ∃ (a b : Addr) (n : Nat) (p q r r' : Nat → Nat), vs = [.ref a, .ref b] ∧ Pair K H a b n p q r r' ∧ Way n p q ∧
  ∀ (l : Addr) H', H l = none → H' l = some (.lst (natsV (needS n p q))) → Same H H' → Q (.ref l) H'
def spBar (K : PySem.W.Frag) : Sp := fun vs H Q _ => ∃ (a b : Addr) (n : Nat) (p q r r' : Nat → Nat), vs = [.ref a, .ref b] ∧ Pair K H a b n p q r r' ∧
  (Way n p q → ∀ H', Same H H' → Q .non H') ∧ (¬ Way n p q → ∀ (t : Addr) (x y : Nat) H', H' t = some (.tup [vi x, vi y]) → Same H H' → Q (.ref t) H')
def spWayCost (K : PySem.W.Frag) : Sp := fun vs H Q _ => ∃ (a b : Addr) (n : Nat) (p q r r' : Nat → Nat), vs = [.ref a, .ref b] ∧ Pair K H a b n p q r r' ∧ Way n p q ∧
  ∀ H', Same H H' → Q (vi (costs n (needS n p q) p).sum) H'
theorem behind_roots {n : Nat} {p r : Nat → Nat} (F : Fo n p r) {l : List Nat} (h : ∀ x ∈ l, x < n) (v : Nat) (hv : v < n) : p v = v ↔ fndAll n l p v = v := by
  constructor
  · exact behind_root F h v hv
  · intro e
    rw [behind_eq F l h v hv] at e
    by_cases m : markB n p l v = true
    · rw [if_pos m] at e
      refine Classical.byContradiction fun z => root_ne F hv z e
    · rw [if_neg m] at e; exact e
theorem eqv_ints : ∀ l m : List Int, PyData.eqvAll (l.map PyData.int) (m.map PyData.int) = decide (l = m)
  | [], [] => by simp [PyData.eqvAll]
  | [], b :: m => by simp [PyData.eqvAll]
  | a :: l, [] => by simp [PyData.eqvAll]
  | a :: l, b :: m => by
    rw [List.map_cons, List.map_cons, PyData.eqvAll, eqv_ints l m]
    by_cases e : a = b
    · subst e
      by_cases f : l = m
      · subst f; simp [PyData.eqv]
      · simp [PyData.eqv, f]
    · simp [PyData.eqv, e]
theorem eqv_tups (l m : List Int) : PyData.eqv (.tuple (l.map PyData.int)) (.tuple (m.map PyData.int)) = decide (l = m) := by
  rw [← eqv_ints l m]
  simp [PyData.eqv]
theorem eqv_lsts (l m : List Int) : PyData.eqv (.list (l.map PyData.int)) (.list (m.map PyData.int)) = decide (l = m) := by
  rw [← eqv_ints l m]
  simp [PyData.eqv]
theorem shaped_lst (l : List Int) : SeqAt.shaped (.list (l.map PyData.int)) = true := by
  unfold SeqAt.shaped
  have := depth_ints l
  simp [PyData.canLay0, lay_ints, PyData.depth]
  omega
theorem intsOf_inj {n : Nat} {p q : Nat → Nat} (h : intsOf n p = intsOf n q) {v : Nat} (hv : v < n) : p v = q v := by
  have e := congrArg (fun l : List Int => l[v]?) h
  unfold intsOf at e
  simp only [List.getElem?_map, List.getElem?_range hv, Option.map_some] at e
  have := Option.some.inj e
  omega
theorem natsI (l : List Nat) : natsV l = (l.map fun n : Nat => (n : Int)).map V.int := natsV_ints l
theorem castI {l m : List Nat} (h : (l.map fun n : Nat => (n : Int)) = m.map fun n : Nat => (n : Int)) : l = m := by
  refine List.map_inj_right (f := fun n : Nat => (n : Int)) (fun a b e => by omega) |>.mp h
abbrev Kx (P : Program) (w : World) (K : PySem.W.Frag) (mg : Str → Option Value) (base : Heap) (k : Nat) (x : Str) (st : Stmt) (ps : List Str) (sp : Sp) : Prop := ∃ f fd, Kn P w K mg base k x st ps sp f fd
section
variable {X : Cx} {CX : CXT} {k : Nat} {f : Addr} {fd : FuncData} {ps ks : List Str} {sp : Sp} {g : List Value → List Value → List Value} {gV : List V → List V → List V} {E : XK} {x : Str} {p pos : Pos} {kws : List Keyword} {tk : TA}
theorem pe_kws (F : FnOk X.prog X.w X.K X.mg X.base CX k f fd ps sp) (hr : Room k X.A) (hg : Gl X x) (hm : X.mg x = some (.ref f)) (hk : PySem.W.keepIn X.K (.ref f) = true) (hb : KBinds X.K fd ps ks g gV) (hx : Passes CX X E) (hkw : PK X kws tk)
    (hall : (backToKw pos (keywordEach kws X.env)).all (·.1.isSome) = true := by rfl) (hks : (backToKw pos (keywordEach kws X.env)).filterMap (·.1) = ks := by rfl) (hdb : (x == ("__debug__" : Str)) = false := by decide)
    (hpl : ((backTo pos (starEach [] X.env)).any (·.1) || (backToKw pos (keywordEach kws X.env)).any (·.1.isNone)) = false := by rfl) : PE X (.Call (.Name x p) [] kws pos) (tCallK sp gV E tNil tk) := by
  refine ⟨fun pins s σ H Q I h => wpAny_Call_Name_kw (ld_glob I hg hm (PySem.W.callWith_KW0 (h₀ := X.base) I.ok.mod.kin hk hall ?_ hpl) hdb)⟩
  refine thn (hkw.run pos pins s σ H _ I h) fun ws s2 ⟨zs, H2, I2, rz, q2⟩ => ⟨I2.kIn, ?_⟩
  rw [hks]; exact run_fnk (us := []) (vs := []) F hr hb hx I2 .nil rz q2
end
/-- two parameters, given by keywords in the other order -/
def sw2 {α : Type} : List α → List α → List α
  | [], [b, a] => [a, b]
  | _, _ => []
theorem sw2_rel {vs : List V} {us : List Value} {zs : List V} {ws : List Value} (r : Vals vs us) (s : Vals zs ws) : Vals (sw2 vs zs) (sw2 us ws) := by
  cases r with
  | cons _ _ => exact .nil
  | nil =>
    cases s with
    | nil => exact .nil
    | cons h1 t1 =>
      cases t1 with
      | nil => exact .nil
      | cons h2 t2 =>
        cases t2 with
        | nil => exact .cons h2 (.cons h1 .nil)
        | cons _ _ => exact .nil
theorem Fun.sw {K : PySem.W.Frag} {x qual : Str} {st : Stmt} {f : Addr} {fd : FuncData} {a b : Str} (F : Fun K x qual st f fd)
    (h : ∀ (kV doc pm : Value) (an : Option Addr) (cdv ct : Value) (u v : Value), bindArgs (PySem.W.fnOf x qual (defArgs st) (defBody st) (defScope st) .none kV doc pm an cdv ct) ⟨[], [(b, u), (a, v)]⟩ = pure [(a, v), (b, u)]) : KBinds K fd [a, b] [b, a] sw2 sw2 := by
  obtain ⟨oc, od, kV, doc, pm, an, cdv, ct, osl, rfl, lk, hcd⟩ := F.ex
  refine ⟨fun s us ws _ hl => ?_, sw2_rel⟩
  match us, ws, hl with
  | [], [u, v], _ => exact .of_eq (h kV doc pm an cdv ct u v)
abbrev sTake : Stmt := topS 92
abbrev sStart : Stmt := topS 91
abbrev sOf : Stmt := topS 93
abbrev sShuf : Stmt := topS 94
abbrev sSize : Stmt := topS 96
abbrev sChk : Stmt := topS 27
abbrev sPathOf : Stmt := topS 28
abbrev sFind : Stmt := topS 33
abbrev sFindAll : Stmt := topS 34
abbrev sNum : Stmt := topS 26
abbrev sRen : Stmt := topS 97
abbrev sFor : Stmt := topS 98
abbrev sSome : Stmt := topS 99
abbrev sNodes : Stmt := topS 100
abbrev sSame : Stmt := topS 95
abbrev sRootOf : Stmt := topS 29
abbrev sDepthOf : Stmt := topS 30
abbrev sMarked : Stmt := topS 38
abbrev sAfter : Stmt := topS 39
abbrev sTotal : Stmt := topS 40
theorem scTake : FnScope ["_law_draw", "_law_many", "_law_cell", "_law_digit", "_law_square"] ["_law_draw", "_law_many"] (defScope sTake) := ⟨rfl, rfl, rfl, by decide +kernel, rfl, by decide +kernel, by decide +kernel⟩
theorem scStart : FnScope ["_law_script"] ["_law_script"] (defScope sStart) := ⟨rfl, rfl, rfl, by decide +kernel, rfl, by decide +kernel, by decide +kernel⟩
theorem scOf : FnScope ["_law_draw", "_law_some"] ["_law_draw", "_law_some"] (defScope sOf) := ⟨rfl, rfl, rfl, by decide +kernel, rfl, by decide +kernel, by decide +kernel⟩
theorem scShuf : FnScope ["_law_draw", "_law_some", "_law_found", "_law_one"] ["_law_draw", "_law_some"] (defScope sShuf) := ⟨rfl, rfl, rfl, by decide +kernel, rfl, by decide +kernel, by decide +kernel⟩
theorem scSize : FnScope ["_law_draw", "_law_most"] ["_law_draw", "_law_most"] (defScope sSize) := ⟨rfl, rfl, rfl, by decide +kernel, rfl, by decide +kernel, by decide +kernel⟩
theorem scChk : FnScope ["forest", "node"] ["forest", "node"] (defScope sChk) := ⟨rfl, rfl, rfl, by decide +kernel, rfl, by decide +kernel, by decide +kernel⟩
theorem scPathOf : FnScope ["forest", "node", "path"] ["forest", "node"] (defScope sPathOf) := ⟨rfl, rfl, rfl, by decide +kernel, rfl, by decide +kernel, by decide +kernel⟩
theorem scFind : FnScope ["forest", "node", "path", "parents", "passed"] ["forest", "node"] (defScope sFind) := ⟨rfl, rfl, rfl, by decide +kernel, rfl, by decide +kernel, by decide +kernel⟩
theorem scFindAll : FnScope ["forest", "nodes", "costs", "node", "cost"] ["forest", "nodes"] (defScope sFindAll) := ⟨rfl, rfl, rfl, by decide +kernel, rfl, by decide +kernel, by decide +kernel⟩
theorem scNum : FnScope ["size", "node"] ["size", "node"] (defScope sNum) := ⟨rfl, rfl, rfl, by decide +kernel, rfl, by decide +kernel, by decide +kernel⟩
theorem scRen : FnScope ["_law_draw", "_law_parents", "_law_names", "_law_found", "_law_node"] ["_law_draw", "_law_parents"] (defScope sRen) := ⟨rfl, rfl, rfl, by decide +kernel, rfl, by decide +kernel, by decide +kernel⟩
theorem scFor : FnScope ["_law_draw", "_law_size_here", "_law_many", "_law_pick", "_law_parents", "_law_node", "_law_near", "_law_above"] ["_law_draw", "_law_size_here", "_law_many"] (defScope sFor) := ⟨rfl, rfl, rfl, by decide +kernel, rfl, by decide +kernel, by decide +kernel⟩
theorem scSome : FnScope ["_law_draw", "_law_most"] ["_law_draw", "_law_most"] (defScope sSome) := ⟨rfl, rfl, rfl, by decide +kernel, rfl, by decide +kernel, by decide +kernel⟩
theorem scNodes : FnScope ["_law_draw", "_law_size_here", "_law_most", "_law_some", "_law_k"] ["_law_draw", "_law_size_here", "_law_most"] (defScope sNodes) := ⟨rfl, rfl, rfl, by decide +kernel, rfl, by decide +kernel, by decide +kernel⟩
theorem scSame : FnScope sameN ["_law_found", "_law_due"] (defScope sSame) := ⟨rfl, rfl, rfl, by decide +kernel, rfl, by decide +kernel, by decide +kernel⟩
theorem scRootOf : FnScope ["forest", "node"] ["forest", "node"] (defScope sRootOf) := ⟨rfl, rfl, rfl, by decide +kernel, rfl, by decide +kernel, by decide +kernel⟩
theorem scDepthOf : FnScope ["forest", "node"] ["forest", "node"] (defScope sDepthOf) := ⟨rfl, rfl, rfl, by decide +kernel, rfl, by decide +kernel, by decide +kernel⟩
theorem scMarked : FnScope markedN ["forest", "nodes"] (defScope sMarked) := ⟨rfl, rfl, rfl, by decide +kernel, rfl, by decide +kernel, by decide +kernel⟩
theorem scAfter : FnScope afterN ["forest", "nodes"] (defScope sAfter) := ⟨rfl, rfl, rfl, by decide +kernel, rfl, by decide +kernel, by decide +kernel⟩
theorem scTotal : FnScope totalN ["forest", "nodes"] (defScope sTotal) := ⟨rfl, rfl, rfl, by decide +kernel, rfl, by decide +kernel, by decide +kernel⟩
section
variable {P : Program} {w : World} {K : PySem.W.Frag} {mg : Str → Option Value} {base : Heap}
theorem ok_take {f : Addr} {fd : FuncData} {k : Nat} (F : Fun K "_law_take" "_law_take" sTake f fd) (ml : mg "len" = none) : FnOk P w K mg base CX0 (k + 1) f fd ["_law_draw", "_law_many"] spTake := by
  refine F.ok scTake (fun vs H Q E h => ?_) (fun cdv A outer s H vs Q E hr h => ?_)
  · obtain ⟨d, l, m, rfl, _⟩ := h
    rfl
  · obtain ⟨d, l, m, rfl, hD, hm1, hm2, q⟩ := h
    have c61 : (0 : Int) < 2305843009213693951 := by decide
    refine ⟨_, C8.pss_cut (ps_if (PW.pt (pw_and (pt_cmpR op_lt (pe_ix ix_list (pv 0) pe_int (fun _ _ => rfl)) (pv 1) (nomark _))
        (pw_and1 (pt_cmpR op_lt (pe_ix ix_list (pv 0) pe_int (fun _ _ => rfl)) (pe_callB call_len_seq (by rfl) ml PySem.boot_len (pa_cons (pe_ix ix_list (pv 0) pe_int (fun _ _ => rfl)) pa_nil)) (nomark _)))))
        (pss_cons (ps_set (i := 2) scTake.nd rfl (.inl rfl) (pe_ix ix_list (pe_ix ix_list (pv 0) pe_int (fun _ _ => rfl)) (pe_ix ix_list (pv 0) pe_int (fun _ _ => rfl)) (fun _ _ => rfl)))
        (pss_cons (ps_asg (pe_op op_add (pe_ix ix_list (pv 0) pe_int (fun _ _ => rfl)) pe_int) (pg_sub (pv 0) pe_int set_list))
        (pss_cons (ps_asg pe_int (pg_sub (pv 0) pe_int set_list))
        (C8.pss_cut (ps_if (pt_cmpR op_ge (pv 2) (pe_op op_pow pe_int pe_int) (nomark _)) (pss_one (ps_asg (pv 2) (pg_sub (pv 0) pe_int set_list))) pss_nil)
        (pss_one (ps_asg (pe_op op_mod (pe_op op_add (pe_op op_add (pe_op op_mul (pe_ix ix_list (pv 0) pe_int (fun _ _ => rfl)) pe_int) (pe_op op_mul (pe_op op_mod (pv 2) pe_int) pe_int)) (pe_ix ix_list (pv 0) pe_int (fun _ _ => rfl))) pe_int) (pg_sub (pv 0) pe_int set_list))))))) pss_nil)
      (pss_cons (ps_if (pt_cmpR op_ge (pe_ix ix_list (pv 0) pe_int (fun _ _ => rfl)) (pv 1) (nomark _))
        (pss_cons (ps_set (i := 3) scTake.nd rfl (.inl rfl) (pe_op op_mod (pe_ix ix_list (pv 0) pe_int (fun _ _ => rfl)) (pv 1)))
        (pss_cons (ps_asg (pe_op op_fdivW (pe_ix ix_list (pv 0) pe_int (fun _ _ => rfl)) (pv 1)) (pg_sub (pv 0) pe_int set_list))
        (pss_one (ps_ret (pv 3))))) pss_nil)
      (pss_cons (ps_set (i := 4) scTake.nd rfl (.inl rfl) (pe_op op_mod (pe_op op_mul (pe_ix ix_list (pv 0) pe_int (fun _ _ => rfl)) (pe_ix ix_list (pv 0) pe_int (fun _ _ => rfl))) pe_int))
      (pss_cons (ps_asg (pe_op op_mod (pe_op op_add (pe_op op_add (pe_op op_mul (pv 4) pe_int) (pe_op op_mul (pe_ix ix_list (pv 0) pe_int (fun _ _ => rfl)) pe_int)) pe_int) pe_int) (pg_sub (pv 0) pe_int set_list))
      (pss_one (ps_ret (pe_op op_mod (pe_op op_fdiv (pe_ix ix_list (pv 0) pe_int (fun _ _ => rfl)) pe_int) (pv 1))))))), ?_⟩
    refine ⟨fun σ H' => (∃ c, σ = [some (.ref d), some (.int m), c, none, none]) ∧ DrawAt H' d l ∧ Sb d H H', ?_, ?_⟩
    · obtain ⟨ns, i, j, c, h1, h2, h3, h4, h5⟩ := hD
      have ne := draw_ne h1 h2
      have x1 : atI [V.ref l, V.int i, V.int j, V.int c] 0 = some (.ref l) := rfl
      have x2 : atI [V.ref l, V.int i, V.int j, V.int c] 1 = some (.int i) := rfl
      have x3 : atI [V.ref l, V.int i, V.int j, V.int c] 2 = some (.int j) := rfl
      have x4 : atI [V.ref l, V.int i, V.int j, V.int c] 3 = some (.int c) := rfl
      refine ⟨_, rfl, d, _, _, _, rfl, rfl, SqL.of h1, x3, _, rfl, _, _, rfl, rfl, _, rfl, ite2 (fun e1 => ?_) (fun e1 => ?_)⟩
      · refine ⟨_, rfl, d, _, _, _, rfl, rfl, SqL.of h1, x2, _, rfl, d, _, _, _, rfl, rfl, SqL.of h1, x1, l, _, rfl, .inl (SqL.of h2), _, _, rfl, rfl, _, rfl, ite2 (fun e2 => ?_) (fun e2 => ?_)⟩
        · have hi : i < ((ns.map V.int).length : Int) := of_decide_eq_true e2
          rw [List.length_map] at hi
          obtain ⟨u, rfl⟩ : ∃ u : Nat, i = u := ⟨i.toNat, by omega⟩
          have hu : u < ns.length := by omega
          have gu : (ns.map V.int)[u]? = some (.int ns[u]) := by rw [List.getElem?_map, List.getElem?_eq_getElem hu]; rfl
          refine ⟨_, rfl, d, _, _, _, rfl, rfl, SqL.of h1, x1, _, rfl, d, _, _, _, rfl, rfl, SqL.of h1, x2, l, _, _, _, rfl, rfl, SqL.of h2, atI_nat gu, ?_⟩
          refine ⟨_, rfl, d, _, _, _, rfl, rfl, SqL.of h1, x2, _, _, rfl, rfl, _, rfl, d, _, _, 1, rfl, rfl, h1, rfl, ?_⟩
          refine ⟨_, rfl, d, _, _, 2, rfl, rfl, upd_same, rfl, ?_⟩
          refine ⟨fun σ H' => σ = [some (.ref d), some (.int m), some (.int ns[u]), none, none] ∧ (∃ jj : Int, H' d = some (.lst [.ref l, .int ((u : Int) + 1), .int jj, .int c])) ∧ H' l = some (.lst (ns.map V.int)) ∧ Sb d H H', ?_, ?_⟩
          · refine ⟨_, rfl, _, _, rfl, rfl, ⟨by decide, by decide, by decide⟩, _, _, rfl, rfl, _, rfl, ite2 (fun e3 => ?_) (fun e3 => ?_)⟩
            · refine ⟨_, rfl, _, rfl, d, _, _, 2, rfl, rfl, upd_same, rfl, rfl, ⟨ns[u], upd_same⟩, ?_, ?_⟩
              · rw [upd_ne ne, upd_ne ne, upd_ne ne]; exact h2
              · exact (Sb.put.trans Sb.put).trans Sb.put
            · refine ⟨rfl, ⟨0, upd_same⟩, ?_, ?_⟩
              · rw [upd_ne ne, upd_ne ne]; exact h2
              · exact Sb.put.trans Sb.put
          · rintro σ H2 ⟨rfl, ⟨jj, g1⟩, g2, g3⟩
            have y2 : atI [V.ref l, V.int ((u : Int) + 1), V.int jj, V.int c] 1 = some (.int ((u : Int) + 1)) := rfl
            have y4 : atI [V.ref l, V.int ((u : Int) + 1), V.int jj, V.int c] 3 = some (.int c) := rfl
            refine ⟨_, rfl, d, _, _, _, rfl, rfl, SqL.of g1, y4, _, _, rfl, rfl, .inl ⟨by omega, by omega⟩, _, rfl, _, _, rfl, rfl, c61, _, _, rfl, rfl, .inr ⟨by decide, by decide⟩, _, _, rfl, rfl, _, rfl, d, _, _, _, rfl, rfl, SqL.of g1, y2, _, _, rfl, rfl, _, _, rfl, rfl, c61, _, rfl, d, _, _, 3, rfl, rfl, g1, rfl, ⟨_, rfl⟩, ?_, g3.trans Sb.put⟩
            exact ⟨ns, _, jj, _, upd_same, by rw [upd_ne ne]; exact g2, by omega, Int.emod_nonneg _ (by omega), Int.emod_lt_of_pos _ c61⟩
        · exact ⟨⟨_, rfl⟩, ⟨ns, i, j, c, h1, h2, h3, h4, h5⟩, Sb.refl⟩
      · exact ⟨⟨_, rfl⟩, ⟨ns, i, j, c, h1, h2, h3, h4, h5⟩, Sb.refl⟩
    · rintro σ H1 ⟨⟨c0, rfl⟩, ⟨ns, i, j, c, h1, h2, h3, h4, h5⟩, sb⟩
      have ne := draw_ne h1 h2
      have x3 : atI [V.ref l, V.int i, V.int j, V.int c] 2 = some (.int j) := rfl
      have x4 : atI [V.ref l, V.int i, V.int j, V.int c] 3 = some (.int c) := rfl
      refine ⟨_, rfl, d, _, _, _, rfl, rfl, SqL.of h1, x3, _, rfl, _, _, rfl, rfl, _, rfl, ite2 (fun e1 => ?_) (fun e1 => ?_)⟩
      · have hj : m ≤ j := of_decide_eq_true e1
        refine ⟨_, rfl, d, _, _, _, rfl, rfl, SqL.of h1, x3, _, rfl, _, _, rfl, rfl, (by show (0:Int) < m; omega), ?_⟩
        refine ⟨_, rfl, d, _, _, _, rfl, rfl, SqL.of h1, x3, _, rfl, _, _, rfl, rfl, wide_div (b := 1000) (by omega) hm2 (by decide) (by decide), _, rfl, d, _, _, 2, rfl, rfl, h1, rfl, ?_⟩
        have hb : 0 ≤ j % m := Int.emod_nonneg _ (by omega)
        have hb2 : j % m < m := Int.emod_lt_of_pos _ (by omega)
        obtain ⟨r, er⟩ : ∃ r : Nat, j % m = r := ⟨(j % m).toNat, by omega⟩
        refine ⟨_, rfl, ?_⟩
        show Q (.int (j % m)) _
        rw [er]
        refine q r _ (by omega) ⟨ns, i, j / m, c, upd_same, by rw [upd_ne ne]; exact h2, h3, h4, h5⟩ (sb.trans Sb.put)
      · refine ⟨_, rfl, d, _, _, _, rfl, rfl, SqL.of h1, x4, _, rfl, d, _, _, _, rfl, rfl, SqL.of h1, x4, _, _, rfl, rfl, .inl ⟨by omega, by omega⟩, _, _, rfl, rfl, c61, ?_⟩
        have s0 : 0 ≤ c * c % 2305843009213693951 := Int.emod_nonneg _ (by omega)
        have s1 : c * c % 2305843009213693951 < 2305843009213693951 := Int.emod_lt_of_pos _ c61
        generalize hsq : c * c % 2305843009213693951 = sq at s0 s1
        refine ⟨.int (c * c % 2305843009213693951), rfl, _, _, rfl, rfl, .inl ⟨by rw [hsq]; omega, by rw [hsq]; omega⟩, _, rfl, d, _, _, _, rfl, rfl, SqL.of h1, x4, _, _, rfl, rfl, .inl ⟨by omega, by omega⟩, _, _, rfl, rfl, _, _, rfl, rfl, _, _, rfl, rfl, c61, _, rfl, d, _, _, 3, rfl, rfl, h1, rfl, ?_⟩
        have t0 : 0 ≤ (c * c % 2305843009213693951 * 48271 + c * 16807 + 12345) % 2305843009213693951 := Int.emod_nonneg _ (by omega)
        have t1 : (c * c % 2305843009213693951 * 48271 + c * 16807 + 12345) % 2305843009213693951 < 2305843009213693951 := Int.emod_lt_of_pos _ c61
        refine ⟨_, rfl, d, _, _, _, rfl, rfl, SqL.of upd_same, rfl, _, _, rfl, rfl, ⟨by decide, by decide⟩, _, rfl, _, _, rfl, rfl, (by show (0:Int) < m; omega), ?_⟩
        generalize hz : (c * c % 2305843009213693951 * 48271 + c * 16807 + 12345) % 2305843009213693951 = z at t0 t1
        have b0 : 0 ≤ (z / 1021) % m := Int.emod_nonneg _ (by omega)
        have b1 : (z / 1021) % m < m := Int.emod_lt_of_pos _ (by omega)
        obtain ⟨r, er⟩ : ∃ r : Nat, (z / 1021) % m = r := ⟨((z / 1021) % m).toNat, by omega⟩
        show Q (.int (z / 1021 % m)) _
        rw [er]
        refine q r _ (by omega) ⟨ns, i, j, z, ?_, by rw [upd_ne ne]; exact h2, h3, t0, t1⟩ (sb.trans Sb.put)
        rw [upd_same, ← hz]
        rfl
end
section
variable {P : Program} {w : World} {K : PySem.W.Frag} {mg : Str → Option Value} {base : Heap}
theorem ok_start {f : Addr} {fd : FuncData} {k : Nat} (F : Fun K "_law_start" "_law_start" sStart f fd) (T : Tx mg) : FnOk P w K mg base CX0 (k + 1) f fd ["_law_script"] (spStart K) := by
  refine F.ok scStart (fun vs H Q E h => ?_) (fun cdv A outer s H vs Q E hr h => ?_)
  · obtain ⟨a, ns, rfl, _⟩ := h
    rfl
  · obtain ⟨a, ns, rfl, hS, hlen, q⟩ := h
    refine ⟨_, pss_one (ps_ret (pe_lst (pa_cons (pe_callTy call_list_of (by rfl) T.list (by decide +kernel) (pa_cons (pe_slice sl_list (pv 0) po_none (po_some pe_int)) pa_nil))
      (pa_cons pe_int (pa_cons pe_int (pa_cons (pe_op op_add pe_int (pe_op op_mul pe_int (pe_callB call_len_seq (by rfl) T.len PySem.boot_len (pa_cons (pe_slice sl_list (pv 0) po_none (po_some pe_int)) pa_nil)))) pa_nil)))))), ?_⟩
    have cut : ∃ ms : List Int, cutV (ns.map V.int) none (some 63) = ms.map V.int ∧ ms.length ≤ ns.length := by
      refine ⟨(ns.drop (HT.sIx (ns.map V.int).length 0 none)).take (HT.sIx (ns.map V.int).length (ns.map V.int).length (some 63) - HT.sIx (ns.map V.int).length 0 none), ?_, ?_⟩
      · unfold cutV
        rw [List.map_take, List.map_drop]
      · rw [List.length_take, List.length_drop]
        omega
    obtain ⟨ms, em, hml⟩ := cut
    refine ⟨_, rfl, 63, rfl, a, _, rfl, hS, fun c nc => ?_⟩
    rw [em]
    have s1 : Same H (upd H c (.lst (ms.map V.int))) := same_new nc
    refine ⟨c, _, rfl, .inl (SqL.of upd_same), fun l nl => ?_⟩
    have s2 : Same (upd H c (.lst (ms.map V.int))) (upd (upd H c (.lst (ms.map V.int))) l (.lst (ms.map V.int))) := same_new nl
    refine ⟨_, rfl, 63, rfl, a, _, rfl, s2.seq (s1.seq hS), fun c2 nc2 => ?_⟩
    rw [em]
    have s3 := same_new (o := .lst (ms.map V.int)) nc2
    refine ⟨c2, _, rfl, .inl (SqL.of upd_same), _, _, rfl, rfl, .inl ⟨by decide, by decide⟩, _, _, rfl, rfl, ?_⟩
    refine ⟨by show 4 ≤ sizeLine; decide, fun d nd => ?_⟩
    have s4 := same_new (o := .lst [V.ref l, V.int 0, V.int 0, V.int (9494 + 37 * ((ms.map V.int).length : Int))]) nd
    refine q d l _ (((s1.trans s2).trans s3).free nd) ⟨ms, 0, 0, 9494 + 37 * ((ms.map V.int).length : Int), upd_same, ?_, by omega, by omega, by rw [List.length_map]; omega⟩ (((s1.trans s2).trans s3).trans s4)
    exact s4 _ _ (s3 _ _ upd_same)
end
section
variable {P : Program} {w : World} {K : PySem.W.Frag} {mg : Str → Option Value} {base : Heap}
theorem ok_of {f fT : Addr} {fd fdT : FuncData} (F : Fun K "_law_of" "_law_of" sOf f fd) (GT : FnOk P w K mg base CX0 1 fT fdT ["_law_draw", "_law_many"] spTake) (FT : Fun K "_law_take" "_law_take" sTake fT fdT) (bT : Binds K fdT ["_law_draw", "_law_many"] []) (gT : mg "_law_take" = some (.ref fT)) (T : Tx mg) :
    FnOk P w K mg base CX0 2 f fd ["_law_draw", "_law_some"] (spOf K) := by
  refine F.ok scOf (fun vs H Q E h => ?_) (fun cdv A outer s H vs Q E hr h => ?_)
  · obtain ⟨d, l, a, xs, rfl, _⟩ := h
    rfl
  · obtain ⟨d, l, a, xs, rfl, hD, ne, hS, h1, h2, q⟩ := h
    refine ⟨_, pss_one (ps_ret (pe_ix ix_list (pv 1) (pe_call GT hr (by rfl) gT FT.kp bT .nil pass0 (pa_cons (pv 0) (pa_cons (pe_callB call_len_seq (by rfl) T.len PySem.boot_len (pa_cons (pv 1) pa_nil)) pa_nil))) (fun _ _ => rfl))), ?_⟩
    refine ⟨_, rfl, _, rfl, _, rfl, a, xs, rfl, .inl hS, d, l, xs.length, rfl, hD, by omega, Nat.lt_of_le_of_lt (show _ ≤ 1000 by omega) (by decide +kernel), fun r H' hr' hD' sb => ?_⟩
    have hr2 : r < xs.length := by omega
    exact ⟨a, xs, _, xs[r], rfl, rfl, sb.sql ne hS, atI_nat (List.getElem?_eq_getElem hr2), q r _ H' (List.getElem?_eq_getElem hr2) hD' sb⟩
end
section
variable {P : Program} {w : World} {K : PySem.W.Frag} {mg : Str → Option Value} {base : Heap}
theorem ok_size {f fT fO : Addr} {fd fdT fdO : FuncData} (F : Fun K "_law_size" "_law_size" sSize f fd) (GT : FnOk P w K mg base CX0 1 fT fdT ["_law_draw", "_law_many"] spTake) (FT : Fun K "_law_take" "_law_take" sTake fT fdT) (bT : Binds K fdT ["_law_draw", "_law_many"] []) (gT : mg "_law_take" = some (.ref fT))
    (GO : FnOk P w K mg base CX0 2 fO fdO ["_law_draw", "_law_some"] (spOf K)) (FO : Fun K "_law_of" "_law_of" sOf fO fdO) (bO : Binds K fdO ["_law_draw", "_law_some"] []) (gO : mg "_law_of" = some (.ref fO)) (T : Tx mg) :
    FnOk P w K mg base CX0 3 f fd ["_law_draw", "_law_most"] spSize := by
  refine F.ok scSize (fun vs H Q E h => ?_) (fun cdv A outer s H vs Q E hr h => ?_)
  · obtain ⟨d, l, m, rfl, _⟩ := h
    rfl
  · obtain ⟨d, l, m, rfl, hD, hm, q⟩ := h
    refine ⟨_, pss_one (ps_ret (pe_call GO hr (by rfl) gO FO.kp bO .nil pass0 (pa_cons (pv 0) (pa_cons (pe_lst
      (pa_cons (pe_call GT (hr.mono (by decide)) (by rfl) gT FT.kp bT .nil pass0 (pa_cons (pv 0) (pa_cons (pe_op op_add (pv 1) pe_int) pa_nil)))
      (pa_cons (pe_callB (call_min2 rfl) (by rfl) T.min (by decide +kernel) (pa_cons (pv 1) (pa_cons (pe_call GT (hr.mono (by decide)) (by rfl) gT FT.kp bT .nil pass0 (pa_cons (pv 0) (pa_cons pe_int pa_nil))) pa_nil)))
      (pa_cons (pe_callB (call_min2 rfl) (by rfl) T.min (by decide +kernel) (pa_cons (pv 1) (pa_cons pe_int pa_nil))) pa_nil)))) pa_nil)))), ?_⟩
    refine ⟨_, rfl, _, rfl, _, rfl, _, _, rfl, rfl, d, l, (m : Int) + 1, rfl, hD, by omega, Nat.lt_of_le_of_lt (show _ ≤ 1001 by omega) (by decide +kernel), fun r1 H1 hr1 hD1 sb1 => ?_⟩
    refine ⟨_, rfl, _, rfl, d, l, 8, rfl, hD1, by omega, by decide +kernel, fun r2 H2 hr2 hD2 sb2 => ?_⟩
    refine ⟨_, _, rfl, _, rfl, _, _, rfl, ?_⟩
    have a2 : ∃ z : Nat, (if (r2 : Int) < (m : Int) then (r2 : Int) else (m : Int)) = (z : Int) ∧ z ≤ m := by
      split
      · exact ⟨r2, rfl, by omega⟩
      · exact ⟨m, rfl, Nat.le_refl _⟩
    have a3 : ∃ z : Nat, (if (3 : Int) < (m : Int) then (3 : Int) else (m : Int)) = (z : Int) ∧ z ≤ m := by
      split
      · exact ⟨3, rfl, by omega⟩
      · exact ⟨m, rfl, Nat.le_refl _⟩
    obtain ⟨z2, e2, l2⟩ := a2
    obtain ⟨z3, e3, l3⟩ := a3
    rw [e2, e3]
    refine ⟨by show 3 ≤ sizeLine; decide, fun p np => ?_⟩
    have sb := sb1.trans sb2
    refine ⟨d, l, p, _, rfl, hD2.new np, hD2.ne np, SqL.of upd_same, (by show 1 ≤ 3; decide), (by show 3 ≤ 1000; decide), fun i v H3 hv hD3 sb3 => ?_⟩
    have fin : ∃ z : Nat, v = .int (z : Int) ∧ z ≤ m := by
      match i, hv with
      | 0, hv => exact ⟨r1, (Option.some.inj hv).symm, by omega⟩
      | 1, hv => exact ⟨z2, (Option.some.inj hv).symm, l2⟩
      | 2, hv => exact ⟨z3, (Option.some.inj hv).symm, l3⟩
    obtain ⟨z, rfl, hz⟩ := fin
    exact q z H3 hz hD3 ((sb.trans (Sb.of (same_new np))).trans sb3)
end
section
variable {P : Program} {w : World} {K : PySem.W.Frag} {mg : Str → Option Value} {base : Heap}
theorem ok_shuf {f fT : Addr} {fd fdT : FuncData} (F : Fun K "_law_shuffled" "_law_shuffled" sShuf f fd) (GT : FnOk P w K mg base CX0 1 fT fdT ["_law_draw", "_law_many"] spTake) (FT : Fun K "_law_take" "_law_take" sTake fT fdT) (bT : Binds K fdT ["_law_draw", "_law_many"] []) (gT : mg "_law_take" = some (.ref fT)) (T : Tx mg) :
    FnOk P w K mg base CX0 2 f fd ["_law_draw", "_law_some"] (spShuf K) := by
  refine F.ok scShuf (fun vs H Q E h => ?_) (fun cdv A outer s H vs Q E hr h => ?_)
  · obtain ⟨d, l, a, xs, rfl, _⟩ := h
    rfl
  · obtain ⟨d, l, a, xs, rfl, hD, ne, hS, hl, q⟩ := h
    refine ⟨_, pss_cons (ps_set (i := 2) scShuf.nd rfl (.inl rfl) (pe_lst pa_nil))
      (pss_cons (ps_for PassesOwn.never rfl (pi_list (pv 1)) (pg_name (i := 3) scShuf.nd rfl (.inl rfl))
        (pss_one (ps_expr (pe_bm PySem.F.plainAttrs_list PySem.F.slot_list_insert PySem.F.type_list_insert mt_insert (pv 2)
          (pa_cons (pe_call GT hr (by rfl) gT FT.kp bT .nil pass0 (pa_cons (pv 0) (pa_cons (pe_op op_add (pe_callB call_len_seq (by rfl) T.len PySem.boot_len (pa_cons (pv 2) pa_nil)) pe_int) pa_nil))) (pa_cons (pv 3) pa_nil))))))
      (pss_one (ps_ret (pv 2)))), ?_⟩
    refine ⟨Nat.zero_le _, fun p np => ?_⟩
    have npd : p ≠ d := hD.ne np
    have s1 : Same H (upd H p (.lst [])) := same_new np
    refine ⟨_, rfl, a, rfl, ⟨_, s1.seq hS⟩, ?_⟩
    refine for_list (xs := xs) (fun i σ H' => (∃ c, σ = [some (.ref d), some (.ref a), some (.ref p), c]) ∧ ∃ ys : List V, ys.Perm (xs.take i) ∧ H' p = some (.lst ys) ∧ DrawAt H' d l ∧ Sb d H H') ⟨⟨none, rfl⟩, [], by simp, upd_same, hD.new np, Sb.of s1⟩ ?_ ?_ ?_
    · rintro i σ H' _ ⟨_, ys, _, _, _, sb⟩
      exact sb.sql ne hS
    · rintro i x σ H' hx ⟨⟨c, rfl⟩, ys, hy, hp, hD', sb⟩
      have hyl : ys.length = i := by
        rw [hy.length_eq, List.length_take]
        have := (List.getElem?_eq_some_iff.mp hx).1
        omega
      have hil : i < xs.length := (List.getElem?_eq_some_iff.mp hx).1
      refine ⟨_, rfl, .inl ⟨rfl, _, SqL.of hp⟩, _, rfl, _, rfl, p, ys, rfl, .inl (SqL.of hp), _, _, rfl, rfl, d, l, _, rfl, hD', by omega, Nat.lt_of_le_of_lt (show _ ≤ 1001 by omega) (by decide +kernel), fun r H2 hr2 hD2 sb2 => ?_⟩
      have hp2 : H2 p = some (.lst ys) := sb2 _ _ npd hp
      refine ⟨_, rfl, p, ys, r, x, rfl, rfl, hp2, Nat.lt_of_lt_of_le (show ys.length < 1001 by omega) (by decide), by omega, by omega, ⟨_, rfl⟩, ys.take r ++ [x] ++ ys.drop r, ?_, upd_same, ?_, ?_⟩
      · rw [List.take_add_one, hx]
        exact (insert_perm r x).trans (hy.append_right _)
      · exact hD2.put npd (hD.nel np)
      · exact (sb.trans sb2).over np
    · rintro σ H' ⟨⟨c, rfl⟩, ys, hy, hp, hD', sb⟩
      rw [List.take_length] at hy
      exact ⟨_, rfl, q p ys H' hy np npd hp hD' sb⟩
end
section
variable {P : Program} {w : World} {K : PySem.W.Frag} {mg : Str → Option Value} {base : Heap}
theorem ok_pathOf {f fC : Addr} {fd fdC : FuncData} (F : Fun K "path_of" "path_of" sPathOf f fd) (GC : FnOk P w K mg base CX0 2 fC fdC ["forest", "node"] (spChk K)) (FC : Fun K "check_node" "check_node" sChk fC fdC) (bC : Binds K fdC ["forest", "node"] []) (gC : mg "check_node" = some (.ref fC)) :
    FnOk P w K mg base CX0 3 f fd ["forest", "node"] (spPathOf K) := by
  refine F.ok scPathOf (fun vs H Q E h => ?_) (fun cdv A outer s H vs Q E hr h => ?_)
  · obtain ⟨a, n, p, r, x, rfl, _⟩ := h
    rfl
  · obtain ⟨a, n, p, r, x, rfl, hS, hn, hF, hx, q⟩ := h
    refine ⟨_, pss_cons (ps_expr (pe_call GC hr (by rfl) gC FC.kp bC .nil pass0 (pa_cons (pv 0) (pa_cons (pv 1) pa_nil))))
      (pss_cons (ps_set (i := 2) scPathOf.nd rfl (.inl rfl) (pe_lst (pa_cons (pv 1) pa_nil)))
      (pss_cons (ps_while PassesOwn.never (pt_cmpR op_ne (pe_ix ix_seq (pv 0) (pe_ix ix_list (pv 2) (pe_un un_neg pe_int) (fun _ _ => rfl)) (fun _ _ => rfl)) (pe_ix ix_list (pv 2) (pe_un un_neg pe_int) (fun _ _ => rfl)) (nomark _))
          (pss_one (ps_expr (pe_bm PySem.F.plainAttrs_list PySem.F.slot_list_append PySem.F.type_list_append mt_append (pv 2) (pa_cons (pe_ix ix_seq (pv 0) (pe_ix ix_list (pv 2) (pe_un un_neg pe_int) (fun _ _ => rfl)) (fun _ _ => rfl)) pa_nil)))))
      (pss_one (ps_ret (pv 2))))), ?_⟩
    refine ⟨_, rfl, _, rfl, a, _, x, rfl, hS, by rw [tupOf_len]; exact hx, ?_⟩
    refine ⟨_, rfl, by show 1 ≤ sizeLine; decide, fun c nc => ?_⟩
    have s1 : Same H (upd H c (.lst [vi x])) := same_new nc
    refine ⟨fun m σ H' => ∃ i, m = n - i ∧ i ≤ n ∧ σ = [some (.ref a), some (vi x), some (.ref c)] ∧ H' c = some (.lst (natsV (path p i x))) ∧ Same H H', ⟨n, 0, rfl, Nat.zero_le _, rfl, upd_same, s1⟩, ?_⟩
    rintro m σ H' ⟨i, rfl, hi, rfl, hc, sm⟩
    have hr := root_lt0 hF.lt i x hx
    refine ⟨_, rfl, _, rfl, 1, rfl, c, _, _, _, rfl, rfl, SqL.of hc, natsV_last p i x, (hS.same sm).ix (atI_nat (tupOf_at hr)) ⟨_, rfl, 1, rfl, c, _, _, _, rfl, rfl, SqL.of hc, natsV_last p i x, rfl, _, rfl, ite2 (fun e => ?_) (fun e => ?_)⟩⟩
    · have e' : ¬ p (root p i x) = root p i x := fun z => by
        rw [z] at e
        simp at e
      have hlt : i < n := by
        by_cases z : i = n
        · rw [z] at e'
          exact absurd (root_fix hF x hx) e'
        · omega
      refine ⟨fun σ' H'' => σ' = [some (.ref a), some (vi x), some (.ref c)] ∧ H'' c = some (.lst (natsV (path p (i + 1) x))) ∧ Same H H'', fun σ' H'' ⟨z1, z2, z3⟩ => ⟨n - (i + 1), by omega, i + 1, rfl, hlt, z1, z2, z3⟩, ?_⟩
      refine ⟨_, rfl, .inl ⟨rfl, _, SqL.of hc⟩, _, rfl, _, rfl, 1, rfl, c, _, _, _, rfl, rfl, SqL.of hc, natsV_last p i x, (hS.same sm).ix (atI_nat (tupOf_at hr)) ⟨c, _, _, rfl, rfl, hc, ?_, rfl, ?_, same_over sm nc⟩⟩
      · rw [natsV_len]
        have := path_len0 p i x
        exact Nat.lt_of_le_of_lt (show _ ≤ 1001 by omega) (by decide)
      · rw [upd_same, path_succ, if_neg e']
        unfold natsV
        rw [List.map_append]
        rfl
    · have e' : p (root p i x) = root p i x := by
        have z : ¬ (!decide ((vi (p (root p i x))) = vi (root p i x))) = true := e
        simp at z
        omega
      refine ⟨_, rfl, q c H' nc ?_ sm⟩
      have z := (path_fixed e' (n - i)).1
      rw [show i + (n - i) = n by omega] at z
      rw [z]
      exact hc
end
section
variable {P : Program} {w : World} {K : PySem.W.Frag} {mg : Str → Option Value} {base : Heap}
theorem ok_num {f : Addr} {fd : FuncData} {k : Nat} (F : Fun K "check_number" "check_number" sNum f fd) : FnOk P w K mg base CX0 (k + 1) f fd ["size", "node"] spNum := by
  refine F.ok scNum (fun vs H Q E h => ?_) (fun cdv A outer s H vs Q E hr h => ?_)
  · obtain ⟨n, x, rfl, _⟩ := h
    rfl
  · obtain ⟨n, x, rfl, hx, q⟩ := h
    refine ⟨_, pss_one (ps_if (pt_not (pt_chain op_le op_lt pe_int (pv 1) (pv 0))) (pss_one ps_never) pss_nil), ?_⟩
    have e1 : decide ((0 : Int) ≤ (x : Int)) = true := decide_eq_true (by omega)
    have e2 : decide ((x : Int) < (n : Int)) = true := decide_eq_true (by omega)
    refine ⟨_, rfl, _, _, rfl, rfl, _, rfl, ?_⟩
    show if decide ((0 : Int) ≤ (x : Int)) = true then _ else _
    rw [e1]
    refine iteT ⟨_, rfl, _, _, rfl, rfl, _, rfl, ?_⟩
    show if (!decide ((x : Int) < (n : Int))) = true then _ else _
    rw [e2]
    exact iteF q
end
section
variable {P : Program} {w : World} {K : PySem.W.Frag} {mg : Str → Option Value} {base : Heap}
theorem ok_chk {f fN : Addr} {fd fdN : FuncData} (F : Fun K "check_node" "check_node" sChk f fd) (k1 : Kn P w K mg base 1 "check_number" sNum ["size", "node"] spNum fN fdN) (T : Tx mg) : FnOk P w K mg base CX0 2 f fd ["forest", "node"] (spChk K) := by
  refine F.ok scChk (fun vs H Q E h => ?_) (fun cdv A outer s H vs Q E hr h => ?_)
  · obtain ⟨a, xs, x, rfl, _⟩ := h
    rfl
  · obtain ⟨a, xs, x, rfl, hS, hx, q⟩ := h
    refine ⟨_, pss_one (ps_expr (pe_call k1.G hr (by rfl) k1.g k1.F.kp k1.b .nil pass0 (pa_cons (pe_callB call_len_seq (by rfl) T.len PySem.boot_len (pa_cons (pv 0) pa_nil)) (pa_cons (pv 1) pa_nil)))), ?_⟩
    exact ⟨_, rfl, a, xs, rfl, hS, _, rfl, xs.length, x, rfl, hx, q⟩
end
section
variable {P : Program} {w : World} {K : PySem.W.Frag} {mg : Str → Option Value} {base : Heap}
theorem ok_find {f fP : Addr} {fd fdP : FuncData} (F : Fun K "find" "find" sFind f fd) (GP : FnOk P w K mg base CX0 3 fP fdP ["forest", "node"] (spPathOf K)) (FP : Fun K "path_of" "path_of" sPathOf fP fdP) (bP : Binds K fdP ["forest", "node"] []) (gP : mg "path_of" = some (.ref fP)) (T : Tx mg) :
    FnOk P w K mg base CX0 4 f fd ["forest", "node"] (spFind K) := by
  refine F.ok scFind (fun vs H Q E h => ?_) (fun cdv A outer s H vs Q E hr h => ?_)
  · obtain ⟨a, n, p, r, x, rfl, _⟩ := h
    rfl
  · obtain ⟨a, n, p, r, x, rfl, hS, hn, hF, hx, q⟩ := h
    refine ⟨_, pss_cons (ps_set (i := 2) scFind.nd rfl (.inl rfl) (pe_call GP hr (by rfl) gP FP.kp bP .nil pass0 (pa_cons (pv 0) (pa_cons (pv 1) pa_nil))))
      (pss_cons (ps_set (i := 3) scFind.nd rfl (.inl rfl) (pe_callTy call_list_of (by rfl) T.list (by decide +kernel) (pa_cons (pv 0) pa_nil)))
      (pss_cons (ps_for PassesOwn.never rfl (pi_list (pv 2)) (pg_name (i := 4) scFind.nd rfl (.inl rfl))
        (pss_one (ps_asg (pe_ix ix_list (pv 2) (pe_un un_neg pe_int) (fun _ _ => rfl)) (pg_sub (pv 3) (pv 4) set_list))))
      (pss_one (ps_ret (pe_tup (pa_cons (pe_callTy call_tuple_of (by rfl) T.tuple (by decide +kernel) (pa_cons (pv 3) pa_nil)) (pa_cons (pe_op op_sub (pe_callB call_len_seq (by rfl) T.len PySem.boot_len (pa_cons (pv 2) pa_nil)) pe_int) pa_nil))))))), ?_⟩
    refine ⟨_, rfl, _, rfl, a, n, p, r, x, rfl, hS, hn, hF, hx, fun c H1 nc hc s1 => ?_⟩
    refine ⟨_, rfl, a, _, rfl, hS.same s1, fun l nl => ?_⟩
    have s2 : Same H1 (upd H1 l (.lst (tupOf n p))) := same_new nl
    have nlc : c ≠ l := ne_of_none hc nl
    have nl0 : H l = none := s1.free nl
    refine ⟨_, rfl, c, rfl, ⟨_, s2.seq (SqL.of hc)⟩, ?_⟩
    have hcl : ∀ y ∈ path p n x, y < n := path_lt hF hx
    refine for_list (xs := natsV (path p n x)) (fun i σ H' => (∃ y, σ = [some (.ref a), some (vi x), some (.ref c), some (.ref l), y]) ∧ H' c = some (.lst (natsV (path p n x))) ∧ H' l = some (.lst (tupOf n (setAll (root p n x) ((path p n x).take i) p))) ∧ Same H H')
      ⟨⟨none, rfl⟩, s2 _ _ hc, upd_same, s1.trans s2⟩ (fun i σ H' _ h => SqL.of h.2.1) ?_ ?_
    · rintro i v σ H' hv ⟨⟨y, rfl⟩, hc', hl', sm⟩
      unfold natsV at hv
      rw [List.getElem?_map] at hv
      obtain ⟨u, hu, rfl⟩ := Option.map_eq_some_iff.mp hv
      have hun : u < n := hcl u (List.mem_of_getElem? hu)
      refine ⟨_, rfl, 1, rfl, c, _, _, _, rfl, rfl, SqL.of hc', natsV_last p n x, _, rfl, _, rfl, l, _, _, u, rfl, rfl, hl', by rw [tupOf_len]; exact ixN_nat hun, ⟨_, rfl⟩, by rw [upd_ne nlc]; exact hc', ?_, same_over sm nl0⟩
      rw [upd_same, tupOf_set, List.take_add_one, hu]
      show some (HO.lst _) = some (HO.lst (tupOf n (setAll (root p n x) ((path p n x).take i ++ [u]) p)))
      rw [setAll_snoc]
    · rintro σ H' ⟨⟨y, rfl⟩, hc', hl', sm⟩
      rw [natsV_len, List.take_length, fnd_setAll] at hl'
      refine ⟨_, rfl, l, _, rfl, .inl ⟨SqL.of hl', fun g ng => ?_⟩⟩
      have s3 := same_new (o := .tup (tupOf n (fnd n p x))) ng
      refine ⟨_, rfl, c, _, rfl, .inl (SqL.of (s3 _ _ hc')), _, _, rfl, rfl, by show 2 ≤ sizeLine; decide, fun t nt => ?_⟩
      have el : ((natsV (path p n x)).length : Int) - 1 = ((ups p n x).length : Int) := by
        rw [natsV_len]
        unfold path
        rw [List.length_append, List.length_singleton]
        omega
      have s4 := same_new (o := .tup [V.ref g, vi (ups p n x).length]) nt
      show Q (.ref t) (upd (upd H' g (.tup (tupOf n (fnd n p x)))) t (.tup [V.ref g, .int (((natsV (path p n x)).length : Int) - 1)]))
      rw [el]
      refine q t g _ ((sm.trans s3).free nt) (sm.free ng) upd_same (s4 _ _ upd_same) ((sm.trans s3).trans s4)
end
section
variable {P : Program} {w : World} {K : PySem.W.Frag} {mg : Str → Option Value} {base : Heap}
theorem ok_findAll {f fP : Addr} {fd fdP : FuncData} (F : Fun K "find_all" "find_all" sFindAll f fd) (GP : FnOk P w K mg base CX0 4 fP fdP ["forest", "node"] (spFind K)) (FP : Fun K "find" "find" sFind fP fdP) (bP : Binds K fdP ["forest", "node"] []) (gP : mg "find" = some (.ref fP)) :
    FnOk P w K mg base CX0 5 f fd ["forest", "nodes"] (spFindAll K) := by
  refine F.ok scFindAll (fun vs H Q E h => ?_) (fun cdv A outer s H vs Q E hr h => ?_)
  · obtain ⟨a, b, n, p, r, xs, rfl, _⟩ := h
    rfl
  · obtain ⟨a, b, n, p, r, xs, rfl, hS, hB, hn, hxl, hF, hx, q⟩ := h
    refine ⟨_, pss_cons (ps_set (i := 2) scFindAll.nd rfl (.inl rfl) (pe_lst pa_nil))
      (pss_cons (ps_for PassesOwn.never rfl (pi_list (pv 1)) (pg_name (i := 3) scFindAll.nd rfl (.inl rfl))
        (pss_cons (ps_asg (pe_call GP hr (by rfl) gP FP.kp bP .nil pass0 (pa_cons (pv 0) (pa_cons (pv 3) pa_nil))) (pg_tup rfl (pgs_cons (pg_name (i := 0) scFindAll.nd rfl (.inl rfl)) (pgs_cons (pg_name (i := 4) scFindAll.nd rfl (.inl rfl)) pgs_nil))))
        (pss_one (ps_expr (pe_bm PySem.F.plainAttrs_list PySem.F.slot_list_append PySem.F.type_list_append mt_append (pv 2) (pa_cons (pv 4) pa_nil))))))
      (pss_one (ps_ret (pe_tup (pa_cons (pv 0) (pa_cons (pv 2) pa_nil)))))), ?_⟩
    refine ⟨Nat.zero_le _, fun c nc => ?_⟩
    have s1 : Same H (upd H c (.lst [])) := same_new nc
    refine ⟨_, rfl, b, rfl, ⟨_, s1.seq hB⟩, ?_⟩
    refine for_list (xs := natsV xs) (fun i σ H' => (∃ g y z, σ = [some (.ref g), some (.ref b), some (.ref c), y, z] ∧ (g = a ∨ H g = none) ∧ SqT K H' g (tupOf n (fndAll n (xs.take i) p))) ∧ H' c = some (.lst (natsV (costs n (xs.take i) p))) ∧ Same H H')
      ⟨⟨a, none, none, rfl, .inl rfl, same_sqt s1 hS⟩, upd_same, s1⟩ (fun i σ H' _ h => h.2.2.seq hB) ?_ ?_
    · rintro i v σ H' hv ⟨⟨g, y, z, rfl, hga, hg⟩, hc, sm⟩
      unfold natsV at hv
      rw [List.getElem?_map] at hv
      obtain ⟨u, hu, rfl⟩ := Option.map_eq_some_iff.mp hv
      have hun : u < n := hx u (List.mem_of_getElem? hu)
      have hF' : Fo n (fndAll n (xs.take i) p) r := fndAll_fo hF _ (fun x hx' => hx x (List.mem_of_mem_take hx')) p hF
      refine ⟨_, rfl, _, rfl, g, n, _, r, u, rfl, .inr hg, hn, hF', hun, fun t g2 H2 nt ng2 ht hg2 s2 => ?_⟩
      refine ⟨t, _, rfl, SqT.of ht, rfl, _, _, rfl, _, _, rfl, rfl, ?_⟩
      have hc2 := s2 _ _ hc
      have hcn : c ≠ g2 := ne_of_none hc ng2
      refine ⟨_, rfl, .inl ⟨rfl, _, SqL.of hc2⟩, _, rfl, c, _, _, rfl, rfl, hc2, ?_, ⟨g2, _, _, rfl, .inr (sm.free ng2), ?_⟩, ?_, same_over (sm.trans s2) nc⟩
      · rw [natsV_len, costs_len, List.length_take]
        exact Nat.lt_of_le_of_lt (show _ ≤ 1000 by omega) (by decide)
      · have e : fndAll n (xs.take (i + 1)) p = fnd n (fndAll n (xs.take i) p) u := by
          rw [List.take_add_one, hu]
          exact fndAll_snoc n _ u p
        rw [e]
        exact SqT.of (by rw [upd_ne hcn.symm]; exact hg2)
      · rw [upd_same]
        have e : costs n (xs.take (i + 1)) p = costs n (xs.take i) p ++ [(ups (fndAll n (xs.take i) p) n u).length] := by
          rw [List.take_add_one, hu]
          exact costs_snoc n _ u p
        rw [e]
        unfold natsV
        rw [List.map_append]
        rfl
    · rintro σ H' ⟨⟨g, y, z, rfl, hga, hg⟩, hc, sm⟩
      rw [natsV_len, List.take_length] at hg hc
      refine ⟨_, rfl, _, rfl, by show 2 ≤ sizeLine; decide, fun t nt => ?_⟩
      have s4 := same_new (o := .tup [V.ref g, V.ref c]) nt
      exact q t g c _ (sm.free nt) nc hga upd_same (same_sqt s4 hg) (s4 _ _ hc) (sm.trans s4)
end
section
variable {P : Program} {w : World} {K : PySem.W.Frag} {mg : Str → Option Value} {base : Heap}
theorem ok_ren {f fS : Addr} {fd fdS : FuncData} (F : Fun K "_law_renamed" "_law_renamed" sRen f fd) (GS : FnOk P w K mg base CX0 2 fS fdS ["_law_draw", "_law_some"] (spShuf K)) (FS : Fun K "_law_shuffled" "_law_shuffled" sShuf fS fdS) (bS : Binds K fdS ["_law_draw", "_law_some"] []) (gS : mg "_law_shuffled" = some (.ref fS)) (T : Tx mg) :
    FnOk P w K mg base CX0 3 f fd ["_law_draw", "_law_parents"] (spRen K) := by
  refine F.ok scRen (fun vs H Q E h => ?_) (fun cdv A outer s H vs Q E hr h => ?_)
  · obtain ⟨d, l, a, ps, rfl, _⟩ := h
    rfl
  · obtain ⟨d, l, a, ps, rfl, hD, ne, hS, hl, hps, q⟩ := h
    refine ⟨_, pss_cons (ps_set (i := 2) scRen.nd rfl (.inl rfl) (pe_call GS hr (by rfl) gS FS.kp bS .nil pass0 (pa_cons (pv 0) (pa_cons (pe_listRg rfl (by rfl) T.list (prg_1 (by rfl) T.range (pe_callB call_len_seq (by rfl) T.len PySem.boot_len (pa_cons (pv 1) pa_nil)))) pa_nil))))
      (pss_cons (ps_set (i := 3) scRen.nd rfl (.inl rfl) (pe_op op_rep (pe_lst (pa_cons pe_int pa_nil)) (pe_callB call_len_seq (by rfl) T.len PySem.boot_len (pa_cons (pv 1) pa_nil))))
      (pss_cons (ps_for PassesOwn.never rfl (pi_range1 (by rfl) T.range (pa_cons (pe_callB call_len_seq (by rfl) T.len PySem.boot_len (pa_cons (pv 1) pa_nil)) pa_nil)) (pg_name (i := 4) scRen.nd rfl (.inl rfl))
        (pss_one (ps_asg (pe_ix ix_list (pv 2) (pe_ix ix_list (pv 1) (pv 4) (fun _ _ => rfl)) (fun _ _ => rfl)) (pg_sub (pv 3) (pe_ix ix_list (pv 2) (pv 4) (fun _ _ => rfl)) set_list))))
      (pss_one (ps_ret (pe_callTy call_tuple_of (by rfl) T.tuple (by decide +kernel) (pa_cons (pv 3) pa_nil)))))), ?_⟩
    refine ⟨_, rfl, _, rfl, a, _, rfl, .inl hS, _, rfl, ?_⟩
    rw [natsV_len]
    refine ⟨rgOk_nat hl, fun c nc => ?_⟩
    rw [rgV_nat]
    have s1 := same_new (o := .lst (natsV (List.range ps.length))) nc
    refine ⟨d, l, c, _, rfl, hD.new nc, hD.ne nc, SqL.of upd_same, by rw [natsV_len, List.length_range]; exact hl, fun nm ys H1 hy nnm nnd hnm hD1 sb1 => ?_⟩
    obtain ⟨ks, rfl, hk⟩ := shuf_nats hy
    have hkl : ks.length = ps.length := by rw [hk.length_eq, List.length_range]
    have sbA : Sb d H H1 := (Sb.of s1).trans sb1
    refine ⟨by show 1 ≤ sizeLine; decide, fun z nz => ?_⟩
    have s2 := same_new (o := .lst [V.int 0]) nz
    have sbB : Sb d H (upd H1 z (.lst [V.int 0])) := sbA.trans (Sb.of s2)
    refine ⟨_, rfl, a, _, rfl, .inl (sbB.sql ne hS), z, _, _, rfl, rfl, upd_same, by omega, by rw [natsV_len]; omega, ?_, fun g ng => ?_⟩
    · rw [natsV_len]
      show 1 * _ ≤ sizeLine
      exact Nat.le_trans (show _ ≤ 1000 by omega) (by decide)
    rw [natsV_len, show ((ps.length : Nat) : Int).toNat = ps.length by omega, rep0]
    have s3 := same_new (o := .lst (tupOf ps.length fun _ => 0)) ng
    have sbC := sbB.trans (Sb.of s3)
    have hnmC := s3 _ _ (s2 _ _ hnm)
    have hDC : DrawAt (upd (upd H1 z (.lst [V.int 0])) g (.lst (tupOf ps.length fun _ => 0))) d l := (hD1.new nz).new ng
    have ngd : g ≠ d := (hD1.new nz).ne ng
    have ngl : g ≠ l := (hD1.new nz).nel ng
    have ng0 : H g = none := sbB.free ngd ng
    have ngn : nm ≠ g := ne_of_none (s2 _ _ hnm) ng
    refine ⟨_, rfl, a, _, rfl, .inl (sbC.sql ne hS), _, rfl, by rw [natsV_len]; omega, by rw [natsV_len]; omega, ?_⟩
    rw [natsV_len]
    refine for_range (lo := 0) (n := ((ps.length : Nat) : Int).toNat) (fun i σ H' => (∃ y, σ = [some (.ref d), some (.ref a), some (.ref nm), some (.ref g), y]) ∧ H' nm = some (.lst (natsV ks)) ∧ H' g = some (.lst (tupOf ps.length (asg ks ps i))) ∧ DrawAt H' d l ∧ Sb d H H') ⟨⟨none, rfl⟩, hnmC, upd_same, hDC, sbC⟩ ?_ ?_
    · rintro i σ H' hi ⟨⟨y, rfl⟩, h1, h2, h3, h4⟩
      have hi' : i < ps.length := by omega
      have hpi := hps i hi'
      have hki : ks.getD i 0 < ps.length := by
        have hj' : i < ks.length := by omega
        rw [List.getD_eq_getElem?_getD, List.getElem?_eq_getElem hj']
        exact List.mem_range.mp (hk.mem_iff.mp (List.getElem_mem hj'))
      refine ⟨_, rfl, _, rfl, _, rfl, a, _, _, _, rfl, rfl, h4.sql ne hS, ?_, nm, _, _, _, rfl, rfl, SqL.of h1, atI_nat (natsV_at (show ps.getD i 0 < ks.length by omega)), _, rfl, _, rfl, _, rfl, nm, _, _, _, rfl, rfl, SqL.of h1, ?_, g, _, _, ks.getD i 0, rfl, rfl, h2, by rw [tupOf_len]; exact ixN_nat hki, ⟨_, rfl⟩, by rw [upd_ne ngn]; exact h1, ?_, h3.put ngd ngl, h4.over ng0⟩
      · show atI (natsV ps) (0 + (i : Int)) = _
        rw [Int.zero_add]
        exact atI_nat (natsV_at hi')
      · show atI (natsV ks) (0 + (i : Int)) = _
        rw [Int.zero_add]
        exact atI_nat (natsV_at (by omega))
      · rw [upd_same, tupOf_set]
        rfl
    · rintro σ H' ⟨⟨y, rfl⟩, h1, h2, h3, h4⟩
      refine ⟨_, rfl, g, _, rfl, .inl ⟨SqL.of h2, fun t nt => ?_⟩⟩
      have s4 := same_new (o := .tup (tupOf ps.length (asg ks ps ps.length))) nt
      obtain ⟨r, hr⟩ := renamed_fo (n := ps.length) (ps := ps) hk hps
      exact q t _ r _ (h4.free (h3.ne nt) nt) upd_same hr (h3.new nt) (h4.trans (Sb.of s4))
end
section
variable {P : Program} {w : World} {K : PySem.W.Frag} {mg : Str → Option Value} {base : Heap}
theorem ok_for {f fT fR : Addr} {fd fdT fdR : FuncData} (F : Fun K "_law_forest" "_law_forest" sFor f fd) (GT : FnOk P w K mg base CX0 1 fT fdT ["_law_draw", "_law_many"] spTake) (FT : Fun K "_law_take" "_law_take" sTake fT fdT) (bT : Binds K fdT ["_law_draw", "_law_many"] []) (gT : mg "_law_take" = some (.ref fT))
    (GR : FnOk P w K mg base CX0 3 fR fdR ["_law_draw", "_law_parents"] (spRen K)) (FR : Fun K "_law_renamed" "_law_renamed" sRen fR fdR) (bR : Binds K fdR ["_law_draw", "_law_parents"] []) (gR : mg "_law_renamed" = some (.ref fR)) (T : Tx mg) :
    FnOk P w K mg base CX0 4 f fd ["_law_draw", "_law_size_here", "_law_many"] spFor := by
  refine F.ok scFor (fun vs H Q E h => ?_) (fun cdv A outer s H vs Q E hr h => ?_)
  · obtain ⟨d, l, n, m, rfl, _⟩ := h
    rfl
  · obtain ⟨d, l, n, m, rfl, hD, hn, q⟩ := h
    have hr1 : Room 1 (A.deeper (envOfC "_law_forest" (defScope sFor) s.heap.objs.size f cdv)) := hr.mono (by decide)
    refine ⟨_, pss_cons (ps_par (i := 3) (j := 4) (by rfl) scFor.nd rfl rfl (by decide) rfl rfl (pa_cons (pe_call GT hr1 (by rfl) gT FT.kp bT .nil pass0 (pa_cons (pv 0) (pa_cons pe_int pa_nil))) (pa_cons (pe_lst pa_nil) pa_nil)) (by rfl))
      (pss_cons (ps_for PassesOwn.never rfl (pi_range1 (by rfl) T.range (pa_cons (pv 1) pa_nil)) (pg_name (i := 5) scFor.nd rfl (.inl rfl))
        (pss_cons (ps_set (i := 6) scFor.nd rfl (.inl rfl) (pe_lst (pa_cons (pe_op op_sub (pv 5) pe_int) (pa_cons pe_int (pa_cons (pe_callB (call_max2 rfl) (by rfl) T.max (by decide +kernel) (pa_cons pe_int (pa_cons (pe_op op_sub (pv 5) pe_int) pa_nil)))
            (pa_cons (pe_callB (call_max2 rfl) (by rfl) T.max (by decide +kernel) (pa_cons pe_int (pa_cons (pe_op op_sub (pe_op op_sub (pv 5) pe_int) (pe_op op_mod (pv 5) pe_int)) pa_nil))) pa_nil))))))
        (C8.pss_cut (ps_set (i := 7) scFor.nd rfl (.inl rfl) (pe_ifExp (pt_cmpR op_lt (pv 3) pe_int (nomark _)) (pe_ix ix_list (pv 6) (pv 3) (fun _ _ => rfl))
            (pe_call GT hr1 (by rfl) gT FT.kp bT .nil pass0 (pa_cons (pv 0) (pa_cons (pe_callB (call_max2 rfl) (by rfl) T.max (by decide +kernel) (pa_cons pe_int (pa_cons (pv 5) pa_nil))) pa_nil)))))
        (C8.pss_cut (ps_if (pt_cmpR op_eq (pv 3) pe_int (nomark _)) (pss_one (ps_set (i := 7) scFor.nd rfl (.inl rfl) (pe_callB (call_max2 rfl) (by rfl) T.max (by decide +kernel) (pa_cons pe_int (pa_cons (pe_op op_sub (pe_op op_sub (pv 5) pe_int) (pe_call GT hr1 (by rfl) gT FT.kp bT .nil pass0 (pa_cons (pv 0) (pa_cons pe_int pa_nil)))) pa_nil))))) pss_nil)
        (C8.pss_cut (ps_if (PW.pt (pw_or (pt_cmpR op_eq (pv 5) pe_int (nomark _)) (pw_or1 (PW.pt (pw_and (pt_cmpR op_lt (pv 5) (pv 2) (nomark _)) (pw_and1 (pt_cmpR op_eq (pe_call GT hr1 (by rfl) gT FT.kp bT .nil pass0 (pa_cons (pv 0) (pa_cons pe_int pa_nil))) pe_int (nomark _))))))))
            (pss_one (ps_set (i := 7) scFor.nd rfl (.inl rfl) (pv 5))) pss_nil)
        (pss_one (ps_expr (pe_bm PySem.F.plainAttrs_list PySem.F.slot_list_append PySem.F.type_list_append mt_append (pv 4) (pa_cons (pv 7) pa_nil)))))))))
      (pss_one (ps_ret (pe_call GR hr (by rfl) gR FR.kp bR .nil pass0 (pa_cons (pv 0) (pa_cons (pv 4) pa_nil)))))), ?_⟩
    refine ⟨_, rfl, d, l, 6, rfl, hD, by decide, by decide +kernel, fun k H1 hk hD1 sb1 => ?_⟩
    refine ⟨Nat.zero_le _, fun pa npa => ⟨_, _, rfl, ?_⟩⟩
    have npd := hD1.ne npa
    have npl := hD1.nel npa
    have np0 : H pa = none := sb1.free npd npa
    refine ⟨_, rfl, _, rfl, by omega, by omega, ?_⟩
    refine for_range (lo := 0) (n := ((n : Nat) : Int).toNat) (fun i σ H' => (∃ y1 y2 y3, σ = [some (.ref d), some (vi n), some (vi m), some (vi k), some (.ref pa), y1, y2, y3]) ∧
      (∃ ps : List Nat, H' pa = some (.lst (natsV ps)) ∧ ps.length = i ∧ ∀ j, j < i → ps.getD j 0 ≤ j) ∧ DrawAt H' d l ∧ Sb d H H') ⟨⟨none, none, none, rfl⟩, ⟨[], upd_same, rfl, fun j h => by omega⟩, hD1.new npa, sb1.over np0⟩ ?_ ?_
    · rintro i σ H2 hi ⟨⟨y1, y2, y3, rfl⟩, ⟨ps, hps, hpl, hpb⟩, hD2, sb2⟩
      have hin : i < n := by omega
      show tSeq _ _ _ [some (.ref d), some (vi n), some (vi m), some (vi k), some (.ref pa), some (.int (0 + (i : Int))), y2, y3] H2
      rw [Int.zero_add]
      -- near
      refine ⟨_, rfl, _, _, rfl, rfl, _, rfl, _, _, rfl, rfl, _, _, rfl, _, rfl, _, _, rfl, rfl, _, rfl, _, _, rfl, rfl, (by show (0 : Int) < 2; decide), _, _, rfl, rfl, _, _, rfl, by show 4 ≤ sizeLine; decide, fun nr nnr => ?_⟩
      have hD3 := hD2.new (o := .lst [V.int ((i : Int) - 1), V.int 0, V.int (if (i : Int) - 2 > 0 then (i : Int) - 2 else 0), V.int (if (i : Int) - 1 - (i : Int) % 2 > 0 then (i : Int) - 1 - (i : Int) % 2 else 0)]) nnr
      have nrd := hD2.ne nnr
      have nrl := hD2.nel nnr
      have nr0 : H nr = none := sb2.free nrd nnr
      have nrp : pa ≠ nr := ne_of_none hps nnr
      have hpsN : (upd H2 nr (.lst [V.int ((i : Int) - 1), V.int 0, V.int (if (i : Int) - 2 > 0 then (i : Int) - 2 else 0), V.int (if (i : Int) - 1 - (i : Int) % 2 > 0 then (i : Int) - 1 - (i : Int) % 2 else 0)])) pa = some (.lst (natsV ps)) := by rw [upd_ne nrp]; exact hps
      refine ⟨fun σ' H' => (∃ av : Int, σ' = [some (.ref d), some (vi n), some (vi m), some (vi k), some (.ref pa), some (.int (i : Int)), some (.ref nr), some (.int av)] ∧ (1 ≤ i → 0 ≤ av ∧ av ≤ i)) ∧ H' pa = some (.lst (natsV ps)) ∧ DrawAt H' d l ∧ Sb d H H', ?_, ?_⟩
      · -- above
        refine ⟨_, rfl, _, _, rfl, rfl, _, rfl, ite2 (fun e => ?_) (fun e => ?_)⟩
        · have hk4 : k < 4 := by
            have z : (k : Int) < 4 := of_decide_eq_true e
            omega
          have pick : ∃ av : Int, atI [V.int ((i : Int) - 1), V.int 0, V.int (if (i : Int) - 2 > 0 then (i : Int) - 2 else 0), V.int (if (i : Int) - 1 - (i : Int) % 2 > 0 then (i : Int) - 1 - (i : Int) % 2 else 0)] (k : Int) = some (.int av) ∧ (1 ≤ i → 0 ≤ av ∧ av ≤ i) := by
            match k, hk4 with
            | 0, _ => exact ⟨_, rfl, fun h => by omega⟩
            | 1, _ => exact ⟨_, rfl, fun h => by omega⟩
            | 2, _ => exact ⟨_, rfl, fun h => by split <;> omega⟩
            | 3, _ => exact ⟨_, rfl, fun h => by split <;> omega⟩
          obtain ⟨av, e1, e2⟩ := pick
          exact ⟨_, rfl, _, rfl, nr, _, _, _, rfl, rfl, SqL.of upd_same, e1, ⟨av, rfl, e2⟩, hpsN, hD3, sb2.over nr0⟩
        · refine ⟨_, rfl, _, rfl, _, _, rfl, d, l, _, rfl, hD3, ?_, ?_, fun r H4 hr4 hD4 sb4 => ⟨⟨r, rfl, ?_⟩, ?_, hD4, (sb2.over nr0).trans sb4⟩⟩
          · show (1 : Int) ≤ if (i : Int) > 1 then (i : Int) else 1
            split <;> omega
          · show (if (i : Int) > 1 then (i : Int) else 1).natAbs < 2 ^ 1000
            exact Nat.lt_of_le_of_lt (show _ ≤ 1001 by split <;> omega) (by decide +kernel)
          · intro h1
            have z : (r : Int) < if (i : Int) > 1 then (i : Int) else 1 := hr4
            split at z <;> omega
          · exact sb4 _ _ npd hpsN
      · rintro σ' H' ⟨⟨av, rfl, hav⟩, hpa, hD4, sb4⟩
        refine ⟨fun σ' H' => (∃ av : Int, σ' = [some (.ref d), some (vi n), some (vi m), some (vi k), some (.ref pa), some (.int (i : Int)), some (.ref nr), some (.int av)] ∧ (1 ≤ i → 0 ≤ av ∧ av ≤ i)) ∧ H' pa = some (.lst (natsV ps)) ∧ DrawAt H' d l ∧ Sb d H H', ?_, ?_⟩
        · refine ⟨_, rfl, rfl, _, rfl, ite2 (fun e => ?_) (fun e => ?_)⟩
          · refine ⟨_, rfl, _, _, rfl, rfl, _, rfl, d, l, 3, rfl, hD4, by decide, by decide +kernel, fun r H5 hr5 hD5 sb5 => ?_⟩
            refine ⟨_, _, rfl, rfl, _, _, rfl, ⟨_, rfl, fun h1 => ?_⟩, sb5 _ _ npd hpa, hD5, sb4.trans sb5⟩
            split <;> omega
          · exact ⟨⟨av, rfl, hav⟩, hpa, hD4, sb4⟩
        · rintro σ' H' ⟨⟨av, rfl, hav⟩, hpa, hD4, sb4⟩
          refine ⟨fun σ' H' => (∃ av : Nat, σ' = [some (.ref d), some (vi n), some (vi m), some (vi k), some (.ref pa), some (.int (i : Int)), some (.ref nr), some (vi av)] ∧ av ≤ i) ∧ H' pa = some (.lst (natsV ps)) ∧ DrawAt H' d l ∧ Sb d H H', ?_, ?_⟩
          · refine ⟨_, rfl, rfl, _, rfl, ite2 (fun e => ?_) (fun e => ?_)⟩
            · exact ⟨_, rfl, ⟨i, rfl, Nat.le_refl _⟩, hpa, hD4, sb4⟩
            · have hi1 : 1 ≤ i := by
                by_cases z : i = 0
                · subst z; exact absurd rfl e
                · omega
              have hav' := hav hi1
              refine ⟨_, rfl, _, rfl, _, _, rfl, rfl, _, rfl, ite2 (fun e2 => ?_) (fun e2 => ?_)⟩
              · refine ⟨_, rfl, d, l, 2, rfl, hD4, by decide, by decide +kernel, fun r H5 hr5 hD5 sb5 => ?_⟩
                refine ⟨rfl, _, rfl, ite2 (fun e3 => ?_) (fun e3 => ?_)⟩
                · exact ⟨_, rfl, ⟨i, rfl, Nat.le_refl _⟩, sb5 _ _ npd hpa, hD5, sb4.trans sb5⟩
                · exact ⟨⟨av.toNat, by rw [show vi av.toNat = V.int av from congrArg V.int (by omega)], by omega⟩, sb5 _ _ npd hpa, hD5, sb4.trans sb5⟩
              · exact ⟨⟨av.toNat, by rw [show vi av.toNat = V.int av from congrArg V.int (by omega)], by omega⟩, hpa, hD4, sb4⟩
          · rintro σ' H' ⟨⟨av, rfl, hav⟩, hpa, hD4, sb4⟩
            refine ⟨_, rfl, .inl ⟨rfl, _, SqL.of hpa⟩, _, rfl, pa, _, _, rfl, rfl, hpa, ?_, ⟨_, _, _, rfl⟩, ⟨ps ++ [av], ?_, ?_, ?_⟩, hD4.put npd npl, sb4.over np0⟩
            · rw [natsV_len]; exact Nat.lt_of_le_of_lt (show _ ≤ 1000 by omega) (by decide)
            · rw [upd_same]; unfold natsV; rw [List.map_append]; rfl
            · rw [List.length_append, hpl]; rfl
            · intro j hj
              rw [List.getD_eq_getElem?_getD]
              by_cases z : j < i
              · rw [List.getElem?_append_left (by omega), ← List.getD_eq_getElem?_getD]; exact hpb j z
              · have e : j = i := by omega
                subst e
                rw [List.getElem?_append_right (by omega), hpl, Nat.sub_self]
                exact hav
    · rintro σ H2 ⟨⟨y1, y2, y3, rfl⟩, ⟨ps, hps, hpl, hpb⟩, hD2, sb2⟩
      have hpl' : ps.length = n := by omega
      subst hpl'
      exact ⟨_, rfl, _, rfl, d, l, pa, ps, rfl, hD2, npd, SqL.of hps, hn, (fun j hj => hpb j (by omega)), fun t p r H3 nt ht hF hD3 sb3 => q t p r H3 (sb2.free (hD2.ne nt) nt) ht hF hD3 (sb2.trans sb3)⟩
end
section
variable {P : Program} {w : World} {K : PySem.W.Frag} {mg : Str → Option Value} {base : Heap}
theorem ok_some {f fT fS fF : Addr} {fd fdT fdS fdF : FuncData} (F : Fun K "_law_some_forest" "_law_some_forest" sSome f fd) (GT : FnOk P w K mg base CX0 1 fT fdT ["_law_draw", "_law_many"] spTake) (FT : Fun K "_law_take" "_law_take" sTake fT fdT) (bT : Binds K fdT ["_law_draw", "_law_many"] []) (gT : mg "_law_take" = some (.ref fT))
    (GS : FnOk P w K mg base CX0 3 fS fdS ["_law_draw", "_law_most"] spSize) (FS : Fun K "_law_size" "_law_size" sSize fS fdS) (bS : Binds K fdS ["_law_draw", "_law_most"] []) (gS : mg "_law_size" = some (.ref fS))
    (GF : FnOk P w K mg base CX0 4 fF fdF ["_law_draw", "_law_size_here", "_law_many"] spFor) (FF : Fun K "_law_forest" "_law_forest" sFor fF fdF) (bF : Binds K fdF ["_law_draw", "_law_size_here", "_law_many"] []) (gF : mg "_law_forest" = some (.ref fF)) :
    FnOk P w K mg base CX0 5 f fd ["_law_draw", "_law_most"] spSome := by
  refine F.ok scSome (fun vs H Q E h => ?_) (fun cdv A outer s H vs Q E hr h => ?_)
  · obtain ⟨d, l, m, rfl, _⟩ := h
    rfl
  · obtain ⟨d, l, m, rfl, hD, hm, q⟩ := h
    refine ⟨_, pss_one (ps_ret (pe_call GF hr (by rfl) gF FF.kp bF .nil pass0 (pa_cons (pv 0) (pa_cons (pe_call GS (hr.mono (by decide)) (by rfl) gS FS.kp bS .nil pass0 (pa_cons (pv 0) (pa_cons (pv 1) pa_nil))) (pa_cons (pe_op op_add pe_int (pe_call GT (hr.mono (by decide)) (by rfl) gT FT.kp bT .nil pass0 (pa_cons (pv 0) (pa_cons pe_int pa_nil)))) pa_nil))))), ?_⟩
    refine ⟨_, rfl, _, rfl, _, rfl, d, l, m, rfl, hD, hm, fun n H1 hn hD1 sb1 => ?_⟩
    refine ⟨_, rfl, d, l, 5, rfl, hD1, by decide, by decide +kernel, fun r H2 hr2 hD2 sb2 => ?_⟩
    refine ⟨_, _, rfl, rfl, d, l, n, 1 + r, ?_, hD2, by omega, fun t p rk H3 nt ht hF hD3 sb3 => q t n p rk H3 hn ((sb1.trans sb2).free (hD2.ne nt) nt) ht hF hD3 ((sb1.trans sb2).trans sb3)⟩
    show [V.ref d, vi n, V.int (1 + (r : Int))] = [V.ref d, vi n, V.int ((1 + r : Nat) : Int)]
    rw [show ((1 + r : Nat) : Int) = 1 + (r : Int) by omega]
end
section
variable {P : Program} {w : World} {K : PySem.W.Frag} {mg : Str → Option Value} {base : Heap}
theorem ok_nodes {f fT fO fS : Addr} {fd fdT fdO fdS : FuncData} (F : Fun K "_law_nodes" "_law_nodes" sNodes f fd) (GT : FnOk P w K mg base CX0 1 fT fdT ["_law_draw", "_law_many"] spTake) (FT : Fun K "_law_take" "_law_take" sTake fT fdT) (bT : Binds K fdT ["_law_draw", "_law_many"] []) (gT : mg "_law_take" = some (.ref fT))
    (GO : FnOk P w K mg base CX0 2 fO fdO ["_law_draw", "_law_some"] (spOf K)) (FO : Fun K "_law_of" "_law_of" sOf fO fdO) (bO : Binds K fdO ["_law_draw", "_law_some"] []) (gO : mg "_law_of" = some (.ref fO))
    (GS : FnOk P w K mg base CX0 2 fS fdS ["_law_draw", "_law_some"] (spShuf K)) (FS : Fun K "_law_shuffled" "_law_shuffled" sShuf fS fdS) (bS : Binds K fdS ["_law_draw", "_law_some"] []) (gS : mg "_law_shuffled" = some (.ref fS)) (T : Tx mg) :
    FnOk P w K mg base CX0 3 f fd ["_law_draw", "_law_size_here", "_law_most"] spNodes := by
  refine F.ok scNodes (fun vs H Q E h => ?_) (fun cdv A outer s H vs Q E hr h => ?_)
  · obtain ⟨d, l, n, m, rfl, _⟩ := h
    rfl
  · obtain ⟨d, l, n, m, rfl, hD, hn, hm, q⟩ := h
    have hr1 : Room 1 (A.deeper (envOfC "_law_nodes" (defScope sNodes) s.heap.objs.size f cdv)) := hr.mono (by decide)
    refine ⟨_, pss_cons (ps_if (pt_cmpR op_eq (pv 1) pe_int (nomark _)) (pss_one (ps_ret (pe_lst pa_nil))) pss_nil)
      (pss_cons (ps_set (i := 3) scNodes.nd rfl (.inr rfl) (pe_slice sl_list (pe_call GS hr (by rfl) gS FS.kp bS .nil pass0 (pa_cons (pv 0) (pa_cons (pe_listRg rfl (by rfl) T.list (prg_1 (by rfl) T.range (pv 1))) pa_nil))) po_none (po_some (pe_op op_add pe_int (pe_call GT hr1 (by rfl) gT FT.kp bT .nil pass0 (pa_cons (pv 0) (pa_cons pe_int pa_nil)))))))
      (pss_one (ps_ret (pe_lc (own := [("_law_k", 4)]) (g := gName 4) (by rfl) scNodes.nd (pi_range1 (by rfl) T.range (pa_cons (pe_call GT hr1 (by rfl) gT FT.kp bT .nil pass0 (pa_cons (pv 0) (pa_cons (pe_op op_add (pv 2) pe_int) pa_nil))) pa_nil))
        (blkOk_by (own := [("_law_k", 4)]) (N := ["_law_draw", "_law_size_here", "_law_most", "_law_some", "_law_k"]) (sc := defScope sNodes) (by decide +kernel))
        (fun _ _ _ _ _ => pg_name (i := 4) scNodes.nd rfl (Or.inl rfl)) (fun _ _ _ _ _ => pts_nil)
        (fun _ _ _ _ _ => pe_call GO hr (by rfl) gO FO.kp bO .nil pass0 (pa_cons (pv 0) (pa_cons (pe_call GO hr (by rfl) gO FO.kp bO .nil pass0 (pa_cons (pv 0) (pa_cons (pe_lst (pa_cons (pe_listRg rfl (by rfl) T.list (prg_1 (by rfl) T.range (pv 1))) (pa_cons (pv 3) pa_nil))) pa_nil))) pa_nil))))))), ?_⟩
    refine ⟨_, rfl, rfl, _, rfl, ite2 (fun e => ?_) (fun e => ?_)⟩
    · refine ⟨Nat.zero_le _, fun p np => q p [] _ np upd_same (fun x hx => by cases hx) (Nat.zero_le _) (hD.new np) (Sb.of (same_new np))⟩
    have hn1 : 1 ≤ n := by
      by_cases z : n = 0
      · subst z; exact absurd rfl e
      · omega
    refine ⟨_, rfl, _, rfl, _, rfl, rgOk_nat hn, fun c nc => ?_⟩
    rw [rgV_nat]
    have s1 := same_new (o := .lst (natsV (List.range n))) nc
    refine ⟨d, l, c, _, rfl, hD.new nc, hD.ne nc, SqL.of upd_same, by rw [natsV_len, List.length_range]; exact hn, fun nm ys H1 hy nnm nnd hnm hD1 sb1 => ?_⟩
    obtain ⟨ks, rfl, hk⟩ := shuf_nats hy
    have hkl : ks.length = n := by rw [hk.length_eq, List.length_range]
    have sbA : Sb d H H1 := (Sb.of s1).trans sb1
    refine ⟨_, rfl, d, l, 4, rfl, hD1, by decide, by decide +kernel, fun r H2 hr2 hD2 sb2 => ?_⟩
    have hnm2 := sb2 _ _ nnd hnm
    refine ⟨_, _, rfl, rfl, 1 + (r : Int), rfl, nm, _, rfl, SqL.of hnm2, fun sm nsm => ?_⟩
    have cut : ∃ ms : List Nat, cutV (natsV ks) none (some (1 + (r : Int))) = natsV ms ∧ 1 ≤ ms.length ∧ ms.length ≤ n ∧ ∀ x ∈ ms, x < n := by
      refine ⟨(ks.drop 0).take (HT.sIx (natsV ks).length (natsV ks).length (some (1 + (r : Int))) - HT.sIx (natsV ks).length 0 none), ?_, ?_, ?_, ?_⟩
      · unfold cutV natsV
        rw [HT.sIx_none, List.map_take, List.map_drop]
      · rw [HT.sIx_none, List.length_take, List.length_drop, natsV_len, show (1 + (r : Int)) = ((1 + r : Nat) : Int) by omega, HT.sIx_nat]
        omega
      · rw [List.length_take, List.length_drop]; omega
      · intro x hx
        exact List.mem_range.mp (hk.mem_iff.mp (List.mem_of_mem_drop (List.mem_of_mem_take hx)))
    obtain ⟨ms, em, hm1, hm2, hm3⟩ := cut
    rw [em]
    have s3 := same_new (o := .lst (natsV ms)) nsm
    have sbB : Sb d H (upd H2 sm (.lst (natsV ms))) := (sbA.trans sb2).trans (Sb.of s3)
    have hDB := hD2.new (o := .lst (natsV ms)) nsm
    have nsd := hD2.ne nsm
    refine ⟨_, rfl, _, rfl, _, _, rfl, rfl, d, l, _, rfl, hDB, by omega, Nat.lt_of_le_of_lt (show _ ≤ 1001 by omega) (by decide +kernel), fun k H4 hk4 hD4 sb4 => ?_⟩
    refine ⟨_, rfl, by omega, by omega, fun D nD => ?_⟩
    have hsm4 : H4 sm = some (.lst (natsV ms)) := sb4 _ _ nsd upd_same
    have nDd := hD4.ne nD
    have nDl := hD4.nel nD
    have sb5 := sbB.trans sb4
    have nD0 : H D = none := sb5.free nDd nD
    have nDs : sm ≠ D := ne_of_none hsm4 nD
    refine lc_range (lo := 0) (n := ((k : Nat) : Int).toNat) (fun i H' => (∃ xs : List Nat, H' D = some (.lst (natsV xs)) ∧ xs.length = i ∧ ∀ x ∈ xs, x < n) ∧ H' sm = some (.lst (natsV ms)) ∧ DrawAt H' d l ∧ Sb d H H') ⟨⟨[], upd_same, rfl, fun x hx => by cases hx⟩, by rw [upd_ne nDs]; exact hsm4, hD4.new nD, sb5.over nD0⟩ ?_ ?_
    · rintro i H5 hi ⟨⟨xs, hxD, hxl, hxb⟩, hs5, hD5, sb5⟩
      refine ⟨rfl, ?_⟩
      refine ⟨_, rfl, _, rfl, _, rfl, _, rfl, rgOk_nat hn, fun c2 nc2 => ?_⟩
      rw [rgV_nat]
      have s6 := same_new (o := .lst (natsV (List.range n))) nc2
      have hD6 := hD5.new (o := .lst (natsV (List.range n))) nc2
      refine ⟨_, rfl, by show 2 ≤ sizeLine; decide, fun c3 nc3 => ?_⟩
      have s7 := same_new (o := .lst [V.ref c2, V.ref sm]) nc3
      have hD7 := hD6.new (o := .lst [V.ref c2, V.ref sm]) nc3
      refine ⟨d, l, c3, _, rfl, hD7, hD6.ne nc3, SqL.of upd_same, by show 1 ≤ 2; decide, by show 2 ≤ 1000; decide, fun j v H8 hv hD8 sb8 => ?_⟩
      have hc2 : H8 c2 = some (.lst (natsV (List.range n))) := sb8 _ _ (hD5.ne nc2) (s7 _ _ upd_same)
      have hs8 : H8 sm = some (.lst (natsV ms)) := sb8 _ _ nsd (s7 _ _ (s6 _ _ hs5))
      have hx8 : H8 D = some (.lst (natsV xs)) := sb8 _ _ nDd (s7 _ _ (s6 _ _ hxD))
      have sb8' : Sb d H H8 := (sb5.trans (Sb.of (s6.trans s7))).trans sb8
      have pick : ∃ (b : Addr) (zs : List Nat), v = .ref b ∧ H8 b = some (.lst (natsV zs)) ∧ b ≠ d ∧ 1 ≤ zs.length ∧ zs.length ≤ 1000 ∧ ∀ x ∈ zs, x < n := by
        match j, hv with
        | 0, hv => exact ⟨c2, List.range n, (Option.some.inj hv).symm, hc2, hD5.ne nc2, by rw [List.length_range]; exact hn1, by rw [List.length_range]; exact hn, fun x hx => List.mem_range.mp hx⟩
        | 1, hv => exact ⟨sm, ms, (Option.some.inj hv).symm, hs8, nsd, hm1, by omega, hm3⟩
      obtain ⟨b, zs, rfl, hb, nbd, hz1, hz2, hz3⟩ := pick
      refine ⟨d, l, b, _, rfl, hD8, nbd, SqL.of hb, by rw [natsV_len]; exact hz1, by rw [natsV_len]; exact hz2, fun j2 v2 H9 hv2 hD9 sb9 => ?_⟩
      unfold natsV at hv2
      rw [List.getElem?_map] at hv2
      obtain ⟨u, hu, rfl⟩ := Option.map_eq_some_iff.mp hv2
      have hx9 := sb9 _ _ nDd hx8
      have hs9 := sb9 _ _ nsd hs8
      have hun := hz3 u (List.mem_of_getElem? hu)
      refine ⟨_, hx9, by rw [natsV_len]; exact Nat.lt_of_le_of_lt (show _ ≤ 1001 by omega) (by decide), ⟨xs ++ [u], ?_, by rw [List.length_append, hxl]; rfl, ?_⟩, by rw [upd_ne nDs]; exact hs9, hD9.put nDd nDl, (sb8'.trans sb9).over nD0⟩
      · rw [upd_same]; unfold natsV; rw [List.map_append]; rfl
      · intro x hx
        rcases List.mem_append.mp hx with z | z
        · exact hxb x z
        · rw [List.mem_singleton.mp z]; exact hun
    · rintro H5 ⟨⟨xs, hxD, hxl, hxb⟩, hs5, hD5, sb5⟩
      exact q D xs H5 nD0 hxD hxb (by omega) hD5 sb5
end
section
variable {P : Program} {w : World} {K : PySem.W.Frag} {mg : Str → Option Value} {base : Heap}
theorem ok_same {f : Addr} {fd : FuncData} (F : Fun K "_law_same" "_law_same" sSame f fd) (T : TxS mg) (b : Binds K fd ["_law_found", "_law_due"] []) (g : mg "_law_same" = some (.ref f)) :
    ∀ n, FnOk P w K mg base CX0 (n + 1) f fd ["_law_found", "_law_due"] (spSame K n) := by
  intro n
  induction n with
  | zero =>
    refine F.ok scSame (fun vs H Q E h => ?_) (fun cdv A outer s H vs Q E hr h => ?_)
    · obtain ⟨v, u, d, rfl, _⟩ := h
      rfl
    · obtain ⟨v, u, d, rfl, hv, hu, hd, q⟩ := h
      refine ⟨_, pss_cons (ps_if (pt_cmpR op_isN (pv 1) pe_non (nomark _)) (pss_one (ps_ret (pe_cmpR op_isN (pv 0) pe_non (nomark _)))) pss_nil)
        (pss_cons (ps_if (pt_val (pe_callB call_isiT (by rfl) T.isinstance (by decide +kernel) (pa_cons (pv 1) (pa_cons (pe_tup (pa_cons (pe_ty (n := "list") (by rfl) T.list (by decide +kernel)) (pa_cons (pe_ty (n := "tuple") (by rfl) T.tuple (by decide +kernel)) pa_nil))) pa_nil))))
          pss_never pss_nil)
        (pss_cons (ps_if (PW.pt (pw_or
              (pt_cmpR op_ne (pe_callB call_isi (by rfl) T.isinstance (by decide +kernel) (pa_cons (pv 1) (pa_cons (pe_ty (n := "bool") (by rfl) T.bool (by decide +kernel)) pa_nil))) (pe_callB call_isi (by rfl) T.isinstance (by decide +kernel) (pa_cons (pv 0) (pa_cons (pe_ty (n := "bool") (by rfl) T.bool (by decide +kernel)) pa_nil))) (nomark _))
              (pw_or1 (pt_cmpR op_ne (pe_callB call_isi (by rfl) T.isinstance (by decide +kernel) (pa_cons (pv 1) (pa_cons (pe_ty (n := "int") (by rfl) T.int (by decide +kernel)) pa_nil))) (pe_callB call_isi (by rfl) T.isinstance (by decide +kernel) (pa_cons (pv 0) (pa_cons (pe_ty (n := "int") (by rfl) T.int (by decide +kernel)) pa_nil))) (nomark _))))) (pss_one (ps_ret pe_bl)) pss_nil)
        (pss_one (ps_ret (pe_and (pe_cmpR op_eq (pe_callB call_isi (by rfl) T.isinstance (by decide +kernel) (pa_cons (pv 1) (pa_cons (pe_ty (n := "str") (by rfl) T.str (by decide +kernel)) pa_nil))) (pe_callB call_isi (by rfl) T.isinstance (by decide +kernel) (pa_cons (pv 0) (pa_cons (pe_ty (n := "str") (by rfl) T.str (by decide +kernel)) pa_nil))) (nomark _))
          (pe_one (pe_cmpR op_eq (pv 0) (pv 1) (nomark _)))))))), ?_⟩
      cases hd with
      | non =>
        cases hv; cases hu
        exact ⟨_, rfl, rfl, _, rfl, _, rfl, rfl, q H (Same.refl H)⟩
      | bl _ x =>
        cases hv; cases hu
        refine ⟨_, rfl, rfl, _, rfl, _, rfl, by show 2 ≤ sizeLine; decide, fun tp ntp => ?_⟩
        refine ⟨_, tp, _, _, _, _, rfl, upd_same, .cons (.ty _) (.cons (.ty _) .nil), .base (.bl x), kit2 (r := false) (s := false) (by decide +kernel) (by decide +kernel), _, rfl, ?_⟩
        refine ⟨_, rfl, _, _, _, _, _, rfl, .ty _, .base (.bl x), kit_ty (r := true) (by decide +kernel), _, rfl, _, _, _, _, _, rfl, .ty _, .base (.bl x), kit_ty (r := true) (by decide +kernel), rfl, _, rfl, ?_⟩
        refine ⟨_, rfl, _, _, _, _, _, rfl, .ty _, .base (.bl x), kit_ty (r := true) (by decide +kernel), _, rfl, _, _, _, _, _, rfl, .ty _, .base (.bl x), kit_ty (r := true) (by decide +kernel), rfl, _, rfl, ?_⟩
        refine ⟨_, rfl, _, _, _, _, _, rfl, .ty _, .base (.bl x), kit_ty (r := false) (by decide +kernel), _, rfl, _, _, _, _, _, rfl, .ty _, .base (.bl x), kit_ty (r := false) (by decide +kernel), rfl, _, rfl, ?_⟩
        refine ⟨_, rfl, _, rfl, rfl, ?_⟩
        show Q (.bl (decide (V.bl x = V.bl x))) _
        rw [decide_eq_true rfl]
        exact q _ (same_new ntp)
      | int _ x =>
        cases hv; cases hu
        refine ⟨_, rfl, rfl, _, rfl, _, rfl, by show 2 ≤ sizeLine; decide, fun tp ntp => ?_⟩
        refine ⟨_, tp, _, _, _, _, rfl, upd_same, .cons (.ty _) (.cons (.ty _) .nil), .base (.int x), kit2 (r := false) (s := false) (by decide +kernel) (by decide +kernel), _, rfl, ?_⟩
        refine ⟨_, rfl, _, _, _, _, _, rfl, .ty _, .base (.int x), kit_ty (r := false) (by decide +kernel), _, rfl, _, _, _, _, _, rfl, .ty _, .base (.int x), kit_ty (r := false) (by decide +kernel), rfl, _, rfl, ?_⟩
        refine ⟨_, rfl, _, _, _, _, _, rfl, .ty _, .base (.int x), kit_ty (r := true) (by decide +kernel), _, rfl, _, _, _, _, _, rfl, .ty _, .base (.int x), kit_ty (r := true) (by decide +kernel), rfl, _, rfl, ?_⟩
        refine ⟨_, rfl, _, _, _, _, _, rfl, .ty _, .base (.int x), kit_ty (r := false) (by decide +kernel), _, rfl, _, _, _, _, _, rfl, .ty _, .base (.int x), kit_ty (r := false) (by decide +kernel), rfl, _, rfl, ?_⟩
        refine ⟨_, rfl, _, rfl, rfl, ?_⟩
        show Q (.bl (decide (V.int x = V.int x))) _
        rw [decide_eq_true rfl]
        exact q _ (same_new ntp)
      | str _ x =>
        cases hv; cases hu
        refine ⟨_, rfl, rfl, _, rfl, _, rfl, by show 2 ≤ sizeLine; decide, fun tp ntp => ?_⟩
        refine ⟨_, tp, _, _, _, _, rfl, upd_same, .cons (.ty _) (.cons (.ty _) .nil), .base (.str x), kit2 (r := false) (s := false) (by decide +kernel) (by decide +kernel), _, rfl, ?_⟩
        refine ⟨_, rfl, _, _, _, _, _, rfl, .ty _, .base (.str x), kit_ty (r := false) (by decide +kernel), _, rfl, _, _, _, _, _, rfl, .ty _, .base (.str x), kit_ty (r := false) (by decide +kernel), rfl, _, rfl, ?_⟩
        refine ⟨_, rfl, _, _, _, _, _, rfl, .ty _, .base (.str x), kit_ty (r := false) (by decide +kernel), _, rfl, _, _, _, _, _, rfl, .ty _, .base (.str x), kit_ty (r := false) (by decide +kernel), rfl, _, rfl, ?_⟩
        refine ⟨_, rfl, _, _, _, _, _, rfl, .ty _, .base (.str x), kit_ty (r := true) (by decide +kernel), _, rfl, _, _, _, _, _, rfl, .ty _, .base (.str x), kit_ty (r := true) (by decide +kernel), rfl, _, rfl, ?_⟩
        refine ⟨_, rfl, _, rfl, rfl, ?_⟩
        show Q (.bl (decide (V.str x = V.str x))) _
        rw [decide_eq_true rfl]
        exact q _ (same_new ntp)
  | succ n ih =>
    refine F.ok scSame (fun vs H Q E h => ?_) (fun cdv A outer s H vs Q E hr h => ?_)
    · obtain ⟨v, u, d, rfl, _⟩ := h
      rfl
    · obtain ⟨v, u, d, rfl, hv, hu, hd, q⟩ := h
      refine ⟨_, pss_cons (ps_if (pt_cmpR op_isN (pv 1) pe_non (nomark _)) (pss_one (ps_ret (pe_cmpR op_isN (pv 0) pe_non (nomark _)))) pss_nil)
        (pss_cons (ps_if (pt_val (pe_callB call_isiT (by rfl) T.isinstance (by decide +kernel) (pa_cons (pv 1) (pa_cons (pe_tup (pa_cons (pe_ty (n := "list") (by rfl) T.list (by decide +kernel)) (pa_cons (pe_ty (n := "tuple") (by rfl) T.tuple (by decide +kernel)) pa_nil))) pa_nil))))
          (pss_cons (ps_if (PW.pt (pw_or
              (pt_cmpR op_ne (pe_callB call_isi (by rfl) T.isinstance (by decide +kernel) (pa_cons (pv 0) (pa_cons (pe_ty (n := "list") (by rfl) T.list (by decide +kernel)) pa_nil))) (pe_callB call_isi (by rfl) T.isinstance (by decide +kernel) (pa_cons (pv 1) (pa_cons (pe_ty (n := "list") (by rfl) T.list (by decide +kernel)) pa_nil))) (nomark _))
              (pw_or1 (pt_cmpR op_ne (pe_callB call_isi (by rfl) T.isinstance (by decide +kernel) (pa_cons (pv 0) (pa_cons (pe_ty (n := "tuple") (by rfl) T.tuple (by decide +kernel)) pa_nil))) (pe_callB call_isi (by rfl) T.isinstance (by decide +kernel) (pa_cons (pv 1) (pa_cons (pe_ty (n := "tuple") (by rfl) T.tuple (by decide +kernel)) pa_nil))) (nomark _))))) (pss_one (ps_ret pe_bl)) pss_nil)
          (pss_one (ps_ret (pe_and (pe_cmpR op_eq (pe_callB call_len_seq (by rfl) T.len PySem.boot_len (pa_cons (pv 0) pa_nil)) (pe_callB call_len_seq (by rfl) T.len PySem.boot_len (pa_cons (pv 1) pa_nil)) (nomark _))
            (pe_one (pe_callB (cr_all rfl) (by rfl) T.all (by decide +kernel) (pa_cons (pe_lc (own := [("_law_one", 2), ("_law_other", 3)]) (g := gTup K 2 (gCons (gName 2) (gCons (gName 3) gNil))) (by rfl) scSame.nd (RZ.pi_zipA (by rfl) T.zip (pa_cons (pv 0) (pa_cons (pv 1) pa_nil)))
              (blkOk_by (own := [("_law_one", 2), ("_law_other", 3)]) (N := sameN) (sc := defScope sSame) (by decide +kernel)) (fun _ _ _ _ _ => pg_tup rfl (pgs_cons (pg_name (i := 2) scSame.nd rfl (.inl rfl)) (pgs_cons (pg_name (i := 3) scSame.nd rfl (.inl rfl)) pgs_nil))) (fun _ _ _ _ _ => pts_nil)
              (fun _ _ _ _ _ => pe_call ih hr (by rfl) g F.kp b .nil pass0 (pa_cons (pv 2) (pa_cons (pv 3) pa_nil)))) pa_nil))))))) pss_nil)
        (pss_cons (ps_if (PW.pt (pw_or
              (pt_cmpR op_ne (pe_callB call_isi (by rfl) T.isinstance (by decide +kernel) (pa_cons (pv 1) (pa_cons (pe_ty (n := "bool") (by rfl) T.bool (by decide +kernel)) pa_nil))) (pe_callB call_isi (by rfl) T.isinstance (by decide +kernel) (pa_cons (pv 0) (pa_cons (pe_ty (n := "bool") (by rfl) T.bool (by decide +kernel)) pa_nil))) (nomark _))
              (pw_or1 (pt_cmpR op_ne (pe_callB call_isi (by rfl) T.isinstance (by decide +kernel) (pa_cons (pv 1) (pa_cons (pe_ty (n := "int") (by rfl) T.int (by decide +kernel)) pa_nil))) (pe_callB call_isi (by rfl) T.isinstance (by decide +kernel) (pa_cons (pv 0) (pa_cons (pe_ty (n := "int") (by rfl) T.int (by decide +kernel)) pa_nil))) (nomark _))))) (pss_one (ps_ret pe_bl)) pss_nil)
        (pss_one (ps_ret (pe_and (pe_cmpR op_eq (pe_callB call_isi (by rfl) T.isinstance (by decide +kernel) (pa_cons (pv 1) (pa_cons (pe_ty (n := "str") (by rfl) T.str (by decide +kernel)) pa_nil))) (pe_callB call_isi (by rfl) T.isinstance (by decide +kernel) (pa_cons (pv 0) (pa_cons (pe_ty (n := "str") (by rfl) T.str (by decide +kernel)) pa_nil))) (nomark _))
          (pe_one (pe_cmpR op_eq (pv 0) (pv 1) (nomark _)))))))), ?_⟩
      cases hd with
      | non =>
        cases hv; cases hu
        exact ⟨_, rfl, rfl, _, rfl, _, rfl, rfl, q H (Same.refl H)⟩
      | bl _ x =>
        cases hv; cases hu
        refine ⟨_, rfl, rfl, _, rfl, _, rfl, by show 2 ≤ sizeLine; decide, fun tp ntp => ?_⟩
        refine ⟨_, tp, _, _, _, _, rfl, upd_same, .cons (.ty _) (.cons (.ty _) .nil), .base (.bl x), kit2 (r := false) (s := false) (by decide +kernel) (by decide +kernel), _, rfl, ?_⟩
        refine ⟨_, rfl, _, _, _, _, _, rfl, .ty _, .base (.bl x), kit_ty (r := true) (by decide +kernel), _, rfl, _, _, _, _, _, rfl, .ty _, .base (.bl x), kit_ty (r := true) (by decide +kernel), rfl, _, rfl, ?_⟩
        refine ⟨_, rfl, _, _, _, _, _, rfl, .ty _, .base (.bl x), kit_ty (r := true) (by decide +kernel), _, rfl, _, _, _, _, _, rfl, .ty _, .base (.bl x), kit_ty (r := true) (by decide +kernel), rfl, _, rfl, ?_⟩
        refine ⟨_, rfl, _, _, _, _, _, rfl, .ty _, .base (.bl x), kit_ty (r := false) (by decide +kernel), _, rfl, _, _, _, _, _, rfl, .ty _, .base (.bl x), kit_ty (r := false) (by decide +kernel), rfl, _, rfl, ?_⟩
        refine ⟨_, rfl, _, rfl, rfl, ?_⟩
        show Q (.bl (decide (V.bl x = V.bl x))) _
        rw [decide_eq_true rfl]
        exact q _ (same_new ntp)
      | int _ x =>
        cases hv; cases hu
        refine ⟨_, rfl, rfl, _, rfl, _, rfl, by show 2 ≤ sizeLine; decide, fun tp ntp => ?_⟩
        refine ⟨_, tp, _, _, _, _, rfl, upd_same, .cons (.ty _) (.cons (.ty _) .nil), .base (.int x), kit2 (r := false) (s := false) (by decide +kernel) (by decide +kernel), _, rfl, ?_⟩
        refine ⟨_, rfl, _, _, _, _, _, rfl, .ty _, .base (.int x), kit_ty (r := false) (by decide +kernel), _, rfl, _, _, _, _, _, rfl, .ty _, .base (.int x), kit_ty (r := false) (by decide +kernel), rfl, _, rfl, ?_⟩
        refine ⟨_, rfl, _, _, _, _, _, rfl, .ty _, .base (.int x), kit_ty (r := true) (by decide +kernel), _, rfl, _, _, _, _, _, rfl, .ty _, .base (.int x), kit_ty (r := true) (by decide +kernel), rfl, _, rfl, ?_⟩
        refine ⟨_, rfl, _, _, _, _, _, rfl, .ty _, .base (.int x), kit_ty (r := false) (by decide +kernel), _, rfl, _, _, _, _, _, rfl, .ty _, .base (.int x), kit_ty (r := false) (by decide +kernel), rfl, _, rfl, ?_⟩
        refine ⟨_, rfl, _, rfl, rfl, ?_⟩
        show Q (.bl (decide (V.int x = V.int x))) _
        rw [decide_eq_true rfl]
        exact q _ (same_new ntp)
      | str _ x =>
        cases hv; cases hu
        refine ⟨_, rfl, rfl, _, rfl, _, rfl, by show 2 ≤ sizeLine; decide, fun tp ntp => ?_⟩
        refine ⟨_, tp, _, _, _, _, rfl, upd_same, .cons (.ty _) (.cons (.ty _) .nil), .base (.str x), kit2 (r := false) (s := false) (by decide +kernel) (by decide +kernel), _, rfl, ?_⟩
        refine ⟨_, rfl, _, _, _, _, _, rfl, .ty _, .base (.str x), kit_ty (r := false) (by decide +kernel), _, rfl, _, _, _, _, _, rfl, .ty _, .base (.str x), kit_ty (r := false) (by decide +kernel), rfl, _, rfl, ?_⟩
        refine ⟨_, rfl, _, _, _, _, _, rfl, .ty _, .base (.str x), kit_ty (r := false) (by decide +kernel), _, rfl, _, _, _, _, _, rfl, .ty _, .base (.str x), kit_ty (r := false) (by decide +kernel), rfl, _, rfl, ?_⟩
        refine ⟨_, rfl, _, _, _, _, _, rfl, .ty _, .base (.str x), kit_ty (r := true) (by decide +kernel), _, rfl, _, _, _, _, _, rfl, .ty _, .base (.str x), kit_ty (r := true) (by decide +kernel), rfl, _, rfl, ?_⟩
        refine ⟨_, rfl, _, rfl, rfl, ?_⟩
        show Q (.bl (decide (V.str x = V.str x))) _
        rw [decide_eq_true rfl]
        exact q _ (same_new ntp)
      | lst hl hk =>
        cases hv with
        | @lst a xs _ sa ra =>
        cases hu with
        | @lst b ys _ sb rb =>
        refine ⟨_, rfl, rfl, _, rfl, _, rfl, by show 2 ≤ sizeLine; decide, fun tp ntp => ?_⟩
        have s1 := same_new (o := .tup [V.ty "list", V.ty "tuple"]) ntp
        have sa1 := Same.seq (s1) sa
        have sb1 := Same.seq (s1) sb
        refine ⟨_, tp, _, _, _, _, rfl, upd_same, .cons (.ty _) (.cons (.ty _) .nil), tyL sb1, kit2 (r := true) (s := false) (by decide +kernel) (by decide +kernel), _, rfl, ?_⟩
        refine ⟨_, rfl, _, _, _, _, _, rfl, .ty _, tyL sa1, kit_ty (r := true) (by decide +kernel), _, rfl, _, _, _, _, _, rfl, .ty _, tyL sb1, kit_ty (r := true) (by decide +kernel), rfl, _, rfl, ?_⟩
        refine ⟨_, rfl, _, _, _, _, _, rfl, .ty _, tyL sa1, kit_ty (r := false) (by decide +kernel), _, rfl, _, _, _, _, _, rfl, .ty _, tyL sb1, kit_ty (r := false) (by decide +kernel), rfl, _, rfl, ?_⟩
        have la := dpl_len ra
        have lb := dpl_len rb
        refine ⟨_, rfl, a, _, rfl, .inl sa1, _, rfl, b, _, rfl, .inl sb1, rfl, _, rfl, ?_⟩
        have el : decide (V.int (xs.length : Int) = V.int (ys.length : Int)) = true := decide_eq_true (by rw [la, lb])
        rw [el]
        refine ⟨_, rfl, _, rfl, a, b, xs, ys, rfl, .inl ⟨sa1, sb1, fun D nD => ?_⟩⟩
        have s2 := same_new (o := .lst []) nD
        refine ⟨fun i m H' => m = xs.length - i ∧ i ≤ xs.length ∧ H' D = some (.lst ((List.replicate i true).map V.bl)) ∧ Same (upd H tp (.tup [V.ty "list", V.ty "tuple"])) H', ⟨xs.length, rfl, Nat.zero_le _, upd_same, s2⟩, ?_⟩
        rintro i m H' ⟨rfl, hi, hD, sm⟩
        have sa2 := Same.seq (sm) sa1
        have sb2 := Same.seq (sm) sb1
        by_cases hlt : i < xs.length
        · have hlt2 : i < ys.length := by omega
          refine .inr ⟨⟨xs, ys, xs[i], ys[i], sa2, sb2, List.getElem?_eq_getElem hlt, List.getElem?_eq_getElem hlt2⟩, fun H2 => H2 D = some (.lst ((List.replicate (i + 1) true).map V.bl)) ∧ Same (upd H tp (.tup [V.ty "list", V.ty "tuple"])) H2, fun H2 z => ⟨xs.length - (i + 1), by omega, rfl, hlt, z.1, z.2⟩, ?_⟩
          rintro vv H2 ⟨tt, x, y, rfl, ntt, rfl, hx, hy⟩
          have ex := hx _ sa2
          have ey := hy _ sb2
          have s3 := same_new (o := .tup [x, y]) ntt
          refine ⟨tt, _, rfl, SqT.of upd_same, rfl, _, _, rfl, _, _, rfl, rfl, rfl, ?_⟩
          obtain ⟨d1, e1, p1⟩ := dpl_at ra ex
          obtain ⟨d2, e2, p2⟩ := dpl_at rb ey
          obtain rfl : d1 = d2 := Option.some.inj (e1.symm.trans e2)
          have s13 := (s1.trans sm).trans s3
          refine ⟨_, rfl, _, rfl, x, y, d1, rfl, dp_same s13 p1, dp_same s13 p2, hk d1 (List.mem_of_getElem? e1), fun H4 s4 => ?_⟩
          have nDt : D ≠ tt := ne_of_none hD ntt
          refine ⟨_, s4 _ _ (s3 _ _ hD), by rw [List.length_map, List.length_replicate]; exact Nat.lt_of_lt_of_le (show i < 1001 by omega) (by decide), ?_, same_over ((sm.trans s3).trans s4) nD⟩
          rw [upd_same, List.replicate_succ', List.map_append]
          rfl
        · have ei : i = xs.length := by omega
          refine .inl ⟨⟨xs, ys, sa2, sb2, .inl (by omega)⟩, D, List.replicate i true, rfl, SqL.of hD, ?_⟩
          have ea : (List.replicate i true).all id = true := List.all_eq_true.mpr fun z hz => (List.mem_replicate.mp hz).2
          rw [ea]
          exact q H' (s1.trans sm)
      | tup hl hk =>
        cases hv with
        | @tup a xs _ sa ra =>
        cases hu with
        | @tup b ys _ sb rb =>
        refine ⟨_, rfl, rfl, _, rfl, _, rfl, by show 2 ≤ sizeLine; decide, fun tp ntp => ?_⟩
        have s1 := same_new (o := .tup [V.ty "list", V.ty "tuple"]) ntp
        have sa1 := same_sqt (s1) sa
        have sb1 := same_sqt (s1) sb
        refine ⟨_, tp, _, _, _, _, rfl, upd_same, .cons (.ty _) (.cons (.ty _) .nil), tyT sb1, kit2 (r := false) (s := true) (by decide +kernel) (by decide +kernel), _, rfl, ?_⟩
        refine ⟨_, rfl, _, _, _, _, _, rfl, .ty _, tyT sa1, kit_ty (r := false) (by decide +kernel), _, rfl, _, _, _, _, _, rfl, .ty _, tyT sb1, kit_ty (r := false) (by decide +kernel), rfl, _, rfl, ?_⟩
        refine ⟨_, rfl, _, _, _, _, _, rfl, .ty _, tyT sa1, kit_ty (r := true) (by decide +kernel), _, rfl, _, _, _, _, _, rfl, .ty _, tyT sb1, kit_ty (r := true) (by decide +kernel), rfl, _, rfl, ?_⟩
        have la := dpl_len ra
        have lb := dpl_len rb
        refine ⟨_, rfl, a, _, rfl, .inr sa1, _, rfl, b, _, rfl, .inr sb1, rfl, _, rfl, ?_⟩
        have el : decide (V.int (xs.length : Int) = V.int (ys.length : Int)) = true := decide_eq_true (by rw [la, lb])
        rw [el]
        refine ⟨_, rfl, _, rfl, a, b, xs, ys, rfl, .inr ⟨sa1, sb1, fun D nD => ?_⟩⟩
        have s2 := same_new (o := .lst []) nD
        refine ⟨fun i m H' => m = xs.length - i ∧ i ≤ xs.length ∧ H' D = some (.lst ((List.replicate i true).map V.bl)) ∧ Same (upd H tp (.tup [V.ty "list", V.ty "tuple"])) H', ⟨xs.length, rfl, Nat.zero_le _, upd_same, s2⟩, ?_⟩
        rintro i m H' ⟨rfl, hi, hD, sm⟩
        have sa2 := same_sqt (sm) sa1
        have sb2 := same_sqt (sm) sb1
        by_cases hlt : i < xs.length
        · have hlt2 : i < ys.length := by omega
          refine .inr ⟨⟨xs, ys, xs[i], ys[i], sa2, sb2, List.getElem?_eq_getElem hlt, List.getElem?_eq_getElem hlt2⟩, fun H2 => H2 D = some (.lst ((List.replicate (i + 1) true).map V.bl)) ∧ Same (upd H tp (.tup [V.ty "list", V.ty "tuple"])) H2, fun H2 z => ⟨xs.length - (i + 1), by omega, rfl, hlt, z.1, z.2⟩, ?_⟩
          rintro vv H2 ⟨tt, x, y, rfl, ntt, rfl, hx, hy⟩
          have ex := hx _ sa2
          have ey := hy _ sb2
          have s3 := same_new (o := .tup [x, y]) ntt
          refine ⟨tt, _, rfl, SqT.of upd_same, rfl, _, _, rfl, _, _, rfl, rfl, rfl, ?_⟩
          obtain ⟨d1, e1, p1⟩ := dpl_at ra ex
          obtain ⟨d2, e2, p2⟩ := dpl_at rb ey
          obtain rfl : d1 = d2 := Option.some.inj (e1.symm.trans e2)
          have s13 := (s1.trans sm).trans s3
          refine ⟨_, rfl, _, rfl, x, y, d1, rfl, dp_same s13 p1, dp_same s13 p2, hk d1 (List.mem_of_getElem? e1), fun H4 s4 => ?_⟩
          have nDt : D ≠ tt := ne_of_none hD ntt
          refine ⟨_, s4 _ _ (s3 _ _ hD), by rw [List.length_map, List.length_replicate]; exact Nat.lt_of_lt_of_le (show i < 1001 by omega) (by decide), ?_, same_over ((sm.trans s3).trans s4) nD⟩
          rw [upd_same, List.replicate_succ', List.map_append]
          rfl
        · have ei : i = xs.length := by omega
          refine .inl ⟨⟨xs, ys, sa2, sb2, .inl (by omega)⟩, D, List.replicate i true, rfl, SqL.of hD, ?_⟩
          have ea : (List.replicate i true).all id = true := List.all_eq_true.mpr fun z hz => (List.mem_replicate.mp hz).2
          rw [ea]
          exact q H' (s1.trans sm)
end
section
variable {P : Program} {w : World} {K : PySem.W.Frag} {mg : Str → Option Value} {base : Heap}
theorem ok_rootOf {f fP : Addr} {fd fdP : FuncData} (F : Fun K "root_of" "root_of" sRootOf f fd) (T1 : Kn P w K mg base 3 "path_of" sPathOf ["forest", "node"] (spPathOf K) fP fdP) : FnOk P w K mg base CX0 4 f fd ["forest", "node"] (spRootOf K) := by
  refine F.ok scRootOf (fun vs H Q E h => ?_) (fun cdv A outer s H vs Q E hr h => ?_)
  · obtain ⟨a, n, p, r, x, rfl, _⟩ := h
    rfl
  · obtain ⟨a, n, p, r, x, rfl, hS, hn, hF, hx, q⟩ := h
    refine ⟨_, pss_one (ps_ret (pe_ix ix_list (pe_call T1.G hr (by rfl) T1.g T1.F.kp T1.b .nil pass0 (pa_cons (pv 0) (pa_cons (pv 1) pa_nil))) (pe_un un_neg pe_int) (fun _ _ => rfl))), ?_⟩
    exact ⟨_, rfl, _, rfl, a, n, p, r, x, rfl, hS, hn, hF, hx, fun c H' nc hc sm => ⟨1, rfl, c, _, _, _, rfl, rfl, SqL.of hc, natsV_last p n x, q H' sm⟩⟩
end
section
variable {P : Program} {w : World} {K : PySem.W.Frag} {mg : Str → Option Value} {base : Heap}
theorem ok_depthOf {f fP : Addr} {fd fdP : FuncData} (F : Fun K "depth_of" "depth_of" sDepthOf f fd) (T1 : Kn P w K mg base 3 "path_of" sPathOf ["forest", "node"] (spPathOf K) fP fdP) (T : Tx mg) : FnOk P w K mg base CX0 4 f fd ["forest", "node"] (spDepthOf K) := by
  refine F.ok scDepthOf (fun vs H Q E h => ?_) (fun cdv A outer s H vs Q E hr h => ?_)
  · obtain ⟨a, n, p, r, x, rfl, _⟩ := h
    rfl
  · obtain ⟨a, n, p, r, x, rfl, hS, hn, hF, hx, q⟩ := h
    refine ⟨_, pss_one (ps_ret (pe_op op_sub (pe_callB call_len_seq (by rfl) T.len PySem.boot_len (pa_cons (pe_call T1.G hr (by rfl) T1.g T1.F.kp T1.b .nil pass0 (pa_cons (pv 0) (pa_cons (pv 1) pa_nil))) pa_nil)) pe_int)), ?_⟩
    refine ⟨_, rfl, _, rfl, a, n, p, r, x, rfl, hS, hn, hF, hx, fun c H' nc hc sm => ⟨c, _, rfl, .inl (SqL.of hc), _, _, rfl, rfl, ?_⟩⟩
    have el : ((natsV (path p n x)).length : Int) - 1 = ((ups p n x).length : Int) := by
      rw [natsV_len]
      unfold Ff.path
      rw [List.length_append, List.length_singleton]
      omega
    show Q (.int (((natsV (path p n x)).length : Int) - 1)) H'
    rw [el]
    exact q H' sm
end
section
variable {P : Program} {w : World} {K : PySem.W.Frag} {mg : Str → Option Value} {base : Heap}
theorem ok_marked {f fP : Addr} {fd fdP : FuncData} (F : Fun K "marked_nodes" "marked_nodes" sMarked f fd) (T1 : Kn P w K mg base 3 "path_of" sPathOf ["forest", "node"] (spPathOf K) fP fdP) (T : Tx mg) (ts : mg "set" = none) (to : mg "sorted" = none) : FnOk P w K mg base CX0 4 f fd ["forest", "nodes"] (spMarked K) := by
  refine F.ok scMarked (fun vs H Q E h => ?_) (fun cdv A outer s H vs Q E hr h => ?_)
  · obtain ⟨a, b, n, p, r, xs, rfl, _⟩ := h
    rfl
  · obtain ⟨a, b, n, p, r, xs, rfl, hS, hB, hn, hxl, hF, hx, q⟩ := h
    refine ⟨_, pss_cons (ps_set (i := 2) scMarked.nd rfl (.inl rfl) (pe_callTy0 cr_set0 (by rfl) ts (by decide +kernel)))
      (pss_cons (ps_for PassesOwn.never rfl (pi_list (pv 1)) (pg_name (i := 3) scMarked.nd rfl (.inl rfl))
        (pss_one (ps_for PassesOwn.never rfl (pi_list (pe_slice sl_list (pe_call T1.G hr (by rfl) T1.g T1.F.kp T1.b .nil pass0 (pa_cons (pv 0) (pa_cons (pv 3) pa_nil))) po_none (po_some (pe_un un_neg pe_int)))) (pg_name (i := 4) scMarked.nd rfl (.inl rfl))
          (pss_one (ps_expr (pe_sadd (pv 2) (pa_cons (pv 4) pa_nil)))))))
      (pss_one (ps_ret (pe_callB (cr_sortedSet rfl) (by rfl) to (by decide +kernel) (pa_cons (pv 2) pa_nil))))), ?_⟩
    refine ⟨rfl, fun st nst => ?_⟩
    have s1 := same_new (o := SetO w st (fun _ => false) 0) nst
    refine ⟨_, rfl, b, rfl, ⟨_, s1.seq hB⟩, ?_⟩
    refine for_list (xs := natsV xs) (fun i σ H' => (∃ y3 y4, σ = [some (.ref a), some (.ref b), some (.ref st), y3, y4]) ∧ (∃ (S : Int → Bool) (cnt : Nat), H' st = some (SetO w st S cnt) ∧ cnt = (List.range n).countP (fun v : Nat => S (v : Int)) ∧ ∀ k : Int, S k = true ↔ ∃ v : Nat, k = (v : Int) ∧ v < n ∧ markB n p (xs.take i) v = true) ∧ Same H H')
      ⟨⟨none, none, rfl⟩, ⟨fun _ => false, 0, upd_same, ?_, fun k => ⟨fun z => Bool.noConfusion z, fun ⟨v, _, _, z⟩ => by simp [markB] at z⟩⟩, s1⟩ (fun i σ H' _ h => h.2.2.seq hB) ?_ ?_
    · rw [List.countP_eq_zero.mpr fun v _ => by simp]
    · rintro i v σ H' hv ⟨⟨y3, y4, rfl⟩, ⟨S, cnt, hst, hcnt, hSm⟩, sm⟩
      unfold natsV at hv
      rw [List.getElem?_map] at hv
      obtain ⟨u, hu, rfl⟩ := Option.map_eq_some_iff.mp hv
      have hun : u < n := hx u (List.mem_of_getElem? hu)
      refine ⟨_, rfl, _, rfl, a, n, p, r, u, rfl, hS.same sm, by omega, hF, hun, fun pt H2 npt hpt s2 => ?_⟩
      refine ⟨1, rfl, -1, rfl, pt, _, rfl, SqL.of hpt, fun ct nct => ?_⟩
      unfold Ff.path
      rw [cut_last]
      have s3 := same_new (o := .lst (natsV (ups p n u))) nct
      refine ⟨ct, rfl, ⟨_, SqL.of upd_same⟩, ?_⟩
      have hst2 := s3 _ _ (s2 _ _ hst)
      have nsc : ct ≠ st := (ne_of_none (s2 _ _ hst) nct).symm
      refine for_list (xs := natsV (ups p n u)) (fun j σ H'' => (∃ y4, σ = [some (.ref a), some (.ref b), some (.ref st), some (vi u), y4]) ∧ (∃ (S : Int → Bool) (cnt : Nat), H'' st = some (SetO w st S cnt) ∧ cnt = (List.range n).countP (fun v : Nat => S (v : Int)) ∧ ∀ k : Int, S k = true ↔ ∃ v : Nat, k = (v : Int) ∧ v < n ∧ (markB n p (xs.take i) v = true ∨ v ∈ (ups p n u).take j)) ∧ H'' ct = some (.lst (natsV (ups p n u))) ∧ Same H H'')
        ⟨⟨y4, rfl⟩, ⟨S, cnt, hst2, hcnt, fun k => (hSm k).trans ⟨fun ⟨v, h1, h2, h3⟩ => ⟨v, h1, h2, .inl h3⟩, fun ⟨v, h1, h2, h3⟩ => ⟨v, h1, h2, h3.resolve_right (by simp)⟩⟩⟩, upd_same, (sm.trans s2).trans s3⟩ (fun j σ H'' _ h => SqL.of h.2.2.1) ?_ ?_
      · rintro j v σ H3 hv ⟨⟨y4, rfl⟩, ⟨S, cnt, hst, hcnt, hSm⟩, hct, sm3⟩
        unfold natsV at hv
        rw [List.getElem?_map] at hv
        obtain ⟨z, hz, rfl⟩ := Option.map_eq_some_iff.mp hv
        have hzn : z < n := (ups_lt hF u hun z (List.mem_of_getElem? hz)).1
        have hcn : cnt ≤ n := by rw [hcnt]; exact Nat.le_trans (List.countP_le_length) (by rw [List.length_range]; exact Nat.le_refl _)
        refine ⟨_, rfl, ⟨st, S, cnt, rfl, hst⟩, _, rfl, st, _, S, cnt, rfl, rfl, hst, by unfold scanBound; omega, ⟨_, rfl⟩, ⟨_, _, upd_same, ?_, ?_⟩, by rw [upd_ne nsc]; exact hct, same_over sm3 nst⟩
        · by_cases hS' : S (z : Int) = true
          · rw [if_pos hS', hcnt]
            refine (List.countP_congr fun v _ => ?_)
            show S (v : Int) = true ↔ (S (v : Int) || decide ((v : Int) = (z : Int))) = true
            by_cases e : (v : Int) = (z : Int)
            · rw [e, hS']; simp
            · simp [e]
          · rw [if_neg hS', hcnt]
            refine (count_up (k := z) (f := fun v : Nat => S (v : Int)) (g := fun v : Nat => S (v : Int) || decide ((v : Int) = (z : Int))) hzn (by simpa using hS') fun v => ?_).symm
            show (S (v : Int) || decide ((v : Int) = (z : Int))) = (S (v : Int) || decide (v = z))
            congr 1
            exact decide_eq_decide.mpr ⟨fun h => by omega, fun h => by omega⟩
        · intro k
          show (S k || decide (k = (z : Int))) = true ↔ _
          rw [Bool.or_eq_true, decide_eq_true_iff, hSm k, List.take_add_one, hz]
          constructor
          · rintro (⟨v, h1, h2, h3⟩ | h)
            · exact ⟨v, h1, h2, h3.imp_right fun y => List.mem_append_left _ y⟩
            · exact ⟨z, h, hzn, .inr (List.mem_append_right _ (by simp))⟩
          · rintro ⟨v, h1, h2, h3 | h3⟩
            · exact .inl ⟨v, h1, h2, .inl h3⟩
            · rcases List.mem_append.mp h3 with y | y
              · exact .inl ⟨v, h1, h2, .inr y⟩
              · exact .inr (by rw [h1]; congr 1; simpa using y)
      · rintro σ H3 ⟨⟨y4, rfl⟩, ⟨S, cnt, hst, hcnt, hSm⟩, hct, sm3⟩
        refine ⟨⟨_, _, rfl⟩, ⟨S, cnt, hst, hcnt, fun k => (hSm k).trans ?_⟩, sm3⟩
        rw [natsV_len, List.take_length, List.take_add_one, hu]
        have e : ∀ v, markB n p (xs.take i ++ [u]) v = true ↔ (markB n p (xs.take i) v = true ∨ v ∈ ups p n u) := fun v => by
          unfold markB
          rw [List.any_append, Bool.or_eq_true]
          simp [upB]
        exact ⟨fun ⟨v, h1, h2, h3⟩ => ⟨v, h1, h2, (e v).mpr h3⟩, fun ⟨v, h1, h2, h3⟩ => ⟨v, h1, h2, (e v).mp h3⟩⟩
    · rintro σ H' ⟨⟨y3, y4, rfl⟩, ⟨S, cnt, hst, hcnt, hSm⟩, sm⟩
      rw [natsV_len, List.take_length] at hSm
      have hcn : cnt ≤ n := by rw [hcnt]; exact Nat.le_trans (List.countP_le_length) (by rw [List.length_range]; exact Nat.le_refl _)
      refine ⟨_, rfl, st, S, cnt, rfl, hst, by omega, fun ns2 sl hpw hmem hln nsl => ?_⟩
      have e : ns2 = (markS n p xs).map fun v : Nat => (v : Int) := rise_eq hpw (rise_filter n _) fun k => by
        rw [hmem k, hSm k, List.mem_map]
        constructor
        · rintro ⟨v, h1, h2, h3⟩
          exact ⟨v, List.mem_filter.mpr ⟨List.mem_range.mpr h2, h3⟩, h1.symm⟩
        · rintro ⟨v, h1, h2⟩
          obtain ⟨h3, h4⟩ := List.mem_filter.mp h1
          exact ⟨v, h2.symm, List.mem_range.mp h3, h4⟩
      rw [e, ← natsV_ints]
      have s4 := same_new (o := .lst (natsV (markS n p xs))) nsl
      exact q sl _ (sm.free nsl) upd_same (sm.trans s4)
end
section
variable {P : Program} {w : World} {K : PySem.W.Frag} {mg : Str → Option Value} {base : Heap}
theorem ok_after {f fM fR : Addr} {fd fdM fdR : FuncData} (F : Fun K "forest_after" "forest_after" sAfter f fd) (T1 : Kn P w K mg base 4 "marked_nodes" sMarked ["forest", "nodes"] (spMarked K) fM fdM) (T2 : Kn P w K mg base 4 "root_of" sRootOf ["forest", "node"] (spRootOf K) fR fdR) (T : Tx mg) : FnOk P w K mg base CX0 5 f fd ["forest", "nodes"] (spAfter K) := by
  refine F.ok scAfter (fun vs H Q E h => ?_) (fun cdv A outer s H vs Q E hr h => ?_)
  · obtain ⟨a, b, n, p, r, xs, rfl, _⟩ := h
    rfl
  · obtain ⟨a, b, n, p, r, xs, rfl, hS, hB, hn, hxl, hF, hx, q⟩ := h
    refine ⟨_, pss_cons (ps_set (i := 2) scAfter.nd rfl (.inl rfl) (pe_callTy call_list_of (by rfl) T.list (by decide +kernel) (pa_cons (pv 0) pa_nil)))
      (pss_cons (ps_for PassesOwn.never rfl (pi_list (pe_call T1.G hr (by rfl) T1.g T1.F.kp T1.b .nil pass0 (pa_cons (pv 0) (pa_cons (pv 1) pa_nil)))) (pg_name (i := 3) scAfter.nd rfl (.inl rfl))
        (pss_one (ps_asg (pe_call T2.G hr (by rfl) T2.g T2.F.kp T2.b .nil pass0 (pa_cons (pv 0) (pa_cons (pv 3) pa_nil))) (pg_sub (pv 2) (pv 3) set_list))))
      (pss_one (ps_ret (pe_callTy call_tuple_of (by rfl) T.tuple (by decide +kernel) (pa_cons (pv 2) pa_nil))))), ?_⟩
    refine ⟨_, rfl, a, _, rfl, hS, fun l nl => ?_⟩
    have s1 := same_new (o := .lst (tupOf n p)) nl
    refine ⟨_, rfl, _, rfl, a, b, n, p, r, xs, rfl, hS.same s1, s1.seq hB, hn, hxl, hF, hx, fun m H2 nm hm s2 => ?_⟩
    have hl2 := s2 _ _ (upd_same (H := H) (a := l) (o := .lst (tupOf n p)))
    have nml : m ≠ l := (ne_of_none (upd_same (H := H) (a := l) (o := .lst (tupOf n p))) nm).symm
    refine ⟨m, rfl, ⟨_, SqL.of hm⟩, ?_⟩
    refine for_list (xs := natsV (markS n p xs)) (fun i σ H' => (∃ y, σ = [some (.ref a), some (.ref b), some (.ref l), y]) ∧ H' m = some (.lst (natsV (markS n p xs))) ∧ H' l = some (.lst (tupOf n (hang n p ((markS n p xs).take i) p))) ∧ Same H H')
      ⟨⟨none, rfl⟩, hm, hl2, s1.trans s2⟩ (fun i σ H' _ h => SqL.of h.2.1) ?_ ?_
    · rintro i v σ H' hv ⟨⟨y, rfl⟩, hm', hl', sm⟩
      unfold natsV at hv
      rw [List.getElem?_map] at hv
      obtain ⟨u, hu, rfl⟩ := Option.map_eq_some_iff.mp hv
      have hun : u < n := (markS_mem.mp (List.mem_of_getElem? hu)).1
      refine ⟨_, rfl, _, rfl, a, n, p, r, u, rfl, hS.same sm, by omega, hF, hun, fun H3 s3 => ?_⟩
      have hl3 := s3 _ _ hl'
      refine ⟨_, rfl, _, rfl, l, _, _, u, rfl, rfl, hl3, by rw [tupOf_len]; exact ixN_nat hun, ⟨_, rfl⟩, by rw [upd_ne nml]; exact s3 _ _ hm', ?_, same_over (sm.trans s3) nl⟩
      rw [upd_same, tupOf_set, List.take_add_one, hu]
      show some (HO.lst _) = some (HO.lst (tupOf n (hang n p ((markS n p xs).take i ++ [u]) p)))
      rw [hang_snoc]
    · rintro σ H' ⟨⟨y, rfl⟩, hm', hl', sm⟩
      rw [natsV_len, List.take_length] at hl'
      have e : tupOf n (hang n p (markS n p xs) p) = tupOf n (fndAll n xs p) := tupOf_congr fun v hv => by
        rw [hang_eq, behind_eq hF xs hx v hv]
        by_cases h : markB n p xs v = true
        · rw [if_pos (markS_mem.mpr ⟨hv, h⟩), if_pos h]
        · rw [if_neg (fun z => h (markS_mem.mp z).2), if_neg h]
      rw [e] at hl'
      refine ⟨_, rfl, l, _, rfl, .inl ⟨SqL.of hl', fun g ng => ?_⟩⟩
      have s3 := same_new (o := .tup (tupOf n (fndAll n xs p))) ng
      exact q g _ (sm.free ng) upd_same (sm.trans s3)
end
section
variable {P : Program} {w : World} {K : PySem.W.Frag} {mg : Str → Option Value} {base : Heap}
theorem ok_total {f fM fR : Addr} {fd fdM fdR : FuncData} (F : Fun K "total_cost" "total_cost" sTotal f fd) (T1 : Kn P w K mg base 4 "marked_nodes" sMarked ["forest", "nodes"] (spMarked K) fM fdM) (T2 : Kn P w K mg base 4 "depth_of" sDepthOf ["forest", "node"] (spDepthOf K) fR fdR) (T : Tx mg) : FnOk P w K mg base CX0 5 f fd ["forest", "nodes"] (spTotal K) := by
  refine F.ok scTotal (fun vs H Q E h => ?_) (fun cdv A outer s H vs Q E hr h => ?_)
  · obtain ⟨a, b, n, p, r, xs, rfl, _⟩ := h
    rfl
  · obtain ⟨a, b, n, p, r, xs, rfl, hS, hB, hn, hxl, hF, hx, q⟩ := h
    refine ⟨_, pss_cons (ps_setLc (i := 2) (own := [("node", 4)]) (g := gName 4) (by rfl) scTotal.nd rfl rfl (sw_true rfl rfl rfl (by decide +kernel)) (pi_list (pe_call T1.G hr (by rfl) T1.g T1.F.kp T1.b .nil pass0 (pa_cons (pv 0) (pa_cons (pv 1) pa_nil))))
        (blkOk_by (own := [("node", 4)]) (N := totalN) (sc := defScope sTotal) (by decide +kernel)) (fun _ _ _ _ _ => pg_name (i := 4) scTotal.nd rfl (Or.inl rfl)) (fun _ _ _ _ _ => pts_one (pt_cmpR op_ge (pe_call T2.G hr (by rfl) T2.g T2.F.kp T2.b .nil pass0 (pa_cons (pv 0) (pa_cons (pv 4) pa_nil))) pe_int (nomark _))) (fun _ _ _ _ _ => pv 4))
      (pss_cons (ps_setLc (i := 3) (own := [("node", 4)]) (g := gName 4) (by rfl) scTotal.nd rfl rfl (sw_true rfl rfl rfl (by decide +kernel)) (pi_list (pv 1))
        (blkOk_by (own := [("node", 4)]) (N := totalN) (sc := defScope sTotal) (by decide +kernel)) (fun _ _ _ _ _ => pg_name (i := 4) scTotal.nd rfl (Or.inl rfl)) (fun _ _ _ _ _ => pts_one (pt_cmpR op_ne (pe_ix (show IxR _ (rIx K) from ix_seq) (pv 0) (pv 4) (fun _ _ => rfl)) (pv 4) (nomark _))) (fun _ _ _ _ _ => pv 4))
      (pss_one (ps_ret (pe_op op_add (pe_callB call_len_seq (by rfl) T.len PySem.boot_len (pa_cons (pv 2) pa_nil)) (pe_callB call_len_seq (by rfl) T.len PySem.boot_len (pa_cons (pv 3) pa_nil)))))), ?_⟩
    refine ⟨_, rfl, _, rfl, a, b, n, p, r, xs, rfl, hS, hB, hn, hxl, hF, hx, fun m H1 nm hm s1 => ?_⟩
    refine ⟨m, rfl, ⟨_, SqL.of hm⟩, fun D nD => ?_⟩
    have nDm : m ≠ D := ne_of_none hm nD
    refine lc_list (K := K) (a := m) (xs := natsV (markS n p xs)) (fun i H' => (∃ ys : List V, H' D = some (.lst ys) ∧ ys.length = ((markS n p xs).take i).countP (deep p)) ∧ H' m = some (.lst (natsV (markS n p xs))) ∧ Same H H')
      ⟨⟨[], upd_same, rfl⟩, by rw [upd_ne nDm]; exact hm, same_over s1 (s1.free nD)⟩ (fun i H' _ h => SqL.of h.2.1) ?_ ?_
    · rintro i v H' hv ⟨⟨ys, hD, hyl⟩, hm', sm⟩
      unfold natsV at hv
      rw [List.getElem?_map] at hv
      obtain ⟨u, hu, rfl⟩ := Option.map_eq_some_iff.mp hv
      have hum := markS_mem.mp (List.mem_of_getElem? hu)
      have hnr := mark_nonroot hF hx hum.2
      have hcl : ys.length ≤ n := by
        rw [hyl]
        exact Nat.le_trans List.countP_le_length (Nat.le_trans (by rw [List.length_take]; exact Nat.min_le_right _ _) (markS_len n p xs))
      refine ⟨rfl, _, rfl, _, rfl, a, n, p, r, u, rfl, hS.same sm, by omega, hF, hum.1, fun H3 s3 => ?_⟩
      refine ⟨_, _, rfl, rfl, _, rfl, ?_⟩
      have ct : ((markS n p xs).take (i + 1)).countP (deep p) = ((markS n p xs).take i).countP (deep p) + (if deep p u = true then 1 else 0) := by
        rw [List.take_add_one, hu, List.countP_append]
        show _ + List.countP (deep p) [u] = _
        rw [List.countP_singleton]
      refine ite2 (fun e => ?_) (fun e => ?_)
      · have hd : deep p u = true := by
          rw [deep_iff hF hum.1 hnr.2]
          have z : (2 : Int) ≤ ((ups p n u).length : Int) := of_decide_eq_true e
          exact decide_eq_true (by omega)
        refine ⟨_, rfl, ys, s3 _ _ hD, Nat.lt_of_le_of_lt (show _ ≤ 60 by omega) (by decide), ⟨_, upd_same, ?_⟩, by rw [upd_ne nDm]; exact s3 _ _ hm', same_over (sm.trans s3) (s1.free nD)⟩
        rw [List.length_append, hyl, ct, if_pos hd]; rfl
      · have hd : deep p u = false := by
          rw [deep_iff hF hum.1 hnr.2]
          have z : ¬ (2 : Int) ≤ ((ups p n u).length : Int) := fun y => e (decide_eq_true y)
          exact decide_eq_false (by omega)
        refine ⟨⟨ys, s3 _ _ hD, ?_⟩, s3 _ _ hm', sm.trans s3⟩
        rw [hyl, ct, hd]; rfl
    · rintro H2 ⟨⟨ys, hD, hyl⟩, hm', sm⟩
      rw [natsV_len, List.take_length] at hyl
      refine ⟨_, rfl, b, rfl, ⟨_, sm.seq hB⟩, fun D2 nD2 => ?_⟩
      have nDD : D ≠ D2 := ne_of_none hD nD2
      refine lc_list (K := K) (a := b) (xs := natsV xs) (fun i H' => (∃ zs : List V, H' D2 = some (.lst zs) ∧ zs.length = ((xs.take i).map (low p)).sum) ∧ H' D = some (.lst ys) ∧ Same H H')
        ⟨⟨[], upd_same, rfl⟩, by rw [upd_ne nDD]; exact hD, same_over sm (sm.free nD2)⟩ (fun i H' _ h => h.2.2.seq hB) ?_ ?_
      · rintro i v H' hv ⟨⟨zs, hD2, hzl⟩, hD', sm'⟩
        unfold natsV at hv
        rw [List.getElem?_map] at hv
        obtain ⟨u, hu, rfl⟩ := Option.map_eq_some_iff.mp hv
        have hun : u < n := hx u (List.mem_of_getElem? hu)
        have hil : i < xs.length := (List.getElem?_eq_some_iff.mp hu).1
        have ct : ((xs.take (i + 1)).map (low p)).sum = ((xs.take i).map (low p)).sum + low p u := by
          rw [List.take_add_one, hu, List.map_append, List.sum_append]
          simp
        have hle : ∀ l : List Nat, (l.map (low p)).sum ≤ l.length := fun l => by
          induction l with
          | nil => exact Nat.le_refl _
          | cons x l ih =>
            have : low p x ≤ 1 := by unfold low; split <;> omega
            rw [List.map_cons, List.sum_cons, List.length_cons]; omega
        have hz : zs.length ≤ 1000 := by
          rw [hzl]
          exact Nat.le_trans (hle _) (by rw [List.length_take]; omega)
        refine ⟨rfl, _, rfl, _, rfl, (hS.same sm').ix (atI_nat (tupOf_at hun)) ⟨_, rfl, rfl, _, rfl, ?_⟩⟩
        refine ite2 (fun e => ?_) (fun e => ?_)
        · have hd : low p u = 1 := by
            unfold low
            rw [if_neg (fun z => by rw [z] at e; simp at e)]
          refine ⟨_, rfl, zs, hD2, Nat.lt_of_le_of_lt hz (by decide), ⟨_, upd_same, ?_⟩, by rw [upd_ne nDD]; exact hD', same_over sm' (sm.free nD2)⟩
          rw [List.length_append, hzl, ct, hd]; rfl
        · have hd : low p u = 0 := by
            have z : ¬ (!decide (vi (p u) = vi u)) = true := e
            simp at z
            unfold low
            rw [if_pos (by omega)]
          refine ⟨⟨zs, hD2, ?_⟩, hD', sm'⟩
          rw [hzl, ct, hd]; rfl
      · rintro H3 ⟨⟨zs, hD2, hzl⟩, hD', sm'⟩
        rw [natsV_len, List.take_length] at hzl
        refine ⟨_, rfl, D, _, rfl, .inl (SqL.of hD'), _, rfl, D2, _, rfl, .inl (SqL.of hD2), _, _, rfl, rfl, ?_⟩
        show Q (.int ((ys.length : Int) + (zs.length : Int))) H3
        have e : (ys.length : Int) + (zs.length : Int) = (((costs n xs p).sum : Nat) : Int) := by
          rw [cost_total hF xs hx, hyl, hzl]
          unfold markS
          rw [List.countP_filter]
          omega
        rw [e]
        exact q H3 sm'
end
end Ff


namespace Ff
open PySem PySem.Spec PyProof.Rows L2 ExX LamX
abbrev sForE : Stmt := topS 2
abbrev sMiss : Stmt := topS 3
abbrev sNoNode : Stmt := topS 19
theorem scForEI : FnScope ["self", "tag", "message"] ["self", "tag", "message"] (defScope (initS sForE)) := ⟨rfl, rfl, rfl, by decide +kernel, rfl, by decide +kernel, by decide +kernel⟩
theorem scMissI : FnScope ["self", "tag", "message"] ["self", "tag", "message"] (defScope (initS sMiss)) := ⟨rfl, rfl, rfl, by decide +kernel, rfl, by decide +kernel, by decide +kernel⟩
theorem scNoNodeI : FnScope ["self", "node"] ["self", "node"] (defScope (initS sNoNode)) := ⟨rfl, rfl, rfl, by decide +kernel, rfl, by decide +kernel, by decide +kernel⟩
theorem ty_lu : typeOf (.type "LookupError") = pure (.type "type") := by kernel_rfl
theorem ty_va : typeOf (.type "ValueError") = pure (.type "type") := by kernel_rfl
theorem bo_lu : bootBuiltins "LookupError" = some (.type "LookupError") := by kernel_rfl
theorem bo_va : bootBuiltins "ValueError" = some (.type "ValueError") := by kernel_rfl
section
variable {P : Program} {w : World} {K : PySem.W.Frag} {mg : Str → Option Value} {base : Heap}
theorem ok_missI {f : Addr} {fd : FuncData} {k : Nat} (F : Fun K "__init__" "Missing.__init__" (initS sMiss) f fd) (z : mg "LookupError" = none) (v : PySem.W.findCls K (.type "LookupError") (.type "type") "__init__" = some (.val (.builtin "LookupError.__init__"))) :
    FnOk P w K mg base CX0 (k + 1) f fd ["self", "tag", "message"] (spTop K "LookupError.__new__" luTail) := by
  refine F.ok scMissI (fun vs H Q E h => ?_) (fun cdv A outer s H vs Q E hr h => ?_)
  · obtain ⟨a, C, tag, msg, rfl, _⟩ := h
    rfl
  · obtain ⟨a, C, tag, msg, rfl, ha, T, nt, q⟩ := h
    refine ⟨_, pss_cons (ps_expr (pe_bi (xB := "LookupError") PySem.F.excBase_LookupError ty_lu (by decide +kernel) bo_lu (by decide) (by decide) (by decide +kernel) (by rfl) z v (pa_cons (pv 0) (pa_cons (pv 2) pa_nil))))
      (pss_one (ps_st (nid := "LookupError.__new__") PySem.F.store_LookupError (pv 0) (pv 1))), ?_⟩
    exact ⟨_, rfl, _, rfl, a, C, _, rfl, by show 1 ≤ 1000; decide, T, ha, _, rfl, _, rfl, a, C, rfl, T, nt, .inl ⟨ha, fun dx n ne => q dx n ne⟩⟩
end
section
variable {P : Program} {w : World} {K : PySem.W.Frag} {mg : Str → Option Value} {base : Heap}
theorem ok_forEI {f : Addr} {fd : FuncData} {k : Nat} (F : Fun K "__init__" "ForestError.__init__" (initS sForE) f fd) (z : mg "ValueError" = none) (v : PySem.W.findCls K (.type "ValueError") (.type "type") "__init__" = some (.val (.builtin "ValueError.__init__"))) :
    FnOk P w K mg base CX0 (k + 1) f fd ["self", "tag", "message"] (spTop K "ValueError.__new__" vaTail) := by
  refine F.ok scForEI (fun vs H Q E h => ?_) (fun cdv A outer s H vs Q E hr h => ?_)
  · obtain ⟨a, C, tag, msg, rfl, _⟩ := h
    rfl
  · obtain ⟨a, C, tag, msg, rfl, ha, T, nt, q⟩ := h
    refine ⟨_, pss_cons (ps_expr (pe_bi (xB := "ValueError") PySem.F.excBase_ValueError ty_va (by decide +kernel) bo_va (by decide) (by decide) (by decide +kernel) (by rfl) z v (pa_cons (pv 0) (pa_cons (pv 2) pa_nil))))
      (pss_one (ps_st (nid := "ValueError.__new__") PySem.F.store_ValueError (pv 0) (pv 1))), ?_⟩
    exact ⟨_, rfl, _, rfl, a, C, _, rfl, by show 1 ≤ 1000; decide, T, ha, _, rfl, _, rfl, a, C, rfl, T, nt, .inl ⟨ha, fun dx n ne => q dx n ne⟩⟩
end
section
variable {P : Program} {w : World} {K : PySem.W.Frag} {mg : Str → Option Value} {base : Heap}
theorem ok_noNodeI {f fM CM : Addr} {fd fdM : FuncData} (F : Fun K "__init__" "NoNode.__init__" (initS sNoNode) f fd) (TM : ClsI K CM fM) (gM : mg "Missing" = some (.ref CM)) (GM : FnOk P w K mg base CX0 1 fM fdM ["self", "tag", "message"] (spTop K "LookupError.__new__" luTail)) (bM : Binds K fdM ["self", "tag", "message"] []) :
    FnOk P w K mg base CX0 2 f fd ["self", "node"] (spErrI K "LookupError.__new__" luTail "node" "NoNode") := by
  refine F.ok scNoNodeI (fun vs H Q E h => ?_) (fun cdv A outer s H vs Q E hr h => ?_)
  · obtain ⟨a, C, v, rfl, _⟩ := h
    rfl
  · obtain ⟨a, C, v, rfl, ⟨i, rfl, hi⟩, ha, T, nt, nf, q⟩ := h
    refine ⟨_, pss_cons (ps_expr (pe_ci TM GM hr (by rfl) gM bM pass0 (pa_cons (pv 0) (pa_cons pe_str (pa_cons (pe_joined (.cons pe_str (.cons (pe_fmt (pv 1)) .nil))) pa_nil)))))
      (pss_one (ps_st (nid := "LookupError.__new__") PySem.F.store_LookupError (pv 0) (pv 1))), ?_⟩
    have f0 : (Str.empty ++ Str.ofString "there is no node ").length ≤ 100 := by decide +kernel
    refine ⟨_, rfl, ⟨_, rfl, fits (by omega), _, rfl, .inr ⟨i, rfl, hi, _, rfl, fits (Nat.le_trans (fits_cat f0 (txt_int hi)) (by decide)), ?_⟩⟩⟩
    refine ⟨a, C, _, _, rfl, ha, T, nt, fun dx n ne => ⟨_, rfl, _, rfl, a, C, rfl, T, nf, .inr ⟨dx, _, upd_same, ?_, by show 1 ≤ 900; decide, q dx n ne⟩⟩⟩
    rw [upd_ne ne, upd_same]
end
section
variable {P : Program} {w : World} {K : PySem.W.Frag} {mg : Str → Option Value} {base : Heap}
def spChkX (K : PySem.W.Frag) (C : Addr) : Sp := fun vs H Q E => ∃ (a : Addr) (xs : List V) (x : Int), vs = [.ref a, .int x] ∧ Sq K H a xs ∧ (x < 0 ∨ (xs.length : Int) ≤ x) ∧ x.natAbs.log2 < 1920 ∧ Flies H E C "node" "NoNode" (.int x)
end
section
variable {P : Program} {w : World} {K : PySem.W.Frag} {mg : Str → Option Value} {base : Heap}
theorem okX_pathOf {f fC C : Addr} {fd fdC : FuncData} (F : Fun K "path_of" "path_of" sPathOf f fd) (k1 : KnX P w K mg base 5 "check_node" ["forest", "node"] (spChkX K C) fC fdC) : FnOk P w K mg base (L2N.CX P w) 6 f fd ["forest", "node"] (spChkX K C) := by
  refine okN F scPathOf (fun vs H Q E h => ?_) (fun cdv A outer s H vs Q E hr h tk => ?_)
  · obtain ⟨a, xs, x, rfl, _⟩ := h
    rfl
  · refine ⟨_, pss_cons (ps_expr (pe_call k1.G hr (by rfl) k1.g k1.kp k1.b .nil (lookN tk fun _ _ _ _ z => z) (pa_cons (pv 0) (pa_cons (pv 1) pa_nil)))) (pss_cons ps_never (pss_cons ps_never (pss_one ps_never))), ?_⟩
    obtain ⟨a, xs, x, rfl, r⟩ := h
    exact ⟨_, rfl, _, rfl, a, xs, x, rfl, r⟩
end
section
variable {P : Program} {w : World} {K : PySem.W.Frag} {mg : Str → Option Value} {base : Heap}
theorem okX_find {f fC C : Addr} {fd fdC : FuncData} (F : Fun K "find" "find" sFind f fd) (k1 : KnX P w K mg base 6 "path_of" ["forest", "node"] (spChkX K C) fC fdC) : FnOk P w K mg base (L2N.CX P w) 7 f fd ["forest", "node"] (spChkX K C) := by
  refine okN F scFind (fun vs H Q E h => ?_) (fun cdv A outer s H vs Q E hr h tk => ?_)
  · obtain ⟨a, xs, x, rfl, _⟩ := h
    rfl
  · refine ⟨_, pss_cons (ps_set (i := 2) scFind.nd rfl (.inl rfl) (pe_call k1.G hr (by rfl) k1.g k1.kp k1.b .nil (lookN tk fun _ _ _ _ z => z) (pa_cons (pv 0) (pa_cons (pv 1) pa_nil)))) (pss_cons ps_never (pss_cons ps_never (pss_one ps_never))), ?_⟩
    obtain ⟨a, xs, x, rfl, r⟩ := h
    exact ⟨_, rfl, _, rfl, a, xs, x, rfl, r⟩
end
/-- the handled error has a tag of the table and its field -/
structure Told (K : PySem.W.Frag) (cls : Value) (d : Option Addr) (H : Hp) (tag fld : Str) (v : V) : Prop where
  ex : ∃ C dd : Addr, cls = .ref C ∧ XfC K C ∧ PySem.W.findIn K (.ref C) "tag" = some none ∧ PySem.W.findIn K (.ref C) fld = some none ∧ d = some dd ∧ H dd = some (.xd [(fld, v), ("tag", .str tag)])
def nodeTags : List Str := ["BadParent", "Cycle", "NotRoot", "SameRoot", "RootsDiffer", "NoWay", "BadWeight", "NoNode"]
def limitTags : List Str := ["TooManyNodes", "TooLong", "TooManyForests", "TooManyWatches"]
def posTags : List Str := ["BadStep", "BadCost", "Contradiction", "ParseError"]
def sizeTags : List Str := ["SizesDiffer", "BadSize"]
def nameTags : List Str := ["BadName", "NameTaken", "NoForest"]
def wordTags : List Str := ["BadCommand", "BadCount"]
def TagOk (tag fld : Str) : Prop := (tag ∈ nodeTags ∧ fld = "node") ∨ (tag ∈ limitTags ∧ fld = "limit") ∨ (tag ∈ posTags ∧ fld = "pos") ∨ (tag ∈ sizeTags ∧ fld = "size") ∨ (tag ∈ nameTags ∧ fld = "name") ∨ (tag = "BadCommand" ∧ fld = "word") ∨ (tag = "BadCount" ∧ fld = "count") ∨ (tag = "NoWatch" ∧ fld = "number")
def spField (K : PySem.W.Frag) : SpE := fun a cls d vs H Q _ => vs = [.ref a] ∧ ∃ (tag fld : Str) (v : V), Told K cls d H tag fld v ∧ TagOk tag fld ∧ ∀ H1, Same H H1 → Q v H1
section
variable {P : Program} {w : World} {K : PySem.W.Frag} {mg : Str → Option Value} {base : Heap}
/-- what the law makes of what it asks -/
def OutE (K : PySem.W.Frag) (CF CM : Addr) (Q : Str → V → Addr → Hp → Hp → Prop) : XK := fun cls d H1 => PySem.W.exmAny K cls [.ref CF, .ref CM] = some true ∧ ∃ (tag fld : Str) (v : V), Told K cls d H1 tag fld v ∧ TagOk tag fld ∧ ∀ t H2, H1 t = none → Same H1 H2 → Q tag v t H1 H2
end
section
variable {P : Program} {w : World} {K : PySem.W.Frag} {mg : Str → Option Value} {base : Heap}
def TTout (K : PySem.W.Frag) (CF CM : Addr) (tl : XK → Hp → VK → Prop) (H : Hp) (Q : VK) : Prop := ∀ Ha, Same H Ha → ∃ (E1 : XK) (Q1 : VK), tl E1 Ha Q1 ∧
  (∀ cls d H1, E1 cls d H1 → OutE K CF CM (fun tag v t _ H2 => H2 t = some (.tup [.non, .str tag, v]) → Q (.ref t) H2) cls d H1) ∧ ∀ v H1, Q1 v H1 → ∀ t H2, H1 t = none → Same H1 H2 → H2 t = some (.tup [v, .str "", .non]) → Q (.ref t) H2
end
section
variable {P : Program} {w : World} {K : PySem.W.Frag} {mg : Str → Option Value} {base : Heap}
/-- the same without the answer -/
def TTerr (K : PySem.W.Frag) (CF CM : Addr) (tl : XK → Hp → VK → Prop) (H : Hp) (Q : VK) : Prop := ∀ Ha, Same H Ha → ∃ (E1 : XK) (Q1 : VK), tl E1 Ha Q1 ∧
  (∀ cls d H1, E1 cls d H1 → OutE K CF CM (fun tag v t _ H2 => H2 t = some (.tup [.str tag, v]) → Q (.ref t) H2) cls d H1) ∧ ∀ v H1, Q1 v H1 → ∀ t H2, H1 t = none → Same H1 H2 → H2 t = some (.tup [.str "", .non]) → Q (.ref t) H2
end
section
variable {P : Program} {w : World} {K : PySem.W.Frag} {mg : Str → Option Value} {base : Heap}
theorem cut3 (a b c : V) : cutV [a, b, c] (some 1) none = [b, c] := rfl
end
/-- an integer that is no node -/
def spStrange : Sp := fun vs H Q _ => ∃ (d l : Addr) (n : Nat), vs = [.ref d, vi n] ∧ DrawAt H d l ∧ n ≤ 1000 ∧ ∀ (z : Int) H', (z < 0 ∨ (n : Int) ≤ z) → -2000000000 ≤ z → z ≤ 2000000000 → DrawAt H' d l → Sb d H H' → Q (.int z) H'
section
variable {P : Program} {w : World} {K : PySem.W.Frag} {mg : Str → Option Value} {base : Heap}
def spNumX (C : Addr) : Sp := fun vs H Q E => ∃ (n x : Int), vs = [.int n, .int x] ∧ (x < 0 ∨ n ≤ x) ∧ x.natAbs.log2 < 1920 ∧ Flies H E C "node" "NoNode" (.int x)
end
section
variable {P : Program} {w : World} {K : PySem.W.Frag} {mg : Str → Option Value} {base : Heap}
theorem okX_num {f C : Addr} {fd : FuncData} (F : Fun K "check_number" "check_number" sNum f fd) (R : Raisable P w K mg base 2 "NoNode" C "node" "NoNode") : FnOk P w K mg base (L2N.CX P w) 4 f fd ["size", "node"] (spNumX C) := by
  refine okN F scNum (fun vs H Q E h => ?_) (fun cdv A outer s H vs Q E hr h tk => ?_)
  · obtain ⟨n, x, rfl, _⟩ := h
    rfl
  · obtain ⟨n, x, rfl, hx, hb, fl⟩ := h
    refine ⟨_, pss_one (ps_if (pt_not (pt_chain op_le op_lt pe_int (pv 1) (pv 0))) (pss_one (L2N.ps_raise rfl tk (pmk_err R hr (by rfl) (pv 1)))) pss_nil), ?_⟩
    refine ⟨_, rfl, _, _, rfl, rfl, _, rfl, ?_⟩
    show if decide ((0 : Int) ≤ x) = true then _ else _
    by_cases h0 : (0 : Int) ≤ x
    · rw [decide_eq_true h0]
      refine iteT ⟨_, rfl, _, _, rfl, rfl, _, rfl, ?_⟩
      show if (!decide (x < n)) = true then _ else _
      rw [decide_eq_false (show ¬ x < n by omega)]
      exact iteT ⟨_, rfl, _, rfl, ⟨x, rfl, hb⟩, fl⟩
    · rw [decide_eq_false h0]
      refine iteF ⟨_, rfl, ?_⟩
      exact iteT ⟨_, rfl, _, rfl, ⟨x, rfl, hb⟩, fl⟩
end
section
variable {P : Program} {w : World} {K : PySem.W.Frag} {mg : Str → Option Value} {base : Heap}
theorem okX_chk {f fN C : Addr} {fd fdN : FuncData} (F : Fun K "check_node" "check_node" sChk f fd) (k1 : KnX P w K mg base 4 "check_number" ["size", "node"] (spNumX C) fN fdN) (T : Tx mg) : FnOk P w K mg base (L2N.CX P w) 5 f fd ["forest", "node"] (spChkX K C) := by
  refine okN F scChk (fun vs H Q E h => ?_) (fun cdv A outer s H vs Q E hr h tk => ?_)
  · obtain ⟨a, xs, x, rfl, _⟩ := h
    rfl
  · obtain ⟨a, xs, x, rfl, hS, hx, hb, fl⟩ := h
    refine ⟨_, pss_one (ps_expr (pe_call k1.G hr (by rfl) k1.g k1.kp k1.b .nil (lookNE tk) (pa_cons (pe_callB call_len_seq (by rfl) T.len PySem.boot_len (pa_cons (pv 0) pa_nil)) (pa_cons (pv 1) pa_nil)))), ?_⟩
    exact ⟨_, rfl, a, xs, rfl, hS, _, rfl, xs.length, x, rfl, hx, hb, fl⟩
end
def spLawT (K : PySem.W.Frag) (PT : Addr) : Sp := fun vs H Q _ => ∃ (a : Addr) (ns : List Int), vs = [.ref a] ∧ H PT = some (.tbl #[]) ∧ SqL K H a (ns.map V.int) ∧ ns.length ≤ 63 ∧ ∀ H1, Q (.bl true) H1
/-- a second find of the same node -/
theorem again_same {n : Nat} {p r : Nat → Nat} (F : Fo n p r) {x : Nat} (hx : x < n) (v : Nat) (hv : v < n) : fnd n (fnd n p x) x v = fnd n p x v := by
  have h := behind_same F (l := [x]) (m := [x, x]) (by intro y hy; rw [List.mem_singleton.mp hy]; exact hx) (fun y => by simp) v hv
  exact h
theorem again_cost {n : Nat} {p r : Nat → Nat} (F : Fo n p r) {x : Nat} (hx : x < n) : (ups (fnd n p x) n x).length = low p x := by
  have h1 := cost_total F [x] (by intro y hy; rw [List.mem_singleton.mp hy]; exact hx)
  have h2 := cost_total F [x, x] (by intro y hy; simp at hy; rw [hy]; exact hx)
  have e : (List.range n).countP (fun v => deep p v && markB n p [x, x] v) = (List.range n).countP (fun v => deep p v && markB n p [x] v) := by
    refine List.countP_congr fun v _ => ?_
    rw [mark_same (n := n) (p := p) (l := [x, x]) (m := [x]) (fun y => by simp) v]
  rw [e] at h2
  simp only [costs, List.sum_cons, List.sum_nil, List.map_cons, List.map_nil] at h1 h2
  omega
theorem low_min {n : Nat} {p r : Nat → Nat} (F : Fo n p r) {x : Nat} (hx : x < n) : (if ((ups p n x).length : Int) < 1 then ((ups p n x).length : Int) else 1) = ((low p x : Nat) : Int) := by
  unfold low
  by_cases e : p x = x
  · rw [if_pos e, ups_of e]; simp
  · rw [if_neg e, ups_n F hx e, List.length_cons, if_neg (by omega)]; rfl
/-- all but tables stays, but what stands at d -/
theorem tabs_sb {T : List (Addr × Str)} {H H1 : Hp} {d : Addr} (t : Tabs T H) (s : Sb d H H1) (nd : ∃ xs, H d = some (.lst xs)) : Tabs T H1 := by
  obtain ⟨xs, hd⟩ := nd
  intro p hp
  obtain ⟨ps, h1, h2, h3⟩ := t p hp
  refine ⟨ps, s _ _ (ne_of h1 hd (by intro z; cases z)) h1, h2, fun pos cv hc => ?_⟩
  obtain ⟨c, e1, e2⟩ := h3 pos cv hc
  exact ⟨c, e1, s _ _ (ne_of e2 hd (by unfold CodeO; intro z; cases z)) e2⟩
theorem DrawAt.lst {H : Hp} {d l : Addr} (D : DrawAt H d l) : ∃ xs, H d = some (.lst xs) := by
  obtain ⟨ns, i, j, k, h, _⟩ := D
  exact ⟨_, h⟩
theorem DrawAt.ext {H H1 : Hp} {d l : Addr} (D : DrawAt H d l) (s : ExtN H H1) : DrawAt H1 d l := by
  obtain ⟨ns, i, j, k, h, h2, r⟩ := D
  exact ⟨ns, i, j, k, s _ _ h (by intro ps z; cases z), s _ _ h2 (by intro ps z; cases z), r⟩
theorem shaped_err {x : Str} (h : PyData.strOk x = true) (z : Int) : SeqAt.shaped (.tuple [.str x, .int z]) = true := by
  unfold SeqAt.shaped
  simp [PyData.canLay0, PyData.canLayAll0, PyData.depth, PyData.depthAll, h]
theorem bits_ok {z : Int} (h1 : -2000000000 ≤ z) (h2 : z ≤ 2000000000) : z.natAbs.log2 < 1920 := by
  by_cases h0 : z.natAbs = 0
  · rw [h0]; decide
  · refine (Nat.log2_lt h0).mpr (Nat.lt_of_le_of_lt (show z.natAbs ≤ 2000000000 by omega) ?_)
    exact Nat.lt_of_lt_of_le (show 2000000000 < 2 ^ 31 by decide) (Nat.pow_le_pow_right (by decide) (by decide))
/-- what a find answers, as data -/
def dFind (n : Nat) (q : Nat → Nat) (c : Nat) : PyData := .tuple [.tuple ((intsOf n q).map PyData.int), .int (c : Int)]
theorem dp_find {K : PySem.W.Frag} {H : Hp} {t g : Addr} {n c : Nat} {q : Nat → Nat} (h1 : H t = some (.tup [.ref g, vi c])) (h2 : SqT K H g (tupOf n q)) : Dp K H (.ref t) (dFind n q c) := by
  rw [tupOf_ints] at h2
  exact .tup (SqT.of h1) (.cons (.tup h2 (dpAll_ints _)) (.cons (.int _) .nil))
theorem sm_forest {n k : Nat} (h : n ≤ 1000) (q : Nat → Nat) : Sm (k + 1) (.tuple ((intsOf n q).map PyData.int)) := by
  refine .tup (by rw [List.length_map]; unfold intsOf; rw [List.length_map, List.length_range]; omega) fun d hd => ?_
  obtain ⟨i, _, e⟩ := List.mem_map.mp hd
  rw [← e]; exact .int _ _
theorem sm_find {n k : Nat} (h : n ≤ 1000) (q : Nat → Nat) (c : Nat) : Sm (k + 2) (dFind n q c) := by
  refine .tup (by show 2 ≤ 1000; decide) fun d hd => ?_
  rcases List.mem_cons.mp hd with z | z
  · rw [z]; exact sm_forest h q
  · rw [List.mem_singleton.mp z]; exact .int _ _
theorem cut_take (zs : List V) (j : Nat) : cutV zs none (some (j : Int)) = zs.take j := by
  unfold cutV
  rw [HT.sIx_none, HT.sIx_nat, List.drop_zero, Nat.sub_zero]
  by_cases h : j ≤ zs.length
  · rw [Nat.min_eq_left h]
  · rw [Nat.min_eq_right (by omega), List.take_of_length_le (Nat.le_refl _), List.take_of_length_le (by omega)]
theorem cut_drop (zs : List V) (j : Nat) : cutV zs (some (j : Int)) none = zs.drop j := by
  unfold cutV
  rw [HT.sIx_none, HT.sIx_nat]
  by_cases h : j ≤ zs.length
  · rw [Nat.min_eq_left h]
    exact List.take_of_length_le (by rw [List.length_drop]; omega)
  · rw [Nat.min_eq_right (by omega), List.drop_eq_nil_of_le (Nat.le_refl _), List.drop_eq_nil_of_le (by omega)]
    simp
/-- what a list of finds answers, as data -/
def dFindAll (n : Nat) (q : Nat → Nat) (cs : List Nat) : PyData := .tuple [.tuple ((intsOf n q).map PyData.int), .list ((cs.map fun n : Nat => (n : Int)).map PyData.int)]
theorem dp_nats {K : PySem.W.Frag} {H : Hp} {a : Addr} {l : List Nat} (h : SqL K H a (natsV l)) : Dp K H (.ref a) (.list ((l.map fun n : Nat => (n : Int)).map PyData.int)) := by
  rw [natsI] at h
  exact .lst h (dpAll_ints _)
theorem dp_forest {K : PySem.W.Frag} {H : Hp} {a : Addr} {n : Nat} {p : Nat → Nat} (h : SqT K H a (tupOf n p)) : Dp K H (.ref a) (.tuple ((intsOf n p).map PyData.int)) := by
  rw [tupOf_ints] at h
  exact .tup h (dpAll_ints _)
theorem dp_findAll {K : PySem.W.Frag} {H : Hp} {t g c : Addr} {n : Nat} {q : Nat → Nat} {cs : List Nat} (h1 : H t = some (.tup [.ref g, .ref c])) (h2 : SqT K H g (tupOf n q)) (h3 : SqL K H c (natsV cs)) : Dp K H (.ref t) (dFindAll n q cs) :=
  .tup (SqT.of h1) (.cons (dp_forest h2) (.cons (dp_nats h3) .nil))
theorem sm_ints {k : Nat} {l : List Int} (h : l.length ≤ 1000) : Sm (k + 1) (.list (l.map PyData.int)) := by
  refine .lst (by rw [List.length_map]; exact h) fun d hd => ?_
  obtain ⟨i, _, e⟩ := List.mem_map.mp hd
  rw [← e]; exact .int _ _
theorem sm_findAll {n k : Nat} (h : n ≤ 1000) (q : Nat → Nat) {cs : List Nat} (hc : cs.length ≤ 1000) : Sm (k + 2) (dFindAll n q cs) := by
  refine .tup (by show 2 ≤ 1000; decide) fun d hd => ?_
  rcases List.mem_cons.mp hd with z | z
  · rw [z]; exact sm_forest h q
  · rw [List.mem_singleton.mp z]; exact sm_ints (by rw [List.length_map]; exact hc)
/-- a list that does not stand in the draws' cell -/
theorem DrawAt.nel2 {H : Hp} {d l a : Addr} {xs : List V} (D : DrawAt H d l) (h : H a = some (.lst xs)) (n : a ≠ d) : True := trivial
/-- find_all: all nodes of a list or tuple found, or the first that is none raised -/
def spFindAllB (K : PySem.W.Frag) (C : Addr) : Sp := fun vs H Q E => ∃ (k : Bool) (a b : Addr) (n : Nat) (p r : Nat → Nat) (xs : List Int) (good : List Nat), vs = [.ref a, .ref b] ∧ SqT K H a (tupOf n p) ∧ Kd k K H b (xs.map V.int) ∧ n ≤ 1000 ∧ xs.length ≤ 1000 ∧ Fo n p r ∧
  NodesEnd xs n good (∀ (t g c : Addr) H', H t = none → H c = none → (g = a ∨ H g = none) → H' t = some (.tup [.ref g, .ref c]) → SqT K H' g (tupOf n (fndAll n good p)) → H' c = some (.lst (natsV (costs n good p))) → Same H H' → Q (.ref t) H')
    (fun z => Flies H E C "node" "NoNode" (.int z))
section
variable {P : Program} {w : World} {K : PySem.W.Frag} {mg : Str → Option Value} {base : Heap}
theorem flies_same {H H1 : Hp} {E : XK} {C : Addr} {fld tag : Str} {v : V} (h : Flies H E C fld tag v) (s : Same H H1) : Flies H1 E C fld tag v := fun d H2 n e s2 => h d H2 (sm_none s n) e (s.trans s2)
end
section
variable {P : Program} {w : World} {K : PySem.W.Frag} {mg : Str → Option Value} {base : Heap}
theorem okB_findAll {f fP C : Addr} {fd fdP : FuncData} (F : Fun K "find_all" "find_all" sFindAll f fd) (k1 : KnX P w K mg base 7 "find" ["forest", "node"] (spOr (spFind K) (spChkX K C)) fP fdP) :
    FnOk P w K mg base (L2N.CX P w) 8 f fd ["forest", "nodes"] (spFindAllB K C) := by
  refine okN F scFindAll (fun vs H Q E h => ?_) (fun cdv A outer s H vs Q E hr h tk => ?_)
  · obtain ⟨k, a, b, n, p, r, xs, good, rfl, _⟩ := h
    rfl
  · obtain ⟨k, a, b, n, p, r, xs, good, rfl, hS, hB, hn, hxl, hF, hE⟩ := h
    refine ⟨_, pss_cons (ps_set (i := 2) scFindAll.nd rfl (.inl rfl) (pe_lst pa_nil))
      (pss_cons (ps_for PassesOwn.leaving rfl (pi_kd k (pv 1)) (pg_name (i := 3) scFindAll.nd rfl (.inl rfl))
        (pss_cons (ps_asg (pe_call k1.G hr (by rfl) k1.g k1.kp k1.b .nil (lookNE tk) (pa_cons (pv 0) (pa_cons (pv 3) pa_nil))) (pg_tup rfl (pgs_cons (pg_name (i := 0) scFindAll.nd rfl (.inl rfl)) (pgs_cons (pg_name (i := 4) scFindAll.nd rfl (.inl rfl)) pgs_nil))))
        (pss_one (ps_expr (pe_bm PySem.F.plainAttrs_list PySem.F.slot_list_append PySem.F.type_list_append mt_append (pv 2) (pa_cons (pv 4) pa_nil))))))
      (pss_one (ps_ret (pe_tup (pa_cons (pv 0) (pa_cons (pv 2) pa_nil)))))), ?_⟩
    refine ⟨Nat.zero_le _, fun c nc => ?_⟩
    have s1 : Same H (upd H c (.lst [])) := same_new nc
    refine for_kd (xs := xs.map V.int) rfl (hB.same s1) (fun i σ H' => i ≤ good.length ∧ (∃ g y z, σ = [some (.ref g), some (.ref b), some (.ref c), y, z] ∧ (g = a ∨ H g = none) ∧ SqT K H' g (tupOf n (fndAll n (good.take i) p))) ∧ H' c = some (.lst (natsV (costs n (good.take i) p))) ∧ Same H H')
      ⟨Nat.zero_le _, ⟨a, none, none, rfl, .inl rfl, same_sqt s1 hS⟩, upd_same, s1⟩ (fun i σ H' _ h => hB.same h.2.2.2) ?_ ?_
    · rintro i v σ H' hv ⟨hi, ⟨g, y, z, rfl, hga, hg⟩, hc, sm⟩
      have hF' : Fo n (fndAll n (good.take i) p) r := fndAll_fo hF _ (fun x hx' => hE.1 x (List.mem_of_mem_take hx')) p hF
      rcases hE.at hv hi with ⟨u, hu, rfl, hun⟩ | ⟨z2, rfl, hz, hb, fl⟩
      · refine ⟨_, rfl, _, rfl, .inl ⟨g, n, _, r, u, rfl, .inr hg, hn, hF', hun, fun t g2 H2 nt ng2 ht hg2 s2 => ?_⟩⟩
        refine ⟨t, _, rfl, SqT.of ht, rfl, _, _, rfl, _, _, rfl, rfl, ?_⟩
        have hc2 := s2 _ _ hc
        have hcn : c ≠ g2 := ne_of_none hc ng2
        have hil : i < good.length := (List.getElem?_eq_some_iff.mp hu).1
        refine ⟨_, rfl, .inl ⟨rfl, _, SqL.of hc2⟩, _, rfl, c, _, _, rfl, rfl, hc2, ?_, hil, ⟨g2, _, _, rfl, .inr (sm.free ng2), ?_⟩, ?_, same_over (sm.trans s2) nc⟩
        · have := (List.getElem?_eq_some_iff.mp hv).1
          rw [List.length_map] at this
          rw [natsV_len, costs_len, List.length_take]
          exact Nat.lt_of_le_of_lt (show _ ≤ 1000 by omega) (by decide)
        · have e : fndAll n (good.take (i + 1)) p = fnd n (fndAll n (good.take i) p) u := by
            rw [List.take_add_one, hu]
            exact fndAll_snoc n _ u p
          rw [e]
          exact SqT.of (by rw [upd_ne hcn.symm]; exact hg2)
        · rw [upd_same]
          have e : costs n (good.take (i + 1)) p = costs n (good.take i) p ++ [(ups (fndAll n (good.take i) p) n u).length] := by
            rw [List.take_add_one, hu]
            exact costs_snoc n _ u p
          rw [e]
          unfold natsV
          rw [List.map_append]
          rfl
      · exact ⟨_, rfl, _, rfl, .inr ⟨g, _, z2, rfl, .inr hg, by rw [tupOf_len]; exact hz, hb, flies_same fl sm⟩⟩
    · rintro σ H' ⟨hi, ⟨g, y, z, rfl, hga, hg⟩, hc, sm⟩
      obtain ⟨ex, q⟩ := hE.done hi
      have el : (xs.map V.int).length = good.length := by rw [ex, List.length_map, List.length_map]
      rw [el, List.take_length] at hg hc
      refine ⟨_, rfl, _, rfl, by show 2 ≤ sizeLine; decide, fun t nt => ?_⟩
      have s4 := same_new (o := .tup [V.ref g, V.ref c]) nt
      exact q t g c _ (sm.free nt) nc hga upd_same (same_sqt s4 hg) (s4 _ _ hc) (sm.trans s4)
end
section
variable {P : Program} {w : World} {K : PySem.W.Frag} {mg : Str → Option Value} {base : Heap}
theorem same_ext {H H1 : Hp} (s : Same H H1) : ExtN H H1 := fun b o e _ => s b o e
end
section
variable {P : Program} {w : World} {K : PySem.W.Frag} {mg : Str → Option Value} {base : Heap}
/-- what is asked raises: the law's reader answers with the tag and the field -/
theorem ask_no {X : Cx} {kk : Nat} {D : Lam X kk} {f C CF CM : Addr} {σ : L2.St} {H : Hp} {Q : VK} {x fld tag : Str} {v : V} {lv : Nat} (R : Raisable P w K mg base lv x C fld tag) (hex : PySem.W.exmAny K (.ref C) [.ref CF, .ref CM] = some true) (tg : TagOk tag fld) (hA : D.At f H)
    (hc : ∀ Ha E, Same H Ha → Flies Ha E C fld tag v → D.tb E σ Ha fun _ _ => False) (q : ∀ t H2, H t = none → Same H H2 → H2 t = some (.tup [.str tag, v]) → Q (.ref t) H2) : TTerr K CF CM (D.does f σ) H Q := by
  intro Ha sa
  refine ⟨fun cls d H1 => cls = .ref C ∧ ∃ dd, d = some dd ∧ H1 dd = some (.xd [(fld, v), ("tag", .str tag)]) ∧ Same Ha H1, fun _ _ => False, ⟨D.same hA (same_ext sa), hc Ha _ sa fun dd H1 n1 h1 s1 => ⟨rfl, dd, rfl, h1, s1⟩⟩, ?_, fun _ _ h => h.elim⟩
  rintro cls d H1 ⟨rfl, dd, rfl, hdd, s1⟩
  exact ⟨hex, tag, fld, v, ⟨C, dd, rfl, R.xf, R.nt, R.nf, rfl, hdd⟩, tg, fun t H2 n s2 e => q t H2 (sm_none (sa.trans s1) n) ((sa.trans s1).trans s2) e⟩
end
section
variable {P : Program} {w : World} {K : PySem.W.Frag} {mg : Str → Option Value} {base : Heap}
theorem wipe_one {σ : L2.St} {i : Nat} {x : Option V} : wipe ((wipe σ [i]).set i x) [i] = wipe σ [i] := by
  show ((σ.set i none).set i x).set i none = σ.set i none
  rw [List.set_set, List.set_set]
end
section
variable {P : Program} {w : World} {K : PySem.W.Frag} {mg : Str → Option Value} {base : Heap}
/-- a list of lambdas, each raising the same -/
theorem asks_no {X : Cx} {kk j lv : Nat} (σ : L2.St) {H : Hp} {C CF CM la D : Addr} (fs : List Addr) {Qd : Hp → Prop} {x fld tag : Str} {v : V} (R : Raisable P w K mg base lv x C fld tag) (hex : PySem.W.exmAny K (.ref C) [.ref CF, .ref CM] = some true) (tg : TagOk tag fld) (hl : H la = some (.lst (fs.map V.ref))) (nD : H D = none) (hj : j < σ.length) (hm : fs.length ≤ 1000)
    (hf : ∀ f ∈ fs, ∃ L : Lam X kk, L.At f H ∧ ∀ Ha E, Same H Ha → Flies Ha E C fld tag v → L.tb E σ Ha fun _ _ => False)
    (q : ∀ (ts : List Addr) H1, ts.length = fs.length → H1 D = some (.lst (ts.map V.ref)) → (∀ t ∈ ts, H1 t = some (.tup [.str tag, v])) → Same H H1 → Qd H1) :
    ∃ W : Nat → Nat → Hp → Prop, (∃ m, W 0 m (upd H D (.lst []))) ∧ ∀ i m H, W i m H →
      ((Itl K la).stop i H ∧ Qd H) ∨ ((Itl K la).go i H ∧ ∃ Nx : Hp → Prop, (∀ H', Nx H' → ∃ m', m' < m ∧ W (i + 1) m' H') ∧ ∀ x H', (Itl K la).yld i H x H' → gName j x (wipe σ [j]) H' fun σ2 H2 => wipe σ2 [j] = wipe σ [j] ∧ tYes σ2 H2 fun b H3 =>
        if b = true then (∃ (f : Addr) (L : Lam X kk), σ2[j]? = some (some (.ref f)) ∧ TTerr K CF CM (L.does f σ) H3 fun y H4 => ∃ acc, H4 D = some (.lst acc) ∧ acc.length < sizeLine ∧ Nx (upd H4 D (.lst (acc ++ [y])))) else Nx H3) := by
  refine lc_list (K := K) (a := la) (xs := fs.map V.ref) (g := gName j) (tt := tYes) (te := fun σ1 H1 Q => ∃ (f : Addr) (D : Lam X kk), σ1[j]? = some (some (.ref f)) ∧ TTerr K CF CM (D.does f σ) H1 Q) (vs := [j]) (σ := σ) (Qd := Qd) (fun i H1 => ∃ ts : List Addr, ts.length = i ∧ H1 D = some (.lst (ts.map V.ref)) ∧ (∀ t ∈ ts, H1 t = some (.tup [.str tag, v])) ∧ Same H H1)
    ⟨[], rfl, upd_same, by simp, same_new nD⟩ (fun i H1 _ h => h.elim fun ts h => SqL.of (h.2.2.2 _ _ hl)) ?_ ?_
  · rintro k y H1 hy ⟨ts, hlen, hD, hts, s1⟩
    rw [List.getElem?_map] at hy
    obtain ⟨f, hff, rfl⟩ := Option.map_eq_some_iff.mp hy
    obtain ⟨L, hA, hc⟩ := hf f (List.mem_of_getElem? hff)
    have hk : k < fs.length := (List.getElem?_eq_some_iff.mp hff).1
    refine ⟨wipe_one, f, L, List.getElem?_set_self (by rw [wipe_length]; exact hj), ?_⟩
    refine ask_no R hex tg (L.same hA (same_ext s1)) (fun Ha E sa fl => hc Ha E (s1.trans sa) fl) fun t H2 nt s2 e => ?_
    have nDt : t ≠ D := (ne_of_none hD nt).symm
    refine ⟨_, s2 _ _ hD, by rw [List.length_map, hlen]; exact Nat.lt_of_le_of_lt (show k ≤ 1000 by omega) (by decide), ts ++ [t], by rw [List.length_append, hlen]; rfl, by rw [upd_same, List.map_append]; rfl, fun t2 h2 => ?_, same_over (s1.trans s2) nD⟩
    rcases List.mem_append.mp h2 with h2 | h2
    · have e2 := hts t2 h2
      rw [upd_ne (ne_of e2 hD (by intro z; cases z))]
      exact s2 _ _ e2
    · rw [List.mem_singleton.mp h2, upd_ne nDt]
      exact e
  · rintro H1 ⟨ts, hlen, hD, hts, s1⟩
    rw [List.length_map] at hlen
    exact q ts H1 hlen hD hts s1
end
section
variable {P : Program} {w : World} {K : PySem.W.Frag} {mg : Str → Option Value} {base : Heap}
/-- such answers as data -/
def dErrs (m : Nat) (tag : Str) (z : Int) : PyData := .list (List.replicate m (.tuple [.str tag, .int z]))
end
section
variable {P : Program} {w : World} {K : PySem.W.Frag} {mg : Str → Option Value} {base : Heap}
theorem dp_errs {H : Hp} {tag : Str} {z : Int} : ∀ {ts : List Addr}, (∀ t ∈ ts, H t = some (.tup [.str tag, .int z])) → DpAll K H (ts.map V.ref) (List.replicate ts.length (.tuple [.str tag, .int z]))
  | [], _ => .nil
  | t :: r, h => .cons (.tup (SqT.of (h t List.mem_cons_self)) (.cons (.str _) (.cons (.int _) .nil))) (dp_errs fun u hu => h u (List.mem_cons_of_mem _ hu))
end
section
variable {P : Program} {w : World} {K : PySem.W.Frag} {mg : Str → Option Value} {base : Heap}
theorem shaped_errs {m : Nat} {tag : Str} (h : PyData.strOk tag = true) (hm : m ≤ 4) (z : Int) : SeqAt.shaped (dErrs m tag z) = true := by
  unfold SeqAt.shaped dErrs
  match m, hm with
  | 0, _ => simp [List.replicate, PyData.canLay0, PyData.canLayAll0, PyData.depth, PyData.depthAll, h]
  | 1, _ => simp [List.replicate, PyData.canLay0, PyData.canLayAll0, PyData.depth, PyData.depthAll, h]
  | 2, _ => simp [List.replicate, PyData.canLay0, PyData.canLayAll0, PyData.depth, PyData.depthAll, h]
  | 3, _ => simp [List.replicate, PyData.canLay0, PyData.canLayAll0, PyData.depth, PyData.depthAll, h]
  | 4, _ => simp [List.replicate, PyData.canLay0, PyData.canLayAll0, PyData.depth, PyData.depthAll, h]
end
abbrev sAbove : Stmt := topS 31
abbrev aboveN : List Str := ["forest", "one", "other", "path"]
theorem scAbove : FnScope aboveN ["forest", "one", "other"] (defScope sAbove) := ⟨rfl, rfl, rfl, by decide +kernel, rfl, by decide +kernel, by decide +kernel⟩
abbrev rootsN : List Str := ["forest", "node", "parent"]
abbrev kidsN : List Str := ["forest", "node", "child", "parent"]
abbrev subN : List Str := ["forest", "node", "low"]
theorem in_nats (u : Nat) : ∀ l : List Nat, inV (vi u) (natsV l) = decide (u ∈ l)
  | [] => by simp [inV, natsV]
  | x :: l => by
    have ih := in_nats u l
    unfold inV natsV at ih ⊢
    rw [List.map_cons, List.any_cons, ih]
    by_cases e : x = u
    · subst e
      simp [eqV]
    · have h1 : eqV (vi x) (vi u) = false := by
        simp only [eqV]
        simp
        omega
      rw [h1]
      simp [Ne.symm e]
def rootsL (n : Nat) (p : Nat → Nat) : List Nat := (List.range n).filter fun v => decide (p v = v)
def kidsL (n : Nat) (p : Nat → Nat) (v : Nat) : List Nat := (List.range n).filter fun c => decide (p c = v) && !decide (c = v)
def subL (n : Nat) (p : Nat → Nat) (v : Nat) : List Nat := (List.range n).filter fun x => decide (v ∈ path p n x)
theorem filt_le (n : Nat) (g : Nat → Bool) : ((List.range n).filter g).length ≤ n := Nat.le_trans (List.length_filter_le _ _) (by rw [List.length_range]; exact Nat.le_refl _)
theorem filt_succ (k : Nat) (g : Nat → Bool) : (List.range (k + 1)).filter g = (List.range k).filter g ++ if g k = true then [k] else [] := by
  rw [List.range_succ, List.filter_append]
  cases e : g k <;> simp [List.filter, e]
/-- one turn of a filter over nodes -/
theorem filt_turn {k : Nat} {g : Nat → Bool} {H : Hp} {D : Addr} (hk : k < 1000) (hD : H D = some (.lst (natsV ((List.range k).filter g)))) : (natsV ((List.range k).filter g)).length < sizeLine ∧
    (g k = true → ∀ y, y = vi k → upd H D (.lst (natsV ((List.range k).filter g) ++ [y])) D = some (.lst (natsV ((List.range (k + 1)).filter g)))) ∧ (g k = false → H D = some (.lst (natsV ((List.range (k + 1)).filter g)))) := by
  refine ⟨?_, fun e y hy => ?_, fun e => ?_⟩
  · have := filt_le k g
    rw [natsV_len]
    exact Nat.lt_of_le_of_lt (show _ ≤ 1000 by omega) (by decide)
  · rw [upd_same, hy, filt_succ, if_pos e]
    unfold natsV
    rw [List.map_append]
    rfl
  · rw [filt_succ, e]
    simp only [Bool.false_eq_true, if_false, List.append_nil]
    exact hD
def spRootsOf (K : PySem.W.Frag) : Sp := fun vs H Q _ => ∃ (a : Addr) (n : Nat) (p : Nat → Nat), vs = [.ref a] ∧ SqT K H a (tupOf n p) ∧ n ≤ 900 ∧ ∀ (q : Addr) H', H q = none → H' q = some (.lst (natsV (rootsL n p))) → Same H H' → Q (.ref q) H'
/-- a def of a node: its answer, or the node raised -/
def spNodeB (K : PySem.W.Frag) (C : Addr) (F : Nat → (Nat → Nat) → Nat → List Nat) : Sp := fun vs H Q E => ∃ (a : Addr) (n : Nat) (p r : Nat → Nat) (x : Int), vs = [.ref a, .int x] ∧ SqT K H a (tupOf n p) ∧ n ≤ 900 ∧ Fo n p r ∧
  ((∃ u : Nat, x = (u : Int) ∧ u < n ∧ ∀ (q : Addr) H', H q = none → H' q = some (.lst (natsV (F n p u))) → Same H H' → Q (.ref q) H') ∨ ((x < 0 ∨ (n : Int) ≤ x) ∧ x.natAbs.log2 < 1920 ∧ Flies H E C "node" "NoNode" (.int x)))
def spAboveB (K : PySem.W.Frag) (C : Addr) : Sp := fun vs H Q E => ∃ (a : Addr) (n : Nat) (p r : Nat → Nat) (x y : Int) (good : List Nat), vs = [.ref a, .int x, .int y] ∧ SqT K H a (tupOf n p) ∧ n ≤ 900 ∧ Fo n p r ∧
  NodesEnd [x, y] n good (∀ u v, good = [u, v] → ∀ H', Same H H' → Q (.bl (decide (u ≠ v) && decide (u ∈ path p n v))) H') (fun z => Flies H E C "node" "NoNode" (.int z))
section
variable {P : Program} {w : World} {K : PySem.W.Frag} {mg : Str → Option Value} {base : Heap}
theorem okB_above {f fC fP C : Addr} {fd fdC fdP : FuncData} (F : Fun K "is_above" "is_above" sAbove f fd) (k1 : KnX P w K mg base 5 "check_node" ["forest", "node"] (spOr (spChk K) (spChkX K C)) fC fdC) (k2 : KnX P w K mg base 6 "path_of" ["forest", "node"] (spOr (spPathOf K) (spChkX K C)) fP fdP) : FnOk P w K mg base (L2N.CX P w) 7 f fd ["forest", "one", "other"] (spAboveB K C) := by
  refine okN F scAbove (fun vs H Q E h => ?_) (fun cdv A outer s H vs Q E hr h tk => ?_)
  · obtain ⟨a, n, p, r, x, y, good, rfl, _⟩ := h
    rfl
  · obtain ⟨a, n, p, r, x, y, good, rfl, hS, hn, hF, hE⟩ := h
    refine ⟨_, pss_cons (ps_expr (pe_call k1.G (hr.mono (by decide)) (by rfl) k1.g k1.kp k1.b .nil (lookNE tk) (pa_cons (pv 0) (pa_cons (pv 1) pa_nil))))
      (pss_cons (ps_set (i := 3) scAbove.nd rfl (.inl rfl) (pe_call k2.G hr (by rfl) k2.g k2.kp k2.b .nil (lookNE tk) (pa_cons (pv 0) (pa_cons (pv 2) pa_nil))))
      (pss_one (ps_ret (pe_and (pe_cmpR op_ne (pv 1) (pv 2) (nomark _)) (pe_one (pe_cmpR (show OpR _ (compareOp .In) (rIn K false) from op_in_seq) (pv 1) (pv 3) (by rfl))))))), ?_⟩
    have h0 := hE.at (i := 0) (v := .int x) rfl (Nat.zero_le _)
    rcases h0 with ⟨u, hu0, ex, hu⟩ | ⟨z, ez, hz, hb, fl⟩
    case inr =>
      cases ez
      exact ⟨_, rfl, _, rfl, .inr ⟨a, _, x, rfl, .inr hS, by rw [tupOf_len]; exact hz, hb, fl⟩⟩
    obtain rfl : x = (u : Int) := by injection ex
    refine ⟨_, rfl, _, rfl, .inl ⟨a, _, u, rfl, .inr hS, by rw [tupOf_len]; exact hu, ?_⟩⟩
    have hl : 1 ≤ good.length := (List.getElem?_eq_some_iff.mp hu0).1
    have h1 := hE.at (i := 1) (v := .int y) rfl hl
    rcases h1 with ⟨v, hv0, ey, hv⟩ | ⟨z, ez, hz, hb, fl⟩
    case inr =>
      cases ez
      exact ⟨_, rfl, _, rfl, .inr ⟨a, _, y, rfl, .inr hS, by rw [tupOf_len]; exact hz, hb, fl⟩⟩
    obtain rfl : y = (v : Int) := by injection ey
    have hl2 : 2 ≤ good.length := (List.getElem?_eq_some_iff.mp hv0).1
    obtain ⟨ez, q⟩ := hE.done hl2
    have eg : good = [u, v] := by
      match good, ez, hu0, hv0 with
      | [a0, b0], _, hu0, hv0 =>
        cases hu0
        cases hv0
        rfl
    refine ⟨_, rfl, _, rfl, .inl ⟨a, n, p, r, v, rfl, .inr hS, by omega, hF, hv, fun pt H2 npt hpt s2 => ?_⟩⟩
    refine ⟨_, rfl, _, rfl, rfl, _, rfl, ?_⟩
    have qq := q u v eg H2 s2
    show if (!decide (vi u = vi v)) = true then _ else _
    by_cases e : u = v
    · rw [decide_eq_true (by rw [e])]
      refine iteF ?_
      rw [decide_eq_false (fun z => z e)] at qq
      exact qq
    · rw [decide_eq_false (fun z => e (by injection z with z; omega))]
      refine iteT ⟨_, rfl, _, rfl, pt, _, rfl, .inl (SqL.of hpt), rfl, flat_nats _, ?_⟩
      rw [decide_eq_true e, Bool.true_and, ← in_nats] at qq
      exact qq
end
abbrev sBadPar : Stmt := topS 4
abbrev sCycle : Stmt := topS 5
abbrev sTooMany : Stmt := topS 6
abbrev sLeads : Stmt := topS 23
abbrev sCheck : Stmt := topS 24
theorem scBadParI : FnScope ["self", "node"] ["self", "node"] (defScope (initS sBadPar)) := ⟨rfl, rfl, rfl, by decide +kernel, rfl, by decide +kernel, by decide +kernel⟩
theorem scCycleI : FnScope ["self", "node"] ["self", "node"] (defScope (initS sCycle)) := ⟨rfl, rfl, rfl, by decide +kernel, rfl, by decide +kernel, by decide +kernel⟩
theorem scTooManyI : FnScope ["self", "limit"] ["self", "limit"] (defScope (initS sTooMany)) := ⟨rfl, rfl, rfl, by decide +kernel, rfl, by decide +kernel, by decide +kernel⟩
theorem scLeads : FnScope ["parents", "node", "place", "step"] ["parents", "node"] (defScope sLeads) := ⟨rfl, rfl, rfl, by decide +kernel, rfl, by decide +kernel, by decide +kernel⟩
theorem scCheck : FnScope ["parents", "node", "parent"] ["parents"] (defScope sCheck) := ⟨rfl, rfl, rfl, by decide +kernel, rfl, by decide +kernel, by decide +kernel⟩
def spLeads (K : PySem.W.Frag) : Sp := fun vs H Q _ => ∃ (a : Addr) (n : Nat) (p : Nat → Nat) (x : Nat), vs = [.ref a, vi x] ∧ SqT K H a (tupOf n p) ∧ n ≤ 1000 ∧ (∀ v, v < n → p v < n) ∧ x < n ∧ Q (.bl (!ringB n p x)) H
def CheckO (CT CB CC : Addr) (xs : List Int) (H : Hp) (E : XK) (Q : VK) : Prop := match verdict xs with
  | .ok => ∀ H', Same H H' → Q .non H'
  | .many => Flies H E CT "limit" "TooManyNodes" (.int 40)
  | .bad v => Flies H E CB "node" "BadParent" (vi v)
  | .cyc v => Flies H E CC "node" "Cycle" (vi v)
def spCheckB (K : PySem.W.Frag) (CT CB CC : Addr) : Sp := fun vs H Q E => ∃ (a : Addr) (xs : List Int), vs = [.ref a] ∧ SqT K H a (xs.map V.int) ∧ xs.length ≤ 1000 ∧ CheckO CT CB CC xs H E Q
def okV (xs : List Int) : Bool := match verdict xs with
  | .ok => true
  | _ => false
def spIsFor (K : PySem.W.Frag) : Sp := fun vs H Q _ => ∃ (a : Addr) (xs : List Int), vs = [.ref a] ∧ SqT K H a (xs.map V.int) ∧ xs.length ≤ 1000 ∧ ∀ H', Same H H' → Q (.bl (okV xs)) H'
theorem row_tup {xs : List Int} (h : ∀ v, v < xs.length → wideB xs v = false) : xs.map V.int = tupOf xs.length (par xs) := by
  refine List.ext_getElem? fun i => ?_
  by_cases hi : i < xs.length
  · rw [List.getElem?_map, List.getElem?_eq_getElem hi, tupOf_at hi]
    have z := (wide_iff.mp (h i hi)).1
    rw [List.getD_eq_getElem?_getD, List.getElem?_eq_getElem hi] at z
    show some (V.int xs[i]) = some (V.int ((xs.getD i 0).toNat : Int))
    rw [List.getD_eq_getElem?_getD, List.getElem?_eq_getElem hi]
    have z : (0 : Int) ≤ xs[i] := z
    show some (V.int xs[i]) = some (V.int ((xs[i]).toNat : Int))
    rw [Int.toNat_of_nonneg z]
  · rw [List.getElem?_eq_none (by rw [List.length_map]; omega), List.getElem?_eq_none (by rw [tupOf_len]; omega)]
section
variable {P : Program} {w : World} {K : PySem.W.Frag} {mg : Str → Option Value} {base : Heap}
theorem ok_badParI {f fM CM : Addr} {fd fdM : FuncData} (F : Fun K "__init__" "BadParent.__init__" (initS sBadPar) f fd) (TM : ClsI K CM fM) (gM : mg "ForestError" = some (.ref CM)) (GM : FnOk P w K mg base CX0 1 fM fdM ["self", "tag", "message"] (spTop K "ValueError.__new__" vaTail)) (bM : Binds K fdM ["self", "tag", "message"] []) :
    FnOk P w K mg base CX0 2 f fd ["self", "node"] (spErrI K "ValueError.__new__" vaTail "node" "BadParent") := by
  refine F.ok scBadParI (fun vs H Q E h => ?_) (fun cdv A outer s H vs Q E hr h => ?_)
  · obtain ⟨a, C, v, rfl, _⟩ := h
    rfl
  · obtain ⟨a, C, v, rfl, ⟨i, rfl, hi⟩, ha, T, nt, nf, q⟩ := h
    refine ⟨_, pss_cons (ps_expr (pe_ci TM GM hr (by rfl) gM bM pass0 (pa_cons (pv 0) (pa_cons pe_str (pa_cons (pe_joined (.cons pe_str (.cons (pe_fmt (pv 1)) (.cons pe_str .nil)))) pa_nil)))))
      (pss_one (ps_st (nid := "ValueError.__new__") PySem.F.store_ValueError (pv 0) (pv 1))), ?_⟩
    have f0 : (Str.empty ++ Str.ofString "the parent of node ").length ≤ 100 := by decide +kernel
    have f1 : (Str.ofString " is no node").length ≤ 100 := by decide +kernel
    have l1 := fits_cat f0 (txt_int hi)
    refine ⟨_, rfl, ⟨_, rfl, fits (by omega), _, rfl, .inr ⟨i, rfl, hi, _, rfl, fits (Nat.le_trans l1 (by decide)), _, rfl, fits (Nat.le_trans (fits_cat l1 f1) (by decide)), ?_⟩⟩⟩
    refine ⟨a, C, _, _, rfl, ha, T, nt, fun dx n ne => ⟨_, rfl, _, rfl, a, C, rfl, T, nf, .inr ⟨dx, _, upd_same, ?_, by show 1 ≤ 900; decide, q dx n ne⟩⟩⟩
    rw [upd_ne ne, upd_same]
end
section
variable {P : Program} {w : World} {K : PySem.W.Frag} {mg : Str → Option Value} {base : Heap}
theorem ok_cycleI {f fM CM : Addr} {fd fdM : FuncData} (F : Fun K "__init__" "Cycle.__init__" (initS sCycle) f fd) (TM : ClsI K CM fM) (gM : mg "ForestError" = some (.ref CM)) (GM : FnOk P w K mg base CX0 1 fM fdM ["self", "tag", "message"] (spTop K "ValueError.__new__" vaTail)) (bM : Binds K fdM ["self", "tag", "message"] []) :
    FnOk P w K mg base CX0 2 f fd ["self", "node"] (spErrI K "ValueError.__new__" vaTail "node" "Cycle") := by
  refine F.ok scCycleI (fun vs H Q E h => ?_) (fun cdv A outer s H vs Q E hr h => ?_)
  · obtain ⟨a, C, v, rfl, _⟩ := h
    rfl
  · obtain ⟨a, C, v, rfl, ⟨i, rfl, hi⟩, ha, T, nt, nf, q⟩ := h
    refine ⟨_, pss_cons (ps_expr (pe_ci TM GM hr (by rfl) gM bM pass0 (pa_cons (pv 0) (pa_cons pe_str (pa_cons (pe_joined (.cons pe_str (.cons (pe_fmt (pv 1)) (.cons pe_str .nil)))) pa_nil)))))
      (pss_one (ps_st (nid := "ValueError.__new__") PySem.F.store_ValueError (pv 0) (pv 1))), ?_⟩
    have f0 : (Str.empty ++ Str.ofString "the parents of node ").length ≤ 100 := by decide +kernel
    have f1 : (Str.ofString " do not lead to a root").length ≤ 100 := by decide +kernel
    have l1 := fits_cat f0 (txt_int hi)
    refine ⟨_, rfl, ⟨_, rfl, fits (by omega), _, rfl, .inr ⟨i, rfl, hi, _, rfl, fits (Nat.le_trans l1 (by decide)), _, rfl, fits (Nat.le_trans (fits_cat l1 f1) (by decide)), ?_⟩⟩⟩
    refine ⟨a, C, _, _, rfl, ha, T, nt, fun dx n ne => ⟨_, rfl, _, rfl, a, C, rfl, T, nf, .inr ⟨dx, _, upd_same, ?_, by show 1 ≤ 900; decide, q dx n ne⟩⟩⟩
    rw [upd_ne ne, upd_same]
end
section
variable {P : Program} {w : World} {K : PySem.W.Frag} {mg : Str → Option Value} {base : Heap}
theorem ok_tooManyI {f fM CM : Addr} {fd fdM : FuncData} (F : Fun K "__init__" "TooManyNodes.__init__" (initS sTooMany) f fd) (TM : ClsI K CM fM) (gM : mg "ForestError" = some (.ref CM)) (GM : FnOk P w K mg base CX0 1 fM fdM ["self", "tag", "message"] (spTop K "ValueError.__new__" vaTail)) (bM : Binds K fdM ["self", "tag", "message"] []) :
    FnOk P w K mg base CX0 2 f fd ["self", "limit"] (spErrI K "ValueError.__new__" vaTail "limit" "TooManyNodes") := by
  refine F.ok scTooManyI (fun vs H Q E h => ?_) (fun cdv A outer s H vs Q E hr h => ?_)
  · obtain ⟨a, C, v, rfl, _⟩ := h
    rfl
  · obtain ⟨a, C, v, rfl, ⟨i, rfl, hi⟩, ha, T, nt, nf, q⟩ := h
    refine ⟨_, pss_cons (ps_expr (pe_ci TM GM hr (by rfl) gM bM pass0 (pa_cons (pv 0) (pa_cons pe_str (pa_cons (pe_joined (.cons pe_str (.cons (pe_fmt (pv 1)) (.cons pe_str .nil)))) pa_nil)))))
      (pss_one (ps_st (nid := "ValueError.__new__") PySem.F.store_ValueError (pv 0) (pv 1))), ?_⟩
    have f0 : (Str.empty ++ Str.ofString "there are more than ").length ≤ 100 := by decide +kernel
    have f1 : (Str.ofString " nodes").length ≤ 100 := by decide +kernel
    have l1 := fits_cat f0 (txt_int hi)
    refine ⟨_, rfl, ⟨_, rfl, fits (by omega), _, rfl, .inr ⟨i, rfl, hi, _, rfl, fits (Nat.le_trans l1 (by decide)), _, rfl, fits (Nat.le_trans (fits_cat l1 f1) (by decide)), ?_⟩⟩⟩
    refine ⟨a, C, _, _, rfl, ha, T, nt, fun dx n ne => ⟨_, rfl, _, rfl, a, C, rfl, T, nf, .inr ⟨dx, _, upd_same, ?_, by show 1 ≤ 900; decide, q dx n ne⟩⟩⟩
    rw [upd_ne ne, upd_same]
end
section
variable {P : Program} {w : World} {K : PySem.W.Frag} {mg : Str → Option Value} {base : Heap}
theorem ok_leads {f : Addr} {fd : FuncData} {k : Nat} (F : Fun K "leads_to_root" "leads_to_root" sLeads f fd) (T : Tx mg) : FnOk P w K mg base CX0 (k + 1) f fd ["parents", "node"] (spLeads K) := by
  refine F.ok scLeads (fun vs H Q E h => ?_) (fun cdv A outer s H vs Q E hr h => ?_)
  · obtain ⟨a, n, p, x, rfl, _⟩ := h
    rfl
  · obtain ⟨a, n, p, x, rfl, hS, hn, hl, hx, q⟩ := h
    refine ⟨_, pss_cons (ps_set (i := 2) scLeads.nd rfl (.inl rfl) (pv 1))
      (pss_cons (ps_for PassesOwn.never rfl (pi_range1 (by rfl) T.range (pa_cons (pe_callB call_len_seq (by rfl) T.len PySem.boot_len (pa_cons (pv 0) pa_nil)) pa_nil)) (pg_name (i := 3) scLeads.nd rfl (.inl rfl))
        (pss_cons (ps_if (pt_cmpR op_eq (pe_ix ix_tup (pv 0) (pv 2) (fun _ _ => rfl)) (pv 2) (nomark _)) (pss_one (ps_ret pe_bl)) pss_nil)
        (pss_one (ps_set (i := 2) scLeads.nd rfl (.inl rfl) (pe_ix ix_tup (pv 0) (pv 2) (fun _ _ => rfl))))))
      (pss_one (ps_ret pe_bl))), ?_⟩
    refine ⟨_, rfl, _, rfl, a, _, rfl, .inr hS, _, rfl, by rw [tupOf_len]; omega, by rw [tupOf_len]; omega, ?_⟩
    rw [tupOf_len]
    have en : ((n : Nat) : Int).toNat = n := by omega
    refine for_range (lo := 0) (n := ((n : Nat) : Int).toNat) (fun i σ H' => (∃ z3, σ = [some (.ref a), some (vi x), some (vi (root p i x)), z3]) ∧ (∀ j, j < i → p (root p j x) ≠ root p j x) ∧ H' = H) ⟨⟨_, rfl⟩, fun j hj => by omega, rfl⟩ ?_ ?_
    · rintro i σ H' hi ⟨⟨z3, rfl⟩, hno, rfl⟩
      have hr0 : root p i x < n := root_lt0 hl i x hx
      refine ⟨_, rfl, _, rfl, a, _, _, _, rfl, rfl, hS, atI_nat (tupOf_at hr0), _, rfl, rfl, _, rfl, ?_⟩
      show if decide (vi (p (root p i x)) = vi (root p i x)) = true then _ else _
      by_cases e : p (root p i x) = root p i x
      · rw [decide_eq_true (by rw [e])]
        refine iteT ?_
        have : ringB n p x = false := by
          unfold ringB
          obtain ⟨j, rfl⟩ : ∃ j, n = i + j := ⟨n - i, by omega⟩
          rw [root_stay e j, decide_eq_true e]; rfl
        rw [this] at q
        exact q
      · rw [decide_eq_false (fun z => e (by injection z with z; omega))]
        refine iteF ⟨_, rfl, _, rfl, a, _, _, _, rfl, rfl, hS, atI_nat (tupOf_at hr0), ⟨some (.int (0 + (i : Int))), ?_⟩, fun j hj => ?_, rfl⟩
        · rw [root_succ]; rfl
        · by_cases ej : j = i
          · rw [ej]; exact e
          · exact hno j (by omega)
    · rintro σ H' ⟨⟨z3, rfl⟩, hno, rfl⟩
      rw [en] at hno
      have : ringB n p x = true := by
        unfold ringB
        rw [decide_eq_false (fun z => by
          obtain ⟨j, hj, e⟩ := fix_before hl hx z
          exact hno j hj e)]
        rfl
      rw [this] at q
      exact q
end
section
variable {P : Program} {w : World} {K : PySem.W.Frag} {mg : Str → Option Value} {base : Heap}
theorem okB_check {f fL CT CB CC : Addr} {fd fdL : FuncData} {tN : Tok} (F : Fun K "check_forest" "check_forest" sCheck f fd) (k1 : Kn P w K mg base 1 "leads_to_root" sLeads ["parents", "node"] (spLeads K) fL fdL) (T : Tx mg) (tE : mg "enumerate" = none) (gN : mg "MAX_NODES" = some (.int 40 tN)) (RT : Raisable P w K mg base 2 "TooManyNodes" CT "limit" "TooManyNodes") (RB : Raisable P w K mg base 2 "BadParent" CB "node" "BadParent") (RC : Raisable P w K mg base 2 "Cycle" CC "node" "Cycle") :
    FnOk P w K mg base (L2N.CX P w) 4 f fd ["parents"] (spCheckB K CT CB CC) := by
  refine okN F scCheck (fun vs H Q E h => ?_) (fun cdv A outer s H vs Q E hr h tk => ?_)
  · obtain ⟨a, xs, rfl, _⟩ := h
    rfl
  · obtain ⟨a, xs, rfl, hS, hn, h⟩ := h
    refine ⟨_, pss_cons (ps_if (pt_cmpR op_gt (pe_callB call_len_seq (by rfl) T.len PySem.boot_len (pa_cons (pv 0) pa_nil)) (pe_glob (v := .int 40) rfl gN ⟨_, rfl⟩) (nomark _)) (pss_one (L2N.ps_raise rfl tk (pmk_err RT hr (by rfl) (pe_glob (v := .int 40) rfl gN ⟨_, rfl⟩)))) pss_nil)
      (pss_cons (ps_for PassesOwn.leaving rfl (pi_enumT (by rfl) tE (pa_cons (pv 0) pa_nil)) (pg_tup rfl (pgs_cons (pg_name (i := 1) scCheck.nd rfl (.inl rfl)) (pgs_cons (pg_name (i := 2) scCheck.nd rfl (.inl rfl)) pgs_nil)))
        (pss_one (ps_if (pt_not (pt_chain op_le op_lt pe_int (pv 2) (pe_callB call_len_seq (by rfl) T.len PySem.boot_len (pa_cons (pv 0) pa_nil)))) (pss_one (L2N.ps_raise rfl tk (pmk_err RB hr (by rfl) (pv 1)))) pss_nil)))
      (pss_one (ps_for PassesOwn.leaving rfl (pi_range1 (by rfl) T.range (pa_cons (pe_callB call_len_seq (by rfl) T.len PySem.boot_len (pa_cons (pv 0) pa_nil)) pa_nil)) (pg_name (i := 1) scCheck.nd rfl (.inl rfl))
        (pss_one (ps_if (pt_not (pt_val (pe_call k1.G (hr.mono (by decide)) (by rfl) k1.g k1.F.kp k1.b .nil pass0 (pa_cons (pv 0) (pa_cons (pv 1) pa_nil))))) (pss_one (L2N.ps_raise rfl tk (pmk_err RC hr (by rfl) (pv 1)))) pss_nil))))), ?_⟩
    refine ⟨_, rfl, a, _, rfl, .inr hS, _, _, rfl, rfl, _, rfl, ?_⟩
    show if decide ((40 : Int) < ((xs.map V.int).length : Int)) = true then _ else _
    rw [List.length_map]
    unfold CheckO verdict at h
    by_cases h40 : 40 < xs.length
    · rw [decide_eq_true (show (40 : Int) < (xs.length : Int) by omega)]
      rw [if_pos h40] at h
      exact iteT ⟨_, rfl, ⟨40, rfl, by decide⟩, h⟩
    · rw [decide_eq_false (show ¬ (40 : Int) < (xs.length : Int) by omega)]
      rw [if_neg h40] at h
      refine iteF ⟨_, rfl, a, _, rfl, hS, ?_⟩
      refine for_enumT (K := K) (a := a) (xs := xs.map V.int) (fun i σ H' => (∃ z1 z2, σ = [some (.ref a), z1, z2]) ∧ (∀ v, v < i → wideB xs v = false) ∧ Same H H') ⟨⟨_, _, rfl⟩, fun v hv => by omega, Same.refl _⟩ (fun i σ H' _ h => same_sqt h.2.2 hS) ?_ ?_
      · rintro i x σ H' T2 hx ⟨⟨z1, z2, rfl⟩, hw, sm⟩ nT
        have hi : i < xs.length := by have := (List.getElem?_eq_some_iff.mp hx).1; rwa [List.length_map] at this
        rw [List.getElem?_map, List.getElem?_eq_getElem hi] at hx
        cases hx
        have gD : xs.getD i 0 = xs[i] := by rw [List.getD_eq_getElem?_getD, List.getElem?_eq_getElem hi]; rfl
        have s2 := same_new (o := .tup [V.int (i : Int), V.int xs[i]]) nT
        have sm2 := sm.trans s2
        refine ⟨T2, _, rfl, SqT.of upd_same, rfl, _, _, rfl, _, _, rfl, rfl, ?_⟩
        refine ⟨_, rfl, _, _, rfl, rfl, _, rfl, ?_⟩
        show if decide ((0 : Int) ≤ xs[i]) = true then _ else _
        have bad : wideB xs i = true → Flies H E CB "node" "BadParent" (vi i) := fun hb => by
          obtain ⟨rest, er⟩ := filt_first hi hw hb
          unfold wideL at h
          rw [er] at h
          exact h
        have good : (0 : Int) ≤ xs[i] → xs[i] < (xs.length : Int) → ∀ v, v < i + 1 → wideB xs v = false := fun a1 a2 v hv => by
          by_cases e : v = i
          · rw [e]; exact wide_iff.mpr (by rw [gD]; exact ⟨a1, a2⟩)
          · exact hw v (by omega)
        have isbad : ¬ ((0 : Int) ≤ xs[i] ∧ xs[i] < (xs.length : Int)) → wideB xs i = true := fun hb => by
          cases e : wideB xs i with
          | true => rfl
          | false => exact absurd (by have z := wide_iff.mp e; rw [gD] at z; exact z) hb
        by_cases h0 : (0 : Int) ≤ xs[i]
        · rw [decide_eq_true h0]
          refine iteT ⟨_, rfl, a, _, rfl, .inr (same_sqt sm2 hS), _, _, rfl, rfl, _, rfl, ?_⟩
          show if (!decide (xs[i] < ((xs.map V.int).length : Int))) = true then _ else _
          rw [List.length_map]
          by_cases h1 : xs[i] < (xs.length : Int)
          · rw [decide_eq_true h1]
            exact iteF ⟨⟨_, _, rfl⟩, good h0 h1, sm2⟩
          · rw [decide_eq_false h1]
            exact iteT ⟨_, rfl, _, rfl, ⟨_, rfl, bits_ok (by omega) (by omega)⟩, flies_same (bad (isbad fun z => h1 z.2)) sm2⟩
        · rw [decide_eq_false h0]
          refine iteF ⟨_, rfl, ?_⟩
          exact iteT ⟨_, rfl, _, rfl, ⟨_, rfl, bits_ok (by omega) (by omega)⟩, flies_same (bad (isbad fun z => h0 z.1)) sm2⟩
      · rintro σ H' ⟨⟨z1, z2, rfl⟩, hw, sm⟩
        rw [List.length_map] at hw
        have hS2 : SqT K H a (tupOf xs.length (par xs)) := by rw [← row_tup hw]; exact hS
        unfold wideL at h
        rw [filt_none hw] at h
        refine ⟨_, rfl, a, _, rfl, .inr (same_sqt sm hS), _, rfl, by rw [List.length_map]; omega, by rw [List.length_map]; omega, ?_⟩
        rw [List.length_map]
        refine for_range (lo := 0) (n := ((xs.length : Nat) : Int).toNat) (fun i σ H' => (∃ z1 z2, σ = [some (.ref a), z1, z2]) ∧ (∀ v, v < i → ringB xs.length (par xs) v = false) ∧ Same H H') ⟨⟨_, _, rfl⟩, fun v hv => by omega, sm⟩ ?_ ?_
        · rintro i σ H2 hi ⟨⟨z1, z2, rfl⟩, hno, sm2⟩
          have hin : i < xs.length := by omega
          refine ⟨_, rfl, _, rfl, a, xs.length, par xs, i, by show [V.ref a, V.int (0 + (i : Int))] = [V.ref a, V.int (i : Int)]; rw [Int.zero_add], same_sqt sm2 hS2, by omega, par_lt hw, hin, _, rfl, ?_⟩
          cases e : ringB xs.length (par xs) i with
          | false =>
            refine iteF ⟨⟨_, _, rfl⟩, fun v hv => ?_, sm2⟩
            by_cases ev : v = i
            · rw [ev]; exact e
            · exact hno v (by omega)
          | true =>
            obtain ⟨rest, er⟩ := filt_first hin hno e
            unfold ringsL at h
            rw [er] at h
            refine iteT ⟨_, rfl, _, rfl, ⟨_, rfl, bits_ok (by omega) (by omega)⟩, ?_⟩
            rw [Int.zero_add]
            exact flies_same h sm2
        · rintro σ H2 ⟨⟨z1, z2, rfl⟩, hno, sm2⟩
          rw [show ((xs.length : Nat) : Int).toNat = xs.length by omega] at hno
          unfold ringsL at h
          rw [filt_none hno] at h
          exact h H2 sm2
end
abbrev sSizes : Stmt := topS 42
abbrev sizesN : List Str := ["one", "other"]
theorem scSizes : FnScope sizesN ["one", "other"] (defScope sSizes) := ⟨rfl, rfl, rfl, by decide +kernel, rfl, by decide +kernel, by decide +kernel⟩
abbrev sRoots2 : Stmt := topS 43
abbrev roots2N : List Str := ["one", "other", "node"]
theorem scRoots2 : FnScope roots2N ["one", "other"] (defScope sRoots2) := ⟨rfl, rfl, rfl, by decide +kernel, rfl, by decide +kernel, by decide +kernel⟩
abbrev sChg : Stmt := topS 44
abbrev chgN : List Str := ["one", "other", "node"]
theorem scChg : FnScope chgN ["one", "other"] (defScope sChg) := ⟨rfl, rfl, rfl, by decide +kernel, rfl, by decide +kernel, by decide +kernel⟩
abbrev sBarr : Stmt := topS 45
abbrev barrN : List Str := ["one", "other", "changed", "path", "node"]
theorem scBarr : FnScope barrN ["one", "other", "changed"] (defScope sBarr) := ⟨rfl, rfl, rfl, by decide +kernel, rfl, by decide +kernel, by decide +kernel⟩
abbrev sBar : Stmt := topS 46
abbrev barN : List Str := ["one", "other", "changed", "barring"]
theorem scBar : FnScope barN ["one", "other"] (defScope sBar) := ⟨rfl, rfl, rfl, by decide +kernel, rfl, by decide +kernel, by decide +kernel⟩
abbrev holdsN : List Str := ["one", "other", "bar", "changed", "node"]
abbrev sNeed : Stmt := topS 47
abbrev needN : List Str := ["one", "other", "bar", "node"]
theorem scNeed : FnScope needN ["one", "other"] (defScope sNeed) := ⟨rfl, rfl, rfl, by decide +kernel, rfl, by decide +kernel, by decide +kernel⟩
abbrev sIsN : Stmt := topS 48
abbrev isNN : List Str := ["one", "other", "node", "changed", "low"]
theorem scIsN : FnScope isNN ["one", "other", "node"] (defScope sIsN) := ⟨rfl, rfl, rfl, by decide +kernel, rfl, by decide +kernel, by decide +kernel⟩
abbrev cntWN : List Str := ["one", "other", "many"]
abbrev sWCost : Stmt := topS 49
abbrev wCostN : List Str := ["one", "other"]
theorem scWCost : FnScope wCostN ["one", "other"] (defScope sWCost) := ⟨rfl, rfl, rfl, by decide +kernel, rfl, by decide +kernel, by decide +kernel⟩
abbrev sFlat : Stmt := topS 51
abbrev flatN : List Str := ["forest", "node"]
theorem scFlat : FnScope flatN ["forest"] (defScope sFlat) := ⟨rfl, rfl, rfl, by decide +kernel, rfl, by decide +kernel, by decide +kernel⟩
abbrev sameTN : List Str := ["one", "other"]
/-- two forests -/
structure Two (K : PySem.W.Frag) (H : Hp) (a b : Addr) (n m : Nat) (p q r r' : Nat → Nat) : Prop where
  sa : SqT K H a (tupOf n p)
  sb : SqT K H b (tupOf m q)
  ln : n ≤ 60
  lm : m ≤ 60
  fa : Fo n p r
  fb : Fo m q r'
theorem Two.same {K : PySem.W.Frag} {H H' : Hp} {a b : Addr} {n m : Nat} {p q r r' : Nat → Nat} (h : Two K H a b n m p q r r') (e : Same H H') : Two K H' a b n m p q r r' := ⟨same_sqt e h.sa, same_sqt e h.sb, h.ln, h.lm, h.fa, h.fb⟩
def unlB (p q : Nat → Nat) (v : Nat) : Bool := decide (p v = v) != decide (q v = v)
def unlL (n : Nat) (p q : Nat → Nat) : List Nat := (List.range n).filter (unlB p q)
/-- sizes and roots that differ, or neither -/
def WayE (CS CR : Addr) (n m : Nat) (p q : Nat → Nat) (H : Hp) (E : XK) (ok : Prop) : Prop :=
  (n ≠ m ∧ Flies H E CS "size" "SizesDiffer" (vi m)) ∨ (n = m ∧ ∃ v rest, unlL n p q = v :: rest ∧ Flies H E CR "node" "RootsDiffer" (vi v)) ∨ (n = m ∧ unlL n p q = [] ∧ ok)
theorem WayE.imp {CS CR : Addr} {n m : Nat} {p q : Nat → Nat} {H : Hp} {E : XK} {ok ok' : Prop} (w : WayE CS CR n m p q H E ok) (h : ok → ok') : WayE CS CR n m p q H E ok' := by
  rcases w with w | w | ⟨w1, w2, w3⟩
  · exact .inl w
  · exact .inr (.inl w)
  · exact .inr (.inr ⟨w1, w2, h w3⟩)
theorem unl_nil {n : Nat} {p q : Nat → Nat} (h : unlL n p q = []) (v : Nat) (hv : v < n) : p v = v ↔ q v = v := by
  have z := List.filter_eq_nil_iff.mp h v (List.mem_range.mpr hv)
  unfold unlB at z
  simpa using z
theorem unl_of {n : Nat} {p q : Nat → Nat} (h : ∀ v, v < n → (p v = v ↔ q v = v)) : unlL n p q = [] := List.filter_eq_nil_iff.mpr fun v hv => by
  unfold unlB
  simp [h v (List.mem_range.mp hv)]
def chgL (n : Nat) (p q : Nat → Nat) : List Nat := (List.range n).filter (chg p q)
def barsOf (n : Nat) (p q : Nat → Nat) (x : Nat) : List Nat := (ups p n x).filter fun v => decide (q v ≠ root p n x)
def barL (n : Nat) (p q : Nat → Nat) : List (Nat × Nat) := (chgL n p q).flatMap fun x => (barsOf n p q x).map fun v => (x, v)
def spSizesB (K : PySem.W.Frag) (CS : Addr) : Sp := fun vs H Q E => ∃ (a b : Addr) (xs ys : List V), vs = [.ref a, .ref b] ∧ SqT K H a xs ∧ SqT K H b ys ∧ ys.length ≤ 1000 ∧ ((xs.length ≠ ys.length ∧ Flies H E CS "size" "SizesDiffer" (vi ys.length)) ∨ (xs.length = ys.length ∧ Q .non H))
def spRoots2B (K : PySem.W.Frag) (CR : Addr) : Sp := fun vs H Q E => ∃ (a b : Addr) (n : Nat) (p q : Nat → Nat), vs = [.ref a, .ref b] ∧ SqT K H a (tupOf n p) ∧ SqT K H b (tupOf n q) ∧ n ≤ 60 ∧ ((∃ v rest, unlL n p q = v :: rest ∧ Flies H E CR "node" "RootsDiffer" (vi v)) ∨ (unlL n p q = [] ∧ Q .non H))
def spTwoB (K : PySem.W.Frag) (CS CR : Addr) (ok : Nat → (Nat → Nat) → (Nat → Nat) → Hp → VK → XK → Prop) : Sp := fun vs H Q E => ∃ (a b : Addr) (n m : Nat) (p q r r' : Nat → Nat), vs = [.ref a, .ref b] ∧ Two K H a b n m p q r r' ∧ WayE CS CR n m p q H E (ok n p q H Q E)
def okChg (n : Nat) (p q : Nat → Nat) (H : Hp) (Q : VK) (E : XK) : Prop := ∀ (l : Addr) H', H l = none → H' l = some (.lst (natsV (chgL n p q))) → Same H H' → Q (.ref l) H'
def okBar (n : Nat) (p q : Nat → Nat) (H : Hp) (Q : VK) (E : XK) : Prop := (barL n p q = [] → ∀ H', Same H H' → Q .non H') ∧ ∀ x v rest, barL n p q = (x, v) :: rest → ∀ (t : Addr) H', H t = none → H' t = some (.tup [vi x, vi v]) → Same H H' → Q (.ref t) H'
def okNeed (CN : Addr) (n : Nat) (p q : Nat → Nat) (H : Hp) (Q : VK) (E : XK) : Prop := (barL n p q = [] → ∀ (l : Addr) H', H l = none → H' l = some (.lst (natsV (needS n p q))) → Same H H' → Q (.ref l) H') ∧ ∀ x v rest, barL n p q = (x, v) :: rest → Flies H E CN "node" "NoWay" (vi x)
def okCntW (CN : Addr) (n : Nat) (p q : Nat → Nat) (H : Hp) (Q : VK) (E : XK) : Prop := (barL n p q = [] → ∀ H', Same H H' → Q (.int (fall ((needS n p q).length : Int) ((needS n p q).length : Int))) H') ∧ ∀ x v rest, barL n p q = (x, v) :: rest → Flies H E CN "node" "NoWay" (vi x)
def okWCost (CN : Addr) (n : Nat) (p q : Nat → Nat) (H : Hp) (Q : VK) (E : XK) : Prop := (barL n p q = [] → ∀ H', Same H H' → Q (vi (costs n (needS n p q) p).sum) H') ∧ ∀ x v rest, barL n p q = (x, v) :: rest → Flies H E CN "node" "NoWay" (vi x)
def spSameTB (K : PySem.W.Frag) (CS : Addr) : Sp := fun vs H Q E => ∃ (a b : Addr) (n m : Nat) (p q r r' : Nat → Nat), vs = [.ref a, .ref b] ∧ Two K H a b n m p q r r' ∧ ((n ≠ m ∧ Flies H E CS "size" "SizesDiffer" (vi m)) ∨ (n = m ∧ ∀ H', Same H H' → Q (.bl (decide (∀ v, v < n → root p n v = root q n v))) H'))
def okSameT (n : Nat) (p q : Nat → Nat) (H : Hp) (Q : VK) (E : XK) : Prop := ∀ H', Same H H' → Q (.bl (decide (∀ v, v < n → root p n v = root q n v))) H'
/-- whether an integer is a needed node -/
def needZ (n : Nat) (p q : Nat → Nat) (x : Int) : Bool := decide (0 ≤ x ∧ x < (n : Int)) && needB n p q x.toNat
def barZ (n : Nat) (p q : Nat → Nat) (x y : Int) : Bool := (barL n p q).any fun b => decide (x = (b.1 : Int)) && decide (y = (b.2 : Int))
def spIsNB (K : PySem.W.Frag) (CS CR : Addr) : Sp := fun vs H Q E => ∃ (a b : Addr) (n m : Nat) (p q r r' : Nat → Nat) (x : Int), vs = [.ref a, .ref b, .int x] ∧ Two K H a b n m p q r r' ∧ WayE CS CR n m p q H E (∀ H', Same H H' → Q (.bl (needZ n p q x)) H')
def spHoldsB (K : PySem.W.Frag) (CS CR : Addr) : Sp := fun vs H Q E => ∃ (a b c : Addr) (n m : Nat) (p q r r' : Nat → Nat) (x y : Int), vs = [.ref a, .ref b, .ref c] ∧ SqT K H c [.int x, .int y] ∧ Two K H a b n m p q r r' ∧ WayE CS CR n m p q H E (∀ H', Same H H' → Q (.bl (barZ n p q x y)) H')
def spBarr (K : PySem.W.Frag) : Sp := fun vs H Q _ => ∃ (a b : Addr) (n : Nat) (p q r : Nat → Nat) (x : Nat), vs = [.ref a, .ref b, vi x] ∧ SqT K H a (tupOf n p) ∧ SqT K H b (tupOf n q) ∧ n ≤ 60 ∧ Fo n p r ∧ x < n ∧ ∀ (l : Addr) H', H l = none → H' l = some (.lst (natsV (barsOf n p q x))) → Same H H' → Q (.ref l) H'
def spFlat (K : PySem.W.Frag) : Sp := fun vs H Q _ => ∃ (a : Addr) (n : Nat) (p r : Nat → Nat), vs = [.ref a] ∧ SqT K H a (tupOf n p) ∧ n ≤ 60 ∧ Fo n p r ∧ ∀ (t : Addr) H', H t = none → H' t = some (.tup (tupOf n fun v => root p n v)) → Same H H' → Q (.ref t) H'
theorem path_cut (p : Nat → Nat) (k x : Nat) : cutV (natsV (path p k x)) none (some (-1)) = natsV (ups p k x) := cut_last _ _
theorem prt_vi {n : Nat} (h : n ≤ 2000000000) : Prt (vi n) := ⟨n, rfl, bits_ok (by omega) (by omega)⟩
theorem flat_first {β : Type} (f : Nat → List β) {b : β} {r : List β} : ∀ (l : List Nat) (i : Nat) (hi : i < l.length), (∀ j, j < i → f (l.getD j 0) = []) → f l[i] = b :: r → ∃ rest, l.flatMap f = b :: rest
  | [], i, hi, _, _ => by simp at hi
  | x :: l, 0, hi, _, h => ⟨r ++ l.flatMap f, by rw [List.flatMap_cons]; show f x ++ _ = _; rw [show f x = b :: r from h]; rfl⟩
  | x :: l, i + 1, hi, h0, h => by
    have hx : f x = [] := h0 0 (by omega)
    obtain ⟨rest, e⟩ := flat_first f l i (by simpa using hi) (fun j hj => h0 (j + 1) (by omega)) h
    exact ⟨rest, by rw [List.flatMap_cons, hx]; exact e⟩
theorem flat_none {β : Type} (f : Nat → List β) : ∀ (l : List Nat), (∀ j, j < l.length → f (l.getD j 0) = []) → l.flatMap f = []
  | [], _ => rfl
  | x :: l, h => by
    have hx : f x = [] := h 0 (by simp)
    rw [List.flatMap_cons, hx]
    exact flat_none f l fun j hj => h (j + 1) (by simpa using hj)
theorem inV_int (x : Int) : ∀ l : List Nat, inV (.int x) (natsV l) = l.any fun u => decide (x = (u : Int))
  | [] => rfl
  | y :: l => by
    have ih := inV_int x l
    unfold inV natsV at ih ⊢
    rw [List.map_cons, List.any_cons, List.any_cons, ih]
    by_cases e : x = (y : Int)
    · subst e; simp [eqV]
    · have h1 : eqV (vi y) (.int x) = false := by
        simp only [eqV]
        simp
        omega
      rw [h1, decide_eq_false e]
theorem barL_way {n : Nat} {p q : Nat → Nat} {r : Nat → Nat} (F : Fo n p r) : barL n p q = [] ↔ Way n p q := by
  unfold barL Way
  rw [List.flatMap_eq_nil_iff]
  constructor
  · intro h v hv hc u hu
    have h1 := h v (List.mem_filter.mpr ⟨List.mem_range.mpr hv, hc⟩)
    have h2 : barsOf n p q v = [] := List.map_eq_nil_iff.mp h1
    have h3 := List.filter_eq_nil_iff.mp h2 u hu
    rw [(ups_lt F v hv u hu).2.2.1]
    simpa using h3
  · intro h v hv
    obtain ⟨hv1, hv2⟩ := List.mem_filter.mp hv
    have hv1 := List.mem_range.mp hv1
    refine List.map_eq_nil_iff.mpr (List.filter_eq_nil_iff.mpr fun u hu => ?_)
    have h3 := h v hv1 hv2 u hu
    rw [(ups_lt F v hv1 u hu).2.2.1] at h3
    simpa using h3
theorem chgL_lt {n : Nat} {p q : Nat → Nat} {v : Nat} (h : v ∈ chgL n p q) : v < n := List.mem_range.mp (List.mem_filter.mp h).1
theorem chgL_len (n : Nat) (p q : Nat → Nat) : (chgL n p q).length ≤ n := filt_le n _
theorem nats_get {l : List Nat} {i : Nat} {y : V} (h : (natsV l)[i]? = some y) : ∃ hi : i < l.length, y = vi l[i] := by
  have hil : i < l.length := by have := (List.getElem?_eq_some_iff.mp h).1; rwa [natsV_len] at this
  unfold natsV at h
  rw [List.getElem?_map, List.getElem?_eq_getElem hil] at h
  exact ⟨hil, (Option.some.inj h).symm⟩
theorem any_mem {f g : Nat → Bool} : ∀ {l : List Nat}, (∀ x ∈ l, f x = g x) → l.any f = l.any g
  | [], _ => rfl
  | x :: l, h => by rw [List.any_cons, List.any_cons, h x List.mem_cons_self, any_mem fun y hy => h y (List.mem_cons_of_mem _ hy)]
/-- is_needed, by what is above -/
theorem need_any {n : Nat} {p q r : Nat → Nat} (F : Fo n p r) (hr : ∀ v, v < n → (p v = v ↔ q v = v)) {v : Nat} (hv : v < n) (hc : chg p q v = true) : (!((chgL n p q).map fun u => decide (v ≠ u) && decide (v ∈ path p n u)).any id) = needB n p q v := by
  have nr : p v ≠ v := fun z => by
    have := chg_iff.mp hc
    rw [z, (hr v hv).mp z] at this
    exact this rfl
  unfold needB
  rw [hc, Bool.true_and, List.any_map]
  unfold chgL
  rw [List.any_filter]
  congr 1
  refine any_mem fun u hu => ?_
  have hu := List.mem_range.mp hu
  show (chg p q u && (decide (v ≠ u) && decide (v ∈ path p n u))) = _
  have e : decide (v ∈ path p n u) = (ups p n u).contains v := by
    rw [Bool.eq_iff_iff, decide_eq_true_iff, List.contains_iff_mem]
    unfold path
    rw [List.mem_append, List.mem_singleton]
    constructor
    · rintro (h | h)
      · exact h
      · exact absurd (by rw [h]; exact root_fix F u hu) nr
    · exact .inl
  rw [e]
section
variable {P : Program} {w : World} {K : PySem.W.Frag} {mg : Str → Option Value} {base : Heap}
theorem okB_sizes {f CS : Addr} {fd : FuncData} (F : Fun K "check_sizes" "check_sizes" sSizes f fd) (T : Tx mg) (RS : Raisable P w K mg base 2 "SizesDiffer" CS "size" "SizesDiffer") : FnOk P w K mg base (L2N.CX P w) 4 f fd ["one", "other"] (spSizesB K CS) := by
  refine okN F scSizes (fun vs H Q E h => ?_) (fun cdv A outer s H vs Q E hr h tk => ?_)
  · obtain ⟨a, b, xs, ys, rfl, _⟩ := h
    rfl
  · obtain ⟨a, b, xs, ys, rfl, ha, hb, hl, h⟩ := h
    have hrm : ∀ {j : Nat}, j ≤ 3 → Room j (A.deeper (envOfC "check_sizes" (defScope sSizes) s.heap.objs.size f cdv)) := fun h => hr.mono h
    refine ⟨_, (pss_one (ps_if (pt_cmpR op_ne (pe_callB call_len_seq (by rfl) T.len PySem.boot_len (pa_cons (pv 0) pa_nil)) (pe_callB call_len_seq (by rfl) T.len PySem.boot_len (pa_cons (pv 1) pa_nil)) (nomark _))
        (pss_one (L2N.ps_raise rfl tk (pmk_err RS (hrm (by decide)) (by rfl) (pe_callB call_len_seq (by rfl) T.len PySem.boot_len (pa_cons (pv 1) pa_nil))))) pss_nil)), ?_⟩
    refine ⟨_, rfl, a, _, rfl, .inr ha, _, rfl, b, _, rfl, .inr hb, rfl, _, rfl, ?_⟩
    show if (!decide (V.int (xs.length : Int) = V.int (ys.length : Int))) = true then _ else _
    rcases h with ⟨ne, fl⟩ | ⟨e, q⟩
    · rw [decide_eq_false (fun z => ne (by injection z with z; omega))]
      exact iteT ⟨_, rfl, b, _, rfl, .inr hb, _, rfl, prt_vi (by omega), fl⟩
    · rw [decide_eq_true (by rw [e])]
      exact iteF q
end
section
variable {P : Program} {w : World} {K : PySem.W.Frag} {mg : Str → Option Value} {base : Heap}
theorem okB_roots2 {f CR : Addr} {fd : FuncData} (F : Fun K "check_roots" "check_roots" sRoots2 f fd) (T : Tx mg) (RR : Raisable P w K mg base 2 "RootsDiffer" CR "node" "RootsDiffer") : FnOk P w K mg base (L2N.CX P w) 4 f fd ["one", "other"] (spRoots2B K CR) := by
  refine okN F scRoots2 (fun vs H Q E h => ?_) (fun cdv A outer s H vs Q E hr h tk => ?_)
  · obtain ⟨a, b, n, p, q, rfl, _⟩ := h
    rfl
  · obtain ⟨a, b, n, p, q, rfl, ha, hb, hl, h⟩ := h
    have hrm : ∀ {j : Nat}, j ≤ 3 → Room j (A.deeper (envOfC "check_roots" (defScope sRoots2) s.heap.objs.size f cdv)) := fun h => hr.mono h
    refine ⟨_, (pss_one (ps_for PassesOwn.leaving rfl (pi_range1 (by rfl) T.range (pa_cons (pe_callB call_len_seq (by rfl) T.len PySem.boot_len (pa_cons (pv 0) pa_nil)) pa_nil)) (pg_name (i := 2) scRoots2.nd rfl (.inl rfl))
        (pss_one (ps_if (pt_cmpR op_ne (pe_cmpR op_eq (pe_ix (show IxR _ (rIx K) from ix_seq) (pv 0) (pv 2) (fun _ _ => rfl)) (pv 2) (nomark _)) (pe_cmpR op_eq (pe_ix (show IxR _ (rIx K) from ix_seq) (pv 1) (pv 2) (fun _ _ => rfl)) (pv 2) (nomark _)) (nomark _))
          (pss_one (L2N.ps_raise rfl tk (pmk_err RR (hrm (by decide)) (by rfl) (pv 2)))) pss_nil)))), ?_⟩
    refine ⟨_, rfl, a, _, rfl, .inr ha, _, rfl, by rw [tupOf_len]; omega, by rw [tupOf_len]; omega, ?_⟩
    rw [tupOf_len]
    refine for_range (lo := 0) (n := ((n : Nat) : Int).toNat) (fun i σ H' => (∃ y, σ = [some (.ref a), some (.ref b), y]) ∧ H' = H ∧ ∀ v, v < i → unlB p q v = false) ⟨⟨_, rfl⟩, rfl, fun v hv => by omega⟩ ?_ ?_
    · rintro i σ H' hi ⟨⟨y, rfl⟩, rfl, hu⟩
      have hin : i < n := by omega
      have ea : atI (tupOf n p) (0 + (i : Int)) = some (vi (p i)) := by rw [Int.zero_add]; exact atI_nat (tupOf_at hin)
      have eb : atI (tupOf n q) (0 + (i : Int)) = some (vi (q i)) := by rw [Int.zero_add]; exact atI_nat (tupOf_at hin)
      refine ⟨_, rfl, _, rfl, Sq.ix (.inr ha) ea ⟨_, rfl, rfl, _, rfl, _, rfl, Sq.ix (.inr hb) eb ⟨_, rfl, rfl, rfl, _, rfl, ?_⟩⟩⟩
      have e1 : decide (vi (p i) = V.int (0 + (i : Int))) = decide (p i = i) := by
        refine decide_eq_decide.mpr ⟨fun z => by injection z with z; omega, fun z => by rw [z, Int.zero_add]⟩
      have e2 : decide (vi (q i) = V.int (0 + (i : Int))) = decide (q i = i) := by
        refine decide_eq_decide.mpr ⟨fun z => by injection z with z; omega, fun z => by rw [z, Int.zero_add]⟩
      show if (!decide (V.bl (decide (vi (p i) = V.int (0 + (i : Int)))) = V.bl (decide (vi (q i) = V.int (0 + (i : Int)))))) = true then _ else _
      rw [e1, e2]
      have e3 : (!decide (V.bl (decide (p i = i)) = V.bl (decide (q i = i)))) = unlB p q i := by
        unfold unlB
        cases decide (p i = i) <;> cases decide (q i = i) <;> rfl
      rw [e3]
      cases eu : unlB p q i with
      | false =>
        refine iteF ⟨⟨_, rfl⟩, rfl, fun v hv => ?_⟩
        by_cases e : v = i
        · rw [e]; exact eu
        · exact hu v (by omega)
      | true =>
        obtain ⟨rest, hf⟩ := filt_first hin hu eu
        refine iteT ⟨_, rfl, _, rfl, ?_, ?_⟩
        · rw [Int.zero_add]; exact prt_vi (by omega)
        · rw [Int.zero_add]
          rcases h with ⟨v, rest', e, fl⟩ | ⟨e, q⟩
          · unfold unlL at e
            rw [hf] at e
            injection e with e _
            rw [e]; exact fl
          · unfold unlL at e
            rw [hf] at e; cases e
    · rintro σ H' ⟨⟨y, rfl⟩, rfl, hu⟩
      have e0 : unlL n p q = [] := filt_none fun v hv => hu v (by omega)
      rcases h with ⟨v, rest', e, fl⟩ | ⟨e, q⟩
      · rw [e0] at e; cases e
      · exact q
end
section
variable {P : Program} {w : World} {K : PySem.W.Frag} {mg : Str → Option Value} {base : Heap}
theorem okB_chg {f fS fR CS CR : Addr} {fd fdS fdR : FuncData} (F : Fun K "changed_nodes" "changed_nodes" sChg f fd) (kS : KnX P w K mg base 4 "check_sizes" ["one", "other"] (spSizesB K CS) fS fdS) (kR : KnX P w K mg base 4 "check_roots" ["one", "other"] (spRoots2B K CR) fR fdR) (T : Tx mg) : FnOk P w K mg base (L2N.CX P w) 5 f fd ["one", "other"] (spTwoB K CS CR okChg) := by
  refine okN F scChg (fun vs H Q E h => ?_) (fun cdv A outer s H vs Q E hr h tk => ?_)
  · obtain ⟨a, b, n, m, p, q, r, r', rfl, _⟩ := h
    rfl
  · obtain ⟨a, b, n, m, p, q, r, r', rfl, h2, h⟩ := h
    have hrm : ∀ {j : Nat}, j ≤ 4 → Room j (A.deeper (envOfC "changed_nodes" (defScope sChg) s.heap.objs.size f cdv)) := fun h => hr.mono h
    refine ⟨_, (pss_cons (ps_expr (pe_call kS.G (hrm (by decide)) (by rfl) kS.g kS.kp kS.b .nil (lookNE tk) (pa_cons (pv 0) (pa_cons (pv 1) pa_nil))))
      (pss_cons (ps_expr (pe_call kR.G (hrm (by decide)) (by rfl) kR.g kR.kp kR.b .nil (lookNE tk) (pa_cons (pv 0) (pa_cons (pv 1) pa_nil))))
      (pss_one (ps_ret (pe_lc (own := [("node", 2)]) (g := gName 2) (by rfl) scChg.nd (pi_range1 (by rfl) T.range (pa_cons (pe_callB call_len_seq (by rfl) T.len PySem.boot_len (pa_cons (pv 0) pa_nil)) pa_nil)) (blkOk_by (own := [("node", 2)]) (N := chgN) (sc := defScope sChg) (by decide +kernel)) (fun _ _ _ _ _ => (pg_name (i := 2) scChg.nd rfl (.inl rfl))) (fun _ _ _ _ _ => (pts_one (pt_cmpR op_ne (pe_ix (show IxR _ (rIx K) from ix_seq) (pv 0) (pv 2) (fun _ _ => rfl)) (pe_ix (show IxR _ (rIx K) from ix_seq) (pv 1) (pv 2) (fun _ _ => rfl)) (nomark _)))) (fun _ _ _ _ _ => (pv 2))))))), ?_⟩
    have lm := h2.lm
    have ln := h2.ln
    rcases h with ⟨ne, fl⟩ | h0
    · exact ⟨_, rfl, _, rfl, a, b, _, _, rfl, h2.sa, h2.sb, by rw [tupOf_len]; omega, .inl ⟨by rw [tupOf_len, tupOf_len]; exact ne, by rw [tupOf_len]; exact fl⟩⟩
    obtain ⟨e, h⟩ : n = m ∧ ((∃ v rest, unlL n p q = v :: rest ∧ Flies H E CR "node" "RootsDiffer" (vi v)) ∨ (unlL n p q = [] ∧ okChg n p q H Q E)) := by
      rcases h0 with ⟨e, h⟩ | ⟨e, h⟩
      · exact ⟨e, .inl h⟩
      · exact ⟨e, .inr h⟩
    clear h0
    subst e
    refine ⟨_, rfl, _, rfl, a, b, _, _, rfl, h2.sa, h2.sb, by rw [tupOf_len]; omega, .inr ⟨by rw [tupOf_len, tupOf_len], ?_⟩⟩
    refine ⟨_, rfl, _, rfl, a, b, n, p, q, rfl, h2.sa, h2.sb, ln, ?_⟩
    rcases h with h | ⟨hu, ok⟩
    · exact .inl h
    refine .inr ⟨hu, ?_⟩
    refine ⟨_, rfl, a, _, rfl, .inr h2.sa, _, rfl, by rw [tupOf_len]; omega, by rw [tupOf_len]; omega, fun D nD => ?_⟩
    rw [tupOf_len]
    refine lc_range (lo := 0) (n := ((n : Nat) : Int).toNat) (fun i H' => H' D = some (.lst (natsV ((List.range i).filter (chg p q)))) ∧ Same H H') ⟨upd_same, same_new nD⟩ ?_ ?_
    · rintro i H' hi ⟨hD, sm⟩
      have hin : i < n := by omega
      obtain ⟨f1, f2, f3⟩ := filt_turn (k := i) (g := chg p q) (by omega) hD
      have ea : atI (tupOf n p) (0 + (i : Int)) = some (vi (p i)) := by rw [Int.zero_add]; exact atI_nat (tupOf_at hin)
      have eb : atI (tupOf n q) (0 + (i : Int)) = some (vi (q i)) := by rw [Int.zero_add]; exact atI_nat (tupOf_at hin)
      refine ⟨rfl, _, rfl, _, rfl, Sq.ix (.inr (same_sqt sm h2.sa)) ea ⟨_, rfl, _, rfl, Sq.ix (.inr (same_sqt sm h2.sb)) eb ⟨rfl, _, rfl, ?_⟩⟩⟩
      show if (!decide (vi (p i) = vi (q i))) = true then _ else _
      by_cases e : p i = q i
      · rw [decide_eq_true (by rw [e])]
        exact iteF ⟨f3 (by unfold chg; simp [e]), sm⟩
      · rw [decide_eq_false (fun z => e (by injection z with z; omega))]
        exact iteT ⟨_, rfl, _, hD, f1, f2 (by unfold chg; simp [e]) _ (by rw [Int.zero_add]), same_over sm nD⟩
    · rintro H' ⟨hD, sm⟩
      rw [show ((n : Nat) : Int).toNat = n by omega] at hD
      exact ok D H' nD hD sm
end
section
variable {P : Program} {w : World} {K : PySem.W.Frag} {mg : Str → Option Value} {base : Heap}
theorem ok_barr {f fP : Addr} {fd fdP : FuncData} (F : Fun K "barring_nodes" "barring_nodes" sBarr f fd) (kP : Kn P w K mg base 3 "path_of" sPathOf ["forest", "node"] (spPathOf K) fP fdP) : FnOk P w K mg base CX0 4 f fd ["one", "other", "changed"] (spBarr K) := by
  refine F.ok scBarr (fun vs H Q E h => ?_) (fun cdv A outer s H vs Q E hr h => ?_)
  · obtain ⟨a, b, n, p, q, r, x, rfl, _⟩ := h
    rfl
  · obtain ⟨a, b, n, p, q, r, x, rfl, ha, hb, hn, hF, hx, ok⟩ := h
    have hrm : ∀ {j : Nat}, j ≤ 3 → Room j (A.deeper (envOfC "barring_nodes" (defScope sBarr) s.heap.objs.size f cdv)) := fun h => hr.mono h
    refine ⟨_, (pss_cons (ps_set (i := 3) scBarr.nd rfl (.inr rfl) (pe_call kP.G (hrm (by decide)) (by rfl) kP.g kP.F.kp kP.b .nil pass0 (pa_cons (pv 0) (pa_cons (pv 2) pa_nil))))
      (pss_one (ps_ret (pe_lc (own := [("node", 4)]) (g := gName 4) (by rfl) scBarr.nd (pi_list (pe_slice sl_list (pv 3) po_none (po_some (pe_un un_neg pe_int)))) (blkOk_by (own := [("node", 4)]) (N := barrN) (sc := defScope sBarr) (by decide +kernel)) (fun _ _ _ _ _ => (pg_name (i := 4) scBarr.nd rfl (.inl rfl))) (fun _ _ _ _ _ => (pts_one (pt_cmpR op_ne (pe_ix (show IxR _ (rIx K) from ix_seq) (pv 1) (pv 4) (fun _ _ => rfl)) (pe_ix (show IxR _ (rIx K) from ix_seq) (pv 3) (pe_un un_neg pe_int) (fun _ _ => rfl)) (nomark _)))) (fun _ _ _ _ _ => (pv 4)))))), ?_⟩
    refine ⟨_, rfl, _, rfl, a, n, p, r, x, rfl, .inr ha, by omega, hF, hx, fun pt H1 npt hpt s1 => ?_⟩
    refine ⟨_, rfl, 1, rfl, _, rfl, pt, _, rfl, SqL.of hpt, fun sl nsl => ?_⟩
    have s2 := same_new (o := .lst (cutV (natsV (path p n x)) none (some (-1)))) nsl
    rw [path_cut] at s2
    refine ⟨sl, rfl, ⟨_, SqL.of upd_same⟩, fun D nD => ?_⟩
    have hsl : (upd H1 sl (.lst (cutV (natsV (path p n x)) none (some (-1))))) sl = some (.lst (natsV (ups p n x))) := by rw [path_cut]; exact upd_same
    rw [path_cut] at hsl nD ⊢
    generalize hH2 : upd H1 sl (.lst (natsV (ups p n x))) = H2 at s2 nD hsl ⊢
    have s12 := s1.trans s2
    refine lc_list (K := K) (a := sl) (xs := natsV (ups p n x)) (fun i H' => H' D = some (.lst (natsV (((ups p n x).take i).filter fun v => decide (q v ≠ root p n x)))) ∧ Same H2 H') ⟨upd_same, same_new nD⟩ (fun i H' _ h => SqL.of (h.2 _ _ hsl)) ?_ ?_
    · rintro i y H' hy ⟨hD, sm⟩
      have hil : i < (ups p n x).length := by have := (List.getElem?_eq_some_iff.mp hy).1; rwa [natsV_len] at this
      have hyv : y = vi ((ups p n x)[i]) := by
        unfold natsV at hy
        rw [List.getElem?_map, List.getElem?_eq_getElem hil] at hy
        exact (Option.some.inj hy).symm
      subst hyv
      have hv : (ups p n x)[i] < n := (ups_lt hF x hx _ (List.getElem_mem hil)).1
      generalize hvv : (ups p n x)[i] = v at hv
      have tk1 : (ups p n x).take (i + 1) = (ups p n x).take i ++ [v] := by rw [← hvv, List.take_succ, List.getElem?_eq_getElem hil]; rfl
      refine ⟨rfl, _, rfl, _, rfl, Sq.ix (.inr (same_sqt (s12.trans sm) hb)) (atI_nat (tupOf_at hv)) ⟨_, rfl, 1, rfl, Sq.ix (.inl (SqL.of (sm _ _ (s2 _ _ hpt)))) (natsV_last p n x) ⟨rfl, _, rfl, ?_⟩⟩⟩
      show if (!decide (vi (q v) = vi (root p n x))) = true then _ else _
      rw [tk1, List.filter_append]
      by_cases e : q v = root p n x
      · rw [decide_eq_true (by rw [e])]
        refine iteF ⟨?_, sm⟩
        simpa [List.filter, e] using hD
      · rw [decide_eq_false (fun z => e (by injection z with z; omega))]
        refine iteT ⟨_, rfl, _, hD, ?_, ?_, same_over sm nD⟩
        · rw [natsV_len]
          have h1 := List.length_filter_le (fun v => decide (q v ≠ root p n x)) ((ups p n x).take i)
          have h2 := ups_len0 p n x
          rw [List.length_take] at h1
          exact Nat.lt_of_le_of_lt (show _ ≤ 1000 by omega) (by decide)
        · rw [upd_same]
          simp [List.filter, e, natsV]
    · rintro H' ⟨hD, sm⟩
      rw [natsV_len, List.take_length] at hD
      exact ok D H' (sm_none s12 nD) hD (s12.trans sm)
end
section
variable {P : Program} {w : World} {K : PySem.W.Frag} {mg : Str → Option Value} {base : Heap}
theorem okB_bar {f fC fB CS CR : Addr} {fd fdC fdB : FuncData} (F : Fun K "find_bar" "find_bar" sBar f fd) (kC : KnX P w K mg base 5 "changed_nodes" ["one", "other"] (spTwoB K CS CR okChg) fC fdC) (kB : Kn P w K mg base 4 "barring_nodes" sBarr ["one", "other", "changed"] (spBarr K) fB fdB) : FnOk P w K mg base (L2N.CX P w) 6 f fd ["one", "other"] (spTwoB K CS CR okBar) := by
  refine okN F scBar (fun vs H Q E h => ?_) (fun cdv A outer s H vs Q E hr h tk => ?_)
  · obtain ⟨a, b, n, m, p, q, r, r', rfl, _⟩ := h
    rfl
  · obtain ⟨a, b, n, m, p, q, r, r', rfl, h2, h⟩ := h
    have hrm : ∀ {j : Nat}, j ≤ 5 → Room j (A.deeper (envOfC "find_bar" (defScope sBar) s.heap.objs.size f cdv)) := fun h => hr.mono h
    refine ⟨_, (pss_cons (ps_for PassesOwn.leaving rfl (pi_list (pe_call kC.G (hrm (by decide)) (by rfl) kC.g kC.kp kC.b .nil (lookNE tk) (pa_cons (pv 0) (pa_cons (pv 1) pa_nil)))) (pg_name (i := 2) scBar.nd rfl (.inl rfl))
        (pss_cons (ps_set (i := 3) scBar.nd rfl (.inl rfl) (pe_call kB.G (hrm (by decide)) (by rfl) kB.g kB.F.kp kB.b .nil pass0 (pa_cons (pv 0) (pa_cons (pv 1) (pa_cons (pv 2) pa_nil)))))
        (pss_one (ps_if (pt_truth (pv 3) (by intro _; rfl))
          (pss_one (ps_ret (pe_tup (pa_cons (pv 2) (pa_cons (pe_ix (show IxR _ (rIx K) from ix_seq) (pv 3) pe_int (fun _ _ => rfl)) pa_nil))))) pss_nil))))
      (pss_one (ps_ret pe_non))), ?_⟩
    have ln := h2.ln
    refine ⟨_, rfl, _, rfl, a, b, n, m, p, q, r, r', rfl, h2, ?_⟩
    rcases h with h | h | ⟨e, hu, ok⟩
    · exact .inl h
    · exact .inr (.inl h)
    subst e
    refine .inr (.inr ⟨rfl, hu, fun l H1 nl hl s1 => ?_⟩)
    refine ⟨l, rfl, ⟨_, SqL.of hl⟩, ?_⟩
    refine for_list (K := K) (a := l) (xs := natsV (chgL n p q)) (fun i σ H' => (∃ y z, σ = [some (.ref a), some (.ref b), y, z]) ∧ Same H1 H' ∧ ∀ j, j < i → barsOf n p q ((chgL n p q).getD j 0) = []) ⟨⟨_, _, rfl⟩, Same.refl _, fun j hj => by omega⟩ (fun i σ H' _ h => SqL.of (h.2.1 _ _ hl)) ?_ ?_
    · rintro i y σ H' hy ⟨⟨y2, y3, rfl⟩, sm, h0⟩
      obtain ⟨hi, rfl⟩ := nats_get hy
      have hx := chgL_lt (List.getElem_mem hi)
      have s01 := s1.trans sm
      refine ⟨_, rfl, _, rfl, _, rfl, a, b, n, p, q, r, (chgL n p q)[i], rfl, same_sqt s01 h2.sa, same_sqt s01 h2.sb, ln, h2.fa, hx, fun c H2 nc hc s3 => ?_⟩
      refine ⟨_, rfl, _, .inl ⟨_, SqL.of hc, rfl⟩, ?_⟩
      cases hb : barsOf n p q (chgL n p q)[i] with
      | nil =>
        refine iteF ⟨⟨_, _, rfl⟩, sm.trans s3, fun j hj => ?_⟩
        by_cases e : j = i
        · rw [e, List.getD_eq_getElem?_getD, List.getElem?_eq_getElem hi]; exact hb
        · exact h0 j (by omega)
      | cons v rest =>
        rw [hb] at hc
        obtain ⟨rest', hbl⟩ := flat_first (fun x => (barsOf n p q x).map fun v => (x, v)) (b := ((chgL n p q)[i], v)) (r := rest.map fun v => ((chgL n p q)[i], v)) (chgL n p q) i hi (fun j hj => by rw [h0 j hj]; rfl) (by rw [hb]; rfl)
        refine iteT ⟨_, rfl, _, rfl, Sq.ix (.inl (SqL.of hc)) (show atI (natsV (v :: rest)) ((0 : Nat) : Int) = some (vi v) from atI_nat rfl) ⟨by show 2 ≤ sizeLine; decide, fun t nt => ?_⟩⟩
        exact ok.2 _ v rest' hbl t _ (sm_none (s01.trans s3) nt) upd_same ((s01.trans s3).trans (same_new nt))
    · rintro σ H' ⟨_, sm, h0⟩
      rw [natsV_len] at h0
      exact ok.1 (flat_none _ _ fun j hj => by rw [h0 j hj]; rfl) H' (s1.trans sm)
end
section
variable {P : Program} {w : World} {K : PySem.W.Frag} {mg : Str → Option Value} {base : Heap}
theorem okB_isN {f fC fA CS CR CX : Addr} {fd fdC fdA : FuncData} (F : Fun K "is_needed" "is_needed" sIsN f fd) (kC : KnX P w K mg base 5 "changed_nodes" ["one", "other"] (spTwoB K CS CR okChg) fC fdC) (kA : KnX P w K mg base 7 "is_above" ["forest", "one", "other"] (spAboveB K CX) fA fdA) (z_any : mg "any" = none) : FnOk P w K mg base (L2N.CX P w) 8 f fd ["one", "other", "node"] (spIsNB K CS CR) := by
  refine okN F scIsN (fun vs H Q E h => ?_) (fun cdv A outer s H vs Q E hr h tk => ?_)
  · obtain ⟨a, b, n, m, p, q, r, r', x, rfl, _⟩ := h
    rfl
  · obtain ⟨a, b, n, m, p, q, r, r', x, rfl, h2, h⟩ := h
    have hrm : ∀ {j : Nat}, j ≤ 7 → Room j (A.deeper (envOfC "is_needed" (defScope sIsN) s.heap.objs.size f cdv)) := fun h => hr.mono h
    refine ⟨_, (pss_cons (ps_set (i := 3) scIsN.nd rfl (.inl rfl) (pe_call kC.G (hrm (by decide)) (by rfl) kC.g kC.kp kC.b .nil (lookNE tk) (pa_cons (pv 0) (pa_cons (pv 1) pa_nil))))
      (pss_cons (ps_if (pt_cmpR (show OpR _ (compareOp .NotIn) (rIn K true) from op_notIn_seq) (pv 2) (pv 3) (by rfl))
        (pss_one (ps_ret pe_bl)) pss_nil)
      (pss_one (ps_ret (pe_not (pe_callB (cr_any rfl) (by rfl) z_any (by decide +kernel) (pa_cons (pe_lc (own := [("low", 4)]) (g := gName 4) (by rfl) scIsN.nd (pi_list (pv 3)) (blkOk_by (own := [("low", 4)]) (N := isNN) (sc := defScope sIsN) (by decide +kernel)) (fun _ _ _ _ _ => (pg_name (i := 4) scIsN.nd rfl (.inl rfl))) (fun _ _ _ _ _ => pts_nil) (fun _ _ _ _ _ => (pe_call (fn_noE kA.G) (hrm (by decide)) (by rfl) kA.g kA.kp kA.b .nil pass0 (pa_cons (pv 0) (pa_cons (pv 2) (pa_cons (pv 4) pa_nil)))))) pa_nil))))))), ?_⟩
    have ln := h2.ln
    refine ⟨_, rfl, _, rfl, a, b, n, m, p, q, r, r', rfl, h2, ?_⟩
    rcases h with h | h | ⟨e, hu, ok⟩
    · exact .inl h
    · exact .inr (.inl h)
    subst e
    refine .inr (.inr ⟨rfl, hu, fun l H1 nl hl s1 => ?_⟩)
    have ro := unl_nil hu
    refine ⟨_, rfl, _, rfl, l, _, rfl, .inl (SqL.of hl), rfl, flat_nats _, _, rfl, ?_⟩
    show if (!inV (.int x) (natsV (chgL n p q))) = true then _ else _
    rw [inV_int]
    cases e : (chgL n p q).any fun u => decide (x = (u : Int)) with
    | false =>
      have hf : needZ n p q x = false := by
        unfold needZ
        by_cases hx : 0 ≤ x ∧ x < (n : Int)
        · have := List.any_eq_false.mp e x.toNat
          have hc : chg p q x.toNat = false := by
            cases hc : chg p q x.toNat with
            | false => rfl
            | true =>
              have z := this (List.mem_filter.mpr ⟨List.mem_range.mpr (by omega), hc⟩)
              simp at z
              omega
          unfold needB
          rw [hc]; simp
        · rw [decide_eq_false hx]; rfl
      rw [hf] at ok
      exact iteT (ok H1 s1)
    | true =>
      obtain ⟨u, hu', e2⟩ := List.any_eq_true.mp e
      have ex : x = (u : Int) := of_decide_eq_true e2
      subst ex
      have hun := chgL_lt hu'
      have huc := (List.mem_filter.mp hu').2
      refine iteF ⟨_, rfl, l, rfl, ⟨_, SqL.of hl⟩, fun D nD => ?_⟩
      refine lc_list (K := K) (a := l) (xs := natsV (chgL n p q)) (fun i H' => H' D = some (.lst ((((chgL n p q).take i).map fun v => decide (u ≠ v) && decide (u ∈ path p n v)).map V.bl)) ∧ Same H1 H') ⟨upd_same, same_new nD⟩ (fun i H' _ h => SqL.of (h.2 _ _ hl)) ?_ ?_
      · rintro i y H' hy ⟨hD, sm⟩
        obtain ⟨hi, rfl⟩ := nats_get hy
        have hx := chgL_lt (List.getElem_mem hi)
        have tk1 : (chgL n p q).take (i + 1) = (chgL n p q).take i ++ [(chgL n p q)[i]] := by rw [List.take_succ, List.getElem?_eq_getElem hi]; rfl
        have hl2 := chgL_len n p q
        generalize (chgL n p q)[i] = v at hx tk1
        refine ⟨rfl, ?_⟩
        refine ⟨_, rfl, _, rfl, _, rfl, a, n, p, r, _, _, [u, v], rfl, same_sqt (s1.trans sm) h2.sa, by omega, h2.fa, by simp [hun, hx], .inl ⟨rfl, fun u0 v0 e0 H3 s3 => ?_⟩⟩
        obtain ⟨rfl, rfl⟩ : u = u0 ∧ v = v0 := by
          injection e0 with e1 e2
          injection e2 with e2 _
          exact ⟨e1, e2⟩
        refine ⟨_, s3 _ _ hD, ?_, ?_, same_over (sm.trans s3) nD⟩
        · rw [List.length_map, List.length_map, List.length_take]
          exact Nat.lt_of_le_of_lt (show _ ≤ 1000 by omega) (by decide)
        · rw [upd_same, tk1, List.map_append, List.map_append]; rfl
      · rintro H' ⟨hD, sm⟩
        rw [natsV_len, List.take_length] at hD
        refine ⟨D, _, rfl, SqL.of hD, _, rfl, ?_⟩
        have hz : needZ n p q u = needB n p q u := by
          unfold needZ
          rw [decide_eq_true (by omega)]; rfl
        rw [need_any h2.fa ro hun huc, ← hz]
        exact ok H' (s1.trans sm)
end
section
variable {P : Program} {w : World} {K : PySem.W.Frag} {mg : Str → Option Value} {base : Heap}
theorem okB_need {f fF fI CS CR CN : Addr} {fd fdF fdI : FuncData} (F : Fun K "needed_finds" "needed_finds" sNeed f fd) (kF : KnX P w K mg base 6 "find_bar" ["one", "other"] (spTwoB K CS CR okBar) fF fdF) (kI : KnX P w K mg base 8 "is_needed" ["one", "other", "node"] (spIsNB K CS CR) fI fdI) (T : Tx mg) (RN : Raisable P w K mg base 2 "NoWay" CN "node" "NoWay") : FnOk P w K mg base (L2N.CX P w) 9 f fd ["one", "other"] (spTwoB K CS CR (okNeed CN)) := by
  refine okN F scNeed (fun vs H Q E h => ?_) (fun cdv A outer s H vs Q E hr h tk => ?_)
  · obtain ⟨a, b, n, m, p, q, r, r', rfl, _⟩ := h
    rfl
  · obtain ⟨a, b, n, m, p, q, r, r', rfl, h2, h⟩ := h
    have hrm : ∀ {j : Nat}, j ≤ 8 → Room j (A.deeper (envOfC "needed_finds" (defScope sNeed) s.heap.objs.size f cdv)) := fun h => hr.mono h
    refine ⟨_, (pss_cons (ps_set (i := 2) scNeed.nd rfl (.inl rfl) (pe_call kF.G (hrm (by decide)) (by rfl) kF.g kF.kp kF.b .nil (lookNE tk) (pa_cons (pv 0) (pa_cons (pv 1) pa_nil))))
      (pss_cons (ps_if (pt_cmpR op_notN (pv 2) pe_non (nomark _))
        (pss_one (L2N.ps_raise rfl tk (pmk_err RN (hrm (by decide)) (by rfl) (pe_ix (show IxR _ (rIx K) from ix_seq) (pv 2) pe_int (fun _ _ => rfl))))) pss_nil)
      (pss_one (ps_ret (pe_lc (own := [("node", 3)]) (g := gName 3) (by rfl) scNeed.nd (pi_range1 (by rfl) T.range (pa_cons (pe_callB call_len_seq (by rfl) T.len PySem.boot_len (pa_cons (pv 0) pa_nil)) pa_nil)) (blkOk_by (own := [("node", 3)]) (N := needN) (sc := defScope sNeed) (by decide +kernel)) (fun _ _ _ _ _ => (pg_name (i := 3) scNeed.nd rfl (.inl rfl))) (fun _ _ _ _ _ => (pts_one (pt_val (pe_call (fn_noE kI.G) (hrm (by decide)) (by rfl) kI.g kI.kp kI.b .nil pass0 (pa_cons (pv 0) (pa_cons (pv 1) (pa_cons (pv 3) pa_nil))))))) (fun _ _ _ _ _ => (pv 3))))))), ?_⟩
    have ln := h2.ln
    refine ⟨_, rfl, _, rfl, a, b, n, m, p, q, r, r', rfl, h2, ?_⟩
    rcases h with h | h | ⟨e, hu, ok⟩
    · exact .inl h
    · exact .inr (.inl h)
    subst e
    refine .inr (.inr ⟨rfl, hu, ?_, ?_⟩)
    · intro hb H1 s1
      refine ⟨_, rfl, rfl, _, rfl, ?_⟩
      refine iteF ⟨_, rfl, a, _, rfl, .inr (same_sqt s1 h2.sa), _, rfl, by rw [tupOf_len]; omega, by rw [tupOf_len]; omega, fun D nD => ?_⟩
      rw [tupOf_len]
      refine lc_range (lo := 0) (n := ((n : Nat) : Int).toNat) (fun i H' => H' D = some (.lst (natsV ((List.range i).filter (needB n p q)))) ∧ Same H1 H') ⟨upd_same, same_new nD⟩ ?_ ?_
      · rintro i H' hi ⟨hD, sm⟩
        have hin : i < n := by omega
        refine ⟨rfl, ?_⟩
        refine ⟨_, rfl, _, rfl, _, rfl, a, b, n, n, p, q, r, r', _, rfl, h2.same (s1.trans sm), .inr (.inr ⟨rfl, hu, fun H3 s3 => ?_⟩)⟩
        obtain ⟨f1, f2, f3⟩ := filt_turn (k := i) (g := needB n p q) (by omega) (s3 _ _ hD)
        refine ⟨_, rfl, ?_⟩
        have hz : needZ n p q (0 + (i : Int)) = needB n p q i := by
          unfold needZ
          rw [decide_eq_true (by omega), Int.zero_add]; rfl
        rw [hz]
        cases e : needB n p q i with
        | false => exact iteF ⟨f3 e, sm.trans s3⟩
        | true => exact iteT ⟨_, rfl, _, s3 _ _ hD, f1, f2 e _ (by rw [Int.zero_add]), same_over (sm.trans s3) nD⟩
      · rintro H' ⟨hD, sm⟩
        rw [show ((n : Nat) : Int).toNat = n by omega] at hD
        exact ok.1 hb D H' (sm_none s1 nD) hD (s1.trans sm)
    · intro x v rest hb t H1 nt ht s1
      refine ⟨_, rfl, rfl, _, rfl, ?_⟩
      have hx : x < n := by
        have hm : (x, v) ∈ barL n p q := by rw [hb]; exact List.mem_cons_self
        obtain ⟨u', hu'', hv'⟩ := List.mem_flatMap.mp hm
        obtain ⟨v', hv1, e2⟩ := List.mem_map.mp hv'
        injection e2 with e2 e3
        rw [← e2]; exact chgL_lt hu''
      exact iteT ⟨_, rfl, Sq.ix (.inr (SqT.of ht)) rfl ⟨_, rfl, prt_vi (by omega), (ok.2 x v rest hb).same s1⟩⟩
end
section
variable {P : Program} {w : World} {K : PySem.W.Frag} {mg : Str → Option Value} {base : Heap}
theorem okB_wcost {f fN fT CS CR CN : Addr} {fd fdN fdT : FuncData} (F : Fun K "way_cost" "way_cost" sWCost f fd) (kN : KnX P w K mg base 9 "needed_finds" ["one", "other"] (spTwoB K CS CR (okNeed CN)) fN fdN) (kT : Kn P w K mg base 5 "total_cost" sTotal ["forest", "nodes"] (spTotal K) fT fdT) : FnOk P w K mg base (L2N.CX P w) 10 f fd ["one", "other"] (spTwoB K CS CR (okWCost CN)) := by
  refine okN F scWCost (fun vs H Q E h => ?_) (fun cdv A outer s H vs Q E hr h tk => ?_)
  · obtain ⟨a, b, n, m, p, q, r, r', rfl, _⟩ := h
    rfl
  · obtain ⟨a, b, n, m, p, q, r, r', rfl, h2, h⟩ := h
    have hrm : ∀ {j : Nat}, j ≤ 9 → Room j (A.deeper (envOfC "way_cost" (defScope sWCost) s.heap.objs.size f cdv)) := fun h => hr.mono h
    refine ⟨_, (pss_one (ps_ret (pe_call kT.G (hrm (by decide)) (by rfl) kT.g kT.F.kp kT.b .nil pass0 (pa_cons (pv 0) (pa_cons (pe_call kN.G (hrm (by decide)) (by rfl) kN.g kN.kp kN.b .nil (lookNE tk) (pa_cons (pv 0) (pa_cons (pv 1) pa_nil))) pa_nil))))), ?_⟩
    have ln := h2.ln
    refine ⟨_, rfl, _, rfl, _, rfl, a, b, n, m, p, q, r, r', rfl, h2, h.imp fun ok => ⟨fun hb l H1 nl hl s1 => ?_, ok.2⟩⟩
    have := needS_len n p q
    exact ⟨a, l, n, p, r, _, rfl, .inr (same_sqt s1 h2.sa), SqL.of hl, ln, by omega, h2.fa, fun x hx => (needS_mem.mp hx).1, fun H2 s2 => ok.1 hb H2 (s1.trans s2)⟩
end
section
variable {P : Program} {w : World} {K : PySem.W.Frag} {mg : Str → Option Value} {base : Heap}
theorem ok_flat {f fO : Addr} {fd fdO : FuncData} (F : Fun K "flattened" "flattened" sFlat f fd) (kO : Kn P w K mg base 4 "root_of" sRootOf ["forest", "node"] (spRootOf K) fO fdO) (T : Tx mg) : FnOk P w K mg base CX0 5 f fd ["forest"] (spFlat K) := by
  refine F.ok scFlat (fun vs H Q E h => ?_) (fun cdv A outer s H vs Q E hr h => ?_)
  · obtain ⟨a, n, p, r, rfl, _⟩ := h
    rfl
  · obtain ⟨a, n, p, r, rfl, ha, hn, hF, ok⟩ := h
    have hrm : ∀ {j : Nat}, j ≤ 4 → Room j (A.deeper (envOfC "flattened" (defScope sFlat) s.heap.objs.size f cdv)) := fun h => hr.mono h
    refine ⟨_, (pss_one (ps_ret (pe_callTy call_tuple_of (by rfl) T.tuple (by decide +kernel) (pa_cons (pe_lc (own := [("node", 1)]) (g := gName 1) (by rfl) scFlat.nd (pi_range1 (by rfl) T.range (pa_cons (pe_callB call_len_seq (by rfl) T.len PySem.boot_len (pa_cons (pv 0) pa_nil)) pa_nil)) (blkOk_by (own := [("node", 1)]) (N := flatN) (sc := defScope sFlat) (by decide +kernel)) (fun _ _ _ _ _ => (pg_name (i := 1) scFlat.nd rfl (.inl rfl))) (fun _ _ _ _ _ => pts_nil) (fun _ _ _ _ _ => (pe_call kO.G (hrm (by decide)) (by rfl) kO.g kO.F.kp kO.b .nil pass0 (pa_cons (pv 0) (pa_cons (pv 1) pa_nil))))) pa_nil)))), ?_⟩
    refine ⟨_, rfl, a, _, rfl, .inr ha, _, rfl, by rw [tupOf_len]; omega, by rw [tupOf_len]; omega, fun D nD => ?_⟩
    rw [tupOf_len]
    refine lc_range (lo := 0) (n := ((n : Nat) : Int).toNat) (fun i H' => H' D = some (.lst (tupOf i fun v => root p n v)) ∧ Same H H') ⟨upd_same, same_new nD⟩ ?_ ?_
    · rintro i H' hi ⟨hD, sm⟩
      have hin : i < n := by omega
      refine ⟨rfl, ?_⟩
      refine ⟨_, rfl, _, rfl, a, n, p, r, i, ?_, .inr (same_sqt sm ha), by omega, hF, hin, fun H3 s3 => ?_⟩
      · show [V.ref a, V.int (0 + (i : Int))] = [V.ref a, V.int (i : Int)]
        rw [Int.zero_add]
      refine ⟨_, s3 _ _ hD, by rw [tupOf_len]; exact Nat.lt_of_le_of_lt (show i ≤ 1000 by omega) (by decide), ?_, same_over (sm.trans s3) nD⟩
      rw [upd_same]
      unfold tupOf
      rw [List.range_succ, List.map_append]; rfl
    · rintro H' ⟨hD, sm⟩
      rw [show ((n : Nat) : Int).toNat = n by omega] at hD
      exact ⟨D, _, rfl, .inl ⟨SqL.of hD, fun t nt => ok t _ (sm_none sm nt) upd_same (sm.trans (same_new nt))⟩⟩
end
theorem Pair.two {K : PySem.W.Frag} {H : Hp} {a b : Addr} {n : Nat} {p q r r' : Nat → Nat} (h : Pair K H a b n p q r r') : Two K H a b n n p q r r' := ⟨h.sa, h.sb, h.le, h.le, h.fa, h.fb⟩
theorem need_plain {K : PySem.W.Frag} {CS CR CN : Addr} (vs : List V) (H : Hp) (Q : VK) (E : XK) (h : spNeeded K vs H Q E) : spTwoB K CS CR (okNeed CN) vs H Q (fun _ _ _ => False) := by
  obtain ⟨a, b, n, p, q, r, r', rfl, h2, W, ok⟩ := h
  exact ⟨a, b, n, n, p, q, r, r', rfl, h2.two, .inr (.inr ⟨rfl, unl_of h2.ro, fun _ => ok, fun x v rest hb => by rw [(barL_way h2.fa).mpr W] at hb; cases hb⟩)⟩
theorem wcost_plain {K : PySem.W.Frag} {CS CR CN : Addr} (vs : List V) (H : Hp) (Q : VK) (E : XK) (h : spWayCost K vs H Q E) : spTwoB K CS CR (okWCost CN) vs H Q (fun _ _ _ => False) := by
  obtain ⟨a, b, n, p, q, r, r', rfl, h2, W, ok⟩ := h
  exact ⟨a, b, n, n, p, q, r, r', rfl, h2.two, .inr (.inr ⟨rfl, unl_of h2.ro, fun _ => ok, fun x v rest hb => by rw [(barL_way h2.fa).mpr W] at hb; cases hb⟩)⟩
theorem bar_plain {K : PySem.W.Frag} {CS CR : Addr} (vs : List V) (H : Hp) (Q : VK) (E : XK) (h : spBar K vs H Q E) : spTwoB K CS CR okBar vs H Q (fun _ _ _ => False) := by
  obtain ⟨a, b, n, p, q, r, r', rfl, h2, ok1, ok2⟩ := h
  refine ⟨a, b, n, n, p, q, r, r', rfl, h2.two, .inr (.inr ⟨rfl, unl_of h2.ro, fun hb => ok1 ((barL_way h2.fa).mp hb), fun x v rest hb t H' nt ht s => ok2 (fun W => ?_) t x v H' ht s⟩)⟩
  rw [(barL_way h2.fa).mpr W] at hb; cases hb
section
variable {P : Program} {w : World} {K : PySem.W.Frag} {mg : Str → Option Value} {base : Heap}
theorem out_no {X : Cx} {kk : Nat} {D : Lam X kk} {f C CF CM : Addr} {σ : L2.St} {H : Hp} {Q : VK} {x fld tag : Str} {v : V} {lv : Nat} (R : Raisable P w K mg base lv x C fld tag) (hex : PySem.W.exmAny K (.ref C) [.ref CF, .ref CM] = some true) (tg : TagOk tag fld) (hA : D.At f H)
    (hc : ∀ Ha E, Same H Ha → Flies Ha E C fld tag v → D.tb E σ Ha fun _ _ => False) (q : ∀ t H2, H t = none → Same H H2 → H2 t = some (.tup [.non, .str tag, v]) → Q (.ref t) H2) : TTout K CF CM (D.does f σ) H Q := by
  intro Ha sa
  refine ⟨fun cls d H1 => cls = .ref C ∧ ∃ dd, d = some dd ∧ H1 dd = some (.xd [(fld, v), ("tag", .str tag)]) ∧ Same Ha H1, fun _ _ => False, ⟨D.same hA (same_ext sa), hc Ha _ sa fun dd H1 n1 h1 s1 => ⟨rfl, dd, rfl, h1, s1⟩⟩, ?_, fun _ _ h => h.elim⟩
  rintro cls d H1 ⟨rfl, dd, rfl, hdd, s1⟩
  exact ⟨hex, tag, fld, v, ⟨C, dd, rfl, R.xf, R.nt, R.nf, rfl, hdd⟩, tg, fun t H2 n s2 e => q t H2 (sm_none (sa.trans s1) n) ((sa.trans s1).trans s2) e⟩
end
section
variable {P : Program} {w : World} {K : PySem.W.Frag} {mg : Str → Option Value} {base : Heap}
theorem out_yes {X : Cx} {kk : Nat} {D : Lam X kk} {f CF CM : Addr} {σ : L2.St} {H : Hp} {Q : VK} (Q1 : Hp → VK) (hA : D.At f H) (hc : ∀ Ha, Same H Ha → D.tb (fun _ _ _ => False) σ Ha (Q1 Ha))
    (q : ∀ Ha v H1, Same H Ha → Q1 Ha v H1 → ∀ t H2, H1 t = none → Same H1 H2 → H2 t = some (.tup [v, .str "", .non]) → Q (.ref t) H2) : TTout K CF CM (D.does f σ) H Q := by
  intro Ha sa
  exact ⟨fun _ _ _ => False, Q1 Ha, ⟨D.same hA (same_ext sa), hc Ha sa⟩, fun _ _ _ h => h.elim, fun v H1 h t H2 n s2 e => q Ha v H1 sa h t H2 n s2 e⟩
end
section
variable {P : Program} {w : World} {K : PySem.W.Frag} {mg : Str → Option Value} {base : Heap}
/-- what is asked answers -/
theorem ask_yes {X : Cx} {kk : Nat} {D : Lam X kk} {f CF CM : Addr} {σ : L2.St} {H : Hp} {Q : VK} (hA : D.At f H) (hc : ∀ Ha, Same H Ha → D.tb (fun _ _ _ => False) σ Ha fun _ H1 => Same Ha H1)
    (q : ∀ t H2, H t = none → Same H H2 → H2 t = some (.tup [.str "", .non]) → Q (.ref t) H2) : TTerr K CF CM (D.does f σ) H Q := by
  intro Ha sa
  exact ⟨fun _ _ _ => False, fun _ H1 => Same Ha H1, ⟨D.same hA (same_ext sa), hc Ha sa⟩, fun _ _ _ h => h.elim, fun v H1 h t H2 n s2 e => q t H2 (sm_none (sa.trans h) n) ((sa.trans h).trans s2) e⟩
end
section
variable {P : Program} {w : World} {K : PySem.W.Frag} {mg : Str → Option Value} {base : Heap}
/-- a list of lambdas, each answering -/
theorem asks_yes {X : Cx} {kk j : Nat} (σ : L2.St) {H : Hp} {CF CM la D : Addr} (fs : List Addr) {Qd : Hp → Prop} (hl : H la = some (.lst (fs.map V.ref))) (nD : H D = none) (hj : j < σ.length) (hm : fs.length ≤ 1000)
    (hf : ∀ f ∈ fs, ∃ L : Lam X kk, L.At f H ∧ ∀ Ha, Same H Ha → L.tb (fun _ _ _ => False) σ Ha fun _ H1 => Same Ha H1)
    (q : ∀ (ts : List Addr) H1, ts.length = fs.length → H1 D = some (.lst (ts.map V.ref)) → (∀ t ∈ ts, H1 t = some (.tup [.str "", .non])) → Same H H1 → Qd H1) :
    ∃ W : Nat → Nat → Hp → Prop, (∃ m, W 0 m (upd H D (.lst []))) ∧ ∀ i m H, W i m H →
      ((Itl K la).stop i H ∧ Qd H) ∨ ((Itl K la).go i H ∧ ∃ Nx : Hp → Prop, (∀ H', Nx H' → ∃ m', m' < m ∧ W (i + 1) m' H') ∧ ∀ x H', (Itl K la).yld i H x H' → gName j x (wipe σ [j]) H' fun σ2 H2 => wipe σ2 [j] = wipe σ [j] ∧ tYes σ2 H2 fun b H3 =>
        if b = true then (∃ (f : Addr) (L : Lam X kk), σ2[j]? = some (some (.ref f)) ∧ TTerr K CF CM (L.does f σ) H3 fun y H4 => ∃ acc, H4 D = some (.lst acc) ∧ acc.length < sizeLine ∧ Nx (upd H4 D (.lst (acc ++ [y])))) else Nx H3) := by
  refine lc_list (K := K) (a := la) (xs := fs.map V.ref) (g := gName j) (tt := tYes) (te := fun σ1 H1 Q => ∃ (f : Addr) (D : Lam X kk), σ1[j]? = some (some (.ref f)) ∧ TTerr K CF CM (D.does f σ) H1 Q) (vs := [j]) (σ := σ) (Qd := Qd) (fun i H1 => ∃ ts : List Addr, ts.length = i ∧ H1 D = some (.lst (ts.map V.ref)) ∧ (∀ t ∈ ts, H1 t = some (.tup [.str "", .non])) ∧ Same H H1)
    ⟨[], rfl, upd_same, by simp, same_new nD⟩ (fun i H1 _ h => h.elim fun ts h => SqL.of (h.2.2.2 _ _ hl)) ?_ ?_
  · rintro k y H1 hy ⟨ts, hlen, hD, hts, s1⟩
    rw [List.getElem?_map] at hy
    obtain ⟨f, hff, rfl⟩ := Option.map_eq_some_iff.mp hy
    obtain ⟨L, hA, hc⟩ := hf f (List.mem_of_getElem? hff)
    have hk : k < fs.length := (List.getElem?_eq_some_iff.mp hff).1
    refine ⟨wipe_one, f, L, List.getElem?_set_self (by rw [wipe_length]; exact hj), ?_⟩
    refine ask_yes (L.same hA (same_ext s1)) (fun Ha sa => hc Ha (s1.trans sa)) fun t H2 nt s2 e => ?_
    have nDt : t ≠ D := (ne_of_none hD nt).symm
    refine ⟨_, s2 _ _ hD, by rw [List.length_map, hlen]; exact Nat.lt_of_le_of_lt (show k ≤ 1000 by omega) (by decide), ts ++ [t], by rw [List.length_append, hlen]; rfl, by rw [upd_same, List.map_append]; rfl, fun t2 h2 => ?_, same_over (s1.trans s2) nD⟩
    rcases List.mem_append.mp h2 with h2 | h2
    · have e2 := hts t2 h2
      rw [upd_ne (ne_of e2 hD (by intro z; cases z))]
      exact s2 _ _ e2
    · rw [List.mem_singleton.mp h2, upd_ne nDt]
      exact e
  · rintro H1 ⟨ts, hlen, hD, hts, s1⟩
    rw [List.length_map] at hlen
    exact q ts H1 hlen hD hts s1
end
section
variable {P : Program} {w : World} {K : PySem.W.Frag} {mg : Str → Option Value} {base : Heap}
/-- the same tuple many times, as data -/
def dReps (m : Nat) (d : PyData) : PyData := .list (List.replicate m d)
end
section
variable {P : Program} {w : World} {K : PySem.W.Frag} {mg : Str → Option Value} {base : Heap}
theorem dp_reps {H : Hp} {xs : List V} {ds : List PyData} (hd : DpAll K H xs ds) : ∀ {ts : List Addr}, (∀ t ∈ ts, H t = some (.tup xs)) → DpAll K H (ts.map V.ref) (List.replicate ts.length (.tuple ds))
  | [], _ => .nil
  | t :: r, h => .cons (.tup (SqT.of (h t List.mem_cons_self)) hd) (dp_reps hd fun u hu => h u (List.mem_cons_of_mem _ hu))
end
section
variable {P : Program} {w : World} {K : PySem.W.Frag} {mg : Str → Option Value} {base : Heap}
theorem shaped_reps {m : Nat} {tag : Str} (h : PyData.strOk tag = true) (hm : m ≤ 8) {d : PyData} (hd : d = .none ∨ ∃ z, d = .int z) : SeqAt.shaped (dReps m (.tuple [.str tag, d])) = true := by
  unfold SeqAt.shaped dReps
  have e : ∀ m, PyData.canLayAll0 (List.replicate m (.tuple [.str tag, d])) = true ∧ PyData.depthAll (List.replicate m (.tuple [.str tag, d])) ≤ 2 := by
    intro m
    induction m with
    | zero => exact ⟨by simp [PyData.canLayAll0], by simp [PyData.depthAll]⟩
    | succ m ih =>
      obtain ⟨i1, i2⟩ := ih
      rw [List.replicate_succ]
      refine ⟨?_, ?_⟩
      · rcases hd with rfl | ⟨z, rfl⟩ <;> simp [PyData.canLay0, PyData.canLayAll0, h, i1]
      · rcases hd with rfl | ⟨z, rfl⟩ <;> (rw [PyData.depthAll]; simp only [PyData.depth, PyData.depthAll]; omega)
  obtain ⟨e1, e2⟩ := e m
  simp [PyData.canLay0, PyData.depth, e1]
  omega
end
/-- one given by its place, one by its keyword -/
def swA {α : Type} : List α → List α → List α
  | [a], [b] => [a, b]
  | _, _ => []
theorem swA_rel {vs : List V} {us : List Value} {zs : List V} {ws : List Value} (r : Vals vs us) (s : Vals zs ws) : Vals (swA vs zs) (swA us ws) := by
  cases r with
  | nil => exact .nil
  | cons h1 t1 =>
    cases t1 with
    | cons _ _ => exact .nil
    | nil =>
      cases s with
      | nil => exact .nil
      | cons h2 t2 =>
        cases t2 with
        | nil => exact .cons h1 (.cons h2 .nil)
        | cons _ _ => exact .nil
theorem fun_swA {K : PySem.W.Frag} {x qual : Str} {st : Stmt} {f : Addr} {fd : FuncData} {a b : Str} (F : Fun K x qual st f fd)
    (h : ∀ (kV doc pm : Value) (an : Option Addr) (cdv ct : Value) (u v : Value), bindArgs (PySem.W.fnOf x qual (defArgs st) (defBody st) (defScope st) .none kV doc pm an cdv ct) ⟨[u], [(b, v)]⟩ = pure [(a, u), (b, v)]) : KBinds K fd [a, b] [b] swA swA := by
  obtain ⟨oc, od, kV, doc, pm, an, cdv, ct, osl, rfl, lk, hcd⟩ := F.ex
  refine ⟨fun s us ws _ hl => ?_, swA_rel⟩
  match us, ws, hl with
  | [u], [v], _ => exact .of_eq (h kV doc pm an cdv ct u v)
end Ff

namespace Ff
open PySem PySem.Spec PyProof.Rows L2 ExX LamX
abbrev sE_TooManyNodes : Stmt := topS 6
theorem scE_TooManyNodes : FnScope ["self", "limit"] ["self", "limit"] (defScope (initS sE_TooManyNodes)) := ⟨rfl, rfl, rfl, by decide +kernel, rfl, by decide +kernel, by decide +kernel⟩
abbrev sE_BadParent : Stmt := topS 4
theorem scE_BadParent : FnScope ["self", "node"] ["self", "node"] (defScope (initS sE_BadParent)) := ⟨rfl, rfl, rfl, by decide +kernel, rfl, by decide +kernel, by decide +kernel⟩
abbrev sE_Cycle : Stmt := topS 5
theorem scE_Cycle : FnScope ["self", "node"] ["self", "node"] (defScope (initS sE_Cycle)) := ⟨rfl, rfl, rfl, by decide +kernel, rfl, by decide +kernel, by decide +kernel⟩
abbrev sE_SizesDiffer : Stmt := topS 9
theorem scE_SizesDiffer : FnScope ["self", "size"] ["self", "size"] (defScope (initS sE_SizesDiffer)) := ⟨rfl, rfl, rfl, by decide +kernel, rfl, by decide +kernel, by decide +kernel⟩
abbrev sE_RootsDiffer : Stmt := topS 10
theorem scE_RootsDiffer : FnScope ["self", "node"] ["self", "node"] (defScope (initS sE_RootsDiffer)) := ⟨rfl, rfl, rfl, by decide +kernel, rfl, by decide +kernel, by decide +kernel⟩
abbrev sE_NoWay : Stmt := topS 11
theorem scE_NoWay : FnScope ["self", "node"] ["self", "node"] (defScope (initS sE_NoWay)) := ⟨rfl, rfl, rfl, by decide +kernel, rfl, by decide +kernel, by decide +kernel⟩
abbrev sE_NoNode : Stmt := topS 19
theorem scE_NoNode : FnScope ["self", "node"] ["self", "node"] (defScope (initS sE_NoNode)) := ⟨rfl, rfl, rfl, by decide +kernel, rfl, by decide +kernel, by decide +kernel⟩
section
variable {P : Program} {w : World} {K : PySem.W.Frag} {mg : Str → Option Value} {base : Heap}
theorem ok_E_TooManyNodes {f fM CM : Addr} {fd fdM : FuncData} (F : Fun K "__init__" "TooManyNodes.__init__" (initS sE_TooManyNodes) f fd) (TM : ClsI K CM fM) (gM : mg "ForestError" = some (.ref CM)) (GM : FnOk P w K mg base CX0 1 fM fdM ["self", "tag", "message"] (spTop K "ValueError.__new__" vaTail)) (bM : Binds K fdM ["self", "tag", "message"] []) :
    FnOk P w K mg base CX0 2 f fd ["self", "limit"] (spErrI K "ValueError.__new__" vaTail "limit" "TooManyNodes") := by
  refine F.ok scE_TooManyNodes (fun vs H Q E h => ?_) (fun cdv A outer s H vs Q E hr h => ?_)
  · obtain ⟨a, C, v, rfl, _⟩ := h
    rfl
  · obtain ⟨a, C, v, rfl, ⟨i, rfl, hi⟩, ha, T, nt, nf, q⟩ := h
    refine ⟨_, pss_cons (ps_expr (pe_ci TM GM hr (by rfl) gM bM pass0 (pa_cons (pv 0) (pa_cons pe_str (pa_cons (pe_joined (.cons pe_str (.cons (pe_fmt (pv 1)) (.cons pe_str .nil)))) pa_nil)))))
      (pss_one (ps_st (nid := "ValueError.__new__") PySem.F.store_ValueError (pv 0) (pv 1))), ?_⟩
    have f0 : (Str.empty ++ Str.ofString "there are more than ").length ≤ 100 := by decide +kernel
    have f1 : (Str.ofString " nodes").length ≤ 100 := by decide +kernel
    have l1 := fits_cat f0 (txt_int hi)
    refine ⟨_, rfl, ⟨_, rfl, fits (by omega), _, rfl, .inr ⟨i, rfl, hi, _, rfl, fits (Nat.le_trans l1 (by decide)), _, rfl, fits (Nat.le_trans (fits_cat l1 f1) (by decide)), ?_⟩⟩⟩
    refine ⟨a, C, _, _, rfl, ha, T, nt, fun dx n ne => ⟨_, rfl, _, rfl, a, C, rfl, T, nf, .inr ⟨dx, _, upd_same, ?_, by show 1 ≤ 900; decide, q dx n ne⟩⟩⟩
    rw [upd_ne ne, upd_same]
theorem ok_E_BadParent {f fM CM : Addr} {fd fdM : FuncData} (F : Fun K "__init__" "BadParent.__init__" (initS sE_BadParent) f fd) (TM : ClsI K CM fM) (gM : mg "ForestError" = some (.ref CM)) (GM : FnOk P w K mg base CX0 1 fM fdM ["self", "tag", "message"] (spTop K "ValueError.__new__" vaTail)) (bM : Binds K fdM ["self", "tag", "message"] []) :
    FnOk P w K mg base CX0 2 f fd ["self", "node"] (spErrI K "ValueError.__new__" vaTail "node" "BadParent") := by
  refine F.ok scE_BadParent (fun vs H Q E h => ?_) (fun cdv A outer s H vs Q E hr h => ?_)
  · obtain ⟨a, C, v, rfl, _⟩ := h
    rfl
  · obtain ⟨a, C, v, rfl, ⟨i, rfl, hi⟩, ha, T, nt, nf, q⟩ := h
    refine ⟨_, pss_cons (ps_expr (pe_ci TM GM hr (by rfl) gM bM pass0 (pa_cons (pv 0) (pa_cons pe_str (pa_cons (pe_joined (.cons pe_str (.cons (pe_fmt (pv 1)) (.cons pe_str .nil)))) pa_nil)))))
      (pss_one (ps_st (nid := "ValueError.__new__") PySem.F.store_ValueError (pv 0) (pv 1))), ?_⟩
    have f0 : (Str.empty ++ Str.ofString "the parent of node ").length ≤ 100 := by decide +kernel
    have f1 : (Str.ofString " is no node").length ≤ 100 := by decide +kernel
    have l1 := fits_cat f0 (txt_int hi)
    refine ⟨_, rfl, ⟨_, rfl, fits (by omega), _, rfl, .inr ⟨i, rfl, hi, _, rfl, fits (Nat.le_trans l1 (by decide)), _, rfl, fits (Nat.le_trans (fits_cat l1 f1) (by decide)), ?_⟩⟩⟩
    refine ⟨a, C, _, _, rfl, ha, T, nt, fun dx n ne => ⟨_, rfl, _, rfl, a, C, rfl, T, nf, .inr ⟨dx, _, upd_same, ?_, by show 1 ≤ 900; decide, q dx n ne⟩⟩⟩
    rw [upd_ne ne, upd_same]
theorem ok_E_Cycle {f fM CM : Addr} {fd fdM : FuncData} (F : Fun K "__init__" "Cycle.__init__" (initS sE_Cycle) f fd) (TM : ClsI K CM fM) (gM : mg "ForestError" = some (.ref CM)) (GM : FnOk P w K mg base CX0 1 fM fdM ["self", "tag", "message"] (spTop K "ValueError.__new__" vaTail)) (bM : Binds K fdM ["self", "tag", "message"] []) :
    FnOk P w K mg base CX0 2 f fd ["self", "node"] (spErrI K "ValueError.__new__" vaTail "node" "Cycle") := by
  refine F.ok scE_Cycle (fun vs H Q E h => ?_) (fun cdv A outer s H vs Q E hr h => ?_)
  · obtain ⟨a, C, v, rfl, _⟩ := h
    rfl
  · obtain ⟨a, C, v, rfl, ⟨i, rfl, hi⟩, ha, T, nt, nf, q⟩ := h
    refine ⟨_, pss_cons (ps_expr (pe_ci TM GM hr (by rfl) gM bM pass0 (pa_cons (pv 0) (pa_cons pe_str (pa_cons (pe_joined (.cons pe_str (.cons (pe_fmt (pv 1)) (.cons pe_str .nil)))) pa_nil)))))
      (pss_one (ps_st (nid := "ValueError.__new__") PySem.F.store_ValueError (pv 0) (pv 1))), ?_⟩
    have f0 : (Str.empty ++ Str.ofString "the parents of node ").length ≤ 100 := by decide +kernel
    have f1 : (Str.ofString " do not lead to a root").length ≤ 100 := by decide +kernel
    have l1 := fits_cat f0 (txt_int hi)
    refine ⟨_, rfl, ⟨_, rfl, fits (by omega), _, rfl, .inr ⟨i, rfl, hi, _, rfl, fits (Nat.le_trans l1 (by decide)), _, rfl, fits (Nat.le_trans (fits_cat l1 f1) (by decide)), ?_⟩⟩⟩
    refine ⟨a, C, _, _, rfl, ha, T, nt, fun dx n ne => ⟨_, rfl, _, rfl, a, C, rfl, T, nf, .inr ⟨dx, _, upd_same, ?_, by show 1 ≤ 900; decide, q dx n ne⟩⟩⟩
    rw [upd_ne ne, upd_same]
theorem ok_E_SizesDiffer {f fM CM : Addr} {fd fdM : FuncData} (F : Fun K "__init__" "SizesDiffer.__init__" (initS sE_SizesDiffer) f fd) (TM : ClsI K CM fM) (gM : mg "ForestError" = some (.ref CM)) (GM : FnOk P w K mg base CX0 1 fM fdM ["self", "tag", "message"] (spTop K "ValueError.__new__" vaTail)) (bM : Binds K fdM ["self", "tag", "message"] []) :
    FnOk P w K mg base CX0 2 f fd ["self", "size"] (spErrI K "ValueError.__new__" vaTail "size" "SizesDiffer") := by
  refine F.ok scE_SizesDiffer (fun vs H Q E h => ?_) (fun cdv A outer s H vs Q E hr h => ?_)
  · obtain ⟨a, C, v, rfl, _⟩ := h
    rfl
  · obtain ⟨a, C, v, rfl, ⟨i, rfl, hi⟩, ha, T, nt, nf, q⟩ := h
    refine ⟨_, pss_cons (ps_expr (pe_ci TM GM hr (by rfl) gM bM pass0 (pa_cons (pv 0) (pa_cons pe_str (pa_cons (pe_joined (.cons pe_str (.cons (pe_fmt (pv 1)) (.cons pe_str .nil)))) pa_nil)))))
      (pss_one (ps_st (nid := "ValueError.__new__") PySem.F.store_ValueError (pv 0) (pv 1))), ?_⟩
    have f0 : (Str.empty ++ Str.ofString "the other forest has ").length ≤ 100 := by decide +kernel
    have f1 : (Str.ofString " nodes").length ≤ 100 := by decide +kernel
    have l1 := fits_cat f0 (txt_int hi)
    refine ⟨_, rfl, ⟨_, rfl, fits (by omega), _, rfl, .inr ⟨i, rfl, hi, _, rfl, fits (Nat.le_trans l1 (by decide)), _, rfl, fits (Nat.le_trans (fits_cat l1 f1) (by decide)), ?_⟩⟩⟩
    refine ⟨a, C, _, _, rfl, ha, T, nt, fun dx n ne => ⟨_, rfl, _, rfl, a, C, rfl, T, nf, .inr ⟨dx, _, upd_same, ?_, by show 1 ≤ 900; decide, q dx n ne⟩⟩⟩
    rw [upd_ne ne, upd_same]
theorem ok_E_RootsDiffer {f fM CM : Addr} {fd fdM : FuncData} (F : Fun K "__init__" "RootsDiffer.__init__" (initS sE_RootsDiffer) f fd) (TM : ClsI K CM fM) (gM : mg "ForestError" = some (.ref CM)) (GM : FnOk P w K mg base CX0 1 fM fdM ["self", "tag", "message"] (spTop K "ValueError.__new__" vaTail)) (bM : Binds K fdM ["self", "tag", "message"] []) :
    FnOk P w K mg base CX0 2 f fd ["self", "node"] (spErrI K "ValueError.__new__" vaTail "node" "RootsDiffer") := by
  refine F.ok scE_RootsDiffer (fun vs H Q E h => ?_) (fun cdv A outer s H vs Q E hr h => ?_)
  · obtain ⟨a, C, v, rfl, _⟩ := h
    rfl
  · obtain ⟨a, C, v, rfl, ⟨i, rfl, hi⟩, ha, T, nt, nf, q⟩ := h
    refine ⟨_, pss_cons (ps_expr (pe_ci TM GM hr (by rfl) gM bM pass0 (pa_cons (pv 0) (pa_cons pe_str (pa_cons (pe_joined (.cons pe_str (.cons (pe_fmt (pv 1)) (.cons pe_str .nil)))) pa_nil)))))
      (pss_one (ps_st (nid := "ValueError.__new__") PySem.F.store_ValueError (pv 0) (pv 1))), ?_⟩
    have f0 : (Str.empty ++ Str.ofString "node ").length ≤ 100 := by decide +kernel
    have f1 : (Str.ofString " is a root in only one of the forests").length ≤ 100 := by decide +kernel
    have l1 := fits_cat f0 (txt_int hi)
    refine ⟨_, rfl, ⟨_, rfl, fits (by omega), _, rfl, .inr ⟨i, rfl, hi, _, rfl, fits (Nat.le_trans l1 (by decide)), _, rfl, fits (Nat.le_trans (fits_cat l1 f1) (by decide)), ?_⟩⟩⟩
    refine ⟨a, C, _, _, rfl, ha, T, nt, fun dx n ne => ⟨_, rfl, _, rfl, a, C, rfl, T, nf, .inr ⟨dx, _, upd_same, ?_, by show 1 ≤ 900; decide, q dx n ne⟩⟩⟩
    rw [upd_ne ne, upd_same]
theorem ok_E_NoWay {f fM CM : Addr} {fd fdM : FuncData} (F : Fun K "__init__" "NoWay.__init__" (initS sE_NoWay) f fd) (TM : ClsI K CM fM) (gM : mg "ForestError" = some (.ref CM)) (GM : FnOk P w K mg base CX0 1 fM fdM ["self", "tag", "message"] (spTop K "ValueError.__new__" vaTail)) (bM : Binds K fdM ["self", "tag", "message"] []) :
    FnOk P w K mg base CX0 2 f fd ["self", "node"] (spErrI K "ValueError.__new__" vaTail "node" "NoWay") := by
  refine F.ok scE_NoWay (fun vs H Q E h => ?_) (fun cdv A outer s H vs Q E hr h => ?_)
  · obtain ⟨a, C, v, rfl, _⟩ := h
    rfl
  · obtain ⟨a, C, v, rfl, ⟨i, rfl, hi⟩, ha, T, nt, nf, q⟩ := h
    refine ⟨_, pss_cons (ps_expr (pe_ci TM GM hr (by rfl) gM bM pass0 (pa_cons (pv 0) (pa_cons pe_str (pa_cons (pe_joined (.cons pe_str (.cons (pe_fmt (pv 1)) .nil))) pa_nil)))))
      (pss_one (ps_st (nid := "ValueError.__new__") PySem.F.store_ValueError (pv 0) (pv 1))), ?_⟩
    have f0 : (Str.empty ++ Str.ofString "the way is barred at node ").length ≤ 100 := by decide +kernel
    refine ⟨_, rfl, ⟨_, rfl, fits (by omega), _, rfl, .inr ⟨i, rfl, hi, _, rfl, fits (Nat.le_trans (fits_cat f0 (txt_int hi)) (by decide)), ?_⟩⟩⟩
    refine ⟨a, C, _, _, rfl, ha, T, nt, fun dx n ne => ⟨_, rfl, _, rfl, a, C, rfl, T, nf, .inr ⟨dx, _, upd_same, ?_, by show 1 ≤ 900; decide, q dx n ne⟩⟩⟩
    rw [upd_ne ne, upd_same]
theorem ok_E_NoNode {f fM CM : Addr} {fd fdM : FuncData} (F : Fun K "__init__" "NoNode.__init__" (initS sE_NoNode) f fd) (TM : ClsI K CM fM) (gM : mg "Missing" = some (.ref CM)) (GM : FnOk P w K mg base CX0 1 fM fdM ["self", "tag", "message"] (spTop K "LookupError.__new__" luTail)) (bM : Binds K fdM ["self", "tag", "message"] []) :
    FnOk P w K mg base CX0 2 f fd ["self", "node"] (spErrI K "LookupError.__new__" luTail "node" "NoNode") := by
  refine F.ok scE_NoNode (fun vs H Q E h => ?_) (fun cdv A outer s H vs Q E hr h => ?_)
  · obtain ⟨a, C, v, rfl, _⟩ := h
    rfl
  · obtain ⟨a, C, v, rfl, ⟨i, rfl, hi⟩, ha, T, nt, nf, q⟩ := h
    refine ⟨_, pss_cons (ps_expr (pe_ci TM GM hr (by rfl) gM bM pass0 (pa_cons (pv 0) (pa_cons pe_str (pa_cons (pe_joined (.cons pe_str (.cons (pe_fmt (pv 1)) .nil))) pa_nil)))))
      (pss_one (ps_st (nid := "LookupError.__new__") PySem.F.store_LookupError (pv 0) (pv 1))), ?_⟩
    have f0 : (Str.empty ++ Str.ofString "there is no node ").length ≤ 100 := by decide +kernel
    refine ⟨_, rfl, ⟨_, rfl, fits (by omega), _, rfl, .inr ⟨i, rfl, hi, _, rfl, fits (Nat.le_trans (fits_cat f0 (txt_int hi)) (by decide)), ?_⟩⟩⟩
    refine ⟨a, C, _, _, rfl, ha, T, nt, fun dx n ne => ⟨_, rfl, _, rfl, a, C, rfl, T, nf, .inr ⟨dx, _, upd_same, ?_, by show 1 ≤ 900; decide, q dx n ne⟩⟩⟩
    rw [upd_ne ne, upd_same]
end
end Ff

namespace Ff
open PySem PySem.Spec PyProof.Rows L2 ExX LamX
abbrev sDeep : Stmt := topS 50
abbrev deepN : List Str := ["forest", "node"]
theorem scDeep : FnScope deepN ["forest"] (defScope sDeep) := ⟨rfl, rfl, rfl, by decide +kernel, rfl, by decide +kernel, by decide +kernel⟩
abbrev sFlatF : Stmt := topS 52
abbrev flatFN : List Str := ["forest"]
theorem scFlatF : FnScope flatFN ["forest"] (defScope sFlatF) := ⟨rfl, rfl, rfl, by decide +kernel, rfl, by decide +kernel, by decide +kernel⟩
def spFlatFinds (K : PySem.W.Frag) : Sp := fun vs H Q _ => ∃ (a : Addr) (n : Nat) (p r : Nat → Nat), vs = [.ref a] ∧ SqT K H a (tupOf n p) ∧ n ≤ 60 ∧ Fo n p r ∧
  ∀ (l : Addr) H', H l = none → H' l = some (.lst (natsV (needS n p (fun v => root p n v)))) → Same H H' → Q (.ref l) H'
def spDeep (K : PySem.W.Frag) : Sp := fun vs H Q _ => ∃ (a : Addr) (n : Nat) (p r : Nat → Nat), vs = [.ref a] ∧ SqT K H a (tupOf n p) ∧ n ≤ 60 ∧ Fo n p r ∧
  ∀ (l : Addr) H', H l = none → H' l = some (.lst (natsV ((List.range n).filter fun v => decide (2 ≤ (ups p n v).length)))) → Same H H' → Q (.ref l) H'
def spHeight (K : PySem.W.Frag) : Sp := fun vs H Q _ => ∃ (a : Addr) (n : Nat) (p r : Nat → Nat), vs = [.ref a] ∧ SqT K H a (tupOf n p) ∧ n ≤ 60 ∧ Fo n p r ∧
  ∀ (m : Nat) H', (∀ v, v < n → (ups p n v).length ≤ m) → (m = 0 ∨ ∃ v, v < n ∧ m = (ups p n v).length) → Same H H' → Q (vi m) H'
def spChanged (K : PySem.W.Frag) : Sp := fun vs H Q _ => ∃ (a b : Addr) (n : Nat) (p q r r' : Nat → Nat), vs = [.ref a, .ref b] ∧ Pair K H a b n p q r r' ∧
  ∀ (l : Addr) H', H l = none → H' l = some (.lst (natsV ((List.range n).filter (chg p q)))) → Same H H' → Q (.ref l) H'
def spSameTrees (K : PySem.W.Frag) : Sp := fun vs H Q _ => ∃ (a b : Addr) (n : Nat) (p q r r' : Nat → Nat), vs = [.ref a, .ref b] ∧ Pair K H a b n p q r r' ∧ (∀ v, v < n → root p n v = root q n v) ∧ ∀ H', Same H H' → Q (.bl true) H'
theorem chg_plain {K : PySem.W.Frag} {CS CR : Addr} (vs : List V) (H : Hp) (Q : VK) (E : XK) (h : spChanged K vs H Q E) : spTwoB K CS CR okChg vs H Q (fun _ _ _ => False) := by
  obtain ⟨a, b, n, p, q, r, r', rfl, h2, ok⟩ := h
  exact ⟨a, b, n, n, p, q, r, r', rfl, h2.two, .inr (.inr ⟨rfl, unl_of h2.ro, ok⟩)⟩
theorem sameT_plain {K : PySem.W.Frag} {CS : Addr} (vs : List V) (H : Hp) (Q : VK) (E : XK) (h : spSameTrees K vs H Q E) : spSameTB K CS vs H Q (fun _ _ _ => False) := by
  obtain ⟨a, b, n, p, q, r, r', rfl, h2, e, ok⟩ := h
  exact ⟨a, b, n, n, p, q, r, r', rfl, h2.two, .inr ⟨rfl, by rw [decide_eq_true e]; exact ok⟩⟩
/-- max(xs, default=d), ints -/
def rMaxD (K : PySem.W.Frag) : List V → List V → Hp → VK → Prop := fun xs zs H Q => ∃ (a : Addr) (ns : List Int) (d : Int), xs = [V.ref a] ∧ zs = [V.int d] ∧ SqL K H a (ns.map V.int) ∧ (ns = [] → Q (.int d) H) ∧ ∀ m, m ∈ ns → (∀ y, y ∈ ns → y ≤ m) → Q (.int m) H
theorem maxOf_int : ∀ (ys : List Int) (y : Int), PySem.W.maxOf y ys ∈ y :: ys ∧ ∀ z ∈ y :: ys, z ≤ PySem.W.maxOf y ys
  | [], y => ⟨List.mem_cons_self, fun z hz => by rw [List.mem_singleton.mp hz]; exact Int.le_refl _⟩
  | x :: ys, y => by
    have e : PySem.W.maxOf y (x :: ys) = PySem.W.maxOf (if decide (y < x) = true then x else y) ys := rfl
    have ih := maxOf_int ys (if decide (y < x) = true then x else y)
    rw [e]
    by_cases h : y < x
    · rw [if_pos (decide_eq_true h)] at ih ⊢
      refine ⟨List.mem_cons_of_mem _ ih.1, fun z hz => ?_⟩
      rcases List.mem_cons.mp hz with k | k
      · have := ih.2 x List.mem_cons_self
        omega
      · exact ih.2 z k
    · rw [if_neg (fun k => h (of_decide_eq_true k))] at ih ⊢
      refine ⟨?_, fun z hz => ?_⟩
      · rcases List.mem_cons.mp ih.1 with k | k
        · rw [k]; exact List.mem_cons_self
        · exact List.mem_cons_of_mem _ (List.mem_cons_of_mem _ k)
      · rcases List.mem_cons.mp hz with k | k
        · rw [k]; exact ih.2 y List.mem_cons_self
        · rcases List.mem_cons.mp k with k | k
          · have := ih.2 y List.mem_cons_self
            omega
          · exact ih.2 z (List.mem_cons_of_mem _ k)
theorem cr_maxD {X : Cx} (hc : X.calm = true) (hu : X.A.units + 64 < cLine) : CallRK X (.builtin "max") ["default"] (rMaxD X.K) := by
  intro pins s σ H xs zs us ws Q I r rz h
  obtain ⟨a, ns, d, rfl, rfl, hs, h0, h1⟩ := h
  obtain ⟨its, rv, hl, _⟩ := I.list hs
  rw [Vals.ref1 r]
  cases rz with
  | cons rd rn =>
    cases rn
    obtain ⟨td, rfl⟩ := rd
    refine PySem.W.max_list_datum_default (xs := ns) (I.ok.hd hc) hl.isList (PySem.W.HoldAll.of_ints (ints_of_vals rv)) (by show X.A.units + 1 + 0 < cLine; omega) (fun e h' tk hk => ⟨.int d, H, I.kept hk, ⟨_, rfl⟩, h0 e⟩) fun y ys i v h' tk e hv hv2 hk => ?_
    obtain ⟨as, rr⟩ := hv2
    generalize hm : PySem.W.maxOf y ys = m at rr
    cases rr with
    | int k t =>
      have z := maxOf_int ys y
      rw [hm] at z
      exact ⟨.int m, H, I.kept hk, ⟨t, rfl⟩, h1 m (by rw [e]; exact z.1) (fun y' hy => z.2 y' (by rw [e] at hy; exact hy))⟩
section
variable {P : Program} {w : World} {K : PySem.W.Frag} {mg : Str → Option Value} {base : Heap}
theorem ok_deep {f fD : Addr} {fd fdD : FuncData} (F : Fun K "deep_nodes" "deep_nodes" sDeep f fd) (kD : Kn P w K mg base 4 "depth_of" sDepthOf ["forest", "node"] (spDepthOf K) fD fdD) (T : Tx mg) : FnOk P w K mg base CX0 5 f fd ["forest"] (spDeep K) := by
  refine F.ok scDeep (fun vs H Q E h => ?_) (fun cdv A outer s H vs Q E hr h => ?_)
  · obtain ⟨a, n, p, r, rfl, _⟩ := h
    rfl
  · obtain ⟨a, n, p, r, rfl, hS, hn, hF, q⟩ := h
    have hrm : ∀ {j : Nat}, j ≤ 4 → Room j (A.deeper (envOfC "deep_nodes" (defScope sDeep) s.heap.objs.size f cdv)) := fun h => hr.mono h
    refine ⟨_, (pss_one (ps_ret (pe_lc (own := [("node", 1)]) (g := gName 1) (by rfl) scDeep.nd (pi_range1 (by rfl) T.range (pa_cons (pe_callB call_len_seq (by rfl) T.len PySem.boot_len (pa_cons (pv 0) pa_nil)) pa_nil)) (blkOk_by (own := [("node", 1)]) (N := deepN) (sc := defScope sDeep) (by decide +kernel)) (fun _ _ _ _ _ => (pg_name (i := 1) scDeep.nd rfl (.inl rfl))) (fun _ _ _ _ _ => (pts_one (pt_cmpR op_ge (pe_call kD.G (hrm (by decide)) (by rfl) kD.g kD.F.kp kD.b .nil pass0 (pa_cons (pv 0) (pa_cons (pv 1) pa_nil))) pe_int (nomark _)))) (fun _ _ _ _ _ => (pv 1))))), ?_⟩
    refine ⟨_, rfl, a, _, rfl, .inr hS, _, rfl, by rw [tupOf_len]; omega, by rw [tupOf_len]; omega, fun D nD => ?_⟩
    rw [tupOf_len]
    refine lc_range (lo := 0) (n := ((n : Nat) : Int).toNat) (fun i H' => H' D = some (.lst (natsV ((List.range i).filter fun v => decide (2 ≤ (ups p n v).length)))) ∧ Same H H') ⟨upd_same, same_new nD⟩ ?_ ?_
    · rintro i H' hi ⟨hD, sm⟩
      have hin : i < n := by omega
      refine ⟨rfl, ?_⟩
      refine ⟨_, rfl, _, rfl, a, n, p, r, i, ?_, .inr (same_sqt sm hS), by omega, hF, hin, fun H3 s3 => ?_⟩
      · show [V.ref a, V.int (0 + (i : Int))] = [V.ref a, V.int (i : Int)]
        rw [Int.zero_add]
      obtain ⟨f1, f2, f3⟩ := filt_turn (k := i) (g := fun v => decide (2 ≤ (ups p n v).length)) (by omega) (s3 _ _ hD)
      refine ⟨_, _, rfl, rfl, _, rfl, ?_⟩
      show if decide ((2 : Int) ≤ ((ups p n i).length : Int)) = true then _ else _
      by_cases e : 2 ≤ (ups p n i).length
      · rw [decide_eq_true (by omega)]
        exact iteT ⟨_, rfl, _, s3 _ _ hD, f1, f2 (decide_eq_true e) _ (by rw [Int.zero_add]), same_over (sm.trans s3) nD⟩
      · rw [decide_eq_false (by omega)]
        exact iteF ⟨f3 (decide_eq_false e), sm.trans s3⟩
    · rintro H' ⟨hD, sm⟩
      rw [show ((n : Nat) : Int).toNat = n by omega] at hD
      exact q D H' nD hD sm
theorem ok_flatF {f fL fN : Addr} {fd fdL fdN : FuncData} (F : Fun K "flattening_finds" "flattening_finds" sFlatF f fd) (kL : Kn P w K mg base 5 "flattened" sFlat ["forest"] (spFlat K) fL fdL) (kN : Kn P w K mg base 9 "needed_finds" sNeed ["one", "other"] (spNeeded K) fN fdN) : FnOk P w K mg base CX0 10 f fd ["forest"] (spFlatFinds K) := by
  refine F.ok scFlatF (fun vs H Q E h => ?_) (fun cdv A outer s H vs Q E hr h => ?_)
  · obtain ⟨a, n, p, r, rfl, _⟩ := h
    rfl
  · obtain ⟨a, n, p, r, rfl, hS, hn, hF, q⟩ := h
    have hrm : ∀ {j : Nat}, j ≤ 9 → Room j (A.deeper (envOfC "flattening_finds" (defScope sFlatF) s.heap.objs.size f cdv)) := fun h => hr.mono h
    refine ⟨_, (pss_one (ps_ret (pe_call kN.G (hrm (by decide)) (by rfl) kN.g kN.F.kp kN.b .nil pass0 (pa_cons (pv 0) (pa_cons (pe_call kL.G (hrm (by decide)) (by rfl) kL.g kL.F.kp kL.b .nil pass0 (pa_cons (pv 0) pa_nil)) pa_nil))))), ?_⟩
    refine ⟨_, rfl, _, rfl, a, n, p, r, rfl, hS, hn, hF, fun t H1 nt ht s1 => ?_⟩
    exact ⟨a, t, n, p, _, r, r, rfl, ⟨same_sqt s1 hS, SqT.of ht, hn, hF, flat_fo hF, fun v hv => flat_roots hF v hv⟩, flat_way hF, fun l H2 nl hl s2 => q l H2 (sm_none s1 nl) hl (s1.trans s2)⟩
end
end Ff

namespace Ff
open PySem PySem.Spec PyProof.Rows L2 ExX LamX
abbrev sIsNm : Stmt := topS 72
abbrev isNmN : List Str := ["text", "letter"]
theorem scIsNm : FnScope isNmN ["text"] (defScope sIsNm) := ⟨rfl, rfl, rfl, by decide +kernel, rfl, by decide +kernel, by decide +kernel⟩
abbrev sFIn : Stmt := topS 73
abbrev fInN : List Str := ["forests", "name"]
theorem scFIn : FnScope fInN ["forests", "name"] (defScope sFIn) := ⟨rfl, rfl, rfl, by decide +kernel, rfl, by decide +kernel, by decide +kernel⟩
def rLeS : R2 := fun x y H Q => ∃ i j, x = V.str i ∧ y = V.str j ∧ Q (.bl (!decide (j.cps.toList < i.cps.toList))) H
/-- a letter from a to z -/
def letB (c : Nat) : Bool := (!decide ([c] < [97])) && (!decide ([122] < [c]))
def nameB (z : Str) : Bool := decide (1 ≤ z.length) && decide (z.length ≤ 6) && z.cps.toList.all letB
theorem lc_str {z : Str} {g : TG} {tt : TT} {te : TE} {vs : List Nat} {σ : L2.St} {H1 : Hp} {D : Addr} {Qd : Hp → Prop} (Pv : Nat → Hp → Prop) (h0 : Pv 0 (upd H1 D (.lst [])))
    (hs : ∀ i c H, z.cps.toList[i]? = some c → Pv i H → g (.str ⟨#[c]⟩) (wipe σ vs) H fun σ2 H2 => wipe σ2 vs = wipe σ vs ∧ tt σ2 H2 fun b H3 =>
      if b = true then te σ2 H3 fun y H4 => ∃ acc, H4 D = some (.lst acc) ∧ acc.length < sizeLine ∧ Pv (i + 1) (upd H4 D (.lst (acc ++ [y]))) else Pv (i + 1) H3) (hd : ∀ H, Pv z.cps.toList.length H → Qd H) :
    ∃ W : Nat → Nat → Hp → Prop, (∃ m, W 0 m (upd H1 D (.lst []))) ∧ ∀ i m H, W i m H →
      ((Its z).stop i H ∧ Qd H) ∨ ((Its z).go i H ∧ ∃ Nx : Hp → Prop, (∀ H', Nx H' → ∃ m', m' < m ∧ W (i + 1) m' H') ∧ ∀ x H', (Its z).yld i H x H' → g x (wipe σ vs) H' fun σ2 H2 => wipe σ2 vs = wipe σ vs ∧ tt σ2 H2 fun b H3 =>
        if b = true then te σ2 H3 fun y H4 => ∃ acc, H4 D = some (.lst acc) ∧ acc.length < sizeLine ∧ Nx (upd H4 D (.lst (acc ++ [y]))) else Nx H3) := by
  refine ⟨fun i m H => m = z.cps.toList.length - i ∧ i ≤ z.cps.toList.length ∧ Pv i H, ⟨z.cps.toList.length, by simp, Nat.zero_le _, h0⟩, ?_⟩
  rintro i m H ⟨rfl, hi, p⟩
  have hsz : z.cps.toList.length = z.cps.size := Array.length_toList
  by_cases hlt : i < z.cps.toList.length
  · refine .inr ⟨show i < z.cps.size by omega, Pv (i + 1), fun H' p' => ⟨z.cps.toList.length - (i + 1), by omega, rfl, hlt, p'⟩, fun v H' y => ?_⟩
    obtain ⟨rfl, c, hc, rfl⟩ := y
    exact hs i c H' (by rw [Array.getElem?_toList]; exact hc) p
  · have e : i = z.cps.toList.length := by omega
    subst e
    exact .inl ⟨show z.cps.size ≤ z.cps.toList.length by omega, hd H p⟩
theorem cps_a : (Str.ofString "a").cps.toList = [97] := by decide +kernel
theorem cps_z : (Str.ofString "z").cps.toList = [122] := by decide +kernel
def spIsNm : Sp := fun vs H Q _ => ∃ z : Str, vs = [.str z] ∧ z.length ≤ 1000 ∧ ∀ H', Same H H' → Q (.bl (nameB z)) H'
section
variable {P : Program} {w : World} {K : PySem.W.Frag} {mg : Str → Option Value} {base : Heap}
theorem ok_isNm {f : Addr} {fd : FuncData} {k : Nat} (F : Fun K "is_name" "is_name" sIsNm f fd) (T : Tx mg) (z_all : mg "all" = none) {tA : Tok} (gLt : mg "MAX_LETTERS" = some (.int 6 tA)) : FnOk P w K mg base CX0 (k + 1) f fd ["text"] spIsNm := by
  refine F.ok scIsNm (fun vs H Q E h => ?_) (fun cdv A outer s H vs Q E hr h => ?_)
  · obtain ⟨z, rfl, _⟩ := h
    rfl
  · obtain ⟨z, rfl, hz, q⟩ := h
    have hu1 : (A.deeper (envOfC "is_name" (defScope sIsNm) s.heap.objs.size f cdv)).units + 1 < cLine := by have := hr.un; omega
    refine ⟨_, (pss_one (ps_ret (pe_and (pe_chain op_le op_le pe_int (pe_callB call_len_str (by rfl) T.len PySem.boot_len (pa_cons (pv 0) pa_nil)) (pe_glob (v := .int 6) rfl gLt ⟨_, rfl⟩)) (pe_one (pe_callB (cr_all rfl) (by rfl) z_all (by decide +kernel) (pa_cons (pe_lc (own := [("letter", 1)]) (g := gName 1) (by rfl) scIsNm.nd (pi_str (pv 0)) (blkOk_by (own := [("letter", 1)]) (N := isNmN) (sc := defScope sIsNm) (by decide +kernel)) (fun _ _ _ _ _ => (pg_name (i := 1) scIsNm.nd rfl (.inl rfl))) (fun _ _ _ _ _ => pts_nil) (fun _ _ _ _ _ => (pe_chain (show OpR _ (compareOp .LtE) rLeS from op_le_str) (show OpR _ (compareOp .LtE) rLeS from op_le_str) pe_str (pv 1) pe_str))) pa_nil)))))), ?_⟩
    have one : ∀ {b : Bool} {H'}, Same H H' → nameB z = b → Q (.bl b) H' := fun {b H'} s e => by rw [← e]; exact q H' s
    refine ⟨_, rfl, z, rfl, Nat.le_trans hz (by decide), _, _, rfl, rfl, _, rfl, ?_⟩
    by_cases h1 : 1 ≤ z.length
    · rw [decide_eq_true (show (1 : Int) ≤ ((z.length : Nat) : Int) by omega)]
      refine iteT ⟨_, _, rfl, rfl, _, rfl, ?_⟩
      by_cases h2 : z.length ≤ 6
      · rw [decide_eq_true (show ((z.length : Nat) : Int) ≤ 6 by omega)]
        have hlen : z.cps.toList.length = z.length := Array.length_toList
        refine iteT ⟨_, rfl, z, rfl, fun D nD => ?_⟩
        refine lc_str (z := z) (fun i H' => H' D = some (.lst ((z.cps.toList.take i).map fun c => V.bl (letB c))) ∧ Same H H') ⟨upd_same, same_new nD⟩ ?_ ?_
        · rintro i c H' hc ⟨hD, sm⟩
          refine ⟨rfl, ?_⟩
          have fin : ∀ b : Bool, letB c = b → ∃ acc, H' D = some (.lst acc) ∧ acc.length < sizeLine ∧ (upd H' D (.lst (acc ++ [V.bl b])) D = some (.lst ((z.cps.toList.take (i + 1)).map fun c => V.bl (letB c))) ∧ Same H (upd H' D (.lst (acc ++ [V.bl b])))) := fun b e => by
            refine ⟨_, hD, ?_, ?_, same_over sm nD⟩
            · rw [List.length_map, List.length_take]
              exact Nat.lt_of_le_of_lt (show _ ≤ 6 by omega) (by decide)
            · rw [upd_same, List.take_add_one, hc, List.map_append, ← e]
              rfl
          refine ⟨_, rfl, _, _, rfl, rfl, _, rfl, ?_⟩
          rw [cps_a]
          cases h3 : !decide ([c] < [97]) with
          | false => exact iteF (fin false (by unfold letB; rw [h3]; rfl))
          | true =>
            refine iteT ⟨_, _, rfl, rfl, ?_⟩
            rw [cps_z]
            exact fin _ (by unfold letB; rw [h3]; exact Bool.true_and _)
        · rintro H' ⟨hD, sm⟩
          rw [List.take_length] at hD
          refine ⟨D, (z.cps.toList.map letB), rfl, SqL.of (by rw [hD, List.map_map]; rfl), one sm ?_⟩
          unfold nameB
          rw [decide_eq_true h1, decide_eq_true h2, List.all_map]
          rfl
      · rw [decide_eq_false (show ¬ ((z.length : Nat) : Int) ≤ 6 by omega)]
        exact iteF (one (Same.refl _) (by unfold nameB; rw [decide_eq_false h2, Bool.and_false]; rfl))
    · rw [decide_eq_false (show ¬ (1 : Int) ≤ ((z.length : Nat) : Int) by omega)]
      exact iteF ⟨_, rfl, iteF (one (Same.refl _) (by unfold nameB; rw [decide_eq_false h1]; rfl))⟩
end
end Ff

namespace Ff
open PySem PySem.Spec PyProof.Rows L2 ExX LamX
abbrev sCNN : Stmt := topS 74
abbrev cNNN : List Str := ["forests", "name"]
theorem scCNN : FnScope cNNN ["forests", "name"] (defScope sCNN) := ⟨rfl, rfl, rfl, by decide +kernel, rfl, by decide +kernel, by decide +kernel⟩
abbrev sDoNew : Stmt := topS 75
abbrev doNewN : List Str := ["forests", "name", "parents", "forest"]
theorem scDoNew : FnScope doNewN ["forests", "name", "parents"] (defScope sDoNew) := ⟨rfl, rfl, rfl, by decide +kernel, rfl, by decide +kernel, by decide +kernel⟩
abbrev sDoFl : Stmt := topS 83
abbrev doFlN : List Str := ["forests", "name", "forest", "after", "costs"]
theorem scDoFl : FnScope doFlN ["forests", "name"] (defScope sDoFl) := ⟨rfl, rfl, rfl, by decide +kernel, rfl, by decide +kernel, by decide +kernel⟩
def spFIn : Sp := fun vs H Q _ => ∃ (m : Addr) (z : Str) (kvs : List (Key × V)) (v : V), vs = [.ref m, .str z] ∧ H m = some (.dK kvs) ∧ valV kvs (Sum.inr z : Key) = some v ∧ Q v H
def spCNN : Sp := fun vs H Q _ => ∃ (m : Addr) (z : Str) (kvs : List (Key × V)), vs = [.ref m, .str z] ∧ H m = some (.dK kvs) ∧ z.length ≤ 1000 ∧ nameB z = true ∧ valV kvs (Sum.inr z : Key) = none ∧ kvs.length < 6 ∧ ∀ H', Same H H' → Q .non H'
def spChkV (K : PySem.W.Frag) : Sp := fun vs H Q _ => ∃ (a : Addr) (xs : List Int), vs = [.ref a] ∧ SqT K H a (xs.map V.int) ∧ xs.length ≤ 1000 ∧ verdict xs = .ok ∧ ∀ H', Same H H' → Q .non H'
theorem chkV_plain {K : PySem.W.Frag} {C1 C2 C3 : Addr} : ∀ (vs : List V) (H : Hp) (Q : VK) (E : XK), spChkV K vs H Q E → spCheckB K C1 C2 C3 vs H Q (fun _ _ _ => False) := by
  rintro vs H Q E ⟨a, xs, rfl, hS, hl, hv, q⟩
  refine ⟨a, xs, rfl, hS, hl, ?_⟩
  unfold CheckO
  rw [hv]
  exact q
/-- do_new: the dict with the forest under a new name, and 0 -/
def spDoNew (K : PySem.W.Frag) : Sp := fun vs H Q _ => ∃ (m a : Addr) (z : Str) (kvs : List (Key × V)) (xs : List Int), vs = [.ref m, .str z, .ref a] ∧ H m = some (.dK kvs) ∧ z.length ≤ 1000 ∧ nameB z = true ∧ valV kvs (Sum.inr z : Key) = none ∧ kvs.length < 6 ∧
  SqT K H a (xs.map V.int) ∧ verdict xs = .ok ∧ xs.length ≤ 1000 ∧ ∀ (t p : Addr) H', H t = none → H p = none → H' t = some (.tup [.ref p, .int 0]) → H' p = some (.dK (kvs ++ [((Sum.inr z : Key), V.ref a)])) → Same H H' → Q (.ref t) H'
theorem two_sz : 2 ≤ sizeLine := by decide
theorem mergeK_one (kvs : List (Key × V)) (k : Key) (v : V) : mergeK kvs (mergeK [] [(k, v)]) = putK kvs k v := rfl
section
variable {P : Program} {w : World} {K : PySem.W.Frag} {mg : Str → Option Value} {base : Heap}
theorem ok_fIn {f : Addr} {fd : FuncData} {k : Nat} (F : Fun K "forest_in" "forest_in" sFIn f fd) : FnOk P w K mg base CX0 (k + 1) f fd ["forests", "name"] spFIn := by
  refine F.ok scFIn (fun vs H Q E h => ?_) (fun cdv A outer s H vs Q E hr h => ?_)
  · obtain ⟨m, z, kvs, v, rfl, _⟩ := h
    rfl
  · obtain ⟨m, z, kvs, v, rfl, hm, hv, q⟩ := h
    have hu1 : (A.deeper (envOfC "forest_in" (defScope sFIn) s.heap.objs.size f cdv)).units + 1 < cLine := by have := hr.un; omega
    refine ⟨_, (pss_cons (ps_if (pt_cmp (pc_dnotin hu1 (pv 1) (pv 0)))
        (pss_one ps_never) pss_nil)
      (pss_one (ps_ret (pe_dget hu1 (pv 0) (pv 1) (fun _ _ => rfl))))), ?_⟩
    have dg : DGet H m (.str z) (some v) := by
      have := DGet.k (k := (Sum.inr z : Key)) hm
      rw [hv] at this
      exact this
    refine ⟨_, rfl, _, rfl, m, _, rfl, dg, _, rfl, iteF ?_⟩
    exact ⟨_, rfl, _, rfl, m, v, rfl, dg, q⟩
theorem ok_cNN {f fN : Addr} {fd fdN : FuncData} (F : Fun K "check_new_name" "check_new_name" sCNN f fd) (kN : Kn P w K mg base 1 "is_name" sIsNm ["text"] spIsNm fN fdN) (T : Tx mg) {tA : Tok} (gMF : mg "MAX_FORESTS" = some (.int 6 tA)) : FnOk P w K mg base CX0 2 f fd ["forests", "name"] spCNN := by
  refine F.ok scCNN (fun vs H Q E h => ?_) (fun cdv A outer s H vs Q E hr h => ?_)
  · obtain ⟨m, z, kvs, rfl, _⟩ := h
    rfl
  · obtain ⟨m, z, kvs, rfl, hm, hz, hn, hv, hl, q⟩ := h
    have hrm : ∀ {j : Nat}, j ≤ 1 → Room j (A.deeper (envOfC "check_new_name" (defScope sCNN) s.heap.objs.size f cdv)) := fun h => hr.mono h
    have hu1 : (A.deeper (envOfC "check_new_name" (defScope sCNN) s.heap.objs.size f cdv)).units + 1 < cLine := by have := hr.un; omega
    refine ⟨_, (pss_cons (ps_if (pt_not (pt_val (pe_call kN.G (hrm (by decide)) (by rfl) kN.g kN.F.kp kN.b .nil pass0 (pa_cons (pv 1) pa_nil))))
        (pss_one ps_never) pss_nil)
      (pss_cons (ps_if (pt_cmp (pc_din hu1 (pv 1) (pv 0)))
        (pss_one ps_never) pss_nil)
      (pss_one (ps_if (pt_cmpR op_ge (pe_callB call_lenD (by rfl) T.len PySem.boot_len (pa_cons (pv 0) pa_nil)) (pe_glob (v := .int 6) rfl gMF ⟨_, rfl⟩) (nomark _))
        (pss_one ps_never) pss_nil)))), ?_⟩
    refine ⟨_, rfl, z, rfl, hz, fun H1 s1 => ⟨_, rfl, ?_⟩⟩
    rw [hn]
    refine iteF ?_
    have dg : DGet H1 m (.str z) none := by
      have := DGet.k (k := (Sum.inr z : Key)) (s1 _ _ hm)
      rw [hv] at this
      exact this
    refine ⟨_, rfl, _, rfl, m, _, rfl, dg, _, rfl, iteF ?_⟩
    refine ⟨_, rfl, m, kvs, rfl, s1 _ _ hm, _, _, rfl, rfl, _, rfl, ?_⟩
    rw [decide_eq_false (show ¬ (6 : Int) ≤ (kvs.length : Int) by omega)]
    exact iteF (q H1 s1)
theorem ok_doNew {f fW fC : Addr} {fd fdW fdC : FuncData} (F : Fun K "do_new" "do_new" sDoNew f fd) (kW : Kn P w K mg base 2 "check_new_name" sCNN ["forests", "name"] spCNN fW fdW) (kC : Kn P w K mg base 4 "check_forest" sCheck ["parents"] (spChkV K) fC fdC) (T : Tx mg) : FnOk P w K mg base CX0 11 f fd ["forests", "name", "parents"] (spDoNew K) := by
  refine F.ok scDoNew (fun vs H Q E h => ?_) (fun cdv A outer s H vs Q E hr h => ?_)
  · obtain ⟨m, a, z, kvs, xs, rfl, _⟩ := h
    rfl
  · obtain ⟨m, a, z, kvs, xs, rfl, hm, hz, hn, hv, hl, hS, hvd, hxl, q⟩ := h
    have hrm : ∀ {j : Nat}, j ≤ 10 → Room j (A.deeper (envOfC "do_new" (defScope sDoNew) s.heap.objs.size f cdv)) := fun h => hr.mono h
    refine ⟨_, (pss_cons (ps_expr (pe_call kW.G (hrm (by decide)) (by rfl) kW.g kW.F.kp kW.b .nil pass0 (pa_cons (pv 0) (pa_cons (pv 1) pa_nil))))
      (pss_cons (ps_set (i := 3) scDoNew.nd rfl (.inl rfl) (pe_callTy call_tuple_of (by rfl) T.tuple (by decide +kernel) (pa_cons (pv 2) pa_nil)))
      (pss_cons (ps_expr (pe_call kC.G (hrm (by decide)) (by rfl) kC.g kC.F.kp kC.b .nil pass0 (pa_cons (pv 3) pa_nil)))
      (pss_one (ps_ret (pe_tup (pa_cons (pe_dispU (pv 0) (pps_cons (pv 1) (pv 3) pps_nil)) (pa_cons pe_int pa_nil)))))))), ?_⟩
    refine ⟨_, rfl, _, rfl, m, z, kvs, rfl, hm, hz, hn, hv, hl, fun H1 s1 => ?_⟩
    refine ⟨_, rfl, a, _, rfl, .inr ⟨same_sqt s1 hS, ?_⟩⟩
    refine ⟨_, rfl, a, xs, rfl, same_sqt s1 hS, hxl, hvd, fun H2 s2 => ?_⟩
    have s12 := s1.trans s2
    have hm2 := s12 _ _ hm
    refine fun p np => ⟨_, rfl, upd_same, m, kvs, rfl, (fun e => by rw [e, np] at hm2; cases hm2), same_new np _ _ hm2, fun qq nq => ?_⟩
    have hpq : qq ≠ p := fun e => by rw [e, upd_same] at nq; cases nq
    have hqp2 : H2 qq = none := by rw [upd_ne hpq] at nq; rw [upd_ne hpq] at nq; exact nq
    refine ⟨_, rfl, _, rfl, ?_⟩
    refine ⟨by rw [upd_ne (Ne.symm hpq), upd_same], upd_same, [((Sum.inr z : Key), V.ref a)], rfl, by simp, by omega, ?_⟩
    rw [mergeK_one, putK_new _ hv]
    refine ⟨two_sz, fun t nt => ?_⟩
    have htp : t ≠ p := fun e => by rw [e, upd_same] at nt; cases nt
    have htq : t ≠ qq := fun e => by rw [e, upd_ne hpq, upd_same] at nt; cases nt
    have old : ∀ b, b ≠ p → b ≠ qq → upd (upd (upd (upd (upd H2 p (.dK [])) p (.dK kvs)) qq (.dK [])) qq (.dK (mergeK [] [((Sum.inr z : Key), V.ref a)]))) p (.dK (kvs ++ [((Sum.inr z : Key), V.ref a)])) b = H2 b := fun b h1 h2 => by
      rw [upd_ne h1, upd_ne h2, upd_ne h2, upd_ne h1, upd_ne h1]
    refine q t p _ ?_ (sm_none s12 np) upd_same (by rw [upd_ne (Ne.symm htp), upd_same]) fun b o hb => ?_
    · rw [old t htp htq] at nt
      exact sm_none s12 nt
    · have hb2 := s12 _ _ hb
      have e1 : b ≠ p := fun e => by rw [e, np] at hb2; cases hb2
      have e2 : b ≠ qq := fun e => by rw [e, hqp2] at hb2; cases hb2
      have e3 : b ≠ t := fun e => by
        rw [old t htp htq] at nt
        rw [e, nt] at hb2
        cases hb2
      rw [upd_ne e3, old b e1 e2]
      exact hb2
end
end Ff

namespace Ff
open PySem PySem.Spec PyProof.Rows L2 ExX LamX
abbrev sChkC : Stmt := topS 86
abbrev chkCN : List Str := ["command", "word"]
theorem scChkC : FnScope chkCN ["command"] (defScope sChkC) := ⟨rfl, rfl, rfl, by decide +kernel, rfl, by decide +kernel, by decide +kernel⟩
abbrev sDoCmd : Stmt := topS 87
abbrev doCmdN : List Str := ["forests", "command", "word", "rest", "action"]
theorem scDoCmd : FnScope doCmdN ["forests", "command"] (defScope sDoCmd) := ⟨rfl, rfl, rfl, by decide +kernel, rfl, by decide +kernel, by decide +kernel⟩
/-- {**forests, name: x} of three variables -/
theorem disp_var {i j k : Nat} {σ : L2.St} {H : Hp} {Q : VK} {m : Addr} {z : Str} {v : V} {kvs : List (Key × V)} (hi : σ[i]? = some (some (V.ref m))) (hj : σ[j]? = some (some (V.str z))) (hk : σ[k]? = some (some v)) (hm : H m = some (.dK kvs)) (hl : kvs.length ≤ 1000)
    (q : ∀ p H', H p = none → H' p = some (.dK (putK kvs (Sum.inr z : Key) v)) → Same H H' → Q (.ref p) H') : tDispU (tVar i) [(tVar j, tVar k)] σ H Q := by
  refine fun p np => ⟨_, hi, upd_same, m, kvs, rfl, (fun e => by rw [e, np] at hm; cases hm), same_new np _ _ hm, fun qq nq => ?_⟩
  have hpq : qq ≠ p := fun e => by rw [e, upd_same] at nq; cases nq
  have hq : H qq = none := by rw [upd_ne hpq] at nq; rw [upd_ne hpq] at nq; exact nq
  refine ⟨_, hj, _, hk, ?_⟩
  refine ⟨by rw [upd_ne (Ne.symm hpq), upd_same], upd_same, [((Sum.inr z : Key), v)], rfl, by simp, hl, ?_⟩
  rw [mergeK_one]
  refine q p _ np upd_same fun b o hb => ?_
  have e1 : b ≠ p := fun e => by rw [e, np] at hb; cases hb
  have e2 : b ≠ qq := fun e => by rw [e, hq] at hb; cases hb
  rw [upd_ne e1, upd_ne e2, upd_ne e2, upd_ne e1, upd_ne e1]
  exact hb
/-- do_flatten: the forest stands flattened, and what its finds cost -/
def spDoFl (K : PySem.W.Frag) : Sp := fun vs H Q _ => ∃ (m a : Addr) (z : Str) (kvs : List (Key × V)) (n : Nat) (p r : Nat → Nat), vs = [.ref m, .str z] ∧ H m = some (.dK kvs) ∧ kvs.length ≤ 1000 ∧ valV kvs (Sum.inr z : Key) = some (.ref a) ∧
  SqT K H a (tupOf n p) ∧ n ≤ 60 ∧ Fo n p r ∧ ∀ (t d g : Addr) H', H t = none → H d = none → (g = a ∨ H g = none) → H' t = some (.tup [.ref d, vi (costs n (needS n p (fun v => root p n v)) p).sum]) → H' d = some (.dK (putK kvs (Sum.inr z : Key) (.ref g))) →
    SqT K H' g (tupOf n (fndAll n (needS n p (fun v => root p n v)) p)) → Same H H' → Q (.ref t) H'
def spChkC (K : PySem.W.Frag) (w : World) (dL : Addr) : Sp := fun vs H Q _ => ∃ (c : Addr) (z : Str) (args : List V) (tk : Tok), vs = [.ref c] ∧ SqT K H c (.str z :: args) ∧ PySem.W.nsIn K dL z = some (some (.int ((args.length + 1 : Nat) : Int) tk)) ∧ Q .non H
def spDoCmd (K : PySem.W.Frag) (w : World) (dA : Addr) (S : Addr → Option Sp) : Sp := fun vs H Q _ => ∃ (m c f : Addr) (z : Str) (args : List V) (sp : Sp), vs = [.ref m, .ref c] ∧ SqT K H c (.str z :: args) ∧ KDct K w dA z (.ref f) ∧ S f = some sp ∧ ∀ H', Same H H' → sp (.ref m :: args) H' Q (fun _ _ _ => False)
section
variable {P : Program} {w : World} {K : PySem.W.Frag} {mg : Str → Option Value} {base : Heap}
theorem ok_chkC {f dL : Addr} {fd : FuncData} {k : Nat} {es : Array DictEntry} {nn : Nat} (F : Fun K "check_command" "check_command" sChkC f fd) (T : Tx mg) (gLen : mg "LENGTHS" = some (.ref dL)) (D : KDict K w dL es nn) : FnOk P w K mg base CX0 (k + 1) f fd ["command"] (spChkC K w dL) := by
  refine F.ok scChkC (fun vs H Q E h => ?_) (fun cdv A outer s H vs Q E hr h => ?_)
  · obtain ⟨c, z, args, tk, rfl, _⟩ := h
    rfl
  · obtain ⟨c, z, args, tk, rfl, hc, hn, q⟩ := h
    refine ⟨_, (C8.pss_cut (ps_set (i := 1) scChkC.nd rfl (.inl rfl) (pe_ifExp (pt_truth (pv 0) (by intro _; rfl)) (pe_ix (show IxR _ (rIx K) from ix_seq) (pv 0) pe_int (fun _ _ => rfl)) pe_non))
      (pss_one (ps_if (pt_cmpR op_ne (pe_kget (pe_glob (v := .ref dL) (by rfl) gLen rfl) (pv 1) ⟨rfl, rfl, rfl, rfl⟩) (pe_callB call_len_seq (by rfl) T.len PySem.boot_len (pa_cons (pv 0) pa_nil)) (nomark _))
        (pss_one ps_never) pss_nil))), ?_⟩
    refine ⟨fun σ H' => σ = [some (.ref c), some (.str z)] ∧ H' = H, ?_, ?_⟩
    · exact ⟨_, rfl, true, .inr (.inl ⟨_, hc, rfl⟩), iteT ⟨_, rfl, Sq.ix (.inr hc) (show atI _ ((0 : Nat) : Int) = some (V.str z) from atI_nat rfl) ⟨rfl, rfl⟩⟩⟩
    · rintro σ H' ⟨rfl, rfl⟩
      refine ⟨dL, es, nn, rfl, D, _, rfl, z, _, some (.int ((args.length + 1 : Nat) : Int)), rfl, hn, ⟨_, rfl⟩, _, rfl, c, _, rfl, .inr hc, rfl, _, rfl, ?_⟩
      rw [List.length_cons]
      show if (!decide (V.int ((args.length + 1 : Nat) : Int) = V.int ((args.length + 1 : Nat) : Int))) = true then _ else _
      rw [decide_eq_true rfl]
      exact iteF q
theorem ok_doCmd {f dA : Addr} {fd : FuncData} {S : Addr → Option Sp} (F : Fun K "do_command" "do_command" sDoCmd f fd) (gAct : mg "ACTIONS" = some (.ref dA)) (held : ∀ g sp, S g = some sp → Held P w K mg base 11 g sp) : FnOk P w K mg base CX0 12 f fd ["forests", "command"] (spDoCmd K w dA S) := by
  refine F.ok scDoCmd (fun vs H Q E h => ?_) (fun cdv A outer s H vs Q E hr h => ?_)
  · obtain ⟨m, c, g, z, args, sp, rfl, _⟩ := h
    rfl
  · obtain ⟨m, c, g, z, args, sp, rfl, hc, hd, hS, q⟩ := h
    have hrm : ∀ {j : Nat}, j ≤ 11 → Room j (A.deeper (envOfC "do_command" (defScope sDoCmd) s.heap.objs.size f cdv)) := fun h => hr.mono h
    refine ⟨_, (pss_cons (ps_asg (pv 1) (pg_head rfl (pg_name (i := 2) scDoCmd.nd rfl (.inl rfl)) (pg_name (i := 3) scDoCmd.nd rfl (.inl rfl))))
      (pss_cons (ps_set (i := 4) scDoCmd.nd rfl (.inl rfl) (pe_ix ix_kdict (pe_glob (v := .ref dA) (by rfl) gAct rfl) (pv 2) (fun _ _ => rfl)))
      (pss_one (ps_ret (pe_callAS (i := 4) held (hrm (by decide)) rfl (.inl rfl) (pa_cons (pv 0) (StX.pa_star (pv 3) pa_nil))))))), ?_⟩
    refine ⟨_, rfl, c, .str z, args, rfl, hc, fun p np => ?_⟩
    refine ⟨_, rfl, dA, z, .ref g, rfl, rfl, hd, ?_⟩
    refine ⟨g, sp, rfl, hS, _, rfl, _, rfl, p, args, rfl, .inr (SqL.of upd_same), ?_⟩
    have := q _ (same_new (o := .lst args) np)
    show sp (V.ref m :: (args ++ [])) _ Q (fun _ _ _ => False)
    rw [List.append_nil]
    exact this
theorem ok_doFl {f fI fF fG : Addr} {fd fdI fdF fdG : FuncData} (F : Fun K "do_flatten" "do_flatten" sDoFl f fd) (kI : Kn P w K mg base 1 "forest_in" sFIn ["forests", "name"] spFIn fI fdI) (kF : Kn P w K mg base 5 "find_all" sFindAll ["forest", "nodes"] (spFindAll K) fF fdF) (kG : Kn P w K mg base 10 "flattening_finds" sFlatF ["forest"] (spFlatFinds K) fG fdG) (z_sum : mg "sum" = none) :
    FnOk P w K mg base CX0 11 f fd ["forests", "name"] (spDoFl K) := by
  refine F.ok scDoFl (fun vs H Q E h => ?_) (fun cdv A outer s H vs Q E hr h => ?_)
  · obtain ⟨m, a, z, kvs, n, p, r, rfl, _⟩ := h
    rfl
  · obtain ⟨m, a, z, kvs, n, p, r, rfl, hm, hl, hv, hS, hn, hF, q⟩ := h
    have hrm : ∀ {j : Nat}, j ≤ 10 → Room j (A.deeper (envOfC "do_flatten" (defScope sDoFl) s.heap.objs.size f cdv)) := fun h => hr.mono h
    refine ⟨_, (pss_cons (ps_set (i := 2) scDoFl.nd rfl (.inl rfl) (pe_call kI.G (hrm (by decide)) (by rfl) kI.g kI.F.kp kI.b .nil pass0 (pa_cons (pv 0) (pa_cons (pv 1) pa_nil))))
      (pss_cons (ps_asg (pe_call kF.G (hrm (by decide)) (by rfl) kF.g kF.F.kp kF.b .nil pass0 (pa_cons (pv 2) (pa_cons (pe_call kG.G (hrm (by decide)) (by rfl) kG.g kG.F.kp kG.b .nil pass0 (pa_cons (pv 2) pa_nil)) pa_nil))) (pg_tup rfl (pgs_cons (pg_name (i := 3) scDoFl.nd rfl (.inl rfl)) (pgs_cons (pg_name (i := 4) scDoFl.nd rfl (.inl rfl)) pgs_nil))))
      (pss_one (ps_ret (pe_tup (pa_cons (pe_dispU (pv 0) (pps_cons (pv 1) (pv 3) pps_nil)) (pa_cons (pe_callB (cr_sum rfl) (by rfl) z_sum (by decide +kernel) (pa_cons (pv 4) pa_nil)) pa_nil))))))), ?_⟩
    refine ⟨_, rfl, _, rfl, m, z, kvs, .ref a, rfl, hm, hv, ?_⟩
    refine ⟨_, rfl, _, rfl, a, n, p, r, rfl, hS, hn, hF, fun l H1 nl hl1 s1 => ?_⟩
    have hfx : ∀ x ∈ needS n p (fun v => root p n v), x < n := fun x hx => (needS_mem.mp hx).1
    have hnl : (needS n p (fun v => root p n v)).length ≤ n := needS_len n p _
    refine ⟨a, l, n, p, r, needS n p (fun v => root p n v), rfl, same_sqt s1 hS, SqL.of hl1, by omega, by omega, hF, hfx, fun t g c H2 nt nc hga ht hg hc s2 => ?_⟩
    have s12 := s1.trans s2
    refine ⟨t, _, rfl, SqT.of ht, rfl, _, _, rfl, _, _, rfl, rfl, ?_⟩
    have hg0 : g = a ∨ H g = none := hga.elim .inl fun z => .inr (sm_none s1 z)
    dsimp only [tRet, tTup, tCons]
    refine disp_var (i := 0) (j := 1) (k := 3) rfl rfl rfl (s12 _ _ hm) hl fun d H3 nd hd s3 => ?_
    have s13 := s12.trans s3
    refine ⟨_, rfl, c, (costs n (needS n p (fun v => root p n v)) p).map (fun v : Nat => (v : Int)), rfl, SqL.of (by rw [s3 _ _ hc, natsV_ints]), ?_⟩
    refine ⟨two_sz, fun t3 nt3 => ?_⟩
    have s34 := same_new (o := .tup [V.ref d, V.int ((costs n (needS n p fun v => root p n v) p).map fun v : Nat => (v : Int)).sum]) nt3
    exact q t3 d g _ (sm_none s13 nt3) (sm_none s12 nd) hg0 (by rw [upd_same, sum_cast]) (s34 _ _ hd) (same_sqt s34 (same_sqt s3 hg)) (s13.trans s34)
end
end Ff

namespace Ff
open PySem PySem.Spec PyProof.Rows L2 ExX LamX
abbrev sSI : Stmt := inClass (topS 89) 0
abbrev sIN : List Str := ["self"]
theorem scSI : FnScope sIN ["self"] (defScope sSI) := ⟨rfl, rfl, rfl, by decide +kernel, rfl, by decide +kernel, by decide +kernel⟩
abbrev sSF : Stmt := inClass (topS 89) 9
abbrev sFN : List Str := ["self", "name"]
theorem scSF : FnScope sFN ["self", "name"] (defScope sSF) := ⟨rfl, rfl, rfl, by decide +kernel, rfl, by decide +kernel, by decide +kernel⟩
abbrev sAA : Stmt := inClass (topS 89) 5
abbrev aAN : List Str := ["self", "commands", "command", "forests", "costs", "cost"]
theorem scAA : FnScope aAN ["self", "commands"] (defScope sAA) := ⟨rfl, rfl, rfl, by decide +kernel, rfl, by decide +kernel, by decide +kernel⟩
abbrev sAp : Stmt := inClass (topS 89) 4
abbrev apN : List Str := ["self", "command"]
theorem scAp : FnScope apN ["self", "command"] (defScope sAp) := ⟨rfl, rfl, rfl, by decide +kernel, rfl, by decide +kernel, by decide +kernel⟩
def stN : List Str := ["forests", "total", "past", "future", "watches", "told", "last_number"]
/-- the fields of a store, in whatever order -/
structure StF (fs : List (Str × V)) (fo : Addr) (to : Int) (pa fu wa te : Addr) (la : Int) : Prop where
  f : fs.lookup ("forests" : Str) = some (V.ref fo)
  t : fs.lookup ("total" : Str) = some (V.int to)
  p : fs.lookup ("past" : Str) = some (V.ref pa)
  u : fs.lookup ("future" : Str) = some (V.ref fu)
  w : fs.lookup ("watches" : Str) = some (V.ref wa)
  e : fs.lookup ("told" : Str) = some (V.ref te)
  n : fs.lookup ("last_number" : Str) = some (V.int la)
  no : ∀ m : Str, m ∉ stN → fs.lookup m = none
  len : fs.length ≤ 7
theorem putF_len {k : Str} {v x : V} : ∀ {fs : List (Str × V)}, fs.lookup k = some x → (putF k v fs).length = fs.length
  | [], h => by cases h
  | (a, y) :: fs, h => by
    unfold putF
    by_cases e : a = k
    · rw [if_pos e]
      rfl
    · rw [if_neg e, List.length_cons, List.length_cons]
      rw [List.lookup_cons] at h
      have e2 : (k == a) = false := beq_eq_false_iff_ne.mpr fun z => e z.symm
      rw [e2] at h
      rw [putF_len h]
theorem look_no {k m : Str} {v : V} {fs : List (Str × V)} (h : fs.lookup m = none) (hk : k ∈ stN) (hm : m ∉ stN) : (putF k v fs).lookup m = none := by
  rw [lookup_putF, if_neg fun z => hm (by rw [z]; exact hk)]
  exact h
theorem StF.putU {fs : List (Str × V)} {fo : Addr} {to : Int} {pa fu wa te : Addr} {la : Int} (h : StF fs fo to pa fu wa te la) (x : Addr) : StF (putF "future" (.ref x) fs) fo to pa x wa te la := by
  refine ⟨?_, ?_, ?_, ?_, ?_, ?_, ?_, fun m hm => look_no (h.no m hm) (by decide +kernel) hm, by rw [putF_len h.u]; exact h.len⟩
  · rw [lookup_putF, if_neg (by decide +kernel)]; exact h.f
  · rw [lookup_putF, if_neg (by decide +kernel)]; exact h.t
  · rw [lookup_putF, if_neg (by decide +kernel)]; exact h.p
  · rw [lookup_putF, if_pos rfl]
  · rw [lookup_putF, if_neg (by decide +kernel)]; exact h.w
  · rw [lookup_putF, if_neg (by decide +kernel)]; exact h.e
  · rw [lookup_putF, if_neg (by decide +kernel)]; exact h.n
theorem StF.putF' {fs : List (Str × V)} {fo : Addr} {to : Int} {pa fu wa te : Addr} {la : Int} (h : StF fs fo to pa fu wa te la) (x : Addr) : StF (putF "forests" (.ref x) fs) x to pa fu wa te la := by
  refine ⟨?_, ?_, ?_, ?_, ?_, ?_, ?_, fun m hm => look_no (h.no m hm) (by decide +kernel) hm, by rw [putF_len h.f]; exact h.len⟩
  · rw [lookup_putF, if_pos rfl]
  · rw [lookup_putF, if_neg (by decide +kernel)]; exact h.t
  · rw [lookup_putF, if_neg (by decide +kernel)]; exact h.p
  · rw [lookup_putF, if_neg (by decide +kernel)]; exact h.u
  · rw [lookup_putF, if_neg (by decide +kernel)]; exact h.w
  · rw [lookup_putF, if_neg (by decide +kernel)]; exact h.e
  · rw [lookup_putF, if_neg (by decide +kernel)]; exact h.n
theorem StF.putT {fs : List (Str × V)} {fo : Addr} {to : Int} {pa fu wa te : Addr} {la : Int} (h : StF fs fo to pa fu wa te la) (x : Int) : StF (putF "total" (.int x) fs) fo x pa fu wa te la := by
  refine ⟨?_, ?_, ?_, ?_, ?_, ?_, ?_, fun m hm => look_no (h.no m hm) (by decide +kernel) hm, by rw [putF_len h.t]; exact h.len⟩
  · rw [lookup_putF, if_neg (by decide +kernel)]; exact h.f
  · rw [lookup_putF, if_pos rfl]
  · rw [lookup_putF, if_neg (by decide +kernel)]; exact h.p
  · rw [lookup_putF, if_neg (by decide +kernel)]; exact h.u
  · rw [lookup_putF, if_neg (by decide +kernel)]; exact h.w
  · rw [lookup_putF, if_neg (by decide +kernel)]; exact h.e
  · rw [lookup_putF, if_neg (by decide +kernel)]; exact h.n
/-- what the top has made of the class -/
structure StT (K : PySem.W.Frag) (C : Addr) : Prop where
  cl : Cls K C
  no : ∀ m ∈ stN, NoAttr K C m
/-- all but p as it was -/
def SameXs (p : Addr) (H H' : Hp) : Prop := ∀ b o, H b = some o → b ≠ p → H' b = some o
/-- a store has come to be: five new objects that are its own -/
def spSI (C : Addr) : Sp := fun vs H Q _ => ∃ (p dx : Addr), vs = [.ref p] ∧ H p = some (.ins C dx []) ∧
  ∀ (fo pa fu wa te : Addr) (fs : List (Str × V)) H', H fo = none → H pa = none → H fu = none → H wa = none → H te = none → pa ≠ fu → wa ≠ te → fo ≠ wa → fo ≠ te → H' p = some (.ins C dx fs) → StF fs fo 0 pa fu wa te 0 → H' fo = some (.dK []) → H' pa = some (.lst []) → H' fu = some (.lst []) → H' wa = some (.dK []) → H' te = some (.dK []) → SameXs p H H' → Q .non H'
/-- one command applied to a store: what the command's own promise R says of the new forests d and the cost holds, and the store stands for them -/
def spA1 (K : PySem.W.Frag) (w : World) (C dL dA : Addr) (S : Addr → Option Sp) (one : Bool) : Sp := fun vs H Q _ => ∃ (p dx fo pa fu wa te l c f : Addr) (fs : List (Str × V)) (to la : Int) (xs : List V) (z : Str) (args : List V) (tk : Tok) (sp : Sp) (R : Addr → Int → Hp → Prop),
  (if one = true then vs = [.ref p, .ref c] else vs = [.ref p, .ref l] ∧ H l = some (.lst [.ref c])) ∧ H p = some (.ins C dx fs) ∧ StF fs fo to pa fu wa te la ∧ H pa = some (.lst xs) ∧ xs.length ≤ 1000 ∧ SqT K H c (.str z :: args) ∧ PySem.W.nsIn K dL z = some (some (.int ((args.length + 1 : Nat) : Int) tk)) ∧ KDct K w dA z (.ref f) ∧ S f = some sp ∧
  (∀ (H1 : Hp) (Q' : VK), Same H H1 → (∀ t d cost H2, H2 t = some (.tup [.ref d, .int cost]) → Same H1 H2 → R d cost H2 → Q' (.ref t) H2) → sp (.ref fo :: args) H1 Q' (fun _ _ _ => False)) ∧
  ∀ (cl fu' t' d : Addr) (cost : Int) (fs' : List (Str × V)) (H2 H' : Hp), Same H H2 → R d cost H2 → H' p = some (.ins C dx fs') → StF fs' d (to + cost) pa fu' wa te la → H' pa = some (.lst (xs ++ [.ref t'])) → H' t' = some (.tup [.ref fo, .int to]) → H' fu' = some (.lst []) → H fu' = none → H' cl = some (.lst [.int cost]) → H cl = none → H2 cl = some (.lst []) → cl ≠ fu' →
    (∀ b o, b ≠ p → b ≠ pa → b ≠ cl → H2 b = some o → H' b = some o) → Q (if one = true then .int cost else .ref cl) H'
theorem new_put {G : Hp} {p x C dx : Addr} {o : HO} {fs fs' : List (Str × V)} (hp : G p = some (.ins C dx fs)) (hx : G x = none) :
    upd (upd G x o) p (.ins C dx fs') p = some (.ins C dx fs') ∧ upd (upd G x o) p (.ins C dx fs') x = some o ∧ (∀ b u, b ≠ p → G b = some u → upd (upd G x o) p (.ins C dx fs') b = some u) ∧ x ≠ p := by
  have hxp : x ≠ p := fun e => by rw [e, hp] at hx; cases hx
  refine ⟨upd_same, by rw [upd_ne hxp, upd_same], fun b u hb h => ?_, hxp⟩
  rw [upd_ne hb, upd_ne (ne_of_none h hx)]
  exact h
theorem put_keep {G : Hp} {p C dx : Addr} {fs' : List (Str × V)} : ∀ b u, b ≠ p → G b = some u → upd G p (.ins C dx fs') b = some u := fun b u hb h => by rw [upd_ne hb]; exact h
/-- the fields as __init__ puts them -/
def stFl (fo : Addr) (pa fu wa te : Addr) : List (Str × V) := putF "last_number" (.int 0) (putF "told" (.ref te) (putF "watches" (.ref wa) (putF "future" (.ref fu) (putF "past" (.ref pa) (putF "total" (.int 0) (putF "forests" (.ref fo) []))))))
theorem stFl_ok (fo pa fu wa te : Addr) : StF (stFl fo pa fu wa te) fo 0 pa fu wa te 0 := by
  have ln : ∀ {k : Str} {v : V} {fs : List (Str × V)} {n : Nat}, fs.length ≤ n → (putF k v fs).length ≤ n + 1 := fun h => Nat.le_trans (length_putF _ _ _) (Nat.succ_le_succ h)
  refine ⟨?_, ?_, ?_, ?_, ?_, ?_, ?_, fun m hm => ?_, ln (ln (ln (ln (ln (ln (ln (Nat.zero_le 0)))))))⟩
  · unfold stFl
    rw [lookup_putF, if_neg (by decide +kernel), lookup_putF, if_neg (by decide +kernel), lookup_putF, if_neg (by decide +kernel), lookup_putF, if_neg (by decide +kernel), lookup_putF, if_neg (by decide +kernel), lookup_putF, if_neg (by decide +kernel), lookup_putF, if_pos rfl]
  · unfold stFl
    rw [lookup_putF, if_neg (by decide +kernel), lookup_putF, if_neg (by decide +kernel), lookup_putF, if_neg (by decide +kernel), lookup_putF, if_neg (by decide +kernel), lookup_putF, if_neg (by decide +kernel), lookup_putF, if_pos rfl]
  · unfold stFl
    rw [lookup_putF, if_neg (by decide +kernel), lookup_putF, if_neg (by decide +kernel), lookup_putF, if_neg (by decide +kernel), lookup_putF, if_neg (by decide +kernel), lookup_putF, if_pos rfl]
  · unfold stFl
    rw [lookup_putF, if_neg (by decide +kernel), lookup_putF, if_neg (by decide +kernel), lookup_putF, if_neg (by decide +kernel), lookup_putF, if_pos rfl]
  · unfold stFl
    rw [lookup_putF, if_neg (by decide +kernel), lookup_putF, if_neg (by decide +kernel), lookup_putF, if_pos rfl]
  · unfold stFl
    rw [lookup_putF, if_neg (by decide +kernel), lookup_putF, if_pos rfl]
  · unfold stFl
    rw [lookup_putF, if_pos rfl]
  · unfold stFl
    exact look_no (look_no (look_no (look_no (look_no (look_no (look_no rfl (by decide +kernel) hm) (by decide +kernel) hm) (by decide +kernel) hm) (by decide +kernel) hm) (by decide +kernel) hm) (by decide +kernel) hm) (by decide +kernel) hm
theorem stN_no {K : PySem.W.Frag} {C : Addr} (h0 : NoAttr K C "forests") (h1 : NoAttr K C "total") (h2 : NoAttr K C "past") (h3 : NoAttr K C "future") (h4 : NoAttr K C "watches") (h5 : NoAttr K C "told") (h6 : NoAttr K C "last_number") : ∀ m ∈ stN, NoAttr K C m :=
  List.forall_mem_cons.mpr ⟨h0, List.forall_mem_cons.mpr ⟨h1, List.forall_mem_cons.mpr ⟨h2, List.forall_mem_cons.mpr ⟨h3, List.forall_mem_cons.mpr ⟨h4, List.forall_mem_cons.mpr ⟨h5, List.forall_mem_cons.mpr ⟨h6, fun m h => by cases h⟩⟩⟩⟩⟩⟩⟩
def spSF (C : Addr) : Sp := fun vs H Q _ => ∃ (p dx fo pa fu wa te : Addr) (fs : List (Str × V)) (to la : Int) (z : Str) (kvs : List (Key × V)) (v : V), vs = [.ref p, .str z] ∧ H p = some (.ins C dx fs) ∧ StF fs fo to pa fu wa te la ∧ H fo = some (.dK kvs) ∧ valV kvs (Sum.inr z : Key) = some v ∧ Q v H
section
variable {P : Program} {w : World} {K : PySem.W.Frag} {mg : Str → Option Value} {base : Heap} {C : Addr}
theorem ok_sF {f fI : Addr} {fd fdI : FuncData} (F : Fun K "forest_of" "Store.forest_of" sSF f fd) (TC : StT K C) (kI : Kn P w K mg base 1 "forest_in" sFIn ["forests", "name"] spFIn fI fdI) : FnOk P w K mg base CX0 2 f fd ["self", "name"] (spSF C) := by
  refine F.ok scSF (fun vs H Q E h => ?_) (fun cdv A outer s H vs Q E hr h => ?_)
  · obtain ⟨p, dx, fo, pa, fu, wa, te, fs, to, la, z, kvs, v, rfl, _⟩ := h
    rfl
  · obtain ⟨p, dx, fo, pa, fu, wa, te, fs, to, la, z, kvs, v, rfl, hp, hF, hfo, hv, q⟩ := h
    have hrm : ∀ {j : Nat}, j ≤ 1 → Room j (A.deeper (envOfC "Store.forest_of" (defScope sSF) s.heap.objs.size f cdv)) := fun h => hr.mono h
    refine ⟨_, (pss_one (ps_ret (pe_call kI.G (hrm (by decide)) (by rfl) kI.g kI.F.kp kI.b .nil pass0 (pa_cons (pe_fld (pv 0) rfl) (pa_cons (pv 1) pa_nil))))), ?_⟩
    exact ⟨_, rfl, p, C, dx, _, _, rfl, hp, TC.cl, TC.no _ (by decide +kernel), hF.f, _, rfl, fo, z, kvs, v, rfl, hfo, hv, q⟩
theorem ok_sI {f : Addr} {fd : FuncData} (F : Fun K "__init__" "Store.__init__" sSI f fd) (TC : StT K C) : FnOk P w K mg base CX0 1 f fd ["self"] (spSI C) := by
  refine F.ok scSI (fun vs H Q E h => ?_) (fun cdv A outer s H vs Q E hr h => ?_)
  · obtain ⟨p, dx, rfl, _⟩ := h
    rfl
  · obtain ⟨p, dx, rfl, hp, q⟩ := h
    refine ⟨_, (pss_cons (ps_fld (pv 0) pe_dnewK rfl)
      (pss_cons (ps_fld (pv 0) pe_int rfl)
      (pss_cons (ps_fld (pv 0) (pe_lst pa_nil) rfl)
      (pss_cons (ps_fld (pv 0) (pe_lst pa_nil) rfl)
      (pss_cons (ps_fld (pv 0) pe_dnewK rfl)
      (pss_cons (ps_fld (pv 0) pe_dnewK rfl)
      (pss_one (ps_fld (pv 0) pe_int rfl)))))))), ?_⟩
    have ln : ∀ {k : Str} {v : V} {fs : List (Str × V)} {n : Nat}, fs.length ≤ n → (putF k v fs).length ≤ n + 1 := fun h => Nat.le_trans (length_putF _ _ _) (Nat.succ_le_succ h)
    have lt : ∀ {fs : List (Str × V)} {n : Nat}, fs.length ≤ n → n < 1000 → fs.length < 1000 := fun h h2 => Nat.lt_of_le_of_lt h h2
    have no : ∀ {m : Str}, m ∈ stN → NoAttr K C m := fun h => TC.no _ h
    have l0 : ([] : List (Str × V)).length ≤ 0 := Nat.le_refl 0
    refine fun fo nfo => ⟨_, rfl, p, C, dx, _, rfl, by rw [upd_ne (ne_of_none hp nfo)]; exact hp, TC.cl, no (by decide +kernel), lt l0 (by decide), ?_⟩
    obtain ⟨p1, ffo, o1, mfo⟩ := new_put (o := (.dK [])) (fs' := (putF "forests" (.ref fo) [])) hp nfo
    generalize upd (upd H fo (.dK [])) p (.ins C dx (putF "forests" (.ref fo) [])) = G1 at p1 ffo o1 ⊢
    have l1 := ln (k := "forests") (v := .ref fo) l0
    refine ⟨_, rfl, p, C, dx, _, rfl, p1, TC.cl, no (by decide +kernel), lt l1 (by decide), ?_⟩
    have o2 := put_keep (G := G1) (p := p) (C := C) (dx := dx) (fs' := (putF "total" (.int 0) (putF "forests" (.ref fo) [])))
    have p2 : upd G1 p (.ins C dx (putF "total" (.int 0) (putF "forests" (.ref fo) []))) p = some (.ins C dx (putF "total" (.int 0) (putF "forests" (.ref fo) []))) := upd_same
    generalize upd G1 p (.ins C dx (putF "total" (.int 0) (putF "forests" (.ref fo) []))) = G2 at p2 o2 ⊢
    replace ffo := o2 _ _ mfo ffo
    have l2 := ln (k := "total") (v := .int 0) l1
    refine ⟨by show 0 ≤ sizeLine; decide, fun pa npa => ⟨_, rfl, p, C, dx, _, rfl, by rw [upd_ne (ne_of_none p2 npa)]; exact p2, TC.cl, no (by decide +kernel), lt l2 (by decide), ?_⟩⟩
    have dfopa := ne_of_none ffo npa
    obtain ⟨p3, fpa, o3, mpa⟩ := new_put (o := (.lst [])) (fs' := (putF "past" (.ref pa) (putF "total" (.int 0) (putF "forests" (.ref fo) [])))) p2 npa
    generalize upd (upd G2 pa (.lst [])) p (.ins C dx (putF "past" (.ref pa) (putF "total" (.int 0) (putF "forests" (.ref fo) [])))) = G3 at p3 fpa o3 ⊢
    replace ffo := o3 _ _ mfo ffo
    have l3 := ln (k := "past") (v := .ref pa) l2
    refine ⟨by show 0 ≤ sizeLine; decide, fun fu nfu => ⟨_, rfl, p, C, dx, _, rfl, by rw [upd_ne (ne_of_none p3 nfu)]; exact p3, TC.cl, no (by decide +kernel), lt l3 (by decide), ?_⟩⟩
    have dfofu := ne_of_none ffo nfu
    have dpafu := ne_of_none fpa nfu
    obtain ⟨p4, ffu, o4, mfu⟩ := new_put (o := (.lst [])) (fs' := (putF "future" (.ref fu) (putF "past" (.ref pa) (putF "total" (.int 0) (putF "forests" (.ref fo) []))))) p3 nfu
    generalize upd (upd G3 fu (.lst [])) p (.ins C dx (putF "future" (.ref fu) (putF "past" (.ref pa) (putF "total" (.int 0) (putF "forests" (.ref fo) []))))) = G4 at p4 ffu o4 ⊢
    replace ffo := o4 _ _ mfo ffo
    replace fpa := o4 _ _ mpa fpa
    have l4 := ln (k := "future") (v := .ref fu) l3
    refine fun wa nwa => ⟨_, rfl, p, C, dx, _, rfl, by rw [upd_ne (ne_of_none p4 nwa)]; exact p4, TC.cl, no (by decide +kernel), lt l4 (by decide), ?_⟩
    have dfowa := ne_of_none ffo nwa
    have dpawa := ne_of_none fpa nwa
    have dfuwa := ne_of_none ffu nwa
    obtain ⟨p5, fwa, o5, mwa⟩ := new_put (o := (.dK [])) (fs' := (putF "watches" (.ref wa) (putF "future" (.ref fu) (putF "past" (.ref pa) (putF "total" (.int 0) (putF "forests" (.ref fo) [])))))) p4 nwa
    generalize upd (upd G4 wa (.dK [])) p (.ins C dx (putF "watches" (.ref wa) (putF "future" (.ref fu) (putF "past" (.ref pa) (putF "total" (.int 0) (putF "forests" (.ref fo) [])))))) = G5 at p5 fwa o5 ⊢
    replace ffo := o5 _ _ mfo ffo
    replace fpa := o5 _ _ mpa fpa
    replace ffu := o5 _ _ mfu ffu
    have l5 := ln (k := "watches") (v := .ref wa) l4
    refine fun te nte => ⟨_, rfl, p, C, dx, _, rfl, by rw [upd_ne (ne_of_none p5 nte)]; exact p5, TC.cl, no (by decide +kernel), lt l5 (by decide), ?_⟩
    have dfote := ne_of_none ffo nte
    have dpate := ne_of_none fpa nte
    have dfute := ne_of_none ffu nte
    have dwate := ne_of_none fwa nte
    obtain ⟨p6, fte, o6, mte⟩ := new_put (o := (.dK [])) (fs' := (putF "told" (.ref te) (putF "watches" (.ref wa) (putF "future" (.ref fu) (putF "past" (.ref pa) (putF "total" (.int 0) (putF "forests" (.ref fo) []))))))) p5 nte
    generalize upd (upd G5 te (.dK [])) p (.ins C dx (putF "told" (.ref te) (putF "watches" (.ref wa) (putF "future" (.ref fu) (putF "past" (.ref pa) (putF "total" (.int 0) (putF "forests" (.ref fo) []))))))) = G6 at p6 fte o6 ⊢
    replace ffo := o6 _ _ mfo ffo
    replace fpa := o6 _ _ mpa fpa
    replace ffu := o6 _ _ mfu ffu
    replace fwa := o6 _ _ mwa fwa
    have l6 := ln (k := "told") (v := .ref te) l5
    refine ⟨_, rfl, p, C, dx, _, rfl, p6, TC.cl, no (by decide +kernel), lt l6 (by decide), ?_⟩
    have o7 := put_keep (G := G6) (p := p) (C := C) (dx := dx) (fs' := (putF "last_number" (.int 0) (putF "told" (.ref te) (putF "watches" (.ref wa) (putF "future" (.ref fu) (putF "past" (.ref pa) (putF "total" (.int 0) (putF "forests" (.ref fo) []))))))))
    have p7 : upd G6 p (.ins C dx (putF "last_number" (.int 0) (putF "told" (.ref te) (putF "watches" (.ref wa) (putF "future" (.ref fu) (putF "past" (.ref pa) (putF "total" (.int 0) (putF "forests" (.ref fo) [])))))))) p = some (.ins C dx (putF "last_number" (.int 0) (putF "told" (.ref te) (putF "watches" (.ref wa) (putF "future" (.ref fu) (putF "past" (.ref pa) (putF "total" (.int 0) (putF "forests" (.ref fo) [])))))))) := upd_same
    generalize upd G6 p (.ins C dx (putF "last_number" (.int 0) (putF "told" (.ref te) (putF "watches" (.ref wa) (putF "future" (.ref fu) (putF "past" (.ref pa) (putF "total" (.int 0) (putF "forests" (.ref fo) [])))))))) = G7 at p7 o7 ⊢
    replace ffo := o7 _ _ mfo ffo
    replace fpa := o7 _ _ mpa fpa
    replace ffu := o7 _ _ mfu ffu
    replace fwa := o7 _ _ mwa fwa
    replace fte := o7 _ _ mte fte
    have l7 := ln (k := "last_number") (v := .int 0) l6
    have c2 : ∀ b u, b ≠ p → H b = some u → G2 b = some u := fun b u hb h => o2 _ _ hb (o1 _ _ hb h)
    have c3 : ∀ b u, b ≠ p → H b = some u → G3 b = some u := fun b u hb h => o3 _ _ hb (c2 _ _ hb h)
    have c4 : ∀ b u, b ≠ p → H b = some u → G4 b = some u := fun b u hb h => o4 _ _ hb (c3 _ _ hb h)
    have c5 : ∀ b u, b ≠ p → H b = some u → G5 b = some u := fun b u hb h => o5 _ _ hb (c4 _ _ hb h)
    have c7 : ∀ b u, b ≠ p → H b = some u → G7 b = some u := fun b u hb h => o7 _ _ hb (o6 _ _ hb (c5 _ _ hb h))
    have fr : ∀ {G : Hp} {b : Addr}, (∀ b u, b ≠ p → H b = some u → G b = some u) → b ≠ p → G b = none → H b = none := fun {G b} c hb h => by
      cases e : H b with
      | none => rfl
      | some u => rw [c b u hb e] at h; cases h
    exact q fo pa fu wa te _ G7 nfo (fr c2 mpa npa) (fr c3 mfu nfu) (fr c4 mwa nwa) (fr c5 mte nte) dpafu dwate dfowa dfote p7 (stFl_ok fo pa fu wa te) ffo fpa ffu fwa fte fun b u hb hbp => c7 b u hbp hb
theorem ok_aA {f fC fD dL dA : Addr} {fd fdC fdD : FuncData} {S : Addr → Option Sp} (F : Fun K "apply_all" "Store.apply_all" sAA f fd) (TC : StT K C) (kC : Kn P w K mg base 1 "check_command" sChkC ["command"] (spChkC K w dL) fC fdC) (kD : Kn P w K mg base 12 "do_command" sDoCmd ["forests", "command"] (spDoCmd K w dA S) fD fdD) (z_sum : mg "sum" = none) :
    FnOk P w K mg base CX0 13 f fd ["self", "commands"] (spA1 K w C dL dA S false) := by
  refine F.ok scAA (fun vs H Q E h => ?_) (fun cdv A outer s H vs Q E hr h => ?_)
  · obtain ⟨p, dx, fo, pa, fu, wa, te, l, c, g, fs, to, la, xs, z, args, tk, sp, R, ⟨rfl, _⟩, _⟩ := h
    rfl
  · obtain ⟨p, dx, fo, pa, fu, wa, te, l, c, g, fs, to, la, xs, z, args, tk, sp, R, ⟨rfl, hl⟩, hp, hF, hpa, hxl, hc, hn, hd, hS, hsp, q⟩ := h
    have hrm : ∀ {j : Nat}, j ≤ 12 → Room j (A.deeper (envOfC "Store.apply_all" (defScope sAA) s.heap.objs.size f cdv)) := fun h => hr.mono h
    refine ⟨_, (pss_cons (ps_for PassesOwn.never rfl (pi_list (pv 1)) (pg_name (i := 2) scAA.nd rfl (.inl rfl))
        (pss_one (ps_expr (pe_call kC.G (hrm (by decide)) (by rfl) kC.g kC.F.kp kC.b .nil pass0 (pa_cons (pv 2) pa_nil)))))
      (pss_cons (ps_set (i := 3) scAA.nd rfl (.inl rfl) (pe_fld (pv 0) rfl))
      (pss_cons (ps_set (i := 4) scAA.nd rfl (.inl rfl) (pe_lst pa_nil))
      (pss_cons (ps_for PassesOwn.never rfl (pi_list (pv 1)) (pg_name (i := 2) scAA.nd rfl (.inl rfl))
        (pss_cons (ps_asg (pe_call kD.G (hrm (by decide)) (by rfl) kD.g kD.F.kp kD.b .nil pass0 (pa_cons (pv 3) (pa_cons (pv 2) pa_nil))) (pg_tup rfl (pgs_cons (pg_name (i := 3) scAA.nd rfl (.inl rfl)) (pgs_cons (pg_name (i := 5) scAA.nd rfl (.inl rfl)) pgs_nil))))
        (pss_one (ps_expr (pe_bm PySem.F.plainAttrs_list PySem.F.slot_list_append PySem.F.type_list_append mt_append (pv 4) (pa_cons (pv 5) pa_nil))))))
      (pss_cons (ps_expr (pe_bm PySem.F.plainAttrs_list PySem.F.slot_list_append PySem.F.type_list_append mt_append (pe_fld (pv 0) rfl) (pa_cons (pe_tup (pa_cons (pe_fld (pv 0) rfl) (pa_cons (pe_fld (pv 0) rfl) pa_nil))) pa_nil)))
      (pss_cons (ps_fld (pv 0) (pe_lst pa_nil) rfl)
      (pss_cons (ps_fld (pv 0) (pv 3) rfl)
      (pss_cons (ps_fldaug (pv 0) (pe_callB (cr_sum rfl) (by rfl) z_sum (by decide +kernel) (pa_cons (pv 4) pa_nil)) in_add)
      (pss_one (ps_ret (pv 4))))))))))), ?_⟩
    have hl2 : SqL K H l [V.ref c] := SqL.of hl
    refine ⟨_, rfl, l, rfl, ⟨_, hl2⟩, ?_⟩
    refine for_list (xs := [V.ref c]) (fun i σ H' => (∃ y2, σ = [some (.ref p), some (.ref l), y2, none, none, none]) ∧ H' = H) ⟨⟨_, rfl⟩, rfl⟩ (fun i σ H' _ h => by rw [h.2]; exact hl2) ?_ ?_
    · rintro i x σ H' hx ⟨⟨y2, rfl⟩, rfl⟩
      obtain rfl : x = V.ref c := by
        cases i with
        | zero => exact (Option.some.inj hx).symm
        | succ i => simp at hx
      exact ⟨_, rfl, c, z, args, tk, rfl, hc, hn, ⟨_, rfl⟩, rfl⟩
    rintro σ H' ⟨⟨y2, rfl⟩, rfl⟩
    refine ⟨_, rfl, p, C, dx, _, _, rfl, hp, TC.cl, TC.no _ (by decide +kernel), hF.f, ?_⟩
    refine ⟨by show 0 ≤ sizeLine; decide, fun cl ncl => ?_⟩
    have s1 := same_new (o := .lst ([] : List V)) ncl
    have hcl1 : upd H' cl (.lst []) cl = some (.lst []) := upd_same
    generalize upd H' cl (.lst []) = H1 at s1 hcl1 ⊢
    refine ⟨_, rfl, l, rfl, ⟨_, SqL.of (s1 _ _ hl)⟩, ?_⟩
    have ncl_l : l ≠ cl := fun e => by rw [e, ncl] at hl; cases hl
    refine for_list (xs := [V.ref c]) (fun i σ H2 => (i = 0 ∧ (∃ y2, σ = [some (.ref p), some (.ref l), y2, some (.ref fo), some (.ref cl), none]) ∧ H2 = H1) ∨ (i = 1 ∧ ∃ d cost H3, σ = [some (.ref p), some (.ref l), some (.ref c), some (.ref d), some (.ref cl), some (.int cost)] ∧ H2 = upd H3 cl (.lst [.int cost]) ∧ Same H1 H3 ∧ R d cost H3))
      (.inl ⟨rfl, ⟨_, rfl⟩, rfl⟩) (fun i σ H2 _ h => ?_) ?_ ?_
    · rcases h with ⟨_, _, rfl⟩ | ⟨_, d, cost, H3, _, rfl, s3, _⟩
      · exact SqL.of (s1 _ _ hl)
      · exact SqL.of (by rw [upd_ne ncl_l]; exact s3 _ _ (s1 _ _ hl))
    · rintro i x σ H2 hx h
      rcases h with ⟨rfl, ⟨y2, rfl⟩, rfl⟩ | ⟨rfl, _⟩
      · obtain rfl : x = V.ref c := (Option.some.inj hx).symm
        refine ⟨_, rfl, _, rfl, fo, c, g, z, args, sp, rfl, same_sqt s1 hc, hd, hS, fun H3 s3 => hsp _ _ (s1.trans s3) fun t d cost H4 ht s4 hR => ?_⟩
        have s34 := s3.trans s4
        refine ⟨t, _, rfl, SqT.of ht, rfl, _, _, rfl, _, _, rfl, rfl, ?_⟩
        exact ⟨_, rfl, .inl ⟨rfl, _, SqL.of (s34 _ _ hcl1)⟩, _, rfl, cl, _, _, rfl, rfl, s34 _ _ hcl1, by show 0 < sizeLine; decide, .inr ⟨rfl, d, cost, H4, rfl, rfl, s34, hR⟩⟩
      · simp at hx
    rintro σ H2 h
    rcases h with ⟨h0, _⟩ | ⟨_, d, cost, H3, rfl, rfl, s3, hR⟩
    · simp at h0
    have s13 := s1.trans s3
    have sC : Same H' (upd H3 cl (.lst [.int cost])) := same_over s13 ncl
    have hclc : upd H3 cl (.lst [.int cost]) cl = some (.lst [V.int cost]) := upd_same
    have old : ∀ b o, b ≠ cl → H3 b = some o → upd H3 cl (.lst [.int cost]) b = some o := fun b o hb h => by rw [upd_ne hb]; exact h
    generalize upd H3 cl (.lst [.int cost]) = H4 at sC hclc old ⊢
    have hp4 := sC _ _ hp
    have hpa4 := sC _ _ hpa
    have n_pa_p : pa ≠ p := ne_of hpa4 hp4 (by intro z; cases z)
    have n_cl_p : cl ≠ p := ne_of hclc hp4 (by intro z; cases z)
    have n_cl_pa : cl ≠ pa := fun e => by rw [e, hpa] at ncl; cases ncl
    refine ⟨_, rfl, p, C, dx, _, _, rfl, hp4, TC.cl, TC.no _ (by decide +kernel), hF.p, .inl ⟨rfl, _, SqL.of hpa4⟩, _, rfl, p, C, dx, _, _, rfl, hp4, TC.cl, TC.no _ (by decide +kernel), hF.f, _, rfl, p, C, dx, _, _, rfl, hp4, TC.cl, TC.no _ (by decide +kernel), hF.t, two_sz, fun t' nt' => ?_⟩
    have s5 := same_new (o := .tup [V.ref fo, V.int to]) nt'
    have ht5 : upd H4 t' (.tup [V.ref fo, V.int to]) t' = some (.tup [V.ref fo, V.int to]) := upd_same
    have n_t_p : t' ≠ p := fun e => by rw [e, hp4] at nt'; cases nt'
    have n_t_pa : t' ≠ pa := fun e => by rw [e, hpa4] at nt'; cases nt'
    have n_t_cl : t' ≠ cl := fun e => by rw [e, hclc] at nt'; cases nt'
    generalize upd H4 t' (.tup [V.ref fo, V.int to]) = H5 at s5 ht5 ⊢
    refine ⟨pa, xs, .ref t', rfl, rfl, s5 _ _ hpa4, Nat.lt_of_le_of_lt hxl (by decide), ?_⟩
    have h6 : ∀ b, b ≠ pa → upd H5 pa (.lst (xs ++ [V.ref t'])) b = H5 b := fun b hb => upd_ne hb
    have hpa6 : upd H5 pa (.lst (xs ++ [V.ref t'])) pa = some (.lst (xs ++ [V.ref t'])) := upd_same
    generalize upd H5 pa (.lst (xs ++ [V.ref t'])) = H6 at h6 hpa6 ⊢
    have hp6 : H6 p = some (.ins C dx fs) := by rw [h6 p (Ne.symm n_pa_p)]; exact s5 _ _ hp4
    refine ⟨by show 0 ≤ sizeLine; decide, fun u2 nu2 => ?_⟩
    have n_p_u : p ≠ u2 := ne_of_none hp6 nu2
    have l1 : ∀ {gs : List (Str × V)}, gs.length ≤ 7 → gs.length < 1000 := fun h => by omega
    refine ⟨_, rfl, p, C, dx, _, rfl, by rw [upd_ne n_p_u]; exact hp6, TC.cl, TC.no _ (by decide +kernel), l1 hF.len, ?_⟩
    have hF1 := hF.putU u2
    refine ⟨_, rfl, _, rfl, p, C, dx, _, rfl, upd_same, TC.cl, TC.no _ (by decide +kernel), l1 hF1.len, ?_⟩
    have hF2 := hF1.putF' d
    have hF3 := hF2.putT (to + cost)
    have h7 : ∀ b, b ≠ p → b ≠ u2 → upd (upd (upd H6 u2 (.lst [])) p (.ins C dx (putF "future" (.ref u2) fs))) p (.ins C dx (putF "forests" (.ref d) (putF "future" (.ref u2) fs))) b = H6 b := fun b h1 h2 => by rw [upd_ne h1, upd_ne h1, upd_ne h2]
    have hu7 : upd (upd (upd H6 u2 (.lst [])) p (.ins C dx (putF "future" (.ref u2) fs))) p (.ins C dx (putF "forests" (.ref d) (putF "future" (.ref u2) fs))) u2 = some (.lst []) := by rw [upd_ne (Ne.symm n_p_u), upd_ne (Ne.symm n_p_u), upd_same]
    have hp7 : upd (upd (upd H6 u2 (.lst [])) p (.ins C dx (putF "future" (.ref u2) fs))) p (.ins C dx (putF "forests" (.ref d) (putF "future" (.ref u2) fs))) p = some (.ins C dx (putF "forests" (.ref d) (putF "future" (.ref u2) fs))) := upd_same
    generalize upd (upd (upd H6 u2 (.lst [])) p (.ins C dx (putF "future" (.ref u2) fs))) p (.ins C dx (putF "forests" (.ref d) (putF "future" (.ref u2) fs))) = H7 at h7 hu7 hp7 ⊢
    have n_u_none : ∀ {b o}, H6 b = some o → b ≠ u2 := fun h e => by rw [e, nu2] at h; cases h
    have hcl6 : H6 cl = some (.lst [V.int cost]) := by rw [h6 cl n_cl_pa]; exact s5 _ _ hclc
    have hcl7 : H7 cl = some (.lst [V.int cost]) := by rw [h7 cl n_cl_p (n_u_none hcl6)]; exact hcl6
    have ht6 : H6 t' = some (.tup [V.ref fo, V.int to]) := by rw [h6 t' n_t_pa]; exact ht5
    refine ⟨_, rfl, p, C, dx, _, _, rfl, hp7, TC.cl, TC.no _ (by decide +kernel), hF2.t, _, rfl, cl, [cost], rfl, SqL.of hcl7, to, cost, rfl, by simp, dx, _, hp7, l1 hF2.len, ?_⟩
    have hnu : H' u2 = none := by
      cases e : H' u2 with
      | none => rfl
      | some o =>
        have e4 := s5 _ _ (sC _ _ e)
        by_cases z : u2 = pa
        · rw [z, hpa6] at nu2; cases nu2
        · rw [h6 u2 z, e4] at nu2; cases nu2
    refine ⟨_, rfl, ?_⟩
    refine q cl u2 t' d cost _ H3 _ s13 hR upd_same hF3 ?_ ?_ ?_ hnu ?_ ncl (s3 _ _ hcl1) (n_u_none hcl6) fun b o h1 h2 h3 hb => ?_
    · rw [upd_ne n_pa_p, h7 pa n_pa_p (n_u_none hpa6)]; exact hpa6
    · rw [upd_ne n_t_p, h7 t' n_t_p (n_u_none ht6)]; exact ht6
    · rw [upd_ne (Ne.symm n_p_u)]; exact hu7
    · rw [upd_ne n_cl_p]; exact hcl7
    · have h8 : H6 b = some o := by rw [h6 b h2]; exact s5 _ _ (old b o h3 hb)
      rw [upd_ne h1, h7 b h1 (n_u_none h8)]
      exact h8
/-- a method at work -/
structure KMs (P : Program) (w : World) (K : PySem.W.Frag) (mg : Str → Option Value) (base : Heap) (C : Addr) (k : Nat) (x : Str) (ps : List Str) (sp : Sp) (f : Addr) (fd : FuncData) : Prop where
  ok : FnOk P w K mg base CX0 k f fd ps sp
  b : Binds K fd ps []
  mt : Meth K C x f
theorem ok_ap {f fA dL dA : Addr} {fd fdA : FuncData} {S : Addr → Option Sp} (F : Fun K "apply" "Store.apply" sAp f fd) (TC : StT K C) (mA : KMs P w K mg base C 13 "apply_all" ["self", "commands"] (spA1 K w C dL dA S false) fA fdA) : FnOk P w K mg base CX0 14 f fd ["self", "command"] (spA1 K w C dL dA S true) := by
  refine F.ok scAp (fun vs H Q E h => ?_) (fun cdv A outer s H vs Q E hr h => ?_)
  · obtain ⟨p, dx, fo, pa, fu, wa, te, l, c, g, fs, to, la, xs, z, args, tk, sp, R, h, _⟩ := h
    rw [if_pos rfl] at h
    rw [h]
    rfl
  · obtain ⟨p, dx, fo, pa, fu, wa, te, l, c, g, fs, to, la, xs, z, args, tk, sp, R, hvs, hp, hF, hpa, hxl, hc, hn, hd, hS, hsp, q⟩ := h
    rw [if_pos rfl] at hvs
    subst hvs
    have hrm : ∀ {j : Nat}, j ≤ 13 → Room j (A.deeper (envOfC "Store.apply" (defScope sAp) s.heap.objs.size f cdv)) := fun h => hr.mono h
    refine ⟨_, (pss_one (ps_ret (pe_ix (show IxR _ (rIx K) from ix_seq) (pe_meth (pv 0) TC.cl mA.mt mA.ok (hrm (by decide)) mA.b .nil pass0 (pa_cons (pe_lst (pa_cons (pv 1) pa_nil)) pa_nil)) pe_int (fun _ _ => rfl)))), ?_⟩
    refine ⟨_, rfl, p, dx, _, rfl, hp, hF.no _ (by decide +kernel), _, rfl, by show 1 ≤ sizeLine; decide, fun l2 nl2 => ?_⟩
    have s := same_new (o := .lst [V.ref c]) nl2
    refine ⟨p, dx, fo, pa, fu, wa, te, l2, c, g, fs, to, la, xs, z, args, tk, sp, R, ⟨rfl, upd_same⟩, s _ _ hp, hF, s _ _ hpa, hxl, same_sqt s hc, hn, hd, hS, fun H1 Q' s1 h => hsp H1 Q' (s.trans s1) h, fun cl fu' t' d cost fs' H2 H' s2 hR h1 h2 h3 h4 h5 h6 h7 h8 h8b h9 h10 => ?_⟩
    refine Sq.ix (.inl (SqL.of h7)) (show atI _ ((0 : Nat) : Int) = some (V.int cost) from atI_nat rfl) ?_
    exact q cl fu' t' d cost fs' H2 H' (s.trans s2) hR h1 h2 h3 h4 h5 (sm_none s h6) h7 (sm_none s h8) h8b h9 h10
/-- the two commands of a store that only a few laws use -/
def S2 (K : PySem.W.Frag) (fN fL : Addr) : Addr → Option Sp := fun a => if a = fN then some (spDoNew K) else if a = fL then some (spDoFl K) else none
theorem held2 {fN fL : Addr} {fdN fdL : FuncData} (kN : Kn P w K mg base 11 "do_new" sDoNew ["forests", "name", "parents"] (spDoNew K) fN fdN) (kL : Kn P w K mg base 11 "do_flatten" sDoFl ["forests", "name"] (spDoFl K) fL fdL) : ∀ g sp, S2 K fN fL g = some sp → Held P w K mg base 11 g sp := fun g sp h => by
  unfold S2 at h
  by_cases e : g = fN
  · rw [if_pos e] at h
    cases h
    rw [e]
    exact ⟨_, _, kN.G, kN.F.kp, kN.b⟩
  · rw [if_neg e] at h
    by_cases e2 : g = fL
    · rw [if_pos e2] at h
      cases h
      rw [e2]
      exact ⟨_, _, kL.G, kL.F.kp, kL.b⟩
    · rw [if_neg e2] at h
      cases h
end
end Ff

namespace Ff
open PySem PySem.Spec PyProof.Rows L2 ExX LamX
abbrev sLaw : Stmt := topS 101
abbrev lawN : List Str := ["_law_script", "_law_draw", "_law_turn", "_law_forest_here", "_law_size_here", "_law_nodes_here", "_law_behind", "_law_lower", "_law_node", "_law_flat", "_law_finds", "_law_below", "_law_store"]
theorem scLaw : FnScope lawN ["_law_script"] (defScope sLaw) := ⟨rfl, rfl, rfl, by decide +kernel, rfl, by decide +kernel, by decide +kernel⟩
theorem nodup_sub : ∀ {l m : List Nat}, l.Nodup → (∀ x ∈ l, x ∈ m) → l.length ≤ m.length
  | [], m, _, _ => Nat.zero_le _
  | x :: l, m, nd, h => by
    have hx := h x List.mem_cons_self
    have nd' := List.nodup_cons.mp nd
    have := nodup_sub (l := l) (m := m.erase x) nd'.2 fun y hy => (List.mem_erase_of_ne (fun e => nd'.1 (by rw [← e]; exact hy))).mpr (h y (List.mem_cons_of_mem _ hy))
    rw [List.length_erase_of_mem hx] at this
    have hp := List.length_pos_of_mem hx
    rw [List.length_cons]
    omega
theorem low_count (p : Nat → Nat) : ∀ l : List Nat, (l.map (low p)).sum = (l.filter fun v => decide (p v ≠ v)).length
  | [] => rfl
  | x :: l => by
    rw [List.map_cons, List.sum_cons, low_count p l]
    unfold low
    by_cases e : p x = x
    · rw [if_pos e, List.filter_cons, if_neg (by simp [e]), Nat.zero_add]
    · rw [if_neg e, List.filter_cons, if_pos (by simp [e]), List.length_cons, Nat.add_comm]
theorem deep_root {n : Nat} {p r : Nat → Nat} (F : Fo n p r) {v : Nat} (hv : v < n) (h : deep p v = true) : p v ≠ root p n v := fun e => by
  have h1 := of_decide_eq_true h
  rw [e] at h1
  exact h1 (root_fix F v hv)
theorem filt_turnL {xs : List Nat} {g : Nat → Bool} {i u : Nat} {H : Hp} {D : Addr} (hu : xs[i]? = some u) (hl : xs.length ≤ 1000) (hD : H D = some (.lst (natsV ((xs.take i).filter g)))) : (natsV ((xs.take i).filter g)).length < sizeLine ∧
    (g u = true → ∀ y, y = vi u → upd H D (.lst (natsV ((xs.take i).filter g) ++ [y])) D = some (.lst (natsV ((xs.take (i + 1)).filter g)))) ∧ (g u = false → H D = some (.lst (natsV ((xs.take (i + 1)).filter g)))) := by
  refine ⟨?_, fun e y hy => ?_, fun e => ?_⟩
  · rw [natsV_len]
    exact Nat.lt_of_le_of_lt (Nat.le_trans (List.length_filter_le _ _) (by rw [List.length_take]; exact Nat.le_trans (Nat.min_le_right _ _) hl)) (by decide)
  · rw [upd_same, hy, List.take_add_one, hu, List.filter_append]
    show _ = some (HO.lst (natsV (_ ++ List.filter g [u])))
    rw [List.filter_cons, if_pos e]
    unfold natsV
    rw [List.map_append]
    rfl
  · rw [hD, List.take_add_one, hu, List.filter_append]
    show _ = some (HO.lst (natsV (_ ++ List.filter g [u])))
    rw [List.filter_cons, if_neg (by rw [e]; intro z; cases z)]
    show _ = some (HO.lst (natsV (_ ++ [])))
    rw [List.append_nil]
theorem tup_at {n : Nat} {p : Nat → Nat} {v : Nat} (hv : v < n) : atI (tupOf n p) (v : Int) = some (vi (p v)) := by
  refine atI_nat ?_
  unfold tupOf
  rw [List.getElem?_map, List.getElem?_range hv]
  rfl
theorem ne_dec (a b : Nat) : (!decide (vi a = vi b)) = decide (a ≠ b) := by
  by_cases h : a = b
  · rw [h]; simp
  · have : vi a ≠ vi b := fun e => h (by injection e with e; exact Int.ofNat.inj e)
    rw [decide_eq_false this, decide_eq_true h]; rfl
theorem list_getD {n : Nat} {p : Nat → Nat} {v : Nat} (hv : v < n) : (intsOf n p).getD v 0 = (p v : Int) := by
  unfold intsOf
  rw [List.getD_eq_getElem?_getD, List.getElem?_map, List.getElem?_range hv]
  rfl
/-- a forest of at most forty nodes is one for the program -/
theorem fo_ver {n : Nat} {p r : Nat → Nat} (F : Fo n p r) (hn : n ≤ 40) : verdict (intsOf n p) = .ok := by
  have hl : (intsOf n p).length = n := by unfold intsOf; rw [List.length_map, List.length_range]
  have hp : ∀ v, v < n → par (intsOf n p) v = p v := fun v hv => by unfold par; rw [list_getD hv]; rfl
  refine ver_ok.mpr ⟨by rw [hl]; exact hn, fun v hv => ?_, fun v hv => ?_⟩
  · rw [hl] at hv
    unfold wideB
    rw [list_getD hv, hl, decide_eq_true (by omega), decide_eq_true (by have := F.lt v hv; omega)]
    rfl
  · rw [hl] at hv ⊢
    have e : ∀ k x, x < n → root (par (intsOf n p)) k x = root p k x := fun k => by
      induction k with
      | zero => exact fun x hx => rfl
      | succ k ih =>
        intro x hx
        show (if par (intsOf n p) x = x then x else root (par (intsOf n p)) k (par (intsOf n p) x)) = (if p x = x then x else root p k (p x))
        rw [hp x hx, ih _ (F.lt x hx)]
    unfold ringB
    rw [e n v hv, hp _ (root_lt F v hv), root_fix F v hv, decide_eq_true rfl]
    rfl
/-- what a store's command leaves alone -/
theorem sm_step {H0 H H2 H' : Hp} {p pa cl : Addr} (s : Same H0 H) (np : H0 p = none) (npa : H0 pa = none) (ncl : H cl = none) (s2 : Same H H2) (k : ∀ b o, b ≠ p → b ≠ pa → b ≠ cl → H2 b = some o → H' b = some o) : Same H0 H' := fun b o hb => by
  have hb1 := s _ _ hb
  exact k b o (fun e => by rw [e, np] at hb; cases hb) (fun e => by rw [e, npa] at hb; cases hb) (fun e => by rw [e, ncl] at hb1; cases hb1) (s2 _ _ hb1)
def oak : Key := Sum.inr ("oak" : Str)
theorem oak_nm : nameB ("oak" : Str) = true := by decide +kernel
theorem oak_len : ("oak" : Str).length ≤ 1000 := by decide +kernel
theorem oak_put (v : V) : putK ([] : List (Key × V)) oak v = [(oak, v)] := rfl
theorem oak_put2 (u v : V) : putK [(oak, u)] oak v = [(oak, v)] := by
  unfold putK
  simp
theorem oak_val (v : V) : valV [(oak, v)] oak = some v := by
  unfold valV
  simp
theorem same_new2 {H : Hp} {a b : Addr} {o u : HO} (ha : H a = none) (hb : H b = none) (ne : a ≠ b) : Same H (upd (upd H a o) b u) := fun c x hc => by
  rw [upd_ne (fun e => by rw [e, hb] at hc; cases hc), upd_ne (fun e => by rw [e, ha] at hc; cases hc)]
  exact hc
theorem three_sz : 3 ≤ sizeLine := by decide
/-- what the finds cost beyond the needed ones: a find of a node that is no root -/
theorem way_tot {n : Nat} {p q r : Nat → Nat} (F : Fo n p r) {xs : List Nat} (hx : ∀ x ∈ xs, x < n) (hq : ∀ v, v < n → p v = v → q v = v) (W : Way n p q) (he : ∀ v, v < n → fndAll n xs p v = q v) :
    (costs n xs p).sum + (needS n p q).length = (costs n (needS n p q) p).sum + (xs.filter fun v => decide (p v ≠ v)).length := by
  have hN : ∀ x ∈ needS n p q, x < n := fun x h => (needS_mem.mp h).1
  rw [cost_total F xs hx, cost_total F _ hN, low_count, low_count]
  have e1 : (needS n p q).filter (fun v => decide (p v ≠ v)) = needS n p q := List.filter_eq_self.mpr fun v hv => by
    have z := needS_mem.mp hv
    refine decide_eq_true fun e => (needB_iff.mp z.2).1 ?_
    rw [e, hq v z.1 e]
  have e2 : (List.range n).countP (fun v => deep p v && markB n p xs v) = (List.range n).countP (fun v => deep p v && markB n p (needS n p q) v) := by
    refine List.countP_congr fun v hv => ?_
    have hvn := List.mem_range.mp hv
    rw [Bool.and_eq_true, Bool.and_eq_true]
    have h1 := behind_eq F xs hx v hvn
    have h2 := behind_eq F _ hN v hvn
    rw [need_leads F hq W v hvn, ← he v hvn, h1] at h2
    constructor
    · rintro ⟨d, m⟩
      refine ⟨d, ?_⟩
      rw [if_pos m] at h2
      by_cases z : markB n p (needS n p q) v = true
      · exact z
      · rw [if_neg z] at h2
        exact absurd h2.symm (deep_root F hvn d)
    · rintro ⟨d, m⟩
      refine ⟨d, ?_⟩
      rw [if_pos m] at h2
      by_cases z : markB n p xs v = true
      · exact z
      · rw [if_neg z] at h2
        exact absurd h2 (deep_root F hvn d)
  rw [e1, e2]
  omega
theorem need_lower {n : Nat} {p r : Nat → Nat} (F : Fo n p r) {xs : List Nat} (hx : ∀ x ∈ xs, x < n) : (needS n p (fndAll n xs p)).length ≤ (xs.filter fun v => decide (p v ≠ v)).length := by
  refine nodup_sub (needS_nodup _ _ _) fun v hv => ?_
  have z := needS_mem.mp hv
  refine List.mem_filter.mpr ⟨need_found F hx z.1 z.2, decide_eq_true fun e => (needB_iff.mp z.2).1 ?_⟩
  rw [e, behind_root F hx v z.1 e]
/-- all nodes found flatten a forest -/
theorem all_flat {n : Nat} {p r : Nat → Nat} (F : Fo n p r) (v : Nat) (hv : v < n) : fndAll n (List.range n) p v = root p n v := by
  rw [behind_eq F _ (fun x h => List.mem_range.mp h) v hv]
  by_cases e : p v = v
  · rw [root_of e, e, ite_self]
  · rw [if_pos (mark_iff.mpr ⟨v, List.mem_range.mpr hv, self_ups F hv e⟩)]
theorem deep_flat {n : Nat} {p r : Nat → Nat} (F : Fo n p r) (v : Nat) (hv : v < n) : fndAll n ((List.range n).filter fun v => decide (2 ≤ (ups p n v).length)) p v = root p n v := by
  rw [behind_eq F _ (fun x h => List.mem_range.mp (List.mem_filter.mp h).1) v hv]
  by_cases e : chg p (fun v => root p n v) v = true
  · have nv : p v ≠ v := fun z => (chg_iff.mp e) (by rw [z, root_of z])
    rw [if_pos (mark_iff.mpr ⟨v, List.mem_filter.mpr ⟨List.mem_range.mpr hv, by rw [deep_chg F v hv]; exact e⟩, self_ups F hv nv⟩)]
  · have z : p v = root p n v := Classical.byContradiction fun k => e (chg_iff.mpr k)
    rw [← z, ite_self]
/-- a flattened forest needs nothing more -/
theorem flat_needs {n : Nat} {p r : Nat → Nat} (F : Fo n p r) {q : Nat → Nat} (hq : ∀ v, v < n → q v = root p n v) : needS n q (fun v => root q n v) = [] := by
  refine List.filter_eq_nil_iff.mpr fun v hv h => ?_
  have hvn := List.mem_range.mp hv
  have h1 := (needB_iff.mp h).1
  refine h1 ?_
  have hr := root_lt F v hvn
  have e1 : q (q v) = q v := by rw [hq v hvn, hq _ hr, root_of (root_fix F v hvn)]
  cases n with
  | zero => omega
  | succ m =>
    by_cases e : q v = v
    · rw [root_of e, e]
    · rw [root_step e, root_of e1]
def spFlatW (K : PySem.W.Frag) : Sp := fun vs H Q _ => ∃ (a : Addr) (n : Nat) (p r : Nat → Nat), vs = [.ref a] ∧ SqT K H a (tupOf n p) ∧ n ≤ 60 ∧ Fo n p r ∧
  ∀ (g : Addr) H', (g = a ∨ H g = none) → SqT K H' g (tupOf n (fun v => root p n v)) → Same H H' → Q (.ref g) H'
theorem flat_plain {K : PySem.W.Frag} (vs : List V) (H : Hp) (Q : VK) (E : XK) (h : spFlatW K vs H Q E) : spFlat K vs H Q E := by
  obtain ⟨a, n, p, r, rfl, hS, hn, hF, q⟩ := h
  exact ⟨a, n, p, r, rfl, hS, hn, hF, fun t H' nt ht s => q t H' (.inr nt) (SqT.of ht) s⟩
/-- the class, when it is called -/
structure KSt (P : Program) (w : World) (K : PySem.W.Frag) (mg : Str → Option Value) (base : Heap) (C : Addr) (f : Addr) (fd : FuncData) : Prop where
  mkc : Mk K C f
  ok : FnOk P w K mg base CX0 1 f fd ["self"] (spSI C)
  g : mg "Store" = some (.ref C)
  b : Binds K fd ["self"] []
def flR (K : PySem.W.Frag) (n : Nat) (q : Nat → Nat) (d : Addr) (cost : Int) (H2 : Hp) : Prop := cost = ((costs n (needS n q (fun v => root q n v)) q).sum : Nat) ∧ ∃ g2, H2 d = some (.dK [(oak, V.ref g2)]) ∧ SqT K H2 g2 (tupOf n (fun v => root q n v))
theorem fl_prom {K : PySem.W.Frag} {H : Hp} {fo g : Addr} {n : Nat} {q r : Nat → Nat} (hfo : H fo = some (.dK [(oak, V.ref g)])) (hg : SqT K H g (tupOf n q)) (hn : n ≤ 60) (hF : Fo n q r) (H1 : Hp) (Q' : VK) (s1 : Same H H1)
    (hq' : ∀ t d cost H2, H2 t = some (.tup [.ref d, .int cost]) → Same H1 H2 → flR K n q d cost H2 → Q' (.ref t) H2) : spDoFl K [.ref fo, .str ("oak" : Str)] H1 Q' (fun _ _ _ => False) := by
  refine ⟨fo, g, ("oak" : Str), _, n, q, r, rfl, s1 _ _ hfo, by simp, oak_val _, same_sqt s1 hg, hn, hF, fun t d g2 H2 nt nd hga ht hd hg2 s2 => hq' t d _ H2 ht s2 ⟨rfl, g2, ?_, ?_⟩⟩
  · rw [hd]
    exact congrArg (fun x => some (HO.dK x)) (oak_put2 _ _)
  · rw [tupOf_congr fun v hv => (need_leads hF (fun v hv e => (flat_roots hF v hv).mp e) (flat_way hF) v hv).symm]
    exact hg2
theorem sqt_keep {K : PySem.W.Frag} {H2 H' : Hp} {p pa cl C dx g : Addr} {fs : List (Str × V)} {ys zs xs : List V} (hp : H2 p = some (.ins C dx fs)) (hpa : H2 pa = some (.lst ys)) (hcl : H2 cl = some (.lst zs)) (k : ∀ b o, b ≠ p → b ≠ pa → b ≠ cl → H2 b = some o → H' b = some o) (h : SqT K H2 g xs) : SqT K H' g xs := by
  rcases h with (h | ⟨o, h⟩) | h
  · exact .inl (.inl (k _ _ (ne_of h hp (by intro z; cases z)) (ne_of h hpa (by intro z; cases z)) (ne_of h hcl (by intro z; cases z)) h))
  · exact .inl (.inr ⟨o, k _ _ (ne_of h hp (by intro z; cases z)) (ne_of h hpa (by intro z; cases z)) (ne_of h hcl (by intro z; cases z)) h⟩)
  · exact .inr h
theorem dk_keep {H2 H' : Hp} {p pa cl C dx g : Addr} {fs : List (Str × V)} {ys zs : List V} {kv : List (Key × V)} (hp : H2 p = some (.ins C dx fs)) (hpa : H2 pa = some (.lst ys)) (hcl : H2 cl = some (.lst zs)) (k : ∀ b o, b ≠ p → b ≠ pa → b ≠ cl → H2 b = some o → H' b = some o) (h : H2 g = some (.dK kv)) : H' g = some (.dK kv) :=
  k _ _ (ne_of h hp (by intro z; cases z)) (ne_of h hpa (by intro z; cases z)) (ne_of h hcl (by intro z; cases z)) h
section
variable {P : Program} {w : World} {K : PySem.W.Frag} {mg : Str → Option Value} {base : Heap} {C : Addr}
theorem ok_law {f fI fP fF' dL dA gN gL : Addr} {fd dI dP dF : FuncData} {tN tL : Tok} (F : Fun K "law" "law" sLaw f fd) (T : Tx mg) (TC : StT K C)
    (k1 : Kx P w K mg base 1 "_law_start" sStart ["_law_script"] (spStart K)) (k2 : Kx P w K mg base 5 "_law_some_forest" sSome ["_law_draw", "_law_most"] spSome) (k3 : Kx P w K mg base 3 "_law_nodes" sNodes ["_law_draw", "_law_size_here", "_law_most"] spNodes)
    (k4 : Kx P w K mg base 5 "forest_after" sAfter ["forest", "nodes"] (spAfter K)) (k5 : Kx P w K mg base 5 "total_cost" sTotal ["forest", "nodes"] (spTotal K)) (k6 : Kx P w K mg base 10 "way_cost" sWCost ["one", "other"] (spWayCost K))
    (k7 : Kx P w K mg base 9 "needed_finds" sNeed ["one", "other"] (spNeeded K)) (k8 : Kx P w K mg base 5 "flattened" sFlat ["forest"] (spFlatW K)) (k9 : Kx P w K mg base 10 "flattening_finds" sFlatF ["forest"] (spFlatFinds K))
    (kS : Kx P w K mg base 3 "_law_same" sSame ["_law_found", "_law_due"] (spSame K 2)) (kF : Kx P w K mg base 5 "find_all" sFindAll ["forest", "nodes"] (spFindAll K)) (kD : Kx P w K mg base 5 "deep_nodes" sDeep ["forest"] (spDeep K))
    (kC : KSt P w K mg base C fI dI) (mF : KMs P w K mg base C 2 "forest_of" ["self", "name"] (spSF C) fF' dF) (mP : KMs P w K mg base C 14 "apply" ["self", "command"] (spA1 K w C dL dA (S2 K gN gL) true) fP dP)
    (kA1 : KDct K w dA "new" (.ref gN)) (kA2 : KDct K w dA "flatten" (.ref gL)) (ne12 : gL ≠ gN) (nL1 : PySem.W.nsIn K dL "new" = some (some (.int 3 tN))) (nL2 : PySem.W.nsIn K dL "flatten" = some (some (.int 2 tL))) :
    FnOk P w K mg base CX0 16 f fd ["_law_script"] (spLaw K) := by
  obtain ⟨_, _, k1⟩ := k1
  obtain ⟨_, _, k2⟩ := k2
  obtain ⟨_, _, k3⟩ := k3
  obtain ⟨_, _, k4⟩ := k4
  obtain ⟨_, _, k5⟩ := k5
  obtain ⟨_, _, k6⟩ := k6
  obtain ⟨_, _, k7⟩ := k7
  obtain ⟨_, _, k8⟩ := k8
  obtain ⟨_, _, k9⟩ := k9
  obtain ⟨_, _, kS⟩ := kS
  obtain ⟨_, _, kF⟩ := kF
  obtain ⟨_, _, kD⟩ := kD
  refine F.ok scLaw (fun vs H Q E h => ?_) (fun cdv A outer s H vs Q E hr h => ?_)
  · obtain ⟨a, ns, rfl, _⟩ := h
    rfl
  · obtain ⟨a, ns, rfl, hS, hlen, q⟩ := h
    have hrm : ∀ {j : Nat}, j ≤ 15 → Room j (A.deeper (envOfC "law" (defScope sLaw) s.heap.objs.size f cdv)) := fun h => hr.mono h
    have hrU := hr.units
    refine ⟨_, (pss_cons (ps_set (i := 1) scLaw.nd rfl (.inl rfl) (pe_call k1.G (hrm (by decide)) (by rfl) k1.g k1.F.kp k1.b .nil pass0 (pa_cons (pv 0) pa_nil)))
      (pss_cons (ps_for PassesOwn.never rfl (pi_range1 (by rfl) T.range (pa_cons pe_int pa_nil)) (pg_name (i := 2) scLaw.nd rfl (.inl rfl))
        (pss_cons (ps_set (i := 3) scLaw.nd rfl (.inr rfl) (pe_call k2.G (hrm (by decide)) (by rfl) k2.g k2.F.kp k2.b .nil pass0 (pa_cons (pv 1) (pa_cons pe_int pa_nil))))
        (pss_cons (ps_set (i := 4) scLaw.nd rfl (.inl rfl) (pe_callB call_len_seq (by rfl) T.len PySem.boot_len (pa_cons (pv 3) pa_nil)))
        (pss_cons (ps_set (i := 5) scLaw.nd rfl (.inl rfl) (pe_call k3.G (hrm (by decide)) (by rfl) k3.g k3.F.kp k3.b .nil pass0 (pa_cons (pv 1) (pa_cons (pv 4) (pa_cons pe_int pa_nil)))))
        (pss_cons (ps_set (i := 6) scLaw.nd rfl (.inl rfl) (pe_call k4.G (hrm (by decide)) (by rfl) k4.g k4.F.kp k4.b .nil pass0 (pa_cons (pv 3) (pa_cons (pv 5) pa_nil))))
        (pss_cons (ps_setLc (i := 7) (own := [("_law_node", 8)]) (g := gName 8) (by rfl) scLaw.nd rfl rfl (sw_true rfl rfl rfl (by decide +kernel)) (pi_list (pv 5)) (blkOk_by (own := [("_law_node", 8)]) (N := lawN) (sc := defScope sLaw) (by decide +kernel)) (fun _ _ _ _ _ => (pg_name (i := 8) scLaw.nd rfl (.inl rfl))) (fun _ _ _ _ _ => (pts_one (pt_cmpR op_ne (pe_ix (show IxR _ (rIx K) from ix_seq) (pv 3) (pv 8) (fun _ _ => rfl)) (pv 8) (nomark _)))) (fun _ _ _ _ _ => (pv 8)))
        (pss_cons (ps_if (pt_cmpR op_ne (pe_op op_sub (pe_call k5.G (hrm (by decide)) (by rfl) k5.g k5.F.kp k5.b .nil pass0 (pa_cons (pv 3) (pa_cons (pv 5) pa_nil))) (pe_call k6.G (hrm (by decide)) (by rfl) k6.g k6.F.kp k6.b .nil pass0 (pa_cons (pv 3) (pa_cons (pv 6) pa_nil)))) (pe_op op_sub (pe_callB call_len_seq (by rfl) T.len PySem.boot_len (pa_cons (pv 7) pa_nil)) (pe_callB call_len_seq (by rfl) T.len PySem.boot_len (pa_cons (pe_call k7.G (hrm (by decide)) (by rfl) k7.g k7.F.kp k7.b .nil pass0 (pa_cons (pv 3) (pa_cons (pv 6) pa_nil))) pa_nil))) (nomark _))
          (pss_one (ps_ret pe_bl)) pss_nil)
        (pss_cons (ps_if (pt_cmpR op_lt (pe_call k5.G (hrm (by decide)) (by rfl) k5.g k5.F.kp k5.b .nil pass0 (pa_cons (pv 3) (pa_cons (pv 5) pa_nil))) (pe_call k6.G (hrm (by decide)) (by rfl) k6.g k6.F.kp k6.b .nil pass0 (pa_cons (pv 3) (pa_cons (pv 6) pa_nil))) (nomark _))
          (pss_one (ps_ret pe_bl)) pss_nil)
        (pss_cons (ps_par (i := 9) (j := 10) (by rfl) scLaw.nd rfl rfl (by decide) rfl rfl (pa_cons (pe_call k8.G (hrm (by decide)) (by rfl) k8.g k8.F.kp k8.b .nil pass0 (pa_cons (pv 3) pa_nil)) (pa_cons (pe_call k9.G (hrm (by decide)) (by rfl) k9.g k9.F.kp k9.b .nil pass0 (pa_cons (pv 3) pa_nil)) pa_nil)) (by rfl))
        (pss_cons (ps_setLc (i := 11) (own := [("_law_node", 8)]) (g := gName 8) (by rfl) scLaw.nd rfl rfl (sw_true rfl rfl rfl (by decide +kernel)) (pi_range1 (by rfl) T.range (pa_cons (pv 4) pa_nil)) (blkOk_by (own := [("_law_node", 8)]) (N := lawN) (sc := defScope sLaw) (by decide +kernel)) (fun _ _ _ _ _ => (pg_name (i := 8) scLaw.nd rfl (.inl rfl))) (fun _ _ _ _ _ => (pts_one (pt_cmpR op_ne (pe_ix (show IxR _ (rIx K) from ix_seq) (pv 3) (pv 8) (fun _ _ => rfl)) (pv 8) (nomark _)))) (fun _ _ _ _ _ => (pv 8)))
        (pss_cons (ps_if (pt_cmpR op_ne (pe_op op_sub (pe_call k5.G (hrm (by decide)) (by rfl) k5.g k5.F.kp k5.b .nil pass0 (pa_cons (pv 3) (pa_cons (pe_listRg rfl (by rfl) T.list (prg_1 (by rfl) T.range (pv 4))) pa_nil))) (pe_call k6.G (hrm (by decide)) (by rfl) k6.g k6.F.kp k6.b .nil pass0 (pa_cons (pv 3) (pa_cons (pv 9) pa_nil)))) (pe_op op_sub (pe_callB call_len_seq (by rfl) T.len PySem.boot_len (pa_cons (pv 11) pa_nil)) (pe_callB call_len_seq (by rfl) T.len PySem.boot_len (pa_cons (pv 10) pa_nil))) (nomark _))
          (pss_one (ps_ret pe_bl)) pss_nil)
        (pss_cons (ps_set (i := 12) scLaw.nd rfl (.inl rfl) (pe_make0 kC.mkc kC.ok (hrm (by decide)) (by rfl) kC.g kC.b .nil pass0))
        (pss_cons (ps_expr (pe_meth (pv 12) TC.cl mP.mt mP.ok (hrm (by decide)) mP.b .nil pass0 (pa_cons (pe_tup (pa_cons pe_str (pa_cons pe_str (pa_cons (pv 3) pa_nil)))) pa_nil)))
        (pss_cons (ps_if (pt_not (pt_val (pe_call kS.G (hrm (by decide)) (by rfl) kS.g kS.F.kp kS.b .nil pass0 (pa_cons (pe_lst (pa_cons (pe_meth (pv 12) TC.cl mP.mt mP.ok (hrm (by decide)) mP.b .nil pass0 (pa_cons (pe_tup (pa_cons pe_str (pa_cons pe_str pa_nil))) pa_nil)) (pa_cons (pe_meth (pv 12) TC.cl mF.mt mF.ok (hrm (by decide)) mF.b .nil pass0 (pa_cons pe_str pa_nil)) pa_nil))) (pa_cons (pe_lst (pa_cons (pe_call k6.G (hrm (by decide)) (by rfl) k6.g k6.F.kp k6.b .nil pass0 (pa_cons (pv 3) (pa_cons (pv 9) pa_nil))) (pa_cons (pv 9) pa_nil))) pa_nil)))))
          (pss_one (ps_ret pe_bl)) pss_nil)
        (pss_cons (ps_if (PW.pt (pw_or (pt_cmpR op_ne (pe_meth (pv 12) TC.cl mP.mt mP.ok (hrm (by decide)) mP.b .nil pass0 (pa_cons (pe_tup (pa_cons pe_str (pa_cons pe_str pa_nil))) pa_nil)) pe_int (nomark _)) (pw_or1 (pt_cmpR (op_neD hrU) (pe_ix (show IxR _ (rIx K) from ix_seq) (pe_call kF.G (hrm (by decide)) (by rfl) kF.g kF.F.kp kF.b .nil pass0 (pa_cons (pv 3) (pa_cons (pv 10) pa_nil))) pe_int (fun _ _ => rfl)) (pv 9) (nomark _)))))
          (pss_one (ps_ret pe_bl)) pss_nil)
        (pss_one (ps_if (pt_cmpR (op_neD hrU) (pe_call k4.G (hrm (by decide)) (by rfl) k4.g k4.F.kp k4.b .nil pass0 (pa_cons (pv 3) (pa_cons (pe_call kD.G (hrm (by decide)) (by rfl) kD.g kD.F.kp kD.b .nil pass0 (pa_cons (pv 3) pa_nil)) pa_nil))) (pv 9) (nomark _))
          (pss_one (ps_ret pe_bl)) pss_nil)))))))))))))))))
      (pss_one (ps_ret pe_bl)))), ?_⟩
    refine ⟨_, rfl, a, ns, rfl, hS, hlen, fun d l H0 nd hD0 s0 => ?_⟩
    refine ⟨_, rfl, by decide, by decide, ?_⟩
    refine for_range (lo := 0) (n := 3) (fun i σ H' => (∃ y2 y3 y4 y5 y6 y7 y8 y9 y10 y11 y12, σ = [some (.ref a), some (.ref d), y2, y3, y4, y5, y6, y7, y8, y9, y10, y11, y12]) ∧ DrawAt H' d l) ⟨⟨_, _, _, _, _, _, _, _, _, _, _, rfl⟩, hD0⟩ ?_ ?_
    · rintro i σ H' hi ⟨⟨y2, y3, y4, y5, y6, y7, y8, y9, y10, y11, y12, rfl⟩, hD⟩
      refine ⟨_, rfl, d, l, 40, rfl, hD, by decide, fun t n p r H1 hn nt ht hF hD1 sb1 => ?_⟩
      have ntd := hD1.net ht
      refine ⟨_, rfl, t, _, rfl, .inr (SqT.of ht), ?_⟩
      rw [tupOf_len]
      refine ⟨_, rfl, _, rfl, d, l, n, 20, rfl, hD1, by omega, by decide, fun na xs H2 nna hna hxs hxl hD2 sb2 => ?_⟩
      have ht2 := sb2 _ _ ntd ht
      have nad : na ≠ d := hD1.ne nna
      clear sb1 sb2 s0 hD1 hD hD0
      refine ⟨_, rfl, _, rfl, t, na, n, p, r, xs, rfl, .inr (SqT.of ht2), SqL.of hna, by omega, by omega, hF, hxs, fun g H3 ng hg s3 => ?_⟩
      have ht3 := s3 _ _ ht2
      have hna3 := s3 _ _ hna
      have hD3 := hD2.same s3
      have hFb : Fo n (fndAll n xs p) r := fndAll_fo hF xs hxs p hF
      have W : Way n p (fndAll n xs p) := way_behind hF hxs
      have hro : ∀ v, v < n → (p v = v ↔ fndAll n xs p v = v) := fun v hv => behind_roots hF hxs v hv
      have hq : ∀ v, v < n → p v = v → fndAll n xs p v = v := fun v hv e => (hro v hv).mp e
      have PR3 : Pair K H3 t g n p (fndAll n xs p) r r := ⟨SqT.of ht3, SqT.of hg, by omega, hF, hFb, hro⟩
      refine ⟨_, rfl, na, rfl, ⟨_, SqL.of hna3⟩, fun D nD => ?_⟩
      refine lc_list (K := K) (a := na) (xs := natsV xs) (fun j H' => H' D = some (.lst (natsV ((xs.take j).filter fun v => decide (p v ≠ v)))) ∧ Same H3 H') ⟨upd_same, same_new nD⟩ (fun j H' _ h => SqL.of (h.2 _ _ hna3)) ?_ ?_
      · rintro j v H' hv ⟨hD', s'⟩
        unfold natsV at hv
        rw [List.getElem?_map] at hv
        obtain ⟨u, hu, rfl⟩ := Option.map_eq_some_iff.mp hv
        have hun : u < n := hxs u (List.mem_of_getElem? hu)
        obtain ⟨f1, f2, f3⟩ := filt_turnL (g := fun v => decide (p v ≠ v)) hu (by omega) hD'
        refine ⟨rfl, _, rfl, _, rfl, ?_⟩
        refine Sq.ix (.inr (SqT.of (s' _ _ ht3))) (tup_at hun) ?_
        refine ⟨_, rfl, rfl, ?_⟩
        refine ⟨_, rfl, ?_⟩
        rw [ne_dec]
        cases hc : decide (p u ≠ u) with
        | true => exact iteT ⟨_, rfl, _, hD', f1, f2 hc _ rfl, same_over s' nD⟩
        | false => exact iteF ⟨f3 hc, s'⟩
      rintro H4 ⟨hD4', s4⟩
      rw [natsV_len, List.take_length] at hD4'
      have hD4 := hD3.same s4
      have hdd : D ≠ d := hD3.ne nD
      refine ⟨_, rfl, _, rfl, t, na, n, p, r, xs, rfl, .inr (SqT.of (s4 _ _ ht3)), SqL.of (s4 _ _ hna3), by omega, by omega, hF, hxs, fun H5 s5 => ?_⟩
      have PR5 := (PR3.same s4).same s5
      refine ⟨_, rfl, _, rfl, t, g, n, p, _, r, r, rfl, PR5, W, fun H6 s6 => ?_⟩
      have s46 := s5.trans s6
      refine ⟨_, _, rfl, rfl, _, rfl, D, _, rfl, .inl (SqL.of (s46 _ _ hD4')), _, rfl, _, rfl, t, g, n, p, _, r, r, rfl, PR5.same s6, W, fun nd6 H7 nnd hnd s7 => ?_⟩
      refine ⟨nd6, _, rfl, .inl (SqL.of hnd), _, _, rfl, rfl, rfl, _, rfl, ?_⟩
      show if (!decide (V.int (((costs n xs p).sum : Nat) - ((costs n (needS n p (fndAll n xs p)) p).sum : Nat) : Int) = V.int (((natsV (xs.filter fun v => decide (p v ≠ v))).length : Nat) - ((natsV (needS n p (fndAll n xs p))).length : Nat) : Int))) = true then _ else _
      rw [natsV_len, natsV_len]
      have wt := way_tot hF hxs hq W (fun v _ => rfl)
      have lw := need_lower hF hxs
      rw [show ((((costs n xs p).sum : Nat) - ((costs n (needS n p (fndAll n xs p)) p).sum : Nat) : Int)) = (((xs.filter fun v => decide (p v ≠ v)).length : Nat) - ((needS n p (fndAll n xs p)).length : Nat) : Int) by omega, decide_eq_true rfl]
      refine iteF ?_
      have s47 := s46.trans s7
      have PR7 := PR5.same (s6.trans s7)
      refine ⟨_, rfl, _, rfl, t, na, n, p, r, xs, rfl, .inr PR7.sa, SqL.of (s47 _ _ (s4 _ _ hna3)), by omega, by omega, hF, hxs, fun H8 s8 => ?_⟩
      refine ⟨_, rfl, _, rfl, t, g, n, p, _, r, r, rfl, PR7.same s8, W, fun H9 s9 => ?_⟩
      refine ⟨_, _, rfl, rfl, _, rfl, ?_⟩
      rw [decide_eq_false (show ¬ (((costs n xs p).sum : Nat) : Int) < (((costs n (needS n p (fndAll n xs p)) p).sum : Nat) : Int) by omega)]
      refine iteF ?_
      have s49 := s47.trans (s8.trans s9)
      have ht9 := (s4.trans s49) _ _ ht3
      have hD9 := hD4.same s49
      clear hD4 s8 s9 s7 s46 s5 s6 s47 s49 PR5 PR7 PR3 hD3 s3 hD2
      refine ⟨_, rfl, t, n, p, r, rfl, SqT.of ht9, by omega, hF, fun fl H10 hfl0 hfl s10 => ?_⟩
      refine ⟨_, rfl, t, n, p, r, rfl, same_sqt s10 (SqT.of ht9), by omega, hF, fun ff H11 nff hff s11 => ?_⟩
      refine ⟨_, _, rfl, ?_⟩
      refine ⟨_, rfl, _, rfl, by omega, by omega, fun D2 nD2 => ?_⟩
      have s911 := s10.trans s11
      have ht11 := s911 _ _ ht9
      have hfl11 := same_sqt s11 hfl
      refine lc_range (lo := 0) (n := ((n : Nat) : Int).toNat) (fun j H' => H' D2 = some (.lst (natsV ((List.range j).filter fun v => decide (p v ≠ v)))) ∧ Same H11 H') ⟨upd_same, same_new nD2⟩ ?_ ?_
      · rintro j H' hj ⟨hD', s'⟩
        have hjn : j < n := by omega
        refine ⟨rfl, _, rfl, _, rfl, ?_⟩
        obtain ⟨f1, f2, f3⟩ := filt_turn (k := j) (g := fun v => decide (p v ≠ v)) (by omega) hD'
        refine Sq.ix (.inr (SqT.of (s' _ _ ht11))) (show atI (tupOf n p) (0 + (j : Int)) = some (vi (p j)) by rw [Int.zero_add]; exact tup_at hjn) ?_
        refine ⟨_, rfl, rfl, ?_⟩
        refine ⟨_, rfl, ?_⟩
        rw [show (!decide (vi (p j) = V.int (0 + (j : Int)))) = decide (p j ≠ j) by rw [Int.zero_add]; exact ne_dec _ _]
        cases hc : decide (p j ≠ j) with
        | true => exact iteT ⟨_, rfl, _, hD', f1, f2 hc _ (by rw [Int.zero_add]), same_over s' nD2⟩
        | false => exact iteF ⟨f3 hc, s'⟩
      rintro H12 ⟨hD2', s12⟩
      rw [show ((n : Nat) : Int).toNat = n by omega] at hD2'
      have ht12 := s12 _ _ ht11
      have hfl12 := same_sqt s12 hfl11
      have hff12 := s12 _ _ hff
      have hD12 := (hD9.same s911).same s12
      have FN : Fo n (fun v => root p n v) r := flat_fo hF
      have PR12 : Pair K H12 t fl n p (fun v => root p n v) r r := ⟨SqT.of ht12, hfl12, by omega, hF, FN, fun v hv => flat_roots hF v hv⟩
      have WF := flat_way hF
      refine ⟨_, rfl, _, rfl, _, rfl, rgOk_nat (by omega), fun lr nlr => ?_⟩
      rw [rgV_nat]
      have sr := same_new (o := .lst (natsV (List.range n))) nlr
      have hlr : upd H12 lr (.lst (natsV (List.range n))) lr = some (.lst (natsV (List.range n))) := upd_same
      generalize upd H12 lr (.lst (natsV (List.range n))) = H13 at sr hlr ⊢
      have hrg : ∀ x ∈ List.range n, x < n := fun x hx => List.mem_range.mp hx
      refine ⟨t, lr, n, p, r, List.range n, rfl, .inr (SqT.of (sr _ _ ht12)), SqL.of hlr, by omega, by rw [List.length_range]; omega, hF, hrg, fun H14 s14 => ?_⟩
      have PR14 := (PR12.same sr).same s14
      refine ⟨_, rfl, _, rfl, t, fl, n, p, _, r, r, rfl, PR14, WF, fun H15 s15 => ?_⟩
      have s13 := (sr.trans s14).trans s15
      refine ⟨_, _, rfl, rfl, _, rfl, D2, _, rfl, .inl (SqL.of (s13 _ _ hD2')), _, rfl, ff, _, rfl, .inl (SqL.of (s13 _ _ hff12)), _, _, rfl, rfl, rfl, _, rfl, ?_⟩
      rw [natsV_len, natsV_len]
      have wt2 : (costs n (List.range n) p).sum + (needS n p (fun v => root p n v)).length = (costs n (needS n p (fun v => root p n v)) p).sum + ((List.range n).filter fun v => decide (p v ≠ v)).length := way_tot hF hrg (fun v hv e => (flat_roots hF v hv).mp e) WF (fun v hv => all_flat hF v hv)
      show if (!decide (V.int (((costs n (List.range n) p).sum : Nat) - ((costs n (needS n p (fun v => root p n v)) p).sum : Nat) : Int) = V.int ((((List.range n).filter fun v => decide (p v ≠ v)).length : Nat) - ((needS n p (fun v => root p n v)).length : Nat) : Int))) = true then _ else _
      rw [show ((((costs n (List.range n) p).sum : Nat) - ((costs n (needS n p (fun v => root p n v)) p).sum : Nat) : Int)) = ((((List.range n).filter fun v => decide (p v ≠ v)).length : Nat) - ((needS n p (fun v => root p n v)).length : Nat) : Int) by omega, decide_eq_true rfl]
      refine iteF ?_
      have ht15 := s13 _ _ ht12
      have hfl15 := same_sqt s13 hfl12
      have hff15 := s13 _ _ hff12
      have hD15 := hD12.same s13
      clear sr s14 s15 s13 hlr PR14 hfl12 hff12 hD12 hfl11
      refine fun sp dx nsp ndx hdx => ?_
      have s16 : Same H15 (upd (upd H15 dx (.own sp)) sp (.ins C dx [])) := same_new2 ndx nsp hdx
      refine ⟨sp, dx, rfl, upd_same, fun fo pa fu wa te fs H17 nfo npa nfu nwa nte npf nwt nfw nft hp17 hF17 hfo17 hpa17 hfu17 hwa17 hte17 sx => ⟨rfl, ?_⟩⟩
      have s17 : Same H15 H17 := fun b o hb => sx b o (s16 b o hb) (fun e => by rw [e, nsp] at hb; cases hb)
      replace npa : H15 pa = none := sm_none s16 npa
      replace nfo : H15 fo = none := sm_none s16 nfo
      clear sx s16
      refine ⟨_, rfl, sp, dx, fs, rfl, hp17, hF17.no _ (by decide +kernel), _, rfl, three_sz, fun c nc => ?_⟩
      have sc := same_new (o := .tup [V.str ("new" : Str), V.str ("oak" : Str), V.ref t]) nc
      have hc : upd H17 c (.tup [V.str ("new" : Str), V.str ("oak" : Str), V.ref t]) c = some (.tup [V.str ("new" : Str), V.str ("oak" : Str), V.ref t]) := upd_same
      generalize upd H17 c (.tup [V.str ("new" : Str), V.str ("oak" : Str), V.ref t]) = H18 at sc hc ⊢
      have hn40 : n ≤ 40 := hn
      refine ⟨sp, dx, fo, pa, fu, wa, te, sp, c, gN, fs, 0, 0, [], ("new" : Str), [V.str ("oak" : Str), V.ref t], tN, spDoNew K, fun d' cost H' => cost = 0 ∧ H' d' = some (.dK [(oak, V.ref t)]), if_pos rfl ▸ rfl, sc _ _ hp17, hF17, sc _ _ hpa17, by simp, SqT.of hc, nL1, kA1, if_pos rfl, fun H19 Q' s19 hq' => ?_, fun cl fu2 t2 d2 cost fs2 H20 H21 s20 hR hp21 hF21 hpa21 ht21 hfu21 nfu21 hcl21 ncl hcl20 ncf k21 => ?_⟩
      · refine ⟨fo, t, ("oak" : Str), [], intsOf n p, rfl, s19 _ _ (sc _ _ hfo17), oak_len, oak_nm, rfl, by simp, ?_, fo_ver hF hn40, ?_, fun t' p' H22 nt' np' ht' hp' s22 => hq' t' p' 0 H22 ht' s22 ⟨rfl, hp'⟩⟩
        · rw [← tupOf_ints]
          exact SqT.of (s19 _ _ (sc _ _ (s17 _ _ ht15)))
        · unfold intsOf
          rw [List.length_map, List.length_range]
          omega
      obtain ⟨rfl, hd2⟩ := hR
      have s21 : Same H15 H21 := sm_step (s17.trans sc) nsp npa ncl s20 k21
      have e1 : d2 ≠ sp := ne_of hd2 (s20 _ _ (sc _ _ hp17)) (by intro z; cases z)
      have e2 : d2 ≠ pa := ne_of hd2 (s20 _ _ (sc _ _ hpa17)) (by intro z; cases z)
      have e3 : d2 ≠ cl := ne_of hd2 hcl20 (by intro z; cases z)
      replace hd2 := k21 _ _ e1 e2 e3 hd2
      clear k21 s20 sc hcl20 hcl21 ncf ht21 hfu21 nfu21 hc hp17 hF17 hfo17 hpa17 hfu17 hwa17 hte17
      have ht21 := s21 _ _ ht15
      refine ⟨_, rfl, sp, dx, fs2, rfl, hp21, hF21.no _ (by decide +kernel), two_sz, fun c nc => ?_⟩
      have sc := same_new (o := .tup [V.str ("flatten" : Str), V.str ("oak" : Str)]) nc
      have hc : upd H21 c (.tup [V.str ("flatten" : Str), V.str ("oak" : Str)]) c = some (.tup [V.str ("flatten" : Str), V.str ("oak" : Str)]) := upd_same
      generalize upd H21 c (.tup [V.str ("flatten" : Str), V.str ("oak" : Str)]) = H22 at sc hc ⊢
      refine ⟨sp, dx, d2, pa, fu2, wa, te, sp, c, gL, fs2, _, _, _, ("flatten" : Str), [V.str ("oak" : Str)], tL, spDoFl K, flR K n p, if_pos rfl ▸ rfl, sc _ _ hp21, hF21, sc _ _ hpa21, by simp, SqT.of hc, nL2, kA2, (if_neg ne12).trans (if_pos rfl), fun H19 Q' s19 hq' => fl_prom (sc _ _ hd2) (SqT.of (sc _ _ ht21)) (by omega) hF H19 Q' s19 hq', fun cl fu3 t3 d3 cost fs3 H23 H24 s23 hR hp24 hF24 hpa24 ht24 hfu24 nfu24 hcl24 ncl hcl23 ncf k24 => ?_⟩
      rw [if_pos (rfl : true = true)]
      obtain ⟨rfl, g2, hd3, hg2⟩ := hR
      have s24 : Same H15 H24 := sm_step (s21.trans sc) nsp npa ncl s23 k24
      have hp23 := s23 _ _ (sc _ _ hp21)
      have hpa23 := s23 _ _ (sc _ _ hpa21)
      replace hg2 := sqt_keep hp23 hpa23 hcl23 k24 hg2
      replace hd3 := dk_keep hp23 hpa23 hcl23 k24 hd3
      clear k24 s23 sc hcl23 hcl24 ncf ht24 hfu24 nfu24 hc hp21 hF21 hpa21 hd2 hp23 hpa23 ncl s21 e1 e2 e3
      refine ⟨_, rfl, sp, dx, fs3, rfl, hp24, hF24.no _ (by decide +kernel), sp, dx, d3, pa, fu3, wa, te, fs3, _, _, ("oak" : Str), _, V.ref g2, rfl, hp24, hF24, hd3, oak_val _, two_sz, fun L1 nL1' => ?_⟩
      have s25 := same_new (o := .lst [V.int ((costs n (needS n p (fun v => root p n v)) p).sum : Nat), V.ref g2]) nL1'
      have hL1 : upd H24 L1 (.lst [V.int ((costs n (needS n p (fun v => root p n v)) p).sum : Nat), V.ref g2]) L1 = some (.lst [V.int ((costs n (needS n p (fun v => root p n v)) p).sum : Nat), V.ref g2]) := upd_same
      generalize upd H24 L1 (.lst [V.int ((costs n (needS n p (fun v => root p n v)) p).sum : Nat), V.ref g2]) = H25 at s25 hL1 ⊢
      have PR25 : Pair K H25 t fl n p (fun v => root p n v) r r := ⟨SqT.of (s25 _ _ (s24 _ _ ht15)), same_sqt s25 (same_sqt s24 hfl15), by omega, hF, FN, fun v hv => flat_roots hF v hv⟩
      refine ⟨_, rfl, _, rfl, t, fl, n, p, _, r, r, rfl, PR25, WF, fun H26 s26 => ?_⟩
      refine ⟨_, rfl, two_sz, fun L2 nL2' => ?_⟩
      have s27 := same_new (o := .lst [vi (costs n (needS n p (fun v => root p n v)) p).sum, V.ref fl]) nL2'
      have hL2 : upd H26 L2 (.lst [vi (costs n (needS n p (fun v => root p n v)) p).sum, V.ref fl]) L2 = some (.lst [vi (costs n (needS n p (fun v => root p n v)) p).sum, V.ref fl]) := upd_same
      generalize upd H26 L2 (.lst [vi (costs n (needS n p (fun v => root p n v)) p).sum, V.ref fl]) = H27 at s27 hL2 ⊢
      have s2427 := (s25.trans s26).trans s27
      have hg27 : SqT K H27 g2 ((intsOf n (fun v => root p n v)).map V.int) := by rw [← tupOf_ints]; exact same_sqt s2427 hg2
      have hf27 : SqT K H27 fl ((intsOf n (fun v => root p n v)).map V.int) := by rw [← tupOf_ints]; exact same_sqt s2427 (same_sqt s24 hfl15)
      refine ⟨.ref L1, .ref L2, .list [.int ((costs n (needS n p (fun v => root p n v)) p).sum : Nat), .tuple ((intsOf n (fun v => root p n v)).map PyData.int)], rfl,
          .lst (SqL.of ((s26.trans s27) _ _ hL1)) (.cons (.int _) (.cons (.tup hg27 (dpAll_ints _)) .nil)), .lst (SqL.of hL2) (.cons (.int _) (.cons (.tup hf27 (dpAll_ints _)) .nil)),
          .lst (by show 2 ≤ 1000; decide) (fun d hd => ?_), fun H28 s28 => ?_⟩
      · rcases List.mem_cons.mp hd with z | z
        · rw [z]; exact .int _ _
        · rw [List.mem_singleton.mp z]
          refine .tup (by rw [List.length_map]; unfold intsOf; rw [List.length_map, List.length_range]; omega) fun d hd => ?_
          obtain ⟨i, _, e⟩ := List.mem_map.mp hd
          rw [← e]; exact .int _ _
      refine ⟨_, rfl, ?_⟩
      refine iteF ?_
      have s2428 := s2427.trans s28
      have hp28 := s2428 _ _ hp24
      have hpa28 := s2428 _ _ hpa24
      have hd28 := s2428 _ _ hd3
      have hg28 := same_sqt s2428 hg2
      have s28' := s24.trans s2428
      clear s2428 s2427 s28 s27 s26 s25 hL1 hL2 PR25 hg27 hf27 hp24 hpa24 hd3 hg2 nL1' nL2' s24
      refine ⟨_, rfl, sp, dx, fs3, rfl, hp28, hF24.no _ (by decide +kernel), two_sz, fun c nc => ?_⟩
      have sc := same_new (o := .tup [V.str ("flatten" : Str), V.str ("oak" : Str)]) nc
      have hc : upd H28 c (.tup [V.str ("flatten" : Str), V.str ("oak" : Str)]) c = some (.tup [V.str ("flatten" : Str), V.str ("oak" : Str)]) := upd_same
      generalize upd H28 c (.tup [V.str ("flatten" : Str), V.str ("oak" : Str)]) = H29 at sc hc ⊢
      refine ⟨sp, dx, d3, pa, fu3, wa, te, sp, c, gL, fs3, _, _, _, ("flatten" : Str), [V.str ("oak" : Str)], tL, spDoFl K, flR K n (fun v => root p n v), if_pos rfl ▸ rfl, sc _ _ hp28, hF24, sc _ _ hpa28, by simp, SqT.of hc, nL2, kA2, (if_neg ne12).trans (if_pos rfl), fun H19 Q' s19 hq' => fl_prom (sc _ _ hd28) (same_sqt sc hg28) (by omega) FN H19 Q' s19 hq', fun cl fu4 t4 d4 cost fs4 H30 H31 s30 hR hp31 hF31 hpa31 ht31 hfu31 nfu31 hcl31 ncl hcl30 ncf k31 => ?_⟩
      rw [if_pos (rfl : true = true)]
      obtain ⟨rfl, g4, hd4, hg4⟩ := hR
      have s31 : Same H15 H31 := sm_step (s28'.trans sc) nsp npa ncl s30 k31
      clear k31 s30 sc hcl30 hcl31 ncf ht31 hfu31 nfu31 hc hp28 hF24 hpa28 hd28 ncl s28' hg28 hg4 hd4
      refine ⟨rfl, ?_⟩
      have e0 : ((costs n (needS n (fun v => root p n v) (fun v => root (fun v => root p n v) n v)) (fun v => root p n v)).sum : Nat) = 0 := by
        rw [flat_needs hF (q := fun v => root p n v) fun v _ => rfl]
        rfl
      rw [e0]
      refine ⟨_, rfl, ?_⟩
      show if (!decide (V.int ((0 : Nat) : Int) = V.int 0)) = true then _ else _
      rw [decide_eq_true (show V.int ((0 : Nat) : Int) = V.int 0 from rfl)]
      refine iteF ?_
      have hN : ∀ x ∈ needS n p (fun v => root p n v), x < n := fun x h => (needS_mem.mp h).1
      have hNl := needS_len n p (fun v => root p n v)
      refine ⟨_, rfl, _, rfl, t, ff, n, p, r, needS n p (fun v => root p n v), rfl, SqT.of (s31 _ _ ht15), SqL.of (s31 _ _ hff15), by omega, by omega, hF, hN, fun t5 g5 c5 H32 nt5 nc5 hga5 ht5 hg5 hc5 s32 => ?_⟩
      refine Sq.ix (.inr (SqT.of ht5)) (show atI [V.ref g5, V.ref c5] ((0 : Nat) : Int) = some (V.ref g5) from atI_nat rfl) ?_
      have hf32 : SqT K H32 fl ((intsOf n (fun v => root p n v)).map V.int) := by rw [← tupOf_ints]; exact same_sqt (s31.trans s32) hfl15
      have hg32 : SqT K H32 g5 ((intsOf n (fun v => root p n v)).map V.int) := by
        rw [← tupOf_ints, tupOf_congr fun v hv => (need_leads hF (fun v hv e => (flat_roots hF v hv).mp e) (flat_way hF) v hv).symm]
        exact hg5
      refine ⟨_, rfl, _, _, .tup hg32 (dpAll_ints _), .tup hf32 (dpAll_ints _), shaped_tup _, shaped_tup _, _, rfl, ?_⟩
      rw [eqv_tup]
      refine iteF ?_
      have ht32 := (s31.trans s32) _ _ ht15
      refine ⟨_, rfl, _, rfl, t, n, p, r, rfl, SqT.of ht32, by omega, hF, fun dn H33 ndn hdn s33 => ?_⟩
      have hdl : ((List.range n).filter fun v => decide (2 ≤ (ups p n v).length)).length ≤ n := Nat.le_trans (List.length_filter_le _ _) (by rw [List.length_range]; exact Nat.le_refl _)
      refine ⟨t, dn, n, p, r, _, rfl, .inr (SqT.of (s33 _ _ ht32)), SqL.of hdn, by omega, by omega, hF, fun x hx => List.mem_range.mp (List.mem_filter.mp hx).1, fun fa H34 nfa hfa s34 => ?_⟩
      have hf34 := same_sqt (s33.trans s34) hf32
      have hg34 : SqT K H34 fa ((intsOf n (fun v => root p n v)).map V.int) := by
        rw [← tupOf_ints, tupOf_congr fun v hv => (deep_flat hF v hv).symm]
        exact SqT.of hfa
      refine ⟨_, rfl, _, _, .tup hg34 (dpAll_ints _), .tup hf34 (dpAll_ints _), shaped_tup _, shaped_tup _, _, rfl, ?_⟩
      rw [eqv_tup]
      refine iteF ?_
      exact ⟨⟨_, _, _, _, _, _, _, _, _, _, _, rfl⟩, hD15.same (((s31.trans s32).trans s33).trans s34)⟩
    · rintro σ H1 ⟨⟨y2, y3, y4, y5, y6, y7, y8, y9, y10, y11, y12, rfl⟩, hD1⟩
      exact q _
end
end Ff

/-! The head by one kernel run: what is looked at behind the top. -/
namespace He
open PySem PySem.Spec PyProof.Rows L2
/-- all addresses below n, the newest first -/
def asM (_ : Addr → Option Obj) (n : Nat) : List Addr := mainGlobals :: cStatics :: (List.range n).reverse
def obsM (n : Nat) (fn : List DefD) (ts : List Tab) (tf : List Defn) (ex : PySem.W.Frag → Bool) (g : Addr → Option Obj) : AlX := (obsT [] fn ts (frT g (asM g n)), ex (frT g (asM g n)) && tabsB g tf (frT g (asM g n)))
theorem saysM_of {n : Nat} {fn : List DefD} {ts : List Tab} {tf : List Defn} {ex : PySem.W.Frag → Bool} {w : World} {h : Heap} (e : obsM n fn ts tf ex h.get? = valX fn ts w) : SaysX [] fn ts tf ex w h (frT h.get? (asM h.get? n)) := by
  have e1 : obsT [] fn ts (frT h.get? (asM h.get? n)) = valT fn ts w := congrArg (fun z : AlX => z.1) e
  have e2 : (ex (frT h.get? (asM h.get? n)) && tabsB h.get? tf (frT h.get? (asM h.get? n))) = true := congrArg (fun z : AlX => z.2) e
  obtain ⟨h1, h2⟩ := ba e2
  have key : ∀ p ∈ tf, PySem.W.codeHdIn (frT h.get? (asM h.get? n)) (cT (frT h.get? (asM h.get? n)) p).1 (cT (frT h.get? (asM h.get? n)) p).2 = true ∧ ∃ o, h.get? (cT (frT h.get? (asM h.get? n)) p).2 = some o ∧ emptyTab o = true := fun p hp => by
    obtain ⟨h3, h4⟩ := ba (List.all_eq_true.mp h2 p hp)
    refine ⟨h3, ?_⟩
    cases q : h.get? (cT (frT h.get? (asM h.get? n)) p).2 with
    | none =>
      rw [q] at h4
      cases h4
    | some o =>
      rw [q] at h4
      exact ⟨o, rfl, h4⟩
  exact ⟨e1, h1, fun p hp => (key p hp).1, fun p hp => by
    obtain ⟨_, o, q, z⟩ := key p hp
    exact frT_none q z, fun p hp => by
    obtain ⟨_, o, q, z⟩ := key p hp
    rw [q, emptyTab_eq z]⟩
def hookM (n : Nat) (fn : List DefD) (ts : List Tab) (tf : List Defn) (ex : PySem.W.Frag → Bool) : PySem.W.Hook where
  α := AlX
  obs := fun s => obsM n fn ts tf ex s.heap.get?
  val := fun w => valX fn ts w
  says := fun w h => ∃ K : PySem.W.Frag, K.In h ∧ SaysX [] fn ts tf ex w h K
  of := fun _ _ e => ⟨_, frT_in, saysM_of e⟩
  keeps := fun _ _ _ ⟨K, hK, c⟩ k => ⟨K, PySem.W.Frag.In.keeps hK k, ⟨c.t, c.more, c.hd, c.out, fun p hp => k _ _ (c.empty p hp)⟩⟩
theorem obsM_eq {n : Nat} {fn : List DefD} {ts : List Tab} {tf : List Defn} {ex : PySem.W.Frag → Bool} {g : Addr → Option Obj} {s : Shared} (h : ∀ a, g a = s.heap.get? a) : obsM n fn ts tf ex g = (hookM n fn ts tf ex).obs s := by
  have e : g = s.heap.get? := funext h
  rw [e] <;> rfl
/-- the run and what it must look like, apart -/
def RunA (r : PySem.W.OpenRow) (q : Program) (M : Nat) (loose : List PySem.Str) (w : World) : Prop :=
  ∀ os : OsState, (HandSHeadRun.endF (HandSHeadRun.stepQ (HandSHeadRun.denQ HandSHeadRun.tabQ) r.prog w) M r.prog w os).map (fun s => (HandSHeadRun.looksF r.prog (PySem.W.boot_heap w.params) s.abs, HandSHeadRun.seenQ q loose (importedModules r.prog.main.body) (fun s => PySem.W.xlAt q [] s && PySem.W.recOk r.toRowW.records s) s.abs)) = some (true, PySem.W.openGood q loose)
def RunB (r : PySem.W.OpenRow) (n : Nat) (fn : List DefD) (ts : List Tab) (M : Nat) (w : World) : Prop :=
  ∀ os : OsState, (HandSHeadRun.endF (HandSHeadRun.stepQ (HandSHeadRun.denQ HandSHeadRun.tabQ) r.prog w) M r.prog w os).map (fun s => obsT [] fn ts (frT (HandSHeadRun.getT s) (asM (HandSHeadRun.getT s) n))) = some (valT fn ts w)
def RunC (r : PySem.W.OpenRow) (n : Nat) (tf : List Defn) (ex : PySem.W.Frag → Bool) (M : Nat) (w : World) : Prop :=
  ∀ os : OsState, (HandSHeadRun.endF (HandSHeadRun.stepQ (HandSHeadRun.denQ HandSHeadRun.tabQ) r.prog w) M r.prog w os).map (fun s => ex (frT (HandSHeadRun.getT s) (asM (HandSHeadRun.getT s) n)) && tabsB (HandSHeadRun.getT s) tf (frT (HandSHeadRun.getT s) (asM (HandSHeadRun.getT s) n))) = some true
theorem run_of {r : PySem.W.OpenRow} {q : Program} {n M : Nat} {fn : List DefD} {ts : List Tab} {tf : List Defn} {ex : PySem.W.Frag → Bool} {loose : List PySem.Str} {w : World} (a : RunA r q M loose w) (b : RunB r n fn ts M w) (c : RunC r n tf ex M w) :
    HandSHeadRun.RunEq r q (hookM n fn ts tf ex) (fun s => obsM n fn ts tf ex (HandSHeadRun.getT s)) M loose w := fun os => by
  have a' := a os
  have b' := b os
  have c' := c os
  revert a' b' c'
  generalize HandSHeadRun.endF (HandSHeadRun.stepQ (HandSHeadRun.denQ HandSHeadRun.tabQ) r.prog w) M r.prog w os = x
  intro a' b' c'
  cases x with
  | none => cases a'
  | some s =>
    have a2 := Option.some.inj a'
    have b2 := Option.some.inj b'
    have c2 := Option.some.inj c'
    obtain ⟨a3, a4⟩ := Prod.mk.inj a2
    show some (_, _, (_, _)) = some (_, _, (_, _))
    rw [a3, a4]
    exact congrArg (fun z => some (true, PySem.W.openGood q loose, z)) (Prod.ext b2 c2)
/-- the object under a key of a table -/
def nsR (K : PySem.W.Frag) (D : Addr) (x : Str) : Addr := match PySem.W.nsIn K D x with
  | some (some (.ref a)) => a
  | _ => 0
/-- a Bool out of a list -/
theorem at_ex {K : PySem.W.Frag} {l : List (PySem.W.Frag → Bool)} (h : (l.all fun b => b K) = true) (i : Nat) {b : PySem.W.Frag → Bool} (e : l[i]? = some b) : b K = true := List.all_eq_true.mp h b (List.mem_of_getElem? e)
def cfB (a : Option PySem.W.CFound) (v : Value) : Bool := match a with
  | some (.val u) => decide (u = v)
  | _ => false
theorem cfB_ok {a : Option PySem.W.CFound} {v : Value} (h : cfB a v = true) : a = some (.val v) := by
  cases a with
  | none => cases h
  | some r =>
    cases r with
    | val u => exact congrArg (fun x => some (PySem.W.CFound.val x)) (of_decide_eq_true h)
    | _ => cases h
def intB (a : Option (Option Value)) (i : Int) : Bool := match a with
  | some (some (.int j _)) => decide (j = i)
  | _ => false
theorem intB_ok {a : Option (Option Value)} {i : Int} (h : intB a i = true) : ∃ t, a = some (some (.int i t)) := by
  cases a with
  | none => cases h
  | some r =>
    cases r with
    | none => cases h
    | some v =>
      cases v with
      | int j t =>
        have e : j = i := of_decide_eq_true h
        exact ⟨t, by rw [e]⟩
      | _ => cases h
/-- a def without defaults, as it stands -/
theorem def_at {fa : List Fa} {fn : List DefD} {K : PySem.W.Frag} (c : SaysD fa fn K) (i : Nat) {d : DefD} (h : fn[i]? = some d) (e0 : d.dfl = []) : PySem.W.keepIn K (.ref (fAd K d.at_)) = true ∧
    ∃ (oc : Value) (od : Option Addr) (sl : Array (Option Value)) (kV dc pm : Value) (an : Option Addr) (cd ct : Value), K.lookup (fAd K d.at_) = some ⟨oc, od, .func (PySem.W.fnOf d.name d.qual d.params d.body d.scope .none kV dc pm an cd ct), sl⟩ ∧ PySem.W.codeIn K cd d.qual = true := by
  obtain ⟨fd, ⟨oc, od, dV, kV, dc, pm, an, cd, ct, sl, rfl, lk, hc, hd, _⟩, kp⟩ := c.def_ i h
  refine ⟨kp, oc, od, sl, kV, dc, pm, an, cd, ct, ?_, hc⟩
  rcases hd with ⟨_, rfl⟩ | ⟨z, _⟩
  · exact lk
  · unfold DefD.dvs at z
    rw [e0] at z
    exact absurd rfl z
/-- the code object of a def whose lambdas have a table -/
theorem code_at {K : PySem.W.Frag} {p : Defn} {oc : Value} {od : Option Addr} {osl : Array (Option Value)} {fd : FuncData} {q : Str} (lk : K.lookup (fAd K p) = some ⟨oc, od, .func fd, osl⟩) (hc : PySem.W.codeIn K fd.code q = true) (hd : PySem.W.codeHdIn K (cT K p).1 (cT K p).2 = true) :
    ∃ (c : Addr) (e : Value) (dd : Option Addr) (vs : Array Value) (sl : Array (Option Value)), fd.code = .ref c ∧ (cT K p).1 = c ∧ K.lookup c = some ⟨e, dd, .fields vs, sl⟩ ∧ vs[11]? = some (.ref (cT K p).2) := by
  obtain ⟨c, ec⟩ := codeIn_ref hc
  have e1 : (cT K p).1 = c := codeOf_eq lk ec
  rw [e1] at hd
  generalize (cT K p).2 = P at hd
  unfold PySem.W.codeHdIn at hd
  split at hd
  · rename_i dd vs sl hk
    have h1 := (ba (ba (ba (ba (ba hd).1).1).1).1).1
    refine ⟨c, _, dd, vs, sl, ec, e1, hk, ?_⟩
    cases q2 : vs[11]? with
    | none =>
      rw [q2] at h1
      cases h1
    | some v =>
      rw [q2] at h1
      cases v with
      | ref P' =>
        have e2 : P' = P := by
          have h2 : (P' == P) = true := h1
          exact beq_iff_eq.mp h2
        rw [e2]
      | _ => cases h1
  · cases hd
end He

namespace Ff
open PySem PySem.Spec PyProof.Rows L2 ExX LamX
theorem all_mk {l : PySem.W.OpenLaw} {w : World} {K : PySem.W.Frag} {h : Heap} {mg : Str → Option Value} {fa : Addr} (X : K.In h) (G : h.Ns mainGlobals mg) (hfa : mg "law" = some (.ref fa))
    (d0 : DefF K "leads_to_root" sLeads)
    (d1 : DefF K "check_forest" sCheck)
    (d2 : DefF K "check_number" sNum)
    (d3 : DefF K "check_node" sChk)
    (d4 : DefF K "path_of" sPathOf)
    (d5 : DefF K "root_of" sRootOf)
    (d6 : DefF K "depth_of" sDepthOf)
    (d7 : DefF K "is_above" sAbove)
    (d8 : DefF K "find" sFind)
    (d9 : DefF K "find_all" sFindAll)
    (d10 : DefF K "marked_nodes" sMarked)
    (d11 : DefF K "forest_after" sAfter)
    (d12 : DefF K "total_cost" sTotal)
    (d13 : DefF K "check_sizes" sSizes)
    (d14 : DefF K "check_roots" sRoots2)
    (d15 : DefF K "changed_nodes" sChg)
    (d16 : DefF K "barring_nodes" sBarr)
    (d17 : DefF K "find_bar" sBar)
    (d18 : DefF K "needed_finds" sNeed)
    (d19 : DefF K "is_needed" sIsN)
    (d20 : DefF K "way_cost" sWCost)
    (d21 : DefF K "deep_nodes" sDeep)
    (d22 : DefF K "flattened" sFlat)
    (d23 : DefF K "flattening_finds" sFlatF)
    (d24 : DefF K "is_name" sIsNm)
    (d25 : DefF K "forest_in" sFIn)
    (d26 : DefF K "check_new_name" sCNN)
    (d27 : DefF K "do_new" sDoNew)
    (d28 : DefF K "do_flatten" sDoFl)
    (d29 : DefF K "check_command" sChkC)
    (d30 : DefF K "do_command" sDoCmd)
    (d31 : DefF K "_law_start" sStart)
    (d32 : DefF K "_law_take" sTake)
    (d33 : DefF K "_law_of" sOf)
    (d34 : DefF K "_law_shuffled" sShuf)
    (d35 : DefF K "_law_same" sSame)
    (d36 : DefF K "_law_size" sSize)
    (d37 : DefF K "_law_renamed" sRen)
    (d38 : DefF K "_law_forest" sFor)
    (d39 : DefF K "_law_some_forest" sSome)
    (d40 : DefF K "_law_nodes" sNodes)
    (d41 : DefF K "law" sLaw)
    (z_len : PySem.W.nsIn K mainGlobals "len" = some none)
    (z_range : PySem.W.nsIn K mainGlobals "range" = some none)
    (z_list : PySem.W.nsIn K mainGlobals "list" = some none)
    (z_tuple : PySem.W.nsIn K mainGlobals "tuple" = some none)
    (z_max : PySem.W.nsIn K mainGlobals "max" = some none)
    (z_min : PySem.W.nsIn K mainGlobals "min" = some none)
    (z_isinstance : PySem.W.nsIn K mainGlobals "isinstance" = some none)
    (z_bool : PySem.W.nsIn K mainGlobals "bool" = some none)
    (z_int : PySem.W.nsIn K mainGlobals "int" = some none)
    (z_str : PySem.W.nsIn K mainGlobals "str" = some none)
    (z_all : PySem.W.nsIn K mainGlobals "all" = some none)
    (z_zip : PySem.W.nsIn K mainGlobals "zip" = some none)
    (z_set : PySem.W.nsIn K mainGlobals "set" = some none)
    (z_sorted : PySem.W.nsIn K mainGlobals "sorted" = some none)
    (z_sum : PySem.W.nsIn K mainGlobals "sum" = some none)
    (z_ValueError : PySem.W.nsIn K mainGlobals "ValueError" = some none)
    (z_LookupError : PySem.W.nsIn K mainGlobals "LookupError" = some none)
    (z_any : PySem.W.nsIn K mainGlobals "any" = some none)
    (z_enumerate : PySem.W.nsIn K mainGlobals "enumerate" = some none)
    {CForestError fForestError : Addr} {ocForestError : Value} {odForestError anForestError : Option Addr} {slForestError : Array (Option Value)} {kVForestError dcForestError pmForestError cdForestError ctForestError : Value}
    (aForestError : PySem.W.nsIn K mainGlobals "ForestError" = some (some (.ref CForestError))) (iForestError : PySem.W.findIn K (.ref CForestError) "__init__" = some (some (.ref fForestError))) (lForestError : K.lookup fForestError = some ⟨ocForestError, odForestError, .func (PySem.W.fnOf "__init__" "ForestError.__init__" (defArgs (initS sForE)) (defBody (initS sForE)) (defScope (initS sForE)) .none kVForestError dcForestError pmForestError anForestError cdForestError ctForestError), slForestError⟩)
    (cForestError : PySem.W.codeIn K cdForestError "ForestError.__init__" = true) (kForestError : PySem.W.keepIn K (.ref fForestError) = true)
    (rForestError : PySem.W.readsIn K CForestError (.type "type") = true) (mForestError : PySem.W.findCls K (.ref CForestError) (.type "type") "__init__" = some (.val (.ref fForestError))) (pForestError : PySem.W.specialIn K (.ref CForestError) "__getattribute__" = some (some (.builtin "type.__getattribute__"))) (qForestError : PySem.W.keepIn K (.ref CForestError) = true) (vForestError : PySem.W.findCls K (.type "ValueError") (.type "type") "__init__" = some (.val (.builtin "ValueError.__init__")))
    {CMissing fMissing : Addr} {ocMissing : Value} {odMissing anMissing : Option Addr} {slMissing : Array (Option Value)} {kVMissing dcMissing pmMissing cdMissing ctMissing : Value}
    (aMissing : PySem.W.nsIn K mainGlobals "Missing" = some (some (.ref CMissing))) (iMissing : PySem.W.findIn K (.ref CMissing) "__init__" = some (some (.ref fMissing))) (lMissing : K.lookup fMissing = some ⟨ocMissing, odMissing, .func (PySem.W.fnOf "__init__" "Missing.__init__" (defArgs (initS sMiss)) (defBody (initS sMiss)) (defScope (initS sMiss)) .none kVMissing dcMissing pmMissing anMissing cdMissing ctMissing), slMissing⟩)
    (cMissing : PySem.W.codeIn K cdMissing "Missing.__init__" = true) (kMissing : PySem.W.keepIn K (.ref fMissing) = true)
    (rMissing : PySem.W.readsIn K CMissing (.type "type") = true) (mMissing : PySem.W.findCls K (.ref CMissing) (.type "type") "__init__" = some (.val (.ref fMissing))) (pMissing : PySem.W.specialIn K (.ref CMissing) "__getattribute__" = some (some (.builtin "type.__getattribute__"))) (qMissing : PySem.W.keepIn K (.ref CMissing) = true) (vMissing : PySem.W.findCls K (.type "LookupError") (.type "type") "__init__" = some (.val (.builtin "LookupError.__init__")))
    {CTooManyNodes fTooManyNodes : Addr} {ocTooManyNodes : Value} {odTooManyNodes anTooManyNodes : Option Addr} {slTooManyNodes : Array (Option Value)} {kVTooManyNodes dcTooManyNodes pmTooManyNodes cdTooManyNodes ctTooManyNodes : Value}
    (aTooManyNodes : PySem.W.nsIn K mainGlobals "TooManyNodes" = some (some (.ref CTooManyNodes))) (iTooManyNodes : PySem.W.findIn K (.ref CTooManyNodes) "__init__" = some (some (.ref fTooManyNodes))) (lTooManyNodes : K.lookup fTooManyNodes = some ⟨ocTooManyNodes, odTooManyNodes, .func (PySem.W.fnOf "__init__" "TooManyNodes.__init__" (defArgs (initS sTooMany)) (defBody (initS sTooMany)) (defScope (initS sTooMany)) .none kVTooManyNodes dcTooManyNodes pmTooManyNodes anTooManyNodes cdTooManyNodes ctTooManyNodes), slTooManyNodes⟩)
    (cTooManyNodes : PySem.W.codeIn K cdTooManyNodes "TooManyNodes.__init__" = true) (kTooManyNodes : PySem.W.keepIn K (.ref fTooManyNodes) = true)
    (tTooManyNodes : PySem.W.typeIn K (.ref fTooManyNodes) = some (.type "function")) (uTooManyNodes : PySem.W.excInitIn K CTooManyNodes vaTail "ValueError.__new__" = true) (oTooManyNodes : PySem.W.excOver K CTooManyNodes vaTail = true) (hTooManyNodes : PySem.W.hasDictIn K CTooManyNodes = true) (saTooManyNodes : PySem.W.findIn K (.ref CTooManyNodes) "__setattr__" = some (some (.builtin "object.__setattr__"))) (bTooManyNodes : PySem.W.subIn K (.ref CTooManyNodes) (.type "BaseException") = some true)
    (yTooManyNodes : PySem.W.typeIn K (.ref CTooManyNodes) = some (.type "type")) (wTooManyNodes : PySem.W.keepIn K (.ref CTooManyNodes) = true) (nTooManyNodes : PySem.W.findIn K (.ref CTooManyNodes) "tag" = some none) (gTooManyNodes : PySem.W.findIn K (.ref CTooManyNodes) "limit" = some none) (xTooManyNodes : PySem.W.findIn K (.ref CTooManyNodes) "__getattribute__" = some (some (.builtin "BaseException.__getattribute__"))) (jTooManyNodes : PySem.W.findIn K (.ref CTooManyNodes) "__getattr__" = some none)
    {CBadParent fBadParent : Addr} {ocBadParent : Value} {odBadParent anBadParent : Option Addr} {slBadParent : Array (Option Value)} {kVBadParent dcBadParent pmBadParent cdBadParent ctBadParent : Value}
    (aBadParent : PySem.W.nsIn K mainGlobals "BadParent" = some (some (.ref CBadParent))) (iBadParent : PySem.W.findIn K (.ref CBadParent) "__init__" = some (some (.ref fBadParent))) (lBadParent : K.lookup fBadParent = some ⟨ocBadParent, odBadParent, .func (PySem.W.fnOf "__init__" "BadParent.__init__" (defArgs (initS sBadPar)) (defBody (initS sBadPar)) (defScope (initS sBadPar)) .none kVBadParent dcBadParent pmBadParent anBadParent cdBadParent ctBadParent), slBadParent⟩)
    (cBadParent : PySem.W.codeIn K cdBadParent "BadParent.__init__" = true) (kBadParent : PySem.W.keepIn K (.ref fBadParent) = true)
    (tBadParent : PySem.W.typeIn K (.ref fBadParent) = some (.type "function")) (uBadParent : PySem.W.excInitIn K CBadParent vaTail "ValueError.__new__" = true) (oBadParent : PySem.W.excOver K CBadParent vaTail = true) (hBadParent : PySem.W.hasDictIn K CBadParent = true) (saBadParent : PySem.W.findIn K (.ref CBadParent) "__setattr__" = some (some (.builtin "object.__setattr__"))) (bBadParent : PySem.W.subIn K (.ref CBadParent) (.type "BaseException") = some true)
    (yBadParent : PySem.W.typeIn K (.ref CBadParent) = some (.type "type")) (wBadParent : PySem.W.keepIn K (.ref CBadParent) = true) (nBadParent : PySem.W.findIn K (.ref CBadParent) "tag" = some none) (gBadParent : PySem.W.findIn K (.ref CBadParent) "node" = some none) (xBadParent : PySem.W.findIn K (.ref CBadParent) "__getattribute__" = some (some (.builtin "BaseException.__getattribute__"))) (jBadParent : PySem.W.findIn K (.ref CBadParent) "__getattr__" = some none)
    {CCycle fCycle : Addr} {ocCycle : Value} {odCycle anCycle : Option Addr} {slCycle : Array (Option Value)} {kVCycle dcCycle pmCycle cdCycle ctCycle : Value}
    (aCycle : PySem.W.nsIn K mainGlobals "Cycle" = some (some (.ref CCycle))) (iCycle : PySem.W.findIn K (.ref CCycle) "__init__" = some (some (.ref fCycle))) (lCycle : K.lookup fCycle = some ⟨ocCycle, odCycle, .func (PySem.W.fnOf "__init__" "Cycle.__init__" (defArgs (initS sCycle)) (defBody (initS sCycle)) (defScope (initS sCycle)) .none kVCycle dcCycle pmCycle anCycle cdCycle ctCycle), slCycle⟩)
    (cCycle : PySem.W.codeIn K cdCycle "Cycle.__init__" = true) (kCycle : PySem.W.keepIn K (.ref fCycle) = true)
    (tCycle : PySem.W.typeIn K (.ref fCycle) = some (.type "function")) (uCycle : PySem.W.excInitIn K CCycle vaTail "ValueError.__new__" = true) (oCycle : PySem.W.excOver K CCycle vaTail = true) (hCycle : PySem.W.hasDictIn K CCycle = true) (saCycle : PySem.W.findIn K (.ref CCycle) "__setattr__" = some (some (.builtin "object.__setattr__"))) (bCycle : PySem.W.subIn K (.ref CCycle) (.type "BaseException") = some true)
    (yCycle : PySem.W.typeIn K (.ref CCycle) = some (.type "type")) (wCycle : PySem.W.keepIn K (.ref CCycle) = true) (nCycle : PySem.W.findIn K (.ref CCycle) "tag" = some none) (gCycle : PySem.W.findIn K (.ref CCycle) "node" = some none) (xCycle : PySem.W.findIn K (.ref CCycle) "__getattribute__" = some (some (.builtin "BaseException.__getattribute__"))) (jCycle : PySem.W.findIn K (.ref CCycle) "__getattr__" = some none)
    {CSizesDiffer fSizesDiffer : Addr} {ocSizesDiffer : Value} {odSizesDiffer anSizesDiffer : Option Addr} {slSizesDiffer : Array (Option Value)} {kVSizesDiffer dcSizesDiffer pmSizesDiffer cdSizesDiffer ctSizesDiffer : Value}
    (aSizesDiffer : PySem.W.nsIn K mainGlobals "SizesDiffer" = some (some (.ref CSizesDiffer))) (iSizesDiffer : PySem.W.findIn K (.ref CSizesDiffer) "__init__" = some (some (.ref fSizesDiffer))) (lSizesDiffer : K.lookup fSizesDiffer = some ⟨ocSizesDiffer, odSizesDiffer, .func (PySem.W.fnOf "__init__" "SizesDiffer.__init__" (defArgs (initS sE_SizesDiffer)) (defBody (initS sE_SizesDiffer)) (defScope (initS sE_SizesDiffer)) .none kVSizesDiffer dcSizesDiffer pmSizesDiffer anSizesDiffer cdSizesDiffer ctSizesDiffer), slSizesDiffer⟩)
    (cSizesDiffer : PySem.W.codeIn K cdSizesDiffer "SizesDiffer.__init__" = true) (kSizesDiffer : PySem.W.keepIn K (.ref fSizesDiffer) = true)
    (tSizesDiffer : PySem.W.typeIn K (.ref fSizesDiffer) = some (.type "function")) (uSizesDiffer : PySem.W.excInitIn K CSizesDiffer vaTail "ValueError.__new__" = true) (oSizesDiffer : PySem.W.excOver K CSizesDiffer vaTail = true) (hSizesDiffer : PySem.W.hasDictIn K CSizesDiffer = true) (saSizesDiffer : PySem.W.findIn K (.ref CSizesDiffer) "__setattr__" = some (some (.builtin "object.__setattr__"))) (bSizesDiffer : PySem.W.subIn K (.ref CSizesDiffer) (.type "BaseException") = some true)
    (ySizesDiffer : PySem.W.typeIn K (.ref CSizesDiffer) = some (.type "type")) (wSizesDiffer : PySem.W.keepIn K (.ref CSizesDiffer) = true) (nSizesDiffer : PySem.W.findIn K (.ref CSizesDiffer) "tag" = some none) (gSizesDiffer : PySem.W.findIn K (.ref CSizesDiffer) "size" = some none) (xSizesDiffer : PySem.W.findIn K (.ref CSizesDiffer) "__getattribute__" = some (some (.builtin "BaseException.__getattribute__"))) (jSizesDiffer : PySem.W.findIn K (.ref CSizesDiffer) "__getattr__" = some none)
    {CRootsDiffer fRootsDiffer : Addr} {ocRootsDiffer : Value} {odRootsDiffer anRootsDiffer : Option Addr} {slRootsDiffer : Array (Option Value)} {kVRootsDiffer dcRootsDiffer pmRootsDiffer cdRootsDiffer ctRootsDiffer : Value}
    (aRootsDiffer : PySem.W.nsIn K mainGlobals "RootsDiffer" = some (some (.ref CRootsDiffer))) (iRootsDiffer : PySem.W.findIn K (.ref CRootsDiffer) "__init__" = some (some (.ref fRootsDiffer))) (lRootsDiffer : K.lookup fRootsDiffer = some ⟨ocRootsDiffer, odRootsDiffer, .func (PySem.W.fnOf "__init__" "RootsDiffer.__init__" (defArgs (initS sE_RootsDiffer)) (defBody (initS sE_RootsDiffer)) (defScope (initS sE_RootsDiffer)) .none kVRootsDiffer dcRootsDiffer pmRootsDiffer anRootsDiffer cdRootsDiffer ctRootsDiffer), slRootsDiffer⟩)
    (cRootsDiffer : PySem.W.codeIn K cdRootsDiffer "RootsDiffer.__init__" = true) (kRootsDiffer : PySem.W.keepIn K (.ref fRootsDiffer) = true)
    (tRootsDiffer : PySem.W.typeIn K (.ref fRootsDiffer) = some (.type "function")) (uRootsDiffer : PySem.W.excInitIn K CRootsDiffer vaTail "ValueError.__new__" = true) (oRootsDiffer : PySem.W.excOver K CRootsDiffer vaTail = true) (hRootsDiffer : PySem.W.hasDictIn K CRootsDiffer = true) (saRootsDiffer : PySem.W.findIn K (.ref CRootsDiffer) "__setattr__" = some (some (.builtin "object.__setattr__"))) (bRootsDiffer : PySem.W.subIn K (.ref CRootsDiffer) (.type "BaseException") = some true)
    (yRootsDiffer : PySem.W.typeIn K (.ref CRootsDiffer) = some (.type "type")) (wRootsDiffer : PySem.W.keepIn K (.ref CRootsDiffer) = true) (nRootsDiffer : PySem.W.findIn K (.ref CRootsDiffer) "tag" = some none) (gRootsDiffer : PySem.W.findIn K (.ref CRootsDiffer) "node" = some none) (xRootsDiffer : PySem.W.findIn K (.ref CRootsDiffer) "__getattribute__" = some (some (.builtin "BaseException.__getattribute__"))) (jRootsDiffer : PySem.W.findIn K (.ref CRootsDiffer) "__getattr__" = some none)
    {CNoWay fNoWay : Addr} {ocNoWay : Value} {odNoWay anNoWay : Option Addr} {slNoWay : Array (Option Value)} {kVNoWay dcNoWay pmNoWay cdNoWay ctNoWay : Value}
    (aNoWay : PySem.W.nsIn K mainGlobals "NoWay" = some (some (.ref CNoWay))) (iNoWay : PySem.W.findIn K (.ref CNoWay) "__init__" = some (some (.ref fNoWay))) (lNoWay : K.lookup fNoWay = some ⟨ocNoWay, odNoWay, .func (PySem.W.fnOf "__init__" "NoWay.__init__" (defArgs (initS sE_NoWay)) (defBody (initS sE_NoWay)) (defScope (initS sE_NoWay)) .none kVNoWay dcNoWay pmNoWay anNoWay cdNoWay ctNoWay), slNoWay⟩)
    (cNoWay : PySem.W.codeIn K cdNoWay "NoWay.__init__" = true) (kNoWay : PySem.W.keepIn K (.ref fNoWay) = true)
    (tNoWay : PySem.W.typeIn K (.ref fNoWay) = some (.type "function")) (uNoWay : PySem.W.excInitIn K CNoWay vaTail "ValueError.__new__" = true) (oNoWay : PySem.W.excOver K CNoWay vaTail = true) (hNoWay : PySem.W.hasDictIn K CNoWay = true) (saNoWay : PySem.W.findIn K (.ref CNoWay) "__setattr__" = some (some (.builtin "object.__setattr__"))) (bNoWay : PySem.W.subIn K (.ref CNoWay) (.type "BaseException") = some true)
    (yNoWay : PySem.W.typeIn K (.ref CNoWay) = some (.type "type")) (wNoWay : PySem.W.keepIn K (.ref CNoWay) = true) (nNoWay : PySem.W.findIn K (.ref CNoWay) "tag" = some none) (gNoWay : PySem.W.findIn K (.ref CNoWay) "node" = some none) (xNoWay : PySem.W.findIn K (.ref CNoWay) "__getattribute__" = some (some (.builtin "BaseException.__getattribute__"))) (jNoWay : PySem.W.findIn K (.ref CNoWay) "__getattr__" = some none)
    {CNoNode fNoNode : Addr} {ocNoNode : Value} {odNoNode anNoNode : Option Addr} {slNoNode : Array (Option Value)} {kVNoNode dcNoNode pmNoNode cdNoNode ctNoNode : Value}
    (aNoNode : PySem.W.nsIn K mainGlobals "NoNode" = some (some (.ref CNoNode))) (iNoNode : PySem.W.findIn K (.ref CNoNode) "__init__" = some (some (.ref fNoNode))) (lNoNode : K.lookup fNoNode = some ⟨ocNoNode, odNoNode, .func (PySem.W.fnOf "__init__" "NoNode.__init__" (defArgs (initS sE_NoNode)) (defBody (initS sE_NoNode)) (defScope (initS sE_NoNode)) .none kVNoNode dcNoNode pmNoNode anNoNode cdNoNode ctNoNode), slNoNode⟩)
    (cNoNode : PySem.W.codeIn K cdNoNode "NoNode.__init__" = true) (kNoNode : PySem.W.keepIn K (.ref fNoNode) = true)
    (tNoNode : PySem.W.typeIn K (.ref fNoNode) = some (.type "function")) (uNoNode : PySem.W.excInitIn K CNoNode luTail "LookupError.__new__" = true) (oNoNode : PySem.W.excOver K CNoNode luTail = true) (hNoNode : PySem.W.hasDictIn K CNoNode = true) (saNoNode : PySem.W.findIn K (.ref CNoNode) "__setattr__" = some (some (.builtin "object.__setattr__"))) (bNoNode : PySem.W.subIn K (.ref CNoNode) (.type "BaseException") = some true)
    (yNoNode : PySem.W.typeIn K (.ref CNoNode) = some (.type "type")) (wNoNode : PySem.W.keepIn K (.ref CNoNode) = true) (nNoNode : PySem.W.findIn K (.ref CNoNode) "tag" = some none) (gNoNode : PySem.W.findIn K (.ref CNoNode) "node" = some none) (xNoNode : PySem.W.findIn K (.ref CNoNode) "__getattribute__" = some (some (.builtin "BaseException.__getattribute__"))) (jNoNode : PySem.W.findIn K (.ref CNoNode) "__getattr__" = some none)
    {tM : Tok} (aMX : PySem.W.nsIn K mainGlobals "MAX_NODES" = some (some (.int 40 tM)))
    {CS : Addr} (aCS : PySem.W.nsIn K mainGlobals "Store" = some (some (.ref CS))) (pgS : PySem.W.plainGet K CS Str.empty = true) (hdS : PySem.W.hasDictIn K CS = true) (poS : PySem.W.plainOver K CS = true) (saS : PySem.W.findIn K (.ref CS) "__setattr__" = some (some (.builtin "object.__setattr__"))) (mkS : PySem.W.makesIn K CS = true) (kcS : PySem.W.keepIn K (.ref CS) = true) (nS0 : PySem.W.findIn K (.ref CS) "forests" = some none) (nS1 : PySem.W.findIn K (.ref CS) "total" = some none) (nS2 : PySem.W.findIn K (.ref CS) "past" = some none) (nS3 : PySem.W.findIn K (.ref CS) "future" = some none) (nS4 : PySem.W.findIn K (.ref CS) "watches" = some none) (nS5 : PySem.W.findIn K (.ref CS) "told" = some none) (nS6 : PySem.W.findIn K (.ref CS) "last_number" = some none)
    {fSI : Addr} {ocSI : Value} {odSI anSI : Option Addr} {slSI : Array (Option Value)} {kVSI dcSI pmSI cdSI ctSI : Value} (aSI : PySem.W.findIn K (.ref CS) "__init__" = some (some (.ref fSI))) (iSI : PySem.W.isFn K (.ref fSI) = true) (lSI : K.lookup fSI = some ⟨ocSI, odSI, .func (PySem.W.fnOf "__init__" "Store.__init__" (defArgs sSI) (defBody sSI) (defScope sSI) .none kVSI dcSI pmSI anSI cdSI ctSI), slSI⟩) (cSI : PySem.W.codeIn K cdSI "Store.__init__" = true) (kSI : PySem.W.keepIn K (.ref fSI) = true)
    {fSF : Addr} {ocSF : Value} {odSF anSF : Option Addr} {slSF : Array (Option Value)} {kVSF dcSF pmSF cdSF ctSF : Value} (aSF : PySem.W.findIn K (.ref CS) "forest_of" = some (some (.ref fSF))) (iSF : PySem.W.isFn K (.ref fSF) = true) (lSF : K.lookup fSF = some ⟨ocSF, odSF, .func (PySem.W.fnOf "forest_of" "Store.forest_of" (defArgs sSF) (defBody sSF) (defScope sSF) .none kVSF dcSF pmSF anSF cdSF ctSF), slSF⟩) (cSF : PySem.W.codeIn K cdSF "Store.forest_of" = true) (kSF : PySem.W.keepIn K (.ref fSF) = true)
    {fSA : Addr} {ocSA : Value} {odSA anSA : Option Addr} {slSA : Array (Option Value)} {kVSA dcSA pmSA cdSA ctSA : Value} (aSA : PySem.W.findIn K (.ref CS) "apply_all" = some (some (.ref fSA))) (iSA : PySem.W.isFn K (.ref fSA) = true) (lSA : K.lookup fSA = some ⟨ocSA, odSA, .func (PySem.W.fnOf "apply_all" "Store.apply_all" (defArgs sAA) (defBody sAA) (defScope sAA) .none kVSA dcSA pmSA anSA cdSA ctSA), slSA⟩) (cSA : PySem.W.codeIn K cdSA "Store.apply_all" = true) (kSA : PySem.W.keepIn K (.ref fSA) = true)
    {fSP : Addr} {ocSP : Value} {odSP anSP : Option Addr} {slSP : Array (Option Value)} {kVSP dcSP pmSP cdSP ctSP : Value} (aSP : PySem.W.findIn K (.ref CS) "apply" = some (some (.ref fSP))) (iSP : PySem.W.isFn K (.ref fSP) = true) (lSP : K.lookup fSP = some ⟨ocSP, odSP, .func (PySem.W.fnOf "apply" "Store.apply" (defArgs sAp) (defBody sAp) (defScope sAp) .none kVSP dcSP pmSP anSP cdSP ctSP), slSP⟩) (cSP : PySem.W.codeIn K cdSP "Store.apply" = true) (kSP : PySem.W.keepIn K (.ref fSP) = true)
    {dL : Addr} {esL : Array DictEntry} {nL : Nat} (aLEN : PySem.W.nsIn K mainGlobals "LENGTHS" = some (some (.ref dL))) (lkL : K.lookup dL = some ⟨.type "dict", none, .dict esL nL, #[]⟩) (ltL : PySem.W.KeysLit w.params esL.toList) (loL : (dL == sysModules) = false)
    {dA : Addr} {esA : Array DictEntry} {nA : Nat} (aACT : PySem.W.nsIn K mainGlobals "ACTIONS" = some (some (.ref dA))) (lkA : K.lookup dA = some ⟨.type "dict", none, .dict esA nA, #[]⟩) (ltA : PySem.W.KeysLit w.params esA.toList) (loA : (dA == sysModules) = false)
    {t1 t2 : Tok} (nL1 : PySem.W.nsIn K dL "new" = some (some (.int 3 t1))) (nL2 : PySem.W.nsIn K dL "flatten" = some (some (.int 2 t2)))
    {g1 g2 : Addr} (nA1 : PySem.W.nsIn K dA "new" = some (some (.ref g1))) (nA2 : PySem.W.nsIn K dA "flatten" = some (some (.ref g2))) (aN1 : PySem.W.nsIn K mainGlobals "do_new" = some (some (.ref g1))) (aN2 : PySem.W.nsIn K mainGlobals "do_flatten" = some (some (.ref g2))) (neG : g2 ≠ g1)
    {t3 t4 : Tok} (aMF : PySem.W.nsIn K mainGlobals "MAX_FORESTS" = some (some (.int 6 t3))) (aLt : PySem.W.nsIn K mainGlobals "MAX_LETTERS" = some (some (.int 6 t4)))
    : ∃ fd : FuncData, (∀ (s : Shared) (v : Value), BindsTo s fd ⟨[v], []⟩ [("_law_script", v)]) ∧ ∀ base : Heap, K.In base → base.Ns mainGlobals mg → FnOk l.prog w K mg base CX0 16 fa fd ["_law_script"] (spLaw K) := by
  obtain ⟨f_0, fd_0, F_0, g_0⟩ := d0.get X G
  obtain ⟨f_1, fd_1, F_1, g_1⟩ := d1.get X G
  obtain ⟨f_2, fd_2, F_2, g_2⟩ := d2.get X G
  obtain ⟨f_3, fd_3, F_3, g_3⟩ := d3.get X G
  obtain ⟨f_4, fd_4, F_4, g_4⟩ := d4.get X G
  obtain ⟨f_5, fd_5, F_5, g_5⟩ := d5.get X G
  obtain ⟨f_6, fd_6, F_6, g_6⟩ := d6.get X G
  obtain ⟨f_7, fd_7, F_7, g_7⟩ := d7.get X G
  obtain ⟨f_8, fd_8, F_8, g_8⟩ := d8.get X G
  obtain ⟨f_9, fd_9, F_9, g_9⟩ := d9.get X G
  obtain ⟨f_10, fd_10, F_10, g_10⟩ := d10.get X G
  obtain ⟨f_11, fd_11, F_11, g_11⟩ := d11.get X G
  obtain ⟨f_12, fd_12, F_12, g_12⟩ := d12.get X G
  obtain ⟨f_13, fd_13, F_13, g_13⟩ := d13.get X G
  obtain ⟨f_14, fd_14, F_14, g_14⟩ := d14.get X G
  obtain ⟨f_15, fd_15, F_15, g_15⟩ := d15.get X G
  obtain ⟨f_16, fd_16, F_16, g_16⟩ := d16.get X G
  obtain ⟨f_17, fd_17, F_17, g_17⟩ := d17.get X G
  obtain ⟨f_18, fd_18, F_18, g_18⟩ := d18.get X G
  obtain ⟨f_19, fd_19, F_19, g_19⟩ := d19.get X G
  obtain ⟨f_20, fd_20, F_20, g_20⟩ := d20.get X G
  obtain ⟨f_21, fd_21, F_21, g_21⟩ := d21.get X G
  obtain ⟨f_22, fd_22, F_22, g_22⟩ := d22.get X G
  obtain ⟨f_23, fd_23, F_23, g_23⟩ := d23.get X G
  obtain ⟨f_24, fd_24, F_24, g_24⟩ := d24.get X G
  obtain ⟨f_25, fd_25, F_25, g_25⟩ := d25.get X G
  obtain ⟨f_26, fd_26, F_26, g_26⟩ := d26.get X G
  obtain ⟨f_27, fd_27, F_27, g_27⟩ := d27.get X G
  obtain ⟨f_28, fd_28, F_28, g_28⟩ := d28.get X G
  obtain ⟨f_29, fd_29, F_29, g_29⟩ := d29.get X G
  obtain ⟨f_30, fd_30, F_30, g_30⟩ := d30.get X G
  obtain ⟨f_31, fd_31, F_31, g_31⟩ := d31.get X G
  obtain ⟨f_32, fd_32, F_32, g_32⟩ := d32.get X G
  obtain ⟨f_33, fd_33, F_33, g_33⟩ := d33.get X G
  obtain ⟨f_34, fd_34, F_34, g_34⟩ := d34.get X G
  obtain ⟨f_35, fd_35, F_35, g_35⟩ := d35.get X G
  obtain ⟨f_36, fd_36, F_36, g_36⟩ := d36.get X G
  obtain ⟨f_37, fd_37, F_37, g_37⟩ := d37.get X G
  obtain ⟨f_38, fd_38, F_38, g_38⟩ := d38.get X G
  obtain ⟨f_39, fd_39, F_39, g_39⟩ := d39.get X G
  obtain ⟨f_40, fd_40, F_40, g_40⟩ := d40.get X G
  obtain ⟨fL, oc, od, an, sl, kV, dc, pm, cd, ct, aL, lk, cL, kL⟩ := d41
  have e := hfa.symm.trans (PySem.W.mg_of X G aL)
  cases e
  have FL := fun_mk (st := sLaw) lk cL kL
  replace z_len := PySem.W.mg_none_of X G z_len
  replace z_range := PySem.W.mg_none_of X G z_range
  replace z_list := PySem.W.mg_none_of X G z_list
  replace z_tuple := PySem.W.mg_none_of X G z_tuple
  replace z_max := PySem.W.mg_none_of X G z_max
  replace z_min := PySem.W.mg_none_of X G z_min
  replace z_isinstance := PySem.W.mg_none_of X G z_isinstance
  replace z_bool := PySem.W.mg_none_of X G z_bool
  replace z_int := PySem.W.mg_none_of X G z_int
  replace z_str := PySem.W.mg_none_of X G z_str
  replace z_all := PySem.W.mg_none_of X G z_all
  replace z_zip := PySem.W.mg_none_of X G z_zip
  replace z_set := PySem.W.mg_none_of X G z_set
  replace z_sorted := PySem.W.mg_none_of X G z_sorted
  replace z_sum := PySem.W.mg_none_of X G z_sum
  replace z_ValueError := PySem.W.mg_none_of X G z_ValueError
  replace z_LookupError := PySem.W.mg_none_of X G z_LookupError
  replace z_any := PySem.W.mg_none_of X G z_any
  replace z_enumerate := PySem.W.mg_none_of X G z_enumerate
  have T : Tx mg := ⟨z_len, z_range, z_list, z_tuple, z_max, z_min⟩
  have TS : TxS mg := ⟨z_isinstance, z_list, z_tuple, z_bool, z_int, z_str, z_len, z_all, z_zip⟩
  have GForestError := PySem.W.mg_of X G aForestError
  have GMissing := PySem.W.mg_of X G aMissing
  have GTooManyNodes := PySem.W.mg_of X G aTooManyNodes
  have GBadParent := PySem.W.mg_of X G aBadParent
  have GCycle := PySem.W.mg_of X G aCycle
  have GSizesDiffer := PySem.W.mg_of X G aSizesDiffer
  have GRootsDiffer := PySem.W.mg_of X G aRootsDiffer
  have GNoWay := PySem.W.mg_of X G aNoWay
  have GNoNode := PySem.W.mg_of X G aNoNode
  have gM := PySem.W.mg_of X G aMX
  have gCS := PySem.W.mg_of X G aCS
  have TCS : StT K CS := ⟨⟨pgS, hdS, poS, saS⟩, stN_no nS0 nS1 nS2 nS3 nS4 nS5 nS6⟩
  have FSI : Fun K "__init__" "Store.__init__" sSI fSI _ := fun_mk (st := sSI) lSI cSI kSI
  have FSF : Fun K "forest_of" "Store.forest_of" sSF fSF _ := fun_mk (st := sSF) lSF cSF kSF
  have bSF := FSF.binds (ps := ["self", "name"]) fun _ _ _ _ _ _ us hl => match us, hl with | [_, _], _ => rfl
  have FSA : Fun K "apply_all" "Store.apply_all" sAA fSA _ := fun_mk (st := sAA) lSA cSA kSA
  have bSA := FSA.binds (ps := ["self", "commands"]) fun _ _ _ _ _ _ us hl => match us, hl with | [_, _], _ => rfl
  have FSP : Fun K "apply" "Store.apply" sAp fSP _ := fun_mk (st := sAp) lSP cSP kSP
  have bSP := FSP.binds (ps := ["self", "command"]) fun _ _ _ _ _ _ us hl => match us, hl with | [_, _], _ => rfl
  have gLen := PySem.W.mg_of X G aLEN
  have gAct := PySem.W.mg_of X G aACT
  have gMF := PySem.W.mg_of X G aMF
  have gLt := PySem.W.mg_of X G aLt
  have DL : KDict K w dL esL nL := ⟨lkL, ltL, loL⟩
  refine ⟨PySem.W.fnOf "law" "law" (defArgs sLaw) (defBody sLaw) (defScope sLaw) .none kV dc pm an cd ct, fun s v => .of_eq rfl, fun base _ _ => ?_⟩
  have b_0 := F_0.binds (ps := ["parents", "node"]) fun _ _ _ _ _ _ us hl => match us, hl with | [_, _], _ => rfl
  have b_1 := F_1.binds (ps := ["parents"]) fun _ _ _ _ _ _ us hl => match us, hl with | [_], _ => rfl
  have b_2 := F_2.binds (ps := ["size", "node"]) fun _ _ _ _ _ _ us hl => match us, hl with | [_, _], _ => rfl
  have b_3 := F_3.binds (ps := ["forest", "node"]) fun _ _ _ _ _ _ us hl => match us, hl with | [_, _], _ => rfl
  have b_4 := F_4.binds (ps := ["forest", "node"]) fun _ _ _ _ _ _ us hl => match us, hl with | [_, _], _ => rfl
  have b_5 := F_5.binds (ps := ["forest", "node"]) fun _ _ _ _ _ _ us hl => match us, hl with | [_, _], _ => rfl
  have b_6 := F_6.binds (ps := ["forest", "node"]) fun _ _ _ _ _ _ us hl => match us, hl with | [_, _], _ => rfl
  have b_7 := F_7.binds (ps := ["forest", "one", "other"]) fun _ _ _ _ _ _ us hl => match us, hl with | [_, _, _], _ => rfl
  have b_8 := F_8.binds (ps := ["forest", "node"]) fun _ _ _ _ _ _ us hl => match us, hl with | [_, _], _ => rfl
  have b_9 := F_9.binds (ps := ["forest", "nodes"]) fun _ _ _ _ _ _ us hl => match us, hl with | [_, _], _ => rfl
  have b_10 := F_10.binds (ps := ["forest", "nodes"]) fun _ _ _ _ _ _ us hl => match us, hl with | [_, _], _ => rfl
  have b_11 := F_11.binds (ps := ["forest", "nodes"]) fun _ _ _ _ _ _ us hl => match us, hl with | [_, _], _ => rfl
  have b_12 := F_12.binds (ps := ["forest", "nodes"]) fun _ _ _ _ _ _ us hl => match us, hl with | [_, _], _ => rfl
  have b_13 := F_13.binds (ps := ["one", "other"]) fun _ _ _ _ _ _ us hl => match us, hl with | [_, _], _ => rfl
  have b_14 := F_14.binds (ps := ["one", "other"]) fun _ _ _ _ _ _ us hl => match us, hl with | [_, _], _ => rfl
  have b_15 := F_15.binds (ps := ["one", "other"]) fun _ _ _ _ _ _ us hl => match us, hl with | [_, _], _ => rfl
  have b_16 := F_16.binds (ps := ["one", "other", "changed"]) fun _ _ _ _ _ _ us hl => match us, hl with | [_, _, _], _ => rfl
  have b_17 := F_17.binds (ps := ["one", "other"]) fun _ _ _ _ _ _ us hl => match us, hl with | [_, _], _ => rfl
  have b_18 := F_18.binds (ps := ["one", "other"]) fun _ _ _ _ _ _ us hl => match us, hl with | [_, _], _ => rfl
  have b_19 := F_19.binds (ps := ["one", "other", "node"]) fun _ _ _ _ _ _ us hl => match us, hl with | [_, _, _], _ => rfl
  have b_20 := F_20.binds (ps := ["one", "other"]) fun _ _ _ _ _ _ us hl => match us, hl with | [_, _], _ => rfl
  have b_21 := F_21.binds (ps := ["forest"]) fun _ _ _ _ _ _ us hl => match us, hl with | [_], _ => rfl
  have b_22 := F_22.binds (ps := ["forest"]) fun _ _ _ _ _ _ us hl => match us, hl with | [_], _ => rfl
  have b_23 := F_23.binds (ps := ["forest"]) fun _ _ _ _ _ _ us hl => match us, hl with | [_], _ => rfl
  have b_24 := F_24.binds (ps := ["text"]) fun _ _ _ _ _ _ us hl => match us, hl with | [_], _ => rfl
  have b_25 := F_25.binds (ps := ["forests", "name"]) fun _ _ _ _ _ _ us hl => match us, hl with | [_, _], _ => rfl
  have b_26 := F_26.binds (ps := ["forests", "name"]) fun _ _ _ _ _ _ us hl => match us, hl with | [_, _], _ => rfl
  have b_27 := F_27.binds (ps := ["forests", "name", "parents"]) fun _ _ _ _ _ _ us hl => match us, hl with | [_, _, _], _ => rfl
  have b_28 := F_28.binds (ps := ["forests", "name"]) fun _ _ _ _ _ _ us hl => match us, hl with | [_, _], _ => rfl
  have b_29 := F_29.binds (ps := ["command"]) fun _ _ _ _ _ _ us hl => match us, hl with | [_], _ => rfl
  have b_30 := F_30.binds (ps := ["forests", "command"]) fun _ _ _ _ _ _ us hl => match us, hl with | [_, _], _ => rfl
  have b_31 := F_31.binds (ps := ["_law_script"]) fun _ _ _ _ _ _ us hl => match us, hl with | [_], _ => rfl
  have b_32 := F_32.binds (ps := ["_law_draw", "_law_many"]) fun _ _ _ _ _ _ us hl => match us, hl with | [_, _], _ => rfl
  have b_33 := F_33.binds (ps := ["_law_draw", "_law_some"]) fun _ _ _ _ _ _ us hl => match us, hl with | [_, _], _ => rfl
  have b_34 := F_34.binds (ps := ["_law_draw", "_law_some"]) fun _ _ _ _ _ _ us hl => match us, hl with | [_, _], _ => rfl
  have b_35 := F_35.binds (ps := ["_law_found", "_law_due"]) fun _ _ _ _ _ _ us hl => match us, hl with | [_, _], _ => rfl
  have b_36 := F_36.binds (ps := ["_law_draw", "_law_most"]) fun _ _ _ _ _ _ us hl => match us, hl with | [_, _], _ => rfl
  have b_37 := F_37.binds (ps := ["_law_draw", "_law_parents"]) fun _ _ _ _ _ _ us hl => match us, hl with | [_, _], _ => rfl
  have b_38 := F_38.binds (ps := ["_law_draw", "_law_size_here", "_law_many"]) fun _ _ _ _ _ _ us hl => match us, hl with | [_, _, _], _ => rfl
  have b_39 := F_39.binds (ps := ["_law_draw", "_law_most"]) fun _ _ _ _ _ _ us hl => match us, hl with | [_, _], _ => rfl
  have b_40 := F_40.binds (ps := ["_law_draw", "_law_size_here", "_law_most"]) fun _ _ _ _ _ _ us hl => match us, hl with | [_, _, _], _ => rfl
  have HForestError : Fun K "__init__" "ForestError.__init__" (initS sForE) fForestError _ := fun_mk (st := initS sForE) lForestError cForestError kForestError
  have IForestError : FnOk l.prog w K mg base CX0 1 fForestError _ ["self", "tag", "message"] (spTop K "ValueError.__new__" vaTail) := ok_forEI HForestError z_ValueError vForestError
  have JForestError := HForestError.binds (ps := ["self", "tag", "message"]) fun _ _ _ _ _ _ us hl => match us, hl with | [_, _, _], _ => rfl
  have LForestError : ClsI K CForestError fForestError := ⟨rForestError, mForestError, pForestError, kForestError, qForestError⟩
  have HMissing : Fun K "__init__" "Missing.__init__" (initS sMiss) fMissing _ := fun_mk (st := initS sMiss) lMissing cMissing kMissing
  have IMissing : FnOk l.prog w K mg base CX0 1 fMissing _ ["self", "tag", "message"] (spTop K "LookupError.__new__" luTail) := ok_missI HMissing z_LookupError vMissing
  have JMissing := HMissing.binds (ps := ["self", "tag", "message"]) fun _ _ _ _ _ _ us hl => match us, hl with | [_, _, _], _ => rfl
  have LMissing : ClsI K CMissing fMissing := ⟨rMissing, mMissing, pMissing, kMissing, qMissing⟩
  have HTooManyNodes : Fun K "__init__" "TooManyNodes.__init__" (initS sTooMany) fTooManyNodes _ := fun_mk (st := initS sTooMany) lTooManyNodes cTooManyNodes kTooManyNodes
  have JTooManyNodes := HTooManyNodes.binds (ps := ["self", "limit"]) fun _ _ _ _ _ _ us hl => match us, hl with | [_, _], _ => rfl
  have RTooManyNodes : Raisable l.prog w K mg base 2 "TooManyNodes" CTooManyNodes "limit" "TooManyNodes" := ⟨⟨_, _, _, _, fTooManyNodes, _, PySem.F.excBase_ValueError, ⟨uTooManyNodes, oTooManyNodes, hTooManyNodes, saTooManyNodes, bTooManyNodes, yTooManyNodes, wTooManyNodes⟩, iTooManyNodes, tTooManyNodes, ok_tooManyI HTooManyNodes LForestError GForestError IForestError JForestError, JTooManyNodes⟩, GTooManyNodes, nTooManyNodes, gTooManyNodes, ⟨xTooManyNodes, jTooManyNodes, bTooManyNodes, hTooManyNodes⟩⟩
  have HBadParent : Fun K "__init__" "BadParent.__init__" (initS sBadPar) fBadParent _ := fun_mk (st := initS sBadPar) lBadParent cBadParent kBadParent
  have JBadParent := HBadParent.binds (ps := ["self", "node"]) fun _ _ _ _ _ _ us hl => match us, hl with | [_, _], _ => rfl
  have RBadParent : Raisable l.prog w K mg base 2 "BadParent" CBadParent "node" "BadParent" := ⟨⟨_, _, _, _, fBadParent, _, PySem.F.excBase_ValueError, ⟨uBadParent, oBadParent, hBadParent, saBadParent, bBadParent, yBadParent, wBadParent⟩, iBadParent, tBadParent, ok_badParI HBadParent LForestError GForestError IForestError JForestError, JBadParent⟩, GBadParent, nBadParent, gBadParent, ⟨xBadParent, jBadParent, bBadParent, hBadParent⟩⟩
  have HCycle : Fun K "__init__" "Cycle.__init__" (initS sCycle) fCycle _ := fun_mk (st := initS sCycle) lCycle cCycle kCycle
  have JCycle := HCycle.binds (ps := ["self", "node"]) fun _ _ _ _ _ _ us hl => match us, hl with | [_, _], _ => rfl
  have RCycle : Raisable l.prog w K mg base 2 "Cycle" CCycle "node" "Cycle" := ⟨⟨_, _, _, _, fCycle, _, PySem.F.excBase_ValueError, ⟨uCycle, oCycle, hCycle, saCycle, bCycle, yCycle, wCycle⟩, iCycle, tCycle, ok_cycleI HCycle LForestError GForestError IForestError JForestError, JCycle⟩, GCycle, nCycle, gCycle, ⟨xCycle, jCycle, bCycle, hCycle⟩⟩
  have HSizesDiffer : Fun K "__init__" "SizesDiffer.__init__" (initS sE_SizesDiffer) fSizesDiffer _ := fun_mk (st := initS sE_SizesDiffer) lSizesDiffer cSizesDiffer kSizesDiffer
  have JSizesDiffer := HSizesDiffer.binds (ps := ["self", "size"]) fun _ _ _ _ _ _ us hl => match us, hl with | [_, _], _ => rfl
  have RSizesDiffer : Raisable l.prog w K mg base 2 "SizesDiffer" CSizesDiffer "size" "SizesDiffer" := ⟨⟨_, _, _, _, fSizesDiffer, _, PySem.F.excBase_ValueError, ⟨uSizesDiffer, oSizesDiffer, hSizesDiffer, saSizesDiffer, bSizesDiffer, ySizesDiffer, wSizesDiffer⟩, iSizesDiffer, tSizesDiffer, ok_E_SizesDiffer HSizesDiffer LForestError GForestError IForestError JForestError, JSizesDiffer⟩, GSizesDiffer, nSizesDiffer, gSizesDiffer, ⟨xSizesDiffer, jSizesDiffer, bSizesDiffer, hSizesDiffer⟩⟩
  have HRootsDiffer : Fun K "__init__" "RootsDiffer.__init__" (initS sE_RootsDiffer) fRootsDiffer _ := fun_mk (st := initS sE_RootsDiffer) lRootsDiffer cRootsDiffer kRootsDiffer
  have JRootsDiffer := HRootsDiffer.binds (ps := ["self", "node"]) fun _ _ _ _ _ _ us hl => match us, hl with | [_, _], _ => rfl
  have RRootsDiffer : Raisable l.prog w K mg base 2 "RootsDiffer" CRootsDiffer "node" "RootsDiffer" := ⟨⟨_, _, _, _, fRootsDiffer, _, PySem.F.excBase_ValueError, ⟨uRootsDiffer, oRootsDiffer, hRootsDiffer, saRootsDiffer, bRootsDiffer, yRootsDiffer, wRootsDiffer⟩, iRootsDiffer, tRootsDiffer, ok_E_RootsDiffer HRootsDiffer LForestError GForestError IForestError JForestError, JRootsDiffer⟩, GRootsDiffer, nRootsDiffer, gRootsDiffer, ⟨xRootsDiffer, jRootsDiffer, bRootsDiffer, hRootsDiffer⟩⟩
  have HNoWay : Fun K "__init__" "NoWay.__init__" (initS sE_NoWay) fNoWay _ := fun_mk (st := initS sE_NoWay) lNoWay cNoWay kNoWay
  have JNoWay := HNoWay.binds (ps := ["self", "node"]) fun _ _ _ _ _ _ us hl => match us, hl with | [_, _], _ => rfl
  have RNoWay : Raisable l.prog w K mg base 2 "NoWay" CNoWay "node" "NoWay" := ⟨⟨_, _, _, _, fNoWay, _, PySem.F.excBase_ValueError, ⟨uNoWay, oNoWay, hNoWay, saNoWay, bNoWay, yNoWay, wNoWay⟩, iNoWay, tNoWay, ok_E_NoWay HNoWay LForestError GForestError IForestError JForestError, JNoWay⟩, GNoWay, nNoWay, gNoWay, ⟨xNoWay, jNoWay, bNoWay, hNoWay⟩⟩
  have HNoNode : Fun K "__init__" "NoNode.__init__" (initS sE_NoNode) fNoNode _ := fun_mk (st := initS sE_NoNode) lNoNode cNoNode kNoNode
  have JNoNode := HNoNode.binds (ps := ["self", "node"]) fun _ _ _ _ _ _ us hl => match us, hl with | [_, _], _ => rfl
  have RNoNode : Raisable l.prog w K mg base 2 "NoNode" CNoNode "node" "NoNode" := ⟨⟨_, _, _, _, fNoNode, _, PySem.F.excBase_LookupError, ⟨uNoNode, oNoNode, hNoNode, saNoNode, bNoNode, yNoNode, wNoNode⟩, iNoNode, tNoNode, ok_E_NoNode HNoNode LMissing GMissing IMissing JMissing, JNoNode⟩, GNoNode, nNoNode, gNoNode, ⟨xNoNode, jNoNode, bNoNode, hNoNode⟩⟩
  have k_0 : Kn l.prog w K mg base 1 "leads_to_root" sLeads ["parents", "node"] (spLeads K) f_0 fd_0 := ⟨F_0, ok_leads F_0 T, b_0, g_0⟩
  have k_2 : Kn l.prog w K mg base 1 "check_number" sNum ["size", "node"] spNum f_2 fd_2 := ⟨F_2, ok_num F_2 , b_2, g_2⟩
  have k_3 : Kn l.prog w K mg base 2 "check_node" sChk ["forest", "node"] (spChk K) f_3 fd_3 := ⟨F_3, ok_chk F_3 k_2 T, b_3, g_3⟩
  have k_4 : Kn l.prog w K mg base 3 "path_of" sPathOf ["forest", "node"] (spPathOf K) f_4 fd_4 := ⟨F_4, ok_pathOf F_4 k_3.G k_3.F k_3.b k_3.g, b_4, g_4⟩
  have k_5 : Kn l.prog w K mg base 4 "root_of" sRootOf ["forest", "node"] (spRootOf K) f_5 fd_5 := ⟨F_5, ok_rootOf F_5 k_4, b_5, g_5⟩
  have k_6 : Kn l.prog w K mg base 4 "depth_of" sDepthOf ["forest", "node"] (spDepthOf K) f_6 fd_6 := ⟨F_6, ok_depthOf F_6 k_4 T, b_6, g_6⟩
  have k_8 : Kn l.prog w K mg base 4 "find" sFind ["forest", "node"] (spFind K) f_8 fd_8 := ⟨F_8, ok_find F_8 k_4.G k_4.F k_4.b k_4.g T, b_8, g_8⟩
  have k_9 : Kn l.prog w K mg base 5 "find_all" sFindAll ["forest", "nodes"] (spFindAll K) f_9 fd_9 := ⟨F_9, ok_findAll F_9 k_8.G k_8.F k_8.b k_8.g, b_9, g_9⟩
  have k_10 : Kn l.prog w K mg base 4 "marked_nodes" sMarked ["forest", "nodes"] (spMarked K) f_10 fd_10 := ⟨F_10, ok_marked F_10 k_4 T z_set z_sorted, b_10, g_10⟩
  have k_11 : Kn l.prog w K mg base 5 "forest_after" sAfter ["forest", "nodes"] (spAfter K) f_11 fd_11 := ⟨F_11, ok_after F_11 k_10 k_5 T, b_11, g_11⟩
  have k_12 : Kn l.prog w K mg base 5 "total_cost" sTotal ["forest", "nodes"] (spTotal K) f_12 fd_12 := ⟨F_12, ok_total F_12 k_10 k_6 T, b_12, g_12⟩
  have k_16 : Kn l.prog w K mg base 4 "barring_nodes" sBarr ["one", "other", "changed"] (spBarr K) f_16 fd_16 := ⟨F_16, ok_barr F_16 k_4, b_16, g_16⟩
  have k_21 : Kn l.prog w K mg base 5 "deep_nodes" sDeep ["forest"] (spDeep K) f_21 fd_21 := ⟨F_21, ok_deep F_21 k_6 T, b_21, g_21⟩
  have k_22 : Kn l.prog w K mg base 5 "flattened" sFlat ["forest"] (spFlat K) f_22 fd_22 := ⟨F_22, ok_flat F_22 k_5 T, b_22, g_22⟩
  have k_24 : Kn l.prog w K mg base 1 "is_name" sIsNm ["text"] spIsNm f_24 fd_24 := ⟨F_24, ok_isNm F_24 T z_all gLt, b_24, g_24⟩
  have k_25 : Kn l.prog w K mg base 1 "forest_in" sFIn ["forests", "name"] spFIn f_25 fd_25 := ⟨F_25, ok_fIn F_25 , b_25, g_25⟩
  have k_26 : Kn l.prog w K mg base 2 "check_new_name" sCNN ["forests", "name"] spCNN f_26 fd_26 := ⟨F_26, ok_cNN F_26 k_24 T gMF, b_26, g_26⟩
  have k_29 : Kn l.prog w K mg base 1 "check_command" sChkC ["command"] (spChkC K w dL) f_29 fd_29 := ⟨F_29, ok_chkC F_29 T gLen DL, b_29, g_29⟩
  have k_31 : Kn l.prog w K mg base 1 "_law_start" sStart ["_law_script"] (spStart K) f_31 fd_31 := ⟨F_31, ok_start F_31 T, b_31, g_31⟩
  have k_32 : Kn l.prog w K mg base 1 "_law_take" sTake ["_law_draw", "_law_many"] spTake f_32 fd_32 := ⟨F_32, ok_take F_32 T.len, b_32, g_32⟩
  have k_33 : Kn l.prog w K mg base 2 "_law_of" sOf ["_law_draw", "_law_some"] (spOf K) f_33 fd_33 := ⟨F_33, ok_of F_33 k_32.G k_32.F k_32.b k_32.g T, b_33, g_33⟩
  have k_34 : Kn l.prog w K mg base 2 "_law_shuffled" sShuf ["_law_draw", "_law_some"] (spShuf K) f_34 fd_34 := ⟨F_34, ok_shuf F_34 k_32.G k_32.F k_32.b k_32.g T, b_34, g_34⟩
  have k_36 : Kn l.prog w K mg base 3 "_law_size" sSize ["_law_draw", "_law_most"] spSize f_36 fd_36 := ⟨F_36, ok_size F_36 k_32.G k_32.F k_32.b k_32.g k_33.G k_33.F k_33.b k_33.g T, b_36, g_36⟩
  have k_37 : Kn l.prog w K mg base 3 "_law_renamed" sRen ["_law_draw", "_law_parents"] (spRen K) f_37 fd_37 := ⟨F_37, ok_ren F_37 k_34.G k_34.F k_34.b k_34.g T, b_37, g_37⟩
  have k_38 : Kn l.prog w K mg base 4 "_law_forest" sFor ["_law_draw", "_law_size_here", "_law_many"] spFor f_38 fd_38 := ⟨F_38, ok_for F_38 k_32.G k_32.F k_32.b k_32.g k_37.G k_37.F k_37.b k_37.g T, b_38, g_38⟩
  have k_39 : Kn l.prog w K mg base 5 "_law_some_forest" sSome ["_law_draw", "_law_most"] spSome f_39 fd_39 := ⟨F_39, ok_some F_39 k_32.G k_32.F k_32.b k_32.g k_36.G k_36.F k_36.b k_36.g k_38.G k_38.F k_38.b k_38.g, b_39, g_39⟩
  have k_40 : Kn l.prog w K mg base 3 "_law_nodes" sNodes ["_law_draw", "_law_size_here", "_law_most"] spNodes f_40 fd_40 := ⟨F_40, ok_nodes F_40 k_32.G k_32.F k_32.b k_32.g k_33.G k_33.F k_33.b k_33.g k_34.G k_34.F k_34.b k_34.g T, b_40, g_40⟩
  have k_35 : Kn l.prog w K mg base 3 "_law_same" sSame ["_law_found", "_law_due"] (spSame K 2) f_35 fd_35 := ⟨F_35, ok_same F_35 TS b_35 g_35 2, b_35, g_35⟩
  have x_check : KnX l.prog w K mg base 4 "check_forest" ["parents"] (spCheckB K CTooManyNodes CBadParent CCycle) f_1 fd_1 := ⟨F_1.kp, okB_check F_1 k_0 T z_enumerate gM RTooManyNodes RBadParent RCycle, b_1, g_1⟩
  have x_num : KnX l.prog w K mg base 4 "check_number" ["size", "node"] (spNumX CNoNode) f_2 fd_2 := ⟨F_2.kp, okX_num F_2 RNoNode, b_2, g_2⟩
  have x_chk : KnX l.prog w K mg base 5 "check_node" ["forest", "node"] (spChkX K CNoNode) f_3 fd_3 := ⟨F_3.kp, okX_chk F_3 x_num T, b_3, g_3⟩
  have x_path : KnX l.prog w K mg base 6 "path_of" ["forest", "node"] (spChkX K CNoNode) f_4 fd_4 := ⟨F_4.kp, okX_pathOf F_4 x_chk, b_4, g_4⟩
  have x_pathB : KnX l.prog w K mg base 6 "path_of" ["forest", "node"] (spOr (spPathOf K) (spChkX K CNoNode)) f_4 fd_4 := ⟨F_4.kp, fn_or k_4.G x_path.G (by decide), b_4, g_4⟩
  have x_chkB : KnX l.prog w K mg base 5 "check_node" ["forest", "node"] (spOr (spChk K) (spChkX K CNoNode)) f_3 fd_3 := ⟨F_3.kp, fn_or k_3.G x_chk.G (by decide), b_3, g_3⟩
  have x_above : KnX l.prog w K mg base 7 "is_above" ["forest", "one", "other"] (spAboveB K CNoNode) f_7 fd_7 := ⟨F_7.kp, okB_above F_7 x_chkB x_pathB, b_7, g_7⟩
  have x_sizes : KnX l.prog w K mg base 4 "check_sizes" ["one", "other"] (spSizesB K CSizesDiffer) f_13 fd_13 := ⟨F_13.kp, okB_sizes F_13 T RSizesDiffer, b_13, g_13⟩
  have x_roots2 : KnX l.prog w K mg base 4 "check_roots" ["one", "other"] (spRoots2B K CRootsDiffer) f_14 fd_14 := ⟨F_14.kp, okB_roots2 F_14 T RRootsDiffer, b_14, g_14⟩
  have x_chg : KnX l.prog w K mg base 5 "changed_nodes" ["one", "other"] (spTwoB K CSizesDiffer CRootsDiffer okChg) f_15 fd_15 := ⟨F_15.kp, okB_chg F_15 x_sizes x_roots2 T, b_15, g_15⟩
  have x_bar : KnX l.prog w K mg base 6 "find_bar" ["one", "other"] (spTwoB K CSizesDiffer CRootsDiffer okBar) f_17 fd_17 := ⟨F_17.kp, okB_bar F_17 x_chg k_16, b_17, g_17⟩
  have x_isN : KnX l.prog w K mg base 8 "is_needed" ["one", "other", "node"] (spIsNB K CSizesDiffer CRootsDiffer) f_19 fd_19 := ⟨F_19.kp, okB_isN F_19 x_chg x_above z_any, b_19, g_19⟩
  have x_need : KnX l.prog w K mg base 9 "needed_finds" ["one", "other"] (spTwoB K CSizesDiffer CRootsDiffer (okNeed CNoWay)) f_18 fd_18 := ⟨F_18.kp, okB_need F_18 x_bar x_isN T RNoWay, b_18, g_18⟩
  have x_wcost : KnX l.prog w K mg base 10 "way_cost" ["one", "other"] (spTwoB K CSizesDiffer CRootsDiffer (okWCost CNoWay)) f_20 fd_20 := ⟨F_20.kp, okB_wcost F_20 x_need k_12, b_20, g_20⟩
  have k_need : Kn l.prog w K mg base 9 "needed_finds" sNeed ["one", "other"] (spNeeded K) f_18 fd_18 := ⟨F_18, fn_no x_need.G need_plain, b_18, g_18⟩
  have k_bar : Kn l.prog w K mg base 6 "find_bar" sBar ["one", "other"] (spBar K) f_17 fd_17 := ⟨F_17, fn_no x_bar.G bar_plain, b_17, g_17⟩
  have k_wc : Kn l.prog w K mg base 10 "way_cost" sWCost ["one", "other"] (spWayCost K) f_20 fd_20 := ⟨F_20, fn_no x_wcost.G wcost_plain, b_20, g_20⟩
  have k_ff : Kn l.prog w K mg base 10 "flattening_finds" sFlatF ["forest"] (spFlatFinds K) f_23 fd_23 := ⟨F_23, ok_flatF F_23 k_22 k_need, b_23, g_23⟩
  have k_fl : Kn l.prog w K mg base 5 "flattened" sFlat ["forest"] (spFlatW K) f_22 fd_22 := ⟨F_22, FnOk.imp k_22.G flat_plain, b_22, g_22⟩
  have k_chk : Kn l.prog w K mg base 4 "check_forest" sCheck ["parents"] (spChkV K) f_1 fd_1 := ⟨F_1, fn_no x_check.G chkV_plain, b_1, g_1⟩
  have k_dN : Kn l.prog w K mg base 11 "do_new" sDoNew ["forests", "name", "parents"] (spDoNew K) f_27 fd_27 := ⟨F_27, ok_doNew F_27 k_26 k_chk T, b_27, g_27⟩
  have k_dF : Kn l.prog w K mg base 11 "do_flatten" sDoFl ["forests", "name"] (spDoFl K) f_28 fd_28 := ⟨F_28, ok_doFl F_28 k_25 k_9 k_ff z_sum, b_28, g_28⟩
  have k_dC : Kn l.prog w K mg base 12 "do_command" sDoCmd ["forests", "command"] (spDoCmd K w dA (S2 K f_27 f_28)) f_30 fd_30 := ⟨F_30, ok_doCmd F_30 gAct (held2 k_dN k_dF), b_30, g_30⟩
  have m_sf : KMs l.prog w K mg base CS 2 "forest_of" ["self", "name"] (spSF CS) fSF _ := ⟨ok_sF FSF TCS k_25, bSF, ⟨aSF, iSF, kSF⟩⟩
  have m_aa : KMs l.prog w K mg base CS 13 "apply_all" ["self", "commands"] (spA1 K w CS dL dA (S2 K f_27 f_28) false) fSA _ := ⟨ok_aA FSA TCS k_29 k_dC z_sum, bSA, ⟨aSA, iSA, kSA⟩⟩
  have m_ap : KMs l.prog w K mg base CS 14 "apply" ["self", "command"] (spA1 K w CS dL dA (S2 K f_27 f_28) true) fSP _ := ⟨ok_ap FSP TCS m_aa, bSP, ⟨aSP, iSP, kSP⟩⟩
  have e_g1 : g1 = f_27 := by have z := (PySem.W.mg_of X G aN1).symm.trans g_27; injection z with z; injection z
  have e_g2 : g2 = f_28 := by have z := (PySem.W.mg_of X G aN2).symm.trans g_28; injection z with z; injection z
  have k_A1 : KDct K w dA "new" (.ref f_27) := e_g1 ▸ ⟨esA, nA, _, lkA, ltA, nA1, rfl⟩
  have k_A2 : KDct K w dA "flatten" (.ref f_28) := e_g2 ▸ ⟨esA, nA, _, lkA, ltA, nA2, rfl⟩
  have k_St : KSt l.prog w K mg base CS fSI _ := ⟨⟨mkS, aSI, iSI, kcS⟩, ok_sI FSI TCS, gCS, FSI.binds (ps := ["self"]) fun _ _ _ _ _ _ us hl => match us, hl with | [_], _ => rfl⟩
  exact ok_law FL T TCS ⟨_, _, k_31⟩ ⟨_, _, k_39⟩ ⟨_, _, k_40⟩ ⟨_, _, k_11⟩ ⟨_, _, k_12⟩ ⟨_, _, k_wc⟩ ⟨_, _, k_need⟩ ⟨_, _, k_fl⟩ ⟨_, _, k_ff⟩ ⟨_, _, k_35⟩ ⟨_, _, k_9⟩ ⟨_, _, k_21⟩ k_St m_sf m_ap k_A1 k_A2 (e_g1 ▸ e_g2 ▸ neG) nL1 nL2
section
open He
theorem at_ {K : PySem.W.Frag} {l : List (PySem.W.Frag → Bool)} (h : (l.all fun b => b K) = true) (i : Nat) {b : PySem.W.Frag → Bool} (e : l[i]? = some b) : b K = true := He.at_ex h i e
theorem ne_of_nd {a b : Addr} (h : (!decide (a = b)) = true) : a ≠ b := fun e => by rw [decide_eq_true e] at h; cases h
def dd_0 : He.DefD := ⟨("leads_to_root", none), "leads_to_root", "leads_to_root", defArgs sLeads, defBody sLeads, defScope sLeads, [], []⟩
def dd_1 : He.DefD := ⟨("check_forest", none), "check_forest", "check_forest", defArgs sCheck, defBody sCheck, defScope sCheck, [], []⟩
def dd_2 : He.DefD := ⟨("check_number", none), "check_number", "check_number", defArgs sNum, defBody sNum, defScope sNum, [], []⟩
def dd_3 : He.DefD := ⟨("check_node", none), "check_node", "check_node", defArgs sChk, defBody sChk, defScope sChk, [], []⟩
def dd_4 : He.DefD := ⟨("path_of", none), "path_of", "path_of", defArgs sPathOf, defBody sPathOf, defScope sPathOf, [], []⟩
def dd_5 : He.DefD := ⟨("root_of", none), "root_of", "root_of", defArgs sRootOf, defBody sRootOf, defScope sRootOf, [], []⟩
def dd_6 : He.DefD := ⟨("depth_of", none), "depth_of", "depth_of", defArgs sDepthOf, defBody sDepthOf, defScope sDepthOf, [], []⟩
def dd_7 : He.DefD := ⟨("is_above", none), "is_above", "is_above", defArgs sAbove, defBody sAbove, defScope sAbove, [], []⟩
def dd_8 : He.DefD := ⟨("find", none), "find", "find", defArgs sFind, defBody sFind, defScope sFind, [], []⟩
def dd_9 : He.DefD := ⟨("find_all", none), "find_all", "find_all", defArgs sFindAll, defBody sFindAll, defScope sFindAll, [], []⟩
def dd_10 : He.DefD := ⟨("marked_nodes", none), "marked_nodes", "marked_nodes", defArgs sMarked, defBody sMarked, defScope sMarked, [], []⟩
def dd_11 : He.DefD := ⟨("forest_after", none), "forest_after", "forest_after", defArgs sAfter, defBody sAfter, defScope sAfter, [], []⟩
def dd_12 : He.DefD := ⟨("total_cost", none), "total_cost", "total_cost", defArgs sTotal, defBody sTotal, defScope sTotal, [], []⟩
def dd_13 : He.DefD := ⟨("check_sizes", none), "check_sizes", "check_sizes", defArgs sSizes, defBody sSizes, defScope sSizes, [], []⟩
def dd_14 : He.DefD := ⟨("check_roots", none), "check_roots", "check_roots", defArgs sRoots2, defBody sRoots2, defScope sRoots2, [], []⟩
def dd_15 : He.DefD := ⟨("changed_nodes", none), "changed_nodes", "changed_nodes", defArgs sChg, defBody sChg, defScope sChg, [], []⟩
def dd_16 : He.DefD := ⟨("barring_nodes", none), "barring_nodes", "barring_nodes", defArgs sBarr, defBody sBarr, defScope sBarr, [], []⟩
def dd_17 : He.DefD := ⟨("find_bar", none), "find_bar", "find_bar", defArgs sBar, defBody sBar, defScope sBar, [], []⟩
def dd_18 : He.DefD := ⟨("needed_finds", none), "needed_finds", "needed_finds", defArgs sNeed, defBody sNeed, defScope sNeed, [], []⟩
def dd_19 : He.DefD := ⟨("is_needed", none), "is_needed", "is_needed", defArgs sIsN, defBody sIsN, defScope sIsN, [], []⟩
def dd_20 : He.DefD := ⟨("way_cost", none), "way_cost", "way_cost", defArgs sWCost, defBody sWCost, defScope sWCost, [], []⟩
def dd_21 : He.DefD := ⟨("deep_nodes", none), "deep_nodes", "deep_nodes", defArgs sDeep, defBody sDeep, defScope sDeep, [], []⟩
def dd_22 : He.DefD := ⟨("flattened", none), "flattened", "flattened", defArgs sFlat, defBody sFlat, defScope sFlat, [], []⟩
def dd_23 : He.DefD := ⟨("flattening_finds", none), "flattening_finds", "flattening_finds", defArgs sFlatF, defBody sFlatF, defScope sFlatF, [], []⟩
def dd_24 : He.DefD := ⟨("is_name", none), "is_name", "is_name", defArgs sIsNm, defBody sIsNm, defScope sIsNm, [], []⟩
def dd_25 : He.DefD := ⟨("forest_in", none), "forest_in", "forest_in", defArgs sFIn, defBody sFIn, defScope sFIn, [], []⟩
def dd_26 : He.DefD := ⟨("check_new_name", none), "check_new_name", "check_new_name", defArgs sCNN, defBody sCNN, defScope sCNN, [], []⟩
def dd_27 : He.DefD := ⟨("do_new", none), "do_new", "do_new", defArgs sDoNew, defBody sDoNew, defScope sDoNew, [], []⟩
def dd_28 : He.DefD := ⟨("do_flatten", none), "do_flatten", "do_flatten", defArgs sDoFl, defBody sDoFl, defScope sDoFl, [], []⟩
def dd_29 : He.DefD := ⟨("check_command", none), "check_command", "check_command", defArgs sChkC, defBody sChkC, defScope sChkC, [], []⟩
def dd_30 : He.DefD := ⟨("do_command", none), "do_command", "do_command", defArgs sDoCmd, defBody sDoCmd, defScope sDoCmd, [], []⟩
def dd_31 : He.DefD := ⟨("_law_start", none), "_law_start", "_law_start", defArgs sStart, defBody sStart, defScope sStart, [], []⟩
def dd_32 : He.DefD := ⟨("_law_take", none), "_law_take", "_law_take", defArgs sTake, defBody sTake, defScope sTake, [], []⟩
def dd_33 : He.DefD := ⟨("_law_of", none), "_law_of", "_law_of", defArgs sOf, defBody sOf, defScope sOf, [], []⟩
def dd_34 : He.DefD := ⟨("_law_shuffled", none), "_law_shuffled", "_law_shuffled", defArgs sShuf, defBody sShuf, defScope sShuf, [], []⟩
def dd_35 : He.DefD := ⟨("_law_same", none), "_law_same", "_law_same", defArgs sSame, defBody sSame, defScope sSame, [], []⟩
def dd_36 : He.DefD := ⟨("_law_size", none), "_law_size", "_law_size", defArgs sSize, defBody sSize, defScope sSize, [], []⟩
def dd_37 : He.DefD := ⟨("_law_renamed", none), "_law_renamed", "_law_renamed", defArgs sRen, defBody sRen, defScope sRen, [], []⟩
def dd_38 : He.DefD := ⟨("_law_forest", none), "_law_forest", "_law_forest", defArgs sFor, defBody sFor, defScope sFor, [], []⟩
def dd_39 : He.DefD := ⟨("_law_some_forest", none), "_law_some_forest", "_law_some_forest", defArgs sSome, defBody sSome, defScope sSome, [], []⟩
def dd_40 : He.DefD := ⟨("_law_nodes", none), "_law_nodes", "_law_nodes", defArgs sNodes, defBody sNodes, defScope sNodes, [], []⟩
def dd_41 : He.DefD := ⟨("law", none), "law", "law", defArgs sLaw, defBody sLaw, defScope sLaw, [], []⟩
def dd_42 : He.DefD := ⟨("ForestError", some "__init__"), "__init__", "ForestError.__init__", defArgs (initS sForE), defBody (initS sForE), defScope (initS sForE), [], []⟩
def dd_43 : He.DefD := ⟨("Missing", some "__init__"), "__init__", "Missing.__init__", defArgs (initS sMiss), defBody (initS sMiss), defScope (initS sMiss), [], []⟩
def dd_44 : He.DefD := ⟨("TooManyNodes", some "__init__"), "__init__", "TooManyNodes.__init__", defArgs (initS sTooMany), defBody (initS sTooMany), defScope (initS sTooMany), [], []⟩
def dd_45 : He.DefD := ⟨("BadParent", some "__init__"), "__init__", "BadParent.__init__", defArgs (initS sBadPar), defBody (initS sBadPar), defScope (initS sBadPar), [], []⟩
def dd_46 : He.DefD := ⟨("Cycle", some "__init__"), "__init__", "Cycle.__init__", defArgs (initS sCycle), defBody (initS sCycle), defScope (initS sCycle), [], []⟩
def dd_47 : He.DefD := ⟨("SizesDiffer", some "__init__"), "__init__", "SizesDiffer.__init__", defArgs (initS sE_SizesDiffer), defBody (initS sE_SizesDiffer), defScope (initS sE_SizesDiffer), [], []⟩
def dd_48 : He.DefD := ⟨("RootsDiffer", some "__init__"), "__init__", "RootsDiffer.__init__", defArgs (initS sE_RootsDiffer), defBody (initS sE_RootsDiffer), defScope (initS sE_RootsDiffer), [], []⟩
def dd_49 : He.DefD := ⟨("NoWay", some "__init__"), "__init__", "NoWay.__init__", defArgs (initS sE_NoWay), defBody (initS sE_NoWay), defScope (initS sE_NoWay), [], []⟩
def dd_50 : He.DefD := ⟨("NoNode", some "__init__"), "__init__", "NoNode.__init__", defArgs (initS sE_NoNode), defBody (initS sE_NoNode), defScope (initS sE_NoNode), [], []⟩
def dd_51 : He.DefD := ⟨("Store", some "__init__"), "__init__", "Store.__init__", defArgs sSI, defBody sSI, defScope sSI, [], []⟩
def dd_52 : He.DefD := ⟨("Store", some "forest_of"), "forest_of", "Store.forest_of", defArgs sSF, defBody sSF, defScope sSF, [], []⟩
def dd_53 : He.DefD := ⟨("Store", some "apply_all"), "apply_all", "Store.apply_all", defArgs sAA, defBody sAA, defScope sAA, [], []⟩
def dd_54 : He.DefD := ⟨("Store", some "apply"), "apply", "Store.apply", defArgs sAp, defBody sAp, defScope sAp, [], []⟩
def fn_ : List He.DefD := [dd_0, dd_1, dd_2, dd_3, dd_4, dd_5, dd_6, dd_7, dd_8, dd_9, dd_10, dd_11, dd_12, dd_13, dd_14, dd_15, dd_16, dd_17, dd_18, dd_19, dd_20, dd_21, dd_22, dd_23, dd_24, dd_25, dd_26, dd_27, dd_28, dd_29, dd_30, dd_31, dd_32, dd_33, dd_34, dd_35, dd_36, dd_37, dd_38, dd_39, dd_40, dd_41, dd_42, dd_43, dd_44, dd_45, dd_46, dd_47, dd_48, dd_49, dd_50, dd_51, dd_52, dd_53, dd_54]
def x_0 (K : PySem.W.Frag) : Bool := He.eqO (PySem.W.nsIn K mainGlobals "leads_to_root") (some (some (.ref (He.ga K "leads_to_root"))))
def x_1 (K : PySem.W.Frag) : Bool := He.eqO (PySem.W.nsIn K mainGlobals "check_forest") (some (some (.ref (He.ga K "check_forest"))))
def x_2 (K : PySem.W.Frag) : Bool := He.eqO (PySem.W.nsIn K mainGlobals "check_number") (some (some (.ref (He.ga K "check_number"))))
def x_3 (K : PySem.W.Frag) : Bool := He.eqO (PySem.W.nsIn K mainGlobals "check_node") (some (some (.ref (He.ga K "check_node"))))
def x_4 (K : PySem.W.Frag) : Bool := He.eqO (PySem.W.nsIn K mainGlobals "path_of") (some (some (.ref (He.ga K "path_of"))))
def x_5 (K : PySem.W.Frag) : Bool := He.eqO (PySem.W.nsIn K mainGlobals "root_of") (some (some (.ref (He.ga K "root_of"))))
def x_6 (K : PySem.W.Frag) : Bool := He.eqO (PySem.W.nsIn K mainGlobals "depth_of") (some (some (.ref (He.ga K "depth_of"))))
def x_7 (K : PySem.W.Frag) : Bool := He.eqO (PySem.W.nsIn K mainGlobals "is_above") (some (some (.ref (He.ga K "is_above"))))
def x_8 (K : PySem.W.Frag) : Bool := He.eqO (PySem.W.nsIn K mainGlobals "find") (some (some (.ref (He.ga K "find"))))
def x_9 (K : PySem.W.Frag) : Bool := He.eqO (PySem.W.nsIn K mainGlobals "find_all") (some (some (.ref (He.ga K "find_all"))))
def x_10 (K : PySem.W.Frag) : Bool := He.eqO (PySem.W.nsIn K mainGlobals "marked_nodes") (some (some (.ref (He.ga K "marked_nodes"))))
def x_11 (K : PySem.W.Frag) : Bool := He.eqO (PySem.W.nsIn K mainGlobals "forest_after") (some (some (.ref (He.ga K "forest_after"))))
def x_12 (K : PySem.W.Frag) : Bool := He.eqO (PySem.W.nsIn K mainGlobals "total_cost") (some (some (.ref (He.ga K "total_cost"))))
def x_13 (K : PySem.W.Frag) : Bool := He.eqO (PySem.W.nsIn K mainGlobals "check_sizes") (some (some (.ref (He.ga K "check_sizes"))))
def x_14 (K : PySem.W.Frag) : Bool := He.eqO (PySem.W.nsIn K mainGlobals "check_roots") (some (some (.ref (He.ga K "check_roots"))))
def x_15 (K : PySem.W.Frag) : Bool := He.eqO (PySem.W.nsIn K mainGlobals "changed_nodes") (some (some (.ref (He.ga K "changed_nodes"))))
def x_16 (K : PySem.W.Frag) : Bool := He.eqO (PySem.W.nsIn K mainGlobals "barring_nodes") (some (some (.ref (He.ga K "barring_nodes"))))
def x_17 (K : PySem.W.Frag) : Bool := He.eqO (PySem.W.nsIn K mainGlobals "find_bar") (some (some (.ref (He.ga K "find_bar"))))
def x_18 (K : PySem.W.Frag) : Bool := He.eqO (PySem.W.nsIn K mainGlobals "needed_finds") (some (some (.ref (He.ga K "needed_finds"))))
def x_19 (K : PySem.W.Frag) : Bool := He.eqO (PySem.W.nsIn K mainGlobals "is_needed") (some (some (.ref (He.ga K "is_needed"))))
def x_20 (K : PySem.W.Frag) : Bool := He.eqO (PySem.W.nsIn K mainGlobals "way_cost") (some (some (.ref (He.ga K "way_cost"))))
def x_21 (K : PySem.W.Frag) : Bool := He.eqO (PySem.W.nsIn K mainGlobals "deep_nodes") (some (some (.ref (He.ga K "deep_nodes"))))
def x_22 (K : PySem.W.Frag) : Bool := He.eqO (PySem.W.nsIn K mainGlobals "flattened") (some (some (.ref (He.ga K "flattened"))))
def x_23 (K : PySem.W.Frag) : Bool := He.eqO (PySem.W.nsIn K mainGlobals "flattening_finds") (some (some (.ref (He.ga K "flattening_finds"))))
def x_24 (K : PySem.W.Frag) : Bool := He.eqO (PySem.W.nsIn K mainGlobals "is_name") (some (some (.ref (He.ga K "is_name"))))
def x_25 (K : PySem.W.Frag) : Bool := He.eqO (PySem.W.nsIn K mainGlobals "forest_in") (some (some (.ref (He.ga K "forest_in"))))
def x_26 (K : PySem.W.Frag) : Bool := He.eqO (PySem.W.nsIn K mainGlobals "check_new_name") (some (some (.ref (He.ga K "check_new_name"))))
def x_27 (K : PySem.W.Frag) : Bool := He.eqO (PySem.W.nsIn K mainGlobals "do_new") (some (some (.ref (He.ga K "do_new"))))
def x_28 (K : PySem.W.Frag) : Bool := He.eqO (PySem.W.nsIn K mainGlobals "do_flatten") (some (some (.ref (He.ga K "do_flatten"))))
def x_29 (K : PySem.W.Frag) : Bool := He.eqO (PySem.W.nsIn K mainGlobals "check_command") (some (some (.ref (He.ga K "check_command"))))
def x_30 (K : PySem.W.Frag) : Bool := He.eqO (PySem.W.nsIn K mainGlobals "do_command") (some (some (.ref (He.ga K "do_command"))))
def x_31 (K : PySem.W.Frag) : Bool := He.eqO (PySem.W.nsIn K mainGlobals "_law_start") (some (some (.ref (He.ga K "_law_start"))))
def x_32 (K : PySem.W.Frag) : Bool := He.eqO (PySem.W.nsIn K mainGlobals "_law_take") (some (some (.ref (He.ga K "_law_take"))))
def x_33 (K : PySem.W.Frag) : Bool := He.eqO (PySem.W.nsIn K mainGlobals "_law_of") (some (some (.ref (He.ga K "_law_of"))))
def x_34 (K : PySem.W.Frag) : Bool := He.eqO (PySem.W.nsIn K mainGlobals "_law_shuffled") (some (some (.ref (He.ga K "_law_shuffled"))))
def x_35 (K : PySem.W.Frag) : Bool := He.eqO (PySem.W.nsIn K mainGlobals "_law_same") (some (some (.ref (He.ga K "_law_same"))))
def x_36 (K : PySem.W.Frag) : Bool := He.eqO (PySem.W.nsIn K mainGlobals "_law_size") (some (some (.ref (He.ga K "_law_size"))))
def x_37 (K : PySem.W.Frag) : Bool := He.eqO (PySem.W.nsIn K mainGlobals "_law_renamed") (some (some (.ref (He.ga K "_law_renamed"))))
def x_38 (K : PySem.W.Frag) : Bool := He.eqO (PySem.W.nsIn K mainGlobals "_law_forest") (some (some (.ref (He.ga K "_law_forest"))))
def x_39 (K : PySem.W.Frag) : Bool := He.eqO (PySem.W.nsIn K mainGlobals "_law_some_forest") (some (some (.ref (He.ga K "_law_some_forest"))))
def x_40 (K : PySem.W.Frag) : Bool := He.eqO (PySem.W.nsIn K mainGlobals "_law_nodes") (some (some (.ref (He.ga K "_law_nodes"))))
def x_41 (K : PySem.W.Frag) : Bool := He.eqO (PySem.W.nsIn K mainGlobals "law") (some (some (.ref (He.ga K "law"))))
def x_42 (K : PySem.W.Frag) : Bool := He.eqO (PySem.W.nsIn K mainGlobals "len") (some none)
def x_43 (K : PySem.W.Frag) : Bool := He.eqO (PySem.W.nsIn K mainGlobals "range") (some none)
def x_44 (K : PySem.W.Frag) : Bool := He.eqO (PySem.W.nsIn K mainGlobals "list") (some none)
def x_45 (K : PySem.W.Frag) : Bool := He.eqO (PySem.W.nsIn K mainGlobals "tuple") (some none)
def x_46 (K : PySem.W.Frag) : Bool := He.eqO (PySem.W.nsIn K mainGlobals "max") (some none)
def x_47 (K : PySem.W.Frag) : Bool := He.eqO (PySem.W.nsIn K mainGlobals "min") (some none)
def x_48 (K : PySem.W.Frag) : Bool := He.eqO (PySem.W.nsIn K mainGlobals "isinstance") (some none)
def x_49 (K : PySem.W.Frag) : Bool := He.eqO (PySem.W.nsIn K mainGlobals "bool") (some none)
def x_50 (K : PySem.W.Frag) : Bool := He.eqO (PySem.W.nsIn K mainGlobals "int") (some none)
def x_51 (K : PySem.W.Frag) : Bool := He.eqO (PySem.W.nsIn K mainGlobals "str") (some none)
def x_52 (K : PySem.W.Frag) : Bool := He.eqO (PySem.W.nsIn K mainGlobals "all") (some none)
def x_53 (K : PySem.W.Frag) : Bool := He.eqO (PySem.W.nsIn K mainGlobals "zip") (some none)
def x_54 (K : PySem.W.Frag) : Bool := He.eqO (PySem.W.nsIn K mainGlobals "set") (some none)
def x_55 (K : PySem.W.Frag) : Bool := He.eqO (PySem.W.nsIn K mainGlobals "sorted") (some none)
def x_56 (K : PySem.W.Frag) : Bool := He.eqO (PySem.W.nsIn K mainGlobals "sum") (some none)
def x_57 (K : PySem.W.Frag) : Bool := He.eqO (PySem.W.nsIn K mainGlobals "ValueError") (some none)
def x_58 (K : PySem.W.Frag) : Bool := He.eqO (PySem.W.nsIn K mainGlobals "LookupError") (some none)
def x_59 (K : PySem.W.Frag) : Bool := He.eqO (PySem.W.nsIn K mainGlobals "any") (some none)
def x_60 (K : PySem.W.Frag) : Bool := He.eqO (PySem.W.nsIn K mainGlobals "enumerate") (some none)
def x_61 (K : PySem.W.Frag) : Bool := He.eqO (PySem.W.nsIn K mainGlobals "ForestError") (some (some (.ref (He.ga K "ForestError"))))
def x_62 (K : PySem.W.Frag) : Bool := He.eqO (PySem.W.findIn K (.ref (He.ga K "ForestError")) "__init__") (some (some (.ref (He.ma K (He.ga K "ForestError") "__init__"))))
def x_63 (K : PySem.W.Frag) : Bool := PySem.W.keepIn K (.ref (He.ma K (He.ga K "ForestError") "__init__"))
def x_64 (K : PySem.W.Frag) : Bool := PySem.W.readsIn K (He.ga K "ForestError") (.type "type")
def x_65 (K : PySem.W.Frag) : Bool := He.cfB (PySem.W.findCls K (.ref (He.ga K "ForestError")) (.type "type") "__init__") (.ref (He.ma K (He.ga K "ForestError") "__init__"))
def x_66 (K : PySem.W.Frag) : Bool := He.eqO (PySem.W.specialIn K (.ref (He.ga K "ForestError")) "__getattribute__") (some (some (.builtin "type.__getattribute__")))
def x_67 (K : PySem.W.Frag) : Bool := PySem.W.keepIn K (.ref (He.ga K "ForestError"))
def x_68 (K : PySem.W.Frag) : Bool := He.cfB (PySem.W.findCls K (.type "ValueError") (.type "type") "__init__") (.builtin "ValueError.__init__")
def x_69 (K : PySem.W.Frag) : Bool := He.eqO (PySem.W.nsIn K mainGlobals "Missing") (some (some (.ref (He.ga K "Missing"))))
def x_70 (K : PySem.W.Frag) : Bool := He.eqO (PySem.W.findIn K (.ref (He.ga K "Missing")) "__init__") (some (some (.ref (He.ma K (He.ga K "Missing") "__init__"))))
def x_71 (K : PySem.W.Frag) : Bool := PySem.W.keepIn K (.ref (He.ma K (He.ga K "Missing") "__init__"))
def x_72 (K : PySem.W.Frag) : Bool := PySem.W.readsIn K (He.ga K "Missing") (.type "type")
def x_73 (K : PySem.W.Frag) : Bool := He.cfB (PySem.W.findCls K (.ref (He.ga K "Missing")) (.type "type") "__init__") (.ref (He.ma K (He.ga K "Missing") "__init__"))
def x_74 (K : PySem.W.Frag) : Bool := He.eqO (PySem.W.specialIn K (.ref (He.ga K "Missing")) "__getattribute__") (some (some (.builtin "type.__getattribute__")))
def x_75 (K : PySem.W.Frag) : Bool := PySem.W.keepIn K (.ref (He.ga K "Missing"))
def x_76 (K : PySem.W.Frag) : Bool := He.cfB (PySem.W.findCls K (.type "LookupError") (.type "type") "__init__") (.builtin "LookupError.__init__")
def x_77 (K : PySem.W.Frag) : Bool := He.eqO (PySem.W.nsIn K mainGlobals "TooManyNodes") (some (some (.ref (He.ga K "TooManyNodes"))))
def x_78 (K : PySem.W.Frag) : Bool := He.eqO (PySem.W.findIn K (.ref (He.ga K "TooManyNodes")) "__init__") (some (some (.ref (He.ma K (He.ga K "TooManyNodes") "__init__"))))
def x_79 (K : PySem.W.Frag) : Bool := PySem.W.keepIn K (.ref (He.ma K (He.ga K "TooManyNodes") "__init__"))
def x_80 (K : PySem.W.Frag) : Bool := decide (PySem.W.typeIn K (.ref (He.ma K (He.ga K "TooManyNodes") "__init__")) = some (.type "function"))
def x_81 (K : PySem.W.Frag) : Bool := PySem.W.excInitIn K (He.ga K "TooManyNodes") vaTail "ValueError.__new__"
def x_82 (K : PySem.W.Frag) : Bool := PySem.W.excOver K (He.ga K "TooManyNodes") vaTail
def x_83 (K : PySem.W.Frag) : Bool := PySem.W.hasDictIn K (He.ga K "TooManyNodes")
def x_84 (K : PySem.W.Frag) : Bool := He.eqO (PySem.W.findIn K (.ref (He.ga K "TooManyNodes")) "__setattr__") (some (some (.builtin "object.__setattr__")))
def x_85 (K : PySem.W.Frag) : Bool := decide (PySem.W.subIn K (.ref (He.ga K "TooManyNodes")) (.type "BaseException") = some true)
def x_86 (K : PySem.W.Frag) : Bool := decide (PySem.W.typeIn K (.ref (He.ga K "TooManyNodes")) = some (.type "type"))
def x_87 (K : PySem.W.Frag) : Bool := PySem.W.keepIn K (.ref (He.ga K "TooManyNodes"))
def x_88 (K : PySem.W.Frag) : Bool := He.eqO (PySem.W.findIn K (.ref (He.ga K "TooManyNodes")) "tag") (some none)
def x_89 (K : PySem.W.Frag) : Bool := He.eqO (PySem.W.findIn K (.ref (He.ga K "TooManyNodes")) "limit") (some none)
def x_90 (K : PySem.W.Frag) : Bool := He.eqO (PySem.W.findIn K (.ref (He.ga K "TooManyNodes")) "__getattribute__") (some (some (.builtin "BaseException.__getattribute__")))
def x_91 (K : PySem.W.Frag) : Bool := He.eqO (PySem.W.findIn K (.ref (He.ga K "TooManyNodes")) "__getattr__") (some none)
def x_92 (K : PySem.W.Frag) : Bool := He.eqO (PySem.W.nsIn K mainGlobals "BadParent") (some (some (.ref (He.ga K "BadParent"))))
def x_93 (K : PySem.W.Frag) : Bool := He.eqO (PySem.W.findIn K (.ref (He.ga K "BadParent")) "__init__") (some (some (.ref (He.ma K (He.ga K "BadParent") "__init__"))))
def x_94 (K : PySem.W.Frag) : Bool := PySem.W.keepIn K (.ref (He.ma K (He.ga K "BadParent") "__init__"))
def x_95 (K : PySem.W.Frag) : Bool := decide (PySem.W.typeIn K (.ref (He.ma K (He.ga K "BadParent") "__init__")) = some (.type "function"))
def x_96 (K : PySem.W.Frag) : Bool := PySem.W.excInitIn K (He.ga K "BadParent") vaTail "ValueError.__new__"
def x_97 (K : PySem.W.Frag) : Bool := PySem.W.excOver K (He.ga K "BadParent") vaTail
def x_98 (K : PySem.W.Frag) : Bool := PySem.W.hasDictIn K (He.ga K "BadParent")
def x_99 (K : PySem.W.Frag) : Bool := He.eqO (PySem.W.findIn K (.ref (He.ga K "BadParent")) "__setattr__") (some (some (.builtin "object.__setattr__")))
def x_100 (K : PySem.W.Frag) : Bool := decide (PySem.W.subIn K (.ref (He.ga K "BadParent")) (.type "BaseException") = some true)
def x_101 (K : PySem.W.Frag) : Bool := decide (PySem.W.typeIn K (.ref (He.ga K "BadParent")) = some (.type "type"))
def x_102 (K : PySem.W.Frag) : Bool := PySem.W.keepIn K (.ref (He.ga K "BadParent"))
def x_103 (K : PySem.W.Frag) : Bool := He.eqO (PySem.W.findIn K (.ref (He.ga K "BadParent")) "tag") (some none)
def x_104 (K : PySem.W.Frag) : Bool := He.eqO (PySem.W.findIn K (.ref (He.ga K "BadParent")) "node") (some none)
def x_105 (K : PySem.W.Frag) : Bool := He.eqO (PySem.W.findIn K (.ref (He.ga K "BadParent")) "__getattribute__") (some (some (.builtin "BaseException.__getattribute__")))
def x_106 (K : PySem.W.Frag) : Bool := He.eqO (PySem.W.findIn K (.ref (He.ga K "BadParent")) "__getattr__") (some none)
def x_107 (K : PySem.W.Frag) : Bool := He.eqO (PySem.W.nsIn K mainGlobals "Cycle") (some (some (.ref (He.ga K "Cycle"))))
def x_108 (K : PySem.W.Frag) : Bool := He.eqO (PySem.W.findIn K (.ref (He.ga K "Cycle")) "__init__") (some (some (.ref (He.ma K (He.ga K "Cycle") "__init__"))))
def x_109 (K : PySem.W.Frag) : Bool := PySem.W.keepIn K (.ref (He.ma K (He.ga K "Cycle") "__init__"))
def x_110 (K : PySem.W.Frag) : Bool := decide (PySem.W.typeIn K (.ref (He.ma K (He.ga K "Cycle") "__init__")) = some (.type "function"))
def x_111 (K : PySem.W.Frag) : Bool := PySem.W.excInitIn K (He.ga K "Cycle") vaTail "ValueError.__new__"
def x_112 (K : PySem.W.Frag) : Bool := PySem.W.excOver K (He.ga K "Cycle") vaTail
def x_113 (K : PySem.W.Frag) : Bool := PySem.W.hasDictIn K (He.ga K "Cycle")
def x_114 (K : PySem.W.Frag) : Bool := He.eqO (PySem.W.findIn K (.ref (He.ga K "Cycle")) "__setattr__") (some (some (.builtin "object.__setattr__")))
def x_115 (K : PySem.W.Frag) : Bool := decide (PySem.W.subIn K (.ref (He.ga K "Cycle")) (.type "BaseException") = some true)
def x_116 (K : PySem.W.Frag) : Bool := decide (PySem.W.typeIn K (.ref (He.ga K "Cycle")) = some (.type "type"))
def x_117 (K : PySem.W.Frag) : Bool := PySem.W.keepIn K (.ref (He.ga K "Cycle"))
def x_118 (K : PySem.W.Frag) : Bool := He.eqO (PySem.W.findIn K (.ref (He.ga K "Cycle")) "tag") (some none)
def x_119 (K : PySem.W.Frag) : Bool := He.eqO (PySem.W.findIn K (.ref (He.ga K "Cycle")) "node") (some none)
def x_120 (K : PySem.W.Frag) : Bool := He.eqO (PySem.W.findIn K (.ref (He.ga K "Cycle")) "__getattribute__") (some (some (.builtin "BaseException.__getattribute__")))
def x_121 (K : PySem.W.Frag) : Bool := He.eqO (PySem.W.findIn K (.ref (He.ga K "Cycle")) "__getattr__") (some none)
def x_122 (K : PySem.W.Frag) : Bool := He.eqO (PySem.W.nsIn K mainGlobals "SizesDiffer") (some (some (.ref (He.ga K "SizesDiffer"))))
def x_123 (K : PySem.W.Frag) : Bool := He.eqO (PySem.W.findIn K (.ref (He.ga K "SizesDiffer")) "__init__") (some (some (.ref (He.ma K (He.ga K "SizesDiffer") "__init__"))))
def x_124 (K : PySem.W.Frag) : Bool := PySem.W.keepIn K (.ref (He.ma K (He.ga K "SizesDiffer") "__init__"))
def x_125 (K : PySem.W.Frag) : Bool := decide (PySem.W.typeIn K (.ref (He.ma K (He.ga K "SizesDiffer") "__init__")) = some (.type "function"))
def x_126 (K : PySem.W.Frag) : Bool := PySem.W.excInitIn K (He.ga K "SizesDiffer") vaTail "ValueError.__new__"
def x_127 (K : PySem.W.Frag) : Bool := PySem.W.excOver K (He.ga K "SizesDiffer") vaTail
def x_128 (K : PySem.W.Frag) : Bool := PySem.W.hasDictIn K (He.ga K "SizesDiffer")
def x_129 (K : PySem.W.Frag) : Bool := He.eqO (PySem.W.findIn K (.ref (He.ga K "SizesDiffer")) "__setattr__") (some (some (.builtin "object.__setattr__")))
def x_130 (K : PySem.W.Frag) : Bool := decide (PySem.W.subIn K (.ref (He.ga K "SizesDiffer")) (.type "BaseException") = some true)
def x_131 (K : PySem.W.Frag) : Bool := decide (PySem.W.typeIn K (.ref (He.ga K "SizesDiffer")) = some (.type "type"))
def x_132 (K : PySem.W.Frag) : Bool := PySem.W.keepIn K (.ref (He.ga K "SizesDiffer"))
def x_133 (K : PySem.W.Frag) : Bool := He.eqO (PySem.W.findIn K (.ref (He.ga K "SizesDiffer")) "tag") (some none)
def x_134 (K : PySem.W.Frag) : Bool := He.eqO (PySem.W.findIn K (.ref (He.ga K "SizesDiffer")) "size") (some none)
def x_135 (K : PySem.W.Frag) : Bool := He.eqO (PySem.W.findIn K (.ref (He.ga K "SizesDiffer")) "__getattribute__") (some (some (.builtin "BaseException.__getattribute__")))
def x_136 (K : PySem.W.Frag) : Bool := He.eqO (PySem.W.findIn K (.ref (He.ga K "SizesDiffer")) "__getattr__") (some none)
def x_137 (K : PySem.W.Frag) : Bool := He.eqO (PySem.W.nsIn K mainGlobals "RootsDiffer") (some (some (.ref (He.ga K "RootsDiffer"))))
def x_138 (K : PySem.W.Frag) : Bool := He.eqO (PySem.W.findIn K (.ref (He.ga K "RootsDiffer")) "__init__") (some (some (.ref (He.ma K (He.ga K "RootsDiffer") "__init__"))))
def x_139 (K : PySem.W.Frag) : Bool := PySem.W.keepIn K (.ref (He.ma K (He.ga K "RootsDiffer") "__init__"))
def x_140 (K : PySem.W.Frag) : Bool := decide (PySem.W.typeIn K (.ref (He.ma K (He.ga K "RootsDiffer") "__init__")) = some (.type "function"))
def x_141 (K : PySem.W.Frag) : Bool := PySem.W.excInitIn K (He.ga K "RootsDiffer") vaTail "ValueError.__new__"
def x_142 (K : PySem.W.Frag) : Bool := PySem.W.excOver K (He.ga K "RootsDiffer") vaTail
def x_143 (K : PySem.W.Frag) : Bool := PySem.W.hasDictIn K (He.ga K "RootsDiffer")
def x_144 (K : PySem.W.Frag) : Bool := He.eqO (PySem.W.findIn K (.ref (He.ga K "RootsDiffer")) "__setattr__") (some (some (.builtin "object.__setattr__")))
def x_145 (K : PySem.W.Frag) : Bool := decide (PySem.W.subIn K (.ref (He.ga K "RootsDiffer")) (.type "BaseException") = some true)
def x_146 (K : PySem.W.Frag) : Bool := decide (PySem.W.typeIn K (.ref (He.ga K "RootsDiffer")) = some (.type "type"))
def x_147 (K : PySem.W.Frag) : Bool := PySem.W.keepIn K (.ref (He.ga K "RootsDiffer"))
def x_148 (K : PySem.W.Frag) : Bool := He.eqO (PySem.W.findIn K (.ref (He.ga K "RootsDiffer")) "tag") (some none)
def x_149 (K : PySem.W.Frag) : Bool := He.eqO (PySem.W.findIn K (.ref (He.ga K "RootsDiffer")) "node") (some none)
def x_150 (K : PySem.W.Frag) : Bool := He.eqO (PySem.W.findIn K (.ref (He.ga K "RootsDiffer")) "__getattribute__") (some (some (.builtin "BaseException.__getattribute__")))
def x_151 (K : PySem.W.Frag) : Bool := He.eqO (PySem.W.findIn K (.ref (He.ga K "RootsDiffer")) "__getattr__") (some none)
def x_152 (K : PySem.W.Frag) : Bool := He.eqO (PySem.W.nsIn K mainGlobals "NoWay") (some (some (.ref (He.ga K "NoWay"))))
def x_153 (K : PySem.W.Frag) : Bool := He.eqO (PySem.W.findIn K (.ref (He.ga K "NoWay")) "__init__") (some (some (.ref (He.ma K (He.ga K "NoWay") "__init__"))))
def x_154 (K : PySem.W.Frag) : Bool := PySem.W.keepIn K (.ref (He.ma K (He.ga K "NoWay") "__init__"))
def x_155 (K : PySem.W.Frag) : Bool := decide (PySem.W.typeIn K (.ref (He.ma K (He.ga K "NoWay") "__init__")) = some (.type "function"))
def x_156 (K : PySem.W.Frag) : Bool := PySem.W.excInitIn K (He.ga K "NoWay") vaTail "ValueError.__new__"
def x_157 (K : PySem.W.Frag) : Bool := PySem.W.excOver K (He.ga K "NoWay") vaTail
def x_158 (K : PySem.W.Frag) : Bool := PySem.W.hasDictIn K (He.ga K "NoWay")
def x_159 (K : PySem.W.Frag) : Bool := He.eqO (PySem.W.findIn K (.ref (He.ga K "NoWay")) "__setattr__") (some (some (.builtin "object.__setattr__")))
def x_160 (K : PySem.W.Frag) : Bool := decide (PySem.W.subIn K (.ref (He.ga K "NoWay")) (.type "BaseException") = some true)
def x_161 (K : PySem.W.Frag) : Bool := decide (PySem.W.typeIn K (.ref (He.ga K "NoWay")) = some (.type "type"))
def x_162 (K : PySem.W.Frag) : Bool := PySem.W.keepIn K (.ref (He.ga K "NoWay"))
def x_163 (K : PySem.W.Frag) : Bool := He.eqO (PySem.W.findIn K (.ref (He.ga K "NoWay")) "tag") (some none)
def x_164 (K : PySem.W.Frag) : Bool := He.eqO (PySem.W.findIn K (.ref (He.ga K "NoWay")) "node") (some none)
def x_165 (K : PySem.W.Frag) : Bool := He.eqO (PySem.W.findIn K (.ref (He.ga K "NoWay")) "__getattribute__") (some (some (.builtin "BaseException.__getattribute__")))
def x_166 (K : PySem.W.Frag) : Bool := He.eqO (PySem.W.findIn K (.ref (He.ga K "NoWay")) "__getattr__") (some none)
def x_167 (K : PySem.W.Frag) : Bool := He.eqO (PySem.W.nsIn K mainGlobals "NoNode") (some (some (.ref (He.ga K "NoNode"))))
def x_168 (K : PySem.W.Frag) : Bool := He.eqO (PySem.W.findIn K (.ref (He.ga K "NoNode")) "__init__") (some (some (.ref (He.ma K (He.ga K "NoNode") "__init__"))))
def x_169 (K : PySem.W.Frag) : Bool := PySem.W.keepIn K (.ref (He.ma K (He.ga K "NoNode") "__init__"))
def x_170 (K : PySem.W.Frag) : Bool := decide (PySem.W.typeIn K (.ref (He.ma K (He.ga K "NoNode") "__init__")) = some (.type "function"))
def x_171 (K : PySem.W.Frag) : Bool := PySem.W.excInitIn K (He.ga K "NoNode") luTail "LookupError.__new__"
def x_172 (K : PySem.W.Frag) : Bool := PySem.W.excOver K (He.ga K "NoNode") luTail
def x_173 (K : PySem.W.Frag) : Bool := PySem.W.hasDictIn K (He.ga K "NoNode")
def x_174 (K : PySem.W.Frag) : Bool := He.eqO (PySem.W.findIn K (.ref (He.ga K "NoNode")) "__setattr__") (some (some (.builtin "object.__setattr__")))
def x_175 (K : PySem.W.Frag) : Bool := decide (PySem.W.subIn K (.ref (He.ga K "NoNode")) (.type "BaseException") = some true)
def x_176 (K : PySem.W.Frag) : Bool := decide (PySem.W.typeIn K (.ref (He.ga K "NoNode")) = some (.type "type"))
def x_177 (K : PySem.W.Frag) : Bool := PySem.W.keepIn K (.ref (He.ga K "NoNode"))
def x_178 (K : PySem.W.Frag) : Bool := He.eqO (PySem.W.findIn K (.ref (He.ga K "NoNode")) "tag") (some none)
def x_179 (K : PySem.W.Frag) : Bool := He.eqO (PySem.W.findIn K (.ref (He.ga K "NoNode")) "node") (some none)
def x_180 (K : PySem.W.Frag) : Bool := He.eqO (PySem.W.findIn K (.ref (He.ga K "NoNode")) "__getattribute__") (some (some (.builtin "BaseException.__getattribute__")))
def x_181 (K : PySem.W.Frag) : Bool := He.eqO (PySem.W.findIn K (.ref (He.ga K "NoNode")) "__getattr__") (some none)
def x_182 (K : PySem.W.Frag) : Bool := He.intB (PySem.W.nsIn K mainGlobals "MAX_NODES") 40
def x_183 (K : PySem.W.Frag) : Bool := He.eqO (PySem.W.nsIn K mainGlobals "Store") (some (some (.ref (He.ga K "Store"))))
def x_184 (K : PySem.W.Frag) : Bool := PySem.W.plainGet K (He.ga K "Store") Str.empty
def x_185 (K : PySem.W.Frag) : Bool := PySem.W.hasDictIn K (He.ga K "Store")
def x_186 (K : PySem.W.Frag) : Bool := PySem.W.plainOver K (He.ga K "Store")
def x_187 (K : PySem.W.Frag) : Bool := He.eqO (PySem.W.findIn K (.ref (He.ga K "Store")) "__setattr__") (some (some (.builtin "object.__setattr__")))
def x_188 (K : PySem.W.Frag) : Bool := PySem.W.makesIn K (He.ga K "Store")
def x_189 (K : PySem.W.Frag) : Bool := PySem.W.keepIn K (.ref (He.ga K "Store"))
def x_190 (K : PySem.W.Frag) : Bool := He.eqO (PySem.W.findIn K (.ref (He.ga K "Store")) "forests") (some none)
def x_191 (K : PySem.W.Frag) : Bool := He.eqO (PySem.W.findIn K (.ref (He.ga K "Store")) "total") (some none)
def x_192 (K : PySem.W.Frag) : Bool := He.eqO (PySem.W.findIn K (.ref (He.ga K "Store")) "past") (some none)
def x_193 (K : PySem.W.Frag) : Bool := He.eqO (PySem.W.findIn K (.ref (He.ga K "Store")) "future") (some none)
def x_194 (K : PySem.W.Frag) : Bool := He.eqO (PySem.W.findIn K (.ref (He.ga K "Store")) "watches") (some none)
def x_195 (K : PySem.W.Frag) : Bool := He.eqO (PySem.W.findIn K (.ref (He.ga K "Store")) "told") (some none)
def x_196 (K : PySem.W.Frag) : Bool := He.eqO (PySem.W.findIn K (.ref (He.ga K "Store")) "last_number") (some none)
def x_197 (K : PySem.W.Frag) : Bool := He.eqO (PySem.W.findIn K (.ref (He.ga K "Store")) "__init__") (some (some (.ref (He.ma K (He.ga K "Store") "__init__"))))
def x_198 (K : PySem.W.Frag) : Bool := PySem.W.isFn K (.ref (He.ma K (He.ga K "Store") "__init__"))
def x_199 (K : PySem.W.Frag) : Bool := PySem.W.keepIn K (.ref (He.ma K (He.ga K "Store") "__init__"))
def x_200 (K : PySem.W.Frag) : Bool := He.eqO (PySem.W.findIn K (.ref (He.ga K "Store")) "forest_of") (some (some (.ref (He.ma K (He.ga K "Store") "forest_of"))))
def x_201 (K : PySem.W.Frag) : Bool := PySem.W.isFn K (.ref (He.ma K (He.ga K "Store") "forest_of"))
def x_202 (K : PySem.W.Frag) : Bool := PySem.W.keepIn K (.ref (He.ma K (He.ga K "Store") "forest_of"))
def x_203 (K : PySem.W.Frag) : Bool := He.eqO (PySem.W.findIn K (.ref (He.ga K "Store")) "apply_all") (some (some (.ref (He.ma K (He.ga K "Store") "apply_all"))))
def x_204 (K : PySem.W.Frag) : Bool := PySem.W.isFn K (.ref (He.ma K (He.ga K "Store") "apply_all"))
def x_205 (K : PySem.W.Frag) : Bool := PySem.W.keepIn K (.ref (He.ma K (He.ga K "Store") "apply_all"))
def x_206 (K : PySem.W.Frag) : Bool := He.eqO (PySem.W.findIn K (.ref (He.ga K "Store")) "apply") (some (some (.ref (He.ma K (He.ga K "Store") "apply"))))
def x_207 (K : PySem.W.Frag) : Bool := PySem.W.isFn K (.ref (He.ma K (He.ga K "Store") "apply"))
def x_208 (K : PySem.W.Frag) : Bool := PySem.W.keepIn K (.ref (He.ma K (He.ga K "Store") "apply"))
def x_209 (K : PySem.W.Frag) : Bool := He.eqO (PySem.W.nsIn K mainGlobals "LENGTHS") (some (some (.ref (He.ga K "LENGTHS"))))
def x_210 (K : PySem.W.Frag) : Bool := He.eqO (PySem.W.nsIn K mainGlobals "ACTIONS") (some (some (.ref (He.ga K "ACTIONS"))))
def x_211 (K : PySem.W.Frag) : Bool := He.intB (PySem.W.nsIn K (He.ga K "LENGTHS") "new") 3
def x_212 (K : PySem.W.Frag) : Bool := He.intB (PySem.W.nsIn K (He.ga K "LENGTHS") "flatten") 2
def x_213 (K : PySem.W.Frag) : Bool := He.eqO (PySem.W.nsIn K (He.ga K "ACTIONS") "new") (some (some (.ref (He.nsR K (He.ga K "ACTIONS") "new"))))
def x_214 (K : PySem.W.Frag) : Bool := He.eqO (PySem.W.nsIn K (He.ga K "ACTIONS") "flatten") (some (some (.ref (He.nsR K (He.ga K "ACTIONS") "flatten"))))
def x_215 (K : PySem.W.Frag) : Bool := He.eqO (PySem.W.nsIn K mainGlobals "do_new") (some (some (.ref (He.nsR K (He.ga K "ACTIONS") "new"))))
def x_216 (K : PySem.W.Frag) : Bool := He.eqO (PySem.W.nsIn K mainGlobals "do_flatten") (some (some (.ref (He.nsR K (He.ga K "ACTIONS") "flatten"))))
def x_217 (K : PySem.W.Frag) : Bool := !decide ((He.nsR K (He.ga K "ACTIONS") "flatten") = (He.nsR K (He.ga K "ACTIONS") "new"))
def x_218 (K : PySem.W.Frag) : Bool := He.intB (PySem.W.nsIn K mainGlobals "MAX_FORESTS") 6
def x_219 (K : PySem.W.Frag) : Bool := He.intB (PySem.W.nsIn K mainGlobals "MAX_LETTERS") 6
def exL0 : List (PySem.W.Frag → Bool) := [x_0, x_1, x_2, x_3, x_4, x_5, x_6, x_7, x_8, x_9, x_10, x_11, x_12, x_13, x_14, x_15, x_16, x_17, x_18, x_19, x_20, x_21, x_22, x_23, x_24, x_25, x_26, x_27, x_28, x_29, x_30, x_31, x_32, x_33, x_34, x_35, x_36, x_37, x_38, x_39]
def exL1 : List (PySem.W.Frag → Bool) := [x_40, x_41, x_42, x_43, x_44, x_45, x_46, x_47, x_48, x_49, x_50, x_51, x_52, x_53, x_54, x_55, x_56, x_57, x_58, x_59, x_60, x_61, x_62, x_63, x_64, x_65, x_66, x_67, x_68, x_69, x_70, x_71, x_72, x_73, x_74, x_75, x_76, x_77, x_78, x_79]
def exL2 : List (PySem.W.Frag → Bool) := [x_80, x_81, x_82, x_83, x_84, x_85, x_86, x_87, x_88, x_89, x_90, x_91, x_92, x_93, x_94, x_95, x_96, x_97, x_98, x_99, x_100, x_101, x_102, x_103, x_104, x_105, x_106, x_107, x_108, x_109, x_110, x_111, x_112, x_113, x_114, x_115, x_116, x_117, x_118, x_119]
def exL3 : List (PySem.W.Frag → Bool) := [x_120, x_121, x_122, x_123, x_124, x_125, x_126, x_127, x_128, x_129, x_130, x_131, x_132, x_133, x_134, x_135, x_136, x_137, x_138, x_139, x_140, x_141, x_142, x_143, x_144, x_145, x_146, x_147, x_148, x_149, x_150, x_151, x_152, x_153, x_154, x_155, x_156, x_157, x_158, x_159]
def exL4 : List (PySem.W.Frag → Bool) := [x_160, x_161, x_162, x_163, x_164, x_165, x_166, x_167, x_168, x_169, x_170, x_171, x_172, x_173, x_174, x_175, x_176, x_177, x_178, x_179, x_180, x_181, x_182, x_183, x_184, x_185, x_186, x_187, x_188, x_189, x_190, x_191, x_192, x_193, x_194, x_195, x_196, x_197, x_198, x_199]
def exL5 : List (PySem.W.Frag → Bool) := [x_200, x_201, x_202, x_203, x_204, x_205, x_206, x_207, x_208, x_209, x_210, x_211, x_212, x_213, x_214, x_215, x_216, x_217, x_218, x_219]
def exs_ : List (PySem.W.Frag → Bool) := exL0 ++ (exL1 ++ (exL2 ++ (exL3 ++ (exL4 ++ (exL5)))))
def ex_ (K : PySem.W.Frag) : Bool := exs_.all fun b => b K
def ts_ : List He.Tab := [(fun K => (He.ga K "LENGTHS"), ["new", "drop", "copy", "swap", "find", "link", "unite", "run", "flatten", "grow"]), (fun K => (He.ga K "ACTIONS"), ["new", "drop", "copy", "swap", "find", "link", "unite", "run", "flatten", "grow"])]
def tf_ : List He.Defn := []
theorem facts {l : PySem.W.OpenLaw} {w : World} {K : PySem.W.Frag} {h : Heap} {mg : Str → Option Value} {fa : Addr} (X : K.In h) (G : h.Ns mainGlobals mg) (hfa : mg "law" = some (.ref fa)) (c : He.SaysX [] fn_ ts_ tf_ ex_ w h K) : ∃ fd : FuncData, (∀ (s : Shared) (v : Value), BindsTo s fd ⟨[v], []⟩ [("_law_script", v)]) ∧ ∀ base : Heap, K.In base → base.Ns mainGlobals mg → FnOk l.prog w K mg base CX0 16 fa fd ["_law_script"] (spLaw K) := by
  have E : (exs_.all fun b => b K) = true := c.more
  obtain ⟨kp0, oc0, od0, sl0, kV0, dc0, pm0, an0, cd0, ct0, lk0, cc0⟩ := def_at c.t.d 0 (d := dd_0) rfl rfl
  obtain ⟨kp1, oc1, od1, sl1, kV1, dc1, pm1, an1, cd1, ct1, lk1, cc1⟩ := def_at c.t.d 1 (d := dd_1) rfl rfl
  obtain ⟨kp2, oc2, od2, sl2, kV2, dc2, pm2, an2, cd2, ct2, lk2, cc2⟩ := def_at c.t.d 2 (d := dd_2) rfl rfl
  obtain ⟨kp3, oc3, od3, sl3, kV3, dc3, pm3, an3, cd3, ct3, lk3, cc3⟩ := def_at c.t.d 3 (d := dd_3) rfl rfl
  obtain ⟨kp4, oc4, od4, sl4, kV4, dc4, pm4, an4, cd4, ct4, lk4, cc4⟩ := def_at c.t.d 4 (d := dd_4) rfl rfl
  obtain ⟨kp5, oc5, od5, sl5, kV5, dc5, pm5, an5, cd5, ct5, lk5, cc5⟩ := def_at c.t.d 5 (d := dd_5) rfl rfl
  obtain ⟨kp6, oc6, od6, sl6, kV6, dc6, pm6, an6, cd6, ct6, lk6, cc6⟩ := def_at c.t.d 6 (d := dd_6) rfl rfl
  obtain ⟨kp7, oc7, od7, sl7, kV7, dc7, pm7, an7, cd7, ct7, lk7, cc7⟩ := def_at c.t.d 7 (d := dd_7) rfl rfl
  obtain ⟨kp8, oc8, od8, sl8, kV8, dc8, pm8, an8, cd8, ct8, lk8, cc8⟩ := def_at c.t.d 8 (d := dd_8) rfl rfl
  obtain ⟨kp9, oc9, od9, sl9, kV9, dc9, pm9, an9, cd9, ct9, lk9, cc9⟩ := def_at c.t.d 9 (d := dd_9) rfl rfl
  obtain ⟨kp10, oc10, od10, sl10, kV10, dc10, pm10, an10, cd10, ct10, lk10, cc10⟩ := def_at c.t.d 10 (d := dd_10) rfl rfl
  obtain ⟨kp11, oc11, od11, sl11, kV11, dc11, pm11, an11, cd11, ct11, lk11, cc11⟩ := def_at c.t.d 11 (d := dd_11) rfl rfl
  obtain ⟨kp12, oc12, od12, sl12, kV12, dc12, pm12, an12, cd12, ct12, lk12, cc12⟩ := def_at c.t.d 12 (d := dd_12) rfl rfl
  obtain ⟨kp13, oc13, od13, sl13, kV13, dc13, pm13, an13, cd13, ct13, lk13, cc13⟩ := def_at c.t.d 13 (d := dd_13) rfl rfl
  obtain ⟨kp14, oc14, od14, sl14, kV14, dc14, pm14, an14, cd14, ct14, lk14, cc14⟩ := def_at c.t.d 14 (d := dd_14) rfl rfl
  obtain ⟨kp15, oc15, od15, sl15, kV15, dc15, pm15, an15, cd15, ct15, lk15, cc15⟩ := def_at c.t.d 15 (d := dd_15) rfl rfl
  obtain ⟨kp16, oc16, od16, sl16, kV16, dc16, pm16, an16, cd16, ct16, lk16, cc16⟩ := def_at c.t.d 16 (d := dd_16) rfl rfl
  obtain ⟨kp17, oc17, od17, sl17, kV17, dc17, pm17, an17, cd17, ct17, lk17, cc17⟩ := def_at c.t.d 17 (d := dd_17) rfl rfl
  obtain ⟨kp18, oc18, od18, sl18, kV18, dc18, pm18, an18, cd18, ct18, lk18, cc18⟩ := def_at c.t.d 18 (d := dd_18) rfl rfl
  obtain ⟨kp19, oc19, od19, sl19, kV19, dc19, pm19, an19, cd19, ct19, lk19, cc19⟩ := def_at c.t.d 19 (d := dd_19) rfl rfl
  obtain ⟨kp20, oc20, od20, sl20, kV20, dc20, pm20, an20, cd20, ct20, lk20, cc20⟩ := def_at c.t.d 20 (d := dd_20) rfl rfl
  obtain ⟨kp21, oc21, od21, sl21, kV21, dc21, pm21, an21, cd21, ct21, lk21, cc21⟩ := def_at c.t.d 21 (d := dd_21) rfl rfl
  obtain ⟨kp22, oc22, od22, sl22, kV22, dc22, pm22, an22, cd22, ct22, lk22, cc22⟩ := def_at c.t.d 22 (d := dd_22) rfl rfl
  obtain ⟨kp23, oc23, od23, sl23, kV23, dc23, pm23, an23, cd23, ct23, lk23, cc23⟩ := def_at c.t.d 23 (d := dd_23) rfl rfl
  obtain ⟨kp24, oc24, od24, sl24, kV24, dc24, pm24, an24, cd24, ct24, lk24, cc24⟩ := def_at c.t.d 24 (d := dd_24) rfl rfl
  obtain ⟨kp25, oc25, od25, sl25, kV25, dc25, pm25, an25, cd25, ct25, lk25, cc25⟩ := def_at c.t.d 25 (d := dd_25) rfl rfl
  obtain ⟨kp26, oc26, od26, sl26, kV26, dc26, pm26, an26, cd26, ct26, lk26, cc26⟩ := def_at c.t.d 26 (d := dd_26) rfl rfl
  obtain ⟨kp27, oc27, od27, sl27, kV27, dc27, pm27, an27, cd27, ct27, lk27, cc27⟩ := def_at c.t.d 27 (d := dd_27) rfl rfl
  obtain ⟨kp28, oc28, od28, sl28, kV28, dc28, pm28, an28, cd28, ct28, lk28, cc28⟩ := def_at c.t.d 28 (d := dd_28) rfl rfl
  obtain ⟨kp29, oc29, od29, sl29, kV29, dc29, pm29, an29, cd29, ct29, lk29, cc29⟩ := def_at c.t.d 29 (d := dd_29) rfl rfl
  obtain ⟨kp30, oc30, od30, sl30, kV30, dc30, pm30, an30, cd30, ct30, lk30, cc30⟩ := def_at c.t.d 30 (d := dd_30) rfl rfl
  obtain ⟨kp31, oc31, od31, sl31, kV31, dc31, pm31, an31, cd31, ct31, lk31, cc31⟩ := def_at c.t.d 31 (d := dd_31) rfl rfl
  obtain ⟨kp32, oc32, od32, sl32, kV32, dc32, pm32, an32, cd32, ct32, lk32, cc32⟩ := def_at c.t.d 32 (d := dd_32) rfl rfl
  obtain ⟨kp33, oc33, od33, sl33, kV33, dc33, pm33, an33, cd33, ct33, lk33, cc33⟩ := def_at c.t.d 33 (d := dd_33) rfl rfl
  obtain ⟨kp34, oc34, od34, sl34, kV34, dc34, pm34, an34, cd34, ct34, lk34, cc34⟩ := def_at c.t.d 34 (d := dd_34) rfl rfl
  obtain ⟨kp35, oc35, od35, sl35, kV35, dc35, pm35, an35, cd35, ct35, lk35, cc35⟩ := def_at c.t.d 35 (d := dd_35) rfl rfl
  obtain ⟨kp36, oc36, od36, sl36, kV36, dc36, pm36, an36, cd36, ct36, lk36, cc36⟩ := def_at c.t.d 36 (d := dd_36) rfl rfl
  obtain ⟨kp37, oc37, od37, sl37, kV37, dc37, pm37, an37, cd37, ct37, lk37, cc37⟩ := def_at c.t.d 37 (d := dd_37) rfl rfl
  obtain ⟨kp38, oc38, od38, sl38, kV38, dc38, pm38, an38, cd38, ct38, lk38, cc38⟩ := def_at c.t.d 38 (d := dd_38) rfl rfl
  obtain ⟨kp39, oc39, od39, sl39, kV39, dc39, pm39, an39, cd39, ct39, lk39, cc39⟩ := def_at c.t.d 39 (d := dd_39) rfl rfl
  obtain ⟨kp40, oc40, od40, sl40, kV40, dc40, pm40, an40, cd40, ct40, lk40, cc40⟩ := def_at c.t.d 40 (d := dd_40) rfl rfl
  obtain ⟨kp41, oc41, od41, sl41, kV41, dc41, pm41, an41, cd41, ct41, lk41, cc41⟩ := def_at c.t.d 41 (d := dd_41) rfl rfl
  obtain ⟨kp42, oc42, od42, sl42, kV42, dc42, pm42, an42, cd42, ct42, lk42, cc42⟩ := def_at c.t.d 42 (d := dd_42) rfl rfl
  obtain ⟨kp43, oc43, od43, sl43, kV43, dc43, pm43, an43, cd43, ct43, lk43, cc43⟩ := def_at c.t.d 43 (d := dd_43) rfl rfl
  obtain ⟨kp44, oc44, od44, sl44, kV44, dc44, pm44, an44, cd44, ct44, lk44, cc44⟩ := def_at c.t.d 44 (d := dd_44) rfl rfl
  obtain ⟨kp45, oc45, od45, sl45, kV45, dc45, pm45, an45, cd45, ct45, lk45, cc45⟩ := def_at c.t.d 45 (d := dd_45) rfl rfl
  obtain ⟨kp46, oc46, od46, sl46, kV46, dc46, pm46, an46, cd46, ct46, lk46, cc46⟩ := def_at c.t.d 46 (d := dd_46) rfl rfl
  obtain ⟨kp47, oc47, od47, sl47, kV47, dc47, pm47, an47, cd47, ct47, lk47, cc47⟩ := def_at c.t.d 47 (d := dd_47) rfl rfl
  obtain ⟨kp48, oc48, od48, sl48, kV48, dc48, pm48, an48, cd48, ct48, lk48, cc48⟩ := def_at c.t.d 48 (d := dd_48) rfl rfl
  obtain ⟨kp49, oc49, od49, sl49, kV49, dc49, pm49, an49, cd49, ct49, lk49, cc49⟩ := def_at c.t.d 49 (d := dd_49) rfl rfl
  obtain ⟨kp50, oc50, od50, sl50, kV50, dc50, pm50, an50, cd50, ct50, lk50, cc50⟩ := def_at c.t.d 50 (d := dd_50) rfl rfl
  obtain ⟨tk182, hk182⟩ := He.intB_ok (at_ E 182 (b := x_182) rfl)
  obtain ⟨kp51, oc51, od51, sl51, kV51, dc51, pm51, an51, cd51, ct51, lk51, cc51⟩ := def_at c.t.d 51 (d := dd_51) rfl rfl
  obtain ⟨kp52, oc52, od52, sl52, kV52, dc52, pm52, an52, cd52, ct52, lk52, cc52⟩ := def_at c.t.d 52 (d := dd_52) rfl rfl
  obtain ⟨kp53, oc53, od53, sl53, kV53, dc53, pm53, an53, cd53, ct53, lk53, cc53⟩ := def_at c.t.d 53 (d := dd_53) rfl rfl
  obtain ⟨kp54, oc54, od54, sl54, kV54, dc54, pm54, an54, cd54, ct54, lk54, cc54⟩ := def_at c.t.d 54 (d := dd_54) rfl rfl
  obtain ⟨es0, nn0, DL0⟩ := c.t.tab 0 rfl
  obtain ⟨es1, nn1, DL1⟩ := c.t.tab 1 rfl
  obtain ⟨tk211, hk211⟩ := He.intB_ok (at_ E 211 (b := x_211) rfl)
  obtain ⟨tk212, hk212⟩ := He.intB_ok (at_ E 212 (b := x_212) rfl)
  obtain ⟨tk218, hk218⟩ := He.intB_ok (at_ E 218 (b := x_218) rfl)
  obtain ⟨tk219, hk219⟩ := He.intB_ok (at_ E 219 (b := x_219) rfl)
  exact all_mk X G hfa (DefF.by (He.eqO_ok (at_ E 0 (b := x_0) rfl)) lk0 cc0 kp0) (DefF.by (He.eqO_ok (at_ E 1 (b := x_1) rfl)) lk1 cc1 kp1) (DefF.by (He.eqO_ok (at_ E 2 (b := x_2) rfl)) lk2 cc2 kp2) (DefF.by (He.eqO_ok (at_ E 3 (b := x_3) rfl)) lk3 cc3 kp3) (DefF.by (He.eqO_ok (at_ E 4 (b := x_4) rfl)) lk4 cc4 kp4) (DefF.by (He.eqO_ok (at_ E 5 (b := x_5) rfl)) lk5 cc5 kp5) (DefF.by (He.eqO_ok (at_ E 6 (b := x_6) rfl)) lk6 cc6 kp6) (DefF.by (He.eqO_ok (at_ E 7 (b := x_7) rfl)) lk7 cc7 kp7) (DefF.by (He.eqO_ok (at_ E 8 (b := x_8) rfl)) lk8 cc8 kp8) (DefF.by (He.eqO_ok (at_ E 9 (b := x_9) rfl)) lk9 cc9 kp9) (DefF.by (He.eqO_ok (at_ E 10 (b := x_10) rfl)) lk10 cc10 kp10) (DefF.by (He.eqO_ok (at_ E 11 (b := x_11) rfl)) lk11 cc11 kp11) (DefF.by (He.eqO_ok (at_ E 12 (b := x_12) rfl)) lk12 cc12 kp12) (DefF.by (He.eqO_ok (at_ E 13 (b := x_13) rfl)) lk13 cc13 kp13) (DefF.by (He.eqO_ok (at_ E 14 (b := x_14) rfl)) lk14 cc14 kp14) (DefF.by (He.eqO_ok (at_ E 15 (b := x_15) rfl)) lk15 cc15 kp15) (DefF.by (He.eqO_ok (at_ E 16 (b := x_16) rfl)) lk16 cc16 kp16) (DefF.by (He.eqO_ok (at_ E 17 (b := x_17) rfl)) lk17 cc17 kp17) (DefF.by (He.eqO_ok (at_ E 18 (b := x_18) rfl)) lk18 cc18 kp18) (DefF.by (He.eqO_ok (at_ E 19 (b := x_19) rfl)) lk19 cc19 kp19) (DefF.by (He.eqO_ok (at_ E 20 (b := x_20) rfl)) lk20 cc20 kp20) (DefF.by (He.eqO_ok (at_ E 21 (b := x_21) rfl)) lk21 cc21 kp21) (DefF.by (He.eqO_ok (at_ E 22 (b := x_22) rfl)) lk22 cc22 kp22) (DefF.by (He.eqO_ok (at_ E 23 (b := x_23) rfl)) lk23 cc23 kp23) (DefF.by (He.eqO_ok (at_ E 24 (b := x_24) rfl)) lk24 cc24 kp24) (DefF.by (He.eqO_ok (at_ E 25 (b := x_25) rfl)) lk25 cc25 kp25) (DefF.by (He.eqO_ok (at_ E 26 (b := x_26) rfl)) lk26 cc26 kp26) (DefF.by (He.eqO_ok (at_ E 27 (b := x_27) rfl)) lk27 cc27 kp27) (DefF.by (He.eqO_ok (at_ E 28 (b := x_28) rfl)) lk28 cc28 kp28) (DefF.by (He.eqO_ok (at_ E 29 (b := x_29) rfl)) lk29 cc29 kp29) (DefF.by (He.eqO_ok (at_ E 30 (b := x_30) rfl)) lk30 cc30 kp30) (DefF.by (He.eqO_ok (at_ E 31 (b := x_31) rfl)) lk31 cc31 kp31) (DefF.by (He.eqO_ok (at_ E 32 (b := x_32) rfl)) lk32 cc32 kp32) (DefF.by (He.eqO_ok (at_ E 33 (b := x_33) rfl)) lk33 cc33 kp33) (DefF.by (He.eqO_ok (at_ E 34 (b := x_34) rfl)) lk34 cc34 kp34) (DefF.by (He.eqO_ok (at_ E 35 (b := x_35) rfl)) lk35 cc35 kp35) (DefF.by (He.eqO_ok (at_ E 36 (b := x_36) rfl)) lk36 cc36 kp36) (DefF.by (He.eqO_ok (at_ E 37 (b := x_37) rfl)) lk37 cc37 kp37) (DefF.by (He.eqO_ok (at_ E 38 (b := x_38) rfl)) lk38 cc38 kp38) (DefF.by (He.eqO_ok (at_ E 39 (b := x_39) rfl)) lk39 cc39 kp39) (DefF.by (He.eqO_ok (at_ E 40 (b := x_40) rfl)) lk40 cc40 kp40) (DefF.by (He.eqO_ok (at_ E 41 (b := x_41) rfl)) lk41 cc41 kp41) (He.eqO_ok (at_ E 42 (b := x_42) rfl)) (He.eqO_ok (at_ E 43 (b := x_43) rfl)) (He.eqO_ok (at_ E 44 (b := x_44) rfl)) (He.eqO_ok (at_ E 45 (b := x_45) rfl)) (He.eqO_ok (at_ E 46 (b := x_46) rfl)) (He.eqO_ok (at_ E 47 (b := x_47) rfl)) (He.eqO_ok (at_ E 48 (b := x_48) rfl)) (He.eqO_ok (at_ E 49 (b := x_49) rfl)) (He.eqO_ok (at_ E 50 (b := x_50) rfl)) (He.eqO_ok (at_ E 51 (b := x_51) rfl)) (He.eqO_ok (at_ E 52 (b := x_52) rfl)) (He.eqO_ok (at_ E 53 (b := x_53) rfl)) (He.eqO_ok (at_ E 54 (b := x_54) rfl)) (He.eqO_ok (at_ E 55 (b := x_55) rfl)) (He.eqO_ok (at_ E 56 (b := x_56) rfl)) (He.eqO_ok (at_ E 57 (b := x_57) rfl)) (He.eqO_ok (at_ E 58 (b := x_58) rfl)) (He.eqO_ok (at_ E 59 (b := x_59) rfl)) (He.eqO_ok (at_ E 60 (b := x_60) rfl)) (He.eqO_ok (at_ E 61 (b := x_61) rfl)) (He.eqO_ok (at_ E 62 (b := x_62) rfl)) lk42 cc42 (at_ E 63 (b := x_63) rfl) (at_ E 64 (b := x_64) rfl) (He.cfB_ok (at_ E 65 (b := x_65) rfl)) (He.eqO_ok (at_ E 66 (b := x_66) rfl)) (at_ E 67 (b := x_67) rfl) (He.cfB_ok (at_ E 68 (b := x_68) rfl)) (He.eqO_ok (at_ E 69 (b := x_69) rfl)) (He.eqO_ok (at_ E 70 (b := x_70) rfl)) lk43 cc43 (at_ E 71 (b := x_71) rfl) (at_ E 72 (b := x_72) rfl) (He.cfB_ok (at_ E 73 (b := x_73) rfl)) (He.eqO_ok (at_ E 74 (b := x_74) rfl)) (at_ E 75 (b := x_75) rfl) (He.cfB_ok (at_ E 76 (b := x_76) rfl)) (He.eqO_ok (at_ E 77 (b := x_77) rfl)) (He.eqO_ok (at_ E 78 (b := x_78) rfl)) lk44 cc44 (at_ E 79 (b := x_79) rfl) (of_decide_eq_true (at_ E 80 (b := x_80) rfl)) (at_ E 81 (b := x_81) rfl) (at_ E 82 (b := x_82) rfl) (at_ E 83 (b := x_83) rfl) (He.eqO_ok (at_ E 84 (b := x_84) rfl)) (of_decide_eq_true (at_ E 85 (b := x_85) rfl)) (of_decide_eq_true (at_ E 86 (b := x_86) rfl)) (at_ E 87 (b := x_87) rfl) (He.eqO_ok (at_ E 88 (b := x_88) rfl)) (He.eqO_ok (at_ E 89 (b := x_89) rfl)) (He.eqO_ok (at_ E 90 (b := x_90) rfl)) (He.eqO_ok (at_ E 91 (b := x_91) rfl)) (He.eqO_ok (at_ E 92 (b := x_92) rfl)) (He.eqO_ok (at_ E 93 (b := x_93) rfl)) lk45 cc45 (at_ E 94 (b := x_94) rfl) (of_decide_eq_true (at_ E 95 (b := x_95) rfl)) (at_ E 96 (b := x_96) rfl) (at_ E 97 (b := x_97) rfl) (at_ E 98 (b := x_98) rfl) (He.eqO_ok (at_ E 99 (b := x_99) rfl)) (of_decide_eq_true (at_ E 100 (b := x_100) rfl)) (of_decide_eq_true (at_ E 101 (b := x_101) rfl)) (at_ E 102 (b := x_102) rfl) (He.eqO_ok (at_ E 103 (b := x_103) rfl)) (He.eqO_ok (at_ E 104 (b := x_104) rfl)) (He.eqO_ok (at_ E 105 (b := x_105) rfl)) (He.eqO_ok (at_ E 106 (b := x_106) rfl)) (He.eqO_ok (at_ E 107 (b := x_107) rfl)) (He.eqO_ok (at_ E 108 (b := x_108) rfl)) lk46 cc46 (at_ E 109 (b := x_109) rfl) (of_decide_eq_true (at_ E 110 (b := x_110) rfl)) (at_ E 111 (b := x_111) rfl) (at_ E 112 (b := x_112) rfl) (at_ E 113 (b := x_113) rfl) (He.eqO_ok (at_ E 114 (b := x_114) rfl)) (of_decide_eq_true (at_ E 115 (b := x_115) rfl)) (of_decide_eq_true (at_ E 116 (b := x_116) rfl)) (at_ E 117 (b := x_117) rfl) (He.eqO_ok (at_ E 118 (b := x_118) rfl)) (He.eqO_ok (at_ E 119 (b := x_119) rfl)) (He.eqO_ok (at_ E 120 (b := x_120) rfl)) (He.eqO_ok (at_ E 121 (b := x_121) rfl)) (He.eqO_ok (at_ E 122 (b := x_122) rfl)) (He.eqO_ok (at_ E 123 (b := x_123) rfl)) lk47 cc47 (at_ E 124 (b := x_124) rfl) (of_decide_eq_true (at_ E 125 (b := x_125) rfl)) (at_ E 126 (b := x_126) rfl) (at_ E 127 (b := x_127) rfl) (at_ E 128 (b := x_128) rfl) (He.eqO_ok (at_ E 129 (b := x_129) rfl)) (of_decide_eq_true (at_ E 130 (b := x_130) rfl)) (of_decide_eq_true (at_ E 131 (b := x_131) rfl)) (at_ E 132 (b := x_132) rfl) (He.eqO_ok (at_ E 133 (b := x_133) rfl)) (He.eqO_ok (at_ E 134 (b := x_134) rfl)) (He.eqO_ok (at_ E 135 (b := x_135) rfl)) (He.eqO_ok (at_ E 136 (b := x_136) rfl)) (He.eqO_ok (at_ E 137 (b := x_137) rfl)) (He.eqO_ok (at_ E 138 (b := x_138) rfl)) lk48 cc48 (at_ E 139 (b := x_139) rfl) (of_decide_eq_true (at_ E 140 (b := x_140) rfl)) (at_ E 141 (b := x_141) rfl) (at_ E 142 (b := x_142) rfl) (at_ E 143 (b := x_143) rfl) (He.eqO_ok (at_ E 144 (b := x_144) rfl)) (of_decide_eq_true (at_ E 145 (b := x_145) rfl)) (of_decide_eq_true (at_ E 146 (b := x_146) rfl)) (at_ E 147 (b := x_147) rfl) (He.eqO_ok (at_ E 148 (b := x_148) rfl)) (He.eqO_ok (at_ E 149 (b := x_149) rfl)) (He.eqO_ok (at_ E 150 (b := x_150) rfl)) (He.eqO_ok (at_ E 151 (b := x_151) rfl)) (He.eqO_ok (at_ E 152 (b := x_152) rfl)) (He.eqO_ok (at_ E 153 (b := x_153) rfl)) lk49 cc49 (at_ E 154 (b := x_154) rfl) (of_decide_eq_true (at_ E 155 (b := x_155) rfl)) (at_ E 156 (b := x_156) rfl) (at_ E 157 (b := x_157) rfl) (at_ E 158 (b := x_158) rfl) (He.eqO_ok (at_ E 159 (b := x_159) rfl)) (of_decide_eq_true (at_ E 160 (b := x_160) rfl)) (of_decide_eq_true (at_ E 161 (b := x_161) rfl)) (at_ E 162 (b := x_162) rfl) (He.eqO_ok (at_ E 163 (b := x_163) rfl)) (He.eqO_ok (at_ E 164 (b := x_164) rfl)) (He.eqO_ok (at_ E 165 (b := x_165) rfl)) (He.eqO_ok (at_ E 166 (b := x_166) rfl)) (He.eqO_ok (at_ E 167 (b := x_167) rfl)) (He.eqO_ok (at_ E 168 (b := x_168) rfl)) lk50 cc50 (at_ E 169 (b := x_169) rfl) (of_decide_eq_true (at_ E 170 (b := x_170) rfl)) (at_ E 171 (b := x_171) rfl) (at_ E 172 (b := x_172) rfl) (at_ E 173 (b := x_173) rfl) (He.eqO_ok (at_ E 174 (b := x_174) rfl)) (of_decide_eq_true (at_ E 175 (b := x_175) rfl)) (of_decide_eq_true (at_ E 176 (b := x_176) rfl)) (at_ E 177 (b := x_177) rfl) (He.eqO_ok (at_ E 178 (b := x_178) rfl)) (He.eqO_ok (at_ E 179 (b := x_179) rfl)) (He.eqO_ok (at_ E 180 (b := x_180) rfl)) (He.eqO_ok (at_ E 181 (b := x_181) rfl)) hk182 (He.eqO_ok (at_ E 183 (b := x_183) rfl)) (at_ E 184 (b := x_184) rfl) (at_ E 185 (b := x_185) rfl) (at_ E 186 (b := x_186) rfl) (He.eqO_ok (at_ E 187 (b := x_187) rfl)) (at_ E 188 (b := x_188) rfl) (at_ E 189 (b := x_189) rfl) (He.eqO_ok (at_ E 190 (b := x_190) rfl)) (He.eqO_ok (at_ E 191 (b := x_191) rfl)) (He.eqO_ok (at_ E 192 (b := x_192) rfl)) (He.eqO_ok (at_ E 193 (b := x_193) rfl)) (He.eqO_ok (at_ E 194 (b := x_194) rfl)) (He.eqO_ok (at_ E 195 (b := x_195) rfl)) (He.eqO_ok (at_ E 196 (b := x_196) rfl)) (He.eqO_ok (at_ E 197 (b := x_197) rfl)) (at_ E 198 (b := x_198) rfl) lk51 cc51 (at_ E 199 (b := x_199) rfl) (He.eqO_ok (at_ E 200 (b := x_200) rfl)) (at_ E 201 (b := x_201) rfl) lk52 cc52 (at_ E 202 (b := x_202) rfl) (He.eqO_ok (at_ E 203 (b := x_203) rfl)) (at_ E 204 (b := x_204) rfl) lk53 cc53 (at_ E 205 (b := x_205) rfl) (He.eqO_ok (at_ E 206 (b := x_206) rfl)) (at_ E 207 (b := x_207) rfl) lk54 cc54 (at_ E 208 (b := x_208) rfl) (He.eqO_ok (at_ E 209 (b := x_209) rfl)) DL0.1 DL0.2 DL0.3 (He.eqO_ok (at_ E 210 (b := x_210) rfl)) DL1.1 DL1.2 DL1.3 hk211 hk212 (He.eqO_ok (at_ E 213 (b := x_213) rfl)) (He.eqO_ok (at_ E 214 (b := x_214) rfl)) (He.eqO_ok (at_ E 215 (b := x_215) rfl)) (He.eqO_ok (at_ E 216 (b := x_216) rfl)) (ne_of_nd (at_ E 217 (b := x_217) rfl)) hk218 hk219
end
end Ff
set_option maxHeartbeats 0
namespace Ff
open PySem PySem.Spec PyProof.Rows L2
def nm0 : List Str := ["_wall", "ForestError", "Missing", "BadParent", "Cycle", "TooManyNodes", "NotRoot", "SameRoot", "SizesDiffer", "RootsDiffer", "NoWay", "BadStep", "BadCount", "TooLong", "BadName", "NameTaken", "TooManyForests", "BadCommand", "NoNode", "NoForest", "MAX_NODES", "leads_to_root", "check_forest", "single_nodes", "check_number", "check_node", "path_of", "root_of", "depth_of", "is_above"]
def nm1 : List Str := ["find", "find_all", "check_root", "link", "unite", "marked_nodes", "forest_after", "total_cost", "check_sizes", "check_roots", "changed_nodes", "barring_nodes", "find_bar", "needed_finds", "is_needed", "way_cost", "deep_nodes", "flattened", "flattening_finds", "MAX_STEPS", "MAX_NESTING", "COUNT_LIMIT", "is_find", "has_form", "is_link", "is_round", "may_stand", "check_steps", "check_history", "lower_finds"]
def nm2 : List Str := ["run_round", "run_steps", "run_history", "MAX_FORESTS", "MAX_LETTERS", "LENGTHS", "is_name", "forest_in", "check_new_name", "do_new", "do_drop", "do_copy", "do_swap", "do_find", "do_link", "do_unite", "do_run", "do_flatten", "do_grow", "ACTIONS", "check_command", "do_command", "count_nodes", "Store", "_law_start", "_law_take", "_law_of", "_law_shuffled", "_law_same", "_law_size"]
def nm3 : List Str := ["_law_renamed", "_law_forest", "_law_some_forest", "_law_nodes"]
def names_ : List Str := nm0 ++ nm1 ++ nm2 ++ nm3
abbrev R_ : PySem.W.OpenRow := PySem.W.OpenLaw.row PySem.Challenge.rw_findforests_k61_whole_least_costs_of_way
abbrev hk_ : PySem.W.Hook := He.hookM 1400 fn_ ts_ tf_ ex_
def ob_ (s : PySem.W.SharedT) : He.AlX := He.obsM 1400 fn_ ts_ tf_ ex_ (HandSHeadRun.getT s)
theorem ob_eq_ (s : PySem.W.SharedT) : ob_ s = hk_.obs s.abs := He.obsM_eq (HandSHeadRun.getT_eq s)
def Pw_ (w : World) : Prop := HandSHeadRun.RunEq R_ (PySem.W.view R_.prog [101]) hk_ ob_ 12000 names_ w
def PA_ (w : World) : Prop := He.RunA R_ (PySem.W.view R_.prog [101]) 12000 names_ w
def PB_ (w : World) : Prop := He.RunB R_ 1400 fn_ ts_ 12000 w
def PC_ (w : World) : Prop := He.RunC R_ 1400 tf_ ex_ 12000 w
theorem runA_0 (w : World) : PA_ ((w).withFollow "special-get-raises" false) := by
  intro os
  kernel_rfl
theorem runA_1 (w : World) : PA_ ((w).withFollow "special-get-raises" true) := by
  intro os
  kernel_rfl
theorem runA_ (w : World) : PA_ w := PySem.W.byRow2 "special-get-raises" runA_0 runA_1 w
theorem runB_0 (w : World) : PB_ ((w).withFollow "special-get-raises" false) := by
  intro os
  kernel_rfl
theorem runB_1 (w : World) : PB_ ((w).withFollow "special-get-raises" true) := by
  intro os
  kernel_rfl
theorem runB_ (w : World) : PB_ w := PySem.W.byRow2 "special-get-raises" runB_0 runB_1 w
theorem runC_0 (w : World) : PC_ ((w).withFollow "special-get-raises" false) := by
  intro os
  kernel_rfl
theorem runC_1 (w : World) : PC_ ((w).withFollow "special-get-raises" true) := by
  intro os
  kernel_rfl
theorem runC_ (w : World) : PC_ w := PySem.W.byRow2 "special-get-raises" runC_0 runC_1 w
theorem run_ (w : World) : Pw_ w := He.run_of (runA_ w) (runB_ w) (runC_ w)
end Ff
open PySem PySem.W PySem.Calls PyProof.Rows
theorem PySem.Challenge.cw_findforests_k61_whole_least_costs_of_way_holds : PySem.Challenge.rw_findforests_k61_whole_least_costs_of_way.Holds := by
  w_on; o_law
  refine HandSHeadRun.head_any (r := OpenLaw.row PySem.Challenge.rw_findforests_k61_whole_least_costs_of_way) (q := view (OpenLaw.row PySem.Challenge.rw_findforests_k61_whole_least_costs_of_way).prog [101]) (H := Ff.hk_) (ob := Ff.ob_) (M := 12000) (loose := Ff.names_) (d := HandSHeadRun.topDef (OpenLaw.row PySem.Challenge.rw_findforests_k61_whole_least_costs_of_way).prog 101) (kwd := []) Ff.ob_eq_
    (by kernel_rfl) (fun s => by kernel_rfl) Ff.run_ (by kernel_rfl) (by kernel_rfl) (by kernel_rfl) (by rfl) (by first | assumption | decide +kernel) (by decide +kernel) ⟨rfl, rfl, rfl, rfl, rfl, by decide +kernel⟩ ?hw ?hc
  case hw => w_witness2
  case hc =>
    refine L2.walk_ofE (l := PySem.Challenge.rw_findforests_k61_whole_least_costs_of_way) (n := 63) (k := 16) (x := "_law_script") (CX := L2.CX0) rfl (by decide) (by kernel_rfl) ⟨rfl, by decide, by decide⟩ ?F (fun _ _ _ _ z => z)
    intro w mg fa h Y G hmg0
    obtain ⟨K, KX, c⟩ := Y
    have hmg : mg ("law" : PySem.Str) = some (.ref fa) := by
      have e : (HandSHeadRun.topDef (OpenLaw.row PySem.Challenge.rw_findforests_k61_whole_least_costs_of_way).prog 101).name = ("law" : PySem.Str) := by kernel_rfl
      rw [← e]
      exact hmg0
    obtain ⟨fd, hb, hF⟩ := Ff.facts (l := PySem.Challenge.rw_findforests_k61_whole_least_costs_of_way) (w := w) KX G hmg c
    exact ⟨K, fd, Ff.spLaw K, KX, hb, fun H a ns hl _ hS => ⟨a, ns, rfl, hS, hl, fun _ => rfl⟩, hF⟩

