import PyProof.Rows.All
import Wide.All
import OpenK.AllK
import Wide.FinOn
import KE.KExcInit
import HandS.Base
import HandS.Call
import HandS.List
import HandS.Ends
import HandS.Exc
import HandS.ExcInit
import HandS.ExcCtx
import HandS.TryMany
import KE.KTryMore
import HandS.HotCalls
import HandS.ExcField
import HandS.Lambda
import HandS.Codes
import HandS.Words
import HandS.WordsExc
import PyProof.TupleIter
import HandS.FStr
import HandS.Style
import HandS.Comp
import KE.KDflt
import HandS.Iter
import KE.GoesEnum
import HandS.EndOwn
import PyProof.CollectIter
import HandS.ReplaceLit
import HandS.ReplaceDef
import HandS.ReplaceList
import HandS.MapJoin
import PyProof.Rows.ReprOcc
import KE.KWords
import KE.IntTextLaws
import KE.GoesRaise
import PyProof.StrOps2
import HandS.Dict
import HandS.Text
import HandS.WordsList
import HandS.WordsDict
import HandS.Wide
import HandS.Conv
import HandS.More
import HandS.Strs
import HandS.SetFor
import HandS.IsInst
import HandS.Zip
import HandS.Deep
import HandS.Steps
import HandS.Walk
import KE.KNestM
import KE.KExcLine
import PySem.Challenge.RW_findforests_k51_texts_that_are_no_histor
set_option Elab.async false
set_option linter.all false
set_option maxRecDepth 100000
set_option maxHeartbeats 4000000
/-! The mathematics of finds: forests as parent functions below n, with a rank that falls towards the roots. -/
namespace Ff
structure Fo (n : Nat) (p : Nat → Nat) (r : Nat → Nat) : Prop where
  lt : ∀ x, x < n → p x < n
  up : ∀ x, x < n → p x = x ∨ r (p x) < r x
  rb : ∀ x, x < n → r x < n
def root (p : Nat → Nat) : Nat → Nat → Nat
  | 0, x => x
  | k + 1, x => if p x = x then x else root p k (p x)
def ups (p : Nat → Nat) : Nat → Nat → List Nat
  | 0, _ => []
  | k + 1, x => if p x = x then [] else x :: ups p k (p x)
def path (p : Nat → Nat) (k x : Nat) : List Nat := ups p k x ++ [root p k x]
theorem root_of {p : Nat → Nat} {x : Nat} (h : p x = x) : ∀ k, root p k x = x
  | 0 => rfl
  | k + 1 => by show (if p x = x then x else _) = x; rw [if_pos h]
theorem ups_of {p : Nat → Nat} {x : Nat} (h : p x = x) : ∀ k, ups p k x = []
  | 0 => rfl
  | k + 1 => by show (if p x = x then [] else _) = []; rw [if_pos h]
theorem root_step {p : Nat → Nat} {x k : Nat} (h : p x ≠ x) : root p (k + 1) x = root p k (p x) := by
  show (if p x = x then x else _) = _; rw [if_neg h]
theorem ups_step {p : Nat → Nat} {x k : Nat} (h : p x ≠ x) : ups p (k + 1) x = x :: ups p k (p x) := by
  show (if p x = x then [] else _) = _; rw [if_neg h]
section
variable {n : Nat} {p : Nat → Nat} {r : Nat → Nat}
/-- enough steps: more of them change nothing -/
theorem root_more (F : Fo n p r) : ∀ (k x : Nat), x < n → r x ≤ k → root p (k + 1) x = root p k x
  | k, x, hx, hr => by
    by_cases h : p x = x
    · rw [root_of h, root_of h]
    · have u := (F.up x hx).resolve_left h
      cases k with
      | zero => omega
      | succ k => rw [root_step h, root_step h]; exact root_more F k (p x) (F.lt x hx) (by omega)
theorem ups_more (F : Fo n p r) : ∀ (k x : Nat), x < n → r x ≤ k → ups p (k + 1) x = ups p k x
  | k, x, hx, hr => by
    by_cases h : p x = x
    · rw [ups_of h, ups_of h]
    · have u := (F.up x hx).resolve_left h
      cases k with
      | zero => omega
      | succ k => rw [ups_step h, ups_step h]; rw [ups_more F k (p x) (F.lt x hx) (by omega)]
theorem root_n (F : Fo n p r) {x : Nat} (hx : x < n) (h : p x ≠ x) : root p n x = root p n (p x) := by
  have := F.rb x hx
  have e := (F.up x hx).resolve_left h
  rw [← root_more F n x hx (by omega), root_step h]
theorem ups_n (F : Fo n p r) {x : Nat} (hx : x < n) (h : p x ≠ x) : ups p n x = x :: ups p n (p x) := by
  have := F.rb x hx
  have e := (F.up x hx).resolve_left h
  rw [← ups_more F n x hx (by omega), ups_step h]
/-- induction from the roots -/
theorem Fo.ind (F : Fo n p r) {C : Nat → Prop} (h0 : ∀ x, x < n → p x = x → C x) (h1 : ∀ x, x < n → p x ≠ x → C (p x) → C x) : ∀ x, x < n → C x := by
  have : ∀ k x, r x ≤ k → x < n → C x := by
    intro k
    induction k with
    | zero =>
      intro x hr hx
      by_cases h : p x = x
      · exact h0 x hx h
      · have := (F.up x hx).resolve_left h; omega
    | succ k ih =>
      intro x hr hx
      by_cases h : p x = x
      · exact h0 x hx h
      · have := (F.up x hx).resolve_left h
        exact h1 x hx h (ih (p x) (by omega) (F.lt x hx))
  exact fun x hx => this (r x) x (Nat.le_refl _) hx
theorem root_lt (F : Fo n p r) : ∀ x, x < n → root p n x < n :=
  F.ind (fun x hx h => by rw [root_of h]; exact hx) (fun x hx h ih => by rw [root_n F hx h]; exact ih)
theorem root_fix (F : Fo n p r) : ∀ x, x < n → p (root p n x) = root p n x :=
  F.ind (fun x hx h => by rw [root_of h]; exact h) (fun x hx h ih => by rw [root_n F hx h]; exact ih)
theorem root_rank (F : Fo n p r) : ∀ x, x < n → root p n x = x ∨ r (root p n x) < r x :=
  F.ind (fun x hx h => .inl (root_of h n)) (fun x hx h ih => by
    have u := (F.up x hx).resolve_left h
    rw [root_n F hx h]
    rcases ih with e | e
    · rw [e]; exact .inr u
    · exact .inr (by omega))
theorem root_ne (F : Fo n p r) {x : Nat} (hx : x < n) (h : p x ≠ x) : root p n x ≠ x := fun e => h (by have z := root_fix F x hx; rw [e] at z; exact z)
theorem ups_lt (F : Fo n p r) : ∀ x, x < n → ∀ v ∈ ups p n x, v < n ∧ p v ≠ v ∧ root p n v = root p n x ∧ r v ≤ r x :=
  F.ind (fun x hx h v hv => by rw [ups_of h] at hv; cases hv) (fun x hx h ih v hv => by
    have u := (F.up x hx).resolve_left h
    rw [ups_n F hx h] at hv
    rcases List.mem_cons.mp hv with e | e
    · subst e; exact ⟨hx, h, rfl, Nat.le_refl _⟩
    · have z := ih v e
      refine ⟨z.1, z.2.1, z.2.2.1.trans (root_n F hx h).symm, by omega⟩)
theorem ups_len (F : Fo n p r) : ∀ x, x < n → (ups p n x).length ≤ r x :=
  F.ind (fun x hx h => by rw [ups_of h]; exact Nat.zero_le _) (fun x hx h ih => by
    have u := (F.up x hx).resolve_left h
    rw [ups_n F hx h, List.length_cons]; omega)
theorem ups_nodup (F : Fo n p r) : ∀ x, x < n → (ups p n x).Nodup :=
  F.ind (fun x hx h => by rw [ups_of h]; exact List.nodup_nil) (fun x hx h ih => by
    have u := (F.up x hx).resolve_left h
    rw [ups_n F hx h]
    refine List.nodup_cons.mpr ⟨fun hm => ?_, ih⟩
    have z := (ups_lt F (p x) (F.lt x hx) x hm).2.2.2
    omega)
theorem self_ups (F : Fo n p r) {x : Nat} (hx : x < n) (h : p x ≠ x) : x ∈ ups p n x := by rw [ups_n F hx h]; exact List.mem_cons_self
/-- a set of nodes with all nodes above them but the roots -/
def Closed (n : Nat) (p : Nat → Nat) (S : Nat → Bool) : Prop := ∀ v, v < n → S v = true → p v ≠ v ∧ (p (p v) = p v ∨ S (p v) = true)
def after (n : Nat) (p : Nat → Nat) (S : Nat → Bool) : Nat → Nat := fun v => if S v = true then root p n v else p v
theorem closed_ups (F : Fo n p r) {S : Nat → Bool} (C : Closed n p S) : ∀ x, x < n → S x = true → ∀ v ∈ ups p n x, S v = true :=
  F.ind (fun x hx h hS v hv => by rw [ups_of h] at hv; cases hv) (fun x hx h ih hS v hv => by
    rw [ups_n F hx h] at hv
    rcases List.mem_cons.mp hv with e | e
    · subst e; exact hS
    · rcases (C x hx hS).2 with z | z
      · rw [ups_of z] at e; cases e
      · exact ih z v e)
theorem after_fo (F : Fo n p r) {S : Nat → Bool} (C : Closed n p S) : Fo n (after n p S) r where
  lt := fun x hx => by unfold after; split; exact root_lt F x hx; exact F.lt x hx
  up := fun x hx => by
    unfold after; split
    · exact root_rank F x hx
    · exact F.up x hx
  rb := F.rb
theorem after_root (F : Fo n p r) {S : Nat → Bool} (C : Closed n p S) {x : Nat} (hx : x < n) (h : p x = x) : after n p S x = x := by
  unfold after; split
  · exact root_of h n
  · exact h
theorem after_nonroot (F : Fo n p r) {S : Nat → Bool} (C : Closed n p S) {x : Nat} (hx : x < n) (h : p x ≠ x) : after n p S x ≠ x := by
  unfold after; split
  · exact root_ne F hx h
  · exact h
theorem after_same_root (F : Fo n p r) {S : Nat → Bool} (C : Closed n p S) : ∀ x, x < n → root (after n p S) n x = root p n x :=
  F.ind (fun x hx h => by rw [root_of h, root_of (after_root F C hx h)]) (fun x hx h ih => by
    have hq := after_nonroot F C hx h
    rw [root_n (after_fo F C) hx hq]
    by_cases hS : S x = true
    · have e : after n p S x = root p n x := by unfold after; rw [if_pos hS]
      rw [e]
      exact root_of (after_root F C (root_lt F x hx) (root_fix F x hx)) n
    · have e : after n p S x = p x := by unfold after; rw [if_neg hS]
      rw [e, ih, root_n F hx h])
theorem after_ups (F : Fo n p r) {S : Nat → Bool} (C : Closed n p S) : ∀ x, x < n →
    (∀ v ∈ ups (after n p S) n x, v ∈ ups p n x) ∧ (∀ v ∈ ups p n x, S v = true ∨ v ∈ ups (after n p S) n x) :=
  F.ind (fun x hx h => by rw [ups_of h, ups_of (after_root F C hx h)]; exact ⟨fun _ z => z, fun _ z => .inr z⟩) (fun x hx h ih => by
    have hq := after_nonroot F C hx h
    have G := after_fo F C
    rw [ups_n G hx hq]
    by_cases hS : S x = true
    · have e : after n p S x = root p n x := by unfold after; rw [if_pos hS]
      rw [e, ups_of (after_root F C (root_lt F x hx) (root_fix F x hx))]
      refine ⟨fun v hv => ?_, fun v hv => .inl (closed_ups F C x hx hS v hv)⟩
      rw [List.mem_singleton.mp hv]; exact self_ups F hx h
    · have e : after n p S x = p x := by unfold after; rw [if_neg hS]
      rw [e, ups_n F hx h]
      refine ⟨fun v hv => ?_, fun v hv => ?_⟩
      · rcases List.mem_cons.mp hv with z | z
        · rw [z]; exact List.mem_cons_self
        · exact List.mem_cons_of_mem _ (ih.1 v z)
      · rcases List.mem_cons.mp hv with z | z
        · exact .inr (by rw [z]; exact List.mem_cons_self)
        · rcases ih.2 v z with y | y
          · exact .inl y
          · exact .inr (List.mem_cons_of_mem _ y))
def low (p : Nat → Nat) (x : Nat) : Nat := if p x = x then 0 else 1
def deep (p : Nat → Nat) (v : Nat) : Bool := decide (p (p v) ≠ p v)
theorem after_cost (F : Fo n p r) {S : Nat → Bool} (C : Closed n p S) : ∀ x, x < n →
    (ups (after n p S) n x).length = low p x + (ups p n x).countP (fun v => deep p v && !S v) :=
  F.ind (fun x hx h => by rw [ups_of h, ups_of (after_root F C hx h)]; unfold low; rw [if_pos h]; rfl) (fun x hx h ih => by
    have hq := after_nonroot F C hx h
    have G := after_fo F C
    rw [ups_n G hx hq, List.length_cons]
    have hl : low p x = 1 := by unfold low; rw [if_neg h]
    rw [hl]
    by_cases hS : S x = true
    · have e : after n p S x = root p n x := by unfold after; rw [if_pos hS]
      rw [e, ups_of (after_root F C (root_lt F x hx) (root_fix F x hx))]
      have z : (ups p n x).countP (fun v => deep p v && !S v) = 0 := by
        refine List.countP_eq_zero.mpr fun v hv => ?_
        rw [closed_ups F C x hx hS v hv]; simp
      rw [z]; rfl
    · have e : after n p S x = p x := by unfold after; rw [if_neg hS]
      have eS : S x = false := by simpa using hS
      rw [e, ih, ups_n F hx h, List.countP_cons, eS]
      unfold low deep
      by_cases hd : p (p x) = p x
      · rw [if_pos hd]; simp [hd]; omega
      · rw [if_neg hd]; simp [hd]; omega)
def join (S T : Nat → Bool) : Nat → Bool := fun v => S v || T v
def upB (p : Nat → Nat) (n x : Nat) : Nat → Bool := fun v => (ups p n x).contains v
theorem upB_iff {v x : Nat} : upB p n x v = true ↔ v ∈ ups p n x := by unfold upB; exact List.contains_iff_mem
theorem ups_above (F : Fo n p r) : ∀ x, x < n → ∀ v ∈ ups p n x, p (p v) = p v ∨ p v ∈ ups p n x :=
  F.ind (fun x hx h v hv => by rw [ups_of h] at hv; cases hv) (fun x hx h ih v hv => by
    rw [ups_n F hx h] at hv ⊢
    rcases List.mem_cons.mp hv with e | e
    · subst e
      by_cases hp : p (p v) = p v
      · exact .inl hp
      · exact .inr (List.mem_cons_of_mem _ (self_ups F (F.lt v hx) hp))
    · rcases ih v e with z | z
      · exact .inl z
      · exact .inr (List.mem_cons_of_mem _ z))
theorem closed_join (F : Fo n p r) {S : Nat → Bool} (C : Closed n p S) {x : Nat} (hx : x < n) : Closed n p (join S (upB p n x)) := fun v hv h => by
  unfold join at h ⊢
  rcases Bool.or_eq_true _ _ |>.mp h with z | z
  · refine ⟨(C v hv z).1, ?_⟩
    rcases (C v hv z).2 with y | y
    · exact .inl y
    · exact .inr (by rw [y]; rfl)
  · have m := upB_iff.mp z
    refine ⟨(ups_lt F x hx v m).2.1, ?_⟩
    rcases ups_above F x hx v m with y | y
    · exact .inl y
    · exact .inr (by rw [upB_iff.mpr y, Bool.or_true])
theorem closed_no : Closed n p (fun _ => false) := fun v _ h => by cases h
def fnd (n : Nat) (p : Nat → Nat) (x : Nat) : Nat → Nat := fun v => if v ∈ path p n x then root p n x else p v
theorem fnd_after (F : Fo n p r) {S : Nat → Bool} (C : Closed n p S) {x : Nat} (hx : x < n) {v : Nat} (hv : v < n) : fnd n (after n p S) x v = after n p (join S (upB p n x)) v := by
  unfold fnd path
  rw [after_same_root F C x hx]
  have A := after_ups F C x hx
  have R := root_fix F x hx
  have Rl := root_lt F x hx
  by_cases h1 : v ∈ ups (after n p S) n x
  · rw [if_pos (List.mem_append_left _ h1)]
    have m := A.1 v h1
    unfold after join
    rw [if_pos (by rw [upB_iff.mpr m, Bool.or_true])]
    exact ((ups_lt F x hx v m).2.2.1).symm
  · by_cases h2 : v = root p n x
    · rw [if_pos (List.mem_append_right _ (List.mem_singleton.mpr h2))]
      subst h2
      exact (after_root F (closed_join F C hx) Rl R).symm
    · rw [if_neg (fun z => by
        rcases List.mem_append.mp z with y | y
        · exact h1 y
        · exact h2 (List.mem_singleton.mp y))]
      by_cases h3 : v ∈ ups p n x
      · have s := (A.2 v h3).resolve_right h1
        unfold after join
        rw [if_pos s, if_pos (by rw [s]; rfl)]
      · unfold after join
        have e : upB p n x v = false := by
          cases hb : upB p n x v with
          | false => rfl
          | true => exact absurd (upB_iff.mp hb) h3
        rw [e, Bool.or_false]
/-- a parent function below n alone matters -/
theorem root_congr {q : Nat → Nat} (hl : ∀ x, x < n → p x < n) (h : ∀ v, v < n → q v = p v) : ∀ k x, x < n → root q k x = root p k x
  | 0, _, _ => rfl
  | k + 1, x, hx => by
    show (if q x = x then x else root q k (q x)) = (if p x = x then x else root p k (p x))
    rw [h x hx, root_congr hl h k (p x) (hl x hx)]
theorem ups_congr {q : Nat → Nat} (hl : ∀ x, x < n → p x < n) (h : ∀ v, v < n → q v = p v) : ∀ k x, x < n → ups q k x = ups p k x
  | 0, _, _ => rfl
  | k + 1, x, hx => by
    show (if q x = x then [] else x :: ups q k (q x)) = (if p x = x then [] else x :: ups p k (p x))
    rw [h x hx, ups_congr hl h k (p x) (hl x hx)]
theorem fnd_congr {q : Nat → Nat} (hl : ∀ x, x < n → p x < n) (h : ∀ v, v < n → q v = p v) {x v : Nat} (hx : x < n) (hv : v < n) : fnd n q x v = fnd n p x v := by
  unfold fnd path
  rw [root_congr hl h n x hx, ups_congr hl h n x hx, h v hv]
theorem Fo.congr {q : Nat → Nat} (F : Fo n p r) (h : ∀ v, v < n → q v = p v) : Fo n q r where
  lt := fun x hx => by rw [h x hx]; exact F.lt x hx
  up := fun x hx => by rw [h x hx]; exact F.up x hx
  rb := F.rb
theorem fnd_fo (F : Fo n p r) {x : Nat} (hx : x < n) : Fo n (fnd n p x) r := by
  have e : ∀ v, v < n → after n p (fun _ => false) v = p v := fun v _ => rfl
  have A := after_fo F (closed_join F closed_no hx)
  exact A.congr fun v hv => (fnd_congr F.lt e hx hv).symm.trans (fnd_after F closed_no hx hv)
end
def fndAll (n : Nat) : List Nat → (Nat → Nat) → Nat → Nat
  | [], p => p
  | x :: l, p => fndAll n l (fnd n p x)
def costs (n : Nat) : List Nat → (Nat → Nat) → List Nat
  | [], _ => []
  | x :: l, p => (ups p n x).length :: costs n l (fnd n p x)
theorem fndAll_snoc (n : Nat) : ∀ (l : List Nat) (x : Nat) (p : Nat → Nat), fndAll n (l ++ [x]) p = fnd n (fndAll n l p) x
  | [], _, _ => rfl
  | y :: l, x, p => fndAll_snoc n l x (fnd n p y)
theorem costs_snoc (n : Nat) : ∀ (l : List Nat) (x : Nat) (p : Nat → Nat), costs n (l ++ [x]) p = costs n l p ++ [(ups (fndAll n l p) n x).length]
  | [], _, _ => rfl
  | y :: l, x, p => by show _ :: costs n (l ++ [x]) (fnd n p y) = _ :: (costs n l (fnd n p y) ++ [_]); rw [costs_snoc n l x (fnd n p y)]; rfl
theorem costs_len (n : Nat) : ∀ (l : List Nat) (p : Nat → Nat), (costs n l p).length = l.length
  | [], _ => rfl
  | y :: l, p => by show (costs n l (fnd n p y)).length + 1 = l.length + 1; rw [costs_len n l]
def markB (n : Nat) (p : Nat → Nat) (l : List Nat) : Nat → Bool := fun v => l.any fun x => upB p n x v
section
variable {n : Nat} {p : Nat → Nat} {r : Nat → Nat}
theorem fndAll_fo (F : Fo n p r) : ∀ (l : List Nat), (∀ x ∈ l, x < n) → ∀ q, Fo n q r → Fo n (fndAll n l q) r
  | [], _, q, G => G
  | x :: l, h, q, G => fndAll_fo F l (fun y hy => h y (List.mem_cons_of_mem _ hy)) _ (fnd_fo G (h x List.mem_cons_self))
theorem fndAll_after (F : Fo n p r) : ∀ (l : List Nat), (∀ x ∈ l, x < n) → ∀ S, Closed n p S → ∀ q, (∀ v, v < n → q v = after n p S v) → ∀ v, v < n → fndAll n l q v = after n p (join S (markB n p l)) v
  | [], _, S, C, q, hq, v, hv => by
    show q v = _
    rw [hq v hv]
    unfold after join markB
    simp
  | x :: l, h, S, C, q, hq, v, hv => by
    have hx := h x List.mem_cons_self
    have G := after_fo F C
    show fndAll n l (fnd n q x) v = _
    rw [fndAll_after F l (fun y hy => h y (List.mem_cons_of_mem _ hy)) (join S (upB p n x)) (closed_join F C hx) (fnd n q x) (fun u hu => (fnd_congr G.lt hq hx hu).trans (fnd_after F C hx hu)) v hv]
    have e : join (join S (upB p n x)) (markB n p l) = join S (markB n p (x :: l)) := by
      funext u
      show ((S u || upB p n x u) || l.any _) = (S u || (upB p n x u || l.any _))
      rw [Bool.or_assoc]
    rw [e]
theorem behind_eq (F : Fo n p r) (l : List Nat) (h : ∀ x ∈ l, x < n) (v : Nat) (hv : v < n) : fndAll n l p v = if markB n p l v = true then root p n v else p v := by
  rw [fndAll_after F l h (fun _ => false) closed_no p (fun u _ => rfl) v hv]
  unfold after join
  simp
theorem countP_split (f g : Nat → Bool) : ∀ l : List Nat, l.countP (fun v => f v && !g v) + l.countP (fun v => f v && g v) = l.countP f
  | [] => rfl
  | x :: l => by
    have ih := countP_split f g l
    rw [List.countP_cons, List.countP_cons, List.countP_cons, ← ih]
    cases f x <;> cases g x <;> simp <;> omega
theorem count_range (F : Fo n p r) {x : Nat} (hx : x < n) (f : Nat → Bool) : (ups p n x).countP f = (List.range n).countP (fun v => upB p n x v && f v) := by
  have P : (ups p n x).Perm ((List.range n).filter (upB p n x)) := by
    refine (List.perm_ext_iff_of_nodup (ups_nodup F x hx) (List.Nodup.sublist List.filter_sublist List.nodup_range)).mpr fun v => ?_
    rw [List.mem_filter, List.mem_range, upB_iff]
    exact ⟨fun h => ⟨(ups_lt F x hx v h).1, h⟩, fun h => h.2⟩
  rw [P.countP_eq, List.countP_filter]
  exact List.countP_congr fun v _ => by rw [Bool.and_comm]
theorem cost_sum (F : Fo n p r) : ∀ (l : List Nat), (∀ x ∈ l, x < n) → ∀ S, Closed n p S → ∀ q, (∀ v, v < n → q v = after n p S v) →
    (costs n l q).sum = (l.map (low p)).sum + (List.range n).countP (fun v => (deep p v && !S v) && markB n p l v)
  | [], _, S, C, q, hq => by
    have e : (List.range n).countP (fun v => (deep p v && !S v) && markB n p [] v) = 0 := List.countP_eq_zero.mpr fun v _ => by unfold markB; simp
    rw [e]; rfl
  | x :: l, h, S, C, q, hq => by
    have hx := h x List.mem_cons_self
    have G := after_fo F C
    show (ups q n x).length + (costs n l (fnd n q x)).sum = (low p x + (l.map (low p)).sum) + _
    rw [cost_sum F l (fun y hy => h y (List.mem_cons_of_mem _ hy)) (join S (upB p n x)) (closed_join F C hx) (fnd n q x) (fun u hu => (fnd_congr G.lt hq hx hu).trans (fnd_after F C hx hu))]
    rw [ups_congr G.lt hq n x hx, after_cost F C x hx, count_range F hx]
    have e := countP_split (fun v => (deep p v && !S v) && markB n p (x :: l) v) (upB p n x) (List.range n)
    rw [← e]
    have e1 : (List.range n).countP (fun v => ((deep p v && !S v) && markB n p (x :: l) v) && upB p n x v) = (List.range n).countP (fun v => upB p n x v && (deep p v && !S v)) := List.countP_congr fun v _ => by
      show (((deep p v && !S v) && (upB p n x v || markB n p l v)) && upB p n x v) = true ↔ (upB p n x v && (deep p v && !S v)) = true
      cases upB p n x v <;> cases deep p v <;> cases S v <;> simp
    have e2 : (List.range n).countP (fun v => ((deep p v && !S v) && markB n p (x :: l) v) && !upB p n x v) = (List.range n).countP (fun v => (deep p v && !join S (upB p n x) v) && markB n p l v) := List.countP_congr fun v _ => by
      show (((deep p v && !S v) && (upB p n x v || markB n p l v)) && !upB p n x v) = true ↔ ((deep p v && !(S v || upB p n x v)) && markB n p l v) = true
      cases upB p n x v <;> cases deep p v <;> cases S v <;> simp
    rw [e1, e2]
    omega
theorem cost_total (F : Fo n p r) (l : List Nat) (h : ∀ x ∈ l, x < n) : (costs n l p).sum = (l.map (low p)).sum + (List.range n).countP (fun v => deep p v && markB n p l v) := by
  rw [cost_sum F l h (fun _ => false) closed_no p (fun u _ => rfl)]
  congr 1
  exact List.countP_congr fun v _ => by simp
theorem mark_same {l m : List Nat} (h : ∀ x, x ∈ l ↔ x ∈ m) (v : Nat) : markB n p l v = markB n p m v := by
  unfold markB
  refine Bool.eq_iff_iff.mpr ?_
  rw [List.any_eq_true, List.any_eq_true]
  exact ⟨fun ⟨x, a, b⟩ => ⟨x, (h x).mp a, b⟩, fun ⟨x, a, b⟩ => ⟨x, (h x).mpr a, b⟩⟩
theorem behind_same (F : Fo n p r) {l m : List Nat} (hl : ∀ x ∈ l, x < n) (h : ∀ x, x ∈ l ↔ x ∈ m) (v : Nat) (hv : v < n) : fndAll n m p v = fndAll n l p v := by
  rw [behind_eq F m (fun x hx => hl x ((h x).mpr hx)) v hv, behind_eq F l hl v hv, mark_same h]
theorem cost_same (F : Fo n p r) {l m : List Nat} (hl : ∀ x ∈ l, x < n) (h : l.Perm m) : (costs n m p).sum = (costs n l p).sum := by
  rw [cost_total F m (fun x hx => hl x (h.mem_iff.mpr hx)), cost_total F l hl, (h.map (low p)).sum_nat]
  congr 1
  exact List.countP_congr fun v _ => by rw [mark_same (fun x => h.mem_iff) v]
end
end Ff
namespace Ff
theorem path_cons {p : Nat → Nat} {k x : Nat} (h : p x ≠ x) : path p (k + 1) x = x :: path p k (p x) := by
  unfold path
  rw [ups_step h, root_step h]
  rfl
theorem path_of {p : Nat → Nat} {k x : Nat} (h : p x = x) : path p k x = [x] := by
  unfold path
  rw [ups_of h, root_of h]
  rfl
theorem path_succ (p : Nat → Nat) : ∀ k x, path p (k + 1) x = if p (root p k x) = root p k x then path p k x else path p k x ++ [p (root p k x)]
  | 0, x => by
    by_cases h : p x = x
    · rw [path_of h, if_pos (show p (root p 0 x) = root p 0 x from h)]; rfl
    · rw [path_cons h, if_neg (show ¬ p (root p 0 x) = root p 0 x from h)]; rfl
  | k + 1, x => by
    by_cases h : p x = x
    · rw [path_of h, root_of h, if_pos h, path_of h]
    · rw [path_cons h, root_step h, path_succ p k (p x), path_cons h]
      split <;> rfl
theorem path_fixed {p : Nat → Nat} {i x : Nat} (h : p (root p i x) = root p i x) : ∀ j, path p (i + j) x = path p i x ∧ root p (i + j) x = root p i x
  | 0 => ⟨rfl, rfl⟩
  | j + 1 => by
    have ih := path_fixed h j
    have e : path p (i + (j + 1)) x = path p i x := by
      show path p ((i + j) + 1) x = _
      rw [path_succ, ih.2, if_pos h]
      exact ih.1
    refine ⟨e, ?_⟩
    unfold path at e
    have z := congrArg List.getLast? e
    rw [List.getLast?_append, List.getLast?_append] at z
    simpa using z
theorem root_lt0 {n : Nat} {p : Nat → Nat} (hl : ∀ x, x < n → p x < n) : ∀ k x, x < n → root p k x < n
  | 0, _, h => h
  | k + 1, x, h => by
    show (if p x = x then x else root p k (p x)) < n
    split
    · exact h
    · exact root_lt0 hl k (p x) (hl x h)
theorem ups_len0 (p : Nat → Nat) : ∀ k x, (ups p k x).length ≤ k
  | 0, _ => Nat.le_refl _
  | k + 1, x => by
    show (if p x = x then [] else x :: ups p k (p x)).length ≤ k + 1
    split
    · exact Nat.zero_le _
    · have := ups_len0 p k (p x)
      rw [List.length_cons]; omega
theorem path_len0 (p : Nat → Nat) (k x : Nat) : (path p k x).length ≤ k + 1 := by
  unfold path
  have := ups_len0 p k x
  rw [List.length_append, List.length_singleton]; omega
end Ff
namespace Ff
theorem root_succ (p : Nat → Nat) : ∀ k x, root p (k + 1) x = p (root p k x)
  | 0, x => by
    by_cases h : p x = x
    · rw [root_of h]; show x = p x; rw [h]
    · rw [root_step h]; rfl
  | k + 1, x => by
    by_cases h : p x = x
    · rw [root_of h, root_of h, h]
    · rw [root_step h, root_step h, root_succ p k (p x)]
theorem ups_succ (p : Nat → Nat) : ∀ k x, ups p (k + 1) x = if p (root p k x) = root p k x then ups p k x else ups p k x ++ [root p k x]
  | 0, x => by
    by_cases h : p x = x
    · rw [ups_of h, if_pos (show p (root p 0 x) = root p 0 x from h)]; rfl
    · rw [ups_step h, if_neg (show ¬ p (root p 0 x) = root p 0 x from h)]; rfl
  | k + 1, x => by
    by_cases h : p x = x
    · rw [ups_of h, root_of h, if_pos h, ups_of h]
    · rw [ups_step h, root_step h, ups_succ p k (p x), ups_step h]
      split <;> rfl
end Ff

/-! Ways between forests: changed nodes, needed nodes. -/
namespace Ff
def chg (p q : Nat → Nat) (v : Nat) : Bool := decide (p v ≠ q v)
/-- finds lead from p to q -/
def Way (n : Nat) (p q : Nat → Nat) : Prop := ∀ v, v < n → chg p q v = true → ∀ u ∈ ups p n v, q u = root p n u
def needB (n : Nat) (p q : Nat → Nat) (v : Nat) : Bool := chg p q v && !(List.range n).any fun u => chg p q u && (decide (v ≠ u) && (ups p n u).contains v)
def needS (n : Nat) (p q : Nat → Nat) : List Nat := (List.range n).filter (needB n p q)
theorem chg_iff {p q : Nat → Nat} {v : Nat} : chg p q v = true ↔ p v ≠ q v := by unfold chg; exact decide_eq_true_iff
theorem needB_iff {n : Nat} {p q : Nat → Nat} {v : Nat} : needB n p q v = true ↔ p v ≠ q v ∧ ∀ u, u < n → p u ≠ q u → v ≠ u → v ∉ ups p n u := by
  unfold needB
  rw [Bool.and_eq_true, chg_iff, Bool.not_eq_true']
  refine and_congr_right fun _ => ?_
  rw [List.any_eq_false]
  constructor
  · intro h u hu hc hn hm
    refine h u (List.mem_range.mpr hu) ?_
    rw [Bool.and_eq_true, Bool.and_eq_true, chg_iff]
    exact ⟨hc, decide_eq_true hn, List.contains_iff_mem.mpr hm⟩
  · intro h u hu z
    rw [Bool.and_eq_true, Bool.and_eq_true, chg_iff] at z
    exact h u (List.mem_range.mp hu) z.1 (of_decide_eq_true z.2.1) (List.contains_iff_mem.mp z.2.2)
theorem needS_mem {n : Nat} {p q : Nat → Nat} {v : Nat} : v ∈ needS n p q ↔ v < n ∧ needB n p q v = true := by
  unfold needS; rw [List.mem_filter, List.mem_range]
theorem needS_nodup (n : Nat) (p q : Nat → Nat) : (needS n p q).Nodup := List.Nodup.sublist List.filter_sublist List.nodup_range
theorem needS_len (n : Nat) (p q : Nat → Nat) : (needS n p q).length ≤ n := Nat.le_trans (List.length_filter_le _ _) (by rw [List.length_range]; exact Nat.le_refl _)
section
variable {n : Nat} {p r : Nat → Nat}
theorem ups_trans (F : Fo n p r) {u v : Nat} : ∀ x, x < n → u ∈ ups p n x → v ∈ ups p n u → v ∈ ups p n x :=
  F.ind (C := fun x => u ∈ ups p n x → v ∈ ups p n u → v ∈ ups p n x) (fun x hx h a _ => by rw [ups_of h] at a; cases a) (fun x hx h ih a b => by
    rw [ups_n F hx h] at a
    rcases List.mem_cons.mp a with e | e
    · subst e; exact b
    · rw [ups_n F hx h]; exact List.mem_cons_of_mem _ (ih e b))
theorem ups_rank (F : Fo n p r) {v x : Nat} (hx : x < n) (h : v ∈ ups p n x) (ne : v ≠ x) : r v < r x := by
  by_cases e : p x = x
  · rw [ups_of e] at h; cases h
  · rw [ups_n F hx e] at h
    rcases List.mem_cons.mp h with z | z
    · exact absurd z ne
    · have := (ups_lt F (p x) (F.lt x hx) v z).2.2.2
      have := (F.up x hx).resolve_left e
      omega
theorem mark_iff {l : List Nat} {v : Nat} : markB n p l v = true ↔ ∃ x ∈ l, v ∈ ups p n x := by
  unfold markB
  rw [List.any_eq_true]
  exact ⟨fun ⟨x, a, b⟩ => ⟨x, a, upB_iff.mp b⟩, fun ⟨x, a, b⟩ => ⟨x, a, upB_iff.mpr b⟩⟩
theorem mark_closed (F : Fo n p r) {l : List Nat} (h : ∀ x ∈ l, x < n) : Closed n p (markB n p l) := fun v hv hm => by
  obtain ⟨x, hx, m⟩ := mark_iff.mp hm
  refine ⟨(ups_lt F x (h x hx) v m).2.1, ?_⟩
  rcases ups_above F x (h x hx) v m with y | y
  · exact .inl y
  · exact .inr (mark_iff.mpr ⟨x, hx, y⟩)
/-- behind finds: what is changed was marked -/
theorem behind_chg (F : Fo n p r) {l : List Nat} (h : ∀ x ∈ l, x < n) {v : Nat} (hv : v < n) (hc : p v ≠ fndAll n l p v) : markB n p l v = true ∧ fndAll n l p v = root p n v ∧ p v ≠ root p n v := by
  have e := behind_eq F l h v hv
  by_cases m : markB n p l v = true
  · rw [if_pos m] at e
    exact ⟨m, e, by rw [← e]; exact hc⟩
  · rw [if_neg m] at e
    exact absurd e.symm hc
theorem way_behind (F : Fo n p r) {l : List Nat} (h : ∀ x ∈ l, x < n) : Way n p (fndAll n l p) := fun v hv hc u hu => by
  have m := (behind_chg F h hv (chg_iff.mp hc)).1
  have hun := (ups_lt F v hv u hu).1
  obtain ⟨x, hx, mx⟩ := mark_iff.mp m
  rw [behind_eq F l h u hun, if_pos (mark_iff.mpr ⟨x, hx, ups_trans F x (h x hx) mx hu⟩)]
/-- whoever is above another one is no child of the root's -/
theorem above_deep (F : Fo n p r) {x v : Nat} (hx : x < n) (h : v ∈ ups p n x) (ne : v ≠ x) : p x ≠ root p n x := by
  have hr : p x ≠ x := fun e => by rw [ups_of e] at h; cases h
  rw [ups_n F hx hr] at h
  rcases List.mem_cons.mp h with z | z
  · exact absurd z ne
  · intro e
    have f := root_fix F x hx
    rw [← e] at f
    rw [ups_of f] at z
    cases z
theorem need_found (F : Fo n p r) {l : List Nat} (h : ∀ x ∈ l, x < n) {v : Nat} (hv : v < n) (hn : needB n p (fndAll n l p) v = true) : v ∈ l := by
  obtain ⟨hc, ho⟩ := needB_iff.mp hn
  obtain ⟨m, _, _⟩ := behind_chg F h hv hc
  obtain ⟨x, hx, mx⟩ := mark_iff.mp m
  by_cases e : v = x
  · rw [e]; exact hx
  · have hxn := h x hx
    have hr : p x ≠ x := fun z => by rw [ups_of z] at mx; cases mx
    have bx : fndAll n l p x = root p n x := by rw [behind_eq F l h x hxn, if_pos (mark_iff.mpr ⟨x, hx, self_ups F hxn hr⟩)]
    exact absurd mx (ho x hxn (by rw [bx]; exact above_deep F hxn mx e) e)
/-- above a needed one, or needed -/
theorem need_below (F : Fo n p r) {q : Nat → Nat} (hq : ∀ v, v < n → p v = v → q v = v) : ∀ k v, n - r v ≤ k → v < n → p v ≠ q v → ∃ u, u < n ∧ needB n p q u = true ∧ v ∈ ups p n u := by
  intro k
  induction k with
  | zero => intro v hk hv _; have := F.rb v hv; omega
  | succ k ih =>
    intro v hk hv hc
    have nr : p v ≠ v := fun e => hc (by rw [hq v hv e]; exact e)
    cases hb : needB n p q v with
    | true => exact ⟨v, hv, hb, self_ups F hv nr⟩
    | false =>
      have z : ¬ (p v ≠ q v ∧ ∀ u, u < n → p u ≠ q u → v ≠ u → v ∉ ups p n u) := fun y => by rw [needB_iff.mpr y] at hb; cases hb
      have : ∃ u, u < n ∧ p u ≠ q u ∧ v ≠ u ∧ v ∈ ups p n u := by
        refine Classical.byContradiction fun y => z ⟨hc, fun u a b c d => y ⟨u, a, b, c, d⟩⟩
      obtain ⟨u, hu, cu, ne, mu⟩ := this
      have rk := ups_rank F hu mu ne
      obtain ⟨w, hw, nw, mw⟩ := ih u (by have := F.rb u hu; omega) hu cu
      exact ⟨w, hw, nw, ups_trans F w hw mw mu⟩
/-- a way: finds of the needed ones lead there -/
theorem need_leads (F : Fo n p r) {q : Nat → Nat} (hq : ∀ v, v < n → p v = v → q v = v) (W : Way n p q) (v : Nat) (hv : v < n) : fndAll n (needS n p q) p v = q v := by
  have hl : ∀ x ∈ needS n p q, x < n := fun x hx => (needS_mem.mp hx).1
  rw [behind_eq F _ hl v hv]
  by_cases m : markB n p (needS n p q) v = true
  · rw [if_pos m]
    obtain ⟨x, hx, mx⟩ := mark_iff.mp m
    have hb := needS_mem.mp hx
    exact (W x hb.1 (chg_iff.mpr (needB_iff.mp hb.2).1) v mx).symm
  · rw [if_neg m]
    refine Classical.byContradiction fun hc => ?_
    obtain ⟨u, hu, nu, mu⟩ := need_below F hq n v (by omega) hv hc
    exact m (mark_iff.mpr ⟨u, needS_mem.mpr ⟨hu, nu⟩, mu⟩)
theorem behind_root (F : Fo n p r) {l : List Nat} (h : ∀ x ∈ l, x < n) (v : Nat) (hv : v < n) (e : p v = v) : fndAll n l p v = v := by
  rw [behind_eq F l h v hv]
  split
  · exact root_of e n
  · exact e
theorem filter_single {f : Nat → Bool} {m : Nat} (hm : m < n) (h : ∀ v, v < n → (f v = true ↔ v = m)) : (List.range n).filter f = [m] := by
  have e : (List.range n).filter f = (List.range n).filter (fun v => v == m) := by
    refine List.filter_congr fun v hv => ?_
    have := h v (List.mem_range.mp hv)
    by_cases z : v = m
    · rw [this.mpr z, z]; simp
    · have y : f v = false := by
        cases hf : f v with
        | false => rfl
        | true => exact absurd (this.mp hf) z
      rw [y]; simp [z]
  rw [e]
  have c : (List.range n).filter (fun v => v == m) = List.replicate ((List.range n).count m) m := List.filter_beq _
  rw [c, (List.nodup_range (n := n)).count, if_pos (List.mem_range.mpr hm)]
  rfl
/-- all but one of the needed ones do not suffice -/
theorem rest_needs (F : Fo n p r) {q : Nat → Nat} (hq : ∀ v, v < n → p v = v → q v = v) (W : Way n p q) {rest : List Nat} {m : Nat} (hmn : m < n) (hm : needB n p q m = true)
    (hr : ∀ x ∈ rest, x ∈ needS n p q ∧ x ≠ m) (hall : ∀ x ∈ needS n p q, x = m ∨ x ∈ rest) :
    fndAll n rest p m ≠ q m ∧ Way n (fndAll n rest p) q ∧ needS n (fndAll n rest p) q = [m] := by
  have hl : ∀ x ∈ rest, x < n := fun x hx => (needS_mem.mp (hr x hx).1).1
  obtain ⟨cm, om⟩ := needB_iff.mp hm
  have C := mark_closed F hl
  have hS : ∀ v, v < n → fndAll n rest p v = after n p (markB n p rest) v := fun v hv => by rw [behind_eq F rest hl v hv]; rfl
  have G := after_fo F C
  have hm0 : markB n p rest m ≠ true := fun z => by
    obtain ⟨x, hx, mx⟩ := mark_iff.mp z
    have hb := needS_mem.mp (hr x hx).1
    exact om x hb.1 (needB_iff.mp hb.2).1 (fun e => (hr x hx).2 e.symm) mx
  have rm : fndAll n rest p m = p m := by rw [behind_eq F rest hl m hmn, if_neg hm0]
  have mchg : fndAll n rest p m ≠ q m := by rw [rm]; exact cm
  have uc : ∀ x, x < n → ups (fndAll n rest p) n x = ups (after n p (markB n p rest)) n x := fun x hx => ups_congr G.lt hS n x hx
  have rc : ∀ x, x < n → root (fndAll n rest p) n x = root p n x := fun x hx => (root_congr G.lt hS n x hx).trans (after_same_root F C x hx)
  -- what is still changed
  have still : ∀ v, v < n → fndAll n rest p v ≠ q v → markB n p rest v ≠ true ∧ p v ≠ q v ∧ v ∈ ups p n m := fun v hv hc => by
    have e := behind_eq F rest hl v hv
    by_cases mv : markB n p rest v = true
    · rw [if_pos mv] at e
      obtain ⟨x, hx, mx⟩ := mark_iff.mp mv
      have hb := needS_mem.mp (hr x hx).1
      exact absurd (e.trans (W x hb.1 (chg_iff.mpr (needB_iff.mp hb.2).1) v mx).symm) hc
    · rw [if_neg mv] at e
      have pc : p v ≠ q v := by rw [← e]; exact hc
      obtain ⟨u, hu, nu, mu⟩ := need_below F hq n v (by omega) hv pc
      rcases hall u (needS_mem.mpr ⟨hu, nu⟩) with z | z
      · exact ⟨mv, pc, z ▸ mu⟩
      · exact absurd (mark_iff.mpr ⟨u, z, mu⟩) mv
  refine ⟨mchg, fun v hv hc u hu => ?_, filter_single hmn fun v hv => ?_⟩
  · obtain ⟨_, pc, _⟩ := still v hv (chg_iff.mp hc)
    rw [uc v hv] at hu
    have hu' := (after_ups F C v hv).1 u hu
    rw [rc u (ups_lt F v hv u hu').1]
    exact W v hv (chg_iff.mpr pc) u hu'
  · rw [needB_iff]
    constructor
    · rintro ⟨hc, ho⟩
      refine Classical.byContradiction fun ne => ?_
      obtain ⟨mv, _, vm⟩ := still v hv hc
      refine ho m hmn mchg ne ?_
      rw [uc m hmn]
      exact ((after_ups F C m hmn).2 v vm).resolve_left mv
    · rintro rfl
      refine ⟨mchg, fun u hu hc ne hm2 => ?_⟩
      obtain ⟨_, _, um⟩ := still u hu hc
      rw [uc u hu] at hm2
      have a := ups_rank F hu ((after_ups F C u hu).1 v hm2) ne
      have b := ups_rank F hmn um (fun e => ne e.symm)
      omega
end
end Ff
namespace Ff
section
variable {n : Nat} {p r : Nat → Nat}
theorem fndAll_append (n : Nat) : ∀ (l m : List Nat) (p : Nat → Nat), fndAll n (l ++ m) p = fndAll n m (fndAll n l p)
  | [], _, _ => rfl
  | x :: l, m, p => fndAll_append n l m (fnd n p x)
theorem behind_same_root (F : Fo n p r) {l : List Nat} (h : ∀ x ∈ l, x < n) (v : Nat) (hv : v < n) : root (fndAll n l p) n v = root p n v := by
  have C := mark_closed F h
  have hS : ∀ v, v < n → fndAll n l p v = after n p (markB n p l) v := fun v hv => by rw [behind_eq F l h v hv]; rfl
  exact (root_congr (after_fo F C).lt hS n v hv).trans (after_same_root F C v hv)
theorem behind_ups (F : Fo n p r) {l : List Nat} (h : ∀ x ∈ l, x < n) {x v : Nat} (hx : x < n) (hv : v ∈ ups (fndAll n l p) n x) : v ∈ ups p n x := by
  have C := mark_closed F h
  have hS : ∀ v, v < n → fndAll n l p v = after n p (markB n p l) v := fun v hv => by rw [behind_eq F l h v hv]; rfl
  rw [ups_congr (after_fo F C).lt hS n x hx] at hv
  exact (after_ups F C x hx).1 v hv
/-- a node keeps its parent or hangs on its root -/
theorem behind_or (F : Fo n p r) {l : List Nat} (h : ∀ x ∈ l, x < n) (v : Nat) (hv : v < n) : fndAll n l p v = p v ∨ fndAll n l p v = root p n v := by
  rw [behind_eq F l h v hv]
  split
  · exact .inr rfl
  · exact .inl rfl
/-- what is needed over two ways is needed over one of them -/
theorem need_two (F : Fo n p r) {l m : List Nat} (hl : ∀ x ∈ l, x < n) (hm : ∀ x ∈ m, x < n) {v : Nat} (hv : v < n) (hn : needB n p (fndAll n m (fndAll n l p)) v = true) :
    needB n p (fndAll n l p) v = true ∨ needB n (fndAll n l p) (fndAll n m (fndAll n l p)) v = true := by
  have G : Fo n (fndAll n l p) r := fndAll_fo F l hl p F
  obtain ⟨hc, ho⟩ := needB_iff.mp hn
  -- once on the root, always on the root
  have stay : ∀ u, u < n → fndAll n l p u = root p n u → fndAll n m (fndAll n l p) u = root p n u := fun u hu e => by
    rcases behind_or G hm u hu with z | z
    · rw [z, e]
    · rw [z, behind_same_root F hl u hu]
  by_cases h1 : p v = fndAll n l p v
  · refine .inr (needB_iff.mpr ⟨by rw [← h1]; exact hc, fun u hu hcu ne hmu => ?_⟩)
    refine ho u hu ?_ ne (behind_ups F hl hu hmu)
    rcases behind_or F hl u hu with z | z
    · rw [← z]; exact hcu
    · exact absurd (z.trans (stay u hu z).symm) hcu
  · refine .inl (needB_iff.mpr ⟨h1, fun u hu hcu ne hmu => ?_⟩)
    refine ho u hu ?_ ne hmu
    have z := (behind_or F hl u hu).resolve_left (fun e => hcu e.symm)
    rw [stay u hu z, ← z]; exact hcu
theorem flat_fo (F : Fo n p r) : Fo n (fun v => root p n v) r where
  lt := root_lt F
  up := root_rank F
  rb := F.rb
theorem flat_way (F : Fo n p r) : Way n p (fun v => root p n v) := fun _ _ _ _ _ => rfl
theorem flat_roots (F : Fo n p r) (v : Nat) (hv : v < n) : p v = v ↔ root p n v = v :=
  ⟨fun e => root_of e n, fun e => Classical.byContradiction fun z => root_ne F hv z e⟩
theorem flat_ups (F : Fo n p r) (v : Nat) (hv : v < n) : (ups (fun v => root p n v) n v).length ≤ 1 := by
  by_cases e : root p n v = v
  · rw [ups_of (p := fun v => root p n v) e]; exact Nat.zero_le _
  · rw [ups_n (flat_fo F) hv e]
    have f : root p n (root p n v) = root p n v := root_of (root_fix F v hv) n
    rw [ups_of (p := fun v => root p n v) f]
    exact Nat.le_refl _
theorem deep_chg (F : Fo n p r) (v : Nat) (hv : v < n) : decide (2 ≤ (ups p n v).length) = chg p (fun v => root p n v) v := by
  unfold chg
  refine decide_eq_decide.mpr ?_
  show 2 ≤ (ups p n v).length ↔ p v ≠ root p n v
  by_cases e : p v = v
  · rw [ups_of e, root_of e]; simp [e]
  · rw [ups_n F hv e, root_n F hv e, List.length_cons]
    constructor
    · intro h z
      rw [ups_of (by rw [z]; exact root_fix F (p v) (F.lt v hv))] at h
      simp at h
    · intro h
      have e2 : p (p v) ≠ p v := fun z => h (root_of z n).symm
      rw [ups_n F (F.lt v hv) e2, List.length_cons]; omega
/-- no way back -/
theorem no_way_back (F : Fo n p r) {l : List Nat} (hl : ∀ x ∈ l, x < n) : Way n (fndAll n l p) p ↔ ∀ v, v < n → p v = fndAll n l p v := by
  have G : Fo n (fndAll n l p) r := fndAll_fo F l hl p F
  constructor
  · intro W v hv
    refine Classical.byContradiction fun hc => ?_
    have z := (behind_or F hl v hv).resolve_left (fun e => hc e.symm)
    have nr : fndAll n l p v ≠ v := by
      intro e
      rw [z] at e
      have pr : p v = v := by
        have y := root_fix F v hv
        rw [e] at y; exact y
      exact hc (by rw [z, e, pr])
    have := W v hv (chg_iff.mpr fun e => hc e.symm) v (self_ups G hv nr)
    rw [behind_same_root F hl v hv, ← z] at this
    exact hc this
  · intro h v hv hc
    exact absurd (h v hv).symm (chg_iff.mp hc)
end
end Ff

/-! Forests by any falling measure; a parent exchanged. -/
namespace Ff
section
variable {n : Nat} {p ρ : Nat → Nat}
theorem bounded (ρ : Nat → Nat) : ∀ n, ∃ M, ∀ v, v < n → ρ v ≤ M
  | 0 => ⟨0, fun v h => by omega⟩
  | n + 1 => by
    obtain ⟨M, h⟩ := bounded ρ n
    refine ⟨M + ρ n, fun v hv => ?_⟩
    by_cases e : v = n
    · rw [e]; omega
    · have := h v (by omega); omega
theorem upsW (hl : ∀ x, x < n → p x < n) (hu : ∀ x, x < n → p x = x ∨ ρ (p x) < ρ x) : ∀ (k x : Nat), x < n → ρ x ≤ k → ups p (k + 1) x = ups p k x
  | k, x, hx, hr => by
    by_cases h : p x = x
    · rw [ups_of h, ups_of h]
    · have u := (hu x hx).resolve_left h
      cases k with
      | zero => omega
      | succ k => rw [ups_step h, ups_step h]; rw [upsW hl hu k (p x) (hl x hx) (by omega)]
theorem ups_memW (hl : ∀ x, x < n → p x < n) (hu : ∀ x, x < n → p x = x ∨ ρ (p x) < ρ x) : ∀ (k x : Nat), x < n → ∀ v ∈ ups p k x, v < n ∧ p v ≠ v ∧ ρ v ≤ ρ x
  | 0, x, hx, v, hv => by cases hv
  | k + 1, x, hx, v, hv => by
    by_cases h : p x = x
    · rw [ups_of h] at hv; cases hv
    · have u := (hu x hx).resolve_left h
      rw [ups_step h] at hv
      rcases List.mem_cons.mp hv with e | e
      · subst e; exact ⟨hx, h, Nat.le_refl _⟩
      · have z := ups_memW hl hu k (p x) (hl x hx) v e
        exact ⟨z.1, z.2.1, by omega⟩
theorem ups_nodupW (hl : ∀ x, x < n → p x < n) (hu : ∀ x, x < n → p x = x ∨ ρ (p x) < ρ x) : ∀ (k x : Nat), x < n → (ups p k x).Nodup
  | 0, x, hx => List.nodup_nil
  | k + 1, x, hx => by
    by_cases h : p x = x
    · rw [ups_of h]; exact List.nodup_nil
    · have u := (hu x hx).resolve_left h
      rw [ups_step h]
      refine List.nodup_cons.mpr ⟨fun hm => ?_, ups_nodupW hl hu k (p x) (hl x hx)⟩
      have := (ups_memW hl hu k (p x) (hl x hx) x hm).2.2
      omega
theorem nodup_len {l : List Nat} (nd : l.Nodup) (h : ∀ v ∈ l, v < n) {w : Nat} (hw : w < n) (ho : w ∉ l) : l.length < n := by
  have P : (w :: l).Perm ((List.range n).filter fun v => (w :: l).contains v) := by
    refine (List.perm_ext_iff_of_nodup (List.nodup_cons.mpr ⟨ho, nd⟩) (List.Nodup.sublist List.filter_sublist List.nodup_range)).mpr fun v => ?_
    rw [List.mem_filter, List.mem_range, List.contains_iff_mem]
    refine ⟨fun z => ⟨?_, z⟩, fun z => z.2⟩
    rcases List.mem_cons.mp z with y | y
    · rw [y]; exact hw
    · exact h v y
  have e := P.length_eq
  rw [List.length_cons] at e
  have := List.length_filter_le (fun v => (w :: l).contains v) (List.range n)
  rw [List.length_range] at this
  omega
/-- any falling measure makes a forest -/
theorem fo_of_weak (hl : ∀ x, x < n → p x < n) (hu : ∀ x, x < n → p x = x ∨ ρ (p x) < ρ x) : ∃ r, Fo n p r := by
  obtain ⟨M, hM⟩ := bounded ρ n
  have st : ∀ x, x < n → p x ≠ x → ups p M x = x :: ups p M (p x) := fun x hx h => by
    rw [← upsW hl hu M x hx (hM x hx), ups_step h]
  refine ⟨fun v => (ups p M v).length, hl, fun x hx => ?_, fun x hx => ?_⟩
  · by_cases h : p x = x
    · exact .inl h
    · refine .inr ?_
      show (ups p M (p x)).length < (ups p M x).length
      rw [st x hx h, List.length_cons]; omega
  · -- some root is not on the way
    have : ∀ k x, x < n → ρ x ≤ k → p (root p k x) = root p k x ∧ root p k x < n := by
      intro k
      induction k with
      | zero =>
        intro x hx hr
        rcases hu x hx with z | z
        · exact ⟨z, hx⟩
        · omega
      | succ k ih =>
        intro x hx hr
        by_cases h : p x = x
        · rw [root_of h]; exact ⟨h, hx⟩
        · rw [root_step h]
          exact ih (p x) (hl x hx) (by have := (hu x hx).resolve_left h; omega)
    obtain ⟨h1, h2⟩ := this M x hx (hM x hx)
    exact nodup_len (ups_nodupW hl hu M x hx) (fun v hv => (ups_memW hl hu M x hx v hv).1) h2 (fun hm => (ups_memW hl hu M x hx _ hm).2.1 h1)
end
/-- a node hung on one that is not below it -/
theorem exchange_fo {n : Nat} {p r : Nat → Nat} (F : Fo n p r) {a b : Nat} (ha : a < n) (hb : b < n) (hr : p a ≠ a) (hn : a ∉ path p n b) : ∃ r', Fo n (fun v => if v = a then b else p v) r' := by
  -- below a, and a itself, go beyond b
  let low : Nat → Bool := fun v => decide (a ∈ path p n v)
  have lowa : low a = true := decide_eq_true (by unfold path; exact List.mem_append_left _ (self_ups F ha hr))
  have lowb : low b = false := decide_eq_false hn
  have pathn : ∀ v, v < n → p v ≠ v → path p n v = v :: path p n (p v) := fun v hv h => by
    unfold path; rw [ups_n F hv h, root_n F hv h]; rfl
  have step : ∀ v, v < n → v ≠ a → p v ≠ v → low (p v) = low v := fun v hv ne h => by
    show decide (a ∈ path p n (p v)) = decide (a ∈ path p n v)
    rw [pathn v hv h]
    refine decide_eq_decide.mpr ⟨fun z => List.mem_cons_of_mem _ z, fun z => ?_⟩
    rcases List.mem_cons.mp z with y | y
    · exact absurd y.symm ne
    · exact y
  refine fo_of_weak (ρ := fun v => if low v = true then r v + n else r v) (fun x hx => ?_) (fun x hx => ?_)
  · show (if x = a then b else p x) < n
    split
    · exact hb
    · exact F.lt x hx
  · by_cases e : x = a
    · subst e
      refine .inr ?_
      show (if low (if x = x then b else p x) = true then r (if x = x then b else p x) + n else r (if x = x then b else p x)) < (if low x = true then r x + n else r x)
      rw [if_pos rfl, lowb, lowa, if_pos rfl, if_neg (by decide)]
      have := F.rb b hb
      omega
    · show (if x = a then b else p x) = x ∨ (if low (if x = a then b else p x) = true then r (if x = a then b else p x) + n else r (if x = a then b else p x)) < (if low x = true then r x + n else r x)
      rw [if_neg e]
      by_cases h : p x = x
      · exact .inl h
      · have u := (F.up x hx).resolve_left h
        refine .inr ?_
        rw [step x hx e h]
        cases low x <;> simp <;> omega
theorem exchange_root {n : Nat} {p : Nat → Nat} {a b : Nat} (hr : p a ≠ a) (ne : b ≠ a) (v : Nat) : (if v = a then b else p v) = v ↔ p v = v := by
  by_cases e : v = a
  · subst e
    rw [if_pos rfl]
    exact ⟨fun z => absurd z ne, fun z => absurd z hr⟩
  · rw [if_neg e]
end Ff

/-! Falling products and choices. -/
namespace Ff
def fallN (s : Int) : Nat → Int
  | 0 => 1
  | k + 1 => fallN s k * (if s - (k : Int) > 0 then s - (k : Int) else 0)
def fall (s c : Int) : Int := if c < 0 then 0 else fallN s c.toNat
def binom (s c : Int) : Int := if c < 0 then 0 else fall s c / fall c c
def choose : Nat → Nat → Nat
  | _, 0 => 1
  | 0, _ + 1 => 0
  | n + 1, k + 1 => choose n k + choose n (k + 1)
def fact : Nat → Nat
  | 0 => 1
  | k + 1 => (k + 1) * fact k
theorem fact_pos : ∀ k, 0 < fact k
  | 0 => Nat.one_pos
  | k + 1 => Nat.mul_pos (Nat.succ_pos k) (fact_pos k)
theorem choose_zero (n : Nat) : choose n 0 = 1 := by cases n <;> rfl
/-- (n + 1 choose k + 1) (k + 1) = (n + 1) (n choose k) -/
theorem choose_succ : ∀ n k, choose (n + 1) (k + 1) * (k + 1) = (n + 1) * choose n k
  | 0, 0 => rfl
  | 0, k + 1 => by show (0 + 0) * (k + 1 + 1) = (0 + 1) * 0; simp
  | n + 1, 0 => by
    have h := choose_succ n 0
    rw [choose_zero] at h
    rw [choose_zero]
    show (choose (n + 1) 0 + choose (n + 1) (0 + 1)) * (0 + 1) = (n + 1 + 1) * 1
    rw [choose_zero]
    omega
  | n + 1, k + 1 => by
    have h1 := choose_succ n k
    have h2 := choose_succ n (k + 1)
    show (choose (n + 1) (k + 1) + choose (n + 1) (k + 1 + 1)) * (k + 1 + 1) = (n + 1 + 1) * choose (n + 1) (k + 1)
    have e : choose (n + 1) (k + 1) = choose n k + choose n (k + 1) := rfl
    have e1 : choose (n + 1) (k + 1) * (k + 1 + 1) = (n + 1) * choose n k + choose (n + 1) (k + 1) := by rw [Nat.mul_add, Nat.mul_one, h1]
    have e2 : (n + 1 + 1) * choose (n + 1) (k + 1) = ((n + 1) * choose n k + (n + 1) * choose n (k + 1)) + choose (n + 1) (k + 1) := by rw [Nat.add_mul, Nat.one_mul, e, Nat.mul_add]
    rw [Nat.add_mul, h2, e1, e2]
    generalize (n + 1) * choose n k = x
    generalize (n + 1) * choose n (k + 1) = y
    omega
theorem fall_rec (n : Nat) : ∀ k : Nat, fallN ((n + 1 : Nat) : Int) (k + 1) = ((n + 1 : Nat) : Int) * fallN (n : Int) k
  | 0 => by
    show 1 * (if ((n + 1 : Nat) : Int) - ((0 : Nat) : Int) > 0 then ((n + 1 : Nat) : Int) - ((0 : Nat) : Int) else 0) = ((n + 1 : Nat) : Int) * 1
    rw [if_pos (by omega)]; omega
  | k + 1 => by
    show fallN ((n + 1 : Nat) : Int) (k + 1) * (if ((n + 1 : Nat) : Int) - ((k + 1 : Nat) : Int) > 0 then ((n + 1 : Nat) : Int) - ((k + 1 : Nat) : Int) else 0) = ((n + 1 : Nat) : Int) * (fallN (n : Int) k * (if (n : Int) - (k : Int) > 0 then (n : Int) - (k : Int) else 0))
    rw [fall_rec n k, Int.mul_assoc]
    congr 2
    rw [show ((n + 1 : Nat) : Int) - ((k + 1 : Nat) : Int) = (n : Int) - (k : Int) by omega]
theorem fall_choose : ∀ k n : Nat, fallN (n : Int) k = ((choose n k * fact k : Nat) : Int)
  | 0, n => by show (1 : Int) = ((choose n 0 * fact 0 : Nat) : Int); cases n <;> rfl
  | k + 1, 0 => by
    show fallN 0 k * (if ((0 : Nat) : Int) - (k : Int) > 0 then ((0 : Nat) : Int) - (k : Int) else 0) = ((0 * fact (k + 1) : Nat) : Int)
    rw [if_neg (by omega), Int.mul_zero, Nat.zero_mul]; rfl
  | k + 1, n + 1 => by
    rw [fall_rec, fall_choose k n]
    have h := choose_succ n k
    show ((n + 1 : Nat) : Int) * ((choose n k * fact k : Nat) : Int) = ((choose (n + 1) (k + 1) * ((k + 1) * fact k) : Nat) : Int)
    rw [← Int.natCast_mul, ← Nat.mul_assoc, ← Nat.mul_assoc, h]
theorem choose_self : ∀ n, choose n n = 1 ∧ ∀ k, n < k → choose n k = 0
  | 0 => ⟨rfl, fun k h => by cases k with | zero => omega | succ k => rfl⟩
  | n + 1 => by
    have ih := choose_self n
    refine ⟨?_, fun k h => ?_⟩
    · show choose n n + choose n (n + 1) = 1
      rw [ih.1, ih.2 (n + 1) (by omega)]
    · cases k with
      | zero => omega
      | succ k => show choose n k + choose n (k + 1) = 0; rw [ih.2 k (by omega), ih.2 (k + 1) (by omega)]
theorem binom_nat (n k : Nat) : binom (n : Int) (k : Int) = (choose n k : Int) := by
  unfold binom fall
  rw [if_neg (by omega), if_neg (by omega), if_neg (by omega), Int.toNat_natCast, fall_choose, fall_choose, (choose_self k).1, Nat.one_mul, Int.natCast_mul]
  exact Int.mul_ediv_cancel _ (by have := fact_pos k; omega)
/-- sums of neighbours -/
theorem pascal (s c : Int) (h : 0 < s) : binom s c = binom (s - 1) (c - 1) + binom (s - 1) c := by
  obtain ⟨n, rfl⟩ : ∃ n : Nat, s = ((n + 1 : Nat) : Int) := ⟨(s - 1).toNat, by omega⟩
  rw [show ((n + 1 : Nat) : Int) - 1 = (n : Int) by omega]
  by_cases hc : c < 0
  · unfold binom
    rw [if_pos hc, if_pos (by omega), if_pos hc]; rfl
  · by_cases h0 : c = 0
    · subst h0
      have e1 := binom_nat (n + 1) 0
      have e2 := binom_nat n 0
      have e3 : binom (n : Int) (0 - 1) = 0 := by unfold binom; rw [if_pos (by omega)]
      rw [e3]
      rw [choose_zero] at e1 e2
      show binom ((n + 1 : Nat) : Int) ((0 : Nat) : Int) = 0 + binom (n : Int) ((0 : Nat) : Int)
      rw [e1, e2]; rfl
    · obtain ⟨k, rfl⟩ : ∃ k : Nat, c = ((k + 1 : Nat) : Int) := ⟨(c - 1).toNat, by omega⟩
      rw [show ((k + 1 : Nat) : Int) - 1 = (k : Int) by omega, binom_nat, binom_nat, binom_nat]
      show ((choose n k + choose n (k + 1) : Nat) : Int) = _
      omega
end Ff

namespace Ff
theorem nodup_le : ∀ (m : Nat) (l : List Nat), l.Nodup → (∀ x ∈ l, x < m) → l.length ≤ m
  | 0, l, _, h => by
    cases l with
    | nil => exact Nat.le_refl _
    | cons a r => exact absurd (h a List.mem_cons_self) (by omega)
  | m + 1, l, hn, h => by
    have ih := nodup_le m (l.erase m) (hn.erase m) fun x hx => by
      have z := (hn.mem_erase_iff (a := x) (b := m)).mp hx
      have := h x z.2
      omega
    have e := List.length_erase (a := m) (l := l)
    split at e <;> omega
/-- the root c hung on a -/
def lnk (p : Nat → Nat) (c a : Nat) : Nat → Nat := fun v => if v = c then a else p v
section
variable {n : Nat} {p r : Nat → Nat}
def lnkR (n : Nat) (p : Nat → Nat) (c : Nat) : Nat → Nat := fun x => (ups p n x).length + if root p n x = c then 1 else 0
theorem lnk_fo (F : Fo n p r) {c a : Nat} (hc : c < n) (ha : a < n) (pc : p c = c) (pa : p a = a) (ne : c ≠ a) : Fo n (lnk p c a) (lnkR n p c) where
  lt := fun x hx => by
    unfold lnk
    split
    · exact ha
    · exact F.lt x hx
  up := fun x hx => by
    unfold lnk
    by_cases e : x = c
    · rw [if_pos e]
      right
      unfold lnkR
      rw [e, ups_of pa, ups_of pc, root_of pa, root_of pc, if_neg (Ne.symm ne), if_pos rfl]
      decide
    · rw [if_neg e]
      by_cases h : p x = x
      · exact .inl h
      · right
        unfold lnkR
        rw [ups_n F hx h, root_n F hx h, List.length_cons]
        omega
  rb := fun x hx => by
    unfold lnkR
    have h1 := ups_lt F x hx
    have h2 := ups_nodup F x hx
    by_cases e : root p n x = c
    · rw [if_pos e]
      have h := nodup_le n (ups p n x ++ [c, a]) (by
        refine List.nodup_append.mpr ⟨h2, by simp [ne], fun y hy z hz e2 => ?_⟩
        have := (h1 y hy).2.1
        rw [e2] at this
        rcases List.mem_cons.mp hz with z1 | z1
        · rw [z1] at this; exact this pc
        · rw [List.mem_singleton.mp z1] at this; exact this pa) fun y hy => by
        rcases List.mem_append.mp hy with z | z
        · exact (h1 y z).1
        · rcases List.mem_cons.mp z with z1 | z1
          · rw [z1]; exact hc
          · rw [List.mem_singleton.mp z1]; exact ha
      rw [List.length_append] at h
      simp at h
      omega
    · rw [if_neg e]
      have := ups_len F x hx
      have := F.rb x hx
      omega
theorem lnk_root (F : Fo n p r) {c a : Nat} (hc : c < n) (ha : a < n) (pc : p c = c) (pa : p a = a) (ne : c ≠ a) : ∀ x, x < n → root (lnk p c a) n x = if root p n x = c then a else root p n x := by
  have F2 := lnk_fo F hc ha pc pa ne
  have qa : lnk p c a a = a := by unfold lnk; rw [if_neg (Ne.symm ne)]; exact pa
  refine F.ind (fun x hx h => ?_) (fun x hx h ih => ?_)
  · rw [root_of h]
    by_cases e : x = c
    · have qx : lnk p c a x = a := by unfold lnk; rw [if_pos e]
      rw [if_pos e, root_n F2 hx (by rw [qx, e]; exact Ne.symm ne), qx, root_of qa]
    · rw [if_neg e]
      exact root_of (by unfold lnk; rw [if_neg e]; exact h) n
  · have e : x ≠ c := fun z => h (by rw [z]; exact pc)
    have qx : lnk p c a x = p x := by unfold lnk; rw [if_neg e]
    rw [root_n F2 hx (by rw [qx]; exact h), qx, ih, root_n F hx h]
end
/-- which error a root asks for -/
def chkE (n : Nat) (p : Nat → Nat) (x : Int) : Option Bool := if 0 ≤ x ∧ x < (n : Int) then (if p x.toNat = x.toNat then none else some true) else some false
end Ff

namespace Ff
/-- the roots in their order, the first k of them linked -/
structure Chain (n : Nat) (p r : Nat → Nat) (os : List Nat) (k : Nat) : Prop where
  fo : Fo n p r
  fix : ∀ y ∈ os.drop k, y < n ∧ p y = y
  all : ∀ x, x < n → root p n x ∈ os.drop k
theorem Chain.step {n : Nat} {p r : Nat → Nat} {os : List Nat} {k : Nat} (C : Chain n p r os k) (nd : os.Nodup) (h : k + 1 < os.length) : ∃ r', Chain n (lnk p os[k] os[k + 1]) r' os (k + 1) ∧ os[k] < n ∧ os[k + 1] < n ∧ p os[k] = os[k] ∧ p os[k + 1] = os[k + 1] ∧ os[k] ≠ os[k + 1] := by
  have d1 : os.drop k = os[k] :: os.drop (k + 1) := List.drop_eq_getElem_cons (by omega)
  have d2 : os.drop (k + 1) = os[k + 1] :: os.drop (k + 2) := List.drop_eq_getElem_cons h
  have nk : (os.drop k).Nodup := nd.sublist (List.drop_sublist _ _)
  rw [d1] at nk
  have nmem : os[k] ∉ os.drop (k + 1) := (List.nodup_cons.mp nk).1
  have ma : os[k + 1] ∈ os.drop (k + 1) := by rw [d2]; exact List.mem_cons_self
  have hc := C.fix os[k] (by rw [d1]; exact List.mem_cons_self)
  have ha := C.fix os[k + 1] (by rw [d1]; exact List.mem_cons_of_mem _ ma)
  have ne : os[k] ≠ os[k + 1] := fun e => nmem (by rw [e]; exact ma)
  refine ⟨_, ⟨lnk_fo C.fo hc.1 ha.1 hc.2 ha.2 ne, fun y hy => ?_, fun x hx => ?_⟩, hc.1, ha.1, hc.2, ha.2, ne⟩
  · have := C.fix y (by rw [d1]; exact List.mem_cons_of_mem _ hy)
    refine ⟨this.1, ?_⟩
    unfold lnk
    rw [if_neg (fun e => nmem (by rw [← e]; exact hy))]
    exact this.2
  · rw [lnk_root C.fo hc.1 ha.1 hc.2 ha.2 ne x hx]
    have := C.all x hx
    rw [d1] at this
    by_cases e : root p n x = os[k]
    · rw [if_pos e]; exact ma
    · rw [if_neg e]; exact (List.mem_cons.mp this).resolve_left e
theorem Chain.start {n : Nat} {p r : Nat → Nat} (F : Fo n p r) {os : List Nat} (h : os.Perm ((List.range n).filter fun v => decide (p v = v))) : Chain n p r os 0 where
  fo := F
  fix := fun y hy => by
    have := h.mem_iff.mp hy
    have z := List.mem_filter.mp this
    exact ⟨List.mem_range.mp z.1, of_decide_eq_true z.2⟩
  all := fun x hx => h.mem_iff.mpr (List.mem_filter.mpr ⟨List.mem_range.mpr (root_lt F x hx), decide_eq_true (root_fix F x hx)⟩)
theorem Chain.done {n : Nat} {p r : Nat → Nat} {os : List Nat} {k : Nat} (C : Chain n p r os k) (h : k + 1 = os.length) (x : Nat) (hx : x < n) : root p n x = os[k] := by
  have := C.all x hx
  rw [List.drop_eq_getElem_cons (by omega), List.drop_eq_nil_of_le (by omega)] at this
  exact List.mem_singleton.mp this
end Ff

namespace Ff
/-- the first of a filter -/
theorem filt_first {n i : Nat} {g : Nat → Bool} (hi : i < n) (h0 : ∀ v, v < i → g v = false) (h1 : g i = true) : ∃ rest, (List.range n).filter g = i :: rest := by
  obtain ⟨k, rfl⟩ : ∃ k, n = i + 1 + k := ⟨n - (i + 1), by omega⟩
  have e : (List.range (i + 1 + k)).filter g = (List.range (i + 1)).filter g ++ ((List.range k).map (i + 1 + ·)).filter g := by
    rw [List.range_add, List.filter_append]
  have e2 : (List.range (i + 1)).filter g = [i] := by
    rw [List.range_succ, List.filter_append]
    have : (List.range i).filter g = [] := List.filter_eq_nil_iff.mpr fun v hv => by rw [h0 v (List.mem_range.mp hv)]; simp
    rw [this]
    simp [List.filter, h1]
  rw [e, e2]
  exact ⟨_, rfl⟩
theorem filt_none {n : Nat} {g : Nat → Bool} (h : ∀ v, v < n → g v = false) : (List.range n).filter g = [] := List.filter_eq_nil_iff.mpr fun v hv => by rw [h v (List.mem_range.mp hv)]; simp
section
variable {n : Nat} {p : Nat → Nat}
def fixB (p : Nat → Nat) (y : Nat) : Bool := decide (p y = y)
theorem root_stay {k x : Nat} (h : p (root p k x) = root p k x) : ∀ j, root p (k + j) x = root p k x
  | 0 => rfl
  | j + 1 => by rw [Nat.add_succ, root_succ, root_stay h j]; exact h
theorem root_add (x : Nat) (i : Nat) : ∀ j, root p (i + j) x = root p j (root p i x)
  | 0 => rfl
  | j + 1 => by rw [Nat.add_succ, root_succ, root_succ, root_add x i j]
/-- what is fixed after n steps is fixed before -/
theorem fix_before (hl : ∀ v, v < n → p v < n) {x : Nat} (hx : x < n) (h : p (root p n x) = root p n x) : ∃ j, j < n ∧ p (root p j x) = root p j x := by
  -- two of n + 1 places are one node
  have pig : ∃ i j, i < j ∧ j ≤ n ∧ root p i x = root p j x := by
    refine Classical.byContradiction fun no => ?_
    have nd : ((List.range (n + 1)).map fun k => root p k x).Nodup := by
      unfold List.Nodup
      rw [List.pairwise_map]
      refine List.Pairwise.imp_of_mem (fun {a b} ha hb lt e => no ⟨a, b, lt, by have := List.mem_range.mp hb; omega, e⟩) (List.pairwise_lt_range)
    have := nodup_le n _ nd fun y hy => by
      obtain ⟨k, _, rfl⟩ := List.mem_map.mp hy
      exact root_lt0 hl k x hx
    rw [List.length_map, List.length_range] at this
    omega
  obtain ⟨i, j, hij, hj, e⟩ := pig
  refine ⟨i, by omega, ?_⟩
  have per : ∀ t, root p (i + t * (j - i)) x = root p i x := fun t => by
    induction t with
    | zero => simp
    | succ t ih =>
      have e1 : i + (t + 1) * (j - i) = (i + t * (j - i)) + (j - i) := by rw [Nat.succ_mul]; omega
      rw [e1, root_add, ih, ← root_add, show i + (j - i) = j by omega, e]
  have big : n ≤ i + n * (j - i) := by
    have : n * 1 ≤ n * (j - i) := Nat.mul_le_mul_left n (by omega)
    omega
  obtain ⟨m, hm⟩ : ∃ m, i + n * (j - i) = n + m := ⟨i + n * (j - i) - n, by omega⟩
  have z := per n
  rw [hm, root_stay h m] at z
  rw [← z]; exact h
end
/-- a row of integers as parents -/
def par (xs : List Int) : Nat → Nat := fun v => (xs.getD v 0).toNat
def wideB (xs : List Int) (v : Nat) : Bool := !(decide (0 ≤ xs.getD v 0) && decide (xs.getD v 0 < (xs.length : Int)))
def wideL (xs : List Int) : List Nat := (List.range xs.length).filter (wideB xs)
def ringB (n : Nat) (p : Nat → Nat) (v : Nat) : Bool := !decide (p (root p n v) = root p n v)
def ringsL (xs : List Int) : List Nat := (List.range xs.length).filter (ringB xs.length (par xs))
/-- 0: none; 1: TooManyNodes; 2: BadParent; 3: Cycle -/
inductive Ver
  | ok
  | many
  | bad (v : Nat)
  | cyc (v : Nat)
def verdict (xs : List Int) : Ver := if 40 < xs.length then .many else match wideL xs with
  | v :: _ => .bad v
  | [] => match ringsL xs with
    | v :: _ => .cyc v
    | [] => .ok
theorem wide_iff {xs : List Int} {v : Nat} : wideB xs v = false ↔ 0 ≤ xs.getD v 0 ∧ xs.getD v 0 < (xs.length : Int) := by
  unfold wideB
  rw [Bool.not_eq_false', Bool.and_eq_true, decide_eq_true_iff, decide_eq_true_iff]
theorem par_lt {xs : List Int} (h : ∀ v, v < xs.length → wideB xs v = false) : ∀ v, v < xs.length → par xs v < xs.length := fun v hv => by
  have := wide_iff.mp (h v hv)
  unfold par
  omega
end Ff

/-! Histories: finds, links and rounds. -/
namespace Ff
inductive Stp : Type
  | fnd (z : Int)
  | lnk (c a : Int)
  | rnd (k : Int) (kd : Bool) (ss : List Stp)
mutual
def nest : Stp → Nat
  | .fnd _ => 0
  | .lnk _ _ => 0
  | .rnd _ _ ss => nests ss + 1
def nests : List Stp → Nat
  | [] => 0
  | s :: r => max (nest s) (nests r)
end
mutual
/-- the number of finds -/
def nFnd : Stp → Int
  | .fnd _ => 1
  | .lnk _ _ => 0
  | .rnd k _ ss => k * nFnds ss
def nFnds : List Stp → Int
  | [] => 0
  | s :: r => nFnd s + nFnds r
end
mutual
/-- the number of written steps -/
def nWr : Stp → Nat
  | .fnd _ => 1
  | .lnk _ _ => 1
  | .rnd _ _ ss => 1 + nWrs ss
def nWrs : List Stp → Nat
  | [] => 0
  | s :: r => nWr s + nWrs r
end
def lim30 : Int := 10 ^ 30
mutual
/-- a step of a history; links where they are allowed -/
def Wf (top : Bool) : Stp → Prop
  | .fnd _ => True
  | .lnk _ _ => top = true
  | .rnd k _ ss => 0 ≤ k ∧ k ≤ lim30 ∧ Wfs false ss
def Wfs (top : Bool) : List Stp → Prop
  | [] => True
  | s :: r => Wf top s ∧ Wfs top r
end
theorem nests_mem : ∀ {l : List Stp} {s : Stp}, s ∈ l → nest s ≤ nests l
  | x :: l, s, h => by
    rw [nests]
    rcases List.mem_cons.mp h with e | h
    · rw [e]; omega
    · have := nests_mem h; omega
theorem wfs_mem {top : Bool} : ∀ {l : List Stp} {s : Stp}, Wfs top l → s ∈ l → Wf top s
  | x :: l, s, w, h => by
    rw [Wfs] at w
    rcases List.mem_cons.mp h with e | h
    · rw [e]; exact w.1
    · exact wfs_mem w.2 h
theorem wfs_of {top : Bool} : ∀ {l : List Stp}, (∀ s ∈ l, Wf top s) → Wfs top l
  | [], _ => by rw [Wfs]; trivial
  | x :: l, h => by
    rw [Wfs]
    exact ⟨h x List.mem_cons_self, wfs_of fun s hs => h s (List.mem_cons_of_mem _ hs)⟩
theorem nests_le {m : Nat} : ∀ {l : List Stp}, (∀ s ∈ l, nest s ≤ m) → nests l ≤ m
  | [], _ => by rw [nests]; omega
  | x :: l, h => by
    rw [nests]
    have h1 := h x List.mem_cons_self
    have h2 := nests_le fun s hs => h s (List.mem_cons_of_mem _ hs)
    omega
theorem nFnds_app : ∀ l m : List Stp, nFnds (l ++ m) = nFnds l + nFnds m
  | [], m => by rw [List.nil_append, nFnds]; omega
  | x :: l, m => by rw [List.cons_append, nFnds, nFnds, nFnds_app l m]; omega
theorem nWrs_app : ∀ l m : List Stp, nWrs (l ++ m) = nWrs l + nWrs m
  | [], m => by rw [List.nil_append, nWrs]; omega
  | x :: l, m => by rw [List.cons_append, nWrs, nWrs, nWrs_app l m]; omega
theorem take_snoc {α : Type} {l : List α} {i : Nat} {x : α} (h : l[i]? = some x) : l.take (i + 1) = l.take i ++ [x] := by
  rw [List.take_succ, h]; rfl
theorem nFnds_take {l : List Stp} {i : Nat} {s : Stp} (h : l[i]? = some s) : nFnds (l.take (i + 1)) = nFnds (l.take i) + nFnd s := by
  rw [take_snoc h, nFnds_app, nFnds, nFnds]; omega
theorem nWrs_take {l : List Stp} {i : Nat} {s : Stp} (h : l[i]? = some s) : nWrs (l.take (i + 1)) = nWrs (l.take i) + nWr s := by
  rw [take_snoc h, nWrs_app, nWrs, nWrs]; omega
mutual
theorem nFnd_nonneg {top : Bool} : ∀ s : Stp, Wf top s → 0 ≤ nFnd s
  | .fnd _, _ => by rw [nFnd]; decide
  | .lnk _ _, _ => by rw [nFnd]; decide
  | .rnd k _ ss, w => by
    rw [Wf] at w
    rw [nFnd]
    exact Int.mul_nonneg w.1 (nFnds_nonneg ss w.2.2)
theorem nFnds_nonneg {top : Bool} : ∀ l : List Stp, Wfs top l → 0 ≤ nFnds l
  | [], _ => by rw [nFnds]; decide
  | s :: r, w => by
    rw [Wfs] at w
    rw [nFnds]
    have h1 := nFnd_nonneg s w.1
    have h2 := nFnds_nonneg r w.2
    omega
end
/-- bounds of the number of finds, by the number of written steps and the nesting -/
theorem lim_pos : 1 ≤ lim30 := by decide
theorem pow_mono {a b : Nat} (h : a ≤ b) : lim30 ^ a ≤ lim30 ^ b := by
  obtain ⟨c, rfl⟩ : ∃ c, b = a + c := ⟨b - a, by omega⟩
  induction c with
  | zero => exact Int.le_refl _
  | succ c ih =>
    have := ih (by omega)
    rw [← Nat.add_assoc, Int.pow_succ]
    have h0 : (0 : Int) ≤ lim30 ^ (a + c) := Int.pow_nonneg (by have := lim_pos; omega)
    have : lim30 ^ (a + c) * 1 ≤ lim30 ^ (a + c) * lim30 := Int.mul_le_mul_of_nonneg_left lim_pos h0
    omega
mutual
theorem nFnd_le {top : Bool} : ∀ s : Stp, Wf top s → nFnd s ≤ (nWr s : Int) * lim30 ^ nest s
  | .fnd _, _ => by rw [nFnd, nWr, nest]; decide
  | .lnk _ _, _ => by rw [nFnd, nWr, nest]; decide
  | .rnd k _ ss, w => by
    rw [Wf] at w
    rw [nFnd, nWr, nest]
    have h1 := nFnds_le ss w.2.2
    have h0 := nFnds_nonneg ss w.2.2
    have hp : (0 : Int) ≤ lim30 ^ nests ss := Int.pow_nonneg (by have := lim_pos; omega)
    have h2 : k * nFnds ss ≤ lim30 * ((nWrs ss : Int) * lim30 ^ nests ss) := Int.mul_le_mul w.2.1 h1 h0 (by have := lim_pos; omega)
    have h3 : lim30 * ((nWrs ss : Int) * lim30 ^ nests ss) = (nWrs ss : Int) * lim30 ^ (nests ss + 1) := by
      rw [Int.pow_succ, ← Int.mul_assoc, ← Int.mul_assoc, Int.mul_comm lim30, Int.mul_assoc, Int.mul_assoc, Int.mul_comm lim30]
    have h4 : (nWrs ss : Int) * lim30 ^ (nests ss + 1) ≤ ((1 + nWrs ss : Nat) : Int) * lim30 ^ (nests ss + 1) := Int.mul_le_mul_of_nonneg_right (by omega) (Int.pow_nonneg (by have := lim_pos; omega))
    omega
theorem nFnds_le {top : Bool} : ∀ l : List Stp, Wfs top l → nFnds l ≤ (nWrs l : Int) * lim30 ^ nests l
  | [], _ => by rw [nFnds, nWrs, nests]; decide
  | s :: r, w => by
    rw [Wfs] at w
    rw [nFnds, nWrs, nests]
    have h1 := nFnd_le s w.1
    have h2 := nFnds_le r w.2
    have m1 : lim30 ^ nest s ≤ lim30 ^ (max (nest s) (nests r)) := pow_mono (by omega)
    have m2 : lim30 ^ nests r ≤ lim30 ^ (max (nest s) (nests r)) := pow_mono (by omega)
    have g1 : (nWr s : Int) * lim30 ^ nest s ≤ (nWr s : Int) * lim30 ^ (max (nest s) (nests r)) := Int.mul_le_mul_of_nonneg_left m1 (by omega)
    have g2 : (nWrs r : Int) * lim30 ^ nests r ≤ (nWrs r : Int) * lim30 ^ (max (nest s) (nests r)) := Int.mul_le_mul_of_nonneg_left m2 (by omega)
    have g3 : ((nWr s + nWrs r : Nat) : Int) * lim30 ^ (max (nest s) (nests r)) = (nWr s : Int) * lim30 ^ (max (nest s) (nests r)) + (nWrs r : Int) * lim30 ^ (max (nest s) (nests r)) := by
      rw [Int.natCast_add, Int.add_mul]
    omega
end
end Ff

/-! What a history does. -/
namespace Ff
inductive Er : Type
  | no (z : Int)
  | nr (z : Int)
  | sr (z : Int)
inductive Rs (α : Type) : Type
  | ok (a : α)
  | er (e : Er)
def linkR (n : Nat) (p : Nat → Nat) (c a : Int) : Rs (Nat → Nat) :=
  match chkE n p c with
  | some false => .er (.no c)
  | some true => .er (.nr c)
  | none => match chkE n p a with
    | some false => .er (.no a)
    | some true => .er (.nr a)
    | none => if c = a then .er (.sr c) else .ok (lnk p c.toNat a.toNat)
mutual
/-- the number of finds of nodes that are no roots -/
def low1 (p : Nat → Nat) : Stp → Int
  | .fnd z => if p z.toNat = z.toNat then 0 else 1
  | .lnk _ _ => 0
  | .rnd k _ ss => if 0 < k then k * lows p ss else 0
def lows (p : Nat → Nat) : List Stp → Int
  | [] => 0
  | s :: r => low1 p s + lows p r
end
/-- one after another -/
def Rs.seq {X : Type} (a : Rs (X × Int)) (f : X → Rs (X × Int)) : Rs (X × Int) := match a with
  | .er e => .er e
  | .ok (q, c) => match f q with
    | .er e => .er e
    | .ok (q2, c2) => .ok (q2, c + c2)
theorem seq_er {X : Type} {e : Er} {f : X → Rs (X × Int)} : (Rs.er e : Rs (X × Int)).seq f = .er e := rfl
theorem seq_one {X : Type} (a : Rs (X × Int)) : a.seq (fun q => .ok (q, 0)) = a := by
  cases a with
  | er e => rfl
  | ok a =>
    obtain ⟨q, c⟩ := a
    show Rs.ok (q, c + 0) = Rs.ok (q, c)
    rw [Int.add_zero]
theorem one_seq {X : Type} (p : X) (f : X → Rs (X × Int)) : (Rs.ok (p, 0)).seq f = f p := by
  unfold Rs.seq
  cases h : f p with
  | er e => simp [h]
  | ok a =>
    obtain ⟨q, c⟩ := a
    simp [h]
theorem seq_assoc {X : Type} (a : Rs (X × Int)) (f g : X → Rs (X × Int)) : (a.seq f).seq g = a.seq fun q => (f q).seq g := by
  cases a with
  | er e => rfl
  | ok a =>
    obtain ⟨q, c⟩ := a
    unfold Rs.seq
    cases h : f q with
    | er e => simp [h]
    | ok b =>
      obtain ⟨q2, c2⟩ := b
      cases h2 : g q2 with
      | er e => simp [h, h2]
      | ok d =>
        obtain ⟨q3, c3⟩ := d
        simp [h, h2, Int.add_assoc]
mutual
/-- a step at work: the forest and the cost, or an error -/
def stepR (n : Nat) : Stp → (Nat → Nat) → Rs ((Nat → Nat) × Int)
  | .fnd z, p => if 0 ≤ z ∧ z < (n : Int) then .ok (fnd n p z.toNat, ((ups p n z.toNat).length : Int)) else .er (.no z)
  | .lnk c a, p => match linkR n p c a with
    | .ok q => .ok (q, 0)
    | .er e => .er e
  | .rnd k _ ss, p => if k = 0 then .ok (p, 0) else match stepsR n ss p with
    | .ok (q, c) => .ok (q, c + (k - 1) * lows q ss)
    | .er e => .er e
def stepsR (n : Nat) : List Stp → (Nat → Nat) → Rs ((Nat → Nat) × Int)
  | [], p => .ok (p, 0)
  | s :: r, p => (stepR n s p).seq fun q => stepsR n r q
end
theorem stepsR_nil (n : Nat) (p : Nat → Nat) : stepsR n [] p = .ok (p, 0) := by rw [stepsR]
theorem stepsR_cons (n : Nat) (s : Stp) (r : List Stp) (p : Nat → Nat) : stepsR n (s :: r) p = (stepR n s p).seq (stepsR n r) := by rw [stepsR]
theorem stepsR_app (n : Nat) : ∀ (l m : List Stp) (p : Nat → Nat), stepsR n (l ++ m) p = (stepsR n l p).seq (stepsR n m)
  | [], m, p => by rw [List.nil_append, stepsR_nil, one_seq]
  | s :: l, m, p => by
    rw [List.cons_append, stepsR_cons, stepsR_cons, seq_assoc]
    congr 1
    funext q
    exact stepsR_app n l m q
theorem stepsR_snoc {n : Nat} {ss : List Stp} {p q : Nat → Nat} {c : Int} {i : Nat} {s : Stp} (hs : ss[i]? = some s) (h : stepsR n (ss.take i) p = .ok (q, c)) : stepsR n (ss.take (i + 1)) p = (Rs.ok (q, c)).seq (stepR n s) := by
  rw [take_snoc hs, stepsR_app, h]
  congr 1
  funext q'
  rw [stepsR_cons, show stepsR n [] = fun q => .ok (q, 0) from funext fun q => stepsR_nil n q, seq_one]
theorem stepsR_err {n : Nat} {ss : List Stp} {p : Nat → Nat} {i : Nat} {e : Er} (h : stepsR n (ss.take i) p = .er e) : stepsR n ss p = .er e := by
  have := stepsR_app n (ss.take i) (ss.drop i) p
  rw [List.take_append_drop, h] at this
  exact this
theorem lows_app (p : Nat → Nat) : ∀ l m : List Stp, lows p (l ++ m) = lows p l + lows p m
  | [], m => by rw [List.nil_append, lows]; omega
  | x :: l, m => by rw [List.cons_append, lows, lows, lows_app p l m]; omega
theorem lows_take {p : Nat → Nat} {l : List Stp} {i : Nat} {s : Stp} (h : l[i]? = some s) : lows p (l.take (i + 1)) = lows p (l.take i) + low1 p s := by
  rw [take_snoc h, lows_app, lows, lows]; omega
mutual
theorem low1_le {top : Bool} (p : Nat → Nat) : ∀ s : Stp, Wf top s → 0 ≤ low1 p s ∧ low1 p s ≤ nFnd s
  | .fnd z, _ => by rw [low1, nFnd]; split <;> omega
  | .lnk _ _, _ => by rw [low1, nFnd]; omega
  | .rnd k _ ss, w => by
    rw [Wf] at w
    rw [low1, nFnd]
    obtain ⟨h1, h2⟩ := lows_le p ss w.2.2
    split
    · exact ⟨Int.mul_nonneg w.1 h1, Int.mul_le_mul_of_nonneg_left h2 w.1⟩
    · exact ⟨Int.le_refl _, Int.mul_nonneg w.1 (nFnds_nonneg ss w.2.2)⟩
theorem lows_le {top : Bool} (p : Nat → Nat) : ∀ l : List Stp, Wfs top l → 0 ≤ lows p l ∧ lows p l ≤ nFnds l
  | [], _ => by rw [lows, nFnds]; omega
  | s :: r, w => by
    rw [Wfs] at w
    rw [lows, nFnds]
    have h1 := low1_le p s w.1
    have h2 := lows_le p r w.2
    omega
end
theorem linkR_fo {n : Nat} {p r : Nat → Nat} (F : Fo n p r) {c a : Int} {q : Nat → Nat} (h : linkR n p c a = .ok q) : ∃ r', Fo n q r' := by
  unfold linkR at h
  cases h1 : chkE n p c with
  | some b => rw [h1] at h; cases b <;> cases h
  | none =>
    rw [h1] at h
    cases h2 : chkE n p a with
    | some b => rw [h2] at h; cases b <;> cases h
    | none =>
      rw [h2] at h
      have h : (if c = a then Rs.er (.sr c) else .ok (lnk p c.toNat a.toNat)) = Rs.ok q := h
      by_cases e : c = a
      · rw [if_pos e] at h; cases h
      · rw [if_neg e] at h
        injection h with h
        unfold chkE at h1 h2
        by_cases hc : 0 ≤ c ∧ c < (n : Int)
        · by_cases ha : 0 ≤ a ∧ a < (n : Int)
          · rw [if_pos hc] at h1
            rw [if_pos ha] at h2
            by_cases pc : p c.toNat = c.toNat
            · by_cases pa : p a.toNat = a.toNat
              · rw [← h]
                exact ⟨_, lnk_fo F (by omega) (by omega) pc pa (by omega)⟩
              · rw [if_neg pa] at h2; cases h2
            · rw [if_neg pc] at h1; cases h1
          · rw [if_neg ha] at h2; cases h2
        · rw [if_neg hc] at h1; cases h1
mutual
theorem stepR_fo {n : Nat} : ∀ (s : Stp) {p r : Nat → Nat}, Fo n p r → ∀ {q : Nat → Nat} {c : Int}, stepR n s p = .ok (q, c) → ∃ r', Fo n q r'
  | .fnd z, p, r, F, q, c, h => by
    rw [stepR] at h
    by_cases hz : 0 ≤ z ∧ z < (n : Int)
    · rw [if_pos hz] at h
      injection h with h
      injection h with h _
      rw [← h]
      exact ⟨r, fnd_fo F (by omega)⟩
    · rw [if_neg hz] at h; cases h
  | .lnk x a, p, r, F, q, c, h => by
    rw [stepR] at h
    cases e : linkR n p x a with
    | er _ => rw [e] at h; cases h
    | ok q' =>
      rw [e] at h
      injection h with h
      injection h with h _
      rw [← h]
      exact linkR_fo F e
  | .rnd k _ ss, p, r, F, q, c, h => by
    rw [stepR] at h
    by_cases hk : k = 0
    · rw [if_pos hk] at h
      injection h with h
      injection h with h _
      rw [← h]; exact ⟨r, F⟩
    · rw [if_neg hk] at h
      cases e : stepsR n ss p with
      | er _ => rw [e] at h; cases h
      | ok a =>
        obtain ⟨q', c'⟩ := a
        rw [e] at h
        injection h with h
        injection h with h _
        rw [← h]
        exact stepsR_fo ss F e
theorem stepsR_fo {n : Nat} : ∀ (l : List Stp) {p r : Nat → Nat}, Fo n p r → ∀ {q : Nat → Nat} {c : Int}, stepsR n l p = .ok (q, c) → ∃ r', Fo n q r'
  | [], p, r, F, q, c, h => by
    rw [stepsR] at h
    injection h with h
    injection h with h _
    rw [← h]; exact ⟨r, F⟩
  | s :: l, p, r, F, q, c, h => by
    rw [stepsR_cons] at h
    cases e : stepR n s p with
    | er _ => rw [e] at h; cases h
    | ok a =>
      obtain ⟨q1, c1⟩ := a
      rw [e] at h
      obtain ⟨r1, F1⟩ := stepR_fo s F e
      cases e2 : stepsR n l q1 with
      | er _ =>
        unfold Rs.seq at h
        simp [e2] at h
      | ok b =>
        obtain ⟨q2, c2⟩ := b
        unfold Rs.seq at h
        simp [e2] at h
        rw [← h.1]
        exact stepsR_fo l F1 e2
end
end Ff

/-! A round once more: every find costs at most one, the forest stays. -/
namespace Ff
section
variable {n : Nat} {p r : Nat → Nat}
theorem d1_path (F : Fo n p r) {x : Nat} (hx : x < n) (h : p (p x) = p x) : root p n x = p x ∧ (ups p n x).length = (if p x = x then 0 else 1) ∧ ∀ v, v ∈ path p n x → v = x ∨ v = p x := by
  by_cases e : p x = x
  · have hr : root p n x = x := root_of e n
    refine ⟨by rw [hr, e], by rw [ups_of e, if_pos e]; rfl, fun v hv => ?_⟩
    unfold path at hv
    rw [ups_of e, hr] at hv
    exact .inl (by simpa using hv)
  · have hu : ups p n x = [x] := by rw [ups_n F hx e, ups_of h]
    have hr : root p n x = p x := by
      have h1 := (ups_lt F x hx x (by rw [hu]; exact List.mem_singleton.mpr rfl)).2.2.1
      have hn : 1 ≤ n := by omega
      obtain ⟨m, rfl⟩ : ∃ m, n = m + 1 := ⟨n - 1, by omega⟩
      rw [root_step e, root_of h]
    refine ⟨hr, by rw [hu, if_neg e]; rfl, fun v hv => ?_⟩
    unfold path at hv
    rw [hu, hr] at hv
    simpa using hv
theorem fnd_d1 (F : Fo n p r) {x : Nat} (hx : x < n) (h : p (p x) = p x) : fnd n p x = p := by
  obtain ⟨h1, _, h3⟩ := d1_path F hx h
  funext v
  unfold fnd
  by_cases hv : v ∈ path p n x
  · rw [if_pos hv, h1]
    rcases h3 v hv with e | e
    · rw [e]
    · rw [e, h]
  · rw [if_neg hv]
/-- what hangs on a root stays there -/
theorem fnd_keep (F : Fo n p r) {x z : Nat} (hx : x < n) (hz : z < n) (h : p (p z) = p z) : fnd n p x (fnd n p x z) = fnd n p x z := by
  have hroot : ∀ v, v < n → p v = v → fnd n p x v = v := fun v hv e => by
    unfold fnd
    by_cases hm : v ∈ path p n x
    · rw [if_pos hm]
      unfold path at hm
      rw [List.mem_append, List.mem_singleton] at hm
      rcases hm with hm | hm
      · exact absurd e (ups_lt F x hx v hm).2.1
      · exact hm.symm
    · rw [if_neg hm, e]
  by_cases hm : z ∈ path p n x
  · have e : fnd n p x z = root p n x := by unfold fnd; rw [if_pos hm]
    rw [e]
    exact hroot _ (root_lt F x hx) (root_fix F x hx)
  · have e : fnd n p x z = p z := by unfold fnd; rw [if_neg hm]
    rw [e]
    exact hroot _ (F.lt z hz) h
theorem fnd_got (F : Fo n p r) {x : Nat} (hx : x < n) : fnd n p x (fnd n p x x) = fnd n p x x := by
  have hm : x ∈ path p n x := by
    by_cases e : p x = x
    · unfold path; rw [ups_of e, root_of e]; simp
    · unfold path; rw [ups_n F hx e]; simp
  have e : fnd n p x x = root p n x := by unfold fnd; rw [if_pos hm]
  rw [e]
  have hm2 : root p n x ∈ path p n x := by unfold path; simp
  unfold fnd; rw [if_pos hm2]
end
mutual
/-- the nodes that are found are nodes -/
def InX (n : Nat) : Stp → Prop
  | .fnd z => 0 ≤ z ∧ z < (n : Int)
  | .lnk _ _ => True
  | .rnd k _ ss => 0 < k → InXs n ss
def InXs (n : Nat) : List Stp → Prop
  | [] => True
  | s :: r => InX n s ∧ InXs n r
end
theorem inXs_mem {n : Nat} : ∀ {l : List Stp} {s : Stp}, InXs n l → s ∈ l → InX n s
  | x :: l, s, w, h => by
    rw [InXs] at w
    rcases List.mem_cons.mp h with e | h
    · rw [e]; exact w.1
    · exact inXs_mem w.2 h
mutual
theorem ran_in {n : Nat} : ∀ (s : Stp) {p q : Nat → Nat} {c : Int} {top : Bool}, Wf top s → stepR n s p = .ok (q, c) → InX n s
  | .fnd z, p, q, c, top, w, h => by
    rw [stepR] at h
    rw [InX]
    by_cases hz : 0 ≤ z ∧ z < (n : Int)
    · exact hz
    · rw [if_neg hz] at h; cases h
  | .lnk x a, p, q, c, top, w, h => by rw [InX]; trivial
  | .rnd k _ ss, p, q, c, top, w, h => by
    rw [InX]
    rw [stepR] at h
    rw [Wf] at w
    intro hk
    rw [if_neg (by omega)] at h
    cases e : stepsR n ss p with
    | er _ => rw [e] at h; cases h
    | ok a => obtain ⟨q', c'⟩ := a; exact rans_in ss w.2.2 e
theorem rans_in {n : Nat} : ∀ (l : List Stp) {p q : Nat → Nat} {c : Int} {top : Bool}, Wfs top l → stepsR n l p = .ok (q, c) → InXs n l
  | [], p, q, c, top, w, h => by rw [InXs]; trivial
  | s :: l, p, q, c, top, w, h => by
    rw [Wfs] at w
    rw [stepsR_cons] at h
    rw [InXs]
    cases e : stepR n s p with
    | er _ => rw [e] at h; cases h
    | ok a =>
      obtain ⟨q1, c1⟩ := a
      rw [e] at h
      refine ⟨ran_in s w.1 e, ?_⟩
      cases e2 : stepsR n l q1 with
      | er _ =>
        unfold Rs.seq at h
        simp [e2] at h
      | ok b => obtain ⟨q2, c2⟩ := b; exact rans_in l w.2 e2
end
mutual
/-- all that is found hangs on its root -/
def Dn (q : Nat → Nat) : Stp → Prop
  | .fnd z => q (q z.toNat) = q z.toNat
  | .lnk _ _ => True
  | .rnd k _ ss => 0 < k → Dns q ss
def Dns (q : Nat → Nat) : List Stp → Prop
  | [] => True
  | s :: r => Dn q s ∧ Dns q r
end
def Keep (n : Nat) (p q : Nat → Nat) : Prop := ∀ z, z < n → p (p z) = p z → q (q z) = q z
mutual
theorem step_keep {n : Nat} : ∀ (s : Stp) {p r : Nat → Nat}, Fo n p r → Wf false s → ∀ {q : Nat → Nat} {c : Int}, stepR n s p = .ok (q, c) → Keep n p q
  | .fnd z, p, r, F, w, q, c, h => by
    rw [stepR] at h
    by_cases hz : 0 ≤ z ∧ z < (n : Int)
    · rw [if_pos hz] at h
      injection h with h
      injection h with h _
      rw [← h]
      exact fun v hv e => fnd_keep F (by omega) hv e
    · rw [if_neg hz] at h; cases h
  | .lnk x a, p, r, F, w, q, c, h => by rw [Wf] at w; cases w
  | .rnd k _ ss, p, r, F, w, q, c, h => by
    rw [stepR] at h
    rw [Wf] at w
    by_cases hk : k = 0
    · rw [if_pos hk] at h
      injection h with h
      injection h with h _
      rw [← h]; exact fun v hv e => e
    · rw [if_neg hk] at h
      cases e : stepsR n ss p with
      | er _ => rw [e] at h; cases h
      | ok a =>
        obtain ⟨q', c'⟩ := a
        rw [e] at h
        injection h with h
        injection h with h _
        rw [← h]
        exact steps_keep ss F w.2.2 e
theorem steps_keep {n : Nat} : ∀ (l : List Stp) {p r : Nat → Nat}, Fo n p r → Wfs false l → ∀ {q : Nat → Nat} {c : Int}, stepsR n l p = .ok (q, c) → Keep n p q
  | [], p, r, F, w, q, c, h => by
    rw [stepsR] at h
    injection h with h
    injection h with h _
    rw [← h]; exact fun v hv e => e
  | s :: l, p, r, F, w, q, c, h => by
    rw [stepsR_cons] at h
    rw [Wfs] at w
    cases e : stepR n s p with
    | er _ => rw [e] at h; cases h
    | ok a =>
      obtain ⟨q1, c1⟩ := a
      rw [e] at h
      obtain ⟨r1, F1⟩ := stepR_fo s F e
      cases e2 : stepsR n l q1 with
      | er _ => unfold Rs.seq at h; simp [e2] at h
      | ok b =>
        obtain ⟨q2, c2⟩ := b
        unfold Rs.seq at h
        simp [e2] at h
        rw [← h.1]
        exact fun v hv e3 => steps_keep l F1 w.2 e2 v hv (step_keep s F w.1 e v hv e3)
end
mutual
theorem Dn_keep {n : Nat} {p q : Nat → Nat} (k : Keep n p q) : ∀ (s : Stp), InX n s → Dn p s → Dn q s
  | .fnd z, hi, h => by
    rw [Dn] at h ⊢
    rw [InX] at hi
    exact k _ (by omega) h
  | .lnk _ _, _, _ => by rw [Dn]; trivial
  | .rnd kk _ ss, hi, h => by
    rw [Dn] at h ⊢
    rw [InX] at hi
    exact fun hk => Dns_keep k ss (hi hk) (h hk)
theorem Dns_keep {n : Nat} {p q : Nat → Nat} (k : Keep n p q) : ∀ (l : List Stp), InXs n l → Dns p l → Dns q l
  | [], _, _ => by rw [Dns]; trivial
  | s :: l, hi, h => by
    rw [Dns] at h ⊢
    rw [InXs] at hi
    exact ⟨Dn_keep k s hi.1 h.1, Dns_keep k l hi.2 h.2⟩
end
mutual
theorem step_got {n : Nat} : ∀ (s : Stp) {p r : Nat → Nat}, Fo n p r → Wf false s → ∀ {q : Nat → Nat} {c : Int}, stepR n s p = .ok (q, c) → Dn q s
  | .fnd z, p, r, F, w, q, c, h => by
    rw [stepR] at h
    rw [Dn]
    by_cases hz : 0 ≤ z ∧ z < (n : Int)
    · rw [if_pos hz] at h
      injection h with h
      injection h with h _
      rw [← h]
      exact fnd_got F (by omega)
    · rw [if_neg hz] at h; cases h
  | .lnk x a, p, r, F, w, q, c, h => by rw [Wf] at w; cases w
  | .rnd k _ ss, p, r, F, w, q, c, h => by
    rw [stepR] at h
    rw [Wf] at w
    rw [Dn]
    intro hk
    rw [if_neg (by omega)] at h
    cases e : stepsR n ss p with
    | er _ => rw [e] at h; cases h
    | ok a =>
      obtain ⟨q', c'⟩ := a
      rw [e] at h
      injection h with h
      injection h with h _
      rw [← h]
      exact steps_got ss F w.2.2 e
theorem steps_got {n : Nat} : ∀ (l : List Stp) {p r : Nat → Nat}, Fo n p r → Wfs false l → ∀ {q : Nat → Nat} {c : Int}, stepsR n l p = .ok (q, c) → Dns q l
  | [], p, r, F, w, q, c, h => by rw [Dns]; trivial
  | s :: l, p, r, F, w, q, c, h => by
    rw [stepsR_cons] at h
    rw [Wfs] at w
    rw [Dns]
    cases e : stepR n s p with
    | er _ => rw [e] at h; cases h
    | ok a =>
      obtain ⟨q1, c1⟩ := a
      rw [e] at h
      obtain ⟨r1, F1⟩ := stepR_fo s F e
      cases e2 : stepsR n l q1 with
      | er _ => unfold Rs.seq at h; simp [e2] at h
      | ok b =>
        obtain ⟨q2, c2⟩ := b
        unfold Rs.seq at h
        simp [e2] at h
        rw [← h.1]
        exact ⟨Dn_keep (steps_keep l F1 w.2 e2) s (ran_in s w.1 e) (step_got s F w.1 e), steps_got l F1 w.2 e2⟩
end
mutual
theorem step_again {n : Nat} : ∀ (s : Stp) {q r : Nat → Nat}, Fo n q r → Wf false s → InX n s → Dn q s → stepR n s q = .ok (q, low1 q s)
  | .fnd z, q, r, F, w, hi, h => by
    rw [InX] at hi
    rw [Dn] at h
    rw [stepR, if_pos hi, low1]
    have hz : z.toNat < n := by omega
    obtain ⟨_, h2, _⟩ := d1_path F hz h
    rw [fnd_d1 F hz h, h2]
    by_cases e : q z.toNat = z.toNat
    · rw [if_pos e, if_pos e]; rfl
    · rw [if_neg e, if_neg e]; rfl
  | .lnk x a, q, r, F, w, hi, h => by rw [Wf] at w; cases w
  | .rnd k _ ss, q, r, F, w, hi, h => by
    rw [InX] at hi
    rw [Dn] at h
    rw [Wf] at w
    rw [stepR, low1]
    by_cases hk : k = 0
    · rw [if_pos hk, if_neg (by omega)]
    · have hp : 0 < k := by have := w.1; omega
      rw [if_neg hk, if_pos hp, steps_again ss F w.2.2 (hi hp) (h hp)]
      show Rs.ok (q, lows q ss + (k - 1) * lows q ss) = Rs.ok (q, k * lows q ss)
      rw [Int.sub_mul, Int.one_mul]
      congr 2
      omega
theorem steps_again {n : Nat} : ∀ (l : List Stp) {q r : Nat → Nat}, Fo n q r → Wfs false l → InXs n l → Dns q l → stepsR n l q = .ok (q, lows q l)
  | [], q, r, F, w, hi, h => by rw [stepsR, lows]
  | s :: l, q, r, F, w, hi, h => by
    rw [Wfs] at w
    rw [InXs] at hi
    rw [Dns] at h
    rw [stepsR_cons, step_again s F w.1 hi.1 h.1, lows]
    unfold Rs.seq
    simp [steps_again l F w.2 hi.2 h.2]
end
/-- the same steps once more -/
theorem again_steps {n : Nat} {ss : List Stp} {p r q : Nat → Nat} {c : Int} (F : Fo n p r) (w : Wfs false ss) (h : stepsR n ss p = .ok (q, c)) : stepsR n ss q = .ok (q, lows q ss) := by
  obtain ⟨r', F'⟩ := stepsR_fo ss F h
  exact steps_again ss F' w (rans_in ss w h) (steps_got ss F w h)
end Ff

/-! Epochs: finds and links in their order; histories written out. -/
namespace Ff
def fS (xs : List Nat) : List Stp := xs.map fun x : Nat => .fnd (x : Int)
theorem fS_len (xs : List Nat) : (fS xs).length = xs.length := by unfold fS; rw [List.length_map]
theorem fS_cons (x : Nat) (xs : List Nat) : fS (x :: xs) = .fnd (x : Int) :: fS xs := rfl
section
variable {n : Nat} {p q r : Nat → Nat}
theorem stepsR_fS : ∀ (xs : List Nat) (p : Nat → Nat), (∀ x ∈ xs, x < n) → stepsR n (fS xs) p = .ok (fndAll n xs p, ((costs n xs p).sum : Int))
  | [], p, _ => by
    show stepsR n [] p = _
    rw [stepsR_nil]; rfl
  | x :: xs, p, h => by
    have hx := h x List.mem_cons_self
    rw [fS_cons, stepsR_cons, stepR, if_pos ⟨by omega, by omega⟩]
    have e : ((x : Nat) : Int).toNat = x := by omega
    rw [e]
    unfold Rs.seq
    simp only
    rw [stepsR_fS xs (fnd n p x) fun y hy => h y (List.mem_cons_of_mem _ hy)]
    simp only
    show Rs.ok (fndAll n xs (fnd n p x), _) = Rs.ok (fndAll n xs (fnd n p x), _)
    have e2 : (costs n (x :: xs) p).sum = (ups p n x).length + (costs n xs (fnd n p x)).sum := by
      show ((ups p n x).length :: costs n xs (fnd n p x)).sum = _
      rw [List.sum_cons]
    rw [e2, Int.natCast_add]
theorem fnds_congr : ∀ (xs : List Nat) (p q : Nat → Nat), (∀ x, x < n → p x < n) → (∀ v, v < n → q v = p v) → (∀ x ∈ xs, x < n) → (∀ v, v < n → fndAll n xs q v = fndAll n xs p v) ∧ costs n xs q = costs n xs p
  | [], p, q, hl, h, _ => ⟨h, rfl⟩
  | x :: xs, p, q, hl, h, hx => by
    have hx0 := hx x List.mem_cons_self
    have e : ∀ v, v < n → fnd n q x v = fnd n p x v := fun v hv => fnd_congr hl h hx0 hv
    have hl2 : ∀ v, v < n → fnd n p x v < n := fun v hv => by
      unfold fnd
      by_cases z : v ∈ path p n x
      · rw [if_pos z]; exact root_lt0 hl n x hx0
      · rw [if_neg z]; exact hl v hv
    obtain ⟨h1, h2⟩ := fnds_congr xs (fnd n p x) (fnd n q x) hl2 e fun y hy => hx y (List.mem_cons_of_mem _ hy)
    refine ⟨h1, ?_⟩
    show (ups q n x).length :: costs n xs (fnd n q x) = (ups p n x).length :: costs n xs (fnd n p x)
    rw [h2, ups_congr hl h n x hx0]
theorem linkR_ok {a b : Nat} (ha : a < n) (hb : b < n) (pa : p a = a) (pb : p b = b) (ne : a ≠ b) : linkR n p (a : Int) (b : Int) = .ok (lnk p a b) := by
  unfold linkR chkE
  have e1 : ((a : Nat) : Int).toNat = a := by omega
  have e2 : ((b : Nat) : Int).toNat = b := by omega
  have h1 : 0 ≤ (a : Int) ∧ (a : Int) < (n : Int) := by omega
  have h2 : 0 ≤ (b : Int) ∧ (b : Int) < (n : Int) := by omega
  rw [if_pos h1, if_pos h2, e1, e2, if_pos pa, if_pos pb]
  simp only
  rw [if_neg (by omega)]
theorem lnk_congr {a b : Nat} (h : ∀ v, v < n → q v = p v) : ∀ v, v < n → lnk q a b v = lnk p a b v := fun v hv => by
  unfold lnk
  by_cases e : v = a
  · rw [if_pos e, if_pos e]
  · rw [if_neg e, if_neg e, h v hv]
/-- one more epoch -/
theorem epoch_step {ss : List Stp} {p0 : Nat → Nat} {c : Int} (h : stepsR n ss p0 = .ok (q, c)) {a b : Nat} (ha : a < n) (hb : b < n) (pa : q a = a) (pb : q b = b) (ne : a ≠ b) {xs : List Nat} (hx : ∀ x ∈ xs, x < n) :
    stepsR n (ss ++ [.lnk (a : Int) (b : Int)] ++ fS xs) p0 = .ok (fndAll n xs (lnk q a b), c + ((costs n xs (lnk q a b)).sum : Int)) := by
  rw [List.append_assoc, stepsR_app, h]
  unfold Rs.seq
  simp only
  rw [stepsR_app, stepsR_cons, stepR, linkR_ok ha hb pa pb ne]
  simp only
  have e : (Rs.ok (lnk q a b, 0)).seq (stepsR n []) = .ok (lnk q a b, 0) := by
    rw [one_seq, stepsR_nil]
  rw [e]
  unfold Rs.seq
  simp only
  rw [stepsR_fS xs _ hx]
  simp only
  rw [Int.zero_add]
theorem Chain.finds {os : List Nat} {k : Nat} (C : Chain n p r os k) {xs : List Nat} (hx : ∀ x ∈ xs, x < n) : Chain n (fndAll n xs p) r os k where
  fo := fndAll_fo C.fo xs hx p C.fo
  fix := fun y hy => ⟨(C.fix y hy).1, behind_root C.fo hx y (C.fix y hy).1 (C.fix y hy).2⟩
  all := fun x hxn => by rw [behind_same_root C.fo hx x hxn]; exact C.all x hxn
/-- in another order -/
theorem other_order (F : Fo n p r) (h : ∀ v, v < n → q v = p v) {xs ys : List Nat} (hx : ∀ x ∈ xs, x < n) (hp : ys.Perm xs) :
    (∀ v, v < n → fndAll n ys q v = fndAll n xs p v) ∧ (costs n ys q).sum = (costs n xs p).sum := by
  have hy : ∀ x ∈ ys, x < n := fun x hxy => hx x (hp.mem_iff.mp hxy)
  obtain ⟨h1, h2⟩ := fnds_congr ys p q F.lt h hy
  refine ⟨fun v hv => (h1 v hv).trans (behind_same F hx (fun x => hp.symm.mem_iff) v hv), ?_⟩
  rw [h2]
  exact cost_same F hx hp.symm
end
mutual
/-- written out, each round at most m times -/
def exp1 (m : Int) : Stp → List Stp
  | .fnd z => [.fnd z]
  | .lnk c a => [.lnk c a]
  | .rnd k _ ss => if 0 < k * nFnds ss then (List.replicate (min m k).toNat (exps m ss)).flatten else []
def exps (m : Int) : List Stp → List Stp
  | [] => []
  | s :: r => exp1 m s ++ exps m r
end
theorem exps_app (m : Int) : ∀ l k : List Stp, exps m (l ++ k) = exps m l ++ exps m k
  | [], k => by rw [List.nil_append, exps, List.nil_append]
  | x :: l, k => by rw [List.cons_append, exps, exps, exps_app m l k, List.append_assoc]
theorem exps_take {m : Int} {l : List Stp} {i : Nat} {s : Stp} (h : l[i]? = some s) : exps m (l.take (i + 1)) = exps m (l.take i) ++ exp1 m s := by
  rw [take_snoc h, exps_app, exps, exps, List.append_nil]
theorem exps_take_le (m : Int) (ss : List Stp) (i : Nat) : (exps m (ss.take i)).length ≤ (exps m ss).length := by
  have h := exps_app m (ss.take i) (ss.drop i)
  rw [List.take_append_drop] at h
  rw [h, List.length_append]
  omega
theorem exp1_mem : ∀ {m : Int} {ss : List Stp} {s : Stp}, s ∈ ss → (exp1 m s).length ≤ (exps m ss).length
  | m, x :: l, s, h => by
    rw [exps, List.length_append]
    rcases List.mem_cons.mp h with e | h
    · rw [e]; omega
    · have := exp1_mem (m := m) h; omega
def IsFnd (n : Nat) (s : Stp) : Prop := ∃ u : Nat, s = .fnd (u : Int) ∧ u < n
theorem fnds_list {n : Nat} : ∀ {l : List Stp}, (∀ s ∈ l, IsFnd n s) → ∃ xs : List Nat, l = fS xs ∧ ∀ x ∈ xs, x < n
  | [], _ => ⟨[], rfl, by simp⟩
  | s :: l, h => by
    obtain ⟨u, e, hu⟩ := h s List.mem_cons_self
    obtain ⟨xs, e2, hx⟩ := fnds_list fun t ht => h t (List.mem_cons_of_mem _ ht)
    refine ⟨u :: xs, by rw [e, e2]; rfl, fun x hxm => ?_⟩
    rcases List.mem_cons.mp hxm with z | z
    · rw [z]; exact hu
    · exact hx x z
theorem pow1 {m : Nat} (h : 1 ≤ m) : ∀ {a b : Nat}, a ≤ b → m ^ a ≤ m ^ b := fun {a b} z => Nat.pow_le_pow_right h z
mutual
theorem exp1_len {m : Nat} (h : 1 ≤ m) {top : Bool} : ∀ s : Stp, Wf top s → (exp1 m s).length ≤ nWr s * m ^ nest s
  | .fnd _, _ => by rw [exp1, nWr, nest]; simp
  | .lnk _ _, _ => by rw [exp1, nWr, nest]; simp
  | .rnd k _ ss, w => by
    rw [Wf] at w
    rw [exp1, nWr, nest]
    by_cases z : 0 < k * nFnds ss
    · rw [if_pos z, List.length_flatten, List.map_replicate, List.sum_replicate_nat]
      have h1 := exps_len h ss w.2.2
      have h2 : (min (m : Int) k).toNat ≤ m := by omega
      have h3 := Nat.mul_le_mul h2 h1
      have h4 : m * (nWrs ss * m ^ nests ss) = nWrs ss * m ^ (nests ss + 1) := by
        rw [Nat.pow_succ, Nat.mul_comm, Nat.mul_assoc]
      rw [h4] at h3
      exact Nat.le_trans h3 (Nat.mul_le_mul_right _ (by omega))
    · rw [if_neg z]; exact Nat.zero_le _
theorem exps_len {m : Nat} (h : 1 ≤ m) {top : Bool} : ∀ l : List Stp, Wfs top l → (exps m l).length ≤ nWrs l * m ^ nests l
  | [], _ => by rw [exps, nWrs]; simp
  | s :: r, w => by
    rw [Wfs] at w
    rw [exps, nWrs, nests, List.length_append, Nat.add_mul]
    have h1 := exp1_len h s w.1
    have h2 := exps_len h r w.2
    have g1 : nWr s * m ^ nest s ≤ nWr s * m ^ max (nest s) (nests r) := Nat.mul_le_mul_left _ (pow1 h (by omega))
    have g2 : nWrs r * m ^ nests r ≤ nWrs r * m ^ max (nest s) (nests r) := Nat.mul_le_mul_left _ (pow1 h (by omega))
    omega
end
/-- finds and links of nodes -/
def FlatN (n : Nat) (s : Stp) : Prop := (∃ u : Nat, s = .fnd (u : Int) ∧ u < n) ∨ ∃ a b : Nat, s = .lnk (a : Int) (b : Int) ∧ a < n ∧ b < n
theorem flat_all {n : Nat} : ∀ {l : List Stp}, (∀ s ∈ l, FlatN n s) → Wfs true l ∧ nests l = 0 ∧ nWrs l = l.length
  | [], _ => by rw [Wfs, nests, nWrs]; exact ⟨trivial, rfl, rfl⟩
  | s :: l, h => by
    obtain ⟨h1, h2, h3⟩ := flat_all fun t ht => h t (List.mem_cons_of_mem _ ht)
    rw [Wfs, nests, nWrs, h2, h3, List.length_cons]
    rcases h s List.mem_cons_self with ⟨u, rfl, _⟩ | ⟨a, b, rfl, _⟩
    · rw [Wf, nest, nWr]; exact ⟨⟨trivial, h1⟩, rfl, by omega⟩
    · rw [Wf, nest, nWr]; exact ⟨⟨rfl, h1⟩, rfl, by omega⟩
theorem flat_fS {n : Nat} {xs : List Nat} (h : ∀ x ∈ xs, x < n) : ∀ s ∈ fS xs, FlatN n s := fun s hs => by
  obtain ⟨x, hx, rfl⟩ := List.mem_map.mp hs
  exact .inl ⟨x, rfl, h x hx⟩
/-! sorted lists -/
theorem sorted_eq : ∀ {l m : List Int}, l.Pairwise (· ≤ ·) → m.Pairwise (· ≤ ·) → l.Perm m → l = m
  | [], m, _, _, h => h.nil_eq
  | x :: l, [], _, _, h => by have := h.length_eq; simp at this
  | x :: l, y :: m, hl, hm, h => by
    have hx := List.pairwise_cons.mp hl
    have hy := List.pairwise_cons.mp hm
    have e : x = y := by
      have h1 : x ∈ y :: m := h.mem_iff.mp List.mem_cons_self
      have h2 : y ∈ x :: l := h.mem_iff.mpr List.mem_cons_self
      rcases List.mem_cons.mp h1 with z | z
      · exact z
      · rcases List.mem_cons.mp h2 with z2 | z2
        · exact z2.symm
        · have := hx.1 y z2
          have := hy.1 x z
          omega
    subst e
    rw [sorted_eq hx.2 hy.2 (List.Perm.cons_inv h)]
theorem sort_ex : ∀ l : List Int, ∃ m : List Int, m.Perm l ∧ m.Pairwise (· ≤ ·)
  | [] => ⟨[], .refl _, .nil⟩
  | x :: l => by
    obtain ⟨m, h1, h2⟩ := sort_ex l
    have ins : ∀ m : List Int, m.Pairwise (· ≤ ·) → ∃ k : List Int, k.Perm (x :: m) ∧ k.Pairwise (· ≤ ·) := fun m => by
      induction m with
      | nil => intro _; exact ⟨[x], .refl _, by simp⟩
      | cons y m ih =>
        intro hm
        have hy := List.pairwise_cons.mp hm
        by_cases z : x ≤ y
        · exact ⟨x :: y :: m, .refl _, List.pairwise_cons.mpr ⟨fun a ha => by
            rcases List.mem_cons.mp ha with e | e
            · omega
            · have := hy.1 a e; omega, hm⟩⟩
        · obtain ⟨k, k1, k2⟩ := ih hy.2
          refine ⟨y :: k, (k1.cons y).trans (List.Perm.swap x y m), List.pairwise_cons.mpr ⟨fun a ha => ?_, k2⟩⟩
          rcases List.mem_cons.mp (k1.mem_iff.mp ha) with e | e
          · omega
          · exact hy.1 a e
    obtain ⟨k, k1, k2⟩ := ins m h2
    exact ⟨k, k1.trans (h1.cons x), k2⟩
noncomputable def srt (l : List Int) : List Int := Classical.choose (sort_ex l)
theorem srt_of {l m : List Int} (h : m.Perm l) (hm : m.Pairwise (· ≤ ·)) : m = srt l := sorted_eq hm (Classical.choose_spec (sort_ex l)).2 (h.trans (Classical.choose_spec (sort_ex l)).1.symm)
theorem srt_perm {l m : List Int} (h : l.Perm m) : srt l = srt m := srt_of ((Classical.choose_spec (sort_ex l)).1.trans h) (Classical.choose_spec (sort_ex l)).2
theorem srt_len (l : List Int) : (srt l).length = l.length := (Classical.choose_spec (sort_ex l)).1.length_eq
end Ff

/-! Rounds of finds: what they do, and how often each node is found. -/
namespace Ff
mutual
/-- the nodes of the finds that are done, each round once -/
def nd1 : Stp → List Nat
  | .fnd z => [z.toNat]
  | .lnk _ _ => []
  | .rnd k _ ss => if 0 < k then nds ss else []
def nds : List Stp → List Nat
  | [] => []
  | s :: r => nd1 s ++ nds r
end
mutual
def Inn (n : Nat) : Stp → Prop
  | .fnd z => 0 ≤ z ∧ z < (n : Int)
  | .lnk _ _ => True
  | .rnd _ _ ss => Inns n ss
def Inns (n : Nat) : List Stp → Prop
  | [] => True
  | s :: r => Inn n s ∧ Inns n r
end
mutual
/-- how often a node is found -/
def tl1 (v : Nat) : Stp → Int
  | .fnd z => if z.toNat = v then 1 else 0
  | .lnk _ _ => 0
  | .rnd k _ ss => k * tls v ss
def tls (v : Nat) : List Stp → Int
  | [] => 0
  | s :: r => tl1 v s + tls v r
end
mutual
/-- a node that is written -/
def oc1 (v : Nat) : Stp → Bool
  | .fnd z => decide (z.toNat = v)
  | .lnk _ _ => false
  | .rnd _ _ ss => ocs v ss
def ocs (v : Nat) : List Stp → Bool
  | [] => false
  | s :: r => oc1 v s || ocs v r
end
theorem inns_mem {n : Nat} : ∀ {l : List Stp} {s : Stp}, Inns n l → s ∈ l → Inn n s
  | x :: l, s, w, h => by
    rw [Inns] at w
    rcases List.mem_cons.mp h with e | h
    · rw [e]; exact w.1
    · exact inns_mem w.2 h
theorem inns_of {n : Nat} : ∀ {l : List Stp}, (∀ s ∈ l, Inn n s) → Inns n l
  | [], _ => by rw [Inns]; trivial
  | x :: l, h => by
    rw [Inns]
    exact ⟨h x List.mem_cons_self, inns_of fun s hs => h s (List.mem_cons_of_mem _ hs)⟩
theorem tls_app (v : Nat) : ∀ l m : List Stp, tls v (l ++ m) = tls v l + tls v m
  | [], m => by rw [List.nil_append, tls]; omega
  | x :: l, m => by rw [List.cons_append, tls, tls, tls_app v l m]; omega
theorem ocs_app (v : Nat) : ∀ l m : List Stp, ocs v (l ++ m) = (ocs v l || ocs v m)
  | [], m => by rw [List.nil_append, ocs]; rfl
  | x :: l, m => by rw [List.cons_append, ocs, ocs, ocs_app v l m, Bool.or_assoc]
theorem tls_take {v : Nat} {l : List Stp} {i : Nat} {s : Stp} (h : l[i]? = some s) : tls v (l.take (i + 1)) = tls v (l.take i) + tl1 v s := by
  rw [take_snoc h, tls_app, tls, tls]; omega
theorem ocs_take {v : Nat} {l : List Stp} {i : Nat} {s : Stp} (h : l[i]? = some s) : ocs v (l.take (i + 1)) = (ocs v (l.take i) || oc1 v s) := by
  rw [take_snoc h, ocs_app, ocs, ocs, Bool.or_false]
theorem nds_app : ∀ l m : List Stp, nds (l ++ m) = nds l ++ nds m
  | [], m => by rw [List.nil_append, nds, List.nil_append]
  | x :: l, m => by rw [List.cons_append, nds, nds, nds_app l m, List.append_assoc]
theorem nds_take {l : List Stp} {i : Nat} {s : Stp} (h : l[i]? = some s) : nds (l.take (i + 1)) = nds (l.take i) ++ nd1 s := by
  rw [take_snoc h, nds_app, nds, nds, List.append_nil]
mutual
theorem tl1_facts {top : Bool} (v : Nat) : ∀ s : Stp, Wf top s → 0 ≤ tl1 v s ∧ (0 < tl1 v s ↔ v ∈ nd1 s) ∧ (oc1 v s = false → tl1 v s = 0)
  | .fnd z, _ => by
    rw [tl1, nd1, oc1]
    by_cases e : z.toNat = v
    · rw [if_pos e]; simp [e]
    · rw [if_neg e]; simp; exact fun h => e h.symm
  | .lnk _ _, _ => by rw [tl1, nd1, oc1]; simp
  | .rnd k _ ss, w => by
    rw [Wf] at w
    obtain ⟨h1, h2, h3⟩ := tls_facts v ss w.2.2
    rw [tl1, nd1, oc1]
    refine ⟨Int.mul_nonneg w.1 h1, ?_, fun z => by rw [h3 z, Int.mul_zero]⟩
    by_cases hk : 0 < k
    · rw [if_pos hk, ← h2]
      constructor
      · intro z
        rcases Int.lt_or_eq_of_le h1 with y | y
        · exact y
        · rw [← y, Int.mul_zero] at z; omega
      · exact fun z => Int.mul_pos hk z
    · have : k = 0 := by have := w.1; omega
      rw [if_neg hk, this, Int.zero_mul]; simp
theorem tls_facts {top : Bool} (v : Nat) : ∀ l : List Stp, Wfs top l → 0 ≤ tls v l ∧ (0 < tls v l ↔ v ∈ nds l) ∧ (ocs v l = false → tls v l = 0)
  | [], _ => by rw [tls, nds, ocs]; simp
  | s :: r, w => by
    rw [Wfs] at w
    obtain ⟨h1, h2, h3⟩ := tl1_facts v s w.1
    obtain ⟨g1, g2, g3⟩ := tls_facts v r w.2
    rw [tls, nds, ocs]
    refine ⟨by omega, ?_, fun z => ?_⟩
    · rw [List.mem_append, ← h2, ← g2]; omega
    · rw [Bool.or_eq_false_iff] at z
      rw [h3 z.1, g3 z.2]; rfl
end
mutual
theorem nd1_lt {n : Nat} : ∀ s : Stp, Inn n s → ∀ x ∈ nd1 s, x < n
  | .fnd z, i, x, h => by
    rw [Inn] at i
    rw [nd1, List.mem_singleton] at h
    omega
  | .lnk _ _, i, x, h => by rw [nd1] at h; cases h
  | .rnd k _ ss, i, x, h => by
    rw [Inn] at i
    rw [nd1] at h
    by_cases hk : 0 < k
    · rw [if_pos hk] at h; exact nds_lt ss i x h
    · rw [if_neg hk] at h; cases h
theorem nds_lt {n : Nat} : ∀ l : List Stp, Inns n l → ∀ x ∈ nds l, x < n
  | [], i, x, h => by rw [nds] at h; cases h
  | s :: r, i, x, h => by
    rw [Inns] at i
    rw [nds, List.mem_append] at h
    rcases h with h | h
    · exact nd1_lt s i.1 x h
    · exact nds_lt r i.2 x h
end
mutual
theorem oc1_lt {n : Nat} (v : Nat) : ∀ s : Stp, Inn n s → oc1 v s = true → v < n
  | .fnd z, i, h => by
    rw [Inn] at i
    rw [oc1] at h
    have := of_decide_eq_true h
    omega
  | .lnk _ _, i, h => by rw [oc1] at h; cases h
  | .rnd k _ ss, i, h => by
    rw [Inn] at i
    rw [oc1] at h
    exact ocs_lt v ss i h
theorem ocs_lt {n : Nat} (v : Nat) : ∀ l : List Stp, Inns n l → ocs v l = true → v < n
  | [], i, h => by rw [ocs] at h; cases h
  | s :: r, i, h => by
    rw [Inns] at i
    rw [ocs, Bool.or_eq_true] at h
    rcases h with h | h
    · exact oc1_lt v s i.1 h
    · exact ocs_lt v r i.2 h
end
section
variable {n : Nat} {p r : Nat → Nat}
theorem behind_iff (F : Fo n p r) {l : List Nat} (h : ∀ x ∈ l, x < n) (v : Nat) (hv : v < n) : fndAll n l p v = v ↔ p v = v := by
  constructor
  · intro e
    by_cases z : p v = v
    · exact z
    · have := after_nonroot F (mark_closed F h) hv z
      have e2 : fndAll n l p v = after n p (markB n p l) v := by rw [behind_eq F l h v hv]; rfl
      exact absurd (e2.symm.trans e) this
  · exact behind_root F h v hv
theorem low_behind (F : Fo n p r) {l : List Nat} (h : ∀ x ∈ l, x < n) {v : Nat} (hv : v < n) : low (fndAll n l p) v = low p v := by
  unfold low
  by_cases e : p v = v
  · rw [if_pos e, if_pos ((behind_iff F h v hv).mpr e)]
  · rw [if_neg e, if_neg (fun z => e ((behind_iff F h v hv).mp z))]
mutual
theorem low1_behind (F : Fo n p r) {l : List Nat} (h : ∀ x ∈ l, x < n) : ∀ s : Stp, Inn n s → low1 (fndAll n l p) s = low1 p s
  | .fnd z, i => by
    rw [Inn] at i
    rw [low1, low1]
    have hz : z.toNat < n := by omega
    by_cases e : p z.toNat = z.toNat
    · rw [if_pos e, if_pos ((behind_iff F h _ hz).mpr e)]
    · rw [if_neg e, if_neg (fun y => e ((behind_iff F h _ hz).mp y))]
  | .lnk _ _, _ => by rw [low1, low1]
  | .rnd k _ ss, i => by
    rw [Inn] at i
    rw [low1, low1, lows_behind F h ss i]
theorem lows_behind (F : Fo n p r) {l : List Nat} (h : ∀ x ∈ l, x < n) : ∀ ss : List Stp, Inns n ss → lows (fndAll n l p) ss = lows p ss
  | [], _ => by rw [lows, lows]
  | s :: r, i => by
    rw [Inns] at i
    rw [lows, lows, low1_behind F h s i.1, lows_behind F h r i.2]
end
theorem costs_append (n : Nat) : ∀ (l m : List Nat) (p : Nat → Nat), costs n (l ++ m) p = costs n l p ++ costs n m (fndAll n l p)
  | [], _, _ => rfl
  | x :: l, m, p => by show _ :: costs n (l ++ m) (fnd n p x) = _; rw [costs_append n l m (fnd n p x)]; rfl
/-- what is beyond one for each find of a node that is no root -/
def ovr (n : Nat) (l : List Nat) (p : Nat → Nat) : Int := ((costs n l p).sum : Int) - ((l.map (low p)).sum : Int)
theorem ovr_app (F : Fo n p r) {l m : List Nat} (hl : ∀ x ∈ l, x < n) (hm : ∀ x ∈ m, x < n) : ovr n (l ++ m) p = ovr n l p + ovr n m (fndAll n l p) := by
  unfold ovr
  rw [costs_append, List.sum_append, List.map_append, List.sum_append]
  have e : m.map (low (fndAll n l p)) = m.map (low p) := List.map_congr_left fun v hv => low_behind F hl (hm v hv)
  rw [e]
  omega
theorem ovr_cnt (F : Fo n p r) {l : List Nat} (h : ∀ x ∈ l, x < n) : ovr n l p = (((List.range n).countP fun v => deep p v && markB n p l v : Nat) : Int) := by
  unfold ovr
  rw [cost_total F l h]; omega
end
mutual
theorem round1 {n : Nat} : ∀ (s : Stp) {p r : Nat → Nat}, Fo n p r → Wf false s → Inn n s → stepR n s p = .ok (fndAll n (nd1 s) p, low1 p s + ovr n (nd1 s) p)
  | .fnd z, p, r, F, w, i => by
    rw [Inn] at i
    rw [stepR, if_pos i, nd1, low1]
    unfold ovr
    show Rs.ok (fnd n p z.toNat, _) = Rs.ok (fnd n p z.toNat, _)
    have e1 : (costs n [z.toNat] p).sum = (ups p n z.toNat).length := by show [(ups p n z.toNat).length].sum = _; simp
    have e2 : ([z.toNat].map (low p)).sum = low p z.toNat := by simp
    rw [e1, e2]
    unfold low
    congr 2
    by_cases e : p z.toNat = z.toNat
    · rw [if_pos e, if_pos e]; omega
    · rw [if_neg e, if_neg e]; omega
  | .lnk _ _, p, r, F, w, i => by rw [Wf] at w; cases w
  | .rnd k kd ss, p, r, F, w, i => by
    rw [Wf] at w
    rw [Inn] at i
    rw [stepR, nd1, low1]
    by_cases hk : k = 0
    · rw [if_pos hk, if_neg (by omega), if_neg (by omega)]
      unfold ovr
      rfl
    · have hk1 : 0 < k := by have := w.1; omega
      rw [if_neg hk, if_pos hk1, if_pos hk1, rounds ss F w.2.2 i]
      simp only
      rw [lows_behind F (nds_lt ss i) ss i]
      congr 2
      rw [Int.sub_mul, Int.one_mul]
      omega
theorem rounds {n : Nat} : ∀ (l : List Stp) {p r : Nat → Nat}, Fo n p r → Wfs false l → Inns n l → stepsR n l p = .ok (fndAll n (nds l) p, lows p l + ovr n (nds l) p)
  | [], p, r, F, w, i => by
    rw [stepsR_nil, nds, lows]
    unfold ovr
    rfl
  | s :: l, p, r, F, w, i => by
    rw [Wfs] at w
    rw [Inns] at i
    have h1 := nd1_lt s i.1
    have h2 := nds_lt l i.2
    have G := fndAll_fo F (nd1 s) h1 p F
    rw [stepsR_cons, round1 s F w.1 i.1]
    unfold Rs.seq
    simp only
    rw [rounds l G w.2 i.2]
    simp only
    rw [nds, lows, fndAll_append, ovr_app F h1 h2, lows_behind F h1 l i.2]
    congr 2
    omega
end
/-! sums over the nodes -/
def sumR (n : Nat) (f : Nat → Int) : Int := ((List.range n).map f).sum
theorem sumR_succ (n : Nat) (f : Nat → Int) : sumR (n + 1) f = sumR n f + f n := by
  unfold sumR
  rw [List.range_succ, List.map_append, List.sum_append]; simp
theorem sumR_add (f g : Nat → Int) : ∀ n, sumR n (fun v => f v + g v) = sumR n f + sumR n g
  | 0 => rfl
  | n + 1 => by rw [sumR_succ, sumR_succ, sumR_succ, sumR_add f g n]; omega
theorem sumR_mul (k : Int) (f : Nat → Int) : ∀ n, sumR n (fun v => k * f v) = k * sumR n f
  | 0 => by show (0 : Int) = k * 0; rw [Int.mul_zero]
  | n + 1 => by rw [sumR_succ, sumR_succ, sumR_mul k f n, Int.mul_add]
theorem sumR_congr {f g : Nat → Int} : ∀ n, (∀ v, v < n → f v = g v) → sumR n f = sumR n g
  | 0, _ => rfl
  | n + 1, h => by rw [sumR_succ, sumR_succ, sumR_congr n fun v hv => h v (by omega), h n (by omega)]
theorem sumR_zero : ∀ n, sumR n (fun _ => 0) = 0
  | 0 => rfl
  | n + 1 => by rw [sumR_succ, sumR_zero n]; rfl
theorem sumR_one {u : Nat} (g : Nat → Int) : ∀ n, sumR n (fun v => (if u = v then 1 else 0) * g v) = if u < n then g u else 0
  | 0 => rfl
  | n + 1 => by
    rw [sumR_succ, sumR_one g n]
    by_cases h : u < n
    · have h1 : u ≠ n := by omega
      have h2 : u < n + 1 := by omega
      rw [if_pos h, if_pos h2, if_neg h1]; omega
    · rw [if_neg h]
      by_cases e : u = n
      · have h2 : u < n + 1 := by omega
        rw [if_pos e, if_pos h2, e]; omega
      · have h2 : ¬ u < n + 1 := by omega
        rw [if_neg e, if_neg h2]; omega
mutual
theorem sum_low1 {top : Bool} {n : Nat} (g : Nat → Int) : ∀ s : Stp, Wf top s → Inn n s → sumR n (fun v => tl1 v s * g v) = match s with
    | .fnd z => g z.toNat
    | .lnk _ _ => 0
    | .rnd k _ ss => k * sumR n (fun v => tls v ss * g v)
  | .fnd z, _, i => by
    rw [Inn] at i
    have : (fun v => tl1 v (.fnd z) * g v) = fun v => (if z.toNat = v then 1 else 0) * g v := funext fun v => by rw [tl1]
    rw [this, sumR_one, if_pos (by omega)]
  | .lnk c a, _, _ => by
    have : (fun v => tl1 v (.lnk c a) * g v) = fun v => 0 := funext fun v => by rw [tl1, Int.zero_mul]
    rw [this]; exact sumR_zero n
  | .rnd k kd ss, _, _ => by
    have : (fun v => tl1 v (.rnd k kd ss) * g v) = fun v => k * (tls v ss * g v) := funext fun v => by rw [tl1, Int.mul_assoc]
    rw [this, sumR_mul]
end
theorem sum_cons {n : Nat} (g : Nat → Int) (s : Stp) (l : List Stp) : sumR n (fun v => tls v (s :: l) * g v) = sumR n (fun v => tl1 v s * g v) + sumR n (fun v => tls v l * g v) := by
  rw [← sumR_add]
  exact sumR_congr n fun v _ => by rw [tls, Int.add_mul]
mutual
theorem low1_sum {top : Bool} {n : Nat} (p : Nat → Nat) : ∀ s : Stp, Wf top s → Inn n s → low1 p s = sumR n (fun v => tl1 v s * (low p v : Int))
  | .fnd z, w, i => by
    rw [sum_low1 (top := top) _ (.fnd z) w i, low1]
    show _ = ((low p z.toNat : Nat) : Int)
    unfold low
    split <;> rfl
  | .lnk c a, w, i => by rw [sum_low1 (top := top) _ (.lnk c a) w i, low1]
  | .rnd k kd ss, w, i => by
    rw [sum_low1 (top := top) _ (.rnd k kd ss) w i, low1]
    rw [Wf] at w
    rw [Inn] at i
    show _ = k * sumR n (fun v => tls v ss * (low p v : Int))
    rw [← lows_sum p ss w.2.2 i]
    by_cases hk : 0 < k
    · rw [if_pos hk]
    · have : k = 0 := by have := w.1; omega
      rw [if_neg hk, this, Int.zero_mul]
theorem lows_sum {top : Bool} {n : Nat} (p : Nat → Nat) : ∀ l : List Stp, Wfs top l → Inns n l → lows p l = sumR n (fun v => tls v l * (low p v : Int))
  | [], _, _ => by
    rw [lows]
    have : (fun v => tls v [] * (low p v : Int)) = fun v => 0 := funext fun v => by rw [tls, Int.zero_mul]
    rw [this, sumR_zero]
  | s :: l, w, i => by
    rw [Wfs] at w
    rw [Inns] at i
    rw [lows, sum_cons, low1_sum p s w.1 i.1, lows_sum p l w.2 i.2]
end
mutual
theorem nFnd_sum {top : Bool} {n : Nat} : ∀ s : Stp, Wf top s → Inn n s → nFnd s = sumR n (fun v => tl1 v s * 1)
  | .fnd z, w, i => by rw [sum_low1 (top := top) _ (.fnd z) w i, nFnd]
  | .lnk c a, w, i => by rw [sum_low1 (top := top) _ (.lnk c a) w i, nFnd]
  | .rnd k kd ss, w, i => by
    rw [sum_low1 (top := top) _ (.rnd k kd ss) w i, nFnd]
    rw [Wf] at w
    rw [Inn] at i
    show _ = k * sumR n (fun v => tls v ss * 1)
    rw [← nFnds_sum ss w.2.2 i]
theorem nFnds_sum {top : Bool} {n : Nat} : ∀ l : List Stp, Wfs top l → Inns n l → nFnds l = sumR n (fun v => tls v l * 1)
  | [], _, _ => by
    rw [nFnds]
    have : (fun v => tls v [] * 1) = fun v => (0 : Int) := funext fun v => by rw [tls, Int.zero_mul]
    rw [this, sumR_zero]
  | s :: l, w, i => by
    rw [Wfs] at w
    rw [Inns] at i
    rw [nFnds, sum_cons (fun _ => 1), nFnd_sum s w.1 i.1, nFnds_sum l w.2 i.2]
end
/-- the nodes that are found, ascending -/
def fns (n : Nat) (l : List Stp) : List Nat := (List.range n).filter fun v => decide (0 < tls v l)
theorem fns_mem {top : Bool} {n : Nat} {l : List Stp} (w : Wfs top l) (i : Inns n l) (v : Nat) : v ∈ fns n l ↔ v ∈ nds l := by
  unfold fns
  rw [List.mem_filter, List.mem_range, decide_eq_true_iff, (tls_facts v l w).2.1]
  exact ⟨fun h => h.2, fun h => ⟨nds_lt l i v h, h⟩⟩
theorem fns_lt {n : Nat} {l : List Stp} : ∀ x ∈ fns n l, x < n := fun x h => List.mem_range.mp (List.mem_filter.mp h).1
theorem sum_filter {n : Nat} (f : Nat → Int) (b : Nat → Bool) : (((List.range n).filter b).map f).sum = sumR n (fun v => if b v = true then f v else 0) := by
  unfold sumR
  induction n with
  | zero => rfl
  | succ n ih =>
    rw [List.range_succ, List.filter_append, List.map_append, List.sum_append, ih, List.map_append, List.sum_append]
    congr 1
    by_cases e : b n = true
    · simp [e]
    · simp [e]
section
variable {n : Nat} {p r : Nat → Nat}
theorem fns_sum {top : Bool} {l : List Stp} (w : Wfs top l) (i : Inns n l) : ((fns n l).map fun v => tls v l).sum = nFnds l := by
  unfold fns
  rw [sum_filter, nFnds_sum l w i]
  refine sumR_congr n fun v _ => ?_
  rw [Int.mul_one]
  by_cases e : 0 < tls v l
  · rw [decide_eq_true e, if_pos rfl]
  · rw [decide_eq_false e, if_neg (by simp)]
    have := (tls_facts v l w).1
    omega
theorem fns_low {top : Bool} {l : List Stp} (w : Wfs top l) (i : Inns n l) : (((fns n l).filter fun v => !decide (p v = v)).map fun v => tls v l).sum = lows p l := by
  unfold fns
  rw [List.filter_filter, sum_filter, lows_sum p l w i]
  refine sumR_congr n fun v _ => ?_
  have h0 := (tls_facts v l w).1
  unfold low
  by_cases e : p v = v
  · rw [if_pos e, decide_eq_true e]
    show (if (false && _) = true then _ else _) = _
    rw [Bool.false_and, if_neg (by simp)]
    simp
  · rw [if_neg e, decide_eq_false e]
    show (if (true && _) = true then _ else _) = _
    rw [Bool.true_and]
    by_cases z : 0 < tls v l
    · rw [decide_eq_true z, if_pos rfl]; simp
    · rw [decide_eq_false z, if_neg (by simp)]
      have : tls v l = 0 := by omega
      rw [this]; simp
theorem chg_deep (F : Fo n p r) {l : List Nat} (h : ∀ x ∈ l, x < n) (v : Nat) (hv : v < n) : decide (fndAll n l p v ≠ p v) = (deep p v && markB n p l v) := by
  rw [behind_eq F l h v hv, Bool.eq_iff_iff, decide_eq_true_iff, Bool.and_eq_true]
  unfold deep
  rw [decide_eq_true_iff]
  by_cases m : markB n p l v = true
  · rw [if_pos m]
    have pv := F.lt v hv
    constructor
    · refine fun z => ⟨fun e => z ?_, m⟩
      by_cases e2 : p v = v
      · rw [root_of e2, e2]
      · rw [root_n F hv e2, root_of e]
    · rintro ⟨z, _⟩ e
      exact z (by rw [← e]; exact root_fix F v hv)
  · rw [if_neg m]
    exact ⟨fun z => absurd rfl z, fun z => absurd z.2 m⟩
/-- the first run -/
theorem run_one {l : List Stp} (F : Fo n p r) (w : Wfs false l) (i : Inns n l) : ∃ q, stepsR n l p = .ok (q, lows p l + (((List.range n).filter fun v => !decide (fndAll n (fns n l) p v = p v)).length : Nat)) ∧ ∀ v, v < n → q v = fndAll n (fns n l) p v := by
  refine ⟨_, ?_, fun v hv => behind_same F fns_lt (fns_mem w i) v hv⟩
  rw [rounds l F w i, ovr_cnt F (nds_lt l i)]
  congr 3
  rw [List.countP_eq_length_filter]
  congr 2
  refine List.filter_congr fun v hv => ?_
  have hv := List.mem_range.mp hv
  rw [← mark_same (fns_mem w i) v, ← chg_deep F fns_lt v hv]
  simp
/-- the second run -/
theorem run_two {l : List Stp} (F : Fo n p r) (w : Wfs false l) (i : Inns n l) : ∃ q, stepsR n l (fndAll n (fns n l) p) = .ok (q, lows p l) ∧ ∀ v, v < n → q v = fndAll n (fns n l) p v := by
  have hf := fns_lt (n := n) (l := l)
  have G := fndAll_fo F (fns n l) hf p F
  have hN := nds_lt l i
  refine ⟨fndAll n (nds l) (fndAll n (fns n l) p), ?_, fun v hv => ?_⟩
  · rw [rounds l G w i, ovr_cnt G hN, lows_behind F hf l i]
    have z : (List.range n).countP (fun v => deep (fndAll n (fns n l) p) v && markB n (fndAll n (fns n l) p) (nds l) v) = 0 := by
      rw [List.countP_eq_zero]
      intro v hv h
      have hv := List.mem_range.mp hv
      rw [Bool.and_eq_true] at h
      obtain ⟨x, hx, hm⟩ := mark_iff.mp h.2
      have hxf := (fns_mem w i x).mpr hx
      have hm2 := behind_ups F hf (hN x hx) hm
      have mk : markB n p (fns n l) v = true := mark_iff.mpr ⟨x, hxf, hm2⟩
      have e : fndAll n (fns n l) p v = root p n v := by rw [behind_eq F _ hf v hv, if_pos mk]
      have hd := h.1
      unfold deep at hd
      refine (of_decide_eq_true hd) ?_
      rw [e]
      exact behind_root F hf _ (root_lt F v hv) (root_fix F v hv)
    rw [z]
    congr 2
    omega
  · rw [← fndAll_append]
    refine behind_same F hf (fun x => ?_) v hv
    rw [List.mem_append]
    exact ⟨fun h => .inl h, fun h => h.elim id fun h => (fns_mem w i x).mpr h⟩
end
end Ff

/-! Rounds written out in full. -/
namespace Ff
mutual
def wr1 : Stp → List Stp
  | .fnd z => [.fnd z]
  | .lnk c a => [.lnk c a]
  | .rnd k _ ss => if 0 < k * nFnds ss then (List.replicate k.toNat (wrs ss)).flatten else []
def wrs : List Stp → List Stp
  | [] => []
  | s :: r => wr1 s ++ wrs r
end
theorem wrs_app : ∀ l k : List Stp, wrs (l ++ k) = wrs l ++ wrs k
  | [], k => by rw [List.nil_append, wrs, List.nil_append]
  | x :: l, k => by rw [List.cons_append, wrs, wrs, wrs_app l k, List.append_assoc]
theorem wrs_take {l : List Stp} {i : Nat} {s : Stp} (h : l[i]? = some s) : wrs (l.take (i + 1)) = wrs (l.take i) ++ wr1 s := by
  rw [take_snoc h, wrs_app, wrs, wrs, List.append_nil]
theorem wrs_take_le (ss : List Stp) (i : Nat) : (wrs (ss.take i)).length ≤ (wrs ss).length := by
  have h := wrs_app (ss.take i) (ss.drop i)
  rw [List.take_append_drop] at h
  rw [h, List.length_append]
  omega
/-- the number of links -/
def nLk (l : List Stp) : Nat := (l.filter fun s => match s with | .lnk _ _ => true | _ => false).length
mutual
theorem wr1_len : ∀ s : Stp, Wf false s → ((wr1 s).length : Int) = nFnd s
  | .fnd _, _ => by rw [wr1, nFnd]; rfl
  | .lnk _ _, w => by rw [Wf] at w; cases w
  | .rnd k _ ss, w => by
    rw [Wf] at w
    rw [wr1, nFnd]
    have h := wrs_len ss w.2.2
    by_cases z : 0 < k * nFnds ss
    · rw [if_pos z, List.length_flatten, List.map_replicate, List.sum_replicate_nat, Int.natCast_mul, h]
      congr 1
      have := w.1
      omega
    · rw [if_neg z]
      have h1 := Int.mul_nonneg w.1 (nFnds_nonneg ss w.2.2)
      show (0 : Int) = _
      omega
theorem wrs_len : ∀ l : List Stp, Wfs false l → ((wrs l).length : Int) = nFnds l
  | [], _ => by rw [wrs, nFnds]; rfl
  | s :: r, w => by
    rw [Wfs] at w
    rw [wrs, nFnds, List.length_append, Int.natCast_add, wr1_len s w.1, wrs_len r w.2]
end
theorem wrs_le : ∀ l : List Stp, Wfs true l → ((wrs l).length : Int) ≤ nFnds l + l.length
  | [], _ => by rw [wrs, nFnds]; decide
  | s :: r, w => by
    rw [Wfs] at w
    have h := wrs_le r w.2
    rw [wrs, nFnds, List.length_append, Int.natCast_add, List.length_cons]
    have h1 : ((wr1 s).length : Int) ≤ nFnd s + 1 := by
      cases s with
      | fnd z => rw [wr1, nFnd]; simp
      | lnk c a => rw [wr1, nFnd]; simp
      | rnd k kd ss =>
        have w1 := w.1
        rw [Wf] at w1
        have := wr1_len (.rnd k kd ss) (by rw [Wf]; exact w1)
        omega
    omega
mutual
theorem none1 {n : Nat} {p : Nat → Nat} : ∀ s : Stp, Wf false s → nFnd s = 0 → stepR n s p = .ok (p, 0)
  | .fnd _, _, h => by rw [nFnd] at h; omega
  | .lnk _ _, w, _ => by rw [Wf] at w; cases w
  | .rnd k kd ss, w, h => by
    rw [Wf] at w
    rw [nFnd] at h
    rw [stepR]
    by_cases hk : k = 0
    · rw [if_pos hk]
    · have h0 : nFnds ss = 0 := by
        rcases Int.mul_eq_zero.mp h with z | z
        · exact absurd z hk
        · exact z
      rw [if_neg hk, nones ss w.2.2 h0]
      simp only
      have l := lows_le p ss w.2.2
      have : lows p ss = 0 := by omega
      rw [this, Int.mul_zero, Int.add_zero]
theorem nones {n : Nat} {p : Nat → Nat} : ∀ l : List Stp, Wfs false l → nFnds l = 0 → stepsR n l p = .ok (p, 0)
  | [], _, _ => stepsR_nil n p
  | s :: r, w, h => by
    rw [Wfs] at w
    rw [nFnds] at h
    have h1 := nFnd_nonneg s w.1
    have h2 := nFnds_nonneg r w.2
    rw [stepsR_cons, none1 s w.1 (by omega), one_seq]
    exact nones r w.2 (by omega)
end
theorem rep_run {n : Nat} {ss : List Stp} {p r q : Nat → Nat} {c : Int} (F : Fo n p r) (w : Wfs false ss) (h : stepsR n ss p = .ok (q, c)) : ∀ k : Nat, stepsR n (List.replicate (k + 1) ss).flatten p = .ok (q, c + (k : Int) * lows q ss)
  | 0 => by
    rw [List.replicate_one, List.flatten_singleton, h]
    congr 2
    omega
  | k + 1 => by
    rw [List.replicate_succ', List.flatten_append, stepsR_app, rep_run F w h k]
    unfold Rs.seq
    simp only
    rw [List.flatten_singleton, again_steps F w h]
    simp only
    congr 2
    rw [Int.natCast_add, Int.add_mul]
    omega
mutual
theorem wr1_run {n : Nat} {top : Bool} : ∀ (s : Stp) {p r q : Nat → Nat} {c : Int}, Fo n p r → Wf top s → stepR n s p = .ok (q, c) → stepsR n (wr1 s) p = .ok (q, c)
  | .fnd z, p, r, q, c, F, w, h => by
    rw [wr1, stepsR_cons, h]
    unfold Rs.seq
    simp only
    rw [stepsR_nil]
    simp only
    rw [Int.add_zero]
  | .lnk x a, p, r, q, c, F, w, h => by
    rw [wr1, stepsR_cons, h]
    unfold Rs.seq
    simp only
    rw [stepsR_nil]
    simp only
    rw [Int.add_zero]
  | .rnd k kd ss, p, r, q, c, F, w, h => by
    rw [Wf] at w
    rw [wr1]
    by_cases z : 0 < k * nFnds ss
    · rw [if_pos z]
      have hk : k ≠ 0 := fun e => by rw [e, Int.zero_mul] at z; omega
      rw [stepR, if_neg hk] at h
      cases e : stepsR n ss p with
      | er e2 => rw [e] at h; cases h
      | ok a =>
        obtain ⟨q1, c1⟩ := a
        rw [e] at h
        have e3 := wrs_run ss F w.2.2 e
        have wfw : Wfs false (wrs ss) := wfs_of fun s hs => wrs_wf ss w.2.2 s hs
        obtain ⟨m, hm⟩ : ∃ m : Nat, k.toNat = m + 1 := ⟨k.toNat - 1, by have := w.1; omega⟩
        rw [hm, rep_run F wfw e3 m]
        injection h with h
        injection h with h1 h2
        rw [← h1, ← h2, lows_wrs ss w.2.2]
        have : ((m : Nat) : Int) = k - 1 := by have := w.1; omega
        rw [this]
    · rw [if_neg z, stepsR_nil]
      have h0 : nFnd (.rnd k kd ss) = 0 := by
        rw [nFnd]
        have := Int.mul_nonneg w.1 (nFnds_nonneg ss w.2.2)
        omega
      rw [none1 (.rnd k kd ss) (by rw [Wf]; exact w) h0] at h
      exact h
theorem wrs_run {n : Nat} {top : Bool} : ∀ (l : List Stp) {p r q : Nat → Nat} {c : Int}, Fo n p r → Wfs top l → stepsR n l p = .ok (q, c) → stepsR n (wrs l) p = .ok (q, c)
  | [], p, r, q, c, F, w, h => by rw [wrs]; exact h
  | s :: l, p, r, q, c, F, w, h => by
    rw [Wfs] at w
    rw [stepsR_cons] at h
    rw [wrs, stepsR_app]
    cases e : stepR n s p with
    | er e2 => rw [e] at h; cases h
    | ok a =>
      obtain ⟨q1, c1⟩ := a
      obtain ⟨r1, F1⟩ := stepR_fo s F e
      rw [wr1_run s F w.1 e]
      rw [e] at h
      cases e2 : stepsR n l q1 with
      | er e3 => unfold Rs.seq at h; simp [e2] at h
      | ok b =>
        obtain ⟨q2, c2⟩ := b
        have := wrs_run l F1 w.2 e2
        unfold Rs.seq at h ⊢
        simp only [e2] at h
        simp only [this]
        exact h
theorem wr1_wf : ∀ (s : Stp), Wf false s → ∀ t ∈ wr1 s, Wf false t
  | .fnd z, _, t, h => by
    rw [wr1, List.mem_singleton] at h
    rw [h, Wf]; trivial
  | .lnk _ _, w, t, h => by rw [Wf] at w; cases w
  | .rnd k _ ss, w, t, h => by
    rw [Wf] at w
    rw [wr1] at h
    by_cases z : 0 < k * nFnds ss
    · rw [if_pos z, List.mem_flatten] at h
      obtain ⟨l, hl, ht⟩ := h
      rw [(List.mem_replicate.mp hl).2] at ht
      exact wrs_wf ss w.2.2 t ht
    · rw [if_neg z] at h; cases h
theorem wrs_wf : ∀ (l : List Stp), Wfs false l → ∀ t ∈ wrs l, Wf false t
  | [], _, t, h => by rw [wrs] at h; cases h
  | s :: r, w, t, h => by
    rw [Wfs] at w
    rw [wrs, List.mem_append] at h
    rcases h with h | h
    · exact wr1_wf s w.1 t h
    · exact wrs_wf r w.2 t h
theorem low1_wr {q : Nat → Nat} : ∀ (s : Stp), Wf false s → lows q (wr1 s) = low1 q s
  | .fnd z, _ => by rw [wr1, lows, lows, Int.add_zero]
  | .lnk _ _, w => by rw [Wf] at w; cases w
  | .rnd k _ ss, w => by
    rw [Wf] at w
    rw [wr1, low1]
    have rep : ∀ m : Nat, lows q (List.replicate m (wrs ss)).flatten = (m : Int) * lows q ss := fun m => by
      induction m with
      | zero => rw [List.replicate_zero, List.flatten_nil, lows]; omega
      | succ m ih => rw [List.replicate_succ, List.flatten_cons, lows_app, ih, lows_wrs ss w.2.2, Int.natCast_add, Int.add_mul]; omega
    by_cases z : 0 < k * nFnds ss
    · have hk : 0 < k := by
        have := w.1
        rcases Int.lt_or_eq_of_le this with y | y
        · exact y
        · rw [← y, Int.zero_mul] at z; omega
      rw [if_pos z, if_pos hk, rep]
      congr 1
      omega
    · rw [if_neg z, lows]
      by_cases hk : 0 < k
      · rw [if_pos hk]
        have l := lows_le q ss w.2.2
        have h0 := nFnds_nonneg ss w.2.2
        have : nFnds ss = 0 := by
          rcases Int.lt_or_eq_of_le h0 with y | y
          · exact absurd (Int.mul_pos hk y) z
          · exact y.symm
        have : lows q ss = 0 := by omega
        rw [this, Int.mul_zero]
      · rw [if_neg hk]
theorem lows_wrs {q : Nat → Nat} : ∀ (l : List Stp), Wfs false l → lows q (wrs l) = lows q l
  | [], _ => by rw [wrs]
  | s :: r, w => by
    rw [Wfs] at w
    rw [wrs, lows_app, lows, low1_wr s w.1, lows_wrs r w.2]
end
end Ff

namespace ExX
open PySem PySem.Spec PyProof.Rows L2 Builtin.ObjectAttr
/-- an own class over some built-in exception, its instances having a dict -/
structure ExB (K : PySem.W.Frag) (C : Addr) (nid : String) (tl : List Value) : Prop where
  ini : PySem.W.excInitIn K C tl nid = true
  ov : PySem.W.excOver K C tl = true
  hdt : PySem.W.hasDictIn K C = true
  sat : PySem.W.findIn K (.ref C) "__setattr__" = some (some (.builtin "object.__setattr__"))
  sub : PySem.W.subIn K (.ref C) (.type "BaseException") = some true
  typ : PySem.W.typeIn K (.ref C) = some (.type "type")
  kep : PySem.W.keepIn K (.ref C) = true
def exB (K : PySem.W.Frag) (C : Addr) (nid : String) (tl : List Value) : Bool :=
  PySem.W.excInitIn K C tl nid && PySem.W.excOver K C tl && PySem.W.hasDictIn K C && decide (PySem.W.findIn K (.ref C) "__setattr__" = some (some (.builtin "object.__setattr__"))) && decide (PySem.W.subIn K (.ref C) (.type "BaseException") = some true) &&
    decide (PySem.W.typeIn K (.ref C) = some (.type "type")) && PySem.W.keepIn K (.ref C)
theorem exB_ok {K : PySem.W.Frag} {C : Addr} {nid : String} {tl : List Value} (h : exB K C nid tl = true) : ExB K C nid tl := by
  unfold exB at h
  simp only [Bool.and_eq_true, decide_eq_true_eq] at h
  obtain ⟨⟨⟨⟨⟨⟨a, b⟩, c⟩, d⟩, e⟩, f⟩, g⟩ := h
  exact ⟨a, b, c, d, e, f, g⟩
section
variable {prog : Program} {w : World} {A : Around} {R : Result → Shared → Prop} {hp : Heap} {g : Array GenState} {dr : Drawn} {tk0 : Nat} {os : OsState} {K : PySem.W.Frag} {B nid : String} {tl : List Value} {x C t1 : Addr} {nm : Str} {tk : Tok} {v : Value}
theorem sa_new (SB : StoreFacts B tl "object.__setattr__" "object") (X : K.In hp) (T : ExB K C nid tl) (hx : hp.get? x = some (PySem.W.excObj C t1 none .none)) (ha : PySem.W.findIn K (.ref C) nm = some none)
    (hq : ∀ h2 tk2 dx, (∀ b o, b ≠ x → hp.get? b = some o → h2.get? b = some o) → hp.objs.size ≤ dx → dx ≠ x → h2.get? x = some (PySem.W.excObj C t1 (some dx) .none) →
      h2.Ns1 dx (fun y => if y = nm then some v else none) → R (.ok (.ret .none)) ⟨h2, g, dr, tk2, os⟩) :
    codeAny (model prog w) A (.call (.builtin "object.__setattr__") ⟨[.ref x, .str nm tk, v], []⟩) R ⟨hp, g, dr, tk0, os⟩ := by
  refine PySem.W.osa_openX (od := none) (r := none) SB X ⟨hx, rfl, rfl, trivial⟩ T.ov (by unfold PySem.W.takerIn; rw [ha]; rfl) fun b => ?_
  obtain ⟨cd, hc, hd2⟩ := PySem.W.any_some T.hdt
  have hxs : x ≠ hp.objs.size := Nat.ne_of_lt (Heap.lt_size hx)
  refine wpAny_bind (wpAny_pure (wpAny_bind (PySem.W.instanceDict_exc hx (PySem.W.looks_clsIn X hc) hd2 ?_)))
  show wpAny _ _ (storeInDict hp.objs.size (.str nm tk) nm v) _ _ _
  refine HandSPX.store_in_new ?_ ?_
  · exact ⟨_, #[], _, (Heap.get?_update_ne _ _ _ _ hxs.symm).trans (Heap.get?_push_at rfl rfl), rfl, fun e he => absurd he (by simp), fun _ => rfl⟩
  · intro h2 tk2 hn hs
    have hx1 := Heap.get?_push_of_some (h := hp) (PySem.W.dictOf [] 0) hx
    refine hq h2 tk2 hp.objs.size (fun b o hb ho => ?_) (Nat.le_refl _) hxs.symm ?_ hn
    · exact (hs.2 b (Nat.ne_of_lt (Heap.lt_size ho))).trans ((Heap.get?_update_ne _ _ _ _ hb).trans (Heap.get?_push_of_some _ ho))
    · exact (hs.2 x hxs).trans (Heap.get?_update_self _ hx1 rfl)
theorem sa_old {dx : Addr} {m0 : Str → Option Value} {nl : List Str} (SB : StoreFacts B tl "object.__setattr__" "object") (X : K.In hp) (T : ExB K C nid tl) (hx : hp.get? x = some (PySem.W.excObj C t1 (some dx) .none)) (hns : hp.Ns1 dx m0) (hw : Within m0 nl) (hz : nl.length ≤ 1000)
    (ha : PySem.W.findIn K (.ref C) nm = some none)
    (hq : ∀ h2 tk2, (∀ b o, b ≠ dx → hp.get? b = some o → h2.get? b = some o) → h2.Ns1 dx (fun y => if y = nm then some v else m0 y) → R (.ok (.ret .none)) ⟨h2, g, dr, tk2, os⟩) :
    codeAny (model prog w) A (.call (.builtin "object.__setattr__") ⟨[.ref x, .str nm tk, v], []⟩) R ⟨hp, g, dr, tk0, os⟩ := by
  obtain ⟨oD, esD, epD, hoD, hdD, _⟩ := hns.count hw
  refine PySem.W.osa_openX (od := some oD) (r := none) SB X ⟨hx, rfl, rfl, hoD⟩ T.ov (by unfold PySem.W.takerIn; rw [ha]; rfl) fun b => ?_
  show wpAny _ _ (storeInOwnDict (.ref x) (.ref C) (.str nm tk) nm v b) _ _ _
  obtain ⟨cd, hc, hd2⟩ := PySem.W.any_some T.hdt
  have lc : PySem.W.Looks (model prog w) hp (classData C) cd := PySem.W.looks_clsIn X hc
  obtain ⟨c1, c2, c3, c4, c5, c6, c7, c8, c9, c10, c11⟩ := cd
  dsimp only at hd2
  subst hd2
  unfold storeInOwnDict ownDictForStores
  repeat (first | with_reducible refine PySem.OEX.store_in_old hns hw hz ?_ | with_reducible refine wpAny_loadPart_at hx ?_ | with_reducible refine lc.at ?_ | wp_step)
  intro h2 tk2 hn hs
  exact hq h2 tk2 (fun b o hb ho => (hs.2 b hb).trans ho) hn
end
section
variable {X : Cx} {pins : List (Addr × Obj)} {σ : L2.St} {H : Hp} {s : Shared} {a C dx : Addr} {f : Str} {y : V} {u : Value} {fs : List (Str × V)} {Q : Unit → Shared → Prop} {E : Value → Shared → Prop} {A : Around} {B nid iid : String} {tl : List Value}
/-- the object at a gets its dict at dx -/
theorem inv_dict {hp h2 : Heap} {g : Array GenState} {dr : Drawn} {tk tk2 : Nat} {os : OsState} {t1 : Addr} (I : Inv X pins σ H ⟨hp, g, dr, tk, os⟩) (e : H a = some (exo a C none)) (ry : RelV y u) (k : ∀ b o, b ≠ a → hp.get? b = some o → h2.get? b = some o) (dn : hp.objs.size ≤ dx)
    (hx : h2.get? a = some (PySem.W.excObj C t1 (some dx) .none)) (hn : h2.Ns1 dx (fun y => if y = f then some u else none)) : Inv X pins σ (upd (upd H dx (exd dx [(f, y)])) a (exo a C (some dx))) ⟨h2, g, dr, tk2, os⟩ := by
  have fresh : H dx = none := I.hok.fresh dn
  have old_ne : ∀ {b : Addr} {o : Obj}, hp.get? b = some o → b ≠ dx := fun {b o} q => Nat.ne_of_lt (Nat.lt_of_lt_of_le (Heap.lt_size q) dn)
  have free_ne : ∀ {b : Addr}, H b = none → b ≠ a := fun {b} n z => by
    subst z
    rw [e] at n
    cases n
  have look : ∀ {b : Addr} {o : HO}, H b = some o → b ≠ a → upd (upd H dx (exd dx [(f, y)])) a (exo a C (some dx)) b = some o := fun {b o} q hb => by rw [upd_ne hb, upd_ne (ne_of_none q fresh)]; exact q
  refine I.un (t' := tk2) ⟨fun b o q n _ _ => k b o (free_ne n) q, fun b o q n _ _ => ⟨o.slots, k b o (free_ne n) q⟩, fun b o q n _ => ?_, fun b o q _ => ?_, fun b xs q => look q (at_ne e q exo_tup), fun b o v q => look q (at_ne e q exo_frz), fun b ps q => ⟨#[], ?_⟩⟩ fun b o q => ?_
  · rw [upd_ne (free_ne n), upd_ne (old_ne q)]
    exact n
  · by_cases hb : b = a
    · exact ⟨_, hb ▸ hx⟩
    · exact ⟨o, k b o hb q⟩
  · rw [look q (at_ne e q exo_tbl)]
    simp
  · by_cases hb : b = a
    · rw [hb, upd_same] at q
      rw [hb, ← Option.some.inj q]
      exact exo_ok hx
    rw [upd_ne hb] at q
    by_cases hd : b = dx
    · rw [hd, upd_same] at q
      rw [hd, ← Option.some.inj q]
      exact exd_ok hn (relO_put (fs := []) ry fun _ => True.intro)
    rw [upd_ne hd] at q
    refine (I.hok b o q).stay (fun c v hc z => k c v ?_ z) (fun c hc => look hc (at_ne e hc exo_own)) fun c xs hc => look hc (at_ne e hc exo_tup)
    rcases hc with hc | hc
    · exact hc ▸ hb
    · exact at_ne e hc exo_own
theorem st_new (SB : StoreFacts B tl "object.__setattr__" "object") (T : ExB X.K C nid tl) (I : Inv X pins σ H s) (e : H a = some (exo a C none)) (hno : PySem.W.findIn X.K (.ref C) f = some none) (ry : RelV y u)
    (h : ∀ dx s2, H dx = none → dx ≠ a → Inv X pins σ (upd (upd H dx (exd dx [(f, y)])) a (exo a C (some dx))) s2 → Q () s2) : wpAny (model X.prog X.w) A (setAttr (.ref a) f u) Q E s := by
  obtain ⟨t1, ho⟩ := exo_at I.hok e
  obtain ⟨hp, g, dr, tk, os⟩ := s
  exact PySem.W.set_plain I.kIn (ox := PySem.W.excObj C t1 none .none) (od := none) ⟨ho, rfl, rfl, trivial⟩ T.sat (sa_new SB I.kIn T ho hno fun h2 tk2 dx k dn dne hx hn => h dx _ (I.hok.fresh dn) dne (inv_dict I e ry k dn hx hn))
theorem st_old (SB : StoreFacts B tl "object.__setattr__" "object") (T : ExB X.K C nid tl) (I : Inv X pins σ H s) (e : H a = some (exo a C (some dx))) (ed : H dx = some (exd dx fs)) (hl : fs.length ≤ 900) (hno : PySem.W.findIn X.K (.ref C) f = some none) (ry : RelV y u)
    (h : ∀ s2, Inv X pins σ (upd H dx (exd dx ((f, y) :: fs))) s2 → Q () s2) : wpAny (model X.prog X.w) A (setAttr (.ref a) f u) Q E s := by
  obtain ⟨t1, ho⟩ := exo_at I.hok e
  obtain ⟨mA, hns, rel⟩ := exd_at I.hok ed
  have hw := within_of rel
  obtain ⟨hp, g, dr, tk, os⟩ := s
  obtain ⟨oD, _, _, hoD, _, _⟩ := hns.count hw
  refine PySem.W.set_plain I.kIn (ox := PySem.W.excObj C t1 (some dx) .none) (od := some oD) ⟨ho, rfl, rfl, hoD⟩ T.sat (sa_old SB I.kIn T ho hns hw (by rw [List.length_map]; omega) hno fun h2 tk2 k hn => ?_)
  obtain ⟨o, es, ep, e1, er⟩ := hn
  exact h _ (I.write (t' := tk2) (x := dx) (e := dx) (o := exd dx ((f, y) :: fs)) (by rw [ed]; trivial) (.inl rfl) k ⟨o, e1⟩ (exd_ok ⟨o, es, ep, e1, er⟩ (relO_put ry rel)))
/-- B.__init__(self, ..): it lays the args anew, which are not told -/
theorem base_init {us : List Value} {Q : Value → Shared → Prop} (FB : ExcBaseFacts B nid iid tl) (T : ExB X.K C nid tl) (I : Inv X pins σ H s) (e : H a = some (exo a C none)) (hl : us.length ≤ sizeLine) (h : ∀ s2, Inv X pins σ H s2 → Q .none s2) :
    wpAny (model X.prog X.w) A (call (.builtin iid) (.ref a :: us)) Q E s := by
  obtain ⟨nm, N, qn, bs, bm, hdct, sn, sub, ab, col, dd, k0, k1, k2, k3, k5, hC, hT⟩ := PySem.W.excInit_of I.kIn T.ini
  obtain ⟨t1, ho⟩ := exo_at I.hok e
  obtain ⟨hp, g, dr, tk, os⟩ := s
  refine wpAny_call (PySem.HandSPX.init_base FB hT hC ho hl fun h2 t2 k hx => h _ ?_)
  have J := I.write (t' := tk) (x := a) (e := a) (o := exo a C none) (by rw [e]; trivial) (.inl rfl) k ⟨_, hx⟩ (exo_ok hx)
  have same : upd H a (exo a C none) = H := funext fun b => by
    by_cases hb : b = a
    · rw [hb, upd_same, e]
    · rw [upd_ne hb]
  rwa [same] at J
end
/-! ### rules -/
/-- self.f = e, self an exception in the making -/
def tSt (K : PySem.W.Frag) (nid : String) (tl : List Value) (f : Str) (to te : TE) : TS := fun D σ H => te σ H fun y H1 => to σ H1 fun x H2 => ∃ a C : Addr, x = .ref a ∧ ExB K C nid tl ∧ PySem.W.findIn K (.ref C) f = some none ∧
  ((H2 a = some (exo a C none) ∧ ∀ dx, H2 dx = none → dx ≠ a → D.nx σ (upd (upd H2 dx (exd dx [(f, y)])) a (exo a C (some dx)))) ∨
    ∃ (dx : Addr) (fs : List (Str × V)), H2 a = some (exo a C (some dx)) ∧ H2 dx = some (exd dx fs) ∧ fs.length ≤ 900 ∧ D.nx σ (upd H2 dx (exd dx ((f, y) :: fs))))
/-- B.__init__(self, ..) -/
def tBi (K : PySem.W.Frag) (nid : String) (tl : List Value) (ta : TA) : TE := fun σ H Q => ta σ H fun vs H1 => ∃ (a C : Addr) (ws : List V), vs = .ref a :: ws ∧ ws.length ≤ 1000 ∧ ExB K C nid tl ∧ H1 a = some (exo a C none) ∧ Q .non H1
section
variable {X : Cx} {o e : Expr} {es : List Expr} {to te : TE} {ta : TA} {f x : Str} {p p1 p2 pos : Pos} {B nid iid : String} {tl : List Value}
theorem ps_st (SB : StoreFacts B tl "object.__setattr__" "object") (ho : PE X o to) (he : PE X e te) (hs : swapsWith e (some (.Attribute o f p)) pos.line X.env = pure false := by rfl) : PS X (.Assign [.Attribute o f p] e pos) (tSt X.K nid tl f to te) := by
  refine ⟨fun pins s σ H D I h => plainObj_wpAny_Assign_Attribute (thn (he.run pins s σ H _ I h) fun v s1 ⟨y, H1, I1, r1, q1⟩ => thn (ho.run pins s1 σ H1 _ I1 q1) fun u s2 ⟨z, H2, I2, r2, a, C, ex, T, hno, q⟩ => ?_) hs⟩
  subst ex
  obtain rfl : u = Value.ref a := r2
  rcases q with ⟨ea, q⟩ | ⟨dx, fs, ea, ed, hl, q⟩
  · exact st_new SB T I2 ea hno r1 fun dx s3 n ne J => ⟨σ, _, J, q dx n ne⟩
  · exact st_old SB T I2 ea ed hl hno r1 fun s3 J => ⟨σ, _, J, q⟩
theorem pe_bi {xB : Str} {pl : Sem Bool} (FB : ExcBaseFacts B nid iid tl) (ty : typeOf (.type B) = pure (.type "type")) (st : Manifest.isStub B = false) (bo : bootBuiltins xB = some (.type B)) (hn1 : xB ≠ "__name__") (hn2 : (xB == ("__debug__" : Str)) = false) (hh : PySem.W.handedIn (.builtin iid) = true) (hg : Gl X xB) (hm : X.mg xB = none) (vV : PySem.W.findCls X.K (.type B) (.type "type") "__init__" = some (.val (.builtin iid))) (ha : PA X (e :: es) ta)
    (hc : eval (.Call (.Attribute (.Name xB p1) "__init__" p2) (e :: es) [] pos) X.env = (do
      let z ← eval (.Name xB p1) X.env
      standAt p2.atName
      let (f1, fst) ← holding [z] (getMethod z "__init__" pl)
      callWith pos f1 fst (backTo pos (starEach (e :: es) X.env)) (backToKw pos (keywordEach [] X.env))) := by rfl)
    (he : starEach (e :: es) X.env = (false, eval e X.env) :: starEach es X.env := by rfl) (hpl : (backTo pos (starEach es X.env)).any (·.1) = false := by rfl) :
    PE X (.Call (.Attribute (.Name xB p1) "__init__" p2) (e :: es) [] pos) (tBi X.K nid tl ta) := by
  refine ⟨fun pins s σ H Q I h => PySem.W.methodCall_KW (ld_blt I hg hm bo ?_ hn1 hn2) hc⟩
  obtain ⟨m, fr⟩ := I.fr
  refine PySem.W.method_type fr I.ok.mod.kin ty st vV hh ?_
  show wpAny _ _ (callWith pos (Value.builtin iid) [] (backTo pos (starEach (e :: es) X.env)) []) _ _ _
  refine PyProof.Rows.callWith_method1 (thn (ha.run pos pins _ σ H _ (I.tok _) h) fun us s1 ⟨vs, H1, I1, r1, a, C, ws, ev, hl, T, ea, q⟩ => ?_) he hpl
  subst ev
  cases r1 with
  | @cons _ u0 _ ur ra rw2 =>
    obtain rfl : u0 = Value.ref a := ra
    exact base_init FB T I1 ea (by rw [← Paired.length rw2, sizeLine_eq]; omega) fun s2 J => ⟨.non, H1, J, rfl, q⟩
end
end ExX

namespace ExX
open PySem PySem.Spec PyProof.Rows L2 Builtin.ObjectAttr
/-- what the written part says of D.__init__, read off the class itself: the def at f -/
structure ClsI (K : PySem.W.Frag) (D f : Addr) : Prop where
  rd : PySem.W.readsIn K D (.type "type") = true
  fc : PySem.W.findCls K (.ref D) (.type "type") "__init__" = some (.val (.ref f))
  sp : PySem.W.specialIn K (.ref D) "__getattribute__" = some (some (.builtin "type.__getattribute__"))
  kp : PySem.W.keepIn K (.ref f) = true
  kd : PySem.W.keepIn K (.ref D) = true
def clsI (K : PySem.W.Frag) (D f : Addr) : Bool := PySem.W.readsIn K D (.type "type") && (match PySem.W.findCls K (.ref D) (.type "type") "__init__" with | some (.val v) => decide (v = .ref f) | _ => false) &&
  decide (PySem.W.specialIn K (.ref D) "__getattribute__" = some (some (.builtin "type.__getattribute__"))) && PySem.W.keepIn K (.ref f) && PySem.W.keepIn K (.ref D)
theorem clsI_ok {K : PySem.W.Frag} {D f : Addr} (h : clsI K D f = true) : ClsI K D f := by
  unfold clsI at h
  simp only [Bool.and_eq_true, decide_eq_true_eq] at h
  obtain ⟨⟨⟨⟨a, b⟩, c⟩, d⟩, e⟩ := h
  refine ⟨a, ?_, c, d, e⟩
  split at b
  · rename_i v hv
    rw [hv, of_decide_eq_true b]
  · cases b
/-- what C(..) asks, the arguments evaluated -/
def mkW (C : Addr) (sp : Sp) (vs : List V) (H1 : Hp) (Q : XK) : Prop := vs.length ≤ 1000 ∧ ∀ a, H1 a = none → sp (.ref a :: vs) (upd H1 a (exo a C none))
  (fun v H2 => v = .non ∧ ∃ (d : Addr) (fs : List (Str × V)), H2 a = some (exo a C (some d)) ∧ H2 d = some (exd d fs) ∧ H1 d = none ∧ Q (.ref C) (some d) (upd (del H2 a) d (.xd fs))) (fun _ _ _ => False)
section
variable {X : Cx} {e : Expr} {es : List Expr} {ta : TA} {x : Str} {p p1 p2 pos : Pos} {CX : CXT} {k : Nat} {D f : Addr} {fd : FuncData} {ps : List Str} {sp : Sp} {E : XK}
theorem pe_ci {pl : Sem Bool} (T : ClsI X.K D f) (F : FnOk X.prog X.w X.K X.mg X.base CX k f fd ps sp) (hr : Room k X.A) (hg : Gl X x) (hm : X.mg x = some (.ref D)) (hb : L2.Binds X.K fd ps []) (hx : Passes CX X E) (ha : PA X (e :: es) ta)
    (hdb : (x == ("__debug__" : Str)) = false := by decide)
    (hc : eval (.Call (.Attribute (.Name x p1) "__init__" p2) (e :: es) [] pos) X.env = (do
      let z ← eval (.Name x p1) X.env
      standAt p2.atName
      let (f1, fst) ← holding [z] (getMethod z "__init__" pl)
      callWith pos f1 fst (backTo pos (starEach (e :: es) X.env)) (backToKw pos (keywordEach [] X.env))) := by rfl)
    (he : starEach (e :: es) X.env = (false, eval e X.env) :: starEach es X.env := by rfl) (hpl : (backTo pos (starEach es X.env)).any (·.1) = false := by rfl) :
    PE X (.Call (.Attribute (.Name x p1) "__init__" p2) (e :: es) [] pos) (tCall sp [] E ta) := by
  refine ⟨fun pins s σ H Q I h => PySem.W.methodCall_KW (ld_glob I hg hm ?_ hdb) hc⟩
  refine PySem.W.method_cls I.kIn T.sp (PySem.W.cls_value I.kIn T.rd T.fc rfl ?_)
  refine PySem.W.callWith_K (first := []) (h₀ := X.base) I.ok.mod.kin T.kp (thn (ha.run pos pins _ σ H _ (I.tok _) h) fun us s1 ⟨vs, H1, I1, r, q⟩ => ⟨I1.kIn, ?_⟩) he hpl
  exact run_fn F hr hb .nil hx I1 r q
theorem pmk {C fI : Addr} {B nid iid : String} {tl : List Value} {R : List V → Hp → XK → Prop} (FB : ExcBaseFacts B nid iid tl) (T : ExB X.K C nid tl) (iC : PySem.W.findIn X.K (.ref C) "__init__" = some (some (.ref fI))) (tI : PySem.W.typeIn X.K (.ref fI) = some (.type "function"))
    (F1 : FnOk X.prog X.w X.K X.mg X.base CX k fI fd ps sp) (hr : Room (k + 1) X.A) (hb : L2.Binds X.K fd ps []) (hx : Passes CX X (fun _ _ _ => False)) (hg : Gl X x) (hm : X.mg x = some (.ref C)) (ha : PA X (e :: es) ta) (hR : ∀ vs H1 Q, R vs H1 Q → mkW C sp vs H1 Q)
    (hdb : (x == ("__debug__" : Str)) = false := by decide) (he : starEach (e :: es) X.env = (false, eval e X.env) :: starEach es X.env := by rfl) (hpl : (backTo pos (starEach es X.env)).any (·.1) = false := by rfl) :
    L2N.PMk X (.Call (.Name x p) (e :: es) [] pos) (fun σ H Q => ta σ H fun vs H1 => R vs H1 Q) := by
  intro pins s σ H Q I h
  refine wpAny_Call_Name_kw (ld_glob I hg hm ?_ hdb)
  refine PySem.W.callWith_K (h₀ := X.base) I.ok.mod.kin T.kep (thn (ha.run pos pins s σ H _ I h) fun us s1 ⟨vs, H1, I1, r1, q0⟩ => ⟨I1.kIn, ?_⟩) he hpl
  obtain ⟨hz, q1⟩ := hR _ _ _ q0
  obtain ⟨nm, N, qn, bs, bm, hdct, sn, sub, ab, col, dd, k0, k1, k2, k3, k5, hC, hT⟩ := PySem.W.excInit_of I1.kIn T.ini
  obtain ⟨hp, g, dr, tk, os⟩ := s1
  -- the new exception lies behind its args
  let h1 : Heap := (hp.push (PySem.W.kdv_tup us)).push (PySem.HandSPX.excO C hp.objs.size)
  have kk : ∀ b o, hp.get? b = some o → h1.get? b = some o := fun b o e => Heap.get?_push_of_some _ (Heap.get?_push_of_some _ e)
  have new : h1.get? (hp.objs.size + 1) = some (PySem.HandSPX.excO C hp.objs.size) := by show Heap.get? ((hp.push (PySem.W.kdv_tup us)).push (PySem.HandSPX.excO C hp.objs.size)) _ = _; heap_get
  have hq := q1 (hp.objs.size + 1) (I1.hok.fresh (Nat.le_succ _))
  have I2 : Inv X pins σ (upd H1 (hp.objs.size + 1) (exo (hp.objs.size + 1) C none)) ⟨h1, g, dr, tk, os⟩ := I1.laid (t' := tk) (a := hp.objs.size + 1) (o := exo (hp.objs.size + 1) C none) kk (Nat.le_succ _) (exo_ok new)
  have r2 : Vals (V.ref (hp.objs.size + 1) :: vs) (Value.ref (hp.objs.size + 1) :: us) := .cons rfl r1
  have hl : (Value.ref (hp.objs.size + 1) :: us).length = ps.length := by rw [← r2.length]; exact F1.len _ _ _ _ hq
  have hb2 := hb ⟨h1, g, dr, tk, os⟩ (Value.ref (hp.objs.size + 1) :: us) I2.kIn (by rw [List.append_nil]; exact hl)
  rw [List.append_nil] at hb2
  show wpAny _ _ (call (.ref C) us) _ _ _
  refine wpAny_call (PySem.HandSPX.call_own FB hT hC (PySem.W.looks_findIn I1.kIn iC) (fun self => PySem.W.bind_fn I1.kIn self tI) (by rw [← Paired.length r1, sizeLine_eq]; omega) ?_)
  refine codeAny_mono (F1.run _ X.stack _ _ ⟨Value.ref (hp.objs.size + 1) :: us, []⟩ _ _ _ (fun _ _ _ => False) (hr.make C us []) (I2.env0.make C us []) hb2 r2 hq) fun r s2 z => ?_
  cases r with
  | error er => exact hx pins σ _ _ er s2 I2 z
  | ok fl =>
    cases fl with
    | ret u =>
      obtain ⟨v, H2, os2, bare2, un2, hok2, rv, ev, d, fs, ea, ed, hd1, q2⟩ := z
      subst ev
      obtain ⟨h2, g2, d2, t2, os3⟩ := s2
      obtain ⟨t0, G, J, kG, ge, hoe, na⟩ := mk_end0 (d2 := d2) (t2 := t2) I1 (Nat.le_succ _) kk un2 hok2 os2 bare2 ea ed hd1
      exact ⟨rv, _, _, _, ⟨G, g2, d2, t2, os3⟩, _, .ref C, some d, rfl, J, kG, ge, hoe, ⟨rfl, rfl, fun vs z => by cases z; rfl⟩, rfl, rfl, na, rfl, bare2, raises_own T.sub T.typ, q2⟩
    | _ => exact z.elim
end
end ExX

namespace ExX
open PySem PySem.Spec PyProof.Rows L2
/-- what an except clause's own expression t asks of an exception's class -/
def Tst (X : Cx) (t : Expr) (m : Value → Option Bool) : Prop := ∀ (a : Addr) (oe : Obj) (pn pins : List (Addr × Obj)) (σ : L2.St) (H : Hp) (s : Shared) (b : Bool) (Q : Bool → Shared → Prop) (E : Value → Shared → Prop), Inv (X.suite a ((a, oe) :: pn)) pins σ H s → m oe.cls = some b →
  (∀ h2, (∀ c o, s.heap.get? c = some o → h2.get? c = some o) → Q b { s with heap := h2 }) →
  wpAny (model X.prog X.w) (X.A.mark (some (.ref a))) (eval t X.env) (fun c s1 => wpAny (model X.prog X.w) (X.A.mark (some (.ref a))) (excMatches (.ref a) c) Q E s1) E s
section
variable {X : Cx} {x x1 x2 x3 : Str} {C C1 C2 C3 : Addr} {np np1 np2 np3 tp : Pos}
theorem tst_one (hg : Gl X x) (hm : X.mg x = some (.ref C)) (hdb : (x == ("__debug__" : Str)) = false := by decide) : Tst X (.Name x np) (fun cls => PySem.W.exmOne X.K cls (.ref C)) := by
  intro a oe pn pins σ H s b Q E I hb q
  have at1 := (I.pin (a, oe) (List.mem_append_left _ List.mem_cons_self)).1
  have lt : PySem.W.Looks (model X.prog X.w) s.heap (typeOf (.ref a)) oe.cls := fun A Q E s2 k q => wpAny_typeOf_ref (k _ _ at1) q
  exact ld_glob (X := X.suite a ((a, oe) :: pn)) I hg hm ((PySem.W.exm_one I.kIn lt hb).here (q s.heap fun _ _ e => e)) hdb
theorem tst_two {ctx} (hg1 : Gl X x1) (hm1 : X.mg x1 = some (.ref C1)) (hg2 : Gl X x2) (hm2 : X.mg x2 = some (.ref C2)) (hd1 : (x1 == ("__debug__" : Str)) = false := by decide) (hd2 : (x2 == ("__debug__" : Str)) = false := by decide) :
    Tst X (.Tuple [.Name x1 np1, .Name x2 np2] ctx tp) (fun cls => PySem.W.exmAny X.K cls [.ref C1, .ref C2]) := by
  intro a oe pn pins σ H s b Q E I hb q
  have at1 := (I.pin (a, oe) (List.mem_append_left _ List.mem_cons_self)).1
  refine wpAny_Tuple_spliced (Calls.spliced_cons (ld_glob (X := X.suite a ((a, oe) :: pn)) I hg1 hm1 (Calls.spliced_cons (ld_glob (X := X.suite a ((a, oe) :: pn)) I hg2 hm2 (Calls.spliced_nil ⟨by rw [sizeLine_eq]; simp, ?_⟩) hd2)) hd1))
  have lt : PySem.W.Looks (model X.prog X.w) (s.heap.push { cls := .type "tuple", data := .seq [Value.ref C1, .ref C2].toArray }) (typeOf (.ref a)) oe.cls := fun A Q E s2 k q => wpAny_typeOf_ref (k _ _ (Heap.get?_push_of_some _ at1)) q
  exact (PySem.W.exm_tup2 (I.kIn.keeps fun _ _ e => Heap.get?_push_of_some _ e) lt (Heap.get?_push_size _ rfl) hb).here (q _ fun _ _ e => Heap.get?_push_of_some _ e)
theorem tst_three {ctx} (hg1 : Gl X x1) (hm1 : X.mg x1 = some (.ref C1)) (hg2 : Gl X x2) (hm2 : X.mg x2 = some (.ref C2)) (hg3 : Gl X x3) (hm3 : X.mg x3 = some (.ref C3)) (hd1 : (x1 == ("__debug__" : Str)) = false := by decide) (hd2 : (x2 == ("__debug__" : Str)) = false := by decide) (hd3 : (x3 == ("__debug__" : Str)) = false := by decide) :
    Tst X (.Tuple [.Name x1 np1, .Name x2 np2, .Name x3 np3] ctx tp) (fun cls => PySem.W.exmAny X.K cls [.ref C1, .ref C2, .ref C3]) := by
  intro a oe pn pins σ H s b Q E I hb q
  have at1 := (I.pin (a, oe) (List.mem_append_left _ List.mem_cons_self)).1
  refine wpAny_Tuple_spliced (Calls.spliced_cons (ld_glob (X := X.suite a ((a, oe) :: pn)) I hg1 hm1 (Calls.spliced_cons (ld_glob (X := X.suite a ((a, oe) :: pn)) I hg2 hm2 (Calls.spliced_cons (ld_glob (X := X.suite a ((a, oe) :: pn)) I hg3 hm3 (Calls.spliced_nil ⟨by rw [sizeLine_eq]; simp, ?_⟩) hd3)) hd2)) hd1))
  have lt : PySem.W.Looks (model X.prog X.w) (s.heap.push { cls := .type "tuple", data := .seq [Value.ref C1, .ref C2, .ref C3].toArray }) (typeOf (.ref a)) oe.cls := fun A Q E s2 k q => wpAny_typeOf_ref (k _ _ (Heap.get?_push_of_some _ at1)) q
  exact (PySem.W.exm_tup3 (I.kIn.keeps fun _ _ e => Heap.get?_push_of_some _ e) lt (Heap.get?_push_size _ rfl) hb).here (q _ fun _ _ e => Heap.get?_push_of_some _ e)
end
/-- the ends with the slot i unset -/
def unset (i : Nat) (D : Ends) : Ends := { nx := fun σ H => D.nx (σ.set i none) H, rt := D.rt, bk := fun σ H => D.bk (σ.set i none) H, ct := fun σ H => D.ct (σ.set i none) H }
/-- a clause: whom it takes, the slot of its name, its suite's reading -/
structure Cl where
  m : Value → Option Bool
  slot : Option Nat
  ts : Addr → Value → Option Addr → TS
def Cl.wish (c : Cl) (D : Ends) (a : Addr) (cls : Value) (d : Option Addr) (σ : L2.St) (H : Hp) : Prop := match c.slot with
  | none => c.ts a cls d D σ H
  | some i => c.ts a cls d (unset i D) (σ.set i (some (.ref a))) H
def wCl (Wout : WX) (D : Ends) : List Cl → WX
  | [] => Wout
  | c :: r => fun cls d σ H => ∃ b, c.m cls = some b ∧ (b = true → ∀ a, H a = none → c.wish D a cls d σ H) ∧ (b = false → wCl Wout D r cls d σ H)
inductive ClsOk (X : Cx) : List ExceptHandler → List Cl → Prop
  | nil : ClsOk X [] []
  | only {t : Expr} {m : Value → Option Bool} {ts : Addr → Value → Option Addr → TS} {b0 : Stmt} {su : List Stmt} {ps : Pos} {hds : List ExceptHandler} {l : List Cl} (hc : Tst X t m)
      (hsu : ∀ (a : Addr) (oe : Obj) (cls : Value) (d : Option Addr) (pn : List (Addr × Obj)), L2N.Zn cls d oe → (∃ vs, oe.data = .fields vs) → PSs (X.suite a ((a, oe) :: pn)) (b0 :: su) (ts a cls d)) (r : ClsOk X hds l) :
      ClsOk X (.ExceptHandler (some t) none (b0 :: su) ps :: hds) (⟨m, none, ts⟩ :: l)
  | named {t : Expr} {m : Value → Option Bool} {ts : Addr → Value → Option Addr → TS} {b0 : Stmt} {su : List Stmt} {ps : Pos} {n : Str} {i : Nat} {hds : List ExceptHandler} {l : List Cl} (hN : X.N.Nodup) (hi : X.N[i]? = some n) (hln : X.env.kindOf n = some .local) (hc : Tst X t m)
      (hsu : ∀ (a : Addr) (oe : Obj) (cls : Value) (d : Option Addr) (pn : List (Addr × Obj)), L2N.Zn cls d oe → (∃ vs, oe.data = .fields vs) → PSs (X.suite a ((a, oe) :: pn)) (b0 :: su) (ts a cls d)) (r : ClsOk X hds l) :
      ClsOk X (.ExceptHandler (some t) (some n) (b0 :: su) ps :: hds) (⟨m, some i, ts⟩ :: l)
theorem flying_kept {B h h2 : Heap} {l : List Env} {a : Addr} {Z : Obj → Prop} (fl : HandSPX.FlyingZ B l a Z h) (k : ∀ c o, h.get? c = some o → h2.get? c = some o) : HandSPX.FlyingZ B l a Z h2 := by
  obtain ⟨f1, f2, f3, oe, vs, T, oT, ts, e1, e2, e3, e4, e5, e6, e7, e8⟩ := fl
  exact ⟨fun b o q => k _ _ (f1 b o q), f2, f3.of_keeps fun b o hb _ => ⟨o, k b o hb, rfl⟩, oe, vs, T, oT, ts, k _ _ e1, e2, e3, e4, e5, e6, k _ _ e7, e8⟩
section
variable {X : Cx} {body : List Stmt} {h0 : ExceptHandler} {hds : List ExceptHandler} {l : List Cl} {pos : Pos} {tb : WX → TS} {Wout : WX}
theorem ps_tryC (hs : X.stack = X.env :: X.outer) (hf : X.env.frame = some X.env.locals) (tk : L2N.Takes X Wout)
    (hb : ∀ (W : WX) (pn : List (Addr × Obj)) (xe : Value → Shared → Prop), L2N.Takes (X.tr pn xe) W → PassesOwn (model X.prog X.w) X.A X.env xe → PSs (X.tr pn xe) body (tb W)) (hh : ClsOk X (h0 :: hds) l) :
    PS X (.Try body (h0 :: hds) [] [] pos) (fun D σ H => tb (wCl Wout D l) D σ H) := by
  refine ⟨fun pins s σ H D I h => wpAny_Try_except ?_⟩
  have ok := I.ok
  have hfr : X.A.frames = some (X.env :: X.outer) := hs ▸ ok.frames
  refine wpAny_mono ((hb (wCl Wout D l) (X.pn ++ pins) (fun e s1 => wpAny (model X.prog X.w) X.A (noteFrame e X.env) (fun _ s2 => wpAny (model X.prog X.w) X.A (setFlight e none) (fun _ s3 => wpAny (model X.prog X.w) X.A (handleBy e X.env (h0 :: hds)) (SP X pins D) X.xe s3) X.xe s2) X.xe s1)
    (fun u s1 xx => ?_) PassesOwn.looking).run [] s σ H D (I.toTry _) h) (fun f s1 hsp => ?_) (fun e s1 he => he)
  · obtain ⟨a, B, sI, pinsT, σ1, H1, cls, d, rfl, J0, nb, up, sky, na, os1, ag, w⟩ := xx
    have J : Inv X pins σ1 H1 sI := J0.ofTry ok
    rw [hs] at sky
    show wpAny (model X.prog X.w) X.A (noteFrame (.ref a) X.env) _ _ _
    refine L2N.Sky.land L2N.Zn.steady hfr hf sky fun h3 fl3 up3 => ?_
    -- the clauses, from any heap in which the exception flies
    have go : ∀ {hs2 : List ExceptHandler} {l2 : List Cl}, ClsOk X hs2 l2 → ∀ h4, HandSPX.FlyingZ B (X.env :: X.outer) a (L2N.Zn cls d) h4 → sI.heap.UpToSlots h4 → wCl Wout D l2 cls d σ1 H1 →
        wpAny (model X.prog X.w) X.A (handleBy (.ref a) X.env hs2) (SP X pins D) X.xe { s1 with heap := h4 } := by
      intro hs2 l2 hk
      have su : ∀ {h5 : Heap}, HandSPX.FlyingZ B (X.env :: X.outer) a (L2N.Zn cls d) h5 → sI.heap.UpToSlots h5 → ∃ oe vs, L2N.Zn cls d oe ∧ oe.data = .fields vs ∧ Inv (X.suite a ((a, oe) :: (X.pn ++ pins))) [] σ1 H1 { s1 with heap := h5 } := fun {h5} fl5 up5 => by
        have J5 : Inv X pins σ1 H1 { s1 with heap := h5 } := J.landed nb fl5.1 up5 os1 ag
        obtain ⟨oe, vs, he, hz, hd⟩ := fl5.there
        have nfr : a ∉ frs (X.env :: X.outer) := fun hm => by
          obtain ⟨_, o2, e2, hnf⟩ := fl5.2.2.1.mem hm
          rw [he] at e2
          exact hnf vs (Option.some.inj e2 ▸ hd)
        refine ⟨oe, vs, hz, hd, J5.suite he hd na (fun z => nfr (List.mem_filterMap.mpr ⟨X.env, List.mem_cons_self, by rw [hf, z]⟩)) fun hm => ?_⟩
        obtain ⟨e, he2, q⟩ := List.mem_filterMap.mp hm
        exact nfr (List.mem_filterMap.mpr ⟨e, List.mem_cons_of_mem _ he2, q⟩)
      induction hk with
      | nil =>
        intro h4 fl4 up4 w
        refine wpAny_handleBy_nil ?_
        obtain ⟨k1, k2, k3, oe, vs, T, oT, ts2, he, hz, hd, h1, hr⟩ := id fl4
        unfold PySem.passOn
        refine wpAny_bind (wpAny_field he hd h1 ?_)
        rw [if_neg (show ¬ ((Value.ref T == Value.none) = true) from by simp)]
        have fin : wpAny (model X.prog X.w) X.A (setFlight (.ref a) X.env.frame) (fun _ s4 => wpAny (model X.prog X.w) X.A (throw (.ref a) : Sem Flow) (SP X pins D) X.xe s4) X.xe { s1 with heap := h4 } := by
          rw [hf]
          exact HandSPX.setFlight_upZ fl4 fun h5 hh5 up5 => wpAny_throw (tk _ _ ⟨a, B, sI, pins, σ1, H1, cls, d, rfl, J, nb, up4.trans up5, .inr (.inr (by rw [hs]; exact hh5)), na, os1, ag, w⟩)
        first
          | exact wpAny_bind (wpAny_pure (wpAny_bind fin))
          | exact wpAny_bind fin
      | only hc hsu r ih =>
        intro h4 fl4 up4 w
        obtain ⟨b, hb1, hyes, hno⟩ := w
        obtain ⟨oe, vs, hz, hd, S4⟩ := su fl4 up4
        refine wpAny_handleBy_cons (codeAny_handlers_test (hc a oe _ _ _ _ _ b _ _ S4 (by rw [hz.1]; exact hb1) fun h5 k5 => ?_)) (by intro q; cases q)
        have fl5 := flying_kept fl4 k5
        have up5 : sI.heap.UpToSlots h5 := up4.trans fun c o e _ => ⟨o.slots, k5 c o e⟩
        cases b with
        | true =>
          refine codeAny_handlers_suite (HandSPX.lands_againZ fl5 fun h6 fl6 up6 => ?_)
          obtain ⟨oe6, vs6, hz6, hd6, S6⟩ := su fl6 (up5.trans up6)
          refine wpAny_mono ((hsu a oe6 cls d _ hz6 ⟨_, hd6⟩).run [] _ _ H1 _ S6 (hyes rfl a na)) (fun f s6 hsp => ?_) (fun _ _ z => False.elim z)
          cases f with
          | ret u => obtain ⟨v6, σ6, H6, S7, r6, q6⟩ := hsp; exact ⟨_, _, _, S7.unsuite ok, r6, q6⟩
          | _ => obtain ⟨σ6, H6, S7, q6⟩ := hsp; exact ⟨_, _, S7.unsuite ok, q6⟩
        | false => exact ih h5 fl5 up5 (hno rfl)
      | @named t m ts b0 sui ps n i hds3 l3 hN hi hln hc hsu r ih =>
        intro h4 fl4 up4 w
        obtain ⟨b, hb1, hyes, hno⟩ := w
        obtain ⟨oe, vs, hz, hd, S4⟩ := su fl4 up4
        refine wpAny_handleBy_cons (codeAny_handlers_test (hc a oe _ _ _ _ _ b _ _ S4 (by rw [hz.1]; exact hb1) fun h5 k5 => ?_)) (by intro q; cases q)
        have fl5 := flying_kept fl4 k5
        have up5 : sI.heap.UpToSlots h5 := up4.trans fun c o e _ => ⟨o.slots, k5 c o e⟩
        cases b with
        | true =>
          refine codeAny_handlers_suite_as (HandSPX.lands_againZ fl5 fun h6 fl6 up6 => ?_)
          obtain ⟨oe6, vs6, hz6, hd6, S6⟩ := su fl6 (up5.trans up6)
          refine store_ok (X := X.suite a ((a, oe6) :: (X.pn ++ pins))) (v := .ref a) S6 hN hi (.inl hln) rfl (fun s7 S7 => ?_) (.inr hln)
          refine wpAny_mono ((hsu a oe6 cls d _ hz6 ⟨_, hd6⟩).run [] s7 _ H1 _ S7 (hyes rfl a na)) (fun f s8 hsp => ?_) (fun _ _ z => False.elim z)
          have fin : ∀ {σ8 : L2.St} {H8 : Hp} {Q : Shared → Prop}, Inv (X.suite a ((a, oe6) :: (X.pn ++ pins))) [] σ8 H8 s8 → (∀ s9, Inv X pins (σ8.set i none) H8 s9 → Q s9) →
              wpAny (model X.prog X.w) X.A (do bindName X.env n .none; unbindBehindTheSuite X.env n ps) (fun _ s9 => Q s9) X.xe s8 := fun {σ8 H8 Q} S8 hq => gone_ok (S8.unsuite ok) hN hi hln hq
          cases f with
          | ret u => obtain ⟨v8, σ8, H8, S8, r8, q8⟩ := hsp; exact fin S8 fun s9 J9 => ⟨_, _, _, J9, r8, q8⟩
          | _ => obtain ⟨σ8, H8, S8, q8⟩ := hsp; exact fin S8 fun s9 J9 => ⟨_, _, J9, q8⟩
        | false => exact ih h5 fl5 up5 (hno rfl)
    exact go hh h3 fl3 (up.trans up3) w
  · cases f with
    | next =>
      obtain ⟨σ1, H1, J, q⟩ := hsp
      exact wpAny_execs_nil ⟨σ1, H1, J.ofTry ok, q⟩
    | ret u =>
      obtain ⟨v, σ1, H1, J, r, q⟩ := hsp
      exact ⟨v, σ1, H1, J.ofTry ok, r, q⟩
    | _ =>
      obtain ⟨σ1, H1, J, q⟩ := hsp
      exact ⟨σ1, H1, J.ofTry ok, q⟩
end
end ExX

namespace ExX
open PySem PySem.Spec PyProof.Rows L2
/-- a promise that also speaks of the exception that is handled: its place, class and dict -/
abbrev SpE := Addr → Value → Option Addr → Sp
structure FnE (P : Program) (w : World) (K : PySem.W.Frag) (mg : Str → Option Value) (base : Heap) (CX : CXT) (k : Nat) (f : Addr) (fd : FuncData) (ps : List Str) (sp : SpE) : Prop where
  len : ∀ a cls d vs H Q E, sp a cls d vs H Q E → vs.length = ps.length
  run : ∀ (A : Around) (outer : List Env) (s : Shared) (H : Hp) (args : Args) (us : List Value) (vs : List V) (Q : VK) (E : XK) (p : Addr × Obj) (cls : Value) (d : Option Addr), L2H.RoomH k A → Zc cls d p.2 → (∃ z, p.2.data = .fields z) → L2H.PinOk outer H s p → Env0 P w K mg base A outer s H →
    BindsTo s fd args (ps.zip us) → Vals vs us → sp p.1 cls d vs H Q E → codeAny (model P w) A (.call (.ref f) args) (CR CX outer P w H s Q E) s
theorem fn_ofE {CX : CXT} {P : Program} {w : World} {K : PySem.W.Frag} {mg : Str → Option Value} {base : Heap} {k : Nat} {f : Addr} {name qual : Str} {params : Arguments} {body : List Stmt} {scope : Scope} {dV kV doc pm cdv ct oc : Value} {an od : Option Addr} {osl : Array (Option Value)} {N ps : List Str} {sp : SpE}
    (lk : K.lookup f = some ⟨oc, od, .func (PySem.W.fnOf name qual params body scope dV kV doc pm an cdv ct), osl⟩) (hcd : PySem.W.codeIn K cdv qual = true) (S : FnScope N ps scope) (len : ∀ a cls d vs H Q E, sp a cls d vs H Q E → vs.length = ps.length)
    (hbody : ∀ (A : Around) (outer : List Env) (s : Shared) (H : Hp) (vs : List V) (Q : VK) (E : XK) (p : Addr × Obj) (cls : Value) (d : Option Addr), Zc cls d p.2 → (∃ z, p.2.data = .fields z) → L2H.RoomH k (A.deeper (envOfC qual scope s.heap.objs.size f cdv)) → sp p.1 cls d vs H Q E →
      ∃ t, PSs (L2H.cxH CX P w K mg base N qual scope f cdv A outer s H E p) body t ∧ t { nx := fun _ H1 => Q .non H1, rt := Q } (L2.start N vs) H) :
    FnE P w K mg base CX (k + 1) f (PySem.W.fnOf name qual params body scope dV kV doc pm an cdv ct) ps sp := by
  refine ⟨len, fun A outer s H args us vs Q E p cls d hr hz hd hpin e0 hb r hsp => ?_⟩
  have KX : K.In s.heap := e0.mod.kin.keeps fun b o e => (e0.bs b o e).1
  have hkind : ∀ y ∈ ps.zip us, scope.names.lookup y.1 = some .local ∨ (scope.names.lookup y.1 = some .cell ∧ ((cellsFrom (s.heap.objs.size + 1) scope.names []).lookup y.1).isSome = true) := fun y hy =>
    (S.par y.1 (List.of_mem_zip hy).1).imp id fun q => ⟨q, PySem.W.cellsFrom_some _ _ _ (.inl q)⟩
  refine codeAny_call_function hr.depth (KX _ _ lk) rfl S.co S.gen rfl (PySem.W.codeRec_of KX hcd) (hb _ _ _ _ (wpAny_newFunctionEnv_cells S.kind hkind fun env he s1 x => ?_))
  subst he
  refine ⟨(e0.mod.nolimit.keeps fun b o e => (e0.bs b o e).1).keeps x.toInCall.keep, codeAny_func ?_⟩
  obtain ⟨t, ht, hq⟩ := hbody A outer s H vs Q E p cls d hz hd (hr.deeper _) hsp
  have I : Inv (L2H.cxH CX P w K mg base N qual scope f cdv A outer s H E p) [] (L2.start N vs) H s1 := L2H.inv_startH S hpin e0 (len _ _ _ _ _ _ _ hsp) r x
  refine wpAny_mono (ht.run [] s1 (L2.start N vs) H _ I hq) (fun fl s2 hs => ?_) fun e s2 hs => hs
  cases fl with
  | ret u =>
    obtain ⟨v, σ2, H2, J, rv, q⟩ := hs
    exact ⟨v, H2, J.os, J.bare, J.base, J.hok, rv, q⟩
  | next =>
    obtain ⟨σ2, H2, J, q⟩ := hs
    exact ⟨V.non, H2, J.os, J.bare, J.base, J.hok, rfl, q⟩
  | brk =>
    obtain ⟨_, _, _, q⟩ := hs
    exact q.elim
  | cont =>
    obtain ⟨_, _, _, q⟩ := hs
    exact q.elim
/-- the field f of the handled exception -/
def tFe (K : PySem.W.Frag) (a : Addr) (cls : Value) (d : Option Addr) (f : Str) (te : TE) : TE := fun σ H Q => te σ H fun x H1 => x = .ref a ∧
  ∃ (C dd : Addr) (fs : List (Str × V)) (v : V), cls = .ref C ∧ XfC K C ∧ PySem.W.findIn K (.ref C) f = some none ∧ d = some dd ∧ H1 dd = some (.xd fs) ∧ fs.lookup f = some v ∧ Q v H1
section
variable {X : Cx} {a : Addr} {oe : Obj} {cls : Value} {d : Option Addr} {e : Expr} {te : TE} {pos q : Pos} {n x : Str}
theorem pe_fe (hp : (a, oe) ∈ X.pn) (hz : Zc cls d oe) (hf : ∃ z, oe.data = .fields z) (he : PE X e te) (hb : attributeBase e n X.env (eval e X.env) = eval e X.env := by rfl) : PE X (.Attribute e n pos) (tFe X.K a cls d n te) := by
  refine ⟨fun pins s σ H Q I h => attr_of hb (thn (he.run pins s σ H _ I h) fun u s1 ⟨z, H1, I1, rx, ex, C, dd, fs, v, ec, T, hno, ed, ea, l, w⟩ => ?_)⟩
  subst ex ec ed
  obtain rfl : u = Value.ref a := rx
  have ha := (I1.pin (a, oe) (List.mem_append_left _ hp)).1
  obtain ⟨vs, hd⟩ := hf
  obtain ⟨mA, hns, hr⟩ : ObjOk X.prog X.w H1 s1.heap dd (.xd fs) := I1.hok dd _ ea
  obtain ⟨od, ho, hl⟩ := lookIn_ns hns
  obtain ⟨u, hu, ru⟩ := RelO.some_of (v := v) (o := mA n) (by rw [← l]; exact hr n)
  exact HandSPX.exc_get I1.kIn (⟨ha, hz.1, by unfold PySem.W.notCls; rw [hd] <;> rfl, by rw [hz.2]; exact ho⟩ : PySem.W.InstAt s1.heap a oe C (some od)) T.ga T.gg T.exC (PySem.W.findObj_own T.hdC hno rfl (by rw [hl, hu])) (handed_of ru) ⟨v, H1, I1.tok _, ru, w⟩
variable {CX : CXT} {k : Nat} {f : Addr} {fd : FuncData} {ps : List Str} {sp : SpE} {E : XK} {es : List Expr} {t : TA}
/-- f(e, ..) where an exception is handled -/
theorem pe_callE (F : FnE X.prog X.w X.K X.mg X.base CX k f fd ps sp) (hr : L2H.RoomH k X.A) (hp : (a, oe) ∈ X.pn) (hz : Zc cls d oe) (hf : ∃ z, oe.data = .fields z) (hg : Gl X x) (hm : X.mg x = some (.ref f)) (hk : PySem.W.keepIn X.K (.ref f) = true) (hb : L2.Binds X.K fd ps []) (hx : Passes CX X E)
    (hargs : PA X (e :: es) t) (hdb : (x == ("__debug__" : Str)) = false := by decide) (he : starEach (e :: es) X.env = (false, eval e X.env) :: starEach es X.env := by rfl) (hpl : (backTo pos (starEach es X.env)).any (·.1) = false := by rfl) :
    PE X (.Call (.Name x q) (e :: es) [] pos) (tCall (sp a cls d) [] E t) := by
  refine ⟨fun pins s σ H Q I h => wpAny_Call_Name_kw (ld_glob I hg hm ?_ hdb)⟩
  refine PySem.W.callWith_K (h₀ := X.base) I.ok.mod.kin hk (thn (hargs.run pos pins s σ H _ I h) fun us s1 ⟨vs, H1, I1, r, w⟩ => ⟨I1.kIn, ?_⟩) he hpl
  replace w : sp a cls d (vs ++ []) H1 Q E := w
  rw [List.append_nil] at w
  have hl : us.length = ps.length := by rw [← r.length]; exact F.len _ _ _ _ _ _ _ w
  have b := hb s1 us I1.kIn (by rw [List.append_nil]; exact hl)
  rw [List.append_nil] at b
  have P1 := I1.pin (a, oe) (List.mem_append_left _ hp)
  have hpin : L2H.PinOk X.stack H1 s1 (a, oe) := ⟨P1.1, P1.2.1, fun hm => (List.mem_cons.mp (I1.stkSub a hm)).elim P1.2.2.1 P1.2.2.2.1, P1.2.2.2.2⟩
  refine wpAny_call (codeAny_mono (F.run X.A X.stack s1 H1 ⟨us, []⟩ us vs Q E (a, oe) cls d hr hz hf hpin I1.env0 b r w) fun r s2 hq => ?_)
  cases r with
  | error e => exact hx pins σ H1 s1 e s2 I1 hq
  | ok fl =>
    cases fl with
    | ret u => exact I1.after hq
    | _ => exact hq.elim
end
end ExX

namespace ExX
open PySem PySem.Spec PyProof.Rows L2 LamX
theorem un_over {fs fs2 : List Addr} {H H1 H2 : Hp} {h h1 h2 : Heap} (a : Un fs [] H H1 h h1) (b : Un fs2 [] H1 H2 h1 h2) (hl : ∀ c ∈ fs2, c ∈ fs ∨ h.objs.size ≤ c) : Un fs [] H H2 h h2 where
  keep := fun c o q n hc _ => b.keep c o (a.keep c o q n hc (by simp)) (a.free c o q n (by simp)) (fun z => (hl c z).elim hc fun y => Nat.not_lt.mpr y (Heap.lt_size q)) (by simp)
  slot := fun c o q n hc _ => by
    obtain ⟨sl, e⟩ := a.slot c o q n hc (by simp)
    obtain ⟨sl2, e2⟩ := b.any e (a.free c o q n (by simp)) (by simp)
    exact ⟨sl2, e2⟩
  free := fun c o q n _ => by
    obtain ⟨sl, e⟩ := a.any q n (by simp)
    exact b.free c _ e (a.free c o q n (by simp)) (by simp)
  there := fun c o q _ => by
    obtain ⟨o1, e⟩ := a.there c o q (by simp)
    exact b.there c o1 e (by simp)
  tups := fun c xs q => b.tups c xs (a.tups c xs q)
  frzs := fun c o u q => b.frzs c o u (a.frzs c o u q)
  tbls := fun c ps q => by
    obtain ⟨m, e⟩ := a.tbls c ps q
    obtain ⟨m2, e2⟩ := b.tbls c _ e
    exact ⟨m ++ m2, by rw [e2, Array.append_assoc]⟩
/-- the lambda at f, its code object at c2, made in X -/
def CloO (X : Cx) (params : Arguments) (body : Expr) (scope : Scope) (f c2 : Addr) : HO := .ext fun h => ∃ pm ctv : Value, h.get? f = some (PySem.W.kla_obj "<lambda>" (X.env.qual ++ "<lambda>") params body scope (cloFrom X.env.cells scope.names []) pm c2 ctv)
theorem cloO_tbl {X : Cx} {params : Arguments} {body : Expr} {scope : Scope} {f c2 : Addr} (ps : Array Value) : CloO X params body scope f c2 ≠ .tbl ps := fun z => by
  unfold CloO at z
  cases z
theorem clo_ok {X : Cx} {params : Arguments} {body : Expr} {scope : Scope} {f c2 : Addr} {P : Program} {w : World} {H : Hp} {h : Heap} {pm ctv : Value} (e : h.get? f = some (PySem.W.kla_obj "<lambda>" (X.env.qual ++ "<lambda>") params body scope (cloFrom X.env.cells scope.names []) pm c2 ctv)) :
    ObjOk P w H h f (CloO X params body scope f c2) := ⟨⟨pm, ctv, e⟩, ⟨_, e⟩, fun h1 h2 ⟨a, b, c⟩ st => ⟨a, b, st _ c⟩⟩
section
variable {X : Cx} {pins : List (Addr × Obj)} {σ : L2.St} {H : Hp} {s : Shared}
/-- a lambda is made and tracked -/
theorem lam_made {T : List (Addr × Str)} {c P : Addr} {params : Arguments} {body : Expr} {scope : Scope} {pos : Pos} {E : Value → Shared → Prop} {Q : Value → Shared → Prop} (I : Inv X pins σ H s) (TB : TabB X.base X.mg c P) (hcode : X.env.code = .ref c)
    (hm : (P, X.env.qual ++ "<lambda>") ∈ T) (hu : ∀ p ∈ T, p.1 = P → p.2 = X.env.qual ++ "<lambda>") (hT : Tabs T H) (hdef : defaultsOf params X.env = ([], [])) (hfree : ∀ y ∈ scope.names, y.2 = .free → ∃ c, X.env.cells.lookup y.1 = some c)
    (h : ∀ (f c2 : Addr) (H1 : Hp) (s1 : Shared), Inv X pins σ (upd H1 f (CloO X params body scope f c2)) s1 → ExtN H H1 → Tabs T H1 → H1 f = none → H1 c2 = some (CodeO c2 (X.env.qual ++ "<lambda>")) → Q (.ref f) s1) :
    wpAny (model X.prog X.w) X.A (eval (.Lambda params body scope pos) X.env) Q E s := by
  obtain ⟨ps, hP, ht, ha⟩ := hT _ hm
  refine PySem.W.kla_eval hdef ?_
  have bP : s.heap.BuiltinsAt X.mg P := TB.bm.keeps I.bk
  have hPs : s.heap.get? P = some { cls := .none, data := .fields ps } := I.hok P _ hP
  cases hc : codeAmong pos ps.toList with
  | none =>
    refine PySem.W.kla_makeFunction (mg := X.mg) (c := c) (P := P) (ps := ps) (closure_ok hfree) I.ok.glob (I.mod.glob.keeps I.bk) hcode (TB.code.keeps I.bk) hPs ht hc TB.gP bP fun c2 ctv h2 tk hx hge hlt hrec htb => ?_
    obtain ⟨c3, oc, vs, t, e2, hoc, hd, hv⟩ := hrec
    cases e2
    have nC : H c2 = none := I.hok.fresh hge
    have I1 := inv_table (t' := tk) (more := #[rawInt pos.line, rawInt pos.col, .ref c2]) (h' := h2) I hP hx htb hge ⟨oc, vs, t, hoc, hd, hv⟩
    have hE : ExtN H (upd (upd H P (.tbl (ps ++ #[rawInt pos.line, rawInt pos.col, .ref c2]))) c2 (CodeO c2 (X.env.qual ++ "<lambda>"))) := fun b o e n => by
      rw [upd_ne (ne_of_none e nC), upd_ne (show b ≠ P from fun z => n ps (Option.some.inj (e.symm.trans (by rw [z]; exact hP))))]
      exact e
    have eL : (ps ++ #[rawInt pos.line, rawInt pos.col, .ref c2]).toList = ps.toList ++ [rawInt pos.line, rawInt pos.col, .ref c2] := by simp
    refine h h2.objs.size c2 _ _ (I1.laid (t' := tk) (fun _ _ e => Heap.get?_push_of_some _ e) (Nat.le_refl _) (clo_ok (Heap.get?_push_size _ rfl))) hE (fun p hp => ?_) (I1.hok.fresh (Nat.le_refl _)) upd_same
    by_cases hb : p.1 = P
    · refine ⟨_, by rw [hb, upd_ne (ne_of_none hP nC), upd_same], by rw [eL]; exact PySem.TriplesOk_snoc _ _ _ _ ht, fun pz cv hcv => ?_⟩
      rw [eL] at hcv
      rw [hu p hp hb]
      rcases among_app _ ht hcv with z | z
      · obtain ⟨c0, e1, e2⟩ := ha pz cv z
        exact ⟨c0, e1, hE _ _ e2 codeO_ne⟩
      · exact ⟨c2, z, upd_same⟩
    · obtain ⟨psz, a1, a2, a3⟩ := hT p hp
      refine ⟨psz, by rw [upd_ne (ne_of_none a1 nC), upd_ne hb]; exact a1, a2, fun pz cv hcv => ?_⟩
      obtain ⟨c0, e1, e2⟩ := a3 pz cv hcv
      exact ⟨c0, e1, hE _ _ e2 codeO_ne⟩
  | some cv =>
    obtain ⟨c2, e, hco⟩ := ha pos cv hc
    subst e
    refine PySem.W.kla_makeFunctionHit (mg := X.mg) (c := c) (P := P) (ps := ps) (closure_ok hfree) I.ok.glob (I.mod.glob.keeps I.bk) hcode (TB.code.keeps I.bk) hPs ht hc bP fun ctv h2 tk hx hsz => ?_
    have I1 : Inv X pins σ H { s with heap := h2, toks := tk } := I.kept hx
    exact h h2.objs.size c2 H _ (I1.laid (t' := tk) (fun _ _ e => Heap.get?_push_of_some _ e) (Nat.le_refl _) (clo_ok (Heap.get?_push_size _ rfl))) (ExtN.refl H) hT (I1.hok.fresh (Nat.le_refl _)) hco
end
/-- what is at f acts as tl tells, called from behind s0, H0 -/
structure Acts (P : Program) (w : World) (K : PySem.W.Frag) (mg : Str → Option Value) (base : Heap) (k : Nat) (fs : List Addr) (f : Addr) (s0 : Shared) (H0 : Hp) (tl : XK → Hp → VK → Prop) : Prop where
  fn : ∀ (s1 : Shared) (HZ : Hp) (Q : VK) (E : XK), HOk P w HZ s1.heap → tl E HZ Q → PySem.W.FnAt f s1.heap
  run : ∀ (A : Around) (outer : List Env) (s1 : Shared) (HZ : Hp) (Q : VK) (E : XK), Room k A → Env0 P w K mg base A outer s1 HZ → Un fs [] H0 HZ s0.heap s1.heap → tl E HZ Q →
    codeAny (model P w) A (.call (.ref f) ⟨[], []⟩) (CR (L2N.CX P w) outer P w HZ s1 Q E) s1
/-- the context of a lambda's body: what is raised there has no context of its own -/
abbrev lamC (X : Cx) (A : Around) (outer : List Env) (s : Shared) (H : Hp) (E : XK) (scope : Scope) (f c2 : Addr) : Cx := (lamCx X A outer s H E scope f c2).wish fun e s1 =>
  wpAny (model X.prog X.w) (A.deeper (lamEnv X scope s.heap.objs.size f c2)) (leaving (lamEnv X scope s.heap.objs.size f c2) e) (fun _ s2 => L2N.CX X.prog X.w outer H s E e s2) (fun e2 s2 => L2N.CX X.prog X.w outer H s E e2 s2) s1
/-- a lambda of X's text: what its body reads -/
structure LamD (X : Cx) (k : Nat) where
  params : Arguments
  body : Expr
  scope : Scope
  tb : XK → TE
  L : LamS X.env.scope scope
  hbind : ∀ (q : Str) (cl : List (Str × Addr)) (pm cv ctv : Value), bindArgs (PySem.W.kla_fn "<lambda>" q params body scope cl pm cv ctv) ⟨[], []⟩ = pure []
  hbody : ∀ (f c2 : Addr) (E : XK) (A : Around) (outer : List Env) (s : Shared) (H : Hp), Room k (A.deeper (lamEnv X scope s.heap.objs.size f c2)) → PE (lamC X A outer s H E scope f c2) body (tb E)
/-- such a lambda stands at f -/
def LamD.At {X : Cx} {k : Nat} (D : LamD X k) (f : Addr) (H : Hp) : Prop := ∃ c2, H f = some (CloO X D.params D.body D.scope f c2) ∧ H c2 = some (CodeO c2 (X.env.qual ++ "<lambda>"))
/-- what it does, made with the slots σ -/
def LamD.does {X : Cx} {k : Nat} (D : LamD X k) (f : Addr) (σ : L2.St) : XK → Hp → VK → Prop := fun E HZ Q => D.At f HZ ∧ D.tb E σ HZ Q
section
variable {X : Cx} {pins : List (Addr × Obj)} {σ : L2.St} {H : Hp} {s : Shared}
theorem acts_of {k : Nat} (D : LamD X k) {f : Addr} (I : Inv X pins σ H s) : Acts X.prog X.w X.K X.mg X.base (k + 1) (frs X.stack) f s H (D.does f σ) := by
  refine ⟨fun s1 HZ Q E hok ⟨⟨c2, hcf, hcc⟩, ht⟩ => ?_, fun A outer s1 HZ Q E hr e0 un ⟨⟨c2, hcf, hcc⟩, ht⟩ => ?_⟩
  · obtain ⟨⟨pm, ctv, of1⟩, _, _⟩ := hok f _ hcf
    exact ⟨_, _, _, _, of1⟩
  obtain ⟨⟨pm, ctv, of1⟩, _, _⟩ := e0.hok f _ hcf
  obtain ⟨⟨oc, vs, t, hoc, hdc, hvc⟩, _, _⟩ := e0.hok c2 _ hcc
  refine PySem.W.kla_callFunE hr.depth of1 rfl D.L.co D.L.gen rfl ⟨c2, oc, vs, t, rfl, hoc, hdc, hvc⟩ ?_
  rw [D.hbind]
  have lim : s1.heap.NoLimit := e0.mod.nolimit.keeps fun b o e => (e0.bs b o e).1
  refine wpAny_pure (wpAny_newFunctionEnv (fun y hy => (D.L.own y hy).2) (fun y hy => absurd hy (by simp)) (fun h1 hns hsb => ⟨lim.fresh _ hsb, ?_⟩) D.L.kind)
  show codeAny _ _ (.expr D.body (lamEnv X D.scope s1.heap.objs.size f c2)) _ _
  have kp : ∀ b o, s1.heap.get? b = some o → h1.get? b = some o := fun b o e => hsb.extBut b o (Nat.ne_of_lt (Heap.lt_size e)) (Heap.get?_push_of_some _ e)
  have J : Inv (lamCx X A outer s1 HZ E D.scope f c2) [] σ HZ { s1 with heap := h1, toks := s1.toks + ([] : List (Str × Value)).length } := lam_start2 I D.L e0 hr.hd un hns kp
  refine PySem.W.kla_codeExpr (wpAny_mono ((D.hbody f c2 E A outer s1 HZ (hr.deeper _)).run [] _ _ HZ Q (J.wish _) ht) (fun v s2 hq => ?_) fun e s2 hq => hq)
  obtain ⟨w2, H2, J2, rv, q⟩ := hq
  exact ⟨w2, H2, J2.os, J2.bare, J2.base, J2.hok, rv, q⟩
end
/-- a(), a the name of what acts -/
theorem pe_do {Z : Cx} {W : WX} {k i : Nat} {a : Str} {f : Addr} {fs : List Addr} {s0 : Shared} {H0 : Hp} {tl : XK → Hp → VK → Prop} {p1 p2 : Pos} (ac : Acts Z.prog Z.w Z.K Z.mg Z.base k fs f s0 H0 tl) (hr : Room k Z.A) (hex : Z.ex = []) (hU : Un fs [] H0 Z.H_0 s0.heap Z.s_0.heap)
    (ho : ∀ c ∈ frs Z.outer, c ∈ fs ∨ s0.heap.objs.size ≤ c) (tk : L2N.Takes Z W) (hN : Z.N[i]? = some a) (hv : Vis Z.env.scope a) (hd : (a == ("__debug__" : Str)) = false := by decide) (hcd : (a == ("__classdict__" : Str)) = false := by decide) :
    PE Z (.Call (.Name a p1) [] [] p2) (fun σ H Q => σ[i]? = some (some (.ref f)) ∧ ∃ (E1 : XK) (Q1 : VK), tl E1 H Q1 ∧ (∀ cls d H1, E1 cls d H1 → W cls d σ H1) ∧ ∀ v H1, Q1 v H1 → Q v H1) := by
  refine ⟨fun pins s σ H Q I ⟨hs, E1, Q1, ht, hE, hQ⟩ => wpAny_Call_Name_kw (thn ((pe_var (pos := p1) (i := i) hN hv hd hcd).run pins s σ H (fun v H1 => v = .ref f ∧ H1 = H) I ⟨.ref f, hs, rfl, rfl⟩) fun u s1 ⟨v, H1, I1, r1, ev, eH⟩ => ?_)⟩
  subst ev eH
  obtain rfl : u = Value.ref f := r1
  have base : Un (frs Z.outer) [] Z.H_0 H1 Z.s_0.heap s1.heap := hex ▸ I1.base
  refine PySem.W.callWith_F0 (ac.fn _ _ _ _ I1.hok ht) (wpAny_call (codeAny_mono (ac.run Z.A Z.stack s1 H1 Q1 E1 hr I1.env0 (un_over hU base ho) ht) fun r s2 hq => ?_))
  cases r with
  | error e => exact tk e s2 (L2N.XE.of_call I1 (fun cls d H2 z => hE cls d H2 z) hq)
  | ok fl =>
    cases fl with
    | ret u =>
      obtain ⟨v, H2, c1, c2, c3, c4, c5, c6⟩ := hq
      exact I1.after ⟨v, H2, c1, c2, c3, c4, c5, hQ _ _ c6⟩
    | _ => exact hq.elim
/-- a def of one parameter, handed what acts; it lets nothing out -/
structure FnL (P : Program) (w : World) (K : PySem.W.Frag) (mg : Str → Option Value) (base : Heap) (k : Nat) (g : Addr) (TT : (XK → Hp → VK → Prop) → Hp → VK → Prop) : Prop where
  run : ∀ (kk : Nat) (f : Addr) (fs : List Addr) (s0 : Shared) (H0 : Hp) (tl : XK → Hp → VK → Prop), Acts P w K mg base kk fs f s0 H0 tl → ∀ (A : Around) (outer : List Env) (s : Shared) (H : Hp) (Q : VK), Room (kk + k) A → Env0 P w K mg base A outer s H → Un fs [] H0 H s0.heap s.heap →
    (∀ c ∈ frs outer, c ∈ fs ∨ s0.heap.objs.size ≤ c) → s0.heap.objs.size ≤ s.heap.objs.size → TT tl H Q → codeAny (model P w) A (.call (.ref g) ⟨[.ref f], []⟩) (CR C8.CX0 outer P w H s Q C8.E0) s
section
variable {P : Program} {w : World} {K : PySem.W.Frag} {mg : Str → Option Value} {base : Heap} {k : Nat} {g : Addr} {TT : (XK → Hp → VK → Prop) → Hp → VK → Prop}
theorem fnL_of {x qual a : Str} {st : Stmt} {fd : FuncData} {N : List Str} (F : Fun K x qual st g fd) (S : FnScope N [a] (defScope st)) (hb : L2.Binds K fd [a] [])
    (hbody : ∀ (kk : Nat) (f : Addr) (fs : List Addr) (s0 : Shared) (H0 : Hp) (tl : XK → Hp → VK → Prop), Acts P w K mg base kk fs f s0 H0 tl → ∀ (cdv : Value) (A : Around) (outer : List Env) (s : Shared) (H : Hp) (Q : VK), Room (kk + k) (A.deeper (envOfC qual (defScope st) s.heap.objs.size g cdv)) → Un fs [] H0 H s0.heap s.heap →
      (∀ c ∈ frs outer, c ∈ fs ∨ s0.heap.objs.size ≤ c) → s0.heap.objs.size ≤ s.heap.objs.size → TT tl H Q → ∃ t, PSs (cxOf C8.CX0 P w K mg base N qual (defScope st) g cdv A outer s H C8.E0) (defBody st) t ∧ t { nx := fun _ H1 => Q .non H1, rt := Q } (L2.start N [.ref f]) H) :
    FnL P w K mg base (k + 1) g TT := by
  refine ⟨fun kk f fs s0 H0 tl ac A outer s H Q hr e0 hU ho hz ht => ?_⟩
  obtain ⟨oc, od, kV, doc, pm, an, cdv, ct, osl, rfl, lk, hcd⟩ := F.ex
  have b := hb s [.ref f] (e0.mod.kin.keeps fun b o e => (e0.bs b o e).1) rfl
  exact run_ofS (k := kk + k) (N := N) (ps := [a]) (us := [.ref f]) (vs := [.ref f]) lk hcd S hr e0 b (.cons rfl .nil) rfl fun hr2 => hbody kk f fs s0 H0 tl ac cdv A outer s H Q hr2 hU ho hz ht
end
section
variable {Z : Cx} {k kk i : Nat} {g : Addr} {TT : (XK → Hp → VK → Prop) → Hp → VK → Prop} {x a : Str} {p p1 pos : Pos}
/-- x(a), a the name of what acts -/
theorem pe_hand {f : Addr} {fs : List Addr} {s0 : Shared} {H0 : Hp} {tl : XK → Hp → VK → Prop} (G : FnL Z.prog Z.w Z.K Z.mg Z.base k g TT) (ac : Acts Z.prog Z.w Z.K Z.mg Z.base kk fs f s0 H0 tl) (hr : Room (kk + k) Z.A) (hex : Z.ex = []) (hU : Un fs [] H0 Z.H_0 s0.heap Z.s_0.heap)
    (ho : ∀ c ∈ frs Z.stack, c ∈ fs ∨ s0.heap.objs.size ≤ c) (hg : Gl Z x) (hm : Z.mg x = some (.ref g)) (hk : PySem.W.keepIn Z.K (.ref g) = true) (hN : Z.N[i]? = some a) (hv : Vis Z.env.scope a) (hos : ∀ c ∈ frs Z.outer, c ∈ frs Z.stack) (hz : s0.heap.objs.size ≤ Z.s_0.heap.objs.size) (hdb : (x == ("__debug__" : Str)) = false := by decide) (hd : (a == ("__debug__" : Str)) = false := by decide)
    (hcd : (a == ("__classdict__" : Str)) = false := by decide) (he : starEach [Expr.Name a p1] Z.env = (false, eval (.Name a p1) Z.env) :: starEach [] Z.env := by rfl) (hpl : (backTo pos (starEach [] Z.env)).any (·.1) = false := by rfl) :
    PE Z (.Call (.Name x p) [.Name a p1] [] pos) (fun σ H Q => σ[i]? = some (some (.ref f)) ∧ TT tl H Q) := by
  refine ⟨fun pins s σ H Q I ⟨hs, ht⟩ => wpAny_Call_Name_kw (ld_glob I hg hm ?_ hdb)⟩
  refine PySem.W.callWith_K (h₀ := Z.base) I.ok.mod.kin hk (thn ((pa_cons (pe_var (pos := p1) (i := i) hN hv hd hcd) pa_nil).run pos pins s σ H (fun vs H1 => vs = [.ref f] ∧ H1 = H) I ⟨.ref f, hs, rfl, rfl⟩) fun us s1 ⟨vs, H1, I1, r, ev, eH⟩ => ⟨I1.kIn, ?_⟩) he hpl
  subst ev eH
  cases r with
  | @cons _ u0 _ ur ra rw2 =>
    cases rw2
    obtain rfl : u0 = Value.ref f := ra
    have base : Un (frs Z.outer) [] Z.H_0 H1 Z.s_0.heap s1.heap := hex ▸ I1.base
    refine wpAny_call (codeAny_mono (G.run kk f fs s0 H0 tl ac Z.A Z.stack s1 H1 Q hr I1.env0 (un_over hU base fun c hc => ho c (hos c hc)) ho (Nat.le_trans hz I1.sz) ht) fun r s2 hq => ?_)
    cases r with
    | error e => exact (show False from hq).elim
    | ok fl =>
      cases fl with
      | ret u => exact I1.after hq
      | _ => exact hq.elim
/-- x(e), e giving a lambda of the def's own text -/
theorem pe_give {e : Expr} {te : TE} (G : FnL Z.prog Z.w Z.K Z.mg Z.base k g TT) (hr : Room (kk + 1 + k) Z.A) (hg : Gl Z x) (hm : Z.mg x = some (.ref g)) (hk : PySem.W.keepIn Z.K (.ref g) = true) (h1 : PE Z e te) (hdb : (x == ("__debug__" : Str)) = false := by decide)
    (he : starEach [e] Z.env = (false, eval e Z.env) :: starEach [] Z.env := by rfl) (hpl : (backTo pos (starEach [] Z.env)).any (·.1) = false := by rfl) :
    PE Z (.Call (.Name x p) [e] [] pos) (fun σ H Q => te σ H fun v H1 => ∃ (f : Addr) (D : LamD Z kk), [v] = [V.ref f] ∧ TT (D.does f σ) H1 Q) := by
  refine ⟨fun pins s σ H Q I h => wpAny_Call_Name_kw (ld_glob I hg hm ?_ hdb)⟩
  refine PySem.W.callWith_K (h₀ := Z.base) I.ok.mod.kin hk (thn ((pa_cons h1 pa_nil he).run pos pins s σ H (fun vs H1 => ∃ (f : Addr) (D : LamD Z kk), vs = [.ref f] ∧ TT (D.does f σ) H1 Q) I h) fun us s1 ⟨vs, H1, I1, r, f, D, ev, ht⟩ => ⟨I1.kIn, ?_⟩) he hpl
  subst ev
  cases r with
  | @cons _ u0 _ ur ra rw2 =>
    cases rw2
    obtain rfl : u0 = Value.ref f := ra
    refine wpAny_call (codeAny_mono (G.run (kk + 1) f (frs Z.stack) s1 H1 _ (acts_of D I1) Z.A Z.stack s1 H1 Q hr I1.env0 Un.refl (fun c hc => .inl hc) (Nat.le_refl _) ht) fun r s2 hq => ?_)
    cases r with
    | error e => exact (show False from hq).elim
    | ok fl =>
      cases fl with
      | ret u => exact I1.after hq
      | _ => exact hq.elim
/-- lambda: body -/
theorem pe_lam {T : List (Addr × Str)} {c PT : Addr} (D : LamD Z kk) (TB : TabB Z.base Z.mg c PT) (hcode : Z.env.code = .ref c) (hmT : (PT, Z.env.qual ++ "<lambda>") ∈ T) (hu : ∀ q ∈ T, q.1 = PT → q.2 = Z.env.qual ++ "<lambda>") (hdef : defaultsOf D.params Z.env = ([], [])) :
    PE Z (.Lambda D.params D.body D.scope pos) (fun _ H Q => Tabs T H ∧ ∀ f H1, ExtN H H1 → Tabs T H1 → D.At f H1 → Q (.ref f) H1) := by
  refine ⟨fun pins s σ H Q I ⟨hT, h⟩ => lam_made I TB hcode hmT hu hT hdef (D.L.has I.ok) fun f c2 H1 s1 I1 eN T1 nf hc => ?_⟩
  have ne : ∀ {b : Addr} {o : HO}, H1 b = some o → upd H1 f (CloO Z D.params D.body D.scope f c2) b = some o := fun {b o} e => by rw [upd_ne (ne_of_none e nf)]; exact e
  exact ⟨.ref f, _, I1, rfl, h f _ (fun b o e n => ne (eN b o e n)) (T1.ext fun b o e => ne e) ⟨c2, upd_same, ne hc⟩⟩
/-- x(lambda: body) -/
theorem pe_ask {T : List (Addr × Str)} {c PT : Addr} {lp : Pos} (D : LamD Z kk) (G : FnL Z.prog Z.w Z.K Z.mg Z.base k g TT) (hr : Room (kk + 1 + k) Z.A) (hg : Gl Z x) (hm : Z.mg x = some (.ref g)) (hk : PySem.W.keepIn Z.K (.ref g) = true) (TB : TabB Z.base Z.mg c PT) (hcode : Z.env.code = .ref c)
    (hmT : (PT, Z.env.qual ++ "<lambda>") ∈ T) (hu : ∀ q ∈ T, q.1 = PT → q.2 = Z.env.qual ++ "<lambda>") (hdef : defaultsOf D.params Z.env = ([], [])) (hdb : (x == ("__debug__" : Str)) = false := by decide)
    (he : starEach [.Lambda D.params D.body D.scope lp] Z.env = (false, eval (.Lambda D.params D.body D.scope lp) Z.env) :: starEach [] Z.env := by rfl) (hpl : (backTo pos (starEach [] Z.env)).any (·.1) = false := by rfl) :
    PE Z (.Call (.Name x p) [.Lambda D.params D.body D.scope lp] [] pos) (fun σ H Q => Tabs T H ∧ ∀ f H1, ExtN H H1 → Tabs T H1 → D.At f H1 → TT (D.does f σ) H1 Q) :=
  ⟨fun pins s σ H Q I ⟨h1, h2⟩ => (pe_give (kk := kk) G hr hg hm hk (pe_lam D TB hcode hmT hu hdef) hdb he hpl).run pins s σ H Q I ⟨h1, fun f H1 a b c => ⟨f, D, rfl, h2 f H1 a b c⟩⟩⟩
theorem LamD.At.same {D : LamD Z kk} {f : Addr} {H H1 : Hp} (a : D.At f H) (s : ∀ b o, H b = some o → H1 b = some o) : D.At f H1 := by
  obtain ⟨c2, h1, h2⟩ := a
  exact ⟨c2, s _ _ h1, s _ _ h2⟩
end
end ExX

namespace ExX
open PySem PySem.Spec PyProof.Rows L2
section
variable {prog : Program} {w : World} {A : Around} {E : Value → Shared → Prop} {s : Shared}
/-- a tuple's iterator is at its end, while x1 is handled -/
theorem next_end_hot {it t i : Nat} {items : Array Value} {x1 : Addr} {Q : Option Value → Shared → Prop} (hot : HotX.HotAt A x1 s.heap) (hit : s.heap.IsTupleIter it t i) (ht : s.heap.IsTuple t items) (hx : items[i]? = none) (hne : x1 ≠ it)
    (hQ : ∀ h2, (∀ b o, b ≠ it → s.heap.get? b = some o → h2.get? b = some o) → Q none { s with heap := h2 }) : wpAny (model prog w) A (pyNext (.ref it)) Q E s := by
  obtain ⟨hh, o1, v1, h1, d1, c1⟩ := hot
  obtain ⟨o, ho, hc, hd⟩ := id hit
  obtain ⟨ol, hol, hcl, nl, hdl⟩ := id ht
  unfold pyNext
  refine wpAny_bind (wpAny_attempt (wpAny_callSpecial?_slot (name := Str.ofString "__next__") hit.typeIs F.slot_tuple_iterator_next
    (wpAny_call_entry F.slot_tuple_iterator_next hit.typeIs F.entry_tuple_iterator_next ?_ (F.args_tuple_iterator_next_1 _))))
  show wpAny _ _ (field (.ref it) 0 >>= _) _ _ s
  refine wpAny_bind (wpAny_field ho hd (x := .ref t) rfl ?_)
  show wpAny _ _ (if (Value.ref t == Value.none) = true then _ else _) _ _ s
  rw [if_neg (show ¬ ((Value.ref t == Value.none) = true) from by simp)]
  show wpAny _ _ (field (.ref it) 1 >>= _) _ _ s
  refine wpAny_bind (wpAny_field ho hd (x := .int i 0) rfl ?_)
  show wpAny _ _ (seqItems? (.ref t) >>= _) _ _ s
  refine wpAny_bind (wpAny_seqItems hol hdl ?_)
  simp only [Int.toNat_natCast, hx]
  refine wpAny_bind (wpAny_rule (wpAny_bind (wpAny_setField ho hd (by simp) ?_)))
  show wpAny _ _ (newExc (.type "StopIteration") [] >>= _) _ _ _
  refine wpAny_bind ?_
  simp only [newExc, newTuple]
  refine wpAny_bind (wpAny_newObj_type ?_ (by size_fits))
  refine wpAny_bind (m := firstArgMember _ _) (wpAny_of_eq (a := Value.none) (by first | rfl | (simp only [firstArgMember]; rfl)) (wpAny_newObj_type ?_ (by size_fits)))
  have k : ∀ b u, b ≠ it → s.heap.get? b = some u → (s.heap.update it (Obj.mapFields (·.setIfInBounds 0 Value.none))).get? b = some u := fun b u hb e => (Heap.get?_update_other _ _ (Ne.symm hb)).trans e
  have sz := Heap.lt_size (k x1 o1 hne h1)
  refine HotX.raiseNew_hot (x1 := x1) ⟨hh, o1, v1, Heap.get?_push_of_some _ (Heap.get?_push_of_some _ (k _ _ hne h1)), d1, c1⟩ (Nat.ne_of_lt (Heap.lt_size (Heap.get?_push_of_some _ (k _ _ hne h1)))) (Heap.get?_push_size _ rfl) rfl (by first | (simp; done) | (simp; omega)) ?_
  refine wpAny_bind (wpAny_isInstance (T := "StopIteration") (b := true) ⟨_, Heap.get?_update_self _ (Heap.get?_push_size _ rfl) rfl, rfl⟩ isSubtype_stop ?_)
  refine wpAny_pure (hQ _ fun b o hb e => ?_)
  rw [Heap.get?_update_other _ _ (Nat.ne_of_gt (Heap.lt_size (Heap.get?_push_of_some _ (k b o hb e))))]
  exact Heap.get?_push_of_some _ (Heap.get?_push_of_some _ (k b o hb e))
theorem unpack_hot {t : Addr} {items : Array Value} {x1 : Addr} {Q : List Value → Shared → Prop} (hot : HotX.HotAt A x1 s.heap) (ht : s.heap.IsTuple t items)
    (hQ : ∀ h2, (∀ b o, b ≠ s.heap.objs.size → s.heap.get? b = some o → h2.get? b = some o) → Q items.toList { s with heap := h2 }) : wpAny (model prog w) A (unpackItems (.ref t) items.size none) Q E s := by
  have hlt : t ≠ s.heap.objs.size := by obtain ⟨o, ho, _⟩ := ht; exact Nat.ne_of_lt (Heap.lt_size ho)
  obtain ⟨hh, o1, v1, h1, d1, c1⟩ := hot
  have hxs : x1 ≠ s.heap.objs.size := Nat.ne_of_lt (Heap.lt_size h1)
  unfold unpackItems
  refine wpAny_bind ?_
  unfold notIterableAtAll
  refine wpAny_bind (wpAny_specialOf ht.typeIs F.slot_tuple_iter.lookup (wpAny_pure ?_))
  simp only [Bool.false_eq_true, if_false]
  refine wpAny_bind (wpAny_holding (wpAny_pyIter_tuple ht ?_))
  refine wpAny_bind (wpAny_holding (wpAny_draw_tuple hlt items.size 0 _ _ ⟨_, Heap.get?_push_size _ rfl, rfl, rfl⟩ (ht.push _) (by omega) fun h2 hit2 hs2 => ?_))
  have all : List.take items.size (List.drop 0 items.toList) = items.toList := by rw [List.drop_zero]; exact List.take_of_length_le (by simp)
  rw [all, if_neg (by simp)]
  have ht2 : h2.IsTuple t items := (ht.push _).extBut hs2.extBut hlt
  refine wpAny_bind (wpAny_holding (next_end_hot (x1 := x1) ⟨hh, o1, v1, hs2.extBut _ _ hxs (Heap.get?_push_of_some _ h1), d1, c1⟩ hit2 ht2 (by simp) hxs fun h3 k3 => ?_))
  simp only [Option.isSome_none, Bool.false_eq_true, if_false]
  exact wpAny_pure (hQ h3 fun b o hb e => k3 b o hb (hs2.extBut b o hb (Heap.get?_push_of_some _ e)))
end
/-- a, b = x, y where an exception is handled -/
theorem ps_parH {X : Cx} {pos : Pos} {i j : Nat} {x y : Str} {a b : Expr} {ta : TA} {px py pt : Pos} {kt k2 pt2} (hc : L2H.HotC X) (hN : X.N.Nodup) (hi : X.N[i]? = some x) (hj : X.N[j]? = some y) (hij : i ≠ j)
    (hx : X.env.scope.names.lookup x = some .local) (hy : X.env.scope.names.lookup y = some .local) (ha : PA X [a, b] ta)
    (hw : swappedStores [.Tuple [.Name x px, .Name y py] kt pt] (.Tuple [a, b] k2 pt2) X.env = pure (some [x, y]))
    (hs : swapsWithSole [.Tuple [.Name x px, .Name y py] kt pt] (.Tuple [a, b] k2 pt2) pos.line X.env = pure false := by rfl) :
    PS X (.Assign [.Tuple [.Name x px, .Name y py] kt pt] (.Tuple [a, b] k2 pt2) pos) (tPar i j ta) := by
  refine ⟨fun pins s σ H D I h => ?_⟩
  rw [exec_Assign_arm]
  refine wpAny_bind (wpAny_standAt ?_)
  rw [hs]
  refine wpAny_bind (wpAny_pure ?_)
  rw [if_neg (by decide)]
  refine wpAny_bind (Tuple_ (thn (ha.run _ pins s σ H _ I h) fun us s1 ⟨vs, H1, I1, r1, v, z, e1, q1⟩ => ?_))
  subst e1
  obtain ⟨u1, u2, rfl, rv, rz⟩ : ∃ u1 u2, us = [u1, u2] ∧ RelV v u1 ∧ RelV z u2 := by
    cases r1 with
    | cons p q =>
      cases q with
      | cons p2 q2 =>
        cases q2
        exact ⟨_, _, rfl, p, p2⟩
  refine wpAny_newObj_type ?_ (by show 2 ≤ sizeLine; decide)
  have I2 : Inv X pins σ H1 { s1 with heap := s1.heap.push { cls := .type "tuple", data := .seq [u1, u2].toArray } } := I1.kept (t' := s1.toks) fun b o e => Heap.get?_push_of_some _ e
  rw [hw]
  refine wpAny_bind (wpAny_pure ?_)
  show wpAny (model X.prog X.w) X.A (do rule "assign.swapped-stores"; let items ← unpackItems (.ref s1.heap.objs.size) 2 none; assignInOrder [fun v => bindName X.env y v, fun v => bindName X.env x v] items.reverse; pure Flow.next) _ _ _
  obtain ⟨x1, hot⟩ := hc.at I2
  refine wpAny_bind (wpAny_rule (wpAny_bind (unpack_hot (items := #[u1, u2]) hot (IsTup.new s1.heap _) fun h2 k2 => ?_)))
  have I3 := I2.kept (h' := h2) (t' := s1.toks) fun b o e => k2 b o (Nat.ne_of_lt (Heap.lt_size e)) e
  show wpAny _ _ (assignInOrder [fun v => bindName X.env y v, fun v => bindName X.env x v] [u2, u1] >>= fun _ => pure Flow.next) _ _ _
  refine wpAny_bind (assignInOrder_cons (wpAny_bindName (store_ok I3 hN hj (.inl hy) rz (fun s2 I4 => ?_) (.inr hy))))
  refine assignInOrder_cons (wpAny_bindName (store_ok I4 hN hi (.inl hx) rv (fun s3 I5 => assignInOrder_nil (wpAny_pure ?_)) (.inr hx)))
  rw [List.set_comm _ _ (Ne.symm hij)] at I5
  exact ⟨_, H1, I5, q1⟩
end ExX

namespace ExX
open PySem PySem.Spec PyProof.Rows L2
abbrev luTail : List Value := [.type "LookupError", .type "Exception", .type "BaseException", .type "object"]
abbrev vaTail : List Value := [.type "ValueError", .type "Exception", .type "BaseException", .type "object"]
/-- the body of a class -/
def clsB : Stmt → List Stmt
  | .ClassDef _ _ _ b _ _ _ _ _ _ _ => b
  | _ => []
abbrev initS (s : Stmt) : Stmt := (clsB s).getD 0 (.Pass ⟨0, 0, 0, 0⟩)
theorem txt_int {i : Int} (h : i.natAbs.log2 < 1920) : (Str.ofString (toString i)).length ≤ 1921 := by
  rw [PySem.ofString_length]
  exact int_text_length_le (by decide) h
theorem fits {z : Str} (h : z.length ≤ 10000) : z.length ≤ sizeLine := by rw [sizeLine_eq]; omega
theorem fits_cat {a b : Str} {m n : Nat} (h1 : a.length ≤ m) (h2 : b.length ≤ n) : (a ++ b).length ≤ m + n := by rw [Str.length_append]; omega
/-- an int whose text is short enough -/
def Prt (v : V) : Prop := ∃ i : Int, v = .int i ∧ i.natAbs.log2 < 1920
/-- __init__ of the two classes above all others -/
def spTop (K : PySem.W.Frag) (nid : String) (tl : List Value) : Sp := fun vs H Q _ => ∃ (a C : Addr) (tag msg : Str), vs = [.ref a, .str tag, .str msg] ∧ H a = some (exo a C none) ∧ ExB K C nid tl ∧ PySem.W.findIn K (.ref C) "tag" = some none ∧
  ∀ dx, H dx = none → dx ≠ a → Q .non (upd (upd H dx (exd dx [("tag", .str tag)])) a (exo a C (some dx)))
/-- __init__ of an error with one field -/
def spErrI (K : PySem.W.Frag) (nid : String) (tl : List Value) (fld tag : Str) : Sp := fun vs H Q _ => ∃ (a C : Addr) (v : V), vs = [.ref a, v] ∧ Prt v ∧ H a = some (exo a C none) ∧ ExB K C nid tl ∧ PySem.W.findIn K (.ref C) "tag" = some none ∧ PySem.W.findIn K (.ref C) fld = some none ∧
  ∀ dx, H dx = none → dx ≠ a → Q .non (upd (upd (upd H dx (exd dx [("tag", .str tag)])) a (exo a C (some dx))) dx (exd dx [(fld, v), ("tag", .str tag)]))
/-- an error is on its way: its class, its dict, new, with the field and the tag -/
def Flies (H : Hp) (E : XK) (C : Addr) (fld tag : Str) (v : V) : Prop := ∀ d H1, H d = none → H1 d = some (.xd [(fld, v), ("tag", .str tag)]) → Same H H1 → E (.ref C) (some d) H1
structure Raisable (P : Program) (w : World) (K : PySem.W.Frag) (mg : Str → Option Value) (base : Heap) (k : Nat) (x : Str) (C : Addr) (fld tag : Str) : Prop where
  ex : ∃ (B nid iid : String) (tl : List Value) (fI : Addr) (fd : FuncData), ExcBaseFacts B nid iid tl ∧ ExB K C nid tl ∧ PySem.W.findIn K (.ref C) "__init__" = some (some (.ref fI)) ∧ PySem.W.typeIn K (.ref fI) = some (.type "function") ∧
    FnOk P w K mg base CX0 k fI fd ["self", fld] (spErrI K nid tl fld tag) ∧ L2.Binds K fd ["self", fld] []
  g : mg x = some (.ref C)
  nt : PySem.W.findIn K (.ref C) "tag" = some none
  nf : PySem.W.findIn K (.ref C) fld = some none
  xf : XfC K C
section
variable {X : Cx} {k : Nat} {x fld tag : Str} {C : Addr} {e : Expr} {te : TE} {p pos : Pos}
theorem mk_flies {K : PySem.W.Frag} {nid : String} {tl : List Value} {vs : List V} {H1 : Hp} {Q : XK} (T : ExB K C nid tl) (nt : PySem.W.findIn K (.ref C) "tag" = some none) (nf : PySem.W.findIn K (.ref C) fld = some none) (h : ∃ v, vs = [v] ∧ Prt v ∧ Flies H1 Q C fld tag v) : mkW C (spErrI K nid tl fld tag) vs H1 Q := by
  obtain ⟨v, rfl, hp, fl⟩ := h
  refine ⟨by show 1 ≤ 1000; decide, fun a na => ⟨a, C, v, rfl, hp, upd_same, T, nt, nf, fun dx nd ne => ⟨rfl, dx, _, ?_, upd_same, ?_, ?_⟩⟩⟩
  · rw [upd_ne ne.symm, upd_same]
  · rw [upd_ne ne] at nd
    exact nd
  · rw [upd_ne ne] at nd
    refine fl dx _ nd upd_same fun b o q => ?_
    have hb : b ≠ dx := ne_of_none q nd
    have ha : b ≠ a := ne_of_none q na
    rw [upd_ne hb, del_ne ha, upd_ne hb, upd_ne ha, upd_ne hb, upd_ne ha]
    exact q
theorem pmk_err (T : Raisable X.prog X.w X.K X.mg X.base k x C fld tag) (hr : Room (k + 1) X.A) (hg : Gl X x) (h : PE X e te) (hdb : (x == ("__debug__" : Str)) = false := by decide) (he : starEach [e] X.env = (false, eval e X.env) :: starEach [] X.env := by rfl) (hpl : (backTo pos (starEach [] X.env)).any (·.1) = false := by rfl) :
    L2N.PMk X (.Call (.Name x p) [e] [] pos) (fun σ H Q => te σ H fun v H1 => ∃ v0, [v] = [v0] ∧ Prt v0 ∧ Flies H1 Q C fld tag v0) := by
  obtain ⟨B, nid, iid, tl, fI, fd, FB, TB, iC, tI, G, b⟩ := T.ex
  exact pmk (R := fun vs H1 Q => ∃ v, vs = [v] ∧ Prt v ∧ Flies H1 Q C fld tag v) FB TB iC tI G hr b pass0 hg T.g (pa_cons h pa_nil he) (fun vs H1 Q z => mk_flies TB T.nt T.nf z) hdb he hpl
end
/-- a def that may raise -/
theorem okN {P : Program} {w : World} {K : PySem.W.Frag} {mg : Str → Option Value} {base : Heap} {x qual : Str} {st : Stmt} {f : Addr} {fd : FuncData} {N ps : List Str} {k : Nat} {sp : Sp} (F : Fun K x qual st f fd) (S : FnScope N ps (defScope st)) (len : ∀ vs H Q E, sp vs H Q E → vs.length = ps.length)
    (hbody : ∀ (cdv : Value) (A : Around) (outer : List Env) (s : Shared) (H : Hp) (vs : List V) (Q : VK) (E : XK), Room k (A.deeper (envOfC qual (defScope st) s.heap.objs.size f cdv)) → sp vs H Q E → L2N.Takes (cxOf (L2N.CX P w) P w K mg base N qual (defScope st) f cdv A outer s H E) (fun cls d _ H1 => E cls d H1) →
      ∃ t, PSs (cxOf (L2N.CX P w) P w K mg base N qual (defScope st) f cdv A outer s H E) (defBody st) t ∧ t { nx := fun _ H1 => Q .non H1, rt := Q } (start N vs) H) : FnOk P w K mg base (L2N.CX P w) (k + 1) f fd ps sp := by
  obtain ⟨oc, od, kV, doc, pm, an, cdv, ct, osl, rfl, lk, hcd⟩ := F.ex
  exact fn_of lk hcd S len fun A outer s H vs Q E hr hsp => hbody cdv A outer s H vs Q E hr hsp (L2N.takes_of rfl rfl rfl rfl)
/-- such a def, known by its name -/
structure KnX (P : Program) (w : World) (K : PySem.W.Frag) (mg : Str → Option Value) (base : Heap) (k : Nat) (x : Str) (ps : List Str) (sp : Sp) (f : Addr) (fd : FuncData) : Prop where
  kp : PySem.W.keepIn K (.ref f) = true
  G : FnOk P w K mg base (L2N.CX P w) k f fd ps sp
  b : L2.Binds K fd ps []
  g : mg x = some (.ref f)
theorem lookN {X : Cx} {W : WX} (tk : L2N.Takes X W) {E : XK} (hW : ∀ cls d σ H, E cls d H → W cls d σ H) : Passes (L2N.CX X.prog X.w) X E := L2N.passes_call tk hW
theorem sm_none {H H1 : Hp} (s : Same H H1) {t : Addr} (n : H1 t = none) : H t = none := by
  cases e : H t with
  | none => rfl
  | some o => rw [s _ _ e] at n; cases n
theorem takesN0 {X : Cx} : L2N.Takes X (fun _ _ _ _ => False) := fun _ _ ⟨_, _, _, _, _, _, _, _, _, _, _, _, _, _, _, _, z⟩ => z.elim
end ExX

namespace ExX
open PySem PySem.Spec PyProof.Rows L2
/-- a list comprehension without tests whose element may ask what the def around it knows where the block begins -/
theorem pe_lcI {X : Cx} {elt tg iter : Expr} {scope : Scope} {own : List (Str × Nat)} {pos : Pos} {wi : TI} {g : TG} {te : L2.St → TE} (calm : X.calm = true) (nd : X.N.Nodup) (walk : PI X tg iter wi) (bo : BlkOk X.N X.env.scope scope own)
    (target : ∀ (s : Shared) (H : Hp) (C : Addr) (cl : List (Str × Addr)) (fp : List Addr), PG (X.blk s H scope (compEnvC scope cl C X.env) fp) tg g)
    (item : ∀ (pins : List (Addr × Obj)) (σ : L2.St) (s : Shared) (H : Hp) (C : Addr) (cl : List (Str × Addr)) (fp : List Addr), Inv X pins σ H s → (∀ b ∈ fp, FpOk X pins H b) → PE (X.blk s H scope (compEnvC scope cl C X.env) fp) elt (te σ))
    (fold : ∀ x, foldedSetIterable iter X.env x = pure x := by intro _; rfl) :
    PE X (.ListComp elt [⟨tg, iter, [], 0⟩] scope pos) (fun σ H Q => tLc wi g tYes (te σ) (own.map (·.2)) σ H Q) := by
  refine ⟨fun pins s σ H Q I hyp => ?_⟩
  rw [eval_ListComp]
  have cells : ∀ y ∈ scope.names, y.2 = .free → ∃ c, X.env.cells.lookup y.1 = some c := fun y hy e => (bo.free y hy e).elim (fun z => I.ok.has _ (.inl z)) fun z => I.ok.has _ (.inr z)
  refine wpAny_comprehension_free (use := none) rfl fold (closure_ok cells) bo.kind (fun y hy e => by rw [bo.uniq y hy, e]) (thn (walk.run pins s σ H _ I hyp) fun _ _ h1 => thn h1 fun _ s2 h2 => ?_)
  obtain ⟨it, fp, tn, J, H2, rfl, I2, T, t2, f2, rd⟩ := h2
  refine wpAny_newObj_type (newEnv_comp ?_) (by show 0 ≤ sizeLine; decide)
  -- the new list, at the end of the heap
  obtain ⟨D, eD⟩ : ∃ D, D = s2.heap.objs.size := ⟨_, rfl⟩
  rw [← eD]
  obtain ⟨W, ⟨m0, w0⟩, turn⟩ := rd D (I2.hok.fresh (Nat.le_of_eq eD.symm))
  obtain ⟨H3, eH⟩ : ∃ H3, H3 = upd H2 D (.lst []) := ⟨_, rfl⟩
  obtain ⟨s3, e3⟩ : ∃ s3 : Shared, s3 = { s2 with heap := s2.heap.push { cls := .type "list", data := .seq ([] : List Value).toArray } } := ⟨_, rfl⟩
  have old : ∀ b o, s2.heap.get? b = some o → s3.heap.get? b = some o := fun b o e => by rw [e3]; exact Heap.get?_push_of_some _ e
  have I3 : Inv X pins σ H3 s3 := by
    rw [eH, e3]
    exact I2.laid (t' := s2.toks) (fun b o e => Heap.get?_push_of_some _ e) (Nat.le_of_eq eD.symm) ⟨Nat.zero_le _, [], 0, .nil, by rw [eD]; exact Heap.get?_push_size _ rfl⟩
  have f3 : ∀ b ∈ fp, FpOk X pins H3 b ∧ b < s3.heap.objs.size := fun b hb => by
    obtain ⟨o, e, _⟩ := T.obj _ _ t2 b hb
    exact ⟨⟨by rw [eH, upd_ne (by rw [eD]; exact Nat.ne_of_lt (Heap.lt_size e))]; exact (f2 b hb).1, (f2 b hb).2⟩, Heap.lt_size (old b o e)⟩
  have st := block_start I3 bo nd f3
  rw [← eH] at w0
  rw [← e3]
  -- the block's own names
  obtain ⟨cl, ecl⟩ : ∃ cl, cl = cellsFrom (s3.heap.objs.size + 1) scope.names (cloFrom X.env.cells scope.names []) := ⟨_, rfl⟩
  obtain ⟨C, eC⟩ : ∃ C, C = s3.heap.objs.size := ⟨_, rfl⟩
  have pI := item pins σ s3 H3 C cl fp I3 fun b hb => (f3 b hb).1
  have pG := target s3 H3 C cl fp
  obtain ⟨ce, ece⟩ : ∃ ce, ce = compEnvC scope cl C X.env := ⟨_, rfl⟩
  have ceL : ce.locals = C := by rw [ece]; rfl
  rw [← ecl, ← eC, ← ece] at st
  rw [← ece] at pI pG
  show codeAny _ _ (.compStart (.ListComp elt [⟨tg, iter, [], 0⟩] scope pos) 0 (.ref it) (.ref D) (compEnvC scope (cellsFrom (s3.heap.objs.size + 1) scope.names (cloFrom X.env.cells scope.names [])) s3.heap.objs.size X.env)) (compPost (model X.prog X.w) X.A X.xe none _ (.ref D) s3.heap.objs.size) _
  rw [← ecl, ← eC, ← ece]
  have tb : tn 0 (pushCells (s3.heap.push { cls := .type "dict", data := .dict #[] }) scope.names) := T.keep _ _ _ t2 fun b _ o e => pushCells_keeps _ _ _ _ (Heap.get?_push_of_some _ (old b o e))
  obtain ⟨s4, e4⟩ : ∃ s4 : Shared, s4 = { s3 with heap := pushCells (s3.heap.push { cls := .type "dict", data := .dict #[] }) scope.names } := ⟨_, rfl⟩
  rw [← e4] at st ⊢
  have t4 : tn 0 s4.heap := by rw [e4]; exact tb
  have fOk : ∀ {σ1 : L2.St} {H1 : Hp} {s1 : Shared}, Inv (X.blk s3 H3 scope ce fp) [] σ1 H1 s1 → (∀ b ∈ fp, H1 b = none) → ∀ b ∈ fp, FpOk (X.blk s3 H3 scope ce fp) [] H1 b := fun J1 n b hb =>
    ⟨n b hb, (J1.ok.exf b hb).1, J1.ok.exfs b hb, .inl hb, (J1.ok.exf b hb).2, fun p hp => by cases hp⟩
  have lp : codeAny (model X.prog X.w) X.A (.compLoop (.ListComp elt [⟨tg, iter, [], 0⟩] scope pos) 0 (.ref it) (.ref D) ce) (compPost (model X.prog X.w) X.A X.xe none (EP X pins σ Q) (.ref D) C) s4 := by
    refine compLoop_any (fun n s1 => ∃ i H1, Inv (X.blk s3 H3 scope ce fp) [] (wipe σ (own.map (·.2))) H1 s1 ∧ tn i s1.heap ∧ (∀ b ∈ fp, H1 b = none) ∧ W i n H1) (fun n s5 ⟨i, H5, I5, t5, n5, w5⟩ => ?_) m0 ⟨0, H3, st, t4, fun b hb => (f3 b hb).1.1, w0⟩
    rcases turn i n H5 w5 with ⟨stop, q⟩ | ⟨go, Nx, hNx, step⟩
    · refine thnF (T.done (X.blk s3 H3 scope ce fp) rfl rfl rfl calm i [] s5 _ H5 (fun _ _ => False) I5 (fOk I5 n5) t5 stop) fun r s6 ⟨er, I6⟩ => ?_
      subst er
      have I7 : Inv X pins σ H5 s6 := I3.call' (ch := fp) I6.os I6.base I6.hok I6.bare fun b hb => ⟨(f3 b hb).1.2.2.2.1, (f3 b hb).1.2.1, (f3 b hb).1.2.2.2.2.1, (f3 b hb).1.2.2.2.2.2⟩
      have nC : H5 C = none := by rw [← ceL]; exact I6.free
      obtain ⟨m, hm, _⟩ := I6.loc
      have hm : s6.heap.Ns ce.locals m := hm
      rw [ceL] at hm
      refine ⟨m, hm, fun h8 sb => ?_⟩
      obtain ⟨g0, g1, g2, g3, g4, g5⟩ := I3.fpOk (Nat.le_of_eq eC.symm) nC
      exact ⟨.ref D, H5, I7.turned (t' := s6.toks) (fun b o hb e => (sb.2 b hb).trans e) g0 g1 g3 g4 g5, rfl, q⟩
    · refine thnF (T.item (X.blk s3 H3 scope ce fp) rfl rfl rfl calm i [] s5 _ H5 (fun _ _ => False) I5 (fOk I5 n5) t5 go) fun r s6 ⟨u, er, h6⟩ => ?_
      subst er
      refine thnF h6 fun _ s7 ⟨x, H7, I7, r7, y7, t7, n7⟩ => ?_
      refine thnF (pG.run _ s7 _ H7 x u _ (I7.pinned (fOk I7 n7) (T.obj _ _ t7)) r7 (step x H7 y7)) fun _ s8 ⟨σ8, H8, I8, e8, q8⟩ => wpAny_tests_nil ?_
      rw [if_pos rfl]
      refine thnF (pI.run _ s8 σ8 H8 _ I8 (show te σ σ8 H8 _ from q8)) fun z s9 ⟨yv, H9, I9, r9, acc, hD9, hz9, nx⟩ => ?_
      refine app_ok (X := X.blk s3 H3 scope ce fp) I9 hD9 hz9 r9 fun s10 I10 => ?_
      obtain ⟨m1, lt, w1⟩ := hNx _ nx
      have stay : ∀ b ∈ fp, ∀ o, s7.heap.get? b = some o → s10.heap.get? b = some o ∧ upd H9 D (.lst (acc ++ [yv])) b = none := fun b hb o e => by
        have z := I10.pin (b, o) (List.mem_append_right _ (List.mem_append_right _ (mem_pinsAt hb e)))
        exact ⟨z.1, z.2.1⟩
      refine ⟨m1, lt, i + 1, _, (I10.unpinned (pins := [])).weak (by rw [← e8, wipe_length]) (fun j v e => ?_), T.keep _ _ _ t7 fun b hb o e => (stay b hb o e).1, fun b hb => ?_, w1⟩
      · rw [← e8] at e
        exact (wipe_some e).1
      · obtain ⟨o, e, _⟩ := T.obj _ _ t7 b hb
        exact (stay b hb o e).2
  exact codeAny_compStart_list lp (T.self X.A 0 _ _ _ t4 lp)
/-! ### a lambda with one parameter that has a default -/
open LamX
structure LamT (N : List Str) (sc scope : Scope) (a : Str) : Prop where
  kind : scope.kind = .function
  co : scope.isCoroutine = false
  gen : scope.isGenerator = false
  cel : ∀ y ∈ scope.names, y.2 ≠ .cell
  loc : ∀ y ∈ N, scope.names.lookup y ≠ some .local
  arg : scope.names.lookup a = some .local
  free : ∀ y ∈ scope.names, y.2 = .free → sc.names.lookup y.1 = some .cell ∨ sc.names.lookup y.1 = some .free
def lamTB (N : List Str) (sc scope : Scope) (a : Str) : Bool := decide (scope.kind = .function) && (!scope.isCoroutine && (!scope.isGenerator && (decide (scope.names.lookup a = some .local) && ((N.all fun y => !decide (scope.names.lookup y = some .local)) &&
  scope.names.all fun y => !decide (y.2 = .cell) && (!decide (y.2 = .free) || (decide (sc.names.lookup y.1 = some .cell) || decide (sc.names.lookup y.1 = some .free)))))))
theorem lamT_by {N : List Str} {sc scope : Scope} {a : Str} (h : lamTB N sc scope a = true) : LamT N sc scope a := by
  unfold lamTB at h
  simp only [Bool.and_eq_true, Bool.or_eq_true, Bool.not_eq_true', decide_eq_true_eq, decide_eq_false_iff_not, List.all_eq_true] at h
  obtain ⟨h1, h2, h3, h4, h5, h6⟩ := h
  exact ⟨h1, h2, h3, fun y hy => (h6 y hy).1, h5, h4, fun y hy e => (h6 y hy).2.elim (fun z => absurd e z) id⟩
section
variable {X : Cx} {pins : List (Addr × Obj)} {σ : L2.St} {H HZ : Hp} {s s1 : Shared}
theorem LamT.has {scope : Scope} {a : Str} (L : LamT X.N X.env.scope scope a) (ok : X.Ok) : ∀ y ∈ scope.names, y.2 = .free → ∃ c, X.env.cells.lookup y.1 = some c := fun y hy e => (L.free y hy e).elim (fun z => ok.has _ (.inl z)) fun z => ok.has _ (.inr z)
/-- the body of such a lambda begins -/
theorem lamT_start {A : Around} {outer : List Env} {E : XK} {scope : Scope} {f c2 : Addr} {a : Str} {g : Heap} {tk : Nat} {m1 : Str → Option Value} (I : Inv X pins σ H s) (L : LamT X.N X.env.scope scope a) (e0 : Env0 X.prog X.w X.K X.mg X.base A outer s1 HZ) (hd : A.handled = none)
    (un : Un (frs X.stack) [] H HZ s.heap s1.heap) (hns : g.Ns s1.heap.objs.size m1) (kp : ∀ b o, s1.heap.get? b = some o → g.get? b = some o) : Inv (lamCx X A outer s1 HZ E scope f c2) [] σ HZ { s1 with heap := g, toks := tk } := by
  have hF := L.has I.ok
  have up : ∀ {y c}, (cloFrom X.env.cells scope.names []).lookup y = some c → X.env.cells.lookup y = some c := fun {y c} e => by
    rcases cloFrom_mem (PySem.mem_of_lookup e) with z | ⟨z1, z2⟩
    · cases z
    · obtain ⟨c1, e1⟩ := hF _ z1 rfl
      have e1 : X.env.cells.lookup y = some c1 := e1
      have e2 : c = c1 := by rw [z2, e1]; rfl
      rw [e2]; exact e1
  have dn : ∀ {y}, scope.names.lookup y = some .free → ∃ c, (cloFrom X.env.cells scope.names []).lookup y = some c := fun {y} hl => mem_lookup (cloFrom_has (cells := X.env.cells) (acc := []) (PySem.mem_of_lookup hl))
  have stay : ∀ {c : Addr} {v : Option Value}, H c = none → s.heap.IsCell c v → g.IsCell c v := fun {c v} n ⟨o, ho, hd⟩ => by
    obtain ⟨sl, q⟩ := un.any ho n (by simp)
    exact ⟨_, kp _ _ q, hd⟩
  have no : ∀ {b : Addr} {R : Prop}, b ∈ (lamCx X A outer s1 HZ E scope f c2).ex → R := fun {b R} z => by cases (show b ∈ ([] : List Addr) from z)
  refine ⟨⟨e0.mod, L.kind, rfl, rfl, Nat.le_refl _, fun y z c e1 e2 => I.ok.inj y z c (up e1) (up e2), fun y hy => ?_, fun y c z _ => (Bool.noConfusion (show false = true from z)), fun _ => hd, Around.frames_deeper e0.frames, .inr ⟨rfl, rfl⟩, fun b z => no z, e0.bs, e0.bsz, fun b o e z => no z,
      fun b z => no z, e0.funs, e0.frf⟩, rfl, e0.bare, Un.kept kp, ⟨m1, hns, fun i y v e1 e2 e3 => ?_⟩, fun y c e => ?_, e0.hok.fresh (Nat.le_refl _), fun y c e => ?_, fun q hq => ?_, e0.hok.kept kp, I.len⟩
  · rcases (show scope.names.lookup y = some .cell ∨ scope.names.lookup y = some .free from hy) with z | z
    · exact (L.cel _ (PySem.mem_of_lookup z) rfl).elim
    · exact dn z
  · rcases (show Vis scope y from e3) with k | k | k
    · exact (L.loc y (List.mem_of_getElem? e1) k).elim
    · exact (L.cel _ (PySem.mem_of_lookup k) rfl).elim
    · obtain ⟨m, hn, hl⟩ := I.loc
      have fr := L.free _ (PySem.mem_of_lookup k) rfl
      obtain ⟨u, r, q⟩ := hl i y v e1 e2 (fr.elim (fun z => .inr (.inl z)) fun z => .inr (.inr z))
      obtain ⟨c, ec⟩ := dn k
      refine ⟨u, r, .inr ⟨.inr k, c, ec, ?_⟩⟩
      rcases q with ⟨k2, _⟩ | ⟨_, c3, e4, z⟩
      · have k2 : X.env.scope.names.lookup y = some .local := k2
        have fr : X.env.scope.names.lookup y = some .cell ∨ X.env.scope.names.lookup y = some .free := fr
        rw [k2] at fr
        rcases fr with fr | fr <;> cases fr
      · have := up ec
        rw [e4] at this
        cases this
        exact stay (I.freeC y _ e4) z
  · obtain ⟨v, z⟩ := I.cell y c (up e)
    exact ⟨v, stay (I.freeC y c (up e)) z⟩
  · obtain ⟨v, o, ho, hd⟩ := I.cell y c (up e)
    exact un.free c o ho (I.freeC y c (up e)) (by simp)
  · cases (show q ∈ ([] : List (Addr × Obj)) ++ [] from hq)
end
/-- the lambda at f, its code object at c2, the tuple of its default at T -/
def CloD (X : Cx) (params : Arguments) (body : Expr) (scope : Scope) (f c2 T : Addr) : HO := .ext fun h => ∃ doc pm ctv : Value, h.get? f = some (PySem.W.kdv_obj "<lambda>" (X.env.qual ++ "<lambda>") params (.expr body) scope (cloFrom X.env.cells scope.names []) (.ref T) doc pm c2 ctv)
theorem cloD_ok {X : Cx} {params : Arguments} {body : Expr} {scope : Scope} {f c2 T : Addr} {P : Program} {w : World} {H : Hp} {h : Heap} {doc pm ctv : Value} (e : h.get? f = some (PySem.W.kdv_obj "<lambda>" (X.env.qual ++ "<lambda>") params (.expr body) scope (cloFrom X.env.cells scope.names []) (.ref T) doc pm c2 ctv)) :
    ObjOk P w H h f (CloD X params body scope f c2 T) := ⟨⟨doc, pm, ctv, e⟩, ⟨_, e⟩, fun h1 h2 ⟨a, b, c, d⟩ st => ⟨a, b, c, st _ d⟩⟩
section
variable {X : Cx} {pins : List (Addr × Obj)} {σ : L2.St} {H : Hp} {s : Shared}
theorem lamT_made {T : List (Addr × Str)} {c P : Addr} {params : Arguments} {body e0 : Expr} {scope : Scope} {pos : Pos} {y0 : V} {Q : Value → Shared → Prop} (I : Inv X pins σ H s) (TB : TabB X.base X.mg c P) (hcode : X.env.code = .ref c)
    (hm : (P, X.env.qual ++ "<lambda>") ∈ T) (hu : ∀ p ∈ T, p.1 = P → p.2 = X.env.qual ++ "<lambda>") (hT : Tabs T H) (hdf : params.defaults = [e0]) (hkw : params.kw_defaults = []) (he0 : PE X e0 (fun _ H Q => Q y0 H)) (hfree : ∀ y ∈ scope.names, y.2 = .free → ∃ c, X.env.cells.lookup y.1 = some c)
    (h : ∀ (f c2 t : Addr) (H1 : Hp) (s1 : Shared), Inv X pins σ (upd H1 f (CloD X params body scope f c2 t)) s1 → ExtN H H1 → Tabs T H1 → H1 f = none → H1 c2 = some (CodeO c2 (X.env.qual ++ "<lambda>")) → H1 t = some (.tup [y0]) → Q (.ref f) s1) :
    wpAny (model X.prog X.w) X.A (eval (.Lambda params body scope pos) X.env) Q X.xe s := by
  refine PySem.W.kdv_lam (by rw [hdf]; rfl) hkw ?_
  rw [hdf]
  show wpAny _ _ (evalAll [eval e0 X.env]) _ _ _
  refine evalAll_cons (thn (he0.run pins s σ H (fun v H1 => v = y0 ∧ H1 = H) I ⟨rfl, rfl⟩) fun u s0 ⟨v, H0, I0, r0, ev, eH⟩ => evalAll_nil ?_)
  rw [ev] at r0
  rw [eH] at I0
  rw [makeFunction_eq]
  simp only [List.zip_nil_right, List.filterMap_nil, List.isEmpty_nil, List.isEmpty_cons, Bool.false_eq_true, if_false, if_true, pure_bind]
  refine wpAny_bind (PySem.wpAny_newTextTuple ?_)
  obtain ⟨t, et⟩ : ∃ t, t = s0.heap.objs.size := ⟨_, rfl⟩
  rw [← et]
  have nT : H t = none := I0.hok.fresh (Nat.le_of_eq et.symm)
  obtain ⟨s2, e2⟩ : ∃ s2 : Shared, s2 = { s0 with heap := s0.heap.push { cls := .type "tuple", data := .seq [u].toArray } } := ⟨_, rfl⟩
  have I2 : Inv X pins σ (upd H t (.tup [y0])) s2 := by
    rw [e2]
    refine I0.laid (t' := s0.toks) (fun b o e => Heap.get?_push_of_some _ e) (Nat.le_of_eq et.symm) ⟨by show 1 ≤ sizeLine; decide, [u], .cons r0 .nil, ?_⟩
    rw [et]
    exact IsTup.new s0.heap _
  rw [← e2]
  have x1 : ExtN H (upd H t (.tup [y0])) := fun b o e _ => by rw [upd_ne (ne_of_none e nT)]; exact e
  have hT2 : Tabs T (upd H t (.tup [y0])) := hT.ext fun b o e => by rw [upd_ne (ne_of_none e nT)]; exact e
  obtain ⟨ps, hP, ht, ha⟩ := hT2 _ hm
  have bP : s2.heap.BuiltinsAt X.mg P := TB.bm.keeps I2.bk
  have hPs : s2.heap.get? P = some { cls := .none, data := .fields ps } := I2.hok P _ hP
  cases hc : codeAmong pos ps.toList with
  | none =>
    refine PySem.W.kdv_makeTail (mg := X.mg) (c := c) (P := P) (ps := ps) (closure_ok hfree) I2.ok.glob (I2.mod.glob.keeps I2.bk) hcode (TB.code.keeps I2.bk) hPs ht hc TB.gP bP fun c2 ctv doc h3 tk hx hge hlt hrec htb => ?_
    obtain ⟨c3, oc, vs, tq, z2, hoc, hd, hv⟩ := hrec
    cases z2
    have nC := I2.hok.fresh (a := c2) hge
    have I3 := inv_table (t' := tk) (more := #[rawInt pos.line, rawInt pos.col, .ref c2]) (h' := h3) I2 hP hx htb hge ⟨oc, vs, tq, hoc, hd, hv⟩
    have hE : ExtN (upd H t (.tup [y0])) (upd (upd (upd H t (.tup [y0])) P (.tbl (ps ++ #[rawInt pos.line, rawInt pos.col, .ref c2]))) c2 (CodeO c2 (X.env.qual ++ "<lambda>"))) := fun b o e n => by
      have nb : b ≠ P := fun z => n ps (Option.some.inj (e.symm.trans (by rw [z]; exact hP)))
      rw [upd_ne (ne_of_none e nC), upd_ne nb]
      exact e
    have eL : (ps ++ #[rawInt pos.line, rawInt pos.col, .ref c2]).toList = ps.toList ++ [rawInt pos.line, rawInt pos.col, .ref c2] := by simp
    refine h h3.objs.size c2 t _ _ (I3.laid (t' := tk) (fun _ _ e => Heap.get?_push_of_some _ e) (Nat.le_refl _) (cloD_ok (Heap.get?_push_size _ rfl))) (fun b o e n => hE b o (x1 b o e n) n) (fun p hp => ?_) (I3.hok.fresh (Nat.le_refl _)) upd_same (hE _ _ upd_same (by intro ps z; cases z))
    by_cases hb : p.1 = P
    · refine ⟨_, by rw [hb, upd_ne (ne_of_none hP nC), upd_same], by rw [eL]; exact PySem.TriplesOk_snoc _ _ _ _ ht, fun pz cv hcv => ?_⟩
      rw [eL] at hcv
      rw [hu p hp hb]
      rcases among_app _ ht hcv with z | z
      · obtain ⟨c0, q1, q2⟩ := ha pz cv z
        exact ⟨c0, q1, hE _ _ q2 codeO_ne⟩
      · exact ⟨c2, z, upd_same⟩
    · obtain ⟨psz, a1, a2, a3⟩ := hT2 p hp
      refine ⟨psz, by rw [upd_ne (ne_of_none a1 nC), upd_ne hb]; exact a1, a2, fun pz cv hcv => ?_⟩
      obtain ⟨c0, q1, q2⟩ := a3 pz cv hcv
      exact ⟨c0, q1, hE _ _ q2 codeO_ne⟩
  | some cv =>
    obtain ⟨c2, e, hco⟩ := ha pos cv hc
    subst e
    refine PySem.W.kdv_makeTailHit (mg := X.mg) (c := c) (P := P) (ps := ps) (closure_ok hfree) I2.ok.glob (I2.mod.glob.keeps I2.bk) hcode (TB.code.keeps I2.bk) hPs ht hc bP fun ctv doc h3 tk hx hsz => ?_
    have I3 : Inv X pins σ (upd H t (.tup [y0])) { s2 with heap := h3, toks := tk } := I2.kept hx
    exact h h3.objs.size c2 t _ _ (I3.laid (t' := tk) (fun _ _ e => Heap.get?_push_of_some _ e) (Nat.le_refl _) (cloD_ok (Heap.get?_push_size _ rfl))) x1 hT2 (I3.hok.fresh (Nat.le_refl _)) hco upd_same
end
/-- a lambda that was made in X: where it stands, what its call asks -/
structure Lam (X : Cx) (k : Nat) where
  At : Addr → Hp → Prop
  tb : XK → TE
  acts : ∀ {pins : List (Addr × Obj)} {σ : L2.St} {H : Hp} {s : Shared} {f : Addr}, Inv X pins σ H s → Acts X.prog X.w X.K X.mg X.base (k + 1) (frs X.stack) f s H (fun E HZ Q => At f HZ ∧ tb E σ HZ Q)
  same : ∀ {f : Addr} {H H1 : Hp}, At f H → ExtN H H1 → At f H1
def Lam.does {X : Cx} {k : Nat} (D : Lam X k) (f : Addr) (σ : L2.St) : XK → Hp → VK → Prop := fun E HZ Q => D.At f HZ ∧ D.tb E σ HZ Q
def LamD.lam {X : Cx} {k : Nat} (D : LamD X k) : Lam X k where
  At := D.At
  tb := D.tb
  acts := fun I => acts_of D I
  same := fun ⟨c2, h1, h2⟩ e => ⟨c2, e _ _ h1 cloO_tbl, e _ _ h2 codeO_ne⟩
/-- a lambda of X's text with one parameter that has a default -/
structure LamP (X : Cx) (k : Nat) where
  params : Arguments
  body : Expr
  scope : Scope
  a : Str
  e0 : Expr
  y0 : V
  tb : XK → TE
  L : LamT X.N X.env.scope scope a
  hdf : params.defaults = [e0]
  hkw : params.kw_defaults = []
  he0 : PE X e0 (fun _ H Q => Q y0 H)
  hbind : ∀ (q : Str) (cl : List (Str × Addr)) (T : Addr) (doc pm cv ctv : Value), ∃ kk : Option (Array Value) → Sem (List (Str × Value)), bindArgs (PySem.W.kdv_fn "<lambda>" q params (.expr body) scope cl (.ref T) doc pm cv ctv) ⟨[], []⟩ = seqItems? (.ref T) >>= kk ∧ ∀ u, kk (some #[u]) = pure [(a, u)]
  hbody : ∀ (f c2 : Addr) (E : XK) (A : Around) (outer : List Env) (s : Shared) (H : Hp), Room k (A.deeper (lamEnv X scope s.heap.objs.size f c2)) → PE (lamC X A outer s H E scope f c2) body (tb E)
def LamP.At {X : Cx} {k : Nat} (D : LamP X k) (f : Addr) (H : Hp) : Prop := ∃ c2 T, H f = some (CloD X D.params D.body D.scope f c2 T) ∧ H c2 = some (CodeO c2 (X.env.qual ++ "<lambda>")) ∧ H T = some (.tup [D.y0])
theorem cloD_tbl {X : Cx} {params : Arguments} {body : Expr} {scope : Scope} {f c2 T : Addr} (ps : Array Value) : CloD X params body scope f c2 T ≠ .tbl ps := fun z => by
  unfold CloD at z
  cases z
theorem actsP {X : Cx} {k : Nat} (D : LamP X k) {pins : List (Addr × Obj)} {σ : L2.St} {H : Hp} {s : Shared} {f : Addr} (I : Inv X pins σ H s) : Acts X.prog X.w X.K X.mg X.base (k + 1) (frs X.stack) f s H (fun E HZ Q => D.At f HZ ∧ D.tb E σ HZ Q) := by
  refine ⟨fun s1 HZ Q E hok ⟨⟨c2, T, hcf, hcc, hT⟩, ht⟩ => ?_, fun A outer s1 HZ Q E hr e0 un ⟨⟨c2, T, hcf, hcc, hT⟩, ht⟩ => ?_⟩
  · obtain ⟨⟨doc, pm, ctv, of1⟩, _, _⟩ := hok f _ hcf
    exact ⟨_, _, _, _, of1⟩
  obtain ⟨⟨doc, pm, ctv, of1⟩, _, _⟩ := e0.hok f _ hcf
  obtain ⟨⟨oc, vs, t, hoc, hdc, hvc⟩, _, _⟩ := e0.hok c2 _ hcc
  obtain ⟨_, its, rT, oT, hoT, _, nT, hsT⟩ := e0.hok T _ hT
  cases rT with
  | @cons _ u _ ur ru rr =>
    cases rr
    obtain ⟨kk, hb1, hb2⟩ := D.hbind (X.env.qual ++ "<lambda>") (cloFrom X.env.cells D.scope.names []) T doc pm (.ref c2) ctv
    have bt : BindsTo s1 (PySem.W.kdv_fn "<lambda>" (X.env.qual ++ "<lambda>") D.params (.expr D.body) D.scope (cloFrom X.env.cells D.scope.names []) (.ref T) doc pm (.ref c2) ctv) ⟨[], []⟩ [(D.a, u)] := BindsTo.of_defaults rfl hoT hsT hb1 (hb2 u)
    refine PySem.W.kla_callFunE hr.depth of1 rfl D.L.co D.L.gen rfl ⟨c2, oc, vs, t, rfl, hoc, hdc, hvc⟩ (bt _ _ _ _ ?_)
    have lim : s1.heap.NoLimit := e0.mod.nolimit.keeps fun b o e => (e0.bs b o e).1
    refine wpAny_newFunctionEnv D.L.cel (fun y hy => by rw [List.mem_singleton.mp hy]; exact D.L.arg) (fun h1 hns hsb => ⟨lim.fresh _ hsb, ?_⟩) D.L.kind
    show codeAny _ _ (.expr D.body (lamEnv X D.scope s1.heap.objs.size f c2)) _ _
    have kp : ∀ b o, s1.heap.get? b = some o → h1.get? b = some o := fun b o e => hsb.extBut b o (Nat.ne_of_lt (Heap.lt_size e)) (Heap.get?_push_of_some _ e)
    have J : Inv (lamCx X A outer s1 HZ E D.scope f c2) [] σ HZ { s1 with heap := h1, toks := s1.toks + [(D.a, u)].length } := lamT_start I D.L e0 hr.hd un hns kp
    refine PySem.W.kla_codeExpr (wpAny_mono ((D.hbody f c2 E A outer s1 HZ (hr.deeper _)).run [] _ _ HZ Q (J.wish _) ht) (fun v s2 hq => ?_) fun e s2 hq => hq)
    obtain ⟨w2, H2, J2, rv, q⟩ := hq
    exact ⟨w2, H2, J2.os, J2.bare, J2.base, J2.hok, rv, q⟩
def LamP.lam {X : Cx} {k : Nat} (D : LamP X k) : Lam X k where
  At := D.At
  tb := D.tb
  acts := fun I => actsP D I
  same := fun ⟨c2, T, h1, h2, h3⟩ e => ⟨c2, T, e _ _ h1 cloD_tbl, e _ _ h2 codeO_ne, e _ _ h3 (by intro ps z; cases z)⟩
section
variable {Z : Cx} {k kk i : Nat} {g : Addr} {TT : (XK → Hp → VK → Prop) → Hp → VK → Prop} {x a : Str} {p p1 pos : Pos}
/-- lambda a=..: body -/
theorem pe_lamP {T : List (Addr × Str)} {c PT : Addr} (D : LamP Z kk) (TB : TabB Z.base Z.mg c PT) (hcode : Z.env.code = .ref c) (hmT : (PT, Z.env.qual ++ "<lambda>") ∈ T) (hu : ∀ q ∈ T, q.1 = PT → q.2 = Z.env.qual ++ "<lambda>") :
    PE Z (.Lambda D.params D.body D.scope pos) (fun _ H Q => Tabs T H ∧ ∀ f H1, ExtN H H1 → Tabs T H1 → D.lam.At f H1 → Q (.ref f) H1) := by
  refine ⟨fun pins s σ H Q I ⟨hT, h⟩ => lamT_made I TB hcode hmT hu hT D.hdf D.hkw D.he0 (D.L.has I.ok) fun f c2 t H1 s1 I1 eN T1 nf hc ht => ?_⟩
  have ne : ∀ {b : Addr} {o : HO}, H1 b = some o → upd H1 f (CloD Z D.params D.body D.scope f c2 t) b = some o := fun {b o} e => by rw [upd_ne (ne_of_none e nf)]; exact e
  exact ⟨.ref f, _, I1, rfl, h f _ (fun b o e n => ne (eN b o e n)) (T1.ext fun b o e => ne e) ⟨c2, t, upd_same, ne hc, ne ht⟩⟩
/-- x(a) in a comprehension's block, a one of the lambdas of the def around -/
theorem pe_item {scope : Scope} (G : FnL Z.prog Z.w Z.K Z.mg Z.base k g TT) (hr : Room (kk + 1 + k) Z.A) (hk : PySem.W.keepIn Z.K (.ref g) = true) (hm : Z.mg x = some (.ref g)) (hNi : Z.N[i]? = some a)
    (hg : ∀ (s : Shared) (H : Hp) (C : Addr) (cl : List (Str × Addr)) (fp : List Addr), Gl (Z.blk s H scope (compEnvC scope cl C Z.env) fp) x) (hv : ∀ (C : Addr) (cl : List (Str × Addr)), Vis (compEnvC scope cl C Z.env).scope a)
    (he : ∀ env : Env, starEach [Expr.Name a p1] env = (false, eval (.Name a p1) env) :: starEach [] env := by intro _; rfl) (hpl : ∀ env : Env, (backTo pos (starEach [] env)).any (·.1) = false := by intro _; rfl)
    (hdb : (x == ("__debug__" : Str)) = false := by decide) (hd : (a == ("__debug__" : Str)) = false := by decide) (hcd : (a == ("__classdict__" : Str)) = false := by decide) :
    ∀ (pins : List (Addr × Obj)) (σ : L2.St) (s : Shared) (H : Hp) (C : Addr) (cl : List (Str × Addr)) (fp : List Addr), Inv Z pins σ H s → (∀ b ∈ fp, FpOk Z pins H b) →
      PE (Z.blk s H scope (compEnvC scope cl C Z.env) fp) (.Call (.Name x p) [.Name a p1] [] pos) (fun σ1 H1 Q => ∃ (f : Addr) (D : Lam Z kk), σ1[i]? = some (some (.ref f)) ∧ TT (D.does f σ) H1 Q) := by
  intro pins σ s H C cl fp I hf
  refine ⟨fun pins1 s1 σ1 H1 Q I1 ⟨f, D, hs, ht⟩ => wpAny_Call_Name_kw (ld_glob I1 (hg s H C cl fp) hm ?_ hdb)⟩
  refine PySem.W.callWith_K (h₀ := Z.base) I1.ok.mod.kin hk (thn ((pa_cons (pe_var (X := Z.blk s H scope (compEnvC scope cl C Z.env) fp) (pos := p1) (i := i) hNi (hv C cl) hd hcd) pa_nil (he _)).run pos pins1 s1 σ1 H1 (fun vs H2 => vs = [.ref f] ∧ H2 = H1) I1 ⟨.ref f, hs, rfl, rfl⟩) fun us s2 ⟨vs, H2, I2, r, ev, eH⟩ => ⟨I2.kIn, ?_⟩) (he _) (hpl _)
  subst ev
  rw [eH] at I2
  cases r with
  | @cons _ u0 _ ur ra rw2 =>
    cases rw2
    obtain rfl : u0 = Value.ref f := ra
    have IX : Inv Z pins σ H1 s2 := I.call' (ch := fp) I2.os I2.base I2.hok I2.bare fun b hb => ⟨(hf b hb).2.2.2.1, (hf b hb).2.1, (hf b hb).2.2.2.2.1, (hf b hb).2.2.2.2.2⟩
    refine wpAny_call (codeAny_mono (G.run (kk + 1) f (frs Z.stack) s2 H1 _ (D.acts IX) Z.A Z.stack s2 H1 Q hr I2.env0 Un.refl (fun c hc => .inl hc) (Nat.le_refl _) ht) fun r s3 hq => ?_)
    cases r with
    | error e => exact (show False from hq).elim
    | ok fl =>
      cases fl with
      | ret u => exact I2.after hq
      | _ => exact hq.elim
end
end ExX

namespace ExX
open PySem PySem.Spec PyProof.Rows L2
/-- a list or a tuple -/
def Kd (k : Bool) (K : PySem.W.Frag) (H : Hp) (a : Addr) (xs : List V) : Prop := if k = true then SqL K H a xs else SqT K H a xs
theorem Kd.same {k : Bool} {K : PySem.W.Frag} {H H1 : Hp} {a : Addr} {xs : List V} (h : Kd k K H a xs) (s : Same H H1) : Kd k K H1 a xs := by
  cases k
  · rcases (show SqT K H a xs from h) with (h | ⟨o, h⟩) | h
    · exact .inl (.inl (s _ _ h))
    · exact .inl (.inr ⟨o, s _ _ h⟩)
    · exact .inr h
  · exact s.seq (show SqL K H a xs from h)
theorem Kd.l {K : PySem.W.Frag} {H : Hp} {a : Addr} {xs : List V} (h : SqL K H a xs) : Kd true K H a xs := h
theorem Kd.t {K : PySem.W.Frag} {H : Hp} {a : Addr} {xs : List V} (h : SqT K H a xs) : Kd false K H a xs := h
theorem Kd.sq {k : Bool} {K : PySem.W.Frag} {H : Hp} {a : Addr} {xs : List V} (h : Kd k K H a xs) : SqL K H a xs ∨ SqT K H a xs := by
  cases k
  · exact .inr h
  · exact .inl h
/-- what is walked is one of both -/
def iKd (k : Bool) (K : PySem.W.Frag) (tl : TE) : TI := fun σ H R => if k = true then iList K tl σ H R else iTup K tl σ H R
theorem pi_kd {X : Cx} {tg l : Expr} {tl : TE} (k : Bool) (hl : PE X l tl) : PI X tg l (iKd k X.K tl) := by
  cases k
  · exact ⟨fun pins s σ H R I h => (pi_tup hl).run pins s σ H R I h⟩
  · exact ⟨fun pins s σ H R I h => (pi_list hl).run pins s σ H R I h⟩
theorem for_kd {k : Bool} {K : PySem.W.Frag} {i0 : Nat} {a : Addr} {xs : List V} {g : TG} {tb : TS} {D : Ends} {σ : L2.St} {H : Hp} (hv : σ[i0]? = some (some (.ref a))) (hS : Kd k K H a xs) (Pv : Nat → L2.St → Hp → Prop) (h0 : Pv 0 σ H) (hl : ∀ i σ H, i ≤ xs.length → Pv i σ H → Kd k K H a xs)
    (hs : ∀ i x σ H, xs[i]? = some x → Pv i σ H → g x σ H fun σ2 H2 => tb { D with nx := Pv (i + 1), ct := Pv (i + 1), bk := D.nx } σ2 H2) (hd : ∀ σ H, Pv xs.length σ H → D.nx σ H) : tFor (iKd k K (tVar i0)) g tb D σ H := by
  cases k
  · exact ⟨_, hv, a, rfl, ⟨_, hS⟩, for_tup (xs := xs) Pv h0 hl hs hd⟩
  · exact ⟨_, hv, a, rfl, ⟨_, hS⟩, for_list (xs := xs) Pv h0 hl hs hd⟩
/-- both promises of a def -/
def spOr (s1 s2 : Sp) : Sp := fun vs H Q E => s1 vs H Q (fun _ _ _ => False) ∨ s2 vs H Q E
theorem fn_or {P : Program} {w : World} {K : PySem.W.Frag} {mg : Str → Option Value} {base : Heap} {CX : CXT} {j k : Nat} {f : Addr} {fd : FuncData} {ps : List Str} {s1 s2 : Sp} (F1 : FnOk P w K mg base CX0 j f fd ps s1) (F2 : FnOk P w K mg base CX k f fd ps s2) (h : j ≤ k) : FnOk P w K mg base CX k f fd ps (spOr s1 s2) := by
  refine ⟨fun vs H Q E z => z.elim (F1.len _ _ _ _) (F2.len _ _ _ _), fun A outer s H args us vs Q E hr e0 b r z => ?_⟩
  rcases z with z | z
  · refine codeAny_mono (F1.run A outer s H args us vs Q (fun _ _ _ => False) (hr.mono h) e0 b r z) fun res s2 q => ?_
    cases res with
    | ok fl => cases fl <;> exact q
    | error e => exact (show False from q).elim
  · exact F2.run A outer s H args us vs Q E hr e0 b r z
theorem lookNE {X : Cx} {E : XK} (tk : L2N.Takes X (fun cls d _ H => E cls d H)) : Passes (L2N.CX X.prog X.w) X E := L2N.passes_call tk fun _ _ _ _ z => z
/-- nodes up to the first that is none -/
def NodesEnd (xs : List Int) (n : Nat) (good : List Nat) (ok : Prop) (bad : Int → Prop) : Prop := (∀ x ∈ good, x < n) ∧
  ((xs = good.map (fun v : Nat => (v : Int)) ∧ ok) ∨ ∃ (z : Int) (rest : List Int), xs = good.map (fun v : Nat => (v : Int)) ++ z :: rest ∧ (z < 0 ∨ (n : Int) ≤ z) ∧ z.natAbs.log2 < 1920 ∧ bad z)
theorem NodesEnd.at {xs : List Int} {n : Nat} {good : List Nat} {ok : Prop} {bad : Int → Prop} (h : NodesEnd xs n good ok bad) {i : Nat} {v : V} (hv : (xs.map V.int)[i]? = some v) (hi : i ≤ good.length) :
    (∃ u, good[i]? = some u ∧ v = .int (u : Int) ∧ u < n) ∨ (∃ z, v = .int z ∧ (z < 0 ∨ (n : Int) ≤ z) ∧ z.natAbs.log2 < 1920 ∧ bad z) := by
  rw [List.getElem?_map] at hv
  obtain ⟨k, hk, rfl⟩ := Option.map_eq_some_iff.mp hv
  by_cases h1 : i < good.length
  · refine .inl ⟨good[i], List.getElem?_eq_getElem h1, ?_, h.1 _ (List.getElem_mem h1)⟩
    have e : xs[i]? = some ((good[i] : Nat) : Int) := by
      rcases h.2 with ⟨e, _⟩ | ⟨z, rest, e, _⟩
      · rw [e, List.getElem?_map, List.getElem?_eq_getElem h1]; rfl
      · rw [e, List.getElem?_append_left (by rw [List.length_map]; exact h1), List.getElem?_map, List.getElem?_eq_getElem h1]; rfl
    rw [hk] at e
    rw [Option.some.inj e]
  · have hi2 : i = good.length := by omega
    rcases h.2 with ⟨e, _⟩ | ⟨z, rest, e, h2⟩
    · rw [e, List.getElem?_eq_none (by rw [List.length_map]; omega)] at hk; cases hk
    · rw [e, List.getElem?_append_right (by rw [List.length_map]; omega), List.length_map, hi2, Nat.sub_self] at hk
      have hk : some z = some k := hk
      rw [← Option.some.inj hk]
      exact .inr ⟨z, rfl, h2⟩
theorem NodesEnd.done {xs : List Int} {n : Nat} {good : List Nat} {ok : Prop} {bad : Int → Prop} (h : NodesEnd xs n good ok bad) (hl : (xs.map V.int).length ≤ good.length) : xs = good.map (fun v : Nat => (v : Int)) ∧ ok := by
  rw [List.length_map] at hl
  rcases h.2 with h | ⟨z, rest, e, _⟩
  · exact h
  · rw [e] at hl
    simp at hl
    omega
end ExX
namespace ExX
open PySem PySem.Spec PyProof.Rows L2
theorem lc_kd {k : Bool} {K : PySem.W.Frag} {i0 : Nat} {a : Addr} {xs : List V} {g : TG} {tt : TT} {te : TE} {vs : List Nat} {σ : L2.St} {H : Hp} {Q : VK} (hv : σ[i0]? = some (some (.ref a))) (hS : Kd k K H a xs)
    (h : ∀ D, H D = none → ∃ Pv : Nat → Hp → Prop, Pv 0 (upd H D (.lst [])) ∧ (∀ i H, i ≤ xs.length → Pv i H → Kd k K H a xs) ∧ (∀ i x H, xs[i]? = some x → Pv i H → g x (wipe σ vs) H fun σ2 H2 => wipe σ2 vs = wipe σ vs ∧ tt σ2 H2 fun b H3 =>
      if b = true then te σ2 H3 fun y H4 => ∃ acc, H4 D = some (.lst acc) ∧ acc.length < sizeLine ∧ Pv (i + 1) (upd H4 D (.lst (acc ++ [y]))) else Pv (i + 1) H3) ∧ (∀ H, Pv xs.length H → Q (.ref D) H)) : tLc (iKd k K (tVar i0)) g tt te vs σ H Q := by
  cases k
  · refine ⟨_, hv, a, rfl, ⟨_, hS⟩, fun D nD => ?_⟩
    obtain ⟨Pv, h0, hl, hs, hd⟩ := h D nD
    exact lc_tup (xs := xs) (Qd := Q (.ref D)) Pv h0 hl hs hd
  · refine ⟨_, hv, a, rfl, ⟨_, hS⟩, fun D nD => ?_⟩
    obtain ⟨Pv, h0, hl, hs, hd⟩ := h D nD
    exact lc_list (xs := xs) (Qd := Q (.ref D)) Pv h0 hl hs hd
theorem NodesEnd.len {xs : List Int} {n : Nat} {good : List Nat} {ok : Prop} {bad : Int → Prop} (h : NodesEnd xs n good ok bad) : good.length ≤ xs.length := by
  rcases h.2 with ⟨e, _⟩ | ⟨z, rest, e, _⟩
  · rw [e, List.length_map]; exact Nat.le_refl _
  · rw [e]; simp
end ExX
namespace ExX
open PySem PySem.Spec PyProof.Rows L2
theorem slc_kd {k : Bool} {K : PySem.W.Frag} {i0 j : Nat} {a : Addr} {xs : List V} {g : TG} {tt : TT} {te : TE} {vs : List Nat} {σ : L2.St} {H : Hp} {N : Ends} (hv : σ[i0]? = some (some (.ref a))) (hS : Kd k K H a xs)
    (h : ∀ D, H D = none → ∃ Pv : Nat → Hp → Prop, Pv 0 (upd H D (.lst [])) ∧ (∀ i H, i ≤ xs.length → Pv i H → Kd k K H a xs) ∧ (∀ i x H, xs[i]? = some x → Pv i H → g x (wipe σ vs) H fun σ2 H2 => wipe σ2 vs = wipe σ vs ∧ tt σ2 H2 fun b H3 =>
      if b = true then te σ2 H3 fun y H4 => ∃ acc, H4 D = some (.lst acc) ∧ acc.length < sizeLine ∧ Pv (i + 1) (upd H4 D (.lst (acc ++ [y]))) else Pv (i + 1) H3) ∧ (∀ H, Pv xs.length H → N.nx (σ.set j (some (.ref D))) H)) : tAsg (tLc (iKd k K (tVar i0)) g tt te vs) (gName j) N σ H :=
  lc_kd (Q := fun x H1 => gName j x σ H1 N.nx) hv hS h
end ExX
namespace ExX
open PySem PySem.Spec PyProof.Rows L2
/-- three parameters, given by keywords in the reverse order -/
def sw3 {α : Type} : List α → List α → List α
  | [], [c, b, a] => [a, b, c]
  | _, _ => []
theorem sw3_rel {vs : List V} {us : List Value} {zs : List V} {ws : List Value} (r : Vals vs us) (s : Vals zs ws) : Vals (sw3 vs zs) (sw3 us ws) := by
  cases r with
  | cons _ _ => exact .nil
  | nil =>
    cases s with
    | nil => exact .nil
    | cons h1 t1 =>
      cases t1 with
      | nil => exact .nil
      | cons h2 t2 =>
        cases t2 with
        | nil => exact .nil
        | cons h3 t3 =>
          cases t3 with
          | nil => exact .cons h3 (.cons h2 (.cons h1 .nil))
          | cons _ _ => exact .nil
theorem fun_sw3 {K : PySem.W.Frag} {x qual : Str} {st : Stmt} {f : Addr} {fd : FuncData} {a b c : Str} (F : Fun K x qual st f fd)
    (h : ∀ (kV doc pm : Value) (an : Option Addr) (cdv ct : Value) (u v w : Value), bindArgs (PySem.W.fnOf x qual (defArgs st) (defBody st) (defScope st) .none kV doc pm an cdv ct) ⟨[], [(c, u), (b, v), (a, w)]⟩ = pure [(a, w), (b, v), (c, u)]) : KBinds K fd [a, b, c] [c, b, a] sw3 sw3 := by
  obtain ⟨oc, od, kV, doc, pm, an, cdv, ct, osl, rfl, lk, hcd⟩ := F.ex
  refine ⟨fun s us ws _ hl => ?_, sw3_rel⟩
  match us, ws, hl with
  | [], [u, v, w], _ => exact .of_eq (h kV doc pm an cdv ct u v w)
end ExX
namespace ExX
open PySem PySem.Spec PyProof.Rows L2
/-- f(e, ..) where what is raised is wished for at the slots of the call -/
theorem pe_callN {X : Cx} {W : WX} {k : Nat} {f : Addr} {fd : FuncData} {ps : List Str} {sp : Sp} {x : Str} {q pos : Pos} {e : Expr} {es : List Expr} {t : TA} (F : FnOk X.prog X.w X.K X.mg X.base (L2N.CX X.prog X.w) k f fd ps sp) (hr : Room k X.A) (hg : Gl X x) (hm : X.mg x = some (.ref f)) (hk : PySem.W.keepIn X.K (.ref f) = true) (hb : L2.Binds X.K fd ps []) (tk : L2N.Takes X W)
    (ha : PA X (e :: es) t) (hdb : (x == ("__debug__" : Str)) = false := by decide) (he : starEach (e :: es) X.env = (false, eval e X.env) :: starEach es X.env := by rfl) (hpl : (backTo pos (starEach es X.env)).any (·.1) = false := by rfl) :
    PE X (.Call (.Name x q) (e :: es) [] pos) (fun σ H Q => t σ H fun vs H1 => sp vs H1 Q fun cls d H2 => W cls d σ H2) := by
  refine ⟨fun pins s σ H Q I h => wpAny_Call_Name_kw (ld_glob I hg hm ?_ hdb)⟩
  refine PySem.W.callWith_K (h₀ := X.base) I.ok.mod.kin hk (thn (ha.run pos pins s σ H _ I h) fun us s1 ⟨vs, H1, I1, r, w⟩ => ⟨I1.kIn, ?_⟩) he hpl
  have hl : us.length = ps.length := by rw [← r.length]; exact F.len _ _ _ _ w
  have b := hb s1 us I1.kIn (by rw [List.append_nil]; exact hl)
  rw [List.append_nil] at b
  refine wpAny_call (codeAny_mono (F.run X.A X.stack s1 H1 ⟨us, []⟩ us vs Q _ hr I1.env0 b r w) fun res s2 hq => ?_)
  cases res with
  | error er => exact tk er s2 (L2N.XE.of_call I1 (fun cls d H2 z => z) hq)
  | ok fl =>
    cases fl with
    | ret u => exact I1.after hq
    | _ => exact hq.elim
end ExX
namespace ExX
open PySem PySem.Spec PyProof.Rows L2
/-- one parameter, given by its keyword -/
def sw1 {α : Type} : List α → List α → List α
  | [], [a] => [a]
  | _, _ => []
theorem sw1_rel {vs : List V} {us : List Value} {zs : List V} {ws : List Value} (r : Vals vs us) (s : Vals zs ws) : Vals (sw1 vs zs) (sw1 us ws) := by
  cases r with
  | cons _ _ => exact .nil
  | nil =>
    cases s with
    | nil => exact .nil
    | cons h1 t1 =>
      cases t1 with
      | nil => exact .cons h1 .nil
      | cons h2 t2 => exact .nil
theorem fun_sw1 {K : PySem.W.Frag} {x qual : Str} {st : Stmt} {f : Addr} {fd : FuncData} {a : Str} (F : Fun K x qual st f fd)
    (h : ∀ (kV doc pm : Value) (an : Option Addr) (cdv ct : Value) (u : Value), bindArgs (PySem.W.fnOf x qual (defArgs st) (defBody st) (defScope st) .none kV doc pm an cdv ct) ⟨[], [(a, u)]⟩ = pure [(a, u)]) : KBinds K fd [a] [a] sw1 sw1 := by
  obtain ⟨oc, od, kV, doc, pm, an, cdv, ct, osl, rfl, lk, hcd⟩ := F.ex
  refine ⟨fun s us ws _ hl => ?_, sw1_rel⟩
  match us, ws, hl with
  | [], [u], _ => exact .of_eq (h kV doc pm an cdv ct u)
end ExX

namespace ExX
open PySem PySem.Spec PyProof.Rows L2
theorem meets_enum1 {v : Value} {o : Obj} {H : Heap → Prop} (B : Begins v o H) : Meets (Builtin.«enumerate.__new__» ⟨[.type "enumerate", v], []⟩) (fun _ R s => H s.heap ∧
      R (.ok (.ret (.ref (s.heap.push o).objs.size))) { s with heap := (s.heap.push o).push { cls := .type "enumerate", data := .fields #[.none, .bool false, .ref s.heap.objs.size, rawInt 0, .none, .none] } }) :=
  .of_wp fun prog w A R s h => by
    obtain ⟨hp, g, d, tk, os⟩ := s
    obtain ⟨h1, h⟩ := h
    have hsub := sub_enumerate
    have q1 : ∀ {A' : Around} {E : Value → Shared → Prop} {Q : Value → Shared → Prop}, Q (.ref hp.objs.size) ⟨hp.push o, g, d, tk, os⟩ → wpAny (model prog w) A' (pyIter v) Q E ⟨hp, g, d, tk, os⟩ := fun q => B.iter prog w _ _ ⟨hp, g, d, tk, os⟩ _ h1 q
    wp_walk using q1
    refine wpAny_stack_any fun st => wpAny_pure ?_
    split
    · rename_i c _ _ _ _ _
      cases (c == Value.type "enumerate") <;> (wp_walk using q1; exact ⟨_, rfl, h⟩)
    · wp_walk using q1
      exact ⟨_, rfl, h⟩
/-- enumerate(t), t a tuple -/
theorem call_enumT {prog : Program} {w : World} {A : Around} {E : Value → Shared → Prop} {s : Shared} {t : Addr} {items : Array Value} {Q : Value → Shared → Prop} (hT : s.heap.IsTuple t items)
    (h : ∀ h1, IsEnum h1 (s.heap.objs.size + 1) s.heap.objs.size 0 .none → h1.IsTupleIter s.heap.objs.size t 0 → (∀ b o, s.heap.get? b = some o → h1.get? b = some o) → Q (.ref (s.heap.objs.size + 1)) { s with heap := h1 }) :
    wpAny (model prog w) A (call (.type "enumerate") [.ref t]) Q E s := by
  refine callType_new F.called_enumerate (by decide) (F.typeCall_enumerate_1 _) (F.newCall_enumerate_1 _) (fun obj => F.args_object_init_2 obj _) F.entry_enumerate_new (meets_enum1 (begins_tuple t items)) ⟨hT, ?_⟩
  obtain ⟨oI, eI⟩ : ∃ oI : Obj, oI = { cls := .type "tuple_iterator", data := .fields #[.ref t, .int 0 0] } := ⟨_, rfl⟩
  rw [← eI]
  have sz : (s.heap.push oI).objs.size = s.heap.objs.size + 1 := Heap.size_push ..
  show _ ∧ _
  rw [sz]
  have he := Heap.get?_push_size (s.heap.push oI) (o := { cls := .type "enumerate", data := .fields #[.none, .bool false, .ref s.heap.objs.size, rawInt 0, .none, .none] }) rfl
  rw [sz] at he
  have hi : ((s.heap.push oI).push { cls := .type "enumerate", data := .fields #[.none, .bool false, .ref s.heap.objs.size, rawInt 0, .none, .none] }).get? s.heap.objs.size = some oI := Heap.get?_push_of_some _ (Heap.get?_push_size _ (by rw [eI]; rfl))
  exact ⟨⟨_, he, rfl⟩, h _ he ⟨_, hi, by rw [eI], by rw [eI]; rfl⟩ fun b o x => Heap.get?_push_of_some _ (Heap.get?_push_of_some _ x)⟩
/-- the tuple at a, each item with its number in a new pair -/
def ItE (K : PySem.W.Frag) (a : Addr) : It :=
  ⟨fun i H => ∃ (xs : List V) (x : V), SqT K H a xs ∧ xs[i]? = some x, fun i H v H1 => ∃ T x, v = .ref T ∧ H T = none ∧ H1 = upd H T (.tup [.int (i : Nat), x]) ∧ ∀ xs, SqT K H a xs → xs[i]? = some x, fun i H => ∃ xs : List V, SqT K H a xs ∧ xs.length ≤ i⟩
theorem turn_enumT {P : Program} {w : World} {K : PySem.W.Frag} {elts : List Expr} {kk : Nat} {tpos : Pos} (a e it : Addr) :
    Turn P w K (.Tuple elts kk tpos) (ItE K a) [e, it] e (fun i h => (∃ old, IsEnum h e it ((i : Nat) : Int) old) ∧ h.IsTupleIter it a i ∧ e ≠ it ∧ a ≠ it ∧ a ≠ e) where
  mem := by simp
  obj := fun i h ⟨⟨old, he⟩, ⟨o, ho, hc, hd⟩, _⟩ b hb => by
    rcases List.mem_cons.mp hb with z | z
    · rw [z]; exact ⟨_, he, fun v q => nomatch q⟩
    · rw [List.mem_singleton.mp z]; exact ⟨o, ho, fun v q => by rw [hd] at q; cases q⟩
  keep := fun i h h1 ⟨⟨old, he⟩, hi, r⟩ k => ⟨⟨old, k e (by simp) _ he⟩, hi.at fun o q => k it (by simp) o q, r⟩
  item := by
    intro X hP hw hK hc i pins s σ H E I hf ⟨⟨old, he⟩, hit, hne, hai, hae⟩ ⟨xs, x, hq, hx⟩
    subst hP hw hK
    obtain ⟨its, rv, p, hz⟩ := I.tuple hq
    obtain ⟨u, hu, ru⟩ := rv.get hx
    have hel : e < s.heap.objs.size := Heap.lt_size he
    have hil : it < s.heap.objs.size := by obtain ⟨_, q, _⟩ := hit; exact Heap.lt_size q
    have hlt : i < its.toArray.size := by
      have := (List.getElem?_eq_some_iff.mp hu).1
      simpa using this
    have D := Draws.tuple (prog := X.prog) (w := X.w) (A := X.A.in1) (by simpa using I.ok.hd hc) it a hai its.toArray
    refine wpAny_pyNext_enum_itemD D he ⟨hit, p⟩ hlt hne (by simp [hne, Ne.symm hae]) fun x2 h1 tk hP2 ho ⟨hit1, _⟩ hT hsz hk => ?_
    have e2 : x2 = u := by
      have z : its.toArray[i]? = some u := by simpa using hu
      exact Option.some.inj (hP2.symm.trans z)
    subst e2
    refine ⟨_, rfl, wpAny_letOwnedTupleGo_enum (s := { s with heap := h1, toks := tk + 1 }) ho fun h2 he2 sb => ?_⟩
    have hT2 : h2.get? s.heap.objs.size = some { cls := .type "tuple", data := .seq #[.int i tk, x2] } := (sb.2 _ (Nat.ne_of_gt hel)).trans hT
    have new : ObjOk X.prog X.w (upd H s.heap.objs.size (.tup [.int (i : Nat), x])) h2 s.heap.objs.size (.tup [.int (i : Nat), x]) := ⟨by show 2 ≤ sizeLine; decide, [.int i tk, x2], .cons ⟨_, rfl⟩ (.cons ru .nil), ⟨_, hT2, rfl, _, rfl⟩⟩
    have I1 : Inv X pins σ (upd H s.heap.objs.size (.tup [.int (i : Nat), x])) { s with heap := h2, toks := tk + 1 } :=
      I.turnedNew (ch := [e, it]) (fun b ob hb q => (sb.2 b (fun z => hb (by simp [z]))).trans (hk b ob (fun z => hb (by simp [z])) (fun z => hb (by simp [z])) q)) hf (Nat.le_refl _) new
    refine ⟨.ref s.heap.objs.size, _, I1, rfl, ⟨_, x, rfl, I.hok.fresh (Nat.le_refl _), rfl, fun ys hy => by rw [I.tuple_inj hy hq]; exact hx⟩, ⟨⟨x2, ?_⟩, hit1.at fun o q => (sb.2 it (Ne.symm hne)).trans q, hne, hai, hae⟩, fun b hb => ?_⟩
    · rw [show ((i + 1 : Nat) : Int) = (i : Int) + 1 by omega]; exact he2
    · have hb2 : b < s.heap.objs.size := by
        rcases List.mem_cons.mp hb with z | z
        · rw [z]; exact hel
        · rw [List.mem_singleton.mp z]; exact hil
      rw [upd_ne (Nat.ne_of_lt hb2)]
      exact (hf b hb).1
  done := by
    intro X hP hw hK hc i pins s σ H E I hf ⟨⟨old, he⟩, hit, hne, hai, hae⟩ ⟨xs, hq, hx⟩
    subst hP hw hK
    obtain ⟨its, rv, p, hz⟩ := I.tuple hq
    obtain ⟨f0, f1, f2, f3, f4, f5⟩ := hf it (by simp)
    have hl := rv.length
    have hh : X.A.in1.handled = none := by simpa using I.ok.hd hc
    have D0 : Draws X.prog X.w X.A.in1 it [it, a] i (fun j v => False) (fun j h => j = i ∧ h.IsTupleIter it a i ∧ h.IsTuple a its.toArray) :=
      { live := fun _ _ ⟨_, ⟨o, ho, _⟩, _⟩ => ⟨o, ho⟩
        frame := fun _ _ _ ⟨r, st1, st2⟩ hk => ⟨r, st1.at fun o e => hk it (by simp) o e, st2.at fun o e => hk a (by simp) o e⟩
        item := fun j s Q E hj ⟨r, _⟩ _ => absurd r (Nat.ne_of_lt hj)
        done := fun s Q E ⟨_, st1, st2⟩ hE => wpAny_nextOf_tuple_end hh st1 st2 (by simp; omega) hE }
    exact wpAny_pyNext_enum_endD D0 he ⟨rfl, hit, p⟩ fun h1 eb => ⟨rfl, I.turned (t' := s.toks) (fun b o hb q => eb b o hb q) f0 f1 f3 f4 f5⟩
  self := fun A i s Q E ⟨⟨_, he⟩, _⟩ h => wpAny_pyIter_enum he h
def iEnumT (K : PySem.W.Frag) (ta : TA) : TI := fun σ H R => ta σ H fun vs H1 => ∃ a xs, vs = [.ref a] ∧ SqT K H1 a xs ∧ R (ItE K a) H1
theorem pi_enumT {X : Cx} {e : Expr} {ta : TA} {p pos tpos : Pos} {elts : List Expr} {kk : Nat} (hg : Gl X "enumerate") (hm : X.mg "enumerate" = none) (ha : PA X [e] ta) (hs : starEach [e] X.env = [(false, eval e X.env)] := by rfl) :
    PI X (.Tuple elts kk tpos) (.Call (.Name "enumerate" p) [e] [] pos) (iEnumT X.K ta) := by
  refine ⟨fun pins s σ H R I h => ?_⟩
  refine Call_ (ld_blt I hg hm boot_enumerate (PyProof.Rows.callWith_type1 (thn (ha.run pos pins s σ H _ I h) fun us s1 ⟨vs, H1, I1, r1, a, xs, ex, hq, q⟩ => ?_) hs rfl))
  subst ex
  cases r1 with
  | cons r rr =>
    cases rr
    cases r
    obtain ⟨its, rv, p2, hz⟩ := I1.tuple hq
    have al : a < s1.heap.objs.size := p2.lt
    refine call_enumT p2 fun h1 he hit hk => wpAny_pyIter_enum he ?_
    have I2 : Inv X pins σ H1 { s1 with heap := h1 } := I1.kept (t' := s1.toks) hk
    refine ⟨s1.heap.objs.size + 1, [s1.heap.objs.size + 1, s1.heap.objs.size], _, _, H1, rfl, I2, turn_enumT a (s1.heap.objs.size + 1) s1.heap.objs.size, ⟨⟨.none, he⟩, hit, Nat.succ_ne_self _, Nat.ne_of_lt al, Nat.ne_of_lt (Nat.lt_succ_of_lt al)⟩, fun b hb => ?_, q⟩
    have hle : s1.heap.objs.size ≤ b := by
      rcases List.mem_cons.mp hb with z | z
      · rw [z]; exact Nat.le_succ _
      · rw [List.mem_singleton.mp z]; exact Nat.le_refl _
    exact I1.fpOk hle (I1.hok.fresh hle)
/-- a comprehension over enumerate(t) -/
theorem lc_enumT {K : PySem.W.Frag} {a : Addr} {xs : List V} {g : TG} {tt : TT} {te : TE} {vs : List Nat} {σ : L2.St} {H1 : Hp} {D : Addr} {Qd : Hp → Prop} (Pv : Nat → Hp → Prop) (h0 : Pv 0 (upd H1 D (.lst []))) (hl : ∀ i H, i ≤ xs.length → Pv i H → SqT K H a xs)
    (hs : ∀ i x H T, xs[i]? = some x → Pv i H → H T = none → g (.ref T) (wipe σ vs) (upd H T (.tup [.int (i : Nat), x])) fun σ2 H2 => wipe σ2 vs = wipe σ vs ∧ tt σ2 H2 fun b H3 =>
      if b = true then te σ2 H3 fun y H4 => ∃ acc, H4 D = some (.lst acc) ∧ acc.length < sizeLine ∧ Pv (i + 1) (upd H4 D (.lst (acc ++ [y]))) else Pv (i + 1) H3) (hd : ∀ H, Pv xs.length H → Qd H) :
    ∃ W : Nat → Nat → Hp → Prop, (∃ m, W 0 m (upd H1 D (.lst []))) ∧ ∀ i m H, W i m H →
      ((ItE K a).stop i H ∧ Qd H) ∨ ((ItE K a).go i H ∧ ∃ Nx : Hp → Prop, (∀ H2, Nx H2 → ∃ m2, m2 < m ∧ W (i + 1) m2 H2) ∧ ∀ x H2, (ItE K a).yld i H x H2 → g x (wipe σ vs) H2 fun σ2 H2 => wipe σ2 vs = wipe σ vs ∧ tt σ2 H2 fun b H3 =>
        if b = true then te σ2 H3 fun y H4 => ∃ acc, H4 D = some (.lst acc) ∧ acc.length < sizeLine ∧ Nx (upd H4 D (.lst (acc ++ [y]))) else Nx H3) := by
  refine ⟨fun i m H => m = xs.length - i ∧ i ≤ xs.length ∧ Pv i H, ⟨xs.length, by simp, Nat.zero_le _, h0⟩, fun i m H ⟨em, hi, hp⟩ => ?_⟩
  subst em
  have hq := hl i H hi hp
  by_cases hlt : i < xs.length
  · refine .inr ⟨⟨xs, xs[i], hq, by simp [hlt]⟩, Pv (i + 1), fun H2 p2 => ⟨xs.length - (i + 1), by omega, rfl, hlt, p2⟩, fun x H2 ⟨T, y, ex, nT, eH, hy⟩ => ?_⟩
    subst ex eH
    exact hs i y H T (hy xs hq) hp nT
  · have : i = xs.length := by omega
    subst this
    exact .inl ⟨⟨xs, hq, Nat.le_refl _⟩, hd H hp⟩
end ExX
namespace ExX
open PySem PySem.Spec PyProof.Rows L2
theorem for_enumT {K : PySem.W.Frag} {a : Addr} {xs : List V} {g : TG} {tb : TS} {D : Ends} {σ : L2.St} {H : Hp} (Pv : Nat → L2.St → Hp → Prop) (h0 : Pv 0 σ H) (hl : ∀ i σ H, i ≤ xs.length → Pv i σ H → SqT K H a xs)
    (hs : ∀ i x σ H T, xs[i]? = some x → Pv i σ H → H T = none → g (.ref T) σ (upd H T (.tup [.int (i : Nat), x])) fun σ2 H2 => tb { D with nx := Pv (i + 1), ct := Pv (i + 1), bk := D.nx } σ2 H2) (hd : ∀ σ H, Pv xs.length σ H → D.nx σ H) :
    ∃ W : Nat → Nat → L2.St → Hp → Prop, (∃ m, W 0 m σ H) ∧ ∀ i m σ H, W i m σ H →
      ((ItE K a).stop i H ∧ D.nx σ H) ∨ ((ItE K a).go i H ∧ ∃ N : L2.St → Hp → Prop, (∀ σ2 H2, N σ2 H2 → ∃ m2, m2 < m ∧ W (i + 1) m2 σ2 H2) ∧ ∀ x H2, (ItE K a).yld i H x H2 → g x σ H2 fun σ2 H2 => tb { D with nx := N, ct := N, bk := D.nx } σ2 H2) := by
  refine ⟨fun i m σ H => m = xs.length - i ∧ i ≤ xs.length ∧ Pv i σ H, ⟨xs.length, by simp, Nat.zero_le _, h0⟩, fun i m σ H ⟨em, hi, hp⟩ => ?_⟩
  subst em
  have hq := hl i σ H hi hp
  by_cases hlt : i < xs.length
  · refine .inr ⟨⟨xs, xs[i], hq, by simp [hlt]⟩, Pv (i + 1), fun σ2 H2 p2 => ⟨xs.length - (i + 1), by omega, rfl, hlt, p2⟩, fun x H2 ⟨T, y, ex, nT, eH, hy⟩ => ?_⟩
    subst ex eH
    exact hs i y σ H T (hy xs hq) hp nT
  · have : i = xs.length := by omega
    subst this
    exact .inl ⟨⟨xs, hq, Nat.le_refl _⟩, hd σ H hp⟩
end ExX

namespace ExX
open PySem PySem.Spec PyProof.Rows L2
/-- a def that may raise, called where it does not -/
theorem fn_no {P : Program} {w : World} {K : PySem.W.Frag} {mg : Str → Option Value} {base : Heap} {k : Nat} {f : Addr} {fd : FuncData} {ps : List Str} {sp sp' : Sp} (F : FnOk P w K mg base (L2N.CX P w) k f fd ps sp) (h : ∀ vs H Q E, sp' vs H Q E → sp vs H Q (fun _ _ _ => False)) : FnOk P w K mg base CX0 k f fd ps sp' := by
  refine ⟨fun vs H Q E z => F.len _ _ _ _ (h _ _ _ _ z), fun A outer s H args us vs Q E hr e0 b r z => ?_⟩
  refine codeAny_mono (F.run A outer s H args us vs Q (fun _ _ _ => False) hr e0 b r (h _ _ _ _ z)) fun res s2 q => ?_
  cases res with
  | ok fl => cases fl <;> exact q
  | error e =>
    have q : L2N.CX P w outer H s (fun _ _ _ => False) e s2 := q
    unfold L2N.CX at q
    simp at q
def noE (sp : Sp) : Sp := fun vs H Q _ => sp vs H Q fun _ _ _ => False
theorem fn_noE {P : Program} {w : World} {K : PySem.W.Frag} {mg : Str → Option Value} {base : Heap} {k : Nat} {f : Addr} {fd : FuncData} {ps : List Str} {sp : Sp} (F : FnOk P w K mg base (L2N.CX P w) k f fd ps sp) : FnOk P w K mg base CX0 k f fd ps (noE sp) := fn_no F fun _ _ _ _ z => z
theorem Flies.same {H H1 : Hp} {E : XK} {C : Addr} {fld tag : Str} {v : V} (f : Flies H E C fld tag v) (s : Same H H1) : Flies H1 E C fld tag v := fun d H2 n h s2 => f d H2 (sm_none s n) h (s.trans s2)
end ExX

/-! An end for a law whose lambdas stand in several defs: the tables of all of them are empty. -/
namespace LamX
open PySem PySem.Spec PyProof.Rows L2
theorem walk_many {law : PySem.W.OpenLaw} {top lev : Nat} {prg : Program} {ls : List Str} {XQ : (Str → Option Value) → Heap → Prop} {YQ : World → Heap → Prop} {dr : DefRec} {KK : Params → PySem.W.Frag} {CQ : World → CXT} {arg : Str}
    (h1 : law.most = some top) (h2 : top ≤ sizeLine)
    (h3 : dr.params.defaults = []) (h4 : Room lev callerA)
    (h5 : ∀ (w : World) (hp : Heap), YQ w hp → (KK w.params).In hp)
    (h6 : ∀ (w : World) (gl : Str → Option Value) (af : Addr) (hp : Heap), YQ w hp → (KK w.params).In hp → hp.Ns mainGlobals gl → gl dr.name = some (.ref af) →
      (∀ (y : Str) (ay : Addr), ((recsOf prg).any fun e => e.name == y) = true → gl y = some (.ref ay) → OwnTab (KK w.params) ay hp) → LawAtS law w (KK w.params) (CQ w) lev top arg gl af hp)
    (h7 : ∀ (w : World) (Hh : Hp) (sh : Shared) (er : Value) (sh' : Shared), CQ w [] Hh sh (fun _ _ _ => False) er sh' → False) :
    PySem.W.WalkO prg ls XQ YQ law.row.toRowW dr [] (fun g us => PySem.call g us) := by
  refine Att.attach_callB h1 h3 ?_
  intro w sA sB gl mb af ob pm cd dc aa vv nn GG YY x1 x2 x3 x4 x5 x6 x7 x8 x9
  have hk := h5 w _ YY
  obtain ⟨fd, cs, sp, t1, t2, t3, t4, t5, t6⟩ := h6 w gl af _ YY hk GG.T.g x4 (by
    intro y ay hy gy c P o1 fd1 e dd vs1 sl k1 k2 k3 k4 k5
    obtain ⟨rec, mem, nm⟩ := List.any_eq_true.mp hy
    obtain ⟨b1, b2, b3, b4, b5, r1, r2, r3, r4, r5, r6⟩ := GG.T.tab rec mem
    rw [beq_iff_eq.mp nm, gy] at r1
    cases r1
    rw [hk _ _ k1] at r2
    cases r2
    rw [k2] at r3
    cases r3
    rw [k3] at r4
    cases r4
    obtain ⟨⟨oc, vc, e1, _, e3, e4⟩, fin⟩ := r6
    rw [hk _ _ k4] at e1
    cases e1
    cases e3
    rw [k5] at e4
    cases e4
    exact fin)
  refine law_callTs hk GG.T.g GG.T.b GG.T.builtins GG.T.nolimit x9 t1 t2 t3 GG.T.bmain x5 x6 ?_ h4 t6 t4 ?_ ?_
  · exact Nat.le_trans x7 h2
  · exact fun Hh hH hS => t5 Hh aa nn x7 x8 hH hS
  · exact fun Hh er sh' => h7 w Hh sB er sh'
end LamX

/-! word, *rest = a tuple: its first item, and the others in a new list. -/
namespace RSt
open PySem PySem.Spec PyProof.Rows L2
theorem drop {prog : Program} {w : World} {A : Around} {I : Addr} {fp wr : List Addr} {n k : Nat} {P : Nat → Value → Prop} {St : Nat → Heap → Prop} (hk : k ≤ n) (W : Walks prog w A I fp wr n P St) :
    Walks prog w A I fp wr (n - k) (fun i v => P (i + k) v) (fun i h => St (i + k) h) where
  sub := W.sub
  frame := fun i => W.frame (i + k)
  item := fun i s Q E hi st hQ => W.item (i + k) s Q E (by omega) st fun v h' tk hP hst => hQ v h' tk hP (by rw [show i + 1 + k = i + k + 1 by omega]; exact hst)
  done := fun s Q E st hQ => W.done s Q E (by rw [show n - k + k = n by omega] at st; exact st) hQ
  self := fun i => W.self (i + k)
theorem items_drop {items acc : Array Value} {k : Nat} (hk : k ≤ items.size) (h : ItemsOf (fun i v => items[i + k]? = some v) acc (items.size - k)) : acc.toList = items.toList.drop k := by
  refine List.ext_getElem? fun j => ?_
  rw [List.getElem?_drop]
  by_cases hj : j < acc.size
  · have e : acc[j]? = some acc[j] := by simp [hj]
    have := h.2 j _ e
    rw [Array.getElem?_toList, e, Array.getElem?_toList, Nat.add_comm]
    exact this.symm
  · have h1 := h.1
    rw [List.getElem?_eq_none (by simp; omega), List.getElem?_eq_none (by simp; omega)]
section
variable {prog : Program} {w : World} {A : Around} {E : Value → Shared → Prop} {s : Shared}
theorem star_items {t : Addr} {items : Array Value} {x : Value} {Q : List Value → Shared → Prop} (hh : A.handled = none) (ht : s.heap.IsTuple t items) (hx : items[0]? = some x) (hz : items.size ≤ sizeLine)
    (hQ : ∀ (h' : Heap) tk, (∀ b o, s.heap.get? b = some o → h'.get? b = some o) → Q [x, .ref h'.objs.size] { s with heap := h'.push { cls := .type "list", data := .seq (items.toList.drop 1).toArray }, toks := tk }) :
    wpAny (model prog w) A (unpackItems (.ref t) 2 (some 1)) Q E s := by
  have hlt : t ≠ s.heap.objs.size := by obtain ⟨o, ho, _⟩ := ht; exact Nat.ne_of_lt (Heap.lt_size ho)
  have h0 : 0 < items.size := by
    by_cases z : 0 < items.size
    · exact z
    · rw [Array.getElem?_eq_none (by omega)] at hx
      cases hx
  have he : items.toList.drop 0 = x :: items.toList.drop 1 := by
    have e : items.toList[0]? = some x := by simpa using hx
    cases hl : items.toList with
    | nil => rw [hl] at e; cases e
    | cons y ys =>
      rw [hl] at e
      cases e
      rfl
  unfold unpackItems
  refine wpAny_bind ?_
  unfold notIterableAtAll
  refine wpAny_bind (wpAny_specialOf ht.typeIs F.slot_tuple_iter.lookup ?_)
  refine wpAny_pure ?_
  simp only [Bool.false_eq_true, if_false]
  refine wpAny_bind (wpAny_holding (wpAny_pyIter_tuple ht ?_))
  refine wpAny_bind (wpAny_holding (wpAny_draw_tuple hlt 1 0 _ _ ⟨_, Heap.get?_push_size _ rfl, rfl, rfl⟩ (ht.push _) (by omega) fun h₁ hit₁ hs₁ => ?_))
  rw [he, List.take_succ_cons, List.take_zero, if_neg (by simp)]
  have ht₁ : h₁.IsTuple t items := (ht.push _).extBut hs₁.extBut hlt
  obtain ⟨o1, ho1, c1, d1⟩ := id hit₁
  obtain ⟨o2, ho2, _⟩ := id ht₁
  have k1 : ∀ b o, s.heap.get? b = some o → h₁.get? b = some o := fun b o e => hs₁.extBut b o (Nat.ne_of_lt (Heap.lt_size e)) (Heap.get?_push_of_some _ e)
  refine wpAny_bind (wpAny_holding (wpAny_collect_iter (T := "tuple_iterator") (.inr (.inr (.inr rfl))) (drop (k := 1) h0 (Walks.tuple (A := A.in1) hh s.heap.objs.size t hlt items)).toS
    (fun i s' st => st.1.typeIs) ⟨by simpa using hit₁, ht₁⟩ (fun b hb => ?_) (by simp) (fun s' acc hm hacc => ?_) (by omega)))
  · have e : b = s.heap.objs.size ∨ b = t := by simpa using hb
    rcases e with e | e
    · rw [e]; exact Heap.lt_size ho1
    · rw [e]; exact Heap.lt_size ho2
  · rw [items_drop h0 hacc, Moved.eq_with hm]
    rw [show 2 - 1 - 1 = 0 by rfl]
    refine wpAny_bind ?_
    rw [Nat.sub_zero, List.take_length, List.drop_length]
    refine wpAny_newList (wpAny_pure ?_) (by rw [List.length_drop]; show items.toList.length - 1 ≤ sizeLine; rw [Array.length_toList]; omega)
    refine hQ s'.heap s'.toks fun b o e => hm.heap b o (fun z => ?_) (k1 b o e)
    have e1 : b = s.heap.objs.size := List.mem_singleton.mp z
    exact absurd (Heap.lt_size e) (by rw [e1]; exact Nat.lt_irrefl _)
end
end RSt
namespace L2
open PySem PySem.Spec PyProof.Rows
/-- head, *rest = a tuple that has a first item -/
def gHead (K : PySem.W.Frag) (g1 g2 : TG) : TG := fun v σ H Q => ∃ a x xs, v = .ref a ∧ SqT K H a (x :: xs) ∧ ∀ p, H p = none → g1 x σ (upd H p (.lst xs)) fun σ1 H1 => g2 (.ref p) σ1 H1 Q
section
variable {X : Cx}
theorem pg_head {e1 e2 : Expr} {k : Nat} {p pos : Pos} {g1 g2 : TG} (hc : X.calm = true) (h1 : PG X e1 g1) (h2 : PG X e2 g2)
    (hn : assignEach [e1, .Starred e2 p] X.env = [(false, assign e1 X.env), (true, assign e2 X.env)] := by rfl) : PG X (.Tuple [e1, .Starred e2 p] k pos) (gHead X.K g1 g2) := by
  refine ⟨fun pins s σ H v u Q I r hw => ?_⟩
  obtain ⟨a, x, xs, e0, hq, hw⟩ := hw
  subst e0
  cases r
  obtain ⟨its, rv, ht, hz⟩ := I.tuple hq
  have hlen := rv.length
  cases rv with
  | @cons _ u _ us ru rr =>
    rw [assign_Tuple]
    refine wpAny_bind (wpAny_standAt ?_)
    unfold unpack
    rw [hn]
    refine wpAny_bind (wpAny_holding (RSt.star_items (I.ok.hd hc) (show s.heap.IsTuple a (u :: us).toArray from ht) (x := u) (by simp) (by simp at hlen ⊢; simp at hz; omega) fun h' tk hk => ?_))
    have I1 : Inv X pins σ H { s with heap := h', toks := tk } := I.kept hk
    have I2 := I1.laid (a := h'.objs.size) (o := .lst xs) (h' := h'.push { cls := .type "list", data := .seq ((u :: us).toArray.toList.drop 1).toArray }) (t' := tk) (fun b o e => Heap.get?_push_of_some _ e) (Nat.le_refl _)
      ⟨by simp at hz; omega, us, 0, rr, by rw [Heap.get?_push_size _ rfl]; rfl⟩
    refine assignInOrder_cons (thn (h1.run pins _ σ _ x u _ I2 ru (hw _ (I1.hok.fresh (Nat.le_refl _)))) fun _ s1 ⟨σ1, H1, I3, q1⟩ => ?_)
    refine assignInOrder_cons (thn (h2.run pins s1 σ1 H1 (.ref h'.objs.size) (.ref h'.objs.size) _ I3 rfl q1) fun _ s2 ⟨σ2, H2, I4, q2⟩ => ?_)
    exact assignInOrder_nil ⟨σ2, H2, I4, q2⟩
end
end L2

/-! a def whose first statement stores f(text.replace(..).replace(..).split()): a token is out -/
namespace Ff
open PySem PySem.Spec PyProof.Rows L2 ExX
section
variable {X : Cx} {o e : Expr} {to te : TE} {ta : TA} {p pos apos : Pos}
theorem mt_split0 : MtR X "str.split" (fun x xs H Q => ∃ a, x = .str a ∧ xs = [] ∧ a.length + 2 ≤ sizeLine ∧ rNewStrs (Txt.words a) H Q) := by
  intro pins s σ H x xs v us Q I rx rs h
  obtain ⟨a, rfl, rfl, hz, h⟩ := h
  obtain ⟨t, rfl⟩ := rx
  cases rs with
  | nil =>
    have hl : (Txt.words a).length ≤ sizeLine := Nat.le_trans (words_le a) (by omega)
    have hn : (Builtin.Str.spaceWords a (a.length + 1)).length ≤ sizeLine := by
      have e1 := (StrLaws.sw_weight a).1
      have e2 := StrLaws.len_le_wsum (Builtin.Str.spaceWords a (a.length + 1))
      omega
    refine call_meets F.slot_str_split (typeIs_str _ _ _) F.entry_str_split (F.args_str_split_1 _) (meets_str_split_space a t (by omega) hn) ?_
    cases hw : Builtin.Str.spaceWords a (a.length + 1) == [(0, a.length)]
    · simp only [Bool.false_eq_true, if_false]
      rw [strsFrom_eq]
      exact laid_strs (ys := Txt.words a) I ((numbered_texts _ _).trans (if_neg (ne_true_of_eq_false hw)).symm) hl h
    · simp only [if_true]
      exact laid_strs (l := [(a, t)]) (ys := Txt.words a) (k := s.toks) I (if_pos hw).symm hl h
def rSplit0 : V → List V → Hp → VK → Prop := fun x xs H Q => ∃ a, x = .str a ∧ xs = [] ∧ a.length + 2 ≤ sizeLine ∧ rNewStrs (Txt.words a) H Q
theorem pet_split0 (ho : PET X o to) (hbase : attributeBase o "split" X.env (eval o X.env) = eval o X.env := by rfl) (hline : (apos.endLine == pos.line) = true := by rfl) : PET X (.Call (.Attribute o "split" apos) [] [] pos) (tM0 rSplit0 to) := by
  intro pins s σ H Q h0 I h
  refine PySem.Call_method0 hbase hline (thn (ho pins s σ H _ h0 I h) fun v s1 ⟨x, H1, I1, r1, q1⟩ => ?_)
  obtain ⟨⟨a, rfl⟩, q1⟩ := q1
  obtain ⟨t, rfl⟩ := _root_.id r1
  exact ⟨"str", _, F.plainAttrs_str, F.slot_str_split, F.type_str_split, typeIs_str _ _ _, (fun _ e => nomatch e), Calls.callWith_builtin rfl (PySem.evalArgs_none (mt_split0 pins s1 σ H1 _ [] _ [] Q I1 r1 .nil q1))⟩
theorem pet_call {CX : CXT} {k : Nat} {f : Addr} {fd : FuncData} {ps : List Str} {sp : Sp} {x : Str} {E : XK} (F : FnOk X.prog X.w X.K X.mg X.base CX k f fd ps sp) (hr : Room k X.A) (hg : Gl X x) (hm : X.mg x = some (.ref f)) (hk : PySem.W.keepIn X.K (.ref f) = true) (hb : Binds X.K fd ps []) (hx : Passes CX X E)
    (ha : PET X e te) (hdb : (x == ("__debug__" : Str)) = false := by decide) (he : starEach [e] X.env = (false, eval e X.env) :: starEach [] X.env := by rfl) (hpl : (backTo pos (starEach [] X.env)).any (·.1) = false := by rfl) :
    PET X (.Call (.Name x p) [e] [] pos) (tCall sp [] E (tCons te tNil)) := by
  intro pins s σ H Q h0 I h
  refine wpAny_Call_Name_kw (ld_glob I hg hm ?_ hdb)
  refine PySem.W.callWith_K (h₀ := X.base) I.ok.mod.kin hk (thn ((show PAT X [e] (tCons te tNil) from pat_cons ha pat_nil he) pos pins s σ H _ h0 I h) fun us s1 ⟨vs, H1, I1, r, q⟩ => ⟨I1.kIn, ?_⟩) he hpl
  exact run_fn F hr hb .nil hx I1 r q
theorem pst_set {i : Nat} {x : Str} {pos' : Pos} (hN : X.N.Nodup) (hi : X.N[i]? = some x) (hx : Loc X.env.scope x) (he : PET X e te) (hs : swapsWith e (some (.Name x pos')) pos.line X.env = pure false := by rfl) (hf : X.fn x = true ∨ X.env.scope.names.lookup x = some .local := by first | exact .inl rfl | exact .inr rfl | assumption) :
    PST X (.Assign [.Name x pos'] e pos) (tAsg te (gName i)) := by
  intro pins s σ H D h0 I h
  refine wpAny_Assign_Name (thn (he pins s σ H _ h0 I h) fun v s1 ⟨y, H1, I1, r1, q1⟩ => ?_) hs
  exact store_ok I1 hN hi hx r1 (fun s2 I2 => ⟨_, H1, I2, q1⟩) hf
end
theorem Fun.okT {P : Program} {w : World} {K : PySem.W.Frag} {mg : Str → Option Value} {base : Heap} {x qual : Str} {st : Stmt} {f : Addr} {fd : FuncData} {N ps : List Str} {k : Nat} {sp : Sp} (F : Fun K x qual st f fd) (S : FnScope N ps (defScope st)) (hnc : ∀ y ∈ (defScope st).names, y.2 ≠ .cell) (hps : 1 ≤ ps.length) (len : ∀ vs H Q E, sp vs H Q E → vs.length = ps.length)
    (hbody : ∀ (cdv : Value) (A : Around) (outer : List Env) (s : Shared) (H : Hp) (vs : List V) (Q : VK) (E : XK), Room k (A.deeper (envOfC qual (defScope st) s.heap.objs.size f cdv)) → sp vs H Q E →
      ∃ t, PSsT (cxOf CX0 P w K mg base N qual (defScope st) f cdv A outer s H E) (defBody st) t ∧ t { nx := fun _ H' => Q .non H', rt := Q } (start N vs) H) : FnOk P w K mg base CX0 (k + 1) f fd ps sp := by
  obtain ⟨oc, od, kV, doc, pm, an, cdv, ct, osl, rfl, lk, hcd⟩ := F.ex
  exact fn_ofT lk hcd S hnc hps len fun A outer s H vs Q E hr hsp => hbody cdv A outer s H vs Q E hr hsp
/-! ### numbers -/
/-- the signs of an integer -/
def intL (z : Int) : List Nat := if z < 0 then 45 :: TL.numL z.natAbs else TL.numL z.natAbs
theorem neg_S : SX.S [45] = ("-" : Str) := by decide +kernel
theorem str_int (z : Int) : (Str.ofString (toString z) : Str) = SX.S (intL z) := by
  unfold intL
  cases z with
  | ofNat n =>
    rw [if_neg (show ¬ Int.ofNat n < 0 from Int.not_lt.mpr (Int.natCast_nonneg n))]
    exact SX.num_S n
  | negSucc m =>
    rw [if_pos (Int.negSucc_lt_zero m)]
    refine TL.ext_tl ?_
    show (Str.ofString (toString (Int.negSucc m))).cps.toList = 45 :: TL.numL (m + 1)
    rw [PyProof.Rows.signs_ofString]
    show (String.append "-" (Nat.repr (m + 1))).toList.map Char.toNat = _
    rw [show String.append "-" (Nat.repr (m + 1)) = "-" ++ Nat.repr (m + 1) from rfl, String.toList_append, List.map_append, Nat.toList_repr]
    rfl
theorem intL_digits {z : Int} (h : ¬ z < 0) : intL z = TL.numL z.natAbs := if_neg h
theorem intL_neg {z : Int} (h : z < 0) : intL z = 45 :: TL.numL z.natAbs := if_pos h
theorem intL_mem {z : Int} {c : Nat} (h : c ∈ intL z) : c = 45 ∨ (48 ≤ c ∧ c ≤ 57) := by
  unfold intL at h
  split at h
  · rcases List.mem_cons.mp h with e | h
    · exact .inl e
    · exact .inr (TL.numL_digits _ _ h)
  · exact .inr (TL.numL_digits _ _ h)
theorem intL_free {z : Int} {c : Nat} (h1 : c ≠ 45) (h2 : c < 48 ∨ 57 < c) : c ∉ intL z := fun h => by
  rcases intL_mem h with e | e <;> omega
theorem intL_ne (z : Int) : intL z ≠ [] := by
  unfold intL
  split
  · simp
  · exact TL.numL_ne _
theorem intL_len {z : Int} (h : z.natAbs < 10 ^ 31) : (intL z).length ≤ 32 := by
  have := TL.numL_len (n := z.natAbs) (k := 31) (by decide) h
  unfold intL
  split
  · rw [List.length_cons]; omega
  · omega
theorem int_reads {z : Int} (h : z.natAbs < 10 ^ 31) : PySem.intText? (SX.S (intL z)) = some z := by
  have hl := TL.numL_len (n := z.natAbs) (k := 31) (by decide) h
  by_cases hz : z < 0
  · rw [intL_neg hz]
    have e := PySem.intText_neg (x := SX.S (45 :: TL.numL z.natAbs)) (cs := TL.numL z.natAbs) rfl (TL.numL_digits _) (TL.numL_ne _) (by rw [SX.S_len, List.length_cons]; omega)
    rw [e, TL.numL_val]
    congr 1
    omega
  · rw [intL_digits hz]
    have e := PySem.intText_digits (x := SX.S (TL.numL z.natAbs)) (TL.numL_digits _) (TL.numL_ne _) (by rw [SX.S_len]; omega)
    rw [e]
    show some ((NumText.digitsVal (TL.numL z.natAbs) : Nat) : Int) = some z
    rw [TL.numL_val]
    congr 1
    omega
end Ff

/-! a lambda made in a comprehension's block, handed to a def at once: what it is told without the block -/
namespace ExX
open PySem PySem.Spec PyProof.Rows L2 LamX
/-- the names of a block, the scope around it given -/
def relS (sc scope : Scope) : Scope :=
  { scope with names := scope.names.map fun (n, k) => if (k == .free && sc.kind == .function && sc.names.lookup n == some .cell) then (n, .cell) else (n, k) }
theorem lamS_blk {sc bs scope : Scope} {cl : List (Str × Addr)} {C : Addr} {env : Env} (hs : env.scope = sc) (h : lamSB (relS sc bs) scope = true) : LamS (compEnvC bs cl C env).scope scope := by
  have e : (compEnvC bs cl C env).scope = relS sc bs := by
    subst hs
    rfl
  rw [e]
  exact lamS_by h
section
variable {Z : Cx} {k kk : Nat} {g : Addr} {TT : (XK → Hp → VK → Prop) → Hp → VK → Prop} {x : Str} {p pos : Pos}
theorem pe_askB {T : List (Addr × Str)} {c PT : Addr} {lp : Pos} {params : Arguments} {body : Expr} {scope : Scope} (tb : XK → TE) (L : LamS Z.env.scope scope) (hbind : ∀ (q : Str) (cl : List (Str × Addr)) (pm cv ctv : Value), bindArgs (PySem.W.kla_fn "<lambda>" q params body scope cl pm cv ctv) ⟨[], []⟩ = pure [])
    (hbody : ∀ (f c2 : Addr) (E : XK) (A : Around) (outer : List Env) (s : Shared) (H : Hp), Room kk (A.deeper (lamEnv Z scope s.heap.objs.size f c2)) → PE (lamC Z A outer s H E scope f c2) body (tb E))
    (G : FnL Z.prog Z.w Z.K Z.mg Z.base k g TT) (hr : Room (kk + 1 + k) Z.A) (hg : Gl Z x) (hm : Z.mg x = some (.ref g)) (hk : PySem.W.keepIn Z.K (.ref g) = true) (TB : TabB Z.base Z.mg c PT) (hcode : Z.env.code = .ref c)
    (hmT : (PT, Z.env.qual ++ "<lambda>") ∈ T) (hu : ∀ q ∈ T, q.1 = PT → q.2 = Z.env.qual ++ "<lambda>") (hdef : defaultsOf params Z.env = ([], [])) (hdb : (x == ("__debug__" : Str)) = false := by decide)
    (he : starEach [.Lambda params body scope lp] Z.env = (false, eval (.Lambda params body scope lp) Z.env) :: starEach [] Z.env := by rfl) (hpl : (backTo pos (starEach [] Z.env)).any (·.1) = false := by rfl) :
    PE Z (.Call (.Name x p) [.Lambda params body scope lp] [] pos) (fun σ H Q => Tabs T H ∧ ∀ (f : Addr) (H1 : Hp), ExtN H H1 → Tabs T H1 → ∀ At : Hp → Prop, At H1 → (∀ Ha Hb, At Ha → (∀ b o, Ha b = some o → Hb b = some o) → At Hb) → TT (fun E HZ Q' => At HZ ∧ tb E σ HZ Q') H1 Q) :=
  ⟨fun pins s σ H Q I ⟨h1, h2⟩ => (pe_ask (kk := kk) (⟨params, body, scope, tb, L, hbind, hbody⟩ : LamD Z kk) G hr hg hm hk TB hcode hmT hu hdef hdb he hpl).run pins s σ H Q I
    ⟨h1, fun f H1 a b c => h2 f H1 a b (fun HZ => (⟨params, body, scope, tb, L, hbind, hbody⟩ : LamD Z kk).At f HZ) c fun Ha Hb z e => LamD.At.same z e⟩⟩
end
end ExX

/-! A list comprehension whose element may let an exception out (of a call). -/
namespace L2N
open PySem PySem.Spec PyProof.Rows L2
/-- what a block owes of an exception -/
def blkXE (X : Cx) (ce : Env) : Value → Shared → Prop := notedBy (model X.prog X.w) X.A ce (CompFails (model X.prog X.w) X.A X.xe ce)
abbrev blkE (X : Cx) (s : Shared) (H : Hp) (scope : Scope) (ce : Env) (fp : List Addr) : Cx := (X.blk s H scope ce fp).wish (blkXE X ce)
/-- a call's exception flies over all frames -/
theorem fly_of_call {X : Cx} {pins : List (Addr × Obj)} {σ : St} {H : Hp} {s s' : Shared} {E : XK} (I : Inv X pins σ H s) {u : Value} (c : CX X.prog X.w X.stack H s E u s') :
    ∃ (a : Addr) (B : Heap) (sI : Shared) (H' : Hp) (cls : Value) (d : Option Addr), u = .ref a ∧ Inv X pins σ H' sI ∧ (∀ b o, sI.heap.get? b = some o → b ∉ frs X.stack → B.get? b = some o) ∧ sI.heap.UpToSlots s'.heap ∧
      HandSPX.FlyingZ B X.stack a (Zn cls d) s'.heap ∧ H' a = none ∧ s'.os = sI.os ∧ AllBare s'.gens ∧ E cls d H' := by
  obtain ⟨a, B, H', cls, d, rfl, fl, hok, ub, na, os, ag, hE⟩ := c
  obtain ⟨G, g1, g2⟩ := restrict s'.heap fun b => (B.get? b).isSome || decide (b ∈ frs X.stack)
  have st : B.StaysIn s'.heap := fl.1
  have gB : ∀ b o, B.get? b = some o → G.get? b = some o := fun b o e => by
    rw [g1 b (by simp [e])]
    exact st b o e
  have gF : ∀ b, b ∈ frs X.stack → G.get? b = s'.heap.get? b := fun b hb => g1 b (by simp [hb])
  have og : ∀ b o, G.get? b = some o → s'.heap.get? b = some o ∧ ((B.get? b).isSome = true ∨ b ∈ frs X.stack) := fun b o e => by
    cases q : ((B.get? b).isSome || decide (b ∈ frs X.stack)) with
    | false => rw [g2 b q] at e; cases e
    | true =>
      rw [g1 b q] at e
      exact ⟨e, by simpa [Bool.or_eq_true] using q⟩
  refine ⟨a, B, { s with heap := G, gens := s'.gens, drawn := s'.drawn, toks := s'.toks }, H', cls, d, rfl, ?_, fun b o e hb => ?_, Heap.UpToSlots.of_keeps fun b o e => (og b o e).1, fl, na, os, ag, hE⟩
  · refine I.call (ch := []) ⟨fun b o e n hb _ => gB b o (ub.keep b o e n hb), fun b o e n hb _ => ?_, fun b o e n _ => ub.free b o e n, fun b o e _ => ?_, ub.tups, ub.frzs, ub.tbls⟩ (hok.kept gB) ag (fun _ z => nomatch z)
    · obtain ⟨sl, q⟩ := ub.slot b o e hb
      exact ⟨sl, by rw [gF b hb]; exact q⟩
    · by_cases hb : b ∈ frs X.stack
      · obtain ⟨sl, q⟩ := ub.slot b o e hb
        exact ⟨_, by rw [gF b hb]; exact q⟩
      · obtain ⟨o', q⟩ := ub.there b o e hb
        exact ⟨o', gB b o' q⟩
  · obtain ⟨e', h⟩ := og b o e
    rcases h with h | h
    · obtain ⟨o', q⟩ := Option.isSome_iff_exists.mp h
      have z := st b o' q
      rw [e'] at z; cases z
      exact q
    · exact absurd h hb
/-- what a call in the element lets out is taken by the def around -/
theorem blk_passes {X : Cx} {W : XK} {pins : List (Addr × Obj)} {σ : St} {H3 : Hp} {s3 : Shared} {scope : Scope} {ce : Env} {fp : List Addr} (tk : Takes X (fun cls d _ H => W cls d H)) (hs : X.stack = X.env :: X.outer) (hf : X.env.frame = some X.env.locals)
    (hcf : ce.frame = X.env.frame) (cL : ce.locals = s3.heap.objs.size) (I3 : Inv X pins σ H3 s3) (f3 : ∀ b ∈ fp, FpOk X pins H3 b) : Passes (CX X.prog X.w) (blkE X s3 H3 scope ce fp) W := by
  intro pins' σ' H s u s' I c
  obtain ⟨a, B, sI, H2, cls, d, rfl, J, nb, up, fl, na, os, ag, w⟩ := fly_of_call (X := blkE X s3 H3 scope ce fp) I c
  have hfr : X.A.frames = some (X.env :: X.outer) := by rw [← hs]; exact J.ok.frames
  have fl : HandSPX.FlyingZ B (X.env :: X.outer) a (Zn cls d) s'.heap := by rw [← hs]; exact fl
  show wpAny _ _ (noteFrame (.ref a) ce) _ _ s'
  rw [noteFrame_env _ hcf]
  refine PXN.looks_onZ Zn.steady hfr hf fl fun h1 held up1 => ?_
  obtain ⟨m, hn, _⟩ := J.loc
  have hn : sI.heap.Ns ce.locals m := hn
  have hn1 : h1.Ns ce.locals m := (hn.upToSlots up).upToSlots up1
  refine ⟨m, hn1, fun h2 m2 hn2 sb => ?_⟩
  have hid0 : ∀ (h : Heap), (PySem.W.hideAll h [ce.locals]).get? ce.locals = none := fun h => PySem.W.hideAll_none _ List.mem_cons_self
  have sub : ∀ b o, (PySem.W.hideAll B [ce.locals]).get? b = some o → b ≠ ce.locals ∧ B.get? b = some o := fun b o e => by
    refine ⟨fun z => ?_, PySem.W.of_hideAll _ e⟩
    rw [z, hid0] at e
    cases e
  have sub0 : ∀ b, B.get? b = none → (PySem.W.hideAll B [ce.locals]).get? b = none := fun b e => by
    cases q : (PySem.W.hideAll B [ce.locals]).get? b with
    | none => rfl
    | some o => rw [(sub b o q).2] at e; cases e
  obtain ⟨b1, b0, ff, oe, vs, T, oT, ts, he, hz, hd, h1', hnT, hTe, hT, hdT, h3⟩ := held
  obtain ⟨oL, es, ep, hoL, hdL, _⟩ := hn1
  have neR : ∀ b o (vs : Array Value), h1.get? b = some o → o.data = .fields vs → b ≠ ce.locals := fun b o vs e hd z => by
    rw [z] at e
    have e2 := hoL.symm.trans e
    cases e2
    rw [hdL] at hd; cases hd
  have he2 : h2.get? a = some oe := (sb.2 a (neR _ _ _ he hd)).trans he
  have hT2 : h2.get? T = some oT := (sb.2 T (neR _ _ _ hT hdT)).trans hT
  have held2 : HandSPX.HeldZ (PySem.W.hideAll B [ce.locals]) (X.env :: X.outer) a (Zn cls d) X.env.locals h2 := by
    refine ⟨fun b o e => (sb.2 b (sub b o e).1).trans (b1 b o (sub b o e).2), sub0 _ b0, funFrames_none (Heap.FunFrames.sameBut sb hn2 ff) fun L hL => ?_, oe, vs, T, oT, ts, he2, hz, hd, h1', sub0 _ hnT, hTe, hT2, hdT, h3⟩
    obtain ⟨x1, o, ho, x2⟩ := Heap.FunFrames.mem (Heap.FunFrames.sameBut sb hn2 ff) hL
    exact sub0 _ x1
  show wpAny _ _ (PySem.passOn "comprehension.variables-let-go" (.ref a) ce : Sem Value) _ _ _
  unfold PySem.passOn
  refine wpAny_bind (wpAny_field he2 hd h1' ?_)
  rw [if_neg (show ¬ ((Value.ref T == Value.none) = true) from by simp)]
  rw [hcf, hf]
  refine wpAny_bind (HandSPX.setFlight_onZ (s := { s' with heap := h2 }) held2 fun h4 held4 up4 => ?_)
  refine wpAny_throw (tk _ _ ?_)
  have hidI : ∀ b o, sI.heap.get? b = some o → b ≠ ce.locals → (PySem.W.hideAll sI.heap [ce.locals]).get? b = some o := fun b o e n => PySem.W.hideAll_get _ e (by simpa using n)
  have neL : ∀ b o, s3.heap.get? b = some o → b ≠ ce.locals := fun b o e z => by
    have := Heap.lt_size e
    rw [z, cL] at this
    exact absurd this (Nat.lt_irrefl _)
  have frC : H2 ce.locals = none := J.free
  have I2 : Inv X pins σ H2 { sI with heap := PySem.W.hideAll sI.heap [ce.locals] } := by
    refine I3.call' (ch := fp) J.os ?_ (fun b o q => (J.hok b o q).stay (fun c u hc r => hidI c u r fun z => ?_) (fun _ r => r) fun _ _ r => r) J.bare fun b hb => ⟨(f3 b hb).2.2.2.1, (f3 b hb).2.1, (f3 b hb).2.2.2.2.1, (f3 b hb).2.2.2.2.2⟩
    · have U : Un (frs X.stack) fp H3 H2 s3.heap sI.heap := J.base
      refine ⟨fun b o e n hb hx => hidI b o (U.keep b o e n hb hx) (neL b o e), fun b o e n hb hx => ?_, U.free, fun b o e hx => ?_, U.tups, U.frzs, U.tbls⟩
      · obtain ⟨sl, q⟩ := U.slot b o e n hb hx
        exact ⟨sl, hidI b _ q (neL b o e)⟩
      · obtain ⟨o', q⟩ := U.there b o e hx
        exact ⟨o', hidI b _ q (neL b o e)⟩
    · rcases hc with hc | hc
      · rw [← hc, z, frC] at q; cases q
      · rw [z, frC] at hc; cases hc
  refine ⟨a, PySem.W.hideAll B [ce.locals], _, pins, σ, H2, cls, d, rfl, I2, fun b o e hb => ?_, ?_, .inr (.inr (by rw [hs]; exact held4)), na, os, ag, w⟩
  · have e1 := PySem.W.of_hideAll _ e
    have ne : b ∉ [ce.locals] := fun z => by
      rw [List.mem_singleton.mp z] at e
      have e := (hid0 sI.heap).symm.trans e
      cases e
    exact PySem.W.hideAll_get _ (nb b o e1 hb) ne
  · intro b o e hnf
    have e1 := PySem.W.of_hideAll _ e
    have ne : b ≠ ce.locals := fun z => by
      rw [z] at e
      have e := (hid0 sI.heap).symm.trans e
      cases e
    obtain ⟨sl, q⟩ := (up.trans up1) b o e1 hnf
    exact up4 b _ ((sb.2 b ne).trans q) hnf |>.imp fun sl' z => z
section
variable {X : Cx}
theorem lcE_core {W : XK} {pins : List (Addr × Obj)} {s : Shared} {σ : St} {H : Hp} {Q : VK} {elt tg iter : Expr} {ifs : List Expr} {scope : Scope} {own : List (Str × Nat)} {pos pos' : Pos} {wi : TI} {g : TG} {tt : TT} {te : TE} {use : Option (Value → Sem Unit)} {Qf : Value → Shared → Prop}
    (tk : Takes X (fun cls d _ H => W cls d H)) (hst : X.stack = X.env :: X.outer) (hf : X.env.frame = some X.env.locals)
    (hc : X.calm = true) (hN : X.N.Nodup) (I : Inv X pins σ H s) (hi : PI X tg iter wi) (ok : BlkOk X.N X.env.scope scope own)
    (hg : ∀ (s : Shared) (H : Hp) (C : Addr) (cl : List (Str × Addr)) (fp : List Addr), PG (X.blk s H scope (compEnvC scope cl C X.env) fp) tg g) (ht : ∀ (s : Shared) (H : Hp) (C : Addr) (cl : List (Str × Addr)) (fp : List Addr), PTs (X.blk s H scope (compEnvC scope cl C X.env) fp) ifs tt)
    (he : ∀ (s : Shared) (H : Hp) (C : Addr) (cl : List (Str × Addr)) (fp : List Addr), Passes (CX X.prog X.w) (blkE X s H scope (compEnvC scope cl C X.env) fp) W → PE (blkE X s H scope (compEnvC scope cl C X.env) fp) elt te) (hs : ∀ x, foldedSetIterable iter X.env x = pure x)
    (h : tLc wi g tt te (own.map (·.2)) σ H Q)
    (hRR : ∀ D ce s' m H', Inv X pins σ H' s' → Q (.ref D) H' → s'.heap.Ns ce.locals m → FpOk X pins H' ce.locals → compEnds (model X.prog X.w) X.A X.xe use Qf (.ref D) ce (.ok .next) s') :
    wpAny (model X.prog X.w) X.A (comprehension (.ListComp elt [⟨tg, iter, ifs, 0⟩] scope pos) scope X.env pos' (newList []) false (eval iter X.env) use) Qf X.xe s := by
  have hfree : ∀ y ∈ scope.names, y.2 = .free → ∃ c, X.env.cells.lookup y.1 = some c := fun y hy e => by
    rcases ok.free y hy e with k | k
    · exact I.ok.has _ (.inl k)
    · exact I.ok.has _ (.inr k)
  refine comprehension_at (use := use) rfl hs (closure_ok hfree) ok.kind (fun y hy e => by rw [ok.uniq y hy, e])
    (thn (hi.run pins s σ H _ I h) fun xv s1 hx => thn hx fun itv s2 h2 => ?_)
  obtain ⟨it, fp, tn, J, H2, e, I2, T, st2, f2, q⟩ := h2
  subst e
  refine wpAny_newObj_type (newEnv_comp ?_) (by show 0 ≤ sizeLine; decide)
  generalize hD : s2.heap.objs.size = D
  have hDn : H2 D = none := I2.hok.fresh (Nat.le_of_eq hD)
  obtain ⟨WW, ⟨m0, w0⟩, turn⟩ := q D hDn
  generalize hs3 : ({ s2 with heap := s2.heap.push { cls := .type "list", data := .seq ([] : List Value).toArray } } : Shared) = s3
  have I3 : Inv X pins σ (upd H2 D (.lst [])) s3 := by
    rw [← hs3]
    refine I2.laid (t' := s2.toks) (fun b o e => Heap.get?_push_of_some _ e) (Nat.le_of_eq hD) ⟨Nat.zero_le _, [], 0, .nil, ?_⟩
    rw [← hD]
    exact Heap.get?_push_size _ rfl
  have h3 : s3.heap = s2.heap.push { cls := .type "list", data := .seq ([] : List Value).toArray } := by rw [← hs3]
  have sz : ∀ b ∈ fp, b < s2.heap.objs.size := fun b hb => by
    obtain ⟨o, e, _⟩ := T.obj _ _ st2 b hb
    exact Heap.lt_size e
  have f3 : ∀ b ∈ fp, FpOk X pins (upd H2 D (.lst [])) b ∧ b < s3.heap.objs.size := fun b hb => by
    have hlt := sz b hb
    refine ⟨⟨?_, (f2 b hb).2⟩, by rw [h3, Heap.size_push]; exact Nat.lt_succ_of_lt hlt⟩
    rw [upd_ne (by rw [← hD]; exact Nat.ne_of_lt hlt)]
    exact (f2 b hb).1
  have st3 : tn 0 s3.heap := T.keep _ _ _ st2 fun b _ o e => by rw [h3]; exact Heap.get?_push_of_some _ e
  have I4 := block_start I3 ok hN f3
  have pg := hg s3 (upd H2 D (.lst [])) s3.heap.objs.size (cellsFrom (s3.heap.objs.size + 1) scope.names (cloFrom X.env.cells scope.names [])) fp
  have pt := ht s3 (upd H2 D (.lst [])) s3.heap.objs.size (cellsFrom (s3.heap.objs.size + 1) scope.names (cloFrom X.env.cells scope.names [])) fp
  have pe := he s3 (upd H2 D (.lst [])) s3.heap.objs.size (cellsFrom (s3.heap.objs.size + 1) scope.names (cloFrom X.env.cells scope.names [])) fp (blk_passes tk hst hf rfl rfl I3 fun b hb => (f3 b hb).1)
  show codeAny _ _ (.compStart (.ListComp elt [⟨tg, iter, ifs, 0⟩] scope pos) 0 (.ref it) (.ref D) (compEnvC scope (cellsFrom (s3.heap.objs.size + 1) scope.names (cloFrom X.env.cells scope.names [])) s3.heap.objs.size X.env)) (compEnds (model X.prog X.w) X.A X.xe use Qf (.ref D) (compEnvC scope (cellsFrom (s3.heap.objs.size + 1) scope.names (cloFrom X.env.cells scope.names [])) s3.heap.objs.size X.env)) { s3 with heap := pushCells (s3.heap.push { cls := .type "dict", data := .dict #[] }) scope.names }
  have nfp : ∀ b ∈ fp, (upd H2 D (.lst [])) b = none := fun b hb => (f3 b hb).1.1
  generalize hce : compEnvC scope (cellsFrom (s3.heap.objs.size + 1) scope.names (cloFrom X.env.cells scope.names [])) s3.heap.objs.size X.env = ce at I4 pg pt pe ⊢
  have cL : ce.locals = s3.heap.objs.size := by subst hce; rfl
  generalize hH3 : upd H2 D (.lst []) = H3 at I3 I4 pg pt pe w0 nfp f3
  generalize hs4 : ({ s3 with heap := pushCells (s3.heap.push { cls := .type "dict", data := .dict #[] }) scope.names } : Shared) = s4 at I4 ⊢
  have st4 : tn 0 s4.heap := T.keep _ _ _ st3 fun b _ o e => by rw [← hs4]; exact pushCells_keeps _ _ _ _ (Heap.get?_push_of_some _ e)
  have stat : ∀ {σ' : St} {H' : Hp} {s' : Shared}, Inv (X.blk s3 H3 scope ce fp) [] σ' H' s' → (∀ b ∈ fp, H' b = none) → ∀ b ∈ fp, FpOk (X.blk s3 H3 scope ce fp) [] H' b := fun {σ' H' s'} I' hn b hb =>
    ⟨hn b hb, (I'.ok.exf b hb).1, I'.ok.exfs b hb, .inl hb, fun x c e => (I'.ok.exf b hb).2 x c e, fun p hp => absurd (show p ∈ ([] : List (Addr × Obj)) ++ [] from hp) (by simp)⟩
  have loop : codeAny (model X.prog X.w) X.A (.compLoop (.ListComp elt [⟨tg, iter, ifs, 0⟩] scope pos) 0 (.ref it) (.ref D) ce) (compEnds (model X.prog X.w) X.A X.xe use Qf (.ref D) ce) s4 := by
    refine compLoop_any (fun n s' => ∃ i H', Inv (X.blk s3 H3 scope ce fp) [] (wipe σ (own.map (·.2))) H' s' ∧ tn i s'.heap ∧ (∀ b ∈ fp, H' b = none) ∧ WW i n H') ?_ m0 ⟨0, H3, I4, st4, nfp, w0⟩
    rintro n s5 ⟨i, H5, I5, st5, n5, w5⟩
    rcases turn i n H5 w5 with ⟨stop, qq⟩ | ⟨go, Nx, hNx, step⟩
    · have td := T.done (X.blk s3 H3 scope ce fp) rfl rfl rfl hc i [] s5 _ H5 (fun _ _ => False) I5 (stat I5 n5) st5 stop
      refine thnF td fun r s6 ⟨hr, I6⟩ => ?_
      subst hr
      have I7 : Inv X pins σ H5 s6 := I3.call' (ch := fp) I6.os I6.base I6.hok I6.bare fun b hb => ⟨(f3 b hb).1.2.2.2.1, (f3 b hb).1.2.1, (f3 b hb).1.2.2.2.2.1, (f3 b hb).1.2.2.2.2.2⟩
      have nC : H5 ce.locals = none := I6.free
      obtain ⟨m, hn, _⟩ := I6.loc
      have hn : s6.heap.Ns ce.locals m := hn
      exact hRR D ce s6 m H5 I7 qq hn (I3.fpOk (by rw [cL]; exact Nat.le_refl _) nC)
    · have ti := T.item (X.blk s3 H3 scope ce fp) rfl rfl rfl hc i [] s5 _ H5 (fun _ _ => False) I5 (stat I5 n5) st5 go
      refine thnF ti fun r s6 ⟨u, hr, h6⟩ => ?_
      subst hr
      refine thnF h6 fun _ s7 ⟨x, H7, I7, r7, y7, st7, n7⟩ => ?_
      have I7' := I7.pinned (stat I7 n7) (T.obj _ _ st7)
      refine thnF (pg.run _ s7 _ H7 x u _ I7' r7 (step x H7 y7)) fun _ s8 ⟨σ8, H8, I8, hw8, q8⟩ => ?_
      refine thnF (pt.run _ s8 σ8 H8 _ I8 q8) fun b s9 ⟨H9, I9, q9⟩ => ?_
      have fin : ∀ {s' : Shared} {H' : Hp}, Inv (X.blk s3 H3 scope ce fp) ([] ++ pinsAt fp s7.heap) σ8 H' s' → Nx H' → ∃ m, m < n ∧ ∃ i H', Inv (X.blk s3 H3 scope ce fp) [] (wipe σ (own.map (·.2))) H' s' ∧ tn i s'.heap ∧ (∀ b ∈ fp, H' b = none) ∧ WW i m H' := fun {s' H'} I' nx => by
        obtain ⟨m', hm, w'⟩ := hNx H' nx
        have pin' : ∀ b ∈ fp, ∀ o, s7.heap.get? b = some o → s'.heap.get? b = some o ∧ H' b = none := fun b hb o e =>
          let z := I'.pin (b, o) (List.mem_append_right _ (List.mem_append_right _ (mem_pinsAt hb e)))
          ⟨z.1, z.2.1⟩
        have hl : (wipe σ (own.map (·.2))).length = σ8.length := by rw [← hw8, wipe_length]
        refine ⟨m', hm, i + 1, H', (I'.unpinned (pins := [])).weak hl (fun j v e => ?_), T.keep _ _ _ st7 fun b hb o e => (pin' b hb o e).1, fun b hb => ?_, w'⟩
        · rw [← hw8] at e
          exact (wipe_some e).1
        · obtain ⟨o, e, _⟩ := T.obj _ _ st7 b hb
          exact (pin' b hb o e).2
      cases b with
      | false =>
        simp only [Bool.false_eq_true, if_false] at q9 ⊢
        exact fin I9 q9
      | true =>
        simp only [if_true] at q9 ⊢
        refine wpAny_mono (pe.run _ s9 σ8 H9 _ (I9.wish _) q9) (fun z s10 ⟨yv, H10, I10, r10, acc, hD10, hz10, nx⟩ => ?_) fun _ _ z => z
        exact app_ok (X := X.blk s3 H3 scope ce fp) I10.unwish hD10 hz10 r10 fun s11 I11 => fin I11 nx
  exact codeAny_compStart_list loop (T.self X.A 0 _ _ _ st4 loop)
theorem pe_lcE {W : XK} {elt tg iter : Expr} {ifs : List Expr} {scope : Scope} {own : List (Str × Nat)} {pos : Pos} {wi : TI} {g : TG} {tt : TT} {te : TE} (tk : Takes X (fun cls d _ H => W cls d H)) (hst : X.stack = X.env :: X.outer) (hf : X.env.frame = some X.env.locals)
    (hc : X.calm = true) (hN : X.N.Nodup) (hi : PI X tg iter wi) (ok : BlkOk X.N X.env.scope scope own)
    (hg : ∀ (s : Shared) (H : Hp) (C : Addr) (cl : List (Str × Addr)) (fp : List Addr), PG (X.blk s H scope (compEnvC scope cl C X.env) fp) tg g) (ht : ∀ (s : Shared) (H : Hp) (C : Addr) (cl : List (Str × Addr)) (fp : List Addr), PTs (X.blk s H scope (compEnvC scope cl C X.env) fp) ifs tt)
    (he : ∀ (s : Shared) (H : Hp) (C : Addr) (cl : List (Str × Addr)) (fp : List Addr), Passes (CX X.prog X.w) (blkE X s H scope (compEnvC scope cl C X.env) fp) W → PE (blkE X s H scope (compEnvC scope cl C X.env) fp) elt te) (hs : ∀ x, foldedSetIterable iter X.env x = pure x := by intro _; rfl) :
    PE X (.ListComp elt [⟨tg, iter, ifs, 0⟩] scope pos) (tLc wi g tt te (own.map (·.2))) := by
  refine ⟨fun pins s σ H Q I h => ?_⟩
  rw [eval_ListComp]
  refine lcE_core tk hst hf hc hN I hi ok hg ht he hs h fun D ce s' m H' I' q hn f => ⟨m, hn, fun h'' sb => ?_⟩
  obtain ⟨f0, f1, f2, f3, f4, f5⟩ := f
  exact ⟨.ref D, H', I'.turned (t' := s'.toks) (fun b o hb e => (sb.2 b hb).trans e) f0 f1 f3 f4 f5, rfl, q⟩
end
end L2N

/-! a text times a number -/
namespace Ff
open PySem PySem.Spec PyProof.Rows L2
def rMulS : R2 := fun x y H Q => ∃ (l : List Nat) (n : Nat), x = .str (SX.S l) ∧ y = .int (n : Int) ∧ l.length * n ≤ 1000000 ∧ n ≤ 1000000 ∧ l.length ≤ 1000000 ∧ Q (.str (SX.S (List.replicate n l).flatten)) H
theorem fold_rep (l : List Nat) : ∀ (n : Nat) (a : Array Nat), ((List.replicate n l.toArray).foldl (· ++ ·) a).toList = a.toList ++ (List.replicate n l).flatten
  | 0, a => by simp
  | n + 1, a => by
    rw [List.replicate_succ, List.foldl_cons, fold_rep l n, List.replicate_succ, List.flatten_cons]
    simp
theorem op_mulS {X : Cx} : OpR X (binaryOp .Mult) rMulS := by
  intro pins s σ H x y v u Q I rx ry h
  obtain ⟨l, n, rfl, rfl, h1, h2, h3, q⟩ := h
  obtain ⟨t, rfl⟩ := rx
  obtain ⟨t', rfl⟩ := ry
  have fin : ∀ s', Inv X pins σ H s' → ∀ z tk, z = SX.S (List.replicate n l).flatten → EP X pins σ Q (.str z tk) s' := fun s' I' z tk e => ⟨.str z, H, I', ⟨_, rfl⟩, by rw [e]; exact q⟩
  refine P.mul_str ?_ (fun _ _ => ?_) (fun _ _ => ?_) ?_
  · rw [decide_eq_false (by omega), decide_eq_false (by omega)]; rfl
  · rename_i hn _
    rw [SX.S_len]
    have : (l.length : Int) ≤ (2 ^ 63 - 1) / (n : Int) := by
      rw [Int.le_ediv_iff_mul_le (by omega)]
      have : ((l.length * n : Nat) : Int) ≤ 1000000 := Int.ofNat_le.mpr h1
      rw [Int.natCast_mul] at this
      exact Int.le_trans this (by decide)
    omega
  · rw [SX.S_len, Int.toNat_natCast]
    exact decide_eq_false (by rw [sizeLine_eq]; omega)
  · by_cases hn : (n : Int) < 1
    · rw [if_pos hn]
      have : n = 0 := by omega
      subst this
      exact ⟨by rw [sizeLine_eq]; decide, fin _ (I.tok _) _ _ rfl⟩
    rw [if_neg hn]
    by_cases h1' : ((n : Int) == 1 || (SX.S l).length == 0) = true
    · rw [if_pos h1']
      refine fin _ I _ _ ?_
      rw [Bool.or_eq_true, beq_iff_eq, beq_iff_eq, SX.S_len] at h1'
      rcases h1' with e | e
      · have : n = 1 := by omega
        subst this
        simp
      · have : l = [] := List.eq_nil_of_length_eq_zero e
        subst this
        simp
    rw [if_neg h1']
    have e : (⟨List.foldl (fun x1 x2 => x1 ++ x2) #[] (List.replicate (n : Int).toNat (SX.S l).cps)⟩ : Str) = SX.S (List.replicate n l).flatten := by
      refine TL.ext_tl ?_
      show (List.foldl (fun x1 x2 => x1 ++ x2) #[] (List.replicate (n : Int).toNat l.toArray)).toList = _
      rw [Int.toNat_natCast]
      exact fold_rep l n #[]
    rw [e]
    have hl : (List.replicate n l).flatten.length = l.length * n := by
      simp [Nat.mul_comm]
    refine ⟨?_, fin _ (I.tok _) _ _ rfl⟩
    rw [SX.S_len, hl, sizeLine_eq]
    omega
end Ff

namespace Ff
open PySem PySem.Spec PyProof.Rows L2
def topS (i : Nat) : Stmt := PySem.Challenge.pw_findforests_k51_texts_that_are_no_histor.main.body.getD i (.Pass ⟨0, 0, 0, 0⟩)
/-- all but what stands at d is as it was -/
def Sb (d : Addr) (H H' : Hp) : Prop := ∀ b o, b ≠ d → H b = some o → H' b = some o
theorem Sb.refl {d : Addr} {H : Hp} : Sb d H H := fun _ _ _ h => h
theorem Sb.trans {d : Addr} {H H1 H2 : Hp} (a : Sb d H H1) (b : Sb d H1 H2) : Sb d H H2 := fun c o n h => b c o n (a c o n h)
theorem Sb.of {d : Addr} {H H' : Hp} (s : Same H H') : Sb d H H' := fun b o _ h => s b o h
theorem Sb.put {d : Addr} {H : Hp} {o : HO} : Sb d H (upd H d o) := fun b u n h => by rw [upd_ne n]; exact h
theorem same_new {H : Hp} {p : Addr} {o : HO} (h : H p = none) : Same H (upd H p o) := fun b x e => by
  rw [upd_ne (ne_of_none e h)]
  exact e
theorem same_sqt {H : Hp} {K : PySem.W.Frag} {a : Addr} {xs : List V} {H' : Hp} (e : Same H H') (h : SqT K H a xs) : SqT K H' a xs := by
  rcases h with (h | ⟨o, h⟩) | h
  · exact .inl (.inl (e _ _ h))
  · exact .inl (.inr ⟨o, e _ _ h⟩)
  · exact .inr h
/-- the state of the draws: a list of a list of ints and three ints -/
def DrawAt (H : Hp) (d l : Addr) : Prop := ∃ (ns : List Int) (i j k : Int),
  H d = some (.lst [.ref l, .int i, .int j, .int k]) ∧ H l = some (.lst (ns.map V.int)) ∧ 0 ≤ i ∧ 0 ≤ k ∧ k < 2305843009213693951
theorem draw_ne {H : Hp} {d l : Addr} {ns : List Int} {i j k : Int} (h : H d = some (.lst [.ref l, .int i, .int j, .int k])) (h' : H l = some (.lst (ns.map V.int))) : l ≠ d :=
  ne_of h' h (by
    intro z
    cases ns with
    | nil => cases z
    | cons a r => injection z with z; injection z with z _; cases z)
theorem DrawAt.same {H H' : Hp} {d l : Addr} (D : DrawAt H d l) (s : Same H H') : DrawAt H' d l := by
  obtain ⟨ns, i, j, k, h, h', r⟩ := D
  exact ⟨ns, i, j, k, s _ _ h, s _ _ h', r⟩
def spTake : Sp := fun vs H Q _ => ∃ (d l : Addr) (m : Int), vs = [.ref d, .int m] ∧ DrawAt H d l ∧ 1 ≤ m ∧ m.natAbs < 2 ^ 1000 ∧
  ∀ (r : Nat) H', (r : Int) < m → DrawAt H' d l → Sb d H H' → Q (.int r) H'
section
variable {P : Program} {w : World} {K : PySem.W.Frag} {mg : Str → Option Value} {base : Heap}
theorem dix {K : PySem.W.Frag} {H : Hp} {d : Addr} {xs : List V} (h : H d = some (.lst xs)) {k : Nat} {v : V} (e : xs[k]? = some v) : SqL K H d xs ∧ atI xs (k : Int) = some v := ⟨SqL.of h, atI_nat e⟩
end
theorem Sb.sql {K : PySem.W.Frag} {d a : Addr} {H H' : Hp} {xs : List V} (e : Sb d H H') (n : a ≠ d) (h : SqL K H a xs) : SqL K H' a xs := by
  rcases h with (h | ⟨o, h⟩) | h
  · exact .inl (.inl (e _ _ n h))
  · exact .inl (.inr ⟨o, e _ _ n h⟩)
  · exact .inr h
theorem Sb.sqt {K : PySem.W.Frag} {d a : Addr} {H H' : Hp} {xs : List V} (e : Sb d H H') (n : a ≠ d) (h : SqT K H a xs) : SqT K H' a xs := by
  rcases h with (h | ⟨o, h⟩) | h
  · exact .inl (.inl (e _ _ n h))
  · exact .inl (.inr ⟨o, e _ _ n h⟩)
  · exact .inr h
theorem DrawAt.ne {H : Hp} {d l p : Addr} (D : DrawAt H d l) (h : H p = none) : p ≠ d := by
  obtain ⟨ns, i, j, k, e, _⟩ := D
  exact (ne_of_none e h).symm
theorem DrawAt.nel {H : Hp} {d l p : Addr} (D : DrawAt H d l) (h : H p = none) : p ≠ l := by
  obtain ⟨ns, i, j, k, _, e, _⟩ := D
  exact (ne_of_none e h).symm
theorem DrawAt.put {H : Hp} {d l p : Addr} {o : HO} (D : DrawAt H d l) (h : p ≠ d) (h2 : p ≠ l) : DrawAt (upd H p o) d l := by
  obtain ⟨ns, i, j, k, g, g', r⟩ := D
  exact ⟨ns, i, j, k, by rw [upd_ne h.symm]; exact g, by rw [upd_ne h2.symm]; exact g', r⟩
theorem DrawAt.new {H : Hp} {d l p : Addr} {o : HO} (D : DrawAt H d l) (h : H p = none) : DrawAt (upd H p o) d l := D.same (same_new h)
theorem Sb.over {d p : Addr} {H H' : Hp} {o : HO} (e : Sb d H H') (h : H p = none) : Sb d H (upd H' p o) := fun b u n hb => by
  rw [upd_ne (ne_of_none hb h)]
  exact e b u n hb
theorem same_over {p : Addr} {H H' : Hp} {o : HO} (e : Same H H') (h : H p = none) : Same H (upd H' p o) := fun b u hb => by
  rw [upd_ne (ne_of_none hb h)]
  exact e b u hb
theorem Sb.free {d : Addr} {H H' : Hp} (e : Sb d H H') {p : Addr} (n : p ≠ d) (h : H' p = none) : H p = none := by
  cases z : H p with
  | none => rfl
  | some o => rw [e p o n z] at h; cases h
structure Tx (mg : Str → Option Value) : Prop where
  len : mg "len" = none
  range : mg "range" = none
  list : mg "list" = none
  tuple : mg "tuple" = none
  max : mg "max" = none
  min : mg "min" = none
def spOf (K : PySem.W.Frag) : Sp := fun vs H Q _ => ∃ (d l a : Addr) (xs : List V), vs = [.ref d, .ref a] ∧ DrawAt H d l ∧ a ≠ d ∧ SqL K H a xs ∧ 1 ≤ xs.length ∧ xs.length ≤ 1000 ∧
  ∀ (i : Nat) (v : V) H', xs[i]? = some v → DrawAt H' d l → Sb d H H' → Q v H'
def spShuf (K : PySem.W.Frag) : Sp := fun vs H Q _ => ∃ (d l a : Addr) (xs : List V), vs = [.ref d, .ref a] ∧ DrawAt H d l ∧ a ≠ d ∧ SqL K H a xs ∧ xs.length ≤ 1000 ∧
  ∀ (p : Addr) (ys : List V) H', ys.Perm xs → H p = none → p ≠ d → H' p = some (.lst ys) → DrawAt H' d l → Sb d H H' → Q (.ref p) H'
def spSize : Sp := fun vs H Q _ => ∃ (d l : Addr) (m : Nat), vs = [.ref d, .int m] ∧ DrawAt H d l ∧ m ≤ 1000 ∧
  ∀ (r : Nat) H', r ≤ m → DrawAt H' d l → Sb d H H' → Q (.int r) H'
def spStart (K : PySem.W.Frag) : Sp := fun vs H Q _ => ∃ (a : Addr) (ns : List Int), vs = [.ref a] ∧ SqL K H a (ns.map V.int) ∧ ns.length ≤ 63 ∧
  ∀ (d l : Addr) H', H d = none → DrawAt H' d l → Same H H' → Q (.ref d) H'
section
variable {P : Program} {w : World} {K : PySem.W.Frag} {mg : Str → Option Value} {base : Heap}
theorem insert_perm {xs : List V} (i : Nat) (y : V) : (xs.take i ++ [y] ++ xs.drop i).Perm (xs ++ [y]) := by
  rw [List.append_assoc]
  refine (List.Perm.append_left _ (List.perm_append_comm)).trans ?_
  rw [← List.append_assoc, List.take_append_drop]
end
abbrev vi (n : Nat) : V := .int (n : Int)
def natsV (l : List Nat) : List V := l.map vi
def tupOf (n : Nat) (p : Nat → Nat) : List V := (List.range n).map fun v => vi (p v)
theorem tupOf_len (n : Nat) (p : Nat → Nat) : (tupOf n p).length = n := by unfold tupOf; rw [List.length_map, List.length_range]
theorem tupOf_at {n : Nat} {p : Nat → Nat} {i : Nat} (h : i < n) : (tupOf n p)[i]? = some (vi (p i)) := by
  unfold tupOf
  rw [List.getElem?_map, List.getElem?_range h]
  rfl
theorem tupOf_congr {n : Nat} {p q : Nat → Nat} (h : ∀ v, v < n → p v = q v) : tupOf n p = tupOf n q := by
  unfold tupOf
  exact List.map_congr_left fun v hv => by rw [h v (List.mem_range.mp hv)]
theorem tupOf_set {n : Nat} {p : Nat → Nat} {i y : Nat} : (tupOf n p).set i (vi y) = tupOf n (fun v => if v = i then y else p v) := by
  refine List.ext_getElem? fun j => ?_
  rw [List.getElem?_set]
  by_cases hj : j < n
  · rw [tupOf_at hj, tupOf_at hj, tupOf_len]
    by_cases e : i = j
    · subst e
      rw [if_pos rfl, if_pos hj, if_pos rfl]
    · rw [if_neg e, if_neg (fun z => e z.symm)]
  · have z1 : (tupOf n p)[j]? = none := List.getElem?_eq_none (by rw [tupOf_len]; omega)
    have z2 : (tupOf n (fun v => if v = i then y else p v))[j]? = none := List.getElem?_eq_none (by rw [tupOf_len]; omega)
    rw [z1, z2, tupOf_len]
    by_cases e : i = j
    · rw [if_pos e, if_neg (by omega)]
    · rw [if_neg e]
theorem natsV_len (l : List Nat) : (natsV l).length = l.length := List.length_map _
theorem natsV_last (p : Nat → Nat) (k x : Nat) : atI (natsV (path p k x)) (-1) = some (vi (root p k x)) := by
  unfold natsV path
  rw [List.map_append]
  exact atI_last _ _
/-- a list or a tuple that is read -/
def Sq (K : PySem.W.Frag) (H : Hp) (a : Addr) (xs : List V) : Prop := SqL K H a xs ∨ SqT K H a xs
theorem Sq.same {K : PySem.W.Frag} {H H' : Hp} {a : Addr} {xs : List V} (h : Sq K H a xs) (e : Same H H') : Sq K H' a xs := h.imp (fun z => e.seq z) (fun z => same_sqt e z)
theorem Sq.sb {K : PySem.W.Frag} {d : Addr} {H H' : Hp} {a : Addr} {xs : List V} (h : Sq K H a xs) (e : Sb d H H') (n : a ≠ d) : Sq K H' a xs := h.imp (fun z => e.sql n z) (fun z => e.sqt n z)
theorem Sq.ix {K : PySem.W.Frag} {H : Hp} {a : Addr} {xs : List V} (h : Sq K H a xs) {i : Int} {v : V} {Q : VK} (e : atI xs i = some v) (q : Q v H) : rIx K (.ref a) (.int i) H Q := by
  rcases h with z | z
  · exact .inl ⟨a, xs, i, v, rfl, rfl, z, e, q⟩
  · exact .inr (.inl ⟨a, xs, i, v, rfl, rfl, z, e, q⟩)
def spChk (K : PySem.W.Frag) : Sp := fun vs H Q _ => ∃ (a : Addr) (xs : List V) (x : Nat), vs = [.ref a, vi x] ∧ Sq K H a xs ∧ x < xs.length ∧ Q .non H
/-- path_of, and the law's own -/
def spPath (K : PySem.W.Frag) : Sp := fun vs H Q _ => ∃ (a : Addr) (n : Nat) (p : Nat → Nat) (x : Nat), vs = [.ref a, vi x] ∧ Sq K H a (tupOf n p) ∧ n ≤ 1000 ∧ (∀ v, v < n → p v < n) ∧ x < n ∧
  ∀ (q : Addr) H', H q = none → H' q = some (.lst (natsV (path p n x))) → Same H H' → Q (.ref q) H'
def spPathOf (K : PySem.W.Frag) : Sp := fun vs H Q _ => ∃ (a : Addr) (n : Nat) (p r : Nat → Nat) (x : Nat), vs = [.ref a, vi x] ∧ Sq K H a (tupOf n p) ∧ n ≤ 1000 ∧ Fo n p r ∧ x < n ∧
  ∀ (q : Addr) H', H q = none → H' q = some (.lst (natsV (path p n x))) → Same H H' → Q (.ref q) H'
def spRoot (K : PySem.W.Frag) : Sp := fun vs H Q _ => ∃ (a : Addr) (n : Nat) (p : Nat → Nat) (x : Nat), vs = [.ref a, vi x] ∧ Sq K H a (tupOf n p) ∧ n ≤ 1000 ∧ (∀ v, v < n → p v < n) ∧ x < n ∧
  ∀ H', Same H H' → Q (vi (root p n x)) H'
def spFind (K : PySem.W.Frag) : Sp := fun vs H Q _ => ∃ (a : Addr) (n : Nat) (p r : Nat → Nat) (x : Nat), vs = [.ref a, vi x] ∧ Sq K H a (tupOf n p) ∧ n ≤ 1000 ∧ Fo n p r ∧ x < n ∧
  ∀ (t g : Addr) H', H t = none → H g = none → H' t = some (.tup [.ref g, vi (ups p n x).length]) → H' g = some (.tup (tupOf n (fnd n p x))) → Same H H' → Q (.ref t) H'
def spFindAll (K : PySem.W.Frag) : Sp := fun vs H Q _ => ∃ (a b : Addr) (n : Nat) (p r : Nat → Nat) (xs : List Nat), vs = [.ref a, .ref b] ∧ SqT K H a (tupOf n p) ∧ SqL K H b (natsV xs) ∧ n ≤ 1000 ∧ xs.length ≤ 1000 ∧ Fo n p r ∧ (∀ x ∈ xs, x < n) ∧
  ∀ (t g c : Addr) H', H t = none → H c = none → (g = a ∨ H g = none) → H' t = some (.tup [.ref g, .ref c]) → SqT K H' g (tupOf n (fndAll n xs p)) → H' c = some (.lst (natsV (costs n xs p))) → Same H H' → Q (.ref t) H'
def setAll (y : Nat) : List Nat → (Nat → Nat) → Nat → Nat
  | [], p => p
  | v :: l, p => setAll y l (fun u => if u = v then y else p u)
theorem setAll_snoc (y v : Nat) : ∀ (l : List Nat) (p : Nat → Nat), setAll y (l ++ [v]) p = fun u => if u = v then y else setAll y l p u
  | [], _ => rfl
  | a :: l, p => setAll_snoc y v l _
theorem setAll_eq (y : Nat) : ∀ (l : List Nat) (p : Nat → Nat) (u : Nat), setAll y l p u = if u ∈ l then y else p u
  | [], p, u => by rw [if_neg (List.not_mem_nil)]; rfl
  | a :: l, p, u => by
    show setAll y l _ u = _
    rw [setAll_eq y l]
    by_cases h1 : u ∈ l
    · rw [if_pos h1, if_pos (List.mem_cons_of_mem _ h1)]
    · rw [if_neg h1]
      by_cases h2 : u = a
      · rw [if_pos h2, if_pos (by rw [h2]; exact List.mem_cons_self)]
      · rw [if_neg h2, if_neg (fun z => (List.mem_cons.mp z).elim h2 h1)]
theorem fnd_setAll (n : Nat) (p : Nat → Nat) (x : Nat) : setAll (root p n x) (path p n x) p = fnd n p x := by
  funext u
  rw [setAll_eq]
  rfl
theorem path_lt {n : Nat} {p r : Nat → Nat} (F : Fo n p r) {x : Nat} (hx : x < n) : ∀ v ∈ path p n x, v < n := fun v hv => by
  unfold path at hv
  rcases List.mem_append.mp hv with h | h
  · exact (ups_lt F x hx v h).1
  · rw [List.mem_singleton.mp h]; exact root_lt F x hx
theorem ixN_nat {n i : Nat} (h : i < n) : ixN n (i : Int) = some i := by
  unfold ixN
  rw [if_pos (by omega), if_pos (by omega)]
  simp
theorem perm_of_map {α β : Type} {f : α → β} {zs ys : List β} (h : zs.Perm ys) : ∀ l : List α, zs = l.map f → ∃ l' : List α, ys = l'.map f ∧ l.Perm l' := by
  induction h with
  | nil => intro l e; exact ⟨l, e, List.Perm.refl _⟩
  | cons x h ih =>
    intro l e
    cases l with
    | nil => cases e
    | cons a r =>
      injection e with e1 e2
      obtain ⟨l', h1, h2⟩ := ih r e2
      exact ⟨a :: l', by rw [h1, e1]; rfl, h2.cons a⟩
  | swap x y l0 =>
    intro l e
    match l, e with
    | a :: b :: r, e =>
      injection e with e1 e2
      injection e2 with e2 e3
      exact ⟨b :: a :: r, by rw [e1, e2, e3]; rfl, List.Perm.swap _ _ _⟩
  | trans h1 h2 ih1 ih2 =>
    intro l e
    obtain ⟨l1, a, b⟩ := ih1 l e
    obtain ⟨l2, c, d⟩ := ih2 l1 a
    exact ⟨l2, c, b.trans d⟩
theorem rgV_nat (n : Nat) : rgV 0 (n : Int) = natsV (List.range n) := by
  unfold rgV natsV
  rw [show ((n : Int) - 0).toNat = n by omega]
  exact List.map_congr_left fun i _ => by show V.int (0 + (i : Int)) = V.int (i : Int); rw [Int.zero_add]
theorem rgOk_nat {n : Nat} (h : n ≤ 1000) : RgOk 0 (n : Int) := ⟨by decide, by decide, by omega, by omega, by omega⟩
theorem shuf_nats {l : List Nat} {ys : List V} (h : ys.Perm (natsV l)) : ∃ ks : List Nat, ys = natsV ks ∧ ks.Perm l := by
  obtain ⟨l', e, p⟩ := perm_of_map h.symm l rfl
  exact ⟨l', e, p.symm⟩
/-- the assignments of the renaming -/
def asg (ks ps : List Nat) : Nat → Nat → Nat
  | 0 => fun _ => 0
  | i + 1 => fun v => if v = ks.getD i 0 then ks.getD (ps.getD i 0) 0 else asg ks ps i v
theorem getD_inj {ks : List Nat} (nd : ks.Nodup) {i j : Nat} (hi : i < ks.length) (hj : j < ks.length) (e : ks.getD i 0 = ks.getD j 0) : i = j := by
  rw [List.getD_eq_getElem?_getD, List.getD_eq_getElem?_getD, List.getElem?_eq_getElem hi, List.getElem?_eq_getElem hj] at e
  exact (List.getElem_inj nd).mp e
theorem asg_at {ks ps : List Nat} (nd : ks.Nodup) : ∀ i, i ≤ ks.length → ∀ j, j < i → asg ks ps i (ks.getD j 0) = ks.getD (ps.getD j 0) 0
  | 0, _, j, h => by omega
  | i + 1, hi, j, h => by
    show (if ks.getD j 0 = ks.getD i 0 then _ else _) = _
    by_cases e : j = i
    · subst e; rw [if_pos rfl]
    · rw [if_neg (fun z => e (getD_inj nd (by omega) (by omega) z))]
      exact asg_at nd i (by omega) j (by omega)
theorem renamed_fo {ks ps : List Nat} {n : Nat} (hk : ks.Perm (List.range n)) (hp : ∀ j, j < n → ps.getD j 0 ≤ j) : ∃ r, Fo n (asg ks ps n) r := by
  have nd : ks.Nodup := hk.nodup_iff.mpr List.nodup_range
  have hl : ks.length = n := by rw [hk.length_eq, List.length_range]
  have hm : ∀ v, v < n → ∃ j, j < n ∧ ks.getD j 0 = v := fun v hv => by
    obtain ⟨j, hj, e⟩ := List.getElem_of_mem (hk.mem_iff.mpr (List.mem_range.mpr hv))
    exact ⟨j, by omega, by rw [List.getD_eq_getElem?_getD, List.getElem?_eq_getElem hj]; exact e⟩
  have hb : ∀ j, j < n → ks.getD j 0 < n := fun j hj => by
    have hj' : j < ks.length := by omega
    rw [List.getD_eq_getElem?_getD, List.getElem?_eq_getElem hj']
    exact List.mem_range.mp (hk.mem_iff.mp (List.getElem_mem hj'))
  have hi : ∀ j, j < n → ks.idxOf (ks.getD j 0) = j := fun j hj => by
    have hj' : j < ks.length := by omega
    have hmem : ks.getD j 0 ∈ ks := by
      rw [List.getD_eq_getElem?_getD, List.getElem?_eq_getElem hj']
      exact List.getElem_mem hj'
    have h1 := List.idxOf_lt_length_of_mem hmem
    refine getD_inj nd h1 hj' ?_
    rw [List.getD_eq_getElem?_getD, List.getElem?_eq_getElem h1]
    exact List.getElem_idxOf h1
  refine ⟨fun v => ks.idxOf v, fun v hv => ?_, fun v hv => ?_, fun v hv => ?_⟩
  · obtain ⟨j, hj, rfl⟩ := hm v hv
    rw [asg_at nd n (by omega) j hj]
    have := hp j hj
    exact hb _ (by omega)
  · obtain ⟨j, hj, rfl⟩ := hm v hv
    rw [asg_at nd n (by omega) j hj]
    have h1 := hp j hj
    by_cases e : ps.getD j 0 = j
    · exact .inl (by rw [e])
    · exact .inr (by show ks.idxOf _ < ks.idxOf _; rw [hi _ (by omega), hi _ hj]; omega)
  · obtain ⟨j, hj, rfl⟩ := hm v hv
    show ks.idxOf _ < n
    rw [hi j hj]; exact hj
/-- a new forest -/
def spRen (K : PySem.W.Frag) : Sp := fun vs H Q _ => ∃ (d l a : Addr) (ps : List Nat), vs = [.ref d, .ref a] ∧ DrawAt H d l ∧ a ≠ d ∧ SqL K H a (natsV ps) ∧ ps.length ≤ 1000 ∧ (∀ j, j < ps.length → ps.getD j 0 ≤ j) ∧
  ∀ (t : Addr) (p r : Nat → Nat) H', H t = none → H' t = some (.tup (tupOf ps.length p)) → Fo ps.length p r → DrawAt H' d l → Sb d H H' → Q (.ref t) H'
def spFor : Sp := fun vs H Q _ => ∃ (d l : Addr) (n m : Nat), vs = [.ref d, vi n, vi m] ∧ DrawAt H d l ∧ n ≤ 1000 ∧
  ∀ (t : Addr) (p r : Nat → Nat) H', H t = none → H' t = some (.tup (tupOf n p)) → Fo n p r → DrawAt H' d l → Sb d H H' → Q (.ref t) H'
def spSome : Sp := fun vs H Q _ => ∃ (d l : Addr) (m : Nat), vs = [.ref d, vi m] ∧ DrawAt H d l ∧ m ≤ 1000 ∧
  ∀ (t : Addr) (n : Nat) (p r : Nat → Nat) H', n ≤ m → H t = none → H' t = some (.tup (tupOf n p)) → Fo n p r → DrawAt H' d l → Sb d H H' → Q (.ref t) H'
def spNodes : Sp := fun vs H Q _ => ∃ (d l : Addr) (n m : Nat), vs = [.ref d, vi n, vi m] ∧ DrawAt H d l ∧ n ≤ 1000 ∧ m ≤ 500 ∧
  ∀ (a : Addr) (xs : List Nat) H', H a = none → H' a = some (.lst (natsV xs)) → (∀ x ∈ xs, x < n) → xs.length ≤ m → DrawAt H' d l → Sb d H H' → Q (.ref a) H'
theorem rep0 (n : Nat) : (List.replicate n [V.int 0]).flatten = tupOf n (fun _ => 0) := by
  refine List.ext_getElem? fun i => ?_
  have e : (List.replicate n [V.int 0]).flatten = List.replicate n (V.int 0) := by
    induction n with
    | zero => rfl
    | succ n ih => rw [List.replicate_succ, List.flatten_cons, ih]; rfl
  rw [e]
  by_cases h : i < n
  · rw [tupOf_at h, List.getElem?_replicate, if_pos h]; rfl
  · rw [List.getElem?_eq_none (by rw [List.length_replicate]; omega), List.getElem?_eq_none (by rw [tupOf_len]; omega)]
theorem natsV_at {l : List Nat} {i : Nat} (h : i < l.length) : (natsV l)[i]? = some (vi (l.getD i 0)) := by
  unfold natsV
  rw [List.getElem?_map, List.getElem?_eq_getElem h, List.getD_eq_getElem?_getD, List.getElem?_eq_getElem h]
  rfl
section
variable {P : Program} {w : World} {A : Around} {E : Value → Shared → Prop} {s : Shared}
/-- an empty set, new -/
abbrev newSet (w : World) : Obj := { cls := .type "set", dict := none, data := .set #[] 0 (.fresh 0 0 (!w.params.followText "set-order")) }
end
section
variable {P : Program} {w : World} {A : Around} {E : Value → Shared → Prop} {s : Shared}
theorem set_of_ints {l : Addr} {items : Array Value} (ns : List Int) {Q : Value → Shared → Prop} (hh : A.handled = none) (hl : s.heap.IsList l items) (hit : IntsAre items.toList ns) (hb : ns.length + 1 < scanBound)
    (fin : ∀ (h' : Heap) (tk c : Nat), SetR w h' s.heap.objs.size (fun j => decide (j ∈ ns)) c → c ≤ ns.length → (∀ b o, s.heap.get? b = some o → h'.get? b = some o) → Q (.ref s.heap.objs.size) { s with heap := h', toks := tk }) :
    wpAny (model P w) A (call (.type "set") [.ref l]) Q E s := by
  have size_eq : items.size = ns.length := by rw [← Array.length_toList]; exact IntsAre.length hit
  obtain ⟨c, tl, hmro⟩ := F.called_set.mro; have hmade := F.called_set.made; have hsub := F.called_set.sub
  refine wpAny_call (codeAny_of_tree ?_); show wpAny _ _ (callAny (.type "set") _) _ _ _
  refine wpAny_pure ⟨Code.quiet_builtin _ (by decide +kernel), codeAny_builtin F.entry_type_call ?_⟩; rw [Around.under_plain (weight_type_call_type "set" [.ref l] []) rfl]
  have h1 := F.called_set.notType; have h2 := F.called_set.canCreate; have hct := F.typeCall_set_1 (.ref l)
  (repeat (any_goals (first | assumption | wp_step)))
  refine codeAny_mono (code_set_led1 (.ref l) (E := E) (Q₁ := fun obj s1 => obj = .ref s.heap.objs.size ∧ s1 = { s with heap := s.heap.push (newSet w) }) ⟨rfl, rfl⟩) fun r s1 hr => ?_
  match r, hr with
  | .error e, hr => exact hr
  | .ok (.ret obj), hr =>
      obtain ⟨rfl, rfl⟩ := hr
      have at0 : (s.heap.push (newSet w)).get? s.heap.objs.size = some (newSet w) := Heap.get?_push_size _ rfl
      have ty0 : Shared.TypeIs { s with heap := s.heap.push (newSet w) } (.ref s.heap.objs.size) "set" := ⟨_, at0, rfl⟩
      have hli := F.called_set.init.lookup; have hbi := F.called_set.init.bind (.ref s.heap.objs.size)
      (repeat (any_goals (first | assumption | wp_step)))
      refine codeAny_mono (codeAny_call_builtin (R := wants (fun r s2 => r = .none ∧ ∃ h' tk c, s2 = { s with heap := h', toks := tk } ∧ SetR w h' s.heap.objs.size (fun j => decide (j ∈ ns)) c ∧ c ≤ ns.length ∧ (∀ b o, s.heap.get? b = some o → h'.get? b = some o)) E) F.called_set.init.plain F.entry_set_init (check_set_init_1 ty0 ?_)) fun r2 s2 hr2 => ?_
      · obtain ⟨⟨kl, dl, el, sl⟩, hol, hcl, nl, hdl⟩ := hl
        simp only at hcl hdl; subst hcl; subst hdl
        have at1 : (s.heap.push (newSet w)).get? l = some { cls := .type "list", dict := dl, data := .seq items nl, slots := sl } := Heap.get?_push_of_some _ hol
        have hsls := F.sub_list_set; have hslf := F.sub_list_frozenset; have hne : (Value.type "list" == Value.type "dict") = false := by decide
        have isl : (s.heap.push (newSet w)).IsList l items := ⟨_, at1, rfl, nl, rfl⟩
        unfold Builtin.«set.__init__» noKeywords Builtin.Frozenset.updateFrom; generalize hPI : pyIter = PI; wp_walk; subst hPI
        refine wpAny_pyIter_list isl (wpAny_bind (wpAny_runValue ?_))
        have lt0 : l < s.heap.objs.size := Heap.lt_size hol
        have hd3 : A.in1.in1.in1.handled = none := by simp [hh]
        have sz1 : (s.heap.push (newSet w)).objs.size = s.heap.objs.size + 1 := Heap.size_push ..
        have nel : l ≠ (s.heap.push (newSet w)).objs.size := by rw [sz1]; exact Nat.ne_of_lt (Nat.lt_succ_of_lt lt0)
        have out0 : s.heap.objs.size ∉ [(s.heap.push (newSet w)).objs.size, l] := by
          rw [sz1]; intro z
          rcases List.mem_cons.mp z with z | z
          · exact Nat.ne_of_lt (Nat.lt_succ_self _) z
          · exact Nat.ne_of_gt lt0 (List.mem_singleton.mp z)
        have val : ∀ (i : Nat) (v : Value), items[i]? = some v → ∃ k t, ns[i]? = some k ∧ v = .int k t := fun i v hv => by
          have hi : i < ns.length := by rw [← size_eq]; exact (Array.getElem?_eq_some_iff.mp hv).1
          obtain ⟨t, e⟩ := IntsAre.int_at hit i v (by rw [Array.getElem?_toList]; exact hv)
          refine ⟨ns[i], t, List.getElem?_eq_getElem hi, ?_⟩
          rw [e, List.getD_eq_getElem?_getD, List.getElem?_eq_getElem hi]; rfl
        refine set_update_ints ((Walks.list hd3 _ l nel items).toS) s.heap.objs.size out0 ns size_eq hb val (items.size - 0) 0 _ (by omega) (Nat.zero_le _) ⟨⟨_, Heap.get?_push_size _ rfl, rfl, rfl⟩, (isl.push _)⟩ ⟨0, Nat.le_refl 0, setR_new_at (Heap.get?_push_of_some _ at0)⟩ ?_
        rintro ⟨h', g2, d2, t2, o2⟩ c' hm hc' hS'
        obtain rfl : g2 = s.gens := hm.gens
        obtain rfl : d2 = s.drawn := hm.drawn
        obtain rfl : o2 = s.os := hm.os
        show wpAny _ _ _ _ _ _; refine wpAny_pure ?_; show wpAny _ _ (ret Value.none) _ _ _
        refine wpAny_pure ⟨rfl, h', t2, c', rfl, hS', by omega, fun b o e => ?_⟩
        have b0 : b < s.heap.objs.size := Heap.lt_size e
        refine hm.heap b o (fun z => ?_) (Heap.get?_push_of_some _ (Heap.get?_push_of_some _ e))
        rcases List.mem_cons.mp z with z | z
        · exact Nat.ne_of_lt b0 z
        · exact Nat.ne_of_lt (Nat.lt_succ_of_lt b0) ((List.mem_singleton.mp z).trans sz1)
      · match r2, hr2 with
        | .error e, hr2 => exact hr2
        | .ok (.ret r), hr2 =>
            obtain ⟨rfl, h', tk, c', rfl, hS', hc', hk'⟩ := hr2
            (repeat (any_goals (first | assumption | wp_step)))
            exact fin _ _ _ hS' hc' hk'
end
/-- set(xs), a list of ints -/
def rSetI (K : PySem.W.Frag) (w : World) : List V → Hp → VK → Prop := fun xs H Q => ∃ (l : Addr) (ns : List Int), xs = [V.ref l] ∧ SqL K H l (ns.map V.int) ∧ ns.length < 64 ∧
  ∀ (a : Addr) (c : Nat), H a = none → c ≤ ns.length → Q (.ref a) (upd H a (SetO w a (fun j => decide (j ∈ ns)) c))
theorem cr_setI {X : Cx} (hc : X.calm = true) : CallR X (.type "set") (rSetI X.K X.w) := by
  intro pins s σ H xs us Q I r h
  obtain ⟨l, ns, rfl, hl, hf, q⟩ := h
  rw [Vals.ref1 r]
  obtain ⟨its, rv, pl, hz⟩ := I.list hl
  refine set_of_ints (P := X.prog) (w := X.w) ns (I.ok.hd hc) pl.isList (ints_of_vals rv) (by unfold scanBound; omega) fun h' tk c R cl k => ?_
  exact ⟨.ref s.heap.objs.size, upd H s.heap.objs.size (SetO X.w s.heap.objs.size (fun j => decide (j ∈ ns)) c), I.laid (t' := tk) k (Nat.le_refl _) (setO_new R), rfl, q _ c (I.hok.fresh (Nat.le_refl _)) cl⟩
theorem dpAll_ints {K : PySem.W.Frag} {H : Hp} : ∀ l : List Int, DpAll K H (l.map V.int) (l.map PyData.int)
  | [] => .nil
  | x :: r => .cons (.int x) (dpAll_ints r)
theorem lay_ints : ∀ l : List Int, PyData.canLayAll0 (l.map PyData.int) = true
  | [] => by simp [PyData.canLayAll0]
  | x :: r => by simp [PyData.canLayAll0, PyData.canLay0, lay_ints r]
theorem depth_ints : ∀ l : List Int, PyData.depthAll (l.map PyData.int) ≤ 1
  | [] => by simp [PyData.depthAll]
  | x :: r => by
    have := depth_ints r
    simp [PyData.depthAll, PyData.depth]
    omega
theorem shaped_tup (l : List Int) : SeqAt.shaped (.tuple (l.map PyData.int)) = true := by
  unfold SeqAt.shaped
  have := depth_ints l
  simp [PyData.canLay0, lay_ints, PyData.depth]
  omega
def intsOf (n : Nat) (p : Nat → Nat) : List Int := (List.range n).map fun v => (p v : Int)
theorem tupOf_ints (n : Nat) (p : Nat → Nat) : tupOf n p = (intsOf n p).map V.int := by
  unfold tupOf intsOf
  rw [List.map_map]
  rfl
theorem eqv_tup (l : List Int) : PyData.eqv (.tuple (l.map PyData.int)) (.tuple (l.map PyData.int)) = true := SeqAt.eqv_refl _ (SeqAt.canLay_of_shaped (shaped_tup l))
theorem natsV_ints (l : List Nat) : natsV l = (l.map fun n : Nat => (n : Int)).map V.int := by
  unfold natsV
  rw [List.map_map]
  rfl
theorem sum_cast : ∀ l : List Nat, (l.map fun n : Nat => (n : Int)).sum = (l.sum : Nat)
  | [] => rfl
  | x :: r => by
    rw [List.map_cons, List.sum_cons, List.sum_cons, sum_cast r]
    omega
def spLaw (K : PySem.W.Frag) : Sp := fun vs H Q _ => ∃ (a : Addr) (ns : List Int), vs = [.ref a] ∧ SqL K H a (ns.map V.int) ∧ ns.length ≤ 63 ∧ ∀ H', Q (.bl true) H'
theorem DrawAt.net {H : Hp} {d l t : Addr} {xs : List V} (D : DrawAt H d l) (h : H t = some (.tup xs)) : t ≠ d := by
  obtain ⟨ns, i, j, k, e, _⟩ := D
  exact ne_of h e (by intro z; cases z)
theorem cut_last (l : List Nat) (y : Nat) : cutV (natsV (l ++ [y])) none (some (-1)) = natsV l := by
  unfold cutV
  have e1 : HT.sIx (natsV (l ++ [y])).length (natsV (l ++ [y])).length (some (-1)) = l.length := by
    rw [natsV_len, List.length_append, List.length_singleton]
    unfold HT.sIx
    simp
    omega
  rw [e1, HT.sIx_none]
  unfold natsV
  rw [List.map_append]
  simp
theorem flat_nats (l : List Nat) : (natsV l).all flatV = true := by
  unfold natsV
  rw [List.all_eq_true]
  intro v hv
  obtain ⟨n, _, rfl⟩ := List.mem_map.mp hv
  rfl
theorem inV_nats (l : List Nat) (v : Nat) : inV (vi v) (natsV l) = decide (v ∈ l) := by
  unfold inV natsV
  rw [List.any_map]
  refine Bool.eq_iff_iff.mpr ?_
  rw [List.any_eq_true, decide_eq_true_eq]
  constructor
  · rintro ⟨x, hx, e⟩
    have z : ((x : Int) == (v : Int)) = true := e
    have : x = v := by have := eq_of_beq z; omega
    rw [← this]; exact hx
  · intro h
    exact ⟨v, h, by show ((v : Int) == (v : Int)) = true; simp⟩
def markL (n : Nat) (p : Nat → Nat) (l : List Nat) : List Nat := l.flatMap fun x => ups p n x
theorem markL_mem {n : Nat} {p : Nat → Nat} {l : List Nat} {v : Nat} : v ∈ markL n p l ↔ markB n p l v = true := by
  unfold markL markB
  rw [List.mem_flatMap, List.any_eq_true]
  exact ⟨fun ⟨x, a, b⟩ => ⟨x, a, upB_iff.mpr b⟩, fun ⟨x, a, b⟩ => ⟨x, a, upB_iff.mp b⟩⟩
theorem markL_len (n : Nat) (p : Nat → Nat) : ∀ l : List Nat, (markL n p l).length ≤ l.length * n
  | [] => Nat.zero_le _
  | x :: r => by
    have h1 := markL_len n p r
    have h2 := ups_len0 p n x
    show (ups p n x ++ markL n p r).length ≤ (r.length + 1) * n
    rw [List.length_append, Nat.add_mul]
    omega
theorem ints_perm {l : List Nat} {ns : List Int} (h : ns.Perm (l.map fun n : Nat => (n : Int))) : ∃ ys : List Nat, ns.map V.int = natsV ys ∧ ys.Perm l := by
  obtain ⟨ys, e, p⟩ := perm_of_map h.symm l rfl
  exact ⟨ys, by rw [natsV_ints, e], p.symm⟩
theorem ints_of_mem : ∀ {ns : List Int}, (∀ k ∈ ns, ∃ m : Nat, k = (m : Int)) → ∃ ys : List Nat, ns = ys.map fun n : Nat => (n : Int)
  | [], _ => ⟨[], rfl⟩
  | k :: r, h => by
    obtain ⟨m, e⟩ := h k List.mem_cons_self
    obtain ⟨ys, e2⟩ := ints_of_mem (ns := r) fun j hj => h j (List.mem_cons_of_mem _ hj)
    exact ⟨m :: ys, by rw [e, e2]; rfl⟩
/-- a def of the text as the top has left it -/
def DefF (K : PySem.W.Frag) (x : Str) (st : Stmt) : Prop := ∃ (f : Addr) (oc : Value) (od an : Option Addr) (sl : Array (Option Value)) (kV dc pm cd ct : Value),
  PySem.W.nsIn K mainGlobals x = some (some (.ref f)) ∧ K.lookup f = some ⟨oc, od, .func (PySem.W.fnOf x x (defArgs st) (defBody st) (defScope st) .none kV dc pm an cd ct), sl⟩ ∧ PySem.W.codeIn K cd x = true ∧ PySem.W.keepIn K (.ref f) = true
theorem DefF.by {K : PySem.W.Frag} {x : Str} {st : Stmt} {f : Addr} {oc : Value} {od an : Option Addr} {sl : Array (Option Value)} {kV dc pm cd ct : Value} (a : PySem.W.nsIn K mainGlobals x = some (some (.ref f)))
    (l : K.lookup f = some ⟨oc, od, .func (PySem.W.fnOf x x (defArgs st) (defBody st) (defScope st) .none kV dc pm an cd ct), sl⟩) (c : PySem.W.codeIn K cd x = true) (k : PySem.W.keepIn K (.ref f) = true) : DefF K x st := ⟨f, oc, od, an, sl, kV, dc, pm, cd, ct, a, l, c, k⟩
theorem DefF.get {K : PySem.W.Frag} {h : Heap} {mg : Str → Option Value} {x : Str} {st : Stmt} (D : DefF K x st) (X : K.In h) (G : h.Ns mainGlobals mg) : ∃ f fd, Fun K x x st f fd ∧ mg x = some (.ref f) := by
  obtain ⟨f, oc, od, an, sl, kV, dc, pm, cd, ct, a, l, c, k⟩ := D
  exact ⟨f, _, fun_mk (st := st) l c k, PySem.W.mg_of X G a⟩
abbrev sameN : List Str := ["_law_found", "_law_due", "_law_one", "_law_other"]
/-- plain data of at most so many storeys -/
inductive Sm : Nat → PyData → Prop
  | non (n : Nat) : Sm n .none
  | bl (n : Nat) (b : Bool) : Sm n (.bool b)
  | int (n : Nat) (i : Int) : Sm n (.int i)
  | str (n : Nat) (x : Str) : Sm n (.str x)
  | lst {n : Nat} {ds : List PyData} (h : ds.length ≤ 1000) (k : ∀ d ∈ ds, Sm n d) : Sm (n + 1) (.list ds)
  | tup {n : Nat} {ds : List PyData} (h : ds.length ≤ 1000) (k : ∀ d ∈ ds, Sm n d) : Sm (n + 1) (.tuple ds)
def spSame (K : PySem.W.Frag) (n : Nat) : Sp := fun vs H Q _ => ∃ (v u : V) (d : PyData), vs = [v, u] ∧ Dp K H v d ∧ Dp K H u d ∧ Sm n d ∧ ∀ H', Same H H' → Q (.bl true) H'
structure TxS (mg : Str → Option Value) : Prop where
  isinstance : mg "isinstance" = none
  list : mg "list" = none
  tuple : mg "tuple" = none
  bool : mg "bool" = none
  int : mg "int" = none
  str : mg "str" = none
  len : mg "len" = none
  all : mg "all" = none
  zip : mg "zip" = none
section
variable {X : Cx}
theorem pe_ty {x : Str} {n : String} {pos : Pos} (hg : Gl X x) (hm : X.mg x = none) (hv : bootBuiltins x = some (.type n)) (h1 : x ≠ "__name__" := by decide) (h2 : (x == ("__debug__" : Str)) = false := by decide) : PE X (.Name x pos) (tC (.ty n)) := pe_bltn hg hm hv rfl h1 h2
end
theorem kit2 {K : PySem.W.Frag} {t a b : String} {r s : Bool} (h1 : kitB t a = some r) (h2 : kitB t b = some s) : PySem.W.kitAny K (.type t) [.type a, .type b] = some (r || s) :=
  kitAny_cons (kit_ty h1) (fun e => kitAny_cons (kit_ty h2) (fun e2 => by rw [e, e2]; rfl) (fun e2 => by rw [e2, Bool.or_true])) (fun e => by rw [e]; rfl)
theorem dpl_len {K : PySem.W.Frag} {H : Hp} : ∀ {xs : List V} {ds : List PyData}, DpAll K H xs ds → xs.length = ds.length
  | _, _, .nil => rfl
  | _, _, .cons _ r => by rw [List.length_cons, List.length_cons, dpl_len r]
theorem dpl_at {K : PySem.W.Frag} {H : Hp} : ∀ {xs : List V} {ds : List PyData}, DpAll K H xs ds → ∀ {i : Nat} {x : V}, xs[i]? = some x → ∃ d, ds[i]? = some d ∧ Dp K H x d
  | _, _, .cons h r, 0, x, e => ⟨_, rfl, (Option.some.inj e) ▸ h⟩
  | _, _, .cons h r, i + 1, x, e => dpl_at r (i := i) e
mutual
theorem dp_same {K : PySem.W.Frag} {H H' : Hp} (e : Same H H') : ∀ {v : V} {d : PyData}, Dp K H v d → Dp K H' v d
  | _, _, .non => .non
  | _, _, .bl b => .bl b
  | _, _, .int i => .int i
  | _, _, .str x => .str x
  | _, _, .lst s r => .lst (e.seq s) (dpl_same e r)
  | _, _, .tup s r => .tup (same_sqt e s) (dpl_same e r)
theorem dpl_same {K : PySem.W.Frag} {H H' : Hp} (e : Same H H') : ∀ {vs : List V} {ds : List PyData}, DpAll K H vs ds → DpAll K H' vs ds
  | _, _, .nil => .nil
  | _, _, .cons h r => .cons (dp_same e h) (dpl_same e r)
end
theorem tyL {K : PySem.W.Frag} {H : Hp} {a : Addr} {xs : List V} (h : SqL K H a xs) : TyX K H (.ref a) (.type "list") := by
  rcases h with (h | ⟨o, h⟩) | ⟨o, _, _, h, c, _⟩
  · exact .base (.lst h)
  · exact .base (.frz h)
  · exact .kList h c
theorem tyT {K : PySem.W.Frag} {H : Hp} {a : Addr} {xs : List V} (h : SqT K H a xs) : TyX K H (.ref a) (.type "tuple") := by
  rcases h with (h | ⟨o, h⟩) | ⟨o, _, _, h, c, _⟩
  · exact .base (.tup h)
  · exact .fTuple h
  · exact .kTuple h c
abbrev markedN : List Str := ["forest", "nodes", "marked", "node", "passed"]
abbrev afterN : List Str := ["forest", "nodes", "parents", "node"]
abbrev totalN : List Str := ["forest", "nodes", "deep", "lower", "node"]
/-- a def whose promise is known -/
structure Kn (P : Program) (w : World) (K : PySem.W.Frag) (mg : Str → Option Value) (base : Heap) (k : Nat) (x : Str) (st : Stmt) (ps : List Str) (sp : Sp) (f : Addr) (fd : FuncData) : Prop where
  F : Fun K x x st f fd
  G : FnOk P w K mg base CX0 k f fd ps sp
  b : Binds K fd ps []
  g : mg x = some (.ref f)
def spRootOf (K : PySem.W.Frag) : Sp := fun vs H Q _ => ∃ (a : Addr) (n : Nat) (p r : Nat → Nat) (x : Nat), vs = [.ref a, vi x] ∧ Sq K H a (tupOf n p) ∧ n ≤ 1000 ∧ Fo n p r ∧ x < n ∧ ∀ H', Same H H' → Q (vi (root p n x)) H'
def spDepthOf (K : PySem.W.Frag) : Sp := fun vs H Q _ => ∃ (a : Addr) (n : Nat) (p r : Nat → Nat) (x : Nat), vs = [.ref a, vi x] ∧ Sq K H a (tupOf n p) ∧ n ≤ 1000 ∧ Fo n p r ∧ x < n ∧ ∀ H', Same H H' → Q (vi (ups p n x).length) H'
def markS (n : Nat) (p : Nat → Nat) (l : List Nat) : List Nat := (List.range n).filter (markB n p l)
def spMarked (K : PySem.W.Frag) : Sp := fun vs H Q _ => ∃ (a b : Addr) (n : Nat) (p r : Nat → Nat) (xs : List Nat), vs = [.ref a, .ref b] ∧ Sq K H a (tupOf n p) ∧ SqL K H b (natsV xs) ∧ n ≤ 60 ∧ xs.length ≤ 1000 ∧ Fo n p r ∧ (∀ x ∈ xs, x < n) ∧
  ∀ (q : Addr) H', H q = none → H' q = some (.lst (natsV (markS n p xs))) → Same H H' → Q (.ref q) H'
def spAfter (K : PySem.W.Frag) : Sp := fun vs H Q _ => ∃ (a b : Addr) (n : Nat) (p r : Nat → Nat) (xs : List Nat), vs = [.ref a, .ref b] ∧ Sq K H a (tupOf n p) ∧ SqL K H b (natsV xs) ∧ n ≤ 60 ∧ xs.length ≤ 1000 ∧ Fo n p r ∧ (∀ x ∈ xs, x < n) ∧
  ∀ (q : Addr) H', H q = none → H' q = some (.tup (tupOf n (fndAll n xs p))) → Same H H' → Q (.ref q) H'
def spTotal (K : PySem.W.Frag) : Sp := fun vs H Q _ => ∃ (a b : Addr) (n : Nat) (p r : Nat → Nat) (xs : List Nat), vs = [.ref a, .ref b] ∧ Sq K H a (tupOf n p) ∧ SqL K H b (natsV xs) ∧ n ≤ 60 ∧ xs.length ≤ 1000 ∧ Fo n p r ∧ (∀ x ∈ xs, x < n) ∧
  ∀ H', Same H H' → Q (vi (costs n xs p).sum) H'
theorem rise_eq : ∀ {l m : List Int}, l.Pairwise (· < ·) → m.Pairwise (· < ·) → (∀ k, k ∈ l ↔ k ∈ m) → l = m
  | [], [], _, _, _ => rfl
  | [], b :: m, _, _, h => by have := (h b).mpr List.mem_cons_self; cases this
  | a :: l, [], _, _, h => by have := (h a).mp List.mem_cons_self; cases this
  | a :: l, b :: m, hl, hm, h => by
    obtain ⟨h1, h2⟩ := List.pairwise_cons.mp hl
    obtain ⟨g1, g2⟩ := List.pairwise_cons.mp hm
    have e : a = b := by
      rcases List.mem_cons.mp ((h a).mp List.mem_cons_self) with z | z
      · exact z
      · rcases List.mem_cons.mp ((h b).mpr List.mem_cons_self) with y | y
        · exact y.symm
        · have := g1 a z
          have := h1 b y
          omega
    subst e
    rw [rise_eq h2 g2 fun k => ?_]
    constructor
    · intro z
      rcases List.mem_cons.mp ((h k).mp (List.mem_cons_of_mem _ z)) with y | y
      · have := h1 k z; omega
      · exact y
    · intro z
      rcases List.mem_cons.mp ((h k).mpr (List.mem_cons_of_mem _ z)) with y | y
      · have := g1 k z; omega
      · exact y
theorem rise_filter (n : Nat) (f : Nat → Bool) : (((List.range n).filter f).map fun v : Nat => (v : Int)).Pairwise (· < ·) := by
  rw [List.pairwise_map]
  refine List.Pairwise.imp (fun {a b} h => by omega) ((List.pairwise_lt_range (n := n)).filter f)
theorem count_up {n k : Nat} {f g : Nat → Bool} (hk : k < n) (h1 : f k = false) (h2 : ∀ v, g v = (f v || decide (v = k))) : (List.range n).countP g = (List.range n).countP f + 1 := by
  have e := countP_split g f (List.range n)
  have e1 : (List.range n).countP (fun v => g v && f v) = (List.range n).countP f := List.countP_congr fun v _ => by
    rw [h2 v]; cases f v <;> simp
  have e2 : (List.range n).countP (fun v => g v && !f v) = 1 := by
    have z : ∀ v, (g v && !f v) = (v == k) := fun v => by
      rw [h2 v]
      by_cases hv : v = k
      · subst hv; rw [h1]; simp
      · have : (v == k) = false := beq_eq_false_iff_ne.mpr hv
        rw [this]; simp [hv]
    rw [List.countP_congr (q := fun v => v == k) fun v _ => by rw [z v]]
    have c := (List.nodup_range (n := n)).count (a := k)
    rw [if_pos (List.mem_range.mpr hk)] at c
    exact c
  omega
/-- the marked ones hung on their roots, one by one -/
def hang (n : Nat) (p : Nat → Nat) : List Nat → (Nat → Nat) → Nat → Nat
  | [], q => q
  | v :: l, q => hang n p l (fun u => if u = v then root p n v else q u)
theorem hang_snoc (n : Nat) (p : Nat → Nat) (v : Nat) : ∀ (l : List Nat) (q : Nat → Nat), hang n p (l ++ [v]) q = fun u => if u = v then root p n v else hang n p l q u
  | [], _ => rfl
  | a :: l, q => hang_snoc n p v l _
theorem hang_eq (n : Nat) (p : Nat → Nat) : ∀ (l : List Nat) (q : Nat → Nat) (u : Nat), hang n p l q u = if u ∈ l then root p n u else q u
  | [], q, u => by rw [if_neg (List.not_mem_nil)]; rfl
  | a :: l, q, u => by
    show hang n p l _ u = _
    rw [hang_eq n p l]
    by_cases h1 : u ∈ l
    · rw [if_pos h1, if_pos (List.mem_cons_of_mem _ h1)]
    · rw [if_neg h1]
      by_cases h2 : u = a
      · subst h2; rw [if_pos rfl, if_pos List.mem_cons_self]
      · rw [if_neg h2, if_neg (fun z => (List.mem_cons.mp z).elim h2 h1)]
theorem markS_mem {n : Nat} {p : Nat → Nat} {l : List Nat} {v : Nat} : v ∈ markS n p l ↔ v < n ∧ markB n p l v = true := by
  unfold markS
  rw [List.mem_filter, List.mem_range]
theorem markS_len (n : Nat) (p : Nat → Nat) (l : List Nat) : (markS n p l).length ≤ n := by
  unfold markS
  exact Nat.le_trans (List.length_filter_le _ _) (by rw [List.length_range]; exact Nat.le_refl _)
theorem mark_nonroot {n : Nat} {p r : Nat → Nat} (F : Fo n p r) {l : List Nat} (h : ∀ x ∈ l, x < n) {v : Nat} (hm : markB n p l v = true) : v < n ∧ p v ≠ v := by
  unfold markB at hm
  obtain ⟨x, hx, e⟩ := List.any_eq_true.mp hm
  have z := ups_lt F x (h x hx) v (upB_iff.mp e)
  exact ⟨z.1, z.2.1⟩
theorem deep_iff {n : Nat} {p r : Nat → Nat} (F : Fo n p r) {v : Nat} (hv : v < n) (h : p v ≠ v) : deep p v = decide (2 ≤ (ups p n v).length) := by
  unfold deep
  rw [ups_n F hv h]
  refine decide_eq_decide.mpr ?_
  rw [List.length_cons]
  constructor
  · intro z
    rw [ups_n F (F.lt v hv) z, List.length_cons]
    omega
  · intro z e
    rw [ups_of e] at z
    simp at z
structure Pair (K : PySem.W.Frag) (H : Hp) (a b : Addr) (n : Nat) (p q r r' : Nat → Nat) : Prop where
  sa : SqT K H a (tupOf n p)
  sb : SqT K H b (tupOf n q)
  le : n ≤ 60
  fa : Fo n p r
  fb : Fo n q r'
  ro : ∀ v, v < n → (p v = v ↔ q v = v)
theorem Pair.same {K : PySem.W.Frag} {H H' : Hp} {a b : Addr} {n : Nat} {p q r r' : Nat → Nat} (h : Pair K H a b n p q r r') (e : Same H H') : Pair K H' a b n p q r r' := ⟨same_sqt e h.sa, same_sqt e h.sb, h.le, h.fa, h.fb, h.ro⟩
def spNeeded (K : PySem.W.Frag) : Sp := fun vs H Q _ => ∃ (a b : Addr) (n : Nat) (p q r r' : Nat → Nat), vs = [.ref a, .ref b] ∧ Pair K H a b n p q r r' ∧ Way n p q ∧
  ∀ (l : Addr) H', H l = none → H' l = some (.lst (natsV (needS n p q))) → Same H H' → Q (.ref l) H'
def spBar (K : PySem.W.Frag) : Sp := fun vs H Q _ => ∃ (a b : Addr) (n : Nat) (p q r r' : Nat → Nat), vs = [.ref a, .ref b] ∧ Pair K H a b n p q r r' ∧
  (Way n p q → ∀ H', Same H H' → Q .non H') ∧ (¬ Way n p q → ∀ (t : Addr) (x y : Nat) H', H' t = some (.tup [vi x, vi y]) → Same H H' → Q (.ref t) H')
def spWayCost (K : PySem.W.Frag) : Sp := fun vs H Q _ => ∃ (a b : Addr) (n : Nat) (p q r r' : Nat → Nat), vs = [.ref a, .ref b] ∧ Pair K H a b n p q r r' ∧ Way n p q ∧
  ∀ H', Same H H' → Q (vi (costs n (needS n p q) p).sum) H'
theorem behind_roots {n : Nat} {p r : Nat → Nat} (F : Fo n p r) {l : List Nat} (h : ∀ x ∈ l, x < n) (v : Nat) (hv : v < n) : p v = v ↔ fndAll n l p v = v := by
  constructor
  · exact behind_root F h v hv
  · intro e
    rw [behind_eq F l h v hv] at e
    by_cases m : markB n p l v = true
    · rw [if_pos m] at e
      refine Classical.byContradiction fun z => root_ne F hv z e
    · rw [if_neg m] at e; exact e
theorem eqv_ints : ∀ l m : List Int, PyData.eqvAll (l.map PyData.int) (m.map PyData.int) = decide (l = m)
  | [], [] => by simp [PyData.eqvAll]
  | [], b :: m => by simp [PyData.eqvAll]
  | a :: l, [] => by simp [PyData.eqvAll]
  | a :: l, b :: m => by
    rw [List.map_cons, List.map_cons, PyData.eqvAll, eqv_ints l m]
    by_cases e : a = b
    · subst e
      by_cases f : l = m
      · subst f; simp [PyData.eqv]
      · simp [PyData.eqv, f]
    · simp [PyData.eqv, e]
theorem eqv_tups (l m : List Int) : PyData.eqv (.tuple (l.map PyData.int)) (.tuple (m.map PyData.int)) = decide (l = m) := by
  rw [← eqv_ints l m]
  simp [PyData.eqv]
theorem eqv_lsts (l m : List Int) : PyData.eqv (.list (l.map PyData.int)) (.list (m.map PyData.int)) = decide (l = m) := by
  rw [← eqv_ints l m]
  simp [PyData.eqv]
theorem shaped_lst (l : List Int) : SeqAt.shaped (.list (l.map PyData.int)) = true := by
  unfold SeqAt.shaped
  have := depth_ints l
  simp [PyData.canLay0, lay_ints, PyData.depth]
  omega
theorem intsOf_inj {n : Nat} {p q : Nat → Nat} (h : intsOf n p = intsOf n q) {v : Nat} (hv : v < n) : p v = q v := by
  have e := congrArg (fun l : List Int => l[v]?) h
  unfold intsOf at e
  simp only [List.getElem?_map, List.getElem?_range hv, Option.map_some] at e
  have := Option.some.inj e
  omega
theorem natsI (l : List Nat) : natsV l = (l.map fun n : Nat => (n : Int)).map V.int := natsV_ints l
theorem castI {l m : List Nat} (h : (l.map fun n : Nat => (n : Int)) = m.map fun n : Nat => (n : Int)) : l = m := by
  refine List.map_inj_right (f := fun n : Nat => (n : Int)) (fun a b e => by omega) |>.mp h
abbrev Kx (P : Program) (w : World) (K : PySem.W.Frag) (mg : Str → Option Value) (base : Heap) (k : Nat) (x : Str) (st : Stmt) (ps : List Str) (sp : Sp) : Prop := ∃ f fd, Kn P w K mg base k x st ps sp f fd
section
variable {X : Cx} {CX : CXT} {k : Nat} {f : Addr} {fd : FuncData} {ps ks : List Str} {sp : Sp} {g : List Value → List Value → List Value} {gV : List V → List V → List V} {E : XK} {x : Str} {p pos : Pos} {kws : List Keyword} {tk : TA}
theorem pe_kws (F : FnOk X.prog X.w X.K X.mg X.base CX k f fd ps sp) (hr : Room k X.A) (hg : Gl X x) (hm : X.mg x = some (.ref f)) (hk : PySem.W.keepIn X.K (.ref f) = true) (hb : KBinds X.K fd ps ks g gV) (hx : Passes CX X E) (hkw : PK X kws tk)
    (hall : (backToKw pos (keywordEach kws X.env)).all (·.1.isSome) = true := by rfl) (hks : (backToKw pos (keywordEach kws X.env)).filterMap (·.1) = ks := by rfl) (hdb : (x == ("__debug__" : Str)) = false := by decide)
    (hpl : ((backTo pos (starEach [] X.env)).any (·.1) || (backToKw pos (keywordEach kws X.env)).any (·.1.isNone)) = false := by rfl) : PE X (.Call (.Name x p) [] kws pos) (tCallK sp gV E tNil tk) := by
  refine ⟨fun pins s σ H Q I h => wpAny_Call_Name_kw (ld_glob I hg hm (PySem.W.callWith_KW0 (h₀ := X.base) I.ok.mod.kin hk hall ?_ hpl) hdb)⟩
  refine thn (hkw.run pos pins s σ H _ I h) fun ws s2 ⟨zs, H2, I2, rz, q2⟩ => ⟨I2.kIn, ?_⟩
  rw [hks]; exact run_fnk (us := []) (vs := []) F hr hb hx I2 .nil rz q2
end
/-- two parameters, given by keywords in the other order -/
def sw2 {α : Type} : List α → List α → List α
  | [], [b, a] => [a, b]
  | _, _ => []
theorem sw2_rel {vs : List V} {us : List Value} {zs : List V} {ws : List Value} (r : Vals vs us) (s : Vals zs ws) : Vals (sw2 vs zs) (sw2 us ws) := by
  cases r with
  | cons _ _ => exact .nil
  | nil =>
    cases s with
    | nil => exact .nil
    | cons h1 t1 =>
      cases t1 with
      | nil => exact .nil
      | cons h2 t2 =>
        cases t2 with
        | nil => exact .cons h2 (.cons h1 .nil)
        | cons _ _ => exact .nil
theorem Fun.sw {K : PySem.W.Frag} {x qual : Str} {st : Stmt} {f : Addr} {fd : FuncData} {a b : Str} (F : Fun K x qual st f fd)
    (h : ∀ (kV doc pm : Value) (an : Option Addr) (cdv ct : Value) (u v : Value), bindArgs (PySem.W.fnOf x qual (defArgs st) (defBody st) (defScope st) .none kV doc pm an cdv ct) ⟨[], [(b, u), (a, v)]⟩ = pure [(a, v), (b, u)]) : KBinds K fd [a, b] [b, a] sw2 sw2 := by
  obtain ⟨oc, od, kV, doc, pm, an, cdv, ct, osl, rfl, lk, hcd⟩ := F.ex
  refine ⟨fun s us ws _ hl => ?_, sw2_rel⟩
  match us, ws, hl with
  | [], [u, v], _ => exact .of_eq (h kV doc pm an cdv ct u v)
abbrev sTake : Stmt := topS 30
abbrev sStart : Stmt := topS 29
abbrev sOf : Stmt := topS 31
abbrev sSame : Stmt := topS 32
theorem scTake : FnScope ["_law_draw", "_law_many", "_law_cell", "_law_digit", "_law_square"] ["_law_draw", "_law_many"] (defScope sTake) := ⟨rfl, rfl, rfl, by decide +kernel, rfl, by decide +kernel, by decide +kernel⟩
theorem scStart : FnScope ["_law_script"] ["_law_script"] (defScope sStart) := ⟨rfl, rfl, rfl, by decide +kernel, rfl, by decide +kernel, by decide +kernel⟩
theorem scOf : FnScope ["_law_draw", "_law_some"] ["_law_draw", "_law_some"] (defScope sOf) := ⟨rfl, rfl, rfl, by decide +kernel, rfl, by decide +kernel, by decide +kernel⟩
theorem scSame : FnScope sameN ["_law_found", "_law_due"] (defScope sSame) := ⟨rfl, rfl, rfl, by decide +kernel, rfl, by decide +kernel, by decide +kernel⟩
section
variable {P : Program} {w : World} {K : PySem.W.Frag} {mg : Str → Option Value} {base : Heap}
theorem ok_take {f : Addr} {fd : FuncData} {k : Nat} (F : Fun K "_law_take" "_law_take" sTake f fd) (ml : mg "len" = none) : FnOk P w K mg base CX0 (k + 1) f fd ["_law_draw", "_law_many"] spTake := by
  refine F.ok scTake (fun vs H Q E h => ?_) (fun cdv A outer s H vs Q E hr h => ?_)
  · obtain ⟨d, l, m, rfl, _⟩ := h
    rfl
  · obtain ⟨d, l, m, rfl, hD, hm1, hm2, q⟩ := h
    have c61 : (0 : Int) < 2305843009213693951 := by decide
    refine ⟨_, C8.pss_cut (ps_if (PW.pt (pw_and (pt_cmpR op_lt (pe_ix ix_list (pv 0) pe_int (fun _ _ => rfl)) (pv 1) (nomark _))
        (pw_and1 (pt_cmpR op_lt (pe_ix ix_list (pv 0) pe_int (fun _ _ => rfl)) (pe_callB call_len_seq (by rfl) ml PySem.boot_len (pa_cons (pe_ix ix_list (pv 0) pe_int (fun _ _ => rfl)) pa_nil)) (nomark _)))))
        (pss_cons (ps_set (i := 2) scTake.nd rfl (.inl rfl) (pe_ix ix_list (pe_ix ix_list (pv 0) pe_int (fun _ _ => rfl)) (pe_ix ix_list (pv 0) pe_int (fun _ _ => rfl)) (fun _ _ => rfl)))
        (pss_cons (ps_asg (pe_op op_add (pe_ix ix_list (pv 0) pe_int (fun _ _ => rfl)) pe_int) (pg_sub (pv 0) pe_int set_list))
        (pss_cons (ps_asg pe_int (pg_sub (pv 0) pe_int set_list))
        (C8.pss_cut (ps_if (pt_cmpR op_ge (pv 2) (pe_op op_pow pe_int pe_int) (nomark _)) (pss_one (ps_asg (pv 2) (pg_sub (pv 0) pe_int set_list))) pss_nil)
        (pss_one (ps_asg (pe_op op_mod (pe_op op_add (pe_op op_add (pe_op op_mul (pe_ix ix_list (pv 0) pe_int (fun _ _ => rfl)) pe_int) (pe_op op_mul (pe_op op_mod (pv 2) pe_int) pe_int)) (pe_ix ix_list (pv 0) pe_int (fun _ _ => rfl))) pe_int) (pg_sub (pv 0) pe_int set_list))))))) pss_nil)
      (pss_cons (ps_if (pt_cmpR op_ge (pe_ix ix_list (pv 0) pe_int (fun _ _ => rfl)) (pv 1) (nomark _))
        (pss_cons (ps_set (i := 3) scTake.nd rfl (.inl rfl) (pe_op op_mod (pe_ix ix_list (pv 0) pe_int (fun _ _ => rfl)) (pv 1)))
        (pss_cons (ps_asg (pe_op op_fdivW (pe_ix ix_list (pv 0) pe_int (fun _ _ => rfl)) (pv 1)) (pg_sub (pv 0) pe_int set_list))
        (pss_one (ps_ret (pv 3))))) pss_nil)
      (pss_cons (ps_set (i := 4) scTake.nd rfl (.inl rfl) (pe_op op_mod (pe_op op_mul (pe_ix ix_list (pv 0) pe_int (fun _ _ => rfl)) (pe_ix ix_list (pv 0) pe_int (fun _ _ => rfl))) pe_int))
      (pss_cons (ps_asg (pe_op op_mod (pe_op op_add (pe_op op_add (pe_op op_mul (pv 4) pe_int) (pe_op op_mul (pe_ix ix_list (pv 0) pe_int (fun _ _ => rfl)) pe_int)) pe_int) pe_int) (pg_sub (pv 0) pe_int set_list))
      (pss_one (ps_ret (pe_op op_mod (pe_op op_fdiv (pe_ix ix_list (pv 0) pe_int (fun _ _ => rfl)) pe_int) (pv 1))))))), ?_⟩
    refine ⟨fun σ H' => (∃ c, σ = [some (.ref d), some (.int m), c, none, none]) ∧ DrawAt H' d l ∧ Sb d H H', ?_, ?_⟩
    · obtain ⟨ns, i, j, c, h1, h2, h3, h4, h5⟩ := hD
      have ne := draw_ne h1 h2
      have x1 : atI [V.ref l, V.int i, V.int j, V.int c] 0 = some (.ref l) := rfl
      have x2 : atI [V.ref l, V.int i, V.int j, V.int c] 1 = some (.int i) := rfl
      have x3 : atI [V.ref l, V.int i, V.int j, V.int c] 2 = some (.int j) := rfl
      have x4 : atI [V.ref l, V.int i, V.int j, V.int c] 3 = some (.int c) := rfl
      refine ⟨_, rfl, d, _, _, _, rfl, rfl, SqL.of h1, x3, _, rfl, _, _, rfl, rfl, _, rfl, ite2 (fun e1 => ?_) (fun e1 => ?_)⟩
      · refine ⟨_, rfl, d, _, _, _, rfl, rfl, SqL.of h1, x2, _, rfl, d, _, _, _, rfl, rfl, SqL.of h1, x1, l, _, rfl, .inl (SqL.of h2), _, _, rfl, rfl, _, rfl, ite2 (fun e2 => ?_) (fun e2 => ?_)⟩
        · have hi : i < ((ns.map V.int).length : Int) := of_decide_eq_true e2
          rw [List.length_map] at hi
          obtain ⟨u, rfl⟩ : ∃ u : Nat, i = u := ⟨i.toNat, by omega⟩
          have hu : u < ns.length := by omega
          have gu : (ns.map V.int)[u]? = some (.int ns[u]) := by rw [List.getElem?_map, List.getElem?_eq_getElem hu]; rfl
          refine ⟨_, rfl, d, _, _, _, rfl, rfl, SqL.of h1, x1, _, rfl, d, _, _, _, rfl, rfl, SqL.of h1, x2, l, _, _, _, rfl, rfl, SqL.of h2, atI_nat gu, ?_⟩
          refine ⟨_, rfl, d, _, _, _, rfl, rfl, SqL.of h1, x2, _, _, rfl, rfl, _, rfl, d, _, _, 1, rfl, rfl, h1, rfl, ?_⟩
          refine ⟨_, rfl, d, _, _, 2, rfl, rfl, upd_same, rfl, ?_⟩
          refine ⟨fun σ H' => σ = [some (.ref d), some (.int m), some (.int ns[u]), none, none] ∧ (∃ jj : Int, H' d = some (.lst [.ref l, .int ((u : Int) + 1), .int jj, .int c])) ∧ H' l = some (.lst (ns.map V.int)) ∧ Sb d H H', ?_, ?_⟩
          · refine ⟨_, rfl, _, _, rfl, rfl, ⟨by decide, by decide, by decide⟩, _, _, rfl, rfl, _, rfl, ite2 (fun e3 => ?_) (fun e3 => ?_)⟩
            · refine ⟨_, rfl, _, rfl, d, _, _, 2, rfl, rfl, upd_same, rfl, rfl, ⟨ns[u], upd_same⟩, ?_, ?_⟩
              · rw [upd_ne ne, upd_ne ne, upd_ne ne]; exact h2
              · exact (Sb.put.trans Sb.put).trans Sb.put
            · refine ⟨rfl, ⟨0, upd_same⟩, ?_, ?_⟩
              · rw [upd_ne ne, upd_ne ne]; exact h2
              · exact Sb.put.trans Sb.put
          · rintro σ H2 ⟨rfl, ⟨jj, g1⟩, g2, g3⟩
            have y2 : atI [V.ref l, V.int ((u : Int) + 1), V.int jj, V.int c] 1 = some (.int ((u : Int) + 1)) := rfl
            have y4 : atI [V.ref l, V.int ((u : Int) + 1), V.int jj, V.int c] 3 = some (.int c) := rfl
            refine ⟨_, rfl, d, _, _, _, rfl, rfl, SqL.of g1, y4, _, _, rfl, rfl, .inl ⟨by omega, by omega⟩, _, rfl, _, _, rfl, rfl, c61, _, _, rfl, rfl, .inr ⟨by decide, by decide⟩, _, _, rfl, rfl, _, rfl, d, _, _, _, rfl, rfl, SqL.of g1, y2, _, _, rfl, rfl, _, _, rfl, rfl, c61, _, rfl, d, _, _, 3, rfl, rfl, g1, rfl, ⟨_, rfl⟩, ?_, g3.trans Sb.put⟩
            exact ⟨ns, _, jj, _, upd_same, by rw [upd_ne ne]; exact g2, by omega, Int.emod_nonneg _ (by omega), Int.emod_lt_of_pos _ c61⟩
        · exact ⟨⟨_, rfl⟩, ⟨ns, i, j, c, h1, h2, h3, h4, h5⟩, Sb.refl⟩
      · exact ⟨⟨_, rfl⟩, ⟨ns, i, j, c, h1, h2, h3, h4, h5⟩, Sb.refl⟩
    · rintro σ H1 ⟨⟨c0, rfl⟩, ⟨ns, i, j, c, h1, h2, h3, h4, h5⟩, sb⟩
      have ne := draw_ne h1 h2
      have x3 : atI [V.ref l, V.int i, V.int j, V.int c] 2 = some (.int j) := rfl
      have x4 : atI [V.ref l, V.int i, V.int j, V.int c] 3 = some (.int c) := rfl
      refine ⟨_, rfl, d, _, _, _, rfl, rfl, SqL.of h1, x3, _, rfl, _, _, rfl, rfl, _, rfl, ite2 (fun e1 => ?_) (fun e1 => ?_)⟩
      · have hj : m ≤ j := of_decide_eq_true e1
        refine ⟨_, rfl, d, _, _, _, rfl, rfl, SqL.of h1, x3, _, rfl, _, _, rfl, rfl, (by show (0:Int) < m; omega), ?_⟩
        refine ⟨_, rfl, d, _, _, _, rfl, rfl, SqL.of h1, x3, _, rfl, _, _, rfl, rfl, wide_div (b := 1000) (by omega) hm2 (by decide) (by decide), _, rfl, d, _, _, 2, rfl, rfl, h1, rfl, ?_⟩
        have hb : 0 ≤ j % m := Int.emod_nonneg _ (by omega)
        have hb2 : j % m < m := Int.emod_lt_of_pos _ (by omega)
        obtain ⟨r, er⟩ : ∃ r : Nat, j % m = r := ⟨(j % m).toNat, by omega⟩
        refine ⟨_, rfl, ?_⟩
        show Q (.int (j % m)) _
        rw [er]
        refine q r _ (by omega) ⟨ns, i, j / m, c, upd_same, by rw [upd_ne ne]; exact h2, h3, h4, h5⟩ (sb.trans Sb.put)
      · refine ⟨_, rfl, d, _, _, _, rfl, rfl, SqL.of h1, x4, _, rfl, d, _, _, _, rfl, rfl, SqL.of h1, x4, _, _, rfl, rfl, .inl ⟨by omega, by omega⟩, _, _, rfl, rfl, c61, ?_⟩
        have s0 : 0 ≤ c * c % 2305843009213693951 := Int.emod_nonneg _ (by omega)
        have s1 : c * c % 2305843009213693951 < 2305843009213693951 := Int.emod_lt_of_pos _ c61
        generalize hsq : c * c % 2305843009213693951 = sq at s0 s1
        refine ⟨.int (c * c % 2305843009213693951), rfl, _, _, rfl, rfl, .inl ⟨by rw [hsq]; omega, by rw [hsq]; omega⟩, _, rfl, d, _, _, _, rfl, rfl, SqL.of h1, x4, _, _, rfl, rfl, .inl ⟨by omega, by omega⟩, _, _, rfl, rfl, _, _, rfl, rfl, _, _, rfl, rfl, c61, _, rfl, d, _, _, 3, rfl, rfl, h1, rfl, ?_⟩
        have t0 : 0 ≤ (c * c % 2305843009213693951 * 48271 + c * 16807 + 12345) % 2305843009213693951 := Int.emod_nonneg _ (by omega)
        have t1 : (c * c % 2305843009213693951 * 48271 + c * 16807 + 12345) % 2305843009213693951 < 2305843009213693951 := Int.emod_lt_of_pos _ c61
        refine ⟨_, rfl, d, _, _, _, rfl, rfl, SqL.of upd_same, rfl, _, _, rfl, rfl, ⟨by decide, by decide⟩, _, rfl, _, _, rfl, rfl, (by show (0:Int) < m; omega), ?_⟩
        generalize hz : (c * c % 2305843009213693951 * 48271 + c * 16807 + 12345) % 2305843009213693951 = z at t0 t1
        have b0 : 0 ≤ (z / 1021) % m := Int.emod_nonneg _ (by omega)
        have b1 : (z / 1021) % m < m := Int.emod_lt_of_pos _ (by omega)
        obtain ⟨r, er⟩ : ∃ r : Nat, (z / 1021) % m = r := ⟨((z / 1021) % m).toNat, by omega⟩
        show Q (.int (z / 1021 % m)) _
        rw [er]
        refine q r _ (by omega) ⟨ns, i, j, z, ?_, by rw [upd_ne ne]; exact h2, h3, t0, t1⟩ (sb.trans Sb.put)
        rw [upd_same, ← hz]
        rfl
end
section
variable {P : Program} {w : World} {K : PySem.W.Frag} {mg : Str → Option Value} {base : Heap}
theorem ok_start {f : Addr} {fd : FuncData} {k : Nat} (F : Fun K "_law_start" "_law_start" sStart f fd) (T : Tx mg) : FnOk P w K mg base CX0 (k + 1) f fd ["_law_script"] (spStart K) := by
  refine F.ok scStart (fun vs H Q E h => ?_) (fun cdv A outer s H vs Q E hr h => ?_)
  · obtain ⟨a, ns, rfl, _⟩ := h
    rfl
  · obtain ⟨a, ns, rfl, hS, hlen, q⟩ := h
    refine ⟨_, pss_one (ps_ret (pe_lst (pa_cons (pe_callTy call_list_of (by rfl) T.list (by decide +kernel) (pa_cons (pe_slice sl_list (pv 0) po_none (po_some pe_int)) pa_nil))
      (pa_cons pe_int (pa_cons pe_int (pa_cons (pe_op op_add pe_int (pe_op op_mul pe_int (pe_callB call_len_seq (by rfl) T.len PySem.boot_len (pa_cons (pe_slice sl_list (pv 0) po_none (po_some pe_int)) pa_nil)))) pa_nil)))))), ?_⟩
    have cut : ∃ ms : List Int, cutV (ns.map V.int) none (some 63) = ms.map V.int ∧ ms.length ≤ ns.length := by
      refine ⟨(ns.drop (HT.sIx (ns.map V.int).length 0 none)).take (HT.sIx (ns.map V.int).length (ns.map V.int).length (some 63) - HT.sIx (ns.map V.int).length 0 none), ?_, ?_⟩
      · unfold cutV
        rw [List.map_take, List.map_drop]
      · rw [List.length_take, List.length_drop]
        omega
    obtain ⟨ms, em, hml⟩ := cut
    refine ⟨_, rfl, 63, rfl, a, _, rfl, hS, fun c nc => ?_⟩
    rw [em]
    have s1 : Same H (upd H c (.lst (ms.map V.int))) := same_new nc
    refine ⟨c, _, rfl, .inl (SqL.of upd_same), fun l nl => ?_⟩
    have s2 : Same (upd H c (.lst (ms.map V.int))) (upd (upd H c (.lst (ms.map V.int))) l (.lst (ms.map V.int))) := same_new nl
    refine ⟨_, rfl, 63, rfl, a, _, rfl, s2.seq (s1.seq hS), fun c2 nc2 => ?_⟩
    rw [em]
    have s3 := same_new (o := .lst (ms.map V.int)) nc2
    refine ⟨c2, _, rfl, .inl (SqL.of upd_same), _, _, rfl, rfl, .inl ⟨by decide, by decide⟩, _, _, rfl, rfl, ?_⟩
    refine ⟨by show 4 ≤ sizeLine; decide, fun d nd => ?_⟩
    have s4 := same_new (o := .lst [V.ref l, V.int 0, V.int 0, V.int (9494 + 37 * ((ms.map V.int).length : Int))]) nd
    refine q d l _ (((s1.trans s2).trans s3).free nd) ⟨ms, 0, 0, 9494 + 37 * ((ms.map V.int).length : Int), upd_same, ?_, by omega, by omega, by rw [List.length_map]; omega⟩ (((s1.trans s2).trans s3).trans s4)
    exact s4 _ _ (s3 _ _ upd_same)
end
section
variable {P : Program} {w : World} {K : PySem.W.Frag} {mg : Str → Option Value} {base : Heap}
theorem ok_of {f fT : Addr} {fd fdT : FuncData} (F : Fun K "_law_of" "_law_of" sOf f fd) (GT : FnOk P w K mg base CX0 1 fT fdT ["_law_draw", "_law_many"] spTake) (FT : Fun K "_law_take" "_law_take" sTake fT fdT) (bT : Binds K fdT ["_law_draw", "_law_many"] []) (gT : mg "_law_take" = some (.ref fT)) (T : Tx mg) :
    FnOk P w K mg base CX0 2 f fd ["_law_draw", "_law_some"] (spOf K) := by
  refine F.ok scOf (fun vs H Q E h => ?_) (fun cdv A outer s H vs Q E hr h => ?_)
  · obtain ⟨d, l, a, xs, rfl, _⟩ := h
    rfl
  · obtain ⟨d, l, a, xs, rfl, hD, ne, hS, h1, h2, q⟩ := h
    refine ⟨_, pss_one (ps_ret (pe_ix ix_list (pv 1) (pe_call GT hr (by rfl) gT FT.kp bT .nil pass0 (pa_cons (pv 0) (pa_cons (pe_callB call_len_seq (by rfl) T.len PySem.boot_len (pa_cons (pv 1) pa_nil)) pa_nil))) (fun _ _ => rfl))), ?_⟩
    refine ⟨_, rfl, _, rfl, _, rfl, a, xs, rfl, .inl hS, d, l, xs.length, rfl, hD, by omega, Nat.lt_of_le_of_lt (show _ ≤ 1000 by omega) (by decide +kernel), fun r H' hr' hD' sb => ?_⟩
    have hr2 : r < xs.length := by omega
    exact ⟨a, xs, _, xs[r], rfl, rfl, sb.sql ne hS, atI_nat (List.getElem?_eq_getElem hr2), q r _ H' (List.getElem?_eq_getElem hr2) hD' sb⟩
end
section
variable {P : Program} {w : World} {K : PySem.W.Frag} {mg : Str → Option Value} {base : Heap}
theorem ok_same {f : Addr} {fd : FuncData} (F : Fun K "_law_same" "_law_same" sSame f fd) (T : TxS mg) (b : Binds K fd ["_law_found", "_law_due"] []) (g : mg "_law_same" = some (.ref f)) :
    ∀ n, FnOk P w K mg base CX0 (n + 1) f fd ["_law_found", "_law_due"] (spSame K n) := by
  intro n
  induction n with
  | zero =>
    refine F.ok scSame (fun vs H Q E h => ?_) (fun cdv A outer s H vs Q E hr h => ?_)
    · obtain ⟨v, u, d, rfl, _⟩ := h
      rfl
    · obtain ⟨v, u, d, rfl, hv, hu, hd, q⟩ := h
      refine ⟨_, pss_cons (ps_if (pt_cmpR op_isN (pv 1) pe_non (nomark _)) (pss_one (ps_ret (pe_cmpR op_isN (pv 0) pe_non (nomark _)))) pss_nil)
        (pss_cons (ps_if (pt_val (pe_callB call_isiT (by rfl) T.isinstance (by decide +kernel) (pa_cons (pv 1) (pa_cons (pe_tup (pa_cons (pe_ty (n := "list") (by rfl) T.list (by decide +kernel)) (pa_cons (pe_ty (n := "tuple") (by rfl) T.tuple (by decide +kernel)) pa_nil))) pa_nil))))
          pss_never pss_nil)
        (pss_cons (ps_if (PW.pt (pw_or
              (pt_cmpR op_ne (pe_callB call_isi (by rfl) T.isinstance (by decide +kernel) (pa_cons (pv 1) (pa_cons (pe_ty (n := "bool") (by rfl) T.bool (by decide +kernel)) pa_nil))) (pe_callB call_isi (by rfl) T.isinstance (by decide +kernel) (pa_cons (pv 0) (pa_cons (pe_ty (n := "bool") (by rfl) T.bool (by decide +kernel)) pa_nil))) (nomark _))
              (pw_or1 (pt_cmpR op_ne (pe_callB call_isi (by rfl) T.isinstance (by decide +kernel) (pa_cons (pv 1) (pa_cons (pe_ty (n := "int") (by rfl) T.int (by decide +kernel)) pa_nil))) (pe_callB call_isi (by rfl) T.isinstance (by decide +kernel) (pa_cons (pv 0) (pa_cons (pe_ty (n := "int") (by rfl) T.int (by decide +kernel)) pa_nil))) (nomark _))))) (pss_one (ps_ret pe_bl)) pss_nil)
        (pss_one (ps_ret (pe_and (pe_cmpR op_eq (pe_callB call_isi (by rfl) T.isinstance (by decide +kernel) (pa_cons (pv 1) (pa_cons (pe_ty (n := "str") (by rfl) T.str (by decide +kernel)) pa_nil))) (pe_callB call_isi (by rfl) T.isinstance (by decide +kernel) (pa_cons (pv 0) (pa_cons (pe_ty (n := "str") (by rfl) T.str (by decide +kernel)) pa_nil))) (nomark _))
          (pe_one (pe_cmpR op_eq (pv 0) (pv 1) (nomark _)))))))), ?_⟩
      cases hd with
      | non =>
        cases hv; cases hu
        exact ⟨_, rfl, rfl, _, rfl, _, rfl, rfl, q H (Same.refl H)⟩
      | bl _ x =>
        cases hv; cases hu
        refine ⟨_, rfl, rfl, _, rfl, _, rfl, by show 2 ≤ sizeLine; decide, fun tp ntp => ?_⟩
        refine ⟨_, tp, _, _, _, _, rfl, upd_same, .cons (.ty _) (.cons (.ty _) .nil), .base (.bl x), kit2 (r := false) (s := false) (by decide +kernel) (by decide +kernel), _, rfl, ?_⟩
        refine ⟨_, rfl, _, _, _, _, _, rfl, .ty _, .base (.bl x), kit_ty (r := true) (by decide +kernel), _, rfl, _, _, _, _, _, rfl, .ty _, .base (.bl x), kit_ty (r := true) (by decide +kernel), rfl, _, rfl, ?_⟩
        refine ⟨_, rfl, _, _, _, _, _, rfl, .ty _, .base (.bl x), kit_ty (r := true) (by decide +kernel), _, rfl, _, _, _, _, _, rfl, .ty _, .base (.bl x), kit_ty (r := true) (by decide +kernel), rfl, _, rfl, ?_⟩
        refine ⟨_, rfl, _, _, _, _, _, rfl, .ty _, .base (.bl x), kit_ty (r := false) (by decide +kernel), _, rfl, _, _, _, _, _, rfl, .ty _, .base (.bl x), kit_ty (r := false) (by decide +kernel), rfl, _, rfl, ?_⟩
        refine ⟨_, rfl, _, rfl, rfl, ?_⟩
        show Q (.bl (decide (V.bl x = V.bl x))) _
        rw [decide_eq_true rfl]
        exact q _ (same_new ntp)
      | int _ x =>
        cases hv; cases hu
        refine ⟨_, rfl, rfl, _, rfl, _, rfl, by show 2 ≤ sizeLine; decide, fun tp ntp => ?_⟩
        refine ⟨_, tp, _, _, _, _, rfl, upd_same, .cons (.ty _) (.cons (.ty _) .nil), .base (.int x), kit2 (r := false) (s := false) (by decide +kernel) (by decide +kernel), _, rfl, ?_⟩
        refine ⟨_, rfl, _, _, _, _, _, rfl, .ty _, .base (.int x), kit_ty (r := false) (by decide +kernel), _, rfl, _, _, _, _, _, rfl, .ty _, .base (.int x), kit_ty (r := false) (by decide +kernel), rfl, _, rfl, ?_⟩
        refine ⟨_, rfl, _, _, _, _, _, rfl, .ty _, .base (.int x), kit_ty (r := true) (by decide +kernel), _, rfl, _, _, _, _, _, rfl, .ty _, .base (.int x), kit_ty (r := true) (by decide +kernel), rfl, _, rfl, ?_⟩
        refine ⟨_, rfl, _, _, _, _, _, rfl, .ty _, .base (.int x), kit_ty (r := false) (by decide +kernel), _, rfl, _, _, _, _, _, rfl, .ty _, .base (.int x), kit_ty (r := false) (by decide +kernel), rfl, _, rfl, ?_⟩
        refine ⟨_, rfl, _, rfl, rfl, ?_⟩
        show Q (.bl (decide (V.int x = V.int x))) _
        rw [decide_eq_true rfl]
        exact q _ (same_new ntp)
      | str _ x =>
        cases hv; cases hu
        refine ⟨_, rfl, rfl, _, rfl, _, rfl, by show 2 ≤ sizeLine; decide, fun tp ntp => ?_⟩
        refine ⟨_, tp, _, _, _, _, rfl, upd_same, .cons (.ty _) (.cons (.ty _) .nil), .base (.str x), kit2 (r := false) (s := false) (by decide +kernel) (by decide +kernel), _, rfl, ?_⟩
        refine ⟨_, rfl, _, _, _, _, _, rfl, .ty _, .base (.str x), kit_ty (r := false) (by decide +kernel), _, rfl, _, _, _, _, _, rfl, .ty _, .base (.str x), kit_ty (r := false) (by decide +kernel), rfl, _, rfl, ?_⟩
        refine ⟨_, rfl, _, _, _, _, _, rfl, .ty _, .base (.str x), kit_ty (r := false) (by decide +kernel), _, rfl, _, _, _, _, _, rfl, .ty _, .base (.str x), kit_ty (r := false) (by decide +kernel), rfl, _, rfl, ?_⟩
        refine ⟨_, rfl, _, _, _, _, _, rfl, .ty _, .base (.str x), kit_ty (r := true) (by decide +kernel), _, rfl, _, _, _, _, _, rfl, .ty _, .base (.str x), kit_ty (r := true) (by decide +kernel), rfl, _, rfl, ?_⟩
        refine ⟨_, rfl, _, rfl, rfl, ?_⟩
        show Q (.bl (decide (V.str x = V.str x))) _
        rw [decide_eq_true rfl]
        exact q _ (same_new ntp)
  | succ n ih =>
    refine F.ok scSame (fun vs H Q E h => ?_) (fun cdv A outer s H vs Q E hr h => ?_)
    · obtain ⟨v, u, d, rfl, _⟩ := h
      rfl
    · obtain ⟨v, u, d, rfl, hv, hu, hd, q⟩ := h
      refine ⟨_, pss_cons (ps_if (pt_cmpR op_isN (pv 1) pe_non (nomark _)) (pss_one (ps_ret (pe_cmpR op_isN (pv 0) pe_non (nomark _)))) pss_nil)
        (pss_cons (ps_if (pt_val (pe_callB call_isiT (by rfl) T.isinstance (by decide +kernel) (pa_cons (pv 1) (pa_cons (pe_tup (pa_cons (pe_ty (n := "list") (by rfl) T.list (by decide +kernel)) (pa_cons (pe_ty (n := "tuple") (by rfl) T.tuple (by decide +kernel)) pa_nil))) pa_nil))))
          (pss_cons (ps_if (PW.pt (pw_or
              (pt_cmpR op_ne (pe_callB call_isi (by rfl) T.isinstance (by decide +kernel) (pa_cons (pv 0) (pa_cons (pe_ty (n := "list") (by rfl) T.list (by decide +kernel)) pa_nil))) (pe_callB call_isi (by rfl) T.isinstance (by decide +kernel) (pa_cons (pv 1) (pa_cons (pe_ty (n := "list") (by rfl) T.list (by decide +kernel)) pa_nil))) (nomark _))
              (pw_or1 (pt_cmpR op_ne (pe_callB call_isi (by rfl) T.isinstance (by decide +kernel) (pa_cons (pv 0) (pa_cons (pe_ty (n := "tuple") (by rfl) T.tuple (by decide +kernel)) pa_nil))) (pe_callB call_isi (by rfl) T.isinstance (by decide +kernel) (pa_cons (pv 1) (pa_cons (pe_ty (n := "tuple") (by rfl) T.tuple (by decide +kernel)) pa_nil))) (nomark _))))) (pss_one (ps_ret pe_bl)) pss_nil)
          (pss_one (ps_ret (pe_and (pe_cmpR op_eq (pe_callB call_len_seq (by rfl) T.len PySem.boot_len (pa_cons (pv 0) pa_nil)) (pe_callB call_len_seq (by rfl) T.len PySem.boot_len (pa_cons (pv 1) pa_nil)) (nomark _))
            (pe_one (pe_callB (cr_all rfl) (by rfl) T.all (by decide +kernel) (pa_cons (pe_lc (own := [("_law_one", 2), ("_law_other", 3)]) (g := gTup K 2 (gCons (gName 2) (gCons (gName 3) gNil))) (by rfl) scSame.nd (RZ.pi_zipA (by rfl) T.zip (pa_cons (pv 0) (pa_cons (pv 1) pa_nil)))
              (blkOk_by (own := [("_law_one", 2), ("_law_other", 3)]) (N := sameN) (sc := defScope sSame) (by decide +kernel)) (fun _ _ _ _ _ => pg_tup rfl (pgs_cons (pg_name (i := 2) scSame.nd rfl (.inl rfl)) (pgs_cons (pg_name (i := 3) scSame.nd rfl (.inl rfl)) pgs_nil))) (fun _ _ _ _ _ => pts_nil)
              (fun _ _ _ _ _ => pe_call ih hr (by rfl) g F.kp b .nil pass0 (pa_cons (pv 2) (pa_cons (pv 3) pa_nil)))) pa_nil))))))) pss_nil)
        (pss_cons (ps_if (PW.pt (pw_or
              (pt_cmpR op_ne (pe_callB call_isi (by rfl) T.isinstance (by decide +kernel) (pa_cons (pv 1) (pa_cons (pe_ty (n := "bool") (by rfl) T.bool (by decide +kernel)) pa_nil))) (pe_callB call_isi (by rfl) T.isinstance (by decide +kernel) (pa_cons (pv 0) (pa_cons (pe_ty (n := "bool") (by rfl) T.bool (by decide +kernel)) pa_nil))) (nomark _))
              (pw_or1 (pt_cmpR op_ne (pe_callB call_isi (by rfl) T.isinstance (by decide +kernel) (pa_cons (pv 1) (pa_cons (pe_ty (n := "int") (by rfl) T.int (by decide +kernel)) pa_nil))) (pe_callB call_isi (by rfl) T.isinstance (by decide +kernel) (pa_cons (pv 0) (pa_cons (pe_ty (n := "int") (by rfl) T.int (by decide +kernel)) pa_nil))) (nomark _))))) (pss_one (ps_ret pe_bl)) pss_nil)
        (pss_one (ps_ret (pe_and (pe_cmpR op_eq (pe_callB call_isi (by rfl) T.isinstance (by decide +kernel) (pa_cons (pv 1) (pa_cons (pe_ty (n := "str") (by rfl) T.str (by decide +kernel)) pa_nil))) (pe_callB call_isi (by rfl) T.isinstance (by decide +kernel) (pa_cons (pv 0) (pa_cons (pe_ty (n := "str") (by rfl) T.str (by decide +kernel)) pa_nil))) (nomark _))
          (pe_one (pe_cmpR op_eq (pv 0) (pv 1) (nomark _)))))))), ?_⟩
      cases hd with
      | non =>
        cases hv; cases hu
        exact ⟨_, rfl, rfl, _, rfl, _, rfl, rfl, q H (Same.refl H)⟩
      | bl _ x =>
        cases hv; cases hu
        refine ⟨_, rfl, rfl, _, rfl, _, rfl, by show 2 ≤ sizeLine; decide, fun tp ntp => ?_⟩
        refine ⟨_, tp, _, _, _, _, rfl, upd_same, .cons (.ty _) (.cons (.ty _) .nil), .base (.bl x), kit2 (r := false) (s := false) (by decide +kernel) (by decide +kernel), _, rfl, ?_⟩
        refine ⟨_, rfl, _, _, _, _, _, rfl, .ty _, .base (.bl x), kit_ty (r := true) (by decide +kernel), _, rfl, _, _, _, _, _, rfl, .ty _, .base (.bl x), kit_ty (r := true) (by decide +kernel), rfl, _, rfl, ?_⟩
        refine ⟨_, rfl, _, _, _, _, _, rfl, .ty _, .base (.bl x), kit_ty (r := true) (by decide +kernel), _, rfl, _, _, _, _, _, rfl, .ty _, .base (.bl x), kit_ty (r := true) (by decide +kernel), rfl, _, rfl, ?_⟩
        refine ⟨_, rfl, _, _, _, _, _, rfl, .ty _, .base (.bl x), kit_ty (r := false) (by decide +kernel), _, rfl, _, _, _, _, _, rfl, .ty _, .base (.bl x), kit_ty (r := false) (by decide +kernel), rfl, _, rfl, ?_⟩
        refine ⟨_, rfl, _, rfl, rfl, ?_⟩
        show Q (.bl (decide (V.bl x = V.bl x))) _
        rw [decide_eq_true rfl]
        exact q _ (same_new ntp)
      | int _ x =>
        cases hv; cases hu
        refine ⟨_, rfl, rfl, _, rfl, _, rfl, by show 2 ≤ sizeLine; decide, fun tp ntp => ?_⟩
        refine ⟨_, tp, _, _, _, _, rfl, upd_same, .cons (.ty _) (.cons (.ty _) .nil), .base (.int x), kit2 (r := false) (s := false) (by decide +kernel) (by decide +kernel), _, rfl, ?_⟩
        refine ⟨_, rfl, _, _, _, _, _, rfl, .ty _, .base (.int x), kit_ty (r := false) (by decide +kernel), _, rfl, _, _, _, _, _, rfl, .ty _, .base (.int x), kit_ty (r := false) (by decide +kernel), rfl, _, rfl, ?_⟩
        refine ⟨_, rfl, _, _, _, _, _, rfl, .ty _, .base (.int x), kit_ty (r := true) (by decide +kernel), _, rfl, _, _, _, _, _, rfl, .ty _, .base (.int x), kit_ty (r := true) (by decide +kernel), rfl, _, rfl, ?_⟩
        refine ⟨_, rfl, _, _, _, _, _, rfl, .ty _, .base (.int x), kit_ty (r := false) (by decide +kernel), _, rfl, _, _, _, _, _, rfl, .ty _, .base (.int x), kit_ty (r := false) (by decide +kernel), rfl, _, rfl, ?_⟩
        refine ⟨_, rfl, _, rfl, rfl, ?_⟩
        show Q (.bl (decide (V.int x = V.int x))) _
        rw [decide_eq_true rfl]
        exact q _ (same_new ntp)
      | str _ x =>
        cases hv; cases hu
        refine ⟨_, rfl, rfl, _, rfl, _, rfl, by show 2 ≤ sizeLine; decide, fun tp ntp => ?_⟩
        refine ⟨_, tp, _, _, _, _, rfl, upd_same, .cons (.ty _) (.cons (.ty _) .nil), .base (.str x), kit2 (r := false) (s := false) (by decide +kernel) (by decide +kernel), _, rfl, ?_⟩
        refine ⟨_, rfl, _, _, _, _, _, rfl, .ty _, .base (.str x), kit_ty (r := false) (by decide +kernel), _, rfl, _, _, _, _, _, rfl, .ty _, .base (.str x), kit_ty (r := false) (by decide +kernel), rfl, _, rfl, ?_⟩
        refine ⟨_, rfl, _, _, _, _, _, rfl, .ty _, .base (.str x), kit_ty (r := false) (by decide +kernel), _, rfl, _, _, _, _, _, rfl, .ty _, .base (.str x), kit_ty (r := false) (by decide +kernel), rfl, _, rfl, ?_⟩
        refine ⟨_, rfl, _, _, _, _, _, rfl, .ty _, .base (.str x), kit_ty (r := true) (by decide +kernel), _, rfl, _, _, _, _, _, rfl, .ty _, .base (.str x), kit_ty (r := true) (by decide +kernel), rfl, _, rfl, ?_⟩
        refine ⟨_, rfl, _, rfl, rfl, ?_⟩
        show Q (.bl (decide (V.str x = V.str x))) _
        rw [decide_eq_true rfl]
        exact q _ (same_new ntp)
      | lst hl hk =>
        cases hv with
        | @lst a xs _ sa ra =>
        cases hu with
        | @lst b ys _ sb rb =>
        refine ⟨_, rfl, rfl, _, rfl, _, rfl, by show 2 ≤ sizeLine; decide, fun tp ntp => ?_⟩
        have s1 := same_new (o := .tup [V.ty "list", V.ty "tuple"]) ntp
        have sa1 := Same.seq (s1) sa
        have sb1 := Same.seq (s1) sb
        refine ⟨_, tp, _, _, _, _, rfl, upd_same, .cons (.ty _) (.cons (.ty _) .nil), tyL sb1, kit2 (r := true) (s := false) (by decide +kernel) (by decide +kernel), _, rfl, ?_⟩
        refine ⟨_, rfl, _, _, _, _, _, rfl, .ty _, tyL sa1, kit_ty (r := true) (by decide +kernel), _, rfl, _, _, _, _, _, rfl, .ty _, tyL sb1, kit_ty (r := true) (by decide +kernel), rfl, _, rfl, ?_⟩
        refine ⟨_, rfl, _, _, _, _, _, rfl, .ty _, tyL sa1, kit_ty (r := false) (by decide +kernel), _, rfl, _, _, _, _, _, rfl, .ty _, tyL sb1, kit_ty (r := false) (by decide +kernel), rfl, _, rfl, ?_⟩
        have la := dpl_len ra
        have lb := dpl_len rb
        refine ⟨_, rfl, a, _, rfl, .inl sa1, _, rfl, b, _, rfl, .inl sb1, rfl, _, rfl, ?_⟩
        have el : decide (V.int (xs.length : Int) = V.int (ys.length : Int)) = true := decide_eq_true (by rw [la, lb])
        rw [el]
        refine ⟨_, rfl, _, rfl, a, b, xs, ys, rfl, .inl ⟨sa1, sb1, fun D nD => ?_⟩⟩
        have s2 := same_new (o := .lst []) nD
        refine ⟨fun i m H' => m = xs.length - i ∧ i ≤ xs.length ∧ H' D = some (.lst ((List.replicate i true).map V.bl)) ∧ Same (upd H tp (.tup [V.ty "list", V.ty "tuple"])) H', ⟨xs.length, rfl, Nat.zero_le _, upd_same, s2⟩, ?_⟩
        rintro i m H' ⟨rfl, hi, hD, sm⟩
        have sa2 := Same.seq (sm) sa1
        have sb2 := Same.seq (sm) sb1
        by_cases hlt : i < xs.length
        · have hlt2 : i < ys.length := by omega
          refine .inr ⟨⟨xs, ys, xs[i], ys[i], sa2, sb2, List.getElem?_eq_getElem hlt, List.getElem?_eq_getElem hlt2⟩, fun H2 => H2 D = some (.lst ((List.replicate (i + 1) true).map V.bl)) ∧ Same (upd H tp (.tup [V.ty "list", V.ty "tuple"])) H2, fun H2 z => ⟨xs.length - (i + 1), by omega, rfl, hlt, z.1, z.2⟩, ?_⟩
          rintro vv H2 ⟨tt, x, y, rfl, ntt, rfl, hx, hy⟩
          have ex := hx _ sa2
          have ey := hy _ sb2
          have s3 := same_new (o := .tup [x, y]) ntt
          refine ⟨tt, _, rfl, SqT.of upd_same, rfl, _, _, rfl, _, _, rfl, rfl, rfl, ?_⟩
          obtain ⟨d1, e1, p1⟩ := dpl_at ra ex
          obtain ⟨d2, e2, p2⟩ := dpl_at rb ey
          obtain rfl : d1 = d2 := Option.some.inj (e1.symm.trans e2)
          have s13 := (s1.trans sm).trans s3
          refine ⟨_, rfl, _, rfl, x, y, d1, rfl, dp_same s13 p1, dp_same s13 p2, hk d1 (List.mem_of_getElem? e1), fun H4 s4 => ?_⟩
          have nDt : D ≠ tt := ne_of_none hD ntt
          refine ⟨_, s4 _ _ (s3 _ _ hD), by rw [List.length_map, List.length_replicate]; exact Nat.lt_of_lt_of_le (show i < 1001 by omega) (by decide), ?_, same_over ((sm.trans s3).trans s4) nD⟩
          rw [upd_same, List.replicate_succ', List.map_append]
          rfl
        · have ei : i = xs.length := by omega
          refine .inl ⟨⟨xs, ys, sa2, sb2, .inl (by omega)⟩, D, List.replicate i true, rfl, SqL.of hD, ?_⟩
          have ea : (List.replicate i true).all id = true := List.all_eq_true.mpr fun z hz => (List.mem_replicate.mp hz).2
          rw [ea]
          exact q H' (s1.trans sm)
      | tup hl hk =>
        cases hv with
        | @tup a xs _ sa ra =>
        cases hu with
        | @tup b ys _ sb rb =>
        refine ⟨_, rfl, rfl, _, rfl, _, rfl, by show 2 ≤ sizeLine; decide, fun tp ntp => ?_⟩
        have s1 := same_new (o := .tup [V.ty "list", V.ty "tuple"]) ntp
        have sa1 := same_sqt (s1) sa
        have sb1 := same_sqt (s1) sb
        refine ⟨_, tp, _, _, _, _, rfl, upd_same, .cons (.ty _) (.cons (.ty _) .nil), tyT sb1, kit2 (r := false) (s := true) (by decide +kernel) (by decide +kernel), _, rfl, ?_⟩
        refine ⟨_, rfl, _, _, _, _, _, rfl, .ty _, tyT sa1, kit_ty (r := false) (by decide +kernel), _, rfl, _, _, _, _, _, rfl, .ty _, tyT sb1, kit_ty (r := false) (by decide +kernel), rfl, _, rfl, ?_⟩
        refine ⟨_, rfl, _, _, _, _, _, rfl, .ty _, tyT sa1, kit_ty (r := true) (by decide +kernel), _, rfl, _, _, _, _, _, rfl, .ty _, tyT sb1, kit_ty (r := true) (by decide +kernel), rfl, _, rfl, ?_⟩
        have la := dpl_len ra
        have lb := dpl_len rb
        refine ⟨_, rfl, a, _, rfl, .inr sa1, _, rfl, b, _, rfl, .inr sb1, rfl, _, rfl, ?_⟩
        have el : decide (V.int (xs.length : Int) = V.int (ys.length : Int)) = true := decide_eq_true (by rw [la, lb])
        rw [el]
        refine ⟨_, rfl, _, rfl, a, b, xs, ys, rfl, .inr ⟨sa1, sb1, fun D nD => ?_⟩⟩
        have s2 := same_new (o := .lst []) nD
        refine ⟨fun i m H' => m = xs.length - i ∧ i ≤ xs.length ∧ H' D = some (.lst ((List.replicate i true).map V.bl)) ∧ Same (upd H tp (.tup [V.ty "list", V.ty "tuple"])) H', ⟨xs.length, rfl, Nat.zero_le _, upd_same, s2⟩, ?_⟩
        rintro i m H' ⟨rfl, hi, hD, sm⟩
        have sa2 := same_sqt (sm) sa1
        have sb2 := same_sqt (sm) sb1
        by_cases hlt : i < xs.length
        · have hlt2 : i < ys.length := by omega
          refine .inr ⟨⟨xs, ys, xs[i], ys[i], sa2, sb2, List.getElem?_eq_getElem hlt, List.getElem?_eq_getElem hlt2⟩, fun H2 => H2 D = some (.lst ((List.replicate (i + 1) true).map V.bl)) ∧ Same (upd H tp (.tup [V.ty "list", V.ty "tuple"])) H2, fun H2 z => ⟨xs.length - (i + 1), by omega, rfl, hlt, z.1, z.2⟩, ?_⟩
          rintro vv H2 ⟨tt, x, y, rfl, ntt, rfl, hx, hy⟩
          have ex := hx _ sa2
          have ey := hy _ sb2
          have s3 := same_new (o := .tup [x, y]) ntt
          refine ⟨tt, _, rfl, SqT.of upd_same, rfl, _, _, rfl, _, _, rfl, rfl, rfl, ?_⟩
          obtain ⟨d1, e1, p1⟩ := dpl_at ra ex
          obtain ⟨d2, e2, p2⟩ := dpl_at rb ey
          obtain rfl : d1 = d2 := Option.some.inj (e1.symm.trans e2)
          have s13 := (s1.trans sm).trans s3
          refine ⟨_, rfl, _, rfl, x, y, d1, rfl, dp_same s13 p1, dp_same s13 p2, hk d1 (List.mem_of_getElem? e1), fun H4 s4 => ?_⟩
          have nDt : D ≠ tt := ne_of_none hD ntt
          refine ⟨_, s4 _ _ (s3 _ _ hD), by rw [List.length_map, List.length_replicate]; exact Nat.lt_of_lt_of_le (show i < 1001 by omega) (by decide), ?_, same_over ((sm.trans s3).trans s4) nD⟩
          rw [upd_same, List.replicate_succ', List.map_append]
          rfl
        · have ei : i = xs.length := by omega
          refine .inl ⟨⟨xs, ys, sa2, sb2, .inl (by omega)⟩, D, List.replicate i true, rfl, SqL.of hD, ?_⟩
          have ea : (List.replicate i true).all id = true := List.all_eq_true.mpr fun z hz => (List.mem_replicate.mp hz).2
          rw [ea]
          exact q H' (s1.trans sm)
end
end Ff

namespace Ff
open PySem PySem.Spec PyProof.Rows L2 ExX LamX
abbrev sForE : Stmt := topS 1
abbrev sMiss : Stmt := topS 2
theorem scForEI : FnScope ["self", "tag", "message"] ["self", "tag", "message"] (defScope (initS sForE)) := ⟨rfl, rfl, rfl, by decide +kernel, rfl, by decide +kernel, by decide +kernel⟩
theorem scMissI : FnScope ["self", "tag", "message"] ["self", "tag", "message"] (defScope (initS sMiss)) := ⟨rfl, rfl, rfl, by decide +kernel, rfl, by decide +kernel, by decide +kernel⟩
theorem ty_lu : typeOf (.type "LookupError") = pure (.type "type") := by kernel_rfl
theorem ty_va : typeOf (.type "ValueError") = pure (.type "type") := by kernel_rfl
theorem bo_lu : bootBuiltins "LookupError" = some (.type "LookupError") := by kernel_rfl
theorem bo_va : bootBuiltins "ValueError" = some (.type "ValueError") := by kernel_rfl
section
variable {P : Program} {w : World} {K : PySem.W.Frag} {mg : Str → Option Value} {base : Heap}
theorem ok_missI {f : Addr} {fd : FuncData} {k : Nat} (F : Fun K "__init__" "Missing.__init__" (initS sMiss) f fd) (z : mg "LookupError" = none) (v : PySem.W.findCls K (.type "LookupError") (.type "type") "__init__" = some (.val (.builtin "LookupError.__init__"))) :
    FnOk P w K mg base CX0 (k + 1) f fd ["self", "tag", "message"] (spTop K "LookupError.__new__" luTail) := by
  refine F.ok scMissI (fun vs H Q E h => ?_) (fun cdv A outer s H vs Q E hr h => ?_)
  · obtain ⟨a, C, tag, msg, rfl, _⟩ := h
    rfl
  · obtain ⟨a, C, tag, msg, rfl, ha, T, nt, q⟩ := h
    refine ⟨_, pss_cons (ps_expr (pe_bi (xB := "LookupError") PySem.F.excBase_LookupError ty_lu (by decide +kernel) bo_lu (by decide) (by decide) (by decide +kernel) (by rfl) z v (pa_cons (pv 0) (pa_cons (pv 2) pa_nil))))
      (pss_one (ps_st (nid := "LookupError.__new__") PySem.F.store_LookupError (pv 0) (pv 1))), ?_⟩
    exact ⟨_, rfl, _, rfl, a, C, _, rfl, by show 1 ≤ 1000; decide, T, ha, _, rfl, _, rfl, a, C, rfl, T, nt, .inl ⟨ha, fun dx n ne => q dx n ne⟩⟩
end
section
variable {P : Program} {w : World} {K : PySem.W.Frag} {mg : Str → Option Value} {base : Heap}
theorem ok_forEI {f : Addr} {fd : FuncData} {k : Nat} (F : Fun K "__init__" "ForestError.__init__" (initS sForE) f fd) (z : mg "ValueError" = none) (v : PySem.W.findCls K (.type "ValueError") (.type "type") "__init__" = some (.val (.builtin "ValueError.__init__"))) :
    FnOk P w K mg base CX0 (k + 1) f fd ["self", "tag", "message"] (spTop K "ValueError.__new__" vaTail) := by
  refine F.ok scForEI (fun vs H Q E h => ?_) (fun cdv A outer s H vs Q E hr h => ?_)
  · obtain ⟨a, C, tag, msg, rfl, _⟩ := h
    rfl
  · obtain ⟨a, C, tag, msg, rfl, ha, T, nt, q⟩ := h
    refine ⟨_, pss_cons (ps_expr (pe_bi (xB := "ValueError") PySem.F.excBase_ValueError ty_va (by decide +kernel) bo_va (by decide) (by decide) (by decide +kernel) (by rfl) z v (pa_cons (pv 0) (pa_cons (pv 2) pa_nil))))
      (pss_one (ps_st (nid := "ValueError.__new__") PySem.F.store_ValueError (pv 0) (pv 1))), ?_⟩
    exact ⟨_, rfl, _, rfl, a, C, _, rfl, by show 1 ≤ 1000; decide, T, ha, _, rfl, _, rfl, a, C, rfl, T, nt, .inl ⟨ha, fun dx n ne => q dx n ne⟩⟩
end
section
variable {P : Program} {w : World} {K : PySem.W.Frag} {mg : Str → Option Value} {base : Heap}
def spChkX (K : PySem.W.Frag) (C : Addr) : Sp := fun vs H Q E => ∃ (a : Addr) (xs : List V) (x : Int), vs = [.ref a, .int x] ∧ Sq K H a xs ∧ (x < 0 ∨ (xs.length : Int) ≤ x) ∧ x.natAbs.log2 < 1920 ∧ Flies H E C "node" "NoNode" (.int x)
end
abbrev sField : Stmt := topS 33
abbrev sOut : Stmt := topS 34
abbrev sErr : Stmt := topS 35
theorem scField : FnScope ["_law_e"] ["_law_e"] (defScope sField) := ⟨rfl, rfl, rfl, by decide +kernel, rfl, by decide +kernel, by decide +kernel⟩
theorem scOut : FnScope ["_law_ask", "_law_answer", "_law_tag", "_law_field_here", "_law_e"] ["_law_ask"] (defScope sOut) := ⟨rfl, rfl, rfl, by decide +kernel, rfl, by decide +kernel, by decide +kernel⟩
theorem scErr : FnScope ["_law_ask"] ["_law_ask"] (defScope sErr) := ⟨rfl, rfl, rfl, by decide +kernel, rfl, by decide +kernel, by decide +kernel⟩
/-- the handled error has a tag of the table and its field -/
structure Told (K : PySem.W.Frag) (cls : Value) (d : Option Addr) (H : Hp) (tag fld : Str) (v : V) : Prop where
  ex : ∃ C dd : Addr, cls = .ref C ∧ XfC K C ∧ PySem.W.findIn K (.ref C) "tag" = some none ∧ PySem.W.findIn K (.ref C) fld = some none ∧ d = some dd ∧ H dd = some (.xd [(fld, v), ("tag", .str tag)])
def nodeTags : List Str := ["BadParent", "Cycle", "NotRoot", "SameRoot", "RootsDiffer", "NoWay", "BadWeight", "NoNode"]
def limitTags : List Str := ["TooManyNodes", "TooLong", "TooManyForests", "TooManyWatches"]
def posTags : List Str := ["BadStep", "BadCost", "Contradiction", "ParseError"]
def sizeTags : List Str := ["SizesDiffer", "BadSize"]
def nameTags : List Str := ["BadName", "NameTaken", "NoForest"]
def wordTags : List Str := ["BadCommand", "BadCount"]
def TagOk (tag fld : Str) : Prop := (tag ∈ nodeTags ∧ fld = "node") ∨ (tag ∈ limitTags ∧ fld = "limit") ∨ (tag ∈ posTags ∧ fld = "pos") ∨ (tag ∈ sizeTags ∧ fld = "size") ∨ (tag ∈ nameTags ∧ fld = "name") ∨ (tag = "BadCommand" ∧ fld = "word") ∨ (tag = "BadCount" ∧ fld = "count") ∨ (tag = "NoWatch" ∧ fld = "number")
def spField (K : PySem.W.Frag) : SpE := fun a cls d vs H Q _ => vs = [.ref a] ∧ ∃ (tag fld : Str) (v : V), Told K cls d H tag fld v ∧ TagOk tag fld ∧ ∀ H1, Same H H1 → Q v H1
section
variable {P : Program} {w : World} {K : PySem.W.Frag} {mg : Str → Option Value} {base : Heap}
theorem ok_field {f : Addr} {fd : FuncData} {k : Nat} (F : Fun K "_law_field" "_law_field" sField f fd) : FnE P w K mg base CX0 (k + 1) f fd ["_law_e"] (spField K) := by
  obtain ⟨oc, od, kV, doc, pm, an, cdv, ct, osl, rfl, lk, hcd⟩ := F.ex
  refine fn_ofE lk hcd scField (fun a cls d vs H Q E h => ?_) fun A outer s H vs Q E p cls d hz hd hr h => ?_
  · obtain ⟨rfl, _⟩ := h
    rfl
  · obtain ⟨rfl, tag, fld, v, ⟨C, dd, ec, xf, nt, nf, ed, hdd⟩, ht, q⟩ := h
    refine ⟨_, pss_cons (ps_if (pt_cmpR (show OpR _ (compareOp .In) (rIn K false) from op_in_seq) (pe_fe (a := p.1) (oe := p.2) (by exact List.mem_cons_self) hz hd (pv 0)) (pe_tup (pa_cons pe_str (pa_cons pe_str (pa_cons pe_str (pa_cons pe_str (pa_cons pe_str (pa_cons pe_str (pa_cons pe_str (pa_cons pe_str pa_nil))))))))) (by rfl)) (pss_one (ps_ret (pe_fe (a := p.1) (oe := p.2) (by exact List.mem_cons_self) hz hd (pv 0)))) pss_nil)
      (pss_cons (ps_if (pt_cmpR (show OpR _ (compareOp .In) (rIn K false) from op_in_seq) (pe_fe (a := p.1) (oe := p.2) (by exact List.mem_cons_self) hz hd (pv 0)) (pe_tup (pa_cons pe_str (pa_cons pe_str (pa_cons pe_str (pa_cons pe_str pa_nil))))) (by rfl)) (pss_one (ps_ret (pe_fe (a := p.1) (oe := p.2) (by exact List.mem_cons_self) hz hd (pv 0)))) pss_nil)
      (pss_cons (ps_if (pt_cmpR (show OpR _ (compareOp .In) (rIn K false) from op_in_seq) (pe_fe (a := p.1) (oe := p.2) (by exact List.mem_cons_self) hz hd (pv 0)) (pe_tup (pa_cons pe_str (pa_cons pe_str (pa_cons pe_str (pa_cons pe_str pa_nil))))) (by rfl)) (pss_one (ps_ret (pe_fe (a := p.1) (oe := p.2) (by exact List.mem_cons_self) hz hd (pv 0)))) pss_nil)
      (pss_cons (ps_if (pt_cmpR (show OpR _ (compareOp .In) (rIn K false) from op_in_seq) (pe_fe (a := p.1) (oe := p.2) (by exact List.mem_cons_self) hz hd (pv 0)) (pe_tup (pa_cons pe_str (pa_cons pe_str pa_nil))) (by rfl)) (pss_one (ps_ret (pe_fe (a := p.1) (oe := p.2) (by exact List.mem_cons_self) hz hd (pv 0)))) pss_nil)
      (pss_cons (ps_if (pt_cmpR (show OpR _ (compareOp .In) (rIn K false) from op_in_seq) (pe_fe (a := p.1) (oe := p.2) (by exact List.mem_cons_self) hz hd (pv 0)) (pe_tup (pa_cons pe_str (pa_cons pe_str (pa_cons pe_str pa_nil)))) (by rfl)) (pss_one (ps_ret (pe_fe (a := p.1) (oe := p.2) (by exact List.mem_cons_self) hz hd (pv 0)))) pss_nil)
      (pss_cons (ps_if (pt_cmpR (show OpR _ (compareOp .In) (rIn K false) from op_in_seq) (pe_fe (a := p.1) (oe := p.2) (by exact List.mem_cons_self) hz hd (pv 0)) (pe_tup (pa_cons pe_str (pa_cons pe_str pa_nil))) (by rfl)) (pss_one (ps_ret (pe_ifExp (pt_cmpR op_eq (pe_fe (a := p.1) (oe := p.2) (by exact List.mem_cons_self) hz hd (pv 0)) pe_str (nomark _)) (pe_fe (a := p.1) (oe := p.2) (by exact List.mem_cons_self) hz hd (pv 0)) (pe_fe (a := p.1) (oe := p.2) (by exact List.mem_cons_self) hz hd (pv 0))))) pss_nil)
      (pss_one (ps_ret (pe_fe (a := p.1) (oe := p.2) (by exact List.mem_cons_self) hz hd (pv 0))))))))), ?_⟩
    have lt : List.lookup (Str.ofString "tag") [(fld, v), (Str.ofString "tag", V.str tag)] = some (.str tag) := by
      rcases ht with ⟨_, rfl⟩ | ⟨_, rfl⟩ | ⟨_, rfl⟩ | ⟨_, rfl⟩ | ⟨_, rfl⟩ | ⟨_, rfl⟩ | ⟨_, rfl⟩ | ⟨_, rfl⟩ <;> rfl
    have lf : List.lookup fld [(fld, v), (Str.ofString "tag", V.str tag)] = some v := by simp [List.lookup]
    rcases ht with ⟨hm, rfl⟩ | ⟨hm, rfl⟩ | ⟨hm, rfl⟩ | ⟨hm, rfl⟩ | ⟨hm, rfl⟩ | ⟨hm, rfl⟩ | ⟨hm, rfl⟩ | ⟨hm, rfl⟩
    · have e : inV (.str tag) (nodeTags.map V.str) = true ∧ True := by
        simp only [nodeTags, List.mem_cons, List.not_mem_nil, or_false] at hm
        rcases hm with z | z | z | z | z | z | z | z <;> (subst z; exact ⟨rfl, trivial⟩)
      refine ⟨_, rfl, rfl, C, dd, _, _, ec, xf, nt, ed, hdd, lt, by show 8 ≤ sizeLine; decide, fun t1 n1 => ?_⟩
      have s1 := (same_new (o := .tup (nodeTags.map V.str)) n1)
      refine ⟨t1, _, rfl, .inr (SqT.of upd_same), rfl, rfl, _, rfl, ?_⟩
      show if inV (.str tag) (nodeTags.map V.str) = true then _ else _
      rw [e.1]
      exact iteT ⟨_, rfl, rfl, C, dd, _, _, ec, xf, nf, ed, s1 _ _ hdd, lf, q _ s1⟩
    · have e : inV (.str tag) (nodeTags.map V.str) = false ∧ inV (.str tag) (limitTags.map V.str) = true ∧ True := by
        simp only [limitTags, List.mem_cons, List.not_mem_nil, or_false] at hm
        rcases hm with z | z | z | z <;> (subst z; exact ⟨rfl, rfl, trivial⟩)
      refine ⟨_, rfl, rfl, C, dd, _, _, ec, xf, nt, ed, hdd, lt, by show 8 ≤ sizeLine; decide, fun t1 n1 => ?_⟩
      have s1 := (same_new (o := .tup (nodeTags.map V.str)) n1)
      refine ⟨t1, _, rfl, .inr (SqT.of upd_same), rfl, rfl, _, rfl, ?_⟩
      show if inV (.str tag) (nodeTags.map V.str) = true then _ else _
      rw [e.1]
      refine iteF ⟨_, rfl, rfl, C, dd, _, _, ec, xf, nt, ed, s1 _ _ hdd, lt, by show 4 ≤ sizeLine; decide, fun t2 n2 => ?_⟩
      have s2 := s1.trans (same_new (o := .tup (limitTags.map V.str)) n2)
      refine ⟨t2, _, rfl, .inr (SqT.of upd_same), rfl, rfl, _, rfl, ?_⟩
      show if inV (.str tag) (limitTags.map V.str) = true then _ else _
      rw [e.2.1]
      exact iteT ⟨_, rfl, rfl, C, dd, _, _, ec, xf, nf, ed, s2 _ _ hdd, lf, q _ s2⟩
    · have e : inV (.str tag) (nodeTags.map V.str) = false ∧ inV (.str tag) (limitTags.map V.str) = false ∧ inV (.str tag) (posTags.map V.str) = true ∧ True := by
        simp only [posTags, List.mem_cons, List.not_mem_nil, or_false] at hm
        rcases hm with z | z | z | z <;> (subst z; exact ⟨rfl, rfl, rfl, trivial⟩)
      refine ⟨_, rfl, rfl, C, dd, _, _, ec, xf, nt, ed, hdd, lt, by show 8 ≤ sizeLine; decide, fun t1 n1 => ?_⟩
      have s1 := (same_new (o := .tup (nodeTags.map V.str)) n1)
      refine ⟨t1, _, rfl, .inr (SqT.of upd_same), rfl, rfl, _, rfl, ?_⟩
      show if inV (.str tag) (nodeTags.map V.str) = true then _ else _
      rw [e.1]
      refine iteF ⟨_, rfl, rfl, C, dd, _, _, ec, xf, nt, ed, s1 _ _ hdd, lt, by show 4 ≤ sizeLine; decide, fun t2 n2 => ?_⟩
      have s2 := s1.trans (same_new (o := .tup (limitTags.map V.str)) n2)
      refine ⟨t2, _, rfl, .inr (SqT.of upd_same), rfl, rfl, _, rfl, ?_⟩
      show if inV (.str tag) (limitTags.map V.str) = true then _ else _
      rw [e.2.1]
      refine iteF ⟨_, rfl, rfl, C, dd, _, _, ec, xf, nt, ed, s2 _ _ hdd, lt, by show 4 ≤ sizeLine; decide, fun t3 n3 => ?_⟩
      have s3 := s2.trans (same_new (o := .tup (posTags.map V.str)) n3)
      refine ⟨t3, _, rfl, .inr (SqT.of upd_same), rfl, rfl, _, rfl, ?_⟩
      show if inV (.str tag) (posTags.map V.str) = true then _ else _
      rw [e.2.2.1]
      exact iteT ⟨_, rfl, rfl, C, dd, _, _, ec, xf, nf, ed, s3 _ _ hdd, lf, q _ s3⟩
    · have e : inV (.str tag) (nodeTags.map V.str) = false ∧ inV (.str tag) (limitTags.map V.str) = false ∧ inV (.str tag) (posTags.map V.str) = false ∧ inV (.str tag) (sizeTags.map V.str) = true ∧ True := by
        simp only [sizeTags, List.mem_cons, List.not_mem_nil, or_false] at hm
        rcases hm with z | z <;> (subst z; exact ⟨rfl, rfl, rfl, rfl, trivial⟩)
      refine ⟨_, rfl, rfl, C, dd, _, _, ec, xf, nt, ed, hdd, lt, by show 8 ≤ sizeLine; decide, fun t1 n1 => ?_⟩
      have s1 := (same_new (o := .tup (nodeTags.map V.str)) n1)
      refine ⟨t1, _, rfl, .inr (SqT.of upd_same), rfl, rfl, _, rfl, ?_⟩
      show if inV (.str tag) (nodeTags.map V.str) = true then _ else _
      rw [e.1]
      refine iteF ⟨_, rfl, rfl, C, dd, _, _, ec, xf, nt, ed, s1 _ _ hdd, lt, by show 4 ≤ sizeLine; decide, fun t2 n2 => ?_⟩
      have s2 := s1.trans (same_new (o := .tup (limitTags.map V.str)) n2)
      refine ⟨t2, _, rfl, .inr (SqT.of upd_same), rfl, rfl, _, rfl, ?_⟩
      show if inV (.str tag) (limitTags.map V.str) = true then _ else _
      rw [e.2.1]
      refine iteF ⟨_, rfl, rfl, C, dd, _, _, ec, xf, nt, ed, s2 _ _ hdd, lt, by show 4 ≤ sizeLine; decide, fun t3 n3 => ?_⟩
      have s3 := s2.trans (same_new (o := .tup (posTags.map V.str)) n3)
      refine ⟨t3, _, rfl, .inr (SqT.of upd_same), rfl, rfl, _, rfl, ?_⟩
      show if inV (.str tag) (posTags.map V.str) = true then _ else _
      rw [e.2.2.1]
      refine iteF ⟨_, rfl, rfl, C, dd, _, _, ec, xf, nt, ed, s3 _ _ hdd, lt, by show 2 ≤ sizeLine; decide, fun t4 n4 => ?_⟩
      have s4 := s3.trans (same_new (o := .tup (sizeTags.map V.str)) n4)
      refine ⟨t4, _, rfl, .inr (SqT.of upd_same), rfl, rfl, _, rfl, ?_⟩
      show if inV (.str tag) (sizeTags.map V.str) = true then _ else _
      rw [e.2.2.2.1]
      exact iteT ⟨_, rfl, rfl, C, dd, _, _, ec, xf, nf, ed, s4 _ _ hdd, lf, q _ s4⟩
    · have e : inV (.str tag) (nodeTags.map V.str) = false ∧ inV (.str tag) (limitTags.map V.str) = false ∧ inV (.str tag) (posTags.map V.str) = false ∧ inV (.str tag) (sizeTags.map V.str) = false ∧ inV (.str tag) (nameTags.map V.str) = true ∧ True := by
        simp only [nameTags, List.mem_cons, List.not_mem_nil, or_false] at hm
        rcases hm with z | z | z <;> (subst z; exact ⟨rfl, rfl, rfl, rfl, rfl, trivial⟩)
      refine ⟨_, rfl, rfl, C, dd, _, _, ec, xf, nt, ed, hdd, lt, by show 8 ≤ sizeLine; decide, fun t1 n1 => ?_⟩
      have s1 := (same_new (o := .tup (nodeTags.map V.str)) n1)
      refine ⟨t1, _, rfl, .inr (SqT.of upd_same), rfl, rfl, _, rfl, ?_⟩
      show if inV (.str tag) (nodeTags.map V.str) = true then _ else _
      rw [e.1]
      refine iteF ⟨_, rfl, rfl, C, dd, _, _, ec, xf, nt, ed, s1 _ _ hdd, lt, by show 4 ≤ sizeLine; decide, fun t2 n2 => ?_⟩
      have s2 := s1.trans (same_new (o := .tup (limitTags.map V.str)) n2)
      refine ⟨t2, _, rfl, .inr (SqT.of upd_same), rfl, rfl, _, rfl, ?_⟩
      show if inV (.str tag) (limitTags.map V.str) = true then _ else _
      rw [e.2.1]
      refine iteF ⟨_, rfl, rfl, C, dd, _, _, ec, xf, nt, ed, s2 _ _ hdd, lt, by show 4 ≤ sizeLine; decide, fun t3 n3 => ?_⟩
      have s3 := s2.trans (same_new (o := .tup (posTags.map V.str)) n3)
      refine ⟨t3, _, rfl, .inr (SqT.of upd_same), rfl, rfl, _, rfl, ?_⟩
      show if inV (.str tag) (posTags.map V.str) = true then _ else _
      rw [e.2.2.1]
      refine iteF ⟨_, rfl, rfl, C, dd, _, _, ec, xf, nt, ed, s3 _ _ hdd, lt, by show 2 ≤ sizeLine; decide, fun t4 n4 => ?_⟩
      have s4 := s3.trans (same_new (o := .tup (sizeTags.map V.str)) n4)
      refine ⟨t4, _, rfl, .inr (SqT.of upd_same), rfl, rfl, _, rfl, ?_⟩
      show if inV (.str tag) (sizeTags.map V.str) = true then _ else _
      rw [e.2.2.2.1]
      refine iteF ⟨_, rfl, rfl, C, dd, _, _, ec, xf, nt, ed, s4 _ _ hdd, lt, by show 3 ≤ sizeLine; decide, fun t5 n5 => ?_⟩
      have s5 := s4.trans (same_new (o := .tup (nameTags.map V.str)) n5)
      refine ⟨t5, _, rfl, .inr (SqT.of upd_same), rfl, rfl, _, rfl, ?_⟩
      show if inV (.str tag) (nameTags.map V.str) = true then _ else _
      rw [e.2.2.2.2.1]
      exact iteT ⟨_, rfl, rfl, C, dd, _, _, ec, xf, nf, ed, s5 _ _ hdd, lf, q _ s5⟩
    · have e : inV (.str tag) (nodeTags.map V.str) = false ∧ inV (.str tag) (limitTags.map V.str) = false ∧ inV (.str tag) (posTags.map V.str) = false ∧ inV (.str tag) (sizeTags.map V.str) = false ∧ inV (.str tag) (nameTags.map V.str) = false ∧ inV (.str tag) (wordTags.map V.str) = true ∧ True := by subst hm; exact ⟨rfl, rfl, rfl, rfl, rfl, rfl, trivial⟩
      refine ⟨_, rfl, rfl, C, dd, _, _, ec, xf, nt, ed, hdd, lt, by show 8 ≤ sizeLine; decide, fun t1 n1 => ?_⟩
      have s1 := (same_new (o := .tup (nodeTags.map V.str)) n1)
      refine ⟨t1, _, rfl, .inr (SqT.of upd_same), rfl, rfl, _, rfl, ?_⟩
      show if inV (.str tag) (nodeTags.map V.str) = true then _ else _
      rw [e.1]
      refine iteF ⟨_, rfl, rfl, C, dd, _, _, ec, xf, nt, ed, s1 _ _ hdd, lt, by show 4 ≤ sizeLine; decide, fun t2 n2 => ?_⟩
      have s2 := s1.trans (same_new (o := .tup (limitTags.map V.str)) n2)
      refine ⟨t2, _, rfl, .inr (SqT.of upd_same), rfl, rfl, _, rfl, ?_⟩
      show if inV (.str tag) (limitTags.map V.str) = true then _ else _
      rw [e.2.1]
      refine iteF ⟨_, rfl, rfl, C, dd, _, _, ec, xf, nt, ed, s2 _ _ hdd, lt, by show 4 ≤ sizeLine; decide, fun t3 n3 => ?_⟩
      have s3 := s2.trans (same_new (o := .tup (posTags.map V.str)) n3)
      refine ⟨t3, _, rfl, .inr (SqT.of upd_same), rfl, rfl, _, rfl, ?_⟩
      show if inV (.str tag) (posTags.map V.str) = true then _ else _
      rw [e.2.2.1]
      refine iteF ⟨_, rfl, rfl, C, dd, _, _, ec, xf, nt, ed, s3 _ _ hdd, lt, by show 2 ≤ sizeLine; decide, fun t4 n4 => ?_⟩
      have s4 := s3.trans (same_new (o := .tup (sizeTags.map V.str)) n4)
      refine ⟨t4, _, rfl, .inr (SqT.of upd_same), rfl, rfl, _, rfl, ?_⟩
      show if inV (.str tag) (sizeTags.map V.str) = true then _ else _
      rw [e.2.2.2.1]
      refine iteF ⟨_, rfl, rfl, C, dd, _, _, ec, xf, nt, ed, s4 _ _ hdd, lt, by show 3 ≤ sizeLine; decide, fun t5 n5 => ?_⟩
      have s5 := s4.trans (same_new (o := .tup (nameTags.map V.str)) n5)
      refine ⟨t5, _, rfl, .inr (SqT.of upd_same), rfl, rfl, _, rfl, ?_⟩
      show if inV (.str tag) (nameTags.map V.str) = true then _ else _
      rw [e.2.2.2.2.1]
      refine iteF ⟨_, rfl, rfl, C, dd, _, _, ec, xf, nt, ed, s5 _ _ hdd, lt, by show 2 ≤ sizeLine; decide, fun t6 n6 => ?_⟩
      have s6 := s5.trans (same_new (o := .tup (wordTags.map V.str)) n6)
      refine ⟨t6, _, rfl, .inr (SqT.of upd_same), rfl, rfl, _, rfl, ?_⟩
      show if inV (.str tag) (wordTags.map V.str) = true then _ else _
      rw [e.2.2.2.2.2.1]
      refine iteT ⟨_, rfl, rfl, C, dd, _, _, ec, xf, nt, ed, s6 _ _ hdd, lt, rfl, _, rfl, ?_⟩
      subst hm
      exact iteT ⟨_, rfl, rfl, C, dd, _, _, ec, xf, nf, ed, s6 _ _ hdd, lf, q _ s6⟩
    · have e : inV (.str tag) (nodeTags.map V.str) = false ∧ inV (.str tag) (limitTags.map V.str) = false ∧ inV (.str tag) (posTags.map V.str) = false ∧ inV (.str tag) (sizeTags.map V.str) = false ∧ inV (.str tag) (nameTags.map V.str) = false ∧ inV (.str tag) (wordTags.map V.str) = true ∧ True := by subst hm; exact ⟨rfl, rfl, rfl, rfl, rfl, rfl, trivial⟩
      refine ⟨_, rfl, rfl, C, dd, _, _, ec, xf, nt, ed, hdd, lt, by show 8 ≤ sizeLine; decide, fun t1 n1 => ?_⟩
      have s1 := (same_new (o := .tup (nodeTags.map V.str)) n1)
      refine ⟨t1, _, rfl, .inr (SqT.of upd_same), rfl, rfl, _, rfl, ?_⟩
      show if inV (.str tag) (nodeTags.map V.str) = true then _ else _
      rw [e.1]
      refine iteF ⟨_, rfl, rfl, C, dd, _, _, ec, xf, nt, ed, s1 _ _ hdd, lt, by show 4 ≤ sizeLine; decide, fun t2 n2 => ?_⟩
      have s2 := s1.trans (same_new (o := .tup (limitTags.map V.str)) n2)
      refine ⟨t2, _, rfl, .inr (SqT.of upd_same), rfl, rfl, _, rfl, ?_⟩
      show if inV (.str tag) (limitTags.map V.str) = true then _ else _
      rw [e.2.1]
      refine iteF ⟨_, rfl, rfl, C, dd, _, _, ec, xf, nt, ed, s2 _ _ hdd, lt, by show 4 ≤ sizeLine; decide, fun t3 n3 => ?_⟩
      have s3 := s2.trans (same_new (o := .tup (posTags.map V.str)) n3)
      refine ⟨t3, _, rfl, .inr (SqT.of upd_same), rfl, rfl, _, rfl, ?_⟩
      show if inV (.str tag) (posTags.map V.str) = true then _ else _
      rw [e.2.2.1]
      refine iteF ⟨_, rfl, rfl, C, dd, _, _, ec, xf, nt, ed, s3 _ _ hdd, lt, by show 2 ≤ sizeLine; decide, fun t4 n4 => ?_⟩
      have s4 := s3.trans (same_new (o := .tup (sizeTags.map V.str)) n4)
      refine ⟨t4, _, rfl, .inr (SqT.of upd_same), rfl, rfl, _, rfl, ?_⟩
      show if inV (.str tag) (sizeTags.map V.str) = true then _ else _
      rw [e.2.2.2.1]
      refine iteF ⟨_, rfl, rfl, C, dd, _, _, ec, xf, nt, ed, s4 _ _ hdd, lt, by show 3 ≤ sizeLine; decide, fun t5 n5 => ?_⟩
      have s5 := s4.trans (same_new (o := .tup (nameTags.map V.str)) n5)
      refine ⟨t5, _, rfl, .inr (SqT.of upd_same), rfl, rfl, _, rfl, ?_⟩
      show if inV (.str tag) (nameTags.map V.str) = true then _ else _
      rw [e.2.2.2.2.1]
      refine iteF ⟨_, rfl, rfl, C, dd, _, _, ec, xf, nt, ed, s5 _ _ hdd, lt, by show 2 ≤ sizeLine; decide, fun t6 n6 => ?_⟩
      have s6 := s5.trans (same_new (o := .tup (wordTags.map V.str)) n6)
      refine ⟨t6, _, rfl, .inr (SqT.of upd_same), rfl, rfl, _, rfl, ?_⟩
      show if inV (.str tag) (wordTags.map V.str) = true then _ else _
      rw [e.2.2.2.2.2.1]
      refine iteT ⟨_, rfl, rfl, C, dd, _, _, ec, xf, nt, ed, s6 _ _ hdd, lt, rfl, _, rfl, ?_⟩
      subst hm
      exact iteF ⟨_, rfl, rfl, C, dd, _, _, ec, xf, nf, ed, s6 _ _ hdd, lf, q _ s6⟩
    · have e : inV (.str tag) (nodeTags.map V.str) = false ∧ inV (.str tag) (limitTags.map V.str) = false ∧ inV (.str tag) (posTags.map V.str) = false ∧ inV (.str tag) (sizeTags.map V.str) = false ∧ inV (.str tag) (nameTags.map V.str) = false ∧ inV (.str tag) (wordTags.map V.str) = false ∧ True := by subst hm; exact ⟨rfl, rfl, rfl, rfl, rfl, rfl, trivial⟩
      refine ⟨_, rfl, rfl, C, dd, _, _, ec, xf, nt, ed, hdd, lt, by show 8 ≤ sizeLine; decide, fun t1 n1 => ?_⟩
      have s1 := (same_new (o := .tup (nodeTags.map V.str)) n1)
      refine ⟨t1, _, rfl, .inr (SqT.of upd_same), rfl, rfl, _, rfl, ?_⟩
      show if inV (.str tag) (nodeTags.map V.str) = true then _ else _
      rw [e.1]
      refine iteF ⟨_, rfl, rfl, C, dd, _, _, ec, xf, nt, ed, s1 _ _ hdd, lt, by show 4 ≤ sizeLine; decide, fun t2 n2 => ?_⟩
      have s2 := s1.trans (same_new (o := .tup (limitTags.map V.str)) n2)
      refine ⟨t2, _, rfl, .inr (SqT.of upd_same), rfl, rfl, _, rfl, ?_⟩
      show if inV (.str tag) (limitTags.map V.str) = true then _ else _
      rw [e.2.1]
      refine iteF ⟨_, rfl, rfl, C, dd, _, _, ec, xf, nt, ed, s2 _ _ hdd, lt, by show 4 ≤ sizeLine; decide, fun t3 n3 => ?_⟩
      have s3 := s2.trans (same_new (o := .tup (posTags.map V.str)) n3)
      refine ⟨t3, _, rfl, .inr (SqT.of upd_same), rfl, rfl, _, rfl, ?_⟩
      show if inV (.str tag) (posTags.map V.str) = true then _ else _
      rw [e.2.2.1]
      refine iteF ⟨_, rfl, rfl, C, dd, _, _, ec, xf, nt, ed, s3 _ _ hdd, lt, by show 2 ≤ sizeLine; decide, fun t4 n4 => ?_⟩
      have s4 := s3.trans (same_new (o := .tup (sizeTags.map V.str)) n4)
      refine ⟨t4, _, rfl, .inr (SqT.of upd_same), rfl, rfl, _, rfl, ?_⟩
      show if inV (.str tag) (sizeTags.map V.str) = true then _ else _
      rw [e.2.2.2.1]
      refine iteF ⟨_, rfl, rfl, C, dd, _, _, ec, xf, nt, ed, s4 _ _ hdd, lt, by show 3 ≤ sizeLine; decide, fun t5 n5 => ?_⟩
      have s5 := s4.trans (same_new (o := .tup (nameTags.map V.str)) n5)
      refine ⟨t5, _, rfl, .inr (SqT.of upd_same), rfl, rfl, _, rfl, ?_⟩
      show if inV (.str tag) (nameTags.map V.str) = true then _ else _
      rw [e.2.2.2.2.1]
      refine iteF ⟨_, rfl, rfl, C, dd, _, _, ec, xf, nt, ed, s5 _ _ hdd, lt, by show 2 ≤ sizeLine; decide, fun t6 n6 => ?_⟩
      have s6 := s5.trans (same_new (o := .tup (wordTags.map V.str)) n6)
      refine ⟨t6, _, rfl, .inr (SqT.of upd_same), rfl, rfl, _, rfl, ?_⟩
      show if inV (.str tag) (wordTags.map V.str) = true then _ else _
      rw [e.2.2.2.2.2.1]
      exact iteF ⟨_, rfl, rfl, C, dd, _, _, ec, xf, nf, ed, s6 _ _ hdd, lf, q _ s6⟩
end
section
variable {P : Program} {w : World} {K : PySem.W.Frag} {mg : Str → Option Value} {base : Heap}
/-- what the law makes of what it asks -/
def OutE (K : PySem.W.Frag) (CF CM : Addr) (Q : Str → V → Addr → Hp → Hp → Prop) : XK := fun cls d H1 => PySem.W.exmAny K cls [.ref CF, .ref CM] = some true ∧ ∃ (tag fld : Str) (v : V), Told K cls d H1 tag fld v ∧ TagOk tag fld ∧ ∀ t H2, H1 t = none → Same H1 H2 → Q tag v t H1 H2
end
section
variable {P : Program} {w : World} {K : PySem.W.Frag} {mg : Str → Option Value} {base : Heap}
def TTout (K : PySem.W.Frag) (CF CM : Addr) (tl : XK → Hp → VK → Prop) (H : Hp) (Q : VK) : Prop := ∀ Ha, Same H Ha → ∃ (E1 : XK) (Q1 : VK), tl E1 Ha Q1 ∧
  (∀ cls d H1, E1 cls d H1 → OutE K CF CM (fun tag v t _ H2 => H2 t = some (.tup [.non, .str tag, v]) → Q (.ref t) H2) cls d H1) ∧ ∀ v H1, Q1 v H1 → ∀ t H2, H1 t = none → Same H1 H2 → H2 t = some (.tup [v, .str "", .non]) → Q (.ref t) H2
end
section
variable {P : Program} {w : World} {K : PySem.W.Frag} {mg : Str → Option Value} {base : Heap}
theorem ok_out {f fF CF CM CE : Addr} {fd fdF : FuncData} (F : Fun K "_law_outcome" "_law_outcome" sOut f fd) (b : Binds K fd ["_law_ask"] []) (G : FnE P w K mg base CX0 1 fF fdF ["_law_e"] (spField K)) (kF : PySem.W.keepIn K (.ref fF) = true) (bF : Binds K fdF ["_law_e"] []) (gF : mg "_law_field" = some (.ref fF))
    (g1 : mg "ForestError" = some (.ref CF)) (g2 : mg "Missing" = some (.ref CM)) (g3 : mg "EmptyHistory" = some (.ref CE)) : FnL P w K mg base 3 f (TTout K CF CM) := by
  refine fnL_of F scOut b fun kk ask fs s0 H0 tl ac cdv A outer s H Q hr hU ho hz ht => ?_
  refine ⟨_, pss_cons (ps_asg (pe_tup (pa_cons pe_non (pa_cons pe_str (pa_cons pe_non pa_nil)))) (pg_tup rfl (pgs_cons (pg_name (i := 1) scOut.nd rfl (.inl rfl)) (pgs_cons (pg_name (i := 2) scOut.nd rfl (.inl rfl)) (pgs_cons (pg_name (i := 3) scOut.nd rfl (.inl rfl)) pgs_nil)))))
    (pss_cons (ps_tryC (X := cxOf C8.CX0 P w K mg base _ "_law_outcome" (defScope sOut) f cdv A outer s H C8.E0) (tb := fun W D σ H => σ[0]? = some (some (.ref ask)) ∧ ∃ (E1 : XK) (Q1 : VK), tl E1 H Q1 ∧ (∀ cls d H1, E1 cls d H1 → W cls d σ H1) ∧ ∀ v H1, Q1 v H1 → D.nx (σ.set 1 (some v)) H1) rfl rfl (Wout := fun _ _ _ _ => False) takesN0 (fun W pn xe tk _ => ?_)
      (.named (i := 4) scOut.nd rfl rfl (tst_two (by rfl) g1 (by rfl) g2) (fun a oe cls d pn hz hd => pss_one (ps_parH (X := Cx.suite (cxOf C8.CX0 P w K mg base ["_law_ask", "_law_answer", "_law_tag", "_law_field_here", "_law_e"] "_law_outcome" (defScope sOut) f cdv A outer s H C8.E0) a ((a, oe) :: pn)) (i := 2) (j := 3) ?_ scOut.nd rfl rfl (by decide) rfl rfl (pa_cons (show PE (Cx.suite (cxOf C8.CX0 P w K mg base ["_law_ask", "_law_answer", "_law_tag", "_law_field_here", "_law_e"] "_law_outcome" (defScope sOut) f cdv A outer s H C8.E0) a ((a, oe) :: pn)) _ (tFe K a cls d "tag" (tVar 4)) from pe_fe (X := Cx.suite (cxOf C8.CX0 P w K mg base ["_law_ask", "_law_answer", "_law_tag", "_law_field_here", "_law_e"] "_law_outcome" (defScope sOut) f cdv A outer s H C8.E0) a ((a, oe) :: pn))  (by exact List.mem_cons_self) hz.zc hd (pv 4)) (pa_cons (pe_callE (X := Cx.suite (cxOf C8.CX0 P w K mg base ["_law_ask", "_law_answer", "_law_tag", "_law_field_here", "_law_e"] "_law_outcome" (defScope sOut) f cdv A outer s H C8.E0) a ((a, oe) :: pn))  G ?_ (by exact List.mem_cons_self) hz.zc hd (by rfl) gF kF bF pass0 (pa_cons (pv 4) pa_nil)) pa_nil)) (by rfl)))
      (.named (i := 4) scOut.nd rfl rfl (tst_one (by rfl) g3) (fun a oe cls d pn hz hd => pss_one ps_never) .nil)))
    (pss_one (ps_ret (pe_tup (pa_cons (pv 1) (pa_cons (pv 2) (pa_cons (pv 3) pa_nil))))))), ?_⟩
  · exact pss_one (ps_set (i := 1) scOut.nd rfl (.inl rfl) (pe_do (Z := (cxOf C8.CX0 P w K mg base ["_law_ask", "_law_answer", "_law_tag", "_law_field_here", "_law_e"] "_law_outcome" (defScope sOut) f cdv A outer s H C8.E0).tr pn xe) (i := 0) ac (hr.mono (by omega)) rfl hU ho tk rfl (.inl rfl)))
  · obtain ⟨vs, hv⟩ := hd
    exact ⟨(a, oe), ⟨rfl, vs, hv, hz.2.2 vs hv⟩, List.mem_cons_self⟩
  · exact L2H.RoomH.mono (k := kk + 2) ⟨hr.dp, hr.un⟩ (by omega)
  · refine ⟨by show 3 ≤ sizeLine; decide, fun t0 n0 => ?_⟩
    have s1 := same_new (o := .tup [.non, .str "", .non]) n0
    refine ⟨t0, _, rfl, SqT.of upd_same, rfl, _, _, rfl, _, _, rfl, _, _, rfl, rfl, ?_⟩
    obtain ⟨E1, Q1, h1, h2, h3⟩ := ht _ s1
    refine ⟨rfl, E1, Q1, h1, fun cls d H1 h => ?_, fun v H1 h => ?_⟩
    · obtain ⟨hm, tag, fld, v, td, tg, q⟩ := h2 cls d H1 h
      obtain ⟨C, dd, ec, xf, nt, nf, ed, hdd⟩ := id td.ex
      have lt : List.lookup (Str.ofString "tag") [(fld, v), (Str.ofString "tag", V.str tag)] = some (.str tag) := by
        rcases tg with ⟨_, rfl⟩ | ⟨_, rfl⟩ | ⟨_, rfl⟩ | ⟨_, rfl⟩ | ⟨_, rfl⟩ | ⟨_, rfl⟩ | ⟨_, rfl⟩ | ⟨_, rfl⟩ <;> rfl
      refine ⟨true, hm, fun _ a na => ?_, fun z => by cases z⟩
      refine ⟨_, rfl, rfl, C, dd, _, _, ec, xf, nt, ed, hdd, lt, _, rfl, rfl, tag, fld, v, td, tg, fun H2 s2 => ⟨_, _, rfl, ?_⟩⟩
      exact ⟨_, rfl, _, rfl, _, rfl, by show 3 ≤ sizeLine; decide, fun t n => q t _ (sm_none s2 n) (s2.trans (same_new n)) upd_same⟩
    · exact ⟨_, rfl, _, rfl, _, rfl, by show 3 ≤ sizeLine; decide, fun t n => h3 v H1 h t _ n (same_new n) upd_same⟩
end
section
variable {P : Program} {w : World} {K : PySem.W.Frag} {mg : Str → Option Value} {base : Heap}
/-- the same without the answer -/
def TTerr (K : PySem.W.Frag) (CF CM : Addr) (tl : XK → Hp → VK → Prop) (H : Hp) (Q : VK) : Prop := ∀ Ha, Same H Ha → ∃ (E1 : XK) (Q1 : VK), tl E1 Ha Q1 ∧
  (∀ cls d H1, E1 cls d H1 → OutE K CF CM (fun tag v t _ H2 => H2 t = some (.tup [.str tag, v]) → Q (.ref t) H2) cls d H1) ∧ ∀ v H1, Q1 v H1 → ∀ t H2, H1 t = none → Same H1 H2 → H2 t = some (.tup [.str "", .non]) → Q (.ref t) H2
end
section
variable {P : Program} {w : World} {K : PySem.W.Frag} {mg : Str → Option Value} {base : Heap}
theorem cut3 (a b c : V) : cutV [a, b, c] (some 1) none = [b, c] := rfl
end
section
variable {P : Program} {w : World} {K : PySem.W.Frag} {mg : Str → Option Value} {base : Heap}
theorem ok_err {f fO CF CM : Addr} {fd : FuncData} (F : Fun K "_law_error" "_law_error" sErr f fd) (b : Binds K fd ["_law_ask"] []) (G : FnL P w K mg base 3 fO (TTout K CF CM)) (kO : PySem.W.keepIn K (.ref fO) = true) (gO : mg "_law_outcome" = some (.ref fO)) : FnL P w K mg base 4 f (TTerr K CF CM) := by
  refine fnL_of F scErr b fun kk ask fs s0 H0 tl ac cdv A outer s H Q hr hU ho hz ht => ?_
  refine ⟨_, pss_one (ps_ret (pe_slice sl_tup (pe_hand (Z := cxOf C8.CX0 P w K mg base ["_law_ask"] "_law_error" (defScope sErr) f cdv A outer s H C8.E0) (i := 0) G ac hr rfl hU ?_ (by rfl) gO kO rfl (.inl rfl) ?_ hz) (po_some pe_int) po_none)), ?_⟩
  · intro c hc
    rcases List.mem_cons.mp (show c ∈ s.heap.objs.size :: frs outer from hc) with z | z
    · exact .inr (z ▸ hz)
    · exact ho c z
  · exact fun c hc => List.mem_cons_of_mem _ hc
  · refine ⟨rfl, fun Ha sa => ?_⟩
    obtain ⟨E1, Q1, h1, h2, h3⟩ := ht Ha sa
    refine ⟨E1, Q1, h1, fun cls d H1 h => ?_, fun v H1 h t H2 n s2 e => ?_⟩
    · obtain ⟨hm, tag, fld, v, td, tg, q⟩ := h2 cls d H1 h
      refine ⟨hm, tag, fld, v, td, tg, fun t H2 n s2 e => ?_⟩
      refine ⟨_, rfl, t, _, rfl, SqT.of e, by simp [HT.sIx], fun t2 n2 => ?_⟩
      rw [cut3]
      exact q t2 _ (sm_none s2 n2) (s2.trans (same_new n2)) upd_same
    · refine ⟨_, rfl, t, _, rfl, SqT.of e, by simp [HT.sIx], fun t2 n2 => ?_⟩
      rw [cut3]
      exact h3 v H1 h t2 _ (sm_none s2 n2) (s2.trans (same_new n2)) upd_same
end
/-- an integer that is no node -/
def spStrange : Sp := fun vs H Q _ => ∃ (d l : Addr) (n : Nat), vs = [.ref d, vi n] ∧ DrawAt H d l ∧ n ≤ 1000 ∧ ∀ (z : Int) H', (z < 0 ∨ (n : Int) ≤ z) → -2000000000 ≤ z → z ≤ 2000000000 → DrawAt H' d l → Sb d H H' → Q (.int z) H'
section
variable {P : Program} {w : World} {K : PySem.W.Frag} {mg : Str → Option Value} {base : Heap}
def spNumX (C : Addr) : Sp := fun vs H Q E => ∃ (n x : Int), vs = [.int n, .int x] ∧ (x < 0 ∨ n ≤ x) ∧ x.natAbs.log2 < 1920 ∧ Flies H E C "node" "NoNode" (.int x)
end
def spLawT (K : PySem.W.Frag) (PT : Addr) : Sp := fun vs H Q _ => ∃ (a : Addr) (ns : List Int), vs = [.ref a] ∧ H PT = some (.tbl #[]) ∧ SqL K H a (ns.map V.int) ∧ ns.length ≤ 63 ∧ ∀ H1, Q (.bl true) H1
/-- a second find of the same node -/
theorem again_same {n : Nat} {p r : Nat → Nat} (F : Fo n p r) {x : Nat} (hx : x < n) (v : Nat) (hv : v < n) : fnd n (fnd n p x) x v = fnd n p x v := by
  have h := behind_same F (l := [x]) (m := [x, x]) (by intro y hy; rw [List.mem_singleton.mp hy]; exact hx) (fun y => by simp) v hv
  exact h
theorem again_cost {n : Nat} {p r : Nat → Nat} (F : Fo n p r) {x : Nat} (hx : x < n) : (ups (fnd n p x) n x).length = low p x := by
  have h1 := cost_total F [x] (by intro y hy; rw [List.mem_singleton.mp hy]; exact hx)
  have h2 := cost_total F [x, x] (by intro y hy; simp at hy; rw [hy]; exact hx)
  have e : (List.range n).countP (fun v => deep p v && markB n p [x, x] v) = (List.range n).countP (fun v => deep p v && markB n p [x] v) := by
    refine List.countP_congr fun v _ => ?_
    rw [mark_same (n := n) (p := p) (l := [x, x]) (m := [x]) (fun y => by simp) v]
  rw [e] at h2
  simp only [costs, List.sum_cons, List.sum_nil, List.map_cons, List.map_nil] at h1 h2
  omega
theorem low_min {n : Nat} {p r : Nat → Nat} (F : Fo n p r) {x : Nat} (hx : x < n) : (if ((ups p n x).length : Int) < 1 then ((ups p n x).length : Int) else 1) = ((low p x : Nat) : Int) := by
  unfold low
  by_cases e : p x = x
  · rw [if_pos e, ups_of e]; simp
  · rw [if_neg e, ups_n F hx e, List.length_cons, if_neg (by omega)]; rfl
/-- all but tables stays, but what stands at d -/
theorem tabs_sb {T : List (Addr × Str)} {H H1 : Hp} {d : Addr} (t : Tabs T H) (s : Sb d H H1) (nd : ∃ xs, H d = some (.lst xs)) : Tabs T H1 := by
  obtain ⟨xs, hd⟩ := nd
  intro p hp
  obtain ⟨ps, h1, h2, h3⟩ := t p hp
  refine ⟨ps, s _ _ (ne_of h1 hd (by intro z; cases z)) h1, h2, fun pos cv hc => ?_⟩
  obtain ⟨c, e1, e2⟩ := h3 pos cv hc
  exact ⟨c, e1, s _ _ (ne_of e2 hd (by unfold CodeO; intro z; cases z)) e2⟩
theorem DrawAt.lst {H : Hp} {d l : Addr} (D : DrawAt H d l) : ∃ xs, H d = some (.lst xs) := by
  obtain ⟨ns, i, j, k, h, _⟩ := D
  exact ⟨_, h⟩
theorem DrawAt.ext {H H1 : Hp} {d l : Addr} (D : DrawAt H d l) (s : ExtN H H1) : DrawAt H1 d l := by
  obtain ⟨ns, i, j, k, h, h2, r⟩ := D
  exact ⟨ns, i, j, k, s _ _ h (by intro ps z; cases z), s _ _ h2 (by intro ps z; cases z), r⟩
theorem shaped_err {x : Str} (h : PyData.strOk x = true) (z : Int) : SeqAt.shaped (.tuple [.str x, .int z]) = true := by
  unfold SeqAt.shaped
  simp [PyData.canLay0, PyData.canLayAll0, PyData.depth, PyData.depthAll, h]
theorem bits_ok {z : Int} (h1 : -2000000000 ≤ z) (h2 : z ≤ 2000000000) : z.natAbs.log2 < 1920 := by
  by_cases h0 : z.natAbs = 0
  · rw [h0]; decide
  · refine (Nat.log2_lt h0).mpr (Nat.lt_of_le_of_lt (show z.natAbs ≤ 2000000000 by omega) ?_)
    exact Nat.lt_of_lt_of_le (show 2000000000 < 2 ^ 31 by decide) (Nat.pow_le_pow_right (by decide) (by decide))
/-- what a find answers, as data -/
def dFind (n : Nat) (q : Nat → Nat) (c : Nat) : PyData := .tuple [.tuple ((intsOf n q).map PyData.int), .int (c : Int)]
theorem dp_find {K : PySem.W.Frag} {H : Hp} {t g : Addr} {n c : Nat} {q : Nat → Nat} (h1 : H t = some (.tup [.ref g, vi c])) (h2 : SqT K H g (tupOf n q)) : Dp K H (.ref t) (dFind n q c) := by
  rw [tupOf_ints] at h2
  exact .tup (SqT.of h1) (.cons (.tup h2 (dpAll_ints _)) (.cons (.int _) .nil))
theorem sm_forest {n k : Nat} (h : n ≤ 1000) (q : Nat → Nat) : Sm (k + 1) (.tuple ((intsOf n q).map PyData.int)) := by
  refine .tup (by rw [List.length_map]; unfold intsOf; rw [List.length_map, List.length_range]; omega) fun d hd => ?_
  obtain ⟨i, _, e⟩ := List.mem_map.mp hd
  rw [← e]; exact .int _ _
theorem sm_find {n k : Nat} (h : n ≤ 1000) (q : Nat → Nat) (c : Nat) : Sm (k + 2) (dFind n q c) := by
  refine .tup (by show 2 ≤ 1000; decide) fun d hd => ?_
  rcases List.mem_cons.mp hd with z | z
  · rw [z]; exact sm_forest h q
  · rw [List.mem_singleton.mp z]; exact .int _ _
theorem cut_take (zs : List V) (j : Nat) : cutV zs none (some (j : Int)) = zs.take j := by
  unfold cutV
  rw [HT.sIx_none, HT.sIx_nat, List.drop_zero, Nat.sub_zero]
  by_cases h : j ≤ zs.length
  · rw [Nat.min_eq_left h]
  · rw [Nat.min_eq_right (by omega), List.take_of_length_le (Nat.le_refl _), List.take_of_length_le (by omega)]
theorem cut_drop (zs : List V) (j : Nat) : cutV zs (some (j : Int)) none = zs.drop j := by
  unfold cutV
  rw [HT.sIx_none, HT.sIx_nat]
  by_cases h : j ≤ zs.length
  · rw [Nat.min_eq_left h]
    exact List.take_of_length_le (by rw [List.length_drop]; omega)
  · rw [Nat.min_eq_right (by omega), List.drop_eq_nil_of_le (Nat.le_refl _), List.drop_eq_nil_of_le (by omega)]
    simp
/-- what a list of finds answers, as data -/
def dFindAll (n : Nat) (q : Nat → Nat) (cs : List Nat) : PyData := .tuple [.tuple ((intsOf n q).map PyData.int), .list ((cs.map fun n : Nat => (n : Int)).map PyData.int)]
theorem dp_nats {K : PySem.W.Frag} {H : Hp} {a : Addr} {l : List Nat} (h : SqL K H a (natsV l)) : Dp K H (.ref a) (.list ((l.map fun n : Nat => (n : Int)).map PyData.int)) := by
  rw [natsI] at h
  exact .lst h (dpAll_ints _)
theorem dp_forest {K : PySem.W.Frag} {H : Hp} {a : Addr} {n : Nat} {p : Nat → Nat} (h : SqT K H a (tupOf n p)) : Dp K H (.ref a) (.tuple ((intsOf n p).map PyData.int)) := by
  rw [tupOf_ints] at h
  exact .tup h (dpAll_ints _)
theorem dp_findAll {K : PySem.W.Frag} {H : Hp} {t g c : Addr} {n : Nat} {q : Nat → Nat} {cs : List Nat} (h1 : H t = some (.tup [.ref g, .ref c])) (h2 : SqT K H g (tupOf n q)) (h3 : SqL K H c (natsV cs)) : Dp K H (.ref t) (dFindAll n q cs) :=
  .tup (SqT.of h1) (.cons (dp_forest h2) (.cons (dp_nats h3) .nil))
theorem sm_ints {k : Nat} {l : List Int} (h : l.length ≤ 1000) : Sm (k + 1) (.list (l.map PyData.int)) := by
  refine .lst (by rw [List.length_map]; exact h) fun d hd => ?_
  obtain ⟨i, _, e⟩ := List.mem_map.mp hd
  rw [← e]; exact .int _ _
theorem sm_findAll {n k : Nat} (h : n ≤ 1000) (q : Nat → Nat) {cs : List Nat} (hc : cs.length ≤ 1000) : Sm (k + 2) (dFindAll n q cs) := by
  refine .tup (by show 2 ≤ 1000; decide) fun d hd => ?_
  rcases List.mem_cons.mp hd with z | z
  · rw [z]; exact sm_forest h q
  · rw [List.mem_singleton.mp z]; exact sm_ints (by rw [List.length_map]; exact hc)
/-- a list that does not stand in the draws' cell -/
theorem DrawAt.nel2 {H : Hp} {d l a : Addr} {xs : List V} (D : DrawAt H d l) (h : H a = some (.lst xs)) (n : a ≠ d) : True := trivial
/-- find_all: all nodes of a list or tuple found, or the first that is none raised -/
def spFindAllB (K : PySem.W.Frag) (C : Addr) : Sp := fun vs H Q E => ∃ (k : Bool) (a b : Addr) (n : Nat) (p r : Nat → Nat) (xs : List Int) (good : List Nat), vs = [.ref a, .ref b] ∧ SqT K H a (tupOf n p) ∧ Kd k K H b (xs.map V.int) ∧ n ≤ 1000 ∧ xs.length ≤ 1000 ∧ Fo n p r ∧
  NodesEnd xs n good (∀ (t g c : Addr) H', H t = none → H c = none → (g = a ∨ H g = none) → H' t = some (.tup [.ref g, .ref c]) → SqT K H' g (tupOf n (fndAll n good p)) → H' c = some (.lst (natsV (costs n good p))) → Same H H' → Q (.ref t) H')
    (fun z => Flies H E C "node" "NoNode" (.int z))
section
variable {P : Program} {w : World} {K : PySem.W.Frag} {mg : Str → Option Value} {base : Heap}
theorem flies_same {H H1 : Hp} {E : XK} {C : Addr} {fld tag : Str} {v : V} (h : Flies H E C fld tag v) (s : Same H H1) : Flies H1 E C fld tag v := fun d H2 n e s2 => h d H2 (sm_none s n) e (s.trans s2)
end
section
variable {P : Program} {w : World} {K : PySem.W.Frag} {mg : Str → Option Value} {base : Heap}
theorem same_ext {H H1 : Hp} (s : Same H H1) : ExtN H H1 := fun b o e _ => s b o e
end
section
variable {P : Program} {w : World} {K : PySem.W.Frag} {mg : Str → Option Value} {base : Heap}
/-- what is asked raises: the law's reader answers with the tag and the field -/
theorem ask_no {X : Cx} {kk : Nat} {D : Lam X kk} {f C CF CM : Addr} {σ : L2.St} {H : Hp} {Q : VK} {x fld tag : Str} {v : V} {lv : Nat} (R : Raisable P w K mg base lv x C fld tag) (hex : PySem.W.exmAny K (.ref C) [.ref CF, .ref CM] = some true) (tg : TagOk tag fld) (hA : D.At f H)
    (hc : ∀ Ha E, Same H Ha → Flies Ha E C fld tag v → D.tb E σ Ha fun _ _ => False) (q : ∀ t H2, H t = none → Same H H2 → H2 t = some (.tup [.str tag, v]) → Q (.ref t) H2) : TTerr K CF CM (D.does f σ) H Q := by
  intro Ha sa
  refine ⟨fun cls d H1 => cls = .ref C ∧ ∃ dd, d = some dd ∧ H1 dd = some (.xd [(fld, v), ("tag", .str tag)]) ∧ Same Ha H1, fun _ _ => False, ⟨D.same hA (same_ext sa), hc Ha _ sa fun dd H1 n1 h1 s1 => ⟨rfl, dd, rfl, h1, s1⟩⟩, ?_, fun _ _ h => h.elim⟩
  rintro cls d H1 ⟨rfl, dd, rfl, hdd, s1⟩
  exact ⟨hex, tag, fld, v, ⟨C, dd, rfl, R.xf, R.nt, R.nf, rfl, hdd⟩, tg, fun t H2 n s2 e => q t H2 (sm_none (sa.trans s1) n) ((sa.trans s1).trans s2) e⟩
end
section
variable {P : Program} {w : World} {K : PySem.W.Frag} {mg : Str → Option Value} {base : Heap}
theorem wipe_one {σ : L2.St} {i : Nat} {x : Option V} : wipe ((wipe σ [i]).set i x) [i] = wipe σ [i] := by
  show ((σ.set i none).set i x).set i none = σ.set i none
  rw [List.set_set, List.set_set]
end
section
variable {P : Program} {w : World} {K : PySem.W.Frag} {mg : Str → Option Value} {base : Heap}
/-- a list of lambdas, each raising the same -/
theorem asks_no {X : Cx} {kk j lv : Nat} (σ : L2.St) {H : Hp} {C CF CM la D : Addr} (fs : List Addr) {Qd : Hp → Prop} {x fld tag : Str} {v : V} (R : Raisable P w K mg base lv x C fld tag) (hex : PySem.W.exmAny K (.ref C) [.ref CF, .ref CM] = some true) (tg : TagOk tag fld) (hl : H la = some (.lst (fs.map V.ref))) (nD : H D = none) (hj : j < σ.length) (hm : fs.length ≤ 1000)
    (hf : ∀ f ∈ fs, ∃ L : Lam X kk, L.At f H ∧ ∀ Ha E, Same H Ha → Flies Ha E C fld tag v → L.tb E σ Ha fun _ _ => False)
    (q : ∀ (ts : List Addr) H1, ts.length = fs.length → H1 D = some (.lst (ts.map V.ref)) → (∀ t ∈ ts, H1 t = some (.tup [.str tag, v])) → Same H H1 → Qd H1) :
    ∃ W : Nat → Nat → Hp → Prop, (∃ m, W 0 m (upd H D (.lst []))) ∧ ∀ i m H, W i m H →
      ((Itl K la).stop i H ∧ Qd H) ∨ ((Itl K la).go i H ∧ ∃ Nx : Hp → Prop, (∀ H', Nx H' → ∃ m', m' < m ∧ W (i + 1) m' H') ∧ ∀ x H', (Itl K la).yld i H x H' → gName j x (wipe σ [j]) H' fun σ2 H2 => wipe σ2 [j] = wipe σ [j] ∧ tYes σ2 H2 fun b H3 =>
        if b = true then (∃ (f : Addr) (L : Lam X kk), σ2[j]? = some (some (.ref f)) ∧ TTerr K CF CM (L.does f σ) H3 fun y H4 => ∃ acc, H4 D = some (.lst acc) ∧ acc.length < sizeLine ∧ Nx (upd H4 D (.lst (acc ++ [y])))) else Nx H3) := by
  refine lc_list (K := K) (a := la) (xs := fs.map V.ref) (g := gName j) (tt := tYes) (te := fun σ1 H1 Q => ∃ (f : Addr) (D : Lam X kk), σ1[j]? = some (some (.ref f)) ∧ TTerr K CF CM (D.does f σ) H1 Q) (vs := [j]) (σ := σ) (Qd := Qd) (fun i H1 => ∃ ts : List Addr, ts.length = i ∧ H1 D = some (.lst (ts.map V.ref)) ∧ (∀ t ∈ ts, H1 t = some (.tup [.str tag, v])) ∧ Same H H1)
    ⟨[], rfl, upd_same, by simp, same_new nD⟩ (fun i H1 _ h => h.elim fun ts h => SqL.of (h.2.2.2 _ _ hl)) ?_ ?_
  · rintro k y H1 hy ⟨ts, hlen, hD, hts, s1⟩
    rw [List.getElem?_map] at hy
    obtain ⟨f, hff, rfl⟩ := Option.map_eq_some_iff.mp hy
    obtain ⟨L, hA, hc⟩ := hf f (List.mem_of_getElem? hff)
    have hk : k < fs.length := (List.getElem?_eq_some_iff.mp hff).1
    refine ⟨wipe_one, f, L, List.getElem?_set_self (by rw [wipe_length]; exact hj), ?_⟩
    refine ask_no R hex tg (L.same hA (same_ext s1)) (fun Ha E sa fl => hc Ha E (s1.trans sa) fl) fun t H2 nt s2 e => ?_
    have nDt : t ≠ D := (ne_of_none hD nt).symm
    refine ⟨_, s2 _ _ hD, by rw [List.length_map, hlen]; exact Nat.lt_of_le_of_lt (show k ≤ 1000 by omega) (by decide), ts ++ [t], by rw [List.length_append, hlen]; rfl, by rw [upd_same, List.map_append]; rfl, fun t2 h2 => ?_, same_over (s1.trans s2) nD⟩
    rcases List.mem_append.mp h2 with h2 | h2
    · have e2 := hts t2 h2
      rw [upd_ne (ne_of e2 hD (by intro z; cases z))]
      exact s2 _ _ e2
    · rw [List.mem_singleton.mp h2, upd_ne nDt]
      exact e
  · rintro H1 ⟨ts, hlen, hD, hts, s1⟩
    rw [List.length_map] at hlen
    exact q ts H1 hlen hD hts s1
end
section
variable {P : Program} {w : World} {K : PySem.W.Frag} {mg : Str → Option Value} {base : Heap}
/-- such answers as data -/
def dErrs (m : Nat) (tag : Str) (z : Int) : PyData := .list (List.replicate m (.tuple [.str tag, .int z]))
end
section
variable {P : Program} {w : World} {K : PySem.W.Frag} {mg : Str → Option Value} {base : Heap}
theorem dp_errs {H : Hp} {tag : Str} {z : Int} : ∀ {ts : List Addr}, (∀ t ∈ ts, H t = some (.tup [.str tag, .int z])) → DpAll K H (ts.map V.ref) (List.replicate ts.length (.tuple [.str tag, .int z]))
  | [], _ => .nil
  | t :: r, h => .cons (.tup (SqT.of (h t List.mem_cons_self)) (.cons (.str _) (.cons (.int _) .nil))) (dp_errs fun u hu => h u (List.mem_cons_of_mem _ hu))
end
section
variable {P : Program} {w : World} {K : PySem.W.Frag} {mg : Str → Option Value} {base : Heap}
theorem shaped_errs {m : Nat} {tag : Str} (h : PyData.strOk tag = true) (hm : m ≤ 4) (z : Int) : SeqAt.shaped (dErrs m tag z) = true := by
  unfold SeqAt.shaped dErrs
  match m, hm with
  | 0, _ => simp [List.replicate, PyData.canLay0, PyData.canLayAll0, PyData.depth, PyData.depthAll, h]
  | 1, _ => simp [List.replicate, PyData.canLay0, PyData.canLayAll0, PyData.depth, PyData.depthAll, h]
  | 2, _ => simp [List.replicate, PyData.canLay0, PyData.canLayAll0, PyData.depth, PyData.depthAll, h]
  | 3, _ => simp [List.replicate, PyData.canLay0, PyData.canLayAll0, PyData.depth, PyData.depthAll, h]
  | 4, _ => simp [List.replicate, PyData.canLay0, PyData.canLayAll0, PyData.depth, PyData.depthAll, h]
end
abbrev linkN : List Str := ["forest", "child", "above", "parents"]
abbrev uniteN : List Str := ["forest", "one", "other", "found", "costs", "child", "above"]
/-- what check_root answers -/
def spChkRB (K : PySem.W.Frag) (CN CR : Addr) : Sp := fun vs H Q E => ∃ (a : Addr) (n : Nat) (p : Nat → Nat) (x : Int), vs = [.ref a, .int x] ∧ Sq K H a (tupOf n p) ∧ x.natAbs.log2 < 1920 ∧
  ((chkE n p x = none ∧ ∀ H', Same H H' → Q .non H') ∨ (chkE n p x = some false ∧ Flies H E CN "node" "NoNode" (.int x)) ∨ (chkE n p x = some true ∧ Flies H E CR "node" "NotRoot" (.int x)))
def spLinkB (K : PySem.W.Frag) (CN CR CS : Addr) : Sp := fun vs H Q E => ∃ (a : Addr) (n : Nat) (p : Nat → Nat) (x y : Int), vs = [.ref a, .int x, .int y] ∧ Sq K H a (tupOf n p) ∧ n ≤ 1000 ∧ x.natAbs.log2 < 1920 ∧ y.natAbs.log2 < 1920 ∧
  ((chkE n p x = some false ∧ Flies H E CN "node" "NoNode" (.int x)) ∨ (chkE n p x = some true ∧ Flies H E CR "node" "NotRoot" (.int x)) ∨
   (chkE n p x = none ∧ ((chkE n p y = some false ∧ Flies H E CN "node" "NoNode" (.int y)) ∨ (chkE n p y = some true ∧ Flies H E CR "node" "NotRoot" (.int y)) ∨
     (chkE n p y = none ∧ ((x = y ∧ Flies H E CS "node" "SameRoot" (.int x)) ∨ (x ≠ y ∧ ∀ (q : Addr) H', H q = none → H' q = some (.tup (tupOf n (lnk p x.toNat y.toNat))) → Same H H' → Q (.ref q) H'))))))
def uniF (n : Nat) (p : Nat → Nat) (u v : Nat) : Nat → Nat := if root p n u = root p n v then fndAll n [u, v] p else lnk (fndAll n [u, v] p) (root p n u) (root p n v)
def spUniteB (K : PySem.W.Frag) (C : Addr) : Sp := fun vs H Q E => ∃ (a : Addr) (n : Nat) (p r : Nat → Nat) (x y : Int) (good : List Nat), vs = [.ref a, .int x, .int y] ∧ SqT K H a (tupOf n p) ∧ n ≤ 1000 ∧ Fo n p r ∧
  NodesEnd [x, y] n good (∀ u v, good = [u, v] → ∀ (t g : Addr) H', H t = none → H' t = some (.tup [.ref g, vi (costs n [u, v] p).sum]) → SqT K H' g (tupOf n (uniF n p u v)) → Same H H' → Q (.ref t) H') (fun z => Flies H E C "node" "NoNode" (.int z))
theorem bits_small {u : Nat} (h : u < 2000000000) : (u : Int).natAbs.log2 < 1920 := bits_ok (z := (u : Int)) (by omega) (by omega)
theorem chkE_node {n : Nat} {p : Nat → Nat} {x : Int} : (chkE n p x = some false ∧ (x < 0 ∨ (n : Int) ≤ x)) ∨ ∃ u : Nat, x = (u : Int) ∧ u < n ∧ ((chkE n p x = none ∧ p u = u) ∨ (chkE n p x = some true ∧ p u ≠ u)) := by
  unfold chkE
  by_cases h : 0 ≤ x ∧ x < (n : Int)
  · obtain ⟨u, rfl⟩ : ∃ u : Nat, x = u := ⟨x.toNat, by omega⟩
    right
    refine ⟨u, rfl, by omega, ?_⟩
    rw [if_pos h, Int.toNat_natCast]
    by_cases e : p u = u
    · rw [if_pos e]; exact .inl ⟨rfl, e⟩
    · rw [if_neg e]; exact .inr ⟨rfl, e⟩
  · left
    rw [if_neg h]
    exact ⟨rfl, by omega⟩
abbrev linkedN : List Str := ["_law_forest_in", "_law_child_in", "_law_above_in", "_law_node"]
/-- what a link answers, as data -/
def errD (b : Bool) (z : Int) : PyData := .tuple [.none, .str (if b = true then "NotRoot" else "NoNode"), .int z]
def linkD (n : Nat) (p : Nat → Nat) (x y : Int) : PyData := match chkE n p x with
  | some b => errD b x
  | none => match chkE n p y with
    | some b => errD b y
    | none => if x = y then .tuple [.none, .str "SameRoot", .int x] else .tuple [.tuple ((intsOf n (lnk p x.toNat y.toNat)).map PyData.int), .str "", .none]
def spLinked (K : PySem.W.Frag) : Sp := fun vs H Q _ => ∃ (a : Addr) (n : Nat) (p : Nat → Nat) (x y : Int), vs = [.ref a, .int x, .int y] ∧ SqT K H a (tupOf n p) ∧ n ≤ 1000 ∧ ∀ (t : Addr) H', Dp K H' (.ref t) (linkD n p x y) → Same H H' → Q (.ref t) H'
section
variable {P : Program} {w : World} {K : PySem.W.Frag} {mg : Str → Option Value} {base : Heap}
/-- one turn of the law's own check -/
theorem chk_turn {n : Nat} {p : Nat → Nat} {x : Int} {a : Addr} {H : Hp} {A B C D : Prop} (hS : SqT K H a (tupOf n p)) (h : (chkE n p x = some false ∧ A) ∨ (chkE n p x = some true ∧ B) ∨ (chkE n p x = none ∧ C)) : True := trivial
end
abbrev aboveN : List Str := ["forest", "one", "other", "path"]
abbrev rootsN : List Str := ["forest", "node", "parent"]
abbrev kidsN : List Str := ["forest", "node", "child", "parent"]
abbrev subN : List Str := ["forest", "node", "low"]
theorem in_nats (u : Nat) : ∀ l : List Nat, inV (vi u) (natsV l) = decide (u ∈ l)
  | [] => by simp [inV, natsV]
  | x :: l => by
    have ih := in_nats u l
    unfold inV natsV at ih ⊢
    rw [List.map_cons, List.any_cons, ih]
    by_cases e : x = u
    · subst e
      simp [eqV]
    · have h1 : eqV (vi x) (vi u) = false := by
        simp only [eqV]
        simp
        omega
      rw [h1]
      simp [Ne.symm e]
def rootsL (n : Nat) (p : Nat → Nat) : List Nat := (List.range n).filter fun v => decide (p v = v)
def kidsL (n : Nat) (p : Nat → Nat) (v : Nat) : List Nat := (List.range n).filter fun c => decide (p c = v) && !decide (c = v)
def subL (n : Nat) (p : Nat → Nat) (v : Nat) : List Nat := (List.range n).filter fun x => decide (v ∈ path p n x)
theorem filt_le (n : Nat) (g : Nat → Bool) : ((List.range n).filter g).length ≤ n := Nat.le_trans (List.length_filter_le _ _) (by rw [List.length_range]; exact Nat.le_refl _)
theorem filt_succ (k : Nat) (g : Nat → Bool) : (List.range (k + 1)).filter g = (List.range k).filter g ++ if g k = true then [k] else [] := by
  rw [List.range_succ, List.filter_append]
  cases e : g k <;> simp [List.filter, e]
/-- one turn of a filter over nodes -/
theorem filt_turn {k : Nat} {g : Nat → Bool} {H : Hp} {D : Addr} (hk : k < 1000) (hD : H D = some (.lst (natsV ((List.range k).filter g)))) : (natsV ((List.range k).filter g)).length < sizeLine ∧
    (g k = true → ∀ y, y = vi k → upd H D (.lst (natsV ((List.range k).filter g) ++ [y])) D = some (.lst (natsV ((List.range (k + 1)).filter g)))) ∧ (g k = false → H D = some (.lst (natsV ((List.range (k + 1)).filter g)))) := by
  refine ⟨?_, fun e y hy => ?_, fun e => ?_⟩
  · have := filt_le k g
    rw [natsV_len]
    exact Nat.lt_of_le_of_lt (show _ ≤ 1000 by omega) (by decide)
  · rw [upd_same, hy, filt_succ, if_pos e]
    unfold natsV
    rw [List.map_append]
    rfl
  · rw [filt_succ, e]
    simp only [Bool.false_eq_true, if_false, List.append_nil]
    exact hD
def spRootsOf (K : PySem.W.Frag) : Sp := fun vs H Q _ => ∃ (a : Addr) (n : Nat) (p : Nat → Nat), vs = [.ref a] ∧ SqT K H a (tupOf n p) ∧ n ≤ 900 ∧ ∀ (q : Addr) H', H q = none → H' q = some (.lst (natsV (rootsL n p))) → Same H H' → Q (.ref q) H'
/-- a def of a node: its answer, or the node raised -/
def spNodeB (K : PySem.W.Frag) (C : Addr) (F : Nat → (Nat → Nat) → Nat → List Nat) : Sp := fun vs H Q E => ∃ (a : Addr) (n : Nat) (p r : Nat → Nat) (x : Int), vs = [.ref a, .int x] ∧ SqT K H a (tupOf n p) ∧ n ≤ 900 ∧ Fo n p r ∧
  ((∃ u : Nat, x = (u : Int) ∧ u < n ∧ ∀ (q : Addr) H', H q = none → H' q = some (.lst (natsV (F n p u))) → Same H H' → Q (.ref q) H') ∨ ((x < 0 ∨ (n : Int) ≤ x) ∧ x.natAbs.log2 < 1920 ∧ Flies H E C "node" "NoNode" (.int x)))
def spAboveB (K : PySem.W.Frag) (C : Addr) : Sp := fun vs H Q E => ∃ (a : Addr) (n : Nat) (p r : Nat → Nat) (x y : Int) (good : List Nat), vs = [.ref a, .int x, .int y] ∧ SqT K H a (tupOf n p) ∧ n ≤ 900 ∧ Fo n p r ∧
  NodesEnd [x, y] n good (∀ u v, good = [u, v] → ∀ H', Same H H' → Q (.bl (decide (u ≠ v) && decide (u ∈ path p n v))) H') (fun z => Flies H E C "node" "NoNode" (.int z))
section
variable {P : Program} {w : World} {K : PySem.W.Frag} {mg : Str → Option Value} {base : Heap}
theorem out_no {X : Cx} {kk : Nat} {D : Lam X kk} {f C CF CM : Addr} {σ : L2.St} {H : Hp} {Q : VK} {x fld tag : Str} {v : V} {lv : Nat} (R : Raisable P w K mg base lv x C fld tag) (hex : PySem.W.exmAny K (.ref C) [.ref CF, .ref CM] = some true) (tg : TagOk tag fld) (hA : D.At f H)
    (hc : ∀ Ha E, Same H Ha → Flies Ha E C fld tag v → D.tb E σ Ha fun _ _ => False) (q : ∀ t H2, H t = none → Same H H2 → H2 t = some (.tup [.non, .str tag, v]) → Q (.ref t) H2) : TTout K CF CM (D.does f σ) H Q := by
  intro Ha sa
  refine ⟨fun cls d H1 => cls = .ref C ∧ ∃ dd, d = some dd ∧ H1 dd = some (.xd [(fld, v), ("tag", .str tag)]) ∧ Same Ha H1, fun _ _ => False, ⟨D.same hA (same_ext sa), hc Ha _ sa fun dd H1 n1 h1 s1 => ⟨rfl, dd, rfl, h1, s1⟩⟩, ?_, fun _ _ h => h.elim⟩
  rintro cls d H1 ⟨rfl, dd, rfl, hdd, s1⟩
  exact ⟨hex, tag, fld, v, ⟨C, dd, rfl, R.xf, R.nt, R.nf, rfl, hdd⟩, tg, fun t H2 n s2 e => q t H2 (sm_none (sa.trans s1) n) ((sa.trans s1).trans s2) e⟩
end
section
variable {P : Program} {w : World} {K : PySem.W.Frag} {mg : Str → Option Value} {base : Heap}
theorem out_yes {X : Cx} {kk : Nat} {D : Lam X kk} {f CF CM : Addr} {σ : L2.St} {H : Hp} {Q : VK} (Q1 : Hp → VK) (hA : D.At f H) (hc : ∀ Ha, Same H Ha → D.tb (fun _ _ _ => False) σ Ha (Q1 Ha))
    (q : ∀ Ha v H1, Same H Ha → Q1 Ha v H1 → ∀ t H2, H1 t = none → Same H1 H2 → H2 t = some (.tup [v, .str "", .non]) → Q (.ref t) H2) : TTout K CF CM (D.does f σ) H Q := by
  intro Ha sa
  exact ⟨fun _ _ _ => False, Q1 Ha, ⟨D.same hA (same_ext sa), hc Ha sa⟩, fun _ _ _ h => h.elim, fun v H1 h t H2 n s2 e => q Ha v H1 sa h t H2 n s2 e⟩
end
section
variable {P : Program} {w : World} {K : PySem.W.Frag} {mg : Str → Option Value} {base : Heap}
/-- what is asked answers -/
theorem ask_yes {X : Cx} {kk : Nat} {D : Lam X kk} {f CF CM : Addr} {σ : L2.St} {H : Hp} {Q : VK} (hA : D.At f H) (hc : ∀ Ha, Same H Ha → D.tb (fun _ _ _ => False) σ Ha fun _ H1 => Same Ha H1)
    (q : ∀ t H2, H t = none → Same H H2 → H2 t = some (.tup [.str "", .non]) → Q (.ref t) H2) : TTerr K CF CM (D.does f σ) H Q := by
  intro Ha sa
  exact ⟨fun _ _ _ => False, fun _ H1 => Same Ha H1, ⟨D.same hA (same_ext sa), hc Ha sa⟩, fun _ _ _ h => h.elim, fun v H1 h t H2 n s2 e => q t H2 (sm_none (sa.trans h) n) ((sa.trans h).trans s2) e⟩
end
section
variable {P : Program} {w : World} {K : PySem.W.Frag} {mg : Str → Option Value} {base : Heap}
/-- a list of lambdas, each answering -/
theorem asks_yes {X : Cx} {kk j : Nat} (σ : L2.St) {H : Hp} {CF CM la D : Addr} (fs : List Addr) {Qd : Hp → Prop} (hl : H la = some (.lst (fs.map V.ref))) (nD : H D = none) (hj : j < σ.length) (hm : fs.length ≤ 1000)
    (hf : ∀ f ∈ fs, ∃ L : Lam X kk, L.At f H ∧ ∀ Ha, Same H Ha → L.tb (fun _ _ _ => False) σ Ha fun _ H1 => Same Ha H1)
    (q : ∀ (ts : List Addr) H1, ts.length = fs.length → H1 D = some (.lst (ts.map V.ref)) → (∀ t ∈ ts, H1 t = some (.tup [.str "", .non])) → Same H H1 → Qd H1) :
    ∃ W : Nat → Nat → Hp → Prop, (∃ m, W 0 m (upd H D (.lst []))) ∧ ∀ i m H, W i m H →
      ((Itl K la).stop i H ∧ Qd H) ∨ ((Itl K la).go i H ∧ ∃ Nx : Hp → Prop, (∀ H', Nx H' → ∃ m', m' < m ∧ W (i + 1) m' H') ∧ ∀ x H', (Itl K la).yld i H x H' → gName j x (wipe σ [j]) H' fun σ2 H2 => wipe σ2 [j] = wipe σ [j] ∧ tYes σ2 H2 fun b H3 =>
        if b = true then (∃ (f : Addr) (L : Lam X kk), σ2[j]? = some (some (.ref f)) ∧ TTerr K CF CM (L.does f σ) H3 fun y H4 => ∃ acc, H4 D = some (.lst acc) ∧ acc.length < sizeLine ∧ Nx (upd H4 D (.lst (acc ++ [y])))) else Nx H3) := by
  refine lc_list (K := K) (a := la) (xs := fs.map V.ref) (g := gName j) (tt := tYes) (te := fun σ1 H1 Q => ∃ (f : Addr) (D : Lam X kk), σ1[j]? = some (some (.ref f)) ∧ TTerr K CF CM (D.does f σ) H1 Q) (vs := [j]) (σ := σ) (Qd := Qd) (fun i H1 => ∃ ts : List Addr, ts.length = i ∧ H1 D = some (.lst (ts.map V.ref)) ∧ (∀ t ∈ ts, H1 t = some (.tup [.str "", .non])) ∧ Same H H1)
    ⟨[], rfl, upd_same, by simp, same_new nD⟩ (fun i H1 _ h => h.elim fun ts h => SqL.of (h.2.2.2 _ _ hl)) ?_ ?_
  · rintro k y H1 hy ⟨ts, hlen, hD, hts, s1⟩
    rw [List.getElem?_map] at hy
    obtain ⟨f, hff, rfl⟩ := Option.map_eq_some_iff.mp hy
    obtain ⟨L, hA, hc⟩ := hf f (List.mem_of_getElem? hff)
    have hk : k < fs.length := (List.getElem?_eq_some_iff.mp hff).1
    refine ⟨wipe_one, f, L, List.getElem?_set_self (by rw [wipe_length]; exact hj), ?_⟩
    refine ask_yes (L.same hA (same_ext s1)) (fun Ha sa => hc Ha (s1.trans sa)) fun t H2 nt s2 e => ?_
    have nDt : t ≠ D := (ne_of_none hD nt).symm
    refine ⟨_, s2 _ _ hD, by rw [List.length_map, hlen]; exact Nat.lt_of_le_of_lt (show k ≤ 1000 by omega) (by decide), ts ++ [t], by rw [List.length_append, hlen]; rfl, by rw [upd_same, List.map_append]; rfl, fun t2 h2 => ?_, same_over (s1.trans s2) nD⟩
    rcases List.mem_append.mp h2 with h2 | h2
    · have e2 := hts t2 h2
      rw [upd_ne (ne_of e2 hD (by intro z; cases z))]
      exact s2 _ _ e2
    · rw [List.mem_singleton.mp h2, upd_ne nDt]
      exact e
  · rintro H1 ⟨ts, hlen, hD, hts, s1⟩
    rw [List.length_map] at hlen
    exact q ts H1 hlen hD hts s1
end
section
variable {P : Program} {w : World} {K : PySem.W.Frag} {mg : Str → Option Value} {base : Heap}
/-- the same tuple many times, as data -/
def dReps (m : Nat) (d : PyData) : PyData := .list (List.replicate m d)
end
section
variable {P : Program} {w : World} {K : PySem.W.Frag} {mg : Str → Option Value} {base : Heap}
theorem dp_reps {H : Hp} {xs : List V} {ds : List PyData} (hd : DpAll K H xs ds) : ∀ {ts : List Addr}, (∀ t ∈ ts, H t = some (.tup xs)) → DpAll K H (ts.map V.ref) (List.replicate ts.length (.tuple ds))
  | [], _ => .nil
  | t :: r, h => .cons (.tup (SqT.of (h t List.mem_cons_self)) hd) (dp_reps hd fun u hu => h u (List.mem_cons_of_mem _ hu))
end
section
variable {P : Program} {w : World} {K : PySem.W.Frag} {mg : Str → Option Value} {base : Heap}
theorem shaped_reps {m : Nat} {tag : Str} (h : PyData.strOk tag = true) (hm : m ≤ 8) {d : PyData} (hd : d = .none ∨ ∃ z, d = .int z) : SeqAt.shaped (dReps m (.tuple [.str tag, d])) = true := by
  unfold SeqAt.shaped dReps
  have e : ∀ m, PyData.canLayAll0 (List.replicate m (.tuple [.str tag, d])) = true ∧ PyData.depthAll (List.replicate m (.tuple [.str tag, d])) ≤ 2 := by
    intro m
    induction m with
    | zero => exact ⟨by simp [PyData.canLayAll0], by simp [PyData.depthAll]⟩
    | succ m ih =>
      obtain ⟨i1, i2⟩ := ih
      rw [List.replicate_succ]
      refine ⟨?_, ?_⟩
      · rcases hd with rfl | ⟨z, rfl⟩ <;> simp [PyData.canLay0, PyData.canLayAll0, h, i1]
      · rcases hd with rfl | ⟨z, rfl⟩ <;> (rw [PyData.depthAll]; simp only [PyData.depth, PyData.depthAll]; omega)
  obtain ⟨e1, e2⟩ := e m
  simp [PyData.canLay0, PyData.depth, e1]
  omega
end
/-- one given by its place, one by its keyword -/
def swA {α : Type} : List α → List α → List α
  | [a], [b] => [a, b]
  | _, _ => []
theorem swA_rel {vs : List V} {us : List Value} {zs : List V} {ws : List Value} (r : Vals vs us) (s : Vals zs ws) : Vals (swA vs zs) (swA us ws) := by
  cases r with
  | nil => exact .nil
  | cons h1 t1 =>
    cases t1 with
    | cons _ _ => exact .nil
    | nil =>
      cases s with
      | nil => exact .nil
      | cons h2 t2 =>
        cases t2 with
        | nil => exact .cons h1 (.cons h2 .nil)
        | cons _ _ => exact .nil
theorem fun_swA {K : PySem.W.Frag} {x qual : Str} {st : Stmt} {f : Addr} {fd : FuncData} {a b : Str} (F : Fun K x qual st f fd)
    (h : ∀ (kV doc pm : Value) (an : Option Addr) (cdv ct : Value) (u v : Value), bindArgs (PySem.W.fnOf x qual (defArgs st) (defBody st) (defScope st) .none kV doc pm an cdv ct) ⟨[u], [(b, v)]⟩ = pure [(a, u), (b, v)]) : KBinds K fd [a, b] [b] swA swA := by
  obtain ⟨oc, od, kV, doc, pm, an, cdv, ct, osl, rfl, lk, hcd⟩ := F.ex
  refine ⟨fun s us ws _ hl => ?_, swA_rel⟩
  match us, ws, hl with
  | [u], [v], _ => exact .of_eq (h kV doc pm an cdv ct u v)
/-- a list of pairs of ints, each a tuple -/
inductive PrL (H : Hp) : List V → List (Int × Int) → Prop
  | nil : PrL H [] []
  | cons {t : Addr} {xs : List V} {x y : Int} {ps : List (Int × Int)} (h : H t = some (.tup [.int x, .int y])) (r : PrL H xs ps) : PrL H (.ref t :: xs) ((x, y) :: ps)
theorem PrL.same {H H' : Hp} {xs : List V} {ps : List (Int × Int)} (h : PrL H xs ps) (s : Same H H') : PrL H' xs ps := by
  induction h with
  | nil => exact .nil
  | cons h r ih => exact .cons (s _ _ h) ih
theorem PrL.ext {H H' : Hp} {xs : List V} {ps : List (Int × Int)} (h : PrL H xs ps) (s : ExtN H H') : PrL H' xs ps := by
  induction h with
  | nil => exact .nil
  | cons h r ih => exact .cons (s _ _ h (by intro ps z; cases z)) ih
theorem PrL.sb {H H' : Hp} {d : Addr} {xs : List V} {ps : List (Int × Int)} (h : PrL H xs ps) (s : Sb d H H') (hd : ∃ ys, H d = some (.lst ys)) : PrL H' xs ps := by
  obtain ⟨ys, hd⟩ := hd
  induction h with
  | nil => exact .nil
  | cons h r ih => exact .cons (s _ _ (ne_of h hd (by intro z; cases z)) h) ih
theorem PrL.upd {H : Hp} {D : Addr} {acc acc' : List V} {xs : List V} {ps : List (Int × Int)} (h : PrL H xs ps) (hD : H D = some (.lst acc)) : PrL (L2.upd H D (.lst acc')) xs ps := by
  induction h with
  | nil => exact .nil
  | cons h r ih => exact .cons (by rw [upd_ne (ne_of h hD (by intro z; cases z))]; exact h) ih
theorem PrL.len {H : Hp} {xs : List V} {ps : List (Int × Int)} (h : PrL H xs ps) : xs.length = ps.length := by
  induction h with
  | nil => rfl
  | cons h r ih => simp [ih]
theorem PrL.app {H : Hp} {xs ys : List V} {ps qs : List (Int × Int)} (h : PrL H xs ps) (h2 : PrL H ys qs) : PrL H (xs ++ ys) (ps ++ qs) := by
  induction h with
  | nil => exact h2
  | cons h r ih => exact .cons h ih
theorem PrL.get {H : Hp} {xs : List V} {ps : List (Int × Int)} (h : PrL H xs ps) : ∀ {i : Nat} {v : V}, xs[i]? = some v → ∃ t x y, v = .ref t ∧ ps[i]? = some (x, y) ∧ H t = some (.tup [.int x, .int y]) := by
  induction h with
  | nil => intro i v e; simp at e
  | cons h r ih =>
    intro i v e
    cases i with
    | zero => exact ⟨_, _, _, (Option.some.inj e).symm, rfl, h⟩
    | succ i => exact ih e
theorem PrL.take {H : Hp} {xs : List V} {ps : List (Int × Int)} (h : PrL H xs ps) : ∀ k : Nat, PrL H (xs.take k) (ps.take k) := by
  induction h with
  | nil => intro k; simp; exact .nil
  | cons h r ih =>
    intro k
    cases k with
    | zero => exact .nil
    | succ k => exact .cons h (ih k)
theorem PrL.drop {H : Hp} {xs : List V} {ps : List (Int × Int)} (h : PrL H xs ps) : ∀ k : Nat, PrL H (xs.drop k) (ps.drop k) := by
  induction h with
  | nil => intro k; simp; exact .nil
  | cons h r ih =>
    intro k
    cases k with
    | zero => exact .cons h r
    | succ k => exact ih k
def prD (p : Int × Int) : PyData := .tuple [.int p.1, .int p.2]
theorem PrL.dp {K : PySem.W.Frag} {H : Hp} {xs : List V} {ps : List (Int × Int)} (h : PrL H xs ps) : DpAll K H xs (ps.map prD) := by
  induction h with
  | nil => exact .nil
  | cons h r ih => exact .cons (.tup (SqT.of h) (.cons (.int _) (.cons (.int _) .nil))) ih
theorem prs_lay : ∀ ps : List (Int × Int), PyData.canLayAll0 (ps.map prD) = true ∧ PyData.depthAll (ps.map prD) ≤ 2
  | [] => ⟨by simp [PyData.canLayAll0], by simp [PyData.depthAll]⟩
  | p :: ps => by
    obtain ⟨i1, i2⟩ := prs_lay ps
    rw [List.map_cons]
    refine ⟨by simp [prD, PyData.canLay0, PyData.canLayAll0, i1], ?_⟩
    rw [PyData.depthAll]
    simp only [prD, PyData.depth, PyData.depthAll] at i2 ⊢
    omega
theorem shaped_prs (ps : List (Int × Int)) : SeqAt.shaped (.list (ps.map prD)) = true := by
  obtain ⟨e1, e2⟩ := prs_lay ps
  unfold SeqAt.shaped
  simp [PyData.canLay0, PyData.depth, e1]
  omega
theorem shaped_pr (p : Int × Int) : SeqAt.shaped (prD p) = true := by
  unfold SeqAt.shaped prD
  simp [PyData.canLay0, PyData.canLayAll0, PyData.depth, PyData.depthAll]
theorem eqv_pr (p q : Int × Int) : PyData.eqv (prD p) (prD q) = decide (p = q) := by
  obtain ⟨a, b⟩ := p
  obtain ⟨c, d⟩ := q
  unfold prD
  simp [PyData.eqv, PyData.eqvAll, Prod.mk.injEq]
  rfl
theorem eqv_prs_nil : ∀ ps : List (Int × Int), PyData.eqv (.list (ps.map prD)) (.list []) = decide (ps = [])
  | [] => by simp [PyData.eqv, PyData.eqvAll]
  | p :: ps => by simp [PyData.eqv, PyData.eqvAll]
theorem any_prs (ps : List (Int × Int)) (p : Int × Int) : ((ps.map prD).any fun z => PyData.eqv z (prD p)) = decide (p ∈ ps) := by
  rw [Bool.eq_iff_iff, List.any_map, List.any_eq_true, decide_eq_true_iff]
  constructor
  · rintro ⟨x, hx, e⟩
    have e : PyData.eqv (prD x) (prD p) = true := e
    rw [eqv_pr] at e
    rw [← of_decide_eq_true e]; exact hx
  · intro h
    exact ⟨p, h, by show PyData.eqv (prD p) (prD p) = true; rw [eqv_pr]; simp⟩
theorem sm_prs {k : Nat} {ps : List (Int × Int)} (h : ps.length ≤ 1000) : Sm (k + 2) (.list (ps.map prD)) := by
  refine .lst (by rw [List.length_map]; exact h) fun d hd => ?_
  obtain ⟨p, _, e⟩ := List.mem_map.mp hd
  rw [← e]
  refine .tup (by show 2 ≤ 1000; decide) fun x hx => ?_
  simp only [List.mem_cons, List.not_mem_nil, or_false] at hx
  rcases hx with z | z <;> rw [z] <;> exact .int _ _
abbrev sIsFnd : Stmt := topS 11
abbrev isFndN : List Str := ["step"]
theorem scIsFnd : FnScope isFndN ["step"] (defScope sIsFnd) := ⟨rfl, rfl, rfl, by decide +kernel, rfl, by decide +kernel, by decide +kernel⟩
abbrev sForm : Stmt := topS 12
abbrev formN : List Str := ["step", "word"]
theorem scForm : FnScope formN ["step", "word"] (defScope sForm) := ⟨rfl, rfl, rfl, by decide +kernel, rfl, by decide +kernel, by decide +kernel⟩
abbrev sIsLnk : Stmt := topS 13
abbrev isLnkN : List Str := ["step"]
theorem scIsLnk : FnScope isLnkN ["step"] (defScope sIsLnk) := ⟨rfl, rfl, rfl, by decide +kernel, rfl, by decide +kernel, by decide +kernel⟩
abbrev sIsRnd : Stmt := topS 14
abbrev isRndN : List Str := ["step"]
theorem scIsRnd : FnScope isRndN ["step"] (defScope sIsRnd) := ⟨rfl, rfl, rfl, by decide +kernel, rfl, by decide +kernel, by decide +kernel⟩
abbrev sMay : Stmt := topS 15
abbrev mayN : List Str := ["step", "depth"]
theorem scMay : FnScope mayN ["step", "depth"] (defScope sMay) := ⟨rfl, rfl, rfl, by decide +kernel, rfl, by decide +kernel, by decide +kernel⟩
abbrev sChkS : Stmt := topS 16
abbrev chkSN : List Str := ["steps", "depth", "pos", "step"]
theorem scChkS : FnScope chkSN ["steps", "depth", "pos"] (defScope sChkS) := ⟨rfl, rfl, rfl, by decide +kernel, rfl, by decide +kernel, by decide +kernel⟩
abbrev sChkH : Stmt := topS 17
abbrev chkHN : List Str := ["history"]
theorem scChkH : FnScope chkHN ["history"] (defScope sChkH) := ⟨rfl, rfl, rfl, by decide +kernel, rfl, by decide +kernel, by decide +kernel⟩
abbrev findsN : List Str := ["steps", "total", "step"]
abbrev cntFN : List Str := ["history"]
def ob (kd : Bool) (xs : List V) : HO := if kd = true then .lst xs else .tup xs
theorem ob_kd {kd : Bool} {K : PySem.W.Frag} {H : Hp} {a : Addr} {xs : List V} (h : H a = some (ob kd xs)) : Kd kd K H a xs := by
  cases kd
  · exact Kd.t (SqT.of h)
  · exact Kd.l (SqL.of h)
theorem ob_sq {kd : Bool} {K : PySem.W.Frag} {H : Hp} {a : Addr} {xs : List V} (h : H a = some (ob kd xs)) : Sq K H a xs := by
  cases kd
  · exact .inr (SqT.of h)
  · exact .inl (SqL.of h)
mutual
/-- a value that is a step -/
inductive StAt (H : Hp) : V → Stp → Prop
  | fnd (z : Int) : StAt H (.int z) (.fnd z)
  | lnk {t : Addr} {c a : Int} : H t = some (.tup [.str "link", .int c, .int a]) → StAt H (.ref t) (.lnk c a)
  | rnd {t b : Addr} {k : Int} {kd : Bool} {xs : List V} {ss : List Stp} : H t = some (.tup [.str "repeat", .int k, .ref b]) → H b = some (ob kd xs) → StsAt H xs ss → StAt H (.ref t) (.rnd k kd ss)
inductive StsAt (H : Hp) : List V → List Stp → Prop
  | nil : StsAt H [] []
  | cons {v : V} {xs : List V} {s : Stp} {ss : List Stp} : StAt H v s → StsAt H xs ss → StsAt H (v :: xs) (s :: ss)
end
mutual
theorem StAt.same {H H' : Hp} (e : Same H H') : ∀ {v : V} {s : Stp}, StAt H v s → StAt H' v s
  | _, _, .fnd z => .fnd z
  | _, _, .lnk h => .lnk (e _ _ h)
  | _, _, .rnd h1 h2 h3 => .rnd (e _ _ h1) (e _ _ h2) (StsAt.same e h3)
theorem StsAt.same {H H' : Hp} (e : Same H H') : ∀ {xs : List V} {ss : List Stp}, StsAt H xs ss → StsAt H' xs ss
  | _, _, .nil => .nil
  | _, _, .cons h r => .cons (StAt.same e h) (StsAt.same e r)
end
theorem ob_tab {kd : Bool} {xs : List V} (ps : Array Value) : ob kd xs ≠ .tbl ps := by cases kd <;> (intro z; cases z)
mutual
theorem StAt.ext {H H' : Hp} (e : ExtN H H') : ∀ {v : V} {s : Stp}, StAt H v s → StAt H' v s
  | _, _, .fnd z => .fnd z
  | _, _, .lnk h => .lnk (e _ _ h (by intro ps z; cases z))
  | _, _, .rnd h1 h2 h3 => .rnd (e _ _ h1 (by intro ps z; cases z)) (e _ _ h2 ob_tab) (StsAt.ext e h3)
theorem StsAt.ext {H H' : Hp} (e : ExtN H H') : ∀ {xs : List V} {ss : List Stp}, StsAt H xs ss → StsAt H' xs ss
  | _, _, .nil => .nil
  | _, _, .cons h r => .cons (StAt.ext e h) (StsAt.ext e r)
end
theorem StAt.not_list {H : Hp} {l : Addr} {ys : List V} {s : Stp} (h : StAt H (.ref l) s) (hl : H l = some (.lst ys)) : False := by
  cases h with
  | lnk h => rw [hl] at h; cases h
  | rnd h _ _ => rw [hl] at h; cases h
theorem DrawAt.ne_steps {H : Hp} {d l b : Addr} {kd : Bool} {xs : List V} {ss : List Stp} (D : DrawAt H d l) (hb : H b = some (ob kd xs)) (h : StsAt H xs ss) : b ≠ d := by
  intro z
  subst z
  obtain ⟨ns, i, j, k, h1, h2, _⟩ := D
  rw [h1] at hb
  cases kd with
  | false => cases Option.some.inj hb
  | true =>
    have hb : some (HO.lst _) = some (HO.lst xs) := hb
    injection hb with hb
    injection hb with hb
    subst hb
    cases h with
    | cons h _ => exact h.not_list h2
mutual
theorem StAt.sb {H H' : Hp} {d l : Addr} (D : DrawAt H d l) (e : Sb d H H') : ∀ {v : V} {s : Stp}, StAt H v s → StAt H' v s
  | _, _, .fnd z => .fnd z
  | _, _, .lnk h => .lnk (e _ _ (D.net h) h)
  | _, _, .rnd h1 h2 h3 => .rnd (e _ _ (D.net h1) h1) (e _ _ (D.ne_steps h2 h3) h2) (StsAt.sb D e h3)
theorem StsAt.sb {H H' : Hp} {d l : Addr} (D : DrawAt H d l) (e : Sb d H H') : ∀ {xs : List V} {ss : List Stp}, StsAt H xs ss → StsAt H' xs ss
  | _, _, .nil => .nil
  | _, _, .cons h r => .cons (StAt.sb D e h) (StsAt.sb D e r)
end
theorem StsAt.len {H : Hp} : ∀ {xs : List V} {ss : List Stp}, StsAt H xs ss → xs.length = ss.length
  | _, _, .nil => rfl
  | _, _, .cons h r => by simp [StsAt.len r]
theorem StsAt.get {H : Hp} : ∀ {xs : List V} {ss : List Stp}, StsAt H xs ss → ∀ {i : Nat} {v : V}, xs[i]? = some v → ∃ s, ss[i]? = some s ∧ StAt H v s
  | _, _, .nil, i, v, e => by simp at e
  | _, _, .cons h r, 0, v, e => by cases Option.some.inj e; exact ⟨_, rfl, h⟩
  | _, _, .cons h r, i + 1, v, e => StsAt.get r e
theorem StsAt.app {H : Hp} : ∀ {xs ys : List V} {ss rr : List Stp}, StsAt H xs ss → StsAt H ys rr → StsAt H (xs ++ ys) (ss ++ rr)
  | _, _, _, _, .nil, h2 => h2
  | _, _, _, _, .cons h r, h2 => .cons h (StsAt.app r h2)
theorem StsAt.take {H : Hp} : ∀ {xs : List V} {ss : List Stp}, StsAt H xs ss → ∀ k, StsAt H (xs.take k) (ss.take k)
  | _, _, .nil, k => by simp; exact .nil
  | _, _, .cons h r, 0 => .nil
  | _, _, .cons h r, k + 1 => .cons h (StsAt.take r k)
theorem StsAt.drop {H : Hp} : ∀ {xs : List V} {ss : List Stp}, StsAt H xs ss → ∀ k, StsAt H (xs.drop k) (ss.drop k)
  | _, _, .nil, k => by simp; exact .nil
  | _, _, .cons h r, 0 => .cons h r
  | _, _, .cons h r, k + 1 => StsAt.drop r k
def isF : Stp → Bool
  | .fnd _ => true
  | _ => false
def isL : Stp → Bool
  | .lnk _ _ => true
  | _ => false
def isR : Stp → Bool
  | .rnd _ _ _ => true
  | _ => false
def spIsFnd : Sp := fun vs H Q _ => ∃ (v : V) (s : Stp), vs = [v] ∧ StAt H v s ∧ Q (.bl (isF s)) H
def spForm : Sp := fun vs H Q _ => ∃ (v : V) (s : Stp) (lk : Bool), vs = [v, .str (if lk = true then "link" else "repeat")] ∧ StAt H v s ∧ Q (.bl (if lk = true then isL s else isR s)) H
def spIsLnk : Sp := fun vs H Q _ => ∃ (v : V) (s : Stp), vs = [v] ∧ StAt H v s ∧ Q (.bl (isL s)) H
def spIsRnd : Sp := fun vs H Q _ => ∃ (v : V) (s : Stp) (top : Bool), vs = [v] ∧ StAt H v s ∧ Wf top s ∧ ∀ H', Same H H' → Q (.bl (isR s)) H'
def spMay : Sp := fun vs H Q _ => ∃ (v : V) (s : Stp) (dep : Nat), vs = [v, vi dep] ∧ StAt H v s ∧ Wf (decide (dep = 0)) s ∧ dep + nest s ≤ 4 ∧ ∀ H', Same H H' → Q (.bl true) H'
def spChkS (n : Nat) : Sp := fun vs H Q _ => ∃ (kd : Bool) (a : Addr) (xs : List V) (ss : List Stp) (dep pos : Nat), vs = [.ref a, vi dep, vi pos] ∧ H a = some (ob kd xs) ∧ StsAt H xs ss ∧ Wfs (decide (dep = 0)) ss ∧ nests ss ≤ n ∧ dep + nests ss ≤ 4 ∧ pos + nWrs ss ≤ 100 ∧ ∀ H', Same H H' → Q (vi (pos + nWrs ss)) H'
def spChkH (n : Nat) : Sp := fun vs H Q _ => ∃ (kd : Bool) (a : Addr) (xs : List V) (ss : List Stp), vs = [.ref a] ∧ H a = some (ob kd xs) ∧ StsAt H xs ss ∧ Wfs true ss ∧ nests ss ≤ n ∧ n ≤ 4 ∧ nWrs ss ≤ 100 ∧ ∀ H', Same H H' → Q .non H'
def spFinds (n : Nat) : Sp := fun vs H Q _ => ∃ (kd : Bool) (a : Addr) (xs : List V) (ss : List Stp) (top : Bool), vs = [.ref a] ∧ H a = some (ob kd xs) ∧ StsAt H xs ss ∧ Wfs top ss ∧ nests ss ≤ n ∧ nests ss ≤ 10 ∧ nWrs ss ≤ 1000 ∧ ∀ H', Same H H' → Q (.int (nFnds ss)) H'
def spCntF (n : Nat) : Sp := fun vs H Q _ => ∃ (kd : Bool) (a : Addr) (xs : List V) (ss : List Stp), vs = [.ref a] ∧ H a = some (ob kd xs) ∧ StsAt H xs ss ∧ Wfs true ss ∧ nests ss ≤ n ∧ n ≤ 4 ∧ nWrs ss ≤ 100 ∧ ∀ H', Same H H' → Q (.int (nFnds ss)) H'
theorem nWr_pos : ∀ s : Stp, 1 ≤ nWr s
  | .fnd _ => by rw [nWr]; omega
  | .lnk _ _ => by rw [nWr]; omega
  | .rnd _ _ ss => by rw [nWr]; omega
theorem nWrs_take_le (ss : List Stp) (i : Nat) : nWrs (ss.take i) ≤ nWrs ss := by
  have h := nWrs_app (ss.take i) (ss.drop i)
  rw [List.take_append_drop] at h
  omega
theorem nWrs_mem : ∀ {ss : List Stp} {s : Stp}, s ∈ ss → nWr s ≤ nWrs ss
  | x :: l, s, h => by
    rw [nWrs]
    rcases List.mem_cons.mp h with e | h
    · rw [e]; omega
    · have := nWrs_mem h; omega
theorem lim_bits : lim30.natAbs < 2 ^ 100 := by decide
theorem pow_bits : ∀ n : Nat, (lim30 ^ n).natAbs < 2 ^ (100 * n + 1)
  | 0 => by rw [Int.pow_zero]; decide
  | n + 1 => by
    have := wide_lt (pow_bits n) lim_bits
    rw [Int.pow_succ, show 100 * (n + 1) + 1 = 100 * n + 1 + 100 by omega]
    exact this
theorem nFnds_bits {top : Bool} {ss : List Stp} (w : Wfs top ss) (hn : nests ss ≤ 10) (hw : nWrs ss ≤ 1000) : (nFnds ss).natAbs < 2 ^ 1011 := by
  have h0 := nFnds_nonneg ss w
  have h1 := nFnds_le ss w
  have hp : lim30 ^ nests ss ≤ lim30 ^ 10 := pow_mono hn
  have h2 : (nWrs ss : Int) * lim30 ^ nests ss ≤ 1000 * lim30 ^ 10 := Int.mul_le_mul (by omega) hp (Int.pow_nonneg (by have := lim_pos; omega)) (by decide)
  have h3 : (1000 * lim30 ^ 10).natAbs < 2 ^ 1011 := by
    have := wide_lt (i := 1000) (a := 10) (by decide) (pow_bits 10)
    exact this
  exact wide_le h0 (by omega) h3
section
variable {P : Program} {w : World} {K : PySem.W.Frag} {mg : Str → Option Value} {base : Heap}
theorem ok_isFnd {f : Addr} {fd : FuncData} {k : Nat} (F : Fun K "is_find" "is_find" sIsFnd f fd) (TS : TxS mg) : FnOk P w K mg base CX0 (k + 1) f fd ["step"] spIsFnd := by
  refine F.ok scIsFnd (fun vs H Q E h => ?_) (fun cdv A outer s H vs Q E hr h => ?_)
  · obtain ⟨v, st, rfl, _⟩ := h
    rfl
  · obtain ⟨v, st, rfl, hs, q⟩ := h
    refine ⟨_, (pss_one (ps_ret (pe_callB call_isi (by rfl) TS.isinstance (by decide +kernel) (pa_cons (pv 0) (pa_cons (pe_ty (n := "int") (by rfl) TS.int (by decide +kernel)) pa_nil))))), ?_⟩
    cases hs with
    | fnd z => exact ⟨_, rfl, _, _, _, _, _, rfl, .ty _, .base (.int z), kit_ty (r := true) (by decide +kernel), q⟩
    | lnk h => exact ⟨_, rfl, _, _, _, _, _, rfl, .ty _, .base (.tup h), kit_ty (r := false) (by decide +kernel), q⟩
    | rnd h _ _ => exact ⟨_, rfl, _, _, _, _, _, rfl, .ty _, .base (.tup h), kit_ty (r := false) (by decide +kernel), q⟩
end
section
variable {P : Program} {w : World} {K : PySem.W.Frag} {mg : Str → Option Value} {base : Heap}
theorem ok_form {f : Addr} {fd : FuncData} {k : Nat} (F : Fun K "has_form" "has_form" sForm f fd) (T : Tx mg) (TS : TxS mg) : FnOk P w K mg base CX0 (k + 1) f fd ["step", "word"] spForm := by
  refine F.ok scForm (fun vs H Q E h => ?_) (fun cdv A outer s H vs Q E hr h => ?_)
  · obtain ⟨v, st, lk, rfl, _⟩ := h
    rfl
  · obtain ⟨v, st, lk, rfl, hs, q⟩ := h
    refine ⟨_, (pss_one (ps_ret (pe_and (pe_callB call_isi (by rfl) TS.isinstance (by decide +kernel) (pa_cons (pv 0) (pa_cons (pe_ty (n := "tuple") (by rfl) TS.tuple (by decide +kernel)) pa_nil))) (pe_and (pe_cmpR op_eq (pe_callB call_len_seq (by rfl) T.len PySem.boot_len (pa_cons (pv 0) pa_nil)) pe_int (nomark _)) (pe_one (pe_cmpR op_eq (pe_ix (show IxR _ (rIx K) from ix_seq) (pv 0) pe_int (fun _ _ => rfl)) (pv 1) (nomark _))))))), ?_⟩
    cases hs with
    | fnd z => exact ⟨_, rfl, _, _, _, _, _, rfl, .ty _, .base (.int z), kit_ty (r := false) (by decide +kernel), _, rfl, iteF (by cases lk <;> exact q)⟩
    | lnk h =>
      refine ⟨_, rfl, _, _, _, _, _, rfl, .ty _, .base (.tup h), kit_ty (r := true) (by decide +kernel), _, rfl, iteT ?_⟩
      refine ⟨_, rfl, _, _, rfl, .inr (SqT.of h), rfl, _, rfl, iteT ?_⟩
      refine ⟨_, rfl, Sq.ix (.inr (SqT.of h)) rfl ⟨_, rfl, rfl, ?_⟩⟩
      cases lk <;> exact q
    | rnd h _ _ =>
      refine ⟨_, rfl, _, _, _, _, _, rfl, .ty _, .base (.tup h), kit_ty (r := true) (by decide +kernel), _, rfl, iteT ?_⟩
      refine ⟨_, rfl, _, _, rfl, .inr (SqT.of h), rfl, _, rfl, iteT ?_⟩
      refine ⟨_, rfl, Sq.ix (.inr (SqT.of h)) rfl ⟨_, rfl, rfl, ?_⟩⟩
      cases lk <;> exact q
end
section
variable {P : Program} {w : World} {K : PySem.W.Frag} {mg : Str → Option Value} {base : Heap}
theorem ok_isLnk {f fA : Addr} {fd fdA : FuncData} (F : Fun K "is_link" "is_link" sIsLnk f fd) (kA : Kn P w K mg base 1 "has_form" sForm ["step", "word"] spForm fA fdA) (TS : TxS mg) : FnOk P w K mg base CX0 2 f fd ["step"] spIsLnk := by
  refine F.ok scIsLnk (fun vs H Q E h => ?_) (fun cdv A outer s H vs Q E hr h => ?_)
  · obtain ⟨v, st, rfl, _⟩ := h
    rfl
  · obtain ⟨v, st, rfl, hs, q⟩ := h
    have hrm : ∀ {j : Nat}, j ≤ 1 → Room j (A.deeper (envOfC "is_link" (defScope sIsLnk) s.heap.objs.size f cdv)) := fun h => hr.mono h
    refine ⟨_, (pss_one (ps_ret (pe_and (pe_call kA.G (hrm (by omega)) (by rfl) kA.g kA.F.kp kA.b .nil pass0 (pa_cons (pv 0) (pa_cons pe_str pa_nil))) (pe_one (pe_callB call_isi (by rfl) TS.isinstance (by decide +kernel) (pa_cons (pe_ix (show IxR _ (rIx K) from ix_seq) (pv 0) pe_int (fun _ _ => rfl)) (pa_cons (pe_ty (n := "int") (by rfl) TS.int (by decide +kernel)) pa_nil))))))), ?_⟩
    refine ⟨_, rfl, v, st, true, rfl, hs, _, rfl, ?_⟩
    cases hs with
    | fnd z => exact iteF q
    | lnk h => exact iteT ⟨_, rfl, Sq.ix (.inr (SqT.of h)) rfl ⟨_, _, _, _, _, rfl, .ty _, .base (.int _), kit_ty (r := true) (by decide +kernel), q⟩⟩
    | rnd h _ _ => exact iteF q
end
section
variable {P : Program} {w : World} {K : PySem.W.Frag} {mg : Str → Option Value} {base : Heap}
theorem ok_isRnd {f fA : Addr} {fd fdA : FuncData} {tL : Tok} (F : Fun K "is_round" "is_round" sIsRnd f fd) (kA : Kn P w K mg base 1 "has_form" sForm ["step", "word"] spForm fA fdA) (TS : TxS mg) (gL : mg "COUNT_LIMIT" = some (.int 1000000000000000000000000000000 tL)) : FnOk P w K mg base CX0 2 f fd ["step"] spIsRnd := by
  refine F.ok scIsRnd (fun vs H Q E h => ?_) (fun cdv A outer s H vs Q E hr h => ?_)
  · obtain ⟨v, st, top, rfl, _⟩ := h
    rfl
  · obtain ⟨v, st, top, rfl, hs, wf, q⟩ := h
    have hrm : ∀ {j : Nat}, j ≤ 1 → Room j (A.deeper (envOfC "is_round" (defScope sIsRnd) s.heap.objs.size f cdv)) := fun h => hr.mono h
    refine ⟨_, (pss_one (ps_ret (pe_and (pe_call kA.G (hrm (by omega)) (by rfl) kA.g kA.F.kp kA.b .nil pass0 (pa_cons (pv 0) (pa_cons pe_str pa_nil))) (pe_and (pe_callB call_isiT (by rfl) TS.isinstance (by decide +kernel) (pa_cons (pe_ix (show IxR _ (rIx K) from ix_seq) (pv 0) pe_int (fun _ _ => rfl)) (pa_cons (pe_tup (pa_cons (pe_ty (n := "list") (by rfl) TS.list (by decide +kernel)) (pa_cons (pe_ty (n := "tuple") (by rfl) TS.tuple (by decide +kernel)) pa_nil))) pa_nil))) (pe_one (pe_chain op_le op_le pe_int (pe_ix (show IxR _ (rIx K) from ix_seq) (pv 0) pe_int (fun _ _ => rfl)) (pe_glob (v := .int 1000000000000000000000000000000) rfl gL ⟨_, rfl⟩))))))), ?_⟩
    refine ⟨_, rfl, v, st, false, rfl, hs, _, rfl, ?_⟩
    cases hs with
    | fnd z => exact iteF (q H (Same.refl _))
    | lnk h => exact iteF (q H (Same.refl _))
    | @rnd t b k kd xs ss h h2 h3 =>
      rw [Wf] at wf
      refine iteT ⟨_, rfl, Sq.ix (.inr (SqT.of h)) rfl ⟨by show 2 ≤ sizeLine; decide, fun tp ntp => ?_⟩⟩
      have s1 := same_new (o := .tup [V.ty "list", V.ty "tuple"]) ntp
      have e1 : decide ((0 : Int) ≤ k) = true := decide_eq_true wf.1
      have el : lim30 = 1000000000000000000000000000000 := by decide
      have e2 : decide (k ≤ (1000000000000000000000000000000 : Int)) = true := decide_eq_true (el ▸ wf.2.1)
      cases kd with
      | false =>
        refine ⟨_, tp, _, _, _, _, rfl, upd_same, .cons (.ty _) (.cons (.ty _) .nil), tyT (SqT.of (s1 _ _ h2)), kit2 (r := false) (s := true) (by decide +kernel) (by decide +kernel), _, rfl, iteT ?_⟩
        refine ⟨_, rfl, Sq.ix (.inr (SqT.of (s1 _ _ h))) rfl ⟨_, _, rfl, rfl, _, rfl, ?_⟩⟩
        show if decide ((0 : Int) ≤ k) = true then _ else _
        rw [e1]
        refine iteT ⟨_, _, rfl, rfl, ?_⟩
        show Q (.bl (decide (k ≤ (1000000000000000000000000000000 : Int)))) _
        rw [e2]
        exact q _ s1
      | true =>
        refine ⟨_, tp, _, _, _, _, rfl, upd_same, .cons (.ty _) (.cons (.ty _) .nil), tyL (SqL.of (s1 _ _ h2)), kit2 (r := true) (s := false) (by decide +kernel) (by decide +kernel), _, rfl, iteT ?_⟩
        refine ⟨_, rfl, Sq.ix (.inr (SqT.of (s1 _ _ h))) rfl ⟨_, _, rfl, rfl, _, rfl, ?_⟩⟩
        show if decide ((0 : Int) ≤ k) = true then _ else _
        rw [e1]
        refine iteT ⟨_, _, rfl, rfl, ?_⟩
        show Q (.bl (decide (k ≤ (1000000000000000000000000000000 : Int)))) _
        rw [e2]
        exact q _ s1
end
section
variable {P : Program} {w : World} {K : PySem.W.Frag} {mg : Str → Option Value} {base : Heap}
theorem ok_may {f fL fR fF : Addr} {fd fdL fdR fdF : FuncData} {tN : Tok} (F : Fun K "may_stand" "may_stand" sMay f fd) (kL : Kn P w K mg base 2 "is_link" sIsLnk ["step"] spIsLnk fL fdL) (kR : Kn P w K mg base 2 "is_round" sIsRnd ["step"] spIsRnd fR fdR) (kF : Kn P w K mg base 1 "is_find" sIsFnd ["step"] spIsFnd fF fdF) (gN : mg "MAX_NESTING" = some (.int 4 tN)) : FnOk P w K mg base CX0 3 f fd ["step", "depth"] spMay := by
  refine F.ok scMay (fun vs H Q E h => ?_) (fun cdv A outer s H vs Q E hr h => ?_)
  · obtain ⟨v, st, dep, rfl, _⟩ := h
    rfl
  · obtain ⟨v, st, dep, rfl, hs, wf, hd, q⟩ := h
    have hrm : ∀ {j : Nat}, j ≤ 2 → Room j (A.deeper (envOfC "may_stand" (defScope sMay) s.heap.objs.size f cdv)) := fun h => hr.mono h
    refine ⟨_, (pss_cons (ps_if (pt_val (pe_call kL.G (hrm (by omega)) (by rfl) kL.g kL.F.kp kL.b .nil pass0 (pa_cons (pv 0) pa_nil)))
        (pss_one (ps_ret (pe_cmpR op_eq (pv 1) pe_int (nomark _)))) pss_nil)
      (pss_cons (ps_if (pt_val (pe_call kR.G (hrm (by omega)) (by rfl) kR.g kR.F.kp kR.b .nil pass0 (pa_cons (pv 0) pa_nil)))
        (pss_one (ps_ret (pe_cmpR op_lt (pv 1) (pe_glob (v := .int 4) rfl gN ⟨_, rfl⟩) (nomark _)))) pss_nil)
      (pss_one (ps_ret (pe_call kF.G (hrm (by omega)) (by rfl) kF.g kF.F.kp kF.b .nil pass0 (pa_cons (pv 0) pa_nil)))))), ?_⟩
    refine ⟨_, rfl, v, st, rfl, hs, _, rfl, ?_⟩
    cases st with
    | lnk c a =>
      rw [Wf] at wf
      have e : dep = 0 := of_decide_eq_true wf
      subst e
      exact iteT ⟨_, rfl, rfl, q H (Same.refl _)⟩
    | rnd k kd ss =>
      refine iteF ⟨_, rfl, v, _, _, rfl, hs, wf, fun H1 s1 => ⟨_, rfl, iteT ⟨_, rfl, _, _, rfl, rfl, ?_⟩⟩⟩
      rw [nest] at hd
      show Q (.bl (decide ((dep : Int) < 4))) H1
      rw [decide_eq_true (by omega)]
      exact q H1 s1
    | fnd z => exact iteF ⟨_, rfl, v, _, _, rfl, hs, wf, fun H1 s1 => ⟨_, rfl, iteF ⟨_, rfl, v, _, rfl, hs.same s1, q H1 s1⟩⟩⟩
end
section
variable {P : Program} {w : World} {K : PySem.W.Frag} {mg : Str → Option Value} {base : Heap}
theorem ok_chkS {f fM fR : Addr} {fd fdM fdR : FuncData} {tS : Tok} (F : Fun K "check_steps" "check_steps" sChkS f fd) (kM : Kn P w K mg base 3 "may_stand" sMay ["step", "depth"] spMay fM fdM) (kR : Kn P w K mg base 2 "is_round" sIsRnd ["step"] spIsRnd fR fdR) (b : Binds K fd ["steps", "depth", "pos"] []) (g : mg "check_steps" = some (.ref f)) (gS : mg "MAX_STEPS" = some (.int 100 tS)) :
    ∀ n, FnOk P w K mg base CX0 (n + 4) f fd ["steps", "depth", "pos"] (spChkS n) := by
  intro n
  have main : ∀ n, (∀ sp' : Sp, (∀ vs H Q E, sp' vs H Q E → ∃ m, m < n ∧ spChkS m vs H Q E) → FnOk P w K mg base CX0 (n + 3) f fd ["steps", "depth", "pos"] sp') → FnOk P w K mg base CX0 (n + 4) f fd ["steps", "depth", "pos"] (spChkS n) := by
    intro n ih0
    have ih := ih0 (fun vs H Q E => ∃ m, m < n ∧ spChkS m vs H Q E) fun _ _ _ _ h => h
    refine F.ok scChkS (fun vs H Q E h => ?_) (fun cdv A outer s H vs Q E hr h => ?_)
    · obtain ⟨kd0, a, xs, ss, dep, pos, rfl, _⟩ := h
      rfl
    · obtain ⟨kd0, a, xs, ss, dep, pos, rfl, ha, hss, wf, hn, hd, hw, q⟩ := h
      have hrm : ∀ {j : Nat}, j ≤ n + 3 → Room j (A.deeper (envOfC "check_steps" (defScope sChkS) s.heap.objs.size f cdv)) := fun h => hr.mono h
      refine ⟨_, (pss_cons (ps_for PassesOwn.never rfl (pi_kd kd0 (pv 0)) (pg_name (i := 3) scChkS.nd rfl (.inl rfl))
        (pss_cons (ps_if (pt_cmpR op_ge (pv 2) (pe_glob (v := .int 100) rfl gS ⟨_, rfl⟩) (nomark _))
          (pss_one ps_never) pss_nil)
        (pss_cons (ps_if (pt_not (pt_val (pe_call kM.G (hrm (by omega)) (by rfl) kM.g kM.F.kp kM.b .nil pass0 (pa_cons (pv 3) (pa_cons (pv 1) pa_nil)))))
          (pss_one ps_never) pss_nil)
        (pss_cons (ps_aug (i := 2) scChkS.nd rfl (.inl rfl) pe_int ip_add)
        (pss_one (ps_if (pt_val (pe_call kR.G (hrm (by omega)) (by rfl) kR.g kR.F.kp kR.b .nil pass0 (pa_cons (pv 3) pa_nil)))
          (pss_one (ps_set (i := 2) scChkS.nd rfl (.inl rfl) (pe_call ih (hrm (by omega)) (by rfl) g F.kp b .nil pass0 (pa_cons (pe_ix (show IxR _ (rIx K) from ix_seq) (pv 3) pe_int (fun _ _ => rfl)) (pa_cons (pe_op op_add (pv 1) pe_int) (pa_cons (pv 2) pa_nil)))))) pss_nil))))))
      (pss_one (ps_ret (pv 2)))), ?_⟩
      refine for_kd (xs := xs) rfl (ob_kd ha) (fun i σ H' => (∃ y, σ = [some (.ref a), some (vi dep), some (vi (pos + nWrs (ss.take i))), y]) ∧ Same H H') ⟨⟨_, rfl⟩, Same.refl _⟩ (fun i σ H' _ h => ob_kd (h.2 _ _ ha)) ?_ ?_
      · rintro i v σ H' hv ⟨⟨y, rfl⟩, sm⟩
        obtain ⟨st, hst, hat⟩ := hss.get hv
        have hmem := List.mem_of_getElem? hst
        have hti := nWrs_take hst
        have htl := nWrs_take_le ss (i + 1)
        have hp := nWr_pos st
        have hat' := hat.same sm
        have wfs := wfs_mem wf hmem
        have hne := nests_mem hmem
        refine ⟨_, rfl, _, _, rfl, rfl, _, rfl, ?_⟩
        show if decide ((100 : Int) ≤ ((pos + nWrs (ss.take i) : Nat) : Int)) = true then _ else _
        rw [decide_eq_false (by omega)]
        refine iteF ⟨_, rfl, _, rfl, v, st, dep, rfl, hat', wfs, by omega, fun H1 s1 => ⟨_, rfl, iteF ?_⟩⟩
        refine ⟨_, rfl, _, _, rfl, rfl, ?_⟩
        refine ⟨_, rfl, v, st, _, rfl, hat'.same s1, wfs, fun H2 s2 => ⟨_, rfl, ?_⟩⟩
        have s02 := (sm.trans s1).trans s2
        cases st with
        | fnd z =>
          refine iteF ⟨⟨some v, ?_⟩, s02⟩
          rw [hti, nWr]; rfl
        | lnk c a =>
          refine iteF ⟨⟨some v, ?_⟩, s02⟩
          rw [hti, nWr]; rfl
        | rnd k kd2 s2' =>
          have h3 := hat'.same (s1.trans s2)
          cases h3 with
          | @rnd t b2 _ _ ys _ ht hb hsts =>
            rw [Wf] at wfs
            rw [nest] at hne
            rw [nWr] at hti
            refine iteT ⟨_, rfl, Sq.ix (.inr (SqT.of ht)) rfl ⟨_, rfl, _, _, rfl, rfl, _, rfl, nests s2', by omega, kd2, b2, ys, s2', dep + 1, pos + nWrs (ss.take i) + 1, rfl, hb, hsts, ?_, Nat.le_refl _, by omega, by omega, fun H3 s3 => ⟨⟨some (.ref t), ?_⟩, s02.trans s3⟩⟩⟩
            · rw [decide_eq_false (by omega)]; exact wfs.2.2
            · rw [hti, show pos + nWrs (ss.take i) + 1 + nWrs s2' = pos + (nWrs (ss.take i) + (1 + nWrs s2')) by omega]; rfl
      · rintro σ H' ⟨⟨y, rfl⟩, sm⟩
        rw [hss.len, List.take_length]
        exact ⟨_, rfl, q H' sm⟩
  induction n using Nat.strongRecOn with
  | _ n ih =>
    refine main n fun sp' h => ?_
    cases n with
    | zero => exact ⟨fun vs H Q E z => by obtain ⟨m, hm, _⟩ := h _ _ _ _ z; omega, fun A outer s H args us vs Q E hr e0 bb r z => by obtain ⟨m, hm, _⟩ := h _ _ _ _ z; omega⟩
    | succ n =>
      refine FnOk.imp (FnOk.mono (ih n (by omega)) (by omega)) fun vs H Q E z => ?_
      obtain ⟨m, hm, kd, a, xs, ss, dep, pos, e, h1, h2, h3, h4, h5⟩ := h _ _ _ _ z
      exact ⟨kd, a, xs, ss, dep, pos, e, h1, h2, h3, by omega, h5⟩
end
section
variable {P : Program} {w : World} {K : PySem.W.Frag} {mg : Str → Option Value} {base : Heap}
theorem ok_chkH {f fC : Addr} {fd fdC : FuncData} (F : Fun K "check_history" "check_history" sChkH f fd) (n : Nat) (kC : Kn P w K mg base (n + 4) "check_steps" sChkS ["steps", "depth", "pos"] (spChkS n) fC fdC) : FnOk P w K mg base CX0 (n + 5) f fd ["history"] (spChkH n) := by
  refine F.ok scChkH (fun vs H Q E h => ?_) (fun cdv A outer s H vs Q E hr h => ?_)
  · obtain ⟨kd, a, xs, ss, rfl, _⟩ := h
    rfl
  · obtain ⟨kd, a, xs, ss, rfl, ha, hss, wf, hn, hn4, hw, q⟩ := h
    have hrm : ∀ {j : Nat}, j ≤ n + 4 → Room j (A.deeper (envOfC "check_history" (defScope sChkH) s.heap.objs.size f cdv)) := fun h => hr.mono h
    refine ⟨_, (pss_one (ps_expr (pe_call kC.G (hrm (by omega)) (by rfl) kC.g kC.F.kp kC.b .nil pass0 (pa_cons (pv 0) (pa_cons pe_int (pa_cons pe_int pa_nil)))))), ?_⟩
    exact ⟨_, rfl, kd, a, xs, ss, 0, 0, rfl, ha, hss, wf, hn, by omega, by omega, fun H1 s1 => q H1 s1⟩
end
end Ff

namespace Ff
open PySem PySem.Spec PyProof.Rows L2 ExX LamX
abbrev sE_TooLong : Stmt := topS 5
theorem scE_TooLong : FnScope ["self", "limit"] ["self", "limit"] (defScope (initS sE_TooLong)) := ⟨rfl, rfl, rfl, by decide +kernel, rfl, by decide +kernel, by decide +kernel⟩
abbrev sE_BadStep : Stmt := topS 4
theorem scE_BadStep : FnScope ["self", "pos"] ["self", "pos"] (defScope (initS sE_BadStep)) := ⟨rfl, rfl, rfl, by decide +kernel, rfl, by decide +kernel, by decide +kernel⟩
abbrev sE_ParseError : Stmt := topS 6
theorem scE_ParseError : FnScope ["self", "pos"] ["self", "pos"] (defScope (initS sE_ParseError)) := ⟨rfl, rfl, rfl, by decide +kernel, rfl, by decide +kernel, by decide +kernel⟩
section
variable {P : Program} {w : World} {K : PySem.W.Frag} {mg : Str → Option Value} {base : Heap}
theorem ok_E_TooLong {f fM CM : Addr} {fd fdM : FuncData} (F : Fun K "__init__" "TooLong.__init__" (initS sE_TooLong) f fd) (TM : ClsI K CM fM) (gM : mg "ForestError" = some (.ref CM)) (GM : FnOk P w K mg base CX0 1 fM fdM ["self", "tag", "message"] (spTop K "ValueError.__new__" vaTail)) (bM : Binds K fdM ["self", "tag", "message"] []) :
    FnOk P w K mg base CX0 2 f fd ["self", "limit"] (spErrI K "ValueError.__new__" vaTail "limit" "TooLong") := by
  refine F.ok scE_TooLong (fun vs H Q E h => ?_) (fun cdv A outer s H vs Q E hr h => ?_)
  · obtain ⟨a, C, v, rfl, _⟩ := h
    rfl
  · obtain ⟨a, C, v, rfl, ⟨i, rfl, hi⟩, ha, T, nt, nf, q⟩ := h
    refine ⟨_, pss_cons (ps_expr (pe_ci TM GM hr (by rfl) gM bM pass0 (pa_cons (pv 0) (pa_cons pe_str (pa_cons (pe_joined (.cons pe_str (.cons (pe_fmt (pv 1)) .nil))) pa_nil)))))
      (pss_one (ps_st (nid := "ValueError.__new__") PySem.F.store_ValueError (pv 0) (pv 1))), ?_⟩
    have f0 : (Str.empty ++ Str.ofString "the length is greater than ").length ≤ 100 := by decide +kernel
    refine ⟨_, rfl, ⟨_, rfl, fits (by omega), _, rfl, .inr ⟨i, rfl, hi, _, rfl, fits (Nat.le_trans (fits_cat f0 (txt_int hi)) (by decide)), ?_⟩⟩⟩
    refine ⟨a, C, _, _, rfl, ha, T, nt, fun dx n ne => ⟨_, rfl, _, rfl, a, C, rfl, T, nf, .inr ⟨dx, _, upd_same, ?_, by show 1 ≤ 900; decide, q dx n ne⟩⟩⟩
    rw [upd_ne ne, upd_same]
theorem ok_E_BadStep {f fM CM : Addr} {fd fdM : FuncData} (F : Fun K "__init__" "BadStep.__init__" (initS sE_BadStep) f fd) (TM : ClsI K CM fM) (gM : mg "ForestError" = some (.ref CM)) (GM : FnOk P w K mg base CX0 1 fM fdM ["self", "tag", "message"] (spTop K "ValueError.__new__" vaTail)) (bM : Binds K fdM ["self", "tag", "message"] []) :
    FnOk P w K mg base CX0 2 f fd ["self", "pos"] (spErrI K "ValueError.__new__" vaTail "pos" "BadStep") := by
  refine F.ok scE_BadStep (fun vs H Q E h => ?_) (fun cdv A outer s H vs Q E hr h => ?_)
  · obtain ⟨a, C, v, rfl, _⟩ := h
    rfl
  · obtain ⟨a, C, v, rfl, ⟨i, rfl, hi⟩, ha, T, nt, nf, q⟩ := h
    refine ⟨_, pss_cons (ps_expr (pe_ci TM GM hr (by rfl) gM bM pass0 (pa_cons (pv 0) (pa_cons pe_str (pa_cons (pe_joined (.cons pe_str (.cons (pe_fmt (pv 1)) (.cons pe_str .nil)))) pa_nil)))))
      (pss_one (ps_st (nid := "ValueError.__new__") PySem.F.store_ValueError (pv 0) (pv 1))), ?_⟩
    have f0 : (Str.empty ++ Str.ofString "the step at position ").length ≤ 100 := by decide +kernel
    have f1 : (Str.ofString " is none of a history").length ≤ 100 := by decide +kernel
    have l1 := fits_cat f0 (txt_int hi)
    refine ⟨_, rfl, ⟨_, rfl, fits (by omega), _, rfl, .inr ⟨i, rfl, hi, _, rfl, fits (Nat.le_trans l1 (by decide)), _, rfl, fits (Nat.le_trans (fits_cat l1 f1) (by decide)), ?_⟩⟩⟩
    refine ⟨a, C, _, _, rfl, ha, T, nt, fun dx n ne => ⟨_, rfl, _, rfl, a, C, rfl, T, nf, .inr ⟨dx, _, upd_same, ?_, by show 1 ≤ 900; decide, q dx n ne⟩⟩⟩
    rw [upd_ne ne, upd_same]
theorem ok_E_ParseError {f fM CM : Addr} {fd fdM : FuncData} (F : Fun K "__init__" "ParseError.__init__" (initS sE_ParseError) f fd) (TM : ClsI K CM fM) (gM : mg "ForestError" = some (.ref CM)) (GM : FnOk P w K mg base CX0 1 fM fdM ["self", "tag", "message"] (spTop K "ValueError.__new__" vaTail)) (bM : Binds K fdM ["self", "tag", "message"] []) :
    FnOk P w K mg base CX0 2 f fd ["self", "pos"] (spErrI K "ValueError.__new__" vaTail "pos" "ParseError") := by
  refine F.ok scE_ParseError (fun vs H Q E h => ?_) (fun cdv A outer s H vs Q E hr h => ?_)
  · obtain ⟨a, C, v, rfl, _⟩ := h
    rfl
  · obtain ⟨a, C, v, rfl, ⟨i, rfl, hi⟩, ha, T, nt, nf, q⟩ := h
    refine ⟨_, pss_cons (ps_expr (pe_ci TM GM hr (by rfl) gM bM pass0 (pa_cons (pv 0) (pa_cons pe_str (pa_cons (pe_joined (.cons pe_str (.cons (pe_fmt (pv 1)) .nil))) pa_nil)))))
      (pss_one (ps_st (nid := "ValueError.__new__") PySem.F.store_ValueError (pv 0) (pv 1))), ?_⟩
    have f0 : (Str.empty ++ Str.ofString "the text cannot be parsed at ").length ≤ 100 := by decide +kernel
    refine ⟨_, rfl, ⟨_, rfl, fits (by omega), _, rfl, .inr ⟨i, rfl, hi, _, rfl, fits (Nat.le_trans (fits_cat f0 (txt_int hi)) (by decide)), ?_⟩⟩⟩
    refine ⟨a, C, _, _, rfl, ha, T, nt, fun dx n ne => ⟨_, rfl, _, rfl, a, C, rfl, T, nf, .inr ⟨dx, _, upd_same, ?_, by show 1 ≤ 900; decide, q dx n ne⟩⟩⟩
    rw [upd_ne ne, upd_same]
end
end Ff

namespace Ff
open PySem PySem.Spec PyProof.Rows L2 ExX LamX
abbrev sStep : Stmt := topS 36
abbrev stepN : List Str := ["_law_draw", "_law_size", "_law_deep", "_law_count", "_law_steps", "_law_k"]
theorem scStep : FnScope stepN ["_law_draw", "_law_size", "_law_deep"] (defScope sStep) := ⟨rfl, rfl, rfl, by decide +kernel, rfl, by decide +kernel, by decide +kernel⟩
mutual
/-- a value that is a step, all of whose addresses are of a kind -/
inductive StP (N : Addr → Prop) (H : Hp) : V → Stp → Prop
  | fnd (z : Int) : StP N H (.int z) (.fnd z)
  | lnk {t : Addr} {c a : Int} : N t → H t = some (.tup [.str "link", .int c, .int a]) → StP N H (.ref t) (.lnk c a)
  | rnd {t b : Addr} {k : Int} {kd : Bool} {xs : List V} {ss : List Stp} : N t → N b → H t = some (.tup [.str "repeat", .int k, .ref b]) → H b = some (ob kd xs) → StsP N H xs ss → StP N H (.ref t) (.rnd k kd ss)
inductive StsP (N : Addr → Prop) (H : Hp) : List V → List Stp → Prop
  | nil : StsP N H [] []
  | cons {v : V} {xs : List V} {s : Stp} {ss : List Stp} : StP N H v s → StsP N H xs ss → StsP N H (v :: xs) (s :: ss)
end
mutual
theorem StP.at {N : Addr → Prop} {H : Hp} : ∀ {v : V} {s : Stp}, StP N H v s → StAt H v s
  | _, _, .fnd z => .fnd z
  | _, _, .lnk _ h => .lnk h
  | _, _, .rnd _ _ h1 h2 h3 => .rnd h1 h2 (StsP.at h3)
theorem StsP.at {N : Addr → Prop} {H : Hp} : ∀ {xs : List V} {ss : List Stp}, StsP N H xs ss → StsAt H xs ss
  | _, _, .nil => .nil
  | _, _, .cons h r => .cons (StP.at h) (StsP.at r)
end
mutual
theorem StP.mv {N N' : Addr → Prop} {H H' : Hp} (hN : ∀ x, N x → N' x) (e : ∀ x o, N x → H x = some o → (∀ ps, o ≠ .tbl ps) → H' x = some o) : ∀ {v : V} {s : Stp}, StP N H v s → StP N' H' v s
  | _, _, .fnd z => .fnd z
  | _, _, .lnk n h => .lnk (hN _ n) (e _ _ n h (by intro ps z; cases z))
  | _, _, .rnd n1 n2 h1 h2 h3 => .rnd (hN _ n1) (hN _ n2) (e _ _ n1 h1 (by intro ps z; cases z)) (e _ _ n2 h2 ob_tab) (StsP.mv hN e h3)
theorem StsP.mv {N N' : Addr → Prop} {H H' : Hp} (hN : ∀ x, N x → N' x) (e : ∀ x o, N x → H x = some o → (∀ ps, o ≠ .tbl ps) → H' x = some o) : ∀ {xs : List V} {ss : List Stp}, StsP N H xs ss → StsP N' H' xs ss
  | _, _, .nil => .nil
  | _, _, .cons h r => .cons (StP.mv hN e h) (StsP.mv hN e r)
end
theorem StsP.app {N : Addr → Prop} {H : Hp} : ∀ {xs ys : List V} {ss rr : List Stp}, StsP N H xs ss → StsP N H ys rr → StsP N H (xs ++ ys) (ss ++ rr)
  | _, _, _, _, .nil, h2 => h2
  | _, _, _, _, .cons h r, h2 => .cons h (StsP.app r h2)
theorem StsP.len {N : Addr → Prop} {H : Hp} {xs : List V} {ss : List Stp} (h : StsP N H xs ss) : xs.length = ss.length := h.at.len
theorem StsP.get {N : Addr → Prop} {H : Hp} : ∀ {xs : List V} {ss : List Stp}, StsP N H xs ss → ∀ {i : Nat} {v : V}, xs[i]? = some v → ∃ s, ss[i]? = some s ∧ StP N H v s
  | _, _, .nil, i, v, e => by simp at e
  | _, _, .cons h r, 0, v, e => by cases Option.some.inj e; exact ⟨_, rfl, h⟩
  | _, _, .cons h r, i + 1, v, e => StsP.get r e
mutual
/-- all finds are below -/
def InR (n : Nat) : Stp → Prop
  | .fnd z => 0 ≤ z ∧ z < (n : Int)
  | .lnk _ _ => True
  | .rnd _ _ ss => InRs n ss
def InRs (n : Nat) : List Stp → Prop
  | [] => True
  | s :: r => InR n s ∧ InRs n r
end
theorem inRs_of {n : Nat} : ∀ {l : List Stp}, (∀ s ∈ l, InR n s) → InRs n l
  | [], _ => by rw [InRs]; trivial
  | x :: l, h => by
    rw [InRs]
    exact ⟨h x List.mem_cons_self, inRs_of fun s hs => h s (List.mem_cons_of_mem _ hs)⟩
def wrB : Nat → Nat
  | 0 => 1
  | n + 1 => 1 + 3 * wrB n
theorem wrB_mono (n : Nat) : wrB n ≤ wrB (n + 1) := by
  show wrB n ≤ 1 + 3 * wrB n
  omega
theorem nWrs_bound {m : Nat} : ∀ {l : List Stp}, (∀ s ∈ l, nWr s ≤ m) → nWrs l ≤ l.length * m
  | [], _ => by rw [nWrs]; omega
  | x :: l, h => by
    have h1 := h x List.mem_cons_self
    have h2 := nWrs_bound fun s hs => h s (List.mem_cons_of_mem _ hs)
    rw [nWrs, List.length_cons, Nat.succ_mul]
    omega
/-- a drawn step -/
structure Drawn (size deep : Nat) (s : Stp) : Prop where
  wf : Wf false s
  ne : nest s ≤ deep
  wr : nWr s ≤ wrB deep
  inn : InR size s
def spStep (deep : Nat) : Sp := fun vs H Q _ => ∃ (d l : Addr) (size : Nat), vs = [.ref d, vi size, vi deep] ∧ DrawAt H d l ∧ 1 ≤ size ∧ size ≤ 10 ^ 30 ∧
  ∀ (v : V) (s : Stp) H', StP (fun x => H x = none) H' v s → Drawn size deep s → DrawAt H' d l → Sb d H H' → Q v H'
section
variable {P : Program} {w : World} {K : PySem.W.Frag} {mg : Str → Option Value} {base : Heap}
theorem ok_step {f fT fO : Addr} {fd fdT fdO : FuncData} (F : Fun K "_law_step" "_law_step" sStep f fd) (k1 : Kn P w K mg base 1 "_law_take" sTake ["_law_draw", "_law_many"] spTake fT fdT) (k2 : Kn P w K mg base 2 "_law_of" sOf ["_law_draw", "_law_some"] (spOf K) fO fdO) (b : Binds K fd ["_law_draw", "_law_size", "_law_deep"] []) (g : mg "_law_step" = some (.ref f)) (T : Tx mg) :
    ∀ n, FnOk P w K mg base CX0 (n + 3) f fd ["_law_draw", "_law_size", "_law_deep"] (spStep n) := by
  intro n
  have main : ∀ n, (∀ sp' : Sp, (∀ vs H Q E, sp' vs H Q E → ∃ m, n = m + 1 ∧ spStep m vs H Q E) → FnOk P w K mg base CX0 (n + 2) f fd ["_law_draw", "_law_size", "_law_deep"] sp') → FnOk P w K mg base CX0 (n + 3) f fd ["_law_draw", "_law_size", "_law_deep"] (spStep n) := by
    intro n ih0
    have ih := ih0 (fun vs H Q E => ∃ m, n = m + 1 ∧ spStep m vs H Q E) fun _ _ _ _ h => h
    refine F.ok scStep (fun vs H Q E h => ?_) (fun cdv A outer s H vs Q E hr h => ?_)
    · obtain ⟨d, l, size, rfl, _⟩ := h
      rfl
    · obtain ⟨d, l, size, rfl, hD, hs1, hs2, q⟩ := h
      have hrm : ∀ {j : Nat}, j ≤ n + 2 → Room j (A.deeper (envOfC "_law_step" (defScope sStep) s.heap.objs.size f cdv)) := fun h => hr.mono h
      refine ⟨_, (pss_cons (ps_if (PW.pt (pw_or (pt_cmpR op_eq (pv 2) pe_int (nomark _)) (pw_or1 (pt_cmpR op_gt (pe_call k1.G (hrm (by omega)) (by rfl) k1.g k1.F.kp k1.b .nil pass0 (pa_cons (pv 0) (pa_cons pe_int pa_nil))) pe_int (nomark _)))))
        (pss_one (ps_ret (pe_call k1.G (hrm (by omega)) (by rfl) k1.g k1.F.kp k1.b .nil pass0 (pa_cons (pv 0) (pa_cons (pv 1) pa_nil))))) pss_nil)
      (pss_cons (ps_set (i := 3) scStep.nd rfl (.inl rfl) (pe_call k2.G (hrm (by omega)) (by rfl) k2.g k2.F.kp k2.b .nil pass0 (pa_cons (pv 0) (pa_cons (pe_lst (pa_cons pe_int (pa_cons pe_int (pa_cons pe_int (pa_cons pe_int (pa_cons (pe_call k1.G (hrm (by omega)) (by rfl) k1.g k1.F.kp k1.b .nil pass0 (pa_cons (pv 0) (pa_cons pe_int pa_nil))) (pa_cons (pe_op op_pow pe_int pe_int) (pa_cons (pe_call k1.G (hrm (by omega)) (by rfl) k1.g k1.F.kp k1.b .nil pass0 (pa_cons (pv 0) (pa_cons (pe_op op_pow pe_int pe_int) pa_nil))) pa_nil)))))))) pa_nil))))
      (pss_cons (ps_setLc (i := 4) (own := [("_law_k", 5)]) (g := gName 5) (by rfl) scStep.nd rfl rfl (sw_true rfl rfl rfl (by decide +kernel)) (pi_range1 (by rfl) T.range (pa_cons (pe_call k1.G (hrm (by omega)) (by rfl) k1.g k1.F.kp k1.b .nil pass0 (pa_cons (pv 0) (pa_cons pe_int pa_nil))) pa_nil)) (blkOk_by (own := [("_law_k", 5)]) (N := stepN) (sc := defScope sStep) (by decide +kernel)) (fun _ _ _ _ _ => (pg_name (i := 5) scStep.nd rfl (.inl rfl))) (fun _ _ _ _ _ => pts_nil) (fun _ _ _ _ _ => (pe_call ih (hrm (by omega)) (by rfl) g F.kp b .nil pass0 (pa_cons (pv 0) (pa_cons (pv 1) (pa_cons (pe_op op_sub (pv 2) pe_int) pa_nil))))))
      (pss_one (ps_ret (pe_tup (pa_cons pe_str (pa_cons (pv 3) (pa_cons (pe_call k2.G (hrm (by omega)) (by rfl) k2.g k2.F.kp k2.b .nil pass0 (pa_cons (pv 0) (pa_cons (pe_lst (pa_cons (pe_callTy call_tuple_of (by rfl) T.tuple (by decide +kernel) (pa_cons (pv 4) pa_nil)) (pa_cons (pv 4) pa_nil))) pa_nil))) pa_nil))))))))), ?_⟩
      have nb : ((size : Nat) : Int).natAbs < 2 ^ 1000 := Nat.lt_of_le_of_lt (show _ ≤ 10 ^ 30 by omega) (by decide +kernel)
      have wb : 1 ≤ wrB n := by cases n <;> (unfold wrB; omega)
      have fin : ∀ (r : Nat) H', (r : Int) < ((size : Nat) : Int) → DrawAt H' d l → Sb d H H' → Q (.int r) H' := fun r H' hr hD' sb' => q (.int r) (.fnd r) H' (.fnd _) ⟨by rw [Wf]; trivial, by rw [nest]; omega, by rw [nWr]; exact wb, by rw [InR]; omega⟩ hD' sb'
      refine ⟨_, rfl, rfl, _, rfl, ?_⟩
      show if decide (V.int ((n : Nat) : Int) = V.int 0) = true then _ else _
      by_cases hn : n = 0
      · rw [decide_eq_true (by rw [hn]; rfl)]
        exact iteT ⟨_, rfl, _, rfl, d, l, size, rfl, hD, by omega, nb, fun r H1 hr hD1 sb1 => fin r H1 hr hD1 sb1⟩
      rw [decide_eq_false (fun z => hn (by injection z with z; omega))]
      refine iteF ⟨_, rfl, d, l, 3, rfl, hD, by decide, by decide +kernel, fun r H1 hr1 hD1 sb1 => ⟨_, _, rfl, rfl, _, rfl, ite2 (fun e => ?_) (fun e => ?_)⟩⟩
      · exact ⟨_, rfl, _, rfl, d, l, size, rfl, hD1, by omega, nb, fun r2 H2 hr2 hD2 sb2 => fin r2 H2 hr2 hD2 (sb1.trans sb2)⟩
      obtain ⟨m, rfl⟩ : ∃ m, n = m + 1 := ⟨n - 1, by omega⟩
      -- count
      have p30 : (10 : Int) ^ (30 : Int).toNat = 1000000000000000000000000000000 := by decide
      refine ⟨_, rfl, _, rfl, d, l, 9, rfl, hD1, by decide, by decide +kernel, fun c9 H2 hc9 hD2 sb2 => ?_⟩
      refine ⟨_, _, rfl, rfl, ⟨by decide, by decide, by decide⟩, _, rfl, _, _, rfl, rfl, ⟨by decide, by decide, by decide⟩, d, l, _, rfl, hD2, by decide, by decide +kernel, fun cb H3 hcb hD3 sb3 => ?_⟩
      rw [p30] at hcb
      refine ⟨by show 7 ≤ sizeLine; decide, fun lc nlc => ?_⟩
      refine ⟨d, l, lc, _, rfl, hD3.new nlc, hD3.ne nlc, SqL.of upd_same, by show 1 ≤ 7; decide, by show 7 ≤ 1000; decide, fun j v H4 hv hD4 sb4 => ?_⟩
      have el : lim30 = 1000000000000000000000000000000 := by decide
      obtain ⟨k, rfl, hk0, hk1⟩ : ∃ k : Int, v = .int k ∧ 0 ≤ k ∧ k ≤ lim30 := by
        rw [el]
        match j, hv with
        | 0, hv => exact ⟨_, (Option.some.inj hv).symm, by decide, by decide⟩
        | 1, hv => exact ⟨_, (Option.some.inj hv).symm, by decide, by decide⟩
        | 2, hv => exact ⟨_, (Option.some.inj hv).symm, by decide, by decide⟩
        | 3, hv => exact ⟨_, (Option.some.inj hv).symm, by decide, by decide⟩
        | 4, hv => exact ⟨_, (Option.some.inj hv).symm, by omega, by omega⟩
        | 5, hv => exact ⟨_, (Option.some.inj hv).symm, by decide, by decide⟩
        | 6, hv => exact ⟨_, (Option.some.inj hv).symm, by omega, by omega⟩
      have sb04 : Sb d H H4 := (((sb1.trans sb2).trans sb3).trans (Sb.of (same_new nlc))).trans sb4
      -- steps
      refine ⟨_, rfl, d, l, 4, rfl, hD4, by decide, by decide +kernel, fun many H5 hmany hD5 sb5 => ?_⟩
      have sb05 := sb04.trans sb5
      refine ⟨_, rfl, by omega, by omega, fun D nD => ?_⟩
      have Dd : D ≠ d := hD5.ne nD
      have nD0 : H D = none := sb05.free Dd nD
      refine lc_range (lo := 0) (n := ((many : Nat) : Int).toNat) (fun i H' => ∃ xs ss, H' D = some (.lst xs) ∧ StsP (fun x => H x = none ∧ x ≠ D) H' xs ss ∧ ss.length = i ∧ (∀ s ∈ ss, Drawn size m s) ∧ DrawAt H' d l ∧ Sb d H H') ⟨[], [], upd_same, .nil, rfl, by simp, hD5.new nD, sb05.over nD0⟩ ?_ ?_
      · rintro i H' hi ⟨xs, ss, hDD, hst, hsl, hdr, hD', sb'⟩
        refine ⟨rfl, ?_⟩
        refine ⟨_, rfl, _, rfl, _, rfl, _, _, rfl, rfl, m, rfl, d, l, size, ?_, hD', hs1, hs2, fun v st H6 hv hdv hD6 sb6 => ?_⟩
        · show [V.ref d, vi size, V.int (((m + 1 : Nat) : Int) - 1)] = [V.ref d, vi size, vi m]
          rw [show ((m + 1 : Nat) : Int) - 1 = (m : Int) by omega]
        have hDD6 := sb6 _ _ Dd hDD
        obtain ⟨ys, hys⟩ := hD'.lst
        have nx : ∀ x, H' x = none → H x = none ∧ x ≠ D := fun x hx => ⟨sb'.free (fun z => by rw [z, hys] at hx; cases hx) hx, fun z => by rw [z, hDD] at hx; cases hx⟩
        refine ⟨xs, hDD6, ?_, xs ++ [v], ss ++ [st], upd_same, ?_, by rw [List.length_append, hsl]; rfl, ?_, ?_, (sb'.trans sb6).over nD0⟩
        · rw [hst.len, hsl]; exact Nat.lt_of_le_of_lt (show i ≤ 1000 by omega) (by decide)
        · refine (StsP.mv (N := fun x => H x = none ∧ x ≠ D) (H := H6) (fun x h => h) (fun x o h e _ => by rw [upd_ne h.2]; exact e) ((StsP.mv (fun x h => h) (fun x o h e _ => sb6 x o (fun z => by obtain ⟨zs, hzs⟩ := hD.lst; rw [z, hzs] at h; cases h.1) e) hst).app (.cons (StP.mv nx (fun x o _ e _ => e) hv) .nil)))
        · intro s hs
          rcases List.mem_append.mp hs with h | h
          · exact hdr s h
          · rw [List.mem_singleton.mp h]; exact hdv
        · exact hD6.put Dd (hD5.nel nD)
      · rintro H6 ⟨xs, ss, hDD, hst, hsl, hdr, hD6, sb6⟩
        refine ⟨_, rfl, _, rfl, _, rfl, D, _, rfl, .inl ⟨SqL.of hDD, fun tu ntu => ?_⟩⟩
        have s7 := same_new (o := .tup xs) ntu
        refine ⟨_, rfl, by show 2 ≤ sizeLine; decide, fun lo nlo => ?_⟩
        have s8 := same_new (o := .lst [V.ref tu, V.ref D]) nlo
        have s68 := s7.trans s8
        have hD8 := hD6.same s68
        refine ⟨d, l, lo, _, rfl, hD8, (hD6.same s7).ne nlo, SqL.of upd_same, by show 1 ≤ 2; decide, by show 2 ≤ 1000; decide, fun jj vv H9 hvv hD9 sb9 => ?_⟩
        have tud : tu ≠ d := hD6.ne ntu
        have ntu0 : H tu = none := sb6.free tud ntu
        have hst9 : StsP (fun x => H x = none) H9 xs ss := StsP.mv (fun x h => h.1) (fun x o h e _ => sb9 x o (fun z => by obtain ⟨zs, hzs⟩ := hD.lst; rw [z, hzs] at h; cases h.1) (s68 x o e)) hst
        have hDD9 := sb9 _ _ Dd (s68 _ _ hDD)
        have htu9 := sb9 _ _ tud (s8 _ _ (upd_same (H := H6) (a := tu) (o := .tup xs)))
        obtain ⟨bb, kd, rfl, hbb, nbb⟩ : ∃ (bb : Addr) (kd : Bool), vv = .ref bb ∧ H9 bb = some (ob kd xs) ∧ H bb = none := by
          match jj, hvv with
          | 0, hvv => exact ⟨tu, false, (Option.some.inj hvv).symm, htu9, ntu0⟩
          | 1, hvv => exact ⟨D, true, (Option.some.inj hvv).symm, hDD9, nD0⟩
        refine ⟨by show 3 ≤ sizeLine; decide, fun t nt => ?_⟩
        have s10 := same_new (o := .tup [V.str "repeat", V.int k, V.ref bb]) nt
        have sb09 : Sb d H H9 := (sb6.trans (Sb.of s68)).trans sb9
        have hl : ss.length ≤ 3 := by omega
        have hwr := nWrs_bound (m := wrB m) fun s hs => (hdr s hs).wr
        refine q (.ref t) (.rnd k kd ss) _ (.rnd (sb09.free (hD9.ne nt) nt) nbb upd_same (s10 _ _ hbb) (StsP.mv (fun x h => h) (fun x o _ e _ => s10 x o e) hst9)) ⟨?_, ?_, ?_, ?_⟩ (hD9.same s10) (sb09.trans (Sb.of s10))
        · rw [Wf]; exact ⟨hk0, hk1, wfs_of fun s hs => (hdr s hs).wf⟩
        · rw [nest]
          have := nests_le (m := m) fun s hs => (hdr s hs).ne
          omega
        · rw [nWr]
          show 1 + nWrs ss ≤ 1 + 3 * wrB m
          have : ss.length * wrB m ≤ 3 * wrB m := Nat.mul_le_mul_right _ hl
          omega
        · rw [InR]; exact inRs_of fun s hs => (hdr s hs).inn
  induction n with
  | zero => exact main 0 fun sp' h => ⟨fun vs H Q E z => by obtain ⟨m, hm, _⟩ := h _ _ _ _ z; omega, fun A outer s H args us vs Q E hr e0 bb r z => by obtain ⟨m, hm, _⟩ := h _ _ _ _ z; omega⟩
  | succ n ih =>
    refine main (n + 1) fun sp' h => FnOk.imp ih fun vs H Q E z => ?_
    obtain ⟨m, hm, h2⟩ := h _ _ _ _ z
    have : m = n := by omega
    rw [← this]; exact h2
end
end Ff

namespace Ff
open PySem PySem.Spec PyProof.Rows L2 ExX LamX
def rLeS : R2 := fun x y H Q => ∃ i j, x = V.str i ∧ y = V.str j ∧ Q (.bl (!decide (j.cps.toList < i.cps.toList))) H
/-- a letter from a to z -/
def letB (c : Nat) : Bool := (!decide ([c] < [97])) && (!decide ([122] < [c]))
def nameB (z : Str) : Bool := decide (1 ≤ z.length) && decide (z.length ≤ 6) && z.cps.toList.all letB
theorem lc_str {z : Str} {g : TG} {tt : TT} {te : TE} {vs : List Nat} {σ : L2.St} {H1 : Hp} {D : Addr} {Qd : Hp → Prop} (Pv : Nat → Hp → Prop) (h0 : Pv 0 (upd H1 D (.lst [])))
    (hs : ∀ i c H, z.cps.toList[i]? = some c → Pv i H → g (.str ⟨#[c]⟩) (wipe σ vs) H fun σ2 H2 => wipe σ2 vs = wipe σ vs ∧ tt σ2 H2 fun b H3 =>
      if b = true then te σ2 H3 fun y H4 => ∃ acc, H4 D = some (.lst acc) ∧ acc.length < sizeLine ∧ Pv (i + 1) (upd H4 D (.lst (acc ++ [y]))) else Pv (i + 1) H3) (hd : ∀ H, Pv z.cps.toList.length H → Qd H) :
    ∃ W : Nat → Nat → Hp → Prop, (∃ m, W 0 m (upd H1 D (.lst []))) ∧ ∀ i m H, W i m H →
      ((Its z).stop i H ∧ Qd H) ∨ ((Its z).go i H ∧ ∃ Nx : Hp → Prop, (∀ H', Nx H' → ∃ m', m' < m ∧ W (i + 1) m' H') ∧ ∀ x H', (Its z).yld i H x H' → g x (wipe σ vs) H' fun σ2 H2 => wipe σ2 vs = wipe σ vs ∧ tt σ2 H2 fun b H3 =>
        if b = true then te σ2 H3 fun y H4 => ∃ acc, H4 D = some (.lst acc) ∧ acc.length < sizeLine ∧ Nx (upd H4 D (.lst (acc ++ [y]))) else Nx H3) := by
  refine ⟨fun i m H => m = z.cps.toList.length - i ∧ i ≤ z.cps.toList.length ∧ Pv i H, ⟨z.cps.toList.length, by simp, Nat.zero_le _, h0⟩, ?_⟩
  rintro i m H ⟨rfl, hi, p⟩
  have hsz : z.cps.toList.length = z.cps.size := Array.length_toList
  by_cases hlt : i < z.cps.toList.length
  · refine .inr ⟨show i < z.cps.size by omega, Pv (i + 1), fun H' p' => ⟨z.cps.toList.length - (i + 1), by omega, rfl, hlt, p'⟩, fun v H' y => ?_⟩
    obtain ⟨rfl, c, hc, rfl⟩ := y
    exact hs i c H' (by rw [Array.getElem?_toList]; exact hc) p
  · have e : i = z.cps.toList.length := by omega
    subst e
    exact .inl ⟨show z.cps.size ≤ z.cps.toList.length by omega, hd H p⟩
theorem cps_a : (Str.ofString "a").cps.toList = [97] := by decide +kernel
theorem cps_z : (Str.ofString "z").cps.toList = [122] := by decide +kernel
def spIsNm : Sp := fun vs H Q _ => ∃ z : Str, vs = [.str z] ∧ z.length ≤ 1000 ∧ ∀ H', Same H H' → Q (.bl (nameB z)) H'
section
variable {P : Program} {w : World} {K : PySem.W.Frag} {mg : Str → Option Value} {base : Heap}
end
end Ff

namespace Ff
open PySem PySem.Spec PyProof.Rows L2 ExX LamX
abbrev sPaI : Stmt := topS 20
abbrev paIN : List Str := ["text", "digits", "digit", "number"]
theorem scPaI : FnScope paIN ["text"] (defScope sPaI) := ⟨rfl, rfl, rfl, by decide +kernel, rfl, by decide +kernel, by decide +kernel⟩
/-! any text, read as an integer -/
theorem starts_no {c : Nat} {r : List Nat} (h : c ≠ 45) : Txt.startswith (SX.S (c :: r)) ("-" : Str) = false := by
  unfold Txt.startswith
  rw [StrLaws.subAt_eq]
  have : ((SX.S (c :: r)).cps.toList.drop 0).take ("-" : Str).length = [c] := by
    rw [show ("-" : Str).length = 1 by decide +kernel]; rfl
  rw [this, show ("-" : Str).cps.toList = [45] by decide +kernel]
  have : ([c] == [45]) = false := by simp [h]
  rw [this, Bool.and_false]
theorem starts_yes {r : List Nat} : Txt.startswith (SX.S (45 :: r)) ("-" : Str) = true := by
  unfold Txt.startswith
  rw [StrLaws.subAt_eq]
  have : ((SX.S (45 :: r)).cps.toList.drop 0).take ("-" : Str).length = [45] := by
    rw [show ("-" : Str).length = 1 by decide +kernel]; rfl
  rw [this, show ("-" : Str).cps.toList = [45] by decide +kernel, show ("-" : Str).length = 1 by decide +kernel, SX.S_len, List.length_cons]
  simp
theorem starts_nil : Txt.startswith (SX.S []) ("-" : Str) = false := by decide +kernel
/-- what stands behind a minus sign -/
def digsL : List Nat → List Nat
  | 45 :: r => r
  | l => l
def negB : List Nat → Bool
  | 45 :: _ => true
  | _ => false
def dgB (c : Nat) : Bool := decide (48 ≤ c) && decide (c ≤ 57)
def valL (l : List Nat) : Int := if negB l = true then -((NumText.digitsVal (digsL l) : Nat) : Int) else ((NumText.digitsVal (digsL l) : Nat) : Int)
/-- the integer that a text writes -/
def intD (l : List Nat) : Option Int := if (decide (1 ≤ (digsL l).length) && decide ((digsL l).length ≤ 31) && (digsL l).all dgB) = true then (if intL (valL l) = l then some (valL l) else none) else none
theorem dgB_of {c : Nat} (h : 48 ≤ c ∧ c ≤ 57) : dgB c = true := by
  unfold dgB
  rw [decide_eq_true h.1, decide_eq_true h.2]; rfl
theorem dgB_mem {l : List Nat} (h : l.all dgB = true) : ∀ c ∈ l, 48 ≤ c ∧ c ≤ 57 := fun c hc => by
  have := List.all_eq_true.mp h c hc
  unfold dgB at this
  rwa [Bool.and_eq_true, decide_eq_true_eq, decide_eq_true_eq] at this
theorem digs_cases (l : List Nat) : (∃ r, l = 45 :: r ∧ digsL l = r ∧ negB l = true) ∨ ((∀ r, l ≠ 45 :: r) ∧ digsL l = l ∧ negB l = false) := by
  cases l with
  | nil => exact .inr ⟨fun r h => (by cases h), rfl, rfl⟩
  | cons c r =>
    by_cases h : c = 45
    · subst h
      exact .inl ⟨r, rfl, rfl, rfl⟩
    · refine .inr ⟨fun r' z => h (by injection z), ?_, ?_⟩
      · unfold digsL
        split
        · rename_i z; injection z with z; exact absurd z h
        · rfl
      · unfold negB
        split
        · rename_i z; injection z with z; exact absurd z h
        · rfl
theorem intD_intL {z : Int} (h : z.natAbs < 10 ^ 31) : intD (intL z) = some z := by
  have hl := TL.numL_len (n := z.natAbs) (k := 31) (by decide) h
  have hp := List.length_pos_iff.mpr (TL.numL_ne z.natAbs)
  have hall : (TL.numL z.natAbs).all dgB = true := List.all_eq_true.mpr fun c hc => dgB_of (TL.numL_digits _ _ hc)
  have e : digsL (intL z) = TL.numL z.natAbs ∧ negB (intL z) = decide (z < 0) := by
    by_cases hz : z < 0
    · rw [intL_neg hz, decide_eq_true hz]; exact ⟨rfl, rfl⟩
    · rw [intL_digits hz, decide_eq_false hz]
      rcases digs_cases (TL.numL z.natAbs) with ⟨r, h1, _⟩ | ⟨_, h2, h3⟩
      · have := TL.numL_digits z.natAbs 45 (by rw [h1]; exact List.mem_cons_self)
        omega
      · exact ⟨h2, h3⟩
  have ev : valL (intL z) = z := by
    unfold valL
    rw [e.1, e.2, TL.numL_val]
    by_cases hz : z < 0
    · rw [decide_eq_true hz, if_pos rfl]; omega
    · rw [decide_eq_false hz, if_neg (by decide)]; omega
  unfold intD
  rw [e.1, if_pos (by rw [hall, decide_eq_true (show 1 ≤ (TL.numL z.natAbs).length from hp), decide_eq_true hl]; rfl), ev, if_pos rfl]
theorem digits_lt : ∀ (l : List Nat) (a : Nat), (∀ c ∈ l, 48 ≤ c ∧ c ≤ 57) → l.foldl (fun n c => n * 10 + (c - 48)) a < (a + 1) * 10 ^ l.length
  | [], a, _ => by simp
  | c :: l, a, h => by
    have hc := h c List.mem_cons_self
    have := digits_lt l (a * 10 + (c - 48)) fun d hd => h d (List.mem_cons_of_mem _ hd)
    rw [List.foldl_cons, List.length_cons, Nat.pow_succ]
    refine Nat.lt_of_lt_of_le this ?_
    rw [show (a + 1) * (10 ^ l.length * 10) = ((a + 1) * 10) * 10 ^ l.length by rw [Nat.mul_comm (10 ^ l.length) 10, ← Nat.mul_assoc]]
    exact Nat.mul_le_mul_right _ (by omega)
theorem digitsVal_lt {l : List Nat} (h : ∀ c ∈ l, 48 ≤ c ∧ c ≤ 57) : NumText.digitsVal l < 10 ^ l.length := by
  have := digits_lt l 0 h
  rwa [Nat.zero_add, Nat.one_mul] at this
theorem valL_abs (l : List Nat) : (valL l).natAbs = NumText.digitsVal (digsL l) := by
  unfold valL
  split <;> omega
theorem valL_lt {l : List Nat} (h1 : (digsL l).length ≤ 31) (h2 : ∀ c ∈ digsL l, 48 ≤ c ∧ c ≤ 57) : (valL l).natAbs < 10 ^ 31 := by
  rw [valL_abs]
  exact Nat.lt_of_lt_of_le (digitsVal_lt h2) (Nat.pow_le_pow_right (by decide) h1)
theorem intD_some {l : List Nat} {z : Int} (h : intD l = some z) : l = intL z ∧ z.natAbs < 10 ^ 31 := by
  unfold intD at h
  split at h
  · rename_i hc
    rw [Bool.and_eq_true, Bool.and_eq_true, decide_eq_true_eq, decide_eq_true_eq] at hc
    split at h
    · rename_i he
      injection h with h
      subst h
      exact ⟨he.symm, valL_lt hc.1.2 (dgB_mem hc.2)⟩
    · cases h
  · cases h
theorem valL_reads {l : List Nat} (h0 : 1 ≤ (digsL l).length) (h1 : (digsL l).length ≤ 31) (h2 : (digsL l).all dgB = true) : PySem.intText? (SX.S l) = some (valL l) := by
  have hd := dgB_mem h2
  have hne : digsL l ≠ [] := fun z => by rw [z] at h0; exact absurd h0 (by decide)
  rcases digs_cases l with ⟨r, e1, e2, e3⟩ | ⟨_, e2, e3⟩
  · have e := PySem.intText_neg (x := SX.S l) (cs := digsL l) (by show l = _; rw [e2]; exact e1) hd hne (by rw [SX.S_len, e1, List.length_cons, ← e2]; omega)
    rw [e]
    unfold valL
    rw [e3, if_pos rfl]
  · have e := PySem.intText_digits (x := SX.S l) (by show NumText.AllDigits l; rw [← e2]; exact hd) (by show l ≠ []; rw [← e2]; exact hne) (by rw [SX.S_len, ← e2]; omega)
    rw [e]
    unfold valL
    rw [e3, if_neg (by decide), e2]
theorem log_sml {z : Int} (h : z.natAbs < 10 ^ 31) : z.natAbs.log2 < 1920 := by
  by_cases h0 : z.natAbs = 0
  · rw [h0]; decide
  · exact (Nat.log2_lt h0).mpr (Nat.lt_trans h (by decide +kernel))
theorem starts_neg (l : List Nat) : Txt.startswith (SX.S l) ("-" : Str) = negB l := by
  rcases digs_cases l with ⟨r, e1, e2, e3⟩ | ⟨e1, e2, e3⟩
  · rw [e3, e1, starts_yes]
  · rw [e3]
    cases l with
    | nil => exact starts_nil
    | cons c r => exact starts_no fun z => e1 r (by rw [z])
def spPaIB (CP : Addr) : Sp := fun vs H Q E => ∃ l : List Nat, vs = [.str (SX.S l)] ∧ l.length ≤ 1000000 ∧ ∀ H', Same H H' → match intD l with
  | some z => Q (.int z) H'
  | none => Flies H' E CP "pos" "ParseError" (.int 0)
section
variable {P : Program} {w : World} {K : PySem.W.Frag} {mg : Str → Option Value} {base : Heap} {CP : Addr}
theorem okB_paI {f : Addr} {fd : FuncData} (F : Fun K "parse_integer" "parse_integer" sPaI f fd) (RP : Raisable P w K mg base 2 "ParseError" CP "pos" "ParseError") (T : Tx mg) (TS : TxS mg) (z_all : mg "all" = none) {tD : Tok} (gMD : mg "MAX_DIGITS" = some (.int 31 tD)) : FnOk P w K mg base (L2N.CX P w) 4 f fd ["text"] (spPaIB CP) := by
  refine okN F scPaI (fun vs H Q E h => ?_) (fun cdv A outer s H vs Q E hr h tk => ?_)
  · obtain ⟨l, rfl, _⟩ := h
    rfl
  · obtain ⟨l, rfl, hl, q⟩ := h
    have hrm : ∀ {j : Nat}, j ≤ 3 → Room j (A.deeper (envOfC "parse_integer" (defScope sPaI) s.heap.objs.size f cdv)) := fun h => hr.mono h
    refine ⟨_, (C8.pss_cut (ps_set (i := 1) scPaI.nd rfl (.inl rfl) (pe_ifExp (pt_val (pe_m1 PySem.F.slot_str_startswith PySem.F.type_str_startswith mt_startswith (pv 0) pe_str)) (pe_slice sl_str (pv 0) (po_some pe_int) po_none) (pv 0)))
      (pss_cons (ps_if (PW.pt (pw_or (pt_not (pt_chain op_le op_le pe_int (pe_callB call_len_str (by rfl) T.len PySem.boot_len (pa_cons (pv 1) pa_nil)) (pe_glob (v := .int 31) rfl gMD ⟨_, rfl⟩))) (pw_or1 (pt_not (pt_val (pe_callB (cr_all rfl) (by rfl) z_all (by decide +kernel) (pa_cons (pe_lc (own := [("digit", 2)]) (g := gName 2) (by rfl) scPaI.nd (pi_str (pv 1)) (blkOk_by (own := [("digit", 2)]) (N := paIN) (sc := defScope sPaI) (by decide +kernel)) (fun _ _ _ _ _ => (pg_name (i := 2) scPaI.nd rfl (.inl rfl))) (fun _ _ _ _ _ => pts_nil) (fun _ _ _ _ _ => (pe_chain (show OpR _ (compareOp .LtE) rLeS from op_le_str) (show OpR _ (compareOp .LtE) rLeS from op_le_str) pe_str (pv 2) pe_str))) pa_nil)))))))
        (pss_one (L2N.ps_raise rfl tk (pmk_err RP (hrm (by decide)) (by rfl) pe_int))) pss_nil)
      (pss_cons (ps_set (i := 3) scPaI.nd rfl (.inl rfl) (pe_callTy call_int_str (by rfl) TS.int (by decide +kernel) (pa_cons (pv 0) pa_nil)))
      (pss_cons (ps_if (pt_cmpR op_ne (pe_callTy call_str_int (by rfl) TS.str (by decide +kernel) (pa_cons (pv 3) pa_nil)) (pv 0) (nomark _))
        (pss_one (L2N.ps_raise rfl tk (pmk_err RP (hrm (by decide)) (by rfl) pe_int))) pss_nil)
      (pss_one (ps_ret (pv 3))))))), ?_⟩
    refine ⟨fun σ H' => σ = [some (.str (SX.S l)), some (.str (SX.S (digsL l))), none, none] ∧ H' = H, ?_, ?_⟩
    · refine ⟨_, rfl, ⟨_, rfl⟩, _, _, rfl, rfl, _, rfl, ?_⟩
      rw [starts_neg]
      rcases digs_cases l with ⟨r, e1, e2, e3⟩ | ⟨e1, e2, e3⟩
      · rw [e3]
        refine iteT ⟨_, rfl, _, rfl, _, rfl, by rw [SX.S_len]; exact Nat.le_trans hl (by decide), ?_, rfl⟩
        have e : cutS (SX.S l) (some 1) none = SX.S (digsL l) := by
          rw [e2, e1]
          exact (sliceText_cut _ _ _).symm.trans (SX.slice_from (a := 45 :: r) (i := 1) (by decide))
        rw [e]
        rfl
      · rw [e3]
        refine iteF ⟨_, rfl, ?_, rfl⟩
        rw [e2]
        rfl
    rintro σ H' ⟨rfl, rfl⟩
    have fl : (SX.S (digsL l)).length = (digsL l).length := SX.S_len _
    have hdl : (digsL l).length ≤ l.length := by
      rcases digs_cases l with ⟨r, e1, e2, e3⟩ | ⟨e1, e2, e3⟩
      · rw [e2, e1, List.length_cons]; omega
      · rw [e2]; exact Nat.le_refl _
    have hbad : (decide (1 ≤ (digsL l).length) && decide ((digsL l).length ≤ 31) && (digsL l).all dgB) = false → ∀ H2, Same H' H2 → Flies H2 E CP "pos" "ParseError" (.int 0) := fun hb H2 s' => by
      have := q H2 s'
      unfold intD at this
      rw [hb] at this
      exact this
    have small : Prt (V.int 0) := ⟨0, rfl, by decide⟩
    refine ⟨_, rfl, _, rfl, by rw [fl]; exact Nat.le_trans (Nat.le_trans hdl hl) (by decide), _, _, rfl, rfl, _, rfl, ?_⟩
    rw [fl]
    by_cases h1 : 1 ≤ (digsL l).length
    case neg =>
      rw [decide_eq_false (show ¬ (1 : Int) ≤ (((digsL l).length : Nat) : Int) by omega)]
      refine iteF ⟨_, rfl, iteT ⟨_, rfl, small, hbad ?_ _ (Same.refl _)⟩⟩
      rw [decide_eq_false h1]; rfl
    rw [decide_eq_true (show (1 : Int) ≤ (((digsL l).length : Nat) : Int) by omega)]
    refine iteT ⟨_, _, rfl, rfl, _, rfl, ?_⟩
    by_cases h2 : (digsL l).length ≤ 31
    case neg =>
      rw [decide_eq_false (show ¬ (((digsL l).length : Nat) : Int) ≤ 31 by omega)]
      refine iteT ⟨_, rfl, small, hbad ?_ _ (Same.refl _)⟩
      rw [decide_eq_false h2, Bool.and_false]; rfl
    rw [decide_eq_true (show (((digsL l).length : Nat) : Int) ≤ 31 by omega)]
    refine iteF ⟨_, rfl, _, rfl, fun D nD => ?_⟩
    refine lc_str (z := SX.S (digsL l)) (fun i H2 => H2 D = some (.lst ((((digsL l).take i).map dgB).map V.bl)) ∧ Same H' H2) ⟨upd_same, same_new nD⟩ ?_ ?_
    · rintro i c H2 hc ⟨hD, sm⟩
      have hc : (digsL l)[i]? = some c := hc
      have hi : i < (digsL l).length := (List.getElem?_eq_some_iff.mp hc).1
      refine ⟨rfl, ?_⟩
      refine ⟨_, rfl, _, _, rfl, rfl, _, rfl, ?_⟩
      have e0 : ("0" : Str).cps.toList = [48] := by decide +kernel
      have e9 : ("9" : Str).cps.toList = [57] := by decide +kernel
      have fin : ∀ b, b = dgB c → ∃ acc, H2 D = some (.lst acc) ∧ acc.length < sizeLine ∧ (upd H2 D (.lst (acc ++ [V.bl b])) D = some (.lst ((((digsL l).take (i + 1)).map dgB).map V.bl)) ∧ Same H' (upd H2 D (.lst (acc ++ [V.bl b])))) := fun b e => by
        refine ⟨_, hD, ?_, ?_, same_over sm nD⟩
        · rw [List.length_map, List.length_map, List.length_take]
          exact Nat.lt_of_le_of_lt (show min i (digsL l).length ≤ 1000 by omega) (by decide)
        · rw [upd_same, List.take_add_one, hc, List.map_append, List.map_append, e]
          rfl
      rw [e0]
      by_cases g1 : [c] < [48]
      · rw [decide_eq_true g1]
        refine iteF (fin _ ?_)
        have : c < 48 := by
          cases g1 with
          | rel h => exact h
          | cons h => cases h
        unfold dgB
        rw [decide_eq_false (show ¬ 48 ≤ c by omega)]; rfl
      · rw [decide_eq_false g1]
        have h48 : 48 ≤ c := Nat.le_of_not_lt fun z => g1 (List.Lex.rel z)
        refine iteT ⟨_, _, rfl, rfl, ?_⟩
        rw [e9]
        refine fin _ ?_
        unfold dgB
        rw [decide_eq_true h48]
        by_cases g2 : [57] < [c]
        · have : 57 < c := by
            cases g2 with
            | rel h => exact h
            | cons h => cases h
          rw [decide_eq_true g2, decide_eq_false (show ¬ c ≤ 57 by omega)]; rfl
        · rw [decide_eq_false g2, decide_eq_true (show c ≤ 57 from Nat.le_of_not_lt fun z => g2 (List.Lex.rel z))]; rfl
    rintro H2 ⟨hD, sm⟩
    have hD : H2 D = some (.lst (((digsL l).map dgB).map V.bl)) := by
      have : (digsL l).take (SX.S (digsL l)).cps.toList.length = digsL l := List.take_length
      rw [this] at hD
      exact hD
    refine ⟨D, (digsL l).map dgB, rfl, SqL.of hD, _, rfl, ?_⟩
    have eall : ((digsL l).map dgB).all id = (digsL l).all dgB := by rw [List.all_map]; rfl
    show if (!(((digsL l).map dgB).all id)) = true then _ else _
    rw [eall]
    by_cases h3 : (digsL l).all dgB = true
    case neg =>
      have h3 : (digsL l).all dgB = false := by simpa using h3
      rw [h3]
      refine iteT ⟨_, rfl, small, hbad ?_ _ sm⟩
      rw [h3, Bool.and_false]
    rw [h3]
    have fil : (SX.S l).length = l.length := SX.S_len _
    have hll : l.length ≤ 32 := by
      rcases digs_cases l with ⟨r, e1, e2, e3⟩ | ⟨e1, e2, e3⟩
      · rw [e2] at h2; rw [e1, List.length_cons]; omega
      · rw [e2] at h2; omega
    refine iteF ⟨_, rfl, _, _, rfl, valL_reads h1 h2 h3, by rw [fil]; omega, ?_⟩
    have hq := q H2 sm
    unfold intD at hq
    rw [decide_eq_true h1, decide_eq_true h2, h3] at hq
    refine ⟨_, rfl, _, rfl, log_sml (valL_lt h2 (dgB_mem h3)), _, rfl, rfl, _, rfl, ?_⟩
    rw [show (Str.ofString (toString (valL l)) : Str) = SX.S (intL (valL l)) from str_int _]
    by_cases he : intL (valL l) = l
    · rw [if_pos (by rfl), if_pos he] at hq
      rw [he, decide_eq_true rfl]
      exact iteF ⟨_, rfl, hq⟩
    · rw [if_pos (by rfl), if_neg he] at hq
      rw [decide_eq_false (show ¬ V.str (SX.S (intL (valL l))) = V.str (SX.S l) from fun z => he (SX.S_inj (by injection z)))]
      exact iteT ⟨_, rfl, small, hq⟩
end
end Ff

namespace Ff
open PySem PySem.Spec PyProof.Rows L2 ExX LamX
/-! the text of a history, its words, and what a reader makes of them -/
mutual
def fmtL : Stp → List Nat
  | .fnd z => intL z
  | .lnk c a => intL c ++ 62 :: intL a
  | .rnd k _ ss => intL k ++ 42 :: 40 :: (fmtsL ss ++ [41])
def fmtsL : List Stp → List Nat
  | [] => []
  | s :: r => fmtL s ++ fmtsT r
def fmtsT : List Stp → List Nat
  | [] => []
  | s :: r => 32 :: (fmtL s ++ fmtsT r)
end
theorem fmts_joinT : ∀ (r : List Stp) (a : List Nat), TL.joinL [32] (a :: r.map fmtL) = a ++ fmtsT r
  | [], a => by rw [fmtsT]; show a = a ++ []; rw [List.append_nil]
  | s :: r, a => by
    rw [fmtsT, ← fmts_joinT r (fmtL s)]
    rfl
theorem fmts_join (ss : List Stp) : TL.joinL [32] (ss.map fmtL) = fmtsL ss := by
  cases ss with
  | nil => rw [fmtsL]; rfl
  | cons s r => rw [fmtsL, ← fmts_joinT]; rfl
mutual
/-- all numbers are of at most 31 digits -/
def Sml : Stp → Prop
  | .fnd z => z.natAbs < 10 ^ 31
  | .lnk c a => c.natAbs < 10 ^ 31 ∧ a.natAbs < 10 ^ 31
  | .rnd k _ ss => k.natAbs < 10 ^ 31 ∧ Smls ss
def Smls : List Stp → Prop
  | [] => True
  | s :: r => Sml s ∧ Smls r
end
theorem smls_of : ∀ {l : List Stp}, (∀ s ∈ l, Sml s) → Smls l
  | [], _ => by rw [Smls]; trivial
  | x :: l, h => by
    rw [Smls]
    exact ⟨h x List.mem_cons_self, smls_of fun s hs => h s (List.mem_cons_of_mem _ hs)⟩
theorem smls_mem : ∀ {l : List Stp} {s : Stp}, Smls l → s ∈ l → Sml s
  | x :: l, s, h, m => by
    rw [Smls] at h
    rcases List.mem_cons.mp m with e | m
    · rw [e]; exact h.1
    · exact smls_mem h.2 m
mutual
theorem fmt_len : ∀ s : Stp, Sml s → (fmtL s).length + 1 ≤ 70 * nWr s
  | .fnd z, h => by
    rw [Sml] at h
    have := intL_len h
    rw [fmtL, nWr]; omega
  | .lnk c a, h => by
    rw [Sml] at h
    have h1 := intL_len h.1
    have h2 := intL_len h.2
    rw [fmtL, nWr, List.length_append, List.length_cons]; omega
  | .rnd k kd ss, h => by
    rw [Sml] at h
    have h1 := intL_len h.1
    have h2 := fmts_len ss h.2
    rw [fmtL, nWr, List.length_append, List.length_cons, List.length_cons, List.length_append, List.length_singleton]; omega
theorem fmts_len : ∀ ss : List Stp, Smls ss → (fmtsL ss).length ≤ 70 * nWrs ss
  | [], _ => by rw [fmtsL]; exact Nat.zero_le _
  | s :: r, h => by
    rw [Smls] at h
    have h1 := fmt_len s h.1
    have h2 := fmtsT_len r h.2
    rw [fmtsL, nWrs, List.length_append]; omega
theorem fmtsT_len : ∀ ss : List Stp, Smls ss → (fmtsT ss).length ≤ 70 * nWrs ss
  | [], _ => by rw [fmtsT]; exact Nat.zero_le _
  | s :: r, h => by
    rw [Smls] at h
    have h1 := fmt_len s h.1
    have h2 := fmtsT_len r h.2
    rw [fmtsT, nWrs, List.length_cons, List.length_append]; omega
end
/-! ### the text with blanks around its brackets -/
abbrev rOpen : List Nat → List Nat := StrLaws.replL [42, 40] [42, 40, 32]
abbrev rClose : List Nat → List Nat := StrLaws.replL [41] [32, 41, 32]
theorem repl_miss1 {c : Nat} {y z p : List Nat} (q : List Nat) (h : c ∉ p) : StrLaws.replL (c :: y) z (p ++ q) = p ++ StrLaws.replL (c :: y) z q := by
  induction p with
  | nil => rfl
  | cons d p ih =>
    have hd : c ≠ d := fun e => h (by rw [e]; exact List.mem_cons_self)
    rw [List.cons_append, StrLaws.replL_miss, ih fun m => h (List.mem_cons_of_mem _ m)]
    · rfl
    · intro e
      rw [List.length_cons, List.take_succ_cons] at e
      injection e with e _
      exact hd e.symm
theorem open_hit (q : List Nat) : rOpen (42 :: 40 :: q) = 42 :: 40 :: 32 :: rOpen q := StrLaws.replL_hit (by decide) (by simp)
theorem close_hit (q : List Nat) : rClose (41 :: q) = 32 :: 41 :: 32 :: rClose q := StrLaws.replL_hit (by decide) (by simp)
mutual
def fm1 : Stp → List Nat
  | .fnd z => intL z
  | .lnk c a => intL c ++ 62 :: intL a
  | .rnd k _ ss => intL k ++ 42 :: 40 :: 32 :: (fm1s ss ++ [41])
def fm1s : List Stp → List Nat
  | [] => []
  | s :: r => fm1 s ++ fm1T r
def fm1T : List Stp → List Nat
  | [] => []
  | s :: r => 32 :: (fm1 s ++ fm1T r)
end
mutual
def fm2 : Stp → List Nat
  | .fnd z => intL z
  | .lnk c a => intL c ++ 62 :: intL a
  | .rnd k _ ss => intL k ++ 42 :: 40 :: 32 :: (fm2s ss ++ [32, 41, 32])
def fm2s : List Stp → List Nat
  | [] => []
  | s :: r => fm2 s ++ fm2T r
def fm2T : List Stp → List Nat
  | [] => []
  | s :: r => 32 :: (fm2 s ++ fm2T r)
end
theorem lnk_free {c a : Int} {x : Nat} (h : x < 43) : x ∉ intL c ++ 62 :: intL a := fun m => by
  rcases List.mem_append.mp m with m | m
  · exact intL_free (by omega) (by omega) m
  · rcases List.mem_cons.mp m with e | m
    · omega
    · exact intL_free (by omega) (by omega) m
mutual
theorem open_fmt : ∀ (s : Stp) (q : List Nat), rOpen (fmtL s ++ q) = fm1 s ++ rOpen q
  | .fnd z, q => by rw [fmtL, fm1]; exact repl_miss1 q (intL_free (by decide) (by decide))
  | .lnk c a, q => by rw [fmtL, fm1]; exact repl_miss1 q (lnk_free (by decide))
  | .rnd k kd ss, q => by
    rw [fmtL, fm1, List.append_assoc]
    refine (repl_miss1 _ (intL_free (by decide) (by decide))).trans ?_
    rw [List.append_assoc]
    congr 1
    refine (open_hit _).trans ?_
    show 42 :: 40 :: 32 :: rOpen ((fmtsL ss ++ [41]) ++ q) = _
    rw [List.append_assoc, open_fmts ss]
    have e : rOpen ([41] ++ q) = [41] ++ rOpen q := repl_miss1 q (by decide)
    rw [e]
    simp
theorem open_fmts : ∀ (ss : List Stp) (q : List Nat), rOpen (fmtsL ss ++ q) = fm1s ss ++ rOpen q
  | [], q => by rw [fmtsL, fm1s]; rfl
  | s :: r, q => by rw [fmtsL, fm1s, List.append_assoc, open_fmt s, open_fmtsT r, List.append_assoc]
theorem open_fmtsT : ∀ (ss : List Stp) (q : List Nat), rOpen (fmtsT ss ++ q) = fm1T ss ++ rOpen q
  | [], q => by rw [fmtsT, fm1T]; rfl
  | s :: r, q => by
    rw [fmtsT, fm1T]
    have e : rOpen ([32] ++ (fmtL s ++ (fmtsT r ++ q))) = [32] ++ rOpen (fmtL s ++ (fmtsT r ++ q)) := repl_miss1 _ (by decide)
    rw [open_fmt s, open_fmtsT r] at e
    simpa using e
end
mutual
theorem close_fmt : ∀ (s : Stp) (q : List Nat), rClose (fm1 s ++ q) = fm2 s ++ rClose q
  | .fnd z, q => by rw [fm1, fm2]; exact repl_miss1 q (intL_free (by decide) (by decide))
  | .lnk c a, q => by rw [fm1, fm2]; exact repl_miss1 q (lnk_free (by decide))
  | .rnd k kd ss, q => by
    rw [fm1, fm2, List.append_assoc]
    refine (repl_miss1 _ (intL_free (by decide) (by decide))).trans ?_
    rw [List.append_assoc]
    congr 1
    have e : rClose ([42, 40, 32] ++ (fm1s ss ++ ([41] ++ q))) = [42, 40, 32] ++ rClose (fm1s ss ++ ([41] ++ q)) := repl_miss1 _ (by decide)
    rw [close_fmts ss] at e
    have e2 : rClose ([41] ++ q) = 32 :: 41 :: 32 :: rClose q := close_hit q
    rw [e2] at e
    simpa using e
theorem close_fmts : ∀ (ss : List Stp) (q : List Nat), rClose (fm1s ss ++ q) = fm2s ss ++ rClose q
  | [], q => by rw [fm1s, fm2s]; rfl
  | s :: r, q => by rw [fm1s, fm2s, List.append_assoc, close_fmt s, close_fmtsT r, List.append_assoc]
theorem close_fmtsT : ∀ (ss : List Stp) (q : List Nat), rClose (fm1T ss ++ q) = fm2T ss ++ rClose q
  | [], q => by rw [fm1T, fm2T]; rfl
  | s :: r, q => by
    rw [fm1T, fm2T]
    have e : rClose ([32] ++ (fm1 s ++ (fm1T r ++ q))) = [32] ++ rClose (fm1 s ++ (fm1T r ++ q)) := repl_miss1 _ (by decide)
    rw [close_fmt s, close_fmtsT r] at e
    simpa using e
end
theorem spaced (ss : List Stp) : rClose (rOpen (fmtsL ss)) = fm2s ss := by
  have e1 := open_fmts ss []
  have e0 : rOpen [] = [] := StrLaws.replL_nil
  rw [List.append_nil, e0, List.append_nil] at e1
  have e2 := close_fmts ss []
  have e3 : rClose [] = [] := StrLaws.replL_nil
  rw [List.append_nil, e3, List.append_nil] at e2
  rw [e1, e2]
/-! ### words -/
def wl : List Nat → List Nat → List (List Nat)
  | cur, [] => if cur = [] then [] else [cur]
  | cur, c :: r => if Unicode.isSpace c = true then (if cur = [] then wl [] r else cur :: wl [] r) else wl (cur ++ [c]) r
theorem wl_scan : ∀ (a cur : List Nat) (ws : List Str), KWd.fin (a.foldl KWd.step (ws, SX.S cur)) = ws ++ (wl cur a).map SX.S
  | [], cur, ws => by
    show (if (SX.S cur).length = 0 then ws else ws ++ [SX.S cur]) = _
    rw [SX.S_len, wl]
    by_cases h : cur = []
    · rw [h]; simp
    · rw [if_neg (fun e => h (List.length_eq_zero_iff.mp e)), if_neg h]; rfl
  | c :: r, cur, ws => by
    rw [List.foldl_cons, wl]
    show KWd.fin (r.foldl KWd.step (KWd.step (ws, SX.S cur) c)) = _
    unfold KWd.step
    by_cases hc : Unicode.isSpace c = true
    · rw [if_pos hc, if_pos hc]
      show KWd.fin (r.foldl KWd.step (if (SX.S cur).length = 0 then (ws, SX.S cur) else (ws ++ [SX.S cur], Str.empty))) = _
      rw [SX.S_len]
      by_cases h : cur = []
      · subst h
        rw [if_pos (show ([] : List Nat).length = 0 from rfl), if_pos rfl]
        exact wl_scan r [] ws
      · rw [if_neg (fun e => h (List.length_eq_zero_iff.mp e)), if_neg h]
        refine (wl_scan r [] (ws ++ [SX.S cur])).trans ?_
        rw [List.map_cons, List.append_assoc]; rfl
    · rw [if_neg hc, if_neg hc]
      have e : SX.S cur ++ (⟨#[c]⟩ : Str) = SX.S (cur ++ [c]) := SX.S_cat cur [c]
      show KWd.fin (r.foldl KWd.step (ws, SX.S cur ++ ⟨#[c]⟩)) = _
      rw [e]
      exact wl_scan r (cur ++ [c]) ws
theorem words_S (a : List Nat) : Txt.words (SX.S a) = (wl [] a).map SX.S := by
  rw [KWd.words_scan]
  exact (wl_scan a [] []).trans (List.nil_append _)
theorem wl_run {p q : List Nat} : ∀ {cur : List Nat}, (∀ c ∈ p, 33 ≤ c ∧ c ≤ 126) → wl cur (p ++ q) = wl (cur ++ p) q := by
  induction p with
  | nil => intro cur _; rw [List.append_nil]; rfl
  | cons c p ih =>
    intro cur h
    have hc := h c List.mem_cons_self
    rw [List.cons_append, wl, PySem.W.KWk.nosp hc.1 hc.2, if_neg Bool.false_ne_true, ih fun d hd => h d (List.mem_cons_of_mem _ hd), List.append_assoc]
    rfl
theorem wl_blank {q : List Nat} : wl [] (32 :: q) = wl [] q := by
  rw [wl, if_pos (by decide +kernel), if_pos rfl]
theorem wl_word {cur q : List Nat} (h : cur ≠ []) : wl cur (32 :: q) = cur :: wl [] q := by
  rw [wl, if_pos (by decide +kernel), if_neg h]
/-- nothing, or a blank ahead -/
def Bk (q : List Nat) : Prop := q = [] ∨ ∃ r, q = 32 :: r
theorem wl_bk {cur q : List Nat} (h : cur ≠ []) (b : Bk q) : wl cur q = cur :: wl [] q := by
  rcases b with rfl | ⟨r, rfl⟩
  · rw [wl, wl, if_neg h, if_pos rfl]
  · rw [wl_word h, wl_blank]
theorem wl_one {p q : List Nat} (h : p ≠ []) (hp : ∀ c ∈ p, 33 ≤ c ∧ c ≤ 126) (b : Bk q) : wl [] (p ++ q) = p :: wl [] q := by
  rw [wl_run hp, List.nil_append]
  exact wl_bk h b
/-- a word of a history's text -/
inductive Wd : Type
  | num (z : Int)
  | lnk (c a : Int)
  | opn (k : Int)
  | cls
def Wd.txt : Wd → List Nat
  | .num z => intL z
  | .lnk c a => intL c ++ 62 :: intL a
  | .opn k => intL k ++ [42, 40]
  | .cls => [41]
mutual
def wds : Stp → List Wd
  | .fnd z => [.num z]
  | .lnk c a => [.lnk c a]
  | .rnd k _ ss => .opn k :: (wdss ss ++ [.cls])
def wdss : List Stp → List Wd
  | [] => []
  | s :: r => wds s ++ wdss r
end
theorem int_vis {z : Int} : ∀ c ∈ intL z, 33 ≤ c ∧ c ≤ 126 := fun c h => by
  rcases intL_mem h with e | e <;> omega
theorem lnk_vis {c a : Int} : ∀ x ∈ intL c ++ 62 :: intL a, 33 ≤ x ∧ x ≤ 126 := fun x m => by
  rcases List.mem_append.mp m with m | m
  · exact int_vis x m
  · rcases List.mem_cons.mp m with e | m
    · omega
    · exact int_vis x m
theorem bk_T (r : List Stp) {q : List Nat} (b : Bk q) : Bk (fm2T r ++ q) := by
  cases r with
  | nil => rw [fm2T]; exact b
  | cons s r => rw [fm2T]; exact .inr ⟨_, rfl⟩
mutual
theorem wl_fmt : ∀ (s : Stp) (q : List Nat), Bk q → wl [] (fm2 s ++ q) = (wds s).map Wd.txt ++ wl [] q
  | .fnd z, q, b => by
    rw [fm2, wds]
    exact wl_one (intL_ne z) int_vis b
  | .lnk c a, q, b => by
    rw [fm2, wds]
    exact wl_one (by simp) lnk_vis b
  | .rnd k kd ss, q, b => by
    rw [fm2, wds]
    have e : intL k ++ 42 :: 40 :: 32 :: (fm2s ss ++ [32, 41, 32]) ++ q = (intL k ++ [42, 40]) ++ (32 :: (fm2s ss ++ (32 :: (41 :: (32 :: q))))) := by simp
    rw [e, wl_one (by simp) (fun c m => by
      rcases List.mem_append.mp m with m | m
      · exact int_vis c m
      · simp at m; omega) (.inr ⟨_, rfl⟩), wl_blank, wl_fmts ss _ (.inr ⟨_, rfl⟩), wl_blank]
    have e2 : wl [] ([41] ++ (32 :: q)) = [41] :: wl [] (32 :: q) := wl_one (by simp) (by intro c m; simp at m; omega) (.inr ⟨_, rfl⟩)
    have e3 : wl [] (41 :: (32 :: q)) = [41] :: wl [] q := by rw [← wl_blank]; exact e2
    rw [e3]
    simp [Wd.txt]
theorem wl_fmts : ∀ (ss : List Stp) (q : List Nat), Bk q → wl [] (fm2s ss ++ q) = (wdss ss).map Wd.txt ++ wl [] q
  | [], q, b => by rw [fm2s, wdss]; rfl
  | s :: r, q, b => by rw [fm2s, wdss, List.append_assoc, wl_fmt s _ (bk_T r b), wl_fmtsT r q b, List.map_append, List.append_assoc]
theorem wl_fmtsT : ∀ (ss : List Stp) (q : List Nat), Bk q → wl [] (fm2T ss ++ q) = (wdss ss).map Wd.txt ++ wl [] q
  | [], q, b => by rw [fm2T, wdss]; rfl
  | s :: r, q, b => by rw [fm2T, wdss, List.cons_append, wl_blank, List.append_assoc, wl_fmt s _ (bk_T r b), wl_fmtsT r q b, List.map_append, List.append_assoc]
end
theorem words_fmt (ss : List Stp) : Txt.words (SX.S (rClose (rOpen (fmtsL ss)))) = ((wdss ss).map Wd.txt).map SX.S := by
  rw [spaced, words_S]
  have := wl_fmts ss [] (.inl rfl)
  rw [List.append_nil] at this
  rw [this, show wl [] [] = [] by rw [wl, if_pos rfl], List.append_nil]
theorem replace_S (a y z : List Nat) (hy : 1 ≤ y.length) : Txt.replace (SX.S a) (SX.S y) (SX.S z) = SX.S (StrLaws.replL y z a) := TL.ext_tl (StrLaws.replace_list (x := SX.S a) (y := SX.S y) (z := SX.S z) (by rw [SX.S_len]; exact hy))
/-! ### the reader -/
abbrev PSt := List Stp × List (Int × List Stp)
def mach : Wd → PSt → Option PSt
  | .num z, (s, o) => some (s ++ [.fnd z], o)
  | .lnk c a, (s, o) => some (s ++ [.lnk c a], o)
  | .opn k, (s, o) => some ([], (k, s) :: o)
  | .cls, (s, (k, r) :: o) => some (r ++ [.rnd k false s], o)
  | .cls, (_, []) => none
def runW : List Wd → PSt → Option PSt
  | [], p => some p
  | x :: r, p => (mach x p).bind (runW r)
theorem runW_app : ∀ (a b : List Wd) (p : PSt), runW (a ++ b) p = (runW a p).bind (runW b)
  | [], b, p => rfl
  | x :: a, b, p => by
    show (mach x p).bind (runW (a ++ b)) = ((mach x p).bind (runW a)).bind (runW b)
    cases mach x p with
    | none => rfl
    | some q => exact runW_app a b q
mutual
/-- the same step, its rounds as tuples -/
def pl : Stp → Stp
  | .fnd z => .fnd z
  | .lnk c a => .lnk c a
  | .rnd k _ ss => .rnd k false (pls ss)
def pls : List Stp → List Stp
  | [] => []
  | s :: r => pl s :: pls r
end
mutual
theorem run_fmt : ∀ (s : Stp) (a : List Stp) (o : List (Int × List Stp)), runW (wds s) (a, o) = some (a ++ [pl s], o)
  | .fnd z, a, o => by rw [wds, pl]; rfl
  | .lnk c d, a, o => by rw [wds, pl]; rfl
  | .rnd k kd ss, a, o => by
    rw [wds, pl]
    show runW (wdss ss ++ [.cls]) ([], (k, a) :: o) = _
    rw [runW_app, run_fmts ss]
    rfl
theorem run_fmts : ∀ (ss a : List Stp) (o : List (Int × List Stp)), runW (wdss ss) (a, o) = some (a ++ pls ss, o)
  | [], a, o => by rw [wdss, pls, List.append_nil]; rfl
  | s :: r, a, o => by
    rw [wdss, pls, runW_app, run_fmt s]
    show runW (wdss r) (a ++ [pl s], o) = _
    rw [run_fmts r, List.append_assoc]
    rfl
end
theorem run_pre {ss : List Stp} (i : Nat) : ∃ p, runW ((wdss ss).take i) ([], []) = some p := by
  have h := run_fmts ss [] []
  rw [← List.take_append_drop i (wdss ss), runW_app] at h
  cases e : runW ((wdss ss).take i) ([], []) with
  | none => rw [e] at h; cases h
  | some p => exact ⟨p, rfl⟩
theorem run_next {ss : List Stp} {i : Nat} {x : Wd} {p : PSt} (hx : (wdss ss)[i]? = some x) (hp : runW ((wdss ss).take i) ([], []) = some p) : ∃ q, mach x p = some q ∧ runW ((wdss ss).take (i + 1)) ([], []) = some q := by
  obtain ⟨q, hq⟩ := run_pre (ss := ss) (i + 1)
  refine ⟨q, ?_, hq⟩
  obtain ⟨hi, e⟩ := List.getElem?_eq_some_iff.mp hx
  rw [List.take_add_one, hx, runW_app, hp] at hq
  cases e2 : mach x p with
  | none =>
    have : (mach x p).bind (runW []) = some q := hq
    rw [e2] at this; cases this
  | some q2 =>
    have : (mach x p).bind (runW []) = some q := hq
    rw [e2] at this
    exact this
mutual
/-- all rounds are tuples -/
def Pl : Stp → Prop
  | .fnd _ => True
  | .lnk _ _ => True
  | .rnd _ kd ss => kd = false ∧ Pls ss
def Pls : List Stp → Prop
  | [] => True
  | s :: r => Pl s ∧ Pls r
end
theorem pls_app : ∀ {a b : List Stp}, Pls a → Pls b → Pls (a ++ b)
  | [], b, _, h => h
  | x :: a, b, h, h2 => by
    rw [Pls] at h
    rw [List.cons_append, Pls]
    exact ⟨h.1, pls_app h.2 h2⟩
/-- tuples stay -/
def TSame (H H' : Hp) : Prop := ∀ a xs, H a = some (.tup xs) → H' a = some (.tup xs)
theorem pl_rnd {k : Int} {kd : Bool} {ss : List Stp} (p : Pl (.rnd k kd ss)) : kd = false ∧ Pls ss := by
  rw [Pl] at p; exact p
theorem ob_ts {H H' : Hp} (e : TSame H H') {kd : Bool} {b : Addr} {xs : List V} (hk : kd = false) (h : H b = some (ob kd xs)) : H' b = some (ob kd xs) := by
  subst hk
  exact e _ _ h
mutual
theorem StAt.ts {H H' : Hp} (e : TSame H H') : ∀ {v : V} {s : Stp}, Pl s → StAt H v s → StAt H' v s
  | _, _, _, .fnd z => .fnd z
  | _, _, _, .lnk h => .lnk (e _ _ h)
  | _, _, p, .rnd h1 h2 h3 => .rnd (e _ _ h1) (ob_ts e (pl_rnd p).1 h2) (StsAt.ts e (pl_rnd p).2 h3)
theorem StsAt.ts {H H' : Hp} (e : TSame H H') : ∀ {xs : List V} {ss : List Stp}, Pls ss → StsAt H xs ss → StsAt H' xs ss
  | _, _, _, .nil => .nil
  | _, _, p, .cons h r => by
    rw [Pls] at p
    exact .cons (StAt.ts e p.1 h) (StsAt.ts e p.2 r)
end
/-- the open rounds, the innermost first: their tuples, the lists around them -/
inductive OutAt (H : Hp) : List V → List (Int × List Stp) → List Addr → Prop
  | nil : OutAt H [] [] []
  | cons {t L : Addr} {k : Int} {xs : List V} {ss : List Stp} {vs : List V} {os : List (Int × List Stp)} {Ls : List Addr} : H t = some (.tup [.int k, .ref L]) → H L = some (.lst xs) → StsAt H xs ss → Pls ss → OutAt H vs os Ls → OutAt H (.ref t :: vs) ((k, ss) :: os) (L :: Ls)
theorem OutAt.mv {H H' : Hp} {vs : List V} {os : List (Int × List Stp)} {Ls : List Addr} (h : OutAt H vs os Ls) (e : TSame H H') (l : ∀ L ∈ Ls, ∀ xs, H L = some (.lst xs) → H' L = some (.lst xs)) : OutAt H' vs os Ls := by
  induction h with
  | nil => exact .nil
  | cons h1 h2 h3 h4 _ ih => exact .cons (e _ _ h1) (l _ List.mem_cons_self _ h2) (StsAt.ts e h4 h3) h4 (ih fun L hL => l L (List.mem_cons_of_mem _ hL))
theorem OutAt.len {H : Hp} {vs : List V} {os : List (Int × List Stp)} {Ls : List Addr} (h : OutAt H vs os Ls) : vs.length = os.length := by
  induction h with
  | nil => rfl
  | cons _ _ _ _ _ ih => rw [List.length_cons, List.length_cons, ih]
theorem TSame.refl (H : Hp) : TSame H H := fun _ _ h => h
theorem TSame.trans {H H1 H2 : Hp} (a : TSame H H1) (b : TSame H1 H2) : TSame H H2 := fun x xs h => b x xs (a x xs h)
theorem TSame.of {H H' : Hp} (e : Same H H') : TSame H H' := fun _ _ h => e _ _ h
theorem TSame.put {H : Hp} {a : Addr} {xs : List V} {o : HO} (h : H a = some (.lst xs)) : TSame H (upd H a o) := fun b ys hb => by
  rw [upd_ne (fun e => by rw [e, h] at hb; cases hb)]; exact hb
theorem wdss_len : ∀ ss : List Stp, True ∧ (wdss ss).length ≤ 2 * nWrs ss := by
  intro ss
  exact ⟨trivial, wdss_le ss⟩
where
  wds_le : ∀ s : Stp, (wds s).length ≤ 2 * nWr s
    | .fnd z => by rw [wds, nWr]; simp
    | .lnk c a => by rw [wds, nWr]; simp
    | .rnd k kd ss => by
      have := wdss_le ss
      rw [wds, nWr, List.length_cons, List.length_append, List.length_singleton]; omega
  wdss_le : ∀ ss : List Stp, (wdss ss).length ≤ 2 * nWrs ss
    | [] => by rw [wdss]; exact Nat.zero_le _
    | s :: r => by
      have h1 := wds_le s
      have h2 := wdss_le r
      rw [wdss, nWrs, List.length_append]; omega
/-- the numbers of a word -/
def WdOk : Wd → Prop
  | .num z => z.natAbs < 10 ^ 31
  | .lnk c a => c.natAbs < 10 ^ 31 ∧ a.natAbs < 10 ^ 31
  | .opn k => k.natAbs < 10 ^ 31
  | .cls => True
mutual
theorem wds_ok : ∀ s : Stp, Sml s → ∀ x ∈ wds s, WdOk x
  | .fnd z, h, x, m => by rw [wds, List.mem_singleton] at m; rw [m]; rw [Sml] at h; exact h
  | .lnk c a, h, x, m => by rw [wds, List.mem_singleton] at m; rw [m]; rw [Sml] at h; exact h
  | .rnd k kd ss, h, x, m => by
    rw [wds, List.mem_cons, List.mem_append, List.mem_singleton] at m
    rw [Sml] at h
    rcases m with e | m | e
    · rw [e]; exact h.1
    · exact wdss_ok ss h.2 x m
    · rw [e]; trivial
theorem wdss_ok : ∀ ss : List Stp, Smls ss → ∀ x ∈ wdss ss, WdOk x
  | [], h, x, m => by rw [wdss] at m; cases m
  | s :: r, h, x, m => by
    rw [wdss, List.mem_append] at m
    rw [Smls] at h
    rcases m with m | m
    · exact wds_ok s h.1 x m
    · exact wdss_ok r h.2 x m
end
theorem ends_no {a : List Nat} (h : 40 ∉ a) : Txt.endswith (SX.S a) ("*(" : Str) = false := by
  unfold Txt.endswith
  rw [StrLaws.subAt_eq, show ("*(" : Str).length = 2 by decide +kernel, show ("*(" : Str).cps.toList = [42, 40] by decide +kernel]
  have e : (((SX.S a).cps.toList.drop ((SX.S a).length - 2)).take 2 == [42, 40]) = false := by
    refine Bool.eq_false_iff.mpr fun z => h ?_
    have z := eq_of_beq z
    have : (40 : Nat) ∈ ((SX.S a).cps.toList.drop ((SX.S a).length - 2)).take 2 := by rw [z]; simp
    exact List.mem_of_mem_drop (List.mem_of_mem_take this)
  rw [e, Bool.and_false]
theorem ends_opn (p : List Nat) : Txt.endswith (SX.S (p ++ [42, 40])) ("*(" : Str) = true := by
  rw [← SX.S_cat, PySem.W.KAf.ends_right (by decide +kernel)]
  decide +kernel
theorem cut_opn (p : List Nat) : cutS (SX.S (p ++ [42, 40])) none (some (-2)) = SX.S p := by
  have e : HT.sIx (SX.S (p ++ [42, 40])).length (SX.S (p ++ [42, 40])).length (some (-2)) = p.length := by
    rw [SX.S_len, List.length_append]
    show (if (-2 : Int) < 0 then ((-2 : Int) + ((p.length + 2 : Nat) : Int)).toNat else min (Int.toNat (-2)) (p.length + 2)) = _
    rw [if_pos (by decide)]
    omega
  unfold cutS
  rw [e]
  show SX.S (((p ++ [42, 40]).drop 0).take (p.length - 0)) = _
  rw [List.drop_zero, Nat.sub_zero, List.take_left]
end Ff

namespace Ff
open PySem PySem.Spec PyProof.Rows L2 ExX LamX
abbrev sFmT : Stmt := topS 21
abbrev fmTN : List Str := ["step"]
theorem scFmT : FnScope fmTN ["step"] (defScope sFmT) := ⟨rfl, rfl, rfl, by decide +kernel, rfl, by decide +kernel, by decide +kernel⟩
abbrev sFmS : Stmt := topS 22
abbrev fmSN : List Str := ["steps", "step"]
theorem scFmS : FnScope fmSN ["steps"] (defScope sFmS) := ⟨rfl, rfl, rfl, by decide +kernel, rfl, by decide +kernel, by decide +kernel⟩
abbrev sFmH : Stmt := topS 23
abbrev fmHN : List Str := ["history"]
theorem scFmH : FnScope fmHN ["history"] (defScope sFmH) := ⟨rfl, rfl, rfl, by decide +kernel, rfl, by decide +kernel, by decide +kernel⟩
def rStrJ : List V → Hp → VK → Prop := fun xs H Q => ∃ i : Int, xs = [.int i] ∧ i.natAbs.log2 < 1920 ∧ Q (.str (toString i)) H
theorem nWrs_len : ∀ ss : List Stp, ss.length ≤ nWrs ss
  | [] => Nat.zero_le _
  | s :: r => by
    have h1 := nWr_pos s
    have h2 := nWrs_len r
    rw [nWrs, List.length_cons]; omega
theorem fmt_sum : ∀ ss : List Stp, Smls ss → (ss.map fun s => (fmtL s).length).sum + ss.length * 1 ≤ 70 * nWrs ss
  | [], _ => by simp
  | s :: r, h => by
    rw [Smls] at h
    have h1 := fmt_len s h.1
    have h2 := fmt_sum r h.2
    rw [List.map_cons, List.sum_cons, List.length_cons, nWrs]; omega
theorem fits7 {z : Str} (h : z.length ≤ 1000000) : z.length ≤ sizeLine := by rw [sizeLine_eq]; omega
def spFmT (n : Nat) : Sp := fun vs H Q _ => ∃ (v : V) (s : Stp), vs = [v] ∧ StAt H v s ∧ Sml s ∧ nest s ≤ n ∧ nWr s ≤ 10000 ∧ ∀ H', Same H H' → Q (.str (SX.S (fmtL s))) H'
def spFmS (n : Nat) : Sp := fun vs H Q _ => ∃ (kd : Bool) (a : Addr) (xs : List V) (ss : List Stp), vs = [.ref a] ∧ H a = some (ob kd xs) ∧ StsAt H xs ss ∧ Smls ss ∧ nests ss ≤ n ∧ nWrs ss ≤ 10000 ∧ ∀ H', Same H H' → Q (.str (SX.S (fmtsL ss))) H'
section
variable {P : Program} {w : World} {K : PySem.W.Frag} {mg : Str → Option Value} {base : Heap}
theorem ok_fmT {f fS fF fL : Addr} {fd fdS fdF fdL : FuncData} (F : Fun K "format_step" "format_step" sFmT f fd) (TS : TxS mg) (kF : Kn P w K mg base 1 "is_find" sIsFnd ["step"] spIsFnd fF fdF) (kL : Kn P w K mg base 2 "is_link" sIsLnk ["step"] spIsLnk fL fdL)
    (bS : Binds K fdS ["steps"] []) (gS : mg "format_steps" = some (.ref fS)) (kpS : PySem.W.keepIn K (.ref fS) = true) (n : Nat) {sp' : Sp} (hsp : ∀ vs H Q E, (∃ m, m < n ∧ spFmS m vs H Q E) → sp' vs H Q E) (ih : FnOk P w K mg base CX0 (2 * n + 2) fS fdS ["steps"] sp') :
    FnOk P w K mg base CX0 (2 * n + 3) f fd ["step"] (spFmT n) := by
  refine F.ok scFmT (fun vs H Q E h => ?_) (fun cdv A outer s H vs Q E hr h => ?_)
  · obtain ⟨v, st, rfl, _⟩ := h
    rfl
  · obtain ⟨v, st, rfl, hs, sm, hn, hw, q⟩ := h
    have hrm : ∀ {j : Nat}, j ≤ 2 * n + 2 → Room j (A.deeper (envOfC "format_step" (defScope sFmT) s.heap.objs.size f cdv)) := fun h => hr.mono h
    refine ⟨_, (pss_cons (ps_if (pt_val (pe_call kF.G (hrm (by omega)) (by rfl) kF.g kF.F.kp kF.b .nil pass0 (pa_cons (pv 0) pa_nil)))
        (pss_one (ps_ret (pe_callTy call_str_int (by rfl) TS.str (by decide +kernel) (pa_cons (pv 0) pa_nil)))) pss_nil)
      (pss_cons (ps_if (pt_val (pe_call kL.G (hrm (by omega)) (by rfl) kL.g kL.F.kp kL.b .nil pass0 (pa_cons (pv 0) pa_nil)))
        (pss_one (ps_ret (pe_joined (.cons (pe_fmt (pe_ix (show IxR _ (rIx K) from ix_seq) (pv 0) pe_int (fun _ _ => rfl))) (.cons pe_str (.cons (pe_fmt (pe_ix (show IxR _ (rIx K) from ix_seq) (pv 0) pe_int (fun _ _ => rfl))) .nil)))))) pss_nil)
      (pss_one (ps_ret (pe_joined (.cons (pe_fmt (pe_ix (show IxR _ (rIx K) from ix_seq) (pv 0) pe_int (fun _ _ => rfl))) (.cons pe_str (.cons (pe_fmt (pe_call ih (hrm (by omega)) (by rfl) gS kpS bS .nil pass0 (pa_cons (pe_ix (show IxR _ (rIx K) from ix_seq) (pv 0) pe_int (fun _ _ => rfl)) pa_nil))) (.cons pe_str .nil))))))))), ?_⟩
    refine ⟨_, rfl, v, st, rfl, hs, _, rfl, ?_⟩
    cases hs with
    | fnd z =>
      rw [Sml] at sm
      refine iteT ⟨_, rfl, _, rfl, log_sml sm, ?_⟩
      rw [str_int, ← fmtL]
      exact q H (Same.refl _)
    | @lnk t c a h =>
      rw [Sml] at sm
      have b1 := log_sml sm.1
      have b2 := log_sml sm.2
      have e : ((Str.empty ++ Str.ofString (toString c)) ++ (">" : Str)) ++ Str.ofString (toString a) = SX.S (fmtL (.lnk c a)) := by
        rw [str_int, str_int, fmtL, show (">" : Str) = SX.S [62] by decide +kernel, show (Str.empty : Str) = SX.S [] by decide +kernel, SX.S_cat, SX.S_cat, SX.S_cat]
        simp
      have l1 := intL_len sm.1
      have l2 := intL_len sm.2
      refine iteF ⟨_, rfl, _, _, rfl, .lnk h, _, rfl, iteT ?_⟩
      have i1 : (Str.ofString (toString c)).length = (intL c).length := by rw [str_int, SX.S_len]
      have i2 : (Str.ofString (toString a)).length = (intL a).length := by rw [str_int, SX.S_len]
      have f0 : (Str.empty : Str).length ≤ 0 := by decide +kernel
      have f1 := fits_cat f0 (Nat.le_of_eq i1)
      have f2 := fits_cat f1 (show (">" : Str).length ≤ 1 by decide +kernel)
      have f3 := fits_cat f2 (Nat.le_of_eq i2)
      refine ⟨_, rfl, Sq.ix (.inr (SqT.of h)) rfl (.inr ⟨_, rfl, b1, _, rfl, fits (by omega), _, rfl, fits (by omega), _, rfl, Sq.ix (.inr (SqT.of h)) rfl (.inr ⟨_, rfl, b2, _, rfl, fits (by omega), ?_⟩)⟩)⟩
      rw [e]
      exact q H (Same.refl _)
    | @rnd t b k kd xs ss h h2 h3 =>
      rw [Sml] at sm
      rw [nest] at hn
      rw [nWr] at hw
      have b1 := log_sml sm.1
      have l1 := intL_len sm.1
      have l2 := fmts_len ss sm.2
      have i1 : (Str.ofString (toString k)).length = (intL k).length := by rw [str_int, SX.S_len]
      have i2 : (SX.S (fmtsL ss)).length = (fmtsL ss).length := SX.S_len _
      have e : (((Str.empty ++ Str.ofString (toString k)) ++ ("*(" : Str)) ++ SX.S (fmtsL ss)) ++ (")" : Str) = SX.S (fmtL (.rnd k kd ss)) := by
        rw [str_int, fmtL, show ("*(" : Str) = SX.S [42, 40] by decide +kernel, show (")" : Str) = SX.S [41] by decide +kernel, show (Str.empty : Str) = SX.S [] by decide +kernel, SX.S_cat, SX.S_cat, SX.S_cat, SX.S_cat]
        simp
      have f0 : (Str.empty : Str).length ≤ 0 := by decide +kernel
      have f1 := fits_cat f0 (Nat.le_of_eq i1)
      have f2 := fits_cat f1 (show ("*(" : Str).length ≤ 2 by decide +kernel)
      have f3 := fits_cat f2 (Nat.le_of_eq i2)
      have f4 := fits_cat f3 (show (")" : Str).length ≤ 1 by decide +kernel)
      refine iteF ⟨_, rfl, _, _, rfl, .rnd h h2 h3, _, rfl, iteF ?_⟩
      refine ⟨_, rfl, Sq.ix (.inr (SqT.of h)) rfl (.inr ⟨_, rfl, b1, _, rfl, fits7 (by omega), _, rfl, fits7 (by omega), _, rfl, Sq.ix (.inr (SqT.of h)) rfl (hsp _ _ _ _ ⟨nests ss, by omega, kd, b, xs, ss, rfl, h2, h3, sm.2, Nat.le_refl _, by omega, fun H' s' => .inl ⟨_, rfl, fits7 (by omega), _, rfl, fits7 (by omega), _, rfl, fits7 (by omega), ?_⟩⟩)⟩)⟩
      rw [e]
      exact q H' s'
theorem ok_fmS {f fT : Addr} {fd fdT : FuncData} (F : Fun K "format_steps" "format_steps" sFmS f fd) (bT : Binds K fdT ["step"] []) (gT : mg "format_step" = some (.ref fT)) (kpT : PySem.W.keepIn K (.ref fT) = true) (n : Nat) (ih : FnOk P w K mg base CX0 (2 * n + 3) fT fdT ["step"] (spFmT n)) :
    FnOk P w K mg base CX0 (2 * n + 4) f fd ["steps"] (spFmS n) := by
  refine F.ok scFmS (fun vs H Q E h => ?_) (fun cdv A outer s H vs Q E hr h => ?_)
  · obtain ⟨kd, a, xs, ss, rfl, _⟩ := h
    rfl
  · obtain ⟨kd0, a, xs, ss, rfl, ha, hs, sm, hn, hw, q⟩ := h
    have hrm : ∀ {j : Nat}, j ≤ 2 * n + 3 → Room j (A.deeper (envOfC "format_steps" (defScope sFmS) s.heap.objs.size f cdv)) := fun h => hr.mono h
    refine ⟨_, (pss_one (ps_ret (pe_join pe_str (pe_lc (own := [("step", 1)]) (g := gName 1) (by rfl) scFmS.nd (pi_kd kd0 (pv 0)) (blkOk_by (own := [("step", 1)]) (N := fmSN) (sc := defScope sFmS) (by decide +kernel)) (fun _ _ _ _ _ => (pg_name (i := 1) scFmS.nd rfl (.inl rfl))) (fun _ _ _ _ _ => pts_nil) (fun _ _ _ _ _ => (pe_call ih (hrm (by omega)) (by rfl) gT kpT bT .nil pass0 (pa_cons (pv 1) pa_nil))))))), ?_⟩
    refine ⟨⟨_, rfl⟩, lc_kd (i0 := 0) rfl (ob_kd ha) fun D nD => ⟨fun i H' => H' D = some (.lst (((ss.take i).map fun s => SX.S (fmtL s)).map V.str)) ∧ Same H H', ⟨upd_same, same_new nD⟩, fun i H' _ h => (ob_kd ha).same h.2, ?_, ?_⟩⟩
    · rintro i v H' hv ⟨hc, sm'⟩
      obtain ⟨st, hst, hat⟩ := hs.get hv
      have hm := List.mem_of_getElem? hst
      have h1 := nests_mem hm
      have h2 := nWrs_mem hm
      refine ⟨rfl, _, rfl, v, st, rfl, hat.same sm', smls_mem sm hm, by omega, by omega, fun H2 s2 => ⟨_, s2 _ _ hc, ?_, ?_, same_over (sm'.trans s2) nD⟩⟩
      · rw [List.length_map, List.length_map, List.length_take]
        have := nWrs_len ss
        exact Nat.lt_of_le_of_lt (show _ ≤ 10000 by omega) (by decide)
      · rw [upd_same, List.take_add_one, hst, List.map_append, List.map_append]
        rfl
    · rintro H' ⟨hc, sm'⟩
      rw [hs.len, List.take_length] at hc
      refine ⟨_, D, ss.map fun s => SX.S (fmtL s), rfl, rfl, .inl (SqL.of hc), ?_, ?_⟩
      · have h0 := fmt_sum ss sm
        have h1 : (" " : Str).length = 1 := by decide +kernel
        rw [List.map_map, List.length_map, h1]
        have h2 : (ss.map ((fun x => x.length) ∘ fun s => SX.S (fmtL s))).sum = (ss.map fun s => (fmtL s).length).sum := by
          congr 1
        rw [h2]
        omega
      · have e : Txt.join (" " : Str) (ss.map fun s => SX.S (fmtL s)) = SX.S (fmtsL ss) := by
          have := SX.join_S [32] (ss.map fmtL)
          rw [List.map_map, fmts_join] at this
          exact (show (" " : Str) = SX.S [32] by decide +kernel) ▸ this
        rw [e]
        exact q H' sm'
theorem no_fn {k : Nat} {f : Addr} {fd : FuncData} {ps : List Str} {sp' : Sp} (h : ∀ vs H Q E, ¬ sp' vs H Q E) : FnOk P w K mg base CX0 k f fd ps sp' :=
  ⟨fun vs H Q E z => (h _ _ _ _ z).elim, fun A outer s H args us vs Q E hr e0 bb r z => (h _ _ _ _ z).elim⟩
theorem ok_fmTS {fT fS fF fL : Addr} {fdT fdS fdF fdL : FuncData} (FT : Fun K "format_step" "format_step" sFmT fT fdT) (FS : Fun K "format_steps" "format_steps" sFmS fS fdS) (TS : TxS mg) (kF : Kn P w K mg base 1 "is_find" sIsFnd ["step"] spIsFnd fF fdF) (kL : Kn P w K mg base 2 "is_link" sIsLnk ["step"] spIsLnk fL fdL)
    (bS : Binds K fdS ["steps"] []) (gS : mg "format_steps" = some (.ref fS)) (kpS : PySem.W.keepIn K (.ref fS) = true) (bT : Binds K fdT ["step"] []) (gT : mg "format_step" = some (.ref fT)) (kpT : PySem.W.keepIn K (.ref fT) = true) :
    ∀ n, FnOk P w K mg base CX0 (2 * n + 4) fS fdS ["steps"] (spFmS n)
  | 0 => ok_fmS FS bT gT kpT 0 (ok_fmT FT TS kF kL bS gS kpS 0 (sp' := fun _ _ _ _ => False) (fun _ _ _ _ ⟨m, hm, _⟩ => by omega) (no_fn fun _ _ _ _ z => z))
  | n + 1 => ok_fmS FS bT gT kpT (n + 1) (ok_fmT FT TS kF kL bS gS kpS (n + 1) (sp' := spFmS n) (fun _ _ _ _ ⟨m, hm, kd, a, xs, ss, h1, h2, h3, h4, h5, h6⟩ => ⟨kd, a, xs, ss, h1, h2, h3, h4, by omega, h6⟩) (FnOk.mono (ok_fmTS FT FS TS kF kL bS gS kpS bT gT kpT n) (by omega)))
theorem ok_fmSS {fT fS fF fL : Addr} {fdT fdS fdF fdL : FuncData} (FS : Fun K "format_steps" "format_steps" sFmS fS fdS) (FT : Fun K "format_step" "format_step" sFmT fT fdT) (TS : TxS mg) (kF : Kn P w K mg base 1 "is_find" sIsFnd ["step"] spIsFnd fF fdF) (kL : Kn P w K mg base 2 "is_link" sIsLnk ["step"] spIsLnk fL fdL)
    (bS : Binds K fdS ["steps"] []) (gS : mg "format_steps" = some (.ref fS)) (bT : Binds K fdT ["step"] []) (gT : mg "format_step" = some (.ref fT)) (n : Nat) : FnOk P w K mg base CX0 (2 * n + 4) fS fdS ["steps"] (spFmS n) :=
  ok_fmTS FT FS TS kF kL bS gS FS.kp bT gT FT.kp n
def spFmH : Sp := fun vs H Q _ => ∃ (kd : Bool) (a : Addr) (xs : List V) (ss : List Stp), vs = [.ref a] ∧ H a = some (ob kd xs) ∧ StsAt H xs ss ∧ Wfs true ss ∧ Smls ss ∧ nests ss ≤ 4 ∧ nWrs ss ≤ 100 ∧ ∀ H', Same H H' → Q (.str (SX.S (fmtsL ss))) H'
theorem ok_fmH {f fC fS : Addr} {fd fdC fdS : FuncData} (F : Fun K "format_history" "format_history" sFmH f fd) (kC : Kn P w K mg base 9 "check_history" sChkH ["history"] (spChkH 4) fC fdC) (kS : Kn P w K mg base 12 "format_steps" sFmS ["steps"] (spFmS 4) fS fdS) : FnOk P w K mg base CX0 13 f fd ["history"] spFmH := by
  refine F.ok scFmH (fun vs H Q E h => ?_) (fun cdv A outer s H vs Q E hr h => ?_)
  · obtain ⟨kd, a, xs, ss, rfl, _⟩ := h
    rfl
  · obtain ⟨kd, a, xs, ss, rfl, ha, hs, wf, sm, hn, hw, q⟩ := h
    have hrm : ∀ {j : Nat}, j ≤ 12 → Room j (A.deeper (envOfC "format_history" (defScope sFmH) s.heap.objs.size f cdv)) := fun h => hr.mono h
    refine ⟨_, (pss_cons (ps_expr (pe_call kC.G (hrm (by omega)) (by rfl) kC.g kC.F.kp kC.b .nil pass0 (pa_cons (pv 0) pa_nil)))
      (pss_one (ps_ret (pe_call kS.G (hrm (by omega)) (by rfl) kS.g kS.F.kp kS.b .nil pass0 (pa_cons (pv 0) pa_nil))))), ?_⟩
    exact ⟨_, rfl, kd, a, xs, ss, rfl, ha, hs, wf, hn, Nat.le_refl _, hw, fun H1 s1 => ⟨_, rfl, kd, a, xs, ss, rfl, s1 _ _ ha, hs.same s1, sm, hn, by omega, fun H2 s2 => q H2 (s1.trans s2)⟩⟩
end
end Ff

namespace Ff
open PySem PySem.Spec PyProof.Rows L2 ExX LamX
abbrev sRounds : Stmt := topS 37
abbrev roundsN : List Str := ["_law_draw", "_law_size", "_law_most", "_law_deep", "_law_k"]
theorem scRounds : FnScope roundsN ["_law_draw", "_law_size", "_law_most", "_law_deep"] (defScope sRounds) := ⟨rfl, rfl, rfl, by decide +kernel, rfl, by decide +kernel, by decide +kernel⟩
abbrev sWrit : Stmt := topS 38
abbrev writN : List Str := ["_law_steps", "_law_total", "_law_step_here"]
theorem scWrit : FnScope writN ["_law_steps"] (defScope sWrit) := ⟨rfl, rfl, rfl, by decide +kernel, rfl, by decide +kernel, by decide +kernel⟩
def rAddStr : R2 := fun x y H Q => ∃ i j, x = .str i ∧ y = .str j ∧ i.length + j.length ≤ sizeLine ∧ Q (.str (i ++ j)) H
def spRounds (deep : Nat) : Sp := fun vs H Q _ => ∃ (d l : Addr) (size most : Nat), vs = [.ref d, vi size, vi most, vi deep] ∧ DrawAt H d l ∧ 1 ≤ size ∧ size ≤ 10 ^ 30 ∧ most ≤ 100 ∧
  ∀ (D : Addr) (xs : List V) (ss : List Stp) H', H D = none → D ≠ d → H' D = some (.lst xs) → StsP (fun x => H x = none ∧ x ≠ D) H' xs ss → ss.length ≤ most → (∀ s ∈ ss, Drawn size deep s) → DrawAt H' d l → Sb d H H' → Q (.ref D) H'
def spWrit (n : Nat) : Sp := fun vs H Q _ => ∃ (kd : Bool) (a : Addr) (xs : List V) (ss : List Stp), vs = [.ref a] ∧ H a = some (ob kd xs) ∧ StsAt H xs ss ∧ nests ss ≤ n ∧ Q (vi (nWrs ss)) H
def spLPln (n : Nat) : Sp := fun vs H Q _ => ∃ (kd : Bool) (a : Addr) (xs : List V) (ss : List Stp), vs = [.ref a] ∧ H a = some (ob kd xs) ∧ StsAt H xs ss ∧ nests ss ≤ n ∧ nWrs ss ≤ 10000 ∧
  ∀ (D : Addr) (ys : List V) H', H D = none → H' D = some (.lst ys) → StsAt H' ys (pls ss) → Same H H' → Q (.ref D) H'
def spLTxt (n : Nat) : Sp := fun vs H Q _ => ∃ (kd : Bool) (a : Addr) (xs : List V) (ss : List Stp), vs = [.ref a] ∧ H a = some (ob kd xs) ∧ StsAt H xs ss ∧ Smls ss ∧ nests ss ≤ n ∧ nWrs ss ≤ 10000 ∧ ∀ H', Same H H' → Q (.str (SX.S (fmtsL ss))) H'
mutual
theorem pl_Pl : ∀ s : Stp, Pl (pl s)
  | .fnd z => by rw [pl, Pl]; trivial
  | .lnk c a => by rw [pl, Pl]; trivial
  | .rnd k kd ss => by rw [pl, Pl]; exact ⟨rfl, pls_Pls ss⟩
theorem pls_Pls : ∀ ss : List Stp, Pls (pls ss)
  | [] => by rw [pls, Pls]; trivial
  | s :: r => by rw [pls, Pls]; exact ⟨pl_Pl s, pls_Pls r⟩
end
theorem pls_len : ∀ l : List Stp, (pls l).length = l.length
  | [] => by rw [pls]
  | s :: r => by rw [pls, List.length_cons, List.length_cons, pls_len r]
theorem pls_app' : ∀ a b : List Stp, pls (a ++ b) = pls a ++ pls b
  | [], b => by rw [pls]; rfl
  | x :: a, b => by rw [List.cons_append, pls, pls, pls_app' a b]; rfl
section
variable {P : Program} {w : World} {K : PySem.W.Frag} {mg : Str → Option Value} {base : Heap}
theorem ok_rounds {f fT fS : Addr} {fd fdT fdS : FuncData} (F : Fun K "_law_rounds" "_law_rounds" sRounds f fd) (m : Nat) (k1 : Kn P w K mg base 1 "_law_take" sTake ["_law_draw", "_law_many"] spTake fT fdT) (k2 : Kn P w K mg base (m + 3) "_law_step" sStep ["_law_draw", "_law_size", "_law_deep"] (spStep m) fS fdS) (T : Tx mg) :
    FnOk P w K mg base CX0 (m + 4) f fd ["_law_draw", "_law_size", "_law_most", "_law_deep"] (spRounds m) := by
  refine F.ok scRounds (fun vs H Q E h => ?_) (fun cdv A outer s H vs Q E hr h => ?_)
  · obtain ⟨d, l, size, most, rfl, _⟩ := h
    rfl
  · obtain ⟨d, l, size, most, rfl, hD, hs1, hs2, hm, q⟩ := h
    have hrm : ∀ {j : Nat}, j ≤ m + 3 → Room j (A.deeper (envOfC "_law_rounds" (defScope sRounds) s.heap.objs.size f cdv)) := fun h => hr.mono h
    refine ⟨_, (pss_one (ps_ret (pe_lc (own := [("_law_k", 4)]) (g := gName 4) (by rfl) scRounds.nd (pi_range1 (by rfl) T.range (pa_cons (pe_call k1.G (hrm (by omega)) (by rfl) k1.g k1.F.kp k1.b .nil pass0 (pa_cons (pv 0) (pa_cons (pe_op op_add (pv 2) pe_int) pa_nil))) pa_nil)) (blkOk_by (own := [("_law_k", 4)]) (N := roundsN) (sc := defScope sRounds) (by decide +kernel)) (fun _ _ _ _ _ => (pg_name (i := 4) scRounds.nd rfl (.inl rfl))) (fun _ _ _ _ _ => pts_nil) (fun _ _ _ _ _ => (pe_call k2.G (hrm (by omega)) (by rfl) k2.g k2.F.kp k2.b .nil pass0 (pa_cons (pv 0) (pa_cons (pv 1) (pa_cons (pv 3) pa_nil)))))))), ?_⟩
    refine ⟨_, rfl, _, rfl, _, _, rfl, rfl, d, l, _, rfl, hD, by omega, Nat.lt_of_le_of_lt (show _ ≤ 1001 by omega) (by decide +kernel), fun many H5 hmany hD5 sb5 => ?_⟩
    refine ⟨_, rfl, by omega, by omega, fun D nD => ?_⟩
    have Dd : D ≠ d := hD5.ne nD
    have nD0 : H D = none := sb5.free Dd nD
    refine lc_range (lo := 0) (n := ((many : Nat) : Int).toNat) (fun i H' => ∃ xs ss, H' D = some (.lst xs) ∧ StsP (fun x => H x = none ∧ x ≠ D) H' xs ss ∧ ss.length = i ∧ (∀ s ∈ ss, Drawn size m s) ∧ DrawAt H' d l ∧ Sb d H H') ⟨[], [], upd_same, .nil, rfl, by simp, hD5.new nD, sb5.over nD0⟩ ?_ ?_
    · rintro i H' hi ⟨xs, ss, hDD, hst, hsl, hdr, hD', sb'⟩
      refine ⟨rfl, ?_⟩
      refine ⟨_, rfl, _, rfl, _, rfl, d, l, size, rfl, hD', hs1, hs2, fun v st H6 hv hdv hD6 sb6 => ?_⟩
      have hDD6 := sb6 _ _ Dd hDD
      obtain ⟨ys, hys⟩ := hD'.lst
      have nx : ∀ x, H' x = none → H x = none ∧ x ≠ D := fun x hx => ⟨sb'.free (fun z => by rw [z, hys] at hx; cases hx) hx, fun z => by rw [z, hDD] at hx; cases hx⟩
      refine ⟨xs, hDD6, ?_, xs ++ [v], ss ++ [st], upd_same, ?_, by rw [List.length_append, hsl]; rfl, ?_, ?_, (sb'.trans sb6).over nD0⟩
      · rw [hst.len, hsl]; exact Nat.lt_of_le_of_lt (show i ≤ 1000 by omega) (by decide)
      · refine (StsP.mv (N := fun x => H x = none ∧ x ≠ D) (H := H6) (fun x h => h) (fun x o h e _ => by rw [upd_ne h.2]; exact e) ((StsP.mv (fun x h => h) (fun x o h e _ => sb6 x o (fun z => by obtain ⟨zs, hzs⟩ := hD.lst; rw [z, hzs] at h; cases h.1) e) hst).app (.cons (StP.mv nx (fun x o _ e _ => e) hv) .nil)))
      · intro s hs
        rcases List.mem_append.mp hs with h | h
        · exact hdr s h
        · rw [List.mem_singleton.mp h]; exact hdv
      · exact hD6.put Dd (hD5.nel nD)
    · rintro H6 ⟨xs, ss, hDD, hst, hsl, hdr, hD6, sb6⟩
      exact q D xs ss H6 nD0 Dd hDD hst (by omega) hdr hD6 sb6
theorem ok_writ {f : Addr} {fd : FuncData} (F : Fun K "_law_written" "_law_written" sWrit f fd) (TS : TxS mg) (b : Binds K fd ["_law_steps"] []) (g : mg "_law_written" = some (.ref f)) :
    ∀ n, FnOk P w K mg base CX0 (n + 1) f fd ["_law_steps"] (spWrit n) := by
  intro n
  have main : ∀ n, (∀ sp' : Sp, (∀ vs H Q E, sp' vs H Q E → ∃ m, m < n ∧ spWrit m vs H Q E) → FnOk P w K mg base CX0 n f fd ["_law_steps"] sp') → FnOk P w K mg base CX0 (n + 1) f fd ["_law_steps"] (spWrit n) := by
    intro n ih0
    have ih := ih0 (fun vs H Q E => ∃ m, m < n ∧ spWrit m vs H Q E) fun _ _ _ _ h => h
    refine F.ok scWrit (fun vs H Q E h => ?_) (fun cdv A outer s H vs Q E hr h => ?_)
    · obtain ⟨kd0, a, xs, ss, rfl, _⟩ := h
      rfl
    · obtain ⟨kd0, a, xs, ss, rfl, ha, hss, hn, q⟩ := h
      have hrm : ∀ {j : Nat}, j ≤ n → Room j (A.deeper (envOfC "_law_written" (defScope sWrit) s.heap.objs.size f cdv)) := fun h => hr.mono h
      refine ⟨_, (pss_cons (ps_set (i := 1) scWrit.nd rfl (.inl rfl) pe_int)
      (pss_cons (ps_for PassesOwn.never rfl (pi_kd kd0 (pv 0)) (pg_name (i := 2) scWrit.nd rfl (.inl rfl))
        (pss_cons (ps_set (i := 1) scWrit.nd rfl (.inl rfl) (pe_op op_add (pv 1) pe_int))
        (pss_one (ps_if (PW.pt (pw_and (pt_not (pt_val (pe_callB call_isi (by rfl) TS.isinstance (by decide +kernel) (pa_cons (pv 2) (pa_cons (pe_ty (n := "int") (by rfl) TS.int (by decide +kernel)) pa_nil))))) (pw_and1 (pt_cmpR op_eq (pe_ix (show IxR _ (rIx K) from ix_seq) (pv 2) pe_int (fun _ _ => rfl)) pe_str (nomark _)))))
          (pss_one (ps_set (i := 1) scWrit.nd rfl (.inl rfl) (pe_op op_add (pv 1) (pe_call ih (hrm (by omega)) (by rfl) g F.kp b .nil pass0 (pa_cons (pe_ix (show IxR _ (rIx K) from ix_seq) (pv 2) pe_int (fun _ _ => rfl)) pa_nil))))) pss_nil))))
      (pss_one (ps_ret (pv 1))))), ?_⟩
      refine for_kd (xs := xs) rfl (ob_kd ha) (fun i σ H' => (∃ y, σ = [some (.ref a), some (vi (nWrs (ss.take i))), y]) ∧ H' = H) ⟨⟨_, by rw [List.take_zero, nWrs]; rfl⟩, rfl⟩ (fun i σ H' _ h => by rw [h.2]; exact ob_kd ha) ?_ ?_
      · rintro i v σ H' hv ⟨⟨y, rfl⟩, rfl⟩
        obtain ⟨st, hst, hat⟩ := hss.get hv
        have hmem := List.mem_of_getElem? hst
        have hti := nWrs_take hst
        have hne := nests_mem hmem
        refine ⟨_, rfl, _, _, rfl, rfl, ?_⟩
        cases hat with
        | fnd z =>
          refine ⟨_, rfl, _, _, _, _, _, rfl, .ty _, .base (.int z), kit_ty (r := true) (by decide +kernel), _, rfl, ?_⟩
          refine ⟨⟨some (.int z), ?_⟩, rfl⟩
          rw [hti, nWr]; rfl
        | @lnk t c0 a0 h =>
          refine ⟨_, rfl, _, _, _, _, _, rfl, .ty _, .base (.tup h), kit_ty (r := false) (by decide +kernel), _, rfl, ?_⟩
          refine ⟨_, rfl, Sq.ix (.inr (SqT.of h)) rfl ⟨rfl, _, rfl, iteF ⟨⟨some (.ref t), ?_⟩, rfl⟩⟩⟩
          rw [hti, nWr]; rfl
        | @rnd t b2 k kd2 ys s2' ht hb hsts =>
          refine ⟨_, rfl, _, _, _, _, _, rfl, .ty _, .base (.tup ht), kit_ty (r := false) (by decide +kernel), _, rfl, ?_⟩
          rw [nest] at hne
          rw [nWr] at hti
          refine ⟨_, rfl, Sq.ix (.inr (SqT.of ht)) rfl ⟨rfl, _, rfl, iteT ?_⟩⟩
          refine ⟨_, rfl, _, rfl, Sq.ix (.inr (SqT.of ht)) rfl ⟨nests s2', by omega, kd2, b2, ys, s2', rfl, hb, hsts, Nat.le_refl _, _, _, rfl, rfl, ⟨some (.ref t), ?_⟩, rfl⟩⟩
          rw [hti, show nWrs (ss.take i) + (1 + nWrs s2') = nWrs (ss.take i) + 1 + nWrs s2' by omega]; rfl
      · rintro σ H' ⟨⟨y, rfl⟩, rfl⟩
        rw [hss.len, List.take_length]
        exact ⟨_, rfl, q⟩
  induction n using Nat.strongRecOn with
  | _ n ih =>
    refine main n fun sp' h => ?_
    cases n with
    | zero => exact ⟨fun vs H Q E z => by obtain ⟨m, hm, _⟩ := h _ _ _ _ z; omega, fun A outer s H args us vs Q E hr e0 bb r z => by obtain ⟨m, hm, _⟩ := h _ _ _ _ z; omega⟩
    | succ n =>
      refine FnOk.imp (FnOk.mono (ih n (by omega)) (by omega)) fun vs H Q E z => ?_
      obtain ⟨m, hm, kd, a, xs, ss, e, h1, h2, h3, h4⟩ := h _ _ _ _ z
      exact ⟨kd, a, xs, ss, e, h1, h2, by omega, h4⟩
end
end Ff

namespace Ff
open PySem PySem.Spec PyProof.Rows L2 ExX LamX
section
variable {P : Program} {w : World} {K : PySem.W.Frag} {mg : Str → Option Value} {base : Heap}
theorem par_S : (")" : Str) = SX.S [41] := by decide +kernel
theorem cls_no {a : List Nat} (h : 41 ∉ a) : (!decide (V.str (SX.S a) = V.str (")" : Str))) = true := by
  rw [par_S, decide_eq_false]
  · rfl
  · intro e
    injection e with e
    exact h (by rw [SX.S_inj e]; simp)
/-- what the reader holds: steps at A, the stack at O -/
structure Rp (H H' : Hp) (A O : Addr) (xs : List V) (s : List Stp) (vs : List V) (o : List (Int × List Stp)) (Ls : List Addr) : Prop where
  a : H' A = some (.lst xs)
  x : StsAt H' xs s
  p : Pls s
  oo : H' O = some (.lst vs.reverse)
  t : OutAt H' vs o Ls
  nd : (A :: O :: Ls).Nodup
  fr : ∀ x ∈ A :: O :: Ls, H x = none
  sm : Same H H'
section
variable {H H' H2 : Hp} {A O : Addr} {xs vs : List V} {s : List Stp} {o : List (Int × List Stp)} {Ls : List Addr}
theorem Rp.ao (R : Rp H H' A O xs s vs o Ls) : A ≠ O := fun e => by have := R.nd; rw [e] at this; simp at this
theorem Rp.al (R : Rp H H' A O xs s vs o Ls) : A ∉ Ls := fun e => by have := R.nd; simp [e] at this
theorem Rp.ol (R : Rp H H' A O xs s vs o Ls) : O ∉ Ls := fun e => by have := R.nd; simp [e] at this
theorem Rp.na (R : Rp H H' A O xs s vs o Ls) : H A = none := R.fr _ (by simp)
theorem Rp.no (R : Rp H H' A O xs s vs o Ls) : H O = none := R.fr _ (by simp)
theorem Rp.same (R : Rp H H' A O xs s vs o Ls) (e : Same H' H2) : Rp H H2 A O xs s vs o Ls :=
  ⟨e _ _ R.a, R.x.same e, R.p, e _ _ R.oo, R.t.mv (TSame.of e) (fun L _ ys h => e _ _ h), R.nd, R.fr, R.sm.trans e⟩
theorem Rp.push (R : Rp H H' A O xs s vs o Ls) {y : V} {st : Stp} (hy : StAt H' y st) (py : Pl st) : Rp H (upd H' A (.lst (xs ++ [y]))) A O (xs ++ [y]) (s ++ [st]) vs o Ls := by
  have ts : TSame H' (upd H' A (.lst (xs ++ [y]))) := TSame.put R.a
  refine ⟨upd_same, (R.x.ts ts R.p).app (.cons (StAt.ts ts py hy) .nil), pls_app R.p (by rw [Pls, Pls]; exact ⟨py, trivial⟩), ?_, R.t.mv ts fun L hL ys h => ?_, R.nd, R.fr, same_over R.sm R.na⟩
  · rw [upd_ne R.ao.symm]; exact R.oo
  · rw [upd_ne (show L ≠ A from fun e => R.al (e ▸ hL))]; exact h
theorem Rp.opn (R : Rp H H' A O xs s vs o Ls) {k : Int} {t D : Addr} (ht : H' t = some (.tup [.int k, .ref A])) (nD : upd H' O (.lst (vs.reverse ++ [.ref t])) D = none) :
    Rp H (upd (upd H' O (.lst (vs.reverse ++ [.ref t]))) D (.lst [])) D O [] [] (.ref t :: vs) ((k, s) :: o) (A :: Ls) := by
  have hDO : D ≠ O := fun e => by rw [e, upd_same] at nD; cases nD
  have nD' : H' D = none := by rw [upd_ne hDO] at nD; exact nD
  have hDA : D ≠ A := fun e => by rw [e, R.a] at nD'; cases nD'
  have ts : TSame H' (upd (upd H' O (.lst (vs.reverse ++ [.ref t]))) D (.lst [])) := (TSame.put R.oo).trans (TSame.of (same_new nD))
  have keep : ∀ L ys, L ≠ O → H' L = some (.lst ys) → upd (upd H' O (.lst (vs.reverse ++ [.ref t]))) D (.lst []) L = some (.lst ys) := fun L ys hL h => by
    rw [upd_ne (fun e => by rw [e, nD'] at h; cases h), upd_ne hL]; exact h
  have nd := R.nd
  have nDL : D ∉ Ls := fun e => by
    have : ∀ {vs o Ls}, OutAt H' vs o Ls → D ∈ Ls → False := by
      intro vs o Ls h
      induction h with
      | nil => intro m; cases m
      | cons h1 h2 _ _ _ ih =>
        intro m
        rcases List.mem_cons.mp m with e | m
        · rw [← e, nD'] at h2; cases h2
        · exact ih m
    exact this R.t e
  have nHD : H D = none := R.sm.free nD'
  refine ⟨upd_same, .nil, by rw [Pls]; trivial, ?_, .cons (ts _ _ ht) (keep A xs R.ao R.a) (R.x.ts ts R.p) R.p (R.t.mv ts fun L hL ys h => keep L ys (fun e => R.ol (e ▸ hL)) h), ?_, ?_, (same_over R.sm R.no).trans (same_new nD)⟩
  · rw [upd_ne hDO.symm, upd_same, List.reverse_cons]
  · have h1 := R.ao
    have h2 := R.al
    have h3 := R.ol
    simp only [List.nodup_cons, List.mem_cons, not_or] at nd ⊢
    exact ⟨⟨hDO, hDA, nDL⟩, ⟨h1.symm, h3⟩, h2, nd.2.2⟩
  · intro x hx
    rcases List.mem_cons.mp hx with e | hx
    · rw [e]; exact nHD
    · rcases List.mem_cons.mp hx with e | hx
      · rw [e]; exact R.no
      · exact R.fr x (by
          rcases List.mem_cons.mp hx with e | hx
          · rw [e]; exact List.mem_cons_self
          · exact List.mem_cons_of_mem _ (List.mem_cons_of_mem _ hx))
theorem Rp.pop {v : V} {k : Int} {r : List Stp} {vs : List V} {o : List (Int × List Stp)} (R : Rp H H' A O xs s (v :: vs) ((k, r) :: o) Ls) :
    ∃ t L ys Ls', v = .ref t ∧ Ls = L :: Ls' ∧ H' t = some (.tup [.int k, .ref L]) ∧ H' L = some (.lst ys) ∧ L ≠ O ∧ L ≠ A ∧ ys.length = r.length ∧
      ∀ H2 (t1 t2 : Addr), Same (upd H' O (.lst vs.reverse)) H2 → H2 t1 = some (.tup xs) → H2 t2 = some (.tup [.str "repeat", .int k, .ref t1]) →
        Rp H (upd H2 L (.lst (ys ++ [.ref t2]))) L O (ys ++ [.ref t2]) (r ++ [.rnd k false s]) vs o Ls' := by
  cases hR : R.t with
  | @cons t L _ ys _ _ _ Ls' h1 h2 h3 h4 h5 =>
    have nd := R.nd
    have hLO : L ≠ O := fun e => R.ol (by rw [← e]; exact List.mem_cons_self)
    have hLA : L ≠ A := fun e => R.al (by rw [← e]; exact List.mem_cons_self)
    have hL' : L ∉ Ls' := fun e => by simp [e] at nd
    have hO' : O ∉ Ls' := fun e => R.ol (List.mem_cons_of_mem _ e)
    refine ⟨t, L, ys, Ls', rfl, rfl, h1, h2, hLO, hLA, h3.len, fun H2 t1 t2 e q1 q2 => ?_⟩
    have hL2 : H2 L = some (.lst ys) := e _ _ (by rw [upd_ne hLO]; exact h2)
    have ts : TSame H' (upd H2 L (.lst (ys ++ [.ref t2]))) := ((TSame.put R.oo).trans (TSame.of e)).trans (TSame.put hL2)
    have tu : TSame H2 (upd H2 L (.lst (ys ++ [.ref t2]))) := TSame.put hL2
    refine ⟨upd_same, (h3.ts ts h4).app (.cons (.rnd (kd := false) (tu _ _ q2) (tu _ _ q1) (R.x.ts ts R.p)) .nil), pls_app h4 (by rw [Pls, Pls, Pl]; exact ⟨⟨rfl, R.p⟩, trivial⟩), ?_, h5.mv ts fun M hM zs h => ?_, ?_, ?_, same_over ((same_over R.sm R.no).trans e) (R.fr _ (by simp))⟩
    · rw [upd_ne hLO.symm]; exact e _ _ upd_same
    · rw [upd_ne (show M ≠ L from fun e => hL' (e ▸ hM))]
      exact e _ _ (by rw [upd_ne (show M ≠ O from fun e => hO' (e ▸ hM))]; exact h)
    · simp only [List.nodup_cons, List.mem_cons, not_or] at nd ⊢
      exact ⟨⟨hLO, hL'⟩, hO', nd.2.2.2⟩
    · intro x hx
      refine R.fr x ?_
      rcases List.mem_cons.mp hx with e | hx
      · rw [e]; simp
      · rcases List.mem_cons.mp hx with e | hx
        · rw [e]; simp
        · simp [hx]
end
end
end Ff

namespace Ff
open PySem PySem.Spec PyProof.Rows L2 ExX LamX
abbrev sIsH : Stmt := topS 24
abbrev isHN : List Str := ["steps"]
theorem scIsH : FnScope isHN ["steps"] (defScope sIsH) := ⟨rfl, rfl, rfl, by decide +kernel, rfl, by decide +kernel, by decide +kernel⟩
/-! what check_history says of any steps, both ways -/
def isRk : Stp → Bool
  | .rnd k _ _ => decide (0 ≤ k) && decide (k ≤ lim30)
  | _ => false
def standB (dep : Nat) : Stp → Bool
  | .fnd _ => true
  | .lnk _ _ => decide (dep = 0)
  | .rnd k kd ss => isRk (.rnd k kd ss) && decide (dep < 4)
inductive CkR where
  | ok (pos : Nat)
  | long
  | bad (pos : Nat)
mutual
def ck1 (dep pos : Nat) : Stp → CkR
  | .fnd z => if 100 ≤ pos then .long else .ok (pos + 1)
  | .lnk c a => if 100 ≤ pos then .long else if standB dep (.lnk c a) = true then .ok (pos + 1) else .bad pos
  | .rnd k kd ss => if 100 ≤ pos then .long else if standB dep (.rnd k kd ss) = true then cks (dep + 1) (pos + 1) ss else .bad pos
def cks (dep pos : Nat) : List Stp → CkR
  | [] => .ok pos
  | s :: r => match ck1 dep pos s with
    | .ok p => cks dep p r
    | .long => .long
    | .bad p => .bad p
end
mutual
theorem ck1_le : ∀ (s : Stp) (dep pos p : Nat), ck1 dep pos s = .ok p → pos ≤ 100 → p ≤ 100
  | .fnd z, dep, pos, p, h, hp => by
    rw [ck1] at h
    split at h
    · cases h
    · injection h with h; omega
  | .lnk c a, dep, pos, p, h, hp => by
    rw [ck1] at h
    split at h
    · cases h
    · split at h
      · injection h with h; omega
      · cases h
  | .rnd k kd ss, dep, pos, p, h, hp => by
    rw [ck1] at h
    split at h
    · cases h
    · split at h
      · exact cks_le ss _ _ p h (by omega)
      · cases h
theorem cks_le : ∀ (ss : List Stp) (dep pos p : Nat), cks dep pos ss = .ok p → pos ≤ 100 → p ≤ 100
  | [], dep, pos, p, h, hp => by
    rw [cks] at h
    injection h with h; omega
  | s :: r, dep, pos, p, h, hp => by
    rw [cks] at h
    cases e : ck1 dep pos s with
    | ok p1 =>
      rw [e] at h
      exact cks_le r dep p1 p h (ck1_le s dep pos p1 e hp)
    | long => rw [e] at h; cases h
    | bad q => rw [e] at h; cases h
end
def CkOut (CL CB : Addr) (Q : Nat → Hp → Prop) (E : XK) (H : Hp) : CkR → Prop
  | .ok p => Q p H
  | .long => Flies H E CL "limit" "TooLong" (.int 100)
  | .bad p => Flies H E CB "pos" "BadStep" (vi p)
def spIsRndG : Sp := fun vs H Q _ => ∃ (v : V) (s : Stp), vs = [v] ∧ StAt H v s ∧ ∀ H', Same H H' → Q (.bl (isRk s)) H'
def spMayG : Sp := fun vs H Q _ => ∃ (v : V) (s : Stp) (dep : Nat), vs = [v, vi dep] ∧ StAt H v s ∧ ∀ H', Same H H' → Q (.bl (standB dep s)) H'
def spCkS (CL CB : Addr) (m : Nat) : Sp := fun vs H Q E => ∃ (kd : Bool) (a : Addr) (xs : List V) (ss : List Stp) (dep pos : Nat), vs = [.ref a, vi dep, vi pos] ∧ H a = some (ob kd xs) ∧ StsAt H xs ss ∧ 4 ≤ dep + m ∧ dep ≤ 4 ∧ pos ≤ 100 ∧ ∀ H', Same H H' → CkOut CL CB (fun p H1 => Q (vi p) H1) E H' (cks dep pos ss)
def spCkH (CL CB : Addr) : Sp := fun vs H Q E => ∃ (kd : Bool) (a : Addr) (xs : List V) (ss : List Stp), vs = [.ref a] ∧ H a = some (ob kd xs) ∧ StsAt H xs ss ∧ ∀ H', Same H H' → CkOut CL CB (fun _ H1 => Q .non H1) E H' (cks 0 0 ss)
def okH (ss : List Stp) : Bool := match cks 0 0 ss with
  | .ok _ => true
  | _ => false
def spIsHG : Sp := fun vs H Q _ => ∃ (kd : Bool) (a : Addr) (xs : List V) (ss : List Stp), vs = [.ref a] ∧ H a = some (ob kd xs) ∧ StsAt H xs ss ∧ ∀ H', Same H H' → Q (.bl (okH ss)) H'
section
variable {P : Program} {w : World} {K : PySem.W.Frag} {mg : Str → Option Value} {base : Heap} {CL CB : Addr}
theorem okG_isRnd {f fA : Addr} {fd fdA : FuncData} {tL : Tok} (F : Fun K "is_round" "is_round" sIsRnd f fd) (kA : Kn P w K mg base 1 "has_form" sForm ["step", "word"] spForm fA fdA) (TS : TxS mg) (gL : mg "COUNT_LIMIT" = some (.int 1000000000000000000000000000000 tL)) : FnOk P w K mg base CX0 2 f fd ["step"] spIsRndG := by
  refine F.ok scIsRnd (fun vs H Q E h => ?_) (fun cdv A outer s H vs Q E hr h => ?_)
  · obtain ⟨v, st, rfl, _⟩ := h
    rfl
  · obtain ⟨v, st, rfl, hs, q⟩ := h
    have hrm : ∀ {j : Nat}, j ≤ 1 → Room j (A.deeper (envOfC "is_round" (defScope sIsRnd) s.heap.objs.size f cdv)) := fun h => hr.mono h
    refine ⟨_, (pss_one (ps_ret (pe_and (pe_call kA.G (hrm (by omega)) (by rfl) kA.g kA.F.kp kA.b .nil pass0 (pa_cons (pv 0) (pa_cons pe_str pa_nil))) (pe_and (pe_callB call_isiT (by rfl) TS.isinstance (by decide +kernel) (pa_cons (pe_ix (show IxR _ (rIx K) from ix_seq) (pv 0) pe_int (fun _ _ => rfl)) (pa_cons (pe_tup (pa_cons (pe_ty (n := "list") (by rfl) TS.list (by decide +kernel)) (pa_cons (pe_ty (n := "tuple") (by rfl) TS.tuple (by decide +kernel)) pa_nil))) pa_nil))) (pe_one (pe_chain op_le op_le pe_int (pe_ix (show IxR _ (rIx K) from ix_seq) (pv 0) pe_int (fun _ _ => rfl)) (pe_glob (v := .int 1000000000000000000000000000000) rfl gL ⟨_, rfl⟩))))))), ?_⟩
    refine ⟨_, rfl, v, st, false, rfl, hs, _, rfl, ?_⟩
    cases hs with
    | fnd z => exact iteF (q H (Same.refl _))
    | lnk h => exact iteF (q H (Same.refl _))
    | @rnd t b k kd xs ss h h2 h3 =>
      refine iteT ⟨_, rfl, Sq.ix (.inr (SqT.of h)) rfl ⟨by show 2 ≤ sizeLine; decide, fun tp ntp => ?_⟩⟩
      have s1 := same_new (o := .tup [V.ty "list", V.ty "tuple"]) ntp
      have el : lim30 = 1000000000000000000000000000000 := by decide
      have fin : ∀ H', Same H H' → H' t = some (.tup [.str "repeat", .int k, .ref b]) → (if decide ((0 : Int) ≤ k) = true then Q (.bl (decide (k ≤ (1000000000000000000000000000000 : Int)))) H' else Q (.bl false) H') := fun H' s' _ => by
        have this : Q (.bl (decide (0 ≤ k) && decide (k ≤ lim30))) H' := q H' s'
        rw [el] at this
        by_cases hk : 0 ≤ k
        · rw [decide_eq_true hk] at this ⊢
          rw [if_pos rfl]
          exact this
        · rw [decide_eq_false hk] at this ⊢
          rw [if_neg (by decide)]
          exact this
      cases kd with
      | false =>
        refine ⟨_, tp, _, _, _, _, rfl, upd_same, .cons (.ty _) (.cons (.ty _) .nil), tyT (SqT.of (s1 _ _ h2)), kit2 (r := false) (s := true) (by decide +kernel) (by decide +kernel), _, rfl, iteT ?_⟩
        refine ⟨_, rfl, Sq.ix (.inr (SqT.of (s1 _ _ h))) rfl ⟨_, _, rfl, rfl, _, rfl, ?_⟩⟩
        have z := fin _ s1 (s1 _ _ h)
        show if decide ((0 : Int) ≤ k) = true then _ else _
        by_cases hk : 0 ≤ k
        · rw [decide_eq_true hk] at z ⊢
          exact iteT ⟨_, _, rfl, rfl, by rwa [if_pos rfl] at z⟩
        · rw [decide_eq_false hk] at z ⊢
          exact iteF (by rwa [if_neg (by decide)] at z)
      | true =>
        refine ⟨_, tp, _, _, _, _, rfl, upd_same, .cons (.ty _) (.cons (.ty _) .nil), tyL (SqL.of (s1 _ _ h2)), kit2 (r := true) (s := false) (by decide +kernel) (by decide +kernel), _, rfl, iteT ?_⟩
        refine ⟨_, rfl, Sq.ix (.inr (SqT.of (s1 _ _ h))) rfl ⟨_, _, rfl, rfl, _, rfl, ?_⟩⟩
        have z := fin _ s1 (s1 _ _ h)
        show if decide ((0 : Int) ≤ k) = true then _ else _
        by_cases hk : 0 ≤ k
        · rw [decide_eq_true hk] at z ⊢
          exact iteT ⟨_, _, rfl, rfl, by rwa [if_pos rfl] at z⟩
        · rw [decide_eq_false hk] at z ⊢
          exact iteF (by rwa [if_neg (by decide)] at z)
theorem okG_may {f fL fR fF : Addr} {fd fdL fdR fdF : FuncData} {tN : Tok} (F : Fun K "may_stand" "may_stand" sMay f fd) (kL : Kn P w K mg base 2 "is_link" sIsLnk ["step"] spIsLnk fL fdL) (kR : Kn P w K mg base 2 "is_round" sIsRnd ["step"] spIsRndG fR fdR) (kF : Kn P w K mg base 1 "is_find" sIsFnd ["step"] spIsFnd fF fdF) (gN : mg "MAX_NESTING" = some (.int 4 tN)) : FnOk P w K mg base CX0 3 f fd ["step", "depth"] spMayG := by
  refine F.ok scMay (fun vs H Q E h => ?_) (fun cdv A outer s H vs Q E hr h => ?_)
  · obtain ⟨v, st, dep, rfl, _⟩ := h
    rfl
  · obtain ⟨v, st, dep, rfl, hs, q⟩ := h
    have hrm : ∀ {j : Nat}, j ≤ 2 → Room j (A.deeper (envOfC "may_stand" (defScope sMay) s.heap.objs.size f cdv)) := fun h => hr.mono h
    refine ⟨_, (pss_cons (ps_if (pt_val (pe_call kL.G (hrm (by omega)) (by rfl) kL.g kL.F.kp kL.b .nil pass0 (pa_cons (pv 0) pa_nil)))
        (pss_one (ps_ret (pe_cmpR op_eq (pv 1) pe_int (nomark _)))) pss_nil)
      (pss_cons (ps_if (pt_val (pe_call kR.G (hrm (by omega)) (by rfl) kR.g kR.F.kp kR.b .nil pass0 (pa_cons (pv 0) pa_nil)))
        (pss_one (ps_ret (pe_cmpR op_lt (pv 1) (pe_glob (v := .int 4) rfl gN ⟨_, rfl⟩) (nomark _)))) pss_nil)
      (pss_one (ps_ret (pe_call kF.G (hrm (by omega)) (by rfl) kF.g kF.F.kp kF.b .nil pass0 (pa_cons (pv 0) pa_nil)))))), ?_⟩
    refine ⟨_, rfl, v, st, rfl, hs, _, rfl, ?_⟩
    cases st with
    | lnk c a =>
      refine iteT ⟨_, rfl, rfl, ?_⟩
      have z := q H (Same.refl _)
      have e : decide (vi dep = V.int 0) = decide (dep = 0) := decide_eq_decide.mpr ⟨fun z => by have := V.int.inj z; omega, fun z => by rw [z]; rfl⟩
      show Q (.bl (decide (vi dep = V.int 0))) H
      rw [e]
      exact z
    | rnd k kd ss =>
      refine iteF ⟨_, rfl, v, _, rfl, hs, fun H1 s1 => ⟨_, rfl, ?_⟩⟩
      have z : Q (.bl (isRk (.rnd k kd ss) && decide (dep < 4))) H1 := q H1 s1
      cases hk : isRk (.rnd k kd ss) with
      | true =>
        rw [hk, Bool.true_and] at z
        refine iteT ⟨_, rfl, _, _, rfl, rfl, ?_⟩
        have e : decide ((dep : Int) < 4) = decide (dep < 4) := decide_eq_decide.mpr (by omega)
        show Q (.bl (decide ((dep : Int) < 4))) H1
        rw [e]
        exact z
      | false =>
        rw [hk, Bool.false_and] at z
        exact iteF ⟨_, rfl, v, _, rfl, hs.same s1, z⟩
    | fnd z => exact iteF ⟨_, rfl, v, _, rfl, hs, fun H1 s1 => ⟨_, rfl, iteF ⟨_, rfl, v, _, rfl, hs.same s1, q H1 s1⟩⟩⟩
theorem okB_ckS {f fM fR : Addr} {fd fdM fdR : FuncData} {tS : Tok} (F : Fun K "check_steps" "check_steps" sChkS f fd) (kM : Kn P w K mg base 3 "may_stand" sMay ["step", "depth"] spMayG fM fdM) (kR : Kn P w K mg base 2 "is_round" sIsRnd ["step"] spIsRndG fR fdR) (b : Binds K fd ["steps", "depth", "pos"] []) (g : mg "check_steps" = some (.ref f)) (gS : mg "MAX_STEPS" = some (.int 100 tS))
    (RL : Raisable P w K mg base 2 "TooLong" CL "limit" "TooLong") (RB : Raisable P w K mg base 2 "BadStep" CB "pos" "BadStep") :
    ∀ n, FnOk P w K mg base (L2N.CX P w) (n + 4) f fd ["steps", "depth", "pos"] (spCkS CL CB n) := by
  intro n
  have main : ∀ n, (∀ sp' : Sp, (∀ vs H Q E, sp' vs H Q E → ∃ m, m < n ∧ spCkS CL CB m vs H Q E) → FnOk P w K mg base (L2N.CX P w) (n + 3) f fd ["steps", "depth", "pos"] sp') → FnOk P w K mg base (L2N.CX P w) (n + 4) f fd ["steps", "depth", "pos"] (spCkS CL CB n) := by
    intro n ih0
    have ih := ih0 (fun vs H Q E => ∃ m, m < n ∧ spCkS CL CB m vs H Q E) fun _ _ _ _ h => h
    refine okN F scChkS (fun vs H Q E h => ?_) (fun cdv A outer s H vs Q E hr h tk => ?_)
    · obtain ⟨kd0, a, xs, ss, dep, pos, rfl, _⟩ := h
      rfl
    · obtain ⟨kd0, a, xs, ss, dep, pos, rfl, ha, hss, hm, hd, hp, q⟩ := h
      have hrm : ∀ {j : Nat}, j ≤ n + 3 → Room j (A.deeper (envOfC "check_steps" (defScope sChkS) s.heap.objs.size f cdv)) := fun h => hr.mono h
      refine ⟨_, (pss_cons (ps_for PassesOwn.leaving rfl (pi_kd kd0 (pv 0)) (pg_name (i := 3) scChkS.nd rfl (.inl rfl))
        (pss_cons (ps_if (pt_cmpR op_ge (pv 2) (pe_glob (v := .int 100) rfl gS ⟨_, rfl⟩) (nomark _))
          (pss_one (L2N.ps_raise rfl tk (pmk_err RL (hrm (by omega)) (by rfl) (pe_glob (v := .int 100) (by rfl) gS ⟨_, rfl⟩)))) pss_nil)
        (pss_cons (ps_if (pt_not (pt_val (pe_call kM.G (hrm (by omega)) (by rfl) kM.g kM.F.kp kM.b .nil pass0 (pa_cons (pv 3) (pa_cons (pv 1) pa_nil)))))
          (pss_one (L2N.ps_raise rfl tk (pmk_err RB (hrm (by omega)) (by rfl) (pv 2)))) pss_nil)
        (pss_cons (ps_aug (i := 2) scChkS.nd rfl (.inl rfl) pe_int ip_add)
        (pss_one (ps_if (pt_val (pe_call kR.G (hrm (by omega)) (by rfl) kR.g kR.F.kp kR.b .nil pass0 (pa_cons (pv 3) pa_nil)))
          (pss_one (ps_set (i := 2) scChkS.nd rfl (.inl rfl) (pe_call ih (hrm (by omega)) (by rfl) g F.kp b .nil (lookNE tk) (pa_cons (pe_ix (show IxR _ (rIx K) from ix_seq) (pv 3) pe_int (fun _ _ => rfl)) (pa_cons (pe_op op_add (pv 1) pe_int) (pa_cons (pv 2) pa_nil)))))) pss_nil))))))
      (pss_one (ps_ret (pv 2)))), ?_⟩
      have small : ∀ k : Nat, k ≤ 1000 → Prt (V.int (k : Int)) := fun k h => ⟨_, rfl, by rw [Int.natAbs_natCast]; exact Nat.lt_of_le_of_lt (Nat.log2_le_self _) (by omega)⟩
      refine for_kd (xs := xs) rfl (ob_kd ha) (fun i σ H' => ∃ y p, σ = [some (.ref a), some (vi dep), some (vi p), y] ∧ p ≤ 100 ∧ cks dep pos ss = cks dep p (ss.drop i) ∧ Same H H') ⟨_, pos, rfl, hp, rfl, Same.refl _⟩ (fun i σ H' _ h => ob_kd (by obtain ⟨_, _, _, _, _, sm⟩ := h; exact sm _ _ ha)) ?_ ?_
      · rintro i v σ H' hv ⟨y, p, rfl, hp2, hc, sm⟩
        obtain ⟨st, hst, hat⟩ := hss.get hv
        have hi : i < ss.length := (List.getElem?_eq_some_iff.mp hst).1
        have hD : ss.drop i = st :: ss.drop (i + 1) := by rw [List.drop_eq_getElem_cons hi, (List.getElem?_eq_some_iff.mp hst).2]
        have hat' := hat.same sm
        rw [hD, cks] at hc
        refine ⟨_, rfl, _, _, rfl, rfl, _, rfl, ?_⟩
        show if decide ((100 : Int) ≤ ((p : Nat) : Int)) = true then _ else _
        by_cases h100 : 100 ≤ p
        · rw [decide_eq_true (by omega)]
          have e : ck1 dep p st = .long := by cases st <;> (rw [ck1, if_pos h100])
          rw [e] at hc
          have z := q H' sm
          rw [hc] at z
          exact iteT ⟨_, rfl, small 100 (by decide), z⟩
        rw [decide_eq_false (by omega)]
        refine iteF ⟨_, rfl, _, rfl, v, st, dep, rfl, hat', fun H1 s1 => ⟨_, rfl, ?_⟩⟩
        cases hsd : standB dep st with
        | false =>
          have e : ck1 dep p st = .bad p := by
            cases st with
            | fnd z => cases hsd
            | lnk c a => rw [ck1, if_neg h100, hsd, if_neg (by decide)]
            | rnd k kd ss => rw [ck1, if_neg h100, hsd, if_neg (by decide)]
          rw [e] at hc
          have z := q H1 (sm.trans s1)
          rw [hc] at z
          exact iteT ⟨_, rfl, _, rfl, small p (by omega), z⟩
        | true =>
        refine iteF ?_
        refine ⟨_, rfl, _, _, rfl, rfl, ?_⟩
        refine ⟨_, rfl, v, st, rfl, hat'.same s1, fun H2 s2 => ⟨_, rfl, ?_⟩⟩
        have s02 := (sm.trans s1).trans s2
        cases st with
        | fnd z =>
          rw [ck1, if_neg h100] at hc
          exact iteF ⟨_, p + 1, rfl, by omega, hc, s02⟩
        | lnk c a =>
          rw [ck1, if_neg h100, hsd, if_pos rfl] at hc
          exact iteF ⟨_, p + 1, rfl, by omega, hc, s02⟩
        | rnd k kd2 s2' =>
          have h3 := hat'.same (s1.trans s2)
          rw [ck1, if_neg h100, hsd, if_pos rfl] at hc
          have hsd2 : (isRk (.rnd k kd2 s2') && decide (dep < 4)) = true := hsd
          rw [Bool.and_eq_true, decide_eq_true_eq] at hsd2
          rw [hsd2.1]
          cases h3 with
          | @rnd t b2 _ _ ys _ ht hb hsts =>
            refine iteT ⟨_, rfl, Sq.ix (.inr (SqT.of ht)) rfl ⟨_, rfl, _, _, rfl, rfl, _, rfl, n - 1, by omega, kd2, b2, ys, s2', dep + 1, p + 1, rfl, hb, hsts, by omega, by omega, by omega, fun H3 s3 => ?_⟩⟩
            have s03 := s02.trans s3
            have z := q H3 s03
            cases e : cks (dep + 1) (p + 1) s2' with
            | ok p3 =>
              rw [e] at hc
              exact ⟨_, p3, rfl, cks_le _ _ _ _ e (by omega), hc, s03⟩
            | long =>
              rw [e] at hc
              rw [hc] at z
              exact z
            | bad p3 =>
              rw [e] at hc
              rw [hc] at z
              exact z
      · rintro σ H' ⟨y, p, rfl, hp2, hc, sm⟩
        rw [hss.len, List.drop_length, cks] at hc
        have z := q H' sm
        rw [hc] at z
        exact ⟨_, rfl, z⟩
  induction n using Nat.strongRecOn with
  | _ n ih =>
    refine main n fun sp' h => ?_
    cases n with
    | zero => exact ⟨fun vs H Q E z => by obtain ⟨m, hm, _⟩ := h _ _ _ _ z; omega, fun A outer s H args us vs Q E hr e0 bb r z => by obtain ⟨m, hm, _⟩ := h _ _ _ _ z; omega⟩
    | succ n =>
      refine FnOk.imp (FnOk.mono (ih n (by omega)) (by omega)) fun vs H Q E z => ?_
      obtain ⟨m, hm, kd, a, xs, ss, dep, pos, e, h1, h2, h3, h4⟩ := h _ _ _ _ z
      exact ⟨kd, a, xs, ss, dep, pos, e, h1, h2, by omega, h4⟩
theorem okB_ckH {f fC : Addr} {fd fdC : FuncData} (F : Fun K "check_history" "check_history" sChkH f fd) (kC : KnX P w K mg base 8 "check_steps" ["steps", "depth", "pos"] (spCkS CL CB 4) fC fdC) : FnOk P w K mg base (L2N.CX P w) 9 f fd ["history"] (spCkH CL CB) := by
  refine okN F scChkH (fun vs H Q E h => ?_) (fun cdv A outer s H vs Q E hr h tk => ?_)
  · obtain ⟨kd, a, xs, ss, rfl, _⟩ := h
    rfl
  · obtain ⟨kd, a, xs, ss, rfl, ha, hss, q⟩ := h
    have hrm : ∀ {j : Nat}, j ≤ 8 → Room j (A.deeper (envOfC "check_history" (defScope sChkH) s.heap.objs.size f cdv)) := fun h => hr.mono h
    refine ⟨_, (pss_one (ps_expr (pe_call kC.G (hrm (by omega)) (by rfl) kC.g kC.kp kC.b .nil (lookNE tk) (pa_cons (pv 0) (pa_cons pe_int (pa_cons pe_int pa_nil)))))), ?_⟩
    refine ⟨_, rfl, kd, a, xs, ss, 0, 0, rfl, ha, hss, by omega, by omega, by omega, fun H1 s1 => ?_⟩
    have z := q H1 s1
    cases e : cks 0 0 ss with
    | ok p => rw [e] at z; exact z
    | long => rw [e] at z; exact z
    | bad p => rw [e] at z; exact z
end
end Ff

namespace Ff
open PySem PySem.Spec PyProof.Rows L2 ExX LamX
abbrev sPaS : Stmt := topS 25
abbrev paSN : List Str := ["word", "child", "sign", "above"]
theorem scPaS : FnScope paSN ["word"] (defScope sPaS) := ⟨rfl, rfl, rfl, by decide +kernel, rfl, by decide +kernel, by decide +kernel⟩
abbrev sPaW : Stmt := topS 26
abbrev paWN : List Str := ["words", "steps", "outer", "word", "count", "around"]
theorem scPaW : FnScope paWN ["words"] (defScope sPaW) := ⟨rfl, rfl, rfl, by decide +kernel, rfl, by decide +kernel, by decide +kernel⟩
abbrev sPaH : Stmt := topS 27
abbrev paHN : List Str := ["text", "history"]
theorem scPaH : FnScope paHN ["text"] (defScope sPaH) := ⟨rfl, rfl, rfl, by decide +kernel, rfl, by decide +kernel, by decide +kernel⟩
/-! any text, read as a history -/
def opnL (w : List Nat) : Option (List Nat) := if w.drop (w.length - 2) = [42, 40] then some (w.take (w.length - 2)) else none
theorem opnL_some {w p : List Nat} (h : opnL w = some p) : w = p ++ [42, 40] := by
  unfold opnL at h
  split at h
  · rename_i e
    injection h with h
    rw [← h, ← e, List.take_append_drop]
  · cases h
theorem opnL_app (p : List Nat) : opnL (p ++ [42, 40]) = some p := by
  unfold opnL
  have e : (p ++ [42, 40]).length - 2 = p.length := by rw [List.length_append]; rfl
  rw [e, List.drop_left, if_pos rfl, List.take_left]
theorem opnL_none {w : List Nat} (h : opnL w = none) : Txt.endswith (SX.S w) ("*(" : Str) = false := by
  unfold Txt.endswith
  rw [StrLaws.subAt_eq, show ("*(" : Str).length = 2 by decide +kernel, show ("*(" : Str).cps.toList = [42, 40] by decide +kernel]
  have e : (((SX.S w).cps.toList.drop ((SX.S w).length - 2)).take 2 == [42, 40]) = false := by
    refine Bool.eq_false_iff.mpr fun z => ?_
    have z := eq_of_beq z
    have z : (w.drop ((SX.S w).length - 2)).take 2 = [42, 40] := z
    rw [SX.S_len, List.take_of_length_le (by rw [List.length_drop]; omega)] at z
    unfold opnL at h
    rw [if_pos z] at h
    cases h
  rw [e, Bool.and_false]
def rdSgl (w : List Nat) : Option Wd := match TL.par [62] [] w with
  | none => match intD w with
    | some z => some (.num z)
    | none => none
  | some (c, a) => match intD c, intD a with
    | some x, some y => some (.lnk x y)
    | _, _ => none
def rdWd (w : List Nat) : Option Wd := match opnL w with
  | some p => match intD p with
    | some k => some (.opn k)
    | none => none
  | none => if w = [41] then some .cls else rdSgl w
def runL : List (List Nat) → PSt → Option PSt
  | [], p => some p
  | w :: r, p => match rdWd w with
    | none => none
    | some x => match mach x p with
      | none => none
      | some q => runL r q
theorem rdSgl_cases {w : List Nat} {x : Wd} (h : rdSgl w = some x) : (∃ z, x = .num z ∧ TL.par [62] [] w = none ∧ intD w = some z) ∨ ∃ c a u v, x = .lnk u v ∧ TL.par [62] [] w = some (c, a) ∧ intD c = some u ∧ intD a = some v := by
  unfold rdSgl at h
  cases hp : TL.par [62] [] w with
  | none =>
    rw [hp] at h
    cases hi : intD w with
    | none => rw [hi] at h; cases h
    | some z => rw [hi] at h; injection h with h; exact .inl ⟨z, h.symm, rfl, rfl⟩
  | some ca =>
    obtain ⟨c, a⟩ := ca
    rw [hp] at h
    dsimp only at h
    cases hc : intD c with
    | none => rw [hc] at h; cases h
    | some u =>
      cases ha : intD a with
      | none => rw [hc, ha] at h; cases h
      | some v => rw [hc, ha] at h; injection h with h; exact .inr ⟨c, a, u, v, h.symm, rfl, hc, ha⟩
theorem par_len : ∀ (l acc : List Nat) {c a : List Nat}, TL.par [62] acc l = some (c, a) → c.length ≤ acc.length + l.length ∧ a.length ≤ l.length
  | [], acc, c, a, h => by cases h
  | x :: r, acc, c, a, h => by
    by_cases hp : TL.pre [62] (x :: r) = true
    · rw [TL.par_hit hp] at h
      injection h with h
      injection h with h1 h2
      subst h1 h2
      exact ⟨by omega, by rw [List.length_drop]; omega⟩
    · rw [TL.par_miss (by simpa using hp)] at h
      obtain ⟨h1, h2⟩ := par_len r (acc ++ [x]) h
      rw [List.length_append] at h1
      have e : ([x] : List Nat).length = 1 := rfl
      rw [List.length_cons]
      omega
/-- what is written is read -/
theorem rdWd_txt {x : Wd} (h : WdOk x) : rdWd x.txt = some x := by
  cases x with
  | num z =>
    have h1 : opnL (intL z) = none := by
      cases e : opnL (intL z) with
      | none => rfl
      | some p =>
        have := opnL_some e
        exact absurd (by rw [this]; simp) (intL_free (z := z) (c := 40) (by decide) (by decide))
    unfold rdWd
    rw [show (Wd.num z).txt = intL z from rfl, h1]
    dsimp only
    rw [if_neg (fun e => intL_free (z := z) (c := 41) (by decide) (by decide) (by rw [e]; simp))]
    unfold rdSgl
    rw [SX.par_head_none (intL_free (by decide) (by decide)), intD_intL h]
  | lnk c a =>
    have h1 : opnL (intL c ++ 62 :: intL a) = none := by
      cases e : opnL (intL c ++ 62 :: intL a) with
      | none => rfl
      | some p =>
        have := opnL_some e
        exact absurd (by rw [this]; simp) (lnk_free (c := c) (a := a) (x := 40) (by decide))
    unfold rdWd
    rw [show (Wd.lnk c a).txt = intL c ++ 62 :: intL a from rfl, h1]
    dsimp only
    rw [if_neg (fun e => lnk_free (c := c) (a := a) (x := 41) (by decide) (by rw [e]; simp))]
    unfold rdSgl
    have e := SX.par_head (sep := []) (p := intL c) (intL a) (c := 62) (intL_free (by decide) (by decide))
    have e : TL.par [62] [] (intL c ++ 62 :: intL a) = some (intL c, intL a) := e
    rw [e]
    dsimp only
    rw [intD_intL h.1, intD_intL h.2]
  | opn k =>
    unfold rdWd
    rw [show (Wd.opn k).txt = intL k ++ [42, 40] from rfl, opnL_app]
    dsimp only
    rw [intD_intL h]
  | cls =>
    unfold rdWd
    rw [show (Wd.cls).txt = [41] from rfl, show opnL [41] = none from by decide]
    rfl
theorem runL_txt : ∀ (ws : List Wd) (p : PSt), (∀ x ∈ ws, WdOk x) → runL (ws.map Wd.txt) p = runW ws p
  | [], p, _ => rfl
  | x :: r, p, h => by
    rw [List.map_cons, runL, rdWd_txt (h x List.mem_cons_self)]
    show (match mach x p with
      | none => none
      | some q => runL (r.map Wd.txt) q) = (mach x p).bind (runW r)
    cases mach x p with
    | none => rfl
    | some q => exact runL_txt r q fun y hy => h y (List.mem_cons_of_mem _ hy)
def spPaSB (CP : Addr) : Sp := fun vs H Q E => ∃ l : List Nat, vs = [.str (SX.S l)] ∧ l.length ≤ 1000000 ∧ (∀ z, rdSgl l = some (.num z) → ∀ H', Same H H' → Q (.int z) H') ∧
  (∀ c a, rdSgl l = some (.lnk c a) → ∀ (t : Addr) H', H t = none → H' t = some (.tup [.str "link", .int c, .int a]) → Same H H' → Q (.ref t) H') ∧ (rdSgl l = none → ∀ H', Same H H' → Flies H' E CP "pos" "ParseError" (.int 0))
def spPaWB (CP : Addr) : Sp := fun vs H Q E => ∃ (b : Addr) (ws : List (List Nat)), vs = [.ref b] ∧ H b = some (.lst ((ws.map SX.S).map V.str)) ∧ ws.length ≤ 1000000 ∧ (∀ w ∈ ws, w.length ≤ 1000000) ∧
  (∀ s, runL ws ([], []) = some (s, []) → ∀ (D : Addr) (xs : List V) H', H D = none → H' D = some (.lst xs) → StsAt H' xs s → Pls s → Same H H' → Q (.ref D) H') ∧
  ((∀ s, runL ws ([], []) ≠ some (s, [])) → ∀ H', Same H H' → Flies H' E CP "pos" "ParseError" (.int 0))
section
variable {P : Program} {w : World} {K : PySem.W.Frag} {mg : Str → Option Value} {base : Heap} {CP CL CB : Addr}
theorem ok_isHG {f fC : Addr} {fd fdC : FuncData} (F : Fun K "is_history" "is_history" sIsH f fd) (k1 : KnX P w K mg base 9 "check_history" ["history"] (spCkH CL CB) fC fdC) (gL : mg "TooLong" = some (.ref CL)) (gB : mg "BadStep" = some (.ref CB))
    (mL : PySem.W.exmAny K (.ref CL) [.ref CL, .ref CB] = some true) (mB : PySem.W.exmAny K (.ref CB) [.ref CL, .ref CB] = some true) : FnOk P w K mg base CX0 10 f fd ["steps"] spIsHG := by
  refine F.ok scIsH (fun vs H Q E h => ?_) (fun cdv A outer s H vs Q E hr h => ?_)
  · obtain ⟨kd, a, xs, ss, rfl, _⟩ := h
    rfl
  · obtain ⟨kd, a, xs, ss, rfl, ha, hs, q⟩ := h
    refine ⟨_, pss_cons (ps_tryC (tb := fun W D σ H => (tCons (tVar 0) tNil) σ H fun vs H1 => spCkH CL CB vs H1 (fun _ H2 => D.nx σ H2) fun cls d H2 => W cls d σ H2) rfl rfl (Wout := fun _ _ _ _ => False) takesN0
        (fun W pn xe tk _ => pss_one (ps_expr (pe_callN k1.G hr (by rfl) k1.g k1.kp k1.b tk (pa_cons (pv 0) pa_nil))))
        (.only (tst_two (by rfl) gL (by rfl) gB) (fun a oe cls d pn hz hd => pss_one (ps_ret pe_bl)) .nil))
      (pss_one (ps_ret pe_bl)), ?_⟩
    refine ⟨_, rfl, kd, a, xs, ss, rfl, ha, hs, fun H1 s1 => ?_⟩
    have q2 := q
    unfold okH at q2
    cases e : cks 0 0 ss with
    | ok p =>
      rw [e] at q2
      exact q2 H1 s1
    | long =>
      rw [e] at q2
      exact fun d H2 n1 h1 s2 => ⟨true, mL, fun _ ea na => q2 H2 (s1.trans s2), fun z => by cases z⟩
    | bad v =>
      rw [e] at q2
      exact fun d H2 n1 h1 s2 => ⟨true, mB, fun _ ea na => q2 H2 (s1.trans s2), fun z => by cases z⟩
theorem okB_paS {f fI : Addr} {fd fdI : FuncData} (F : Fun K "parse_single" "parse_single" sPaS f fd) (T : Tx mg) (xI : KnX P w K mg base 4 "parse_integer" ["text"] (spPaIB CP) fI fdI) : FnOk P w K mg base (L2N.CX P w) 5 f fd ["word"] (spPaSB CP) := by
  refine okN F scPaS (fun vs H Q E h => ?_) (fun cdv A outer s H vs Q E hr h tk => ?_)
  · obtain ⟨l, rfl, _⟩ := h
    rfl
  · obtain ⟨l, rfl, hl, qn, ql, qx⟩ := h
    have hrm : ∀ {j : Nat}, j ≤ 4 → Room j (A.deeper (envOfC "parse_single" (defScope sPaS) s.heap.objs.size f cdv)) := fun h => hr.mono h
    refine ⟨_, (pss_cons (ps_asg (pe_partition (pv 0) pe_str) (pg_tup rfl (pgs_cons (pg_name (i := 1) scPaS.nd rfl (.inl rfl)) (pgs_cons (pg_name (i := 2) scPaS.nd rfl (.inl rfl)) (pgs_cons (pg_name (i := 3) scPaS.nd rfl (.inl rfl)) pgs_nil)))))
      (pss_cons (ps_if (pt_truth (pv 2) (by intro _; rfl))
        (pss_one (ps_ret (pe_tup (pa_cons pe_str (pa_cons (pe_call xI.G (hrm (by decide)) (by rfl) xI.g xI.kp xI.b .nil (lookNE tk) (pa_cons (pv 1) pa_nil)) (pa_cons (pe_call xI.G (hrm (by decide)) (by rfl) xI.g xI.kp xI.b .nil (lookNE tk) (pa_cons (pv 3) pa_nil)) pa_nil)))))) pss_nil)
      (pss_one (ps_ret (pe_call xI.G (hrm (by decide)) (by rfl) xI.g xI.kp xI.b .nil (lookNE tk) (pa_cons (pv 0) pa_nil)))))), ?_⟩
    have hz : ∀ {n : Nat}, n ≤ 2000000 → n ≤ sizeLine := fun h => by rw [sizeLine_eq]; omega
    cases hp : TL.par [62] [] l with
    | none =>
      have e : Txt.partition (SX.S l) (">" : Str) = (SX.S l, SX.S [], SX.S []) := by
        rw [show (">" : Str) = SX.S [62] by decide +kernel]
        exact SX.partition_none (by simp) hp
      refine ⟨_, rfl, ⟨_, rfl⟩, _, _, rfl, rfl, by decide +kernel, by rw [SX.S_len]; exact hz (by omega), fun p np => ?_⟩
      rw [e]
      refine ⟨p, _, rfl, SqT.of upd_same, rfl, _, _, rfl, _, _, rfl, _, _, rfl, rfl, ?_⟩
      refine ⟨_, rfl, false, ⟨by show (SX.S []).length ≤ sizeLine; decide +kernel, by show false = (((SX.S []).length : Int) != 0); decide +kernel⟩, iteF ?_⟩
      refine ⟨_, rfl, l, rfl, hl, fun H' s' => ?_⟩
      have s2 := (same_new np).trans s'
      cases hi : intD l with
      | some z => exact qn z (by unfold rdSgl; rw [hp]; dsimp only; rw [hi]) H' s2
      | none => exact qx (by unfold rdSgl; rw [hp]; dsimp only; rw [hi]) H' s2
    | some ca =>
      obtain ⟨c, a⟩ := ca
      have hca := par_len l [] hp
      rw [List.length_nil] at hca
      have e : Txt.partition (SX.S l) (">" : Str) = (SX.S c, SX.S [62], SX.S a) := by
        rw [show (">" : Str) = SX.S [62] by decide +kernel]
        exact SX.partition_some (by simp) hp
      refine ⟨_, rfl, ⟨_, rfl⟩, _, _, rfl, rfl, by decide +kernel, by rw [SX.S_len]; exact hz (by omega), fun p np => ?_⟩
      rw [e]
      refine ⟨p, _, rfl, SqT.of upd_same, rfl, _, _, rfl, _, _, rfl, _, _, rfl, rfl, ?_⟩
      refine ⟨_, rfl, true, ⟨by show (SX.S [62]).length ≤ sizeLine; decide +kernel, by show true = (((SX.S [62]).length : Int) != 0); decide +kernel⟩, iteT ?_⟩
      refine ⟨_, rfl, c, rfl, by omega, fun H1 s1 => ?_⟩
      have s01 := (same_new np).trans s1
      cases hc : intD c with
      | none => exact qx (by unfold rdSgl; rw [hp]; dsimp only; rw [hc]) H1 s01
      | some x =>
        refine ⟨_, rfl, a, rfl, by omega, fun H2 s2 => ?_⟩
        have s02 := s01.trans s2
        cases ha : intD a with
        | none => exact qx (by unfold rdSgl; rw [hp]; dsimp only; rw [hc, ha]) H2 s02
        | some y =>
          refine ⟨by show 3 ≤ sizeLine; decide, fun t nt => ?_⟩
          exact ql x y (by unfold rdSgl; rw [hp]; dsimp only; rw [hc, ha]) t _ (s02.free nt) upd_same (s02.trans (same_new nt))
theorem okB_paW {f fI fS : Addr} {fd fdI fdS : FuncData} (F : Fun K "parse_words" "parse_words" sPaW f fd) (RP : Raisable P w K mg base 2 "ParseError" CP "pos" "ParseError") (T : Tx mg) (xI : KnX P w K mg base 4 "parse_integer" ["text"] (spPaIB CP) fI fdI) (xS : KnX P w K mg base 5 "parse_single" ["word"] (spPaSB CP) fS fdS) : FnOk P w K mg base (L2N.CX P w) 6 f fd ["words"] (spPaWB CP) := by
  refine okN F scPaW (fun vs H Q E h => ?_) (fun cdv A outer s H vs Q E hr h tk => ?_)
  · obtain ⟨b, ws, rfl, _⟩ := h
    rfl
  · obtain ⟨b, ws, rfl, hb, hwl, hww, qy, qn⟩ := h
    have hrm : ∀ {j : Nat}, j ≤ 5 → Room j (A.deeper (envOfC "parse_words" (defScope sPaW) s.heap.objs.size f cdv)) := fun h => hr.mono h
    refine ⟨_, (pss_cons (ps_set (i := 1) scPaW.nd rfl (.inl rfl) (pe_lst pa_nil))
      (pss_cons (ps_set (i := 2) scPaW.nd rfl (.inl rfl) (pe_lst pa_nil))
      (pss_cons (ps_for PassesOwn.leaving rfl (pi_list (pv 0)) (pg_name (i := 3) scPaW.nd rfl (.inl rfl))
        (pss_one (ps_if (pt_val (pe_m1 PySem.F.slot_str_endswith PySem.F.type_str_endswith mt_endswith (pv 3) pe_str))
          (pss_cons (ps_expr (pe_bm PySem.F.plainAttrs_list PySem.F.slot_list_append PySem.F.type_list_append mt_append (pv 2) (pa_cons (pe_tup (pa_cons (pe_call xI.G (hrm (by decide)) (by rfl) xI.g xI.kp xI.b .nil (lookNE tk) (pa_cons (pe_slice sl_str (pv 3) po_none (po_some (pe_un un_neg pe_int))) pa_nil)) (pa_cons (pv 1) pa_nil))) pa_nil)))
          (pss_one (ps_set (i := 1) scPaW.nd rfl (.inl rfl) (pe_lst pa_nil)))) (pss_one (ps_if (pt_cmpR op_ne (pv 3) pe_str (nomark _))
            (pss_one (ps_expr (pe_bm PySem.F.plainAttrs_list PySem.F.slot_list_append PySem.F.type_list_append mt_append (pv 1) (pa_cons (pe_call xS.G (hrm (by decide)) (by rfl) xS.g xS.kp xS.b .nil (lookNE tk) (pa_cons (pv 3) pa_nil)) pa_nil)))) (pss_one (ps_if (pt_truth (pv 2) (by intro _; rfl))
              (pss_cons (ps_asg (pe_bm0 PySem.F.plainAttrs_list PySem.F.slot_list_pop PySem.F.type_list_pop mt_pop (pv 2)) (pg_tup rfl (pgs_cons (pg_name (i := 4) scPaW.nd rfl (.inl rfl)) (pgs_cons (pg_name (i := 5) scPaW.nd rfl (.inl rfl)) pgs_nil))))
              (pss_cons (ps_expr (pe_bm PySem.F.plainAttrs_list PySem.F.slot_list_append PySem.F.type_list_append mt_append (pv 5) (pa_cons (pe_tup (pa_cons pe_str (pa_cons (pv 4) (pa_cons (pe_callTy call_tuple_of (by rfl) T.tuple (by decide +kernel) (pa_cons (pv 1) pa_nil)) pa_nil)))) pa_nil)))
              (pss_one (ps_set (i := 1) scPaW.nd rfl (.inl rfl) (pv 5))))) (pss_one (L2N.ps_raise rfl tk (pmk_err RP (hrm (by decide)) (by rfl) pe_int))))))))))
      (pss_cons (ps_if (pt_truth (pv 2) (by intro _; rfl))
        (pss_one (L2N.ps_raise rfl tk (pmk_err RP (hrm (by decide)) (by rfl) pe_int))) pss_nil)
      (pss_one (ps_ret (pv 1))))))), ?_⟩
    have prt : Prt (V.int 0) := ⟨0, rfl, by decide⟩
    refine ⟨by show 0 ≤ sizeLine; decide, fun A0 nA0 => ⟨by show 0 ≤ sizeLine; decide, fun O0 nO0 => ?_⟩⟩
    have hOA : O0 ≠ A0 := fun e => by rw [e, upd_same] at nO0; cases nO0
    have nO : H O0 = none := by rw [upd_ne hOA] at nO0; exact nO0
    have sm0 : Same H (upd (upd H A0 (.lst [])) O0 (.lst [])) := (same_new nA0).trans (same_new nO0)
    have hA0 : upd (upd H A0 (.lst [])) O0 (.lst []) A0 = some (.lst []) := by rw [upd_ne hOA.symm, upd_same]
    have hO0 : upd (upd H A0 (.lst [])) O0 (.lst []) O0 = some (.lst []) := upd_same
    refine ⟨_, rfl, b, rfl, ⟨_, SqL.of (sm0 _ _ hb)⟩, for_list (K := K) (a := b) (xs := (ws.map SX.S).map V.str) (fun i σ H' => ∃ A O s o xs vs Ls y3 y4 y5, σ = [some (.ref b), some (.ref A), some (.ref O), y3, y4, y5] ∧ runL ws ([], []) = runL (ws.drop i) (s, o) ∧
      Rp H H' A O xs s vs o Ls ∧ xs.length ≤ i ∧ vs.length ≤ i ∧ (∀ e ∈ o, e.2.length ≤ i))
      ⟨A0, O0, [], [], [], [], [], _, _, _, rfl, rfl, ⟨hA0, .nil, by rw [Pls]; trivial, hO0, .nil, by simp [hOA.symm], by intro x hx; simp at hx; rcases hx with e | e <;> rw [e] <;> assumption, sm0⟩, Nat.le_refl _, Nat.le_refl _, by simp⟩ (fun i σ H' _ h => by
        obtain ⟨A, O, s, o, xs, vs, Ls, y3, y4, y5, _, _, R, _⟩ := h
        exact SqL.of (R.sm _ _ hb)) ?_ ?_⟩
    · rintro i v σ H' hv ⟨A1, O, s, o, xs, vs, Ls, y3, y4, y5, rfl, hrun, R, hl1, hl2, hl3⟩
      rw [List.getElem?_map, List.getElem?_map] at hv
      obtain ⟨x, hx, rfl⟩ : ∃ x, ws[i]? = some x ∧ v = V.str (SX.S x) := by
        cases e : ws[i]? with
        | none => rw [e] at hv; cases hv
        | some x => rw [e] at hv; exact ⟨x, rfl, (Option.some.inj hv).symm⟩
      have hi : i < ws.length := (List.getElem?_eq_some_iff.mp hx).1
      have hxl := hww x (List.mem_of_getElem? hx)
      have hD : ws.drop i = x :: ws.drop (i + 1) := by rw [List.drop_eq_getElem_cons hi, (List.getElem?_eq_some_iff.mp hx).2]
      rw [hD, runL] at hrun
      have small : ∀ n : Nat, n ≤ 1000000 → n < sizeLine := fun n h => by rw [sizeLine_eq]; omega
      have up : ∀ e ∈ o, e.2.length ≤ i + 1 := fun e he => Nat.le_succ_of_le (hl3 e he)
      have bad : rdWd x = none → ∀ H2, Same H' H2 → Flies H2 E CP "pos" "ParseError" (.int 0) := fun e H2 s2 => qn (fun z => by rw [hrun, e]; exact fun z => by cases z) H2 (R.sm.trans s2)
      refine ⟨_, rfl, ⟨_, rfl⟩, _, _, rfl, rfl, ?_⟩
      cases ho : opnL x with
      | some p =>
        have exp := opnL_some ho
        rw [exp, ends_opn]
        refine ⟨_, rfl, iteT ?_⟩
        refine ⟨_, rfl, .inl ⟨rfl, _, SqL.of R.oo⟩, ?_⟩
        have hpl : p.length ≤ 1000000 := by have := congrArg List.length exp; rw [List.length_append] at this; omega
        refine ⟨_, rfl, _, rfl, _, rfl, _, rfl, by rw [← exp, SX.S_len]; exact Nat.le_of_lt (small _ hxl), ?_⟩
        refine ⟨p, by
          show [V.str (cutS (SX.S (p ++ [42, 40])) none (some (-2)))] = _
          rw [cut_opn], hpl, fun H2 s2 => ?_⟩
        cases hk : intD p with
        | none => exact bad (by unfold rdWd; rw [ho]; dsimp only; rw [hk]) H2 s2
        | some k =>
          have hrd : rdWd x = some (.opn k) := by unfold rdWd; rw [ho]; dsimp only; rw [hk]
          rw [hrd] at hrun
          refine ⟨_, rfl, by show 2 ≤ sizeLine; decide, fun t nt => ?_⟩
          have R3 := (R.same s2).same (same_new (o := .tup [V.int k, V.ref A1]) nt)
          have e1 := R.x.len
          refine ⟨O, _, _, rfl, rfl, R3.oo, small _ (by rw [List.length_reverse]; omega), by show 0 ≤ sizeLine; decide, fun D nD => ?_⟩
          exact ⟨D, O, _, _, _, _, _, _, _, _, rfl, hrun, R3.opn upd_same nD, Nat.zero_le _, by rw [List.length_cons]; omega, fun e he => by
            rcases List.mem_cons.mp he with e2 | he
            · rw [e2]; show s.length ≤ i + 1; omega
            · exact up e he⟩
      | none =>
        rw [opnL_none ho]
        refine ⟨_, rfl, iteF ⟨_, rfl, rfl, _, rfl, ?_⟩⟩
        by_cases hc : x = [41]
        · have hrd : rdWd x = some .cls := by unfold rdWd; rw [ho]; dsimp only; rw [if_pos hc]
          rw [hrd] at hrun
          rw [show (!decide (V.str (SX.S x) = V.str (")" : Str))) = false by rw [hc, par_S, decide_eq_true rfl]; rfl]
          refine iteF ?_
          cases o with
          | nil =>
            have ev : vs = [] := by
              have := R.t.len
              exact List.length_eq_zero_iff.mp this
            subst ev
            refine ⟨_, rfl, false, .inl ⟨_, SqL.of R.oo, rfl⟩, iteF ⟨_, rfl, prt, ?_⟩⟩
            exact qn (fun z => by rw [hrun]; exact fun z => by cases z) H' R.sm
          | cons kr o =>
          obtain ⟨k, r⟩ := kr
          cases vs with
          | nil => have := R.t; cases this
          | cons v vs =>
          obtain ⟨t, L, ys, Ls', rfl, rfl, h1, h2, hLO, hLA, hlr, fin⟩ := R.pop
          refine ⟨_, rfl, true, .inl ⟨_, SqL.of R.oo, by simp⟩, iteT ?_⟩
          have hlast : (V.ref t :: vs).reverse[(V.ref t :: vs).reverse.length - 1]? = some (V.ref t) := by
            rw [List.reverse_cons, List.length_append, List.length_singleton, Nat.add_sub_cancel, List.getElem?_append_right (Nat.le_refl _), Nat.sub_self]
            rfl
          have hdl : (V.ref t :: vs).reverse.dropLast = vs.reverse := by rw [List.reverse_cons, List.dropLast_concat]
          refine ⟨_, rfl, .inl ⟨rfl, _, SqL.of R.oo⟩, O, _, _, rfl, rfl, R.oo, hlast, ?_⟩
          rw [hdl]
          have ts : TSame H' (upd H' O (.lst vs.reverse)) := TSame.put R.oo
          refine ⟨t, _, rfl, SqT.of (ts _ _ h1), rfl, _, _, rfl, _, _, rfl, rfl, ?_⟩
          have hL1 : upd H' O (.lst vs.reverse) L = some (.lst ys) := by rw [upd_ne hLO]; exact h2
          have hA1 : upd H' O (.lst vs.reverse) A1 = some (.lst xs) := by rw [upd_ne R.ao]; exact R.a
          refine ⟨_, rfl, .inl ⟨rfl, _, SqL.of hL1⟩, _, rfl, _, rfl, A1, xs, rfl, .inl ⟨SqL.of hA1, fun t1 n1 => ⟨by show 3 ≤ sizeLine; decide, fun t2 n2 => ?_⟩⟩⟩
          have s1 := same_new (o := .tup xs) n1
          have s2 := same_new (o := .tup [V.str "repeat", V.int k, V.ref t1]) n2
          have hr : r.length ≤ i := hl3 (k, r) List.mem_cons_self
          refine ⟨L, ys, _, rfl, rfl, (s1.trans s2) _ _ hL1, small _ (by omega), ?_⟩
          refine ⟨_, rfl, L, O, _, _, _, _, _, _, _, _, rfl, hrun, fin _ t1 t2 (s1.trans s2) (s2 _ _ upd_same) upd_same, by rw [List.length_append, List.length_singleton]; omega, by rw [List.length_cons] at hl2; omega, fun e he => up e (List.mem_cons_of_mem _ he)⟩
        · have hrd : rdWd x = rdSgl x := by unfold rdWd; rw [ho]; dsimp only; rw [if_neg hc]
          rw [show (!decide (V.str (SX.S x) = V.str (")" : Str))) = true by
            rw [par_S, decide_eq_false (fun e => hc (SX.S_inj (by injection e)))]; rfl]
          refine iteT ⟨_, rfl, .inl ⟨rfl, _, SqL.of R.a⟩, _, rfl, x, rfl, hxl, fun z hz H2 s2 => ?_, fun c a hz t H2 _ ht s2 => ?_, fun hz H2 s2 => bad (hrd.trans hz) H2 s2⟩
          · have R2 := R.same s2
            rw [hrd, hz] at hrun
            exact ⟨A1, xs, _, rfl, rfl, R2.a, small _ (by omega), A1, O, _, _, _, _, _, _, _, _, rfl, hrun, R2.push (.fnd z) (by rw [Pl]; trivial), by rw [List.length_append, List.length_singleton]; omega, by omega, up⟩
          · have R2 := R.same s2
            rw [hrd, hz] at hrun
            exact ⟨A1, xs, _, rfl, rfl, R2.a, small _ (by omega), A1, O, _, _, _, _, _, _, _, _, rfl, hrun, R2.push (.lnk ht) (by rw [Pl]; trivial), by rw [List.length_append, List.length_singleton]; omega, by omega, up⟩
    · rintro σ H' ⟨A1, O, s, o, xs, vs, Ls, y3, y4, y5, rfl, hrun, R, hl1, hl2, hl3⟩
      rw [List.length_map, List.length_map, List.drop_length, runL] at hrun
      cases o with
      | nil =>
        have ev : vs = [] := by
          have := R.t.len
          exact List.length_eq_zero_iff.mp this
        subst ev
        refine ⟨_, rfl, false, .inl ⟨_, SqL.of R.oo, rfl⟩, iteF ⟨_, rfl, ?_⟩⟩
        exact qy s hrun A1 xs H' R.na R.a R.x R.p R.sm
      | cons kr o =>
        cases vs with
        | nil => have := R.t; cases this
        | cons v vs =>
        refine ⟨_, rfl, true, .inl ⟨_, SqL.of R.oo, by simp⟩, iteT ⟨_, rfl, prt, ?_⟩⟩
        exact qn (fun z => by rw [hrun]; exact fun z => by cases z) H' R.sm
end
end Ff

namespace Ff
open PySem PySem.Spec PyProof.Rows L2 ExX LamX
/-- a history's text, its numbers small -/
structure HOk (ss : List Stp) : Prop where
  sm : Smls ss
  wf : Wfs true ss
  ne : nests ss ≤ 4
  wr : nWrs ss ≤ 100
mutual
theorem pl_fmt : ∀ s : Stp, fmtL (pl s) = fmtL s
  | .fnd z => by rw [pl]
  | .lnk c a => by rw [pl]
  | .rnd k kd ss => by rw [pl, fmtL, fmtL, pls_fmt ss]
theorem pls_fmt : ∀ ss : List Stp, fmtsL (pls ss) = fmtsL ss
  | [] => by rw [pls]
  | s :: r => by rw [pls, fmtsL, fmtsL, pl_fmt s, pls_fmtT r]
theorem pls_fmtT : ∀ ss : List Stp, fmtsT (pls ss) = fmtsT ss
  | [] => by rw [pls]
  | s :: r => by rw [pls, fmtsT, fmtsT, pl_fmt s, pls_fmtT r]
end
mutual
theorem pl_nwr : ∀ s : Stp, nWr (pl s) = nWr s
  | .fnd z => by rw [pl]
  | .lnk c a => by rw [pl]
  | .rnd k kd ss => by rw [pl, nWr, nWr, pls_nwr ss]
theorem pls_nwr : ∀ ss : List Stp, nWrs (pls ss) = nWrs ss
  | [] => by rw [pls]
  | s :: r => by rw [pls, nWrs, nWrs, pl_nwr s, pls_nwr r]
end
mutual
theorem pl_nest : ∀ s : Stp, nest (pl s) = nest s
  | .fnd z => by rw [pl]
  | .lnk c a => by rw [pl]
  | .rnd k kd ss => by rw [pl, nest, nest, pls_nest ss]
theorem pls_nest : ∀ ss : List Stp, nests (pls ss) = nests ss
  | [] => by rw [pls]
  | s :: r => by rw [pls, nests, nests, pl_nest s, pls_nest r]
end
mutual
theorem pl_sml : ∀ s : Stp, Sml s → Sml (pl s)
  | .fnd z, h => by rw [pl]; exact h
  | .lnk c a, h => by rw [pl]; exact h
  | .rnd k kd ss, h => by
    rw [Sml] at h
    rw [pl, Sml]
    exact ⟨h.1, pls_sml ss h.2⟩
theorem pls_sml : ∀ ss : List Stp, Smls ss → Smls (pls ss)
  | [], h => by rw [pls]; exact h
  | s :: r, h => by
    rw [Smls] at h
    rw [pls, Smls]
    exact ⟨pl_sml s h.1, pls_sml r h.2⟩
end
mutual
theorem pl_wf {top : Bool} : ∀ s : Stp, Wf top s → Wf top (pl s)
  | .fnd z, h => by rw [pl]; exact h
  | .lnk c a, h => by rw [pl]; exact h
  | .rnd k kd ss, h => by
    rw [Wf] at h
    rw [pl, Wf]
    exact ⟨h.1, h.2.1, pls_wf ss h.2.2⟩
theorem pls_wf {top : Bool} : ∀ ss : List Stp, Wfs top ss → Wfs top (pls ss)
  | [], h => by rw [pls]; exact h
  | s :: r, h => by
    rw [Wfs] at h
    rw [pls, Wfs]
    exact ⟨pl_wf s h.1, pls_wf r h.2⟩
end
section
variable {P : Program} {w : World} {K : PySem.W.Frag} {mg : Str → Option Value} {base : Heap}
end
end Ff

namespace Ff
open PySem PySem.Spec PyProof.Rows L2 ExX LamX
mutual
theorem ck1_ok : ∀ (s : Stp) (dep pos p : Nat), ck1 dep pos s = .ok p → dep ≤ 4 → p = pos + nWr s ∧ p ≤ 100 ∧ Wf (decide (dep = 0)) s ∧ dep + nest s ≤ 4
  | .fnd z, dep, pos, p, h, hd => by
    rw [ck1] at h
    split at h
    · cases h
    · injection h with h
      rw [nWr, Wf, nest]
      exact ⟨by omega, by omega, trivial, by omega⟩
  | .lnk c a, dep, pos, p, h, hd => by
    rw [ck1] at h
    split at h
    · cases h
    · split at h
      · rename_i hs
        injection h with h
        rw [nWr, Wf, nest]
        exact ⟨by omega, by omega, hs, by omega⟩
      · cases h
  | .rnd k kd ss, dep, pos, p, h, hd => by
    rw [ck1] at h
    split at h
    · cases h
    · split at h
      · rename_i hs
        have hs : ((decide (0 ≤ k) && decide (k ≤ lim30)) && decide (dep < 4)) = true := hs
        rw [Bool.and_eq_true, Bool.and_eq_true, decide_eq_true_eq, decide_eq_true_eq, decide_eq_true_eq] at hs
        obtain ⟨h1, h2, h3, h4⟩ := cks_ok ss (dep + 1) (pos + 1) p h (by omega) (by omega)
        rw [nWr, Wf, nest]
        exact ⟨by omega, h2, ⟨hs.1.1, hs.1.2, by rw [decide_eq_false (by omega)] at h3; exact h3⟩, by omega⟩
      · cases h
theorem cks_ok : ∀ (ss : List Stp) (dep pos p : Nat), cks dep pos ss = .ok p → dep ≤ 4 → pos ≤ 100 → p = pos + nWrs ss ∧ p ≤ 100 ∧ Wfs (decide (dep = 0)) ss ∧ dep + nests ss ≤ 4
  | [], dep, pos, p, h, hd, hp => by
    rw [cks] at h
    injection h with h
    rw [nWrs, Wfs, nests]
    exact ⟨by omega, by omega, trivial, by omega⟩
  | s :: r, dep, pos, p, h, hd, hp => by
    rw [cks] at h
    cases e : ck1 dep pos s with
    | ok p1 =>
      rw [e] at h
      obtain ⟨a1, a2, a3, a4⟩ := ck1_ok s dep pos p1 e hd
      obtain ⟨b1, b2, b3, b4⟩ := cks_ok r dep p1 p h hd a2
      rw [nWrs, Wfs, nests]
      exact ⟨by omega, b2, ⟨a3, b3⟩, by omega⟩
    | long => rw [e] at h; cases h
    | bad q => rw [e] at h; cases h
end
mutual
theorem ck1_good : ∀ (s : Stp) (dep pos : Nat), Wf (decide (dep = 0)) s → dep + nest s ≤ 4 → pos + nWr s ≤ 100 → ck1 dep pos s = .ok (pos + nWr s)
  | .fnd z, dep, pos, w, hn, hp => by
    rw [nWr] at hp ⊢
    rw [ck1, if_neg (by omega)]
  | .lnk c a, dep, pos, w, hn, hp => by
    rw [nWr] at hp ⊢
    rw [Wf] at w
    rw [ck1, if_neg (by omega), if_pos (show standB dep (.lnk c a) = true from w)]
  | .rnd k kd ss, dep, pos, w, hn, hp => by
    rw [nWr] at hp ⊢
    rw [nest] at hn
    rw [Wf] at w
    have e : standB dep (.rnd k kd ss) = true := by
      show ((decide (0 ≤ k) && decide (k ≤ lim30)) && decide (dep < 4)) = true
      rw [decide_eq_true w.1, decide_eq_true w.2.1, decide_eq_true (show dep < 4 by omega)]
      rfl
    have := cks_good ss (dep + 1) (pos + 1) (by rw [decide_eq_false (by omega)]; exact w.2.2) (by omega) (by omega)
    rw [ck1, if_neg (by omega), if_pos e, this]
    congr 1
    omega
theorem cks_good : ∀ (ss : List Stp) (dep pos : Nat), Wfs (decide (dep = 0)) ss → dep + nests ss ≤ 4 → pos + nWrs ss ≤ 100 → cks dep pos ss = .ok (pos + nWrs ss)
  | [], dep, pos, w, hn, hp => by rw [cks, nWrs]; rfl
  | s :: r, dep, pos, w, hn, hp => by
    rw [nWrs] at hp ⊢
    rw [nests] at hn
    rw [Wfs] at w
    rw [cks, ck1_good s dep pos w.1 (by omega) (by omega)]
    have := cks_good r dep (pos + nWr s) w.2 (by omega) (by omega)
    show cks dep (pos + nWr s) r = _
    rw [this]
    congr 1
    omega
end
theorem okH_iff {ss : List Stp} : okH ss = true ↔ Wfs true ss ∧ nests ss ≤ 4 ∧ nWrs ss ≤ 100 := by
  constructor
  · intro h
    unfold okH at h
    cases e : cks 0 0 ss with
    | ok p =>
      obtain ⟨h1, h2, h3, h4⟩ := cks_ok ss 0 0 p e (by omega) (by omega)
      exact ⟨h3, by omega, by omega⟩
    | long => rw [e] at h; cases h
    | bad q => rw [e] at h; cases h
  · rintro ⟨h1, h2, h3⟩
    unfold okH
    rw [cks_good ss 0 0 h1 (by omega) (by omega)]
/-! numbers that are read are small -/
def SmlP (p : PSt) : Prop := Smls p.1 ∧ ∀ e ∈ p.2, e.1.natAbs < 10 ^ 31 ∧ Smls e.2
theorem smls_app : ∀ {a b : List Stp}, Smls a → Smls b → Smls (a ++ b)
  | [], b, _, h => h
  | x :: a, b, h, h2 => by
    rw [Smls] at h
    rw [List.cons_append, Smls]
    exact ⟨h.1, smls_app h.2 h2⟩
theorem smls_one {s : Stp} (h : Sml s) : Smls [s] := by rw [Smls, Smls]; exact ⟨h, trivial⟩
theorem rdWd_ok {w : List Nat} {x : Wd} (h : rdWd w = some x) : WdOk x := by
  unfold rdWd at h
  cases ho : opnL w with
  | some p =>
    rw [ho] at h
    dsimp only at h
    cases hi : intD p with
    | none => rw [hi] at h; cases h
    | some k =>
      rw [hi] at h
      injection h with h
      rw [← h]
      exact (intD_some hi).2
  | none =>
    rw [ho] at h
    dsimp only at h
    split at h
    · injection h with h; rw [← h]; trivial
    · rcases rdSgl_cases h with ⟨z, rfl, _, hz⟩ | ⟨c, a, u, v, rfl, _, hu, hv⟩
      · exact (intD_some hz).2
      · exact ⟨(intD_some hu).2, (intD_some hv).2⟩
theorem mach_sml {x : Wd} {p q : PSt} (h : mach x p = some q) (hx : WdOk x) (hp : SmlP p) : SmlP q := by
  obtain ⟨s, o⟩ := p
  obtain ⟨h1, h2⟩ := hp
  cases x with
  | num z =>
    cases h
    exact ⟨smls_app h1 (smls_one (by rw [Sml]; exact hx)), h2⟩
  | lnk c a =>
    cases h
    exact ⟨smls_app h1 (smls_one (by rw [Sml]; exact hx)), h2⟩
  | opn k =>
    cases h
    refine ⟨by rw [Smls]; trivial, fun e he => ?_⟩
    rcases List.mem_cons.mp he with rfl | he
    · exact ⟨hx, h1⟩
    · exact h2 e he
  | cls =>
    cases o with
    | nil => cases h
    | cons kr o =>
      obtain ⟨k, r⟩ := kr
      cases h
      have := h2 (k, r) List.mem_cons_self
      exact ⟨smls_app this.2 (smls_one (by rw [Sml]; exact ⟨this.1, h1⟩)), fun e he => h2 e (List.mem_cons_of_mem _ he)⟩
theorem runL_sml : ∀ (ws : List (List Nat)) (p q : PSt), runL ws p = some q → SmlP p → SmlP q
  | [], p, q, h, hp => by cases h; exact hp
  | w :: r, p, q, h, hp => by
    rw [runL] at h
    cases e : rdWd w with
    | none => rw [e] at h; cases h
    | some x =>
      rw [e] at h
      dsimp only at h
      cases e2 : mach x p with
      | none => rw [e2] at h; cases h
      | some p2 =>
        rw [e2] at h
        exact runL_sml r p2 q h (mach_sml e2 (rdWd_ok e) hp)
mutual
theorem pl_of_Pl : ∀ s : Stp, Pl s → pl s = s
  | .fnd z, _ => by rw [pl]
  | .lnk c a, _ => by rw [pl]
  | .rnd k kd ss, h => by
    rw [Pl] at h
    rw [pl, pls_of_Pls ss h.2, h.1]
theorem pls_of_Pls : ∀ ss : List Stp, Pls ss → pls ss = ss
  | [], _ => by rw [pls]
  | s :: r, h => by
    rw [Pls] at h
    rw [pls, pl_of_Pl s h.1, pls_of_Pls r h.2]
end
theorem wl_size : ∀ (a cur : List Nat), (wl cur a).length ≤ a.length + 1 ∧ ∀ w ∈ wl cur a, w.length ≤ cur.length + a.length
  | [], cur => by
    rw [wl]
    split
    · exact ⟨Nat.zero_le _, fun w hw => nomatch hw⟩
    · exact ⟨by simp, fun w hw => by rw [List.mem_singleton.mp hw]; omega⟩
  | c :: r, cur => by
    rw [wl]
    split
    · split
      · obtain ⟨h1, h2⟩ := wl_size r []
        refine ⟨by rw [List.length_cons]; omega, fun w hw => ?_⟩
        have := h2 w hw
        rw [List.length_nil] at this
        rw [List.length_cons]; omega
      · obtain ⟨h1, h2⟩ := wl_size r []
        refine ⟨by rw [List.length_cons, List.length_cons]; omega, fun w hw => ?_⟩
        rcases List.mem_cons.mp hw with rfl | hw
        · omega
        · have := h2 w hw
          rw [List.length_nil] at this
          rw [List.length_cons]; omega
    · obtain ⟨h1, h2⟩ := wl_size r (cur ++ [c])
      refine ⟨by rw [List.length_cons]; omega, fun w hw => ?_⟩
      have := h2 w hw
      rw [List.length_append] at this
      have e : ([c] : List Nat).length = 1 := rfl
      rw [List.length_cons]; omega
def HisT (l : List Nat) : Prop := ∃ ss, HOk ss ∧ Pls ss ∧ l = fmtsL ss
/-- a history's text is read -/
theorem run_his {ss : List Stp} (h : HOk ss) (p : Pls ss) : runL (wl [] (rClose (rOpen (fmtsL ss)))) ([], []) = some (ss, []) := by
  have e := words_fmt ss
  rw [words_S] at e
  have e2 : wl [] (rClose (rOpen (fmtsL ss))) = (wdss ss).map Wd.txt := by
    have := congrArg (List.map TL.tl) e
    rw [SX.map_S_tl, SX.map_S_tl] at this
    exact this
  rw [e2, runL_txt _ _ (wdss_ok ss h.sm), run_fmts, pls_of_Pls ss p, List.nil_append]
def spPaHB (CP : Addr) : Sp := fun vs H Q E => ∃ l : List Nat, vs = [.str (SX.S l)] ∧ l.length ≤ 50000 ∧
  (∀ ss, HOk ss → Pls ss → l = fmtsL ss → ∀ (D : Addr) (xs : List V) H', H D = none → H' D = some (.lst xs) → StsAt H' xs ss → Same H H' → Q (.ref D) H') ∧ (¬ HisT l → ∀ H', Same H H' → Flies H' E CP "pos" "ParseError" (.int 0))
theorem Fun.okTN {P : Program} {w : World} {K : PySem.W.Frag} {mg : Str → Option Value} {base : Heap} {x qual : Str} {st : Stmt} {f : Addr} {fd : FuncData} {N ps : List Str} {k : Nat} {sp : Sp} (F : Fun K x qual st f fd) (S : FnScope N ps (defScope st)) (hnc : ∀ y ∈ (defScope st).names, y.2 ≠ .cell) (hps : 1 ≤ ps.length) (len : ∀ vs H Q E, sp vs H Q E → vs.length = ps.length)
    (hbody : ∀ (cdv : Value) (A : Around) (outer : List Env) (s : Shared) (H : Hp) (vs : List V) (Q : VK) (E : XK), Room k (A.deeper (envOfC qual (defScope st) s.heap.objs.size f cdv)) → sp vs H Q E → L2N.Takes (cxOf (L2N.CX P w) P w K mg base N qual (defScope st) f cdv A outer s H E) (fun cls d _ H1 => E cls d H1) →
      ∃ t, PSsT (cxOf (L2N.CX P w) P w K mg base N qual (defScope st) f cdv A outer s H E) (defBody st) t ∧ t { nx := fun _ H' => Q .non H', rt := Q } (start N vs) H) : FnOk P w K mg base (L2N.CX P w) (k + 1) f fd ps sp := by
  obtain ⟨oc, od, kV, doc, pm, an, cdv, ct, osl, rfl, lk, hcd⟩ := F.ex
  exact fn_ofT lk hcd S hnc hps len fun A outer s H vs Q E hr hsp => hbody cdv A outer s H vs Q E hr hsp (L2N.takes_of rfl rfl rfl rfl)
section
variable {P : Program} {w : World} {K : PySem.W.Frag} {mg : Str → Option Value} {base : Heap} {CP CL CB : Addr}
theorem okB_paH {f fW fH fF : Addr} {fd fdW fdH fdF : FuncData} (F : Fun K "parse_history" "parse_history" sPaH f fd) (RP : Raisable P w K mg base 2 "ParseError" CP "pos" "ParseError") (T : Tx mg) (xW : KnX P w K mg base 6 "parse_words" ["words"] (spPaWB CP) fW fdW) (kH : Kn P w K mg base 10 "is_history" sIsH ["steps"] spIsHG fH fdH) (kF : Kn P w K mg base 12 "format_steps" sFmS ["steps"] (spFmS 4) fF fdF) : FnOk P w K mg base (L2N.CX P w) 13 f fd ["text"] (spPaHB CP) := by
  refine Ff.Fun.okTN F scPaH (by decide) (by decide) (fun vs H Q E h => ?_) (fun cdv A outer s H vs Q E hr h tk => ?_)
  · obtain ⟨l, rfl, _⟩ := h
    rfl
  · obtain ⟨l, rfl, hl, qy, qn⟩ := h
    have hrm : ∀ {j : Nat}, j ≤ 12 → Room j (A.deeper (envOfC "parse_history" (defScope sPaH) s.heap.objs.size f cdv)) := fun h => hr.mono h
    refine ⟨_, psst_cons (pst_set scPaH.nd (i := 1) rfl (.inl rfl) (pet_call xW.G (hrm (by decide)) (by rfl) xW.g xW.kp xW.b (lookNE tk) (pet_split0 (CwR.pet_replT (CwR.pet_replC (pv 0)))))) (PSsT.of
      (pss_cons (ps_if (PW.pt (pw_or (pt_not (pt_val (pe_call kH.G (hrm (by decide)) (by rfl) kH.g kH.F.kp kH.b .nil pass0 (pa_cons (pv 1) pa_nil)))) (pw_or1 (pt_cmpR op_ne (pe_call kF.G (hrm (by decide)) (by rfl) kF.g kF.F.kp kF.b .nil pass0 (pa_cons (pv 1) pa_nil)) (pv 0) (nomark _)))))
        (pss_one (L2N.ps_raise rfl tk (pmk_err RP (hrm (by decide)) (by rfl) pe_int))) pss_nil)
      (pss_one (ps_ret (pv 1))))), ?_⟩
    have prt : Prt (V.int 0) := ⟨0, rfl, by decide⟩
    have k1 : (SX.S l).length = l.length := SX.S_len l
    have k2 := TK.replace_len (SX.S l) ("*(" : Str) ("*( " : Str)
    have k3 : ("*( " : Str).length = 3 := by decide +kernel
    have k4 : (" ) " : Str).length = 3 := by decide +kernel
    have k5 := TK.replace_len (Txt.replace (SX.S l) ("*(" : Str) ("*( " : Str)) (")" : Str) (" ) " : Str)
    rw [k3] at k2
    rw [k4] at k5
    have er : Txt.replace (Txt.replace (SX.S l) ("*(" : Str) ("*( " : Str)) (")" : Str) (" ) " : Str) = SX.S (rClose (rOpen l)) := by
      rw [show ("*(" : Str) = SX.S [42, 40] by decide +kernel, show ("*( " : Str) = SX.S [42, 40, 32] by decide +kernel, show (")" : Str) = SX.S [41] by decide +kernel, show (" ) " : Str) = SX.S [32, 41, 32] by decide +kernel, replace_S _ _ _ (by decide), replace_S _ _ _ (by decide)]
    have hrl : (rClose (rOpen l)).length ≤ 900000 := by
      have h := SX.S_len (rClose (rOpen l))
      rw [← er] at h
      omega
    obtain ⟨z1, z2⟩ := wl_size (rClose (rOpen l)) []
    refine ⟨_, rfl, _, rfl, by rw [k3]; omega, _, rfl, by rw [k4]; omega, ⟨_, rfl⟩, _, rfl, rfl, by rw [sizeLine_eq]; omega, fun p np => ⟨p, wl [] (rClose (rOpen l)), rfl, by rw [upd_same, er, words_S], by omega, fun w hw => by have := z2 w hw; rw [List.length_nil] at this; omega, fun ss hrun D xs H1 nD hD hx hpl s1 => ?_, fun hbad H1 s1 => qn (fun ⟨ss, h1, h2, h3⟩ => hbad ss (by rw [h3]; exact run_his h1 h2)) _ ((same_new np).trans s1)⟩⟩
    have s01 := (same_new np).trans s1
    have hsm : Smls ss := (runL_sml _ _ _ hrun ⟨by rw [Smls]; trivial, fun e he => nomatch he⟩).1
    have huniq : ∀ s2, HOk s2 → Pls s2 → l = fmtsL s2 → s2 = ss := fun s2 h1 h2 h3 => by
      have := run_his h1 h2
      rw [← h3, hrun] at this
      injection this with this
      injection this with this
      exact this.symm
    refine ⟨_, rfl, true, D, xs, ss, rfl, hD, hx, fun H2 s2 => ⟨_, rfl, ?_⟩⟩
    by_cases hok : okH ss = true
    case neg =>
      have hok' : okH ss = false := by simpa using hok
      rw [hok']
      refine iteT ⟨_, rfl, prt, qn (fun ⟨s3, h1, h2, h3⟩ => hok ?_) _ (s01.trans s2)⟩
      have e := huniq s3 h1 h2 h3
      subst e
      exact okH_iff.mpr ⟨h1.wf, h1.ne, h1.wr⟩
    rw [hok]
    obtain ⟨w1, w2, w3⟩ := okH_iff.mp hok
    refine iteF ⟨_, rfl, true, D, xs, ss, rfl, s2 _ _ hD, hx.same s2, hsm, w2, by omega, fun H3 s3 => ⟨_, rfl, rfl, _, rfl, ?_⟩⟩
    by_cases he : fmtsL ss = l
    · rw [he, decide_eq_true rfl]
      exact iteF ⟨_, rfl, qy ss ⟨hsm, w1, w2, w3⟩ hpl he.symm D xs H3 ((same_new np).free nD) ((s2.trans s3) _ _ hD) (hx.same (s2.trans s3)) (s01.trans (s2.trans s3))⟩
    · rw [decide_eq_false (fun z => he (SX.S_inj (by injection z)))]
      refine iteT ⟨_, rfl, prt, qn (fun ⟨s4, h1, h2, h3⟩ => he ?_) _ (s01.trans (s2.trans s3))⟩
      rw [← huniq s4 h1 h2 h3]
      exact h3.symm
end
end Ff

namespace Ff
open PySem PySem.Spec PyProof.Rows L2 ExX LamX
/-! the law's own reader of a history's text, as a function -/
def lvI (c : Nat) (lev : Int) : Int := lev + (if c = 40 then 1 else 0) - (if c = 41 then 1 else 0)
def itF : List Nat → Int → List Nat → List (List Nat)
  | [], _, cur => [cur]
  | c :: r, lev, cur => if c = 32 ∧ lvI c lev = 0 then cur :: itF r (lvI c lev) [] else itF r (lvI c lev) (cur ++ [c])
def mapO {α β : Type} (f : α → Option β) : List α → Option (List β)
  | [] => some []
  | x :: r => match f x with
    | none => none
    | some y => match mapO f r with
      | none => none
      | some ys => some (y :: ys)
def itG (rd : List Nat → Option (List Stp)) (lev : Nat) (it : List Nat) : Option Stp := match TL.par [42, 40] [] it with
  | some (p, q) => (match intD p, (if q.getLast? = some 41 then rd q.dropLast else none) with
    | some k, some ss => if 0 ≤ k ∧ k ≤ lim30 then some (.rnd k false ss) else none
    | _, _ => none)
  | none => (match TL.par [62] [] it with
    | none => (match intD it with
      | some z => some (.fnd z)
      | none => none)
    | some (c, a) => (match TL.par [62] [] a with
      | some _ => none
      | none => (match intD c, intD a with
        | some x, some y => if lev = 0 then some (.lnk x y) else none
        | _, _ => none)))
def rdR : Nat → Nat → List Nat → Option (List Stp)
  | 0, lev, l => if l = [] then some [] else mapO (itG (fun _ => none) lev) (itF l 0 [])
  | m + 1, lev, l => if l = [] then some [] else mapO (itG (rdR m (lev + 1)) lev) (itF l 0 [])
theorem join_itF : ∀ (l : List Nat) (lev : Int) (cur : List Nat), TL.joinL [32] (itF l lev cur) = cur ++ l
  | [], lev, cur => by rw [itF, List.append_nil]; rfl
  | c :: r, lev, cur => by
    rw [itF]
    split
    · rename_i h
      have ih := join_itF r (lvI c lev) []
      cases e : itF r (lvI c lev) [] with
      | nil =>
        rw [e] at ih
        have hne : ∀ (l : List Nat) (lev : Int) (cur : List Nat), itF l lev cur ≠ [] := fun l => by
          induction l with
          | nil => intro lev cur; rw [itF]; simp
          | cons c r ih => intro lev cur; rw [itF]; split <;> simp [ih]
        exact absurd e (hne _ _ _)
      | cons x y =>
        rw [e] at ih
        show cur ++ ([32] ++ TL.joinL [32] (x :: y)) = _
        rw [ih, h.1]
        rfl
    · rw [join_itF r, List.append_assoc]
      rfl
theorem par_parts {S : List Nat} : ∀ (l acc : List Nat) {p q : List Nat}, TL.par S acc l = some (p, q) → acc ++ l = p ++ (S ++ q)
  | [], acc, p, q, h => by cases h
  | c :: r, acc, p, q, h => by
    by_cases hp : TL.pre S (c :: r) = true
    · rw [TL.par_hit hp] at h
      injection h with h
      injection h with h1 h2
      subst h1 h2
      have : (c :: r).take S.length = S := eq_of_beq hp
      have e := List.take_append_drop S.length (c :: r)
      rw [this] at e
      rw [e]
    · rw [TL.par_miss (by simpa using hp)] at h
      have := par_parts r (acc ++ [c]) h
      rw [List.append_assoc] at this
      exact this
theorem spl_par {c0 : Nat} {S : List Nat} : ∀ (l acc : List Nat), TL.spl (c0 :: S) 0 acc l = (match TL.par (c0 :: S) acc l with
      | none => [acc ++ l]
      | some (p, q) => p :: TL.spl (c0 :: S) 0 [] q)
  | [], acc => by rw [TL.spl_nil, List.append_nil]; rfl
  | c :: r, acc => by
    by_cases hp : TL.pre (c0 :: S) (c :: r) = true
    · rw [TL.spl_hit hp, TL.par_hit hp, TL.spl_pass]
      rfl
    · have hp : TL.pre (c0 :: S) (c :: r) = false := by simpa using hp
      rw [TL.spl_miss hp, TL.par_miss hp, spl_par r (acc ++ [c])]
      cases TL.par (c0 :: S) (acc ++ [c]) r with
      | none => rw [List.append_assoc]; rfl
      | some pq => rfl
/-! ### what it reads is written so -/
theorem mapO_some {α β : Type} {f : α → Option β} : ∀ {l : List α} {ys : List β}, mapO f l = some ys → l.length = ys.length ∧ ∀ (i : Nat) (x : α) (y : β), l[i]? = some x → ys[i]? = some y → f x = some y
  | [], ys, h => by cases h; exact ⟨rfl, fun i x y h => by simp at h⟩
  | x :: r, ys, h => by
    rw [mapO] at h
    cases e : f x with
    | none => rw [e] at h; cases h
    | some y =>
      rw [e] at h
      dsimp only at h
      cases e2 : mapO f r with
      | none => rw [e2] at h; cases h
      | some zs =>
        rw [e2] at h
        cases h
        obtain ⟨h1, h2⟩ := mapO_some e2
        refine ⟨by rw [List.length_cons, List.length_cons, h1], fun i x' y' a b => ?_⟩
        cases i with
        | zero => cases a; cases b; exact e
        | succ i => exact h2 i x' y' a b
theorem last_split {q : List Nat} {a : Nat} (h : q.getLast? = some a) : q = q.dropLast ++ [a] := by
  rcases List.eq_nil_or_concat q with rfl | ⟨l, b, rfl⟩
  · cases h
  · rw [List.concat_eq_append] at h ⊢
    rw [List.getLast?_concat] at h
    injection h with h
    rw [List.dropLast_concat, h]
/-- what holds of a step that was read at a level, its rounds m deep -/
def RdOk (m lev : Nat) (s : Stp) : Prop := Sml s ∧ Wf (decide (lev = 0)) s ∧ nest s ≤ m ∧ Pl s
def RdOks (m lev : Nat) (ss : List Stp) : Prop := Smls ss ∧ Wfs (decide (lev = 0)) ss ∧ nests ss ≤ m ∧ Pls ss
theorem rdOks_cons {m lev : Nat} {s : Stp} {ss : List Stp} : RdOks m lev (s :: ss) ↔ RdOk m lev s ∧ RdOks m lev ss := by
  unfold RdOks RdOk
  rw [Smls, Wfs, nests, Pls]
  constructor
  · rintro ⟨⟨a1, a2⟩, ⟨b1, b2⟩, c, d1, d2⟩
    exact ⟨⟨a1, b1, by omega, d1⟩, a2, b2, by omega, d2⟩
  · rintro ⟨⟨a1, b1, c1, d1⟩, a2, b2, c2, d2⟩
    exact ⟨⟨a1, a2⟩, ⟨b1, b2⟩, by omega, d1, d2⟩
theorem rdOks_of {m lev : Nat} : ∀ {ss : List Stp}, (∀ s ∈ ss, RdOk m lev s) → RdOks m lev ss
  | [], _ => by unfold RdOks; rw [Smls, Wfs, nests, Pls]; exact ⟨trivial, trivial, Nat.zero_le _, trivial⟩
  | s :: r, h => rdOks_cons.mpr ⟨h s List.mem_cons_self, rdOks_of fun x hx => h x (List.mem_cons_of_mem _ hx)⟩
theorem itG_back {rd : List Nat → Option (List Stp)} {m lev : Nat} (hr : ∀ l ss, rd l = some ss → l = fmtsL ss ∧ 1 ≤ m ∧ RdOks (m - 1) (lev + 1) ss) {it : List Nat} {s : Stp} (h : itG rd lev it = some s) : it = fmtL s ∧ RdOk m lev s := by
  unfold itG at h
  cases hp : TL.par [42, 40] [] it with
  | some pq =>
    obtain ⟨p, q⟩ := pq
    rw [hp] at h
    dsimp only at h
    have e := par_parts it [] hp
    rw [List.nil_append] at e
    cases hk : intD p with
    | none => rw [hk] at h; cases h
    | some k =>
      rw [hk] at h
      by_cases hq : q.getLast? = some 41
      · rw [if_pos hq] at h
        cases hs : rd q.dropLast with
        | none => rw [hs] at h; cases h
        | some ss =>
          rw [hs] at h
          dsimp only at h
          split at h
          · rename_i hkk
            injection h with h
            subst h
            obtain ⟨h1, h2, h3, h4, h5, h6⟩ := hr _ _ hs
            obtain ⟨e1, e2⟩ := intD_some hk
            have eq : q = fmtsL ss ++ [41] := by
              rw [← h1]
              exact last_split hq
            refine ⟨?_, ?_⟩
            · rw [e, eq, e1, fmtL]
              simp
            · unfold RdOk
              rw [Sml, Wf, nest, Pl]
              exact ⟨⟨e2, h3⟩, ⟨hkk.1, hkk.2, by rw [decide_eq_false (by omega)] at h4; exact h4⟩, by omega, rfl, h6⟩
          · cases h
      · rw [if_neg hq] at h; cases h
  | none =>
    rw [hp] at h
    dsimp only at h
    cases hg : TL.par [62] [] it with
    | none =>
      rw [hg] at h
      dsimp only at h
      cases hi : intD it with
      | none => rw [hi] at h; cases h
      | some z =>
        rw [hi] at h
        injection h with h
        subst h
        obtain ⟨e1, e2⟩ := intD_some hi
        refine ⟨by rw [fmtL]; exact e1, ?_⟩
        unfold RdOk
        rw [Sml, Wf, nest, Pl]
        exact ⟨e2, trivial, Nat.zero_le _, trivial⟩
    | some ca =>
      obtain ⟨c, a⟩ := ca
      rw [hg] at h
      dsimp only at h
      have e := par_parts it [] hg
      rw [List.nil_append] at e
      cases ha2 : TL.par [62] [] a with
      | some _ => rw [ha2] at h; cases h
      | none =>
        rw [ha2] at h
        dsimp only at h
        cases hc : intD c with
        | none => rw [hc] at h; cases h
        | some x =>
          cases ha : intD a with
          | none => rw [hc, ha] at h; cases h
          | some y =>
            rw [hc, ha] at h
            dsimp only at h
            split at h
            · rename_i hl
              injection h with h
              subst h
              obtain ⟨c1, c2⟩ := intD_some hc
              obtain ⟨a1, a2⟩ := intD_some ha
              refine ⟨by rw [fmtL, e, c1, a1]; rfl, ?_⟩
              unfold RdOk
              rw [Sml, Wf, nest, Pl]
              exact ⟨⟨c2, a2⟩, decide_eq_true hl, Nat.zero_le _, trivial⟩
            · cases h
theorem rd_items {rd : List Nat → Option (List Stp)} {m lev : Nat} (hr : ∀ l ss, rd l = some ss → l = fmtsL ss ∧ 1 ≤ m ∧ RdOks (m - 1) (lev + 1) ss) {l : List Nat} {ss : List Stp} (h : mapO (itG rd lev) (itF l 0 []) = some ss) : l = fmtsL ss ∧ RdOks m lev ss := by
  obtain ⟨h1, h2⟩ := mapO_some h
  have hx : ∀ i, i < ss.length → ∃ x y, (itF l 0 [])[i]? = some x ∧ ss[i]? = some y ∧ x = fmtL y ∧ RdOk m lev y := fun i hi => by
    have a := List.getElem?_eq_getElem (show i < (itF l 0 []).length by omega)
    have b := List.getElem?_eq_getElem hi
    have := itG_back hr (h2 i _ _ a b)
    exact ⟨_, _, a, b, this.1, this.2⟩
  have e : itF l 0 [] = ss.map fmtL := by
    refine List.ext_getElem? fun i => ?_
    by_cases hi : i < ss.length
    · obtain ⟨x, y, a, b, c, _⟩ := hx i hi
      rw [a, List.getElem?_map, b, c]
      rfl
    · rw [List.getElem?_eq_none (by omega), List.getElem?_eq_none (by rw [List.length_map]; omega)]
  refine ⟨?_, rdOks_of fun s hs => ?_⟩
  · have := join_itF l 0 []
    rw [e, List.nil_append, fmts_join] at this
    exact this.symm
  · obtain ⟨i, hi⟩ := List.mem_iff_getElem?.mp hs
    obtain ⟨x, y, a, b, _, d⟩ := hx i (List.getElem?_eq_some_iff.mp hi).1
    rw [hi] at b
    cases b
    exact d
theorem rdR_back : ∀ (m lev : Nat) (l : List Nat) (ss : List Stp), rdR m lev l = some ss → l = fmtsL ss ∧ RdOks m lev ss
  | 0, lev, l, ss, h => by
    rw [rdR] at h
    split at h
    · rename_i e; cases h; exact ⟨by rw [fmtsL]; exact e, rdOks_of fun s hs => nomatch hs⟩
    · exact rd_items (m := 0) (fun l ss z => by cases z) h
  | m + 1, lev, l, ss, h => by
    rw [rdR] at h
    split at h
    · rename_i e; cases h; exact ⟨by rw [fmtsL]; exact e, rdOks_of fun s hs => nomatch hs⟩
    · exact rd_items (m := m + 1) (fun l ss z => by
        obtain ⟨a, b⟩ := rdR_back m (lev + 1) l ss z
        exact ⟨a, by omega, b⟩) h
/-! ### what is written is read -/
theorem itF_run {p : List Nat} : ∀ {q : List Nat} {lev : Int} {cur : List Nat}, (∀ c ∈ p, c ≠ 32 ∧ c ≠ 40 ∧ c ≠ 41) → itF (p ++ q) lev cur = itF q lev (cur ++ p) := by
  induction p with
  | nil => intro q lev cur _; rw [List.append_nil]; rfl
  | cons c p ih =>
    intro q lev cur h
    obtain ⟨h1, h2, h3⟩ := h c List.mem_cons_self
    have e : lvI c lev = lev := by unfold lvI; rw [if_neg h2, if_neg h3]; omega
    rw [List.cons_append, itF, if_neg (fun z => h1 z.1), e, ih fun d hd => h d (List.mem_cons_of_mem _ hd), List.append_assoc]
    rfl
theorem int_pl {z : Int} : ∀ c ∈ intL z, c ≠ 32 ∧ c ≠ 40 ∧ c ≠ 41 := fun c h => by
  rcases intL_mem h with e | e <;> omega
mutual
theorem itF_fmt : ∀ (s : Stp) (q : List Nat) (lev : Int) (cur : List Nat), 0 ≤ lev → itF (fmtL s ++ q) lev cur = itF q lev (cur ++ fmtL s)
  | .fnd z, q, lev, cur, h => by rw [fmtL]; exact itF_run int_pl
  | .lnk c a, q, lev, cur, h => by
    rw [fmtL]
    refine itF_run fun x hx => ?_
    rcases List.mem_append.mp hx with hx | hx
    · exact int_pl x hx
    · rcases List.mem_cons.mp hx with e | hx
      · omega
      · exact int_pl x hx
  | .rnd k kd ss, q, lev, cur, h => by
    have e : fmtL (.rnd k kd ss) ++ q = (intL k ++ [42]) ++ (40 :: (fmtsL ss ++ (41 :: q))) := by rw [fmtL]; simp
    rw [e, itF_run (fun x hx => by
      rcases List.mem_append.mp hx with hx | hx
      · exact int_pl x hx
      · rw [List.mem_singleton.mp hx]; decide)]
    have e1 : lvI 40 lev = lev + 1 := by unfold lvI; rw [if_pos rfl, if_neg (by decide)]; omega
    rw [itF, if_neg (fun z => absurd z.1 (by decide)), e1, itF_fmts ss _ (lev + 1) _ (by omega)]
    have e2 : lvI 41 (lev + 1) = lev := by unfold lvI; rw [if_neg (by decide), if_pos rfl]; omega
    rw [itF, if_neg (fun z => absurd z.1 (by decide)), e2]
    congr 1
    rw [fmtL]
    simp
theorem itF_fmts : ∀ (ss : List Stp) (q : List Nat) (lev : Int) (cur : List Nat), 1 ≤ lev → itF (fmtsL ss ++ q) lev cur = itF q lev (cur ++ fmtsL ss)
  | [], q, lev, cur, h => by rw [fmtsL, List.append_nil]; rfl
  | s :: r, q, lev, cur, h => by rw [fmtsL, List.append_assoc, itF_fmt s _ lev cur (by omega), itF_fmtsT r q lev _ h, List.append_assoc]
theorem itF_fmtsT : ∀ (ss : List Stp) (q : List Nat) (lev : Int) (cur : List Nat), 1 ≤ lev → itF (fmtsT ss ++ q) lev cur = itF q lev (cur ++ fmtsT ss)
  | [], q, lev, cur, h => by rw [fmtsT, List.append_nil]; rfl
  | s :: r, q, lev, cur, h => by
    have e : lvI 32 lev = lev := by unfold lvI; rw [if_neg (by decide), if_neg (by decide)]; omega
    rw [fmtsT, List.cons_append, itF, if_neg (fun z => by rw [e] at z; omega), e, List.append_assoc, itF_fmt s _ lev _ (by omega), itF_fmtsT r q lev _ h]
    congr 1
    simp
end
theorem itF_all : ∀ (r : List Stp) (a : List Nat), itF (fmtsT r) 0 a = a :: r.map fmtL
  | [], a => by rw [fmtsT, itF]; rfl
  | s :: r, a => by
    have e : lvI 32 0 = 0 := by decide
    rw [fmtsT, itF, if_pos ⟨rfl, e⟩, e, itF_fmt s _ 0 [] (by omega), List.nil_append, itF_all r]
    rfl
theorem items_fmt {ss : List Stp} (h : ss ≠ []) : itF (fmtsL ss) 0 [] = ss.map fmtL := by
  cases ss with
  | nil => exact absurd rfl h
  | cons s r => rw [fmtsL, itF_fmt s _ 0 [] (by omega), List.nil_append, itF_all]; rfl
theorem fmt_ne (s : Stp) : fmtL s ≠ [] := by
  cases s with
  | fnd z => rw [fmtL]; exact intL_ne z
  | lnk c a => rw [fmtL]; simp
  | rnd k kd ss => rw [fmtL]; simp
theorem itG_fmt {rd : List Nat → Option (List Stp)} {m lev : Nat} (hr : ∀ ss, 1 ≤ m → RdOks (m - 1) (lev + 1) ss → rd (fmtsL ss) = some ss) {s : Stp} (h : RdOk m lev s) : itG rd lev (fmtL s) = some s := by
  unfold RdOk at h
  cases s with
  | fnd z =>
    rw [Sml] at h
    unfold itG
    rw [fmtL, SX.par_head_none (intL_free (by decide) (by decide))]
    dsimp only
    rw [SX.par_head_none (intL_free (by decide) (by decide))]
    dsimp only
    rw [intD_intL h.1]
  | lnk c a =>
    rw [Sml, Wf] at h
    unfold itG
    have e : TL.par [62] [] (intL c ++ 62 :: intL a) = some (intL c, intL a) := SX.par_head (sep := []) (p := intL c) (intL a) (c := 62) (intL_free (by decide) (by decide))
    rw [fmtL, SX.par_head_none (lnk_free (by decide))]
    dsimp only
    rw [e]
    dsimp only
    rw [SX.par_head_none (intL_free (by decide) (by decide))]
    dsimp only
    rw [intD_intL h.1.1, intD_intL h.1.2]
    dsimp only
    rw [if_pos (of_decide_eq_true h.2.1)]
  | rnd k kd ss =>
    rw [Sml, Wf, nest, Pl] at h
    obtain ⟨⟨h1, h2⟩, ⟨h3, h4, h5⟩, h6, h7, h8⟩ := h
    subst h7
    unfold itG
    have e : TL.par [42, 40] [] (fmtL (.rnd k false ss)) = some (intL k, fmtsL ss ++ [41]) := by
      rw [fmtL]
      exact SX.par_head (sep := [40]) (p := intL k) (fmtsL ss ++ [41]) (c := 42) (intL_free (by decide) (by decide))
    rw [e]
    dsimp only
    rw [intD_intL h1, if_pos (by rw [List.getLast?_concat]), List.dropLast_concat, hr ss (by omega) ⟨h2, by rw [decide_eq_false (by omega)]; exact h5, by omega, h8⟩]
    dsimp only
    rw [if_pos ⟨h3, h4⟩]
theorem mapO_map {α β : Type} {f : α → Option β} {g : β → α} : ∀ {ys : List β}, (∀ y ∈ ys, f (g y) = some y) → mapO f (ys.map g) = some ys
  | [], _ => rfl
  | y :: r, h => by
    rw [List.map_cons, mapO, h y List.mem_cons_self]
    dsimp only
    rw [mapO_map fun z hz => h z (List.mem_cons_of_mem _ hz)]
theorem rdOks_mem {m lev : Nat} : ∀ {ss : List Stp}, RdOks m lev ss → ∀ s ∈ ss, RdOk m lev s
  | x :: r, h, s, hs => by
    obtain ⟨a, b⟩ := rdOks_cons.mp h
    rcases List.mem_cons.mp hs with rfl | hs
    · exact a
    · exact rdOks_mem b s hs
theorem fmts_nil {ss : List Stp} (h : fmtsL ss = []) : ss = [] := by
  cases ss with
  | nil => rfl
  | cons s r =>
    rw [fmtsL] at h
    exact absurd (List.append_eq_nil_iff.mp h).1 (fmt_ne s)
theorem rdR_fmt : ∀ (m lev : Nat) (ss : List Stp), RdOks m lev ss → rdR m lev (fmtsL ss) = some ss
  | 0, lev, ss, h => by
    rw [rdR]
    by_cases e : ss = []
    · subst e
      rw [if_pos (by rw [fmtsL])]
    · rw [if_neg (fun z => e (fmts_nil z)), items_fmt e]
      exact mapO_map fun s hs => itG_fmt (m := 0) (fun ss z => absurd z (by omega)) (rdOks_mem h s hs)
  | m + 1, lev, ss, h => by
    rw [rdR]
    by_cases e : ss = []
    · subst e
      rw [if_pos (by rw [fmtsL])]
    · rw [if_neg (fun z => e (fmts_nil z)), items_fmt e]
      exact mapO_map fun s hs => itG_fmt (m := m + 1) (fun ss _ z => rdR_fmt m (lev + 1) ss z) (rdOks_mem h s hs)
/-- the law's reader and the program's agree -/
theorem his_iff {l : List Nat} : HisT l ↔ ∃ ss, rdR 4 0 l = some ss ∧ nWrs ss ≤ 100 := by
  constructor
  · rintro ⟨ss, h1, h2, h3⟩
    exact ⟨ss, by rw [h3]; exact rdR_fmt 4 0 ss ⟨h1.sm, h1.wf, h1.ne, h2⟩, h1.wr⟩
  · rintro ⟨ss, h1, h2⟩
    obtain ⟨a, b1, b2, b3, b4⟩ := rdR_back 4 0 l ss h1
    exact ⟨ss, ⟨b1, b2, b3, h2⟩, b4, a⟩
end Ff

namespace Ff
open PySem PySem.Spec PyProof.Rows L2 ExX LamX
abbrev sLNum : Stmt := topS 39
abbrev lNumN : List Str := ["_law_text", "_law_digits", "_law_sign"]
theorem scLNum : FnScope lNumN ["_law_text"] (defScope sLNum) := ⟨rfl, rfl, rfl, by decide +kernel, rfl, by decide +kernel, by decide +kernel⟩
abbrev sLIts : Stmt := topS 40
abbrev lItsN : List Str := ["_law_text", "_law_found", "_law_level", "_law_sign"]
theorem scLIts : FnScope lItsN ["_law_text"] (defScope sLIts) := ⟨rfl, rfl, rfl, by decide +kernel, rfl, by decide +kernel, by decide +kernel⟩
theorem tnil_of {σ : L2.St} {H : Hp} {F : List V → Hp → Prop} (h : F [] H) : tNil σ H F := h
theorem snoc_last (ds : List (List Nat)) (x : List Nat) : (((ds ++ [x]).map SX.S).map V.str).set ds.length (V.str (SX.S x)) = ((ds ++ [x]).map SX.S).map V.str := by simp
def intV (l : List Nat) : V := match intD l with
  | some z => .int z
  | none => .non
def spLNum : Sp := fun vs H Q _ => ∃ l : List Nat, vs = [.str (SX.S l)] ∧ l.length ≤ 1000000 ∧ ∀ H', Same H H' → Q (intV l) H'
def spLIts : Sp := fun vs H Q _ => ∃ l : List Nat, vs = [.str (SX.S l)] ∧ l.length ≤ 100000 ∧ ∀ (D : Addr) H', H D = none → H' D = some (.lst (((itF l 0 []).map SX.S).map V.str)) → Same H H' → Q (.ref D) H'
theorem dig_mem (c : Nat) : decide (c ∈ ("0123456789" : Str).cps.toList) = dgB c := by
  have e : ("0123456789" : Str).cps.toList = [48, 49, 50, 51, 52, 53, 54, 55, 56, 57] := by decide +kernel
  rw [e]
  unfold dgB
  rw [← Bool.decide_and]
  refine decide_eq_decide.mpr ?_
  simp only [List.mem_cons, List.not_mem_nil, or_false]
  omega
theorem head_neg (l : List Nat) : decide (V.str (cutS (SX.S l) none (some 1)) = V.str ("-" : Str)) = negB l := by
  have e1 : cutS (SX.S l) none (some 1) = SX.S (l.take 1) := (sliceText_cut _ _ _).symm.trans (SX.slice_to (a := l) (i := 1) (by decide))
  rw [e1]
  rcases digs_cases l with ⟨r, h1, h2, h3⟩ | ⟨h1, h2, h3⟩
  · rw [h3, h1]
    exact decide_eq_true rfl
  · rw [h3]
    refine decide_eq_false fun z => ?_
    injection z with z
    have z : l.take 1 = [45] := SX.S_inj z
    cases l with
    | nil => cases z
    | cons c r =>
      injection z with z
      exact h1 r (by rw [z])
section
variable {P : Program} {w : World} {K : PySem.W.Frag} {mg : Str → Option Value} {base : Heap}
theorem ok_lNum {f : Addr} {fd : FuncData} (F : Fun K "_law_number" "_law_number" sLNum f fd) (T : Tx mg) (TS : TxS mg) (z_all : mg "all" = none) : FnOk P w K mg base CX0 1 f fd ["_law_text"] spLNum := by
  refine F.ok scLNum (fun vs H Q E h => ?_) (fun cdv A outer s H vs Q E hr h => ?_)
  · obtain ⟨l, rfl, _⟩ := h
    rfl
  · obtain ⟨l, rfl, hl, q⟩ := h
    refine ⟨_, (C8.pss_cut (ps_set (i := 1) scLNum.nd rfl (.inl rfl) (pe_ifExp (pt_cmpR op_eq (pe_slice sl_str (pv 0) po_none (po_some pe_int)) pe_str (nomark _)) (pe_slice sl_str (pv 0) (po_some pe_int) po_none) (pv 0)))
      (pss_cons (ps_if (PW.pt (pw_or (pt_not (pt_chain op_le op_le pe_int (pe_callB call_len_str (by rfl) T.len PySem.boot_len (pa_cons (pv 1) pa_nil)) pe_int)) (pw_or1 (pt_not (pt_val (pe_callB (cr_all rfl) (by rfl) z_all (by decide +kernel) (pa_cons (pe_lc (own := [("_law_sign", 2)]) (g := gName 2) (by rfl) scLNum.nd (pi_str (pv 1)) (blkOk_by (own := [("_law_sign", 2)]) (N := lNumN) (sc := defScope sLNum) (by decide +kernel)) (fun _ _ _ _ _ => (pg_name (i := 2) scLNum.nd rfl (.inl rfl))) (fun _ _ _ _ _ => pts_nil) (fun _ _ _ _ _ => (pe_cmpR (show OpR _ (compareOp .In) rInS from op_inS) (pv 2) pe_str (by rfl)))) pa_nil)))))))
        (pss_one (ps_ret pe_non)) pss_nil)
      (pss_one (ps_ret (pe_ifExp (pt_cmpR op_eq (pe_callTy call_str_int (by rfl) TS.str (by decide +kernel) (pa_cons (pe_callTy call_int_str (by rfl) TS.int (by decide +kernel) (pa_cons (pv 0) pa_nil)) pa_nil)) (pv 0) (nomark _)) (pe_callTy call_int_str (by rfl) TS.int (by decide +kernel) (pa_cons (pv 0) pa_nil)) pe_non))))), ?_⟩
    have hbig : ∀ {k : Nat}, k ≤ 1000000 → k ≤ sizeLine := fun h => by rw [sizeLine_eq]; omega
    have lnl : (SX.S l).length ≤ sizeLine := by rw [SX.S_len]; exact hbig hl
    refine ⟨fun σ H' => σ = [some (.str (SX.S l)), some (.str (SX.S (digsL l))), none] ∧ H' = H, ?_, ?_⟩
    · refine ⟨_, rfl, _, rfl, _, rfl, lnl, rfl, _, rfl, ?_⟩
      rw [head_neg]
      rcases digs_cases l with ⟨r, e1, e2, e3⟩ | ⟨e1, e2, e3⟩
      · rw [e3]
        refine iteT ⟨_, rfl, _, rfl, _, rfl, lnl, ?_, rfl⟩
        have e : cutS (SX.S l) (some 1) none = SX.S (digsL l) := by
          rw [e2, e1]
          exact (sliceText_cut _ _ _).symm.trans (SX.slice_from (a := 45 :: r) (i := 1) (by decide))
        rw [e]
        rfl
      · rw [e3]
        refine iteF ⟨_, rfl, ?_, rfl⟩
        rw [e2]
        rfl
    rintro σ H' ⟨rfl, rfl⟩
    have fl : (SX.S (digsL l)).length = (digsL l).length := SX.S_len _
    have hdl : (digsL l).length ≤ l.length := by
      rcases digs_cases l with ⟨r, e1, e2, e3⟩ | ⟨e1, e2, e3⟩
      · rw [e2, e1, List.length_cons]; omega
      · rw [e2]; exact Nat.le_refl _
    have hbad : (decide (1 ≤ (digsL l).length) && decide ((digsL l).length ≤ 31) && (digsL l).all dgB) = false → ∀ H2, Same H' H2 → Q .non H2 := fun hb H2 s' => by
      have := q H2 s'
      unfold intV intD at this
      rw [hb] at this
      exact this
    refine ⟨_, rfl, _, rfl, by rw [fl]; exact hbig (by omega), _, _, rfl, rfl, _, rfl, ?_⟩
    rw [fl]
    by_cases h1 : 1 ≤ (digsL l).length
    case neg =>
      rw [decide_eq_false (show ¬ (1 : Int) ≤ (((digsL l).length : Nat) : Int) by omega)]
      refine iteF ⟨_, rfl, iteT (hbad ?_ _ (Same.refl _))⟩
      rw [decide_eq_false h1]; rfl
    rw [decide_eq_true (show (1 : Int) ≤ (((digsL l).length : Nat) : Int) by omega)]
    refine iteT ⟨_, _, rfl, rfl, _, rfl, ?_⟩
    by_cases h2 : (digsL l).length ≤ 31
    case neg =>
      rw [decide_eq_false (show ¬ (((digsL l).length : Nat) : Int) ≤ 31 by omega)]
      refine iteT (hbad ?_ _ (Same.refl _))
      rw [decide_eq_false h2, Bool.and_false]; rfl
    rw [decide_eq_true (show (((digsL l).length : Nat) : Int) ≤ 31 by omega)]
    refine iteF ⟨_, rfl, _, rfl, fun D nD => ?_⟩
    refine lc_str (z := SX.S (digsL l)) (fun i H2 => H2 D = some (.lst ((((digsL l).take i).map dgB).map V.bl)) ∧ Same H' H2) ⟨upd_same, same_new nD⟩ ?_ ?_
    · rintro i c H2 hc ⟨hD, sm⟩
      have hc : (digsL l)[i]? = some c := hc
      refine ⟨rfl, _, rfl, c, _, rfl, rfl, _, hD, ?_, ?_, same_over sm nD⟩
      · rw [List.length_map, List.length_map, List.length_take]
        exact Nat.lt_of_le_of_lt (show min i (digsL l).length ≤ 1000 by omega) (by decide)
      · rw [upd_same, List.take_add_one, hc, List.map_append, List.map_append, dig_mem c]
        rfl
    rintro H2 ⟨hD, sm⟩
    have hD : H2 D = some (.lst (((digsL l).map dgB).map V.bl)) := by
      have : (digsL l).take (SX.S (digsL l)).cps.toList.length = digsL l := List.take_length
      rw [this] at hD
      exact hD
    refine ⟨D, (digsL l).map dgB, rfl, SqL.of hD, _, rfl, ?_⟩
    have eall : ((digsL l).map dgB).all id = (digsL l).all dgB := by rw [List.all_map]; rfl
    show if (!(((digsL l).map dgB).all id)) = true then _ else _
    rw [eall]
    by_cases h3 : (digsL l).all dgB = true
    case neg =>
      have h3 : (digsL l).all dgB = false := by simpa using h3
      rw [h3]
      refine iteT (hbad ?_ _ sm)
      rw [h3, Bool.and_false]
    rw [h3]
    have hll : l.length ≤ 32 := by
      rcases digs_cases l with ⟨r, e1, e2, e3⟩ | ⟨e1, e2, e3⟩
      · rw [e2] at h2; rw [e1, List.length_cons]; omega
      · rw [e2] at h2; omega
    have hrd := valL_reads h1 h2 h3
    have hq := q H2 sm
    unfold intV intD at hq
    rw [decide_eq_true h1, decide_eq_true h2, h3, if_pos (by rfl)] at hq
    refine iteF ⟨_, rfl, _, _, rfl, hrd, by rw [SX.S_len]; omega, ?_⟩
    refine ⟨_, rfl, log_sml (valL_lt h2 (dgB_mem h3)), _, rfl, rfl, _, rfl, ?_⟩
    rw [show (Str.ofString (toString (valL l)) : Str) = SX.S (intL (valL l)) from str_int _]
    by_cases he : intL (valL l) = l
    · rw [if_pos he] at hq
      rw [he, decide_eq_true rfl]
      exact iteT ⟨_, rfl, _, _, rfl, hrd, by rw [SX.S_len]; omega, hq⟩
    · rw [if_neg he] at hq
      rw [decide_eq_false (show ¬ V.str (SX.S (intL (valL l))) = V.str (SX.S l) from fun z => he (SX.S_inj (by injection z)))]
      exact iteF hq
theorem ok_lIts {f : Addr} {fd : FuncData} (F : Fun K "_law_items" "_law_items" sLIts f fd) (TS : TxS mg) : FnOk P w K mg base CX0 1 f fd ["_law_text"] spLIts := by
  refine F.ok scLIts (fun vs H Q E h => ?_) (fun cdv A outer s H vs Q E hr h => ?_)
  · obtain ⟨l, rfl, _⟩ := h
    rfl
  · obtain ⟨l, rfl, hl, q⟩ := h
    refine ⟨_, (pss_cons (ps_par (i := 1) (j := 2) (by rfl) scLIts.nd rfl rfl (by decide) rfl rfl (pa_cons (pe_lst (pa_cons pe_str pa_nil)) (pa_cons pe_int pa_nil)) (by rfl))
      (pss_cons (ps_for PassesOwn.never rfl (pi_str (pv 0)) (pg_name (i := 3) scLIts.nd rfl (.inl rfl))
        (pss_cons (ps_set (i := 2) scLIts.nd rfl (.inl rfl) (pe_op op_sub (pe_op op_add (pv 2) (pe_callTy call_int1 (by rfl) TS.int (by decide +kernel) (pa_cons (pe_cmpR op_eq (pv 3) pe_str (nomark _)) pa_nil))) (pe_callTy call_int1 (by rfl) TS.int (by decide +kernel) (pa_cons (pe_cmpR op_eq (pv 3) pe_str (nomark _)) pa_nil))))
        (pss_one (ps_if (PW.pt (pw_and (pt_cmpR op_eq (pv 3) pe_str (nomark _)) (pw_and1 (pt_cmpR op_eq (pv 2) pe_int (nomark _)))))
          (pss_one (ps_expr (pe_bm PySem.F.plainAttrs_list PySem.F.slot_list_append PySem.F.type_list_append mt_append (pv 1) (pa_cons pe_str pa_nil)))) (pss_one (ps_asg (pe_op op_add_str (pe_ix (show IxR _ (rIx K) from ix_seq) (pv 1) (pe_un un_neg pe_int) (fun _ _ => rfl)) (pv 3)) (pg_sub (pv 1) (pe_un un_neg pe_int) set_list)))))))
      (pss_one (ps_ret (pv 1))))), ?_⟩
    refine ⟨by show 1 ≤ sizeLine; decide, fun D nD => ?_⟩
    refine ⟨_, _, rfl, ?_⟩
    have hD0 : upd H D (.lst [V.str ""]) D = some (.lst ((([] ++ [([] : List Nat)]).map SX.S).map V.str)) := upd_same
    have s0 := same_new (o := .lst [V.str ""]) nD
    refine ⟨_, rfl, _, rfl, for_it (walk_str (z := SX.S l)) (fun i σ H' => ∃ (ds : List (List Nat)) (cur : List Nat) (lev : Int) (y3 : Option V), σ = [some (.str (SX.S l)), some (.ref D), some (.int lev), y3] ∧ itF l 0 [] = ds ++ itF (l.drop i) lev cur ∧ H' D = some (.lst (((ds ++ [cur]).map SX.S).map V.str)) ∧ ds.length ≤ i ∧ cur.length ≤ i ∧ Same H H') ⟨[], [], 0, _, rfl, rfl, hD0, Nat.le_refl _, Nat.le_refl _, s0⟩ (fun _ _ _ _ _ => trivial) ?_ ?_⟩
    · rintro i x σ H1 H2 hi ⟨ds, cur, lev, y3, rfl, hit, hD, hdl, hcl, sm⟩ ⟨e, c, hc, rfl⟩
      subst e
      have hc : l[i]? = some c := by
        have h : l.toArray[i]? = some c := hc
        simpa using h
      have hil : i < l.length := (List.getElem?_eq_some_iff.mp hc).1
      have hdr : l.drop i = c :: l.drop (i + 1) := by rw [List.drop_eq_getElem_cons hil, (List.getElem?_eq_some_iff.mp hc).2]
      rw [hdr, itF] at hit
      have ch : ∀ k : Nat, decide (V.str ⟨#[c]⟩ = V.str (SX.S [k])) = decide (c = k) := fun k => decide_eq_decide.mpr ⟨fun z => by injection z with z; have z : SX.S [c] = SX.S [k] := z; have := SX.S_inj z; injection this, fun z => by rw [z]⟩
      have e40 : ("(" : Str) = SX.S [40] := by decide +kernel
      have e41 : (")" : Str) = SX.S [41] := by decide +kernel
      have e32 : (" " : Str) = SX.S [32] := by decide +kernel
      refine ⟨_, rfl, _, rfl, rfl, .inr ⟨_, rfl, _, _, rfl, rfl, _, rfl, rfl, .inr ⟨_, rfl, _, _, rfl, rfl, ?_⟩⟩⟩
      show gName 2 (V.int (lev + (if decide (V.str ⟨#[c]⟩ = V.str ("(" : Str)) = true then 1 else 0) - (if decide (V.str ⟨#[c]⟩ = V.str (")" : Str)) = true then 1 else 0))) _ _ _
      rw [e40, e41, ch 40, ch 41]
      have elv : lev + (if decide (c = 40) = true then 1 else 0) - (if decide (c = 41) = true then 1 else 0) = lvI c lev := by
        unfold lvI
        simp only [decide_eq_true_eq]
      rw [elv]
      generalize lvI c lev = lv at hit ⊢
      have small : ∀ n : Nat, n ≤ 1000000 → n < sizeLine := fun n h => by rw [sizeLine_eq]; omega
      have hne : (((ds ++ [cur]).map SX.S).map V.str).length = ds.length + 1 := by simp
      have app : ¬ (c = 32 ∧ lv = 0) → tAsg (tOp (fun x y H Q => ∃ i j, x = V.str i ∧ y = V.str j ∧ i.length + j.length ≤ sizeLine ∧ Q (V.str (i ++ j)) H) (tOp (rIx K) (tVar 1) (tUn (rU fun i => V.int (-i)) (tC (V.int 1)))) (tVar 3)) (gSub (tVar 1) (tUn (rU fun i => V.int (-i)) (tC (V.int 1))) rSetL)
          { nx := fun σ H' => ∃ ds cur lev y3, σ = [some (V.str (SX.S l)), some (V.ref D), some (V.int lev), y3] ∧ itF l 0 [] = ds ++ itF (List.drop (i + 1) l) lev cur ∧ H' D = some (HO.lst (List.map V.str (List.map SX.S (ds ++ [cur])))) ∧ ds.length ≤ i + 1 ∧ cur.length ≤ i + 1 ∧ Same H H', rt := Q } [some (V.str (SX.S l)), some (V.ref D), some (V.int lv), some (V.str ⟨#[c]⟩)] H2 := fun hn => by
        rw [if_neg hn] at hit
        have eix : ixN (((ds ++ [cur]).map SX.S).map V.str).length (-1) = some ds.length := by
          rw [hne]
          unfold ixN
          rw [if_neg (by decide), if_pos (by omega)]
          congr 1
          omega
        have eat : atI (((ds ++ [cur]).map SX.S).map V.str) (-1) = some (V.str (SX.S cur)) := by
          unfold atI
          rw [eix]
          show (((ds ++ [cur]).map SX.S).map V.str)[ds.length]? = _
          simp
        have ecc : SX.S cur ++ (⟨#[c]⟩ : Str) = SX.S (cur ++ [c]) := SX.S_cat cur [c]
        refine ⟨_, rfl, 1, rfl, .inl ⟨D, _, _, _, rfl, rfl, SqL.of hD, eat, ?_⟩⟩
        refine ⟨_, rfl, _, _, rfl, rfl, ?_, ?_⟩
        · rw [SX.S_len]
          show cur.length + (SX.S [c]).length ≤ sizeLine
          rw [SX.S_len]
          exact Nat.le_of_lt (small _ (by show cur.length + 1 ≤ 1000000; omega))
        rw [ecc]
        refine ⟨_, rfl, 1, rfl, D, _, _, ds.length, rfl, rfl, hD, eix, ?_⟩
        refine ⟨ds, cur ++ [c], lv, _, rfl, hit, ?_, by omega, by rw [List.length_append]; show cur.length + 1 ≤ i + 1; omega, same_over sm nD⟩
        rw [upd_same]
        congr 2
        simp
      refine ⟨_, rfl, rfl, _, rfl, ?_⟩
      rw [e32, ch 32]
      by_cases h32 : c = 32
      · rw [decide_eq_true h32]
        refine iteT ⟨_, rfl, rfl, _, rfl, ?_⟩
        by_cases h0 : lv = 0
        · rw [show decide (V.int lv = V.int 0) = true from decide_eq_true (by rw [h0])]
          refine iteT ⟨_, rfl, .inl ⟨rfl, _, SqL.of hD⟩, D, _, _, rfl, rfl, hD, small _ (by rw [hne]; omega), ?_⟩
          rw [if_pos ⟨h32, h0⟩] at hit
          refine ⟨ds ++ [cur], [], lv, _, rfl, by rw [hit]; simp, ?_, by rw [List.length_append, List.length_singleton]; omega, Nat.zero_le _, same_over sm nD⟩
          rw [upd_same, List.map_append, List.map_append (f := V.str)]
          simp
          rfl
        · rw [show decide (V.int lv = V.int 0) = false from decide_eq_false fun z => h0 (by injection z)]
          exact iteF (app fun z => h0 z.2)
      · rw [decide_eq_false h32]
        exact iteF (app fun z => h32 z.1)
    · rintro σ H1 ⟨ds, cur, lev, y3, rfl, hit, hD, hdl, hcl, sm⟩
      have hsz : (SX.S l).cps.size = l.length := by show l.toArray.size = _; simp
      rw [hsz, List.drop_length, itF] at hit
      refine ⟨_, rfl, q D H1 nD (by rw [hit]; exact hD) sm⟩
end
end Ff

namespace Ff
open PySem PySem.Spec PyProof.Rows L2 ExX LamX
abbrev sLIt : Stmt := topS 41
abbrev lItN : List Str := ["_law_item_here", "_law_level", "_law_head", "_law_number_here", "_law_inner", "_law_good", "_law_parts", "_law_part"]
theorem scLIt : FnScope lItN ["_law_item_here", "_law_level"] (defScope sLIt) := ⟨rfl, rfl, rfl, by decide +kernel, rfl, by decide +kernel, by decide +kernel⟩
abbrev sLRd : Stmt := topS 42
abbrev lRdN : List Str := ["_law_text", "_law_level", "_law_found", "_law_item_here"]
theorem scLRd : FnScope lRdN ["_law_text", "_law_level"] (defScope sLRd) := ⟨rfl, rfl, rfl, by decide +kernel, rfl, by decide +kernel, by decide +kernel⟩
/-! steps as data -/
/-! ### steps as data -/
mutual
def stD : Stp → PyData
  | .fnd z => .int z
  | .lnk c a => .tuple [.str "link", .int c, .int a]
  | .rnd k kd ss => .tuple [.str "repeat", .int k, if kd = true then .list (stDs ss) else .tuple (stDs ss)]
def stDs : List Stp → List PyData
  | [] => []
  | s :: r => stD s :: stDs r
end
mutual
theorem StAt.dp {K : PySem.W.Frag} {H : Hp} : ∀ {v : V} {s : Stp}, StAt H v s → Dp K H v (stD s)
  | _, _, .fnd z => by rw [stD]; exact .int z
  | _, _, .lnk h => by rw [stD]; exact .tup (SqT.of h) (.cons (.str _) (.cons (.int _) (.cons (.int _) .nil)))
  | _, _, .rnd (kd := kd) h1 h2 h3 => by
    rw [stD]
    refine .tup (SqT.of h1) (.cons (.str _) (.cons (.int _) (.cons ?_ .nil)))
    cases kd with
    | false => exact .tup (SqT.of h2) (StsAt.dp h3)
    | true => exact .lst (SqL.of h2) (StsAt.dp h3)
theorem StsAt.dp {K : PySem.W.Frag} {H : Hp} : ∀ {xs : List V} {ss : List Stp}, StsAt H xs ss → DpAll K H xs (stDs ss)
  | _, _, .nil => by rw [stDs]; exact .nil
  | _, _, .cons h r => by rw [stDs]; exact .cons (StAt.dp h) (StsAt.dp r)
end
theorem stDs_len : ∀ ss : List Stp, (stDs ss).length = ss.length
  | [] => by rw [stDs]; rfl
  | s :: r => by rw [stDs, List.length_cons, List.length_cons, stDs_len r]
mutual
/-- data of plain steps is shallow -/
theorem sm_st {n : Nat} : ∀ s : Stp, nest s ≤ n → nWr s ≤ 1000 → Sm (2 * n + 1) (stD s)
  | .fnd z, _, _ => by rw [stD]; exact .int _ _
  | .lnk c a, _, _ => by
    rw [stD]
    refine .tup (by show 3 ≤ 1000; decide) fun d hd => ?_
    simp only [List.mem_cons, List.not_mem_nil, or_false] at hd
    rcases hd with e | e | e <;> rw [e]
    · exact .str _ _
    · exact .int _ _
    · exact .int _ _
  | .rnd k kd ss, h, w => by
    rw [nest] at h
    rw [nWr] at w
    obtain ⟨m, rfl⟩ : ∃ m, n = m + 1 := ⟨n - 1, by omega⟩
    have hl := nWrs_len ss
    have hb := sm_sts ss (n := m) (by omega) (by omega)
    rw [stD]
    refine .tup (n := 2 * m + 2) (by show 3 ≤ 1000; decide) fun d hd => ?_
    simp only [List.mem_cons, List.not_mem_nil, or_false] at hd
    have hdl : (stDs ss).length ≤ 1000 := by rw [stDs_len]; omega
    rcases hd with e | e | e <;> rw [e]
    · exact .str _ _
    · exact .int _ _
    · cases kd
      · exact .tup hdl hb
      · exact .lst hdl hb
theorem sm_sts {n : Nat} : ∀ ss : List Stp, nests ss ≤ n → nWrs ss ≤ 1000 → ∀ d ∈ stDs ss, Sm (2 * n + 1) d
  | [], _, _, d, hd => by rw [stDs] at hd; cases hd
  | s :: r, h, w, d, hd => by
    rw [nests] at h
    rw [nWrs] at w
    rw [stDs] at hd
    rcases List.mem_cons.mp hd with e | hd
    · rw [e]; exact sm_st s (by omega) (by omega)
    · exact sm_sts r (by omega) (by omega) d hd
end
theorem Sm.up {n : Nat} {d : PyData} (h : Sm n d) : Sm (n + 1) d := by
  induction h with
  | non n => exact .non _
  | bl n b => exact .bl _ _
  | int n i => exact .int _ _
  | str n x => exact .str _ _
  | lst h k ih => exact .lst h ih
  | tup h k ih => exact .tup h ih
mutual
theorem st_lay : ∀ s : Stp, (stD s).canLay0 = true ∧ (stD s).depth ≤ 2 * nest s + 1
  | .fnd z => by rw [stD]; exact ⟨rfl, by simp [PyData.depth]⟩
  | .lnk c a => by rw [stD]; exact ⟨by simp [PyData.canLay0, PyData.canLayAll0]; decide +kernel, by simp [PyData.depth, PyData.depthAll]⟩
  | .rnd k kd ss => by
    obtain ⟨h1, h2⟩ := sts_lay ss
    rw [stD, nest]
    have hs : PyData.strOk "repeat" = true := by decide +kernel
    cases kd with
    | false => exact ⟨by simp [PyData.canLay0, PyData.canLayAll0, hs, h1], by simp [PyData.depth, PyData.depthAll]; omega⟩
    | true => exact ⟨by simp [PyData.canLay0, PyData.canLayAll0, hs, h1], by simp [PyData.depth, PyData.depthAll]; omega⟩
theorem sts_lay : ∀ ss : List Stp, PyData.canLayAll0 (stDs ss) = true ∧ PyData.depthAll (stDs ss) ≤ 2 * nests ss + 1
  | [] => by rw [stDs]; exact ⟨rfl, by simp [PyData.depthAll]⟩
  | s :: r => by
    obtain ⟨a1, a2⟩ := st_lay s
    obtain ⟨b1, b2⟩ := sts_lay r
    rw [stDs, nests]
    exact ⟨by simp [PyData.canLayAll0, a1, b1], by simp [PyData.depthAll]; omega⟩
end
/-- what a law's reader holds: a step, or None -/
def oD : Option Stp → PyData
  | none => .none
  | some s => stD s
def OAt (H : Hp) (v : V) : Option Stp → Prop
  | none => v = .non
  | some s => StAt H v s ∧ Pl s
inductive OsAt (H : Hp) : List V → List (Option Stp) → Prop
  | nil : OsAt H [] []
  | cons {v : V} {vs : List V} {o : Option Stp} {os : List (Option Stp)} : OAt H v o → OsAt H vs os → OsAt H (v :: vs) (o :: os)
theorem OAt.ts {H H' : Hp} (e : TSame H H') {v : V} {o : Option Stp} (h : OAt H v o) : OAt H' v o := by
  cases o with
  | none => exact h
  | some s => exact ⟨StAt.ts e h.2 h.1, h.2⟩
theorem OsAt.ts {H H' : Hp} (e : TSame H H') {vs : List V} {os : List (Option Stp)} (h : OsAt H vs os) : OsAt H' vs os := by
  induction h with
  | nil => exact .nil
  | cons h _ ih => exact .cons (h.ts e) ih
theorem OsAt.app {H : Hp} {vs : List V} {os : List (Option Stp)} (h : OsAt H vs os) {v : V} {o : Option Stp} (h2 : OAt H v o) : OsAt H (vs ++ [v]) (os ++ [o]) := by
  induction h with
  | nil => exact .cons h2 .nil
  | cons h _ ih => exact .cons h ih
theorem OsAt.len {H : Hp} {vs : List V} {os : List (Option Stp)} (h : OsAt H vs os) : vs.length = os.length := by
  induction h with
  | nil => rfl
  | cons _ _ ih => rw [List.length_cons, List.length_cons, ih]
theorem OsAt.dp {K : PySem.W.Frag} {H : Hp} {vs : List V} {os : List (Option Stp)} (h : OsAt H vs os) : DpAll K H vs (os.map oD) := by
  induction h with
  | nil => exact .nil
  | @cons v vs o os h _ ih =>
    refine .cons ?_ ih
    cases o with
    | none => have h : v = .non := h; subst h; exact .non
    | some s => exact h.1.dp
theorem OsAt.all {H : Hp} : ∀ {vs : List V} {ss : List Stp}, OsAt H vs (ss.map some) → StsAt H vs ss ∧ Pls ss
  | _, [], h => by cases h; exact ⟨.nil, by rw [Pls]; trivial⟩
  | _, s :: r, h => by
    cases h with
    | cons h1 h2 =>
      obtain ⟨a, b⟩ := OsAt.all h2
      exact ⟨.cons h1.1 a, by rw [Pls]; exact ⟨h1.2, b⟩⟩
def allO {β : Type} : List (Option β) → Option (List β)
  | [] => some []
  | none :: _ => none
  | some y :: r => match allO r with
    | none => none
    | some ys => some (y :: ys)
theorem mapO_all {α β : Type} (f : α → Option β) : ∀ l : List α, mapO f l = allO (l.map f)
  | [] => rfl
  | x :: r => by
    rw [mapO, List.map_cons]
    cases f x with
    | none => rfl
    | some y =>
      rw [allO, mapO_all f r]
      all_goals rfl
theorem allO_none {β : Type} : ∀ {os : List (Option β)}, none ∈ os → allO os = none
  | none :: r, _ => rfl
  | some y :: r, h => by
    rcases List.mem_cons.mp h with h | h
    · cases h
    · rw [allO, allO_none h]
theorem allO_some {β : Type} : ∀ {os : List (Option β)}, none ∉ os → ∃ ss, allO os = some ss ∧ os = ss.map some
  | [], _ => ⟨[], rfl, rfl⟩
  | none :: r, h => absurd List.mem_cons_self h
  | some y :: r, h => by
    obtain ⟨ss, h1, h2⟩ := allO_some fun z => h (List.mem_cons_of_mem _ z)
    exact ⟨y :: ss, by rw [allO, h1], by rw [h2]; rfl⟩
theorem os_shaped {os : List (Option Stp)} (h : ∀ s, some s ∈ os → nest s ≤ 4) : SeqAt.shaped (.list (os.map oD)) = true := by
  have key : ∀ os : List (Option Stp), (∀ s, some s ∈ os → nest s ≤ 4) → PyData.canLayAll0 (os.map oD) = true ∧ PyData.depthAll (os.map oD) ≤ 9 := by
    intro os
    induction os with
    | nil => intro _; exact ⟨rfl, by simp [PyData.depthAll]⟩
    | cons o r ih =>
      intro h
      obtain ⟨b1, b2⟩ := ih fun s hs => h s (List.mem_cons_of_mem _ hs)
      rw [List.map_cons]
      cases o with
      | none => exact ⟨by simp [PyData.canLayAll0, oD, PyData.canLay0, b1], by simp [PyData.depthAll, oD, PyData.depth]; omega⟩
      | some s =>
        obtain ⟨a1, a2⟩ := st_lay s
        have := h s List.mem_cons_self
        exact ⟨by simp [PyData.canLayAll0, oD, a1, b1], by simp [PyData.depthAll, oD]; omega⟩
  obtain ⟨h1, h2⟩ := key os h
  unfold SeqAt.shaped
  simp [PyData.canLay0, PyData.depth, h1]
  omega
theorem eqv_non (o : Option Stp) : PyData.eqv (oD o) .none = o.isNone := by
  cases o with
  | none => rfl
  | some s =>
    cases s with
    | fnd z => simp [oD, stD, PyData.eqv]
    | lnk c a => simp [oD, stD, PyData.eqv]
    | rnd k kd ss => simp [oD, stD, PyData.eqv]
theorem any_non (os : List (Option Stp)) : (os.map oD).any (fun z => PyData.eqv z .none) = os.any Option.isNone := by
  induction os with
  | nil => rfl
  | cons o r ih => rw [List.map_cons, List.any_cons, ih, eqv_non, List.any_cons]
theorem isN_iff {os : List (Option Stp)} : os.any Option.isNone = true ↔ none ∈ os := by
  rw [List.any_eq_true]
  constructor
  · rintro ⟨x, h1, h2⟩
    cases x with
    | none => exact h1
    | some s => cases h2
  · exact fun h => ⟨none, h, rfl⟩
def rdF (m lev : Nat) : List Nat → Option (List Stp) := match m with
  | 0 => fun _ => none
  | m + 1 => rdR m (lev + 1)
def itR (m lev : Nat) (it : List Nat) : Option Stp := itG (rdF m lev) lev it
def spLIt (m : Nat) : Sp := fun vs H Q _ => ∃ (it : List Nat) (lev : Nat), vs = [.str (SX.S it), vi lev] ∧ it.length ≤ 20000 ∧ lev + m = 4 ∧
  (∀ s, itR m lev it = some s → ∀ (v : V) H', StAt H' v s → Pl s → Same H H' → Q v H') ∧ (itR m lev it = none → ∀ H', Same H H' → Q .non H')
def spLRd (m : Nat) : Sp := fun vs H Q _ => ∃ (l : List Nat) (lev : Nat), vs = [.str (SX.S l), vi lev] ∧ l.length ≤ 20000 ∧ lev + m = 4 ∧
  (∀ ss, rdR m lev l = some ss → ∀ (D : Addr) (xs : List V) H', H D = none → H' D = some (.lst xs) → StsAt H' xs ss → Pls ss → Same H H' → Q (.ref D) H') ∧ (rdR m lev l = none → ∀ H', Same H H' → Q .non H')
theorem rdR_eq (m lev : Nat) (l : List Nat) : rdR m lev l = if l = [] then some [] else allO ((itF l 0 []).map (itR m lev)) := by
  cases m with
  | zero => rw [rdR, mapO_all]; rfl
  | succ m => rw [rdR, mapO_all]; rfl
theorem itR_ok {m lev : Nat} {it : List Nat} {s : Stp} (h : itR m lev it = some s) : it = fmtL s ∧ RdOk m lev s := by
  unfold itR at h
  refine itG_back (fun l ss z => ?_) h
  cases m with
  | zero => cases z
  | succ m =>
    obtain ⟨a, b⟩ := rdR_back m (lev + 1) l ss z
    exact ⟨a, by omega, b⟩
theorem items_size : ∀ (l : List Nat) (lev : Int) (cur : List Nat), (itF l lev cur).length ≤ l.length + 1 ∧ ∀ w ∈ itF l lev cur, w.length ≤ cur.length + l.length
  | [], lev, cur => by
    rw [itF]
    exact ⟨by simp, fun w hw => by rw [List.mem_singleton.mp hw]; omega⟩
  | c :: r, lev, cur => by
    rw [itF]
    split
    · obtain ⟨h1, h2⟩ := items_size r (lvI c lev) []
      refine ⟨by rw [List.length_cons, List.length_cons]; omega, fun w hw => ?_⟩
      rcases List.mem_cons.mp hw with rfl | hw
      · omega
      · have := h2 w hw
        rw [List.length_nil] at this
        rw [List.length_cons]; omega
    · obtain ⟨h1, h2⟩ := items_size r (lvI c lev) (cur ++ [c])
      refine ⟨by rw [List.length_cons]; omega, fun w hw => ?_⟩
      have := h2 w hw
      rw [List.length_append] at this
      have e : ([c] : List Nat).length = 1 := rfl
      rw [List.length_cons]; omega
theorem cut_mid (p qq : List Nat) : cutS (SX.S (p ++ ([42, 40] ++ qq))) (some ((p.length : Int) + 2)) (some (-1)) = SX.S qq.dropLast := by
  have hl : (SX.S (p ++ ([42, 40] ++ qq))).length = p.length + 2 + qq.length := by
    rw [SX.S_len, List.length_append, List.length_append]
    have e2 : ([42, 40] : List Nat).length = 2 := rfl
    omega
  have e1 : HT.sIx (SX.S (p ++ ([42, 40] ++ qq))).length 0 (some ((p.length : Int) + 2)) = p.length + 2 := by
    rw [hl]
    show (if ((p.length : Int) + 2) < 0 then (((p.length : Int) + 2) + ((p.length + 2 + qq.length : Nat) : Int)).toNat else min ((p.length : Int) + 2).toNat (p.length + 2 + qq.length)) = _
    rw [if_neg (by omega)]
    omega
  have e2 : HT.sIx (SX.S (p ++ ([42, 40] ++ qq))).length (SX.S (p ++ ([42, 40] ++ qq))).length (some (-1)) = p.length + 1 + qq.length := by
    rw [hl]
    show (if (-1 : Int) < 0 then ((-1 : Int) + ((p.length + 2 + qq.length : Nat) : Int)).toNat else min (Int.toNat (-1)) (p.length + 2 + qq.length)) = _
    rw [if_pos (by decide)]
    omega
  unfold cutS
  rw [e1, e2]
  show SX.S (((p ++ ([42, 40] ++ qq)).drop (p.length + 2)).take (p.length + 1 + qq.length - (p.length + 2))) = _
  have e3 : (p ++ ([42, 40] ++ qq)).drop (p.length + 2) = qq := by
    rw [← List.append_assoc]
    have : (p ++ [42, 40]).length = p.length + 2 := by rw [List.length_append]; rfl
    rw [← this, List.drop_left]
  rw [e3, List.dropLast_eq_take]
  congr 2
  omega
theorem cut_lastc {it : List Nat} (h : it ≠ []) : decide (V.str (cutS (SX.S it) (some (-1)) none) = V.str (SX.S [41])) = decide (it.getLast? = some 41) := by
  have e1 : cutS (SX.S it) (some (-1)) none = SX.S (it.drop (it.length - 1)) := (sliceText_cut _ _ _).symm.trans (SX.slice_last h)
  rw [e1]
  rcases List.eq_nil_or_concat it with rfl | ⟨l, b, rfl⟩
  · exact absurd rfl h
  · rw [List.concat_eq_append]
    have e2 : (l ++ [b]).drop ((l ++ [b]).length - 1) = [b] := by
      have : (l ++ [b]).length - 1 = l.length := by simp
      rw [this, List.drop_left]
    rw [e2, List.getLast?_concat]
    refine decide_eq_decide.mpr ⟨fun z => ?_, fun z => ?_⟩
    · injection z with z
      have := SX.S_inj z
      injection this with this
      rw [this]
    · injection z with z
      rw [z]
theorem last_app (p qq : List Nat) : ((p ++ ([42, 40] ++ qq)).getLast? = some 41) ↔ (qq.getLast? = some 41) := by
  rcases List.eq_nil_or_concat qq with rfl | ⟨l, b, rfl⟩
  · simp
  · rw [List.concat_eq_append]
    have e : p ++ ([42, 40] ++ (l ++ [b])) = (p ++ [42, 40] ++ l) ++ [b] := by simp
    rw [e, List.getLast?_concat, List.getLast?_concat]
theorem dp_ints {K : PySem.W.Frag} {H : Hp} : ∀ ws : List (List Nat), DpAll K H (ws.map intV) ((ws.map fun w => (intD w).map Stp.fnd).map oD)
  | [] => .nil
  | w :: r => by
    refine .cons ?_ (dp_ints r)
    show Dp K H (intV w) (oD ((intD w).map Stp.fnd))
    unfold intV
    cases intD w with
    | none => exact .non
    | some z => rw [Option.map_some, oD, stD]; exact .int z
theorem spl_size {c : Nat} : ∀ (l acc : List Nat), (TL.spl [c] 0 acc l).length ≤ l.length + 1 ∧ ∀ w ∈ TL.spl [c] 0 acc l, w.length ≤ acc.length + l.length
  | [], acc => by rw [TL.spl_nil]; exact ⟨by simp, fun w hw => by rw [List.mem_singleton.mp hw]; omega⟩
  | x :: r, acc => by
    by_cases hp : TL.pre [c] (x :: r) = true
    · have e0 : TL.spl [c] 0 acc (x :: r) = acc :: TL.spl [c] 0 [] r := by rw [TL.spl_hit hp, TL.spl_pass]; rfl
      rw [e0]
      obtain ⟨h1, h2⟩ := spl_size (c := c) r []
      refine ⟨by rw [List.length_cons, List.length_cons]; omega, fun w hw => ?_⟩
      rcases List.mem_cons.mp hw with rfl | hw
      · omega
      · have := h2 w hw
        rw [List.length_nil] at this
        rw [List.length_cons]; omega
    · have hp : TL.pre [c] (x :: r) = false := by simpa using hp
      rw [TL.spl_miss hp]
      obtain ⟨h1, h2⟩ := spl_size (c := c) r (acc ++ [x])
      refine ⟨by rw [List.length_cons]; omega, fun w hw => ?_⟩
      have := h2 w hw
      rw [List.length_append] at this
      have e : ([x] : List Nat).length = 1 := rfl
      rw [List.length_cons]; omega
def rndR (k : Option Int) (ss : Option (List Stp)) : Option Stp := match k, ss with
  | some k, some ss => if 0 ≤ k ∧ k ≤ lim30 then some (.rnd k false ss) else none
  | _, _ => none
section
variable {P : Program} {w : World} {K : PySem.W.Frag} {mg : Str → Option Value} {base : Heap}
theorem ok_lIt {f fN fR : Addr} {fd fdN fdR : FuncData} (F : Fun K "_law_item" "_law_item" sLIt f fd) (T : Tx mg) (kN : Kn P w K mg base 1 "_law_number" sLNum ["_law_text"] spLNum fN fdN) (m : Nat) (ih : FnOk P w K mg base CX0 (2 * m + 1) fR fdR ["_law_text", "_law_level"] (fun vs H Q E => ∃ m', m = m' + 1 ∧ spLRd m' vs H Q E)) (gR : mg "_law_read" = some (.ref fR)) (kpR : PySem.W.keepIn K (.ref fR) = true) (bR : Binds K fdR ["_law_text", "_law_level"] []) : FnOk P w K mg base CX0 (2 * m + 2) f fd ["_law_item_here", "_law_level"] (spLIt m) := by
  refine F.ok scLIt (fun vs H Q E h => ?_) (fun cdv A outer s H vs Q E hr h => ?_)
  · obtain ⟨it, lev, rfl, _⟩ := h
    rfl
  · obtain ⟨it, lev, rfl, hl, hm, qs, qn⟩ := h
    have hrm : ∀ {j : Nat}, j ≤ 2 * m + 1 → Room j (A.deeper (envOfC "_law_item" (defScope sLIt) s.heap.objs.size f cdv)) := fun h => hr.mono h
    have hu65 : (A.deeper (envOfC "_law_item" (defScope sLIt) s.heap.objs.size f cdv)).units + 65 < cLine := by have := hr.un; omega
    refine ⟨_, (pss_cons (ps_set (i := 2) scLIt.nd rfl (.inl rfl) (pe_ix (show IxR _ (rIx K) from ix_seq) (pe_split (pv 0) pe_str) pe_int (fun _ _ => rfl)))
      (pss_cons (ps_if (pt_cmpR op_ne (pv 2) (pv 0) (nomark _))
        (pss_cons (ps_set (i := 3) scLIt.nd rfl (.inl rfl) (pe_call kN.G (hrm (by omega)) (by rfl) kN.g kN.F.kp kN.b .nil pass0 (pa_cons (pv 2) pa_nil)))
        (C8.pss_cut (ps_set (i := 4) scLIt.nd rfl (.inl rfl) (pe_ifExp (PW.pt (pw_and (pt_cmpR op_lt (pv 1) pe_int (nomark _)) (pw_and1 (pt_cmpR op_eq (pe_slice sl_str (pv 0) (po_some (pe_un un_neg pe_int)) po_none) pe_str (nomark _))))) (pe_call ih (hrm (by omega)) (by rfl) gR kpR bR .nil pass0 (pa_cons (pe_slice sl_str (pv 0) (po_some (pe_op op_add (pe_callB call_len_str (by rfl) T.len PySem.boot_len (pa_cons (pv 2) pa_nil)) pe_int)) (po_some (pe_un un_neg pe_int))) (pa_cons (pe_op op_add (pv 1) pe_int) pa_nil))) pe_non))
        (pss_cons (ps_set (i := 5) scLIt.nd rfl (.inl rfl) (pe_and (pe_cmpR op_notN (pv 3) pe_non (nomark _)) (pe_and (pe_cmpR op_notN (pv 4) pe_non (nomark _)) (pe_one (pe_chain op_le op_le pe_int (pv 3) (pe_op op_pow pe_int pe_int))))))
        (pss_one (ps_ret (pe_ifExp (pt_truth (pv 5) (by intro _; rfl)) (pe_tup (pa_cons pe_str (pa_cons (pv 3) (pa_cons (pe_callTy call_tuple_of (by rfl) T.tuple (by decide +kernel) (pa_cons (pv 4) pa_nil)) pa_nil)))) pe_non)))))) pss_nil)
      (pss_cons (ps_setLc (i := 6) (own := [("_law_part", 7)]) (g := gName 7) (by rfl) scLIt.nd rfl rfl (sw_true rfl rfl rfl (by decide +kernel)) (pi_list (pe_split (pv 0) pe_str)) (blkOk_by (own := [("_law_part", 7)]) (N := lItN) (sc := defScope sLIt) (by decide +kernel)) (fun _ _ _ _ _ => (pg_name (i := 7) scLIt.nd rfl (.inl rfl))) (fun _ _ _ _ _ => pts_nil) (fun _ _ _ _ _ => (pe_call kN.G (hrm (by omega)) (by rfl) kN.g kN.F.kp kN.b .nil pass0 (pa_cons (pv 7) pa_nil))))
      (pss_cons (ps_if (PW.pt (pw_or (pt_cmpR (op_inD hu65) pe_non (pv 6) (by rfl)) (pw_or (pt_cmpR op_gt (pe_callB call_len_seq (by rfl) T.len PySem.boot_len (pa_cons (pv 6) pa_nil)) pe_int (nomark _)) (pw_or1 (PW.pt (pw_and (pt_cmpR op_eq (pe_callB call_len_seq (by rfl) T.len PySem.boot_len (pa_cons (pv 6) pa_nil)) pe_int (nomark _)) (pw_and1 (pt_cmpR op_gt (pv 1) pe_int (nomark _)))))))))
        (pss_one (ps_ret pe_non)) pss_nil)
      (pss_one (ps_ret (pe_ifExp (pt_cmpR op_eq (pe_callB call_len_seq (by rfl) T.len PySem.boot_len (pa_cons (pv 6) pa_nil)) pe_int (nomark _)) (pe_tup (pa_cons pe_str (pa_cons (pe_ix (show IxR _ (rIx K) from ix_seq) (pv 6) pe_int (fun _ _ => rfl)) (pa_cons (pe_ix (show IxR _ (rIx K) from ix_seq) (pv 6) pe_int (fun _ _ => rfl)) pa_nil)))) (pe_ix (show IxR _ (rIx K) from ix_seq) (pv 6) pe_int (fun _ _ => rfl))))))))), ?_⟩
    have hbig : ∀ {k : Nat}, k ≤ 1000000 → k ≤ sizeLine := fun h => by rw [sizeLine_eq]; omega
    have itl : (SX.S it).length ≤ sizeLine := by rw [SX.S_len]; exact hbig (by omega)
    have eop : ("*(" : Str) = SX.S [42, 40] := by decide +kernel
    have egt : (">" : Str) = SX.S [62] := by decide +kernel
    have ecl : (")" : Str) = SX.S [41] := by decide +kernel
    have esp : Txt.split (SX.S it) ("*(" : Str) = (TL.spl [42, 40] 0 [] it).map SX.S := by rw [eop]; exact SX.split_S (by decide) (by decide)
    have esg : Txt.split (SX.S it) (">" : Str) = (TL.spl [62] 0 [] it).map SX.S := by rw [egt]; exact SX.split_S (by decide) (by decide)
    have es2 := spl_par (c0 := 42) (S := [40]) it []
    cases hp : TL.par [42, 40] [] it with
    | some pq =>
      obtain ⟨p, qq⟩ := pq
      have e := par_parts it [] hp
      rw [List.nil_append] at e
      rw [hp] at es2
      have hpl : p.length + 2 + qq.length = it.length := by
        have := congrArg List.length e
        rw [List.length_append, List.length_append] at this
        have e2 : ([42, 40] : List Nat).length = 2 := rfl
        omega
      refine ⟨_, rfl, ⟨_, rfl⟩, _, _, rfl, rfl, rfl, by rw [SX.S_len]; exact hbig (by omega), fun a na => ?_⟩
      have s1 := same_new (o := .lst ((Txt.split (SX.S it) ("*(" : Str)).map V.str)) na
      have ha : upd H a (.lst ((Txt.split (SX.S it) ("*(" : Str)).map V.str)) a = some (.lst (((p :: TL.spl [42, 40] 0 [] qq).map SX.S).map V.str)) := by rw [upd_same, esp, es2]
      generalize upd H a (.lst ((Txt.split (SX.S it) ("*(" : Str)).map V.str)) = H1 at s1 ha ⊢
      refine .inl ⟨a, _, _, _, rfl, rfl, SqL.of ha, show atI _ ((0 : Nat) : Int) = _ from atI_nat rfl, ?_⟩
      refine ⟨_, rfl, _, rfl, rfl, _, rfl, ?_⟩
      rw [show (!decide (V.str (SX.S p) = V.str (SX.S it))) = true by rw [decide_eq_false (fun z => by injection z with z; have := congrArg List.length (SX.S_inj z); omega)]; rfl]
      refine iteT ?_
      refine ⟨_, rfl, p, rfl, by omega, fun H2 s2 => ?_⟩
      have s02 := s1.trans s2
      obtain ⟨rdI, hrdI⟩ : ∃ x : Option (List Stp), x = if qq.getLast? = some 41 then rdF m lev qq.dropLast else none := ⟨_, rfl⟩
      have hres : itR m lev it = rndR (intD p) rdI := by
        unfold itR itG
        rw [hp, hrdI]
        rfl
      have hnp : it ≠ [] := fun z => by rw [z] at hpl; exact absurd hpl (by simp)
      refine ⟨fun σ H' => ∃ inn, σ = [some (.str (SX.S it)), some (vi lev), some (.str (SX.S p)), some (intV p), some inn, none, none, none] ∧ ((rdI = none ∧ inn = .non) ∨ ∃ ss D xs, rdI = some ss ∧ inn = .ref D ∧ H' D = some (.lst xs) ∧ StsAt H' xs ss ∧ Pls ss) ∧ Same H H', ?_, ?_⟩
      · refine ⟨_, rfl, _, _, rfl, rfl, _, rfl, ?_⟩
        show if decide ((lev : Int) < 4) = true then _ else _
        cases m with
        | zero =>
          rw [decide_eq_false (show ¬ (lev : Int) < 4 by omega)]
          refine iteF ⟨.non, rfl, .inl ⟨?_, rfl⟩, s02⟩
          rw [hrdI]
          split <;> rfl
        | succ m' =>
          rw [decide_eq_true (show (lev : Int) < 4 by omega)]
          refine iteT ⟨_, rfl, 1, rfl, _, rfl, _, rfl, itl, rfl, _, rfl, ?_⟩
          rw [ecl, cut_lastc hnp]
          by_cases hq : qq.getLast? = some 41
          · rw [decide_eq_true (by rw [e]; exact (last_app p qq).mpr hq)]
            rw [if_pos hq] at hrdI
            refine iteT ?_
            have hdl : qq.dropLast.length ≤ 20000 := by rw [List.length_dropLast]; omega
            refine ⟨_, rfl, _, rfl, _, rfl, by rw [SX.S_len]; exact hbig (by omega), _, _, rfl, rfl, _, rfl, 1, rfl, _, rfl, _, rfl, itl, _, rfl, _, _, rfl, rfl, m', rfl, qq.dropLast, lev + 1, ?_, hdl, by omega, fun ss hss D xs H4 nD hD hx hpl s4 => ?_, fun hnn H4 s4 => ?_⟩
            · rw [SX.S_len]
              show [V.str (cutS (SX.S it) (some ((p.length : Int) + 2)) (some (-1))), V.int ((lev : Int) + 1)] = _
              rw [e, cut_mid]
              rfl
            · exact ⟨_, rfl, .inr ⟨ss, D, xs, by rw [hrdI]; exact hss, rfl, hD, hx, hpl⟩, s02.trans s4⟩
            · exact ⟨_, rfl, .inl ⟨by rw [hrdI]; exact hnn, rfl⟩, s02.trans s4⟩
          · rw [decide_eq_false (fun z => hq ((last_app p qq).mp (by rw [← e]; exact z)))]
            rw [if_neg hq] at hrdI
            exact iteF ⟨.non, rfl, .inl ⟨hrdI, rfl⟩, s02⟩
      · rintro σ H3 ⟨inn, rfl, hinn, s3⟩
        have p30 : (10 : Int) ^ (30 : Int).toNat = lim30 := by decide
        cases hk : intD p with
        | none =>
          have ei : intV p = .non := by unfold intV; rw [hk]
          rw [ei]
          refine ⟨_, rfl, rfl, false, rfl, iteF ⟨_, rfl, false, rfl, iteF (qn ?_ _ s3)⟩⟩
          rw [hres, hk]; rfl
        | some k =>
          have ei : intV p = .int k := by unfold intV; rw [hk]
          rw [ei]
          refine ⟨_, rfl, rfl, true, rfl, iteT ⟨_, rfl, rfl, ?_⟩⟩
          rcases hinn with ⟨hnone, rfl⟩ | ⟨ss, D, xs, hss, rfl, hD, hx, hpl⟩
          · refine ⟨false, rfl, iteF ⟨_, rfl, false, rfl, iteF (qn ?_ _ s3)⟩⟩
            rw [hres, hk, hnone]; rfl
          · refine ⟨true, rfl, iteT ⟨_, rfl, _, _, rfl, rfl, _, rfl, ?_⟩⟩
            have hr2 : itR m lev it = if 0 ≤ k ∧ k ≤ lim30 then some (.rnd k false ss) else none := by rw [hres, hk, hss]; rfl
            by_cases hk0 : 0 ≤ k
            case neg =>
              rw [decide_eq_false hk0]
              refine iteF ⟨_, rfl, false, rfl, iteF (qn ?_ _ s3)⟩
              rw [hr2, if_neg (fun z => hk0 z.1)]
            rw [decide_eq_true hk0]
            refine iteT ⟨_, _, rfl, rfl, ⟨by decide, by decide, by decide⟩, _, _, rfl, rfl, ?_⟩
            show gName 5 (V.bl (decide (k ≤ (10 : Int) ^ (30 : Int).toNat))) _ _ _
            rw [p30]
            by_cases hk1 : k ≤ lim30
            case neg =>
              rw [decide_eq_false hk1]
              refine ⟨_, rfl, false, rfl, iteF (qn ?_ _ s3)⟩
              rw [hr2, if_neg (fun z => hk1 z.2)]
            rw [decide_eq_true hk1]
            rw [if_pos ⟨hk0, hk1⟩] at hr2
            refine ⟨_, rfl, true, rfl, iteT ⟨_, rfl, _, rfl, D, xs, rfl, .inl ⟨SqL.of hD, fun b nb => ⟨by show 3 ≤ sizeLine; decide, fun tt nt => ?_⟩⟩⟩⟩
            have s4 : Same H3 (upd H3 b (.tup xs)) := same_new nb
            have s5 : Same (upd H3 b (.tup xs)) (upd (upd H3 b (.tup xs)) tt (.tup [.str "repeat", .int k, .ref b])) := same_new nt
            exact qs _ hr2 _ _ (.rnd (kd := false) upd_same (s5 _ _ upd_same) ((hx.same s4).same s5)) (by rw [Pl]; exact ⟨rfl, hpl⟩) ((s3.trans s4).trans s5)
    | none =>
      rw [hp] at es2
      rw [List.nil_append] at es2
      refine ⟨_, rfl, ⟨_, rfl⟩, _, _, rfl, rfl, rfl, by rw [SX.S_len]; exact hbig (by omega), fun a na => ?_⟩
      have s1 := same_new (o := .lst ((Txt.split (SX.S it) ("*(" : Str)).map V.str)) na
      have ha : upd H a (.lst ((Txt.split (SX.S it) ("*(" : Str)).map V.str)) a = some (.lst ((([it] : List (List Nat)).map SX.S).map V.str)) := by rw [upd_same, esp, es2]
      generalize upd H a (.lst ((Txt.split (SX.S it) ("*(" : Str)).map V.str)) = H1 at s1 ha ⊢
      refine .inl ⟨a, _, _, _, rfl, rfl, SqL.of ha, show atI _ ((0 : Nat) : Int) = _ from atI_nat rfl, ?_⟩
      refine ⟨_, rfl, _, rfl, rfl, _, rfl, ?_⟩
      rw [show (!decide (V.str (SX.S it) = V.str (SX.S it))) = false by rw [decide_eq_true rfl]; rfl]
      refine iteF ?_
      obtain ⟨parts, hparts⟩ : ∃ x, x = TL.spl [62] 0 [] it := ⟨_, rfl⟩
      rw [← hparts] at esg
      obtain ⟨hz1, hz2⟩ := spl_size (c := 62) it []
      rw [← hparts] at hz1 hz2
      have hpsz : ∀ w ∈ parts, w.length ≤ 20000 := fun w hw => by
        have := hz2 w hw
        rw [List.length_nil] at this
        omega
      have hpn : parts.length ≤ 20001 := by omega
      obtain ⟨os, hos⟩ : ∃ os : List (Option Stp), os = parts.map fun w => (intD w).map Stp.fnd := ⟨_, rfl⟩
      refine ⟨_, rfl, ⟨_, rfl⟩, _, _, rfl, rfl, rfl, by rw [SX.S_len]; exact hbig (by omega), fun a2 na2 => ?_⟩
      have s2 := same_new (o := .lst ((Txt.split (SX.S it) (">" : Str)).map V.str)) na2
      have ha2 : upd H1 a2 (.lst ((Txt.split (SX.S it) (">" : Str)).map V.str)) a2 = some (.lst ((parts.map SX.S).map V.str)) := by rw [upd_same, esg]
      generalize upd H1 a2 (.lst ((Txt.split (SX.S it) (">" : Str)).map V.str)) = H2 at s2 ha2 ⊢
      have s02 := s1.trans s2
      refine ⟨a2, rfl, ⟨_, SqL.of ha2⟩, fun D nD => ?_⟩
      refine lc_list (xs := (parts.map SX.S).map V.str) (fun i H' => H' D = some (.lst ((parts.take i).map intV)) ∧ Same H2 H') ⟨upd_same, same_new nD⟩ (fun i H' _ h => SqL.of (h.2 _ _ ha2)) ?_ ?_
      · rintro i x H' hx ⟨hD, sm⟩
        rw [List.getElem?_map, List.getElem?_map] at hx
        cases hw : parts[i]? with
        | none => rw [hw] at hx; cases hx
        | some w0 =>
          rw [hw] at hx
          injection hx with hx
          subst hx
          refine ⟨rfl, _, rfl, w0, rfl, Nat.le_trans (hpsz w0 (List.mem_of_getElem? hw)) (by decide), fun H4 s4 => ⟨_, s4 _ _ hD, ?_, ?_, same_over (sm.trans s4) nD⟩⟩
          · rw [List.length_map, List.length_take, sizeLine_eq]; omega
          · rw [upd_same, List.take_add_one, hw, List.map_append]
            rfl
      rintro H3 ⟨hD, sm3⟩
      have hD : H3 D = some (.lst (parts.map intV)) := by
        have e : ((parts.map SX.S).map V.str).length = parts.length := by rw [List.length_map, List.length_map]
        rw [e, List.take_length] at hD
        exact hD
      have s03 := s02.trans sm3
      have hdp : DpAll K H3 (parts.map intV) (os.map oD) := by
        rw [hos]
        exact dp_ints parts
      have hsh : SeqAt.shaped (.list (os.map oD)) = true := os_shaped fun s hs => by
        rw [hos] at hs
        obtain ⟨w0, _, e⟩ := List.mem_map.mp hs
        cases hi : intD w0 with
        | none => rw [hi] at e; cases e
        | some z => rw [hi] at e; cases e; rw [nest]; omega
      refine ⟨_, rfl, .none, os.map oD, .non, .lst (SqL.of hD) hdp, by decide, hsh, _, rfl, ?_⟩
      rw [any_non]
      have hcase : (∃ z, parts = [z] ∧ itR m lev it = (intD z).map Stp.fnd) ∨ (∃ c a, parts = [c, a] ∧ itR m lev it = (match intD c, intD a with
        | some x, some y => if lev = 0 then some (.lnk x y) else none
        | _, _ => none)) ∨ (3 ≤ parts.length ∧ itR m lev it = none) := by
        have hsp := spl_par (c0 := 62) (S := []) it []
        rw [← hparts] at hsp
        unfold itR itG
        rw [hp]
        dsimp only
        cases hg : TL.par [62] [] it with
        | none =>
          rw [hg] at hsp
          refine .inl ⟨it, hsp, ?_⟩
          dsimp only
          cases intD it <;> rfl
        | some ca =>
          obtain ⟨c, a⟩ := ca
          rw [hg] at hsp
          dsimp only at hsp ⊢
          have hsp2 := spl_par (c0 := 62) (S := []) a []
          cases ha : TL.par [62] [] a with
          | none =>
            rw [ha] at hsp2
            exact .inr (.inl ⟨c, a, by rw [hsp, hsp2]; rfl, rfl⟩)
          | some br =>
            obtain ⟨b, r⟩ := br
            rw [ha] at hsp2
            refine .inr (.inr ⟨?_, rfl⟩)
            rw [hsp, hsp2]
            dsimp only
            have hsp3 := spl_par (c0 := 62) (S := []) r []
            rw [hsp3]
            cases TL.par [62] [] r with
            | none => exact Nat.le_refl _
            | some uv => show 3 ≤ (_ :: _ :: _ :: _ : List (List Nat)).length; simp
      cases hn : os.any Option.isNone with
      | true =>
        refine iteT (iteT (qn ?_ _ s03))
        have hn := isN_iff.mp hn
        rw [hos] at hn
        obtain ⟨w0, hw0, e0⟩ := List.mem_map.mp hn
        have hw : intD w0 = none := by
          cases hi : intD w0 with
          | none => rfl
          | some z => rw [hi] at e0; cases e0
        rcases hcase with ⟨z, hz, hr⟩ | ⟨c, x, hz, hr⟩ | ⟨hz, hr⟩
        · rw [hz] at hw0
          rw [hr, ← List.mem_singleton.mp hw0, hw]
          rfl
        · rw [hz] at hw0
          rw [hr]
          rcases List.mem_cons.mp hw0 with rfl | hw0
          · rw [hw]
          · rw [← List.mem_singleton.mp hw0, hw]
            cases intD c <;> rfl
        · exact hr
      | false =>
        have hn : none ∉ os := fun z => by rw [isN_iff.mpr z] at hn; cases hn
        have hi : ∀ w ∈ parts, ∃ z, intD w = some z := fun w hw => by
          cases h : intD w with
          | some z => exact ⟨z, rfl⟩
          | none => exact absurd (by rw [hos]; exact List.mem_map.mpr ⟨w, hw, by rw [h]; rfl⟩) hn
        refine iteF ⟨_, rfl, D, _, rfl, .inl (SqL.of hD), _, _, rfl, rfl, _, rfl, ?_⟩
        rcases hcase with ⟨z, hz, hr⟩ | ⟨c, x, hz, hr⟩ | ⟨hz, hr⟩
        · obtain ⟨i, e⟩ := hi z (by rw [hz]; exact List.mem_singleton.mpr rfl)
          have ev : parts.map intV = [.int i] := by
            rw [hz]
            show [intV z] = _
            unfold intV
            rw [e]
          rw [ev] at hD ⊢
          refine iteF ⟨_, rfl, D, _, rfl, .inl (SqL.of hD), rfl, _, rfl, iteF (iteF ?_)⟩
          refine ⟨_, rfl, D, _, rfl, .inl (SqL.of hD), rfl, _, rfl, iteF ?_⟩
          refine ⟨_, rfl, .inl ⟨D, _, _, _, rfl, rfl, SqL.of hD, show atI _ ((0 : Nat) : Int) = _ from atI_nat rfl, ?_⟩⟩
          exact qs (.fnd i) (by rw [hr, e]; rfl) _ _ (.fnd i) (by rw [Pl]; trivial) s03
        · obtain ⟨i, e⟩ := hi c (by rw [hz]; exact List.mem_cons_self)
          obtain ⟨j, e2⟩ := hi x (by rw [hz]; exact List.mem_cons_of_mem _ (List.mem_singleton.mpr rfl))
          have ev : parts.map intV = [.int i, .int j] := by
            rw [hz]
            show [intV c, intV x] = _
            unfold intV
            rw [e, e2]
          rw [ev] at hD ⊢
          rw [e, e2] at hr
          dsimp only at hr
          refine iteF ⟨_, rfl, D, _, rfl, .inl (SqL.of hD), rfl, _, rfl, iteT ⟨_, rfl, _, _, rfl, rfl, _, rfl, ?_⟩⟩
          by_cases hlv : lev = 0
          · subst hlv
            rw [if_pos rfl] at hr
            refine iteF ?_
            refine ⟨_, rfl, D, _, rfl, .inl (SqL.of hD), rfl, _, rfl, iteT ?_⟩
            refine ⟨_, rfl, .inl ⟨D, _, _, _, rfl, rfl, SqL.of hD, show atI _ ((0 : Nat) : Int) = _ from atI_nat rfl, ?_⟩⟩
            refine ⟨_, rfl, .inl ⟨D, _, _, _, rfl, rfl, SqL.of hD, show atI _ ((1 : Nat) : Int) = _ from atI_nat rfl, ?_⟩⟩
            refine ⟨by show 3 ≤ sizeLine; decide, fun tt nt => ?_⟩
            exact qs _ hr _ _ (.lnk upd_same) (by rw [Pl]; trivial) (s03.trans (same_new nt))
          · rw [if_neg hlv] at hr
            rw [decide_eq_true (show (0 : Int) < (lev : Int) by omega)]
            exact iteT (qn hr _ s03)
        · rw [decide_eq_true (show (2 : Int) < (((parts.map intV).length : Nat) : Int) by rw [List.length_map]; omega)]
          exact iteT (iteT (qn hr _ s03))
end
end Ff

namespace Ff
open PySem PySem.Spec PyProof.Rows L2 ExX LamX
section
variable {P : Program} {w : World} {K : PySem.W.Frag} {mg : Str → Option Value} {base : Heap}
theorem ok_lRd {f fIt : Addr} {fd fdIt : FuncData} (F : Fun K "_law_read" "_law_read" sLRd f fd) (T : Tx mg) (kI : Kn P w K mg base 1 "_law_items" sLIts ["_law_text"] spLIts fI fdI) (m : Nat) (kIt : FnOk P w K mg base CX0 (2 * m + 2) fIt fdIt ["_law_item_here", "_law_level"] (spLIt m)) (gI : mg "_law_item" = some (.ref fIt)) (kpI : PySem.W.keepIn K (.ref fIt) = true) (bI : Binds K fdIt ["_law_item_here", "_law_level"] []) : FnOk P w K mg base CX0 (2 * m + 3) f fd ["_law_text", "_law_level"] (spLRd m) := by
  refine F.ok scLRd (fun vs H Q E h => ?_) (fun cdv A outer s H vs Q E hr h => ?_)
  · obtain ⟨l, lev, rfl, _⟩ := h
    rfl
  · obtain ⟨l, lev, rfl, hl, hm, qs, qn⟩ := h
    have hrm : ∀ {j : Nat}, j ≤ 2 * m + 2 → Room j (A.deeper (envOfC "_law_read" (defScope sLRd) s.heap.objs.size f cdv)) := fun h => hr.mono h
    have hu65 : (A.deeper (envOfC "_law_read" (defScope sLRd) s.heap.objs.size f cdv)).units + 65 < cLine := by have := hr.un; omega
    refine ⟨_, (C8.pss_cut (ps_set (i := 2) scLRd.nd rfl (.inl rfl) (pe_ifExp (pt_cmpR op_ne (pv 0) pe_str (nomark _)) (pe_lc (own := [("_law_item_here", 3)]) (g := gName 3) (by rfl) scLRd.nd (pi_list (pe_call kI.G (hrm (by omega)) (by rfl) kI.g kI.F.kp kI.b .nil pass0 (pa_cons (pv 0) pa_nil))) (blkOk_by (own := [("_law_item_here", 3)]) (N := lRdN) (sc := defScope sLRd) (by decide +kernel)) (fun _ _ _ _ _ => (pg_name (i := 3) scLRd.nd rfl (.inl rfl))) (fun _ _ _ _ _ => pts_nil) (fun _ _ _ _ _ => (pe_call kIt (hrm (by omega)) (by rfl) gI kpI bI .nil pass0 (pa_cons (pv 3) (pa_cons (pv 1) pa_nil))))) (pe_lst pa_nil)))
      (pss_one (ps_ret (pe_ifExp (pt_cmpR (op_inD hu65) pe_non (pv 2) (by rfl)) pe_non (pv 2))))), ?_⟩
    refine ⟨fun σ H' => ∃ (D : Addr) (vs : List V) (os : List (Option Stp)) (y3 : Option V), σ = [some (.str (SX.S l)), some (vi lev), some (.ref D), y3] ∧ H D = none ∧ H' D = some (.lst vs) ∧ OsAt H' vs os ∧ os.length ≤ 20001 ∧ rdR m lev l = allO os ∧ (∀ s, some s ∈ os → nest s ≤ 4) ∧ Same H H', ?_, ?_⟩
    · have e0 : (V.str (SX.S l) = V.str ("" : Str)) ↔ l = [] := ⟨fun z => by
        injection z with z
        exact SX.S_inj (b := []) z, fun z => by rw [z]; rfl⟩
      by_cases hl0 : l = []
      · refine ⟨_, rfl, rfl, _, rfl, ?_⟩
        rw [decide_eq_true (e0.mpr hl0)]
        refine iteF ⟨by show 0 ≤ sizeLine; decide, fun D nD => ?_⟩
        exact ⟨D, [], [], _, rfl, nD, upd_same, .nil, by simp, by rw [rdR_eq, if_pos hl0]; rfl, fun s hs => (nomatch hs), same_new nD⟩
      · refine ⟨_, rfl, rfl, _, rfl, ?_⟩
        rw [decide_eq_false (fun z => hl0 (e0.mp z))]
        obtain ⟨its, hits⟩ : ∃ x, x = itF l 0 [] := ⟨_, rfl⟩
        obtain ⟨hz1, hz2⟩ := items_size l 0 []
        rw [← hits] at hz1 hz2
        refine iteT ⟨_, rfl, l, rfl, by omega, fun a H1 na ha s1 => ?_⟩
        rw [← hits] at ha
        refine ⟨a, rfl, ⟨_, SqL.of ha⟩, fun D nD => ?_⟩
        refine lc_list (xs := (its.map SX.S).map V.str) (fun i H' => ∃ vs, H' D = some (.lst vs) ∧ OsAt H' vs ((its.take i).map (itR m lev)) ∧ Same H1 H') ⟨[], upd_same, .nil, same_new nD⟩ (fun i H' _ h => by
          obtain ⟨vs, _, _, h3⟩ := h
          exact SqL.of (h3 _ _ ha)) ?_ ?_
        · rintro i x H' hx ⟨vs, hD, hos, sm⟩
          rw [List.getElem?_map, List.getElem?_map] at hx
          cases hw : its[i]? with
          | none => rw [hw] at hx; cases hx
          | some w0 =>
            rw [hw] at hx
            injection hx with hx
            subst hx
            have hwl : w0.length ≤ 20000 := by
              have := hz2 w0 (List.mem_of_getElem? hw)
              rw [List.length_nil] at this
              omega
            have hvl : vs.length < sizeLine := by
              rw [hos.len, List.length_map, List.length_take, sizeLine_eq]
              omega
            have tk : (its.take (i + 1)).map (itR m lev) = (its.take i).map (itR m lev) ++ [itR m lev w0] := by
              rw [List.take_add_one, hw, List.map_append]
              rfl
            have fin : ∀ (v : V) (H4 : Hp), OAt H4 v (itR m lev w0) → Same H' H4 → ∃ acc, H4 D = some (.lst acc) ∧ acc.length < sizeLine ∧ ∃ vs, upd H4 D (.lst (acc ++ [v])) D = some (.lst vs) ∧ OsAt (upd H4 D (.lst (acc ++ [v]))) vs ((its.take (i + 1)).map (itR m lev)) ∧ Same H1 (upd H4 D (.lst (acc ++ [v]))) := fun v H4 hv s4 => by
              have hD4 := s4 _ _ hD
              refine ⟨vs, hD4, hvl, _, upd_same, ?_, same_over (sm.trans s4) nD⟩
              rw [tk]
              exact (((hos.ts (TSame.of s4)).app hv).ts (TSame.put hD4))
            refine ⟨rfl, _, rfl, _, rfl, w0, lev, rfl, hwl, hm, fun s hs v H4 hv hp s4 => fin v H4 (by rw [hs]; exact ⟨hv, hp⟩) s4, fun hn H4 s4 => fin .non H4 (by rw [hn]; rfl) s4⟩
        · rintro H3 ⟨vs, hD, hos, sm⟩
          have e : ((its.map SX.S).map V.str).length = its.length := by rw [List.length_map, List.length_map]
          rw [e, List.take_length] at hos
          refine ⟨D, vs, _, _, rfl, s1.free nD, hD, hos, by rw [List.length_map]; omega, by rw [rdR_eq, if_neg hl0, hits], fun s hs => ?_, s1.trans sm⟩
          obtain ⟨w0, _, e⟩ := List.mem_map.mp hs
          have := (itR_ok e).2
          unfold RdOk at this
          omega
    · rintro σ H1 ⟨D, vs, os, y3, rfl, nD, hD, hos, hlen, hrd, hne, s1⟩
      refine ⟨_, rfl, .none, os.map oD, .non, .lst (SqL.of hD) hos.dp, by decide, os_shaped hne, _, rfl, ?_⟩
      rw [any_non]
      cases hn : os.any Option.isNone with
      | true => exact iteT (qn (by rw [hrd]; exact allO_none (isN_iff.mp hn)) _ s1)
      | false =>
        have hn : none ∉ os := fun z => by rw [isN_iff.mpr z] at hn; cases hn
        obtain ⟨ss, h1, h2⟩ := allO_some hn
        rw [h2] at hos
        obtain ⟨h3, h4⟩ := hos.all
        exact iteF ⟨_, rfl, qs ss (by rw [hrd, h1]) D vs _ nD hD h3 h4 s1⟩
/-- both, as deep as a history goes -/
theorem ok_lIR {fN fI fIt fR : Addr} {fdN fdI fdIt fdR : FuncData} (FI : Fun K "_law_item" "_law_item" sLIt fIt fdIt) (FR : Fun K "_law_read" "_law_read" sLRd fR fdR) (T : Tx mg) (kN : Kn P w K mg base 1 "_law_number" sLNum ["_law_text"] spLNum fN fdN) (kI : Kn P w K mg base 1 "_law_items" sLIts ["_law_text"] spLIts fI fdI) (gI : mg "_law_item" = some (.ref fIt)) (kpI : PySem.W.keepIn K (.ref fIt) = true) (bI : Binds K fdIt ["_law_item_here", "_law_level"] []) (gR : mg "_law_read" = some (.ref fR)) (kpR : PySem.W.keepIn K (.ref fR) = true) (bR : Binds K fdR ["_law_text", "_law_level"] []) : ∀ m, FnOk P w K mg base CX0 (2 * m + 3) fR fdR ["_law_text", "_law_level"] (spLRd m)
  | 0 => ok_lRd FR T kI 0 (ok_lIt FI T kN 0 ⟨fun _ _ _ _ ⟨m', e, _⟩ => absurd e (by omega), fun _ _ _ _ _ _ _ _ _ _ _ _ _ ⟨m', e, _⟩ => absurd e (by omega)⟩ gR kpR bR) gI kpI bI
  | m + 1 => ok_lRd FR T kI (m + 1) (ok_lIt FI T kN (m + 1) (FnOk.imp (ok_lIR FI FR T kN kI gI kpI bI gR kpR bR m) fun vs H Q E ⟨m', e, z⟩ => by
    have e : m' = m := by omega
    rw [← e]; exact z) gR kpR bR) gI kpI bI
end
end Ff

namespace Ff
open PySem PySem.Spec PyProof.Rows L2 ExX LamX
/-! texts that are no histories -/
def noB (l : List Nat) : Bool := match rdR 4 0 l with
  | none => true
  | some ss => decide (100 < ss.length)
theorem noB_of {l : List Nat} (h : noB l = true) : ¬ HisT l := fun t => by
  obtain ⟨ss, h1, h2⟩ := his_iff.mp t
  unfold noB at h
  rw [h1] at h
  have h : 100 < ss.length := of_decide_eq_true h
  have := nWrs_len ss
  omega
mutual
theorem fmt_cnt : ∀ s : Stp, (fmtL s).count 40 ≤ nWr s
  | .fnd z => by
    rw [fmtL, List.count_eq_zero.mpr fun h => (int_pl 40 h).2.1 rfl]
    exact Nat.zero_le _
  | .lnk c a => by
    rw [fmtL, List.count_append, List.count_cons, List.count_eq_zero.mpr fun h => (int_pl 40 h).2.1 rfl, List.count_eq_zero.mpr fun h => (int_pl 40 h).2.1 rfl]
    exact Nat.zero_le _
  | .rnd k kd ss => by
    have := fmts_cnt ss
    rw [fmtL, nWr]
    simp only [List.count_append, List.count_cons, List.count_nil, List.count_eq_zero.mpr fun h => (int_pl (z := k) 40 h).2.1 rfl]
    simp
    omega
theorem fmts_cnt : ∀ ss : List Stp, (fmtsL ss).count 40 ≤ nWrs ss
  | [] => by rw [fmtsL]; exact Nat.zero_le _
  | s :: r => by
    have h1 := fmt_cnt s
    have h2 := fmtsT_cnt r
    rw [fmtsL, nWrs, List.count_append]; omega
theorem fmtsT_cnt : ∀ ss : List Stp, (fmtsT ss).count 40 ≤ nWrs ss
  | [] => by rw [fmtsT]; exact Nat.zero_le _
  | s :: r => by
    have h1 := fmt_cnt s
    have h2 := fmtsT_cnt r
    rw [fmtsT, nWrs, List.count_cons, List.count_append]
    simp
    omega
end
/-- very deep rounds -/
abbrev deepT : List Nat := (List.replicate 900 [50, 42, 40]).flatten ++ (List.replicate 900 [41]).flatten
theorem cnt_rep (n : Nat) : ((List.replicate n [50, 42, 40]).flatten).count 40 = n := by
  induction n with
  | zero => rfl
  | succ n ih =>
    rw [List.replicate_succ, List.flatten_cons, List.count_append, ih]
    show 1 + n = n + 1
    omega
theorem deep_no : ¬ HisT deepT := fun ⟨ss, h1, _, h3⟩ => by
  have h := fmts_cnt ss
  rw [← h3, List.count_append, cnt_rep] at h
  have := h1.wr
  omega
theorem deep_len : deepT.length ≤ 4000 := by
  rw [List.length_append]
  simp
abbrev oddA : List Str := [" ", "1 ", "01", "-0", "1*", "1*(", "1*()2", "1*2", "()", "a", "+1", "1*(1))", "-1*(2)", "1>", ">1", "1>2>3"]
abbrev tx1 : List Nat := [49] ++ (List.replicate 100 [32, 49]).flatten
abbrev tx2 : List Nat := [49] ++ (List.replicate 31 [48]).flatten ++ [42, 40, 41]
abbrev tx3 : List Nat := (List.replicate 32 [49]).flatten
abbrev tx4 : List Nat := (List.replicate 5 [50, 42, 40]).flatten ++ (List.replicate 5 [41]).flatten
abbrev oddB : List Str := ["1*(1>2)", "2 *(1)", SX.S tx1, SX.S tx2, SX.S tx3, "2*(3 )", SX.S tx4]
abbrev oddC (d : List Nat) : List Str := [SX.S d, "1>2*(3)", "1> 2"]
abbrev oddD : List Str := ["1>2*(3)", "1> 2"]
theorem odd_no : (((oddA ++ oddB) ++ oddD).all fun z => noB z.cps.toList && decide (z.cps.toList.length ≤ 4000)) = true := by decide +kernel
theorem odd_ok {d : List Nat} (hd : ¬ HisT d ∧ d.length ≤ 4000) {z : Str} (h : z ∈ (oddA ++ oddB) ++ oddC d) : ¬ HisT z.cps.toList ∧ z.cps.toList.length ≤ 4000 := by
  have key : z = SX.S d ∨ z ∈ (oddA ++ oddB) ++ oddD := by
    rcases List.mem_append.mp h with h | h
    · exact .inr (List.mem_append.mpr (.inl h))
    · rcases List.mem_cons.mp h with h | h
      · exact .inl h
      · exact .inr (List.mem_append.mpr (.inr h))
  rcases key with rfl | h
  · exact hd
  · have := List.all_eq_true.mp odd_no z h
    rw [Bool.and_eq_true, decide_eq_true_eq] at this
    exact ⟨noB_of this.1, this.2⟩
end Ff

namespace Ff
open PySem PySem.Spec PyProof.Rows L2 ExX LamX
/-! errors of lambdas made in a comprehension -/
structure RdK (K : PySem.W.Frag) (CF CM C : Addr) (fld : Str) : Prop where
  hex : PySem.W.exmAny K (.ref C) [.ref CF, .ref CM] = some true
  xf : XfC K C
  nt : PySem.W.findIn K (.ref C) "tag" = some none
  nf : PySem.W.findIn K (.ref C) fld = some none
theorem TabS.keepB {H H' : Hp} {P : Addr} {q : Str} (t : TabS H P q) (k : ∀ b o, H b = some o → (∀ xs, o ≠ .lst xs) → (∀ C dx fs, o ≠ .ins C dx fs) → H' b = some o) : TabS H' P q := by
  obtain ⟨ps, h1, h2, h3⟩ := t
  refine ⟨ps, k _ _ h1 (by intro xs z; cases z) (by intro C dx fs z; cases z), h2, fun pos cv hc => ?_⟩
  obtain ⟨c, e1, e2⟩ := h3 pos cv hc
  exact ⟨c, e1, k _ _ e2 (by intro xs z; unfold CodeO at z; cases z) (by intro C dx fs z; unfold CodeO at z; cases z)⟩
theorem Tabs.keepB {T : List (Addr × Str)} {H H' : Hp} (t : Tabs T H) (k : ∀ b o, H b = some o → (∀ xs, o ≠ .lst xs) → (∀ C dx fs, o ≠ .ins C dx fs) → H' b = some o) : Tabs T H' := fun p hp => TabS.keepB (t p hp) k
section
variable {P : Program} {w : World} {K : PySem.W.Frag} {mg : Str → Option Value} {base : Heap}
/-- one error, a lambda of any make -/
theorem ask_flB {C CF CM : Addr} {tl : XK → Hp → VK → Prop} {H : Hp} {Q : VK} {fld tag : Str} {v : V} (R : RdK K CF CM C fld) (tg : TagOk tag fld)
    (hc : ∀ Ha E, Same H Ha → Flies Ha E C fld tag v → tl E Ha fun _ _ => False) (q : ∀ t H2, H t = none → Same H H2 → H2 t = some (.tup [.str tag, v]) → Q (.ref t) H2) : TTerr K CF CM tl H Q := by
  intro Ha sa
  refine ⟨fun cls d H1 => cls = .ref C ∧ ∃ dd, d = some dd ∧ H1 dd = some (.xd [(fld, v), ("tag", .str tag)]) ∧ Same Ha H1, fun _ _ => False, hc Ha _ sa fun dd H1 n1 h1 s1 => ⟨rfl, dd, rfl, h1, s1⟩, ?_, fun _ _ h => h.elim⟩
  rintro cls d H1 ⟨rfl, dd, rfl, hdd, s1⟩
  exact ⟨R.hex, tag, fld, v, ⟨C, dd, rfl, R.xf, R.nt, R.nf, rfl, hdd⟩, tg, fun t H2 n s2 e => q t H2 (sm_none (sa.trans s1) n) ((sa.trans s1).trans s2) e⟩
/-- the errors of lambdas made in the block, one for each item of a list -/
theorem asksB_fl {j : Nat} (σ : L2.St) {H : Hp} {CF CM la D : Addr} {TT : List (Addr × Str)} {tb : XK → TE} (xs : List V) (es : List (Str × V)) {Qd : Hp → Prop} (hl : H la = some (.lst xs)) (nD : H D = none) (hj : j < σ.length) (hm : xs.length ≤ 1000) (he : es.length = xs.length) (hT : Tabs TT H)
    (hf : ∀ (i : Nat) (x : V) (e : Str × V), xs[i]? = some x → es[i]? = some e → ∃ (C : Addr) (fld : Str), RdK K CF CM C fld ∧ TagOk e.1 fld ∧ ∀ Ha E, ExtN H Ha → Tabs TT Ha → Flies Ha E C fld e.1 e.2 → tb E ((wipe σ [j]).set j (some x)) Ha fun _ _ => False)
    (q : ∀ (ts : List Addr) H1, ts.length = es.length → H1 D = some (.lst (ts.map V.ref)) → (∀ (i : Nat) (t : Addr) (e : Str × V), ts[i]? = some t → es[i]? = some e → H1 t = some (.tup [.str e.1, e.2])) → ExtN H H1 → Tabs TT H1 → Qd H1) :
    ∃ W : Nat → Nat → Hp → Prop, (∃ m, W 0 m (upd H D (.lst []))) ∧ ∀ i m H, W i m H →
      ((Itl K la).stop i H ∧ Qd H) ∨ ((Itl K la).go i H ∧ ∃ Nx : Hp → Prop, (∀ H', Nx H' → ∃ m', m' < m ∧ W (i + 1) m' H') ∧ ∀ x H', (Itl K la).yld i H x H' → gName j x (wipe σ [j]) H' fun σ2 H2 => wipe σ2 [j] = wipe σ [j] ∧ tYes σ2 H2 fun b H3 =>
        if b = true then (Tabs TT H3 ∧ ∀ (f : Addr) (H1 : Hp), ExtN H3 H1 → Tabs TT H1 → ∀ At : Hp → Prop, At H1 → (∀ Ha Hb, At Ha → (∀ b o, Ha b = some o → Hb b = some o) → At Hb) → TTerr K CF CM (fun E HZ Q' => At HZ ∧ tb E σ2 HZ Q') H1 fun y H4 => ∃ acc, H4 D = some (.lst acc) ∧ acc.length < sizeLine ∧ Nx (upd H4 D (.lst (acc ++ [y])))) else Nx H3) := by
  have nt : ∀ {xs : List V} (ps), (HO.lst xs) ≠ .tbl ps := fun _ z => by cases z
  refine lc_list (K := K) (a := la) (xs := xs) (g := gName j) (tt := tYes) (te := fun σ2 H3 Q => Tabs TT H3 ∧ ∀ (f : Addr) (H1 : Hp), ExtN H3 H1 → Tabs TT H1 → ∀ At : Hp → Prop, At H1 → (∀ Ha Hb, At Ha → (∀ b o, Ha b = some o → Hb b = some o) → At Hb) → TTerr K CF CM (fun E HZ Q' => At HZ ∧ tb E σ2 HZ Q') H1 Q) (vs := [j]) (σ := σ) (Qd := Qd) (fun i H1 => ∃ ts : List Addr, ts.length = i ∧ H1 D = some (.lst (ts.map V.ref)) ∧ (∀ (i : Nat) (t : Addr) (e : Str × V), ts[i]? = some t → es[i]? = some e → H1 t = some (.tup [.str e.1, e.2])) ∧ ExtN H H1 ∧ Tabs TT H1)
    ⟨[], rfl, upd_same, by simp, same_ext (same_new nD), hT.ext (same_new nD)⟩ (fun i H1 _ h => h.elim fun ts h => SqL.of (h.2.2.2.1 _ _ hl nt)) ?_ ?_
  · rintro k y H1 hy ⟨ts, hlen, hD, hts, s1, hT1⟩
    have hk : k < xs.length := (List.getElem?_eq_some_iff.mp hy).1
    have hee : es[k]? = some es[k] := List.getElem?_eq_getElem (by omega)
    generalize es[k] = e at hee
    obtain ⟨C, fld, R, tg, hc⟩ := hf k y e hy hee
    refine ⟨wipe_one, hT1, fun f H2 e12 hT2 At hA hAs => ?_⟩
    refine ask_flB R tg (fun Ha E sa fl => ⟨hAs _ _ hA sa, hc Ha E (fun b o h n => sa _ _ (e12 b o (s1 b o h n) n)) (hT2.ext sa) fl⟩) fun t H3 nt3 s3 et => ?_
    have hD3 := s3 _ _ (e12 _ _ hD nt)
    have nDt : t ≠ D := fun z => by rw [z, e12 _ _ hD nt] at nt3; cases nt3
    have s13 : ExtN H1 H3 := fun b o h n => s3 _ _ (e12 b o h n)
    have old : ∀ {b : Addr} {o : HO}, H1 b = some o → (∀ ps, o ≠ .tbl ps) → b ≠ D → upd H3 D (.lst ((ts ++ [t]).map V.ref)) b = some o := fun h n nb => by rw [upd_ne nb]; exact s13 _ _ h n
    refine ⟨_, hD3, by rw [List.length_map, hlen]; exact Nat.lt_of_le_of_lt (show k ≤ 1000 by omega) (by decide), ts ++ [t], by rw [List.length_append, hlen]; rfl, by rw [upd_same, List.map_append]; rfl, fun i t2 e2 h2 h3 => ?_, fun b o h n => ?_, ?_⟩
    · by_cases hi : i < ts.length
      · rw [List.getElem?_append_left hi] at h2
        have e2 := hts i t2 e2 h2 h3
        rw [upd_ne (ne_of e2 hD (by intro z; cases z))]
        exact s13 _ _ e2 (fun _ z => by cases z)
      · rw [List.getElem?_append_right (by omega)] at h2
        have hi2 : i = k := by
          have := (List.getElem?_eq_some_iff.mp h2).1
          rw [List.length_singleton] at this
          omega
        subst hi2
        rw [show i - ts.length = 0 by omega, List.getElem?_cons_zero] at h2
        rw [hee] at h3
        cases h2
        cases h3
        rw [upd_ne nDt]
        exact et
    · have nb : b ≠ D := ne_of_none h nD
      rw [upd_ne nb]
      exact s13 _ _ (s1 b o h n) n
    · exact Tabs.keepB (hT2.ext s3) fun b o h n _ => by rw [upd_ne fun z => by rw [z, hD3] at h; cases h; exact n _ rfl]; exact h
  · rintro H1 ⟨ts, hlen, hD, hts, s1, hT1⟩
    exact q ts H1 (by omega) hD hts s1 hT1
end
end Ff

namespace Ff
open PySem PySem.Spec PyProof.Rows L2 ExX LamX
abbrev sLaw : Stmt := topS 43
abbrev lawN : List Str := ["_law_script", "_law_draw", "_law_turn", "_law_text", "_law_step_here", "_law_at", "_law_sign", "_law_due", "_law_expected", "_law_odd", "_law_one"]
theorem scLaw : FnScope lawN ["_law_script"] (defScope sLaw) := ⟨rfl, rfl, rfl, by decide +kernel, rfl, by decide +kernel, by decide +kernel⟩
abbrev lamQ : Str := (envOfC "law" (defScope sLaw) 0 0 .none).qual ++ "<lambda>"
theorem wfs_up : ∀ {l : List Stp}, Wfs false l → Wfs true l
  | [], _ => by rw [Wfs]; trivial
  | s :: l, w => by
    rw [Wfs] at w ⊢
    refine ⟨?_, wfs_up w.2⟩
    cases s with
    | fnd z => rw [Wf]; trivial
    | lnk c a => rw [Wf]
    | rnd k kd ss => have := w.1; rw [Wf] at this ⊢; exact this
mutual
theorem drawn_sml {n : Nat} (hn : n ≤ 10 ^ 30) : ∀ s : Stp, Wf false s → InR n s → Sml s
  | .fnd z, _, h => by
    rw [InR] at h
    rw [Sml]
    omega
  | .lnk c a, w, _ => by rw [Wf] at w; cases w
  | .rnd k kd ss, w, h => by
    rw [Wf] at w
    rw [InR] at h
    have el : lim30 = 1000000000000000000000000000000 := by decide
    rw [Sml]
    refine ⟨?_, drawn_smls hn ss w.2.2 h⟩
    have := w.1
    have := w.2.1
    omega
theorem drawn_smls {n : Nat} (hn : n ≤ 10 ^ 30) : ∀ ss : List Stp, Wfs false ss → InRs n ss → Smls ss
  | [], _, _ => by rw [Smls]; trivial
  | s :: r, w, h => by
    rw [Wfs] at w
    rw [InRs] at h
    rw [Smls]
    exact ⟨drawn_sml hn s w.1 h.1, drawn_smls hn r w.2 h.2⟩
end
theorem tcons_c {v : V} {tr : TA} {σ : L2.St} {H : Hp} {Q : List V → Hp → Prop} (h : tr σ H fun xs H2 => Q (v :: xs) H2) : tCons (tC v) tr σ H Q := h
theorem lrd_sp {l : List Nat} {H : Hp} {Q : VK} {E : XK} (hl : l.length ≤ 20000) (key : ∀ v H', ((v = .non ∧ rdR 4 0 l = none) ∨ ∃ ss D xs, v = .ref D ∧ rdR 4 0 l = some ss ∧ H' D = some (.lst xs) ∧ StsAt H' xs ss ∧ Pls ss) → Same H H' → Q v H') : spLRd 4 [.str (SX.S l), vi 0] H Q E :=
  ⟨l, 0, rfl, hl, rfl, fun ss h D xs H' _ hD hst hpl s => key _ _ (.inr ⟨ss, D, xs, rfl, h, hD, hst, hpl⟩) s, fun h H' s => key _ _ (.inl ⟨rfl, h⟩) s⟩
abbrev extV : List V := [V.str "", V.str " 1>2", V.str " 0>3 4"]
abbrev sgsV : List V := [V.str " ", V.str "(", V.str ")", V.str "*", V.str "-", V.str "0", V.str "1", V.str ">", V.str "*(", V.str ")(", V.str "1>", V.str ""]
theorem str_ok {zs : List Str} (h : (zs.all fun z => decide (z.length ≤ 6)) = true) {k : Nat} {v : V} (hv : (zs.map V.str)[k]? = some v) : ∃ l : List Nat, v = .str (SX.S l) ∧ l.length ≤ 6 := by
  obtain ⟨z, hz, rfl⟩ := List.mem_map.mp (List.mem_of_getElem? hv)
  have := of_decide_eq_true (List.all_eq_true.mp h z hz)
  exact ⟨z.cps.toList, by rw [SX.S_tl], this⟩
theorem ext_ok {k : Nat} {v : V} (hv : extV[k]? = some v) : ∃ l : List Nat, v = .str (SX.S l) ∧ l.length ≤ 6 := str_ok (zs := ["", " 1>2", " 0>3 4"]) (by decide +kernel) hv
theorem sgs_ok {k : Nat} {v : V} (hv : sgsV[k]? = some v) : ∃ l : List Nat, v = .str (SX.S l) ∧ l.length ≤ 6 := str_ok (zs := [" ", "(", ")", "*", "-", "0", "1", ">", "*(", ")(", "1>", ""]) (by decide +kernel) hv
abbrev oddVA : List V := [V.str " ", V.str "1 ", V.str "01", V.str "-0", V.str "1*", V.str "1*(", V.str "1*()2", V.str "1*2", V.str "()", V.str "a", V.str "+1", V.str "1*(1))", V.str "-1*(2)", V.str "1>", V.str ">1", V.str "1>2>3"]
abbrev oddVB : List V := [V.str "1*(1>2)", V.str "2 *(1)", V.str (SX.S tx1), V.str (SX.S tx2), V.str (SX.S tx3), V.str "2*(3 )", V.str (SX.S tx4)]
abbrev oddVC (d : List Nat) : List V := [V.str (SX.S d), V.str "1>2*(3)", V.str "1> 2"]
theorem odd_mem {d : List Nat} {x : V} {i : Nat} (h : ((oddVA ++ oddVB) ++ oddVC d)[i]? = some x) : ∃ z : Str, z ∈ (oddA ++ oddB) ++ oddC d ∧ x = .str z := by
  have e : (oddVA ++ oddVB) ++ oddVC d = ((oddA ++ oddB) ++ oddC d).map V.str := rfl
  rw [e] at h
  obtain ⟨z, hz, e⟩ := List.mem_map.mp (List.mem_of_getElem? h)
  exact ⟨z, hz, e.symm⟩
abbrev wrpV : List V := [V.int 0, V.int 0, V.int 0, V.int 3, V.int 4, V.int 5]
theorem wrp_ok {k : Nat} {v : V} (hv : wrpV[k]? = some v) : ∃ n : Nat, v = .int (n : Int) ∧ n ≤ 5 := by
  have hk := (List.getElem?_eq_some_iff.mp hv).1
  match k, hk, hv with
  | 0, _, h => exact ⟨0, (Option.some.inj h).symm, by decide⟩
  | 1, _, h => exact ⟨0, (Option.some.inj h).symm, by decide⟩
  | 2, _, h => exact ⟨0, (Option.some.inj h).symm, by decide⟩
  | 3, _, h => exact ⟨3, (Option.some.inj h).symm, by decide⟩
  | 4, _, h => exact ⟨4, (Option.some.inj h).symm, by decide⟩
  | 5, _, h => exact ⟨5, (Option.some.inj h).symm, by decide⟩
theorem due_sm {ss : List Stp} (h : HOk ss) : Sm 12 (.tuple [.list (stDs ss), .str "", .none]) := .tup (by show 3 ≤ 1000; decide) fun x hx => by
  simp only [List.mem_cons, List.not_mem_nil, or_false] at hx
  rcases hx with rfl | rfl | rfl
  · refine .lst ?_ fun d hd => Sm.up (sm_sts (n := 4) ss h.ne (by have := h.wr; omega) d hd)
    have := nWrs_len ss
    have := h.wr
    rw [stDs_len]; omega
  · exact .str _ _
  · exact .non _
section
variable {P : Program} {w : World} {K : PySem.W.Frag} {mg : Str → Option Value} {base : Heap}
theorem ok_law {f c PT CP CF CM fO fE fX : Addr} {fdX : FuncData} {kV dc pm ct oc : Value} {an od : Option Addr} {sl : Array (Option Value)} (lk : K.lookup f = some ⟨oc, od, .func (PySem.W.fnOf "law" "law" (defArgs sLaw) (defBody sLaw) (defScope sLaw) .none kV dc pm an (.ref c) ct), sl⟩) (hcd : PySem.W.codeIn K (.ref c) "law" = true)
    (TB : TabB base mg c PT) (T : Tx mg) (TS : TxS mg)
    (k1 : Kx P w K mg base 1 "_law_start" sStart ["_law_script"] (spStart K)) (k2 : Kx P w K mg base 6 "_law_rounds" sRounds ["_law_draw", "_law_size", "_law_most", "_law_deep"] (spRounds 2)) (k3 : Kx P w K mg base 1 "_law_take" sTake ["_law_draw", "_law_many"] spTake) (k4 : Kx P w K mg base 2 "_law_of" sOf ["_law_draw", "_law_some"] (spOf K))
    (k5 : Kx P w K mg base 5 "_law_written" sWrit ["_law_steps"] (spWrit 4)) (k6 : Kx P w K mg base 11 "_law_read" sLRd ["_law_text", "_law_level"] (spLRd 4)) (k7 : Kx P w K mg base 13 "_law_same" sSame ["_law_found", "_law_due"] (spSame K 12)) (kF : Kx P w K mg base 13 "format_history" sFmH ["history"] spFmH)
    (GO : FnL P w K mg base 3 fO (TTout K CF CM)) (kO : PySem.W.keepIn K (.ref fO) = true) (gO : mg "_law_outcome" = some (.ref fO)) (GE : FnL P w K mg base 4 fE (TTerr K CF CM)) (kE : PySem.W.keepIn K (.ref fE) = true) (gE : mg "_law_error" = some (.ref fE))
    (xF : KnX P w K mg base 13 "parse_history" ["text"] (spPaHB CP) fX fdX) (FX : Fun K "parse_history" "parse_history" sPaH fX fdX) (R : Raisable P w K mg base 2 "ParseError" CP "pos" "ParseError") (hex : PySem.W.exmAny K (.ref CP) [.ref CF, .ref CM] = some true) :
    FnOk P w K mg base CX0 20 f (PySem.W.fnOf "law" "law" (defArgs sLaw) (defBody sLaw) (defScope sLaw) .none kV dc pm an (.ref c) ct) ["_law_script"] (spLawT K PT) := by
  obtain ⟨_, _, k1⟩ := k1
  obtain ⟨_, _, k2⟩ := k2
  obtain ⟨_, _, k3⟩ := k3
  obtain ⟨_, _, k4⟩ := k4
  obtain ⟨_, _, k5⟩ := k5
  obtain ⟨_, _, k6⟩ := k6
  obtain ⟨_, _, k7⟩ := k7
  obtain ⟨_, _, kF⟩ := kF
  refine fn_of (k := 19) lk hcd scLaw (fun vs H Q E h => ?_) fun A outer s H vs Q E hr h => ?_
  · obtain ⟨a, ns, rfl, _⟩ := h
    rfl
  · obtain ⟨a, ns, rfl, hP, hS, hlen, q⟩ := h
    have hrm : ∀ {j : Nat}, j ≤ 19 → Room j (A.deeper (envOfC "law" (defScope sLaw) s.heap.objs.size f (.ref c))) := fun h => hr.mono h
    have hrU := hr.units
    suffices z : ∃ t, PSs (cxOf CX0 P w K mg base lawN "law" (defScope sLaw) f (.ref c) A outer s H E).nox (defBody sLaw) t ∧ t { nx := fun _ H1 => Q .non H1, rt := Q } (start lawN [.ref a]) H by
      obtain ⟨t, h1, h2⟩ := z
      exact ⟨t, h1.nox, h2⟩
    refine ⟨_, (pss_cons (ps_set (i := 1) scLaw.nd rfl (.inl rfl) (pe_call k1.G (hrm (by decide)) (by rfl) k1.g k1.F.kp k1.b .nil pass0 (pa_cons (pv 0) pa_nil)))
      (pss_cons (ps_for PassesOwn.never rfl (pi_range1 (by rfl) T.range (pa_cons pe_int pa_nil)) (pg_name (i := 2) scLaw.nd rfl (.inl rfl))
        (pss_cons (ps_set (i := 3) scLaw.nd rfl (.inr rfl) (pe_call kF.G (hrm (by decide)) (by rfl) kF.g kF.F.kp kF.b .nil pass0 (pa_cons (pe_call k2.G (hrm (by decide)) (by rfl) k2.g k2.F.kp k2.b .nil pass0 (pa_cons (pv 1) (pa_cons pe_int (pa_cons pe_int (pa_cons pe_int pa_nil))))) pa_nil)))
        (C8.pss_cut (ps_set (i := 3) scLaw.nd rfl (.inr rfl) (pe_ifExp (pt_cmpR op_ne (pv 3) pe_str (nomark _)) (pe_op op_add_str (pv 3) (pe_call k4.G (hrm (by decide)) (by rfl) k4.g k4.F.kp k4.b .nil pass0 (pa_cons (pv 1) (pa_cons (pe_lst (pa_cons pe_str (pa_cons pe_str (pa_cons pe_str pa_nil)))) pa_nil)))) pe_str))
        (pss_cons (ps_for PassesOwn.never rfl (pi_range1 (by rfl) T.range (pa_cons (pe_call k3.G (hrm (by decide)) (by rfl) k3.g k3.F.kp k3.b .nil pass0 (pa_cons (pv 1) (pa_cons pe_int pa_nil))) pa_nil)) (pg_name (i := 4) scLaw.nd rfl (.inl rfl))
          (pss_cons (ps_set (i := 5) scLaw.nd rfl (.inl rfl) (pe_call k3.G (hrm (by decide)) (by rfl) k3.g k3.F.kp k3.b .nil pass0 (pa_cons (pv 1) (pa_cons (pe_op op_add (pe_callB call_len_str (by rfl) T.len PySem.boot_len (pa_cons (pv 3) pa_nil)) pe_int) pa_nil))))
          (pss_cons (ps_set (i := 6) scLaw.nd rfl (.inl rfl) (pe_call k4.G (hrm (by decide)) (by rfl) k4.g k4.F.kp k4.b .nil pass0 (pa_cons (pv 1) (pa_cons (pe_lst (pa_cons pe_str (pa_cons pe_str (pa_cons pe_str (pa_cons pe_str (pa_cons pe_str (pa_cons pe_str (pa_cons pe_str (pa_cons pe_str (pa_cons pe_str (pa_cons pe_str (pa_cons pe_str (pa_cons pe_str pa_nil))))))))))))) pa_nil))))
          (pss_one (ps_set (i := 3) scLaw.nd rfl (.inr rfl) (pe_op op_add_str (pe_op op_add_str (pe_slice sl_str (pv 3) po_none (po_some (pv 5))) (pv 6)) (pe_slice sl_str (pv 3) (po_some (pe_op op_add (pv 5) (pe_call k3.G (hrm (by decide)) (by rfl) k3.g k3.F.kp k3.b .nil pass0 (pa_cons (pv 1) (pa_cons pe_int pa_nil))))) po_none)))))))
        (pss_cons (ps_for PassesOwn.never rfl (pi_range1 (by rfl) T.range (pa_cons (pe_call k4.G (hrm (by decide)) (by rfl) k4.g k4.F.kp k4.b .nil pass0 (pa_cons (pv 1) (pa_cons (pe_lst (pa_cons pe_int (pa_cons pe_int (pa_cons pe_int (pa_cons pe_int (pa_cons pe_int (pa_cons pe_int pa_nil))))))) pa_nil))) pa_nil)) (pg_name (i := 4) scLaw.nd rfl (.inl rfl))
          (pss_one (ps_set (i := 3) scLaw.nd rfl (.inr rfl) (pe_op op_add_str (pe_op op_add_str pe_str (pv 3)) pe_str))))
        (pss_cons (ps_set (i := 7) scLaw.nd rfl (.inl rfl) (pe_call k6.G (hrm (by decide)) (by rfl) k6.g k6.F.kp k6.b .nil pass0 (pa_cons (pv 3) (pa_cons pe_int pa_nil))))
        (C8.pss_cut (ps_set (i := 7) scLaw.nd rfl (.inl rfl) (pe_ifExp (PW.pt (pw_or (pt_cmpR op_isN (pv 7) pe_non (nomark _)) (pw_or1 (pt_cmpR op_gt (pe_call k5.G (hrm (by decide)) (by rfl) k5.g k5.F.kp k5.b .nil pass0 (pa_cons (pv 7) pa_nil)) pe_int (nomark _))))) pe_non (pv 7)))
        (C8.pss_cut (ps_set (i := 8) scLaw.nd rfl (.inl rfl) (pe_ifExp (pt_cmpR op_isN (pv 7) pe_non (nomark _)) (pe_tup (pa_cons pe_non (pa_cons pe_str (pa_cons pe_int pa_nil)))) (pe_tup (pa_cons (pv 7) (pa_cons pe_str (pa_cons pe_non pa_nil))))))
        (pss_one (ps_if (pt_not (pt_val (pe_call k7.G (hrm (by decide)) (by rfl) k7.g k7.F.kp k7.b .nil pass0 (pa_cons (pe_ask (Z := (cxOf CX0 P w K mg base lawN "law" (defScope sLaw) f (.ref c) A outer s H E).nox) (kk := 14) (T := [(PT, lamQ)]) (D := (⟨_, _, _, fun E => tCall (spPaHB CP) [] E (tCons (tVar 3) tNil), lamS_by (sc := defScope sLaw) (by decide +kernel), fun _ _ _ _ _ => rfl, fun f2 c2 E2 A2 outer2 s2 H2 hr2 => pe_call (X := lamC ((cxOf CX0 P w K mg base lawN "law" (defScope sLaw) f (.ref c) A outer s H E).nox) A2 outer2 s2 H2 E2 _ f2 c2) xF.G (Room.mono hr2 (by decide)) (by rfl) xF.g xF.kp xF.b .nil (lookN (L2N.takes_of rfl rfl rfl rfl) fun _ _ _ _ z => z) (pa_cons (pv 3) pa_nil)⟩ : LamD ((cxOf CX0 P w K mg base lawN "law" (defScope sLaw) f (.ref c) A outer s H E).nox) 14)) GO (hrm (j := 18) (by decide)) (by rfl) gO kO TB rfl (List.mem_singleton.mpr rfl) (fun q hq _ => by rw [List.mem_singleton.mp hq]; rfl) rfl) (pa_cons (pv 8) pa_nil)))))
          (pss_one (ps_ret pe_bl)) pss_nil))))))))))
      (pss_cons (ps_set (i := 9) scLaw.nd rfl (.inl rfl) (pe_lst (pa_cons pe_str (pa_cons pe_str (pa_cons pe_str (pa_cons pe_str (pa_cons pe_str (pa_cons pe_str (pa_cons pe_str (pa_cons pe_str (pa_cons pe_str (pa_cons pe_str (pa_cons pe_str (pa_cons pe_str (pa_cons pe_str (pa_cons pe_str (pa_cons pe_str (pa_cons pe_str pa_nil))))))))))))))))))
      (pss_cons (ps_set (i := 9) scLaw.nd rfl (.inl rfl) (pe_op op_cat (pv 9) (pe_lst (pa_cons pe_str (pa_cons pe_str (pa_cons (pe_op op_add_str pe_str (pe_op op_mulS pe_str pe_int)) (pa_cons (pe_op op_add_str (pe_op op_add_str pe_str (pe_op op_mulS pe_str pe_int)) pe_str) (pa_cons (pe_op op_mulS pe_str pe_int) (pa_cons pe_str (pa_cons (pe_op op_add_str (pe_op op_mulS pe_str pe_int) (pe_op op_mulS pe_str pe_int)) pa_nil))))))))))
      (pss_cons (ps_set (i := 9) scLaw.nd rfl (.inl rfl) (pe_op op_cat (pv 9) (pe_lst (pa_cons (pe_op op_add_str (pe_op op_mulS pe_str pe_int) (pe_op op_mulS pe_str pe_int)) (pa_cons pe_str (pa_cons pe_str pa_nil))))))
      (pss_one (ps_ret (pe_cmpR (op_eqD hrU) (pe_lc (own := [("_law_one", 10)]) (g := gName 10) (by rfl) scLaw.nd (pi_list (pv 9)) (blkOk_by (own := [("_law_one", 10)]) (N := lawN) (sc := defScope sLaw) (by decide +kernel)) (fun _ _ _ _ _ => (pg_name (i := 10) scLaw.nd rfl (.inr rfl))) (fun _ _ _ _ _ => pts_nil) (fun s9 H9 C9 cl9 fp9 => (pe_askB (Z := (((cxOf CX0 P w K mg base lawN "law" (defScope sLaw) f (.ref c) A outer s H E).nox).blk s9 H9 _ (compEnvC _ cl9 C9 ((cxOf CX0 P w K mg base lawN "law" (defScope sLaw) f (.ref c) A outer s H E).nox).env) fp9)) (kk := 14) (T := [(PT, lamQ)]) (fun E => tCall (spPaHB CP) [] E (tCons (tVar 10) tNil)) (lamS_blk (sc := defScope sLaw) rfl (by decide +kernel)) (fun _ _ _ _ _ => rfl) (fun f2 c2 E2 A2 outer2 s2 H2 hr2 => pe_call (X := lamC ((((cxOf CX0 P w K mg base lawN "law" (defScope sLaw) f (.ref c) A outer s H E).nox).blk s9 H9 _ (compEnvC _ cl9 C9 ((cxOf CX0 P w K mg base lawN "law" (defScope sLaw) f (.ref c) A outer s H E).nox).env) fp9)) A2 outer2 s2 H2 E2 _ f2 c2) xF.G (Room.mono hr2 (by decide)) (by rfl) xF.g xF.kp xF.b .nil (lookN (L2N.takes_of rfl rfl rfl rfl) fun _ _ _ _ z => z) (pa_cons (pv 10) pa_nil)) GE (hrm (j := 19) (by decide)) (by rfl) gE kE TB rfl (List.mem_singleton.mpr rfl) (fun q hq _ => by rw [List.mem_singleton.mp hq]; rfl) rfl))) (pe_op op_rep (pe_lst (pa_cons (pe_tup (pa_cons pe_str (pa_cons pe_int pa_nil))) pa_nil)) pe_int) (nomark _))))))))), ?_⟩
    have hT0 : Tabs [(PT, lamQ)] H := fun p hp => by
      rw [List.mem_singleton.mp hp]
      exact TabS.nil hP
    refine ⟨_, rfl, a, ns, rfl, hS, hlen, fun d l H0 nd hD0 s0 => ?_⟩
    refine ⟨_, rfl, by decide, by decide, ?_⟩
    have three : 3 ≤ sizeLine := by decide
    refine for_range (lo := 0) (n := 6) (fun i σ H' => (∃ y2 y3 y4 y5 y6 y7 y8, σ = [some (.ref a), some (.ref d), y2, y3, y4, y5, y6, y7, y8, none, none]) ∧ DrawAt H' d l ∧ Tabs [(PT, lamQ)] H') ⟨⟨_, _, _, _, _, _, _, rfl⟩, hD0, hT0.ext s0⟩ ?_ ?_
    · rintro i σ H' hi ⟨⟨y2, y3, y4, y5, y6, y7, y8, rfl⟩, hD, hT⟩
      refine ⟨_, rfl, d, l, 12, 4, rfl, hD, by decide, by decide, by decide, fun B xs ss H1 nB Bd hB hst0 hsl hdrw hD1 sb1 => ?_⟩
      have hT1 := tabs_sb hT sb1 hD.lst
      have hwr : nWrs ss ≤ 52 := by
        have b := nWrs_bound (m := wrB 2) (l := ss) fun s hs => (hdrw s hs).wr
        have : ss.length * wrB 2 ≤ 4 * 13 := Nat.mul_le_mul hsl (by decide)
        omega
      have hsm : Smls ss := smls_of fun s hs => drawn_sml (n := 12) (by decide) s (hdrw s hs).wf (hdrw s hs).inn
      have hfl := fmts_len ss hsm
      refine ⟨true, B, xs, ss, rfl, hB, hst0.at, wfs_up (wfs_of fun s hs => (hdrw s hs).wf), hsm, Nat.le_trans (nests_le (m := 2) fun s hs => (hdrw s hs).ne) (by omega), by omega, fun H2 s2 => ?_⟩
      have hD2 := hD1.same s2
      have hT2 := hT1.ext s2
      generalize fmtsL ss = l0 at hfl
      clear hst0 hB hdrw s2 hT1 hD1 sb1 hT hD
      have hbig : ∀ {k : Nat}, k ≤ 100000 → k ≤ sizeLine := fun h => by rw [sizeLine_eq]; omega
      refine ⟨fun σ H' => ∃ l1 : List Nat, σ = [some (.ref a), some (.ref d), some (V.int (0 + (i : Int))), some (.str (SX.S l1)), y4, y5, y6, y7, y8, none, none] ∧ l1.length ≤ 4000 ∧ DrawAt H' d l ∧ Tabs [(PT, lamQ)] H', ?_, ?_⟩
      · refine ⟨_, rfl, rfl, _, rfl, ite2 (fun _ => ?_) (fun _ => ?_)⟩
        · refine ⟨_, rfl, _, rfl, by show 3 ≤ sizeLine; decide, fun p3 np3 => ?_⟩
          refine ⟨d, l, p3, _, rfl, hD2.new np3, hD2.ne np3, SqL.of upd_same, by show 1 ≤ 3; decide, by show 3 ≤ 1000; decide, fun k v H3 hv hD3 sb3 => ?_⟩
          obtain ⟨x, rfl, hx⟩ := ext_ok hv
          refine ⟨_, _, rfl, rfl, ?_, ?_⟩
          · rw [SX.S_len, SX.S_len]; exact hbig (by omega)
          rw [SX.S_cat]
          exact ⟨l0 ++ x, rfl, by rw [List.length_append]; omega, hD3, tabs_sb (hT2.ext (same_new np3)) sb3 (hD2.new np3).lst⟩
        · have e : ("2>1" : Str) = SX.S [50, 62, 49] := by decide +kernel
          rw [e]
          exact ⟨[50, 62, 49], rfl, by decide, hD2, hT2⟩
      rintro σ H3 ⟨l1, rfl, hl1, hD3, hT3⟩
      clear hT2 hD2 hfl hsm hwr
      refine ⟨_, rfl, d, l, 3, rfl, hD3, by decide, by decide, fun m H8 hm hD8 sb8 => ?_⟩
      have hT8 := tabs_sb hT3 sb8 hD3.lst
      refine ⟨_, rfl, by omega, by omega, ?_⟩
      have hmn : ((m : Nat) : Int).toNat = m := by omega
      rw [hmn]
      refine for_range (lo := 0) (n := m) (fun i' σ H' => ∃ (lt : List Nat) (y4 y5 y6 : Option V), σ = [some (.ref a), some (.ref d), some (V.int (0 + (i : Int))), some (.str (SX.S lt)), y4, y5, y6, y7, y8, none, none] ∧ lt.length ≤ 4000 + 6 * i' ∧ DrawAt H' d l ∧ Tabs [(PT, lamQ)] H') ⟨l1, _, _, _, rfl, by omega, hD8, hT8⟩ ?_ ?_
      · rintro i2 σ H9 hi2 ⟨lt, z5, z6, z7, rfl, hlt, hD9, hT9⟩
        refine ⟨_, rfl, _, rfl, _, rfl, by rw [SX.S_len]; exact hbig (by omega), _, _, rfl, rfl, d, l, lt.length + 1, by rw [SX.S_len]; rfl, hD9, by omega, Nat.lt_of_le_of_lt (show lt.length + 1 ≤ 10000 by omega) (by decide +kernel), fun at_ H10 hat hD10 sb10 => ?_⟩
        have hT10 := tabs_sb hT9 sb10 hD9.lst
        refine ⟨_, rfl, by show 12 ≤ sizeLine; decide, fun p10 np10 => ?_⟩
        have hD11 := hD10.new (o := .lst sgsV) np10
        have npd := hD10.ne np10
        refine ⟨d, l, p10, _, rfl, hD11, npd, SqL.of upd_same, by show 1 ≤ 12; decide, by show 12 ≤ 1000; decide, fun k sg H12 hsg hD12 sb12 => ?_⟩
        have hT12 := tabs_sb (hT10.ext (same_new np10)) sb12 hD11.lst
        obtain ⟨sl, rfl, hsl⟩ := sgs_ok hsg
        have ltl : (SX.S lt).length ≤ sizeLine := by rw [SX.S_len]; exact hbig (by omega)
        have e1 : cutS (SX.S lt) none (some (at_ : Int)) = SX.S (lt.take at_) := (sliceText_cut _ _ _).symm.trans ((SX.slice_to (a := lt) (i := (at_ : Int)) (by omega)).trans (by rw [Int.toNat_natCast]))
        refine ⟨_, rfl, _, rfl, _, rfl, _, rfl, ltl, _, rfl, _, _, rfl, rfl, ?_, ?_⟩
        · rw [e1, SX.S_len, SX.S_len, List.length_take]
          exact hbig (by omega)
        rw [e1, SX.S_cat]
        refine ⟨_, rfl, _, rfl, _, rfl, d, l, 2, rfl, hD12, by decide, by decide, fun r13 H13 hr13 hD13 sb13 => ⟨_, _, rfl, rfl, _, rfl, _, rfl, ltl, _, _, rfl, rfl, ?_⟩⟩
        have e2 : cutS (SX.S lt) (some ((at_ : Int) + (r13 : Int))) none = SX.S (lt.drop (at_ + r13)) := (sliceText_cut _ _ _).symm.trans ((SX.slice_from (a := lt) (i := (at_ : Int) + (r13 : Int)) (by omega)).trans (by rw [show ((at_ : Int) + (r13 : Int)).toNat = at_ + r13 by omega]))
        rw [e2, SX.S_cat, SX.S_len, SX.S_len]
        have hll : (lt.take at_ ++ sl ++ lt.drop (at_ + r13)).length ≤ lt.length + 6 := by
          rw [List.length_append, List.length_append, List.length_take, List.length_drop]
          omega
        refine ⟨?_, lt.take at_ ++ sl ++ lt.drop (at_ + r13), _, _, _, rfl, by omega, hD13, tabs_sb hT12 sb13 hD12.lst⟩
        rw [List.length_append] at hll
        exact hbig (by omega)
      rintro σ H9 ⟨l2, z5, z6, z7, rfl, hl2, hD9, hT9⟩
      have hl2 : l2.length ≤ 4100 := by omega
      clear hT8 hD8 sb8 hT3 hD3
      refine ⟨_, rfl, by show 6 ≤ sizeLine; decide, fun p6 np6 => ?_⟩
      refine ⟨d, l, p6, _, rfl, hD9.new np6, hD9.ne np6, SqL.of upd_same, by show 1 ≤ 6; decide, by show 6 ≤ 1000; decide, fun k v H10 hv hD10 sb10 => ?_⟩
      have hT10 := tabs_sb (hT9.ext (same_new np6)) sb10 (hD9.new np6).lst
      obtain ⟨m2, rfl, hm2⟩ := wrp_ok hv
      refine ⟨_, rfl, by omega, by omega, ?_⟩
      have hmn2 : ((m2 : Nat) : Int).toNat = m2 := by omega
      rw [hmn2]
      refine for_range (lo := 0) (n := m2) (fun i' σ H' => ∃ (lt : List Nat) (y4 : Option V), σ = [some (.ref a), some (.ref d), some (V.int (0 + (i : Int))), some (.str (SX.S lt)), y4, z6, z7, y7, y8, none, none] ∧ lt.length ≤ 4100 + 4 * i' ∧ DrawAt H' d l ∧ Tabs [(PT, lamQ)] H') ⟨l2, _, rfl, by omega, hD10, hT10⟩ ?_ ?_
      · rintro i2 σ H11 hi2 ⟨lt, z5, rfl, hlt, hD11, hT11⟩
        have e3 : ("2*(" : Str) = SX.S [50, 42, 40] := by decide +kernel
        have e4 : (")" : Str) = SX.S [41] := by decide +kernel
        refine ⟨_, rfl, _, _, rfl, rfl, ?_, ?_⟩
        · rw [e3, SX.S_len, SX.S_len]; exact hbig (by show 3 + lt.length ≤ 100000; omega)
        refine ⟨_, _, rfl, rfl, ?_, ?_⟩
        · rw [e3, e4, SX.S_cat, SX.S_len, SX.S_len, List.length_append]; exact hbig (by show 3 + lt.length + 1 ≤ 100000; omega)
        rw [e3, e4, SX.S_cat, SX.S_cat]
        exact ⟨_, _, rfl, by rw [List.length_append, List.length_append]; show 3 + lt.length + 1 ≤ _; omega, hD11, hT11⟩
      rintro σ H11 ⟨lt, z5, rfl, hlt, hD11, hT11⟩
      have hlt : lt.length ≤ 4200 := by omega
      clear hT10 hD10 sb10 hT9 hD9 hl2 hl1
      refine ⟨_, rfl, tcons_c (tnil_of ?_)⟩
      show spLRd 4 [.str (SX.S lt), vi 0] _ _ _
      refine lrd_sp (by omega) fun v H12 hv s12 => ?_
      have hD12 := hD11.same s12
      have hT12 := hT11.ext s12
      refine ⟨fun σ H' => ∃ due : V, σ = [some (.ref a), some (.ref d), some (V.int (0 + (i : Int))), some (.str (SX.S lt)), z5, z6, z7, some due, y8, none, none] ∧ ((due = .non ∧ ¬ HisT lt) ∨ ∃ ss D xs, due = .ref D ∧ HOk ss ∧ Pls ss ∧ lt = fmtsL ss ∧ H' D = some (.lst xs) ∧ StsAt H' xs ss) ∧ DrawAt H' d l ∧ Tabs [(PT, lamQ)] H', ?_, ?_⟩
      · rcases hv with ⟨rfl, hn⟩ | ⟨ss, D, xs, rfl, hs, hDD, hst, hpl⟩
        · refine ⟨_, rfl, rfl, true, rfl, iteT (iteT ⟨.non, rfl, .inl ⟨rfl, fun h => ?_⟩, hD12, hT12⟩)⟩
          obtain ⟨ss, h1, _⟩ := his_iff.mp h
          rw [hn] at h1
          cases h1
        · obtain ⟨b1, b2⟩ := rdR_back 4 0 lt ss hs
          refine ⟨_, rfl, rfl, false, rfl, iteF ⟨_, rfl, true, D, xs, ss, rfl, hDD, hst, b2.2.2.1, _, _, rfl, rfl, _, rfl, ?_⟩⟩
          by_cases hw : nWrs ss ≤ 100
          · rw [decide_eq_false (show ¬ (100 : Int) < ((nWrs ss : Nat) : Int) by omega)]
            exact iteF ⟨_, rfl, _, rfl, .inr ⟨ss, D, xs, rfl, ⟨b2.1, b2.2.1, b2.2.2.1, hw⟩, hpl, b1, hDD, hst⟩, hD12, hT12⟩
          · rw [decide_eq_true (show (100 : Int) < ((nWrs ss : Nat) : Int) by omega)]
            refine iteT ⟨.non, rfl, .inl ⟨rfl, fun h => ?_⟩, hD12, hT12⟩
            obtain ⟨ss2, h1, h2⟩ := his_iff.mp h
            rw [hs] at h1
            cases h1
            exact hw h2
      rintro σ H13 ⟨due, rfl, hdue, hD13, hT13⟩
      clear hv hD12 hT12 hD11 hT11 s12
      have nt : ∀ {xs : List V} (ps), (HO.tup xs) ≠ .tbl ps := fun _ z => by cases z
      have ntl : ∀ {xs : List V} (ps), (HO.lst xs) ≠ .tbl ps := fun _ z => by cases z
      rcases hdue with ⟨rfl, hno⟩ | ⟨ss, D, xs, rfl, hok, hpl, hlt2, hDD, hst⟩
      · refine ⟨fun σ H' => ∃ ex, σ = [some (.ref a), some (.ref d), some (V.int (0 + (i : Int))), some (.str (SX.S lt)), z5, z6, z7, some .non, some (.ref ex), none, none] ∧ H' ex = some (.tup [.non, .str "ParseError", .int 0]) ∧ DrawAt H' d l ∧ Tabs [(PT, lamQ)] H', ?_, ?_⟩
        · refine ⟨_, rfl, rfl, _, rfl, iteT ⟨three, fun ex nex => ?_⟩⟩
          have u := same_new (o := .tup [.non, .str "ParseError", .int 0]) nex
          exact ⟨ex, rfl, upd_same, hD13.same u, hT13.ext u⟩
        rintro σ H14 ⟨ex, rfl, hex14, hD14, hT14⟩
        refine ⟨hT14, fun fl H15 e15 hT15 hA => ?_⟩
        have hex15 := e15 _ _ hex14 nt
        have hD15 := hD14.ext e15
        refine out_no (D := LamD.lam _) (v := .int 0) R hex (.inr (.inr (.inl ⟨by decide, rfl⟩))) hA (fun Ha E sa fly => ?_) fun t3 H16 nt3 s16 ht3 => ?_
        · show tCall (spPaHB CP) [] _ (tCons (tVar 3) tNil) _ _ _
          unfold tCall
          refine ⟨_, rfl, ?_⟩
          refine tnil_of ?_
          exact ⟨lt, rfl, by omega, fun ss h1 h2 h3 => absurd ⟨ss, h1, h2, h3⟩ hno, fun _ H' s' => Flies.same fly s'⟩
        · refine ⟨_, rfl, tnil_of ⟨_, _, .tuple [.none, .str "ParseError", .int 0], rfl, .tup (SqT.of ht3) (.cons .non (.cons (.str _) (.cons (.int _) .nil))), .tup (SqT.of (s16 _ _ hex15)) (.cons .non (.cons (.str _) (.cons (.int _) .nil))), .tup (by show 3 ≤ 1000; decide) (fun x hx => ?_), fun H17 s17 => ⟨_, rfl, iteF ?_⟩⟩⟩
          · simp only [List.mem_cons, List.not_mem_nil, or_false] at hx
            rcases hx with rfl | rfl | rfl
            · exact .non _
            · exact .str _ _
            · exact .int _ _
          · exact ⟨⟨_, _, _, _, _, _, _, rfl⟩, hD15.same (s16.trans s17), hT15.ext (s16.trans s17)⟩
      · refine ⟨fun σ H' => ∃ ex, σ = [some (.ref a), some (.ref d), some (V.int (0 + (i : Int))), some (.str (SX.S lt)), z5, z6, z7, some (.ref D), some (.ref ex), none, none] ∧ H' ex = some (.tup [.ref D, .str "", .non]) ∧ H' D = some (.lst xs) ∧ StsAt H' xs ss ∧ DrawAt H' d l ∧ Tabs [(PT, lamQ)] H', ?_, ?_⟩
        · refine ⟨_, rfl, rfl, _, rfl, iteF ⟨_, rfl, three, fun ex nex => ?_⟩⟩
          have u := same_new (o := .tup [.ref D, .str "", .non]) nex
          exact ⟨ex, rfl, upd_same, u _ _ hDD, hst.same u, hD13.same u, hT13.ext u⟩
        rintro σ H14 ⟨ex, rfl, hex14, hDD14, hst14, hD14, hT14⟩
        refine ⟨hT14, fun fl H15 e15 hT15 hA => ?_⟩
        have hex15 := e15 _ _ hex14 nt
        have hDD15 := e15 _ _ hDD14 ntl
        have hst15 : StsAt H15 xs ss := hst14.ts (fun _ _ h => e15 _ _ h nt) hpl
        have hD15 := hD14.ext e15
        refine out_yes (D := LamD.lam _) (fun Ha v H1 => ∃ D2 ys, v = .ref D2 ∧ H1 D2 = some (.lst ys) ∧ StsAt H1 ys ss ∧ Same Ha H1) hA (fun Ha sa => ?_) ?_
        · show tCall (spPaHB CP) [] _ (tCons (tVar 3) tNil) _ _ _
          unfold tCall
          refine ⟨_, rfl, ?_⟩
          refine tnil_of ?_
          refine ⟨lt, rfl, by omega, fun ss' h1 h2 h3 D2 ys H16 nD2 hD2 hys s16 => ⟨D2, ys, rfl, hD2, ?_, s16⟩, fun h => absurd ⟨ss, hok, hpl, hlt2⟩ h⟩
          have e : ss' = ss := by
            have a1 := rdR_fmt 4 0 ss ⟨hok.sm, hok.wf, hok.ne, hpl⟩
            have a2 := rdR_fmt 4 0 ss' ⟨h1.sm, h1.wf, h1.ne, h2⟩
            rw [← hlt2] at a1
            rw [← h3, a1] at a2
            exact (Option.some.inj a2).symm
          rw [← e]; exact hys
        · rintro Ha v H16 sa ⟨D2, ys, rfl, hD2, hys, s16⟩ t3 H17 nt3 s17 ht3
          have s27 := (sa.trans s16).trans s17
          refine ⟨_, rfl, tnil_of ⟨_, _, .tuple [.list (stDs ss), .str "", .none], rfl, .tup (SqT.of ht3) (.cons (.lst (SqL.of (s17 _ _ hD2)) (hys.same s17).dp) (.cons (.str _) (.cons .non .nil))), .tup (SqT.of (s27 _ _ hex15)) (.cons (.lst (SqL.of (s27 _ _ hDD15)) (hst15.same s27).dp) (.cons (.str _) (.cons .non .nil))), due_sm hok, fun H18 s18 => ⟨_, rfl, iteF ?_⟩⟩⟩
          exact ⟨⟨_, _, _, _, _, _, _, rfl⟩, hD15.same (s27.trans s18), hT15.ext (s27.trans s18)⟩
    rintro σ H20 ⟨⟨y2, y3, y4, y5, y6, y7, y8, rfl⟩, hD20, hT20⟩
    refine ⟨by show 16 ≤ sizeLine; decide, fun pa npa => ?_⟩
    have u1 := same_new (o := .lst oddVA) npa
    have hpa : upd H20 pa (.lst oddVA) pa = some (.lst oddVA) := upd_same
    have hT21 := hT20.ext u1
    generalize upd H20 pa (.lst oddVA) = H21 at u1 hpa hT21 ⊢
    refine ⟨_, rfl, [32, 49], 100, rfl, rfl, by decide, by decide, by decide, _, _, rfl, rfl, ?_, [48], 31, rfl, rfl, by decide, by decide, by decide, _, _, rfl, rfl, ?_, _, _, rfl, rfl, ?_, [49], 32, rfl, rfl, by decide, by decide, by decide, [50, 42, 40], 5, rfl, rfl, by decide, by decide, by decide, [41], 5, rfl, rfl, by decide, by decide, by decide, _, _, rfl, rfl, ?_, by show 7 ≤ sizeLine; decide, fun pb npb => ?_⟩
    · rw [SX.S_len]; exact Nat.le_trans (show _ ≤ 1000 by decide) (by decide)
    · rw [SX.S_len]; exact Nat.le_trans (show _ ≤ 1000 by decide) (by decide)
    · exact Nat.le_trans (show _ ≤ 1000 by decide +kernel) (by decide)
    · rw [SX.S_len, SX.S_len]; exact Nat.le_trans (show _ ≤ 1000 by decide) (by decide)
    have e1 : (("1" : Str) ++ SX.S (List.replicate 100 [32, 49]).flatten) = SX.S tx1 := SX.S_cat [49] _
    have e2 : (("1" : Str) ++ SX.S (List.replicate 31 [48]).flatten ++ ("*()" : Str)) = SX.S tx2 := by
      rw [show (("1" : Str) ++ SX.S (List.replicate 31 [48]).flatten) = SX.S ([49] ++ (List.replicate 31 [48]).flatten) from SX.S_cat [49] _]
      exact SX.S_cat _ [42, 40, 41]
    have e4 : (SX.S (List.replicate 5 [50, 42, 40]).flatten ++ SX.S (List.replicate 5 [41]).flatten) = SX.S tx4 := SX.S_cat _ _
    rw [e1, e2, e4]
    have u2 := same_new (o := .lst oddVB) npb
    have hpb : upd H21 pb (.lst oddVB) pb = some (.lst oddVB) := upd_same
    have hpa2 := u2 _ _ hpa
    have hT22 := hT21.ext u2
    generalize upd H21 pb (.lst oddVB) = H22 at u2 hpa2 hpb hT22 ⊢
    refine ⟨pa, pb, oddVA, oddVB, rfl, rfl, hpa2, hpb, by show 23 ≤ sizeLine; decide, fun pc npc => ?_⟩
    have u3 := same_new (o := .lst (oddVA ++ oddVB)) npc
    have hpc : upd H22 pc (.lst (oddVA ++ oddVB)) pc = some (.lst (oddVA ++ oddVB)) := upd_same
    have hT23 := hT22.ext u3
    generalize upd H22 pc (.lst (oddVA ++ oddVB)) = H23 at u3 hpc hT23 ⊢
    obtain ⟨dt, hdt⟩ : ∃ x, x = deepT := ⟨_, rfl⟩
    have hdeep : ¬ HisT dt ∧ dt.length ≤ 4000 := by rw [hdt]; exact ⟨deep_no, deep_len⟩
    have e5 : (SX.S (List.replicate 900 [50, 42, 40]).flatten ++ SX.S (List.replicate 900 [41]).flatten) = SX.S dt := by rw [hdt]; exact SX.S_cat _ _
    refine ⟨_, rfl, [50, 42, 40], 900, rfl, rfl, by decide, by decide, by decide, [41], 900, rfl, rfl, by decide, by decide, by decide, _, _, rfl, rfl, ?_, by show 3 ≤ sizeLine; decide, fun pd npd => ?_⟩
    · rw [SX.S_len, SX.S_len, sizeLine_eq]
      have := deep_len
      rw [List.length_append] at this
      omega
    rw [e5]
    have u4 := same_new (o := .lst (oddVC dt)) npd
    have hpd : upd H23 pd (.lst (oddVC dt)) pd = some (.lst (oddVC dt)) := upd_same
    have hpc4 := u4 _ _ hpc
    have hT24 := hT23.ext u4
    generalize upd H23 pd (.lst (oddVC dt)) = H24 at u4 hpc4 hpd hT24 ⊢
    refine ⟨pc, pd, oddVA ++ oddVB, oddVC dt, rfl, rfl, hpc4, hpd, by show 26 ≤ sizeLine; decide, fun po npo => ?_⟩
    have u5 := same_new (o := .lst ((oddVA ++ oddVB) ++ oddVC dt)) npo
    have hpo : upd H24 po (.lst ((oddVA ++ oddVB) ++ oddVC dt)) po = some (.lst ((oddVA ++ oddVB) ++ oddVC dt)) := upd_same
    have hT25 := hT24.ext u5
    generalize upd H24 po (.lst ((oddVA ++ oddVB) ++ oddVC dt)) = H25 at u5 hpo hT25 ⊢
    clear hdt e5 e1 e2 e4
    refine ⟨_, rfl, po, rfl, ⟨_, SqL.of hpo⟩, fun D nD => ?_⟩
    refine asksB_fl (j := 10) [some (.ref a), some (.ref d), y2, y3, y4, y5, y6, y7, y8, some (.ref po), none] ((oddVA ++ oddVB) ++ oddVC dt) (List.replicate 26 (("ParseError" : Str), V.int 0)) hpo nD (by show 10 < 11; decide) (by show 26 ≤ 1000; decide) rfl hT25 (fun i x e hx he => ?_) fun ts H26 hts hDD htt s26 hT26 => ?_
    · obtain ⟨z, hz, rfl⟩ := odd_mem hx
      obtain ⟨hno, hzl⟩ := odd_ok hdeep hz
      obtain rfl : e = (("ParseError" : Str), V.int 0) := List.eq_of_mem_replicate (List.mem_of_getElem? he)
      refine ⟨CP, "pos", ⟨hex, R.xf, R.nt, R.nf⟩, .inr (.inr (.inl ⟨by decide, rfl⟩)), fun Ha E e1 hT1 fly => ?_⟩
      show tCall (spPaHB CP) [] E (tCons (tVar 10) tNil) _ _ _
      unfold tCall
      refine ⟨_, rfl, ?_⟩
      refine tnil_of ?_
      exact ⟨z.cps.toList, by rw [SX.S_tl]; rfl, by omega, fun ss h1 h2 h3 => absurd ⟨ss, h1, h2, h3⟩ hno, fun _ H' s' => Flies.same fly s'⟩
    refine ⟨by decide, fun pt npt => ⟨by show 1 ≤ sizeLine; decide, fun pl npl => ⟨pl, 26, [V.ref pt], rfl, rfl, upd_same, by decide, by decide, by show 1 * 26 ≤ sizeLine; decide, fun pr npr => ?_⟩⟩⟩
    have v1 := same_new (o := .tup [V.str "ParseError", V.int 0]) npt
    have hpt : upd H26 pt (.tup [V.str "ParseError", V.int 0]) pt = _ := upd_same
    have v2 := same_new (o := .lst [V.ref pt]) npl
    have v3 := same_new (o := .lst (List.replicate (26 : Int).toNat [V.ref pt]).flatten) npr
    have v13 := (v1.trans v2).trans v3
    have hpr : upd (upd (upd H26 pt (.tup [V.str "ParseError", V.int 0])) pl (.lst [V.ref pt])) pr (.lst (List.replicate (26 : Int).toNat [V.ref pt]).flatten) pr = some (.lst ((List.replicate 26 pt).map V.ref)) := upd_same
    have hpt3 := (v2.trans v3) _ _ hpt
    have hDD3 := v13 _ _ hDD
    have htt3 : ∀ t ∈ ts, upd (upd (upd H26 pt (.tup [V.str "ParseError", V.int 0])) pl (.lst [V.ref pt])) pr (.lst (List.replicate (26 : Int).toNat [V.ref pt]).flatten) t = some (.tup [V.str "ParseError", V.int 0]) := fun t ht => by
      obtain ⟨j, hj⟩ := List.mem_iff_getElem?.mp ht
      have hjl : j < 26 := by
        have := (List.getElem?_eq_some_iff.mp hj).1
        rw [hts] at this
        simpa using this
      exact v13 _ _ (htt j t _ hj (by rw [List.getElem?_replicate, if_pos hjl]))
    generalize upd (upd (upd H26 pt (.tup [V.str "ParseError", V.int 0])) pl (.lst [V.ref pt])) pr (.lst (List.replicate (26 : Int).toNat [V.ref pt]).flatten) = H27 at hpr hpt3 hDD3 htt3 ⊢
    have cd : ∀ H, DpAll K H [V.str "ParseError", V.int 0] [.str "ParseError", .int 0] := fun H => .cons (.str _) (.cons (.int _) .nil)
    have htl : ts.length = 26 := by rw [hts]; rfl
    have d1 : Dp K H27 (.ref D) (dReps 26 (.tuple [.str "ParseError", .int 0])) := .lst (SqL.of hDD3) (by have z := dp_reps (K := K) (cd H27) htt3; rw [htl] at z; exact z)
    have d2 : Dp K H27 (.ref pr) (dReps 26 (.tuple [.str "ParseError", .int 0])) := .lst (SqL.of hpr) (dp_reps (K := K) (ts := List.replicate 26 pt) (cd H27) fun t ht => by rw [List.eq_of_mem_replicate ht]; exact hpt3)
    have hsh : SeqAt.shaped (dReps 26 (.tuple [.str "ParseError", .int 0])) = true := by decide +kernel
    refine ⟨_, _, d1, d2, hsh, hsh, ?_⟩
    rw [SeqAt.eqv_refl _ (SeqAt.canLay_of_shaped hsh)]
    exact q _
end
end Ff

namespace Ff
open PySem PySem.Spec PyProof.Rows L2 ExX LamX
theorem all_mk {l : PySem.W.OpenLaw} {w : World} {K : PySem.W.Frag} {h : Heap} {mg : Str → Option Value} {fa : Addr} (X : K.In h) (G : h.Ns mainGlobals mg) (hfa : mg "law" = some (.ref fa)) (own : LamX.OwnTab K fa h)
    (d0 : DefF K "is_find" sIsFnd)
    (d1 : DefF K "has_form" sForm)
    (d2 : DefF K "is_link" sIsLnk)
    (d3 : DefF K "is_round" sIsRnd)
    (d4 : DefF K "may_stand" sMay)
    (d5 : DefF K "check_steps" sChkS)
    (d6 : DefF K "check_history" sChkH)
    (d7 : DefF K "parse_integer" sPaI)
    (d8 : DefF K "format_step" sFmT)
    (d9 : DefF K "format_steps" sFmS)
    (d10 : DefF K "format_history" sFmH)
    (d11 : DefF K "is_history" sIsH)
    (d12 : DefF K "parse_single" sPaS)
    (d13 : DefF K "parse_words" sPaW)
    (d14 : DefF K "parse_history" sPaH)
    (d15 : DefF K "_law_start" sStart)
    (d16 : DefF K "_law_take" sTake)
    (d17 : DefF K "_law_of" sOf)
    (d18 : DefF K "_law_same" sSame)
    (d19 : DefF K "_law_field" sField)
    (d20 : DefF K "_law_outcome" sOut)
    (d21 : DefF K "_law_error" sErr)
    (d22 : DefF K "_law_step" sStep)
    (d23 : DefF K "_law_rounds" sRounds)
    (d24 : DefF K "_law_written" sWrit)
    (d25 : DefF K "_law_number" sLNum)
    (d26 : DefF K "_law_items" sLIts)
    (d27 : DefF K "_law_item" sLIt)
    (d28 : DefF K "_law_read" sLRd)
    (z_len : PySem.W.nsIn K mainGlobals "len" = some none)
    (z_range : PySem.W.nsIn K mainGlobals "range" = some none)
    (z_list : PySem.W.nsIn K mainGlobals "list" = some none)
    (z_tuple : PySem.W.nsIn K mainGlobals "tuple" = some none)
    (z_max : PySem.W.nsIn K mainGlobals "max" = some none)
    (z_min : PySem.W.nsIn K mainGlobals "min" = some none)
    (z_isinstance : PySem.W.nsIn K mainGlobals "isinstance" = some none)
    (z_bool : PySem.W.nsIn K mainGlobals "bool" = some none)
    (z_int : PySem.W.nsIn K mainGlobals "int" = some none)
    (z_str : PySem.W.nsIn K mainGlobals "str" = some none)
    (z_all : PySem.W.nsIn K mainGlobals "all" = some none)
    (z_zip : PySem.W.nsIn K mainGlobals "zip" = some none)
    (z_set : PySem.W.nsIn K mainGlobals "set" = some none)
    (z_sorted : PySem.W.nsIn K mainGlobals "sorted" = some none)
    (z_sum : PySem.W.nsIn K mainGlobals "sum" = some none)
    (z_ValueError : PySem.W.nsIn K mainGlobals "ValueError" = some none)
    (z_LookupError : PySem.W.nsIn K mainGlobals "LookupError" = some none)
    (z_enumerate : PySem.W.nsIn K mainGlobals "enumerate" = some none)
    (z_any : PySem.W.nsIn K mainGlobals "any" = some none)
    {fL c PT : Addr} {oc eL : Value} {od an ddL : Option Addr} {sl slL : Array (Option Value)} {kV dc pm ct : Value} {vsL : Array Value}
    (aL : PySem.W.nsIn K mainGlobals "law" = some (some (.ref fL))) (lL : K.lookup fL = some ⟨oc, od, .func (PySem.W.fnOf "law" "law" (defArgs sLaw) (defBody sLaw) (defScope sLaw) .none kV dc pm an (.ref c) ct), sl⟩) (cL : PySem.W.codeIn K (.ref c) "law" = true)
    (kL : K.lookup c = some ⟨eL, ddL, .fields vsL, slL⟩) (vL : vsL[11]? = some (.ref PT)) (hL : PySem.W.codeHdIn K c PT = true) (nL : K.lookup PT = none)
    {CForestError fForestError : Addr} {ocForestError : Value} {odForestError anForestError : Option Addr} {slForestError : Array (Option Value)} {kVForestError dcForestError pmForestError cdForestError ctForestError : Value}
    (aForestError : PySem.W.nsIn K mainGlobals "ForestError" = some (some (.ref CForestError))) (iForestError : PySem.W.findIn K (.ref CForestError) "__init__" = some (some (.ref fForestError))) (lForestError : K.lookup fForestError = some ⟨ocForestError, odForestError, .func (PySem.W.fnOf "__init__" "ForestError.__init__" (defArgs (initS sForE)) (defBody (initS sForE)) (defScope (initS sForE)) .none kVForestError dcForestError pmForestError anForestError cdForestError ctForestError), slForestError⟩)
    (cForestError : PySem.W.codeIn K cdForestError "ForestError.__init__" = true) (kForestError : PySem.W.keepIn K (.ref fForestError) = true)
    (rForestError : PySem.W.readsIn K CForestError (.type "type") = true) (mForestError : PySem.W.findCls K (.ref CForestError) (.type "type") "__init__" = some (.val (.ref fForestError))) (pForestError : PySem.W.specialIn K (.ref CForestError) "__getattribute__" = some (some (.builtin "type.__getattribute__"))) (qForestError : PySem.W.keepIn K (.ref CForestError) = true) (vForestError : PySem.W.findCls K (.type "ValueError") (.type "type") "__init__" = some (.val (.builtin "ValueError.__init__")))
    {CMissing fMissing : Addr} {ocMissing : Value} {odMissing anMissing : Option Addr} {slMissing : Array (Option Value)} {kVMissing dcMissing pmMissing cdMissing ctMissing : Value}
    (aMissing : PySem.W.nsIn K mainGlobals "Missing" = some (some (.ref CMissing))) (iMissing : PySem.W.findIn K (.ref CMissing) "__init__" = some (some (.ref fMissing))) (lMissing : K.lookup fMissing = some ⟨ocMissing, odMissing, .func (PySem.W.fnOf "__init__" "Missing.__init__" (defArgs (initS sMiss)) (defBody (initS sMiss)) (defScope (initS sMiss)) .none kVMissing dcMissing pmMissing anMissing cdMissing ctMissing), slMissing⟩)
    (cMissing : PySem.W.codeIn K cdMissing "Missing.__init__" = true) (kMissing : PySem.W.keepIn K (.ref fMissing) = true)
    (rMissing : PySem.W.readsIn K CMissing (.type "type") = true) (mMissing : PySem.W.findCls K (.ref CMissing) (.type "type") "__init__" = some (.val (.ref fMissing))) (pMissing : PySem.W.specialIn K (.ref CMissing) "__getattribute__" = some (some (.builtin "type.__getattribute__"))) (qMissing : PySem.W.keepIn K (.ref CMissing) = true) (vMissing : PySem.W.findCls K (.type "LookupError") (.type "type") "__init__" = some (.val (.builtin "LookupError.__init__")))
    {CTooLong fTooLong : Addr} {ocTooLong : Value} {odTooLong anTooLong : Option Addr} {slTooLong : Array (Option Value)} {kVTooLong dcTooLong pmTooLong cdTooLong ctTooLong : Value}
    (aTooLong : PySem.W.nsIn K mainGlobals "TooLong" = some (some (.ref CTooLong))) (iTooLong : PySem.W.findIn K (.ref CTooLong) "__init__" = some (some (.ref fTooLong))) (lTooLong : K.lookup fTooLong = some ⟨ocTooLong, odTooLong, .func (PySem.W.fnOf "__init__" "TooLong.__init__" (defArgs (initS sE_TooLong)) (defBody (initS sE_TooLong)) (defScope (initS sE_TooLong)) .none kVTooLong dcTooLong pmTooLong anTooLong cdTooLong ctTooLong), slTooLong⟩)
    (cTooLong : PySem.W.codeIn K cdTooLong "TooLong.__init__" = true) (kTooLong : PySem.W.keepIn K (.ref fTooLong) = true)
    (tTooLong : PySem.W.typeIn K (.ref fTooLong) = some (.type "function")) (uTooLong : PySem.W.excInitIn K CTooLong vaTail "ValueError.__new__" = true) (oTooLong : PySem.W.excOver K CTooLong vaTail = true) (hTooLong : PySem.W.hasDictIn K CTooLong = true) (saTooLong : PySem.W.findIn K (.ref CTooLong) "__setattr__" = some (some (.builtin "object.__setattr__"))) (bTooLong : PySem.W.subIn K (.ref CTooLong) (.type "BaseException") = some true)
    (yTooLong : PySem.W.typeIn K (.ref CTooLong) = some (.type "type")) (wTooLong : PySem.W.keepIn K (.ref CTooLong) = true) (nTooLong : PySem.W.findIn K (.ref CTooLong) "tag" = some none) (gTooLong : PySem.W.findIn K (.ref CTooLong) "limit" = some none) (xTooLong : PySem.W.findIn K (.ref CTooLong) "__getattribute__" = some (some (.builtin "BaseException.__getattribute__"))) (jTooLong : PySem.W.findIn K (.ref CTooLong) "__getattr__" = some none)
    (zTooLong : PySem.W.exmAny K (.ref CTooLong) [.ref CForestError, .ref CMissing] = some true)
    {CBadStep fBadStep : Addr} {ocBadStep : Value} {odBadStep anBadStep : Option Addr} {slBadStep : Array (Option Value)} {kVBadStep dcBadStep pmBadStep cdBadStep ctBadStep : Value}
    (aBadStep : PySem.W.nsIn K mainGlobals "BadStep" = some (some (.ref CBadStep))) (iBadStep : PySem.W.findIn K (.ref CBadStep) "__init__" = some (some (.ref fBadStep))) (lBadStep : K.lookup fBadStep = some ⟨ocBadStep, odBadStep, .func (PySem.W.fnOf "__init__" "BadStep.__init__" (defArgs (initS sE_BadStep)) (defBody (initS sE_BadStep)) (defScope (initS sE_BadStep)) .none kVBadStep dcBadStep pmBadStep anBadStep cdBadStep ctBadStep), slBadStep⟩)
    (cBadStep : PySem.W.codeIn K cdBadStep "BadStep.__init__" = true) (kBadStep : PySem.W.keepIn K (.ref fBadStep) = true)
    (tBadStep : PySem.W.typeIn K (.ref fBadStep) = some (.type "function")) (uBadStep : PySem.W.excInitIn K CBadStep vaTail "ValueError.__new__" = true) (oBadStep : PySem.W.excOver K CBadStep vaTail = true) (hBadStep : PySem.W.hasDictIn K CBadStep = true) (saBadStep : PySem.W.findIn K (.ref CBadStep) "__setattr__" = some (some (.builtin "object.__setattr__"))) (bBadStep : PySem.W.subIn K (.ref CBadStep) (.type "BaseException") = some true)
    (yBadStep : PySem.W.typeIn K (.ref CBadStep) = some (.type "type")) (wBadStep : PySem.W.keepIn K (.ref CBadStep) = true) (nBadStep : PySem.W.findIn K (.ref CBadStep) "tag" = some none) (gBadStep : PySem.W.findIn K (.ref CBadStep) "pos" = some none) (xBadStep : PySem.W.findIn K (.ref CBadStep) "__getattribute__" = some (some (.builtin "BaseException.__getattribute__"))) (jBadStep : PySem.W.findIn K (.ref CBadStep) "__getattr__" = some none)
    (zBadStep : PySem.W.exmAny K (.ref CBadStep) [.ref CForestError, .ref CMissing] = some true)
    {CParseError fParseError : Addr} {ocParseError : Value} {odParseError anParseError : Option Addr} {slParseError : Array (Option Value)} {kVParseError dcParseError pmParseError cdParseError ctParseError : Value}
    (aParseError : PySem.W.nsIn K mainGlobals "ParseError" = some (some (.ref CParseError))) (iParseError : PySem.W.findIn K (.ref CParseError) "__init__" = some (some (.ref fParseError))) (lParseError : K.lookup fParseError = some ⟨ocParseError, odParseError, .func (PySem.W.fnOf "__init__" "ParseError.__init__" (defArgs (initS sE_ParseError)) (defBody (initS sE_ParseError)) (defScope (initS sE_ParseError)) .none kVParseError dcParseError pmParseError anParseError cdParseError ctParseError), slParseError⟩)
    (cParseError : PySem.W.codeIn K cdParseError "ParseError.__init__" = true) (kParseError : PySem.W.keepIn K (.ref fParseError) = true)
    (tParseError : PySem.W.typeIn K (.ref fParseError) = some (.type "function")) (uParseError : PySem.W.excInitIn K CParseError vaTail "ValueError.__new__" = true) (oParseError : PySem.W.excOver K CParseError vaTail = true) (hParseError : PySem.W.hasDictIn K CParseError = true) (saParseError : PySem.W.findIn K (.ref CParseError) "__setattr__" = some (some (.builtin "object.__setattr__"))) (bParseError : PySem.W.subIn K (.ref CParseError) (.type "BaseException") = some true)
    (yParseError : PySem.W.typeIn K (.ref CParseError) = some (.type "type")) (wParseError : PySem.W.keepIn K (.ref CParseError) = true) (nParseError : PySem.W.findIn K (.ref CParseError) "tag" = some none) (gParseError : PySem.W.findIn K (.ref CParseError) "pos" = some none) (xParseError : PySem.W.findIn K (.ref CParseError) "__getattribute__" = some (some (.builtin "BaseException.__getattribute__"))) (jParseError : PySem.W.findIn K (.ref CParseError) "__getattr__" = some none)
    (zParseError : PySem.W.exmAny K (.ref CParseError) [.ref CForestError, .ref CMissing] = some true)
    {CEmptyHistory : Addr} (aEmptyHistory : PySem.W.nsIn K mainGlobals "EmptyHistory" = some (some (.ref CEmptyHistory)))
    {tL : Tok} (aCL : PySem.W.nsIn K mainGlobals "COUNT_LIMIT" = some (some (.int 1000000000000000000000000000000 tL)))
    {tN : Tok} (aMN : PySem.W.nsIn K mainGlobals "MAX_NESTING" = some (some (.int 4 tN)))
    {tS : Tok} (aMS : PySem.W.nsIn K mainGlobals "MAX_STEPS" = some (some (.int 100 tS)))
    {tMD : Tok} (aMD : PySem.W.nsIn K mainGlobals "MAX_DIGITS" = some (some (.int 31 tMD)))
    (mTooLong : PySem.W.exmAny K (.ref CTooLong) [.ref CTooLong, .ref CBadStep] = some true)
    (mBadStep : PySem.W.exmAny K (.ref CBadStep) [.ref CTooLong, .ref CBadStep] = some true)
    : LamX.LawAtS l w K CX0 20 63 "_law_script" mg fa h := by
  obtain ⟨f_0, fd_0, F_0, g_0⟩ := d0.get X G
  obtain ⟨f_1, fd_1, F_1, g_1⟩ := d1.get X G
  obtain ⟨f_2, fd_2, F_2, g_2⟩ := d2.get X G
  obtain ⟨f_3, fd_3, F_3, g_3⟩ := d3.get X G
  obtain ⟨f_4, fd_4, F_4, g_4⟩ := d4.get X G
  obtain ⟨f_5, fd_5, F_5, g_5⟩ := d5.get X G
  obtain ⟨f_6, fd_6, F_6, g_6⟩ := d6.get X G
  obtain ⟨f_7, fd_7, F_7, g_7⟩ := d7.get X G
  obtain ⟨f_8, fd_8, F_8, g_8⟩ := d8.get X G
  obtain ⟨f_9, fd_9, F_9, g_9⟩ := d9.get X G
  obtain ⟨f_10, fd_10, F_10, g_10⟩ := d10.get X G
  obtain ⟨f_11, fd_11, F_11, g_11⟩ := d11.get X G
  obtain ⟨f_12, fd_12, F_12, g_12⟩ := d12.get X G
  obtain ⟨f_13, fd_13, F_13, g_13⟩ := d13.get X G
  obtain ⟨f_14, fd_14, F_14, g_14⟩ := d14.get X G
  obtain ⟨f_15, fd_15, F_15, g_15⟩ := d15.get X G
  obtain ⟨f_16, fd_16, F_16, g_16⟩ := d16.get X G
  obtain ⟨f_17, fd_17, F_17, g_17⟩ := d17.get X G
  obtain ⟨f_18, fd_18, F_18, g_18⟩ := d18.get X G
  obtain ⟨f_19, fd_19, F_19, g_19⟩ := d19.get X G
  obtain ⟨f_20, fd_20, F_20, g_20⟩ := d20.get X G
  obtain ⟨f_21, fd_21, F_21, g_21⟩ := d21.get X G
  obtain ⟨f_22, fd_22, F_22, g_22⟩ := d22.get X G
  obtain ⟨f_23, fd_23, F_23, g_23⟩ := d23.get X G
  obtain ⟨f_24, fd_24, F_24, g_24⟩ := d24.get X G
  obtain ⟨f_25, fd_25, F_25, g_25⟩ := d25.get X G
  obtain ⟨f_26, fd_26, F_26, g_26⟩ := d26.get X G
  obtain ⟨f_27, fd_27, F_27, g_27⟩ := d27.get X G
  obtain ⟨f_28, fd_28, F_28, g_28⟩ := d28.get X G
  have e := hfa.symm.trans (PySem.W.mg_of X G aL)
  cases e
  replace z_len := PySem.W.mg_none_of X G z_len
  replace z_range := PySem.W.mg_none_of X G z_range
  replace z_list := PySem.W.mg_none_of X G z_list
  replace z_tuple := PySem.W.mg_none_of X G z_tuple
  replace z_max := PySem.W.mg_none_of X G z_max
  replace z_min := PySem.W.mg_none_of X G z_min
  replace z_isinstance := PySem.W.mg_none_of X G z_isinstance
  replace z_bool := PySem.W.mg_none_of X G z_bool
  replace z_int := PySem.W.mg_none_of X G z_int
  replace z_str := PySem.W.mg_none_of X G z_str
  replace z_all := PySem.W.mg_none_of X G z_all
  replace z_zip := PySem.W.mg_none_of X G z_zip
  replace z_set := PySem.W.mg_none_of X G z_set
  replace z_sorted := PySem.W.mg_none_of X G z_sorted
  replace z_sum := PySem.W.mg_none_of X G z_sum
  replace z_ValueError := PySem.W.mg_none_of X G z_ValueError
  replace z_LookupError := PySem.W.mg_none_of X G z_LookupError
  replace z_enumerate := PySem.W.mg_none_of X G z_enumerate
  replace z_any := PySem.W.mg_none_of X G z_any
  have T : Tx mg := ⟨z_len, z_range, z_list, z_tuple, z_max, z_min⟩
  have TS : TxS mg := ⟨z_isinstance, z_list, z_tuple, z_bool, z_int, z_str, z_len, z_all, z_zip⟩
  have GForestError := PySem.W.mg_of X G aForestError
  have GMissing := PySem.W.mg_of X G aMissing
  have GTooLong := PySem.W.mg_of X G aTooLong
  have GBadStep := PySem.W.mg_of X G aBadStep
  have GParseError := PySem.W.mg_of X G aParseError
  have GEmptyHistory := PySem.W.mg_of X G aEmptyHistory
  have gL := PySem.W.mg_of X G aCL
  have gN := PySem.W.mg_of X G aMN
  have gS := PySem.W.mg_of X G aMS
  have gMD := PySem.W.mg_of X G aMD
  have hP := own c PT _ _ _ _ _ _ lL rfl rfl kL vL
  refine ⟨PySem.W.fnOf "law" "law" (defArgs sLaw) (defBody sLaw) (defScope sLaw) .none kV dc pm an (.ref c) ct, [(c, PT)], spLawT K PT, fun p hp => ?_, fun p hp => ?_, fun p hp => ?_, fun s v => .of_eq rfl, fun H a ns hl _ hH hS => ⟨a, ns, rfl, hH (c, PT) (List.mem_singleton.mpr rfl), hS, hl, fun _ => rfl⟩, fun base _ _ hTB => ?_⟩
  · rw [List.mem_singleton.mp hp]; exact hP
  · rw [List.mem_singleton.mp hp]; exact nL
  · rw [List.mem_singleton.mp hp]; exact PySem.W.codeHd_of_K X hL
  have TB := hTB (c, PT) (List.mem_singleton.mpr rfl)
  have b_0 := F_0.binds (ps := ["step"]) fun _ _ _ _ _ _ us hl => match us, hl with | [_], _ => rfl
  have b_1 := F_1.binds (ps := ["step", "word"]) fun _ _ _ _ _ _ us hl => match us, hl with | [_, _], _ => rfl
  have b_2 := F_2.binds (ps := ["step"]) fun _ _ _ _ _ _ us hl => match us, hl with | [_], _ => rfl
  have b_3 := F_3.binds (ps := ["step"]) fun _ _ _ _ _ _ us hl => match us, hl with | [_], _ => rfl
  have b_4 := F_4.binds (ps := ["step", "depth"]) fun _ _ _ _ _ _ us hl => match us, hl with | [_, _], _ => rfl
  have b_5 := F_5.binds (ps := ["steps", "depth", "pos"]) fun _ _ _ _ _ _ us hl => match us, hl with | [_, _, _], _ => rfl
  have b_6 := F_6.binds (ps := ["history"]) fun _ _ _ _ _ _ us hl => match us, hl with | [_], _ => rfl
  have b_7 := F_7.binds (ps := ["text"]) fun _ _ _ _ _ _ us hl => match us, hl with | [_], _ => rfl
  have b_8 := F_8.binds (ps := ["step"]) fun _ _ _ _ _ _ us hl => match us, hl with | [_], _ => rfl
  have b_9 := F_9.binds (ps := ["steps"]) fun _ _ _ _ _ _ us hl => match us, hl with | [_], _ => rfl
  have b_10 := F_10.binds (ps := ["history"]) fun _ _ _ _ _ _ us hl => match us, hl with | [_], _ => rfl
  have b_11 := F_11.binds (ps := ["steps"]) fun _ _ _ _ _ _ us hl => match us, hl with | [_], _ => rfl
  have b_12 := F_12.binds (ps := ["word"]) fun _ _ _ _ _ _ us hl => match us, hl with | [_], _ => rfl
  have b_13 := F_13.binds (ps := ["words"]) fun _ _ _ _ _ _ us hl => match us, hl with | [_], _ => rfl
  have b_14 := F_14.binds (ps := ["text"]) fun _ _ _ _ _ _ us hl => match us, hl with | [_], _ => rfl
  have b_15 := F_15.binds (ps := ["_law_script"]) fun _ _ _ _ _ _ us hl => match us, hl with | [_], _ => rfl
  have b_16 := F_16.binds (ps := ["_law_draw", "_law_many"]) fun _ _ _ _ _ _ us hl => match us, hl with | [_, _], _ => rfl
  have b_17 := F_17.binds (ps := ["_law_draw", "_law_some"]) fun _ _ _ _ _ _ us hl => match us, hl with | [_, _], _ => rfl
  have b_18 := F_18.binds (ps := ["_law_found", "_law_due"]) fun _ _ _ _ _ _ us hl => match us, hl with | [_, _], _ => rfl
  have b_19 := F_19.binds (ps := ["_law_e"]) fun _ _ _ _ _ _ us hl => match us, hl with | [_], _ => rfl
  have b_20 := F_20.binds (ps := ["_law_ask"]) fun _ _ _ _ _ _ us hl => match us, hl with | [_], _ => rfl
  have b_21 := F_21.binds (ps := ["_law_ask"]) fun _ _ _ _ _ _ us hl => match us, hl with | [_], _ => rfl
  have b_22 := F_22.binds (ps := ["_law_draw", "_law_size", "_law_deep"]) fun _ _ _ _ _ _ us hl => match us, hl with | [_, _, _], _ => rfl
  have b_23 := F_23.binds (ps := ["_law_draw", "_law_size", "_law_most", "_law_deep"]) fun _ _ _ _ _ _ us hl => match us, hl with | [_, _, _, _], _ => rfl
  have b_24 := F_24.binds (ps := ["_law_steps"]) fun _ _ _ _ _ _ us hl => match us, hl with | [_], _ => rfl
  have b_25 := F_25.binds (ps := ["_law_text"]) fun _ _ _ _ _ _ us hl => match us, hl with | [_], _ => rfl
  have b_26 := F_26.binds (ps := ["_law_text"]) fun _ _ _ _ _ _ us hl => match us, hl with | [_], _ => rfl
  have b_27 := F_27.binds (ps := ["_law_item_here", "_law_level"]) fun _ _ _ _ _ _ us hl => match us, hl with | [_, _], _ => rfl
  have b_28 := F_28.binds (ps := ["_law_text", "_law_level"]) fun _ _ _ _ _ _ us hl => match us, hl with | [_, _], _ => rfl
  have HForestError : Fun K "__init__" "ForestError.__init__" (initS sForE) fForestError _ := fun_mk (st := initS sForE) lForestError cForestError kForestError
  have IForestError : FnOk l.prog w K mg base CX0 1 fForestError _ ["self", "tag", "message"] (spTop K "ValueError.__new__" vaTail) := ok_forEI HForestError z_ValueError vForestError
  have JForestError := HForestError.binds (ps := ["self", "tag", "message"]) fun _ _ _ _ _ _ us hl => match us, hl with | [_, _, _], _ => rfl
  have LForestError : ClsI K CForestError fForestError := ⟨rForestError, mForestError, pForestError, kForestError, qForestError⟩
  have HMissing : Fun K "__init__" "Missing.__init__" (initS sMiss) fMissing _ := fun_mk (st := initS sMiss) lMissing cMissing kMissing
  have IMissing : FnOk l.prog w K mg base CX0 1 fMissing _ ["self", "tag", "message"] (spTop K "LookupError.__new__" luTail) := ok_missI HMissing z_LookupError vMissing
  have JMissing := HMissing.binds (ps := ["self", "tag", "message"]) fun _ _ _ _ _ _ us hl => match us, hl with | [_, _, _], _ => rfl
  have LMissing : ClsI K CMissing fMissing := ⟨rMissing, mMissing, pMissing, kMissing, qMissing⟩
  have HTooLong : Fun K "__init__" "TooLong.__init__" (initS sE_TooLong) fTooLong _ := fun_mk (st := initS sE_TooLong) lTooLong cTooLong kTooLong
  have JTooLong := HTooLong.binds (ps := ["self", "limit"]) fun _ _ _ _ _ _ us hl => match us, hl with | [_, _], _ => rfl
  have RTooLong : Raisable l.prog w K mg base 2 "TooLong" CTooLong "limit" "TooLong" := ⟨⟨_, _, _, _, fTooLong, _, PySem.F.excBase_ValueError, ⟨uTooLong, oTooLong, hTooLong, saTooLong, bTooLong, yTooLong, wTooLong⟩, iTooLong, tTooLong, ok_E_TooLong HTooLong LForestError GForestError IForestError JForestError, JTooLong⟩, GTooLong, nTooLong, gTooLong, ⟨xTooLong, jTooLong, bTooLong, hTooLong⟩⟩
  have HBadStep : Fun K "__init__" "BadStep.__init__" (initS sE_BadStep) fBadStep _ := fun_mk (st := initS sE_BadStep) lBadStep cBadStep kBadStep
  have JBadStep := HBadStep.binds (ps := ["self", "pos"]) fun _ _ _ _ _ _ us hl => match us, hl with | [_, _], _ => rfl
  have RBadStep : Raisable l.prog w K mg base 2 "BadStep" CBadStep "pos" "BadStep" := ⟨⟨_, _, _, _, fBadStep, _, PySem.F.excBase_ValueError, ⟨uBadStep, oBadStep, hBadStep, saBadStep, bBadStep, yBadStep, wBadStep⟩, iBadStep, tBadStep, ok_E_BadStep HBadStep LForestError GForestError IForestError JForestError, JBadStep⟩, GBadStep, nBadStep, gBadStep, ⟨xBadStep, jBadStep, bBadStep, hBadStep⟩⟩
  have HParseError : Fun K "__init__" "ParseError.__init__" (initS sE_ParseError) fParseError _ := fun_mk (st := initS sE_ParseError) lParseError cParseError kParseError
  have JParseError := HParseError.binds (ps := ["self", "pos"]) fun _ _ _ _ _ _ us hl => match us, hl with | [_, _], _ => rfl
  have RParseError : Raisable l.prog w K mg base 2 "ParseError" CParseError "pos" "ParseError" := ⟨⟨_, _, _, _, fParseError, _, PySem.F.excBase_ValueError, ⟨uParseError, oParseError, hParseError, saParseError, bParseError, yParseError, wParseError⟩, iParseError, tParseError, ok_E_ParseError HParseError LForestError GForestError IForestError JForestError, JParseError⟩, GParseError, nParseError, gParseError, ⟨xParseError, jParseError, bParseError, hParseError⟩⟩
  have k_0 : Kn l.prog w K mg base 1 "is_find" sIsFnd ["step"] spIsFnd f_0 fd_0 := ⟨F_0, ok_isFnd F_0 TS, b_0, g_0⟩
  have k_1 : Kn l.prog w K mg base 1 "has_form" sForm ["step", "word"] spForm f_1 fd_1 := ⟨F_1, ok_form F_1 T TS, b_1, g_1⟩
  have k_2 : Kn l.prog w K mg base 2 "is_link" sIsLnk ["step"] spIsLnk f_2 fd_2 := ⟨F_2, ok_isLnk F_2 k_1 TS, b_2, g_2⟩
  have k_3 : Kn l.prog w K mg base 2 "is_round" sIsRnd ["step"] spIsRnd f_3 fd_3 := ⟨F_3, ok_isRnd F_3 k_1 TS gL, b_3, g_3⟩
  have k_4 : Kn l.prog w K mg base 3 "may_stand" sMay ["step", "depth"] spMay f_4 fd_4 := ⟨F_4, ok_may F_4 k_2 k_3 k_0 gN, b_4, g_4⟩
  have k_5 : Kn l.prog w K mg base 8 "check_steps" sChkS ["steps", "depth", "pos"] (spChkS 4) f_5 fd_5 := ⟨F_5, ok_chkS F_5 k_4 k_3 b_5 g_5 gS 4, b_5, g_5⟩
  have k_6 : Kn l.prog w K mg base 9 "check_history" sChkH ["history"] (spChkH 4) f_6 fd_6 := ⟨F_6, ok_chkH F_6 4 k_5, b_6, g_6⟩
  have k_9 : Kn l.prog w K mg base 12 "format_steps" sFmS ["steps"] (spFmS 4) f_9 fd_9 := ⟨F_9, ok_fmSS F_9 F_8 TS k_0 k_2 b_9 g_9 b_8 g_8 4, b_9, g_9⟩
  have k_10 : Kn l.prog w K mg base 13 "format_history" sFmH ["history"] spFmH f_10 fd_10 := ⟨F_10, ok_fmH F_10 k_6 k_9, b_10, g_10⟩
  have k_15 : Kn l.prog w K mg base 1 "_law_start" sStart ["_law_script"] (spStart K) f_15 fd_15 := ⟨F_15, ok_start F_15 T, b_15, g_15⟩
  have k_16 : Kn l.prog w K mg base 1 "_law_take" sTake ["_law_draw", "_law_many"] spTake f_16 fd_16 := ⟨F_16, ok_take F_16 T.len, b_16, g_16⟩
  have k_17 : Kn l.prog w K mg base 2 "_law_of" sOf ["_law_draw", "_law_some"] (spOf K) f_17 fd_17 := ⟨F_17, ok_of F_17 k_16.G k_16.F k_16.b k_16.g T, b_17, g_17⟩
  have k_23 : Kn l.prog w K mg base 6 "_law_rounds" sRounds ["_law_draw", "_law_size", "_law_most", "_law_deep"] (spRounds 2) f_23 fd_23 := ⟨F_23, ok_rounds F_23 2 k_16 ⟨F_22, ok_step F_22 k_16 k_17 b_22 g_22 T 2, b_22, g_22⟩ T, b_23, g_23⟩
  have k_24 : Kn l.prog w K mg base 5 "_law_written" sWrit ["_law_steps"] (spWrit 4) f_24 fd_24 := ⟨F_24, ok_writ F_24 TS b_24 g_24 4, b_24, g_24⟩
  have k_25 : Kn l.prog w K mg base 1 "_law_number" sLNum ["_law_text"] spLNum f_25 fd_25 := ⟨F_25, ok_lNum F_25 T TS z_all, b_25, g_25⟩
  have k_26 : Kn l.prog w K mg base 1 "_law_items" sLIts ["_law_text"] spLIts f_26 fd_26 := ⟨F_26, ok_lIts F_26 TS, b_26, g_26⟩
  have k_18 : Kn l.prog w K mg base 13 "_law_same" sSame ["_law_found", "_law_due"] (spSame K 12) f_18 fd_18 := ⟨F_18, ok_same F_18 TS b_18 g_18 12, b_18, g_18⟩
  have x_paI : KnX l.prog w K mg base 4 "parse_integer" ["text"] (spPaIB CParseError) f_7 fd_7 := ⟨F_7.kp, okB_paI F_7 RParseError T TS z_all gMD, b_7, g_7⟩
  have x_paS : KnX l.prog w K mg base 5 "parse_single" ["word"] (spPaSB CParseError) f_12 fd_12 := ⟨F_12.kp, okB_paS F_12 T x_paI, b_12, g_12⟩
  have x_paW : KnX l.prog w K mg base 6 "parse_words" ["words"] (spPaWB CParseError) f_13 fd_13 := ⟨F_13.kp, okB_paW F_13 RParseError T x_paI x_paS, b_13, g_13⟩
  have k_rndG : Kn l.prog w K mg base 2 "is_round" sIsRnd ["step"] spIsRndG f_3 fd_3 := ⟨F_3, okG_isRnd F_3 k_1 TS gL, b_3, g_3⟩
  have k_mayG : Kn l.prog w K mg base 3 "may_stand" sMay ["step", "depth"] spMayG f_4 fd_4 := ⟨F_4, okG_may F_4 k_2 k_rndG k_0 gN, b_4, g_4⟩
  have x_ckS : KnX l.prog w K mg base 8 "check_steps" ["steps", "depth", "pos"] (spCkS CTooLong CBadStep 4) f_5 fd_5 := ⟨F_5.kp, okB_ckS F_5 k_mayG k_rndG b_5 g_5 gS RTooLong RBadStep 4, b_5, g_5⟩
  have x_ckH : KnX l.prog w K mg base 9 "check_history" ["history"] (spCkH CTooLong CBadStep) f_6 fd_6 := ⟨F_6.kp, okB_ckH F_6 x_ckS, b_6, g_6⟩
  have k_isHG : Kn l.prog w K mg base 10 "is_history" sIsH ["steps"] spIsHG f_11 fd_11 := ⟨F_11, ok_isHG F_11 x_ckH GTooLong GBadStep mTooLong mBadStep, b_11, g_11⟩
  have x_paH : KnX l.prog w K mg base 13 "parse_history" ["text"] (spPaHB CParseError) f_14 fd_14 := ⟨F_14.kp, okB_paH F_14 RParseError T x_paW k_isHG k_9, b_14, g_14⟩
  have k_lrd : Kn l.prog w K mg base 11 "_law_read" sLRd ["_law_text", "_law_level"] (spLRd 4) f_28 fd_28 := ⟨F_28, ok_lIR F_27 F_28 T k_25 k_26 g_27 F_27.kp b_27 g_28 F_28.kp b_28 4, b_28, g_28⟩
  have E_f : ExX.FnE l.prog w K mg base CX0 1 f_19 _ ["_law_e"] (spField K) := ok_field F_19
  have E_o : ExX.FnL l.prog w K mg base 3 f_20 (TTout K CForestError CMissing) := ok_out F_20 b_20 E_f F_19.kp b_19 g_19 GForestError GMissing GEmptyHistory
  have E_e : ExX.FnL l.prog w K mg base 4 f_21 (TTerr K CForestError CMissing) := ok_err F_21 b_21 E_o F_20.kp g_20
  exact ok_law lL cL TB T TS ⟨_, _, k_15⟩ ⟨_, _, k_23⟩ ⟨_, _, k_16⟩ ⟨_, _, k_17⟩ ⟨_, _, k_24⟩ ⟨_, _, k_lrd⟩ ⟨_, _, k_18⟩ ⟨_, _, k_10⟩ E_o F_20.kp g_20 E_e F_21.kp g_21 x_paH F_14 RParseError zParseError
end Ff
open PySem PySem.W PyProof.Rows
set_option maxHeartbeats 0 in
theorem PySem.Challenge.cw_findforests_k51_texts_that_are_no_histor_holds : PySem.Challenge.rw_findforests_k51_texts_that_are_no_histor.Holds := by
  w_on; o_law; k_head; (case hw => w_witness2)
  k_fill
  refine LamX.walk_ofOwn (l := PySem.Challenge.rw_findforests_k51_texts_that_are_no_histor) (n := 63) (k := 20) (x := "_law_script") (CX := fun _ => L2.CX0) rfl (by decide) rfl ⟨rfl, by decide, by decide⟩ (by decide +kernel) (fun w h Y => PySem.W.km_in_of Y) ?F (fun _ _ _ _ _ h => h)
  case F =>
    intro w mg fa h Y KX G hmg own
    refine' Ff.all_mk KX G hmg own ?d0 ?d1 ?d2 ?d3 ?d4 ?d5 ?d6 ?d7 ?d8 ?d9 ?d10 ?d11 ?d12 ?d13 ?d14 ?d15 ?d16 ?d17 ?d18 ?d19 ?d20 ?d21 ?d22 ?d23 ?d24 ?d25 ?d26 ?d27 ?d28 ?z_len ?z_range ?z_list ?z_tuple ?z_max ?z_min ?z_isinstance ?z_bool ?z_int ?z_str ?z_all ?z_zip ?z_set ?z_sorted ?z_sum ?z_ValueError ?z_LookupError ?z_enumerate ?z_any ?aL ?lL ?cL ?kL ?vL ?hL ?nL ?aForestError ?iForestError ?lForestError ?cForestError ?kForestError ?rForestError ?mForestError ?pForestError ?qForestError ?vForestError ?aMissing ?iMissing ?lMissing ?cMissing ?kMissing ?rMissing ?mMissing ?pMissing ?qMissing ?vMissing ?aTooLong ?iTooLong ?lTooLong ?cTooLong ?kTooLong ?tTooLong ?uTooLong ?oTooLong ?hTooLong ?saTooLong ?bTooLong ?yTooLong ?wTooLong ?nTooLong ?gTooLong ?xTooLong ?jTooLong ?zTooLong ?aBadStep ?iBadStep ?lBadStep ?cBadStep ?kBadStep ?tBadStep ?uBadStep ?oBadStep ?hBadStep ?saBadStep ?bBadStep ?yBadStep ?wBadStep ?nBadStep ?gBadStep ?xBadStep ?jBadStep ?zBadStep ?aParseError ?iParseError ?lParseError ?cParseError ?kParseError ?tParseError ?uParseError ?oParseError ?hParseError ?saParseError ?bParseError ?yParseError ?wParseError ?nParseError ?gParseError ?xParseError ?jParseError ?zParseError ?aEmptyHistory ?aCL ?aMN ?aMS ?aMD ?mTooLong ?mBadStep
    (case z_len => k_is); (case z_range => k_is); (case z_list => k_is); (case z_tuple => k_is); (case z_max => k_is); (case z_min => k_is); (case z_isinstance => k_is); (case z_bool => k_is); (case z_int => k_is); (case z_str => k_is); (case z_all => k_is); (case z_zip => k_is); (case z_set => k_is); (case z_sorted => k_is); (case z_sum => k_is); (case z_ValueError => k_is); (case z_LookupError => k_is); (case z_enumerate => k_is); (case z_any => k_is); (case aL => k_is); (case lL => k_is); (case cL => k_is); (case kL => k_is); (case vL => rfl); (case hL => kernel_rfl); (case nL => kernel_rfl); (case aForestError => k_is); (case iForestError => k_is); (case lForestError => k_is); (case cForestError => k_is); (case kForestError => k_is); (case rForestError => k_is); (case mForestError => k_is); (case pForestError => k_is); (case qForestError => k_is); (case vForestError => k_is); (case aMissing => k_is); (case iMissing => k_is); (case lMissing => k_is); (case cMissing => k_is); (case kMissing => k_is); (case rMissing => k_is); (case mMissing => k_is); (case pMissing => k_is); (case qMissing => k_is); (case vMissing => k_is); (case aTooLong => k_is); (case iTooLong => k_is); (case lTooLong => k_is); (case cTooLong => k_is); (case kTooLong => k_is); (case tTooLong => k_is); (case uTooLong => kx_is); (case oTooLong => kx_is); (case hTooLong => k_is); (case saTooLong => k_is); (case bTooLong => k_is); (case yTooLong => k_is); (case wTooLong => k_is); (case nTooLong => k_is); (case gTooLong => k_is); (case xTooLong => k_is); (case jTooLong => k_is); (case zTooLong => kernel_rfl); (case aBadStep => k_is); (case iBadStep => k_is); (case lBadStep => k_is); (case cBadStep => k_is); (case kBadStep => k_is); (case tBadStep => k_is); (case uBadStep => kx_is); (case oBadStep => kx_is); (case hBadStep => k_is); (case saBadStep => k_is); (case bBadStep => k_is); (case yBadStep => k_is); (case wBadStep => k_is); (case nBadStep => k_is); (case gBadStep => k_is); (case xBadStep => k_is); (case jBadStep => k_is); (case zBadStep => kernel_rfl); (case aParseError => k_is); (case iParseError => k_is); (case lParseError => k_is); (case cParseError => k_is); (case kParseError => k_is); (case tParseError => k_is); (case uParseError => kx_is); (case oParseError => kx_is); (case hParseError => k_is); (case saParseError => k_is); (case bParseError => k_is); (case yParseError => k_is); (case wParseError => k_is); (case nParseError => k_is); (case gParseError => k_is); (case xParseError => k_is); (case jParseError => k_is); (case zParseError => kernel_rfl); (case aEmptyHistory => k_is); (case aCL => k_is); (case aMN => k_is); (case aMS => k_is); (case aMD => k_is); (case mTooLong => kernel_rfl); (case mBadStep => kernel_rfl)
    all_goals (refine' Ff.DefF.by ?a ?l ?c ?k; (case a => k_is); (case l => k_is); (case c => k_is); (case k => k_is))

