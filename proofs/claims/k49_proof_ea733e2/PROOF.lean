import PyProof.Rows.All
import Wide.All
import OpenK.AllK
import Wide.FinOn
import KE.KExcInit
import HandS.Base
import HandS.Call
import HandS.List
import HandS.Ends
import HandS.Exc
import HandS.ExcInit
import HandS.ExcCtx
import HandS.TryMany
import KE.KTryMore
import HandS.HotCalls
import HandS.ExcField
import HandS.Lambda
import HandS.Codes
import HandS.Words
import HandS.WordsExc
import PyProof.TupleIter
import HandS.FStr
import HandS.Style
import HandS.Comp
import KE.KDflt
import HandS.Iter
import KE.GoesEnum
import HandS.EndOwn
import PyProof.CollectIter
import HandS.ReplaceLit
import HandS.ReplaceDef
import HandS.ReplaceList
import HandS.MapJoin
import PyProof.Rows.ReprOcc
import KE.KWords
import KE.IntTextLaws
import KE.GoesRaise
import PyProof.StrOps2
import HandS.Dict
import HandS.Text
import HandS.WordsList
import HandS.WordsDict
import HandS.Wide
import HandS.Conv
import HandS.More
import HandS.Strs
import HandS.SetFor
import HandS.IsInst
import HandS.Zip
import HandS.Deep
import HandS.Walk
import HandS.Steps
import KE.KNestM
import KE.KExcLine
import PySem.Challenge.RW_findforests_k49_texts_of_forests
set_option Elab.async false
set_option linter.all false
set_option maxRecDepth 100000
set_option maxHeartbeats 4000000
/-! The mathematics of finds: forests as parent functions below n, with a rank that falls towards the roots. -/
namespace Ff
structure Fo (n : Nat) (p : Nat → Nat) (r : Nat → Nat) : Prop where
  lt : ∀ x, x < n → p x < n
  up : ∀ x, x < n → p x = x ∨ r (p x) < r x
  rb : ∀ x, x < n → r x < n
def root (p : Nat → Nat) : Nat → Nat → Nat
  | 0, x => x
  | k + 1, x => if p x = x then x else root p k (p x)
def ups (p : Nat → Nat) : Nat → Nat → List Nat
  | 0, _ => []
  | k + 1, x => if p x = x then [] else x :: ups p k (p x)
def path (p : Nat → Nat) (k x : Nat) : List Nat := ups p k x ++ [root p k x]
theorem root_of {p : Nat → Nat} {x : Nat} (h : p x = x) : ∀ k, root p k x = x
  | 0 => rfl
  | k + 1 => by show (if p x = x then x else _) = x; rw [if_pos h]
theorem ups_of {p : Nat → Nat} {x : Nat} (h : p x = x) : ∀ k, ups p k x = []
  | 0 => rfl
  | k + 1 => by show (if p x = x then [] else _) = []; rw [if_pos h]
theorem root_step {p : Nat → Nat} {x k : Nat} (h : p x ≠ x) : root p (k + 1) x = root p k (p x) := by
  show (if p x = x then x else _) = _; rw [if_neg h]
theorem ups_step {p : Nat → Nat} {x k : Nat} (h : p x ≠ x) : ups p (k + 1) x = x :: ups p k (p x) := by
  show (if p x = x then [] else _) = _; rw [if_neg h]
section
variable {n : Nat} {p : Nat → Nat} {r : Nat → Nat}
/-- enough steps: more of them change nothing -/
theorem root_more (F : Fo n p r) : ∀ (k x : Nat), x < n → r x ≤ k → root p (k + 1) x = root p k x
  | k, x, hx, hr => by
    by_cases h : p x = x
    · rw [root_of h, root_of h]
    · have u := (F.up x hx).resolve_left h
      cases k with
      | zero => omega
      | succ k => rw [root_step h, root_step h]; exact root_more F k (p x) (F.lt x hx) (by omega)
theorem ups_more (F : Fo n p r) : ∀ (k x : Nat), x < n → r x ≤ k → ups p (k + 1) x = ups p k x
  | k, x, hx, hr => by
    by_cases h : p x = x
    · rw [ups_of h, ups_of h]
    · have u := (F.up x hx).resolve_left h
      cases k with
      | zero => omega
      | succ k => rw [ups_step h, ups_step h]; rw [ups_more F k (p x) (F.lt x hx) (by omega)]
theorem root_n (F : Fo n p r) {x : Nat} (hx : x < n) (h : p x ≠ x) : root p n x = root p n (p x) := by
  have := F.rb x hx
  have e := (F.up x hx).resolve_left h
  rw [← root_more F n x hx (by omega), root_step h]
theorem ups_n (F : Fo n p r) {x : Nat} (hx : x < n) (h : p x ≠ x) : ups p n x = x :: ups p n (p x) := by
  have := F.rb x hx
  have e := (F.up x hx).resolve_left h
  rw [← ups_more F n x hx (by omega), ups_step h]
/-- induction from the roots -/
theorem Fo.ind (F : Fo n p r) {C : Nat → Prop} (h0 : ∀ x, x < n → p x = x → C x) (h1 : ∀ x, x < n → p x ≠ x → C (p x) → C x) : ∀ x, x < n → C x := by
  have : ∀ k x, r x ≤ k → x < n → C x := by
    intro k
    induction k with
    | zero =>
      intro x hr hx
      by_cases h : p x = x
      · exact h0 x hx h
      · have := (F.up x hx).resolve_left h; omega
    | succ k ih =>
      intro x hr hx
      by_cases h : p x = x
      · exact h0 x hx h
      · have := (F.up x hx).resolve_left h
        exact h1 x hx h (ih (p x) (by omega) (F.lt x hx))
  exact fun x hx => this (r x) x (Nat.le_refl _) hx
theorem root_lt (F : Fo n p r) : ∀ x, x < n → root p n x < n :=
  F.ind (fun x hx h => by rw [root_of h]; exact hx) (fun x hx h ih => by rw [root_n F hx h]; exact ih)
theorem root_fix (F : Fo n p r) : ∀ x, x < n → p (root p n x) = root p n x :=
  F.ind (fun x hx h => by rw [root_of h]; exact h) (fun x hx h ih => by rw [root_n F hx h]; exact ih)
theorem root_rank (F : Fo n p r) : ∀ x, x < n → root p n x = x ∨ r (root p n x) < r x :=
  F.ind (fun x hx h => .inl (root_of h n)) (fun x hx h ih => by
    have u := (F.up x hx).resolve_left h
    rw [root_n F hx h]
    rcases ih with e | e
    · rw [e]; exact .inr u
    · exact .inr (by omega))
theorem root_ne (F : Fo n p r) {x : Nat} (hx : x < n) (h : p x ≠ x) : root p n x ≠ x := fun e => h (by have z := root_fix F x hx; rw [e] at z; exact z)
theorem ups_lt (F : Fo n p r) : ∀ x, x < n → ∀ v ∈ ups p n x, v < n ∧ p v ≠ v ∧ root p n v = root p n x ∧ r v ≤ r x :=
  F.ind (fun x hx h v hv => by rw [ups_of h] at hv; cases hv) (fun x hx h ih v hv => by
    have u := (F.up x hx).resolve_left h
    rw [ups_n F hx h] at hv
    rcases List.mem_cons.mp hv with e | e
    · subst e; exact ⟨hx, h, rfl, Nat.le_refl _⟩
    · have z := ih v e
      refine ⟨z.1, z.2.1, z.2.2.1.trans (root_n F hx h).symm, by omega⟩)
theorem ups_len (F : Fo n p r) : ∀ x, x < n → (ups p n x).length ≤ r x :=
  F.ind (fun x hx h => by rw [ups_of h]; exact Nat.zero_le _) (fun x hx h ih => by
    have u := (F.up x hx).resolve_left h
    rw [ups_n F hx h, List.length_cons]; omega)
theorem ups_nodup (F : Fo n p r) : ∀ x, x < n → (ups p n x).Nodup :=
  F.ind (fun x hx h => by rw [ups_of h]; exact List.nodup_nil) (fun x hx h ih => by
    have u := (F.up x hx).resolve_left h
    rw [ups_n F hx h]
    refine List.nodup_cons.mpr ⟨fun hm => ?_, ih⟩
    have z := (ups_lt F (p x) (F.lt x hx) x hm).2.2.2
    omega)
theorem self_ups (F : Fo n p r) {x : Nat} (hx : x < n) (h : p x ≠ x) : x ∈ ups p n x := by rw [ups_n F hx h]; exact List.mem_cons_self
/-- a set of nodes with all nodes above them but the roots -/
def Closed (n : Nat) (p : Nat → Nat) (S : Nat → Bool) : Prop := ∀ v, v < n → S v = true → p v ≠ v ∧ (p (p v) = p v ∨ S (p v) = true)
def after (n : Nat) (p : Nat → Nat) (S : Nat → Bool) : Nat → Nat := fun v => if S v = true then root p n v else p v
theorem closed_ups (F : Fo n p r) {S : Nat → Bool} (C : Closed n p S) : ∀ x, x < n → S x = true → ∀ v ∈ ups p n x, S v = true :=
  F.ind (fun x hx h hS v hv => by rw [ups_of h] at hv; cases hv) (fun x hx h ih hS v hv => by
    rw [ups_n F hx h] at hv
    rcases List.mem_cons.mp hv with e | e
    · subst e; exact hS
    · rcases (C x hx hS).2 with z | z
      · rw [ups_of z] at e; cases e
      · exact ih z v e)
theorem after_fo (F : Fo n p r) {S : Nat → Bool} (C : Closed n p S) : Fo n (after n p S) r where
  lt := fun x hx => by unfold after; split; exact root_lt F x hx; exact F.lt x hx
  up := fun x hx => by
    unfold after; split
    · exact root_rank F x hx
    · exact F.up x hx
  rb := F.rb
theorem after_root (F : Fo n p r) {S : Nat → Bool} (C : Closed n p S) {x : Nat} (hx : x < n) (h : p x = x) : after n p S x = x := by
  unfold after; split
  · exact root_of h n
  · exact h
theorem after_nonroot (F : Fo n p r) {S : Nat → Bool} (C : Closed n p S) {x : Nat} (hx : x < n) (h : p x ≠ x) : after n p S x ≠ x := by
  unfold after; split
  · exact root_ne F hx h
  · exact h
theorem after_same_root (F : Fo n p r) {S : Nat → Bool} (C : Closed n p S) : ∀ x, x < n → root (after n p S) n x = root p n x :=
  F.ind (fun x hx h => by rw [root_of h, root_of (after_root F C hx h)]) (fun x hx h ih => by
    have hq := after_nonroot F C hx h
    rw [root_n (after_fo F C) hx hq]
    by_cases hS : S x = true
    · have e : after n p S x = root p n x := by unfold after; rw [if_pos hS]
      rw [e]
      exact root_of (after_root F C (root_lt F x hx) (root_fix F x hx)) n
    · have e : after n p S x = p x := by unfold after; rw [if_neg hS]
      rw [e, ih, root_n F hx h])
theorem after_ups (F : Fo n p r) {S : Nat → Bool} (C : Closed n p S) : ∀ x, x < n →
    (∀ v ∈ ups (after n p S) n x, v ∈ ups p n x) ∧ (∀ v ∈ ups p n x, S v = true ∨ v ∈ ups (after n p S) n x) :=
  F.ind (fun x hx h => by rw [ups_of h, ups_of (after_root F C hx h)]; exact ⟨fun _ z => z, fun _ z => .inr z⟩) (fun x hx h ih => by
    have hq := after_nonroot F C hx h
    have G := after_fo F C
    rw [ups_n G hx hq]
    by_cases hS : S x = true
    · have e : after n p S x = root p n x := by unfold after; rw [if_pos hS]
      rw [e, ups_of (after_root F C (root_lt F x hx) (root_fix F x hx))]
      refine ⟨fun v hv => ?_, fun v hv => .inl (closed_ups F C x hx hS v hv)⟩
      rw [List.mem_singleton.mp hv]; exact self_ups F hx h
    · have e : after n p S x = p x := by unfold after; rw [if_neg hS]
      rw [e, ups_n F hx h]
      refine ⟨fun v hv => ?_, fun v hv => ?_⟩
      · rcases List.mem_cons.mp hv with z | z
        · rw [z]; exact List.mem_cons_self
        · exact List.mem_cons_of_mem _ (ih.1 v z)
      · rcases List.mem_cons.mp hv with z | z
        · exact .inr (by rw [z]; exact List.mem_cons_self)
        · rcases ih.2 v z with y | y
          · exact .inl y
          · exact .inr (List.mem_cons_of_mem _ y))
def low (p : Nat → Nat) (x : Nat) : Nat := if p x = x then 0 else 1
def deep (p : Nat → Nat) (v : Nat) : Bool := decide (p (p v) ≠ p v)
theorem after_cost (F : Fo n p r) {S : Nat → Bool} (C : Closed n p S) : ∀ x, x < n →
    (ups (after n p S) n x).length = low p x + (ups p n x).countP (fun v => deep p v && !S v) :=
  F.ind (fun x hx h => by rw [ups_of h, ups_of (after_root F C hx h)]; unfold low; rw [if_pos h]; rfl) (fun x hx h ih => by
    have hq := after_nonroot F C hx h
    have G := after_fo F C
    rw [ups_n G hx hq, List.length_cons]
    have hl : low p x = 1 := by unfold low; rw [if_neg h]
    rw [hl]
    by_cases hS : S x = true
    · have e : after n p S x = root p n x := by unfold after; rw [if_pos hS]
      rw [e, ups_of (after_root F C (root_lt F x hx) (root_fix F x hx))]
      have z : (ups p n x).countP (fun v => deep p v && !S v) = 0 := by
        refine List.countP_eq_zero.mpr fun v hv => ?_
        rw [closed_ups F C x hx hS v hv]; simp
      rw [z]; rfl
    · have e : after n p S x = p x := by unfold after; rw [if_neg hS]
      have eS : S x = false := by simpa using hS
      rw [e, ih, ups_n F hx h, List.countP_cons, eS]
      unfold low deep
      by_cases hd : p (p x) = p x
      · rw [if_pos hd]; simp [hd]; omega
      · rw [if_neg hd]; simp [hd]; omega)
def join (S T : Nat → Bool) : Nat → Bool := fun v => S v || T v
def upB (p : Nat → Nat) (n x : Nat) : Nat → Bool := fun v => (ups p n x).contains v
theorem upB_iff {v x : Nat} : upB p n x v = true ↔ v ∈ ups p n x := by unfold upB; exact List.contains_iff_mem
theorem ups_above (F : Fo n p r) : ∀ x, x < n → ∀ v ∈ ups p n x, p (p v) = p v ∨ p v ∈ ups p n x :=
  F.ind (fun x hx h v hv => by rw [ups_of h] at hv; cases hv) (fun x hx h ih v hv => by
    rw [ups_n F hx h] at hv ⊢
    rcases List.mem_cons.mp hv with e | e
    · subst e
      by_cases hp : p (p v) = p v
      · exact .inl hp
      · exact .inr (List.mem_cons_of_mem _ (self_ups F (F.lt v hx) hp))
    · rcases ih v e with z | z
      · exact .inl z
      · exact .inr (List.mem_cons_of_mem _ z))
theorem closed_join (F : Fo n p r) {S : Nat → Bool} (C : Closed n p S) {x : Nat} (hx : x < n) : Closed n p (join S (upB p n x)) := fun v hv h => by
  unfold join at h ⊢
  rcases Bool.or_eq_true _ _ |>.mp h with z | z
  · refine ⟨(C v hv z).1, ?_⟩
    rcases (C v hv z).2 with y | y
    · exact .inl y
    · exact .inr (by rw [y]; rfl)
  · have m := upB_iff.mp z
    refine ⟨(ups_lt F x hx v m).2.1, ?_⟩
    rcases ups_above F x hx v m with y | y
    · exact .inl y
    · exact .inr (by rw [upB_iff.mpr y, Bool.or_true])
theorem closed_no : Closed n p (fun _ => false) := fun v _ h => by cases h
def fnd (n : Nat) (p : Nat → Nat) (x : Nat) : Nat → Nat := fun v => if v ∈ path p n x then root p n x else p v
theorem fnd_after (F : Fo n p r) {S : Nat → Bool} (C : Closed n p S) {x : Nat} (hx : x < n) {v : Nat} (hv : v < n) : fnd n (after n p S) x v = after n p (join S (upB p n x)) v := by
  unfold fnd path
  rw [after_same_root F C x hx]
  have A := after_ups F C x hx
  have R := root_fix F x hx
  have Rl := root_lt F x hx
  by_cases h1 : v ∈ ups (after n p S) n x
  · rw [if_pos (List.mem_append_left _ h1)]
    have m := A.1 v h1
    unfold after join
    rw [if_pos (by rw [upB_iff.mpr m, Bool.or_true])]
    exact ((ups_lt F x hx v m).2.2.1).symm
  · by_cases h2 : v = root p n x
    · rw [if_pos (List.mem_append_right _ (List.mem_singleton.mpr h2))]
      subst h2
      exact (after_root F (closed_join F C hx) Rl R).symm
    · rw [if_neg (fun z => by
        rcases List.mem_append.mp z with y | y
        · exact h1 y
        · exact h2 (List.mem_singleton.mp y))]
      by_cases h3 : v ∈ ups p n x
      · have s := (A.2 v h3).resolve_right h1
        unfold after join
        rw [if_pos s, if_pos (by rw [s]; rfl)]
      · unfold after join
        have e : upB p n x v = false := by
          cases hb : upB p n x v with
          | false => rfl
          | true => exact absurd (upB_iff.mp hb) h3
        rw [e, Bool.or_false]
/-- a parent function below n alone matters -/
theorem root_congr {q : Nat → Nat} (hl : ∀ x, x < n → p x < n) (h : ∀ v, v < n → q v = p v) : ∀ k x, x < n → root q k x = root p k x
  | 0, _, _ => rfl
  | k + 1, x, hx => by
    show (if q x = x then x else root q k (q x)) = (if p x = x then x else root p k (p x))
    rw [h x hx, root_congr hl h k (p x) (hl x hx)]
theorem ups_congr {q : Nat → Nat} (hl : ∀ x, x < n → p x < n) (h : ∀ v, v < n → q v = p v) : ∀ k x, x < n → ups q k x = ups p k x
  | 0, _, _ => rfl
  | k + 1, x, hx => by
    show (if q x = x then [] else x :: ups q k (q x)) = (if p x = x then [] else x :: ups p k (p x))
    rw [h x hx, ups_congr hl h k (p x) (hl x hx)]
theorem fnd_congr {q : Nat → Nat} (hl : ∀ x, x < n → p x < n) (h : ∀ v, v < n → q v = p v) {x v : Nat} (hx : x < n) (hv : v < n) : fnd n q x v = fnd n p x v := by
  unfold fnd path
  rw [root_congr hl h n x hx, ups_congr hl h n x hx, h v hv]
theorem Fo.congr {q : Nat → Nat} (F : Fo n p r) (h : ∀ v, v < n → q v = p v) : Fo n q r where
  lt := fun x hx => by rw [h x hx]; exact F.lt x hx
  up := fun x hx => by rw [h x hx]; exact F.up x hx
  rb := F.rb
theorem fnd_fo (F : Fo n p r) {x : Nat} (hx : x < n) : Fo n (fnd n p x) r := by
  have e : ∀ v, v < n → after n p (fun _ => false) v = p v := fun v _ => rfl
  have A := after_fo F (closed_join F closed_no hx)
  exact A.congr fun v hv => (fnd_congr F.lt e hx hv).symm.trans (fnd_after F closed_no hx hv)
end
def fndAll (n : Nat) : List Nat → (Nat → Nat) → Nat → Nat
  | [], p => p
  | x :: l, p => fndAll n l (fnd n p x)
def costs (n : Nat) : List Nat → (Nat → Nat) → List Nat
  | [], _ => []
  | x :: l, p => (ups p n x).length :: costs n l (fnd n p x)
theorem fndAll_snoc (n : Nat) : ∀ (l : List Nat) (x : Nat) (p : Nat → Nat), fndAll n (l ++ [x]) p = fnd n (fndAll n l p) x
  | [], _, _ => rfl
  | y :: l, x, p => fndAll_snoc n l x (fnd n p y)
theorem costs_snoc (n : Nat) : ∀ (l : List Nat) (x : Nat) (p : Nat → Nat), costs n (l ++ [x]) p = costs n l p ++ [(ups (fndAll n l p) n x).length]
  | [], _, _ => rfl
  | y :: l, x, p => by show _ :: costs n (l ++ [x]) (fnd n p y) = _ :: (costs n l (fnd n p y) ++ [_]); rw [costs_snoc n l x (fnd n p y)]; rfl
theorem costs_len (n : Nat) : ∀ (l : List Nat) (p : Nat → Nat), (costs n l p).length = l.length
  | [], _ => rfl
  | y :: l, p => by show (costs n l (fnd n p y)).length + 1 = l.length + 1; rw [costs_len n l]
def markB (n : Nat) (p : Nat → Nat) (l : List Nat) : Nat → Bool := fun v => l.any fun x => upB p n x v
section
variable {n : Nat} {p : Nat → Nat} {r : Nat → Nat}
theorem fndAll_fo (F : Fo n p r) : ∀ (l : List Nat), (∀ x ∈ l, x < n) → ∀ q, Fo n q r → Fo n (fndAll n l q) r
  | [], _, q, G => G
  | x :: l, h, q, G => fndAll_fo F l (fun y hy => h y (List.mem_cons_of_mem _ hy)) _ (fnd_fo G (h x List.mem_cons_self))
theorem fndAll_after (F : Fo n p r) : ∀ (l : List Nat), (∀ x ∈ l, x < n) → ∀ S, Closed n p S → ∀ q, (∀ v, v < n → q v = after n p S v) → ∀ v, v < n → fndAll n l q v = after n p (join S (markB n p l)) v
  | [], _, S, C, q, hq, v, hv => by
    show q v = _
    rw [hq v hv]
    unfold after join markB
    simp
  | x :: l, h, S, C, q, hq, v, hv => by
    have hx := h x List.mem_cons_self
    have G := after_fo F C
    show fndAll n l (fnd n q x) v = _
    rw [fndAll_after F l (fun y hy => h y (List.mem_cons_of_mem _ hy)) (join S (upB p n x)) (closed_join F C hx) (fnd n q x) (fun u hu => (fnd_congr G.lt hq hx hu).trans (fnd_after F C hx hu)) v hv]
    have e : join (join S (upB p n x)) (markB n p l) = join S (markB n p (x :: l)) := by
      funext u
      show ((S u || upB p n x u) || l.any _) = (S u || (upB p n x u || l.any _))
      rw [Bool.or_assoc]
    rw [e]
theorem behind_eq (F : Fo n p r) (l : List Nat) (h : ∀ x ∈ l, x < n) (v : Nat) (hv : v < n) : fndAll n l p v = if markB n p l v = true then root p n v else p v := by
  rw [fndAll_after F l h (fun _ => false) closed_no p (fun u _ => rfl) v hv]
  unfold after join
  simp
theorem countP_split (f g : Nat → Bool) : ∀ l : List Nat, l.countP (fun v => f v && !g v) + l.countP (fun v => f v && g v) = l.countP f
  | [] => rfl
  | x :: l => by
    have ih := countP_split f g l
    rw [List.countP_cons, List.countP_cons, List.countP_cons, ← ih]
    cases f x <;> cases g x <;> simp <;> omega
theorem count_range (F : Fo n p r) {x : Nat} (hx : x < n) (f : Nat → Bool) : (ups p n x).countP f = (List.range n).countP (fun v => upB p n x v && f v) := by
  have P : (ups p n x).Perm ((List.range n).filter (upB p n x)) := by
    refine (List.perm_ext_iff_of_nodup (ups_nodup F x hx) (List.Nodup.sublist List.filter_sublist List.nodup_range)).mpr fun v => ?_
    rw [List.mem_filter, List.mem_range, upB_iff]
    exact ⟨fun h => ⟨(ups_lt F x hx v h).1, h⟩, fun h => h.2⟩
  rw [P.countP_eq, List.countP_filter]
  exact List.countP_congr fun v _ => by rw [Bool.and_comm]
theorem cost_sum (F : Fo n p r) : ∀ (l : List Nat), (∀ x ∈ l, x < n) → ∀ S, Closed n p S → ∀ q, (∀ v, v < n → q v = after n p S v) →
    (costs n l q).sum = (l.map (low p)).sum + (List.range n).countP (fun v => (deep p v && !S v) && markB n p l v)
  | [], _, S, C, q, hq => by
    have e : (List.range n).countP (fun v => (deep p v && !S v) && markB n p [] v) = 0 := List.countP_eq_zero.mpr fun v _ => by unfold markB; simp
    rw [e]; rfl
  | x :: l, h, S, C, q, hq => by
    have hx := h x List.mem_cons_self
    have G := after_fo F C
    show (ups q n x).length + (costs n l (fnd n q x)).sum = (low p x + (l.map (low p)).sum) + _
    rw [cost_sum F l (fun y hy => h y (List.mem_cons_of_mem _ hy)) (join S (upB p n x)) (closed_join F C hx) (fnd n q x) (fun u hu => (fnd_congr G.lt hq hx hu).trans (fnd_after F C hx hu))]
    rw [ups_congr G.lt hq n x hx, after_cost F C x hx, count_range F hx]
    have e := countP_split (fun v => (deep p v && !S v) && markB n p (x :: l) v) (upB p n x) (List.range n)
    rw [← e]
    have e1 : (List.range n).countP (fun v => ((deep p v && !S v) && markB n p (x :: l) v) && upB p n x v) = (List.range n).countP (fun v => upB p n x v && (deep p v && !S v)) := List.countP_congr fun v _ => by
      show (((deep p v && !S v) && (upB p n x v || markB n p l v)) && upB p n x v) = true ↔ (upB p n x v && (deep p v && !S v)) = true
      cases upB p n x v <;> cases deep p v <;> cases S v <;> simp
    have e2 : (List.range n).countP (fun v => ((deep p v && !S v) && markB n p (x :: l) v) && !upB p n x v) = (List.range n).countP (fun v => (deep p v && !join S (upB p n x) v) && markB n p l v) := List.countP_congr fun v _ => by
      show (((deep p v && !S v) && (upB p n x v || markB n p l v)) && !upB p n x v) = true ↔ ((deep p v && !(S v || upB p n x v)) && markB n p l v) = true
      cases upB p n x v <;> cases deep p v <;> cases S v <;> simp
    rw [e1, e2]
    omega
theorem cost_total (F : Fo n p r) (l : List Nat) (h : ∀ x ∈ l, x < n) : (costs n l p).sum = (l.map (low p)).sum + (List.range n).countP (fun v => deep p v && markB n p l v) := by
  rw [cost_sum F l h (fun _ => false) closed_no p (fun u _ => rfl)]
  congr 1
  exact List.countP_congr fun v _ => by simp
theorem mark_same {l m : List Nat} (h : ∀ x, x ∈ l ↔ x ∈ m) (v : Nat) : markB n p l v = markB n p m v := by
  unfold markB
  refine Bool.eq_iff_iff.mpr ?_
  rw [List.any_eq_true, List.any_eq_true]
  exact ⟨fun ⟨x, a, b⟩ => ⟨x, (h x).mp a, b⟩, fun ⟨x, a, b⟩ => ⟨x, (h x).mpr a, b⟩⟩
theorem behind_same (F : Fo n p r) {l m : List Nat} (hl : ∀ x ∈ l, x < n) (h : ∀ x, x ∈ l ↔ x ∈ m) (v : Nat) (hv : v < n) : fndAll n m p v = fndAll n l p v := by
  rw [behind_eq F m (fun x hx => hl x ((h x).mpr hx)) v hv, behind_eq F l hl v hv, mark_same h]
theorem cost_same (F : Fo n p r) {l m : List Nat} (hl : ∀ x ∈ l, x < n) (h : l.Perm m) : (costs n m p).sum = (costs n l p).sum := by
  rw [cost_total F m (fun x hx => hl x (h.mem_iff.mpr hx)), cost_total F l hl, (h.map (low p)).sum_nat]
  congr 1
  exact List.countP_congr fun v _ => by rw [mark_same (fun x => h.mem_iff) v]
end
end Ff
namespace Ff
theorem path_cons {p : Nat → Nat} {k x : Nat} (h : p x ≠ x) : path p (k + 1) x = x :: path p k (p x) := by
  unfold path
  rw [ups_step h, root_step h]
  rfl
theorem path_of {p : Nat → Nat} {k x : Nat} (h : p x = x) : path p k x = [x] := by
  unfold path
  rw [ups_of h, root_of h]
  rfl
theorem path_succ (p : Nat → Nat) : ∀ k x, path p (k + 1) x = if p (root p k x) = root p k x then path p k x else path p k x ++ [p (root p k x)]
  | 0, x => by
    by_cases h : p x = x
    · rw [path_of h, if_pos (show p (root p 0 x) = root p 0 x from h)]; rfl
    · rw [path_cons h, if_neg (show ¬ p (root p 0 x) = root p 0 x from h)]; rfl
  | k + 1, x => by
    by_cases h : p x = x
    · rw [path_of h, root_of h, if_pos h, path_of h]
    · rw [path_cons h, root_step h, path_succ p k (p x), path_cons h]
      split <;> rfl
theorem path_fixed {p : Nat → Nat} {i x : Nat} (h : p (root p i x) = root p i x) : ∀ j, path p (i + j) x = path p i x ∧ root p (i + j) x = root p i x
  | 0 => ⟨rfl, rfl⟩
  | j + 1 => by
    have ih := path_fixed h j
    have e : path p (i + (j + 1)) x = path p i x := by
      show path p ((i + j) + 1) x = _
      rw [path_succ, ih.2, if_pos h]
      exact ih.1
    refine ⟨e, ?_⟩
    unfold path at e
    have z := congrArg List.getLast? e
    rw [List.getLast?_append, List.getLast?_append] at z
    simpa using z
theorem root_lt0 {n : Nat} {p : Nat → Nat} (hl : ∀ x, x < n → p x < n) : ∀ k x, x < n → root p k x < n
  | 0, _, h => h
  | k + 1, x, h => by
    show (if p x = x then x else root p k (p x)) < n
    split
    · exact h
    · exact root_lt0 hl k (p x) (hl x h)
theorem ups_len0 (p : Nat → Nat) : ∀ k x, (ups p k x).length ≤ k
  | 0, _ => Nat.le_refl _
  | k + 1, x => by
    show (if p x = x then [] else x :: ups p k (p x)).length ≤ k + 1
    split
    · exact Nat.zero_le _
    · have := ups_len0 p k (p x)
      rw [List.length_cons]; omega
theorem path_len0 (p : Nat → Nat) (k x : Nat) : (path p k x).length ≤ k + 1 := by
  unfold path
  have := ups_len0 p k x
  rw [List.length_append, List.length_singleton]; omega
end Ff
namespace Ff
theorem root_succ (p : Nat → Nat) : ∀ k x, root p (k + 1) x = p (root p k x)
  | 0, x => by
    by_cases h : p x = x
    · rw [root_of h]; show x = p x; rw [h]
    · rw [root_step h]; rfl
  | k + 1, x => by
    by_cases h : p x = x
    · rw [root_of h, root_of h, h]
    · rw [root_step h, root_step h, root_succ p k (p x)]
theorem ups_succ (p : Nat → Nat) : ∀ k x, ups p (k + 1) x = if p (root p k x) = root p k x then ups p k x else ups p k x ++ [root p k x]
  | 0, x => by
    by_cases h : p x = x
    · rw [ups_of h, if_pos (show p (root p 0 x) = root p 0 x from h)]; rfl
    · rw [ups_step h, if_neg (show ¬ p (root p 0 x) = root p 0 x from h)]; rfl
  | k + 1, x => by
    by_cases h : p x = x
    · rw [ups_of h, root_of h, if_pos h, ups_of h]
    · rw [ups_step h, root_step h, ups_succ p k (p x), ups_step h]
      split <;> rfl
end Ff

/-! Ways between forests: changed nodes, needed nodes. -/
namespace Ff
def chg (p q : Nat → Nat) (v : Nat) : Bool := decide (p v ≠ q v)
/-- finds lead from p to q -/
def Way (n : Nat) (p q : Nat → Nat) : Prop := ∀ v, v < n → chg p q v = true → ∀ u ∈ ups p n v, q u = root p n u
def needB (n : Nat) (p q : Nat → Nat) (v : Nat) : Bool := chg p q v && !(List.range n).any fun u => chg p q u && (decide (v ≠ u) && (ups p n u).contains v)
def needS (n : Nat) (p q : Nat → Nat) : List Nat := (List.range n).filter (needB n p q)
theorem chg_iff {p q : Nat → Nat} {v : Nat} : chg p q v = true ↔ p v ≠ q v := by unfold chg; exact decide_eq_true_iff
theorem needB_iff {n : Nat} {p q : Nat → Nat} {v : Nat} : needB n p q v = true ↔ p v ≠ q v ∧ ∀ u, u < n → p u ≠ q u → v ≠ u → v ∉ ups p n u := by
  unfold needB
  rw [Bool.and_eq_true, chg_iff, Bool.not_eq_true']
  refine and_congr_right fun _ => ?_
  rw [List.any_eq_false]
  constructor
  · intro h u hu hc hn hm
    refine h u (List.mem_range.mpr hu) ?_
    rw [Bool.and_eq_true, Bool.and_eq_true, chg_iff]
    exact ⟨hc, decide_eq_true hn, List.contains_iff_mem.mpr hm⟩
  · intro h u hu z
    rw [Bool.and_eq_true, Bool.and_eq_true, chg_iff] at z
    exact h u (List.mem_range.mp hu) z.1 (of_decide_eq_true z.2.1) (List.contains_iff_mem.mp z.2.2)
theorem needS_mem {n : Nat} {p q : Nat → Nat} {v : Nat} : v ∈ needS n p q ↔ v < n ∧ needB n p q v = true := by
  unfold needS; rw [List.mem_filter, List.mem_range]
theorem needS_nodup (n : Nat) (p q : Nat → Nat) : (needS n p q).Nodup := List.Nodup.sublist List.filter_sublist List.nodup_range
theorem needS_len (n : Nat) (p q : Nat → Nat) : (needS n p q).length ≤ n := Nat.le_trans (List.length_filter_le _ _) (by rw [List.length_range]; exact Nat.le_refl _)
section
variable {n : Nat} {p r : Nat → Nat}
theorem ups_trans (F : Fo n p r) {u v : Nat} : ∀ x, x < n → u ∈ ups p n x → v ∈ ups p n u → v ∈ ups p n x :=
  F.ind (C := fun x => u ∈ ups p n x → v ∈ ups p n u → v ∈ ups p n x) (fun x hx h a _ => by rw [ups_of h] at a; cases a) (fun x hx h ih a b => by
    rw [ups_n F hx h] at a
    rcases List.mem_cons.mp a with e | e
    · subst e; exact b
    · rw [ups_n F hx h]; exact List.mem_cons_of_mem _ (ih e b))
theorem ups_rank (F : Fo n p r) {v x : Nat} (hx : x < n) (h : v ∈ ups p n x) (ne : v ≠ x) : r v < r x := by
  by_cases e : p x = x
  · rw [ups_of e] at h; cases h
  · rw [ups_n F hx e] at h
    rcases List.mem_cons.mp h with z | z
    · exact absurd z ne
    · have := (ups_lt F (p x) (F.lt x hx) v z).2.2.2
      have := (F.up x hx).resolve_left e
      omega
theorem mark_iff {l : List Nat} {v : Nat} : markB n p l v = true ↔ ∃ x ∈ l, v ∈ ups p n x := by
  unfold markB
  rw [List.any_eq_true]
  exact ⟨fun ⟨x, a, b⟩ => ⟨x, a, upB_iff.mp b⟩, fun ⟨x, a, b⟩ => ⟨x, a, upB_iff.mpr b⟩⟩
theorem mark_closed (F : Fo n p r) {l : List Nat} (h : ∀ x ∈ l, x < n) : Closed n p (markB n p l) := fun v hv hm => by
  obtain ⟨x, hx, m⟩ := mark_iff.mp hm
  refine ⟨(ups_lt F x (h x hx) v m).2.1, ?_⟩
  rcases ups_above F x (h x hx) v m with y | y
  · exact .inl y
  · exact .inr (mark_iff.mpr ⟨x, hx, y⟩)
/-- behind finds: what is changed was marked -/
theorem behind_chg (F : Fo n p r) {l : List Nat} (h : ∀ x ∈ l, x < n) {v : Nat} (hv : v < n) (hc : p v ≠ fndAll n l p v) : markB n p l v = true ∧ fndAll n l p v = root p n v ∧ p v ≠ root p n v := by
  have e := behind_eq F l h v hv
  by_cases m : markB n p l v = true
  · rw [if_pos m] at e
    exact ⟨m, e, by rw [← e]; exact hc⟩
  · rw [if_neg m] at e
    exact absurd e.symm hc
theorem way_behind (F : Fo n p r) {l : List Nat} (h : ∀ x ∈ l, x < n) : Way n p (fndAll n l p) := fun v hv hc u hu => by
  have m := (behind_chg F h hv (chg_iff.mp hc)).1
  have hun := (ups_lt F v hv u hu).1
  obtain ⟨x, hx, mx⟩ := mark_iff.mp m
  rw [behind_eq F l h u hun, if_pos (mark_iff.mpr ⟨x, hx, ups_trans F x (h x hx) mx hu⟩)]
/-- whoever is above another one is no child of the root's -/
theorem above_deep (F : Fo n p r) {x v : Nat} (hx : x < n) (h : v ∈ ups p n x) (ne : v ≠ x) : p x ≠ root p n x := by
  have hr : p x ≠ x := fun e => by rw [ups_of e] at h; cases h
  rw [ups_n F hx hr] at h
  rcases List.mem_cons.mp h with z | z
  · exact absurd z ne
  · intro e
    have f := root_fix F x hx
    rw [← e] at f
    rw [ups_of f] at z
    cases z
theorem need_found (F : Fo n p r) {l : List Nat} (h : ∀ x ∈ l, x < n) {v : Nat} (hv : v < n) (hn : needB n p (fndAll n l p) v = true) : v ∈ l := by
  obtain ⟨hc, ho⟩ := needB_iff.mp hn
  obtain ⟨m, _, _⟩ := behind_chg F h hv hc
  obtain ⟨x, hx, mx⟩ := mark_iff.mp m
  by_cases e : v = x
  · rw [e]; exact hx
  · have hxn := h x hx
    have hr : p x ≠ x := fun z => by rw [ups_of z] at mx; cases mx
    have bx : fndAll n l p x = root p n x := by rw [behind_eq F l h x hxn, if_pos (mark_iff.mpr ⟨x, hx, self_ups F hxn hr⟩)]
    exact absurd mx (ho x hxn (by rw [bx]; exact above_deep F hxn mx e) e)
/-- above a needed one, or needed -/
theorem need_below (F : Fo n p r) {q : Nat → Nat} (hq : ∀ v, v < n → p v = v → q v = v) : ∀ k v, n - r v ≤ k → v < n → p v ≠ q v → ∃ u, u < n ∧ needB n p q u = true ∧ v ∈ ups p n u := by
  intro k
  induction k with
  | zero => intro v hk hv _; have := F.rb v hv; omega
  | succ k ih =>
    intro v hk hv hc
    have nr : p v ≠ v := fun e => hc (by rw [hq v hv e]; exact e)
    cases hb : needB n p q v with
    | true => exact ⟨v, hv, hb, self_ups F hv nr⟩
    | false =>
      have z : ¬ (p v ≠ q v ∧ ∀ u, u < n → p u ≠ q u → v ≠ u → v ∉ ups p n u) := fun y => by rw [needB_iff.mpr y] at hb; cases hb
      have : ∃ u, u < n ∧ p u ≠ q u ∧ v ≠ u ∧ v ∈ ups p n u := by
        refine Classical.byContradiction fun y => z ⟨hc, fun u a b c d => y ⟨u, a, b, c, d⟩⟩
      obtain ⟨u, hu, cu, ne, mu⟩ := this
      have rk := ups_rank F hu mu ne
      obtain ⟨w, hw, nw, mw⟩ := ih u (by have := F.rb u hu; omega) hu cu
      exact ⟨w, hw, nw, ups_trans F w hw mw mu⟩
/-- a way: finds of the needed ones lead there -/
theorem need_leads (F : Fo n p r) {q : Nat → Nat} (hq : ∀ v, v < n → p v = v → q v = v) (W : Way n p q) (v : Nat) (hv : v < n) : fndAll n (needS n p q) p v = q v := by
  have hl : ∀ x ∈ needS n p q, x < n := fun x hx => (needS_mem.mp hx).1
  rw [behind_eq F _ hl v hv]
  by_cases m : markB n p (needS n p q) v = true
  · rw [if_pos m]
    obtain ⟨x, hx, mx⟩ := mark_iff.mp m
    have hb := needS_mem.mp hx
    exact (W x hb.1 (chg_iff.mpr (needB_iff.mp hb.2).1) v mx).symm
  · rw [if_neg m]
    refine Classical.byContradiction fun hc => ?_
    obtain ⟨u, hu, nu, mu⟩ := need_below F hq n v (by omega) hv hc
    exact m (mark_iff.mpr ⟨u, needS_mem.mpr ⟨hu, nu⟩, mu⟩)
theorem behind_root (F : Fo n p r) {l : List Nat} (h : ∀ x ∈ l, x < n) (v : Nat) (hv : v < n) (e : p v = v) : fndAll n l p v = v := by
  rw [behind_eq F l h v hv]
  split
  · exact root_of e n
  · exact e
theorem filter_single {f : Nat → Bool} {m : Nat} (hm : m < n) (h : ∀ v, v < n → (f v = true ↔ v = m)) : (List.range n).filter f = [m] := by
  have e : (List.range n).filter f = (List.range n).filter (fun v => v == m) := by
    refine List.filter_congr fun v hv => ?_
    have := h v (List.mem_range.mp hv)
    by_cases z : v = m
    · rw [this.mpr z, z]; simp
    · have y : f v = false := by
        cases hf : f v with
        | false => rfl
        | true => exact absurd (this.mp hf) z
      rw [y]; simp [z]
  rw [e]
  have c : (List.range n).filter (fun v => v == m) = List.replicate ((List.range n).count m) m := List.filter_beq _
  rw [c, (List.nodup_range (n := n)).count, if_pos (List.mem_range.mpr hm)]
  rfl
/-- all but one of the needed ones do not suffice -/
theorem rest_needs (F : Fo n p r) {q : Nat → Nat} (hq : ∀ v, v < n → p v = v → q v = v) (W : Way n p q) {rest : List Nat} {m : Nat} (hmn : m < n) (hm : needB n p q m = true)
    (hr : ∀ x ∈ rest, x ∈ needS n p q ∧ x ≠ m) (hall : ∀ x ∈ needS n p q, x = m ∨ x ∈ rest) :
    fndAll n rest p m ≠ q m ∧ Way n (fndAll n rest p) q ∧ needS n (fndAll n rest p) q = [m] := by
  have hl : ∀ x ∈ rest, x < n := fun x hx => (needS_mem.mp (hr x hx).1).1
  obtain ⟨cm, om⟩ := needB_iff.mp hm
  have C := mark_closed F hl
  have hS : ∀ v, v < n → fndAll n rest p v = after n p (markB n p rest) v := fun v hv => by rw [behind_eq F rest hl v hv]; rfl
  have G := after_fo F C
  have hm0 : markB n p rest m ≠ true := fun z => by
    obtain ⟨x, hx, mx⟩ := mark_iff.mp z
    have hb := needS_mem.mp (hr x hx).1
    exact om x hb.1 (needB_iff.mp hb.2).1 (fun e => (hr x hx).2 e.symm) mx
  have rm : fndAll n rest p m = p m := by rw [behind_eq F rest hl m hmn, if_neg hm0]
  have mchg : fndAll n rest p m ≠ q m := by rw [rm]; exact cm
  have uc : ∀ x, x < n → ups (fndAll n rest p) n x = ups (after n p (markB n p rest)) n x := fun x hx => ups_congr G.lt hS n x hx
  have rc : ∀ x, x < n → root (fndAll n rest p) n x = root p n x := fun x hx => (root_congr G.lt hS n x hx).trans (after_same_root F C x hx)
  -- what is still changed
  have still : ∀ v, v < n → fndAll n rest p v ≠ q v → markB n p rest v ≠ true ∧ p v ≠ q v ∧ v ∈ ups p n m := fun v hv hc => by
    have e := behind_eq F rest hl v hv
    by_cases mv : markB n p rest v = true
    · rw [if_pos mv] at e
      obtain ⟨x, hx, mx⟩ := mark_iff.mp mv
      have hb := needS_mem.mp (hr x hx).1
      exact absurd (e.trans (W x hb.1 (chg_iff.mpr (needB_iff.mp hb.2).1) v mx).symm) hc
    · rw [if_neg mv] at e
      have pc : p v ≠ q v := by rw [← e]; exact hc
      obtain ⟨u, hu, nu, mu⟩ := need_below F hq n v (by omega) hv pc
      rcases hall u (needS_mem.mpr ⟨hu, nu⟩) with z | z
      · exact ⟨mv, pc, z ▸ mu⟩
      · exact absurd (mark_iff.mpr ⟨u, z, mu⟩) mv
  refine ⟨mchg, fun v hv hc u hu => ?_, filter_single hmn fun v hv => ?_⟩
  · obtain ⟨_, pc, _⟩ := still v hv (chg_iff.mp hc)
    rw [uc v hv] at hu
    have hu' := (after_ups F C v hv).1 u hu
    rw [rc u (ups_lt F v hv u hu').1]
    exact W v hv (chg_iff.mpr pc) u hu'
  · rw [needB_iff]
    constructor
    · rintro ⟨hc, ho⟩
      refine Classical.byContradiction fun ne => ?_
      obtain ⟨mv, _, vm⟩ := still v hv hc
      refine ho m hmn mchg ne ?_
      rw [uc m hmn]
      exact ((after_ups F C m hmn).2 v vm).resolve_left mv
    · rintro rfl
      refine ⟨mchg, fun u hu hc ne hm2 => ?_⟩
      obtain ⟨_, _, um⟩ := still u hu hc
      rw [uc u hu] at hm2
      have a := ups_rank F hu ((after_ups F C u hu).1 v hm2) ne
      have b := ups_rank F hmn um (fun e => ne e.symm)
      omega
end
end Ff
namespace Ff
section
variable {n : Nat} {p r : Nat → Nat}
theorem fndAll_append (n : Nat) : ∀ (l m : List Nat) (p : Nat → Nat), fndAll n (l ++ m) p = fndAll n m (fndAll n l p)
  | [], _, _ => rfl
  | x :: l, m, p => fndAll_append n l m (fnd n p x)
theorem behind_same_root (F : Fo n p r) {l : List Nat} (h : ∀ x ∈ l, x < n) (v : Nat) (hv : v < n) : root (fndAll n l p) n v = root p n v := by
  have C := mark_closed F h
  have hS : ∀ v, v < n → fndAll n l p v = after n p (markB n p l) v := fun v hv => by rw [behind_eq F l h v hv]; rfl
  exact (root_congr (after_fo F C).lt hS n v hv).trans (after_same_root F C v hv)
theorem behind_ups (F : Fo n p r) {l : List Nat} (h : ∀ x ∈ l, x < n) {x v : Nat} (hx : x < n) (hv : v ∈ ups (fndAll n l p) n x) : v ∈ ups p n x := by
  have C := mark_closed F h
  have hS : ∀ v, v < n → fndAll n l p v = after n p (markB n p l) v := fun v hv => by rw [behind_eq F l h v hv]; rfl
  rw [ups_congr (after_fo F C).lt hS n x hx] at hv
  exact (after_ups F C x hx).1 v hv
/-- a node keeps its parent or hangs on its root -/
theorem behind_or (F : Fo n p r) {l : List Nat} (h : ∀ x ∈ l, x < n) (v : Nat) (hv : v < n) : fndAll n l p v = p v ∨ fndAll n l p v = root p n v := by
  rw [behind_eq F l h v hv]
  split
  · exact .inr rfl
  · exact .inl rfl
/-- what is needed over two ways is needed over one of them -/
theorem need_two (F : Fo n p r) {l m : List Nat} (hl : ∀ x ∈ l, x < n) (hm : ∀ x ∈ m, x < n) {v : Nat} (hv : v < n) (hn : needB n p (fndAll n m (fndAll n l p)) v = true) :
    needB n p (fndAll n l p) v = true ∨ needB n (fndAll n l p) (fndAll n m (fndAll n l p)) v = true := by
  have G : Fo n (fndAll n l p) r := fndAll_fo F l hl p F
  obtain ⟨hc, ho⟩ := needB_iff.mp hn
  -- once on the root, always on the root
  have stay : ∀ u, u < n → fndAll n l p u = root p n u → fndAll n m (fndAll n l p) u = root p n u := fun u hu e => by
    rcases behind_or G hm u hu with z | z
    · rw [z, e]
    · rw [z, behind_same_root F hl u hu]
  by_cases h1 : p v = fndAll n l p v
  · refine .inr (needB_iff.mpr ⟨by rw [← h1]; exact hc, fun u hu hcu ne hmu => ?_⟩)
    refine ho u hu ?_ ne (behind_ups F hl hu hmu)
    rcases behind_or F hl u hu with z | z
    · rw [← z]; exact hcu
    · exact absurd (z.trans (stay u hu z).symm) hcu
  · refine .inl (needB_iff.mpr ⟨h1, fun u hu hcu ne hmu => ?_⟩)
    refine ho u hu ?_ ne hmu
    have z := (behind_or F hl u hu).resolve_left (fun e => hcu e.symm)
    rw [stay u hu z, ← z]; exact hcu
theorem flat_fo (F : Fo n p r) : Fo n (fun v => root p n v) r where
  lt := root_lt F
  up := root_rank F
  rb := F.rb
theorem flat_way (F : Fo n p r) : Way n p (fun v => root p n v) := fun _ _ _ _ _ => rfl
theorem flat_roots (F : Fo n p r) (v : Nat) (hv : v < n) : p v = v ↔ root p n v = v :=
  ⟨fun e => root_of e n, fun e => Classical.byContradiction fun z => root_ne F hv z e⟩
theorem flat_ups (F : Fo n p r) (v : Nat) (hv : v < n) : (ups (fun v => root p n v) n v).length ≤ 1 := by
  by_cases e : root p n v = v
  · rw [ups_of (p := fun v => root p n v) e]; exact Nat.zero_le _
  · rw [ups_n (flat_fo F) hv e]
    have f : root p n (root p n v) = root p n v := root_of (root_fix F v hv) n
    rw [ups_of (p := fun v => root p n v) f]
    exact Nat.le_refl _
theorem deep_chg (F : Fo n p r) (v : Nat) (hv : v < n) : decide (2 ≤ (ups p n v).length) = chg p (fun v => root p n v) v := by
  unfold chg
  refine decide_eq_decide.mpr ?_
  show 2 ≤ (ups p n v).length ↔ p v ≠ root p n v
  by_cases e : p v = v
  · rw [ups_of e, root_of e]; simp [e]
  · rw [ups_n F hv e, root_n F hv e, List.length_cons]
    constructor
    · intro h z
      rw [ups_of (by rw [z]; exact root_fix F (p v) (F.lt v hv))] at h
      simp at h
    · intro h
      have e2 : p (p v) ≠ p v := fun z => h (root_of z n).symm
      rw [ups_n F (F.lt v hv) e2, List.length_cons]; omega
/-- no way back -/
theorem no_way_back (F : Fo n p r) {l : List Nat} (hl : ∀ x ∈ l, x < n) : Way n (fndAll n l p) p ↔ ∀ v, v < n → p v = fndAll n l p v := by
  have G : Fo n (fndAll n l p) r := fndAll_fo F l hl p F
  constructor
  · intro W v hv
    refine Classical.byContradiction fun hc => ?_
    have z := (behind_or F hl v hv).resolve_left (fun e => hc e.symm)
    have nr : fndAll n l p v ≠ v := by
      intro e
      rw [z] at e
      have pr : p v = v := by
        have y := root_fix F v hv
        rw [e] at y; exact y
      exact hc (by rw [z, e, pr])
    have := W v hv (chg_iff.mpr fun e => hc e.symm) v (self_ups G hv nr)
    rw [behind_same_root F hl v hv, ← z] at this
    exact hc this
  · intro h v hv hc
    exact absurd (h v hv).symm (chg_iff.mp hc)
end
end Ff

/-! Forests by any falling measure; a parent exchanged. -/
namespace Ff
section
variable {n : Nat} {p ρ : Nat → Nat}
theorem bounded (ρ : Nat → Nat) : ∀ n, ∃ M, ∀ v, v < n → ρ v ≤ M
  | 0 => ⟨0, fun v h => by omega⟩
  | n + 1 => by
    obtain ⟨M, h⟩ := bounded ρ n
    refine ⟨M + ρ n, fun v hv => ?_⟩
    by_cases e : v = n
    · rw [e]; omega
    · have := h v (by omega); omega
theorem upsW (hl : ∀ x, x < n → p x < n) (hu : ∀ x, x < n → p x = x ∨ ρ (p x) < ρ x) : ∀ (k x : Nat), x < n → ρ x ≤ k → ups p (k + 1) x = ups p k x
  | k, x, hx, hr => by
    by_cases h : p x = x
    · rw [ups_of h, ups_of h]
    · have u := (hu x hx).resolve_left h
      cases k with
      | zero => omega
      | succ k => rw [ups_step h, ups_step h]; rw [upsW hl hu k (p x) (hl x hx) (by omega)]
theorem ups_memW (hl : ∀ x, x < n → p x < n) (hu : ∀ x, x < n → p x = x ∨ ρ (p x) < ρ x) : ∀ (k x : Nat), x < n → ∀ v ∈ ups p k x, v < n ∧ p v ≠ v ∧ ρ v ≤ ρ x
  | 0, x, hx, v, hv => by cases hv
  | k + 1, x, hx, v, hv => by
    by_cases h : p x = x
    · rw [ups_of h] at hv; cases hv
    · have u := (hu x hx).resolve_left h
      rw [ups_step h] at hv
      rcases List.mem_cons.mp hv with e | e
      · subst e; exact ⟨hx, h, Nat.le_refl _⟩
      · have z := ups_memW hl hu k (p x) (hl x hx) v e
        exact ⟨z.1, z.2.1, by omega⟩
theorem ups_nodupW (hl : ∀ x, x < n → p x < n) (hu : ∀ x, x < n → p x = x ∨ ρ (p x) < ρ x) : ∀ (k x : Nat), x < n → (ups p k x).Nodup
  | 0, x, hx => List.nodup_nil
  | k + 1, x, hx => by
    by_cases h : p x = x
    · rw [ups_of h]; exact List.nodup_nil
    · have u := (hu x hx).resolve_left h
      rw [ups_step h]
      refine List.nodup_cons.mpr ⟨fun hm => ?_, ups_nodupW hl hu k (p x) (hl x hx)⟩
      have := (ups_memW hl hu k (p x) (hl x hx) x hm).2.2
      omega
theorem nodup_len {l : List Nat} (nd : l.Nodup) (h : ∀ v ∈ l, v < n) {w : Nat} (hw : w < n) (ho : w ∉ l) : l.length < n := by
  have P : (w :: l).Perm ((List.range n).filter fun v => (w :: l).contains v) := by
    refine (List.perm_ext_iff_of_nodup (List.nodup_cons.mpr ⟨ho, nd⟩) (List.Nodup.sublist List.filter_sublist List.nodup_range)).mpr fun v => ?_
    rw [List.mem_filter, List.mem_range, List.contains_iff_mem]
    refine ⟨fun z => ⟨?_, z⟩, fun z => z.2⟩
    rcases List.mem_cons.mp z with y | y
    · rw [y]; exact hw
    · exact h v y
  have e := P.length_eq
  rw [List.length_cons] at e
  have := List.length_filter_le (fun v => (w :: l).contains v) (List.range n)
  rw [List.length_range] at this
  omega
/-- any falling measure makes a forest -/
theorem fo_of_weak (hl : ∀ x, x < n → p x < n) (hu : ∀ x, x < n → p x = x ∨ ρ (p x) < ρ x) : ∃ r, Fo n p r := by
  obtain ⟨M, hM⟩ := bounded ρ n
  have st : ∀ x, x < n → p x ≠ x → ups p M x = x :: ups p M (p x) := fun x hx h => by
    rw [← upsW hl hu M x hx (hM x hx), ups_step h]
  refine ⟨fun v => (ups p M v).length, hl, fun x hx => ?_, fun x hx => ?_⟩
  · by_cases h : p x = x
    · exact .inl h
    · refine .inr ?_
      show (ups p M (p x)).length < (ups p M x).length
      rw [st x hx h, List.length_cons]; omega
  · -- some root is not on the way
    have : ∀ k x, x < n → ρ x ≤ k → p (root p k x) = root p k x ∧ root p k x < n := by
      intro k
      induction k with
      | zero =>
        intro x hx hr
        rcases hu x hx with z | z
        · exact ⟨z, hx⟩
        · omega
      | succ k ih =>
        intro x hx hr
        by_cases h : p x = x
        · rw [root_of h]; exact ⟨h, hx⟩
        · rw [root_step h]
          exact ih (p x) (hl x hx) (by have := (hu x hx).resolve_left h; omega)
    obtain ⟨h1, h2⟩ := this M x hx (hM x hx)
    exact nodup_len (ups_nodupW hl hu M x hx) (fun v hv => (ups_memW hl hu M x hx v hv).1) h2 (fun hm => (ups_memW hl hu M x hx _ hm).2.1 h1)
end
/-- a node hung on one that is not below it -/
theorem exchange_fo {n : Nat} {p r : Nat → Nat} (F : Fo n p r) {a b : Nat} (ha : a < n) (hb : b < n) (hr : p a ≠ a) (hn : a ∉ path p n b) : ∃ r', Fo n (fun v => if v = a then b else p v) r' := by
  -- below a, and a itself, go beyond b
  let low : Nat → Bool := fun v => decide (a ∈ path p n v)
  have lowa : low a = true := decide_eq_true (by unfold path; exact List.mem_append_left _ (self_ups F ha hr))
  have lowb : low b = false := decide_eq_false hn
  have pathn : ∀ v, v < n → p v ≠ v → path p n v = v :: path p n (p v) := fun v hv h => by
    unfold path; rw [ups_n F hv h, root_n F hv h]; rfl
  have step : ∀ v, v < n → v ≠ a → p v ≠ v → low (p v) = low v := fun v hv ne h => by
    show decide (a ∈ path p n (p v)) = decide (a ∈ path p n v)
    rw [pathn v hv h]
    refine decide_eq_decide.mpr ⟨fun z => List.mem_cons_of_mem _ z, fun z => ?_⟩
    rcases List.mem_cons.mp z with y | y
    · exact absurd y.symm ne
    · exact y
  refine fo_of_weak (ρ := fun v => if low v = true then r v + n else r v) (fun x hx => ?_) (fun x hx => ?_)
  · show (if x = a then b else p x) < n
    split
    · exact hb
    · exact F.lt x hx
  · by_cases e : x = a
    · subst e
      refine .inr ?_
      show (if low (if x = x then b else p x) = true then r (if x = x then b else p x) + n else r (if x = x then b else p x)) < (if low x = true then r x + n else r x)
      rw [if_pos rfl, lowb, lowa, if_pos rfl, if_neg (by decide)]
      have := F.rb b hb
      omega
    · show (if x = a then b else p x) = x ∨ (if low (if x = a then b else p x) = true then r (if x = a then b else p x) + n else r (if x = a then b else p x)) < (if low x = true then r x + n else r x)
      rw [if_neg e]
      by_cases h : p x = x
      · exact .inl h
      · have u := (F.up x hx).resolve_left h
        refine .inr ?_
        rw [step x hx e h]
        cases low x <;> simp <;> omega
theorem exchange_root {n : Nat} {p : Nat → Nat} {a b : Nat} (hr : p a ≠ a) (ne : b ≠ a) (v : Nat) : (if v = a then b else p v) = v ↔ p v = v := by
  by_cases e : v = a
  · subst e
    rw [if_pos rfl]
    exact ⟨fun z => absurd z ne, fun z => absurd z hr⟩
  · rw [if_neg e]
end Ff

/-! Falling products and choices. -/
namespace Ff
def fallN (s : Int) : Nat → Int
  | 0 => 1
  | k + 1 => fallN s k * (if s - (k : Int) > 0 then s - (k : Int) else 0)
def fall (s c : Int) : Int := if c < 0 then 0 else fallN s c.toNat
def binom (s c : Int) : Int := if c < 0 then 0 else fall s c / fall c c
def choose : Nat → Nat → Nat
  | _, 0 => 1
  | 0, _ + 1 => 0
  | n + 1, k + 1 => choose n k + choose n (k + 1)
def fact : Nat → Nat
  | 0 => 1
  | k + 1 => (k + 1) * fact k
theorem fact_pos : ∀ k, 0 < fact k
  | 0 => Nat.one_pos
  | k + 1 => Nat.mul_pos (Nat.succ_pos k) (fact_pos k)
theorem choose_zero (n : Nat) : choose n 0 = 1 := by cases n <;> rfl
/-- (n + 1 choose k + 1) (k + 1) = (n + 1) (n choose k) -/
theorem choose_succ : ∀ n k, choose (n + 1) (k + 1) * (k + 1) = (n + 1) * choose n k
  | 0, 0 => rfl
  | 0, k + 1 => by show (0 + 0) * (k + 1 + 1) = (0 + 1) * 0; simp
  | n + 1, 0 => by
    have h := choose_succ n 0
    rw [choose_zero] at h
    rw [choose_zero]
    show (choose (n + 1) 0 + choose (n + 1) (0 + 1)) * (0 + 1) = (n + 1 + 1) * 1
    rw [choose_zero]
    omega
  | n + 1, k + 1 => by
    have h1 := choose_succ n k
    have h2 := choose_succ n (k + 1)
    show (choose (n + 1) (k + 1) + choose (n + 1) (k + 1 + 1)) * (k + 1 + 1) = (n + 1 + 1) * choose (n + 1) (k + 1)
    have e : choose (n + 1) (k + 1) = choose n k + choose n (k + 1) := rfl
    have e1 : choose (n + 1) (k + 1) * (k + 1 + 1) = (n + 1) * choose n k + choose (n + 1) (k + 1) := by rw [Nat.mul_add, Nat.mul_one, h1]
    have e2 : (n + 1 + 1) * choose (n + 1) (k + 1) = ((n + 1) * choose n k + (n + 1) * choose n (k + 1)) + choose (n + 1) (k + 1) := by rw [Nat.add_mul, Nat.one_mul, e, Nat.mul_add]
    rw [Nat.add_mul, h2, e1, e2]
    generalize (n + 1) * choose n k = x
    generalize (n + 1) * choose n (k + 1) = y
    omega
theorem fall_rec (n : Nat) : ∀ k : Nat, fallN ((n + 1 : Nat) : Int) (k + 1) = ((n + 1 : Nat) : Int) * fallN (n : Int) k
  | 0 => by
    show 1 * (if ((n + 1 : Nat) : Int) - ((0 : Nat) : Int) > 0 then ((n + 1 : Nat) : Int) - ((0 : Nat) : Int) else 0) = ((n + 1 : Nat) : Int) * 1
    rw [if_pos (by omega)]; omega
  | k + 1 => by
    show fallN ((n + 1 : Nat) : Int) (k + 1) * (if ((n + 1 : Nat) : Int) - ((k + 1 : Nat) : Int) > 0 then ((n + 1 : Nat) : Int) - ((k + 1 : Nat) : Int) else 0) = ((n + 1 : Nat) : Int) * (fallN (n : Int) k * (if (n : Int) - (k : Int) > 0 then (n : Int) - (k : Int) else 0))
    rw [fall_rec n k, Int.mul_assoc]
    congr 2
    rw [show ((n + 1 : Nat) : Int) - ((k + 1 : Nat) : Int) = (n : Int) - (k : Int) by omega]
theorem fall_choose : ∀ k n : Nat, fallN (n : Int) k = ((choose n k * fact k : Nat) : Int)
  | 0, n => by show (1 : Int) = ((choose n 0 * fact 0 : Nat) : Int); cases n <;> rfl
  | k + 1, 0 => by
    show fallN 0 k * (if ((0 : Nat) : Int) - (k : Int) > 0 then ((0 : Nat) : Int) - (k : Int) else 0) = ((0 * fact (k + 1) : Nat) : Int)
    rw [if_neg (by omega), Int.mul_zero, Nat.zero_mul]; rfl
  | k + 1, n + 1 => by
    rw [fall_rec, fall_choose k n]
    have h := choose_succ n k
    show ((n + 1 : Nat) : Int) * ((choose n k * fact k : Nat) : Int) = ((choose (n + 1) (k + 1) * ((k + 1) * fact k) : Nat) : Int)
    rw [← Int.natCast_mul, ← Nat.mul_assoc, ← Nat.mul_assoc, h]
theorem choose_self : ∀ n, choose n n = 1 ∧ ∀ k, n < k → choose n k = 0
  | 0 => ⟨rfl, fun k h => by cases k with | zero => omega | succ k => rfl⟩
  | n + 1 => by
    have ih := choose_self n
    refine ⟨?_, fun k h => ?_⟩
    · show choose n n + choose n (n + 1) = 1
      rw [ih.1, ih.2 (n + 1) (by omega)]
    · cases k with
      | zero => omega
      | succ k => show choose n k + choose n (k + 1) = 0; rw [ih.2 k (by omega), ih.2 (k + 1) (by omega)]
theorem binom_nat (n k : Nat) : binom (n : Int) (k : Int) = (choose n k : Int) := by
  unfold binom fall
  rw [if_neg (by omega), if_neg (by omega), if_neg (by omega), Int.toNat_natCast, fall_choose, fall_choose, (choose_self k).1, Nat.one_mul, Int.natCast_mul]
  exact Int.mul_ediv_cancel _ (by have := fact_pos k; omega)
/-- sums of neighbours -/
theorem pascal (s c : Int) (h : 0 < s) : binom s c = binom (s - 1) (c - 1) + binom (s - 1) c := by
  obtain ⟨n, rfl⟩ : ∃ n : Nat, s = ((n + 1 : Nat) : Int) := ⟨(s - 1).toNat, by omega⟩
  rw [show ((n + 1 : Nat) : Int) - 1 = (n : Int) by omega]
  by_cases hc : c < 0
  · unfold binom
    rw [if_pos hc, if_pos (by omega), if_pos hc]; rfl
  · by_cases h0 : c = 0
    · subst h0
      have e1 := binom_nat (n + 1) 0
      have e2 := binom_nat n 0
      have e3 : binom (n : Int) (0 - 1) = 0 := by unfold binom; rw [if_pos (by omega)]
      rw [e3]
      rw [choose_zero] at e1 e2
      show binom ((n + 1 : Nat) : Int) ((0 : Nat) : Int) = 0 + binom (n : Int) ((0 : Nat) : Int)
      rw [e1, e2]; rfl
    · obtain ⟨k, rfl⟩ : ∃ k : Nat, c = ((k + 1 : Nat) : Int) := ⟨(c - 1).toNat, by omega⟩
      rw [show ((k + 1 : Nat) : Int) - 1 = (k : Int) by omega, binom_nat, binom_nat, binom_nat]
      show ((choose n k + choose n (k + 1) : Nat) : Int) = _
      omega
end Ff

namespace Ff
theorem nodup_le : ∀ (m : Nat) (l : List Nat), l.Nodup → (∀ x ∈ l, x < m) → l.length ≤ m
  | 0, l, _, h => by
    cases l with
    | nil => exact Nat.le_refl _
    | cons a r => exact absurd (h a List.mem_cons_self) (by omega)
  | m + 1, l, hn, h => by
    have ih := nodup_le m (l.erase m) (hn.erase m) fun x hx => by
      have z := (hn.mem_erase_iff (a := x) (b := m)).mp hx
      have := h x z.2
      omega
    have e := List.length_erase (a := m) (l := l)
    split at e <;> omega
/-- the root c hung on a -/
def lnk (p : Nat → Nat) (c a : Nat) : Nat → Nat := fun v => if v = c then a else p v
section
variable {n : Nat} {p r : Nat → Nat}
def lnkR (n : Nat) (p : Nat → Nat) (c : Nat) : Nat → Nat := fun x => (ups p n x).length + if root p n x = c then 1 else 0
theorem lnk_fo (F : Fo n p r) {c a : Nat} (hc : c < n) (ha : a < n) (pc : p c = c) (pa : p a = a) (ne : c ≠ a) : Fo n (lnk p c a) (lnkR n p c) where
  lt := fun x hx => by
    unfold lnk
    split
    · exact ha
    · exact F.lt x hx
  up := fun x hx => by
    unfold lnk
    by_cases e : x = c
    · rw [if_pos e]
      right
      unfold lnkR
      rw [e, ups_of pa, ups_of pc, root_of pa, root_of pc, if_neg (Ne.symm ne), if_pos rfl]
      decide
    · rw [if_neg e]
      by_cases h : p x = x
      · exact .inl h
      · right
        unfold lnkR
        rw [ups_n F hx h, root_n F hx h, List.length_cons]
        omega
  rb := fun x hx => by
    unfold lnkR
    have h1 := ups_lt F x hx
    have h2 := ups_nodup F x hx
    by_cases e : root p n x = c
    · rw [if_pos e]
      have h := nodup_le n (ups p n x ++ [c, a]) (by
        refine List.nodup_append.mpr ⟨h2, by simp [ne], fun y hy z hz e2 => ?_⟩
        have := (h1 y hy).2.1
        rw [e2] at this
        rcases List.mem_cons.mp hz with z1 | z1
        · rw [z1] at this; exact this pc
        · rw [List.mem_singleton.mp z1] at this; exact this pa) fun y hy => by
        rcases List.mem_append.mp hy with z | z
        · exact (h1 y z).1
        · rcases List.mem_cons.mp z with z1 | z1
          · rw [z1]; exact hc
          · rw [List.mem_singleton.mp z1]; exact ha
      rw [List.length_append] at h
      simp at h
      omega
    · rw [if_neg e]
      have := ups_len F x hx
      have := F.rb x hx
      omega
theorem lnk_root (F : Fo n p r) {c a : Nat} (hc : c < n) (ha : a < n) (pc : p c = c) (pa : p a = a) (ne : c ≠ a) : ∀ x, x < n → root (lnk p c a) n x = if root p n x = c then a else root p n x := by
  have F2 := lnk_fo F hc ha pc pa ne
  have qa : lnk p c a a = a := by unfold lnk; rw [if_neg (Ne.symm ne)]; exact pa
  refine F.ind (fun x hx h => ?_) (fun x hx h ih => ?_)
  · rw [root_of h]
    by_cases e : x = c
    · have qx : lnk p c a x = a := by unfold lnk; rw [if_pos e]
      rw [if_pos e, root_n F2 hx (by rw [qx, e]; exact Ne.symm ne), qx, root_of qa]
    · rw [if_neg e]
      exact root_of (by unfold lnk; rw [if_neg e]; exact h) n
  · have e : x ≠ c := fun z => h (by rw [z]; exact pc)
    have qx : lnk p c a x = p x := by unfold lnk; rw [if_neg e]
    rw [root_n F2 hx (by rw [qx]; exact h), qx, ih, root_n F hx h]
end
/-- which error a root asks for -/
def chkE (n : Nat) (p : Nat → Nat) (x : Int) : Option Bool := if 0 ≤ x ∧ x < (n : Int) then (if p x.toNat = x.toNat then none else some true) else some false
end Ff

namespace Ff
/-- the first of a filter -/
theorem filt_first {n i : Nat} {g : Nat → Bool} (hi : i < n) (h0 : ∀ v, v < i → g v = false) (h1 : g i = true) : ∃ rest, (List.range n).filter g = i :: rest := by
  obtain ⟨k, rfl⟩ : ∃ k, n = i + 1 + k := ⟨n - (i + 1), by omega⟩
  have e : (List.range (i + 1 + k)).filter g = (List.range (i + 1)).filter g ++ ((List.range k).map (i + 1 + ·)).filter g := by
    rw [List.range_add, List.filter_append]
  have e2 : (List.range (i + 1)).filter g = [i] := by
    rw [List.range_succ, List.filter_append]
    have : (List.range i).filter g = [] := List.filter_eq_nil_iff.mpr fun v hv => by rw [h0 v (List.mem_range.mp hv)]; simp
    rw [this]
    simp [List.filter, h1]
  rw [e, e2]
  exact ⟨_, rfl⟩
theorem filt_none {n : Nat} {g : Nat → Bool} (h : ∀ v, v < n → g v = false) : (List.range n).filter g = [] := List.filter_eq_nil_iff.mpr fun v hv => by rw [h v (List.mem_range.mp hv)]; simp
section
variable {n : Nat} {p : Nat → Nat}
def fixB (p : Nat → Nat) (y : Nat) : Bool := decide (p y = y)
theorem root_stay {k x : Nat} (h : p (root p k x) = root p k x) : ∀ j, root p (k + j) x = root p k x
  | 0 => rfl
  | j + 1 => by rw [Nat.add_succ, root_succ, root_stay h j]; exact h
theorem root_add (x : Nat) (i : Nat) : ∀ j, root p (i + j) x = root p j (root p i x)
  | 0 => rfl
  | j + 1 => by rw [Nat.add_succ, root_succ, root_succ, root_add x i j]
/-- what is fixed after n steps is fixed before -/
theorem fix_before (hl : ∀ v, v < n → p v < n) {x : Nat} (hx : x < n) (h : p (root p n x) = root p n x) : ∃ j, j < n ∧ p (root p j x) = root p j x := by
  -- two of n + 1 places are one node
  have pig : ∃ i j, i < j ∧ j ≤ n ∧ root p i x = root p j x := by
    refine Classical.byContradiction fun no => ?_
    have nd : ((List.range (n + 1)).map fun k => root p k x).Nodup := by
      unfold List.Nodup
      rw [List.pairwise_map]
      refine List.Pairwise.imp_of_mem (fun {a b} ha hb lt e => no ⟨a, b, lt, by have := List.mem_range.mp hb; omega, e⟩) (List.pairwise_lt_range)
    have := nodup_le n _ nd fun y hy => by
      obtain ⟨k, _, rfl⟩ := List.mem_map.mp hy
      exact root_lt0 hl k x hx
    rw [List.length_map, List.length_range] at this
    omega
  obtain ⟨i, j, hij, hj, e⟩ := pig
  refine ⟨i, by omega, ?_⟩
  have per : ∀ t, root p (i + t * (j - i)) x = root p i x := fun t => by
    induction t with
    | zero => simp
    | succ t ih =>
      have e1 : i + (t + 1) * (j - i) = (i + t * (j - i)) + (j - i) := by rw [Nat.succ_mul]; omega
      rw [e1, root_add, ih, ← root_add, show i + (j - i) = j by omega, e]
  have big : n ≤ i + n * (j - i) := by
    have : n * 1 ≤ n * (j - i) := Nat.mul_le_mul_left n (by omega)
    omega
  obtain ⟨m, hm⟩ : ∃ m, i + n * (j - i) = n + m := ⟨i + n * (j - i) - n, by omega⟩
  have z := per n
  rw [hm, root_stay h m] at z
  rw [← z]; exact h
end
/-- a row of integers as parents -/
def par (xs : List Int) : Nat → Nat := fun v => (xs.getD v 0).toNat
def wideB (xs : List Int) (v : Nat) : Bool := !(decide (0 ≤ xs.getD v 0) && decide (xs.getD v 0 < (xs.length : Int)))
def wideL (xs : List Int) : List Nat := (List.range xs.length).filter (wideB xs)
def ringB (n : Nat) (p : Nat → Nat) (v : Nat) : Bool := !decide (p (root p n v) = root p n v)
def ringsL (xs : List Int) : List Nat := (List.range xs.length).filter (ringB xs.length (par xs))
/-- 0: none; 1: TooManyNodes; 2: BadParent; 3: Cycle -/
inductive Ver
  | ok
  | many
  | bad (v : Nat)
  | cyc (v : Nat)
def verdict (xs : List Int) : Ver := if 40 < xs.length then .many else match wideL xs with
  | v :: _ => .bad v
  | [] => match ringsL xs with
    | v :: _ => .cyc v
    | [] => .ok
theorem wide_iff {xs : List Int} {v : Nat} : wideB xs v = false ↔ 0 ≤ xs.getD v 0 ∧ xs.getD v 0 < (xs.length : Int) := by
  unfold wideB
  rw [Bool.not_eq_false', Bool.and_eq_true, decide_eq_true_iff, decide_eq_true_iff]
theorem par_lt {xs : List Int} (h : ∀ v, v < xs.length → wideB xs v = false) : ∀ v, v < xs.length → par xs v < xs.length := fun v hv => by
  have := wide_iff.mp (h v hv)
  unfold par
  omega
end Ff

namespace Ff
theorem ups_fix (p : Nat → Nat) : ∀ (j k x : Nat), j ≤ k → p (root p j x) = root p j x → ups p k x = ups p j x ∧ (ups p j x).length ≤ j
  | 0, k, x, _, h => by
    have h' : p x = x := h
    refine ⟨?_, Nat.le_refl _⟩
    cases k with
    | zero => rfl
    | succ k =>
      show (if p x = x then [] else x :: ups p k (p x)) = []
      rw [if_pos h']
  | j + 1, 0, x, hk, _ => by omega
  | j + 1, k + 1, x, hk, h => by
    by_cases e : p x = x
    · have a : ups p (k + 1) x = [] := by
        show (if p x = x then [] else x :: ups p k (p x)) = []
        rw [if_pos e]
      have b : ups p (j + 1) x = [] := by
        show (if p x = x then [] else x :: ups p j (p x)) = []
        rw [if_pos e]
      rw [a, b]
      exact ⟨rfl, Nat.zero_le _⟩
    · have a : ups p (k + 1) x = x :: ups p k (p x) := by
        show (if p x = x then [] else x :: ups p k (p x)) = _
        rw [if_neg e]
      have b : ups p (j + 1) x = x :: ups p j (p x) := by
        show (if p x = x then [] else x :: ups p j (p x)) = _
        rw [if_neg e]
      have c : root p (j + 1) x = root p j (p x) := by
        show (if p x = x then x else root p j (p x)) = _
        rw [if_neg e]
      rw [c] at h
      obtain ⟨i1, i2⟩ := ups_fix p j k (p x) (by omega) h
      rw [a, b, i1]
      exact ⟨rfl, by rw [List.length_cons]; omega⟩
/-- a row without a ring is a forest -/
theorem fo_of {n : Nat} {p : Nat → Nat} (hl : ∀ v, v < n → p v < n) (hr : ∀ v, v < n → p (root p n v) = root p n v) : Fo n p (fun v => (ups p n v).length) := by
  refine ⟨hl, fun x hx => ?_, fun x hx => ?_⟩
  · by_cases e : p x = x
    · exact .inl e
    · refine .inr ?_
      obtain ⟨j, hj, h⟩ := fix_before hl hx (hr x hx)
      cases j with
      | zero => exact absurd h e
      | succ j =>
        have c : root p (j + 1) x = root p j (p x) := by
          show (if p x = x then x else root p j (p x)) = _
          rw [if_neg e]
        rw [c] at h
        obtain ⟨m, rfl⟩ : ∃ m, n = m + 1 := ⟨n - 1, by omega⟩
        have a : ups p (m + 1) x = x :: ups p m (p x) := by
          show (if p x = x then [] else x :: ups p m (p x)) = _
          rw [if_neg e]
        have b1 := (ups_fix p j m (p x) (by omega) h).1
        have b2 := (ups_fix p j (m + 1) (p x) (by omega) h).1
        show (ups p (m + 1) (p x)).length < (ups p (m + 1) x).length
        rw [a, b2, b1, List.length_cons]
        omega
  · obtain ⟨j, hj, h⟩ := fix_before hl hx (hr x hx)
    obtain ⟨b1, b2⟩ := ups_fix p j n x (by omega) h
    show (ups p n x).length < n
    rw [b1]
    omega
theorem ver_ok {xs : List Int} : verdict xs = .ok ↔ xs.length ≤ 40 ∧ (∀ v, v < xs.length → wideB xs v = false) ∧ ∀ v, v < xs.length → ringB xs.length (par xs) v = false := by
  unfold verdict
  by_cases h : 40 < xs.length
  · rw [if_pos h]
    constructor
    · intro z; cases z
    · intro z; omega
  · rw [if_neg h]
    constructor
    · intro z
      refine ⟨by omega, ?_, ?_⟩
      · cases e : wideL xs with
        | cons v r => rw [e] at z; cases z
        | nil =>
          intro v hv
          have := List.filter_eq_nil_iff.mp e v (List.mem_range.mpr hv)
          simpa using this
      · cases e : wideL xs with
        | cons v r => rw [e] at z; cases z
        | nil =>
          rw [e] at z
          cases e2 : ringsL xs with
          | cons v r => rw [e2] at z; cases z
          | nil =>
            intro v hv
            have := List.filter_eq_nil_iff.mp e2 v (List.mem_range.mpr hv)
            simpa using this
    · rintro ⟨_, h1, h2⟩
      have e1 : wideL xs = [] := filt_none h1
      have e2 : ringsL xs = [] := filt_none h2
      rw [e1, e2]
end Ff

namespace ExX
open PySem PySem.Spec PyProof.Rows L2 Builtin.ObjectAttr
/-- an own class over some built-in exception, its instances having a dict -/
structure ExB (K : PySem.W.Frag) (C : Addr) (nid : String) (tl : List Value) : Prop where
  ini : PySem.W.excInitIn K C tl nid = true
  ov : PySem.W.excOver K C tl = true
  hdt : PySem.W.hasDictIn K C = true
  sat : PySem.W.findIn K (.ref C) "__setattr__" = some (some (.builtin "object.__setattr__"))
  sub : PySem.W.subIn K (.ref C) (.type "BaseException") = some true
  typ : PySem.W.typeIn K (.ref C) = some (.type "type")
  kep : PySem.W.keepIn K (.ref C) = true
def exB (K : PySem.W.Frag) (C : Addr) (nid : String) (tl : List Value) : Bool :=
  PySem.W.excInitIn K C tl nid && PySem.W.excOver K C tl && PySem.W.hasDictIn K C && decide (PySem.W.findIn K (.ref C) "__setattr__" = some (some (.builtin "object.__setattr__"))) && decide (PySem.W.subIn K (.ref C) (.type "BaseException") = some true) &&
    decide (PySem.W.typeIn K (.ref C) = some (.type "type")) && PySem.W.keepIn K (.ref C)
theorem exB_ok {K : PySem.W.Frag} {C : Addr} {nid : String} {tl : List Value} (h : exB K C nid tl = true) : ExB K C nid tl := by
  unfold exB at h
  simp only [Bool.and_eq_true, decide_eq_true_eq] at h
  obtain ⟨⟨⟨⟨⟨⟨a, b⟩, c⟩, d⟩, e⟩, f⟩, g⟩ := h
  exact ⟨a, b, c, d, e, f, g⟩
section
variable {prog : Program} {w : World} {A : Around} {R : Result → Shared → Prop} {hp : Heap} {g : Array GenState} {dr : Drawn} {tk0 : Nat} {os : OsState} {K : PySem.W.Frag} {B nid : String} {tl : List Value} {x C t1 : Addr} {nm : Str} {tk : Tok} {v : Value}
theorem sa_new (SB : StoreFacts B tl "object.__setattr__" "object") (X : K.In hp) (T : ExB K C nid tl) (hx : hp.get? x = some (PySem.W.excObj C t1 none .none)) (ha : PySem.W.findIn K (.ref C) nm = some none)
    (hq : ∀ h2 tk2 dx, (∀ b o, b ≠ x → hp.get? b = some o → h2.get? b = some o) → hp.objs.size ≤ dx → dx ≠ x → h2.get? x = some (PySem.W.excObj C t1 (some dx) .none) →
      h2.Ns1 dx (fun y => if y = nm then some v else none) → R (.ok (.ret .none)) ⟨h2, g, dr, tk2, os⟩) :
    codeAny (model prog w) A (.call (.builtin "object.__setattr__") ⟨[.ref x, .str nm tk, v], []⟩) R ⟨hp, g, dr, tk0, os⟩ := by
  refine PySem.W.osa_openX (od := none) (r := none) SB X ⟨hx, rfl, rfl, trivial⟩ T.ov (by unfold PySem.W.takerIn; rw [ha]; rfl) fun b => ?_
  obtain ⟨cd, hc, hd2⟩ := PySem.W.any_some T.hdt
  have hxs : x ≠ hp.objs.size := Nat.ne_of_lt (Heap.lt_size hx)
  refine wpAny_bind (wpAny_pure (wpAny_bind (PySem.W.instanceDict_exc hx (PySem.W.looks_clsIn X hc) hd2 ?_)))
  show wpAny _ _ (storeInDict hp.objs.size (.str nm tk) nm v) _ _ _
  refine HandSPX.store_in_new ?_ ?_
  · exact ⟨_, #[], _, (Heap.get?_update_ne _ _ _ _ hxs.symm).trans (Heap.get?_push_at rfl rfl), rfl, fun e he => absurd he (by simp), fun _ => rfl⟩
  · intro h2 tk2 hn hs
    have hx1 := Heap.get?_push_of_some (h := hp) (PySem.W.dictOf [] 0) hx
    refine hq h2 tk2 hp.objs.size (fun b o hb ho => ?_) (Nat.le_refl _) hxs.symm ?_ hn
    · exact (hs.2 b (Nat.ne_of_lt (Heap.lt_size ho))).trans ((Heap.get?_update_ne _ _ _ _ hb).trans (Heap.get?_push_of_some _ ho))
    · exact (hs.2 x hxs).trans (Heap.get?_update_self _ hx1 rfl)
theorem sa_old {dx : Addr} {m0 : Str → Option Value} {nl : List Str} (SB : StoreFacts B tl "object.__setattr__" "object") (X : K.In hp) (T : ExB K C nid tl) (hx : hp.get? x = some (PySem.W.excObj C t1 (some dx) .none)) (hns : hp.Ns1 dx m0) (hw : Within m0 nl) (hz : nl.length ≤ 1000)
    (ha : PySem.W.findIn K (.ref C) nm = some none)
    (hq : ∀ h2 tk2, (∀ b o, b ≠ dx → hp.get? b = some o → h2.get? b = some o) → h2.Ns1 dx (fun y => if y = nm then some v else m0 y) → R (.ok (.ret .none)) ⟨h2, g, dr, tk2, os⟩) :
    codeAny (model prog w) A (.call (.builtin "object.__setattr__") ⟨[.ref x, .str nm tk, v], []⟩) R ⟨hp, g, dr, tk0, os⟩ := by
  obtain ⟨oD, esD, epD, hoD, hdD, _⟩ := hns.count hw
  refine PySem.W.osa_openX (od := some oD) (r := none) SB X ⟨hx, rfl, rfl, hoD⟩ T.ov (by unfold PySem.W.takerIn; rw [ha]; rfl) fun b => ?_
  show wpAny _ _ (storeInOwnDict (.ref x) (.ref C) (.str nm tk) nm v b) _ _ _
  obtain ⟨cd, hc, hd2⟩ := PySem.W.any_some T.hdt
  have lc : PySem.W.Looks (model prog w) hp (classData C) cd := PySem.W.looks_clsIn X hc
  obtain ⟨c1, c2, c3, c4, c5, c6, c7, c8, c9, c10, c11⟩ := cd
  dsimp only at hd2
  subst hd2
  unfold storeInOwnDict ownDictForStores
  repeat (first | with_reducible refine PySem.OEX.store_in_old hns hw hz ?_ | with_reducible refine wpAny_loadPart_at hx ?_ | with_reducible refine lc.at ?_ | wp_step)
  intro h2 tk2 hn hs
  exact hq h2 tk2 (fun b o hb ho => (hs.2 b hb).trans ho) hn
end
section
variable {X : Cx} {pins : List (Addr × Obj)} {σ : L2.St} {H : Hp} {s : Shared} {a C dx : Addr} {f : Str} {y : V} {u : Value} {fs : List (Str × V)} {Q : Unit → Shared → Prop} {E : Value → Shared → Prop} {A : Around} {B nid iid : String} {tl : List Value}
/-- the object at a gets its dict at dx -/
theorem inv_dict {hp h2 : Heap} {g : Array GenState} {dr : Drawn} {tk tk2 : Nat} {os : OsState} {t1 : Addr} (I : Inv X pins σ H ⟨hp, g, dr, tk, os⟩) (e : H a = some (exo a C none)) (ry : RelV y u) (k : ∀ b o, b ≠ a → hp.get? b = some o → h2.get? b = some o) (dn : hp.objs.size ≤ dx)
    (hx : h2.get? a = some (PySem.W.excObj C t1 (some dx) .none)) (hn : h2.Ns1 dx (fun y => if y = f then some u else none)) : Inv X pins σ (upd (upd H dx (exd dx [(f, y)])) a (exo a C (some dx))) ⟨h2, g, dr, tk2, os⟩ := by
  have fresh : H dx = none := I.hok.fresh dn
  have old_ne : ∀ {b : Addr} {o : Obj}, hp.get? b = some o → b ≠ dx := fun {b o} q => Nat.ne_of_lt (Nat.lt_of_lt_of_le (Heap.lt_size q) dn)
  have free_ne : ∀ {b : Addr}, H b = none → b ≠ a := fun {b} n z => by
    subst z
    rw [e] at n
    cases n
  have look : ∀ {b : Addr} {o : HO}, H b = some o → b ≠ a → upd (upd H dx (exd dx [(f, y)])) a (exo a C (some dx)) b = some o := fun {b o} q hb => by rw [upd_ne hb, upd_ne (ne_of_none q fresh)]; exact q
  refine I.un (t' := tk2) ⟨fun b o q n _ _ => k b o (free_ne n) q, fun b o q n _ _ => ⟨o.slots, k b o (free_ne n) q⟩, fun b o q n _ => ?_, fun b o q _ => ?_, fun b xs q => look q (at_ne e q exo_tup), fun b o v q => look q (at_ne e q exo_frz), fun b ps q => ⟨#[], ?_⟩⟩ fun b o q => ?_
  · rw [upd_ne (free_ne n), upd_ne (old_ne q)]
    exact n
  · by_cases hb : b = a
    · exact ⟨_, hb ▸ hx⟩
    · exact ⟨o, k b o hb q⟩
  · rw [look q (at_ne e q exo_tbl)]
    simp
  · by_cases hb : b = a
    · rw [hb, upd_same] at q
      rw [hb, ← Option.some.inj q]
      exact exo_ok hx
    rw [upd_ne hb] at q
    by_cases hd : b = dx
    · rw [hd, upd_same] at q
      rw [hd, ← Option.some.inj q]
      exact exd_ok hn (relO_put (fs := []) ry fun _ => True.intro)
    rw [upd_ne hd] at q
    refine (I.hok b o q).stay (fun c v hc z => k c v ?_ z) (fun c hc => look hc (at_ne e hc exo_own)) fun c xs hc => look hc (at_ne e hc exo_tup)
    rcases hc with hc | hc
    · exact hc ▸ hb
    · exact at_ne e hc exo_own
theorem st_new (SB : StoreFacts B tl "object.__setattr__" "object") (T : ExB X.K C nid tl) (I : Inv X pins σ H s) (e : H a = some (exo a C none)) (hno : PySem.W.findIn X.K (.ref C) f = some none) (ry : RelV y u)
    (h : ∀ dx s2, H dx = none → dx ≠ a → Inv X pins σ (upd (upd H dx (exd dx [(f, y)])) a (exo a C (some dx))) s2 → Q () s2) : wpAny (model X.prog X.w) A (setAttr (.ref a) f u) Q E s := by
  obtain ⟨t1, ho⟩ := exo_at I.hok e
  obtain ⟨hp, g, dr, tk, os⟩ := s
  exact PySem.W.set_plain I.kIn (ox := PySem.W.excObj C t1 none .none) (od := none) ⟨ho, rfl, rfl, trivial⟩ T.sat (sa_new SB I.kIn T ho hno fun h2 tk2 dx k dn dne hx hn => h dx _ (I.hok.fresh dn) dne (inv_dict I e ry k dn hx hn))
theorem st_old (SB : StoreFacts B tl "object.__setattr__" "object") (T : ExB X.K C nid tl) (I : Inv X pins σ H s) (e : H a = some (exo a C (some dx))) (ed : H dx = some (exd dx fs)) (hl : fs.length ≤ 900) (hno : PySem.W.findIn X.K (.ref C) f = some none) (ry : RelV y u)
    (h : ∀ s2, Inv X pins σ (upd H dx (exd dx ((f, y) :: fs))) s2 → Q () s2) : wpAny (model X.prog X.w) A (setAttr (.ref a) f u) Q E s := by
  obtain ⟨t1, ho⟩ := exo_at I.hok e
  obtain ⟨mA, hns, rel⟩ := exd_at I.hok ed
  have hw := within_of rel
  obtain ⟨hp, g, dr, tk, os⟩ := s
  obtain ⟨oD, _, _, hoD, _, _⟩ := hns.count hw
  refine PySem.W.set_plain I.kIn (ox := PySem.W.excObj C t1 (some dx) .none) (od := some oD) ⟨ho, rfl, rfl, hoD⟩ T.sat (sa_old SB I.kIn T ho hns hw (by rw [List.length_map]; omega) hno fun h2 tk2 k hn => ?_)
  obtain ⟨o, es, ep, e1, er⟩ := hn
  exact h _ (I.write (t' := tk2) (x := dx) (e := dx) (o := exd dx ((f, y) :: fs)) (by rw [ed]; trivial) (.inl rfl) k ⟨o, e1⟩ (exd_ok ⟨o, es, ep, e1, er⟩ (relO_put ry rel)))
/-- B.__init__(self, ..): it lays the args anew, which are not told -/
theorem base_init {us : List Value} {Q : Value → Shared → Prop} (FB : ExcBaseFacts B nid iid tl) (T : ExB X.K C nid tl) (I : Inv X pins σ H s) (e : H a = some (exo a C none)) (hl : us.length ≤ sizeLine) (h : ∀ s2, Inv X pins σ H s2 → Q .none s2) :
    wpAny (model X.prog X.w) A (call (.builtin iid) (.ref a :: us)) Q E s := by
  obtain ⟨nm, N, qn, bs, bm, hdct, sn, sub, ab, col, dd, k0, k1, k2, k3, k5, hC, hT⟩ := PySem.W.excInit_of I.kIn T.ini
  obtain ⟨t1, ho⟩ := exo_at I.hok e
  obtain ⟨hp, g, dr, tk, os⟩ := s
  refine wpAny_call (PySem.HandSPX.init_base FB hT hC ho hl fun h2 t2 k hx => h _ ?_)
  have J := I.write (t' := tk) (x := a) (e := a) (o := exo a C none) (by rw [e]; trivial) (.inl rfl) k ⟨_, hx⟩ (exo_ok hx)
  have same : upd H a (exo a C none) = H := funext fun b => by
    by_cases hb : b = a
    · rw [hb, upd_same, e]
    · rw [upd_ne hb]
  rwa [same] at J
end
/-! ### rules -/
/-- self.f = e, self an exception in the making -/
def tSt (K : PySem.W.Frag) (nid : String) (tl : List Value) (f : Str) (to te : TE) : TS := fun D σ H => te σ H fun y H1 => to σ H1 fun x H2 => ∃ a C : Addr, x = .ref a ∧ ExB K C nid tl ∧ PySem.W.findIn K (.ref C) f = some none ∧
  ((H2 a = some (exo a C none) ∧ ∀ dx, H2 dx = none → dx ≠ a → D.nx σ (upd (upd H2 dx (exd dx [(f, y)])) a (exo a C (some dx)))) ∨
    ∃ (dx : Addr) (fs : List (Str × V)), H2 a = some (exo a C (some dx)) ∧ H2 dx = some (exd dx fs) ∧ fs.length ≤ 900 ∧ D.nx σ (upd H2 dx (exd dx ((f, y) :: fs))))
/-- B.__init__(self, ..) -/
def tBi (K : PySem.W.Frag) (nid : String) (tl : List Value) (ta : TA) : TE := fun σ H Q => ta σ H fun vs H1 => ∃ (a C : Addr) (ws : List V), vs = .ref a :: ws ∧ ws.length ≤ 1000 ∧ ExB K C nid tl ∧ H1 a = some (exo a C none) ∧ Q .non H1
section
variable {X : Cx} {o e : Expr} {es : List Expr} {to te : TE} {ta : TA} {f x : Str} {p p1 p2 pos : Pos} {B nid iid : String} {tl : List Value}
theorem ps_st (SB : StoreFacts B tl "object.__setattr__" "object") (ho : PE X o to) (he : PE X e te) (hs : swapsWith e (some (.Attribute o f p)) pos.line X.env = pure false := by rfl) : PS X (.Assign [.Attribute o f p] e pos) (tSt X.K nid tl f to te) := by
  refine ⟨fun pins s σ H D I h => plainObj_wpAny_Assign_Attribute (thn (he.run pins s σ H _ I h) fun v s1 ⟨y, H1, I1, r1, q1⟩ => thn (ho.run pins s1 σ H1 _ I1 q1) fun u s2 ⟨z, H2, I2, r2, a, C, ex, T, hno, q⟩ => ?_) hs⟩
  subst ex
  obtain rfl : u = Value.ref a := r2
  rcases q with ⟨ea, q⟩ | ⟨dx, fs, ea, ed, hl, q⟩
  · exact st_new SB T I2 ea hno r1 fun dx s3 n ne J => ⟨σ, _, J, q dx n ne⟩
  · exact st_old SB T I2 ea ed hl hno r1 fun s3 J => ⟨σ, _, J, q⟩
theorem pe_bi {xB : Str} {pl : Sem Bool} (FB : ExcBaseFacts B nid iid tl) (ty : typeOf (.type B) = pure (.type "type")) (st : Manifest.isStub B = false) (bo : bootBuiltins xB = some (.type B)) (hn1 : xB ≠ "__name__") (hn2 : (xB == ("__debug__" : Str)) = false) (hh : PySem.W.handedIn (.builtin iid) = true) (hg : Gl X xB) (hm : X.mg xB = none) (vV : PySem.W.findCls X.K (.type B) (.type "type") "__init__" = some (.val (.builtin iid))) (ha : PA X (e :: es) ta)
    (hc : eval (.Call (.Attribute (.Name xB p1) "__init__" p2) (e :: es) [] pos) X.env = (do
      let z ← eval (.Name xB p1) X.env
      standAt p2.atName
      let (f1, fst) ← holding [z] (getMethod z "__init__" pl)
      callWith pos f1 fst (backTo pos (starEach (e :: es) X.env)) (backToKw pos (keywordEach [] X.env))) := by rfl)
    (he : starEach (e :: es) X.env = (false, eval e X.env) :: starEach es X.env := by rfl) (hpl : (backTo pos (starEach es X.env)).any (·.1) = false := by rfl) :
    PE X (.Call (.Attribute (.Name xB p1) "__init__" p2) (e :: es) [] pos) (tBi X.K nid tl ta) := by
  refine ⟨fun pins s σ H Q I h => PySem.W.methodCall_KW (ld_blt I hg hm bo ?_ hn1 hn2) hc⟩
  obtain ⟨m, fr⟩ := I.fr
  refine PySem.W.method_type fr I.ok.mod.kin ty st vV hh ?_
  show wpAny _ _ (callWith pos (Value.builtin iid) [] (backTo pos (starEach (e :: es) X.env)) []) _ _ _
  refine PyProof.Rows.callWith_method1 (thn (ha.run pos pins _ σ H _ (I.tok _) h) fun us s1 ⟨vs, H1, I1, r1, a, C, ws, ev, hl, T, ea, q⟩ => ?_) he hpl
  subst ev
  cases r1 with
  | @cons _ u0 _ ur ra rw2 =>
    obtain rfl : u0 = Value.ref a := ra
    exact base_init FB T I1 ea (by rw [← Paired.length rw2, sizeLine_eq]; omega) fun s2 J => ⟨.non, H1, J, rfl, q⟩
end
end ExX

namespace ExX
open PySem PySem.Spec PyProof.Rows L2 Builtin.ObjectAttr
/-- what the written part says of D.__init__, read off the class itself: the def at f -/
structure ClsI (K : PySem.W.Frag) (D f : Addr) : Prop where
  rd : PySem.W.readsIn K D (.type "type") = true
  fc : PySem.W.findCls K (.ref D) (.type "type") "__init__" = some (.val (.ref f))
  sp : PySem.W.specialIn K (.ref D) "__getattribute__" = some (some (.builtin "type.__getattribute__"))
  kp : PySem.W.keepIn K (.ref f) = true
  kd : PySem.W.keepIn K (.ref D) = true
def clsI (K : PySem.W.Frag) (D f : Addr) : Bool := PySem.W.readsIn K D (.type "type") && (match PySem.W.findCls K (.ref D) (.type "type") "__init__" with | some (.val v) => decide (v = .ref f) | _ => false) &&
  decide (PySem.W.specialIn K (.ref D) "__getattribute__" = some (some (.builtin "type.__getattribute__"))) && PySem.W.keepIn K (.ref f) && PySem.W.keepIn K (.ref D)
theorem clsI_ok {K : PySem.W.Frag} {D f : Addr} (h : clsI K D f = true) : ClsI K D f := by
  unfold clsI at h
  simp only [Bool.and_eq_true, decide_eq_true_eq] at h
  obtain ⟨⟨⟨⟨a, b⟩, c⟩, d⟩, e⟩ := h
  refine ⟨a, ?_, c, d, e⟩
  split at b
  · rename_i v hv
    rw [hv, of_decide_eq_true b]
  · cases b
/-- what C(..) asks, the arguments evaluated -/
def mkW (C : Addr) (sp : Sp) (vs : List V) (H1 : Hp) (Q : XK) : Prop := vs.length ≤ 1000 ∧ ∀ a, H1 a = none → sp (.ref a :: vs) (upd H1 a (exo a C none))
  (fun v H2 => v = .non ∧ ∃ (d : Addr) (fs : List (Str × V)), H2 a = some (exo a C (some d)) ∧ H2 d = some (exd d fs) ∧ H1 d = none ∧ Q (.ref C) (some d) (upd (del H2 a) d (.xd fs))) (fun _ _ _ => False)
section
variable {X : Cx} {e : Expr} {es : List Expr} {ta : TA} {x : Str} {p p1 p2 pos : Pos} {CX : CXT} {k : Nat} {D f : Addr} {fd : FuncData} {ps : List Str} {sp : Sp} {E : XK}
theorem pe_ci {pl : Sem Bool} (T : ClsI X.K D f) (F : FnOk X.prog X.w X.K X.mg X.base CX k f fd ps sp) (hr : Room k X.A) (hg : Gl X x) (hm : X.mg x = some (.ref D)) (hb : L2.Binds X.K fd ps []) (hx : Passes CX X E) (ha : PA X (e :: es) ta)
    (hdb : (x == ("__debug__" : Str)) = false := by decide)
    (hc : eval (.Call (.Attribute (.Name x p1) "__init__" p2) (e :: es) [] pos) X.env = (do
      let z ← eval (.Name x p1) X.env
      standAt p2.atName
      let (f1, fst) ← holding [z] (getMethod z "__init__" pl)
      callWith pos f1 fst (backTo pos (starEach (e :: es) X.env)) (backToKw pos (keywordEach [] X.env))) := by rfl)
    (he : starEach (e :: es) X.env = (false, eval e X.env) :: starEach es X.env := by rfl) (hpl : (backTo pos (starEach es X.env)).any (·.1) = false := by rfl) :
    PE X (.Call (.Attribute (.Name x p1) "__init__" p2) (e :: es) [] pos) (tCall sp [] E ta) := by
  refine ⟨fun pins s σ H Q I h => PySem.W.methodCall_KW (ld_glob I hg hm ?_ hdb) hc⟩
  refine PySem.W.method_cls I.kIn T.sp (PySem.W.cls_value I.kIn T.rd T.fc rfl ?_)
  refine PySem.W.callWith_K (first := []) (h₀ := X.base) I.ok.mod.kin T.kp (thn (ha.run pos pins _ σ H _ (I.tok _) h) fun us s1 ⟨vs, H1, I1, r, q⟩ => ⟨I1.kIn, ?_⟩) he hpl
  exact run_fn F hr hb .nil hx I1 r q
theorem pmk {C fI : Addr} {B nid iid : String} {tl : List Value} {R : List V → Hp → XK → Prop} (FB : ExcBaseFacts B nid iid tl) (T : ExB X.K C nid tl) (iC : PySem.W.findIn X.K (.ref C) "__init__" = some (some (.ref fI))) (tI : PySem.W.typeIn X.K (.ref fI) = some (.type "function"))
    (F1 : FnOk X.prog X.w X.K X.mg X.base CX k fI fd ps sp) (hr : Room (k + 1) X.A) (hb : L2.Binds X.K fd ps []) (hx : Passes CX X (fun _ _ _ => False)) (hg : Gl X x) (hm : X.mg x = some (.ref C)) (ha : PA X (e :: es) ta) (hR : ∀ vs H1 Q, R vs H1 Q → mkW C sp vs H1 Q)
    (hdb : (x == ("__debug__" : Str)) = false := by decide) (he : starEach (e :: es) X.env = (false, eval e X.env) :: starEach es X.env := by rfl) (hpl : (backTo pos (starEach es X.env)).any (·.1) = false := by rfl) :
    L2N.PMk X (.Call (.Name x p) (e :: es) [] pos) (fun σ H Q => ta σ H fun vs H1 => R vs H1 Q) := by
  intro pins s σ H Q I h
  refine wpAny_Call_Name_kw (ld_glob I hg hm ?_ hdb)
  refine PySem.W.callWith_K (h₀ := X.base) I.ok.mod.kin T.kep (thn (ha.run pos pins s σ H _ I h) fun us s1 ⟨vs, H1, I1, r1, q0⟩ => ⟨I1.kIn, ?_⟩) he hpl
  obtain ⟨hz, q1⟩ := hR _ _ _ q0
  obtain ⟨nm, N, qn, bs, bm, hdct, sn, sub, ab, col, dd, k0, k1, k2, k3, k5, hC, hT⟩ := PySem.W.excInit_of I1.kIn T.ini
  obtain ⟨hp, g, dr, tk, os⟩ := s1
  -- the new exception lies behind its args
  let h1 : Heap := (hp.push (PySem.W.kdv_tup us)).push (PySem.HandSPX.excO C hp.objs.size)
  have kk : ∀ b o, hp.get? b = some o → h1.get? b = some o := fun b o e => Heap.get?_push_of_some _ (Heap.get?_push_of_some _ e)
  have new : h1.get? (hp.objs.size + 1) = some (PySem.HandSPX.excO C hp.objs.size) := by show Heap.get? ((hp.push (PySem.W.kdv_tup us)).push (PySem.HandSPX.excO C hp.objs.size)) _ = _; heap_get
  have hq := q1 (hp.objs.size + 1) (I1.hok.fresh (Nat.le_succ _))
  have I2 : Inv X pins σ (upd H1 (hp.objs.size + 1) (exo (hp.objs.size + 1) C none)) ⟨h1, g, dr, tk, os⟩ := I1.laid (t' := tk) (a := hp.objs.size + 1) (o := exo (hp.objs.size + 1) C none) kk (Nat.le_succ _) (exo_ok new)
  have r2 : Vals (V.ref (hp.objs.size + 1) :: vs) (Value.ref (hp.objs.size + 1) :: us) := .cons rfl r1
  have hl : (Value.ref (hp.objs.size + 1) :: us).length = ps.length := by rw [← r2.length]; exact F1.len _ _ _ _ hq
  have hb2 := hb ⟨h1, g, dr, tk, os⟩ (Value.ref (hp.objs.size + 1) :: us) I2.kIn (by rw [List.append_nil]; exact hl)
  rw [List.append_nil] at hb2
  show wpAny _ _ (call (.ref C) us) _ _ _
  refine wpAny_call (PySem.HandSPX.call_own FB hT hC (PySem.W.looks_findIn I1.kIn iC) (fun self => PySem.W.bind_fn I1.kIn self tI) (by rw [← Paired.length r1, sizeLine_eq]; omega) ?_)
  refine codeAny_mono (F1.run _ X.stack _ _ ⟨Value.ref (hp.objs.size + 1) :: us, []⟩ _ _ _ (fun _ _ _ => False) (hr.make C us []) (I2.env0.make C us []) hb2 r2 hq) fun r s2 z => ?_
  cases r with
  | error er => exact hx pins σ _ _ er s2 I2 z
  | ok fl =>
    cases fl with
    | ret u =>
      obtain ⟨v, H2, os2, bare2, un2, hok2, rv, ev, d, fs, ea, ed, hd1, q2⟩ := z
      subst ev
      obtain ⟨h2, g2, d2, t2, os3⟩ := s2
      obtain ⟨t0, G, J, kG, ge, hoe, na⟩ := mk_end0 (d2 := d2) (t2 := t2) I1 (Nat.le_succ _) kk un2 hok2 os2 bare2 ea ed hd1
      exact ⟨rv, _, _, _, ⟨G, g2, d2, t2, os3⟩, _, .ref C, some d, rfl, J, kG, ge, hoe, ⟨rfl, rfl, fun vs z => by cases z; rfl⟩, rfl, rfl, na, rfl, bare2, raises_own T.sub T.typ, q2⟩
    | _ => exact z.elim
end
end ExX

namespace ExX
open PySem PySem.Spec PyProof.Rows L2
/-- what an except clause's own expression t asks of an exception's class -/
def Tst (X : Cx) (t : Expr) (m : Value → Option Bool) : Prop := ∀ (a : Addr) (oe : Obj) (pn pins : List (Addr × Obj)) (σ : L2.St) (H : Hp) (s : Shared) (b : Bool) (Q : Bool → Shared → Prop) (E : Value → Shared → Prop), Inv (X.suite a ((a, oe) :: pn)) pins σ H s → m oe.cls = some b →
  (∀ h2, (∀ c o, s.heap.get? c = some o → h2.get? c = some o) → Q b { s with heap := h2 }) →
  wpAny (model X.prog X.w) (X.A.mark (some (.ref a))) (eval t X.env) (fun c s1 => wpAny (model X.prog X.w) (X.A.mark (some (.ref a))) (excMatches (.ref a) c) Q E s1) E s
section
variable {X : Cx} {x x1 x2 x3 : Str} {C C1 C2 C3 : Addr} {np np1 np2 np3 tp : Pos}
theorem tst_one (hg : Gl X x) (hm : X.mg x = some (.ref C)) (hdb : (x == ("__debug__" : Str)) = false := by decide) : Tst X (.Name x np) (fun cls => PySem.W.exmOne X.K cls (.ref C)) := by
  intro a oe pn pins σ H s b Q E I hb q
  have at1 := (I.pin (a, oe) (List.mem_append_left _ List.mem_cons_self)).1
  have lt : PySem.W.Looks (model X.prog X.w) s.heap (typeOf (.ref a)) oe.cls := fun A Q E s2 k q => wpAny_typeOf_ref (k _ _ at1) q
  exact ld_glob (X := X.suite a ((a, oe) :: pn)) I hg hm ((PySem.W.exm_one I.kIn lt hb).here (q s.heap fun _ _ e => e)) hdb
theorem tst_two {ctx} (hg1 : Gl X x1) (hm1 : X.mg x1 = some (.ref C1)) (hg2 : Gl X x2) (hm2 : X.mg x2 = some (.ref C2)) (hd1 : (x1 == ("__debug__" : Str)) = false := by decide) (hd2 : (x2 == ("__debug__" : Str)) = false := by decide) :
    Tst X (.Tuple [.Name x1 np1, .Name x2 np2] ctx tp) (fun cls => PySem.W.exmAny X.K cls [.ref C1, .ref C2]) := by
  intro a oe pn pins σ H s b Q E I hb q
  have at1 := (I.pin (a, oe) (List.mem_append_left _ List.mem_cons_self)).1
  refine wpAny_Tuple_spliced (Calls.spliced_cons (ld_glob (X := X.suite a ((a, oe) :: pn)) I hg1 hm1 (Calls.spliced_cons (ld_glob (X := X.suite a ((a, oe) :: pn)) I hg2 hm2 (Calls.spliced_nil ⟨by rw [sizeLine_eq]; simp, ?_⟩) hd2)) hd1))
  have lt : PySem.W.Looks (model X.prog X.w) (s.heap.push { cls := .type "tuple", data := .seq [Value.ref C1, .ref C2].toArray }) (typeOf (.ref a)) oe.cls := fun A Q E s2 k q => wpAny_typeOf_ref (k _ _ (Heap.get?_push_of_some _ at1)) q
  exact (PySem.W.exm_tup2 (I.kIn.keeps fun _ _ e => Heap.get?_push_of_some _ e) lt (Heap.get?_push_size _ rfl) hb).here (q _ fun _ _ e => Heap.get?_push_of_some _ e)
theorem tst_three {ctx} (hg1 : Gl X x1) (hm1 : X.mg x1 = some (.ref C1)) (hg2 : Gl X x2) (hm2 : X.mg x2 = some (.ref C2)) (hg3 : Gl X x3) (hm3 : X.mg x3 = some (.ref C3)) (hd1 : (x1 == ("__debug__" : Str)) = false := by decide) (hd2 : (x2 == ("__debug__" : Str)) = false := by decide) (hd3 : (x3 == ("__debug__" : Str)) = false := by decide) :
    Tst X (.Tuple [.Name x1 np1, .Name x2 np2, .Name x3 np3] ctx tp) (fun cls => PySem.W.exmAny X.K cls [.ref C1, .ref C2, .ref C3]) := by
  intro a oe pn pins σ H s b Q E I hb q
  have at1 := (I.pin (a, oe) (List.mem_append_left _ List.mem_cons_self)).1
  refine wpAny_Tuple_spliced (Calls.spliced_cons (ld_glob (X := X.suite a ((a, oe) :: pn)) I hg1 hm1 (Calls.spliced_cons (ld_glob (X := X.suite a ((a, oe) :: pn)) I hg2 hm2 (Calls.spliced_cons (ld_glob (X := X.suite a ((a, oe) :: pn)) I hg3 hm3 (Calls.spliced_nil ⟨by rw [sizeLine_eq]; simp, ?_⟩) hd3)) hd2)) hd1))
  have lt : PySem.W.Looks (model X.prog X.w) (s.heap.push { cls := .type "tuple", data := .seq [Value.ref C1, .ref C2, .ref C3].toArray }) (typeOf (.ref a)) oe.cls := fun A Q E s2 k q => wpAny_typeOf_ref (k _ _ (Heap.get?_push_of_some _ at1)) q
  exact (PySem.W.exm_tup3 (I.kIn.keeps fun _ _ e => Heap.get?_push_of_some _ e) lt (Heap.get?_push_size _ rfl) hb).here (q _ fun _ _ e => Heap.get?_push_of_some _ e)
end
/-- the ends with the slot i unset -/
def unset (i : Nat) (D : Ends) : Ends := { nx := fun σ H => D.nx (σ.set i none) H, rt := D.rt, bk := fun σ H => D.bk (σ.set i none) H, ct := fun σ H => D.ct (σ.set i none) H }
/-- a clause: whom it takes, the slot of its name, its suite's reading -/
structure Cl where
  m : Value → Option Bool
  slot : Option Nat
  ts : Addr → Value → Option Addr → TS
def Cl.wish (c : Cl) (D : Ends) (a : Addr) (cls : Value) (d : Option Addr) (σ : L2.St) (H : Hp) : Prop := match c.slot with
  | none => c.ts a cls d D σ H
  | some i => c.ts a cls d (unset i D) (σ.set i (some (.ref a))) H
def wCl (Wout : WX) (D : Ends) : List Cl → WX
  | [] => Wout
  | c :: r => fun cls d σ H => ∃ b, c.m cls = some b ∧ (b = true → ∀ a, H a = none → c.wish D a cls d σ H) ∧ (b = false → wCl Wout D r cls d σ H)
inductive ClsOk (X : Cx) : List ExceptHandler → List Cl → Prop
  | nil : ClsOk X [] []
  | only {t : Expr} {m : Value → Option Bool} {ts : Addr → Value → Option Addr → TS} {b0 : Stmt} {su : List Stmt} {ps : Pos} {hds : List ExceptHandler} {l : List Cl} (hc : Tst X t m)
      (hsu : ∀ (a : Addr) (oe : Obj) (cls : Value) (d : Option Addr) (pn : List (Addr × Obj)), L2N.Zn cls d oe → (∃ vs, oe.data = .fields vs) → PSs (X.suite a ((a, oe) :: pn)) (b0 :: su) (ts a cls d)) (r : ClsOk X hds l) :
      ClsOk X (.ExceptHandler (some t) none (b0 :: su) ps :: hds) (⟨m, none, ts⟩ :: l)
  | named {t : Expr} {m : Value → Option Bool} {ts : Addr → Value → Option Addr → TS} {b0 : Stmt} {su : List Stmt} {ps : Pos} {n : Str} {i : Nat} {hds : List ExceptHandler} {l : List Cl} (hN : X.N.Nodup) (hi : X.N[i]? = some n) (hln : X.env.kindOf n = some .local) (hc : Tst X t m)
      (hsu : ∀ (a : Addr) (oe : Obj) (cls : Value) (d : Option Addr) (pn : List (Addr × Obj)), L2N.Zn cls d oe → (∃ vs, oe.data = .fields vs) → PSs (X.suite a ((a, oe) :: pn)) (b0 :: su) (ts a cls d)) (r : ClsOk X hds l) :
      ClsOk X (.ExceptHandler (some t) (some n) (b0 :: su) ps :: hds) (⟨m, some i, ts⟩ :: l)
theorem flying_kept {B h h2 : Heap} {l : List Env} {a : Addr} {Z : Obj → Prop} (fl : HandSPX.FlyingZ B l a Z h) (k : ∀ c o, h.get? c = some o → h2.get? c = some o) : HandSPX.FlyingZ B l a Z h2 := by
  obtain ⟨f1, f2, f3, oe, vs, T, oT, ts, e1, e2, e3, e4, e5, e6, e7, e8⟩ := fl
  exact ⟨fun b o q => k _ _ (f1 b o q), f2, f3.of_keeps fun b o hb _ => ⟨o, k b o hb, rfl⟩, oe, vs, T, oT, ts, k _ _ e1, e2, e3, e4, e5, e6, k _ _ e7, e8⟩
section
variable {X : Cx} {body : List Stmt} {h0 : ExceptHandler} {hds : List ExceptHandler} {l : List Cl} {pos : Pos} {tb : WX → TS} {Wout : WX}
theorem ps_tryC (hs : X.stack = X.env :: X.outer) (hf : X.env.frame = some X.env.locals) (tk : L2N.Takes X Wout)
    (hb : ∀ (W : WX) (pn : List (Addr × Obj)) (xe : Value → Shared → Prop), L2N.Takes (X.tr pn xe) W → PassesOwn (model X.prog X.w) X.A X.env xe → PSs (X.tr pn xe) body (tb W)) (hh : ClsOk X (h0 :: hds) l) :
    PS X (.Try body (h0 :: hds) [] [] pos) (fun D σ H => tb (wCl Wout D l) D σ H) := by
  refine ⟨fun pins s σ H D I h => wpAny_Try_except ?_⟩
  have ok := I.ok
  have hfr : X.A.frames = some (X.env :: X.outer) := hs ▸ ok.frames
  refine wpAny_mono ((hb (wCl Wout D l) (X.pn ++ pins) (fun e s1 => wpAny (model X.prog X.w) X.A (noteFrame e X.env) (fun _ s2 => wpAny (model X.prog X.w) X.A (setFlight e none) (fun _ s3 => wpAny (model X.prog X.w) X.A (handleBy e X.env (h0 :: hds)) (SP X pins D) X.xe s3) X.xe s2) X.xe s1)
    (fun u s1 xx => ?_) PassesOwn.looking).run [] s σ H D (I.toTry _) h) (fun f s1 hsp => ?_) (fun e s1 he => he)
  · obtain ⟨a, B, sI, pinsT, σ1, H1, cls, d, rfl, J0, nb, up, sky, na, os1, ag, w⟩ := xx
    have J : Inv X pins σ1 H1 sI := J0.ofTry ok
    rw [hs] at sky
    show wpAny (model X.prog X.w) X.A (noteFrame (.ref a) X.env) _ _ _
    refine L2N.Sky.land L2N.Zn.steady hfr hf sky fun h3 fl3 up3 => ?_
    -- the clauses, from any heap in which the exception flies
    have go : ∀ {hs2 : List ExceptHandler} {l2 : List Cl}, ClsOk X hs2 l2 → ∀ h4, HandSPX.FlyingZ B (X.env :: X.outer) a (L2N.Zn cls d) h4 → sI.heap.UpToSlots h4 → wCl Wout D l2 cls d σ1 H1 →
        wpAny (model X.prog X.w) X.A (handleBy (.ref a) X.env hs2) (SP X pins D) X.xe { s1 with heap := h4 } := by
      intro hs2 l2 hk
      have su : ∀ {h5 : Heap}, HandSPX.FlyingZ B (X.env :: X.outer) a (L2N.Zn cls d) h5 → sI.heap.UpToSlots h5 → ∃ oe vs, L2N.Zn cls d oe ∧ oe.data = .fields vs ∧ Inv (X.suite a ((a, oe) :: (X.pn ++ pins))) [] σ1 H1 { s1 with heap := h5 } := fun {h5} fl5 up5 => by
        have J5 : Inv X pins σ1 H1 { s1 with heap := h5 } := J.landed nb fl5.1 up5 os1 ag
        obtain ⟨oe, vs, he, hz, hd⟩ := fl5.there
        have nfr : a ∉ frs (X.env :: X.outer) := fun hm => by
          obtain ⟨_, o2, e2, hnf⟩ := fl5.2.2.1.mem hm
          rw [he] at e2
          exact hnf vs (Option.some.inj e2 ▸ hd)
        refine ⟨oe, vs, hz, hd, J5.suite he hd na (fun z => nfr (List.mem_filterMap.mpr ⟨X.env, List.mem_cons_self, by rw [hf, z]⟩)) fun hm => ?_⟩
        obtain ⟨e, he2, q⟩ := List.mem_filterMap.mp hm
        exact nfr (List.mem_filterMap.mpr ⟨e, List.mem_cons_of_mem _ he2, q⟩)
      induction hk with
      | nil =>
        intro h4 fl4 up4 w
        refine wpAny_handleBy_nil ?_
        obtain ⟨k1, k2, k3, oe, vs, T, oT, ts2, he, hz, hd, h1, hr⟩ := id fl4
        unfold PySem.passOn
        refine wpAny_bind (wpAny_field he hd h1 ?_)
        rw [if_neg (show ¬ ((Value.ref T == Value.none) = true) from by simp)]
        have fin : wpAny (model X.prog X.w) X.A (setFlight (.ref a) X.env.frame) (fun _ s4 => wpAny (model X.prog X.w) X.A (throw (.ref a) : Sem Flow) (SP X pins D) X.xe s4) X.xe { s1 with heap := h4 } := by
          rw [hf]
          exact HandSPX.setFlight_upZ fl4 fun h5 hh5 up5 => wpAny_throw (tk _ _ ⟨a, B, sI, pins, σ1, H1, cls, d, rfl, J, nb, up4.trans up5, .inr (.inr (by rw [hs]; exact hh5)), na, os1, ag, w⟩)
        first
          | exact wpAny_bind (wpAny_pure (wpAny_bind fin))
          | exact wpAny_bind fin
      | only hc hsu r ih =>
        intro h4 fl4 up4 w
        obtain ⟨b, hb1, hyes, hno⟩ := w
        obtain ⟨oe, vs, hz, hd, S4⟩ := su fl4 up4
        refine wpAny_handleBy_cons (codeAny_handlers_test (hc a oe _ _ _ _ _ b _ _ S4 (by rw [hz.1]; exact hb1) fun h5 k5 => ?_)) (by intro q; cases q)
        have fl5 := flying_kept fl4 k5
        have up5 : sI.heap.UpToSlots h5 := up4.trans fun c o e _ => ⟨o.slots, k5 c o e⟩
        cases b with
        | true =>
          refine codeAny_handlers_suite (HandSPX.lands_againZ fl5 fun h6 fl6 up6 => ?_)
          obtain ⟨oe6, vs6, hz6, hd6, S6⟩ := su fl6 (up5.trans up6)
          refine wpAny_mono ((hsu a oe6 cls d _ hz6 ⟨_, hd6⟩).run [] _ _ H1 _ S6 (hyes rfl a na)) (fun f s6 hsp => ?_) (fun _ _ z => False.elim z)
          cases f with
          | ret u => obtain ⟨v6, σ6, H6, S7, r6, q6⟩ := hsp; exact ⟨_, _, _, S7.unsuite ok, r6, q6⟩
          | _ => obtain ⟨σ6, H6, S7, q6⟩ := hsp; exact ⟨_, _, S7.unsuite ok, q6⟩
        | false => exact ih h5 fl5 up5 (hno rfl)
      | @named t m ts b0 sui ps n i hds3 l3 hN hi hln hc hsu r ih =>
        intro h4 fl4 up4 w
        obtain ⟨b, hb1, hyes, hno⟩ := w
        obtain ⟨oe, vs, hz, hd, S4⟩ := su fl4 up4
        refine wpAny_handleBy_cons (codeAny_handlers_test (hc a oe _ _ _ _ _ b _ _ S4 (by rw [hz.1]; exact hb1) fun h5 k5 => ?_)) (by intro q; cases q)
        have fl5 := flying_kept fl4 k5
        have up5 : sI.heap.UpToSlots h5 := up4.trans fun c o e _ => ⟨o.slots, k5 c o e⟩
        cases b with
        | true =>
          refine codeAny_handlers_suite_as (HandSPX.lands_againZ fl5 fun h6 fl6 up6 => ?_)
          obtain ⟨oe6, vs6, hz6, hd6, S6⟩ := su fl6 (up5.trans up6)
          refine store_ok (X := X.suite a ((a, oe6) :: (X.pn ++ pins))) (v := .ref a) S6 hN hi (.inl hln) rfl (fun s7 S7 => ?_) (.inr hln)
          refine wpAny_mono ((hsu a oe6 cls d _ hz6 ⟨_, hd6⟩).run [] s7 _ H1 _ S7 (hyes rfl a na)) (fun f s8 hsp => ?_) (fun _ _ z => False.elim z)
          have fin : ∀ {σ8 : L2.St} {H8 : Hp} {Q : Shared → Prop}, Inv (X.suite a ((a, oe6) :: (X.pn ++ pins))) [] σ8 H8 s8 → (∀ s9, Inv X pins (σ8.set i none) H8 s9 → Q s9) →
              wpAny (model X.prog X.w) X.A (do bindName X.env n .none; unbindBehindTheSuite X.env n ps) (fun _ s9 => Q s9) X.xe s8 := fun {σ8 H8 Q} S8 hq => gone_ok (S8.unsuite ok) hN hi hln hq
          cases f with
          | ret u => obtain ⟨v8, σ8, H8, S8, r8, q8⟩ := hsp; exact fin S8 fun s9 J9 => ⟨_, _, _, J9, r8, q8⟩
          | _ => obtain ⟨σ8, H8, S8, q8⟩ := hsp; exact fin S8 fun s9 J9 => ⟨_, _, J9, q8⟩
        | false => exact ih h5 fl5 up5 (hno rfl)
    exact go hh h3 fl3 (up.trans up3) w
  · cases f with
    | next =>
      obtain ⟨σ1, H1, J, q⟩ := hsp
      exact wpAny_execs_nil ⟨σ1, H1, J.ofTry ok, q⟩
    | ret u =>
      obtain ⟨v, σ1, H1, J, r, q⟩ := hsp
      exact ⟨v, σ1, H1, J.ofTry ok, r, q⟩
    | _ =>
      obtain ⟨σ1, H1, J, q⟩ := hsp
      exact ⟨σ1, H1, J.ofTry ok, q⟩
end
end ExX

namespace ExX
open PySem PySem.Spec PyProof.Rows L2
/-- a promise that also speaks of the exception that is handled: its place, class and dict -/
abbrev SpE := Addr → Value → Option Addr → Sp
structure FnE (P : Program) (w : World) (K : PySem.W.Frag) (mg : Str → Option Value) (base : Heap) (CX : CXT) (k : Nat) (f : Addr) (fd : FuncData) (ps : List Str) (sp : SpE) : Prop where
  len : ∀ a cls d vs H Q E, sp a cls d vs H Q E → vs.length = ps.length
  run : ∀ (A : Around) (outer : List Env) (s : Shared) (H : Hp) (args : Args) (us : List Value) (vs : List V) (Q : VK) (E : XK) (p : Addr × Obj) (cls : Value) (d : Option Addr), L2H.RoomH k A → Zc cls d p.2 → (∃ z, p.2.data = .fields z) → L2H.PinOk outer H s p → Env0 P w K mg base A outer s H →
    BindsTo s fd args (ps.zip us) → Vals vs us → sp p.1 cls d vs H Q E → codeAny (model P w) A (.call (.ref f) args) (CR CX outer P w H s Q E) s
theorem fn_ofE {CX : CXT} {P : Program} {w : World} {K : PySem.W.Frag} {mg : Str → Option Value} {base : Heap} {k : Nat} {f : Addr} {name qual : Str} {params : Arguments} {body : List Stmt} {scope : Scope} {dV kV doc pm cdv ct oc : Value} {an od : Option Addr} {osl : Array (Option Value)} {N ps : List Str} {sp : SpE}
    (lk : K.lookup f = some ⟨oc, od, .func (PySem.W.fnOf name qual params body scope dV kV doc pm an cdv ct), osl⟩) (hcd : PySem.W.codeIn K cdv qual = true) (S : FnScope N ps scope) (len : ∀ a cls d vs H Q E, sp a cls d vs H Q E → vs.length = ps.length)
    (hbody : ∀ (A : Around) (outer : List Env) (s : Shared) (H : Hp) (vs : List V) (Q : VK) (E : XK) (p : Addr × Obj) (cls : Value) (d : Option Addr), Zc cls d p.2 → (∃ z, p.2.data = .fields z) → L2H.RoomH k (A.deeper (envOfC qual scope s.heap.objs.size f cdv)) → sp p.1 cls d vs H Q E →
      ∃ t, PSs (L2H.cxH CX P w K mg base N qual scope f cdv A outer s H E p) body t ∧ t { nx := fun _ H1 => Q .non H1, rt := Q } (L2.start N vs) H) :
    FnE P w K mg base CX (k + 1) f (PySem.W.fnOf name qual params body scope dV kV doc pm an cdv ct) ps sp := by
  refine ⟨len, fun A outer s H args us vs Q E p cls d hr hz hd hpin e0 hb r hsp => ?_⟩
  have KX : K.In s.heap := e0.mod.kin.keeps fun b o e => (e0.bs b o e).1
  have hkind : ∀ y ∈ ps.zip us, scope.names.lookup y.1 = some .local ∨ (scope.names.lookup y.1 = some .cell ∧ ((cellsFrom (s.heap.objs.size + 1) scope.names []).lookup y.1).isSome = true) := fun y hy =>
    (S.par y.1 (List.of_mem_zip hy).1).imp id fun q => ⟨q, PySem.W.cellsFrom_some _ _ _ (.inl q)⟩
  refine codeAny_call_function hr.depth (KX _ _ lk) rfl S.co S.gen rfl (PySem.W.codeRec_of KX hcd) (hb _ _ _ _ (wpAny_newFunctionEnv_cells S.kind hkind fun env he s1 x => ?_))
  subst he
  refine ⟨(e0.mod.nolimit.keeps fun b o e => (e0.bs b o e).1).keeps x.toInCall.keep, codeAny_func ?_⟩
  obtain ⟨t, ht, hq⟩ := hbody A outer s H vs Q E p cls d hz hd (hr.deeper _) hsp
  have I : Inv (L2H.cxH CX P w K mg base N qual scope f cdv A outer s H E p) [] (L2.start N vs) H s1 := L2H.inv_startH S hpin e0 (len _ _ _ _ _ _ _ hsp) r x
  refine wpAny_mono (ht.run [] s1 (L2.start N vs) H _ I hq) (fun fl s2 hs => ?_) fun e s2 hs => hs
  cases fl with
  | ret u =>
    obtain ⟨v, σ2, H2, J, rv, q⟩ := hs
    exact ⟨v, H2, J.os, J.bare, J.base, J.hok, rv, q⟩
  | next =>
    obtain ⟨σ2, H2, J, q⟩ := hs
    exact ⟨V.non, H2, J.os, J.bare, J.base, J.hok, rfl, q⟩
  | brk =>
    obtain ⟨_, _, _, q⟩ := hs
    exact q.elim
  | cont =>
    obtain ⟨_, _, _, q⟩ := hs
    exact q.elim
/-- the field f of the handled exception -/
def tFe (K : PySem.W.Frag) (a : Addr) (cls : Value) (d : Option Addr) (f : Str) (te : TE) : TE := fun σ H Q => te σ H fun x H1 => x = .ref a ∧
  ∃ (C dd : Addr) (fs : List (Str × V)) (v : V), cls = .ref C ∧ XfC K C ∧ PySem.W.findIn K (.ref C) f = some none ∧ d = some dd ∧ H1 dd = some (.xd fs) ∧ fs.lookup f = some v ∧ Q v H1
section
variable {X : Cx} {a : Addr} {oe : Obj} {cls : Value} {d : Option Addr} {e : Expr} {te : TE} {pos q : Pos} {n x : Str}
theorem pe_fe (hp : (a, oe) ∈ X.pn) (hz : Zc cls d oe) (hf : ∃ z, oe.data = .fields z) (he : PE X e te) (hb : attributeBase e n X.env (eval e X.env) = eval e X.env := by rfl) : PE X (.Attribute e n pos) (tFe X.K a cls d n te) := by
  refine ⟨fun pins s σ H Q I h => attr_of hb (thn (he.run pins s σ H _ I h) fun u s1 ⟨z, H1, I1, rx, ex, C, dd, fs, v, ec, T, hno, ed, ea, l, w⟩ => ?_)⟩
  subst ex ec ed
  obtain rfl : u = Value.ref a := rx
  have ha := (I1.pin (a, oe) (List.mem_append_left _ hp)).1
  obtain ⟨vs, hd⟩ := hf
  obtain ⟨mA, hns, hr⟩ : ObjOk X.prog X.w H1 s1.heap dd (.xd fs) := I1.hok dd _ ea
  obtain ⟨od, ho, hl⟩ := lookIn_ns hns
  obtain ⟨u, hu, ru⟩ := RelO.some_of (v := v) (o := mA n) (by rw [← l]; exact hr n)
  exact HandSPX.exc_get I1.kIn (⟨ha, hz.1, by unfold PySem.W.notCls; rw [hd] <;> rfl, by rw [hz.2]; exact ho⟩ : PySem.W.InstAt s1.heap a oe C (some od)) T.ga T.gg T.exC (PySem.W.findObj_own T.hdC hno rfl (by rw [hl, hu])) (handed_of ru) ⟨v, H1, I1.tok _, ru, w⟩
variable {CX : CXT} {k : Nat} {f : Addr} {fd : FuncData} {ps : List Str} {sp : SpE} {E : XK} {es : List Expr} {t : TA}
/-- f(e, ..) where an exception is handled -/
theorem pe_callE (F : FnE X.prog X.w X.K X.mg X.base CX k f fd ps sp) (hr : L2H.RoomH k X.A) (hp : (a, oe) ∈ X.pn) (hz : Zc cls d oe) (hf : ∃ z, oe.data = .fields z) (hg : Gl X x) (hm : X.mg x = some (.ref f)) (hk : PySem.W.keepIn X.K (.ref f) = true) (hb : L2.Binds X.K fd ps []) (hx : Passes CX X E)
    (hargs : PA X (e :: es) t) (hdb : (x == ("__debug__" : Str)) = false := by decide) (he : starEach (e :: es) X.env = (false, eval e X.env) :: starEach es X.env := by rfl) (hpl : (backTo pos (starEach es X.env)).any (·.1) = false := by rfl) :
    PE X (.Call (.Name x q) (e :: es) [] pos) (tCall (sp a cls d) [] E t) := by
  refine ⟨fun pins s σ H Q I h => wpAny_Call_Name_kw (ld_glob I hg hm ?_ hdb)⟩
  refine PySem.W.callWith_K (h₀ := X.base) I.ok.mod.kin hk (thn (hargs.run pos pins s σ H _ I h) fun us s1 ⟨vs, H1, I1, r, w⟩ => ⟨I1.kIn, ?_⟩) he hpl
  replace w : sp a cls d (vs ++ []) H1 Q E := w
  rw [List.append_nil] at w
  have hl : us.length = ps.length := by rw [← r.length]; exact F.len _ _ _ _ _ _ _ w
  have b := hb s1 us I1.kIn (by rw [List.append_nil]; exact hl)
  rw [List.append_nil] at b
  have P1 := I1.pin (a, oe) (List.mem_append_left _ hp)
  have hpin : L2H.PinOk X.stack H1 s1 (a, oe) := ⟨P1.1, P1.2.1, fun hm => (List.mem_cons.mp (I1.stkSub a hm)).elim P1.2.2.1 P1.2.2.2.1, P1.2.2.2.2⟩
  refine wpAny_call (codeAny_mono (F.run X.A X.stack s1 H1 ⟨us, []⟩ us vs Q E (a, oe) cls d hr hz hf hpin I1.env0 b r w) fun r s2 hq => ?_)
  cases r with
  | error e => exact hx pins σ H1 s1 e s2 I1 hq
  | ok fl =>
    cases fl with
    | ret u => exact I1.after hq
    | _ => exact hq.elim
end
end ExX

namespace ExX
open PySem PySem.Spec PyProof.Rows L2 LamX
theorem un_over {fs fs2 : List Addr} {H H1 H2 : Hp} {h h1 h2 : Heap} (a : Un fs [] H H1 h h1) (b : Un fs2 [] H1 H2 h1 h2) (hl : ∀ c ∈ fs2, c ∈ fs ∨ h.objs.size ≤ c) : Un fs [] H H2 h h2 where
  keep := fun c o q n hc _ => b.keep c o (a.keep c o q n hc (by simp)) (a.free c o q n (by simp)) (fun z => (hl c z).elim hc fun y => Nat.not_lt.mpr y (Heap.lt_size q)) (by simp)
  slot := fun c o q n hc _ => by
    obtain ⟨sl, e⟩ := a.slot c o q n hc (by simp)
    obtain ⟨sl2, e2⟩ := b.any e (a.free c o q n (by simp)) (by simp)
    exact ⟨sl2, e2⟩
  free := fun c o q n _ => by
    obtain ⟨sl, e⟩ := a.any q n (by simp)
    exact b.free c _ e (a.free c o q n (by simp)) (by simp)
  there := fun c o q _ => by
    obtain ⟨o1, e⟩ := a.there c o q (by simp)
    exact b.there c o1 e (by simp)
  tups := fun c xs q => b.tups c xs (a.tups c xs q)
  frzs := fun c o u q => b.frzs c o u (a.frzs c o u q)
  tbls := fun c ps q => by
    obtain ⟨m, e⟩ := a.tbls c ps q
    obtain ⟨m2, e2⟩ := b.tbls c _ e
    exact ⟨m ++ m2, by rw [e2, Array.append_assoc]⟩
/-- the lambda at f, its code object at c2, made in X -/
def CloO (X : Cx) (params : Arguments) (body : Expr) (scope : Scope) (f c2 : Addr) : HO := .ext fun h => ∃ pm ctv : Value, h.get? f = some (PySem.W.kla_obj "<lambda>" (X.env.qual ++ "<lambda>") params body scope (cloFrom X.env.cells scope.names []) pm c2 ctv)
theorem cloO_tbl {X : Cx} {params : Arguments} {body : Expr} {scope : Scope} {f c2 : Addr} (ps : Array Value) : CloO X params body scope f c2 ≠ .tbl ps := fun z => by
  unfold CloO at z
  cases z
theorem clo_ok {X : Cx} {params : Arguments} {body : Expr} {scope : Scope} {f c2 : Addr} {P : Program} {w : World} {H : Hp} {h : Heap} {pm ctv : Value} (e : h.get? f = some (PySem.W.kla_obj "<lambda>" (X.env.qual ++ "<lambda>") params body scope (cloFrom X.env.cells scope.names []) pm c2 ctv)) :
    ObjOk P w H h f (CloO X params body scope f c2) := ⟨⟨pm, ctv, e⟩, ⟨_, e⟩, fun h1 h2 ⟨a, b, c⟩ st => ⟨a, b, st _ c⟩⟩
section
variable {X : Cx} {pins : List (Addr × Obj)} {σ : L2.St} {H : Hp} {s : Shared}
/-- a lambda is made and tracked -/
theorem lam_made {T : List (Addr × Str)} {c P : Addr} {params : Arguments} {body : Expr} {scope : Scope} {pos : Pos} {E : Value → Shared → Prop} {Q : Value → Shared → Prop} (I : Inv X pins σ H s) (TB : TabB X.base X.mg c P) (hcode : X.env.code = .ref c)
    (hm : (P, X.env.qual ++ "<lambda>") ∈ T) (hu : ∀ p ∈ T, p.1 = P → p.2 = X.env.qual ++ "<lambda>") (hT : Tabs T H) (hdef : defaultsOf params X.env = ([], [])) (hfree : ∀ y ∈ scope.names, y.2 = .free → ∃ c, X.env.cells.lookup y.1 = some c)
    (h : ∀ (f c2 : Addr) (H1 : Hp) (s1 : Shared), Inv X pins σ (upd H1 f (CloO X params body scope f c2)) s1 → ExtN H H1 → Tabs T H1 → H1 f = none → H1 c2 = some (CodeO c2 (X.env.qual ++ "<lambda>")) → Q (.ref f) s1) :
    wpAny (model X.prog X.w) X.A (eval (.Lambda params body scope pos) X.env) Q E s := by
  obtain ⟨ps, hP, ht, ha⟩ := hT _ hm
  refine PySem.W.kla_eval hdef ?_
  have bP : s.heap.BuiltinsAt X.mg P := TB.bm.keeps I.bk
  have hPs : s.heap.get? P = some { cls := .none, data := .fields ps } := I.hok P _ hP
  cases hc : codeAmong pos ps.toList with
  | none =>
    refine PySem.W.kla_makeFunction (mg := X.mg) (c := c) (P := P) (ps := ps) (closure_ok hfree) I.ok.glob (I.mod.glob.keeps I.bk) hcode (TB.code.keeps I.bk) hPs ht hc TB.gP bP fun c2 ctv h2 tk hx hge hlt hrec htb => ?_
    obtain ⟨c3, oc, vs, t, e2, hoc, hd, hv⟩ := hrec
    cases e2
    have nC : H c2 = none := I.hok.fresh hge
    have I1 := inv_table (t' := tk) (more := #[rawInt pos.line, rawInt pos.col, .ref c2]) (h' := h2) I hP hx htb hge ⟨oc, vs, t, hoc, hd, hv⟩
    have hE : ExtN H (upd (upd H P (.tbl (ps ++ #[rawInt pos.line, rawInt pos.col, .ref c2]))) c2 (CodeO c2 (X.env.qual ++ "<lambda>"))) := fun b o e n => by
      rw [upd_ne (ne_of_none e nC), upd_ne (show b ≠ P from fun z => n ps (Option.some.inj (e.symm.trans (by rw [z]; exact hP))))]
      exact e
    have eL : (ps ++ #[rawInt pos.line, rawInt pos.col, .ref c2]).toList = ps.toList ++ [rawInt pos.line, rawInt pos.col, .ref c2] := by simp
    refine h h2.objs.size c2 _ _ (I1.laid (t' := tk) (fun _ _ e => Heap.get?_push_of_some _ e) (Nat.le_refl _) (clo_ok (Heap.get?_push_size _ rfl))) hE (fun p hp => ?_) (I1.hok.fresh (Nat.le_refl _)) upd_same
    by_cases hb : p.1 = P
    · refine ⟨_, by rw [hb, upd_ne (ne_of_none hP nC), upd_same], by rw [eL]; exact PySem.TriplesOk_snoc _ _ _ _ ht, fun pz cv hcv => ?_⟩
      rw [eL] at hcv
      rw [hu p hp hb]
      rcases among_app _ ht hcv with z | z
      · obtain ⟨c0, e1, e2⟩ := ha pz cv z
        exact ⟨c0, e1, hE _ _ e2 codeO_ne⟩
      · exact ⟨c2, z, upd_same⟩
    · obtain ⟨psz, a1, a2, a3⟩ := hT p hp
      refine ⟨psz, by rw [upd_ne (ne_of_none a1 nC), upd_ne hb]; exact a1, a2, fun pz cv hcv => ?_⟩
      obtain ⟨c0, e1, e2⟩ := a3 pz cv hcv
      exact ⟨c0, e1, hE _ _ e2 codeO_ne⟩
  | some cv =>
    obtain ⟨c2, e, hco⟩ := ha pos cv hc
    subst e
    refine PySem.W.kla_makeFunctionHit (mg := X.mg) (c := c) (P := P) (ps := ps) (closure_ok hfree) I.ok.glob (I.mod.glob.keeps I.bk) hcode (TB.code.keeps I.bk) hPs ht hc bP fun ctv h2 tk hx hsz => ?_
    have I1 : Inv X pins σ H { s with heap := h2, toks := tk } := I.kept hx
    exact h h2.objs.size c2 H _ (I1.laid (t' := tk) (fun _ _ e => Heap.get?_push_of_some _ e) (Nat.le_refl _) (clo_ok (Heap.get?_push_size _ rfl))) (ExtN.refl H) hT (I1.hok.fresh (Nat.le_refl _)) hco
end
/-- what is at f acts as tl tells, called from behind s0, H0 -/
structure Acts (P : Program) (w : World) (K : PySem.W.Frag) (mg : Str → Option Value) (base : Heap) (k : Nat) (fs : List Addr) (f : Addr) (s0 : Shared) (H0 : Hp) (tl : XK → Hp → VK → Prop) : Prop where
  fn : ∀ (s1 : Shared) (HZ : Hp) (Q : VK) (E : XK), HOk P w HZ s1.heap → tl E HZ Q → PySem.W.FnAt f s1.heap
  run : ∀ (A : Around) (outer : List Env) (s1 : Shared) (HZ : Hp) (Q : VK) (E : XK), Room k A → Env0 P w K mg base A outer s1 HZ → Un fs [] H0 HZ s0.heap s1.heap → tl E HZ Q →
    codeAny (model P w) A (.call (.ref f) ⟨[], []⟩) (CR (L2N.CX P w) outer P w HZ s1 Q E) s1
/-- the context of a lambda's body: what is raised there has no context of its own -/
abbrev lamC (X : Cx) (A : Around) (outer : List Env) (s : Shared) (H : Hp) (E : XK) (scope : Scope) (f c2 : Addr) : Cx := (lamCx X A outer s H E scope f c2).wish fun e s1 =>
  wpAny (model X.prog X.w) (A.deeper (lamEnv X scope s.heap.objs.size f c2)) (leaving (lamEnv X scope s.heap.objs.size f c2) e) (fun _ s2 => L2N.CX X.prog X.w outer H s E e s2) (fun e2 s2 => L2N.CX X.prog X.w outer H s E e2 s2) s1
/-- a lambda of X's text: what its body reads -/
structure LamD (X : Cx) (k : Nat) where
  params : Arguments
  body : Expr
  scope : Scope
  tb : XK → TE
  L : LamS X.env.scope scope
  hbind : ∀ (q : Str) (cl : List (Str × Addr)) (pm cv ctv : Value), bindArgs (PySem.W.kla_fn "<lambda>" q params body scope cl pm cv ctv) ⟨[], []⟩ = pure []
  hbody : ∀ (f c2 : Addr) (E : XK) (A : Around) (outer : List Env) (s : Shared) (H : Hp), Room k (A.deeper (lamEnv X scope s.heap.objs.size f c2)) → PE (lamC X A outer s H E scope f c2) body (tb E)
/-- such a lambda stands at f -/
def LamD.At {X : Cx} {k : Nat} (D : LamD X k) (f : Addr) (H : Hp) : Prop := ∃ c2, H f = some (CloO X D.params D.body D.scope f c2) ∧ H c2 = some (CodeO c2 (X.env.qual ++ "<lambda>"))
/-- what it does, made with the slots σ -/
def LamD.does {X : Cx} {k : Nat} (D : LamD X k) (f : Addr) (σ : L2.St) : XK → Hp → VK → Prop := fun E HZ Q => D.At f HZ ∧ D.tb E σ HZ Q
section
variable {X : Cx} {pins : List (Addr × Obj)} {σ : L2.St} {H : Hp} {s : Shared}
theorem acts_of {k : Nat} (D : LamD X k) {f : Addr} (I : Inv X pins σ H s) : Acts X.prog X.w X.K X.mg X.base (k + 1) (frs X.stack) f s H (D.does f σ) := by
  refine ⟨fun s1 HZ Q E hok ⟨⟨c2, hcf, hcc⟩, ht⟩ => ?_, fun A outer s1 HZ Q E hr e0 un ⟨⟨c2, hcf, hcc⟩, ht⟩ => ?_⟩
  · obtain ⟨⟨pm, ctv, of1⟩, _, _⟩ := hok f _ hcf
    exact ⟨_, _, _, _, of1⟩
  obtain ⟨⟨pm, ctv, of1⟩, _, _⟩ := e0.hok f _ hcf
  obtain ⟨⟨oc, vs, t, hoc, hdc, hvc⟩, _, _⟩ := e0.hok c2 _ hcc
  refine PySem.W.kla_callFunE hr.depth of1 rfl D.L.co D.L.gen rfl ⟨c2, oc, vs, t, rfl, hoc, hdc, hvc⟩ ?_
  rw [D.hbind]
  have lim : s1.heap.NoLimit := e0.mod.nolimit.keeps fun b o e => (e0.bs b o e).1
  refine wpAny_pure (wpAny_newFunctionEnv (fun y hy => (D.L.own y hy).2) (fun y hy => absurd hy (by simp)) (fun h1 hns hsb => ⟨lim.fresh _ hsb, ?_⟩) D.L.kind)
  show codeAny _ _ (.expr D.body (lamEnv X D.scope s1.heap.objs.size f c2)) _ _
  have kp : ∀ b o, s1.heap.get? b = some o → h1.get? b = some o := fun b o e => hsb.extBut b o (Nat.ne_of_lt (Heap.lt_size e)) (Heap.get?_push_of_some _ e)
  have J : Inv (lamCx X A outer s1 HZ E D.scope f c2) [] σ HZ { s1 with heap := h1, toks := s1.toks + ([] : List (Str × Value)).length } := lam_start2 I D.L e0 hr.hd un hns kp
  refine PySem.W.kla_codeExpr (wpAny_mono ((D.hbody f c2 E A outer s1 HZ (hr.deeper _)).run [] _ _ HZ Q (J.wish _) ht) (fun v s2 hq => ?_) fun e s2 hq => hq)
  obtain ⟨w2, H2, J2, rv, q⟩ := hq
  exact ⟨w2, H2, J2.os, J2.bare, J2.base, J2.hok, rv, q⟩
end
/-- a(), a the name of what acts -/
theorem pe_do {Z : Cx} {W : WX} {k i : Nat} {a : Str} {f : Addr} {fs : List Addr} {s0 : Shared} {H0 : Hp} {tl : XK → Hp → VK → Prop} {p1 p2 : Pos} (ac : Acts Z.prog Z.w Z.K Z.mg Z.base k fs f s0 H0 tl) (hr : Room k Z.A) (hex : Z.ex = []) (hU : Un fs [] H0 Z.H_0 s0.heap Z.s_0.heap)
    (ho : ∀ c ∈ frs Z.outer, c ∈ fs ∨ s0.heap.objs.size ≤ c) (tk : L2N.Takes Z W) (hN : Z.N[i]? = some a) (hv : Vis Z.env.scope a) (hd : (a == ("__debug__" : Str)) = false := by decide) (hcd : (a == ("__classdict__" : Str)) = false := by decide) :
    PE Z (.Call (.Name a p1) [] [] p2) (fun σ H Q => σ[i]? = some (some (.ref f)) ∧ ∃ (E1 : XK) (Q1 : VK), tl E1 H Q1 ∧ (∀ cls d H1, E1 cls d H1 → W cls d σ H1) ∧ ∀ v H1, Q1 v H1 → Q v H1) := by
  refine ⟨fun pins s σ H Q I ⟨hs, E1, Q1, ht, hE, hQ⟩ => wpAny_Call_Name_kw (thn ((pe_var (pos := p1) (i := i) hN hv hd hcd).run pins s σ H (fun v H1 => v = .ref f ∧ H1 = H) I ⟨.ref f, hs, rfl, rfl⟩) fun u s1 ⟨v, H1, I1, r1, ev, eH⟩ => ?_)⟩
  subst ev eH
  obtain rfl : u = Value.ref f := r1
  have base : Un (frs Z.outer) [] Z.H_0 H1 Z.s_0.heap s1.heap := hex ▸ I1.base
  refine PySem.W.callWith_F0 (ac.fn _ _ _ _ I1.hok ht) (wpAny_call (codeAny_mono (ac.run Z.A Z.stack s1 H1 Q1 E1 hr I1.env0 (un_over hU base ho) ht) fun r s2 hq => ?_))
  cases r with
  | error e => exact tk e s2 (L2N.XE.of_call I1 (fun cls d H2 z => hE cls d H2 z) hq)
  | ok fl =>
    cases fl with
    | ret u =>
      obtain ⟨v, H2, c1, c2, c3, c4, c5, c6⟩ := hq
      exact I1.after ⟨v, H2, c1, c2, c3, c4, c5, hQ _ _ c6⟩
    | _ => exact hq.elim
/-- a def of one parameter, handed what acts; it lets nothing out -/
structure FnL (P : Program) (w : World) (K : PySem.W.Frag) (mg : Str → Option Value) (base : Heap) (k : Nat) (g : Addr) (TT : (XK → Hp → VK → Prop) → Hp → VK → Prop) : Prop where
  run : ∀ (kk : Nat) (f : Addr) (fs : List Addr) (s0 : Shared) (H0 : Hp) (tl : XK → Hp → VK → Prop), Acts P w K mg base kk fs f s0 H0 tl → ∀ (A : Around) (outer : List Env) (s : Shared) (H : Hp) (Q : VK), Room (kk + k) A → Env0 P w K mg base A outer s H → Un fs [] H0 H s0.heap s.heap →
    (∀ c ∈ frs outer, c ∈ fs ∨ s0.heap.objs.size ≤ c) → s0.heap.objs.size ≤ s.heap.objs.size → TT tl H Q → codeAny (model P w) A (.call (.ref g) ⟨[.ref f], []⟩) (CR C8.CX0 outer P w H s Q C8.E0) s
section
variable {P : Program} {w : World} {K : PySem.W.Frag} {mg : Str → Option Value} {base : Heap} {k : Nat} {g : Addr} {TT : (XK → Hp → VK → Prop) → Hp → VK → Prop}
theorem fnL_of {x qual a : Str} {st : Stmt} {fd : FuncData} {N : List Str} (F : Fun K x qual st g fd) (S : FnScope N [a] (defScope st)) (hb : L2.Binds K fd [a] [])
    (hbody : ∀ (kk : Nat) (f : Addr) (fs : List Addr) (s0 : Shared) (H0 : Hp) (tl : XK → Hp → VK → Prop), Acts P w K mg base kk fs f s0 H0 tl → ∀ (cdv : Value) (A : Around) (outer : List Env) (s : Shared) (H : Hp) (Q : VK), Room (kk + k) (A.deeper (envOfC qual (defScope st) s.heap.objs.size g cdv)) → Un fs [] H0 H s0.heap s.heap →
      (∀ c ∈ frs outer, c ∈ fs ∨ s0.heap.objs.size ≤ c) → s0.heap.objs.size ≤ s.heap.objs.size → TT tl H Q → ∃ t, PSs (cxOf C8.CX0 P w K mg base N qual (defScope st) g cdv A outer s H C8.E0) (defBody st) t ∧ t { nx := fun _ H1 => Q .non H1, rt := Q } (L2.start N [.ref f]) H) :
    FnL P w K mg base (k + 1) g TT := by
  refine ⟨fun kk f fs s0 H0 tl ac A outer s H Q hr e0 hU ho hz ht => ?_⟩
  obtain ⟨oc, od, kV, doc, pm, an, cdv, ct, osl, rfl, lk, hcd⟩ := F.ex
  have b := hb s [.ref f] (e0.mod.kin.keeps fun b o e => (e0.bs b o e).1) rfl
  exact run_ofS (k := kk + k) (N := N) (ps := [a]) (us := [.ref f]) (vs := [.ref f]) lk hcd S hr e0 b (.cons rfl .nil) rfl fun hr2 => hbody kk f fs s0 H0 tl ac cdv A outer s H Q hr2 hU ho hz ht
end
section
variable {Z : Cx} {k kk i : Nat} {g : Addr} {TT : (XK → Hp → VK → Prop) → Hp → VK → Prop} {x a : Str} {p p1 pos : Pos}
/-- x(a), a the name of what acts -/
theorem pe_hand {f : Addr} {fs : List Addr} {s0 : Shared} {H0 : Hp} {tl : XK → Hp → VK → Prop} (G : FnL Z.prog Z.w Z.K Z.mg Z.base k g TT) (ac : Acts Z.prog Z.w Z.K Z.mg Z.base kk fs f s0 H0 tl) (hr : Room (kk + k) Z.A) (hex : Z.ex = []) (hU : Un fs [] H0 Z.H_0 s0.heap Z.s_0.heap)
    (ho : ∀ c ∈ frs Z.stack, c ∈ fs ∨ s0.heap.objs.size ≤ c) (hg : Gl Z x) (hm : Z.mg x = some (.ref g)) (hk : PySem.W.keepIn Z.K (.ref g) = true) (hN : Z.N[i]? = some a) (hv : Vis Z.env.scope a) (hos : ∀ c ∈ frs Z.outer, c ∈ frs Z.stack) (hz : s0.heap.objs.size ≤ Z.s_0.heap.objs.size) (hdb : (x == ("__debug__" : Str)) = false := by decide) (hd : (a == ("__debug__" : Str)) = false := by decide)
    (hcd : (a == ("__classdict__" : Str)) = false := by decide) (he : starEach [Expr.Name a p1] Z.env = (false, eval (.Name a p1) Z.env) :: starEach [] Z.env := by rfl) (hpl : (backTo pos (starEach [] Z.env)).any (·.1) = false := by rfl) :
    PE Z (.Call (.Name x p) [.Name a p1] [] pos) (fun σ H Q => σ[i]? = some (some (.ref f)) ∧ TT tl H Q) := by
  refine ⟨fun pins s σ H Q I ⟨hs, ht⟩ => wpAny_Call_Name_kw (ld_glob I hg hm ?_ hdb)⟩
  refine PySem.W.callWith_K (h₀ := Z.base) I.ok.mod.kin hk (thn ((pa_cons (pe_var (pos := p1) (i := i) hN hv hd hcd) pa_nil).run pos pins s σ H (fun vs H1 => vs = [.ref f] ∧ H1 = H) I ⟨.ref f, hs, rfl, rfl⟩) fun us s1 ⟨vs, H1, I1, r, ev, eH⟩ => ⟨I1.kIn, ?_⟩) he hpl
  subst ev eH
  cases r with
  | @cons _ u0 _ ur ra rw2 =>
    cases rw2
    obtain rfl : u0 = Value.ref f := ra
    have base : Un (frs Z.outer) [] Z.H_0 H1 Z.s_0.heap s1.heap := hex ▸ I1.base
    refine wpAny_call (codeAny_mono (G.run kk f fs s0 H0 tl ac Z.A Z.stack s1 H1 Q hr I1.env0 (un_over hU base fun c hc => ho c (hos c hc)) ho (Nat.le_trans hz I1.sz) ht) fun r s2 hq => ?_)
    cases r with
    | error e => exact (show False from hq).elim
    | ok fl =>
      cases fl with
      | ret u => exact I1.after hq
      | _ => exact hq.elim
/-- x(e), e giving a lambda of the def's own text -/
theorem pe_give {e : Expr} {te : TE} (G : FnL Z.prog Z.w Z.K Z.mg Z.base k g TT) (hr : Room (kk + 1 + k) Z.A) (hg : Gl Z x) (hm : Z.mg x = some (.ref g)) (hk : PySem.W.keepIn Z.K (.ref g) = true) (h1 : PE Z e te) (hdb : (x == ("__debug__" : Str)) = false := by decide)
    (he : starEach [e] Z.env = (false, eval e Z.env) :: starEach [] Z.env := by rfl) (hpl : (backTo pos (starEach [] Z.env)).any (·.1) = false := by rfl) :
    PE Z (.Call (.Name x p) [e] [] pos) (fun σ H Q => te σ H fun v H1 => ∃ (f : Addr) (D : LamD Z kk), [v] = [V.ref f] ∧ TT (D.does f σ) H1 Q) := by
  refine ⟨fun pins s σ H Q I h => wpAny_Call_Name_kw (ld_glob I hg hm ?_ hdb)⟩
  refine PySem.W.callWith_K (h₀ := Z.base) I.ok.mod.kin hk (thn ((pa_cons h1 pa_nil he).run pos pins s σ H (fun vs H1 => ∃ (f : Addr) (D : LamD Z kk), vs = [.ref f] ∧ TT (D.does f σ) H1 Q) I h) fun us s1 ⟨vs, H1, I1, r, f, D, ev, ht⟩ => ⟨I1.kIn, ?_⟩) he hpl
  subst ev
  cases r with
  | @cons _ u0 _ ur ra rw2 =>
    cases rw2
    obtain rfl : u0 = Value.ref f := ra
    refine wpAny_call (codeAny_mono (G.run (kk + 1) f (frs Z.stack) s1 H1 _ (acts_of D I1) Z.A Z.stack s1 H1 Q hr I1.env0 Un.refl (fun c hc => .inl hc) (Nat.le_refl _) ht) fun r s2 hq => ?_)
    cases r with
    | error e => exact (show False from hq).elim
    | ok fl =>
      cases fl with
      | ret u => exact I1.after hq
      | _ => exact hq.elim
/-- lambda: body -/
theorem pe_lam {T : List (Addr × Str)} {c PT : Addr} (D : LamD Z kk) (TB : TabB Z.base Z.mg c PT) (hcode : Z.env.code = .ref c) (hmT : (PT, Z.env.qual ++ "<lambda>") ∈ T) (hu : ∀ q ∈ T, q.1 = PT → q.2 = Z.env.qual ++ "<lambda>") (hdef : defaultsOf D.params Z.env = ([], [])) :
    PE Z (.Lambda D.params D.body D.scope pos) (fun _ H Q => Tabs T H ∧ ∀ f H1, ExtN H H1 → Tabs T H1 → D.At f H1 → Q (.ref f) H1) := by
  refine ⟨fun pins s σ H Q I ⟨hT, h⟩ => lam_made I TB hcode hmT hu hT hdef (D.L.has I.ok) fun f c2 H1 s1 I1 eN T1 nf hc => ?_⟩
  have ne : ∀ {b : Addr} {o : HO}, H1 b = some o → upd H1 f (CloO Z D.params D.body D.scope f c2) b = some o := fun {b o} e => by rw [upd_ne (ne_of_none e nf)]; exact e
  exact ⟨.ref f, _, I1, rfl, h f _ (fun b o e n => ne (eN b o e n)) (T1.ext fun b o e => ne e) ⟨c2, upd_same, ne hc⟩⟩
/-- x(lambda: body) -/
theorem pe_ask {T : List (Addr × Str)} {c PT : Addr} {lp : Pos} (D : LamD Z kk) (G : FnL Z.prog Z.w Z.K Z.mg Z.base k g TT) (hr : Room (kk + 1 + k) Z.A) (hg : Gl Z x) (hm : Z.mg x = some (.ref g)) (hk : PySem.W.keepIn Z.K (.ref g) = true) (TB : TabB Z.base Z.mg c PT) (hcode : Z.env.code = .ref c)
    (hmT : (PT, Z.env.qual ++ "<lambda>") ∈ T) (hu : ∀ q ∈ T, q.1 = PT → q.2 = Z.env.qual ++ "<lambda>") (hdef : defaultsOf D.params Z.env = ([], [])) (hdb : (x == ("__debug__" : Str)) = false := by decide)
    (he : starEach [.Lambda D.params D.body D.scope lp] Z.env = (false, eval (.Lambda D.params D.body D.scope lp) Z.env) :: starEach [] Z.env := by rfl) (hpl : (backTo pos (starEach [] Z.env)).any (·.1) = false := by rfl) :
    PE Z (.Call (.Name x p) [.Lambda D.params D.body D.scope lp] [] pos) (fun σ H Q => Tabs T H ∧ ∀ f H1, ExtN H H1 → Tabs T H1 → D.At f H1 → TT (D.does f σ) H1 Q) :=
  ⟨fun pins s σ H Q I ⟨h1, h2⟩ => (pe_give (kk := kk) G hr hg hm hk (pe_lam D TB hcode hmT hu hdef) hdb he hpl).run pins s σ H Q I ⟨h1, fun f H1 a b c => ⟨f, D, rfl, h2 f H1 a b c⟩⟩⟩
theorem LamD.At.same {D : LamD Z kk} {f : Addr} {H H1 : Hp} (a : D.At f H) (s : ∀ b o, H b = some o → H1 b = some o) : D.At f H1 := by
  obtain ⟨c2, h1, h2⟩ := a
  exact ⟨c2, s _ _ h1, s _ _ h2⟩
end
end ExX

namespace ExX
open PySem PySem.Spec PyProof.Rows L2
section
variable {prog : Program} {w : World} {A : Around} {E : Value → Shared → Prop} {s : Shared}
/-- a tuple's iterator is at its end, while x1 is handled -/
theorem next_end_hot {it t i : Nat} {items : Array Value} {x1 : Addr} {Q : Option Value → Shared → Prop} (hot : HotX.HotAt A x1 s.heap) (hit : s.heap.IsTupleIter it t i) (ht : s.heap.IsTuple t items) (hx : items[i]? = none) (hne : x1 ≠ it)
    (hQ : ∀ h2, (∀ b o, b ≠ it → s.heap.get? b = some o → h2.get? b = some o) → Q none { s with heap := h2 }) : wpAny (model prog w) A (pyNext (.ref it)) Q E s := by
  obtain ⟨hh, o1, v1, h1, d1, c1⟩ := hot
  obtain ⟨o, ho, hc, hd⟩ := id hit
  obtain ⟨ol, hol, hcl, nl, hdl⟩ := id ht
  unfold pyNext
  refine wpAny_bind (wpAny_attempt (wpAny_callSpecial?_slot (name := Str.ofString "__next__") hit.typeIs F.slot_tuple_iterator_next
    (wpAny_call_entry F.slot_tuple_iterator_next hit.typeIs F.entry_tuple_iterator_next ?_ (F.args_tuple_iterator_next_1 _))))
  show wpAny _ _ (field (.ref it) 0 >>= _) _ _ s
  refine wpAny_bind (wpAny_field ho hd (x := .ref t) rfl ?_)
  show wpAny _ _ (if (Value.ref t == Value.none) = true then _ else _) _ _ s
  rw [if_neg (show ¬ ((Value.ref t == Value.none) = true) from by simp)]
  show wpAny _ _ (field (.ref it) 1 >>= _) _ _ s
  refine wpAny_bind (wpAny_field ho hd (x := .int i 0) rfl ?_)
  show wpAny _ _ (seqItems? (.ref t) >>= _) _ _ s
  refine wpAny_bind (wpAny_seqItems hol hdl ?_)
  simp only [Int.toNat_natCast, hx]
  refine wpAny_bind (wpAny_rule (wpAny_bind (wpAny_setField ho hd (by simp) ?_)))
  show wpAny _ _ (newExc (.type "StopIteration") [] >>= _) _ _ _
  refine wpAny_bind ?_
  simp only [newExc, newTuple]
  refine wpAny_bind (wpAny_newObj_type ?_ (by size_fits))
  refine wpAny_bind (m := firstArgMember _ _) (wpAny_of_eq (a := Value.none) (by first | rfl | (simp only [firstArgMember]; rfl)) (wpAny_newObj_type ?_ (by size_fits)))
  have k : ∀ b u, b ≠ it → s.heap.get? b = some u → (s.heap.update it (Obj.mapFields (·.setIfInBounds 0 Value.none))).get? b = some u := fun b u hb e => (Heap.get?_update_other _ _ (Ne.symm hb)).trans e
  have sz := Heap.lt_size (k x1 o1 hne h1)
  refine HotX.raiseNew_hot (x1 := x1) ⟨hh, o1, v1, Heap.get?_push_of_some _ (Heap.get?_push_of_some _ (k _ _ hne h1)), d1, c1⟩ (Nat.ne_of_lt (Heap.lt_size (Heap.get?_push_of_some _ (k _ _ hne h1)))) (Heap.get?_push_size _ rfl) rfl (by first | (simp; done) | (simp; omega)) ?_
  refine wpAny_bind (wpAny_isInstance (T := "StopIteration") (b := true) ⟨_, Heap.get?_update_self _ (Heap.get?_push_size _ rfl) rfl, rfl⟩ isSubtype_stop ?_)
  refine wpAny_pure (hQ _ fun b o hb e => ?_)
  rw [Heap.get?_update_other _ _ (Nat.ne_of_gt (Heap.lt_size (Heap.get?_push_of_some _ (k b o hb e))))]
  exact Heap.get?_push_of_some _ (Heap.get?_push_of_some _ (k b o hb e))
theorem unpack_hot {t : Addr} {items : Array Value} {x1 : Addr} {Q : List Value → Shared → Prop} (hot : HotX.HotAt A x1 s.heap) (ht : s.heap.IsTuple t items)
    (hQ : ∀ h2, (∀ b o, b ≠ s.heap.objs.size → s.heap.get? b = some o → h2.get? b = some o) → Q items.toList { s with heap := h2 }) : wpAny (model prog w) A (unpackItems (.ref t) items.size none) Q E s := by
  have hlt : t ≠ s.heap.objs.size := by obtain ⟨o, ho, _⟩ := ht; exact Nat.ne_of_lt (Heap.lt_size ho)
  obtain ⟨hh, o1, v1, h1, d1, c1⟩ := hot
  have hxs : x1 ≠ s.heap.objs.size := Nat.ne_of_lt (Heap.lt_size h1)
  unfold unpackItems
  refine wpAny_bind ?_
  unfold notIterableAtAll
  refine wpAny_bind (wpAny_specialOf ht.typeIs F.slot_tuple_iter.lookup (wpAny_pure ?_))
  simp only [Bool.false_eq_true, if_false]
  refine wpAny_bind (wpAny_holding (wpAny_pyIter_tuple ht ?_))
  refine wpAny_bind (wpAny_holding (wpAny_draw_tuple hlt items.size 0 _ _ ⟨_, Heap.get?_push_size _ rfl, rfl, rfl⟩ (ht.push _) (by omega) fun h2 hit2 hs2 => ?_))
  have all : List.take items.size (List.drop 0 items.toList) = items.toList := by rw [List.drop_zero]; exact List.take_of_length_le (by simp)
  rw [all, if_neg (by simp)]
  have ht2 : h2.IsTuple t items := (ht.push _).extBut hs2.extBut hlt
  refine wpAny_bind (wpAny_holding (next_end_hot (x1 := x1) ⟨hh, o1, v1, hs2.extBut _ _ hxs (Heap.get?_push_of_some _ h1), d1, c1⟩ hit2 ht2 (by simp) hxs fun h3 k3 => ?_))
  simp only [Option.isSome_none, Bool.false_eq_true, if_false]
  exact wpAny_pure (hQ h3 fun b o hb e => k3 b o hb (hs2.extBut b o hb (Heap.get?_push_of_some _ e)))
end
/-- a, b = x, y where an exception is handled -/
theorem ps_parH {X : Cx} {pos : Pos} {i j : Nat} {x y : Str} {a b : Expr} {ta : TA} {px py pt : Pos} {kt k2 pt2} (hc : L2H.HotC X) (hN : X.N.Nodup) (hi : X.N[i]? = some x) (hj : X.N[j]? = some y) (hij : i ≠ j)
    (hx : X.env.scope.names.lookup x = some .local) (hy : X.env.scope.names.lookup y = some .local) (ha : PA X [a, b] ta)
    (hw : swappedStores [.Tuple [.Name x px, .Name y py] kt pt] (.Tuple [a, b] k2 pt2) X.env = pure (some [x, y]))
    (hs : swapsWithSole [.Tuple [.Name x px, .Name y py] kt pt] (.Tuple [a, b] k2 pt2) pos.line X.env = pure false := by rfl) :
    PS X (.Assign [.Tuple [.Name x px, .Name y py] kt pt] (.Tuple [a, b] k2 pt2) pos) (tPar i j ta) := by
  refine ⟨fun pins s σ H D I h => ?_⟩
  rw [exec_Assign_arm]
  refine wpAny_bind (wpAny_standAt ?_)
  rw [hs]
  refine wpAny_bind (wpAny_pure ?_)
  rw [if_neg (by decide)]
  refine wpAny_bind (Tuple_ (thn (ha.run _ pins s σ H _ I h) fun us s1 ⟨vs, H1, I1, r1, v, z, e1, q1⟩ => ?_))
  subst e1
  obtain ⟨u1, u2, rfl, rv, rz⟩ : ∃ u1 u2, us = [u1, u2] ∧ RelV v u1 ∧ RelV z u2 := by
    cases r1 with
    | cons p q =>
      cases q with
      | cons p2 q2 =>
        cases q2
        exact ⟨_, _, rfl, p, p2⟩
  refine wpAny_newObj_type ?_ (by show 2 ≤ sizeLine; decide)
  have I2 : Inv X pins σ H1 { s1 with heap := s1.heap.push { cls := .type "tuple", data := .seq [u1, u2].toArray } } := I1.kept (t' := s1.toks) fun b o e => Heap.get?_push_of_some _ e
  rw [hw]
  refine wpAny_bind (wpAny_pure ?_)
  show wpAny (model X.prog X.w) X.A (do rule "assign.swapped-stores"; let items ← unpackItems (.ref s1.heap.objs.size) 2 none; assignInOrder [fun v => bindName X.env y v, fun v => bindName X.env x v] items.reverse; pure Flow.next) _ _ _
  obtain ⟨x1, hot⟩ := hc.at I2
  refine wpAny_bind (wpAny_rule (wpAny_bind (unpack_hot (items := #[u1, u2]) hot (IsTup.new s1.heap _) fun h2 k2 => ?_)))
  have I3 := I2.kept (h' := h2) (t' := s1.toks) fun b o e => k2 b o (Nat.ne_of_lt (Heap.lt_size e)) e
  show wpAny _ _ (assignInOrder [fun v => bindName X.env y v, fun v => bindName X.env x v] [u2, u1] >>= fun _ => pure Flow.next) _ _ _
  refine wpAny_bind (assignInOrder_cons (wpAny_bindName (store_ok I3 hN hj (.inl hy) rz (fun s2 I4 => ?_) (.inr hy))))
  refine assignInOrder_cons (wpAny_bindName (store_ok I4 hN hi (.inl hx) rv (fun s3 I5 => assignInOrder_nil (wpAny_pure ?_)) (.inr hx)))
  rw [List.set_comm _ _ (Ne.symm hij)] at I5
  exact ⟨_, H1, I5, q1⟩
end ExX

namespace ExX
open PySem PySem.Spec PyProof.Rows L2
abbrev luTail : List Value := [.type "LookupError", .type "Exception", .type "BaseException", .type "object"]
abbrev vaTail : List Value := [.type "ValueError", .type "Exception", .type "BaseException", .type "object"]
/-- the body of a class -/
def clsB : Stmt → List Stmt
  | .ClassDef _ _ _ b _ _ _ _ _ _ _ => b
  | _ => []
abbrev initS (s : Stmt) : Stmt := (clsB s).getD 0 (.Pass ⟨0, 0, 0, 0⟩)
theorem txt_int {i : Int} (h : i.natAbs.log2 < 1920) : (Str.ofString (toString i)).length ≤ 1921 := by
  rw [PySem.ofString_length]
  exact int_text_length_le (by decide) h
theorem fits {z : Str} (h : z.length ≤ 10000) : z.length ≤ sizeLine := by rw [sizeLine_eq]; omega
theorem fits_cat {a b : Str} {m n : Nat} (h1 : a.length ≤ m) (h2 : b.length ≤ n) : (a ++ b).length ≤ m + n := by rw [Str.length_append]; omega
/-- an int whose text is short enough -/
def Prt (v : V) : Prop := ∃ i : Int, v = .int i ∧ i.natAbs.log2 < 1920
/-- __init__ of the two classes above all others -/
def spTop (K : PySem.W.Frag) (nid : String) (tl : List Value) : Sp := fun vs H Q _ => ∃ (a C : Addr) (tag msg : Str), vs = [.ref a, .str tag, .str msg] ∧ H a = some (exo a C none) ∧ ExB K C nid tl ∧ PySem.W.findIn K (.ref C) "tag" = some none ∧
  ∀ dx, H dx = none → dx ≠ a → Q .non (upd (upd H dx (exd dx [("tag", .str tag)])) a (exo a C (some dx)))
/-- __init__ of an error with one field -/
def spErrI (K : PySem.W.Frag) (nid : String) (tl : List Value) (fld tag : Str) : Sp := fun vs H Q _ => ∃ (a C : Addr) (v : V), vs = [.ref a, v] ∧ Prt v ∧ H a = some (exo a C none) ∧ ExB K C nid tl ∧ PySem.W.findIn K (.ref C) "tag" = some none ∧ PySem.W.findIn K (.ref C) fld = some none ∧
  ∀ dx, H dx = none → dx ≠ a → Q .non (upd (upd (upd H dx (exd dx [("tag", .str tag)])) a (exo a C (some dx))) dx (exd dx [(fld, v), ("tag", .str tag)]))
/-- an error is on its way: its class, its dict, new, with the field and the tag -/
def Flies (H : Hp) (E : XK) (C : Addr) (fld tag : Str) (v : V) : Prop := ∀ d H1, H d = none → H1 d = some (.xd [(fld, v), ("tag", .str tag)]) → Same H H1 → E (.ref C) (some d) H1
structure Raisable (P : Program) (w : World) (K : PySem.W.Frag) (mg : Str → Option Value) (base : Heap) (k : Nat) (x : Str) (C : Addr) (fld tag : Str) : Prop where
  ex : ∃ (B nid iid : String) (tl : List Value) (fI : Addr) (fd : FuncData), ExcBaseFacts B nid iid tl ∧ ExB K C nid tl ∧ PySem.W.findIn K (.ref C) "__init__" = some (some (.ref fI)) ∧ PySem.W.typeIn K (.ref fI) = some (.type "function") ∧
    FnOk P w K mg base CX0 k fI fd ["self", fld] (spErrI K nid tl fld tag) ∧ L2.Binds K fd ["self", fld] []
  g : mg x = some (.ref C)
  nt : PySem.W.findIn K (.ref C) "tag" = some none
  nf : PySem.W.findIn K (.ref C) fld = some none
  xf : XfC K C
section
variable {X : Cx} {k : Nat} {x fld tag : Str} {C : Addr} {e : Expr} {te : TE} {p pos : Pos}
theorem mk_flies {K : PySem.W.Frag} {nid : String} {tl : List Value} {vs : List V} {H1 : Hp} {Q : XK} (T : ExB K C nid tl) (nt : PySem.W.findIn K (.ref C) "tag" = some none) (nf : PySem.W.findIn K (.ref C) fld = some none) (h : ∃ v, vs = [v] ∧ Prt v ∧ Flies H1 Q C fld tag v) : mkW C (spErrI K nid tl fld tag) vs H1 Q := by
  obtain ⟨v, rfl, hp, fl⟩ := h
  refine ⟨by show 1 ≤ 1000; decide, fun a na => ⟨a, C, v, rfl, hp, upd_same, T, nt, nf, fun dx nd ne => ⟨rfl, dx, _, ?_, upd_same, ?_, ?_⟩⟩⟩
  · rw [upd_ne ne.symm, upd_same]
  · rw [upd_ne ne] at nd
    exact nd
  · rw [upd_ne ne] at nd
    refine fl dx _ nd upd_same fun b o q => ?_
    have hb : b ≠ dx := ne_of_none q nd
    have ha : b ≠ a := ne_of_none q na
    rw [upd_ne hb, del_ne ha, upd_ne hb, upd_ne ha, upd_ne hb, upd_ne ha]
    exact q
theorem pmk_err (T : Raisable X.prog X.w X.K X.mg X.base k x C fld tag) (hr : Room (k + 1) X.A) (hg : Gl X x) (h : PE X e te) (hdb : (x == ("__debug__" : Str)) = false := by decide) (he : starEach [e] X.env = (false, eval e X.env) :: starEach [] X.env := by rfl) (hpl : (backTo pos (starEach [] X.env)).any (·.1) = false := by rfl) :
    L2N.PMk X (.Call (.Name x p) [e] [] pos) (fun σ H Q => te σ H fun v H1 => ∃ v0, [v] = [v0] ∧ Prt v0 ∧ Flies H1 Q C fld tag v0) := by
  obtain ⟨B, nid, iid, tl, fI, fd, FB, TB, iC, tI, G, b⟩ := T.ex
  exact pmk (R := fun vs H1 Q => ∃ v, vs = [v] ∧ Prt v ∧ Flies H1 Q C fld tag v) FB TB iC tI G hr b pass0 hg T.g (pa_cons h pa_nil he) (fun vs H1 Q z => mk_flies TB T.nt T.nf z) hdb he hpl
end
/-- a def that may raise -/
theorem okN {P : Program} {w : World} {K : PySem.W.Frag} {mg : Str → Option Value} {base : Heap} {x qual : Str} {st : Stmt} {f : Addr} {fd : FuncData} {N ps : List Str} {k : Nat} {sp : Sp} (F : Fun K x qual st f fd) (S : FnScope N ps (defScope st)) (len : ∀ vs H Q E, sp vs H Q E → vs.length = ps.length)
    (hbody : ∀ (cdv : Value) (A : Around) (outer : List Env) (s : Shared) (H : Hp) (vs : List V) (Q : VK) (E : XK), Room k (A.deeper (envOfC qual (defScope st) s.heap.objs.size f cdv)) → sp vs H Q E → L2N.Takes (cxOf (L2N.CX P w) P w K mg base N qual (defScope st) f cdv A outer s H E) (fun cls d _ H1 => E cls d H1) →
      ∃ t, PSs (cxOf (L2N.CX P w) P w K mg base N qual (defScope st) f cdv A outer s H E) (defBody st) t ∧ t { nx := fun _ H1 => Q .non H1, rt := Q } (start N vs) H) : FnOk P w K mg base (L2N.CX P w) (k + 1) f fd ps sp := by
  obtain ⟨oc, od, kV, doc, pm, an, cdv, ct, osl, rfl, lk, hcd⟩ := F.ex
  exact fn_of lk hcd S len fun A outer s H vs Q E hr hsp => hbody cdv A outer s H vs Q E hr hsp (L2N.takes_of rfl rfl rfl rfl)
/-- such a def, known by its name -/
structure KnX (P : Program) (w : World) (K : PySem.W.Frag) (mg : Str → Option Value) (base : Heap) (k : Nat) (x : Str) (ps : List Str) (sp : Sp) (f : Addr) (fd : FuncData) : Prop where
  kp : PySem.W.keepIn K (.ref f) = true
  G : FnOk P w K mg base (L2N.CX P w) k f fd ps sp
  b : L2.Binds K fd ps []
  g : mg x = some (.ref f)
theorem lookN {X : Cx} {W : WX} (tk : L2N.Takes X W) {E : XK} (hW : ∀ cls d σ H, E cls d H → W cls d σ H) : Passes (L2N.CX X.prog X.w) X E := L2N.passes_call tk hW
theorem sm_none {H H1 : Hp} (s : Same H H1) {t : Addr} (n : H1 t = none) : H t = none := by
  cases e : H t with
  | none => rfl
  | some o => rw [s _ _ e] at n; cases n
theorem takesN0 {X : Cx} : L2N.Takes X (fun _ _ _ _ => False) := fun _ _ ⟨_, _, _, _, _, _, _, _, _, _, _, _, _, _, _, _, z⟩ => z.elim
end ExX

namespace ExX
open PySem PySem.Spec PyProof.Rows L2
/-- a list comprehension without tests whose element may ask what the def around it knows where the block begins -/
theorem pe_lcI {X : Cx} {elt tg iter : Expr} {scope : Scope} {own : List (Str × Nat)} {pos : Pos} {wi : TI} {g : TG} {te : L2.St → TE} (calm : X.calm = true) (nd : X.N.Nodup) (walk : PI X tg iter wi) (bo : BlkOk X.N X.env.scope scope own)
    (target : ∀ (s : Shared) (H : Hp) (C : Addr) (cl : List (Str × Addr)) (fp : List Addr), PG (X.blk s H scope (compEnvC scope cl C X.env) fp) tg g)
    (item : ∀ (pins : List (Addr × Obj)) (σ : L2.St) (s : Shared) (H : Hp) (C : Addr) (cl : List (Str × Addr)) (fp : List Addr), Inv X pins σ H s → (∀ b ∈ fp, FpOk X pins H b) → PE (X.blk s H scope (compEnvC scope cl C X.env) fp) elt (te σ))
    (fold : ∀ x, foldedSetIterable iter X.env x = pure x := by intro _; rfl) :
    PE X (.ListComp elt [⟨tg, iter, [], 0⟩] scope pos) (fun σ H Q => tLc wi g tYes (te σ) (own.map (·.2)) σ H Q) := by
  refine ⟨fun pins s σ H Q I hyp => ?_⟩
  rw [eval_ListComp]
  have cells : ∀ y ∈ scope.names, y.2 = .free → ∃ c, X.env.cells.lookup y.1 = some c := fun y hy e => (bo.free y hy e).elim (fun z => I.ok.has _ (.inl z)) fun z => I.ok.has _ (.inr z)
  refine wpAny_comprehension_free (use := none) rfl fold (closure_ok cells) bo.kind (fun y hy e => by rw [bo.uniq y hy, e]) (thn (walk.run pins s σ H _ I hyp) fun _ _ h1 => thn h1 fun _ s2 h2 => ?_)
  obtain ⟨it, fp, tn, J, H2, rfl, I2, T, t2, f2, rd⟩ := h2
  refine wpAny_newObj_type (newEnv_comp ?_) (by show 0 ≤ sizeLine; decide)
  -- the new list, at the end of the heap
  obtain ⟨D, eD⟩ : ∃ D, D = s2.heap.objs.size := ⟨_, rfl⟩
  rw [← eD]
  obtain ⟨W, ⟨m0, w0⟩, turn⟩ := rd D (I2.hok.fresh (Nat.le_of_eq eD.symm))
  obtain ⟨H3, eH⟩ : ∃ H3, H3 = upd H2 D (.lst []) := ⟨_, rfl⟩
  obtain ⟨s3, e3⟩ : ∃ s3 : Shared, s3 = { s2 with heap := s2.heap.push { cls := .type "list", data := .seq ([] : List Value).toArray } } := ⟨_, rfl⟩
  have old : ∀ b o, s2.heap.get? b = some o → s3.heap.get? b = some o := fun b o e => by rw [e3]; exact Heap.get?_push_of_some _ e
  have I3 : Inv X pins σ H3 s3 := by
    rw [eH, e3]
    exact I2.laid (t' := s2.toks) (fun b o e => Heap.get?_push_of_some _ e) (Nat.le_of_eq eD.symm) ⟨Nat.zero_le _, [], 0, .nil, by rw [eD]; exact Heap.get?_push_size _ rfl⟩
  have f3 : ∀ b ∈ fp, FpOk X pins H3 b ∧ b < s3.heap.objs.size := fun b hb => by
    obtain ⟨o, e, _⟩ := T.obj _ _ t2 b hb
    exact ⟨⟨by rw [eH, upd_ne (by rw [eD]; exact Nat.ne_of_lt (Heap.lt_size e))]; exact (f2 b hb).1, (f2 b hb).2⟩, Heap.lt_size (old b o e)⟩
  have st := block_start I3 bo nd f3
  rw [← eH] at w0
  rw [← e3]
  -- the block's own names
  obtain ⟨cl, ecl⟩ : ∃ cl, cl = cellsFrom (s3.heap.objs.size + 1) scope.names (cloFrom X.env.cells scope.names []) := ⟨_, rfl⟩
  obtain ⟨C, eC⟩ : ∃ C, C = s3.heap.objs.size := ⟨_, rfl⟩
  have pI := item pins σ s3 H3 C cl fp I3 fun b hb => (f3 b hb).1
  have pG := target s3 H3 C cl fp
  obtain ⟨ce, ece⟩ : ∃ ce, ce = compEnvC scope cl C X.env := ⟨_, rfl⟩
  have ceL : ce.locals = C := by rw [ece]; rfl
  rw [← ecl, ← eC, ← ece] at st
  rw [← ece] at pI pG
  show codeAny _ _ (.compStart (.ListComp elt [⟨tg, iter, [], 0⟩] scope pos) 0 (.ref it) (.ref D) (compEnvC scope (cellsFrom (s3.heap.objs.size + 1) scope.names (cloFrom X.env.cells scope.names [])) s3.heap.objs.size X.env)) (compPost (model X.prog X.w) X.A X.xe none _ (.ref D) s3.heap.objs.size) _
  rw [← ecl, ← eC, ← ece]
  have tb : tn 0 (pushCells (s3.heap.push { cls := .type "dict", data := .dict #[] }) scope.names) := T.keep _ _ _ t2 fun b _ o e => pushCells_keeps _ _ _ _ (Heap.get?_push_of_some _ (old b o e))
  obtain ⟨s4, e4⟩ : ∃ s4 : Shared, s4 = { s3 with heap := pushCells (s3.heap.push { cls := .type "dict", data := .dict #[] }) scope.names } := ⟨_, rfl⟩
  rw [← e4] at st ⊢
  have t4 : tn 0 s4.heap := by rw [e4]; exact tb
  have fOk : ∀ {σ1 : L2.St} {H1 : Hp} {s1 : Shared}, Inv (X.blk s3 H3 scope ce fp) [] σ1 H1 s1 → (∀ b ∈ fp, H1 b = none) → ∀ b ∈ fp, FpOk (X.blk s3 H3 scope ce fp) [] H1 b := fun J1 n b hb =>
    ⟨n b hb, (J1.ok.exf b hb).1, J1.ok.exfs b hb, .inl hb, (J1.ok.exf b hb).2, fun p hp => by cases hp⟩
  have lp : codeAny (model X.prog X.w) X.A (.compLoop (.ListComp elt [⟨tg, iter, [], 0⟩] scope pos) 0 (.ref it) (.ref D) ce) (compPost (model X.prog X.w) X.A X.xe none (EP X pins σ Q) (.ref D) C) s4 := by
    refine compLoop_any (fun n s1 => ∃ i H1, Inv (X.blk s3 H3 scope ce fp) [] (wipe σ (own.map (·.2))) H1 s1 ∧ tn i s1.heap ∧ (∀ b ∈ fp, H1 b = none) ∧ W i n H1) (fun n s5 ⟨i, H5, I5, t5, n5, w5⟩ => ?_) m0 ⟨0, H3, st, t4, fun b hb => (f3 b hb).1.1, w0⟩
    rcases turn i n H5 w5 with ⟨stop, q⟩ | ⟨go, Nx, hNx, step⟩
    · refine thnF (T.done (X.blk s3 H3 scope ce fp) rfl rfl rfl calm i [] s5 _ H5 (fun _ _ => False) I5 (fOk I5 n5) t5 stop) fun r s6 ⟨er, I6⟩ => ?_
      subst er
      have I7 : Inv X pins σ H5 s6 := I3.call' (ch := fp) I6.os I6.base I6.hok I6.bare fun b hb => ⟨(f3 b hb).1.2.2.2.1, (f3 b hb).1.2.1, (f3 b hb).1.2.2.2.2.1, (f3 b hb).1.2.2.2.2.2⟩
      have nC : H5 C = none := by rw [← ceL]; exact I6.free
      obtain ⟨m, hm, _⟩ := I6.loc
      have hm : s6.heap.Ns ce.locals m := hm
      rw [ceL] at hm
      refine ⟨m, hm, fun h8 sb => ?_⟩
      obtain ⟨g0, g1, g2, g3, g4, g5⟩ := I3.fpOk (Nat.le_of_eq eC.symm) nC
      exact ⟨.ref D, H5, I7.turned (t' := s6.toks) (fun b o hb e => (sb.2 b hb).trans e) g0 g1 g3 g4 g5, rfl, q⟩
    · refine thnF (T.item (X.blk s3 H3 scope ce fp) rfl rfl rfl calm i [] s5 _ H5 (fun _ _ => False) I5 (fOk I5 n5) t5 go) fun r s6 ⟨u, er, h6⟩ => ?_
      subst er
      refine thnF h6 fun _ s7 ⟨x, H7, I7, r7, y7, t7, n7⟩ => ?_
      refine thnF (pG.run _ s7 _ H7 x u _ (I7.pinned (fOk I7 n7) (T.obj _ _ t7)) r7 (step x H7 y7)) fun _ s8 ⟨σ8, H8, I8, e8, q8⟩ => wpAny_tests_nil ?_
      rw [if_pos rfl]
      refine thnF (pI.run _ s8 σ8 H8 _ I8 (show te σ σ8 H8 _ from q8)) fun z s9 ⟨yv, H9, I9, r9, acc, hD9, hz9, nx⟩ => ?_
      refine app_ok (X := X.blk s3 H3 scope ce fp) I9 hD9 hz9 r9 fun s10 I10 => ?_
      obtain ⟨m1, lt, w1⟩ := hNx _ nx
      have stay : ∀ b ∈ fp, ∀ o, s7.heap.get? b = some o → s10.heap.get? b = some o ∧ upd H9 D (.lst (acc ++ [yv])) b = none := fun b hb o e => by
        have z := I10.pin (b, o) (List.mem_append_right _ (List.mem_append_right _ (mem_pinsAt hb e)))
        exact ⟨z.1, z.2.1⟩
      refine ⟨m1, lt, i + 1, _, (I10.unpinned (pins := [])).weak (by rw [← e8, wipe_length]) (fun j v e => ?_), T.keep _ _ _ t7 fun b hb o e => (stay b hb o e).1, fun b hb => ?_, w1⟩
      · rw [← e8] at e
        exact (wipe_some e).1
      · obtain ⟨o, e, _⟩ := T.obj _ _ t7 b hb
        exact (stay b hb o e).2
  exact codeAny_compStart_list lp (T.self X.A 0 _ _ _ t4 lp)
/-! ### a lambda with one parameter that has a default -/
open LamX
structure LamT (N : List Str) (sc scope : Scope) (a : Str) : Prop where
  kind : scope.kind = .function
  co : scope.isCoroutine = false
  gen : scope.isGenerator = false
  cel : ∀ y ∈ scope.names, y.2 ≠ .cell
  loc : ∀ y ∈ N, scope.names.lookup y ≠ some .local
  arg : scope.names.lookup a = some .local
  free : ∀ y ∈ scope.names, y.2 = .free → sc.names.lookup y.1 = some .cell ∨ sc.names.lookup y.1 = some .free
def lamTB (N : List Str) (sc scope : Scope) (a : Str) : Bool := decide (scope.kind = .function) && (!scope.isCoroutine && (!scope.isGenerator && (decide (scope.names.lookup a = some .local) && ((N.all fun y => !decide (scope.names.lookup y = some .local)) &&
  scope.names.all fun y => !decide (y.2 = .cell) && (!decide (y.2 = .free) || (decide (sc.names.lookup y.1 = some .cell) || decide (sc.names.lookup y.1 = some .free)))))))
theorem lamT_by {N : List Str} {sc scope : Scope} {a : Str} (h : lamTB N sc scope a = true) : LamT N sc scope a := by
  unfold lamTB at h
  simp only [Bool.and_eq_true, Bool.or_eq_true, Bool.not_eq_true', decide_eq_true_eq, decide_eq_false_iff_not, List.all_eq_true] at h
  obtain ⟨h1, h2, h3, h4, h5, h6⟩ := h
  exact ⟨h1, h2, h3, fun y hy => (h6 y hy).1, h5, h4, fun y hy e => (h6 y hy).2.elim (fun z => absurd e z) id⟩
section
variable {X : Cx} {pins : List (Addr × Obj)} {σ : L2.St} {H HZ : Hp} {s s1 : Shared}
theorem LamT.has {scope : Scope} {a : Str} (L : LamT X.N X.env.scope scope a) (ok : X.Ok) : ∀ y ∈ scope.names, y.2 = .free → ∃ c, X.env.cells.lookup y.1 = some c := fun y hy e => (L.free y hy e).elim (fun z => ok.has _ (.inl z)) fun z => ok.has _ (.inr z)
/-- the body of such a lambda begins -/
theorem lamT_start {A : Around} {outer : List Env} {E : XK} {scope : Scope} {f c2 : Addr} {a : Str} {g : Heap} {tk : Nat} {m1 : Str → Option Value} (I : Inv X pins σ H s) (L : LamT X.N X.env.scope scope a) (e0 : Env0 X.prog X.w X.K X.mg X.base A outer s1 HZ) (hd : A.handled = none)
    (un : Un (frs X.stack) [] H HZ s.heap s1.heap) (hns : g.Ns s1.heap.objs.size m1) (kp : ∀ b o, s1.heap.get? b = some o → g.get? b = some o) : Inv (lamCx X A outer s1 HZ E scope f c2) [] σ HZ { s1 with heap := g, toks := tk } := by
  have hF := L.has I.ok
  have up : ∀ {y c}, (cloFrom X.env.cells scope.names []).lookup y = some c → X.env.cells.lookup y = some c := fun {y c} e => by
    rcases cloFrom_mem (PySem.mem_of_lookup e) with z | ⟨z1, z2⟩
    · cases z
    · obtain ⟨c1, e1⟩ := hF _ z1 rfl
      have e1 : X.env.cells.lookup y = some c1 := e1
      have e2 : c = c1 := by rw [z2, e1]; rfl
      rw [e2]; exact e1
  have dn : ∀ {y}, scope.names.lookup y = some .free → ∃ c, (cloFrom X.env.cells scope.names []).lookup y = some c := fun {y} hl => mem_lookup (cloFrom_has (cells := X.env.cells) (acc := []) (PySem.mem_of_lookup hl))
  have stay : ∀ {c : Addr} {v : Option Value}, H c = none → s.heap.IsCell c v → g.IsCell c v := fun {c v} n ⟨o, ho, hd⟩ => by
    obtain ⟨sl, q⟩ := un.any ho n (by simp)
    exact ⟨_, kp _ _ q, hd⟩
  have no : ∀ {b : Addr} {R : Prop}, b ∈ (lamCx X A outer s1 HZ E scope f c2).ex → R := fun {b R} z => by cases (show b ∈ ([] : List Addr) from z)
  refine ⟨⟨e0.mod, L.kind, rfl, rfl, Nat.le_refl _, fun y z c e1 e2 => I.ok.inj y z c (up e1) (up e2), fun y hy => ?_, fun y c z _ => (Bool.noConfusion (show false = true from z)), fun _ => hd, Around.frames_deeper e0.frames, .inr ⟨rfl, rfl⟩, fun b z => no z, e0.bs, e0.bsz, fun b o e z => no z,
      fun b z => no z, e0.funs, e0.frf⟩, rfl, e0.bare, Un.kept kp, ⟨m1, hns, fun i y v e1 e2 e3 => ?_⟩, fun y c e => ?_, e0.hok.fresh (Nat.le_refl _), fun y c e => ?_, fun q hq => ?_, e0.hok.kept kp, I.len⟩
  · rcases (show scope.names.lookup y = some .cell ∨ scope.names.lookup y = some .free from hy) with z | z
    · exact (L.cel _ (PySem.mem_of_lookup z) rfl).elim
    · exact dn z
  · rcases (show Vis scope y from e3) with k | k | k
    · exact (L.loc y (List.mem_of_getElem? e1) k).elim
    · exact (L.cel _ (PySem.mem_of_lookup k) rfl).elim
    · obtain ⟨m, hn, hl⟩ := I.loc
      have fr := L.free _ (PySem.mem_of_lookup k) rfl
      obtain ⟨u, r, q⟩ := hl i y v e1 e2 (fr.elim (fun z => .inr (.inl z)) fun z => .inr (.inr z))
      obtain ⟨c, ec⟩ := dn k
      refine ⟨u, r, .inr ⟨.inr k, c, ec, ?_⟩⟩
      rcases q with ⟨k2, _⟩ | ⟨_, c3, e4, z⟩
      · have k2 : X.env.scope.names.lookup y = some .local := k2
        have fr : X.env.scope.names.lookup y = some .cell ∨ X.env.scope.names.lookup y = some .free := fr
        rw [k2] at fr
        rcases fr with fr | fr <;> cases fr
      · have := up ec
        rw [e4] at this
        cases this
        exact stay (I.freeC y _ e4) z
  · obtain ⟨v, z⟩ := I.cell y c (up e)
    exact ⟨v, stay (I.freeC y c (up e)) z⟩
  · obtain ⟨v, o, ho, hd⟩ := I.cell y c (up e)
    exact un.free c o ho (I.freeC y c (up e)) (by simp)
  · cases (show q ∈ ([] : List (Addr × Obj)) ++ [] from hq)
end
/-- the lambda at f, its code object at c2, the tuple of its default at T -/
def CloD (X : Cx) (params : Arguments) (body : Expr) (scope : Scope) (f c2 T : Addr) : HO := .ext fun h => ∃ doc pm ctv : Value, h.get? f = some (PySem.W.kdv_obj "<lambda>" (X.env.qual ++ "<lambda>") params (.expr body) scope (cloFrom X.env.cells scope.names []) (.ref T) doc pm c2 ctv)
theorem cloD_ok {X : Cx} {params : Arguments} {body : Expr} {scope : Scope} {f c2 T : Addr} {P : Program} {w : World} {H : Hp} {h : Heap} {doc pm ctv : Value} (e : h.get? f = some (PySem.W.kdv_obj "<lambda>" (X.env.qual ++ "<lambda>") params (.expr body) scope (cloFrom X.env.cells scope.names []) (.ref T) doc pm c2 ctv)) :
    ObjOk P w H h f (CloD X params body scope f c2 T) := ⟨⟨doc, pm, ctv, e⟩, ⟨_, e⟩, fun h1 h2 ⟨a, b, c, d⟩ st => ⟨a, b, c, st _ d⟩⟩
section
variable {X : Cx} {pins : List (Addr × Obj)} {σ : L2.St} {H : Hp} {s : Shared}
theorem lamT_made {T : List (Addr × Str)} {c P : Addr} {params : Arguments} {body e0 : Expr} {scope : Scope} {pos : Pos} {y0 : V} {Q : Value → Shared → Prop} (I : Inv X pins σ H s) (TB : TabB X.base X.mg c P) (hcode : X.env.code = .ref c)
    (hm : (P, X.env.qual ++ "<lambda>") ∈ T) (hu : ∀ p ∈ T, p.1 = P → p.2 = X.env.qual ++ "<lambda>") (hT : Tabs T H) (hdf : params.defaults = [e0]) (hkw : params.kw_defaults = []) (he0 : PE X e0 (fun _ H Q => Q y0 H)) (hfree : ∀ y ∈ scope.names, y.2 = .free → ∃ c, X.env.cells.lookup y.1 = some c)
    (h : ∀ (f c2 t : Addr) (H1 : Hp) (s1 : Shared), Inv X pins σ (upd H1 f (CloD X params body scope f c2 t)) s1 → ExtN H H1 → Tabs T H1 → H1 f = none → H1 c2 = some (CodeO c2 (X.env.qual ++ "<lambda>")) → H1 t = some (.tup [y0]) → Q (.ref f) s1) :
    wpAny (model X.prog X.w) X.A (eval (.Lambda params body scope pos) X.env) Q X.xe s := by
  refine PySem.W.kdv_lam (by rw [hdf]; rfl) hkw ?_
  rw [hdf]
  show wpAny _ _ (evalAll [eval e0 X.env]) _ _ _
  refine evalAll_cons (thn (he0.run pins s σ H (fun v H1 => v = y0 ∧ H1 = H) I ⟨rfl, rfl⟩) fun u s0 ⟨v, H0, I0, r0, ev, eH⟩ => evalAll_nil ?_)
  rw [ev] at r0
  rw [eH] at I0
  rw [makeFunction_eq]
  simp only [List.zip_nil_right, List.filterMap_nil, List.isEmpty_nil, List.isEmpty_cons, Bool.false_eq_true, if_false, if_true, pure_bind]
  refine wpAny_bind (PySem.wpAny_newTextTuple ?_)
  obtain ⟨t, et⟩ : ∃ t, t = s0.heap.objs.size := ⟨_, rfl⟩
  rw [← et]
  have nT : H t = none := I0.hok.fresh (Nat.le_of_eq et.symm)
  obtain ⟨s2, e2⟩ : ∃ s2 : Shared, s2 = { s0 with heap := s0.heap.push { cls := .type "tuple", data := .seq [u].toArray } } := ⟨_, rfl⟩
  have I2 : Inv X pins σ (upd H t (.tup [y0])) s2 := by
    rw [e2]
    refine I0.laid (t' := s0.toks) (fun b o e => Heap.get?_push_of_some _ e) (Nat.le_of_eq et.symm) ⟨by show 1 ≤ sizeLine; decide, [u], .cons r0 .nil, ?_⟩
    rw [et]
    exact IsTup.new s0.heap _
  rw [← e2]
  have x1 : ExtN H (upd H t (.tup [y0])) := fun b o e _ => by rw [upd_ne (ne_of_none e nT)]; exact e
  have hT2 : Tabs T (upd H t (.tup [y0])) := hT.ext fun b o e => by rw [upd_ne (ne_of_none e nT)]; exact e
  obtain ⟨ps, hP, ht, ha⟩ := hT2 _ hm
  have bP : s2.heap.BuiltinsAt X.mg P := TB.bm.keeps I2.bk
  have hPs : s2.heap.get? P = some { cls := .none, data := .fields ps } := I2.hok P _ hP
  cases hc : codeAmong pos ps.toList with
  | none =>
    refine PySem.W.kdv_makeTail (mg := X.mg) (c := c) (P := P) (ps := ps) (closure_ok hfree) I2.ok.glob (I2.mod.glob.keeps I2.bk) hcode (TB.code.keeps I2.bk) hPs ht hc TB.gP bP fun c2 ctv doc h3 tk hx hge hlt hrec htb => ?_
    obtain ⟨c3, oc, vs, tq, z2, hoc, hd, hv⟩ := hrec
    cases z2
    have nC := I2.hok.fresh (a := c2) hge
    have I3 := inv_table (t' := tk) (more := #[rawInt pos.line, rawInt pos.col, .ref c2]) (h' := h3) I2 hP hx htb hge ⟨oc, vs, tq, hoc, hd, hv⟩
    have hE : ExtN (upd H t (.tup [y0])) (upd (upd (upd H t (.tup [y0])) P (.tbl (ps ++ #[rawInt pos.line, rawInt pos.col, .ref c2]))) c2 (CodeO c2 (X.env.qual ++ "<lambda>"))) := fun b o e n => by
      have nb : b ≠ P := fun z => n ps (Option.some.inj (e.symm.trans (by rw [z]; exact hP)))
      rw [upd_ne (ne_of_none e nC), upd_ne nb]
      exact e
    have eL : (ps ++ #[rawInt pos.line, rawInt pos.col, .ref c2]).toList = ps.toList ++ [rawInt pos.line, rawInt pos.col, .ref c2] := by simp
    refine h h3.objs.size c2 t _ _ (I3.laid (t' := tk) (fun _ _ e => Heap.get?_push_of_some _ e) (Nat.le_refl _) (cloD_ok (Heap.get?_push_size _ rfl))) (fun b o e n => hE b o (x1 b o e n) n) (fun p hp => ?_) (I3.hok.fresh (Nat.le_refl _)) upd_same (hE _ _ upd_same (by intro ps z; cases z))
    by_cases hb : p.1 = P
    · refine ⟨_, by rw [hb, upd_ne (ne_of_none hP nC), upd_same], by rw [eL]; exact PySem.TriplesOk_snoc _ _ _ _ ht, fun pz cv hcv => ?_⟩
      rw [eL] at hcv
      rw [hu p hp hb]
      rcases among_app _ ht hcv with z | z
      · obtain ⟨c0, q1, q2⟩ := ha pz cv z
        exact ⟨c0, q1, hE _ _ q2 codeO_ne⟩
      · exact ⟨c2, z, upd_same⟩
    · obtain ⟨psz, a1, a2, a3⟩ := hT2 p hp
      refine ⟨psz, by rw [upd_ne (ne_of_none a1 nC), upd_ne hb]; exact a1, a2, fun pz cv hcv => ?_⟩
      obtain ⟨c0, q1, q2⟩ := a3 pz cv hcv
      exact ⟨c0, q1, hE _ _ q2 codeO_ne⟩
  | some cv =>
    obtain ⟨c2, e, hco⟩ := ha pos cv hc
    subst e
    refine PySem.W.kdv_makeTailHit (mg := X.mg) (c := c) (P := P) (ps := ps) (closure_ok hfree) I2.ok.glob (I2.mod.glob.keeps I2.bk) hcode (TB.code.keeps I2.bk) hPs ht hc bP fun ctv doc h3 tk hx hsz => ?_
    have I3 : Inv X pins σ (upd H t (.tup [y0])) { s2 with heap := h3, toks := tk } := I2.kept hx
    exact h h3.objs.size c2 t _ _ (I3.laid (t' := tk) (fun _ _ e => Heap.get?_push_of_some _ e) (Nat.le_refl _) (cloD_ok (Heap.get?_push_size _ rfl))) x1 hT2 (I3.hok.fresh (Nat.le_refl _)) hco upd_same
end
/-- a lambda that was made in X: where it stands, what its call asks -/
structure Lam (X : Cx) (k : Nat) where
  At : Addr → Hp → Prop
  tb : XK → TE
  acts : ∀ {pins : List (Addr × Obj)} {σ : L2.St} {H : Hp} {s : Shared} {f : Addr}, Inv X pins σ H s → Acts X.prog X.w X.K X.mg X.base (k + 1) (frs X.stack) f s H (fun E HZ Q => At f HZ ∧ tb E σ HZ Q)
  same : ∀ {f : Addr} {H H1 : Hp}, At f H → ExtN H H1 → At f H1
def Lam.does {X : Cx} {k : Nat} (D : Lam X k) (f : Addr) (σ : L2.St) : XK → Hp → VK → Prop := fun E HZ Q => D.At f HZ ∧ D.tb E σ HZ Q
def LamD.lam {X : Cx} {k : Nat} (D : LamD X k) : Lam X k where
  At := D.At
  tb := D.tb
  acts := fun I => acts_of D I
  same := fun ⟨c2, h1, h2⟩ e => ⟨c2, e _ _ h1 cloO_tbl, e _ _ h2 codeO_ne⟩
/-- a lambda of X's text with one parameter that has a default -/
structure LamP (X : Cx) (k : Nat) where
  params : Arguments
  body : Expr
  scope : Scope
  a : Str
  e0 : Expr
  y0 : V
  tb : XK → TE
  L : LamT X.N X.env.scope scope a
  hdf : params.defaults = [e0]
  hkw : params.kw_defaults = []
  he0 : PE X e0 (fun _ H Q => Q y0 H)
  hbind : ∀ (q : Str) (cl : List (Str × Addr)) (T : Addr) (doc pm cv ctv : Value), ∃ kk : Option (Array Value) → Sem (List (Str × Value)), bindArgs (PySem.W.kdv_fn "<lambda>" q params (.expr body) scope cl (.ref T) doc pm cv ctv) ⟨[], []⟩ = seqItems? (.ref T) >>= kk ∧ ∀ u, kk (some #[u]) = pure [(a, u)]
  hbody : ∀ (f c2 : Addr) (E : XK) (A : Around) (outer : List Env) (s : Shared) (H : Hp), Room k (A.deeper (lamEnv X scope s.heap.objs.size f c2)) → PE (lamC X A outer s H E scope f c2) body (tb E)
def LamP.At {X : Cx} {k : Nat} (D : LamP X k) (f : Addr) (H : Hp) : Prop := ∃ c2 T, H f = some (CloD X D.params D.body D.scope f c2 T) ∧ H c2 = some (CodeO c2 (X.env.qual ++ "<lambda>")) ∧ H T = some (.tup [D.y0])
theorem cloD_tbl {X : Cx} {params : Arguments} {body : Expr} {scope : Scope} {f c2 T : Addr} (ps : Array Value) : CloD X params body scope f c2 T ≠ .tbl ps := fun z => by
  unfold CloD at z
  cases z
theorem actsP {X : Cx} {k : Nat} (D : LamP X k) {pins : List (Addr × Obj)} {σ : L2.St} {H : Hp} {s : Shared} {f : Addr} (I : Inv X pins σ H s) : Acts X.prog X.w X.K X.mg X.base (k + 1) (frs X.stack) f s H (fun E HZ Q => D.At f HZ ∧ D.tb E σ HZ Q) := by
  refine ⟨fun s1 HZ Q E hok ⟨⟨c2, T, hcf, hcc, hT⟩, ht⟩ => ?_, fun A outer s1 HZ Q E hr e0 un ⟨⟨c2, T, hcf, hcc, hT⟩, ht⟩ => ?_⟩
  · obtain ⟨⟨doc, pm, ctv, of1⟩, _, _⟩ := hok f _ hcf
    exact ⟨_, _, _, _, of1⟩
  obtain ⟨⟨doc, pm, ctv, of1⟩, _, _⟩ := e0.hok f _ hcf
  obtain ⟨⟨oc, vs, t, hoc, hdc, hvc⟩, _, _⟩ := e0.hok c2 _ hcc
  obtain ⟨_, its, rT, oT, hoT, _, nT, hsT⟩ := e0.hok T _ hT
  cases rT with
  | @cons _ u _ ur ru rr =>
    cases rr
    obtain ⟨kk, hb1, hb2⟩ := D.hbind (X.env.qual ++ "<lambda>") (cloFrom X.env.cells D.scope.names []) T doc pm (.ref c2) ctv
    have bt : BindsTo s1 (PySem.W.kdv_fn "<lambda>" (X.env.qual ++ "<lambda>") D.params (.expr D.body) D.scope (cloFrom X.env.cells D.scope.names []) (.ref T) doc pm (.ref c2) ctv) ⟨[], []⟩ [(D.a, u)] := BindsTo.of_defaults rfl hoT hsT hb1 (hb2 u)
    refine PySem.W.kla_callFunE hr.depth of1 rfl D.L.co D.L.gen rfl ⟨c2, oc, vs, t, rfl, hoc, hdc, hvc⟩ (bt _ _ _ _ ?_)
    have lim : s1.heap.NoLimit := e0.mod.nolimit.keeps fun b o e => (e0.bs b o e).1
    refine wpAny_newFunctionEnv D.L.cel (fun y hy => by rw [List.mem_singleton.mp hy]; exact D.L.arg) (fun h1 hns hsb => ⟨lim.fresh _ hsb, ?_⟩) D.L.kind
    show codeAny _ _ (.expr D.body (lamEnv X D.scope s1.heap.objs.size f c2)) _ _
    have kp : ∀ b o, s1.heap.get? b = some o → h1.get? b = some o := fun b o e => hsb.extBut b o (Nat.ne_of_lt (Heap.lt_size e)) (Heap.get?_push_of_some _ e)
    have J : Inv (lamCx X A outer s1 HZ E D.scope f c2) [] σ HZ { s1 with heap := h1, toks := s1.toks + [(D.a, u)].length } := lamT_start I D.L e0 hr.hd un hns kp
    refine PySem.W.kla_codeExpr (wpAny_mono ((D.hbody f c2 E A outer s1 HZ (hr.deeper _)).run [] _ _ HZ Q (J.wish _) ht) (fun v s2 hq => ?_) fun e s2 hq => hq)
    obtain ⟨w2, H2, J2, rv, q⟩ := hq
    exact ⟨w2, H2, J2.os, J2.bare, J2.base, J2.hok, rv, q⟩
def LamP.lam {X : Cx} {k : Nat} (D : LamP X k) : Lam X k where
  At := D.At
  tb := D.tb
  acts := fun I => actsP D I
  same := fun ⟨c2, T, h1, h2, h3⟩ e => ⟨c2, T, e _ _ h1 cloD_tbl, e _ _ h2 codeO_ne, e _ _ h3 (by intro ps z; cases z)⟩
section
variable {Z : Cx} {k kk i : Nat} {g : Addr} {TT : (XK → Hp → VK → Prop) → Hp → VK → Prop} {x a : Str} {p p1 pos : Pos}
/-- lambda a=..: body -/
theorem pe_lamP {T : List (Addr × Str)} {c PT : Addr} (D : LamP Z kk) (TB : TabB Z.base Z.mg c PT) (hcode : Z.env.code = .ref c) (hmT : (PT, Z.env.qual ++ "<lambda>") ∈ T) (hu : ∀ q ∈ T, q.1 = PT → q.2 = Z.env.qual ++ "<lambda>") :
    PE Z (.Lambda D.params D.body D.scope pos) (fun _ H Q => Tabs T H ∧ ∀ f H1, ExtN H H1 → Tabs T H1 → D.lam.At f H1 → Q (.ref f) H1) := by
  refine ⟨fun pins s σ H Q I ⟨hT, h⟩ => lamT_made I TB hcode hmT hu hT D.hdf D.hkw D.he0 (D.L.has I.ok) fun f c2 t H1 s1 I1 eN T1 nf hc ht => ?_⟩
  have ne : ∀ {b : Addr} {o : HO}, H1 b = some o → upd H1 f (CloD Z D.params D.body D.scope f c2 t) b = some o := fun {b o} e => by rw [upd_ne (ne_of_none e nf)]; exact e
  exact ⟨.ref f, _, I1, rfl, h f _ (fun b o e n => ne (eN b o e n)) (T1.ext fun b o e => ne e) ⟨c2, t, upd_same, ne hc, ne ht⟩⟩
/-- x(a) in a comprehension's block, a one of the lambdas of the def around -/
theorem pe_item {scope : Scope} (G : FnL Z.prog Z.w Z.K Z.mg Z.base k g TT) (hr : Room (kk + 1 + k) Z.A) (hk : PySem.W.keepIn Z.K (.ref g) = true) (hm : Z.mg x = some (.ref g)) (hNi : Z.N[i]? = some a)
    (hg : ∀ (s : Shared) (H : Hp) (C : Addr) (cl : List (Str × Addr)) (fp : List Addr), Gl (Z.blk s H scope (compEnvC scope cl C Z.env) fp) x) (hv : ∀ (C : Addr) (cl : List (Str × Addr)), Vis (compEnvC scope cl C Z.env).scope a)
    (he : ∀ env : Env, starEach [Expr.Name a p1] env = (false, eval (.Name a p1) env) :: starEach [] env := by intro _; rfl) (hpl : ∀ env : Env, (backTo pos (starEach [] env)).any (·.1) = false := by intro _; rfl)
    (hdb : (x == ("__debug__" : Str)) = false := by decide) (hd : (a == ("__debug__" : Str)) = false := by decide) (hcd : (a == ("__classdict__" : Str)) = false := by decide) :
    ∀ (pins : List (Addr × Obj)) (σ : L2.St) (s : Shared) (H : Hp) (C : Addr) (cl : List (Str × Addr)) (fp : List Addr), Inv Z pins σ H s → (∀ b ∈ fp, FpOk Z pins H b) →
      PE (Z.blk s H scope (compEnvC scope cl C Z.env) fp) (.Call (.Name x p) [.Name a p1] [] pos) (fun σ1 H1 Q => ∃ (f : Addr) (D : Lam Z kk), σ1[i]? = some (some (.ref f)) ∧ TT (D.does f σ) H1 Q) := by
  intro pins σ s H C cl fp I hf
  refine ⟨fun pins1 s1 σ1 H1 Q I1 ⟨f, D, hs, ht⟩ => wpAny_Call_Name_kw (ld_glob I1 (hg s H C cl fp) hm ?_ hdb)⟩
  refine PySem.W.callWith_K (h₀ := Z.base) I1.ok.mod.kin hk (thn ((pa_cons (pe_var (X := Z.blk s H scope (compEnvC scope cl C Z.env) fp) (pos := p1) (i := i) hNi (hv C cl) hd hcd) pa_nil (he _)).run pos pins1 s1 σ1 H1 (fun vs H2 => vs = [.ref f] ∧ H2 = H1) I1 ⟨.ref f, hs, rfl, rfl⟩) fun us s2 ⟨vs, H2, I2, r, ev, eH⟩ => ⟨I2.kIn, ?_⟩) (he _) (hpl _)
  subst ev
  rw [eH] at I2
  cases r with
  | @cons _ u0 _ ur ra rw2 =>
    cases rw2
    obtain rfl : u0 = Value.ref f := ra
    have IX : Inv Z pins σ H1 s2 := I.call' (ch := fp) I2.os I2.base I2.hok I2.bare fun b hb => ⟨(hf b hb).2.2.2.1, (hf b hb).2.1, (hf b hb).2.2.2.2.1, (hf b hb).2.2.2.2.2⟩
    refine wpAny_call (codeAny_mono (G.run (kk + 1) f (frs Z.stack) s2 H1 _ (D.acts IX) Z.A Z.stack s2 H1 Q hr I2.env0 Un.refl (fun c hc => .inl hc) (Nat.le_refl _) ht) fun r s3 hq => ?_)
    cases r with
    | error e => exact (show False from hq).elim
    | ok fl =>
      cases fl with
      | ret u => exact I2.after hq
      | _ => exact hq.elim
end
end ExX

namespace ExX
open PySem PySem.Spec PyProof.Rows L2
/-- a list or a tuple -/
def Kd (k : Bool) (K : PySem.W.Frag) (H : Hp) (a : Addr) (xs : List V) : Prop := if k = true then SqL K H a xs else SqT K H a xs
theorem Kd.same {k : Bool} {K : PySem.W.Frag} {H H1 : Hp} {a : Addr} {xs : List V} (h : Kd k K H a xs) (s : Same H H1) : Kd k K H1 a xs := by
  cases k
  · rcases (show SqT K H a xs from h) with (h | ⟨o, h⟩) | h
    · exact .inl (.inl (s _ _ h))
    · exact .inl (.inr ⟨o, s _ _ h⟩)
    · exact .inr h
  · exact s.seq (show SqL K H a xs from h)
theorem Kd.l {K : PySem.W.Frag} {H : Hp} {a : Addr} {xs : List V} (h : SqL K H a xs) : Kd true K H a xs := h
theorem Kd.t {K : PySem.W.Frag} {H : Hp} {a : Addr} {xs : List V} (h : SqT K H a xs) : Kd false K H a xs := h
theorem Kd.sq {k : Bool} {K : PySem.W.Frag} {H : Hp} {a : Addr} {xs : List V} (h : Kd k K H a xs) : SqL K H a xs ∨ SqT K H a xs := by
  cases k
  · exact .inr h
  · exact .inl h
/-- what is walked is one of both -/
def iKd (k : Bool) (K : PySem.W.Frag) (tl : TE) : TI := fun σ H R => if k = true then iList K tl σ H R else iTup K tl σ H R
theorem pi_kd {X : Cx} {tg l : Expr} {tl : TE} (k : Bool) (hl : PE X l tl) : PI X tg l (iKd k X.K tl) := by
  cases k
  · exact ⟨fun pins s σ H R I h => (pi_tup hl).run pins s σ H R I h⟩
  · exact ⟨fun pins s σ H R I h => (pi_list hl).run pins s σ H R I h⟩
theorem for_kd {k : Bool} {K : PySem.W.Frag} {i0 : Nat} {a : Addr} {xs : List V} {g : TG} {tb : TS} {D : Ends} {σ : L2.St} {H : Hp} (hv : σ[i0]? = some (some (.ref a))) (hS : Kd k K H a xs) (Pv : Nat → L2.St → Hp → Prop) (h0 : Pv 0 σ H) (hl : ∀ i σ H, i ≤ xs.length → Pv i σ H → Kd k K H a xs)
    (hs : ∀ i x σ H, xs[i]? = some x → Pv i σ H → g x σ H fun σ2 H2 => tb { D with nx := Pv (i + 1), ct := Pv (i + 1), bk := D.nx } σ2 H2) (hd : ∀ σ H, Pv xs.length σ H → D.nx σ H) : tFor (iKd k K (tVar i0)) g tb D σ H := by
  cases k
  · exact ⟨_, hv, a, rfl, ⟨_, hS⟩, for_tup (xs := xs) Pv h0 hl hs hd⟩
  · exact ⟨_, hv, a, rfl, ⟨_, hS⟩, for_list (xs := xs) Pv h0 hl hs hd⟩
/-- both promises of a def -/
def spOr (s1 s2 : Sp) : Sp := fun vs H Q E => s1 vs H Q (fun _ _ _ => False) ∨ s2 vs H Q E
theorem fn_or {P : Program} {w : World} {K : PySem.W.Frag} {mg : Str → Option Value} {base : Heap} {CX : CXT} {j k : Nat} {f : Addr} {fd : FuncData} {ps : List Str} {s1 s2 : Sp} (F1 : FnOk P w K mg base CX0 j f fd ps s1) (F2 : FnOk P w K mg base CX k f fd ps s2) (h : j ≤ k) : FnOk P w K mg base CX k f fd ps (spOr s1 s2) := by
  refine ⟨fun vs H Q E z => z.elim (F1.len _ _ _ _) (F2.len _ _ _ _), fun A outer s H args us vs Q E hr e0 b r z => ?_⟩
  rcases z with z | z
  · refine codeAny_mono (F1.run A outer s H args us vs Q (fun _ _ _ => False) (hr.mono h) e0 b r z) fun res s2 q => ?_
    cases res with
    | ok fl => cases fl <;> exact q
    | error e => exact (show False from q).elim
  · exact F2.run A outer s H args us vs Q E hr e0 b r z
theorem lookNE {X : Cx} {E : XK} (tk : L2N.Takes X (fun cls d _ H => E cls d H)) : Passes (L2N.CX X.prog X.w) X E := L2N.passes_call tk fun _ _ _ _ z => z
/-- nodes up to the first that is none -/
def NodesEnd (xs : List Int) (n : Nat) (good : List Nat) (ok : Prop) (bad : Int → Prop) : Prop := (∀ x ∈ good, x < n) ∧
  ((xs = good.map (fun v : Nat => (v : Int)) ∧ ok) ∨ ∃ (z : Int) (rest : List Int), xs = good.map (fun v : Nat => (v : Int)) ++ z :: rest ∧ (z < 0 ∨ (n : Int) ≤ z) ∧ z.natAbs.log2 < 1920 ∧ bad z)
theorem NodesEnd.at {xs : List Int} {n : Nat} {good : List Nat} {ok : Prop} {bad : Int → Prop} (h : NodesEnd xs n good ok bad) {i : Nat} {v : V} (hv : (xs.map V.int)[i]? = some v) (hi : i ≤ good.length) :
    (∃ u, good[i]? = some u ∧ v = .int (u : Int) ∧ u < n) ∨ (∃ z, v = .int z ∧ (z < 0 ∨ (n : Int) ≤ z) ∧ z.natAbs.log2 < 1920 ∧ bad z) := by
  rw [List.getElem?_map] at hv
  obtain ⟨k, hk, rfl⟩ := Option.map_eq_some_iff.mp hv
  by_cases h1 : i < good.length
  · refine .inl ⟨good[i], List.getElem?_eq_getElem h1, ?_, h.1 _ (List.getElem_mem h1)⟩
    have e : xs[i]? = some ((good[i] : Nat) : Int) := by
      rcases h.2 with ⟨e, _⟩ | ⟨z, rest, e, _⟩
      · rw [e, List.getElem?_map, List.getElem?_eq_getElem h1]; rfl
      · rw [e, List.getElem?_append_left (by rw [List.length_map]; exact h1), List.getElem?_map, List.getElem?_eq_getElem h1]; rfl
    rw [hk] at e
    rw [Option.some.inj e]
  · have hi2 : i = good.length := by omega
    rcases h.2 with ⟨e, _⟩ | ⟨z, rest, e, h2⟩
    · rw [e, List.getElem?_eq_none (by rw [List.length_map]; omega)] at hk; cases hk
    · rw [e, List.getElem?_append_right (by rw [List.length_map]; omega), List.length_map, hi2, Nat.sub_self] at hk
      have hk : some z = some k := hk
      rw [← Option.some.inj hk]
      exact .inr ⟨z, rfl, h2⟩
theorem NodesEnd.done {xs : List Int} {n : Nat} {good : List Nat} {ok : Prop} {bad : Int → Prop} (h : NodesEnd xs n good ok bad) (hl : (xs.map V.int).length ≤ good.length) : xs = good.map (fun v : Nat => (v : Int)) ∧ ok := by
  rw [List.length_map] at hl
  rcases h.2 with h | ⟨z, rest, e, _⟩
  · exact h
  · rw [e] at hl
    simp at hl
    omega
end ExX
namespace ExX
open PySem PySem.Spec PyProof.Rows L2
theorem lc_kd {k : Bool} {K : PySem.W.Frag} {i0 : Nat} {a : Addr} {xs : List V} {g : TG} {tt : TT} {te : TE} {vs : List Nat} {σ : L2.St} {H : Hp} {Q : VK} (hv : σ[i0]? = some (some (.ref a))) (hS : Kd k K H a xs)
    (h : ∀ D, H D = none → ∃ Pv : Nat → Hp → Prop, Pv 0 (upd H D (.lst [])) ∧ (∀ i H, i ≤ xs.length → Pv i H → Kd k K H a xs) ∧ (∀ i x H, xs[i]? = some x → Pv i H → g x (wipe σ vs) H fun σ2 H2 => wipe σ2 vs = wipe σ vs ∧ tt σ2 H2 fun b H3 =>
      if b = true then te σ2 H3 fun y H4 => ∃ acc, H4 D = some (.lst acc) ∧ acc.length < sizeLine ∧ Pv (i + 1) (upd H4 D (.lst (acc ++ [y]))) else Pv (i + 1) H3) ∧ (∀ H, Pv xs.length H → Q (.ref D) H)) : tLc (iKd k K (tVar i0)) g tt te vs σ H Q := by
  cases k
  · refine ⟨_, hv, a, rfl, ⟨_, hS⟩, fun D nD => ?_⟩
    obtain ⟨Pv, h0, hl, hs, hd⟩ := h D nD
    exact lc_tup (xs := xs) (Qd := Q (.ref D)) Pv h0 hl hs hd
  · refine ⟨_, hv, a, rfl, ⟨_, hS⟩, fun D nD => ?_⟩
    obtain ⟨Pv, h0, hl, hs, hd⟩ := h D nD
    exact lc_list (xs := xs) (Qd := Q (.ref D)) Pv h0 hl hs hd
theorem NodesEnd.len {xs : List Int} {n : Nat} {good : List Nat} {ok : Prop} {bad : Int → Prop} (h : NodesEnd xs n good ok bad) : good.length ≤ xs.length := by
  rcases h.2 with ⟨e, _⟩ | ⟨z, rest, e, _⟩
  · rw [e, List.length_map]; exact Nat.le_refl _
  · rw [e]; simp
end ExX
namespace ExX
open PySem PySem.Spec PyProof.Rows L2
theorem slc_kd {k : Bool} {K : PySem.W.Frag} {i0 j : Nat} {a : Addr} {xs : List V} {g : TG} {tt : TT} {te : TE} {vs : List Nat} {σ : L2.St} {H : Hp} {N : Ends} (hv : σ[i0]? = some (some (.ref a))) (hS : Kd k K H a xs)
    (h : ∀ D, H D = none → ∃ Pv : Nat → Hp → Prop, Pv 0 (upd H D (.lst [])) ∧ (∀ i H, i ≤ xs.length → Pv i H → Kd k K H a xs) ∧ (∀ i x H, xs[i]? = some x → Pv i H → g x (wipe σ vs) H fun σ2 H2 => wipe σ2 vs = wipe σ vs ∧ tt σ2 H2 fun b H3 =>
      if b = true then te σ2 H3 fun y H4 => ∃ acc, H4 D = some (.lst acc) ∧ acc.length < sizeLine ∧ Pv (i + 1) (upd H4 D (.lst (acc ++ [y]))) else Pv (i + 1) H3) ∧ (∀ H, Pv xs.length H → N.nx (σ.set j (some (.ref D))) H)) : tAsg (tLc (iKd k K (tVar i0)) g tt te vs) (gName j) N σ H :=
  lc_kd (Q := fun x H1 => gName j x σ H1 N.nx) hv hS h
end ExX
namespace ExX
open PySem PySem.Spec PyProof.Rows L2
/-- three parameters, given by keywords in the reverse order -/
def sw3 {α : Type} : List α → List α → List α
  | [], [c, b, a] => [a, b, c]
  | _, _ => []
theorem sw3_rel {vs : List V} {us : List Value} {zs : List V} {ws : List Value} (r : Vals vs us) (s : Vals zs ws) : Vals (sw3 vs zs) (sw3 us ws) := by
  cases r with
  | cons _ _ => exact .nil
  | nil =>
    cases s with
    | nil => exact .nil
    | cons h1 t1 =>
      cases t1 with
      | nil => exact .nil
      | cons h2 t2 =>
        cases t2 with
        | nil => exact .nil
        | cons h3 t3 =>
          cases t3 with
          | nil => exact .cons h3 (.cons h2 (.cons h1 .nil))
          | cons _ _ => exact .nil
theorem fun_sw3 {K : PySem.W.Frag} {x qual : Str} {st : Stmt} {f : Addr} {fd : FuncData} {a b c : Str} (F : Fun K x qual st f fd)
    (h : ∀ (kV doc pm : Value) (an : Option Addr) (cdv ct : Value) (u v w : Value), bindArgs (PySem.W.fnOf x qual (defArgs st) (defBody st) (defScope st) .none kV doc pm an cdv ct) ⟨[], [(c, u), (b, v), (a, w)]⟩ = pure [(a, w), (b, v), (c, u)]) : KBinds K fd [a, b, c] [c, b, a] sw3 sw3 := by
  obtain ⟨oc, od, kV, doc, pm, an, cdv, ct, osl, rfl, lk, hcd⟩ := F.ex
  refine ⟨fun s us ws _ hl => ?_, sw3_rel⟩
  match us, ws, hl with
  | [], [u, v, w], _ => exact .of_eq (h kV doc pm an cdv ct u v w)
end ExX
namespace ExX
open PySem PySem.Spec PyProof.Rows L2
/-- f(e, ..) where what is raised is wished for at the slots of the call -/
theorem pe_callN {X : Cx} {W : WX} {k : Nat} {f : Addr} {fd : FuncData} {ps : List Str} {sp : Sp} {x : Str} {q pos : Pos} {e : Expr} {es : List Expr} {t : TA} (F : FnOk X.prog X.w X.K X.mg X.base (L2N.CX X.prog X.w) k f fd ps sp) (hr : Room k X.A) (hg : Gl X x) (hm : X.mg x = some (.ref f)) (hk : PySem.W.keepIn X.K (.ref f) = true) (hb : L2.Binds X.K fd ps []) (tk : L2N.Takes X W)
    (ha : PA X (e :: es) t) (hdb : (x == ("__debug__" : Str)) = false := by decide) (he : starEach (e :: es) X.env = (false, eval e X.env) :: starEach es X.env := by rfl) (hpl : (backTo pos (starEach es X.env)).any (·.1) = false := by rfl) :
    PE X (.Call (.Name x q) (e :: es) [] pos) (fun σ H Q => t σ H fun vs H1 => sp vs H1 Q fun cls d H2 => W cls d σ H2) := by
  refine ⟨fun pins s σ H Q I h => wpAny_Call_Name_kw (ld_glob I hg hm ?_ hdb)⟩
  refine PySem.W.callWith_K (h₀ := X.base) I.ok.mod.kin hk (thn (ha.run pos pins s σ H _ I h) fun us s1 ⟨vs, H1, I1, r, w⟩ => ⟨I1.kIn, ?_⟩) he hpl
  have hl : us.length = ps.length := by rw [← r.length]; exact F.len _ _ _ _ w
  have b := hb s1 us I1.kIn (by rw [List.append_nil]; exact hl)
  rw [List.append_nil] at b
  refine wpAny_call (codeAny_mono (F.run X.A X.stack s1 H1 ⟨us, []⟩ us vs Q _ hr I1.env0 b r w) fun res s2 hq => ?_)
  cases res with
  | error er => exact tk er s2 (L2N.XE.of_call I1 (fun cls d H2 z => z) hq)
  | ok fl =>
    cases fl with
    | ret u => exact I1.after hq
    | _ => exact hq.elim
end ExX
namespace ExX
open PySem PySem.Spec PyProof.Rows L2
/-- one parameter, given by its keyword -/
def sw1 {α : Type} : List α → List α → List α
  | [], [a] => [a]
  | _, _ => []
theorem sw1_rel {vs : List V} {us : List Value} {zs : List V} {ws : List Value} (r : Vals vs us) (s : Vals zs ws) : Vals (sw1 vs zs) (sw1 us ws) := by
  cases r with
  | cons _ _ => exact .nil
  | nil =>
    cases s with
    | nil => exact .nil
    | cons h1 t1 =>
      cases t1 with
      | nil => exact .cons h1 .nil
      | cons h2 t2 => exact .nil
theorem fun_sw1 {K : PySem.W.Frag} {x qual : Str} {st : Stmt} {f : Addr} {fd : FuncData} {a : Str} (F : Fun K x qual st f fd)
    (h : ∀ (kV doc pm : Value) (an : Option Addr) (cdv ct : Value) (u : Value), bindArgs (PySem.W.fnOf x qual (defArgs st) (defBody st) (defScope st) .none kV doc pm an cdv ct) ⟨[], [(a, u)]⟩ = pure [(a, u)]) : KBinds K fd [a] [a] sw1 sw1 := by
  obtain ⟨oc, od, kV, doc, pm, an, cdv, ct, osl, rfl, lk, hcd⟩ := F.ex
  refine ⟨fun s us ws _ hl => ?_, sw1_rel⟩
  match us, ws, hl with
  | [], [u], _ => exact .of_eq (h kV doc pm an cdv ct u)
end ExX

namespace ExX
open PySem PySem.Spec PyProof.Rows L2
theorem meets_enum1 {v : Value} {o : Obj} {H : Heap → Prop} (B : Begins v o H) : Meets (Builtin.«enumerate.__new__» ⟨[.type "enumerate", v], []⟩) (fun _ R s => H s.heap ∧
      R (.ok (.ret (.ref (s.heap.push o).objs.size))) { s with heap := (s.heap.push o).push { cls := .type "enumerate", data := .fields #[.none, .bool false, .ref s.heap.objs.size, rawInt 0, .none, .none] } }) :=
  .of_wp fun prog w A R s h => by
    obtain ⟨hp, g, d, tk, os⟩ := s
    obtain ⟨h1, h⟩ := h
    have hsub := sub_enumerate
    have q1 : ∀ {A' : Around} {E : Value → Shared → Prop} {Q : Value → Shared → Prop}, Q (.ref hp.objs.size) ⟨hp.push o, g, d, tk, os⟩ → wpAny (model prog w) A' (pyIter v) Q E ⟨hp, g, d, tk, os⟩ := fun q => B.iter prog w _ _ ⟨hp, g, d, tk, os⟩ _ h1 q
    wp_walk using q1
    refine wpAny_stack_any fun st => wpAny_pure ?_
    split
    · rename_i c _ _ _ _ _
      cases (c == Value.type "enumerate") <;> (wp_walk using q1; exact ⟨_, rfl, h⟩)
    · wp_walk using q1
      exact ⟨_, rfl, h⟩
/-- enumerate(t), t a tuple -/
theorem call_enumT {prog : Program} {w : World} {A : Around} {E : Value → Shared → Prop} {s : Shared} {t : Addr} {items : Array Value} {Q : Value → Shared → Prop} (hT : s.heap.IsTuple t items)
    (h : ∀ h1, IsEnum h1 (s.heap.objs.size + 1) s.heap.objs.size 0 .none → h1.IsTupleIter s.heap.objs.size t 0 → (∀ b o, s.heap.get? b = some o → h1.get? b = some o) → Q (.ref (s.heap.objs.size + 1)) { s with heap := h1 }) :
    wpAny (model prog w) A (call (.type "enumerate") [.ref t]) Q E s := by
  refine callType_new F.called_enumerate (by decide) (F.typeCall_enumerate_1 _) (F.newCall_enumerate_1 _) (fun obj => F.args_object_init_2 obj _) F.entry_enumerate_new (meets_enum1 (begins_tuple t items)) ⟨hT, ?_⟩
  obtain ⟨oI, eI⟩ : ∃ oI : Obj, oI = { cls := .type "tuple_iterator", data := .fields #[.ref t, .int 0 0] } := ⟨_, rfl⟩
  rw [← eI]
  have sz : (s.heap.push oI).objs.size = s.heap.objs.size + 1 := Heap.size_push ..
  show _ ∧ _
  rw [sz]
  have he := Heap.get?_push_size (s.heap.push oI) (o := { cls := .type "enumerate", data := .fields #[.none, .bool false, .ref s.heap.objs.size, rawInt 0, .none, .none] }) rfl
  rw [sz] at he
  have hi : ((s.heap.push oI).push { cls := .type "enumerate", data := .fields #[.none, .bool false, .ref s.heap.objs.size, rawInt 0, .none, .none] }).get? s.heap.objs.size = some oI := Heap.get?_push_of_some _ (Heap.get?_push_size _ (by rw [eI]; rfl))
  exact ⟨⟨_, he, rfl⟩, h _ he ⟨_, hi, by rw [eI], by rw [eI]; rfl⟩ fun b o x => Heap.get?_push_of_some _ (Heap.get?_push_of_some _ x)⟩
/-- the tuple at a, each item with its number in a new pair -/
def ItE (K : PySem.W.Frag) (a : Addr) : It :=
  ⟨fun i H => ∃ (xs : List V) (x : V), SqT K H a xs ∧ xs[i]? = some x, fun i H v H1 => ∃ T x, v = .ref T ∧ H T = none ∧ H1 = upd H T (.tup [.int (i : Nat), x]) ∧ ∀ xs, SqT K H a xs → xs[i]? = some x, fun i H => ∃ xs : List V, SqT K H a xs ∧ xs.length ≤ i⟩
theorem turn_enumT {P : Program} {w : World} {K : PySem.W.Frag} {elts : List Expr} {kk : Nat} {tpos : Pos} (a e it : Addr) :
    Turn P w K (.Tuple elts kk tpos) (ItE K a) [e, it] e (fun i h => (∃ old, IsEnum h e it ((i : Nat) : Int) old) ∧ h.IsTupleIter it a i ∧ e ≠ it ∧ a ≠ it ∧ a ≠ e) where
  mem := by simp
  obj := fun i h ⟨⟨old, he⟩, ⟨o, ho, hc, hd⟩, _⟩ b hb => by
    rcases List.mem_cons.mp hb with z | z
    · rw [z]; exact ⟨_, he, fun v q => nomatch q⟩
    · rw [List.mem_singleton.mp z]; exact ⟨o, ho, fun v q => by rw [hd] at q; cases q⟩
  keep := fun i h h1 ⟨⟨old, he⟩, hi, r⟩ k => ⟨⟨old, k e (by simp) _ he⟩, hi.at fun o q => k it (by simp) o q, r⟩
  item := by
    intro X hP hw hK hc i pins s σ H E I hf ⟨⟨old, he⟩, hit, hne, hai, hae⟩ ⟨xs, x, hq, hx⟩
    subst hP hw hK
    obtain ⟨its, rv, p, hz⟩ := I.tuple hq
    obtain ⟨u, hu, ru⟩ := rv.get hx
    have hel : e < s.heap.objs.size := Heap.lt_size he
    have hil : it < s.heap.objs.size := by obtain ⟨_, q, _⟩ := hit; exact Heap.lt_size q
    have hlt : i < its.toArray.size := by
      have := (List.getElem?_eq_some_iff.mp hu).1
      simpa using this
    have D := Draws.tuple (prog := X.prog) (w := X.w) (A := X.A.in1) (by simpa using I.ok.hd hc) it a hai its.toArray
    refine wpAny_pyNext_enum_itemD D he ⟨hit, p⟩ hlt hne (by simp [hne, Ne.symm hae]) fun x2 h1 tk hP2 ho ⟨hit1, _⟩ hT hsz hk => ?_
    have e2 : x2 = u := by
      have z : its.toArray[i]? = some u := by simpa using hu
      exact Option.some.inj (hP2.symm.trans z)
    subst e2
    refine ⟨_, rfl, wpAny_letOwnedTupleGo_enum (s := { s with heap := h1, toks := tk + 1 }) ho fun h2 he2 sb => ?_⟩
    have hT2 : h2.get? s.heap.objs.size = some { cls := .type "tuple", data := .seq #[.int i tk, x2] } := (sb.2 _ (Nat.ne_of_gt hel)).trans hT
    have new : ObjOk X.prog X.w (upd H s.heap.objs.size (.tup [.int (i : Nat), x])) h2 s.heap.objs.size (.tup [.int (i : Nat), x]) := ⟨by show 2 ≤ sizeLine; decide, [.int i tk, x2], .cons ⟨_, rfl⟩ (.cons ru .nil), ⟨_, hT2, rfl, _, rfl⟩⟩
    have I1 : Inv X pins σ (upd H s.heap.objs.size (.tup [.int (i : Nat), x])) { s with heap := h2, toks := tk + 1 } :=
      I.turnedNew (ch := [e, it]) (fun b ob hb q => (sb.2 b (fun z => hb (by simp [z]))).trans (hk b ob (fun z => hb (by simp [z])) (fun z => hb (by simp [z])) q)) hf (Nat.le_refl _) new
    refine ⟨.ref s.heap.objs.size, _, I1, rfl, ⟨_, x, rfl, I.hok.fresh (Nat.le_refl _), rfl, fun ys hy => by rw [I.tuple_inj hy hq]; exact hx⟩, ⟨⟨x2, ?_⟩, hit1.at fun o q => (sb.2 it (Ne.symm hne)).trans q, hne, hai, hae⟩, fun b hb => ?_⟩
    · rw [show ((i + 1 : Nat) : Int) = (i : Int) + 1 by omega]; exact he2
    · have hb2 : b < s.heap.objs.size := by
        rcases List.mem_cons.mp hb with z | z
        · rw [z]; exact hel
        · rw [List.mem_singleton.mp z]; exact hil
      rw [upd_ne (Nat.ne_of_lt hb2)]
      exact (hf b hb).1
  done := by
    intro X hP hw hK hc i pins s σ H E I hf ⟨⟨old, he⟩, hit, hne, hai, hae⟩ ⟨xs, hq, hx⟩
    subst hP hw hK
    obtain ⟨its, rv, p, hz⟩ := I.tuple hq
    obtain ⟨f0, f1, f2, f3, f4, f5⟩ := hf it (by simp)
    have hl := rv.length
    have hh : X.A.in1.handled = none := by simpa using I.ok.hd hc
    have D0 : Draws X.prog X.w X.A.in1 it [it, a] i (fun j v => False) (fun j h => j = i ∧ h.IsTupleIter it a i ∧ h.IsTuple a its.toArray) :=
      { live := fun _ _ ⟨_, ⟨o, ho, _⟩, _⟩ => ⟨o, ho⟩
        frame := fun _ _ _ ⟨r, st1, st2⟩ hk => ⟨r, st1.at fun o e => hk it (by simp) o e, st2.at fun o e => hk a (by simp) o e⟩
        item := fun j s Q E hj ⟨r, _⟩ _ => absurd r (Nat.ne_of_lt hj)
        done := fun s Q E ⟨_, st1, st2⟩ hE => wpAny_nextOf_tuple_end hh st1 st2 (by simp; omega) hE }
    exact wpAny_pyNext_enum_endD D0 he ⟨rfl, hit, p⟩ fun h1 eb => ⟨rfl, I.turned (t' := s.toks) (fun b o hb q => eb b o hb q) f0 f1 f3 f4 f5⟩
  self := fun A i s Q E ⟨⟨_, he⟩, _⟩ h => wpAny_pyIter_enum he h
def iEnumT (K : PySem.W.Frag) (ta : TA) : TI := fun σ H R => ta σ H fun vs H1 => ∃ a xs, vs = [.ref a] ∧ SqT K H1 a xs ∧ R (ItE K a) H1
theorem pi_enumT {X : Cx} {e : Expr} {ta : TA} {p pos tpos : Pos} {elts : List Expr} {kk : Nat} (hg : Gl X "enumerate") (hm : X.mg "enumerate" = none) (ha : PA X [e] ta) (hs : starEach [e] X.env = [(false, eval e X.env)] := by rfl) :
    PI X (.Tuple elts kk tpos) (.Call (.Name "enumerate" p) [e] [] pos) (iEnumT X.K ta) := by
  refine ⟨fun pins s σ H R I h => ?_⟩
  refine Call_ (ld_blt I hg hm boot_enumerate (PyProof.Rows.callWith_type1 (thn (ha.run pos pins s σ H _ I h) fun us s1 ⟨vs, H1, I1, r1, a, xs, ex, hq, q⟩ => ?_) hs rfl))
  subst ex
  cases r1 with
  | cons r rr =>
    cases rr
    cases r
    obtain ⟨its, rv, p2, hz⟩ := I1.tuple hq
    have al : a < s1.heap.objs.size := p2.lt
    refine call_enumT p2 fun h1 he hit hk => wpAny_pyIter_enum he ?_
    have I2 : Inv X pins σ H1 { s1 with heap := h1 } := I1.kept (t' := s1.toks) hk
    refine ⟨s1.heap.objs.size + 1, [s1.heap.objs.size + 1, s1.heap.objs.size], _, _, H1, rfl, I2, turn_enumT a (s1.heap.objs.size + 1) s1.heap.objs.size, ⟨⟨.none, he⟩, hit, Nat.succ_ne_self _, Nat.ne_of_lt al, Nat.ne_of_lt (Nat.lt_succ_of_lt al)⟩, fun b hb => ?_, q⟩
    have hle : s1.heap.objs.size ≤ b := by
      rcases List.mem_cons.mp hb with z | z
      · rw [z]; exact Nat.le_succ _
      · rw [List.mem_singleton.mp z]; exact Nat.le_refl _
    exact I1.fpOk hle (I1.hok.fresh hle)
/-- a comprehension over enumerate(t) -/
theorem lc_enumT {K : PySem.W.Frag} {a : Addr} {xs : List V} {g : TG} {tt : TT} {te : TE} {vs : List Nat} {σ : L2.St} {H1 : Hp} {D : Addr} {Qd : Hp → Prop} (Pv : Nat → Hp → Prop) (h0 : Pv 0 (upd H1 D (.lst []))) (hl : ∀ i H, i ≤ xs.length → Pv i H → SqT K H a xs)
    (hs : ∀ i x H T, xs[i]? = some x → Pv i H → H T = none → g (.ref T) (wipe σ vs) (upd H T (.tup [.int (i : Nat), x])) fun σ2 H2 => wipe σ2 vs = wipe σ vs ∧ tt σ2 H2 fun b H3 =>
      if b = true then te σ2 H3 fun y H4 => ∃ acc, H4 D = some (.lst acc) ∧ acc.length < sizeLine ∧ Pv (i + 1) (upd H4 D (.lst (acc ++ [y]))) else Pv (i + 1) H3) (hd : ∀ H, Pv xs.length H → Qd H) :
    ∃ W : Nat → Nat → Hp → Prop, (∃ m, W 0 m (upd H1 D (.lst []))) ∧ ∀ i m H, W i m H →
      ((ItE K a).stop i H ∧ Qd H) ∨ ((ItE K a).go i H ∧ ∃ Nx : Hp → Prop, (∀ H2, Nx H2 → ∃ m2, m2 < m ∧ W (i + 1) m2 H2) ∧ ∀ x H2, (ItE K a).yld i H x H2 → g x (wipe σ vs) H2 fun σ2 H2 => wipe σ2 vs = wipe σ vs ∧ tt σ2 H2 fun b H3 =>
        if b = true then te σ2 H3 fun y H4 => ∃ acc, H4 D = some (.lst acc) ∧ acc.length < sizeLine ∧ Nx (upd H4 D (.lst (acc ++ [y]))) else Nx H3) := by
  refine ⟨fun i m H => m = xs.length - i ∧ i ≤ xs.length ∧ Pv i H, ⟨xs.length, by simp, Nat.zero_le _, h0⟩, fun i m H ⟨em, hi, hp⟩ => ?_⟩
  subst em
  have hq := hl i H hi hp
  by_cases hlt : i < xs.length
  · refine .inr ⟨⟨xs, xs[i], hq, by simp [hlt]⟩, Pv (i + 1), fun H2 p2 => ⟨xs.length - (i + 1), by omega, rfl, hlt, p2⟩, fun x H2 ⟨T, y, ex, nT, eH, hy⟩ => ?_⟩
    subst ex eH
    exact hs i y H T (hy xs hq) hp nT
  · have : i = xs.length := by omega
    subst this
    exact .inl ⟨⟨xs, hq, Nat.le_refl _⟩, hd H hp⟩
end ExX
namespace ExX
open PySem PySem.Spec PyProof.Rows L2
theorem for_enumT {K : PySem.W.Frag} {a : Addr} {xs : List V} {g : TG} {tb : TS} {D : Ends} {σ : L2.St} {H : Hp} (Pv : Nat → L2.St → Hp → Prop) (h0 : Pv 0 σ H) (hl : ∀ i σ H, i ≤ xs.length → Pv i σ H → SqT K H a xs)
    (hs : ∀ i x σ H T, xs[i]? = some x → Pv i σ H → H T = none → g (.ref T) σ (upd H T (.tup [.int (i : Nat), x])) fun σ2 H2 => tb { D with nx := Pv (i + 1), ct := Pv (i + 1), bk := D.nx } σ2 H2) (hd : ∀ σ H, Pv xs.length σ H → D.nx σ H) :
    ∃ W : Nat → Nat → L2.St → Hp → Prop, (∃ m, W 0 m σ H) ∧ ∀ i m σ H, W i m σ H →
      ((ItE K a).stop i H ∧ D.nx σ H) ∨ ((ItE K a).go i H ∧ ∃ N : L2.St → Hp → Prop, (∀ σ2 H2, N σ2 H2 → ∃ m2, m2 < m ∧ W (i + 1) m2 σ2 H2) ∧ ∀ x H2, (ItE K a).yld i H x H2 → g x σ H2 fun σ2 H2 => tb { D with nx := N, ct := N, bk := D.nx } σ2 H2) := by
  refine ⟨fun i m σ H => m = xs.length - i ∧ i ≤ xs.length ∧ Pv i σ H, ⟨xs.length, by simp, Nat.zero_le _, h0⟩, fun i m σ H ⟨em, hi, hp⟩ => ?_⟩
  subst em
  have hq := hl i σ H hi hp
  by_cases hlt : i < xs.length
  · refine .inr ⟨⟨xs, xs[i], hq, by simp [hlt]⟩, Pv (i + 1), fun σ2 H2 p2 => ⟨xs.length - (i + 1), by omega, rfl, hlt, p2⟩, fun x H2 ⟨T, y, ex, nT, eH, hy⟩ => ?_⟩
    subst ex eH
    exact hs i y σ H T (hy xs hq) hp nT
  · have : i = xs.length := by omega
    subst this
    exact .inl ⟨⟨xs, hq, Nat.le_refl _⟩, hd σ H hp⟩
end ExX

namespace ExX
open PySem PySem.Spec PyProof.Rows L2
/-- a def that may raise, called where it does not -/
theorem fn_no {P : Program} {w : World} {K : PySem.W.Frag} {mg : Str → Option Value} {base : Heap} {k : Nat} {f : Addr} {fd : FuncData} {ps : List Str} {sp sp' : Sp} (F : FnOk P w K mg base (L2N.CX P w) k f fd ps sp) (h : ∀ vs H Q E, sp' vs H Q E → sp vs H Q (fun _ _ _ => False)) : FnOk P w K mg base CX0 k f fd ps sp' := by
  refine ⟨fun vs H Q E z => F.len _ _ _ _ (h _ _ _ _ z), fun A outer s H args us vs Q E hr e0 b r z => ?_⟩
  refine codeAny_mono (F.run A outer s H args us vs Q (fun _ _ _ => False) hr e0 b r (h _ _ _ _ z)) fun res s2 q => ?_
  cases res with
  | ok fl => cases fl <;> exact q
  | error e =>
    have q : L2N.CX P w outer H s (fun _ _ _ => False) e s2 := q
    unfold L2N.CX at q
    simp at q
def noE (sp : Sp) : Sp := fun vs H Q _ => sp vs H Q fun _ _ _ => False
theorem fn_noE {P : Program} {w : World} {K : PySem.W.Frag} {mg : Str → Option Value} {base : Heap} {k : Nat} {f : Addr} {fd : FuncData} {ps : List Str} {sp : Sp} (F : FnOk P w K mg base (L2N.CX P w) k f fd ps sp) : FnOk P w K mg base CX0 k f fd ps (noE sp) := fn_no F fun _ _ _ _ z => z
theorem Flies.same {H H1 : Hp} {E : XK} {C : Addr} {fld tag : Str} {v : V} (f : Flies H E C fld tag v) (s : Same H H1) : Flies H1 E C fld tag v := fun d H2 n h s2 => f d H2 (sm_none s n) h (s.trans s2)
end ExX

/-! An end for a law whose lambdas stand in several defs: the tables of all of them are empty. -/
namespace LamX
open PySem PySem.Spec PyProof.Rows L2
theorem walk_many {law : PySem.W.OpenLaw} {top lev : Nat} {prg : Program} {ls : List Str} {XQ : (Str → Option Value) → Heap → Prop} {YQ : World → Heap → Prop} {dr : DefRec} {KK : Params → PySem.W.Frag} {CQ : World → CXT} {arg : Str}
    (h1 : law.most = some top) (h2 : top ≤ sizeLine)
    (h3 : dr.params.defaults = []) (h4 : Room lev callerA)
    (h5 : ∀ (w : World) (hp : Heap), YQ w hp → (KK w.params).In hp)
    (h6 : ∀ (w : World) (gl : Str → Option Value) (af : Addr) (hp : Heap), YQ w hp → (KK w.params).In hp → hp.Ns mainGlobals gl → gl dr.name = some (.ref af) →
      (∀ (y : Str) (ay : Addr), ((recsOf prg).any fun e => e.name == y) = true → gl y = some (.ref ay) → OwnTab (KK w.params) ay hp) → LawAtS law w (KK w.params) (CQ w) lev top arg gl af hp)
    (h7 : ∀ (w : World) (Hh : Hp) (sh : Shared) (er : Value) (sh' : Shared), CQ w [] Hh sh (fun _ _ _ => False) er sh' → False) :
    PySem.W.WalkO prg ls XQ YQ law.row.toRowW dr [] (fun g us => PySem.call g us) := by
  refine Att.attach_callB h1 h3 ?_
  intro w sA sB gl mb af ob pm cd dc aa vv nn GG YY x1 x2 x3 x4 x5 x6 x7 x8 x9
  have hk := h5 w _ YY
  obtain ⟨fd, cs, sp, t1, t2, t3, t4, t5, t6⟩ := h6 w gl af _ YY hk GG.T.g x4 (by
    intro y ay hy gy c P o1 fd1 e dd vs1 sl k1 k2 k3 k4 k5
    obtain ⟨rec, mem, nm⟩ := List.any_eq_true.mp hy
    obtain ⟨b1, b2, b3, b4, b5, r1, r2, r3, r4, r5, r6⟩ := GG.T.tab rec mem
    rw [beq_iff_eq.mp nm, gy] at r1
    cases r1
    rw [hk _ _ k1] at r2
    cases r2
    rw [k2] at r3
    cases r3
    rw [k3] at r4
    cases r4
    obtain ⟨⟨oc, vc, e1, _, e3, e4⟩, fin⟩ := r6
    rw [hk _ _ k4] at e1
    cases e1
    cases e3
    rw [k5] at e4
    cases e4
    exact fin)
  refine law_callTs hk GG.T.g GG.T.b GG.T.builtins GG.T.nolimit x9 t1 t2 t3 GG.T.bmain x5 x6 ?_ h4 t6 t4 ?_ ?_
  · exact Nat.le_trans x7 h2
  · exact fun Hh hH hS => t5 Hh aa nn x7 x8 hH hS
  · exact fun Hh er sh' => h7 w Hh sB er sh'
end LamX

/-! word, *rest = a tuple: its first item, and the others in a new list. -/
namespace RSt
open PySem PySem.Spec PyProof.Rows L2
theorem drop {prog : Program} {w : World} {A : Around} {I : Addr} {fp wr : List Addr} {n k : Nat} {P : Nat → Value → Prop} {St : Nat → Heap → Prop} (hk : k ≤ n) (W : Walks prog w A I fp wr n P St) :
    Walks prog w A I fp wr (n - k) (fun i v => P (i + k) v) (fun i h => St (i + k) h) where
  sub := W.sub
  frame := fun i => W.frame (i + k)
  item := fun i s Q E hi st hQ => W.item (i + k) s Q E (by omega) st fun v h' tk hP hst => hQ v h' tk hP (by rw [show i + 1 + k = i + k + 1 by omega]; exact hst)
  done := fun s Q E st hQ => W.done s Q E (by rw [show n - k + k = n by omega] at st; exact st) hQ
  self := fun i => W.self (i + k)
theorem items_drop {items acc : Array Value} {k : Nat} (hk : k ≤ items.size) (h : ItemsOf (fun i v => items[i + k]? = some v) acc (items.size - k)) : acc.toList = items.toList.drop k := by
  refine List.ext_getElem? fun j => ?_
  rw [List.getElem?_drop]
  by_cases hj : j < acc.size
  · have e : acc[j]? = some acc[j] := by simp [hj]
    have := h.2 j _ e
    rw [Array.getElem?_toList, e, Array.getElem?_toList, Nat.add_comm]
    exact this.symm
  · have h1 := h.1
    rw [List.getElem?_eq_none (by simp; omega), List.getElem?_eq_none (by simp; omega)]
section
variable {prog : Program} {w : World} {A : Around} {E : Value → Shared → Prop} {s : Shared}
theorem star_items {t : Addr} {items : Array Value} {x : Value} {Q : List Value → Shared → Prop} (hh : A.handled = none) (ht : s.heap.IsTuple t items) (hx : items[0]? = some x) (hz : items.size ≤ sizeLine)
    (hQ : ∀ (h' : Heap) tk, (∀ b o, s.heap.get? b = some o → h'.get? b = some o) → Q [x, .ref h'.objs.size] { s with heap := h'.push { cls := .type "list", data := .seq (items.toList.drop 1).toArray }, toks := tk }) :
    wpAny (model prog w) A (unpackItems (.ref t) 2 (some 1)) Q E s := by
  have hlt : t ≠ s.heap.objs.size := by obtain ⟨o, ho, _⟩ := ht; exact Nat.ne_of_lt (Heap.lt_size ho)
  have h0 : 0 < items.size := by
    by_cases z : 0 < items.size
    · exact z
    · rw [Array.getElem?_eq_none (by omega)] at hx
      cases hx
  have he : items.toList.drop 0 = x :: items.toList.drop 1 := by
    have e : items.toList[0]? = some x := by simpa using hx
    cases hl : items.toList with
    | nil => rw [hl] at e; cases e
    | cons y ys =>
      rw [hl] at e
      cases e
      rfl
  unfold unpackItems
  refine wpAny_bind ?_
  unfold notIterableAtAll
  refine wpAny_bind (wpAny_specialOf ht.typeIs F.slot_tuple_iter.lookup ?_)
  refine wpAny_pure ?_
  simp only [Bool.false_eq_true, if_false]
  refine wpAny_bind (wpAny_holding (wpAny_pyIter_tuple ht ?_))
  refine wpAny_bind (wpAny_holding (wpAny_draw_tuple hlt 1 0 _ _ ⟨_, Heap.get?_push_size _ rfl, rfl, rfl⟩ (ht.push _) (by omega) fun h₁ hit₁ hs₁ => ?_))
  rw [he, List.take_succ_cons, List.take_zero, if_neg (by simp)]
  have ht₁ : h₁.IsTuple t items := (ht.push _).extBut hs₁.extBut hlt
  obtain ⟨o1, ho1, c1, d1⟩ := id hit₁
  obtain ⟨o2, ho2, _⟩ := id ht₁
  have k1 : ∀ b o, s.heap.get? b = some o → h₁.get? b = some o := fun b o e => hs₁.extBut b o (Nat.ne_of_lt (Heap.lt_size e)) (Heap.get?_push_of_some _ e)
  refine wpAny_bind (wpAny_holding (wpAny_collect_iter (T := "tuple_iterator") (.inr (.inr (.inr rfl))) (drop (k := 1) h0 (Walks.tuple (A := A.in1) hh s.heap.objs.size t hlt items)).toS
    (fun i s' st => st.1.typeIs) ⟨by simpa using hit₁, ht₁⟩ (fun b hb => ?_) (by simp) (fun s' acc hm hacc => ?_) (by omega)))
  · have e : b = s.heap.objs.size ∨ b = t := by simpa using hb
    rcases e with e | e
    · rw [e]; exact Heap.lt_size ho1
    · rw [e]; exact Heap.lt_size ho2
  · rw [items_drop h0 hacc, Moved.eq_with hm]
    rw [show 2 - 1 - 1 = 0 by rfl]
    refine wpAny_bind ?_
    rw [Nat.sub_zero, List.take_length, List.drop_length]
    refine wpAny_newList (wpAny_pure ?_) (by rw [List.length_drop]; show items.toList.length - 1 ≤ sizeLine; rw [Array.length_toList]; omega)
    refine hQ s'.heap s'.toks fun b o e => hm.heap b o (fun z => ?_) (k1 b o e)
    have e1 : b = s.heap.objs.size := List.mem_singleton.mp z
    exact absurd (Heap.lt_size e) (by rw [e1]; exact Nat.lt_irrefl _)
end
end RSt
namespace L2
open PySem PySem.Spec PyProof.Rows
/-- head, *rest = a tuple that has a first item -/
def gHead (K : PySem.W.Frag) (g1 g2 : TG) : TG := fun v σ H Q => ∃ a x xs, v = .ref a ∧ SqT K H a (x :: xs) ∧ ∀ p, H p = none → g1 x σ (upd H p (.lst xs)) fun σ1 H1 => g2 (.ref p) σ1 H1 Q
section
variable {X : Cx}
theorem pg_head {e1 e2 : Expr} {k : Nat} {p pos : Pos} {g1 g2 : TG} (hc : X.calm = true) (h1 : PG X e1 g1) (h2 : PG X e2 g2)
    (hn : assignEach [e1, .Starred e2 p] X.env = [(false, assign e1 X.env), (true, assign e2 X.env)] := by rfl) : PG X (.Tuple [e1, .Starred e2 p] k pos) (gHead X.K g1 g2) := by
  refine ⟨fun pins s σ H v u Q I r hw => ?_⟩
  obtain ⟨a, x, xs, e0, hq, hw⟩ := hw
  subst e0
  cases r
  obtain ⟨its, rv, ht, hz⟩ := I.tuple hq
  have hlen := rv.length
  cases rv with
  | @cons _ u _ us ru rr =>
    rw [assign_Tuple]
    refine wpAny_bind (wpAny_standAt ?_)
    unfold unpack
    rw [hn]
    refine wpAny_bind (wpAny_holding (RSt.star_items (I.ok.hd hc) (show s.heap.IsTuple a (u :: us).toArray from ht) (x := u) (by simp) (by simp at hlen ⊢; simp at hz; omega) fun h' tk hk => ?_))
    have I1 : Inv X pins σ H { s with heap := h', toks := tk } := I.kept hk
    have I2 := I1.laid (a := h'.objs.size) (o := .lst xs) (h' := h'.push { cls := .type "list", data := .seq ((u :: us).toArray.toList.drop 1).toArray }) (t' := tk) (fun b o e => Heap.get?_push_of_some _ e) (Nat.le_refl _)
      ⟨by simp at hz; omega, us, 0, rr, by rw [Heap.get?_push_size _ rfl]; rfl⟩
    refine assignInOrder_cons (thn (h1.run pins _ σ _ x u _ I2 ru (hw _ (I1.hok.fresh (Nat.le_refl _)))) fun _ s1 ⟨σ1, H1, I3, q1⟩ => ?_)
    refine assignInOrder_cons (thn (h2.run pins s1 σ1 H1 (.ref h'.objs.size) (.ref h'.objs.size) _ I3 rfl q1) fun _ s2 ⟨σ2, H2, I4, q2⟩ => ?_)
    exact assignInOrder_nil ⟨σ2, H2, I4, q2⟩
end
end L2

/-! a def whose first statement stores f(text.replace(..).replace(..).split()): a token is out -/
namespace Ff
open PySem PySem.Spec PyProof.Rows L2 ExX
section
variable {X : Cx} {o e : Expr} {to te : TE} {ta : TA} {p pos apos : Pos}
theorem mt_split0 : MtR X "str.split" (fun x xs H Q => ∃ a, x = .str a ∧ xs = [] ∧ a.length + 2 ≤ sizeLine ∧ rNewStrs (Txt.words a) H Q) := by
  intro pins s σ H x xs v us Q I rx rs h
  obtain ⟨a, rfl, rfl, hz, h⟩ := h
  obtain ⟨t, rfl⟩ := rx
  cases rs with
  | nil =>
    have hl : (Txt.words a).length ≤ sizeLine := Nat.le_trans (words_le a) (by omega)
    have hn : (Builtin.Str.spaceWords a (a.length + 1)).length ≤ sizeLine := by
      have e1 := (StrLaws.sw_weight a).1
      have e2 := StrLaws.len_le_wsum (Builtin.Str.spaceWords a (a.length + 1))
      omega
    refine call_meets F.slot_str_split (typeIs_str _ _ _) F.entry_str_split (F.args_str_split_1 _) (meets_str_split_space a t (by omega) hn) ?_
    cases hw : Builtin.Str.spaceWords a (a.length + 1) == [(0, a.length)]
    · simp only [Bool.false_eq_true, if_false]
      rw [strsFrom_eq]
      exact laid_strs (ys := Txt.words a) I ((numbered_texts _ _).trans (if_neg (ne_true_of_eq_false hw)).symm) hl h
    · simp only [if_true]
      exact laid_strs (l := [(a, t)]) (ys := Txt.words a) (k := s.toks) I (if_pos hw).symm hl h
def rSplit0 : V → List V → Hp → VK → Prop := fun x xs H Q => ∃ a, x = .str a ∧ xs = [] ∧ a.length + 2 ≤ sizeLine ∧ rNewStrs (Txt.words a) H Q
theorem pet_split0 (ho : PET X o to) (hbase : attributeBase o "split" X.env (eval o X.env) = eval o X.env := by rfl) (hline : (apos.endLine == pos.line) = true := by rfl) : PET X (.Call (.Attribute o "split" apos) [] [] pos) (tM0 rSplit0 to) := by
  intro pins s σ H Q h0 I h
  refine PySem.Call_method0 hbase hline (thn (ho pins s σ H _ h0 I h) fun v s1 ⟨x, H1, I1, r1, q1⟩ => ?_)
  obtain ⟨⟨a, rfl⟩, q1⟩ := q1
  obtain ⟨t, rfl⟩ := _root_.id r1
  exact ⟨"str", _, F.plainAttrs_str, F.slot_str_split, F.type_str_split, typeIs_str _ _ _, (fun _ e => nomatch e), Calls.callWith_builtin rfl (PySem.evalArgs_none (mt_split0 pins s1 σ H1 _ [] _ [] Q I1 r1 .nil q1))⟩
theorem pet_call {CX : CXT} {k : Nat} {f : Addr} {fd : FuncData} {ps : List Str} {sp : Sp} {x : Str} {E : XK} (F : FnOk X.prog X.w X.K X.mg X.base CX k f fd ps sp) (hr : Room k X.A) (hg : Gl X x) (hm : X.mg x = some (.ref f)) (hk : PySem.W.keepIn X.K (.ref f) = true) (hb : Binds X.K fd ps []) (hx : Passes CX X E)
    (ha : PET X e te) (hdb : (x == ("__debug__" : Str)) = false := by decide) (he : starEach [e] X.env = (false, eval e X.env) :: starEach [] X.env := by rfl) (hpl : (backTo pos (starEach [] X.env)).any (·.1) = false := by rfl) :
    PET X (.Call (.Name x p) [e] [] pos) (tCall sp [] E (tCons te tNil)) := by
  intro pins s σ H Q h0 I h
  refine wpAny_Call_Name_kw (ld_glob I hg hm ?_ hdb)
  refine PySem.W.callWith_K (h₀ := X.base) I.ok.mod.kin hk (thn ((show PAT X [e] (tCons te tNil) from pat_cons ha pat_nil he) pos pins s σ H _ h0 I h) fun us s1 ⟨vs, H1, I1, r, q⟩ => ⟨I1.kIn, ?_⟩) he hpl
  exact run_fn F hr hb .nil hx I1 r q
theorem pst_set {i : Nat} {x : Str} {pos' : Pos} (hN : X.N.Nodup) (hi : X.N[i]? = some x) (hx : Loc X.env.scope x) (he : PET X e te) (hs : swapsWith e (some (.Name x pos')) pos.line X.env = pure false := by rfl) (hf : X.fn x = true ∨ X.env.scope.names.lookup x = some .local := by first | exact .inl rfl | exact .inr rfl | assumption) :
    PST X (.Assign [.Name x pos'] e pos) (tAsg te (gName i)) := by
  intro pins s σ H D h0 I h
  refine wpAny_Assign_Name (thn (he pins s σ H _ h0 I h) fun v s1 ⟨y, H1, I1, r1, q1⟩ => ?_) hs
  exact store_ok I1 hN hi hx r1 (fun s2 I2 => ⟨_, H1, I2, q1⟩) hf
end
theorem Fun.okT {P : Program} {w : World} {K : PySem.W.Frag} {mg : Str → Option Value} {base : Heap} {x qual : Str} {st : Stmt} {f : Addr} {fd : FuncData} {N ps : List Str} {k : Nat} {sp : Sp} (F : Fun K x qual st f fd) (S : FnScope N ps (defScope st)) (hnc : ∀ y ∈ (defScope st).names, y.2 ≠ .cell) (hps : 1 ≤ ps.length) (len : ∀ vs H Q E, sp vs H Q E → vs.length = ps.length)
    (hbody : ∀ (cdv : Value) (A : Around) (outer : List Env) (s : Shared) (H : Hp) (vs : List V) (Q : VK) (E : XK), Room k (A.deeper (envOfC qual (defScope st) s.heap.objs.size f cdv)) → sp vs H Q E →
      ∃ t, PSsT (cxOf CX0 P w K mg base N qual (defScope st) f cdv A outer s H E) (defBody st) t ∧ t { nx := fun _ H' => Q .non H', rt := Q } (start N vs) H) : FnOk P w K mg base CX0 (k + 1) f fd ps sp := by
  obtain ⟨oc, od, kV, doc, pm, an, cdv, ct, osl, rfl, lk, hcd⟩ := F.ex
  exact fn_ofT lk hcd S hnc hps len fun A outer s H vs Q E hr hsp => hbody cdv A outer s H vs Q E hr hsp
/-! ### numbers -/
/-- the signs of an integer -/
def intL (z : Int) : List Nat := if z < 0 then 45 :: TL.numL z.natAbs else TL.numL z.natAbs
theorem neg_S : SX.S [45] = ("-" : Str) := by decide +kernel
theorem str_int (z : Int) : (Str.ofString (toString z) : Str) = SX.S (intL z) := by
  unfold intL
  cases z with
  | ofNat n =>
    rw [if_neg (show ¬ Int.ofNat n < 0 from Int.not_lt.mpr (Int.natCast_nonneg n))]
    exact SX.num_S n
  | negSucc m =>
    rw [if_pos (Int.negSucc_lt_zero m)]
    refine TL.ext_tl ?_
    show (Str.ofString (toString (Int.negSucc m))).cps.toList = 45 :: TL.numL (m + 1)
    rw [PyProof.Rows.signs_ofString]
    show (String.append "-" (Nat.repr (m + 1))).toList.map Char.toNat = _
    rw [show String.append "-" (Nat.repr (m + 1)) = "-" ++ Nat.repr (m + 1) from rfl, String.toList_append, List.map_append, Nat.toList_repr]
    rfl
theorem intL_digits {z : Int} (h : ¬ z < 0) : intL z = TL.numL z.natAbs := if_neg h
theorem intL_neg {z : Int} (h : z < 0) : intL z = 45 :: TL.numL z.natAbs := if_pos h
theorem intL_mem {z : Int} {c : Nat} (h : c ∈ intL z) : c = 45 ∨ (48 ≤ c ∧ c ≤ 57) := by
  unfold intL at h
  split at h
  · rcases List.mem_cons.mp h with e | h
    · exact .inl e
    · exact .inr (TL.numL_digits _ _ h)
  · exact .inr (TL.numL_digits _ _ h)
theorem intL_free {z : Int} {c : Nat} (h1 : c ≠ 45) (h2 : c < 48 ∨ 57 < c) : c ∉ intL z := fun h => by
  rcases intL_mem h with e | e <;> omega
theorem intL_ne (z : Int) : intL z ≠ [] := by
  unfold intL
  split
  · simp
  · exact TL.numL_ne _
theorem intL_len {z : Int} (h : z.natAbs < 10 ^ 31) : (intL z).length ≤ 32 := by
  have := TL.numL_len (n := z.natAbs) (k := 31) (by decide) h
  unfold intL
  split
  · rw [List.length_cons]; omega
  · omega
theorem int_reads {z : Int} (h : z.natAbs < 10 ^ 31) : PySem.intText? (SX.S (intL z)) = some z := by
  have hl := TL.numL_len (n := z.natAbs) (k := 31) (by decide) h
  by_cases hz : z < 0
  · rw [intL_neg hz]
    have e := PySem.intText_neg (x := SX.S (45 :: TL.numL z.natAbs)) (cs := TL.numL z.natAbs) rfl (TL.numL_digits _) (TL.numL_ne _) (by rw [SX.S_len, List.length_cons]; omega)
    rw [e, TL.numL_val]
    congr 1
    omega
  · rw [intL_digits hz]
    have e := PySem.intText_digits (x := SX.S (TL.numL z.natAbs)) (TL.numL_digits _) (TL.numL_ne _) (by rw [SX.S_len]; omega)
    rw [e]
    show some ((NumText.digitsVal (TL.numL z.natAbs) : Nat) : Int) = some z
    rw [TL.numL_val]
    congr 1
    omega
end Ff

/-! a lambda made in a comprehension's block, handed to a def at once: what it is told without the block -/
namespace ExX
open PySem PySem.Spec PyProof.Rows L2 LamX
/-- the names of a block, the scope around it given -/
def relS (sc scope : Scope) : Scope :=
  { scope with names := scope.names.map fun (n, k) => if (k == .free && sc.kind == .function && sc.names.lookup n == some .cell) then (n, .cell) else (n, k) }
theorem lamS_blk {sc bs scope : Scope} {cl : List (Str × Addr)} {C : Addr} {env : Env} (hs : env.scope = sc) (h : lamSB (relS sc bs) scope = true) : LamS (compEnvC bs cl C env).scope scope := by
  have e : (compEnvC bs cl C env).scope = relS sc bs := by
    subst hs
    rfl
  rw [e]
  exact lamS_by h
section
variable {Z : Cx} {k kk : Nat} {g : Addr} {TT : (XK → Hp → VK → Prop) → Hp → VK → Prop} {x : Str} {p pos : Pos}
theorem pe_askB {T : List (Addr × Str)} {c PT : Addr} {lp : Pos} {params : Arguments} {body : Expr} {scope : Scope} (tb : XK → TE) (L : LamS Z.env.scope scope) (hbind : ∀ (q : Str) (cl : List (Str × Addr)) (pm cv ctv : Value), bindArgs (PySem.W.kla_fn "<lambda>" q params body scope cl pm cv ctv) ⟨[], []⟩ = pure [])
    (hbody : ∀ (f c2 : Addr) (E : XK) (A : Around) (outer : List Env) (s : Shared) (H : Hp), Room kk (A.deeper (lamEnv Z scope s.heap.objs.size f c2)) → PE (lamC Z A outer s H E scope f c2) body (tb E))
    (G : FnL Z.prog Z.w Z.K Z.mg Z.base k g TT) (hr : Room (kk + 1 + k) Z.A) (hg : Gl Z x) (hm : Z.mg x = some (.ref g)) (hk : PySem.W.keepIn Z.K (.ref g) = true) (TB : TabB Z.base Z.mg c PT) (hcode : Z.env.code = .ref c)
    (hmT : (PT, Z.env.qual ++ "<lambda>") ∈ T) (hu : ∀ q ∈ T, q.1 = PT → q.2 = Z.env.qual ++ "<lambda>") (hdef : defaultsOf params Z.env = ([], [])) (hdb : (x == ("__debug__" : Str)) = false := by decide)
    (he : starEach [.Lambda params body scope lp] Z.env = (false, eval (.Lambda params body scope lp) Z.env) :: starEach [] Z.env := by rfl) (hpl : (backTo pos (starEach [] Z.env)).any (·.1) = false := by rfl) :
    PE Z (.Call (.Name x p) [.Lambda params body scope lp] [] pos) (fun σ H Q => Tabs T H ∧ ∀ (f : Addr) (H1 : Hp), ExtN H H1 → Tabs T H1 → ∀ At : Hp → Prop, At H1 → (∀ Ha Hb, At Ha → (∀ b o, Ha b = some o → Hb b = some o) → At Hb) → TT (fun E HZ Q' => At HZ ∧ tb E σ HZ Q') H1 Q) :=
  ⟨fun pins s σ H Q I ⟨h1, h2⟩ => (pe_ask (kk := kk) (⟨params, body, scope, tb, L, hbind, hbody⟩ : LamD Z kk) G hr hg hm hk TB hcode hmT hu hdef hdb he hpl).run pins s σ H Q I
    ⟨h1, fun f H1 a b c => h2 f H1 a b (fun HZ => (⟨params, body, scope, tb, L, hbind, hbody⟩ : LamD Z kk).At f HZ) c fun Ha Hb z e => LamD.At.same z e⟩⟩
end
end ExX

/-! A list comprehension whose element may let an exception out (of a call). -/
namespace L2N
open PySem PySem.Spec PyProof.Rows L2
/-- what a block owes of an exception -/
def blkXE (X : Cx) (ce : Env) : Value → Shared → Prop := notedBy (model X.prog X.w) X.A ce (CompFails (model X.prog X.w) X.A X.xe ce)
abbrev blkE (X : Cx) (s : Shared) (H : Hp) (scope : Scope) (ce : Env) (fp : List Addr) : Cx := (X.blk s H scope ce fp).wish (blkXE X ce)
/-- a call's exception flies over all frames -/
theorem fly_of_call {X : Cx} {pins : List (Addr × Obj)} {σ : St} {H : Hp} {s s' : Shared} {E : XK} (I : Inv X pins σ H s) {u : Value} (c : CX X.prog X.w X.stack H s E u s') :
    ∃ (a : Addr) (B : Heap) (sI : Shared) (H' : Hp) (cls : Value) (d : Option Addr), u = .ref a ∧ Inv X pins σ H' sI ∧ (∀ b o, sI.heap.get? b = some o → b ∉ frs X.stack → B.get? b = some o) ∧ sI.heap.UpToSlots s'.heap ∧
      HandSPX.FlyingZ B X.stack a (Zn cls d) s'.heap ∧ H' a = none ∧ s'.os = sI.os ∧ AllBare s'.gens ∧ E cls d H' := by
  obtain ⟨a, B, H', cls, d, rfl, fl, hok, ub, na, os, ag, hE⟩ := c
  obtain ⟨G, g1, g2⟩ := restrict s'.heap fun b => (B.get? b).isSome || decide (b ∈ frs X.stack)
  have st : B.StaysIn s'.heap := fl.1
  have gB : ∀ b o, B.get? b = some o → G.get? b = some o := fun b o e => by
    rw [g1 b (by simp [e])]
    exact st b o e
  have gF : ∀ b, b ∈ frs X.stack → G.get? b = s'.heap.get? b := fun b hb => g1 b (by simp [hb])
  have og : ∀ b o, G.get? b = some o → s'.heap.get? b = some o ∧ ((B.get? b).isSome = true ∨ b ∈ frs X.stack) := fun b o e => by
    cases q : ((B.get? b).isSome || decide (b ∈ frs X.stack)) with
    | false => rw [g2 b q] at e; cases e
    | true =>
      rw [g1 b q] at e
      exact ⟨e, by simpa [Bool.or_eq_true] using q⟩
  refine ⟨a, B, { s with heap := G, gens := s'.gens, drawn := s'.drawn, toks := s'.toks }, H', cls, d, rfl, ?_, fun b o e hb => ?_, Heap.UpToSlots.of_keeps fun b o e => (og b o e).1, fl, na, os, ag, hE⟩
  · refine I.call (ch := []) ⟨fun b o e n hb _ => gB b o (ub.keep b o e n hb), fun b o e n hb _ => ?_, fun b o e n _ => ub.free b o e n, fun b o e _ => ?_, ub.tups, ub.frzs, ub.tbls⟩ (hok.kept gB) ag (fun _ z => nomatch z)
    · obtain ⟨sl, q⟩ := ub.slot b o e hb
      exact ⟨sl, by rw [gF b hb]; exact q⟩
    · by_cases hb : b ∈ frs X.stack
      · obtain ⟨sl, q⟩ := ub.slot b o e hb
        exact ⟨_, by rw [gF b hb]; exact q⟩
      · obtain ⟨o', q⟩ := ub.there b o e hb
        exact ⟨o', gB b o' q⟩
  · obtain ⟨e', h⟩ := og b o e
    rcases h with h | h
    · obtain ⟨o', q⟩ := Option.isSome_iff_exists.mp h
      have z := st b o' q
      rw [e'] at z; cases z
      exact q
    · exact absurd h hb
/-- what a call in the element lets out is taken by the def around -/
theorem blk_passes {X : Cx} {W : XK} {pins : List (Addr × Obj)} {σ : St} {H3 : Hp} {s3 : Shared} {scope : Scope} {ce : Env} {fp : List Addr} (tk : Takes X (fun cls d _ H => W cls d H)) (hs : X.stack = X.env :: X.outer) (hf : X.env.frame = some X.env.locals)
    (hcf : ce.frame = X.env.frame) (cL : ce.locals = s3.heap.objs.size) (I3 : Inv X pins σ H3 s3) (f3 : ∀ b ∈ fp, FpOk X pins H3 b) : Passes (CX X.prog X.w) (blkE X s3 H3 scope ce fp) W := by
  intro pins' σ' H s u s' I c
  obtain ⟨a, B, sI, H2, cls, d, rfl, J, nb, up, fl, na, os, ag, w⟩ := fly_of_call (X := blkE X s3 H3 scope ce fp) I c
  have hfr : X.A.frames = some (X.env :: X.outer) := by rw [← hs]; exact J.ok.frames
  have fl : HandSPX.FlyingZ B (X.env :: X.outer) a (Zn cls d) s'.heap := by rw [← hs]; exact fl
  show wpAny _ _ (noteFrame (.ref a) ce) _ _ s'
  rw [noteFrame_env _ hcf]
  refine PXN.looks_onZ Zn.steady hfr hf fl fun h1 held up1 => ?_
  obtain ⟨m, hn, _⟩ := J.loc
  have hn : sI.heap.Ns ce.locals m := hn
  have hn1 : h1.Ns ce.locals m := (hn.upToSlots up).upToSlots up1
  refine ⟨m, hn1, fun h2 m2 hn2 sb => ?_⟩
  have hid0 : ∀ (h : Heap), (PySem.W.hideAll h [ce.locals]).get? ce.locals = none := fun h => PySem.W.hideAll_none _ List.mem_cons_self
  have sub : ∀ b o, (PySem.W.hideAll B [ce.locals]).get? b = some o → b ≠ ce.locals ∧ B.get? b = some o := fun b o e => by
    refine ⟨fun z => ?_, PySem.W.of_hideAll _ e⟩
    rw [z, hid0] at e
    cases e
  have sub0 : ∀ b, B.get? b = none → (PySem.W.hideAll B [ce.locals]).get? b = none := fun b e => by
    cases q : (PySem.W.hideAll B [ce.locals]).get? b with
    | none => rfl
    | some o => rw [(sub b o q).2] at e; cases e
  obtain ⟨b1, b0, ff, oe, vs, T, oT, ts, he, hz, hd, h1', hnT, hTe, hT, hdT, h3⟩ := held
  obtain ⟨oL, es, ep, hoL, hdL, _⟩ := hn1
  have neR : ∀ b o (vs : Array Value), h1.get? b = some o → o.data = .fields vs → b ≠ ce.locals := fun b o vs e hd z => by
    rw [z] at e
    have e2 := hoL.symm.trans e
    cases e2
    rw [hdL] at hd; cases hd
  have he2 : h2.get? a = some oe := (sb.2 a (neR _ _ _ he hd)).trans he
  have hT2 : h2.get? T = some oT := (sb.2 T (neR _ _ _ hT hdT)).trans hT
  have held2 : HandSPX.HeldZ (PySem.W.hideAll B [ce.locals]) (X.env :: X.outer) a (Zn cls d) X.env.locals h2 := by
    refine ⟨fun b o e => (sb.2 b (sub b o e).1).trans (b1 b o (sub b o e).2), sub0 _ b0, funFrames_none (Heap.FunFrames.sameBut sb hn2 ff) fun L hL => ?_, oe, vs, T, oT, ts, he2, hz, hd, h1', sub0 _ hnT, hTe, hT2, hdT, h3⟩
    obtain ⟨x1, o, ho, x2⟩ := Heap.FunFrames.mem (Heap.FunFrames.sameBut sb hn2 ff) hL
    exact sub0 _ x1
  show wpAny _ _ (PySem.passOn "comprehension.variables-let-go" (.ref a) ce : Sem Value) _ _ _
  unfold PySem.passOn
  refine wpAny_bind (wpAny_field he2 hd h1' ?_)
  rw [if_neg (show ¬ ((Value.ref T == Value.none) = true) from by simp)]
  rw [hcf, hf]
  refine wpAny_bind (HandSPX.setFlight_onZ (s := { s' with heap := h2 }) held2 fun h4 held4 up4 => ?_)
  refine wpAny_throw (tk _ _ ?_)
  have hidI : ∀ b o, sI.heap.get? b = some o → b ≠ ce.locals → (PySem.W.hideAll sI.heap [ce.locals]).get? b = some o := fun b o e n => PySem.W.hideAll_get _ e (by simpa using n)
  have neL : ∀ b o, s3.heap.get? b = some o → b ≠ ce.locals := fun b o e z => by
    have := Heap.lt_size e
    rw [z, cL] at this
    exact absurd this (Nat.lt_irrefl _)
  have frC : H2 ce.locals = none := J.free
  have I2 : Inv X pins σ H2 { sI with heap := PySem.W.hideAll sI.heap [ce.locals] } := by
    refine I3.call' (ch := fp) J.os ?_ (fun b o q => (J.hok b o q).stay (fun c u hc r => hidI c u r fun z => ?_) (fun _ r => r) fun _ _ r => r) J.bare fun b hb => ⟨(f3 b hb).2.2.2.1, (f3 b hb).2.1, (f3 b hb).2.2.2.2.1, (f3 b hb).2.2.2.2.2⟩
    · have U : Un (frs X.stack) fp H3 H2 s3.heap sI.heap := J.base
      refine ⟨fun b o e n hb hx => hidI b o (U.keep b o e n hb hx) (neL b o e), fun b o e n hb hx => ?_, U.free, fun b o e hx => ?_, U.tups, U.frzs, U.tbls⟩
      · obtain ⟨sl, q⟩ := U.slot b o e n hb hx
        exact ⟨sl, hidI b _ q (neL b o e)⟩
      · obtain ⟨o', q⟩ := U.there b o e hx
        exact ⟨o', hidI b _ q (neL b o e)⟩
    · rcases hc with hc | hc
      · rw [← hc, z, frC] at q; cases q
      · rw [z, frC] at hc; cases hc
  refine ⟨a, PySem.W.hideAll B [ce.locals], _, pins, σ, H2, cls, d, rfl, I2, fun b o e hb => ?_, ?_, .inr (.inr (by rw [hs]; exact held4)), na, os, ag, w⟩
  · have e1 := PySem.W.of_hideAll _ e
    have ne : b ∉ [ce.locals] := fun z => by
      rw [List.mem_singleton.mp z] at e
      have e := (hid0 sI.heap).symm.trans e
      cases e
    exact PySem.W.hideAll_get _ (nb b o e1 hb) ne
  · intro b o e hnf
    have e1 := PySem.W.of_hideAll _ e
    have ne : b ≠ ce.locals := fun z => by
      rw [z] at e
      have e := (hid0 sI.heap).symm.trans e
      cases e
    obtain ⟨sl, q⟩ := (up.trans up1) b o e1 hnf
    exact up4 b _ ((sb.2 b ne).trans q) hnf |>.imp fun sl' z => z
section
variable {X : Cx}
theorem lcE_core {W : XK} {pins : List (Addr × Obj)} {s : Shared} {σ : St} {H : Hp} {Q : VK} {elt tg iter : Expr} {ifs : List Expr} {scope : Scope} {own : List (Str × Nat)} {pos pos' : Pos} {wi : TI} {g : TG} {tt : TT} {te : TE} {use : Option (Value → Sem Unit)} {Qf : Value → Shared → Prop}
    (tk : Takes X (fun cls d _ H => W cls d H)) (hst : X.stack = X.env :: X.outer) (hf : X.env.frame = some X.env.locals)
    (hc : X.calm = true) (hN : X.N.Nodup) (I : Inv X pins σ H s) (hi : PI X tg iter wi) (ok : BlkOk X.N X.env.scope scope own)
    (hg : ∀ (s : Shared) (H : Hp) (C : Addr) (cl : List (Str × Addr)) (fp : List Addr), PG (X.blk s H scope (compEnvC scope cl C X.env) fp) tg g) (ht : ∀ (s : Shared) (H : Hp) (C : Addr) (cl : List (Str × Addr)) (fp : List Addr), PTs (X.blk s H scope (compEnvC scope cl C X.env) fp) ifs tt)
    (he : ∀ (s : Shared) (H : Hp) (C : Addr) (cl : List (Str × Addr)) (fp : List Addr), Passes (CX X.prog X.w) (blkE X s H scope (compEnvC scope cl C X.env) fp) W → PE (blkE X s H scope (compEnvC scope cl C X.env) fp) elt te) (hs : ∀ x, foldedSetIterable iter X.env x = pure x)
    (h : tLc wi g tt te (own.map (·.2)) σ H Q)
    (hRR : ∀ D ce s' m H', Inv X pins σ H' s' → Q (.ref D) H' → s'.heap.Ns ce.locals m → FpOk X pins H' ce.locals → compEnds (model X.prog X.w) X.A X.xe use Qf (.ref D) ce (.ok .next) s') :
    wpAny (model X.prog X.w) X.A (comprehension (.ListComp elt [⟨tg, iter, ifs, 0⟩] scope pos) scope X.env pos' (newList []) false (eval iter X.env) use) Qf X.xe s := by
  have hfree : ∀ y ∈ scope.names, y.2 = .free → ∃ c, X.env.cells.lookup y.1 = some c := fun y hy e => by
    rcases ok.free y hy e with k | k
    · exact I.ok.has _ (.inl k)
    · exact I.ok.has _ (.inr k)
  refine comprehension_at (use := use) rfl hs (closure_ok hfree) ok.kind (fun y hy e => by rw [ok.uniq y hy, e])
    (thn (hi.run pins s σ H _ I h) fun xv s1 hx => thn hx fun itv s2 h2 => ?_)
  obtain ⟨it, fp, tn, J, H2, e, I2, T, st2, f2, q⟩ := h2
  subst e
  refine wpAny_newObj_type (newEnv_comp ?_) (by show 0 ≤ sizeLine; decide)
  generalize hD : s2.heap.objs.size = D
  have hDn : H2 D = none := I2.hok.fresh (Nat.le_of_eq hD)
  obtain ⟨WW, ⟨m0, w0⟩, turn⟩ := q D hDn
  generalize hs3 : ({ s2 with heap := s2.heap.push { cls := .type "list", data := .seq ([] : List Value).toArray } } : Shared) = s3
  have I3 : Inv X pins σ (upd H2 D (.lst [])) s3 := by
    rw [← hs3]
    refine I2.laid (t' := s2.toks) (fun b o e => Heap.get?_push_of_some _ e) (Nat.le_of_eq hD) ⟨Nat.zero_le _, [], 0, .nil, ?_⟩
    rw [← hD]
    exact Heap.get?_push_size _ rfl
  have h3 : s3.heap = s2.heap.push { cls := .type "list", data := .seq ([] : List Value).toArray } := by rw [← hs3]
  have sz : ∀ b ∈ fp, b < s2.heap.objs.size := fun b hb => by
    obtain ⟨o, e, _⟩ := T.obj _ _ st2 b hb
    exact Heap.lt_size e
  have f3 : ∀ b ∈ fp, FpOk X pins (upd H2 D (.lst [])) b ∧ b < s3.heap.objs.size := fun b hb => by
    have hlt := sz b hb
    refine ⟨⟨?_, (f2 b hb).2⟩, by rw [h3, Heap.size_push]; exact Nat.lt_succ_of_lt hlt⟩
    rw [upd_ne (by rw [← hD]; exact Nat.ne_of_lt hlt)]
    exact (f2 b hb).1
  have st3 : tn 0 s3.heap := T.keep _ _ _ st2 fun b _ o e => by rw [h3]; exact Heap.get?_push_of_some _ e
  have I4 := block_start I3 ok hN f3
  have pg := hg s3 (upd H2 D (.lst [])) s3.heap.objs.size (cellsFrom (s3.heap.objs.size + 1) scope.names (cloFrom X.env.cells scope.names [])) fp
  have pt := ht s3 (upd H2 D (.lst [])) s3.heap.objs.size (cellsFrom (s3.heap.objs.size + 1) scope.names (cloFrom X.env.cells scope.names [])) fp
  have pe := he s3 (upd H2 D (.lst [])) s3.heap.objs.size (cellsFrom (s3.heap.objs.size + 1) scope.names (cloFrom X.env.cells scope.names [])) fp (blk_passes tk hst hf rfl rfl I3 fun b hb => (f3 b hb).1)
  show codeAny _ _ (.compStart (.ListComp elt [⟨tg, iter, ifs, 0⟩] scope pos) 0 (.ref it) (.ref D) (compEnvC scope (cellsFrom (s3.heap.objs.size + 1) scope.names (cloFrom X.env.cells scope.names [])) s3.heap.objs.size X.env)) (compEnds (model X.prog X.w) X.A X.xe use Qf (.ref D) (compEnvC scope (cellsFrom (s3.heap.objs.size + 1) scope.names (cloFrom X.env.cells scope.names [])) s3.heap.objs.size X.env)) { s3 with heap := pushCells (s3.heap.push { cls := .type "dict", data := .dict #[] }) scope.names }
  have nfp : ∀ b ∈ fp, (upd H2 D (.lst [])) b = none := fun b hb => (f3 b hb).1.1
  generalize hce : compEnvC scope (cellsFrom (s3.heap.objs.size + 1) scope.names (cloFrom X.env.cells scope.names [])) s3.heap.objs.size X.env = ce at I4 pg pt pe ⊢
  have cL : ce.locals = s3.heap.objs.size := by subst hce; rfl
  generalize hH3 : upd H2 D (.lst []) = H3 at I3 I4 pg pt pe w0 nfp f3
  generalize hs4 : ({ s3 with heap := pushCells (s3.heap.push { cls := .type "dict", data := .dict #[] }) scope.names } : Shared) = s4 at I4 ⊢
  have st4 : tn 0 s4.heap := T.keep _ _ _ st3 fun b _ o e => by rw [← hs4]; exact pushCells_keeps _ _ _ _ (Heap.get?_push_of_some _ e)
  have stat : ∀ {σ' : St} {H' : Hp} {s' : Shared}, Inv (X.blk s3 H3 scope ce fp) [] σ' H' s' → (∀ b ∈ fp, H' b = none) → ∀ b ∈ fp, FpOk (X.blk s3 H3 scope ce fp) [] H' b := fun {σ' H' s'} I' hn b hb =>
    ⟨hn b hb, (I'.ok.exf b hb).1, I'.ok.exfs b hb, .inl hb, fun x c e => (I'.ok.exf b hb).2 x c e, fun p hp => absurd (show p ∈ ([] : List (Addr × Obj)) ++ [] from hp) (by simp)⟩
  have loop : codeAny (model X.prog X.w) X.A (.compLoop (.ListComp elt [⟨tg, iter, ifs, 0⟩] scope pos) 0 (.ref it) (.ref D) ce) (compEnds (model X.prog X.w) X.A X.xe use Qf (.ref D) ce) s4 := by
    refine compLoop_any (fun n s' => ∃ i H', Inv (X.blk s3 H3 scope ce fp) [] (wipe σ (own.map (·.2))) H' s' ∧ tn i s'.heap ∧ (∀ b ∈ fp, H' b = none) ∧ WW i n H') ?_ m0 ⟨0, H3, I4, st4, nfp, w0⟩
    rintro n s5 ⟨i, H5, I5, st5, n5, w5⟩
    rcases turn i n H5 w5 with ⟨stop, qq⟩ | ⟨go, Nx, hNx, step⟩
    · have td := T.done (X.blk s3 H3 scope ce fp) rfl rfl rfl hc i [] s5 _ H5 (fun _ _ => False) I5 (stat I5 n5) st5 stop
      refine thnF td fun r s6 ⟨hr, I6⟩ => ?_
      subst hr
      have I7 : Inv X pins σ H5 s6 := I3.call' (ch := fp) I6.os I6.base I6.hok I6.bare fun b hb => ⟨(f3 b hb).1.2.2.2.1, (f3 b hb).1.2.1, (f3 b hb).1.2.2.2.2.1, (f3 b hb).1.2.2.2.2.2⟩
      have nC : H5 ce.locals = none := I6.free
      obtain ⟨m, hn, _⟩ := I6.loc
      have hn : s6.heap.Ns ce.locals m := hn
      exact hRR D ce s6 m H5 I7 qq hn (I3.fpOk (by rw [cL]; exact Nat.le_refl _) nC)
    · have ti := T.item (X.blk s3 H3 scope ce fp) rfl rfl rfl hc i [] s5 _ H5 (fun _ _ => False) I5 (stat I5 n5) st5 go
      refine thnF ti fun r s6 ⟨u, hr, h6⟩ => ?_
      subst hr
      refine thnF h6 fun _ s7 ⟨x, H7, I7, r7, y7, st7, n7⟩ => ?_
      have I7' := I7.pinned (stat I7 n7) (T.obj _ _ st7)
      refine thnF (pg.run _ s7 _ H7 x u _ I7' r7 (step x H7 y7)) fun _ s8 ⟨σ8, H8, I8, hw8, q8⟩ => ?_
      refine thnF (pt.run _ s8 σ8 H8 _ I8 q8) fun b s9 ⟨H9, I9, q9⟩ => ?_
      have fin : ∀ {s' : Shared} {H' : Hp}, Inv (X.blk s3 H3 scope ce fp) ([] ++ pinsAt fp s7.heap) σ8 H' s' → Nx H' → ∃ m, m < n ∧ ∃ i H', Inv (X.blk s3 H3 scope ce fp) [] (wipe σ (own.map (·.2))) H' s' ∧ tn i s'.heap ∧ (∀ b ∈ fp, H' b = none) ∧ WW i m H' := fun {s' H'} I' nx => by
        obtain ⟨m', hm, w'⟩ := hNx H' nx
        have pin' : ∀ b ∈ fp, ∀ o, s7.heap.get? b = some o → s'.heap.get? b = some o ∧ H' b = none := fun b hb o e =>
          let z := I'.pin (b, o) (List.mem_append_right _ (List.mem_append_right _ (mem_pinsAt hb e)))
          ⟨z.1, z.2.1⟩
        have hl : (wipe σ (own.map (·.2))).length = σ8.length := by rw [← hw8, wipe_length]
        refine ⟨m', hm, i + 1, H', (I'.unpinned (pins := [])).weak hl (fun j v e => ?_), T.keep _ _ _ st7 fun b hb o e => (pin' b hb o e).1, fun b hb => ?_, w'⟩
        · rw [← hw8] at e
          exact (wipe_some e).1
        · obtain ⟨o, e, _⟩ := T.obj _ _ st7 b hb
          exact (pin' b hb o e).2
      cases b with
      | false =>
        simp only [Bool.false_eq_true, if_false] at q9 ⊢
        exact fin I9 q9
      | true =>
        simp only [if_true] at q9 ⊢
        refine wpAny_mono (pe.run _ s9 σ8 H9 _ (I9.wish _) q9) (fun z s10 ⟨yv, H10, I10, r10, acc, hD10, hz10, nx⟩ => ?_) fun _ _ z => z
        exact app_ok (X := X.blk s3 H3 scope ce fp) I10.unwish hD10 hz10 r10 fun s11 I11 => fin I11 nx
  exact codeAny_compStart_list loop (T.self X.A 0 _ _ _ st4 loop)
theorem pe_lcE {W : XK} {elt tg iter : Expr} {ifs : List Expr} {scope : Scope} {own : List (Str × Nat)} {pos : Pos} {wi : TI} {g : TG} {tt : TT} {te : TE} (tk : Takes X (fun cls d _ H => W cls d H)) (hst : X.stack = X.env :: X.outer) (hf : X.env.frame = some X.env.locals)
    (hc : X.calm = true) (hN : X.N.Nodup) (hi : PI X tg iter wi) (ok : BlkOk X.N X.env.scope scope own)
    (hg : ∀ (s : Shared) (H : Hp) (C : Addr) (cl : List (Str × Addr)) (fp : List Addr), PG (X.blk s H scope (compEnvC scope cl C X.env) fp) tg g) (ht : ∀ (s : Shared) (H : Hp) (C : Addr) (cl : List (Str × Addr)) (fp : List Addr), PTs (X.blk s H scope (compEnvC scope cl C X.env) fp) ifs tt)
    (he : ∀ (s : Shared) (H : Hp) (C : Addr) (cl : List (Str × Addr)) (fp : List Addr), Passes (CX X.prog X.w) (blkE X s H scope (compEnvC scope cl C X.env) fp) W → PE (blkE X s H scope (compEnvC scope cl C X.env) fp) elt te) (hs : ∀ x, foldedSetIterable iter X.env x = pure x := by intro _; rfl) :
    PE X (.ListComp elt [⟨tg, iter, ifs, 0⟩] scope pos) (tLc wi g tt te (own.map (·.2))) := by
  refine ⟨fun pins s σ H Q I h => ?_⟩
  rw [eval_ListComp]
  refine lcE_core tk hst hf hc hN I hi ok hg ht he hs h fun D ce s' m H' I' q hn f => ⟨m, hn, fun h'' sb => ?_⟩
  obtain ⟨f0, f1, f2, f3, f4, f5⟩ := f
  exact ⟨.ref D, H', I'.turned (t' := s'.toks) (fun b o hb e => (sb.2 b hb).trans e) f0 f1 f3 f4 f5, rfl, q⟩
end
end L2N

/-! a text times a number -/
namespace Ff
open PySem PySem.Spec PyProof.Rows L2
def rMulS : R2 := fun x y H Q => ∃ (l : List Nat) (n : Nat), x = .str (SX.S l) ∧ y = .int (n : Int) ∧ l.length * n ≤ 1000000 ∧ n ≤ 1000000 ∧ l.length ≤ 1000000 ∧ Q (.str (SX.S (List.replicate n l).flatten)) H
theorem fold_rep (l : List Nat) : ∀ (n : Nat) (a : Array Nat), ((List.replicate n l.toArray).foldl (· ++ ·) a).toList = a.toList ++ (List.replicate n l).flatten
  | 0, a => by simp
  | n + 1, a => by
    rw [List.replicate_succ, List.foldl_cons, fold_rep l n, List.replicate_succ, List.flatten_cons]
    simp
theorem op_mulS {X : Cx} : OpR X (binaryOp .Mult) rMulS := by
  intro pins s σ H x y v u Q I rx ry h
  obtain ⟨l, n, rfl, rfl, h1, h2, h3, q⟩ := h
  obtain ⟨t, rfl⟩ := rx
  obtain ⟨t', rfl⟩ := ry
  have fin : ∀ s', Inv X pins σ H s' → ∀ z tk, z = SX.S (List.replicate n l).flatten → EP X pins σ Q (.str z tk) s' := fun s' I' z tk e => ⟨.str z, H, I', ⟨_, rfl⟩, by rw [e]; exact q⟩
  refine P.mul_str ?_ (fun _ _ => ?_) (fun _ _ => ?_) ?_
  · rw [decide_eq_false (by omega), decide_eq_false (by omega)]; rfl
  · rename_i hn _
    rw [SX.S_len]
    have : (l.length : Int) ≤ (2 ^ 63 - 1) / (n : Int) := by
      rw [Int.le_ediv_iff_mul_le (by omega)]
      have : ((l.length * n : Nat) : Int) ≤ 1000000 := Int.ofNat_le.mpr h1
      rw [Int.natCast_mul] at this
      exact Int.le_trans this (by decide)
    omega
  · rw [SX.S_len, Int.toNat_natCast]
    exact decide_eq_false (by rw [sizeLine_eq]; omega)
  · by_cases hn : (n : Int) < 1
    · rw [if_pos hn]
      have : n = 0 := by omega
      subst this
      exact ⟨by rw [sizeLine_eq]; decide, fin _ (I.tok _) _ _ rfl⟩
    rw [if_neg hn]
    by_cases h1' : ((n : Int) == 1 || (SX.S l).length == 0) = true
    · rw [if_pos h1']
      refine fin _ I _ _ ?_
      rw [Bool.or_eq_true, beq_iff_eq, beq_iff_eq, SX.S_len] at h1'
      rcases h1' with e | e
      · have : n = 1 := by omega
        subst this
        simp
      · have : l = [] := List.eq_nil_of_length_eq_zero e
        subst this
        simp
    rw [if_neg h1']
    have e : (⟨List.foldl (fun x1 x2 => x1 ++ x2) #[] (List.replicate (n : Int).toNat (SX.S l).cps)⟩ : Str) = SX.S (List.replicate n l).flatten := by
      refine TL.ext_tl ?_
      show (List.foldl (fun x1 x2 => x1 ++ x2) #[] (List.replicate (n : Int).toNat l.toArray)).toList = _
      rw [Int.toNat_natCast]
      exact fold_rep l n #[]
    rw [e]
    have hl : (List.replicate n l).flatten.length = l.length * n := by
      simp [Nat.mul_comm]
    refine ⟨?_, fin _ (I.tok _) _ _ rfl⟩
    rw [SX.S_len, hl, sizeLine_eq]
    omega
end Ff

namespace Ff
open PySem PySem.Spec PyProof.Rows L2
def topS (i : Nat) : Stmt := PySem.Challenge.pw_findforests_k49_texts_of_forests.main.body.getD i (.Pass ⟨0, 0, 0, 0⟩)
/-- all but what stands at d is as it was -/
def Sb (d : Addr) (H H' : Hp) : Prop := ∀ b o, b ≠ d → H b = some o → H' b = some o
theorem Sb.refl {d : Addr} {H : Hp} : Sb d H H := fun _ _ _ h => h
theorem Sb.trans {d : Addr} {H H1 H2 : Hp} (a : Sb d H H1) (b : Sb d H1 H2) : Sb d H H2 := fun c o n h => b c o n (a c o n h)
theorem Sb.of {d : Addr} {H H' : Hp} (s : Same H H') : Sb d H H' := fun b o _ h => s b o h
theorem Sb.put {d : Addr} {H : Hp} {o : HO} : Sb d H (upd H d o) := fun b u n h => by rw [upd_ne n]; exact h
theorem same_new {H : Hp} {p : Addr} {o : HO} (h : H p = none) : Same H (upd H p o) := fun b x e => by
  rw [upd_ne (ne_of_none e h)]
  exact e
theorem same_sqt {H : Hp} {K : PySem.W.Frag} {a : Addr} {xs : List V} {H' : Hp} (e : Same H H') (h : SqT K H a xs) : SqT K H' a xs := by
  rcases h with (h | ⟨o, h⟩) | h
  · exact .inl (.inl (e _ _ h))
  · exact .inl (.inr ⟨o, e _ _ h⟩)
  · exact .inr h
/-- the state of the draws: a list of a list of ints and three ints -/
def DrawAt (H : Hp) (d l : Addr) : Prop := ∃ (ns : List Int) (i j k : Int),
  H d = some (.lst [.ref l, .int i, .int j, .int k]) ∧ H l = some (.lst (ns.map V.int)) ∧ 0 ≤ i ∧ 0 ≤ k ∧ k < 2305843009213693951
theorem draw_ne {H : Hp} {d l : Addr} {ns : List Int} {i j k : Int} (h : H d = some (.lst [.ref l, .int i, .int j, .int k])) (h' : H l = some (.lst (ns.map V.int))) : l ≠ d :=
  ne_of h' h (by
    intro z
    cases ns with
    | nil => cases z
    | cons a r => injection z with z; injection z with z _; cases z)
theorem DrawAt.same {H H' : Hp} {d l : Addr} (D : DrawAt H d l) (s : Same H H') : DrawAt H' d l := by
  obtain ⟨ns, i, j, k, h, h', r⟩ := D
  exact ⟨ns, i, j, k, s _ _ h, s _ _ h', r⟩
def spTake : Sp := fun vs H Q _ => ∃ (d l : Addr) (m : Int), vs = [.ref d, .int m] ∧ DrawAt H d l ∧ 1 ≤ m ∧ m.natAbs < 2 ^ 1000 ∧
  ∀ (r : Nat) H', (r : Int) < m → DrawAt H' d l → Sb d H H' → Q (.int r) H'
section
variable {P : Program} {w : World} {K : PySem.W.Frag} {mg : Str → Option Value} {base : Heap}
theorem dix {K : PySem.W.Frag} {H : Hp} {d : Addr} {xs : List V} (h : H d = some (.lst xs)) {k : Nat} {v : V} (e : xs[k]? = some v) : SqL K H d xs ∧ atI xs (k : Int) = some v := ⟨SqL.of h, atI_nat e⟩
end
theorem Sb.sql {K : PySem.W.Frag} {d a : Addr} {H H' : Hp} {xs : List V} (e : Sb d H H') (n : a ≠ d) (h : SqL K H a xs) : SqL K H' a xs := by
  rcases h with (h | ⟨o, h⟩) | h
  · exact .inl (.inl (e _ _ n h))
  · exact .inl (.inr ⟨o, e _ _ n h⟩)
  · exact .inr h
theorem Sb.sqt {K : PySem.W.Frag} {d a : Addr} {H H' : Hp} {xs : List V} (e : Sb d H H') (n : a ≠ d) (h : SqT K H a xs) : SqT K H' a xs := by
  rcases h with (h | ⟨o, h⟩) | h
  · exact .inl (.inl (e _ _ n h))
  · exact .inl (.inr ⟨o, e _ _ n h⟩)
  · exact .inr h
theorem DrawAt.ne {H : Hp} {d l p : Addr} (D : DrawAt H d l) (h : H p = none) : p ≠ d := by
  obtain ⟨ns, i, j, k, e, _⟩ := D
  exact (ne_of_none e h).symm
theorem DrawAt.nel {H : Hp} {d l p : Addr} (D : DrawAt H d l) (h : H p = none) : p ≠ l := by
  obtain ⟨ns, i, j, k, _, e, _⟩ := D
  exact (ne_of_none e h).symm
theorem DrawAt.put {H : Hp} {d l p : Addr} {o : HO} (D : DrawAt H d l) (h : p ≠ d) (h2 : p ≠ l) : DrawAt (upd H p o) d l := by
  obtain ⟨ns, i, j, k, g, g', r⟩ := D
  exact ⟨ns, i, j, k, by rw [upd_ne h.symm]; exact g, by rw [upd_ne h2.symm]; exact g', r⟩
theorem DrawAt.new {H : Hp} {d l p : Addr} {o : HO} (D : DrawAt H d l) (h : H p = none) : DrawAt (upd H p o) d l := D.same (same_new h)
theorem Sb.over {d p : Addr} {H H' : Hp} {o : HO} (e : Sb d H H') (h : H p = none) : Sb d H (upd H' p o) := fun b u n hb => by
  rw [upd_ne (ne_of_none hb h)]
  exact e b u n hb
theorem same_over {p : Addr} {H H' : Hp} {o : HO} (e : Same H H') (h : H p = none) : Same H (upd H' p o) := fun b u hb => by
  rw [upd_ne (ne_of_none hb h)]
  exact e b u hb
theorem Sb.free {d : Addr} {H H' : Hp} (e : Sb d H H') {p : Addr} (n : p ≠ d) (h : H' p = none) : H p = none := by
  cases z : H p with
  | none => rfl
  | some o => rw [e p o n z] at h; cases h
structure Tx (mg : Str → Option Value) : Prop where
  len : mg "len" = none
  range : mg "range" = none
  list : mg "list" = none
  tuple : mg "tuple" = none
  max : mg "max" = none
  min : mg "min" = none
def spOf (K : PySem.W.Frag) : Sp := fun vs H Q _ => ∃ (d l a : Addr) (xs : List V), vs = [.ref d, .ref a] ∧ DrawAt H d l ∧ a ≠ d ∧ SqL K H a xs ∧ 1 ≤ xs.length ∧ xs.length ≤ 1000 ∧
  ∀ (i : Nat) (v : V) H', xs[i]? = some v → DrawAt H' d l → Sb d H H' → Q v H'
def spShuf (K : PySem.W.Frag) : Sp := fun vs H Q _ => ∃ (d l a : Addr) (xs : List V), vs = [.ref d, .ref a] ∧ DrawAt H d l ∧ a ≠ d ∧ SqL K H a xs ∧ xs.length ≤ 1000 ∧
  ∀ (p : Addr) (ys : List V) H', ys.Perm xs → H p = none → p ≠ d → H' p = some (.lst ys) → DrawAt H' d l → Sb d H H' → Q (.ref p) H'
def spSize : Sp := fun vs H Q _ => ∃ (d l : Addr) (m : Nat), vs = [.ref d, .int m] ∧ DrawAt H d l ∧ m ≤ 1000 ∧
  ∀ (r : Nat) H', r ≤ m → DrawAt H' d l → Sb d H H' → Q (.int r) H'
def spStart (K : PySem.W.Frag) : Sp := fun vs H Q _ => ∃ (a : Addr) (ns : List Int), vs = [.ref a] ∧ SqL K H a (ns.map V.int) ∧ ns.length ≤ 63 ∧
  ∀ (d l : Addr) H', H d = none → DrawAt H' d l → Same H H' → Q (.ref d) H'
section
variable {P : Program} {w : World} {K : PySem.W.Frag} {mg : Str → Option Value} {base : Heap}
theorem insert_perm {xs : List V} (i : Nat) (y : V) : (xs.take i ++ [y] ++ xs.drop i).Perm (xs ++ [y]) := by
  rw [List.append_assoc]
  refine (List.Perm.append_left _ (List.perm_append_comm)).trans ?_
  rw [← List.append_assoc, List.take_append_drop]
end
abbrev vi (n : Nat) : V := .int (n : Int)
def natsV (l : List Nat) : List V := l.map vi
def tupOf (n : Nat) (p : Nat → Nat) : List V := (List.range n).map fun v => vi (p v)
theorem tupOf_len (n : Nat) (p : Nat → Nat) : (tupOf n p).length = n := by unfold tupOf; rw [List.length_map, List.length_range]
theorem tupOf_at {n : Nat} {p : Nat → Nat} {i : Nat} (h : i < n) : (tupOf n p)[i]? = some (vi (p i)) := by
  unfold tupOf
  rw [List.getElem?_map, List.getElem?_range h]
  rfl
theorem tupOf_congr {n : Nat} {p q : Nat → Nat} (h : ∀ v, v < n → p v = q v) : tupOf n p = tupOf n q := by
  unfold tupOf
  exact List.map_congr_left fun v hv => by rw [h v (List.mem_range.mp hv)]
theorem tupOf_set {n : Nat} {p : Nat → Nat} {i y : Nat} : (tupOf n p).set i (vi y) = tupOf n (fun v => if v = i then y else p v) := by
  refine List.ext_getElem? fun j => ?_
  rw [List.getElem?_set]
  by_cases hj : j < n
  · rw [tupOf_at hj, tupOf_at hj, tupOf_len]
    by_cases e : i = j
    · subst e
      rw [if_pos rfl, if_pos hj, if_pos rfl]
    · rw [if_neg e, if_neg (fun z => e z.symm)]
  · have z1 : (tupOf n p)[j]? = none := List.getElem?_eq_none (by rw [tupOf_len]; omega)
    have z2 : (tupOf n (fun v => if v = i then y else p v))[j]? = none := List.getElem?_eq_none (by rw [tupOf_len]; omega)
    rw [z1, z2, tupOf_len]
    by_cases e : i = j
    · rw [if_pos e, if_neg (by omega)]
    · rw [if_neg e]
theorem natsV_len (l : List Nat) : (natsV l).length = l.length := List.length_map _
theorem natsV_last (p : Nat → Nat) (k x : Nat) : atI (natsV (path p k x)) (-1) = some (vi (root p k x)) := by
  unfold natsV path
  rw [List.map_append]
  exact atI_last _ _
/-- a list or a tuple that is read -/
def Sq (K : PySem.W.Frag) (H : Hp) (a : Addr) (xs : List V) : Prop := SqL K H a xs ∨ SqT K H a xs
theorem Sq.same {K : PySem.W.Frag} {H H' : Hp} {a : Addr} {xs : List V} (h : Sq K H a xs) (e : Same H H') : Sq K H' a xs := h.imp (fun z => e.seq z) (fun z => same_sqt e z)
theorem Sq.sb {K : PySem.W.Frag} {d : Addr} {H H' : Hp} {a : Addr} {xs : List V} (h : Sq K H a xs) (e : Sb d H H') (n : a ≠ d) : Sq K H' a xs := h.imp (fun z => e.sql n z) (fun z => e.sqt n z)
theorem Sq.ix {K : PySem.W.Frag} {H : Hp} {a : Addr} {xs : List V} (h : Sq K H a xs) {i : Int} {v : V} {Q : VK} (e : atI xs i = some v) (q : Q v H) : rIx K (.ref a) (.int i) H Q := by
  rcases h with z | z
  · exact .inl ⟨a, xs, i, v, rfl, rfl, z, e, q⟩
  · exact .inr (.inl ⟨a, xs, i, v, rfl, rfl, z, e, q⟩)
def spChk (K : PySem.W.Frag) : Sp := fun vs H Q _ => ∃ (a : Addr) (xs : List V) (x : Nat), vs = [.ref a, vi x] ∧ Sq K H a xs ∧ x < xs.length ∧ Q .non H
/-- path_of, and the law's own -/
def spPath (K : PySem.W.Frag) : Sp := fun vs H Q _ => ∃ (a : Addr) (n : Nat) (p : Nat → Nat) (x : Nat), vs = [.ref a, vi x] ∧ Sq K H a (tupOf n p) ∧ n ≤ 1000 ∧ (∀ v, v < n → p v < n) ∧ x < n ∧
  ∀ (q : Addr) H', H q = none → H' q = some (.lst (natsV (path p n x))) → Same H H' → Q (.ref q) H'
def spPathOf (K : PySem.W.Frag) : Sp := fun vs H Q _ => ∃ (a : Addr) (n : Nat) (p r : Nat → Nat) (x : Nat), vs = [.ref a, vi x] ∧ Sq K H a (tupOf n p) ∧ n ≤ 1000 ∧ Fo n p r ∧ x < n ∧
  ∀ (q : Addr) H', H q = none → H' q = some (.lst (natsV (path p n x))) → Same H H' → Q (.ref q) H'
def spRoot (K : PySem.W.Frag) : Sp := fun vs H Q _ => ∃ (a : Addr) (n : Nat) (p : Nat → Nat) (x : Nat), vs = [.ref a, vi x] ∧ Sq K H a (tupOf n p) ∧ n ≤ 1000 ∧ (∀ v, v < n → p v < n) ∧ x < n ∧
  ∀ H', Same H H' → Q (vi (root p n x)) H'
def spFind (K : PySem.W.Frag) : Sp := fun vs H Q _ => ∃ (a : Addr) (n : Nat) (p r : Nat → Nat) (x : Nat), vs = [.ref a, vi x] ∧ Sq K H a (tupOf n p) ∧ n ≤ 1000 ∧ Fo n p r ∧ x < n ∧
  ∀ (t g : Addr) H', H t = none → H g = none → H' t = some (.tup [.ref g, vi (ups p n x).length]) → H' g = some (.tup (tupOf n (fnd n p x))) → Same H H' → Q (.ref t) H'
def spFindAll (K : PySem.W.Frag) : Sp := fun vs H Q _ => ∃ (a b : Addr) (n : Nat) (p r : Nat → Nat) (xs : List Nat), vs = [.ref a, .ref b] ∧ SqT K H a (tupOf n p) ∧ SqL K H b (natsV xs) ∧ n ≤ 1000 ∧ xs.length ≤ 1000 ∧ Fo n p r ∧ (∀ x ∈ xs, x < n) ∧
  ∀ (t g c : Addr) H', H t = none → H c = none → (g = a ∨ H g = none) → H' t = some (.tup [.ref g, .ref c]) → SqT K H' g (tupOf n (fndAll n xs p)) → H' c = some (.lst (natsV (costs n xs p))) → Same H H' → Q (.ref t) H'
def setAll (y : Nat) : List Nat → (Nat → Nat) → Nat → Nat
  | [], p => p
  | v :: l, p => setAll y l (fun u => if u = v then y else p u)
theorem setAll_snoc (y v : Nat) : ∀ (l : List Nat) (p : Nat → Nat), setAll y (l ++ [v]) p = fun u => if u = v then y else setAll y l p u
  | [], _ => rfl
  | a :: l, p => setAll_snoc y v l _
theorem setAll_eq (y : Nat) : ∀ (l : List Nat) (p : Nat → Nat) (u : Nat), setAll y l p u = if u ∈ l then y else p u
  | [], p, u => by rw [if_neg (List.not_mem_nil)]; rfl
  | a :: l, p, u => by
    show setAll y l _ u = _
    rw [setAll_eq y l]
    by_cases h1 : u ∈ l
    · rw [if_pos h1, if_pos (List.mem_cons_of_mem _ h1)]
    · rw [if_neg h1]
      by_cases h2 : u = a
      · rw [if_pos h2, if_pos (by rw [h2]; exact List.mem_cons_self)]
      · rw [if_neg h2, if_neg (fun z => (List.mem_cons.mp z).elim h2 h1)]
theorem fnd_setAll (n : Nat) (p : Nat → Nat) (x : Nat) : setAll (root p n x) (path p n x) p = fnd n p x := by
  funext u
  rw [setAll_eq]
  rfl
theorem path_lt {n : Nat} {p r : Nat → Nat} (F : Fo n p r) {x : Nat} (hx : x < n) : ∀ v ∈ path p n x, v < n := fun v hv => by
  unfold path at hv
  rcases List.mem_append.mp hv with h | h
  · exact (ups_lt F x hx v h).1
  · rw [List.mem_singleton.mp h]; exact root_lt F x hx
theorem ixN_nat {n i : Nat} (h : i < n) : ixN n (i : Int) = some i := by
  unfold ixN
  rw [if_pos (by omega), if_pos (by omega)]
  simp
theorem perm_of_map {α β : Type} {f : α → β} {zs ys : List β} (h : zs.Perm ys) : ∀ l : List α, zs = l.map f → ∃ l' : List α, ys = l'.map f ∧ l.Perm l' := by
  induction h with
  | nil => intro l e; exact ⟨l, e, List.Perm.refl _⟩
  | cons x h ih =>
    intro l e
    cases l with
    | nil => cases e
    | cons a r =>
      injection e with e1 e2
      obtain ⟨l', h1, h2⟩ := ih r e2
      exact ⟨a :: l', by rw [h1, e1]; rfl, h2.cons a⟩
  | swap x y l0 =>
    intro l e
    match l, e with
    | a :: b :: r, e =>
      injection e with e1 e2
      injection e2 with e2 e3
      exact ⟨b :: a :: r, by rw [e1, e2, e3]; rfl, List.Perm.swap _ _ _⟩
  | trans h1 h2 ih1 ih2 =>
    intro l e
    obtain ⟨l1, a, b⟩ := ih1 l e
    obtain ⟨l2, c, d⟩ := ih2 l1 a
    exact ⟨l2, c, b.trans d⟩
theorem rgV_nat (n : Nat) : rgV 0 (n : Int) = natsV (List.range n) := by
  unfold rgV natsV
  rw [show ((n : Int) - 0).toNat = n by omega]
  exact List.map_congr_left fun i _ => by show V.int (0 + (i : Int)) = V.int (i : Int); rw [Int.zero_add]
theorem rgOk_nat {n : Nat} (h : n ≤ 1000) : RgOk 0 (n : Int) := ⟨by decide, by decide, by omega, by omega, by omega⟩
theorem shuf_nats {l : List Nat} {ys : List V} (h : ys.Perm (natsV l)) : ∃ ks : List Nat, ys = natsV ks ∧ ks.Perm l := by
  obtain ⟨l', e, p⟩ := perm_of_map h.symm l rfl
  exact ⟨l', e, p.symm⟩
/-- the assignments of the renaming -/
def asg (ks ps : List Nat) : Nat → Nat → Nat
  | 0 => fun _ => 0
  | i + 1 => fun v => if v = ks.getD i 0 then ks.getD (ps.getD i 0) 0 else asg ks ps i v
theorem getD_inj {ks : List Nat} (nd : ks.Nodup) {i j : Nat} (hi : i < ks.length) (hj : j < ks.length) (e : ks.getD i 0 = ks.getD j 0) : i = j := by
  rw [List.getD_eq_getElem?_getD, List.getD_eq_getElem?_getD, List.getElem?_eq_getElem hi, List.getElem?_eq_getElem hj] at e
  exact (List.getElem_inj nd).mp e
theorem asg_at {ks ps : List Nat} (nd : ks.Nodup) : ∀ i, i ≤ ks.length → ∀ j, j < i → asg ks ps i (ks.getD j 0) = ks.getD (ps.getD j 0) 0
  | 0, _, j, h => by omega
  | i + 1, hi, j, h => by
    show (if ks.getD j 0 = ks.getD i 0 then _ else _) = _
    by_cases e : j = i
    · subst e; rw [if_pos rfl]
    · rw [if_neg (fun z => e (getD_inj nd (by omega) (by omega) z))]
      exact asg_at nd i (by omega) j (by omega)
theorem renamed_fo {ks ps : List Nat} {n : Nat} (hk : ks.Perm (List.range n)) (hp : ∀ j, j < n → ps.getD j 0 ≤ j) : ∃ r, Fo n (asg ks ps n) r := by
  have nd : ks.Nodup := hk.nodup_iff.mpr List.nodup_range
  have hl : ks.length = n := by rw [hk.length_eq, List.length_range]
  have hm : ∀ v, v < n → ∃ j, j < n ∧ ks.getD j 0 = v := fun v hv => by
    obtain ⟨j, hj, e⟩ := List.getElem_of_mem (hk.mem_iff.mpr (List.mem_range.mpr hv))
    exact ⟨j, by omega, by rw [List.getD_eq_getElem?_getD, List.getElem?_eq_getElem hj]; exact e⟩
  have hb : ∀ j, j < n → ks.getD j 0 < n := fun j hj => by
    have hj' : j < ks.length := by omega
    rw [List.getD_eq_getElem?_getD, List.getElem?_eq_getElem hj']
    exact List.mem_range.mp (hk.mem_iff.mp (List.getElem_mem hj'))
  have hi : ∀ j, j < n → ks.idxOf (ks.getD j 0) = j := fun j hj => by
    have hj' : j < ks.length := by omega
    have hmem : ks.getD j 0 ∈ ks := by
      rw [List.getD_eq_getElem?_getD, List.getElem?_eq_getElem hj']
      exact List.getElem_mem hj'
    have h1 := List.idxOf_lt_length_of_mem hmem
    refine getD_inj nd h1 hj' ?_
    rw [List.getD_eq_getElem?_getD, List.getElem?_eq_getElem h1]
    exact List.getElem_idxOf h1
  refine ⟨fun v => ks.idxOf v, fun v hv => ?_, fun v hv => ?_, fun v hv => ?_⟩
  · obtain ⟨j, hj, rfl⟩ := hm v hv
    rw [asg_at nd n (by omega) j hj]
    have := hp j hj
    exact hb _ (by omega)
  · obtain ⟨j, hj, rfl⟩ := hm v hv
    rw [asg_at nd n (by omega) j hj]
    have h1 := hp j hj
    by_cases e : ps.getD j 0 = j
    · exact .inl (by rw [e])
    · exact .inr (by show ks.idxOf _ < ks.idxOf _; rw [hi _ (by omega), hi _ hj]; omega)
  · obtain ⟨j, hj, rfl⟩ := hm v hv
    show ks.idxOf _ < n
    rw [hi j hj]; exact hj
/-- a new forest -/
def spRen (K : PySem.W.Frag) : Sp := fun vs H Q _ => ∃ (d l a : Addr) (ps : List Nat), vs = [.ref d, .ref a] ∧ DrawAt H d l ∧ a ≠ d ∧ SqL K H a (natsV ps) ∧ ps.length ≤ 1000 ∧ (∀ j, j < ps.length → ps.getD j 0 ≤ j) ∧
  ∀ (t : Addr) (p r : Nat → Nat) H', H t = none → H' t = some (.tup (tupOf ps.length p)) → Fo ps.length p r → DrawAt H' d l → Sb d H H' → Q (.ref t) H'
def spFor : Sp := fun vs H Q _ => ∃ (d l : Addr) (n m : Nat), vs = [.ref d, vi n, vi m] ∧ DrawAt H d l ∧ n ≤ 1000 ∧
  ∀ (t : Addr) (p r : Nat → Nat) H', H t = none → H' t = some (.tup (tupOf n p)) → Fo n p r → DrawAt H' d l → Sb d H H' → Q (.ref t) H'
def spSome : Sp := fun vs H Q _ => ∃ (d l : Addr) (m : Nat), vs = [.ref d, vi m] ∧ DrawAt H d l ∧ m ≤ 1000 ∧
  ∀ (t : Addr) (n : Nat) (p r : Nat → Nat) H', n ≤ m → H t = none → H' t = some (.tup (tupOf n p)) → Fo n p r → DrawAt H' d l → Sb d H H' → Q (.ref t) H'
def spNodes : Sp := fun vs H Q _ => ∃ (d l : Addr) (n m : Nat), vs = [.ref d, vi n, vi m] ∧ DrawAt H d l ∧ n ≤ 1000 ∧ m ≤ 500 ∧
  ∀ (a : Addr) (xs : List Nat) H', H a = none → H' a = some (.lst (natsV xs)) → (∀ x ∈ xs, x < n) → xs.length ≤ m → DrawAt H' d l → Sb d H H' → Q (.ref a) H'
theorem rep0 (n : Nat) : (List.replicate n [V.int 0]).flatten = tupOf n (fun _ => 0) := by
  refine List.ext_getElem? fun i => ?_
  have e : (List.replicate n [V.int 0]).flatten = List.replicate n (V.int 0) := by
    induction n with
    | zero => rfl
    | succ n ih => rw [List.replicate_succ, List.flatten_cons, ih]; rfl
  rw [e]
  by_cases h : i < n
  · rw [tupOf_at h, List.getElem?_replicate, if_pos h]; rfl
  · rw [List.getElem?_eq_none (by rw [List.length_replicate]; omega), List.getElem?_eq_none (by rw [tupOf_len]; omega)]
theorem natsV_at {l : List Nat} {i : Nat} (h : i < l.length) : (natsV l)[i]? = some (vi (l.getD i 0)) := by
  unfold natsV
  rw [List.getElem?_map, List.getElem?_eq_getElem h, List.getD_eq_getElem?_getD, List.getElem?_eq_getElem h]
  rfl
section
variable {P : Program} {w : World} {A : Around} {E : Value → Shared → Prop} {s : Shared}
/-- an empty set, new -/
abbrev newSet (w : World) : Obj := { cls := .type "set", dict := none, data := .set #[] 0 (.fresh 0 0 (!w.params.followText "set-order")) }
end
section
variable {P : Program} {w : World} {A : Around} {E : Value → Shared → Prop} {s : Shared}
theorem set_of_ints {l : Addr} {items : Array Value} (ns : List Int) {Q : Value → Shared → Prop} (hh : A.handled = none) (hl : s.heap.IsList l items) (hit : IntsAre items.toList ns) (hb : ns.length + 1 < scanBound)
    (fin : ∀ (h' : Heap) (tk c : Nat), SetR w h' s.heap.objs.size (fun j => decide (j ∈ ns)) c → c ≤ ns.length → (∀ b o, s.heap.get? b = some o → h'.get? b = some o) → Q (.ref s.heap.objs.size) { s with heap := h', toks := tk }) :
    wpAny (model P w) A (call (.type "set") [.ref l]) Q E s := by
  have size_eq : items.size = ns.length := by rw [← Array.length_toList]; exact IntsAre.length hit
  obtain ⟨c, tl, hmro⟩ := F.called_set.mro; have hmade := F.called_set.made; have hsub := F.called_set.sub
  refine wpAny_call (codeAny_of_tree ?_); show wpAny _ _ (callAny (.type "set") _) _ _ _
  refine wpAny_pure ⟨Code.quiet_builtin _ (by decide +kernel), codeAny_builtin F.entry_type_call ?_⟩; rw [Around.under_plain (weight_type_call_type "set" [.ref l] []) rfl]
  have h1 := F.called_set.notType; have h2 := F.called_set.canCreate; have hct := F.typeCall_set_1 (.ref l)
  (repeat (any_goals (first | assumption | wp_step)))
  refine codeAny_mono (code_set_led1 (.ref l) (E := E) (Q₁ := fun obj s1 => obj = .ref s.heap.objs.size ∧ s1 = { s with heap := s.heap.push (newSet w) }) ⟨rfl, rfl⟩) fun r s1 hr => ?_
  match r, hr with
  | .error e, hr => exact hr
  | .ok (.ret obj), hr =>
      obtain ⟨rfl, rfl⟩ := hr
      have at0 : (s.heap.push (newSet w)).get? s.heap.objs.size = some (newSet w) := Heap.get?_push_size _ rfl
      have ty0 : Shared.TypeIs { s with heap := s.heap.push (newSet w) } (.ref s.heap.objs.size) "set" := ⟨_, at0, rfl⟩
      have hli := F.called_set.init.lookup; have hbi := F.called_set.init.bind (.ref s.heap.objs.size)
      (repeat (any_goals (first | assumption | wp_step)))
      refine codeAny_mono (codeAny_call_builtin (R := wants (fun r s2 => r = .none ∧ ∃ h' tk c, s2 = { s with heap := h', toks := tk } ∧ SetR w h' s.heap.objs.size (fun j => decide (j ∈ ns)) c ∧ c ≤ ns.length ∧ (∀ b o, s.heap.get? b = some o → h'.get? b = some o)) E) F.called_set.init.plain F.entry_set_init (check_set_init_1 ty0 ?_)) fun r2 s2 hr2 => ?_
      · obtain ⟨⟨kl, dl, el, sl⟩, hol, hcl, nl, hdl⟩ := hl
        simp only at hcl hdl; subst hcl; subst hdl
        have at1 : (s.heap.push (newSet w)).get? l = some { cls := .type "list", dict := dl, data := .seq items nl, slots := sl } := Heap.get?_push_of_some _ hol
        have hsls := F.sub_list_set; have hslf := F.sub_list_frozenset; have hne : (Value.type "list" == Value.type "dict") = false := by decide
        have isl : (s.heap.push (newSet w)).IsList l items := ⟨_, at1, rfl, nl, rfl⟩
        unfold Builtin.«set.__init__» noKeywords Builtin.Frozenset.updateFrom; generalize hPI : pyIter = PI; wp_walk; subst hPI
        refine wpAny_pyIter_list isl (wpAny_bind (wpAny_runValue ?_))
        have lt0 : l < s.heap.objs.size := Heap.lt_size hol
        have hd3 : A.in1.in1.in1.handled = none := by simp [hh]
        have sz1 : (s.heap.push (newSet w)).objs.size = s.heap.objs.size + 1 := Heap.size_push ..
        have nel : l ≠ (s.heap.push (newSet w)).objs.size := by rw [sz1]; exact Nat.ne_of_lt (Nat.lt_succ_of_lt lt0)
        have out0 : s.heap.objs.size ∉ [(s.heap.push (newSet w)).objs.size, l] := by
          rw [sz1]; intro z
          rcases List.mem_cons.mp z with z | z
          · exact Nat.ne_of_lt (Nat.lt_succ_self _) z
          · exact Nat.ne_of_gt lt0 (List.mem_singleton.mp z)
        have val : ∀ (i : Nat) (v : Value), items[i]? = some v → ∃ k t, ns[i]? = some k ∧ v = .int k t := fun i v hv => by
          have hi : i < ns.length := by rw [← size_eq]; exact (Array.getElem?_eq_some_iff.mp hv).1
          obtain ⟨t, e⟩ := IntsAre.int_at hit i v (by rw [Array.getElem?_toList]; exact hv)
          refine ⟨ns[i], t, List.getElem?_eq_getElem hi, ?_⟩
          rw [e, List.getD_eq_getElem?_getD, List.getElem?_eq_getElem hi]; rfl
        refine set_update_ints ((Walks.list hd3 _ l nel items).toS) s.heap.objs.size out0 ns size_eq hb val (items.size - 0) 0 _ (by omega) (Nat.zero_le _) ⟨⟨_, Heap.get?_push_size _ rfl, rfl, rfl⟩, (isl.push _)⟩ ⟨0, Nat.le_refl 0, setR_new_at (Heap.get?_push_of_some _ at0)⟩ ?_
        rintro ⟨h', g2, d2, t2, o2⟩ c' hm hc' hS'
        obtain rfl : g2 = s.gens := hm.gens
        obtain rfl : d2 = s.drawn := hm.drawn
        obtain rfl : o2 = s.os := hm.os
        show wpAny _ _ _ _ _ _; refine wpAny_pure ?_; show wpAny _ _ (ret Value.none) _ _ _
        refine wpAny_pure ⟨rfl, h', t2, c', rfl, hS', by omega, fun b o e => ?_⟩
        have b0 : b < s.heap.objs.size := Heap.lt_size e
        refine hm.heap b o (fun z => ?_) (Heap.get?_push_of_some _ (Heap.get?_push_of_some _ e))
        rcases List.mem_cons.mp z with z | z
        · exact Nat.ne_of_lt b0 z
        · exact Nat.ne_of_lt (Nat.lt_succ_of_lt b0) ((List.mem_singleton.mp z).trans sz1)
      · match r2, hr2 with
        | .error e, hr2 => exact hr2
        | .ok (.ret r), hr2 =>
            obtain ⟨rfl, h', tk, c', rfl, hS', hc', hk'⟩ := hr2
            (repeat (any_goals (first | assumption | wp_step)))
            exact fin _ _ _ hS' hc' hk'
end
/-- set(xs), a list of ints -/
def rSetI (K : PySem.W.Frag) (w : World) : List V → Hp → VK → Prop := fun xs H Q => ∃ (l : Addr) (ns : List Int), xs = [V.ref l] ∧ SqL K H l (ns.map V.int) ∧ ns.length < 64 ∧
  ∀ (a : Addr) (c : Nat), H a = none → c ≤ ns.length → Q (.ref a) (upd H a (SetO w a (fun j => decide (j ∈ ns)) c))
theorem cr_setI {X : Cx} (hc : X.calm = true) : CallR X (.type "set") (rSetI X.K X.w) := by
  intro pins s σ H xs us Q I r h
  obtain ⟨l, ns, rfl, hl, hf, q⟩ := h
  rw [Vals.ref1 r]
  obtain ⟨its, rv, pl, hz⟩ := I.list hl
  refine set_of_ints (P := X.prog) (w := X.w) ns (I.ok.hd hc) pl.isList (ints_of_vals rv) (by unfold scanBound; omega) fun h' tk c R cl k => ?_
  exact ⟨.ref s.heap.objs.size, upd H s.heap.objs.size (SetO X.w s.heap.objs.size (fun j => decide (j ∈ ns)) c), I.laid (t' := tk) k (Nat.le_refl _) (setO_new R), rfl, q _ c (I.hok.fresh (Nat.le_refl _)) cl⟩
theorem dpAll_ints {K : PySem.W.Frag} {H : Hp} : ∀ l : List Int, DpAll K H (l.map V.int) (l.map PyData.int)
  | [] => .nil
  | x :: r => .cons (.int x) (dpAll_ints r)
theorem lay_ints : ∀ l : List Int, PyData.canLayAll0 (l.map PyData.int) = true
  | [] => by simp [PyData.canLayAll0]
  | x :: r => by simp [PyData.canLayAll0, PyData.canLay0, lay_ints r]
theorem depth_ints : ∀ l : List Int, PyData.depthAll (l.map PyData.int) ≤ 1
  | [] => by simp [PyData.depthAll]
  | x :: r => by
    have := depth_ints r
    simp [PyData.depthAll, PyData.depth]
    omega
theorem shaped_tup (l : List Int) : SeqAt.shaped (.tuple (l.map PyData.int)) = true := by
  unfold SeqAt.shaped
  have := depth_ints l
  simp [PyData.canLay0, lay_ints, PyData.depth]
  omega
def intsOf (n : Nat) (p : Nat → Nat) : List Int := (List.range n).map fun v => (p v : Int)
theorem tupOf_ints (n : Nat) (p : Nat → Nat) : tupOf n p = (intsOf n p).map V.int := by
  unfold tupOf intsOf
  rw [List.map_map]
  rfl
theorem eqv_tup (l : List Int) : PyData.eqv (.tuple (l.map PyData.int)) (.tuple (l.map PyData.int)) = true := SeqAt.eqv_refl _ (SeqAt.canLay_of_shaped (shaped_tup l))
theorem natsV_ints (l : List Nat) : natsV l = (l.map fun n : Nat => (n : Int)).map V.int := by
  unfold natsV
  rw [List.map_map]
  rfl
theorem sum_cast : ∀ l : List Nat, (l.map fun n : Nat => (n : Int)).sum = (l.sum : Nat)
  | [] => rfl
  | x :: r => by
    rw [List.map_cons, List.sum_cons, List.sum_cons, sum_cast r]
    omega
def spLaw (K : PySem.W.Frag) : Sp := fun vs H Q _ => ∃ (a : Addr) (ns : List Int), vs = [.ref a] ∧ SqL K H a (ns.map V.int) ∧ ns.length ≤ 63 ∧ ∀ H', Q (.bl true) H'
theorem DrawAt.net {H : Hp} {d l t : Addr} {xs : List V} (D : DrawAt H d l) (h : H t = some (.tup xs)) : t ≠ d := by
  obtain ⟨ns, i, j, k, e, _⟩ := D
  exact ne_of h e (by intro z; cases z)
theorem cut_last (l : List Nat) (y : Nat) : cutV (natsV (l ++ [y])) none (some (-1)) = natsV l := by
  unfold cutV
  have e1 : HT.sIx (natsV (l ++ [y])).length (natsV (l ++ [y])).length (some (-1)) = l.length := by
    rw [natsV_len, List.length_append, List.length_singleton]
    unfold HT.sIx
    simp
    omega
  rw [e1, HT.sIx_none]
  unfold natsV
  rw [List.map_append]
  simp
theorem flat_nats (l : List Nat) : (natsV l).all flatV = true := by
  unfold natsV
  rw [List.all_eq_true]
  intro v hv
  obtain ⟨n, _, rfl⟩ := List.mem_map.mp hv
  rfl
theorem inV_nats (l : List Nat) (v : Nat) : inV (vi v) (natsV l) = decide (v ∈ l) := by
  unfold inV natsV
  rw [List.any_map]
  refine Bool.eq_iff_iff.mpr ?_
  rw [List.any_eq_true, decide_eq_true_eq]
  constructor
  · rintro ⟨x, hx, e⟩
    have z : ((x : Int) == (v : Int)) = true := e
    have : x = v := by have := eq_of_beq z; omega
    rw [← this]; exact hx
  · intro h
    exact ⟨v, h, by show ((v : Int) == (v : Int)) = true; simp⟩
def markL (n : Nat) (p : Nat → Nat) (l : List Nat) : List Nat := l.flatMap fun x => ups p n x
theorem markL_mem {n : Nat} {p : Nat → Nat} {l : List Nat} {v : Nat} : v ∈ markL n p l ↔ markB n p l v = true := by
  unfold markL markB
  rw [List.mem_flatMap, List.any_eq_true]
  exact ⟨fun ⟨x, a, b⟩ => ⟨x, a, upB_iff.mpr b⟩, fun ⟨x, a, b⟩ => ⟨x, a, upB_iff.mp b⟩⟩
theorem markL_len (n : Nat) (p : Nat → Nat) : ∀ l : List Nat, (markL n p l).length ≤ l.length * n
  | [] => Nat.zero_le _
  | x :: r => by
    have h1 := markL_len n p r
    have h2 := ups_len0 p n x
    show (ups p n x ++ markL n p r).length ≤ (r.length + 1) * n
    rw [List.length_append, Nat.add_mul]
    omega
theorem ints_perm {l : List Nat} {ns : List Int} (h : ns.Perm (l.map fun n : Nat => (n : Int))) : ∃ ys : List Nat, ns.map V.int = natsV ys ∧ ys.Perm l := by
  obtain ⟨ys, e, p⟩ := perm_of_map h.symm l rfl
  exact ⟨ys, by rw [natsV_ints, e], p.symm⟩
theorem ints_of_mem : ∀ {ns : List Int}, (∀ k ∈ ns, ∃ m : Nat, k = (m : Int)) → ∃ ys : List Nat, ns = ys.map fun n : Nat => (n : Int)
  | [], _ => ⟨[], rfl⟩
  | k :: r, h => by
    obtain ⟨m, e⟩ := h k List.mem_cons_self
    obtain ⟨ys, e2⟩ := ints_of_mem (ns := r) fun j hj => h j (List.mem_cons_of_mem _ hj)
    exact ⟨m :: ys, by rw [e, e2]; rfl⟩
/-- a def of the text as the top has left it -/
def DefF (K : PySem.W.Frag) (x : Str) (st : Stmt) : Prop := ∃ (f : Addr) (oc : Value) (od an : Option Addr) (sl : Array (Option Value)) (kV dc pm cd ct : Value),
  PySem.W.nsIn K mainGlobals x = some (some (.ref f)) ∧ K.lookup f = some ⟨oc, od, .func (PySem.W.fnOf x x (defArgs st) (defBody st) (defScope st) .none kV dc pm an cd ct), sl⟩ ∧ PySem.W.codeIn K cd x = true ∧ PySem.W.keepIn K (.ref f) = true
theorem DefF.by {K : PySem.W.Frag} {x : Str} {st : Stmt} {f : Addr} {oc : Value} {od an : Option Addr} {sl : Array (Option Value)} {kV dc pm cd ct : Value} (a : PySem.W.nsIn K mainGlobals x = some (some (.ref f)))
    (l : K.lookup f = some ⟨oc, od, .func (PySem.W.fnOf x x (defArgs st) (defBody st) (defScope st) .none kV dc pm an cd ct), sl⟩) (c : PySem.W.codeIn K cd x = true) (k : PySem.W.keepIn K (.ref f) = true) : DefF K x st := ⟨f, oc, od, an, sl, kV, dc, pm, cd, ct, a, l, c, k⟩
theorem DefF.get {K : PySem.W.Frag} {h : Heap} {mg : Str → Option Value} {x : Str} {st : Stmt} (D : DefF K x st) (X : K.In h) (G : h.Ns mainGlobals mg) : ∃ f fd, Fun K x x st f fd ∧ mg x = some (.ref f) := by
  obtain ⟨f, oc, od, an, sl, kV, dc, pm, cd, ct, a, l, c, k⟩ := D
  exact ⟨f, _, fun_mk (st := st) l c k, PySem.W.mg_of X G a⟩
abbrev sameN : List Str := ["_law_found", "_law_due", "_law_one", "_law_other"]
/-- plain data of at most so many storeys -/
inductive Sm : Nat → PyData → Prop
  | non (n : Nat) : Sm n .none
  | bl (n : Nat) (b : Bool) : Sm n (.bool b)
  | int (n : Nat) (i : Int) : Sm n (.int i)
  | str (n : Nat) (x : Str) : Sm n (.str x)
  | lst {n : Nat} {ds : List PyData} (h : ds.length ≤ 1000) (k : ∀ d ∈ ds, Sm n d) : Sm (n + 1) (.list ds)
  | tup {n : Nat} {ds : List PyData} (h : ds.length ≤ 1000) (k : ∀ d ∈ ds, Sm n d) : Sm (n + 1) (.tuple ds)
def spSame (K : PySem.W.Frag) (n : Nat) : Sp := fun vs H Q _ => ∃ (v u : V) (d : PyData), vs = [v, u] ∧ Dp K H v d ∧ Dp K H u d ∧ Sm n d ∧ ∀ H', Same H H' → Q (.bl true) H'
structure TxS (mg : Str → Option Value) : Prop where
  isinstance : mg "isinstance" = none
  list : mg "list" = none
  tuple : mg "tuple" = none
  bool : mg "bool" = none
  int : mg "int" = none
  str : mg "str" = none
  len : mg "len" = none
  all : mg "all" = none
  zip : mg "zip" = none
section
variable {X : Cx}
theorem pe_ty {x : Str} {n : String} {pos : Pos} (hg : Gl X x) (hm : X.mg x = none) (hv : bootBuiltins x = some (.type n)) (h1 : x ≠ "__name__" := by decide) (h2 : (x == ("__debug__" : Str)) = false := by decide) : PE X (.Name x pos) (tC (.ty n)) := pe_bltn hg hm hv rfl h1 h2
end
theorem kit2 {K : PySem.W.Frag} {t a b : String} {r s : Bool} (h1 : kitB t a = some r) (h2 : kitB t b = some s) : PySem.W.kitAny K (.type t) [.type a, .type b] = some (r || s) :=
  kitAny_cons (kit_ty h1) (fun e => kitAny_cons (kit_ty h2) (fun e2 => by rw [e, e2]; rfl) (fun e2 => by rw [e2, Bool.or_true])) (fun e => by rw [e]; rfl)
theorem dpl_len {K : PySem.W.Frag} {H : Hp} : ∀ {xs : List V} {ds : List PyData}, DpAll K H xs ds → xs.length = ds.length
  | _, _, .nil => rfl
  | _, _, .cons _ r => by rw [List.length_cons, List.length_cons, dpl_len r]
theorem dpl_at {K : PySem.W.Frag} {H : Hp} : ∀ {xs : List V} {ds : List PyData}, DpAll K H xs ds → ∀ {i : Nat} {x : V}, xs[i]? = some x → ∃ d, ds[i]? = some d ∧ Dp K H x d
  | _, _, .cons h r, 0, x, e => ⟨_, rfl, (Option.some.inj e) ▸ h⟩
  | _, _, .cons h r, i + 1, x, e => dpl_at r (i := i) e
mutual
theorem dp_same {K : PySem.W.Frag} {H H' : Hp} (e : Same H H') : ∀ {v : V} {d : PyData}, Dp K H v d → Dp K H' v d
  | _, _, .non => .non
  | _, _, .bl b => .bl b
  | _, _, .int i => .int i
  | _, _, .str x => .str x
  | _, _, .lst s r => .lst (e.seq s) (dpl_same e r)
  | _, _, .tup s r => .tup (same_sqt e s) (dpl_same e r)
theorem dpl_same {K : PySem.W.Frag} {H H' : Hp} (e : Same H H') : ∀ {vs : List V} {ds : List PyData}, DpAll K H vs ds → DpAll K H' vs ds
  | _, _, .nil => .nil
  | _, _, .cons h r => .cons (dp_same e h) (dpl_same e r)
end
theorem tyL {K : PySem.W.Frag} {H : Hp} {a : Addr} {xs : List V} (h : SqL K H a xs) : TyX K H (.ref a) (.type "list") := by
  rcases h with (h | ⟨o, h⟩) | ⟨o, _, _, h, c, _⟩
  · exact .base (.lst h)
  · exact .base (.frz h)
  · exact .kList h c
theorem tyT {K : PySem.W.Frag} {H : Hp} {a : Addr} {xs : List V} (h : SqT K H a xs) : TyX K H (.ref a) (.type "tuple") := by
  rcases h with (h | ⟨o, h⟩) | ⟨o, _, _, h, c, _⟩
  · exact .base (.tup h)
  · exact .fTuple h
  · exact .kTuple h c
abbrev markedN : List Str := ["forest", "nodes", "marked", "node", "passed"]
abbrev afterN : List Str := ["forest", "nodes", "parents", "node"]
abbrev totalN : List Str := ["forest", "nodes", "deep", "lower", "node"]
/-- a def whose promise is known -/
structure Kn (P : Program) (w : World) (K : PySem.W.Frag) (mg : Str → Option Value) (base : Heap) (k : Nat) (x : Str) (st : Stmt) (ps : List Str) (sp : Sp) (f : Addr) (fd : FuncData) : Prop where
  F : Fun K x x st f fd
  G : FnOk P w K mg base CX0 k f fd ps sp
  b : Binds K fd ps []
  g : mg x = some (.ref f)
def spRootOf (K : PySem.W.Frag) : Sp := fun vs H Q _ => ∃ (a : Addr) (n : Nat) (p r : Nat → Nat) (x : Nat), vs = [.ref a, vi x] ∧ Sq K H a (tupOf n p) ∧ n ≤ 1000 ∧ Fo n p r ∧ x < n ∧ ∀ H', Same H H' → Q (vi (root p n x)) H'
def spDepthOf (K : PySem.W.Frag) : Sp := fun vs H Q _ => ∃ (a : Addr) (n : Nat) (p r : Nat → Nat) (x : Nat), vs = [.ref a, vi x] ∧ Sq K H a (tupOf n p) ∧ n ≤ 1000 ∧ Fo n p r ∧ x < n ∧ ∀ H', Same H H' → Q (vi (ups p n x).length) H'
def markS (n : Nat) (p : Nat → Nat) (l : List Nat) : List Nat := (List.range n).filter (markB n p l)
def spMarked (K : PySem.W.Frag) : Sp := fun vs H Q _ => ∃ (a b : Addr) (n : Nat) (p r : Nat → Nat) (xs : List Nat), vs = [.ref a, .ref b] ∧ Sq K H a (tupOf n p) ∧ SqL K H b (natsV xs) ∧ n ≤ 60 ∧ xs.length ≤ 1000 ∧ Fo n p r ∧ (∀ x ∈ xs, x < n) ∧
  ∀ (q : Addr) H', H q = none → H' q = some (.lst (natsV (markS n p xs))) → Same H H' → Q (.ref q) H'
def spAfter (K : PySem.W.Frag) : Sp := fun vs H Q _ => ∃ (a b : Addr) (n : Nat) (p r : Nat → Nat) (xs : List Nat), vs = [.ref a, .ref b] ∧ Sq K H a (tupOf n p) ∧ SqL K H b (natsV xs) ∧ n ≤ 60 ∧ xs.length ≤ 1000 ∧ Fo n p r ∧ (∀ x ∈ xs, x < n) ∧
  ∀ (q : Addr) H', H q = none → H' q = some (.tup (tupOf n (fndAll n xs p))) → Same H H' → Q (.ref q) H'
def spTotal (K : PySem.W.Frag) : Sp := fun vs H Q _ => ∃ (a b : Addr) (n : Nat) (p r : Nat → Nat) (xs : List Nat), vs = [.ref a, .ref b] ∧ Sq K H a (tupOf n p) ∧ SqL K H b (natsV xs) ∧ n ≤ 60 ∧ xs.length ≤ 1000 ∧ Fo n p r ∧ (∀ x ∈ xs, x < n) ∧
  ∀ H', Same H H' → Q (vi (costs n xs p).sum) H'
theorem rise_eq : ∀ {l m : List Int}, l.Pairwise (· < ·) → m.Pairwise (· < ·) → (∀ k, k ∈ l ↔ k ∈ m) → l = m
  | [], [], _, _, _ => rfl
  | [], b :: m, _, _, h => by have := (h b).mpr List.mem_cons_self; cases this
  | a :: l, [], _, _, h => by have := (h a).mp List.mem_cons_self; cases this
  | a :: l, b :: m, hl, hm, h => by
    obtain ⟨h1, h2⟩ := List.pairwise_cons.mp hl
    obtain ⟨g1, g2⟩ := List.pairwise_cons.mp hm
    have e : a = b := by
      rcases List.mem_cons.mp ((h a).mp List.mem_cons_self) with z | z
      · exact z
      · rcases List.mem_cons.mp ((h b).mpr List.mem_cons_self) with y | y
        · exact y.symm
        · have := g1 a z
          have := h1 b y
          omega
    subst e
    rw [rise_eq h2 g2 fun k => ?_]
    constructor
    · intro z
      rcases List.mem_cons.mp ((h k).mp (List.mem_cons_of_mem _ z)) with y | y
      · have := h1 k z; omega
      · exact y
    · intro z
      rcases List.mem_cons.mp ((h k).mpr (List.mem_cons_of_mem _ z)) with y | y
      · have := g1 k z; omega
      · exact y
theorem rise_filter (n : Nat) (f : Nat → Bool) : (((List.range n).filter f).map fun v : Nat => (v : Int)).Pairwise (· < ·) := by
  rw [List.pairwise_map]
  refine List.Pairwise.imp (fun {a b} h => by omega) ((List.pairwise_lt_range (n := n)).filter f)
theorem count_up {n k : Nat} {f g : Nat → Bool} (hk : k < n) (h1 : f k = false) (h2 : ∀ v, g v = (f v || decide (v = k))) : (List.range n).countP g = (List.range n).countP f + 1 := by
  have e := countP_split g f (List.range n)
  have e1 : (List.range n).countP (fun v => g v && f v) = (List.range n).countP f := List.countP_congr fun v _ => by
    rw [h2 v]; cases f v <;> simp
  have e2 : (List.range n).countP (fun v => g v && !f v) = 1 := by
    have z : ∀ v, (g v && !f v) = (v == k) := fun v => by
      rw [h2 v]
      by_cases hv : v = k
      · subst hv; rw [h1]; simp
      · have : (v == k) = false := beq_eq_false_iff_ne.mpr hv
        rw [this]; simp [hv]
    rw [List.countP_congr (q := fun v => v == k) fun v _ => by rw [z v]]
    have c := (List.nodup_range (n := n)).count (a := k)
    rw [if_pos (List.mem_range.mpr hk)] at c
    exact c
  omega
/-- the marked ones hung on their roots, one by one -/
def hang (n : Nat) (p : Nat → Nat) : List Nat → (Nat → Nat) → Nat → Nat
  | [], q => q
  | v :: l, q => hang n p l (fun u => if u = v then root p n v else q u)
theorem hang_snoc (n : Nat) (p : Nat → Nat) (v : Nat) : ∀ (l : List Nat) (q : Nat → Nat), hang n p (l ++ [v]) q = fun u => if u = v then root p n v else hang n p l q u
  | [], _ => rfl
  | a :: l, q => hang_snoc n p v l _
theorem hang_eq (n : Nat) (p : Nat → Nat) : ∀ (l : List Nat) (q : Nat → Nat) (u : Nat), hang n p l q u = if u ∈ l then root p n u else q u
  | [], q, u => by rw [if_neg (List.not_mem_nil)]; rfl
  | a :: l, q, u => by
    show hang n p l _ u = _
    rw [hang_eq n p l]
    by_cases h1 : u ∈ l
    · rw [if_pos h1, if_pos (List.mem_cons_of_mem _ h1)]
    · rw [if_neg h1]
      by_cases h2 : u = a
      · subst h2; rw [if_pos rfl, if_pos List.mem_cons_self]
      · rw [if_neg h2, if_neg (fun z => (List.mem_cons.mp z).elim h2 h1)]
theorem markS_mem {n : Nat} {p : Nat → Nat} {l : List Nat} {v : Nat} : v ∈ markS n p l ↔ v < n ∧ markB n p l v = true := by
  unfold markS
  rw [List.mem_filter, List.mem_range]
theorem markS_len (n : Nat) (p : Nat → Nat) (l : List Nat) : (markS n p l).length ≤ n := by
  unfold markS
  exact Nat.le_trans (List.length_filter_le _ _) (by rw [List.length_range]; exact Nat.le_refl _)
theorem mark_nonroot {n : Nat} {p r : Nat → Nat} (F : Fo n p r) {l : List Nat} (h : ∀ x ∈ l, x < n) {v : Nat} (hm : markB n p l v = true) : v < n ∧ p v ≠ v := by
  unfold markB at hm
  obtain ⟨x, hx, e⟩ := List.any_eq_true.mp hm
  have z := ups_lt F x (h x hx) v (upB_iff.mp e)
  exact ⟨z.1, z.2.1⟩
theorem deep_iff {n : Nat} {p r : Nat → Nat} (F : Fo n p r) {v : Nat} (hv : v < n) (h : p v ≠ v) : deep p v = decide (2 ≤ (ups p n v).length) := by
  unfold deep
  rw [ups_n F hv h]
  refine decide_eq_decide.mpr ?_
  rw [List.length_cons]
  constructor
  · intro z
    rw [ups_n F (F.lt v hv) z, List.length_cons]
    omega
  · intro z e
    rw [ups_of e] at z
    simp at z
structure Pair (K : PySem.W.Frag) (H : Hp) (a b : Addr) (n : Nat) (p q r r' : Nat → Nat) : Prop where
  sa : SqT K H a (tupOf n p)
  sb : SqT K H b (tupOf n q)
  le : n ≤ 60
  fa : Fo n p r
  fb : Fo n q r'
  ro : ∀ v, v < n → (p v = v ↔ q v = v)
theorem Pair.same {K : PySem.W.Frag} {H H' : Hp} {a b : Addr} {n : Nat} {p q r r' : Nat → Nat} (h : Pair K H a b n p q r r') (e : Same H H') : Pair K H' a b n p q r r' := ⟨same_sqt e h.sa, same_sqt e h.sb, h.le, h.fa, h.fb, h.ro⟩
def spNeeded (K : PySem.W.Frag) : Sp := fun vs H Q _ => ∃ (a b : Addr) (n : Nat) (p q r r' : Nat → Nat), vs = [.ref a, .ref b] ∧ Pair K H a b n p q r r' ∧ Way n p q ∧
  ∀ (l : Addr) H', H l = none → H' l = some (.lst (natsV (needS n p q))) → Same H H' → Q (.ref l) H'
def spBar (K : PySem.W.Frag) : Sp := fun vs H Q _ => ∃ (a b : Addr) (n : Nat) (p q r r' : Nat → Nat), vs = [.ref a, .ref b] ∧ Pair K H a b n p q r r' ∧
  (Way n p q → ∀ H', Same H H' → Q .non H') ∧ (¬ Way n p q → ∀ (t : Addr) (x y : Nat) H', H' t = some (.tup [vi x, vi y]) → Same H H' → Q (.ref t) H')
def spWayCost (K : PySem.W.Frag) : Sp := fun vs H Q _ => ∃ (a b : Addr) (n : Nat) (p q r r' : Nat → Nat), vs = [.ref a, .ref b] ∧ Pair K H a b n p q r r' ∧ Way n p q ∧
  ∀ H', Same H H' → Q (vi (costs n (needS n p q) p).sum) H'
theorem behind_roots {n : Nat} {p r : Nat → Nat} (F : Fo n p r) {l : List Nat} (h : ∀ x ∈ l, x < n) (v : Nat) (hv : v < n) : p v = v ↔ fndAll n l p v = v := by
  constructor
  · exact behind_root F h v hv
  · intro e
    rw [behind_eq F l h v hv] at e
    by_cases m : markB n p l v = true
    · rw [if_pos m] at e
      refine Classical.byContradiction fun z => root_ne F hv z e
    · rw [if_neg m] at e; exact e
theorem eqv_ints : ∀ l m : List Int, PyData.eqvAll (l.map PyData.int) (m.map PyData.int) = decide (l = m)
  | [], [] => by simp [PyData.eqvAll]
  | [], b :: m => by simp [PyData.eqvAll]
  | a :: l, [] => by simp [PyData.eqvAll]
  | a :: l, b :: m => by
    rw [List.map_cons, List.map_cons, PyData.eqvAll, eqv_ints l m]
    by_cases e : a = b
    · subst e
      by_cases f : l = m
      · subst f; simp [PyData.eqv]
      · simp [PyData.eqv, f]
    · simp [PyData.eqv, e]
theorem eqv_tups (l m : List Int) : PyData.eqv (.tuple (l.map PyData.int)) (.tuple (m.map PyData.int)) = decide (l = m) := by
  rw [← eqv_ints l m]
  simp [PyData.eqv]
theorem eqv_lsts (l m : List Int) : PyData.eqv (.list (l.map PyData.int)) (.list (m.map PyData.int)) = decide (l = m) := by
  rw [← eqv_ints l m]
  simp [PyData.eqv]
theorem shaped_lst (l : List Int) : SeqAt.shaped (.list (l.map PyData.int)) = true := by
  unfold SeqAt.shaped
  have := depth_ints l
  simp [PyData.canLay0, lay_ints, PyData.depth]
  omega
theorem intsOf_inj {n : Nat} {p q : Nat → Nat} (h : intsOf n p = intsOf n q) {v : Nat} (hv : v < n) : p v = q v := by
  have e := congrArg (fun l : List Int => l[v]?) h
  unfold intsOf at e
  simp only [List.getElem?_map, List.getElem?_range hv, Option.map_some] at e
  have := Option.some.inj e
  omega
theorem natsI (l : List Nat) : natsV l = (l.map fun n : Nat => (n : Int)).map V.int := natsV_ints l
theorem castI {l m : List Nat} (h : (l.map fun n : Nat => (n : Int)) = m.map fun n : Nat => (n : Int)) : l = m := by
  refine List.map_inj_right (f := fun n : Nat => (n : Int)) (fun a b e => by omega) |>.mp h
abbrev Kx (P : Program) (w : World) (K : PySem.W.Frag) (mg : Str → Option Value) (base : Heap) (k : Nat) (x : Str) (st : Stmt) (ps : List Str) (sp : Sp) : Prop := ∃ f fd, Kn P w K mg base k x st ps sp f fd
section
variable {X : Cx} {CX : CXT} {k : Nat} {f : Addr} {fd : FuncData} {ps ks : List Str} {sp : Sp} {g : List Value → List Value → List Value} {gV : List V → List V → List V} {E : XK} {x : Str} {p pos : Pos} {kws : List Keyword} {tk : TA}
theorem pe_kws (F : FnOk X.prog X.w X.K X.mg X.base CX k f fd ps sp) (hr : Room k X.A) (hg : Gl X x) (hm : X.mg x = some (.ref f)) (hk : PySem.W.keepIn X.K (.ref f) = true) (hb : KBinds X.K fd ps ks g gV) (hx : Passes CX X E) (hkw : PK X kws tk)
    (hall : (backToKw pos (keywordEach kws X.env)).all (·.1.isSome) = true := by rfl) (hks : (backToKw pos (keywordEach kws X.env)).filterMap (·.1) = ks := by rfl) (hdb : (x == ("__debug__" : Str)) = false := by decide)
    (hpl : ((backTo pos (starEach [] X.env)).any (·.1) || (backToKw pos (keywordEach kws X.env)).any (·.1.isNone)) = false := by rfl) : PE X (.Call (.Name x p) [] kws pos) (tCallK sp gV E tNil tk) := by
  refine ⟨fun pins s σ H Q I h => wpAny_Call_Name_kw (ld_glob I hg hm (PySem.W.callWith_KW0 (h₀ := X.base) I.ok.mod.kin hk hall ?_ hpl) hdb)⟩
  refine thn (hkw.run pos pins s σ H _ I h) fun ws s2 ⟨zs, H2, I2, rz, q2⟩ => ⟨I2.kIn, ?_⟩
  rw [hks]; exact run_fnk (us := []) (vs := []) F hr hb hx I2 .nil rz q2
end
/-- two parameters, given by keywords in the other order -/
def sw2 {α : Type} : List α → List α → List α
  | [], [b, a] => [a, b]
  | _, _ => []
theorem sw2_rel {vs : List V} {us : List Value} {zs : List V} {ws : List Value} (r : Vals vs us) (s : Vals zs ws) : Vals (sw2 vs zs) (sw2 us ws) := by
  cases r with
  | cons _ _ => exact .nil
  | nil =>
    cases s with
    | nil => exact .nil
    | cons h1 t1 =>
      cases t1 with
      | nil => exact .nil
      | cons h2 t2 =>
        cases t2 with
        | nil => exact .cons h2 (.cons h1 .nil)
        | cons _ _ => exact .nil
theorem Fun.sw {K : PySem.W.Frag} {x qual : Str} {st : Stmt} {f : Addr} {fd : FuncData} {a b : Str} (F : Fun K x qual st f fd)
    (h : ∀ (kV doc pm : Value) (an : Option Addr) (cdv ct : Value) (u v : Value), bindArgs (PySem.W.fnOf x qual (defArgs st) (defBody st) (defScope st) .none kV doc pm an cdv ct) ⟨[], [(b, u), (a, v)]⟩ = pure [(a, v), (b, u)]) : KBinds K fd [a, b] [b, a] sw2 sw2 := by
  obtain ⟨oc, od, kV, doc, pm, an, cdv, ct, osl, rfl, lk, hcd⟩ := F.ex
  refine ⟨fun s us ws _ hl => ?_, sw2_rel⟩
  match us, ws, hl with
  | [], [u, v], _ => exact .of_eq (h kV doc pm an cdv ct u v)
abbrev sTake : Stmt := topS 20
abbrev sStart : Stmt := topS 19
abbrev sOf : Stmt := topS 21
abbrev sShuf : Stmt := topS 22
abbrev sSize : Stmt := topS 27
abbrev sPath : Stmt := topS 28
abbrev sRen : Stmt := topS 29
abbrev sFor : Stmt := topS 30
abbrev sSome : Stmt := topS 31
abbrev sSame : Stmt := topS 23
theorem scTake : FnScope ["_law_draw", "_law_many", "_law_cell", "_law_digit", "_law_square"] ["_law_draw", "_law_many"] (defScope sTake) := ⟨rfl, rfl, rfl, by decide +kernel, rfl, by decide +kernel, by decide +kernel⟩
theorem scStart : FnScope ["_law_script"] ["_law_script"] (defScope sStart) := ⟨rfl, rfl, rfl, by decide +kernel, rfl, by decide +kernel, by decide +kernel⟩
theorem scOf : FnScope ["_law_draw", "_law_some"] ["_law_draw", "_law_some"] (defScope sOf) := ⟨rfl, rfl, rfl, by decide +kernel, rfl, by decide +kernel, by decide +kernel⟩
theorem scShuf : FnScope ["_law_draw", "_law_some", "_law_found", "_law_one"] ["_law_draw", "_law_some"] (defScope sShuf) := ⟨rfl, rfl, rfl, by decide +kernel, rfl, by decide +kernel, by decide +kernel⟩
theorem scSize : FnScope ["_law_draw", "_law_most"] ["_law_draw", "_law_most"] (defScope sSize) := ⟨rfl, rfl, rfl, by decide +kernel, rfl, by decide +kernel, by decide +kernel⟩
theorem scPath : FnScope ["_law_forest_in", "_law_node", "_law_found", "_law_step"] ["_law_forest_in", "_law_node"] (defScope sPath) := ⟨rfl, rfl, rfl, by decide +kernel, rfl, by decide +kernel, by decide +kernel⟩
theorem scRen : FnScope ["_law_draw", "_law_parents", "_law_names", "_law_found", "_law_node"] ["_law_draw", "_law_parents"] (defScope sRen) := ⟨rfl, rfl, rfl, by decide +kernel, rfl, by decide +kernel, by decide +kernel⟩
theorem scFor : FnScope ["_law_draw", "_law_size_here", "_law_many", "_law_pick", "_law_parents", "_law_node", "_law_near", "_law_above"] ["_law_draw", "_law_size_here", "_law_many"] (defScope sFor) := ⟨rfl, rfl, rfl, by decide +kernel, rfl, by decide +kernel, by decide +kernel⟩
theorem scSome : FnScope ["_law_draw", "_law_most"] ["_law_draw", "_law_most"] (defScope sSome) := ⟨rfl, rfl, rfl, by decide +kernel, rfl, by decide +kernel, by decide +kernel⟩
theorem scSame : FnScope sameN ["_law_found", "_law_due"] (defScope sSame) := ⟨rfl, rfl, rfl, by decide +kernel, rfl, by decide +kernel, by decide +kernel⟩
section
variable {P : Program} {w : World} {K : PySem.W.Frag} {mg : Str → Option Value} {base : Heap}
theorem ok_take {f : Addr} {fd : FuncData} {k : Nat} (F : Fun K "_law_take" "_law_take" sTake f fd) (ml : mg "len" = none) : FnOk P w K mg base CX0 (k + 1) f fd ["_law_draw", "_law_many"] spTake := by
  refine F.ok scTake (fun vs H Q E h => ?_) (fun cdv A outer s H vs Q E hr h => ?_)
  · obtain ⟨d, l, m, rfl, _⟩ := h
    rfl
  · obtain ⟨d, l, m, rfl, hD, hm1, hm2, q⟩ := h
    have c61 : (0 : Int) < 2305843009213693951 := by decide
    refine ⟨_, C8.pss_cut (ps_if (PW.pt (pw_and (pt_cmpR op_lt (pe_ix ix_list (pv 0) pe_int (fun _ _ => rfl)) (pv 1) (nomark _))
        (pw_and1 (pt_cmpR op_lt (pe_ix ix_list (pv 0) pe_int (fun _ _ => rfl)) (pe_callB call_len_seq (by rfl) ml PySem.boot_len (pa_cons (pe_ix ix_list (pv 0) pe_int (fun _ _ => rfl)) pa_nil)) (nomark _)))))
        (pss_cons (ps_set (i := 2) scTake.nd rfl (.inl rfl) (pe_ix ix_list (pe_ix ix_list (pv 0) pe_int (fun _ _ => rfl)) (pe_ix ix_list (pv 0) pe_int (fun _ _ => rfl)) (fun _ _ => rfl)))
        (pss_cons (ps_asg (pe_op op_add (pe_ix ix_list (pv 0) pe_int (fun _ _ => rfl)) pe_int) (pg_sub (pv 0) pe_int set_list))
        (pss_cons (ps_asg pe_int (pg_sub (pv 0) pe_int set_list))
        (C8.pss_cut (ps_if (pt_cmpR op_ge (pv 2) (pe_op op_pow pe_int pe_int) (nomark _)) (pss_one (ps_asg (pv 2) (pg_sub (pv 0) pe_int set_list))) pss_nil)
        (pss_one (ps_asg (pe_op op_mod (pe_op op_add (pe_op op_add (pe_op op_mul (pe_ix ix_list (pv 0) pe_int (fun _ _ => rfl)) pe_int) (pe_op op_mul (pe_op op_mod (pv 2) pe_int) pe_int)) (pe_ix ix_list (pv 0) pe_int (fun _ _ => rfl))) pe_int) (pg_sub (pv 0) pe_int set_list))))))) pss_nil)
      (pss_cons (ps_if (pt_cmpR op_ge (pe_ix ix_list (pv 0) pe_int (fun _ _ => rfl)) (pv 1) (nomark _))
        (pss_cons (ps_set (i := 3) scTake.nd rfl (.inl rfl) (pe_op op_mod (pe_ix ix_list (pv 0) pe_int (fun _ _ => rfl)) (pv 1)))
        (pss_cons (ps_asg (pe_op op_fdivW (pe_ix ix_list (pv 0) pe_int (fun _ _ => rfl)) (pv 1)) (pg_sub (pv 0) pe_int set_list))
        (pss_one (ps_ret (pv 3))))) pss_nil)
      (pss_cons (ps_set (i := 4) scTake.nd rfl (.inl rfl) (pe_op op_mod (pe_op op_mul (pe_ix ix_list (pv 0) pe_int (fun _ _ => rfl)) (pe_ix ix_list (pv 0) pe_int (fun _ _ => rfl))) pe_int))
      (pss_cons (ps_asg (pe_op op_mod (pe_op op_add (pe_op op_add (pe_op op_mul (pv 4) pe_int) (pe_op op_mul (pe_ix ix_list (pv 0) pe_int (fun _ _ => rfl)) pe_int)) pe_int) pe_int) (pg_sub (pv 0) pe_int set_list))
      (pss_one (ps_ret (pe_op op_mod (pe_op op_fdiv (pe_ix ix_list (pv 0) pe_int (fun _ _ => rfl)) pe_int) (pv 1))))))), ?_⟩
    refine ⟨fun σ H' => (∃ c, σ = [some (.ref d), some (.int m), c, none, none]) ∧ DrawAt H' d l ∧ Sb d H H', ?_, ?_⟩
    · obtain ⟨ns, i, j, c, h1, h2, h3, h4, h5⟩ := hD
      have ne := draw_ne h1 h2
      have x1 : atI [V.ref l, V.int i, V.int j, V.int c] 0 = some (.ref l) := rfl
      have x2 : atI [V.ref l, V.int i, V.int j, V.int c] 1 = some (.int i) := rfl
      have x3 : atI [V.ref l, V.int i, V.int j, V.int c] 2 = some (.int j) := rfl
      have x4 : atI [V.ref l, V.int i, V.int j, V.int c] 3 = some (.int c) := rfl
      refine ⟨_, rfl, d, _, _, _, rfl, rfl, SqL.of h1, x3, _, rfl, _, _, rfl, rfl, _, rfl, ite2 (fun e1 => ?_) (fun e1 => ?_)⟩
      · refine ⟨_, rfl, d, _, _, _, rfl, rfl, SqL.of h1, x2, _, rfl, d, _, _, _, rfl, rfl, SqL.of h1, x1, l, _, rfl, .inl (SqL.of h2), _, _, rfl, rfl, _, rfl, ite2 (fun e2 => ?_) (fun e2 => ?_)⟩
        · have hi : i < ((ns.map V.int).length : Int) := of_decide_eq_true e2
          rw [List.length_map] at hi
          obtain ⟨u, rfl⟩ : ∃ u : Nat, i = u := ⟨i.toNat, by omega⟩
          have hu : u < ns.length := by omega
          have gu : (ns.map V.int)[u]? = some (.int ns[u]) := by rw [List.getElem?_map, List.getElem?_eq_getElem hu]; rfl
          refine ⟨_, rfl, d, _, _, _, rfl, rfl, SqL.of h1, x1, _, rfl, d, _, _, _, rfl, rfl, SqL.of h1, x2, l, _, _, _, rfl, rfl, SqL.of h2, atI_nat gu, ?_⟩
          refine ⟨_, rfl, d, _, _, _, rfl, rfl, SqL.of h1, x2, _, _, rfl, rfl, _, rfl, d, _, _, 1, rfl, rfl, h1, rfl, ?_⟩
          refine ⟨_, rfl, d, _, _, 2, rfl, rfl, upd_same, rfl, ?_⟩
          refine ⟨fun σ H' => σ = [some (.ref d), some (.int m), some (.int ns[u]), none, none] ∧ (∃ jj : Int, H' d = some (.lst [.ref l, .int ((u : Int) + 1), .int jj, .int c])) ∧ H' l = some (.lst (ns.map V.int)) ∧ Sb d H H', ?_, ?_⟩
          · refine ⟨_, rfl, _, _, rfl, rfl, ⟨by decide, by decide, by decide⟩, _, _, rfl, rfl, _, rfl, ite2 (fun e3 => ?_) (fun e3 => ?_)⟩
            · refine ⟨_, rfl, _, rfl, d, _, _, 2, rfl, rfl, upd_same, rfl, rfl, ⟨ns[u], upd_same⟩, ?_, ?_⟩
              · rw [upd_ne ne, upd_ne ne, upd_ne ne]; exact h2
              · exact (Sb.put.trans Sb.put).trans Sb.put
            · refine ⟨rfl, ⟨0, upd_same⟩, ?_, ?_⟩
              · rw [upd_ne ne, upd_ne ne]; exact h2
              · exact Sb.put.trans Sb.put
          · rintro σ H2 ⟨rfl, ⟨jj, g1⟩, g2, g3⟩
            have y2 : atI [V.ref l, V.int ((u : Int) + 1), V.int jj, V.int c] 1 = some (.int ((u : Int) + 1)) := rfl
            have y4 : atI [V.ref l, V.int ((u : Int) + 1), V.int jj, V.int c] 3 = some (.int c) := rfl
            refine ⟨_, rfl, d, _, _, _, rfl, rfl, SqL.of g1, y4, _, _, rfl, rfl, .inl ⟨by omega, by omega⟩, _, rfl, _, _, rfl, rfl, c61, _, _, rfl, rfl, .inr ⟨by decide, by decide⟩, _, _, rfl, rfl, _, rfl, d, _, _, _, rfl, rfl, SqL.of g1, y2, _, _, rfl, rfl, _, _, rfl, rfl, c61, _, rfl, d, _, _, 3, rfl, rfl, g1, rfl, ⟨_, rfl⟩, ?_, g3.trans Sb.put⟩
            exact ⟨ns, _, jj, _, upd_same, by rw [upd_ne ne]; exact g2, by omega, Int.emod_nonneg _ (by omega), Int.emod_lt_of_pos _ c61⟩
        · exact ⟨⟨_, rfl⟩, ⟨ns, i, j, c, h1, h2, h3, h4, h5⟩, Sb.refl⟩
      · exact ⟨⟨_, rfl⟩, ⟨ns, i, j, c, h1, h2, h3, h4, h5⟩, Sb.refl⟩
    · rintro σ H1 ⟨⟨c0, rfl⟩, ⟨ns, i, j, c, h1, h2, h3, h4, h5⟩, sb⟩
      have ne := draw_ne h1 h2
      have x3 : atI [V.ref l, V.int i, V.int j, V.int c] 2 = some (.int j) := rfl
      have x4 : atI [V.ref l, V.int i, V.int j, V.int c] 3 = some (.int c) := rfl
      refine ⟨_, rfl, d, _, _, _, rfl, rfl, SqL.of h1, x3, _, rfl, _, _, rfl, rfl, _, rfl, ite2 (fun e1 => ?_) (fun e1 => ?_)⟩
      · have hj : m ≤ j := of_decide_eq_true e1
        refine ⟨_, rfl, d, _, _, _, rfl, rfl, SqL.of h1, x3, _, rfl, _, _, rfl, rfl, (by show (0:Int) < m; omega), ?_⟩
        refine ⟨_, rfl, d, _, _, _, rfl, rfl, SqL.of h1, x3, _, rfl, _, _, rfl, rfl, wide_div (b := 1000) (by omega) hm2 (by decide) (by decide), _, rfl, d, _, _, 2, rfl, rfl, h1, rfl, ?_⟩
        have hb : 0 ≤ j % m := Int.emod_nonneg _ (by omega)
        have hb2 : j % m < m := Int.emod_lt_of_pos _ (by omega)
        obtain ⟨r, er⟩ : ∃ r : Nat, j % m = r := ⟨(j % m).toNat, by omega⟩
        refine ⟨_, rfl, ?_⟩
        show Q (.int (j % m)) _
        rw [er]
        refine q r _ (by omega) ⟨ns, i, j / m, c, upd_same, by rw [upd_ne ne]; exact h2, h3, h4, h5⟩ (sb.trans Sb.put)
      · refine ⟨_, rfl, d, _, _, _, rfl, rfl, SqL.of h1, x4, _, rfl, d, _, _, _, rfl, rfl, SqL.of h1, x4, _, _, rfl, rfl, .inl ⟨by omega, by omega⟩, _, _, rfl, rfl, c61, ?_⟩
        have s0 : 0 ≤ c * c % 2305843009213693951 := Int.emod_nonneg _ (by omega)
        have s1 : c * c % 2305843009213693951 < 2305843009213693951 := Int.emod_lt_of_pos _ c61
        generalize hsq : c * c % 2305843009213693951 = sq at s0 s1
        refine ⟨.int (c * c % 2305843009213693951), rfl, _, _, rfl, rfl, .inl ⟨by rw [hsq]; omega, by rw [hsq]; omega⟩, _, rfl, d, _, _, _, rfl, rfl, SqL.of h1, x4, _, _, rfl, rfl, .inl ⟨by omega, by omega⟩, _, _, rfl, rfl, _, _, rfl, rfl, _, _, rfl, rfl, c61, _, rfl, d, _, _, 3, rfl, rfl, h1, rfl, ?_⟩
        have t0 : 0 ≤ (c * c % 2305843009213693951 * 48271 + c * 16807 + 12345) % 2305843009213693951 := Int.emod_nonneg _ (by omega)
        have t1 : (c * c % 2305843009213693951 * 48271 + c * 16807 + 12345) % 2305843009213693951 < 2305843009213693951 := Int.emod_lt_of_pos _ c61
        refine ⟨_, rfl, d, _, _, _, rfl, rfl, SqL.of upd_same, rfl, _, _, rfl, rfl, ⟨by decide, by decide⟩, _, rfl, _, _, rfl, rfl, (by show (0:Int) < m; omega), ?_⟩
        generalize hz : (c * c % 2305843009213693951 * 48271 + c * 16807 + 12345) % 2305843009213693951 = z at t0 t1
        have b0 : 0 ≤ (z / 1021) % m := Int.emod_nonneg _ (by omega)
        have b1 : (z / 1021) % m < m := Int.emod_lt_of_pos _ (by omega)
        obtain ⟨r, er⟩ : ∃ r : Nat, (z / 1021) % m = r := ⟨((z / 1021) % m).toNat, by omega⟩
        show Q (.int (z / 1021 % m)) _
        rw [er]
        refine q r _ (by omega) ⟨ns, i, j, z, ?_, by rw [upd_ne ne]; exact h2, h3, t0, t1⟩ (sb.trans Sb.put)
        rw [upd_same, ← hz]
        rfl
end
section
variable {P : Program} {w : World} {K : PySem.W.Frag} {mg : Str → Option Value} {base : Heap}
theorem ok_start {f : Addr} {fd : FuncData} {k : Nat} (F : Fun K "_law_start" "_law_start" sStart f fd) (T : Tx mg) : FnOk P w K mg base CX0 (k + 1) f fd ["_law_script"] (spStart K) := by
  refine F.ok scStart (fun vs H Q E h => ?_) (fun cdv A outer s H vs Q E hr h => ?_)
  · obtain ⟨a, ns, rfl, _⟩ := h
    rfl
  · obtain ⟨a, ns, rfl, hS, hlen, q⟩ := h
    refine ⟨_, pss_one (ps_ret (pe_lst (pa_cons (pe_callTy call_list_of (by rfl) T.list (by decide +kernel) (pa_cons (pe_slice sl_list (pv 0) po_none (po_some pe_int)) pa_nil))
      (pa_cons pe_int (pa_cons pe_int (pa_cons (pe_op op_add pe_int (pe_op op_mul pe_int (pe_callB call_len_seq (by rfl) T.len PySem.boot_len (pa_cons (pe_slice sl_list (pv 0) po_none (po_some pe_int)) pa_nil)))) pa_nil)))))), ?_⟩
    have cut : ∃ ms : List Int, cutV (ns.map V.int) none (some 63) = ms.map V.int ∧ ms.length ≤ ns.length := by
      refine ⟨(ns.drop (HT.sIx (ns.map V.int).length 0 none)).take (HT.sIx (ns.map V.int).length (ns.map V.int).length (some 63) - HT.sIx (ns.map V.int).length 0 none), ?_, ?_⟩
      · unfold cutV
        rw [List.map_take, List.map_drop]
      · rw [List.length_take, List.length_drop]
        omega
    obtain ⟨ms, em, hml⟩ := cut
    refine ⟨_, rfl, 63, rfl, a, _, rfl, hS, fun c nc => ?_⟩
    rw [em]
    have s1 : Same H (upd H c (.lst (ms.map V.int))) := same_new nc
    refine ⟨c, _, rfl, .inl (SqL.of upd_same), fun l nl => ?_⟩
    have s2 : Same (upd H c (.lst (ms.map V.int))) (upd (upd H c (.lst (ms.map V.int))) l (.lst (ms.map V.int))) := same_new nl
    refine ⟨_, rfl, 63, rfl, a, _, rfl, s2.seq (s1.seq hS), fun c2 nc2 => ?_⟩
    rw [em]
    have s3 := same_new (o := .lst (ms.map V.int)) nc2
    refine ⟨c2, _, rfl, .inl (SqL.of upd_same), _, _, rfl, rfl, .inl ⟨by decide, by decide⟩, _, _, rfl, rfl, ?_⟩
    refine ⟨by show 4 ≤ sizeLine; decide, fun d nd => ?_⟩
    have s4 := same_new (o := .lst [V.ref l, V.int 0, V.int 0, V.int (9494 + 37 * ((ms.map V.int).length : Int))]) nd
    refine q d l _ (((s1.trans s2).trans s3).free nd) ⟨ms, 0, 0, 9494 + 37 * ((ms.map V.int).length : Int), upd_same, ?_, by omega, by omega, by rw [List.length_map]; omega⟩ (((s1.trans s2).trans s3).trans s4)
    exact s4 _ _ (s3 _ _ upd_same)
end
section
variable {P : Program} {w : World} {K : PySem.W.Frag} {mg : Str → Option Value} {base : Heap}
theorem ok_of {f fT : Addr} {fd fdT : FuncData} (F : Fun K "_law_of" "_law_of" sOf f fd) (GT : FnOk P w K mg base CX0 1 fT fdT ["_law_draw", "_law_many"] spTake) (FT : Fun K "_law_take" "_law_take" sTake fT fdT) (bT : Binds K fdT ["_law_draw", "_law_many"] []) (gT : mg "_law_take" = some (.ref fT)) (T : Tx mg) :
    FnOk P w K mg base CX0 2 f fd ["_law_draw", "_law_some"] (spOf K) := by
  refine F.ok scOf (fun vs H Q E h => ?_) (fun cdv A outer s H vs Q E hr h => ?_)
  · obtain ⟨d, l, a, xs, rfl, _⟩ := h
    rfl
  · obtain ⟨d, l, a, xs, rfl, hD, ne, hS, h1, h2, q⟩ := h
    refine ⟨_, pss_one (ps_ret (pe_ix ix_list (pv 1) (pe_call GT hr (by rfl) gT FT.kp bT .nil pass0 (pa_cons (pv 0) (pa_cons (pe_callB call_len_seq (by rfl) T.len PySem.boot_len (pa_cons (pv 1) pa_nil)) pa_nil))) (fun _ _ => rfl))), ?_⟩
    refine ⟨_, rfl, _, rfl, _, rfl, a, xs, rfl, .inl hS, d, l, xs.length, rfl, hD, by omega, Nat.lt_of_le_of_lt (show _ ≤ 1000 by omega) (by decide +kernel), fun r H' hr' hD' sb => ?_⟩
    have hr2 : r < xs.length := by omega
    exact ⟨a, xs, _, xs[r], rfl, rfl, sb.sql ne hS, atI_nat (List.getElem?_eq_getElem hr2), q r _ H' (List.getElem?_eq_getElem hr2) hD' sb⟩
end
section
variable {P : Program} {w : World} {K : PySem.W.Frag} {mg : Str → Option Value} {base : Heap}
theorem ok_size {f fT fO : Addr} {fd fdT fdO : FuncData} (F : Fun K "_law_size" "_law_size" sSize f fd) (GT : FnOk P w K mg base CX0 1 fT fdT ["_law_draw", "_law_many"] spTake) (FT : Fun K "_law_take" "_law_take" sTake fT fdT) (bT : Binds K fdT ["_law_draw", "_law_many"] []) (gT : mg "_law_take" = some (.ref fT))
    (GO : FnOk P w K mg base CX0 2 fO fdO ["_law_draw", "_law_some"] (spOf K)) (FO : Fun K "_law_of" "_law_of" sOf fO fdO) (bO : Binds K fdO ["_law_draw", "_law_some"] []) (gO : mg "_law_of" = some (.ref fO)) (T : Tx mg) :
    FnOk P w K mg base CX0 3 f fd ["_law_draw", "_law_most"] spSize := by
  refine F.ok scSize (fun vs H Q E h => ?_) (fun cdv A outer s H vs Q E hr h => ?_)
  · obtain ⟨d, l, m, rfl, _⟩ := h
    rfl
  · obtain ⟨d, l, m, rfl, hD, hm, q⟩ := h
    refine ⟨_, pss_one (ps_ret (pe_call GO hr (by rfl) gO FO.kp bO .nil pass0 (pa_cons (pv 0) (pa_cons (pe_lst
      (pa_cons (pe_call GT (hr.mono (by decide)) (by rfl) gT FT.kp bT .nil pass0 (pa_cons (pv 0) (pa_cons (pe_op op_add (pv 1) pe_int) pa_nil)))
      (pa_cons (pe_callB (call_min2 rfl) (by rfl) T.min (by decide +kernel) (pa_cons (pv 1) (pa_cons (pe_call GT (hr.mono (by decide)) (by rfl) gT FT.kp bT .nil pass0 (pa_cons (pv 0) (pa_cons pe_int pa_nil))) pa_nil)))
      (pa_cons (pe_callB (call_min2 rfl) (by rfl) T.min (by decide +kernel) (pa_cons (pv 1) (pa_cons pe_int pa_nil))) pa_nil)))) pa_nil)))), ?_⟩
    refine ⟨_, rfl, _, rfl, _, rfl, _, _, rfl, rfl, d, l, (m : Int) + 1, rfl, hD, by omega, Nat.lt_of_le_of_lt (show _ ≤ 1001 by omega) (by decide +kernel), fun r1 H1 hr1 hD1 sb1 => ?_⟩
    refine ⟨_, rfl, _, rfl, d, l, 8, rfl, hD1, by omega, by decide +kernel, fun r2 H2 hr2 hD2 sb2 => ?_⟩
    refine ⟨_, _, rfl, _, rfl, _, _, rfl, ?_⟩
    have a2 : ∃ z : Nat, (if (r2 : Int) < (m : Int) then (r2 : Int) else (m : Int)) = (z : Int) ∧ z ≤ m := by
      split
      · exact ⟨r2, rfl, by omega⟩
      · exact ⟨m, rfl, Nat.le_refl _⟩
    have a3 : ∃ z : Nat, (if (3 : Int) < (m : Int) then (3 : Int) else (m : Int)) = (z : Int) ∧ z ≤ m := by
      split
      · exact ⟨3, rfl, by omega⟩
      · exact ⟨m, rfl, Nat.le_refl _⟩
    obtain ⟨z2, e2, l2⟩ := a2
    obtain ⟨z3, e3, l3⟩ := a3
    rw [e2, e3]
    refine ⟨by show 3 ≤ sizeLine; decide, fun p np => ?_⟩
    have sb := sb1.trans sb2
    refine ⟨d, l, p, _, rfl, hD2.new np, hD2.ne np, SqL.of upd_same, (by show 1 ≤ 3; decide), (by show 3 ≤ 1000; decide), fun i v H3 hv hD3 sb3 => ?_⟩
    have fin : ∃ z : Nat, v = .int (z : Int) ∧ z ≤ m := by
      match i, hv with
      | 0, hv => exact ⟨r1, (Option.some.inj hv).symm, by omega⟩
      | 1, hv => exact ⟨z2, (Option.some.inj hv).symm, l2⟩
      | 2, hv => exact ⟨z3, (Option.some.inj hv).symm, l3⟩
    obtain ⟨z, rfl, hz⟩ := fin
    exact q z H3 hz hD3 ((sb.trans (Sb.of (same_new np))).trans sb3)
end
section
variable {P : Program} {w : World} {K : PySem.W.Frag} {mg : Str → Option Value} {base : Heap}
theorem ok_shuf {f fT : Addr} {fd fdT : FuncData} (F : Fun K "_law_shuffled" "_law_shuffled" sShuf f fd) (GT : FnOk P w K mg base CX0 1 fT fdT ["_law_draw", "_law_many"] spTake) (FT : Fun K "_law_take" "_law_take" sTake fT fdT) (bT : Binds K fdT ["_law_draw", "_law_many"] []) (gT : mg "_law_take" = some (.ref fT)) (T : Tx mg) :
    FnOk P w K mg base CX0 2 f fd ["_law_draw", "_law_some"] (spShuf K) := by
  refine F.ok scShuf (fun vs H Q E h => ?_) (fun cdv A outer s H vs Q E hr h => ?_)
  · obtain ⟨d, l, a, xs, rfl, _⟩ := h
    rfl
  · obtain ⟨d, l, a, xs, rfl, hD, ne, hS, hl, q⟩ := h
    refine ⟨_, pss_cons (ps_set (i := 2) scShuf.nd rfl (.inl rfl) (pe_lst pa_nil))
      (pss_cons (ps_for PassesOwn.never rfl (pi_list (pv 1)) (pg_name (i := 3) scShuf.nd rfl (.inl rfl))
        (pss_one (ps_expr (pe_bm PySem.F.plainAttrs_list PySem.F.slot_list_insert PySem.F.type_list_insert mt_insert (pv 2)
          (pa_cons (pe_call GT hr (by rfl) gT FT.kp bT .nil pass0 (pa_cons (pv 0) (pa_cons (pe_op op_add (pe_callB call_len_seq (by rfl) T.len PySem.boot_len (pa_cons (pv 2) pa_nil)) pe_int) pa_nil))) (pa_cons (pv 3) pa_nil))))))
      (pss_one (ps_ret (pv 2)))), ?_⟩
    refine ⟨Nat.zero_le _, fun p np => ?_⟩
    have npd : p ≠ d := hD.ne np
    have s1 : Same H (upd H p (.lst [])) := same_new np
    refine ⟨_, rfl, a, rfl, ⟨_, s1.seq hS⟩, ?_⟩
    refine for_list (xs := xs) (fun i σ H' => (∃ c, σ = [some (.ref d), some (.ref a), some (.ref p), c]) ∧ ∃ ys : List V, ys.Perm (xs.take i) ∧ H' p = some (.lst ys) ∧ DrawAt H' d l ∧ Sb d H H') ⟨⟨none, rfl⟩, [], by simp, upd_same, hD.new np, Sb.of s1⟩ ?_ ?_ ?_
    · rintro i σ H' _ ⟨_, ys, _, _, _, sb⟩
      exact sb.sql ne hS
    · rintro i x σ H' hx ⟨⟨c, rfl⟩, ys, hy, hp, hD', sb⟩
      have hyl : ys.length = i := by
        rw [hy.length_eq, List.length_take]
        have := (List.getElem?_eq_some_iff.mp hx).1
        omega
      have hil : i < xs.length := (List.getElem?_eq_some_iff.mp hx).1
      refine ⟨_, rfl, .inl ⟨rfl, _, SqL.of hp⟩, _, rfl, _, rfl, p, ys, rfl, .inl (SqL.of hp), _, _, rfl, rfl, d, l, _, rfl, hD', by omega, Nat.lt_of_le_of_lt (show _ ≤ 1001 by omega) (by decide +kernel), fun r H2 hr2 hD2 sb2 => ?_⟩
      have hp2 : H2 p = some (.lst ys) := sb2 _ _ npd hp
      refine ⟨_, rfl, p, ys, r, x, rfl, rfl, hp2, Nat.lt_of_lt_of_le (show ys.length < 1001 by omega) (by decide), by omega, by omega, ⟨_, rfl⟩, ys.take r ++ [x] ++ ys.drop r, ?_, upd_same, ?_, ?_⟩
      · rw [List.take_add_one, hx]
        exact (insert_perm r x).trans (hy.append_right _)
      · exact hD2.put npd (hD.nel np)
      · exact (sb.trans sb2).over np
    · rintro σ H' ⟨⟨c, rfl⟩, ys, hy, hp, hD', sb⟩
      rw [List.take_length] at hy
      exact ⟨_, rfl, q p ys H' hy np npd hp hD' sb⟩
end
section
variable {P : Program} {w : World} {K : PySem.W.Frag} {mg : Str → Option Value} {base : Heap}
theorem ok_path {f : Addr} {fd : FuncData} {k : Nat} (F : Fun K "_law_path" "_law_path" sPath f fd) (T : Tx mg) : FnOk P w K mg base CX0 (k + 1) f fd ["_law_forest_in", "_law_node"] (spPath K) := by
  refine F.ok scPath (fun vs H Q E h => ?_) (fun cdv A outer s H vs Q E hr h => ?_)
  · obtain ⟨a, n, p, x, rfl, _⟩ := h
    rfl
  · obtain ⟨a, n, p, x, rfl, hS, hn, hl, hx, q⟩ := h
    refine ⟨_, pss_cons (ps_set (i := 2) scPath.nd rfl (.inl rfl) (pe_lst (pa_cons (pv 1) pa_nil)))
      (pss_cons (ps_for PassesOwn.never rfl (pi_range1 (by rfl) T.range (pa_cons (pe_callB call_len_seq (by rfl) T.len PySem.boot_len (pa_cons (pv 0) pa_nil)) pa_nil)) (pg_name (i := 3) scPath.nd rfl (.inl rfl))
        (pss_one (ps_if (pt_cmpR op_ne (pe_ix ix_seq (pv 0) (pe_ix ix_list (pv 2) (pe_un un_neg pe_int) (fun _ _ => rfl)) (fun _ _ => rfl)) (pe_ix ix_list (pv 2) (pe_un un_neg pe_int) (fun _ _ => rfl)) (nomark _))
          (pss_one (ps_expr (pe_bm PySem.F.plainAttrs_list PySem.F.slot_list_append PySem.F.type_list_append mt_append (pv 2) (pa_cons (pe_ix ix_seq (pv 0) (pe_ix ix_list (pv 2) (pe_un un_neg pe_int) (fun _ _ => rfl)) (fun _ _ => rfl)) pa_nil)))) pss_nil)))
      (pss_one (ps_ret (pv 2)))), ?_⟩
    refine ⟨_, rfl, by show 1 ≤ sizeLine; decide, fun c nc => ?_⟩
    have s1 : Same H (upd H c (.lst [vi x])) := same_new nc
    refine ⟨_, rfl, a, _, rfl, hS.same s1, _, rfl, by rw [tupOf_len]; omega, by rw [tupOf_len]; omega, ?_⟩
    rw [tupOf_len]
    refine for_range (lo := 0) (n := (n : Int).toNat) (fun i σ H' => (∃ y, σ = [some (.ref a), some (vi x), some (.ref c), y]) ∧ H' c = some (.lst (natsV (path p i x))) ∧ Same H H') ⟨⟨none, rfl⟩, upd_same, s1⟩ ?_ ?_
    · rintro i σ H' hi ⟨⟨y, rfl⟩, hc, sm⟩
      have hi' : i < n := by omega
      have hr := root_lt0 hl i x hx
      refine ⟨_, rfl, _, rfl, 1, rfl, c, _, _, _, rfl, rfl, SqL.of hc, natsV_last p i x, (hS.same sm).ix (atI_nat (tupOf_at hr)) ⟨_, rfl, 1, rfl, c, _, _, _, rfl, rfl, SqL.of hc, natsV_last p i x, rfl, _, rfl, ite2 (fun e => ?_) (fun e => ?_)⟩⟩
      · have e' : ¬ p (root p i x) = root p i x := fun z => by
          rw [z] at e
          simp at e
        refine ⟨_, rfl, .inl ⟨rfl, _, SqL.of hc⟩, _, rfl, _, rfl, 1, rfl, c, _, _, _, rfl, rfl, SqL.of hc, natsV_last p i x, (hS.same sm).ix (atI_nat (tupOf_at hr)) ⟨c, _, _, rfl, rfl, hc, ?_, ⟨_, rfl⟩, ?_, same_over sm nc⟩⟩
        · rw [natsV_len]
          have := path_len0 p i x
          exact Nat.lt_of_le_of_lt (show _ ≤ 1001 by omega) (by decide)
        · rw [upd_same, path_succ, if_neg e']
          unfold natsV
          rw [List.map_append]
          rfl
      · have e' : p (root p i x) = root p i x := by
          have z : ¬ (!decide ((vi (p (root p i x))) = vi (root p i x))) = true := e
          simp at z
          omega
        refine ⟨⟨_, rfl⟩, ?_, sm⟩
        rw [path_succ, if_pos e']
        exact hc
    · rintro σ H' ⟨⟨y, rfl⟩, hc, sm⟩
      refine ⟨_, rfl, q c H' nc ?_ sm⟩
      exact hc
end
section
variable {P : Program} {w : World} {K : PySem.W.Frag} {mg : Str → Option Value} {base : Heap}
theorem ok_ren {f fS : Addr} {fd fdS : FuncData} (F : Fun K "_law_renamed" "_law_renamed" sRen f fd) (GS : FnOk P w K mg base CX0 2 fS fdS ["_law_draw", "_law_some"] (spShuf K)) (FS : Fun K "_law_shuffled" "_law_shuffled" sShuf fS fdS) (bS : Binds K fdS ["_law_draw", "_law_some"] []) (gS : mg "_law_shuffled" = some (.ref fS)) (T : Tx mg) :
    FnOk P w K mg base CX0 3 f fd ["_law_draw", "_law_parents"] (spRen K) := by
  refine F.ok scRen (fun vs H Q E h => ?_) (fun cdv A outer s H vs Q E hr h => ?_)
  · obtain ⟨d, l, a, ps, rfl, _⟩ := h
    rfl
  · obtain ⟨d, l, a, ps, rfl, hD, ne, hS, hl, hps, q⟩ := h
    refine ⟨_, pss_cons (ps_set (i := 2) scRen.nd rfl (.inl rfl) (pe_call GS hr (by rfl) gS FS.kp bS .nil pass0 (pa_cons (pv 0) (pa_cons (pe_listRg rfl (by rfl) T.list (prg_1 (by rfl) T.range (pe_callB call_len_seq (by rfl) T.len PySem.boot_len (pa_cons (pv 1) pa_nil)))) pa_nil))))
      (pss_cons (ps_set (i := 3) scRen.nd rfl (.inl rfl) (pe_op op_rep (pe_lst (pa_cons pe_int pa_nil)) (pe_callB call_len_seq (by rfl) T.len PySem.boot_len (pa_cons (pv 1) pa_nil))))
      (pss_cons (ps_for PassesOwn.never rfl (pi_range1 (by rfl) T.range (pa_cons (pe_callB call_len_seq (by rfl) T.len PySem.boot_len (pa_cons (pv 1) pa_nil)) pa_nil)) (pg_name (i := 4) scRen.nd rfl (.inl rfl))
        (pss_one (ps_asg (pe_ix ix_list (pv 2) (pe_ix ix_list (pv 1) (pv 4) (fun _ _ => rfl)) (fun _ _ => rfl)) (pg_sub (pv 3) (pe_ix ix_list (pv 2) (pv 4) (fun _ _ => rfl)) set_list))))
      (pss_one (ps_ret (pe_callTy call_tuple_of (by rfl) T.tuple (by decide +kernel) (pa_cons (pv 3) pa_nil)))))), ?_⟩
    refine ⟨_, rfl, _, rfl, a, _, rfl, .inl hS, _, rfl, ?_⟩
    rw [natsV_len]
    refine ⟨rgOk_nat hl, fun c nc => ?_⟩
    rw [rgV_nat]
    have s1 := same_new (o := .lst (natsV (List.range ps.length))) nc
    refine ⟨d, l, c, _, rfl, hD.new nc, hD.ne nc, SqL.of upd_same, by rw [natsV_len, List.length_range]; exact hl, fun nm ys H1 hy nnm nnd hnm hD1 sb1 => ?_⟩
    obtain ⟨ks, rfl, hk⟩ := shuf_nats hy
    have hkl : ks.length = ps.length := by rw [hk.length_eq, List.length_range]
    have sbA : Sb d H H1 := (Sb.of s1).trans sb1
    refine ⟨by show 1 ≤ sizeLine; decide, fun z nz => ?_⟩
    have s2 := same_new (o := .lst [V.int 0]) nz
    have sbB : Sb d H (upd H1 z (.lst [V.int 0])) := sbA.trans (Sb.of s2)
    refine ⟨_, rfl, a, _, rfl, .inl (sbB.sql ne hS), z, _, _, rfl, rfl, upd_same, by omega, by rw [natsV_len]; omega, ?_, fun g ng => ?_⟩
    · rw [natsV_len]
      show 1 * _ ≤ sizeLine
      exact Nat.le_trans (show _ ≤ 1000 by omega) (by decide)
    rw [natsV_len, show ((ps.length : Nat) : Int).toNat = ps.length by omega, rep0]
    have s3 := same_new (o := .lst (tupOf ps.length fun _ => 0)) ng
    have sbC := sbB.trans (Sb.of s3)
    have hnmC := s3 _ _ (s2 _ _ hnm)
    have hDC : DrawAt (upd (upd H1 z (.lst [V.int 0])) g (.lst (tupOf ps.length fun _ => 0))) d l := (hD1.new nz).new ng
    have ngd : g ≠ d := (hD1.new nz).ne ng
    have ngl : g ≠ l := (hD1.new nz).nel ng
    have ng0 : H g = none := sbB.free ngd ng
    have ngn : nm ≠ g := ne_of_none (s2 _ _ hnm) ng
    refine ⟨_, rfl, a, _, rfl, .inl (sbC.sql ne hS), _, rfl, by rw [natsV_len]; omega, by rw [natsV_len]; omega, ?_⟩
    rw [natsV_len]
    refine for_range (lo := 0) (n := ((ps.length : Nat) : Int).toNat) (fun i σ H' => (∃ y, σ = [some (.ref d), some (.ref a), some (.ref nm), some (.ref g), y]) ∧ H' nm = some (.lst (natsV ks)) ∧ H' g = some (.lst (tupOf ps.length (asg ks ps i))) ∧ DrawAt H' d l ∧ Sb d H H') ⟨⟨none, rfl⟩, hnmC, upd_same, hDC, sbC⟩ ?_ ?_
    · rintro i σ H' hi ⟨⟨y, rfl⟩, h1, h2, h3, h4⟩
      have hi' : i < ps.length := by omega
      have hpi := hps i hi'
      have hki : ks.getD i 0 < ps.length := by
        have hj' : i < ks.length := by omega
        rw [List.getD_eq_getElem?_getD, List.getElem?_eq_getElem hj']
        exact List.mem_range.mp (hk.mem_iff.mp (List.getElem_mem hj'))
      refine ⟨_, rfl, _, rfl, _, rfl, a, _, _, _, rfl, rfl, h4.sql ne hS, ?_, nm, _, _, _, rfl, rfl, SqL.of h1, atI_nat (natsV_at (show ps.getD i 0 < ks.length by omega)), _, rfl, _, rfl, _, rfl, nm, _, _, _, rfl, rfl, SqL.of h1, ?_, g, _, _, ks.getD i 0, rfl, rfl, h2, by rw [tupOf_len]; exact ixN_nat hki, ⟨_, rfl⟩, by rw [upd_ne ngn]; exact h1, ?_, h3.put ngd ngl, h4.over ng0⟩
      · show atI (natsV ps) (0 + (i : Int)) = _
        rw [Int.zero_add]
        exact atI_nat (natsV_at hi')
      · show atI (natsV ks) (0 + (i : Int)) = _
        rw [Int.zero_add]
        exact atI_nat (natsV_at (by omega))
      · rw [upd_same, tupOf_set]
        rfl
    · rintro σ H' ⟨⟨y, rfl⟩, h1, h2, h3, h4⟩
      refine ⟨_, rfl, g, _, rfl, .inl ⟨SqL.of h2, fun t nt => ?_⟩⟩
      have s4 := same_new (o := .tup (tupOf ps.length (asg ks ps ps.length))) nt
      obtain ⟨r, hr⟩ := renamed_fo (n := ps.length) (ps := ps) hk hps
      exact q t _ r _ (h4.free (h3.ne nt) nt) upd_same hr (h3.new nt) (h4.trans (Sb.of s4))
end
section
variable {P : Program} {w : World} {K : PySem.W.Frag} {mg : Str → Option Value} {base : Heap}
theorem ok_for {f fT fR : Addr} {fd fdT fdR : FuncData} (F : Fun K "_law_forest" "_law_forest" sFor f fd) (GT : FnOk P w K mg base CX0 1 fT fdT ["_law_draw", "_law_many"] spTake) (FT : Fun K "_law_take" "_law_take" sTake fT fdT) (bT : Binds K fdT ["_law_draw", "_law_many"] []) (gT : mg "_law_take" = some (.ref fT))
    (GR : FnOk P w K mg base CX0 3 fR fdR ["_law_draw", "_law_parents"] (spRen K)) (FR : Fun K "_law_renamed" "_law_renamed" sRen fR fdR) (bR : Binds K fdR ["_law_draw", "_law_parents"] []) (gR : mg "_law_renamed" = some (.ref fR)) (T : Tx mg) :
    FnOk P w K mg base CX0 4 f fd ["_law_draw", "_law_size_here", "_law_many"] spFor := by
  refine F.ok scFor (fun vs H Q E h => ?_) (fun cdv A outer s H vs Q E hr h => ?_)
  · obtain ⟨d, l, n, m, rfl, _⟩ := h
    rfl
  · obtain ⟨d, l, n, m, rfl, hD, hn, q⟩ := h
    have hr1 : Room 1 (A.deeper (envOfC "_law_forest" (defScope sFor) s.heap.objs.size f cdv)) := hr.mono (by decide)
    refine ⟨_, pss_cons (ps_par (i := 3) (j := 4) (by rfl) scFor.nd rfl rfl (by decide) rfl rfl (pa_cons (pe_call GT hr1 (by rfl) gT FT.kp bT .nil pass0 (pa_cons (pv 0) (pa_cons pe_int pa_nil))) (pa_cons (pe_lst pa_nil) pa_nil)) (by rfl))
      (pss_cons (ps_for PassesOwn.never rfl (pi_range1 (by rfl) T.range (pa_cons (pv 1) pa_nil)) (pg_name (i := 5) scFor.nd rfl (.inl rfl))
        (pss_cons (ps_set (i := 6) scFor.nd rfl (.inl rfl) (pe_lst (pa_cons (pe_op op_sub (pv 5) pe_int) (pa_cons pe_int (pa_cons (pe_callB (call_max2 rfl) (by rfl) T.max (by decide +kernel) (pa_cons pe_int (pa_cons (pe_op op_sub (pv 5) pe_int) pa_nil)))
            (pa_cons (pe_callB (call_max2 rfl) (by rfl) T.max (by decide +kernel) (pa_cons pe_int (pa_cons (pe_op op_sub (pe_op op_sub (pv 5) pe_int) (pe_op op_mod (pv 5) pe_int)) pa_nil))) pa_nil))))))
        (C8.pss_cut (ps_set (i := 7) scFor.nd rfl (.inl rfl) (pe_ifExp (pt_cmpR op_lt (pv 3) pe_int (nomark _)) (pe_ix ix_list (pv 6) (pv 3) (fun _ _ => rfl))
            (pe_call GT hr1 (by rfl) gT FT.kp bT .nil pass0 (pa_cons (pv 0) (pa_cons (pe_callB (call_max2 rfl) (by rfl) T.max (by decide +kernel) (pa_cons pe_int (pa_cons (pv 5) pa_nil))) pa_nil)))))
        (C8.pss_cut (ps_if (pt_cmpR op_eq (pv 3) pe_int (nomark _)) (pss_one (ps_set (i := 7) scFor.nd rfl (.inl rfl) (pe_callB (call_max2 rfl) (by rfl) T.max (by decide +kernel) (pa_cons pe_int (pa_cons (pe_op op_sub (pe_op op_sub (pv 5) pe_int) (pe_call GT hr1 (by rfl) gT FT.kp bT .nil pass0 (pa_cons (pv 0) (pa_cons pe_int pa_nil)))) pa_nil))))) pss_nil)
        (C8.pss_cut (ps_if (PW.pt (pw_or (pt_cmpR op_eq (pv 5) pe_int (nomark _)) (pw_or1 (PW.pt (pw_and (pt_cmpR op_lt (pv 5) (pv 2) (nomark _)) (pw_and1 (pt_cmpR op_eq (pe_call GT hr1 (by rfl) gT FT.kp bT .nil pass0 (pa_cons (pv 0) (pa_cons pe_int pa_nil))) pe_int (nomark _))))))))
            (pss_one (ps_set (i := 7) scFor.nd rfl (.inl rfl) (pv 5))) pss_nil)
        (pss_one (ps_expr (pe_bm PySem.F.plainAttrs_list PySem.F.slot_list_append PySem.F.type_list_append mt_append (pv 4) (pa_cons (pv 7) pa_nil)))))))))
      (pss_one (ps_ret (pe_call GR hr (by rfl) gR FR.kp bR .nil pass0 (pa_cons (pv 0) (pa_cons (pv 4) pa_nil)))))), ?_⟩
    refine ⟨_, rfl, d, l, 6, rfl, hD, by decide, by decide +kernel, fun k H1 hk hD1 sb1 => ?_⟩
    refine ⟨Nat.zero_le _, fun pa npa => ⟨_, _, rfl, ?_⟩⟩
    have npd := hD1.ne npa
    have npl := hD1.nel npa
    have np0 : H pa = none := sb1.free npd npa
    refine ⟨_, rfl, _, rfl, by omega, by omega, ?_⟩
    refine for_range (lo := 0) (n := ((n : Nat) : Int).toNat) (fun i σ H' => (∃ y1 y2 y3, σ = [some (.ref d), some (vi n), some (vi m), some (vi k), some (.ref pa), y1, y2, y3]) ∧
      (∃ ps : List Nat, H' pa = some (.lst (natsV ps)) ∧ ps.length = i ∧ ∀ j, j < i → ps.getD j 0 ≤ j) ∧ DrawAt H' d l ∧ Sb d H H') ⟨⟨none, none, none, rfl⟩, ⟨[], upd_same, rfl, fun j h => by omega⟩, hD1.new npa, sb1.over np0⟩ ?_ ?_
    · rintro i σ H2 hi ⟨⟨y1, y2, y3, rfl⟩, ⟨ps, hps, hpl, hpb⟩, hD2, sb2⟩
      have hin : i < n := by omega
      show tSeq _ _ _ [some (.ref d), some (vi n), some (vi m), some (vi k), some (.ref pa), some (.int (0 + (i : Int))), y2, y3] H2
      rw [Int.zero_add]
      -- near
      refine ⟨_, rfl, _, _, rfl, rfl, _, rfl, _, _, rfl, rfl, _, _, rfl, _, rfl, _, _, rfl, rfl, _, rfl, _, _, rfl, rfl, (by show (0 : Int) < 2; decide), _, _, rfl, rfl, _, _, rfl, by show 4 ≤ sizeLine; decide, fun nr nnr => ?_⟩
      have hD3 := hD2.new (o := .lst [V.int ((i : Int) - 1), V.int 0, V.int (if (i : Int) - 2 > 0 then (i : Int) - 2 else 0), V.int (if (i : Int) - 1 - (i : Int) % 2 > 0 then (i : Int) - 1 - (i : Int) % 2 else 0)]) nnr
      have nrd := hD2.ne nnr
      have nrl := hD2.nel nnr
      have nr0 : H nr = none := sb2.free nrd nnr
      have nrp : pa ≠ nr := ne_of_none hps nnr
      have hpsN : (upd H2 nr (.lst [V.int ((i : Int) - 1), V.int 0, V.int (if (i : Int) - 2 > 0 then (i : Int) - 2 else 0), V.int (if (i : Int) - 1 - (i : Int) % 2 > 0 then (i : Int) - 1 - (i : Int) % 2 else 0)])) pa = some (.lst (natsV ps)) := by rw [upd_ne nrp]; exact hps
      refine ⟨fun σ' H' => (∃ av : Int, σ' = [some (.ref d), some (vi n), some (vi m), some (vi k), some (.ref pa), some (.int (i : Int)), some (.ref nr), some (.int av)] ∧ (1 ≤ i → 0 ≤ av ∧ av ≤ i)) ∧ H' pa = some (.lst (natsV ps)) ∧ DrawAt H' d l ∧ Sb d H H', ?_, ?_⟩
      · -- above
        refine ⟨_, rfl, _, _, rfl, rfl, _, rfl, ite2 (fun e => ?_) (fun e => ?_)⟩
        · have hk4 : k < 4 := by
            have z : (k : Int) < 4 := of_decide_eq_true e
            omega
          have pick : ∃ av : Int, atI [V.int ((i : Int) - 1), V.int 0, V.int (if (i : Int) - 2 > 0 then (i : Int) - 2 else 0), V.int (if (i : Int) - 1 - (i : Int) % 2 > 0 then (i : Int) - 1 - (i : Int) % 2 else 0)] (k : Int) = some (.int av) ∧ (1 ≤ i → 0 ≤ av ∧ av ≤ i) := by
            match k, hk4 with
            | 0, _ => exact ⟨_, rfl, fun h => by omega⟩
            | 1, _ => exact ⟨_, rfl, fun h => by omega⟩
            | 2, _ => exact ⟨_, rfl, fun h => by split <;> omega⟩
            | 3, _ => exact ⟨_, rfl, fun h => by split <;> omega⟩
          obtain ⟨av, e1, e2⟩ := pick
          exact ⟨_, rfl, _, rfl, nr, _, _, _, rfl, rfl, SqL.of upd_same, e1, ⟨av, rfl, e2⟩, hpsN, hD3, sb2.over nr0⟩
        · refine ⟨_, rfl, _, rfl, _, _, rfl, d, l, _, rfl, hD3, ?_, ?_, fun r H4 hr4 hD4 sb4 => ⟨⟨r, rfl, ?_⟩, ?_, hD4, (sb2.over nr0).trans sb4⟩⟩
          · show (1 : Int) ≤ if (i : Int) > 1 then (i : Int) else 1
            split <;> omega
          · show (if (i : Int) > 1 then (i : Int) else 1).natAbs < 2 ^ 1000
            exact Nat.lt_of_le_of_lt (show _ ≤ 1001 by split <;> omega) (by decide +kernel)
          · intro h1
            have z : (r : Int) < if (i : Int) > 1 then (i : Int) else 1 := hr4
            split at z <;> omega
          · exact sb4 _ _ npd hpsN
      · rintro σ' H' ⟨⟨av, rfl, hav⟩, hpa, hD4, sb4⟩
        refine ⟨fun σ' H' => (∃ av : Int, σ' = [some (.ref d), some (vi n), some (vi m), some (vi k), some (.ref pa), some (.int (i : Int)), some (.ref nr), some (.int av)] ∧ (1 ≤ i → 0 ≤ av ∧ av ≤ i)) ∧ H' pa = some (.lst (natsV ps)) ∧ DrawAt H' d l ∧ Sb d H H', ?_, ?_⟩
        · refine ⟨_, rfl, rfl, _, rfl, ite2 (fun e => ?_) (fun e => ?_)⟩
          · refine ⟨_, rfl, _, _, rfl, rfl, _, rfl, d, l, 3, rfl, hD4, by decide, by decide +kernel, fun r H5 hr5 hD5 sb5 => ?_⟩
            refine ⟨_, _, rfl, rfl, _, _, rfl, ⟨_, rfl, fun h1 => ?_⟩, sb5 _ _ npd hpa, hD5, sb4.trans sb5⟩
            split <;> omega
          · exact ⟨⟨av, rfl, hav⟩, hpa, hD4, sb4⟩
        · rintro σ' H' ⟨⟨av, rfl, hav⟩, hpa, hD4, sb4⟩
          refine ⟨fun σ' H' => (∃ av : Nat, σ' = [some (.ref d), some (vi n), some (vi m), some (vi k), some (.ref pa), some (.int (i : Int)), some (.ref nr), some (vi av)] ∧ av ≤ i) ∧ H' pa = some (.lst (natsV ps)) ∧ DrawAt H' d l ∧ Sb d H H', ?_, ?_⟩
          · refine ⟨_, rfl, rfl, _, rfl, ite2 (fun e => ?_) (fun e => ?_)⟩
            · exact ⟨_, rfl, ⟨i, rfl, Nat.le_refl _⟩, hpa, hD4, sb4⟩
            · have hi1 : 1 ≤ i := by
                by_cases z : i = 0
                · subst z; exact absurd rfl e
                · omega
              have hav' := hav hi1
              refine ⟨_, rfl, _, rfl, _, _, rfl, rfl, _, rfl, ite2 (fun e2 => ?_) (fun e2 => ?_)⟩
              · refine ⟨_, rfl, d, l, 2, rfl, hD4, by decide, by decide +kernel, fun r H5 hr5 hD5 sb5 => ?_⟩
                refine ⟨rfl, _, rfl, ite2 (fun e3 => ?_) (fun e3 => ?_)⟩
                · exact ⟨_, rfl, ⟨i, rfl, Nat.le_refl _⟩, sb5 _ _ npd hpa, hD5, sb4.trans sb5⟩
                · exact ⟨⟨av.toNat, by rw [show vi av.toNat = V.int av from congrArg V.int (by omega)], by omega⟩, sb5 _ _ npd hpa, hD5, sb4.trans sb5⟩
              · exact ⟨⟨av.toNat, by rw [show vi av.toNat = V.int av from congrArg V.int (by omega)], by omega⟩, hpa, hD4, sb4⟩
          · rintro σ' H' ⟨⟨av, rfl, hav⟩, hpa, hD4, sb4⟩
            refine ⟨_, rfl, .inl ⟨rfl, _, SqL.of hpa⟩, _, rfl, pa, _, _, rfl, rfl, hpa, ?_, ⟨_, _, _, rfl⟩, ⟨ps ++ [av], ?_, ?_, ?_⟩, hD4.put npd npl, sb4.over np0⟩
            · rw [natsV_len]; exact Nat.lt_of_le_of_lt (show _ ≤ 1000 by omega) (by decide)
            · rw [upd_same]; unfold natsV; rw [List.map_append]; rfl
            · rw [List.length_append, hpl]; rfl
            · intro j hj
              rw [List.getD_eq_getElem?_getD]
              by_cases z : j < i
              · rw [List.getElem?_append_left (by omega), ← List.getD_eq_getElem?_getD]; exact hpb j z
              · have e : j = i := by omega
                subst e
                rw [List.getElem?_append_right (by omega), hpl, Nat.sub_self]
                exact hav
    · rintro σ H2 ⟨⟨y1, y2, y3, rfl⟩, ⟨ps, hps, hpl, hpb⟩, hD2, sb2⟩
      have hpl' : ps.length = n := by omega
      subst hpl'
      exact ⟨_, rfl, _, rfl, d, l, pa, ps, rfl, hD2, npd, SqL.of hps, hn, (fun j hj => hpb j (by omega)), fun t p r H3 nt ht hF hD3 sb3 => q t p r H3 (sb2.free (hD2.ne nt) nt) ht hF hD3 (sb2.trans sb3)⟩
end
section
variable {P : Program} {w : World} {K : PySem.W.Frag} {mg : Str → Option Value} {base : Heap}
theorem ok_some {f fT fS fF : Addr} {fd fdT fdS fdF : FuncData} (F : Fun K "_law_some_forest" "_law_some_forest" sSome f fd) (GT : FnOk P w K mg base CX0 1 fT fdT ["_law_draw", "_law_many"] spTake) (FT : Fun K "_law_take" "_law_take" sTake fT fdT) (bT : Binds K fdT ["_law_draw", "_law_many"] []) (gT : mg "_law_take" = some (.ref fT))
    (GS : FnOk P w K mg base CX0 3 fS fdS ["_law_draw", "_law_most"] spSize) (FS : Fun K "_law_size" "_law_size" sSize fS fdS) (bS : Binds K fdS ["_law_draw", "_law_most"] []) (gS : mg "_law_size" = some (.ref fS))
    (GF : FnOk P w K mg base CX0 4 fF fdF ["_law_draw", "_law_size_here", "_law_many"] spFor) (FF : Fun K "_law_forest" "_law_forest" sFor fF fdF) (bF : Binds K fdF ["_law_draw", "_law_size_here", "_law_many"] []) (gF : mg "_law_forest" = some (.ref fF)) :
    FnOk P w K mg base CX0 5 f fd ["_law_draw", "_law_most"] spSome := by
  refine F.ok scSome (fun vs H Q E h => ?_) (fun cdv A outer s H vs Q E hr h => ?_)
  · obtain ⟨d, l, m, rfl, _⟩ := h
    rfl
  · obtain ⟨d, l, m, rfl, hD, hm, q⟩ := h
    refine ⟨_, pss_one (ps_ret (pe_call GF hr (by rfl) gF FF.kp bF .nil pass0 (pa_cons (pv 0) (pa_cons (pe_call GS (hr.mono (by decide)) (by rfl) gS FS.kp bS .nil pass0 (pa_cons (pv 0) (pa_cons (pv 1) pa_nil))) (pa_cons (pe_op op_add pe_int (pe_call GT (hr.mono (by decide)) (by rfl) gT FT.kp bT .nil pass0 (pa_cons (pv 0) (pa_cons pe_int pa_nil)))) pa_nil))))), ?_⟩
    refine ⟨_, rfl, _, rfl, _, rfl, d, l, m, rfl, hD, hm, fun n H1 hn hD1 sb1 => ?_⟩
    refine ⟨_, rfl, d, l, 5, rfl, hD1, by decide, by decide +kernel, fun r H2 hr2 hD2 sb2 => ?_⟩
    refine ⟨_, _, rfl, rfl, d, l, n, 1 + r, ?_, hD2, by omega, fun t p rk H3 nt ht hF hD3 sb3 => q t n p rk H3 hn ((sb1.trans sb2).free (hD2.ne nt) nt) ht hF hD3 ((sb1.trans sb2).trans sb3)⟩
    show [V.ref d, vi n, V.int (1 + (r : Int))] = [V.ref d, vi n, V.int ((1 + r : Nat) : Int)]
    rw [show ((1 + r : Nat) : Int) = 1 + (r : Int) by omega]
end
section
variable {P : Program} {w : World} {K : PySem.W.Frag} {mg : Str → Option Value} {base : Heap}
theorem ok_same {f : Addr} {fd : FuncData} (F : Fun K "_law_same" "_law_same" sSame f fd) (T : TxS mg) (b : Binds K fd ["_law_found", "_law_due"] []) (g : mg "_law_same" = some (.ref f)) :
    ∀ n, FnOk P w K mg base CX0 (n + 1) f fd ["_law_found", "_law_due"] (spSame K n) := by
  intro n
  induction n with
  | zero =>
    refine F.ok scSame (fun vs H Q E h => ?_) (fun cdv A outer s H vs Q E hr h => ?_)
    · obtain ⟨v, u, d, rfl, _⟩ := h
      rfl
    · obtain ⟨v, u, d, rfl, hv, hu, hd, q⟩ := h
      refine ⟨_, pss_cons (ps_if (pt_cmpR op_isN (pv 1) pe_non (nomark _)) (pss_one (ps_ret (pe_cmpR op_isN (pv 0) pe_non (nomark _)))) pss_nil)
        (pss_cons (ps_if (pt_val (pe_callB call_isiT (by rfl) T.isinstance (by decide +kernel) (pa_cons (pv 1) (pa_cons (pe_tup (pa_cons (pe_ty (n := "list") (by rfl) T.list (by decide +kernel)) (pa_cons (pe_ty (n := "tuple") (by rfl) T.tuple (by decide +kernel)) pa_nil))) pa_nil))))
          pss_never pss_nil)
        (pss_cons (ps_if (PW.pt (pw_or
              (pt_cmpR op_ne (pe_callB call_isi (by rfl) T.isinstance (by decide +kernel) (pa_cons (pv 1) (pa_cons (pe_ty (n := "bool") (by rfl) T.bool (by decide +kernel)) pa_nil))) (pe_callB call_isi (by rfl) T.isinstance (by decide +kernel) (pa_cons (pv 0) (pa_cons (pe_ty (n := "bool") (by rfl) T.bool (by decide +kernel)) pa_nil))) (nomark _))
              (pw_or1 (pt_cmpR op_ne (pe_callB call_isi (by rfl) T.isinstance (by decide +kernel) (pa_cons (pv 1) (pa_cons (pe_ty (n := "int") (by rfl) T.int (by decide +kernel)) pa_nil))) (pe_callB call_isi (by rfl) T.isinstance (by decide +kernel) (pa_cons (pv 0) (pa_cons (pe_ty (n := "int") (by rfl) T.int (by decide +kernel)) pa_nil))) (nomark _))))) (pss_one (ps_ret pe_bl)) pss_nil)
        (pss_one (ps_ret (pe_and (pe_cmpR op_eq (pe_callB call_isi (by rfl) T.isinstance (by decide +kernel) (pa_cons (pv 1) (pa_cons (pe_ty (n := "str") (by rfl) T.str (by decide +kernel)) pa_nil))) (pe_callB call_isi (by rfl) T.isinstance (by decide +kernel) (pa_cons (pv 0) (pa_cons (pe_ty (n := "str") (by rfl) T.str (by decide +kernel)) pa_nil))) (nomark _))
          (pe_one (pe_cmpR op_eq (pv 0) (pv 1) (nomark _)))))))), ?_⟩
      cases hd with
      | non =>
        cases hv; cases hu
        exact ⟨_, rfl, rfl, _, rfl, _, rfl, rfl, q H (Same.refl H)⟩
      | bl _ x =>
        cases hv; cases hu
        refine ⟨_, rfl, rfl, _, rfl, _, rfl, by show 2 ≤ sizeLine; decide, fun tp ntp => ?_⟩
        refine ⟨_, tp, _, _, _, _, rfl, upd_same, .cons (.ty _) (.cons (.ty _) .nil), .base (.bl x), kit2 (r := false) (s := false) (by decide +kernel) (by decide +kernel), _, rfl, ?_⟩
        refine ⟨_, rfl, _, _, _, _, _, rfl, .ty _, .base (.bl x), kit_ty (r := true) (by decide +kernel), _, rfl, _, _, _, _, _, rfl, .ty _, .base (.bl x), kit_ty (r := true) (by decide +kernel), rfl, _, rfl, ?_⟩
        refine ⟨_, rfl, _, _, _, _, _, rfl, .ty _, .base (.bl x), kit_ty (r := true) (by decide +kernel), _, rfl, _, _, _, _, _, rfl, .ty _, .base (.bl x), kit_ty (r := true) (by decide +kernel), rfl, _, rfl, ?_⟩
        refine ⟨_, rfl, _, _, _, _, _, rfl, .ty _, .base (.bl x), kit_ty (r := false) (by decide +kernel), _, rfl, _, _, _, _, _, rfl, .ty _, .base (.bl x), kit_ty (r := false) (by decide +kernel), rfl, _, rfl, ?_⟩
        refine ⟨_, rfl, _, rfl, rfl, ?_⟩
        show Q (.bl (decide (V.bl x = V.bl x))) _
        rw [decide_eq_true rfl]
        exact q _ (same_new ntp)
      | int _ x =>
        cases hv; cases hu
        refine ⟨_, rfl, rfl, _, rfl, _, rfl, by show 2 ≤ sizeLine; decide, fun tp ntp => ?_⟩
        refine ⟨_, tp, _, _, _, _, rfl, upd_same, .cons (.ty _) (.cons (.ty _) .nil), .base (.int x), kit2 (r := false) (s := false) (by decide +kernel) (by decide +kernel), _, rfl, ?_⟩
        refine ⟨_, rfl, _, _, _, _, _, rfl, .ty _, .base (.int x), kit_ty (r := false) (by decide +kernel), _, rfl, _, _, _, _, _, rfl, .ty _, .base (.int x), kit_ty (r := false) (by decide +kernel), rfl, _, rfl, ?_⟩
        refine ⟨_, rfl, _, _, _, _, _, rfl, .ty _, .base (.int x), kit_ty (r := true) (by decide +kernel), _, rfl, _, _, _, _, _, rfl, .ty _, .base (.int x), kit_ty (r := true) (by decide +kernel), rfl, _, rfl, ?_⟩
        refine ⟨_, rfl, _, _, _, _, _, rfl, .ty _, .base (.int x), kit_ty (r := false) (by decide +kernel), _, rfl, _, _, _, _, _, rfl, .ty _, .base (.int x), kit_ty (r := false) (by decide +kernel), rfl, _, rfl, ?_⟩
        refine ⟨_, rfl, _, rfl, rfl, ?_⟩
        show Q (.bl (decide (V.int x = V.int x))) _
        rw [decide_eq_true rfl]
        exact q _ (same_new ntp)
      | str _ x =>
        cases hv; cases hu
        refine ⟨_, rfl, rfl, _, rfl, _, rfl, by show 2 ≤ sizeLine; decide, fun tp ntp => ?_⟩
        refine ⟨_, tp, _, _, _, _, rfl, upd_same, .cons (.ty _) (.cons (.ty _) .nil), .base (.str x), kit2 (r := false) (s := false) (by decide +kernel) (by decide +kernel), _, rfl, ?_⟩
        refine ⟨_, rfl, _, _, _, _, _, rfl, .ty _, .base (.str x), kit_ty (r := false) (by decide +kernel), _, rfl, _, _, _, _, _, rfl, .ty _, .base (.str x), kit_ty (r := false) (by decide +kernel), rfl, _, rfl, ?_⟩
        refine ⟨_, rfl, _, _, _, _, _, rfl, .ty _, .base (.str x), kit_ty (r := false) (by decide +kernel), _, rfl, _, _, _, _, _, rfl, .ty _, .base (.str x), kit_ty (r := false) (by decide +kernel), rfl, _, rfl, ?_⟩
        refine ⟨_, rfl, _, _, _, _, _, rfl, .ty _, .base (.str x), kit_ty (r := true) (by decide +kernel), _, rfl, _, _, _, _, _, rfl, .ty _, .base (.str x), kit_ty (r := true) (by decide +kernel), rfl, _, rfl, ?_⟩
        refine ⟨_, rfl, _, rfl, rfl, ?_⟩
        show Q (.bl (decide (V.str x = V.str x))) _
        rw [decide_eq_true rfl]
        exact q _ (same_new ntp)
  | succ n ih =>
    refine F.ok scSame (fun vs H Q E h => ?_) (fun cdv A outer s H vs Q E hr h => ?_)
    · obtain ⟨v, u, d, rfl, _⟩ := h
      rfl
    · obtain ⟨v, u, d, rfl, hv, hu, hd, q⟩ := h
      refine ⟨_, pss_cons (ps_if (pt_cmpR op_isN (pv 1) pe_non (nomark _)) (pss_one (ps_ret (pe_cmpR op_isN (pv 0) pe_non (nomark _)))) pss_nil)
        (pss_cons (ps_if (pt_val (pe_callB call_isiT (by rfl) T.isinstance (by decide +kernel) (pa_cons (pv 1) (pa_cons (pe_tup (pa_cons (pe_ty (n := "list") (by rfl) T.list (by decide +kernel)) (pa_cons (pe_ty (n := "tuple") (by rfl) T.tuple (by decide +kernel)) pa_nil))) pa_nil))))
          (pss_cons (ps_if (PW.pt (pw_or
              (pt_cmpR op_ne (pe_callB call_isi (by rfl) T.isinstance (by decide +kernel) (pa_cons (pv 0) (pa_cons (pe_ty (n := "list") (by rfl) T.list (by decide +kernel)) pa_nil))) (pe_callB call_isi (by rfl) T.isinstance (by decide +kernel) (pa_cons (pv 1) (pa_cons (pe_ty (n := "list") (by rfl) T.list (by decide +kernel)) pa_nil))) (nomark _))
              (pw_or1 (pt_cmpR op_ne (pe_callB call_isi (by rfl) T.isinstance (by decide +kernel) (pa_cons (pv 0) (pa_cons (pe_ty (n := "tuple") (by rfl) T.tuple (by decide +kernel)) pa_nil))) (pe_callB call_isi (by rfl) T.isinstance (by decide +kernel) (pa_cons (pv 1) (pa_cons (pe_ty (n := "tuple") (by rfl) T.tuple (by decide +kernel)) pa_nil))) (nomark _))))) (pss_one (ps_ret pe_bl)) pss_nil)
          (pss_one (ps_ret (pe_and (pe_cmpR op_eq (pe_callB call_len_seq (by rfl) T.len PySem.boot_len (pa_cons (pv 0) pa_nil)) (pe_callB call_len_seq (by rfl) T.len PySem.boot_len (pa_cons (pv 1) pa_nil)) (nomark _))
            (pe_one (pe_callB (cr_all rfl) (by rfl) T.all (by decide +kernel) (pa_cons (pe_lc (own := [("_law_one", 2), ("_law_other", 3)]) (g := gTup K 2 (gCons (gName 2) (gCons (gName 3) gNil))) (by rfl) scSame.nd (RZ.pi_zipA (by rfl) T.zip (pa_cons (pv 0) (pa_cons (pv 1) pa_nil)))
              (blkOk_by (own := [("_law_one", 2), ("_law_other", 3)]) (N := sameN) (sc := defScope sSame) (by decide +kernel)) (fun _ _ _ _ _ => pg_tup rfl (pgs_cons (pg_name (i := 2) scSame.nd rfl (.inl rfl)) (pgs_cons (pg_name (i := 3) scSame.nd rfl (.inl rfl)) pgs_nil))) (fun _ _ _ _ _ => pts_nil)
              (fun _ _ _ _ _ => pe_call ih hr (by rfl) g F.kp b .nil pass0 (pa_cons (pv 2) (pa_cons (pv 3) pa_nil)))) pa_nil))))))) pss_nil)
        (pss_cons (ps_if (PW.pt (pw_or
              (pt_cmpR op_ne (pe_callB call_isi (by rfl) T.isinstance (by decide +kernel) (pa_cons (pv 1) (pa_cons (pe_ty (n := "bool") (by rfl) T.bool (by decide +kernel)) pa_nil))) (pe_callB call_isi (by rfl) T.isinstance (by decide +kernel) (pa_cons (pv 0) (pa_cons (pe_ty (n := "bool") (by rfl) T.bool (by decide +kernel)) pa_nil))) (nomark _))
              (pw_or1 (pt_cmpR op_ne (pe_callB call_isi (by rfl) T.isinstance (by decide +kernel) (pa_cons (pv 1) (pa_cons (pe_ty (n := "int") (by rfl) T.int (by decide +kernel)) pa_nil))) (pe_callB call_isi (by rfl) T.isinstance (by decide +kernel) (pa_cons (pv 0) (pa_cons (pe_ty (n := "int") (by rfl) T.int (by decide +kernel)) pa_nil))) (nomark _))))) (pss_one (ps_ret pe_bl)) pss_nil)
        (pss_one (ps_ret (pe_and (pe_cmpR op_eq (pe_callB call_isi (by rfl) T.isinstance (by decide +kernel) (pa_cons (pv 1) (pa_cons (pe_ty (n := "str") (by rfl) T.str (by decide +kernel)) pa_nil))) (pe_callB call_isi (by rfl) T.isinstance (by decide +kernel) (pa_cons (pv 0) (pa_cons (pe_ty (n := "str") (by rfl) T.str (by decide +kernel)) pa_nil))) (nomark _))
          (pe_one (pe_cmpR op_eq (pv 0) (pv 1) (nomark _)))))))), ?_⟩
      cases hd with
      | non =>
        cases hv; cases hu
        exact ⟨_, rfl, rfl, _, rfl, _, rfl, rfl, q H (Same.refl H)⟩
      | bl _ x =>
        cases hv; cases hu
        refine ⟨_, rfl, rfl, _, rfl, _, rfl, by show 2 ≤ sizeLine; decide, fun tp ntp => ?_⟩
        refine ⟨_, tp, _, _, _, _, rfl, upd_same, .cons (.ty _) (.cons (.ty _) .nil), .base (.bl x), kit2 (r := false) (s := false) (by decide +kernel) (by decide +kernel), _, rfl, ?_⟩
        refine ⟨_, rfl, _, _, _, _, _, rfl, .ty _, .base (.bl x), kit_ty (r := true) (by decide +kernel), _, rfl, _, _, _, _, _, rfl, .ty _, .base (.bl x), kit_ty (r := true) (by decide +kernel), rfl, _, rfl, ?_⟩
        refine ⟨_, rfl, _, _, _, _, _, rfl, .ty _, .base (.bl x), kit_ty (r := true) (by decide +kernel), _, rfl, _, _, _, _, _, rfl, .ty _, .base (.bl x), kit_ty (r := true) (by decide +kernel), rfl, _, rfl, ?_⟩
        refine ⟨_, rfl, _, _, _, _, _, rfl, .ty _, .base (.bl x), kit_ty (r := false) (by decide +kernel), _, rfl, _, _, _, _, _, rfl, .ty _, .base (.bl x), kit_ty (r := false) (by decide +kernel), rfl, _, rfl, ?_⟩
        refine ⟨_, rfl, _, rfl, rfl, ?_⟩
        show Q (.bl (decide (V.bl x = V.bl x))) _
        rw [decide_eq_true rfl]
        exact q _ (same_new ntp)
      | int _ x =>
        cases hv; cases hu
        refine ⟨_, rfl, rfl, _, rfl, _, rfl, by show 2 ≤ sizeLine; decide, fun tp ntp => ?_⟩
        refine ⟨_, tp, _, _, _, _, rfl, upd_same, .cons (.ty _) (.cons (.ty _) .nil), .base (.int x), kit2 (r := false) (s := false) (by decide +kernel) (by decide +kernel), _, rfl, ?_⟩
        refine ⟨_, rfl, _, _, _, _, _, rfl, .ty _, .base (.int x), kit_ty (r := false) (by decide +kernel), _, rfl, _, _, _, _, _, rfl, .ty _, .base (.int x), kit_ty (r := false) (by decide +kernel), rfl, _, rfl, ?_⟩
        refine ⟨_, rfl, _, _, _, _, _, rfl, .ty _, .base (.int x), kit_ty (r := true) (by decide +kernel), _, rfl, _, _, _, _, _, rfl, .ty _, .base (.int x), kit_ty (r := true) (by decide +kernel), rfl, _, rfl, ?_⟩
        refine ⟨_, rfl, _, _, _, _, _, rfl, .ty _, .base (.int x), kit_ty (r := false) (by decide +kernel), _, rfl, _, _, _, _, _, rfl, .ty _, .base (.int x), kit_ty (r := false) (by decide +kernel), rfl, _, rfl, ?_⟩
        refine ⟨_, rfl, _, rfl, rfl, ?_⟩
        show Q (.bl (decide (V.int x = V.int x))) _
        rw [decide_eq_true rfl]
        exact q _ (same_new ntp)
      | str _ x =>
        cases hv; cases hu
        refine ⟨_, rfl, rfl, _, rfl, _, rfl, by show 2 ≤ sizeLine; decide, fun tp ntp => ?_⟩
        refine ⟨_, tp, _, _, _, _, rfl, upd_same, .cons (.ty _) (.cons (.ty _) .nil), .base (.str x), kit2 (r := false) (s := false) (by decide +kernel) (by decide +kernel), _, rfl, ?_⟩
        refine ⟨_, rfl, _, _, _, _, _, rfl, .ty _, .base (.str x), kit_ty (r := false) (by decide +kernel), _, rfl, _, _, _, _, _, rfl, .ty _, .base (.str x), kit_ty (r := false) (by decide +kernel), rfl, _, rfl, ?_⟩
        refine ⟨_, rfl, _, _, _, _, _, rfl, .ty _, .base (.str x), kit_ty (r := false) (by decide +kernel), _, rfl, _, _, _, _, _, rfl, .ty _, .base (.str x), kit_ty (r := false) (by decide +kernel), rfl, _, rfl, ?_⟩
        refine ⟨_, rfl, _, _, _, _, _, rfl, .ty _, .base (.str x), kit_ty (r := true) (by decide +kernel), _, rfl, _, _, _, _, _, rfl, .ty _, .base (.str x), kit_ty (r := true) (by decide +kernel), rfl, _, rfl, ?_⟩
        refine ⟨_, rfl, _, rfl, rfl, ?_⟩
        show Q (.bl (decide (V.str x = V.str x))) _
        rw [decide_eq_true rfl]
        exact q _ (same_new ntp)
      | lst hl hk =>
        cases hv with
        | @lst a xs _ sa ra =>
        cases hu with
        | @lst b ys _ sb rb =>
        refine ⟨_, rfl, rfl, _, rfl, _, rfl, by show 2 ≤ sizeLine; decide, fun tp ntp => ?_⟩
        have s1 := same_new (o := .tup [V.ty "list", V.ty "tuple"]) ntp
        have sa1 := Same.seq (s1) sa
        have sb1 := Same.seq (s1) sb
        refine ⟨_, tp, _, _, _, _, rfl, upd_same, .cons (.ty _) (.cons (.ty _) .nil), tyL sb1, kit2 (r := true) (s := false) (by decide +kernel) (by decide +kernel), _, rfl, ?_⟩
        refine ⟨_, rfl, _, _, _, _, _, rfl, .ty _, tyL sa1, kit_ty (r := true) (by decide +kernel), _, rfl, _, _, _, _, _, rfl, .ty _, tyL sb1, kit_ty (r := true) (by decide +kernel), rfl, _, rfl, ?_⟩
        refine ⟨_, rfl, _, _, _, _, _, rfl, .ty _, tyL sa1, kit_ty (r := false) (by decide +kernel), _, rfl, _, _, _, _, _, rfl, .ty _, tyL sb1, kit_ty (r := false) (by decide +kernel), rfl, _, rfl, ?_⟩
        have la := dpl_len ra
        have lb := dpl_len rb
        refine ⟨_, rfl, a, _, rfl, .inl sa1, _, rfl, b, _, rfl, .inl sb1, rfl, _, rfl, ?_⟩
        have el : decide (V.int (xs.length : Int) = V.int (ys.length : Int)) = true := decide_eq_true (by rw [la, lb])
        rw [el]
        refine ⟨_, rfl, _, rfl, a, b, xs, ys, rfl, .inl ⟨sa1, sb1, fun D nD => ?_⟩⟩
        have s2 := same_new (o := .lst []) nD
        refine ⟨fun i m H' => m = xs.length - i ∧ i ≤ xs.length ∧ H' D = some (.lst ((List.replicate i true).map V.bl)) ∧ Same (upd H tp (.tup [V.ty "list", V.ty "tuple"])) H', ⟨xs.length, rfl, Nat.zero_le _, upd_same, s2⟩, ?_⟩
        rintro i m H' ⟨rfl, hi, hD, sm⟩
        have sa2 := Same.seq (sm) sa1
        have sb2 := Same.seq (sm) sb1
        by_cases hlt : i < xs.length
        · have hlt2 : i < ys.length := by omega
          refine .inr ⟨⟨xs, ys, xs[i], ys[i], sa2, sb2, List.getElem?_eq_getElem hlt, List.getElem?_eq_getElem hlt2⟩, fun H2 => H2 D = some (.lst ((List.replicate (i + 1) true).map V.bl)) ∧ Same (upd H tp (.tup [V.ty "list", V.ty "tuple"])) H2, fun H2 z => ⟨xs.length - (i + 1), by omega, rfl, hlt, z.1, z.2⟩, ?_⟩
          rintro vv H2 ⟨tt, x, y, rfl, ntt, rfl, hx, hy⟩
          have ex := hx _ sa2
          have ey := hy _ sb2
          have s3 := same_new (o := .tup [x, y]) ntt
          refine ⟨tt, _, rfl, SqT.of upd_same, rfl, _, _, rfl, _, _, rfl, rfl, rfl, ?_⟩
          obtain ⟨d1, e1, p1⟩ := dpl_at ra ex
          obtain ⟨d2, e2, p2⟩ := dpl_at rb ey
          obtain rfl : d1 = d2 := Option.some.inj (e1.symm.trans e2)
          have s13 := (s1.trans sm).trans s3
          refine ⟨_, rfl, _, rfl, x, y, d1, rfl, dp_same s13 p1, dp_same s13 p2, hk d1 (List.mem_of_getElem? e1), fun H4 s4 => ?_⟩
          have nDt : D ≠ tt := ne_of_none hD ntt
          refine ⟨_, s4 _ _ (s3 _ _ hD), by rw [List.length_map, List.length_replicate]; exact Nat.lt_of_lt_of_le (show i < 1001 by omega) (by decide), ?_, same_over ((sm.trans s3).trans s4) nD⟩
          rw [upd_same, List.replicate_succ', List.map_append]
          rfl
        · have ei : i = xs.length := by omega
          refine .inl ⟨⟨xs, ys, sa2, sb2, .inl (by omega)⟩, D, List.replicate i true, rfl, SqL.of hD, ?_⟩
          have ea : (List.replicate i true).all id = true := List.all_eq_true.mpr fun z hz => (List.mem_replicate.mp hz).2
          rw [ea]
          exact q H' (s1.trans sm)
      | tup hl hk =>
        cases hv with
        | @tup a xs _ sa ra =>
        cases hu with
        | @tup b ys _ sb rb =>
        refine ⟨_, rfl, rfl, _, rfl, _, rfl, by show 2 ≤ sizeLine; decide, fun tp ntp => ?_⟩
        have s1 := same_new (o := .tup [V.ty "list", V.ty "tuple"]) ntp
        have sa1 := same_sqt (s1) sa
        have sb1 := same_sqt (s1) sb
        refine ⟨_, tp, _, _, _, _, rfl, upd_same, .cons (.ty _) (.cons (.ty _) .nil), tyT sb1, kit2 (r := false) (s := true) (by decide +kernel) (by decide +kernel), _, rfl, ?_⟩
        refine ⟨_, rfl, _, _, _, _, _, rfl, .ty _, tyT sa1, kit_ty (r := false) (by decide +kernel), _, rfl, _, _, _, _, _, rfl, .ty _, tyT sb1, kit_ty (r := false) (by decide +kernel), rfl, _, rfl, ?_⟩
        refine ⟨_, rfl, _, _, _, _, _, rfl, .ty _, tyT sa1, kit_ty (r := true) (by decide +kernel), _, rfl, _, _, _, _, _, rfl, .ty _, tyT sb1, kit_ty (r := true) (by decide +kernel), rfl, _, rfl, ?_⟩
        have la := dpl_len ra
        have lb := dpl_len rb
        refine ⟨_, rfl, a, _, rfl, .inr sa1, _, rfl, b, _, rfl, .inr sb1, rfl, _, rfl, ?_⟩
        have el : decide (V.int (xs.length : Int) = V.int (ys.length : Int)) = true := decide_eq_true (by rw [la, lb])
        rw [el]
        refine ⟨_, rfl, _, rfl, a, b, xs, ys, rfl, .inr ⟨sa1, sb1, fun D nD => ?_⟩⟩
        have s2 := same_new (o := .lst []) nD
        refine ⟨fun i m H' => m = xs.length - i ∧ i ≤ xs.length ∧ H' D = some (.lst ((List.replicate i true).map V.bl)) ∧ Same (upd H tp (.tup [V.ty "list", V.ty "tuple"])) H', ⟨xs.length, rfl, Nat.zero_le _, upd_same, s2⟩, ?_⟩
        rintro i m H' ⟨rfl, hi, hD, sm⟩
        have sa2 := same_sqt (sm) sa1
        have sb2 := same_sqt (sm) sb1
        by_cases hlt : i < xs.length
        · have hlt2 : i < ys.length := by omega
          refine .inr ⟨⟨xs, ys, xs[i], ys[i], sa2, sb2, List.getElem?_eq_getElem hlt, List.getElem?_eq_getElem hlt2⟩, fun H2 => H2 D = some (.lst ((List.replicate (i + 1) true).map V.bl)) ∧ Same (upd H tp (.tup [V.ty "list", V.ty "tuple"])) H2, fun H2 z => ⟨xs.length - (i + 1), by omega, rfl, hlt, z.1, z.2⟩, ?_⟩
          rintro vv H2 ⟨tt, x, y, rfl, ntt, rfl, hx, hy⟩
          have ex := hx _ sa2
          have ey := hy _ sb2
          have s3 := same_new (o := .tup [x, y]) ntt
          refine ⟨tt, _, rfl, SqT.of upd_same, rfl, _, _, rfl, _, _, rfl, rfl, rfl, ?_⟩
          obtain ⟨d1, e1, p1⟩ := dpl_at ra ex
          obtain ⟨d2, e2, p2⟩ := dpl_at rb ey
          obtain rfl : d1 = d2 := Option.some.inj (e1.symm.trans e2)
          have s13 := (s1.trans sm).trans s3
          refine ⟨_, rfl, _, rfl, x, y, d1, rfl, dp_same s13 p1, dp_same s13 p2, hk d1 (List.mem_of_getElem? e1), fun H4 s4 => ?_⟩
          have nDt : D ≠ tt := ne_of_none hD ntt
          refine ⟨_, s4 _ _ (s3 _ _ hD), by rw [List.length_map, List.length_replicate]; exact Nat.lt_of_lt_of_le (show i < 1001 by omega) (by decide), ?_, same_over ((sm.trans s3).trans s4) nD⟩
          rw [upd_same, List.replicate_succ', List.map_append]
          rfl
        · have ei : i = xs.length := by omega
          refine .inl ⟨⟨xs, ys, sa2, sb2, .inl (by omega)⟩, D, List.replicate i true, rfl, SqL.of hD, ?_⟩
          have ea : (List.replicate i true).all id = true := List.all_eq_true.mpr fun z hz => (List.mem_replicate.mp hz).2
          rw [ea]
          exact q H' (s1.trans sm)
end
end Ff

namespace Ff
open PySem PySem.Spec PyProof.Rows L2 ExX LamX
abbrev sForE : Stmt := topS 1
abbrev sMiss : Stmt := topS 2
theorem scForEI : FnScope ["self", "tag", "message"] ["self", "tag", "message"] (defScope (initS sForE)) := ⟨rfl, rfl, rfl, by decide +kernel, rfl, by decide +kernel, by decide +kernel⟩
theorem scMissI : FnScope ["self", "tag", "message"] ["self", "tag", "message"] (defScope (initS sMiss)) := ⟨rfl, rfl, rfl, by decide +kernel, rfl, by decide +kernel, by decide +kernel⟩
theorem ty_lu : typeOf (.type "LookupError") = pure (.type "type") := by kernel_rfl
theorem ty_va : typeOf (.type "ValueError") = pure (.type "type") := by kernel_rfl
theorem bo_lu : bootBuiltins "LookupError" = some (.type "LookupError") := by kernel_rfl
theorem bo_va : bootBuiltins "ValueError" = some (.type "ValueError") := by kernel_rfl
section
variable {P : Program} {w : World} {K : PySem.W.Frag} {mg : Str → Option Value} {base : Heap}
theorem ok_missI {f : Addr} {fd : FuncData} {k : Nat} (F : Fun K "__init__" "Missing.__init__" (initS sMiss) f fd) (z : mg "LookupError" = none) (v : PySem.W.findCls K (.type "LookupError") (.type "type") "__init__" = some (.val (.builtin "LookupError.__init__"))) :
    FnOk P w K mg base CX0 (k + 1) f fd ["self", "tag", "message"] (spTop K "LookupError.__new__" luTail) := by
  refine F.ok scMissI (fun vs H Q E h => ?_) (fun cdv A outer s H vs Q E hr h => ?_)
  · obtain ⟨a, C, tag, msg, rfl, _⟩ := h
    rfl
  · obtain ⟨a, C, tag, msg, rfl, ha, T, nt, q⟩ := h
    refine ⟨_, pss_cons (ps_expr (pe_bi (xB := "LookupError") PySem.F.excBase_LookupError ty_lu (by decide +kernel) bo_lu (by decide) (by decide) (by decide +kernel) (by rfl) z v (pa_cons (pv 0) (pa_cons (pv 2) pa_nil))))
      (pss_one (ps_st (nid := "LookupError.__new__") PySem.F.store_LookupError (pv 0) (pv 1))), ?_⟩
    exact ⟨_, rfl, _, rfl, a, C, _, rfl, by show 1 ≤ 1000; decide, T, ha, _, rfl, _, rfl, a, C, rfl, T, nt, .inl ⟨ha, fun dx n ne => q dx n ne⟩⟩
end
section
variable {P : Program} {w : World} {K : PySem.W.Frag} {mg : Str → Option Value} {base : Heap}
theorem ok_forEI {f : Addr} {fd : FuncData} {k : Nat} (F : Fun K "__init__" "ForestError.__init__" (initS sForE) f fd) (z : mg "ValueError" = none) (v : PySem.W.findCls K (.type "ValueError") (.type "type") "__init__" = some (.val (.builtin "ValueError.__init__"))) :
    FnOk P w K mg base CX0 (k + 1) f fd ["self", "tag", "message"] (spTop K "ValueError.__new__" vaTail) := by
  refine F.ok scForEI (fun vs H Q E h => ?_) (fun cdv A outer s H vs Q E hr h => ?_)
  · obtain ⟨a, C, tag, msg, rfl, _⟩ := h
    rfl
  · obtain ⟨a, C, tag, msg, rfl, ha, T, nt, q⟩ := h
    refine ⟨_, pss_cons (ps_expr (pe_bi (xB := "ValueError") PySem.F.excBase_ValueError ty_va (by decide +kernel) bo_va (by decide) (by decide) (by decide +kernel) (by rfl) z v (pa_cons (pv 0) (pa_cons (pv 2) pa_nil))))
      (pss_one (ps_st (nid := "ValueError.__new__") PySem.F.store_ValueError (pv 0) (pv 1))), ?_⟩
    exact ⟨_, rfl, _, rfl, a, C, _, rfl, by show 1 ≤ 1000; decide, T, ha, _, rfl, _, rfl, a, C, rfl, T, nt, .inl ⟨ha, fun dx n ne => q dx n ne⟩⟩
end
section
variable {P : Program} {w : World} {K : PySem.W.Frag} {mg : Str → Option Value} {base : Heap}
def spChkX (K : PySem.W.Frag) (C : Addr) : Sp := fun vs H Q E => ∃ (a : Addr) (xs : List V) (x : Int), vs = [.ref a, .int x] ∧ Sq K H a xs ∧ (x < 0 ∨ (xs.length : Int) ≤ x) ∧ x.natAbs.log2 < 1920 ∧ Flies H E C "node" "NoNode" (.int x)
end
abbrev sField : Stmt := topS 24
abbrev sOut : Stmt := topS 25
abbrev sErr : Stmt := topS 26
theorem scField : FnScope ["_law_e"] ["_law_e"] (defScope sField) := ⟨rfl, rfl, rfl, by decide +kernel, rfl, by decide +kernel, by decide +kernel⟩
theorem scOut : FnScope ["_law_ask", "_law_answer", "_law_tag", "_law_field_here", "_law_e"] ["_law_ask"] (defScope sOut) := ⟨rfl, rfl, rfl, by decide +kernel, rfl, by decide +kernel, by decide +kernel⟩
theorem scErr : FnScope ["_law_ask"] ["_law_ask"] (defScope sErr) := ⟨rfl, rfl, rfl, by decide +kernel, rfl, by decide +kernel, by decide +kernel⟩
/-- the handled error has a tag of the table and its field -/
structure Told (K : PySem.W.Frag) (cls : Value) (d : Option Addr) (H : Hp) (tag fld : Str) (v : V) : Prop where
  ex : ∃ C dd : Addr, cls = .ref C ∧ XfC K C ∧ PySem.W.findIn K (.ref C) "tag" = some none ∧ PySem.W.findIn K (.ref C) fld = some none ∧ d = some dd ∧ H dd = some (.xd [(fld, v), ("tag", .str tag)])
def nodeTags : List Str := ["BadParent", "Cycle", "NotRoot", "SameRoot", "RootsDiffer", "NoWay", "BadWeight", "NoNode"]
def limitTags : List Str := ["TooManyNodes", "TooLong", "TooManyForests", "TooManyWatches"]
def posTags : List Str := ["BadStep", "BadCost", "Contradiction", "ParseError"]
def sizeTags : List Str := ["SizesDiffer", "BadSize"]
def nameTags : List Str := ["BadName", "NameTaken", "NoForest"]
def wordTags : List Str := ["BadCommand", "BadCount"]
def TagOk (tag fld : Str) : Prop := (tag ∈ nodeTags ∧ fld = "node") ∨ (tag ∈ limitTags ∧ fld = "limit") ∨ (tag ∈ posTags ∧ fld = "pos") ∨ (tag ∈ sizeTags ∧ fld = "size") ∨ (tag ∈ nameTags ∧ fld = "name") ∨ (tag = "BadCommand" ∧ fld = "word") ∨ (tag = "BadCount" ∧ fld = "count") ∨ (tag = "NoWatch" ∧ fld = "number")
def spField (K : PySem.W.Frag) : SpE := fun a cls d vs H Q _ => vs = [.ref a] ∧ ∃ (tag fld : Str) (v : V), Told K cls d H tag fld v ∧ TagOk tag fld ∧ ∀ H1, Same H H1 → Q v H1
section
variable {P : Program} {w : World} {K : PySem.W.Frag} {mg : Str → Option Value} {base : Heap}
theorem ok_field {f : Addr} {fd : FuncData} {k : Nat} (F : Fun K "_law_field" "_law_field" sField f fd) : FnE P w K mg base CX0 (k + 1) f fd ["_law_e"] (spField K) := by
  obtain ⟨oc, od, kV, doc, pm, an, cdv, ct, osl, rfl, lk, hcd⟩ := F.ex
  refine fn_ofE lk hcd scField (fun a cls d vs H Q E h => ?_) fun A outer s H vs Q E p cls d hz hd hr h => ?_
  · obtain ⟨rfl, _⟩ := h
    rfl
  · obtain ⟨rfl, tag, fld, v, ⟨C, dd, ec, xf, nt, nf, ed, hdd⟩, ht, q⟩ := h
    refine ⟨_, pss_cons (ps_if (pt_cmpR (show OpR _ (compareOp .In) (rIn K false) from op_in_seq) (pe_fe (a := p.1) (oe := p.2) (by exact List.mem_cons_self) hz hd (pv 0)) (pe_tup (pa_cons pe_str (pa_cons pe_str (pa_cons pe_str (pa_cons pe_str (pa_cons pe_str (pa_cons pe_str (pa_cons pe_str (pa_cons pe_str pa_nil))))))))) (by rfl)) (pss_one (ps_ret (pe_fe (a := p.1) (oe := p.2) (by exact List.mem_cons_self) hz hd (pv 0)))) pss_nil)
      (pss_cons (ps_if (pt_cmpR (show OpR _ (compareOp .In) (rIn K false) from op_in_seq) (pe_fe (a := p.1) (oe := p.2) (by exact List.mem_cons_self) hz hd (pv 0)) (pe_tup (pa_cons pe_str (pa_cons pe_str (pa_cons pe_str (pa_cons pe_str pa_nil))))) (by rfl)) (pss_one (ps_ret (pe_fe (a := p.1) (oe := p.2) (by exact List.mem_cons_self) hz hd (pv 0)))) pss_nil)
      (pss_cons (ps_if (pt_cmpR (show OpR _ (compareOp .In) (rIn K false) from op_in_seq) (pe_fe (a := p.1) (oe := p.2) (by exact List.mem_cons_self) hz hd (pv 0)) (pe_tup (pa_cons pe_str (pa_cons pe_str (pa_cons pe_str (pa_cons pe_str pa_nil))))) (by rfl)) (pss_one (ps_ret (pe_fe (a := p.1) (oe := p.2) (by exact List.mem_cons_self) hz hd (pv 0)))) pss_nil)
      (pss_cons (ps_if (pt_cmpR (show OpR _ (compareOp .In) (rIn K false) from op_in_seq) (pe_fe (a := p.1) (oe := p.2) (by exact List.mem_cons_self) hz hd (pv 0)) (pe_tup (pa_cons pe_str (pa_cons pe_str pa_nil))) (by rfl)) (pss_one (ps_ret (pe_fe (a := p.1) (oe := p.2) (by exact List.mem_cons_self) hz hd (pv 0)))) pss_nil)
      (pss_cons (ps_if (pt_cmpR (show OpR _ (compareOp .In) (rIn K false) from op_in_seq) (pe_fe (a := p.1) (oe := p.2) (by exact List.mem_cons_self) hz hd (pv 0)) (pe_tup (pa_cons pe_str (pa_cons pe_str (pa_cons pe_str pa_nil)))) (by rfl)) (pss_one (ps_ret (pe_fe (a := p.1) (oe := p.2) (by exact List.mem_cons_self) hz hd (pv 0)))) pss_nil)
      (pss_cons (ps_if (pt_cmpR (show OpR _ (compareOp .In) (rIn K false) from op_in_seq) (pe_fe (a := p.1) (oe := p.2) (by exact List.mem_cons_self) hz hd (pv 0)) (pe_tup (pa_cons pe_str (pa_cons pe_str pa_nil))) (by rfl)) (pss_one (ps_ret (pe_ifExp (pt_cmpR op_eq (pe_fe (a := p.1) (oe := p.2) (by exact List.mem_cons_self) hz hd (pv 0)) pe_str (nomark _)) (pe_fe (a := p.1) (oe := p.2) (by exact List.mem_cons_self) hz hd (pv 0)) (pe_fe (a := p.1) (oe := p.2) (by exact List.mem_cons_self) hz hd (pv 0))))) pss_nil)
      (pss_one (ps_ret (pe_fe (a := p.1) (oe := p.2) (by exact List.mem_cons_self) hz hd (pv 0))))))))), ?_⟩
    have lt : List.lookup (Str.ofString "tag") [(fld, v), (Str.ofString "tag", V.str tag)] = some (.str tag) := by
      rcases ht with ⟨_, rfl⟩ | ⟨_, rfl⟩ | ⟨_, rfl⟩ | ⟨_, rfl⟩ | ⟨_, rfl⟩ | ⟨_, rfl⟩ | ⟨_, rfl⟩ | ⟨_, rfl⟩ <;> rfl
    have lf : List.lookup fld [(fld, v), (Str.ofString "tag", V.str tag)] = some v := by simp [List.lookup]
    rcases ht with ⟨hm, rfl⟩ | ⟨hm, rfl⟩ | ⟨hm, rfl⟩ | ⟨hm, rfl⟩ | ⟨hm, rfl⟩ | ⟨hm, rfl⟩ | ⟨hm, rfl⟩ | ⟨hm, rfl⟩
    · have e : inV (.str tag) (nodeTags.map V.str) = true ∧ True := by
        simp only [nodeTags, List.mem_cons, List.not_mem_nil, or_false] at hm
        rcases hm with z | z | z | z | z | z | z | z <;> (subst z; exact ⟨rfl, trivial⟩)
      refine ⟨_, rfl, rfl, C, dd, _, _, ec, xf, nt, ed, hdd, lt, by show 8 ≤ sizeLine; decide, fun t1 n1 => ?_⟩
      have s1 := (same_new (o := .tup (nodeTags.map V.str)) n1)
      refine ⟨t1, _, rfl, .inr (SqT.of upd_same), rfl, rfl, _, rfl, ?_⟩
      show if inV (.str tag) (nodeTags.map V.str) = true then _ else _
      rw [e.1]
      exact iteT ⟨_, rfl, rfl, C, dd, _, _, ec, xf, nf, ed, s1 _ _ hdd, lf, q _ s1⟩
    · have e : inV (.str tag) (nodeTags.map V.str) = false ∧ inV (.str tag) (limitTags.map V.str) = true ∧ True := by
        simp only [limitTags, List.mem_cons, List.not_mem_nil, or_false] at hm
        rcases hm with z | z | z | z <;> (subst z; exact ⟨rfl, rfl, trivial⟩)
      refine ⟨_, rfl, rfl, C, dd, _, _, ec, xf, nt, ed, hdd, lt, by show 8 ≤ sizeLine; decide, fun t1 n1 => ?_⟩
      have s1 := (same_new (o := .tup (nodeTags.map V.str)) n1)
      refine ⟨t1, _, rfl, .inr (SqT.of upd_same), rfl, rfl, _, rfl, ?_⟩
      show if inV (.str tag) (nodeTags.map V.str) = true then _ else _
      rw [e.1]
      refine iteF ⟨_, rfl, rfl, C, dd, _, _, ec, xf, nt, ed, s1 _ _ hdd, lt, by show 4 ≤ sizeLine; decide, fun t2 n2 => ?_⟩
      have s2 := s1.trans (same_new (o := .tup (limitTags.map V.str)) n2)
      refine ⟨t2, _, rfl, .inr (SqT.of upd_same), rfl, rfl, _, rfl, ?_⟩
      show if inV (.str tag) (limitTags.map V.str) = true then _ else _
      rw [e.2.1]
      exact iteT ⟨_, rfl, rfl, C, dd, _, _, ec, xf, nf, ed, s2 _ _ hdd, lf, q _ s2⟩
    · have e : inV (.str tag) (nodeTags.map V.str) = false ∧ inV (.str tag) (limitTags.map V.str) = false ∧ inV (.str tag) (posTags.map V.str) = true ∧ True := by
        simp only [posTags, List.mem_cons, List.not_mem_nil, or_false] at hm
        rcases hm with z | z | z | z <;> (subst z; exact ⟨rfl, rfl, rfl, trivial⟩)
      refine ⟨_, rfl, rfl, C, dd, _, _, ec, xf, nt, ed, hdd, lt, by show 8 ≤ sizeLine; decide, fun t1 n1 => ?_⟩
      have s1 := (same_new (o := .tup (nodeTags.map V.str)) n1)
      refine ⟨t1, _, rfl, .inr (SqT.of upd_same), rfl, rfl, _, rfl, ?_⟩
      show if inV (.str tag) (nodeTags.map V.str) = true then _ else _
      rw [e.1]
      refine iteF ⟨_, rfl, rfl, C, dd, _, _, ec, xf, nt, ed, s1 _ _ hdd, lt, by show 4 ≤ sizeLine; decide, fun t2 n2 => ?_⟩
      have s2 := s1.trans (same_new (o := .tup (limitTags.map V.str)) n2)
      refine ⟨t2, _, rfl, .inr (SqT.of upd_same), rfl, rfl, _, rfl, ?_⟩
      show if inV (.str tag) (limitTags.map V.str) = true then _ else _
      rw [e.2.1]
      refine iteF ⟨_, rfl, rfl, C, dd, _, _, ec, xf, nt, ed, s2 _ _ hdd, lt, by show 4 ≤ sizeLine; decide, fun t3 n3 => ?_⟩
      have s3 := s2.trans (same_new (o := .tup (posTags.map V.str)) n3)
      refine ⟨t3, _, rfl, .inr (SqT.of upd_same), rfl, rfl, _, rfl, ?_⟩
      show if inV (.str tag) (posTags.map V.str) = true then _ else _
      rw [e.2.2.1]
      exact iteT ⟨_, rfl, rfl, C, dd, _, _, ec, xf, nf, ed, s3 _ _ hdd, lf, q _ s3⟩
    · have e : inV (.str tag) (nodeTags.map V.str) = false ∧ inV (.str tag) (limitTags.map V.str) = false ∧ inV (.str tag) (posTags.map V.str) = false ∧ inV (.str tag) (sizeTags.map V.str) = true ∧ True := by
        simp only [sizeTags, List.mem_cons, List.not_mem_nil, or_false] at hm
        rcases hm with z | z <;> (subst z; exact ⟨rfl, rfl, rfl, rfl, trivial⟩)
      refine ⟨_, rfl, rfl, C, dd, _, _, ec, xf, nt, ed, hdd, lt, by show 8 ≤ sizeLine; decide, fun t1 n1 => ?_⟩
      have s1 := (same_new (o := .tup (nodeTags.map V.str)) n1)
      refine ⟨t1, _, rfl, .inr (SqT.of upd_same), rfl, rfl, _, rfl, ?_⟩
      show if inV (.str tag) (nodeTags.map V.str) = true then _ else _
      rw [e.1]
      refine iteF ⟨_, rfl, rfl, C, dd, _, _, ec, xf, nt, ed, s1 _ _ hdd, lt, by show 4 ≤ sizeLine; decide, fun t2 n2 => ?_⟩
      have s2 := s1.trans (same_new (o := .tup (limitTags.map V.str)) n2)
      refine ⟨t2, _, rfl, .inr (SqT.of upd_same), rfl, rfl, _, rfl, ?_⟩
      show if inV (.str tag) (limitTags.map V.str) = true then _ else _
      rw [e.2.1]
      refine iteF ⟨_, rfl, rfl, C, dd, _, _, ec, xf, nt, ed, s2 _ _ hdd, lt, by show 4 ≤ sizeLine; decide, fun t3 n3 => ?_⟩
      have s3 := s2.trans (same_new (o := .tup (posTags.map V.str)) n3)
      refine ⟨t3, _, rfl, .inr (SqT.of upd_same), rfl, rfl, _, rfl, ?_⟩
      show if inV (.str tag) (posTags.map V.str) = true then _ else _
      rw [e.2.2.1]
      refine iteF ⟨_, rfl, rfl, C, dd, _, _, ec, xf, nt, ed, s3 _ _ hdd, lt, by show 2 ≤ sizeLine; decide, fun t4 n4 => ?_⟩
      have s4 := s3.trans (same_new (o := .tup (sizeTags.map V.str)) n4)
      refine ⟨t4, _, rfl, .inr (SqT.of upd_same), rfl, rfl, _, rfl, ?_⟩
      show if inV (.str tag) (sizeTags.map V.str) = true then _ else _
      rw [e.2.2.2.1]
      exact iteT ⟨_, rfl, rfl, C, dd, _, _, ec, xf, nf, ed, s4 _ _ hdd, lf, q _ s4⟩
    · have e : inV (.str tag) (nodeTags.map V.str) = false ∧ inV (.str tag) (limitTags.map V.str) = false ∧ inV (.str tag) (posTags.map V.str) = false ∧ inV (.str tag) (sizeTags.map V.str) = false ∧ inV (.str tag) (nameTags.map V.str) = true ∧ True := by
        simp only [nameTags, List.mem_cons, List.not_mem_nil, or_false] at hm
        rcases hm with z | z | z <;> (subst z; exact ⟨rfl, rfl, rfl, rfl, rfl, trivial⟩)
      refine ⟨_, rfl, rfl, C, dd, _, _, ec, xf, nt, ed, hdd, lt, by show 8 ≤ sizeLine; decide, fun t1 n1 => ?_⟩
      have s1 := (same_new (o := .tup (nodeTags.map V.str)) n1)
      refine ⟨t1, _, rfl, .inr (SqT.of upd_same), rfl, rfl, _, rfl, ?_⟩
      show if inV (.str tag) (nodeTags.map V.str) = true then _ else _
      rw [e.1]
      refine iteF ⟨_, rfl, rfl, C, dd, _, _, ec, xf, nt, ed, s1 _ _ hdd, lt, by show 4 ≤ sizeLine; decide, fun t2 n2 => ?_⟩
      have s2 := s1.trans (same_new (o := .tup (limitTags.map V.str)) n2)
      refine ⟨t2, _, rfl, .inr (SqT.of upd_same), rfl, rfl, _, rfl, ?_⟩
      show if inV (.str tag) (limitTags.map V.str) = true then _ else _
      rw [e.2.1]
      refine iteF ⟨_, rfl, rfl, C, dd, _, _, ec, xf, nt, ed, s2 _ _ hdd, lt, by show 4 ≤ sizeLine; decide, fun t3 n3 => ?_⟩
      have s3 := s2.trans (same_new (o := .tup (posTags.map V.str)) n3)
      refine ⟨t3, _, rfl, .inr (SqT.of upd_same), rfl, rfl, _, rfl, ?_⟩
      show if inV (.str tag) (posTags.map V.str) = true then _ else _
      rw [e.2.2.1]
      refine iteF ⟨_, rfl, rfl, C, dd, _, _, ec, xf, nt, ed, s3 _ _ hdd, lt, by show 2 ≤ sizeLine; decide, fun t4 n4 => ?_⟩
      have s4 := s3.trans (same_new (o := .tup (sizeTags.map V.str)) n4)
      refine ⟨t4, _, rfl, .inr (SqT.of upd_same), rfl, rfl, _, rfl, ?_⟩
      show if inV (.str tag) (sizeTags.map V.str) = true then _ else _
      rw [e.2.2.2.1]
      refine iteF ⟨_, rfl, rfl, C, dd, _, _, ec, xf, nt, ed, s4 _ _ hdd, lt, by show 3 ≤ sizeLine; decide, fun t5 n5 => ?_⟩
      have s5 := s4.trans (same_new (o := .tup (nameTags.map V.str)) n5)
      refine ⟨t5, _, rfl, .inr (SqT.of upd_same), rfl, rfl, _, rfl, ?_⟩
      show if inV (.str tag) (nameTags.map V.str) = true then _ else _
      rw [e.2.2.2.2.1]
      exact iteT ⟨_, rfl, rfl, C, dd, _, _, ec, xf, nf, ed, s5 _ _ hdd, lf, q _ s5⟩
    · have e : inV (.str tag) (nodeTags.map V.str) = false ∧ inV (.str tag) (limitTags.map V.str) = false ∧ inV (.str tag) (posTags.map V.str) = false ∧ inV (.str tag) (sizeTags.map V.str) = false ∧ inV (.str tag) (nameTags.map V.str) = false ∧ inV (.str tag) (wordTags.map V.str) = true ∧ True := by subst hm; exact ⟨rfl, rfl, rfl, rfl, rfl, rfl, trivial⟩
      refine ⟨_, rfl, rfl, C, dd, _, _, ec, xf, nt, ed, hdd, lt, by show 8 ≤ sizeLine; decide, fun t1 n1 => ?_⟩
      have s1 := (same_new (o := .tup (nodeTags.map V.str)) n1)
      refine ⟨t1, _, rfl, .inr (SqT.of upd_same), rfl, rfl, _, rfl, ?_⟩
      show if inV (.str tag) (nodeTags.map V.str) = true then _ else _
      rw [e.1]
      refine iteF ⟨_, rfl, rfl, C, dd, _, _, ec, xf, nt, ed, s1 _ _ hdd, lt, by show 4 ≤ sizeLine; decide, fun t2 n2 => ?_⟩
      have s2 := s1.trans (same_new (o := .tup (limitTags.map V.str)) n2)
      refine ⟨t2, _, rfl, .inr (SqT.of upd_same), rfl, rfl, _, rfl, ?_⟩
      show if inV (.str tag) (limitTags.map V.str) = true then _ else _
      rw [e.2.1]
      refine iteF ⟨_, rfl, rfl, C, dd, _, _, ec, xf, nt, ed, s2 _ _ hdd, lt, by show 4 ≤ sizeLine; decide, fun t3 n3 => ?_⟩
      have s3 := s2.trans (same_new (o := .tup (posTags.map V.str)) n3)
      refine ⟨t3, _, rfl, .inr (SqT.of upd_same), rfl, rfl, _, rfl, ?_⟩
      show if inV (.str tag) (posTags.map V.str) = true then _ else _
      rw [e.2.2.1]
      refine iteF ⟨_, rfl, rfl, C, dd, _, _, ec, xf, nt, ed, s3 _ _ hdd, lt, by show 2 ≤ sizeLine; decide, fun t4 n4 => ?_⟩
      have s4 := s3.trans (same_new (o := .tup (sizeTags.map V.str)) n4)
      refine ⟨t4, _, rfl, .inr (SqT.of upd_same), rfl, rfl, _, rfl, ?_⟩
      show if inV (.str tag) (sizeTags.map V.str) = true then _ else _
      rw [e.2.2.2.1]
      refine iteF ⟨_, rfl, rfl, C, dd, _, _, ec, xf, nt, ed, s4 _ _ hdd, lt, by show 3 ≤ sizeLine; decide, fun t5 n5 => ?_⟩
      have s5 := s4.trans (same_new (o := .tup (nameTags.map V.str)) n5)
      refine ⟨t5, _, rfl, .inr (SqT.of upd_same), rfl, rfl, _, rfl, ?_⟩
      show if inV (.str tag) (nameTags.map V.str) = true then _ else _
      rw [e.2.2.2.2.1]
      refine iteF ⟨_, rfl, rfl, C, dd, _, _, ec, xf, nt, ed, s5 _ _ hdd, lt, by show 2 ≤ sizeLine; decide, fun t6 n6 => ?_⟩
      have s6 := s5.trans (same_new (o := .tup (wordTags.map V.str)) n6)
      refine ⟨t6, _, rfl, .inr (SqT.of upd_same), rfl, rfl, _, rfl, ?_⟩
      show if inV (.str tag) (wordTags.map V.str) = true then _ else _
      rw [e.2.2.2.2.2.1]
      refine iteT ⟨_, rfl, rfl, C, dd, _, _, ec, xf, nt, ed, s6 _ _ hdd, lt, rfl, _, rfl, ?_⟩
      subst hm
      exact iteT ⟨_, rfl, rfl, C, dd, _, _, ec, xf, nf, ed, s6 _ _ hdd, lf, q _ s6⟩
    · have e : inV (.str tag) (nodeTags.map V.str) = false ∧ inV (.str tag) (limitTags.map V.str) = false ∧ inV (.str tag) (posTags.map V.str) = false ∧ inV (.str tag) (sizeTags.map V.str) = false ∧ inV (.str tag) (nameTags.map V.str) = false ∧ inV (.str tag) (wordTags.map V.str) = true ∧ True := by subst hm; exact ⟨rfl, rfl, rfl, rfl, rfl, rfl, trivial⟩
      refine ⟨_, rfl, rfl, C, dd, _, _, ec, xf, nt, ed, hdd, lt, by show 8 ≤ sizeLine; decide, fun t1 n1 => ?_⟩
      have s1 := (same_new (o := .tup (nodeTags.map V.str)) n1)
      refine ⟨t1, _, rfl, .inr (SqT.of upd_same), rfl, rfl, _, rfl, ?_⟩
      show if inV (.str tag) (nodeTags.map V.str) = true then _ else _
      rw [e.1]
      refine iteF ⟨_, rfl, rfl, C, dd, _, _, ec, xf, nt, ed, s1 _ _ hdd, lt, by show 4 ≤ sizeLine; decide, fun t2 n2 => ?_⟩
      have s2 := s1.trans (same_new (o := .tup (limitTags.map V.str)) n2)
      refine ⟨t2, _, rfl, .inr (SqT.of upd_same), rfl, rfl, _, rfl, ?_⟩
      show if inV (.str tag) (limitTags.map V.str) = true then _ else _
      rw [e.2.1]
      refine iteF ⟨_, rfl, rfl, C, dd, _, _, ec, xf, nt, ed, s2 _ _ hdd, lt, by show 4 ≤ sizeLine; decide, fun t3 n3 => ?_⟩
      have s3 := s2.trans (same_new (o := .tup (posTags.map V.str)) n3)
      refine ⟨t3, _, rfl, .inr (SqT.of upd_same), rfl, rfl, _, rfl, ?_⟩
      show if inV (.str tag) (posTags.map V.str) = true then _ else _
      rw [e.2.2.1]
      refine iteF ⟨_, rfl, rfl, C, dd, _, _, ec, xf, nt, ed, s3 _ _ hdd, lt, by show 2 ≤ sizeLine; decide, fun t4 n4 => ?_⟩
      have s4 := s3.trans (same_new (o := .tup (sizeTags.map V.str)) n4)
      refine ⟨t4, _, rfl, .inr (SqT.of upd_same), rfl, rfl, _, rfl, ?_⟩
      show if inV (.str tag) (sizeTags.map V.str) = true then _ else _
      rw [e.2.2.2.1]
      refine iteF ⟨_, rfl, rfl, C, dd, _, _, ec, xf, nt, ed, s4 _ _ hdd, lt, by show 3 ≤ sizeLine; decide, fun t5 n5 => ?_⟩
      have s5 := s4.trans (same_new (o := .tup (nameTags.map V.str)) n5)
      refine ⟨t5, _, rfl, .inr (SqT.of upd_same), rfl, rfl, _, rfl, ?_⟩
      show if inV (.str tag) (nameTags.map V.str) = true then _ else _
      rw [e.2.2.2.2.1]
      refine iteF ⟨_, rfl, rfl, C, dd, _, _, ec, xf, nt, ed, s5 _ _ hdd, lt, by show 2 ≤ sizeLine; decide, fun t6 n6 => ?_⟩
      have s6 := s5.trans (same_new (o := .tup (wordTags.map V.str)) n6)
      refine ⟨t6, _, rfl, .inr (SqT.of upd_same), rfl, rfl, _, rfl, ?_⟩
      show if inV (.str tag) (wordTags.map V.str) = true then _ else _
      rw [e.2.2.2.2.2.1]
      refine iteT ⟨_, rfl, rfl, C, dd, _, _, ec, xf, nt, ed, s6 _ _ hdd, lt, rfl, _, rfl, ?_⟩
      subst hm
      exact iteF ⟨_, rfl, rfl, C, dd, _, _, ec, xf, nf, ed, s6 _ _ hdd, lf, q _ s6⟩
    · have e : inV (.str tag) (nodeTags.map V.str) = false ∧ inV (.str tag) (limitTags.map V.str) = false ∧ inV (.str tag) (posTags.map V.str) = false ∧ inV (.str tag) (sizeTags.map V.str) = false ∧ inV (.str tag) (nameTags.map V.str) = false ∧ inV (.str tag) (wordTags.map V.str) = false ∧ True := by subst hm; exact ⟨rfl, rfl, rfl, rfl, rfl, rfl, trivial⟩
      refine ⟨_, rfl, rfl, C, dd, _, _, ec, xf, nt, ed, hdd, lt, by show 8 ≤ sizeLine; decide, fun t1 n1 => ?_⟩
      have s1 := (same_new (o := .tup (nodeTags.map V.str)) n1)
      refine ⟨t1, _, rfl, .inr (SqT.of upd_same), rfl, rfl, _, rfl, ?_⟩
      show if inV (.str tag) (nodeTags.map V.str) = true then _ else _
      rw [e.1]
      refine iteF ⟨_, rfl, rfl, C, dd, _, _, ec, xf, nt, ed, s1 _ _ hdd, lt, by show 4 ≤ sizeLine; decide, fun t2 n2 => ?_⟩
      have s2 := s1.trans (same_new (o := .tup (limitTags.map V.str)) n2)
      refine ⟨t2, _, rfl, .inr (SqT.of upd_same), rfl, rfl, _, rfl, ?_⟩
      show if inV (.str tag) (limitTags.map V.str) = true then _ else _
      rw [e.2.1]
      refine iteF ⟨_, rfl, rfl, C, dd, _, _, ec, xf, nt, ed, s2 _ _ hdd, lt, by show 4 ≤ sizeLine; decide, fun t3 n3 => ?_⟩
      have s3 := s2.trans (same_new (o := .tup (posTags.map V.str)) n3)
      refine ⟨t3, _, rfl, .inr (SqT.of upd_same), rfl, rfl, _, rfl, ?_⟩
      show if inV (.str tag) (posTags.map V.str) = true then _ else _
      rw [e.2.2.1]
      refine iteF ⟨_, rfl, rfl, C, dd, _, _, ec, xf, nt, ed, s3 _ _ hdd, lt, by show 2 ≤ sizeLine; decide, fun t4 n4 => ?_⟩
      have s4 := s3.trans (same_new (o := .tup (sizeTags.map V.str)) n4)
      refine ⟨t4, _, rfl, .inr (SqT.of upd_same), rfl, rfl, _, rfl, ?_⟩
      show if inV (.str tag) (sizeTags.map V.str) = true then _ else _
      rw [e.2.2.2.1]
      refine iteF ⟨_, rfl, rfl, C, dd, _, _, ec, xf, nt, ed, s4 _ _ hdd, lt, by show 3 ≤ sizeLine; decide, fun t5 n5 => ?_⟩
      have s5 := s4.trans (same_new (o := .tup (nameTags.map V.str)) n5)
      refine ⟨t5, _, rfl, .inr (SqT.of upd_same), rfl, rfl, _, rfl, ?_⟩
      show if inV (.str tag) (nameTags.map V.str) = true then _ else _
      rw [e.2.2.2.2.1]
      refine iteF ⟨_, rfl, rfl, C, dd, _, _, ec, xf, nt, ed, s5 _ _ hdd, lt, by show 2 ≤ sizeLine; decide, fun t6 n6 => ?_⟩
      have s6 := s5.trans (same_new (o := .tup (wordTags.map V.str)) n6)
      refine ⟨t6, _, rfl, .inr (SqT.of upd_same), rfl, rfl, _, rfl, ?_⟩
      show if inV (.str tag) (wordTags.map V.str) = true then _ else _
      rw [e.2.2.2.2.2.1]
      exact iteF ⟨_, rfl, rfl, C, dd, _, _, ec, xf, nf, ed, s6 _ _ hdd, lf, q _ s6⟩
end
section
variable {P : Program} {w : World} {K : PySem.W.Frag} {mg : Str → Option Value} {base : Heap}
/-- what the law makes of what it asks -/
def OutE (K : PySem.W.Frag) (CF CM : Addr) (Q : Str → V → Addr → Hp → Hp → Prop) : XK := fun cls d H1 => PySem.W.exmAny K cls [.ref CF, .ref CM] = some true ∧ ∃ (tag fld : Str) (v : V), Told K cls d H1 tag fld v ∧ TagOk tag fld ∧ ∀ t H2, H1 t = none → Same H1 H2 → Q tag v t H1 H2
end
section
variable {P : Program} {w : World} {K : PySem.W.Frag} {mg : Str → Option Value} {base : Heap}
def TTout (K : PySem.W.Frag) (CF CM : Addr) (tl : XK → Hp → VK → Prop) (H : Hp) (Q : VK) : Prop := ∀ Ha, Same H Ha → ∃ (E1 : XK) (Q1 : VK), tl E1 Ha Q1 ∧
  (∀ cls d H1, E1 cls d H1 → OutE K CF CM (fun tag v t _ H2 => H2 t = some (.tup [.non, .str tag, v]) → Q (.ref t) H2) cls d H1) ∧ ∀ v H1, Q1 v H1 → ∀ t H2, H1 t = none → Same H1 H2 → H2 t = some (.tup [v, .str "", .non]) → Q (.ref t) H2
end
section
variable {P : Program} {w : World} {K : PySem.W.Frag} {mg : Str → Option Value} {base : Heap}
theorem ok_out {f fF CF CM CE : Addr} {fd fdF : FuncData} (F : Fun K "_law_outcome" "_law_outcome" sOut f fd) (b : Binds K fd ["_law_ask"] []) (G : FnE P w K mg base CX0 1 fF fdF ["_law_e"] (spField K)) (kF : PySem.W.keepIn K (.ref fF) = true) (bF : Binds K fdF ["_law_e"] []) (gF : mg "_law_field" = some (.ref fF))
    (g1 : mg "ForestError" = some (.ref CF)) (g2 : mg "Missing" = some (.ref CM)) (g3 : mg "EmptyHistory" = some (.ref CE)) : FnL P w K mg base 3 f (TTout K CF CM) := by
  refine fnL_of F scOut b fun kk ask fs s0 H0 tl ac cdv A outer s H Q hr hU ho hz ht => ?_
  refine ⟨_, pss_cons (ps_asg (pe_tup (pa_cons pe_non (pa_cons pe_str (pa_cons pe_non pa_nil)))) (pg_tup rfl (pgs_cons (pg_name (i := 1) scOut.nd rfl (.inl rfl)) (pgs_cons (pg_name (i := 2) scOut.nd rfl (.inl rfl)) (pgs_cons (pg_name (i := 3) scOut.nd rfl (.inl rfl)) pgs_nil)))))
    (pss_cons (ps_tryC (X := cxOf C8.CX0 P w K mg base _ "_law_outcome" (defScope sOut) f cdv A outer s H C8.E0) (tb := fun W D σ H => σ[0]? = some (some (.ref ask)) ∧ ∃ (E1 : XK) (Q1 : VK), tl E1 H Q1 ∧ (∀ cls d H1, E1 cls d H1 → W cls d σ H1) ∧ ∀ v H1, Q1 v H1 → D.nx (σ.set 1 (some v)) H1) rfl rfl (Wout := fun _ _ _ _ => False) takesN0 (fun W pn xe tk _ => ?_)
      (.named (i := 4) scOut.nd rfl rfl (tst_two (by rfl) g1 (by rfl) g2) (fun a oe cls d pn hz hd => pss_one (ps_parH (X := Cx.suite (cxOf C8.CX0 P w K mg base ["_law_ask", "_law_answer", "_law_tag", "_law_field_here", "_law_e"] "_law_outcome" (defScope sOut) f cdv A outer s H C8.E0) a ((a, oe) :: pn)) (i := 2) (j := 3) ?_ scOut.nd rfl rfl (by decide) rfl rfl (pa_cons (show PE (Cx.suite (cxOf C8.CX0 P w K mg base ["_law_ask", "_law_answer", "_law_tag", "_law_field_here", "_law_e"] "_law_outcome" (defScope sOut) f cdv A outer s H C8.E0) a ((a, oe) :: pn)) _ (tFe K a cls d "tag" (tVar 4)) from pe_fe (X := Cx.suite (cxOf C8.CX0 P w K mg base ["_law_ask", "_law_answer", "_law_tag", "_law_field_here", "_law_e"] "_law_outcome" (defScope sOut) f cdv A outer s H C8.E0) a ((a, oe) :: pn))  (by exact List.mem_cons_self) hz.zc hd (pv 4)) (pa_cons (pe_callE (X := Cx.suite (cxOf C8.CX0 P w K mg base ["_law_ask", "_law_answer", "_law_tag", "_law_field_here", "_law_e"] "_law_outcome" (defScope sOut) f cdv A outer s H C8.E0) a ((a, oe) :: pn))  G ?_ (by exact List.mem_cons_self) hz.zc hd (by rfl) gF kF bF pass0 (pa_cons (pv 4) pa_nil)) pa_nil)) (by rfl)))
      (.named (i := 4) scOut.nd rfl rfl (tst_one (by rfl) g3) (fun a oe cls d pn hz hd => pss_one ps_never) .nil)))
    (pss_one (ps_ret (pe_tup (pa_cons (pv 1) (pa_cons (pv 2) (pa_cons (pv 3) pa_nil))))))), ?_⟩
  · exact pss_one (ps_set (i := 1) scOut.nd rfl (.inl rfl) (pe_do (Z := (cxOf C8.CX0 P w K mg base ["_law_ask", "_law_answer", "_law_tag", "_law_field_here", "_law_e"] "_law_outcome" (defScope sOut) f cdv A outer s H C8.E0).tr pn xe) (i := 0) ac (hr.mono (by omega)) rfl hU ho tk rfl (.inl rfl)))
  · obtain ⟨vs, hv⟩ := hd
    exact ⟨(a, oe), ⟨rfl, vs, hv, hz.2.2 vs hv⟩, List.mem_cons_self⟩
  · exact L2H.RoomH.mono (k := kk + 2) ⟨hr.dp, hr.un⟩ (by omega)
  · refine ⟨by show 3 ≤ sizeLine; decide, fun t0 n0 => ?_⟩
    have s1 := same_new (o := .tup [.non, .str "", .non]) n0
    refine ⟨t0, _, rfl, SqT.of upd_same, rfl, _, _, rfl, _, _, rfl, _, _, rfl, rfl, ?_⟩
    obtain ⟨E1, Q1, h1, h2, h3⟩ := ht _ s1
    refine ⟨rfl, E1, Q1, h1, fun cls d H1 h => ?_, fun v H1 h => ?_⟩
    · obtain ⟨hm, tag, fld, v, td, tg, q⟩ := h2 cls d H1 h
      obtain ⟨C, dd, ec, xf, nt, nf, ed, hdd⟩ := id td.ex
      have lt : List.lookup (Str.ofString "tag") [(fld, v), (Str.ofString "tag", V.str tag)] = some (.str tag) := by
        rcases tg with ⟨_, rfl⟩ | ⟨_, rfl⟩ | ⟨_, rfl⟩ | ⟨_, rfl⟩ | ⟨_, rfl⟩ | ⟨_, rfl⟩ | ⟨_, rfl⟩ | ⟨_, rfl⟩ <;> rfl
      refine ⟨true, hm, fun _ a na => ?_, fun z => by cases z⟩
      refine ⟨_, rfl, rfl, C, dd, _, _, ec, xf, nt, ed, hdd, lt, _, rfl, rfl, tag, fld, v, td, tg, fun H2 s2 => ⟨_, _, rfl, ?_⟩⟩
      exact ⟨_, rfl, _, rfl, _, rfl, by show 3 ≤ sizeLine; decide, fun t n => q t _ (sm_none s2 n) (s2.trans (same_new n)) upd_same⟩
    · exact ⟨_, rfl, _, rfl, _, rfl, by show 3 ≤ sizeLine; decide, fun t n => h3 v H1 h t _ n (same_new n) upd_same⟩
end
section
variable {P : Program} {w : World} {K : PySem.W.Frag} {mg : Str → Option Value} {base : Heap}
/-- the same without the answer -/
def TTerr (K : PySem.W.Frag) (CF CM : Addr) (tl : XK → Hp → VK → Prop) (H : Hp) (Q : VK) : Prop := ∀ Ha, Same H Ha → ∃ (E1 : XK) (Q1 : VK), tl E1 Ha Q1 ∧
  (∀ cls d H1, E1 cls d H1 → OutE K CF CM (fun tag v t _ H2 => H2 t = some (.tup [.str tag, v]) → Q (.ref t) H2) cls d H1) ∧ ∀ v H1, Q1 v H1 → ∀ t H2, H1 t = none → Same H1 H2 → H2 t = some (.tup [.str "", .non]) → Q (.ref t) H2
end
section
variable {P : Program} {w : World} {K : PySem.W.Frag} {mg : Str → Option Value} {base : Heap}
theorem cut3 (a b c : V) : cutV [a, b, c] (some 1) none = [b, c] := rfl
end
section
variable {P : Program} {w : World} {K : PySem.W.Frag} {mg : Str → Option Value} {base : Heap}
theorem ok_err {f fO CF CM : Addr} {fd : FuncData} (F : Fun K "_law_error" "_law_error" sErr f fd) (b : Binds K fd ["_law_ask"] []) (G : FnL P w K mg base 3 fO (TTout K CF CM)) (kO : PySem.W.keepIn K (.ref fO) = true) (gO : mg "_law_outcome" = some (.ref fO)) : FnL P w K mg base 4 f (TTerr K CF CM) := by
  refine fnL_of F scErr b fun kk ask fs s0 H0 tl ac cdv A outer s H Q hr hU ho hz ht => ?_
  refine ⟨_, pss_one (ps_ret (pe_slice sl_tup (pe_hand (Z := cxOf C8.CX0 P w K mg base ["_law_ask"] "_law_error" (defScope sErr) f cdv A outer s H C8.E0) (i := 0) G ac hr rfl hU ?_ (by rfl) gO kO rfl (.inl rfl) ?_ hz) (po_some pe_int) po_none)), ?_⟩
  · intro c hc
    rcases List.mem_cons.mp (show c ∈ s.heap.objs.size :: frs outer from hc) with z | z
    · exact .inr (z ▸ hz)
    · exact ho c z
  · exact fun c hc => List.mem_cons_of_mem _ hc
  · refine ⟨rfl, fun Ha sa => ?_⟩
    obtain ⟨E1, Q1, h1, h2, h3⟩ := ht Ha sa
    refine ⟨E1, Q1, h1, fun cls d H1 h => ?_, fun v H1 h t H2 n s2 e => ?_⟩
    · obtain ⟨hm, tag, fld, v, td, tg, q⟩ := h2 cls d H1 h
      refine ⟨hm, tag, fld, v, td, tg, fun t H2 n s2 e => ?_⟩
      refine ⟨_, rfl, t, _, rfl, SqT.of e, by simp [HT.sIx], fun t2 n2 => ?_⟩
      rw [cut3]
      exact q t2 _ (sm_none s2 n2) (s2.trans (same_new n2)) upd_same
    · refine ⟨_, rfl, t, _, rfl, SqT.of e, by simp [HT.sIx], fun t2 n2 => ?_⟩
      rw [cut3]
      exact h3 v H1 h t2 _ (sm_none s2 n2) (s2.trans (same_new n2)) upd_same
end
/-- an integer that is no node -/
def spStrange : Sp := fun vs H Q _ => ∃ (d l : Addr) (n : Nat), vs = [.ref d, vi n] ∧ DrawAt H d l ∧ n ≤ 1000 ∧ ∀ (z : Int) H', (z < 0 ∨ (n : Int) ≤ z) → -2000000000 ≤ z → z ≤ 2000000000 → DrawAt H' d l → Sb d H H' → Q (.int z) H'
section
variable {P : Program} {w : World} {K : PySem.W.Frag} {mg : Str → Option Value} {base : Heap}
def spNumX (C : Addr) : Sp := fun vs H Q E => ∃ (n x : Int), vs = [.int n, .int x] ∧ (x < 0 ∨ n ≤ x) ∧ x.natAbs.log2 < 1920 ∧ Flies H E C "node" "NoNode" (.int x)
end
def spLawT (K : PySem.W.Frag) (PT : Addr) : Sp := fun vs H Q _ => ∃ (a : Addr) (ns : List Int), vs = [.ref a] ∧ H PT = some (.tbl #[]) ∧ SqL K H a (ns.map V.int) ∧ ns.length ≤ 63 ∧ ∀ H1, Q (.bl true) H1
/-- a second find of the same node -/
theorem again_same {n : Nat} {p r : Nat → Nat} (F : Fo n p r) {x : Nat} (hx : x < n) (v : Nat) (hv : v < n) : fnd n (fnd n p x) x v = fnd n p x v := by
  have h := behind_same F (l := [x]) (m := [x, x]) (by intro y hy; rw [List.mem_singleton.mp hy]; exact hx) (fun y => by simp) v hv
  exact h
theorem again_cost {n : Nat} {p r : Nat → Nat} (F : Fo n p r) {x : Nat} (hx : x < n) : (ups (fnd n p x) n x).length = low p x := by
  have h1 := cost_total F [x] (by intro y hy; rw [List.mem_singleton.mp hy]; exact hx)
  have h2 := cost_total F [x, x] (by intro y hy; simp at hy; rw [hy]; exact hx)
  have e : (List.range n).countP (fun v => deep p v && markB n p [x, x] v) = (List.range n).countP (fun v => deep p v && markB n p [x] v) := by
    refine List.countP_congr fun v _ => ?_
    rw [mark_same (n := n) (p := p) (l := [x, x]) (m := [x]) (fun y => by simp) v]
  rw [e] at h2
  simp only [costs, List.sum_cons, List.sum_nil, List.map_cons, List.map_nil] at h1 h2
  omega
theorem low_min {n : Nat} {p r : Nat → Nat} (F : Fo n p r) {x : Nat} (hx : x < n) : (if ((ups p n x).length : Int) < 1 then ((ups p n x).length : Int) else 1) = ((low p x : Nat) : Int) := by
  unfold low
  by_cases e : p x = x
  · rw [if_pos e, ups_of e]; simp
  · rw [if_neg e, ups_n F hx e, List.length_cons, if_neg (by omega)]; rfl
/-- all but tables stays, but what stands at d -/
theorem tabs_sb {T : List (Addr × Str)} {H H1 : Hp} {d : Addr} (t : Tabs T H) (s : Sb d H H1) (nd : ∃ xs, H d = some (.lst xs)) : Tabs T H1 := by
  obtain ⟨xs, hd⟩ := nd
  intro p hp
  obtain ⟨ps, h1, h2, h3⟩ := t p hp
  refine ⟨ps, s _ _ (ne_of h1 hd (by intro z; cases z)) h1, h2, fun pos cv hc => ?_⟩
  obtain ⟨c, e1, e2⟩ := h3 pos cv hc
  exact ⟨c, e1, s _ _ (ne_of e2 hd (by unfold CodeO; intro z; cases z)) e2⟩
theorem DrawAt.lst {H : Hp} {d l : Addr} (D : DrawAt H d l) : ∃ xs, H d = some (.lst xs) := by
  obtain ⟨ns, i, j, k, h, _⟩ := D
  exact ⟨_, h⟩
theorem DrawAt.ext {H H1 : Hp} {d l : Addr} (D : DrawAt H d l) (s : ExtN H H1) : DrawAt H1 d l := by
  obtain ⟨ns, i, j, k, h, h2, r⟩ := D
  exact ⟨ns, i, j, k, s _ _ h (by intro ps z; cases z), s _ _ h2 (by intro ps z; cases z), r⟩
theorem shaped_err {x : Str} (h : PyData.strOk x = true) (z : Int) : SeqAt.shaped (.tuple [.str x, .int z]) = true := by
  unfold SeqAt.shaped
  simp [PyData.canLay0, PyData.canLayAll0, PyData.depth, PyData.depthAll, h]
theorem bits_ok {z : Int} (h1 : -2000000000 ≤ z) (h2 : z ≤ 2000000000) : z.natAbs.log2 < 1920 := by
  by_cases h0 : z.natAbs = 0
  · rw [h0]; decide
  · refine (Nat.log2_lt h0).mpr (Nat.lt_of_le_of_lt (show z.natAbs ≤ 2000000000 by omega) ?_)
    exact Nat.lt_of_lt_of_le (show 2000000000 < 2 ^ 31 by decide) (Nat.pow_le_pow_right (by decide) (by decide))
/-- what a find answers, as data -/
def dFind (n : Nat) (q : Nat → Nat) (c : Nat) : PyData := .tuple [.tuple ((intsOf n q).map PyData.int), .int (c : Int)]
theorem dp_find {K : PySem.W.Frag} {H : Hp} {t g : Addr} {n c : Nat} {q : Nat → Nat} (h1 : H t = some (.tup [.ref g, vi c])) (h2 : SqT K H g (tupOf n q)) : Dp K H (.ref t) (dFind n q c) := by
  rw [tupOf_ints] at h2
  exact .tup (SqT.of h1) (.cons (.tup h2 (dpAll_ints _)) (.cons (.int _) .nil))
theorem sm_forest {n k : Nat} (h : n ≤ 1000) (q : Nat → Nat) : Sm (k + 1) (.tuple ((intsOf n q).map PyData.int)) := by
  refine .tup (by rw [List.length_map]; unfold intsOf; rw [List.length_map, List.length_range]; omega) fun d hd => ?_
  obtain ⟨i, _, e⟩ := List.mem_map.mp hd
  rw [← e]; exact .int _ _
theorem sm_find {n k : Nat} (h : n ≤ 1000) (q : Nat → Nat) (c : Nat) : Sm (k + 2) (dFind n q c) := by
  refine .tup (by show 2 ≤ 1000; decide) fun d hd => ?_
  rcases List.mem_cons.mp hd with z | z
  · rw [z]; exact sm_forest h q
  · rw [List.mem_singleton.mp z]; exact .int _ _
theorem cut_take (zs : List V) (j : Nat) : cutV zs none (some (j : Int)) = zs.take j := by
  unfold cutV
  rw [HT.sIx_none, HT.sIx_nat, List.drop_zero, Nat.sub_zero]
  by_cases h : j ≤ zs.length
  · rw [Nat.min_eq_left h]
  · rw [Nat.min_eq_right (by omega), List.take_of_length_le (Nat.le_refl _), List.take_of_length_le (by omega)]
theorem cut_drop (zs : List V) (j : Nat) : cutV zs (some (j : Int)) none = zs.drop j := by
  unfold cutV
  rw [HT.sIx_none, HT.sIx_nat]
  by_cases h : j ≤ zs.length
  · rw [Nat.min_eq_left h]
    exact List.take_of_length_le (by rw [List.length_drop]; omega)
  · rw [Nat.min_eq_right (by omega), List.drop_eq_nil_of_le (Nat.le_refl _), List.drop_eq_nil_of_le (by omega)]
    simp
/-- what a list of finds answers, as data -/
def dFindAll (n : Nat) (q : Nat → Nat) (cs : List Nat) : PyData := .tuple [.tuple ((intsOf n q).map PyData.int), .list ((cs.map fun n : Nat => (n : Int)).map PyData.int)]
theorem dp_nats {K : PySem.W.Frag} {H : Hp} {a : Addr} {l : List Nat} (h : SqL K H a (natsV l)) : Dp K H (.ref a) (.list ((l.map fun n : Nat => (n : Int)).map PyData.int)) := by
  rw [natsI] at h
  exact .lst h (dpAll_ints _)
theorem dp_forest {K : PySem.W.Frag} {H : Hp} {a : Addr} {n : Nat} {p : Nat → Nat} (h : SqT K H a (tupOf n p)) : Dp K H (.ref a) (.tuple ((intsOf n p).map PyData.int)) := by
  rw [tupOf_ints] at h
  exact .tup h (dpAll_ints _)
theorem dp_findAll {K : PySem.W.Frag} {H : Hp} {t g c : Addr} {n : Nat} {q : Nat → Nat} {cs : List Nat} (h1 : H t = some (.tup [.ref g, .ref c])) (h2 : SqT K H g (tupOf n q)) (h3 : SqL K H c (natsV cs)) : Dp K H (.ref t) (dFindAll n q cs) :=
  .tup (SqT.of h1) (.cons (dp_forest h2) (.cons (dp_nats h3) .nil))
theorem sm_ints {k : Nat} {l : List Int} (h : l.length ≤ 1000) : Sm (k + 1) (.list (l.map PyData.int)) := by
  refine .lst (by rw [List.length_map]; exact h) fun d hd => ?_
  obtain ⟨i, _, e⟩ := List.mem_map.mp hd
  rw [← e]; exact .int _ _
theorem sm_findAll {n k : Nat} (h : n ≤ 1000) (q : Nat → Nat) {cs : List Nat} (hc : cs.length ≤ 1000) : Sm (k + 2) (dFindAll n q cs) := by
  refine .tup (by show 2 ≤ 1000; decide) fun d hd => ?_
  rcases List.mem_cons.mp hd with z | z
  · rw [z]; exact sm_forest h q
  · rw [List.mem_singleton.mp z]; exact sm_ints (by rw [List.length_map]; exact hc)
/-- a list that does not stand in the draws' cell -/
theorem DrawAt.nel2 {H : Hp} {d l a : Addr} {xs : List V} (D : DrawAt H d l) (h : H a = some (.lst xs)) (n : a ≠ d) : True := trivial
/-- find_all: all nodes of a list or tuple found, or the first that is none raised -/
def spFindAllB (K : PySem.W.Frag) (C : Addr) : Sp := fun vs H Q E => ∃ (k : Bool) (a b : Addr) (n : Nat) (p r : Nat → Nat) (xs : List Int) (good : List Nat), vs = [.ref a, .ref b] ∧ SqT K H a (tupOf n p) ∧ Kd k K H b (xs.map V.int) ∧ n ≤ 1000 ∧ xs.length ≤ 1000 ∧ Fo n p r ∧
  NodesEnd xs n good (∀ (t g c : Addr) H', H t = none → H c = none → (g = a ∨ H g = none) → H' t = some (.tup [.ref g, .ref c]) → SqT K H' g (tupOf n (fndAll n good p)) → H' c = some (.lst (natsV (costs n good p))) → Same H H' → Q (.ref t) H')
    (fun z => Flies H E C "node" "NoNode" (.int z))
section
variable {P : Program} {w : World} {K : PySem.W.Frag} {mg : Str → Option Value} {base : Heap}
theorem flies_same {H H1 : Hp} {E : XK} {C : Addr} {fld tag : Str} {v : V} (h : Flies H E C fld tag v) (s : Same H H1) : Flies H1 E C fld tag v := fun d H2 n e s2 => h d H2 (sm_none s n) e (s.trans s2)
end
section
variable {P : Program} {w : World} {K : PySem.W.Frag} {mg : Str → Option Value} {base : Heap}
theorem same_ext {H H1 : Hp} (s : Same H H1) : ExtN H H1 := fun b o e _ => s b o e
end
section
variable {P : Program} {w : World} {K : PySem.W.Frag} {mg : Str → Option Value} {base : Heap}
/-- what is asked raises: the law's reader answers with the tag and the field -/
theorem ask_no {X : Cx} {kk : Nat} {D : Lam X kk} {f C CF CM : Addr} {σ : L2.St} {H : Hp} {Q : VK} {x fld tag : Str} {v : V} {lv : Nat} (R : Raisable P w K mg base lv x C fld tag) (hex : PySem.W.exmAny K (.ref C) [.ref CF, .ref CM] = some true) (tg : TagOk tag fld) (hA : D.At f H)
    (hc : ∀ Ha E, Same H Ha → Flies Ha E C fld tag v → D.tb E σ Ha fun _ _ => False) (q : ∀ t H2, H t = none → Same H H2 → H2 t = some (.tup [.str tag, v]) → Q (.ref t) H2) : TTerr K CF CM (D.does f σ) H Q := by
  intro Ha sa
  refine ⟨fun cls d H1 => cls = .ref C ∧ ∃ dd, d = some dd ∧ H1 dd = some (.xd [(fld, v), ("tag", .str tag)]) ∧ Same Ha H1, fun _ _ => False, ⟨D.same hA (same_ext sa), hc Ha _ sa fun dd H1 n1 h1 s1 => ⟨rfl, dd, rfl, h1, s1⟩⟩, ?_, fun _ _ h => h.elim⟩
  rintro cls d H1 ⟨rfl, dd, rfl, hdd, s1⟩
  exact ⟨hex, tag, fld, v, ⟨C, dd, rfl, R.xf, R.nt, R.nf, rfl, hdd⟩, tg, fun t H2 n s2 e => q t H2 (sm_none (sa.trans s1) n) ((sa.trans s1).trans s2) e⟩
end
section
variable {P : Program} {w : World} {K : PySem.W.Frag} {mg : Str → Option Value} {base : Heap}
theorem wipe_one {σ : L2.St} {i : Nat} {x : Option V} : wipe ((wipe σ [i]).set i x) [i] = wipe σ [i] := by
  show ((σ.set i none).set i x).set i none = σ.set i none
  rw [List.set_set, List.set_set]
end
section
variable {P : Program} {w : World} {K : PySem.W.Frag} {mg : Str → Option Value} {base : Heap}
/-- a list of lambdas, each raising the same -/
theorem asks_no {X : Cx} {kk j lv : Nat} (σ : L2.St) {H : Hp} {C CF CM la D : Addr} (fs : List Addr) {Qd : Hp → Prop} {x fld tag : Str} {v : V} (R : Raisable P w K mg base lv x C fld tag) (hex : PySem.W.exmAny K (.ref C) [.ref CF, .ref CM] = some true) (tg : TagOk tag fld) (hl : H la = some (.lst (fs.map V.ref))) (nD : H D = none) (hj : j < σ.length) (hm : fs.length ≤ 1000)
    (hf : ∀ f ∈ fs, ∃ L : Lam X kk, L.At f H ∧ ∀ Ha E, Same H Ha → Flies Ha E C fld tag v → L.tb E σ Ha fun _ _ => False)
    (q : ∀ (ts : List Addr) H1, ts.length = fs.length → H1 D = some (.lst (ts.map V.ref)) → (∀ t ∈ ts, H1 t = some (.tup [.str tag, v])) → Same H H1 → Qd H1) :
    ∃ W : Nat → Nat → Hp → Prop, (∃ m, W 0 m (upd H D (.lst []))) ∧ ∀ i m H, W i m H →
      ((Itl K la).stop i H ∧ Qd H) ∨ ((Itl K la).go i H ∧ ∃ Nx : Hp → Prop, (∀ H', Nx H' → ∃ m', m' < m ∧ W (i + 1) m' H') ∧ ∀ x H', (Itl K la).yld i H x H' → gName j x (wipe σ [j]) H' fun σ2 H2 => wipe σ2 [j] = wipe σ [j] ∧ tYes σ2 H2 fun b H3 =>
        if b = true then (∃ (f : Addr) (L : Lam X kk), σ2[j]? = some (some (.ref f)) ∧ TTerr K CF CM (L.does f σ) H3 fun y H4 => ∃ acc, H4 D = some (.lst acc) ∧ acc.length < sizeLine ∧ Nx (upd H4 D (.lst (acc ++ [y])))) else Nx H3) := by
  refine lc_list (K := K) (a := la) (xs := fs.map V.ref) (g := gName j) (tt := tYes) (te := fun σ1 H1 Q => ∃ (f : Addr) (D : Lam X kk), σ1[j]? = some (some (.ref f)) ∧ TTerr K CF CM (D.does f σ) H1 Q) (vs := [j]) (σ := σ) (Qd := Qd) (fun i H1 => ∃ ts : List Addr, ts.length = i ∧ H1 D = some (.lst (ts.map V.ref)) ∧ (∀ t ∈ ts, H1 t = some (.tup [.str tag, v])) ∧ Same H H1)
    ⟨[], rfl, upd_same, by simp, same_new nD⟩ (fun i H1 _ h => h.elim fun ts h => SqL.of (h.2.2.2 _ _ hl)) ?_ ?_
  · rintro k y H1 hy ⟨ts, hlen, hD, hts, s1⟩
    rw [List.getElem?_map] at hy
    obtain ⟨f, hff, rfl⟩ := Option.map_eq_some_iff.mp hy
    obtain ⟨L, hA, hc⟩ := hf f (List.mem_of_getElem? hff)
    have hk : k < fs.length := (List.getElem?_eq_some_iff.mp hff).1
    refine ⟨wipe_one, f, L, List.getElem?_set_self (by rw [wipe_length]; exact hj), ?_⟩
    refine ask_no R hex tg (L.same hA (same_ext s1)) (fun Ha E sa fl => hc Ha E (s1.trans sa) fl) fun t H2 nt s2 e => ?_
    have nDt : t ≠ D := (ne_of_none hD nt).symm
    refine ⟨_, s2 _ _ hD, by rw [List.length_map, hlen]; exact Nat.lt_of_le_of_lt (show k ≤ 1000 by omega) (by decide), ts ++ [t], by rw [List.length_append, hlen]; rfl, by rw [upd_same, List.map_append]; rfl, fun t2 h2 => ?_, same_over (s1.trans s2) nD⟩
    rcases List.mem_append.mp h2 with h2 | h2
    · have e2 := hts t2 h2
      rw [upd_ne (ne_of e2 hD (by intro z; cases z))]
      exact s2 _ _ e2
    · rw [List.mem_singleton.mp h2, upd_ne nDt]
      exact e
  · rintro H1 ⟨ts, hlen, hD, hts, s1⟩
    rw [List.length_map] at hlen
    exact q ts H1 hlen hD hts s1
end
section
variable {P : Program} {w : World} {K : PySem.W.Frag} {mg : Str → Option Value} {base : Heap}
/-- such answers as data -/
def dErrs (m : Nat) (tag : Str) (z : Int) : PyData := .list (List.replicate m (.tuple [.str tag, .int z]))
end
section
variable {P : Program} {w : World} {K : PySem.W.Frag} {mg : Str → Option Value} {base : Heap}
theorem dp_errs {H : Hp} {tag : Str} {z : Int} : ∀ {ts : List Addr}, (∀ t ∈ ts, H t = some (.tup [.str tag, .int z])) → DpAll K H (ts.map V.ref) (List.replicate ts.length (.tuple [.str tag, .int z]))
  | [], _ => .nil
  | t :: r, h => .cons (.tup (SqT.of (h t List.mem_cons_self)) (.cons (.str _) (.cons (.int _) .nil))) (dp_errs fun u hu => h u (List.mem_cons_of_mem _ hu))
end
section
variable {P : Program} {w : World} {K : PySem.W.Frag} {mg : Str → Option Value} {base : Heap}
theorem shaped_errs {m : Nat} {tag : Str} (h : PyData.strOk tag = true) (hm : m ≤ 4) (z : Int) : SeqAt.shaped (dErrs m tag z) = true := by
  unfold SeqAt.shaped dErrs
  match m, hm with
  | 0, _ => simp [List.replicate, PyData.canLay0, PyData.canLayAll0, PyData.depth, PyData.depthAll, h]
  | 1, _ => simp [List.replicate, PyData.canLay0, PyData.canLayAll0, PyData.depth, PyData.depthAll, h]
  | 2, _ => simp [List.replicate, PyData.canLay0, PyData.canLayAll0, PyData.depth, PyData.depthAll, h]
  | 3, _ => simp [List.replicate, PyData.canLay0, PyData.canLayAll0, PyData.depth, PyData.depthAll, h]
  | 4, _ => simp [List.replicate, PyData.canLay0, PyData.canLayAll0, PyData.depth, PyData.depthAll, h]
end
abbrev linkN : List Str := ["forest", "child", "above", "parents"]
abbrev uniteN : List Str := ["forest", "one", "other", "found", "costs", "child", "above"]
/-- what check_root answers -/
def spChkRB (K : PySem.W.Frag) (CN CR : Addr) : Sp := fun vs H Q E => ∃ (a : Addr) (n : Nat) (p : Nat → Nat) (x : Int), vs = [.ref a, .int x] ∧ Sq K H a (tupOf n p) ∧ x.natAbs.log2 < 1920 ∧
  ((chkE n p x = none ∧ ∀ H', Same H H' → Q .non H') ∨ (chkE n p x = some false ∧ Flies H E CN "node" "NoNode" (.int x)) ∨ (chkE n p x = some true ∧ Flies H E CR "node" "NotRoot" (.int x)))
def spLinkB (K : PySem.W.Frag) (CN CR CS : Addr) : Sp := fun vs H Q E => ∃ (a : Addr) (n : Nat) (p : Nat → Nat) (x y : Int), vs = [.ref a, .int x, .int y] ∧ Sq K H a (tupOf n p) ∧ n ≤ 1000 ∧ x.natAbs.log2 < 1920 ∧ y.natAbs.log2 < 1920 ∧
  ((chkE n p x = some false ∧ Flies H E CN "node" "NoNode" (.int x)) ∨ (chkE n p x = some true ∧ Flies H E CR "node" "NotRoot" (.int x)) ∨
   (chkE n p x = none ∧ ((chkE n p y = some false ∧ Flies H E CN "node" "NoNode" (.int y)) ∨ (chkE n p y = some true ∧ Flies H E CR "node" "NotRoot" (.int y)) ∨
     (chkE n p y = none ∧ ((x = y ∧ Flies H E CS "node" "SameRoot" (.int x)) ∨ (x ≠ y ∧ ∀ (q : Addr) H', H q = none → H' q = some (.tup (tupOf n (lnk p x.toNat y.toNat))) → Same H H' → Q (.ref q) H'))))))
def uniF (n : Nat) (p : Nat → Nat) (u v : Nat) : Nat → Nat := if root p n u = root p n v then fndAll n [u, v] p else lnk (fndAll n [u, v] p) (root p n u) (root p n v)
def spUniteB (K : PySem.W.Frag) (C : Addr) : Sp := fun vs H Q E => ∃ (a : Addr) (n : Nat) (p r : Nat → Nat) (x y : Int) (good : List Nat), vs = [.ref a, .int x, .int y] ∧ SqT K H a (tupOf n p) ∧ n ≤ 1000 ∧ Fo n p r ∧
  NodesEnd [x, y] n good (∀ u v, good = [u, v] → ∀ (t g : Addr) H', H t = none → H' t = some (.tup [.ref g, vi (costs n [u, v] p).sum]) → SqT K H' g (tupOf n (uniF n p u v)) → Same H H' → Q (.ref t) H') (fun z => Flies H E C "node" "NoNode" (.int z))
theorem bits_small {u : Nat} (h : u < 2000000000) : (u : Int).natAbs.log2 < 1920 := bits_ok (z := (u : Int)) (by omega) (by omega)
theorem chkE_node {n : Nat} {p : Nat → Nat} {x : Int} : (chkE n p x = some false ∧ (x < 0 ∨ (n : Int) ≤ x)) ∨ ∃ u : Nat, x = (u : Int) ∧ u < n ∧ ((chkE n p x = none ∧ p u = u) ∨ (chkE n p x = some true ∧ p u ≠ u)) := by
  unfold chkE
  by_cases h : 0 ≤ x ∧ x < (n : Int)
  · obtain ⟨u, rfl⟩ : ∃ u : Nat, x = u := ⟨x.toNat, by omega⟩
    right
    refine ⟨u, rfl, by omega, ?_⟩
    rw [if_pos h, Int.toNat_natCast]
    by_cases e : p u = u
    · rw [if_pos e]; exact .inl ⟨rfl, e⟩
    · rw [if_neg e]; exact .inr ⟨rfl, e⟩
  · left
    rw [if_neg h]
    exact ⟨rfl, by omega⟩
abbrev linkedN : List Str := ["_law_forest_in", "_law_child_in", "_law_above", "_law_node"]
/-- what a link answers, as data -/
def errD (b : Bool) (z : Int) : PyData := .tuple [.none, .str (if b = true then "NotRoot" else "NoNode"), .int z]
def linkD (n : Nat) (p : Nat → Nat) (x y : Int) : PyData := match chkE n p x with
  | some b => errD b x
  | none => match chkE n p y with
    | some b => errD b y
    | none => if x = y then .tuple [.none, .str "SameRoot", .int x] else .tuple [.tuple ((intsOf n (lnk p x.toNat y.toNat)).map PyData.int), .str "", .none]
def spLinked (K : PySem.W.Frag) : Sp := fun vs H Q _ => ∃ (a : Addr) (n : Nat) (p : Nat → Nat) (x y : Int), vs = [.ref a, .int x, .int y] ∧ SqT K H a (tupOf n p) ∧ n ≤ 1000 ∧ ∀ (t : Addr) H', Dp K H' (.ref t) (linkD n p x y) → Same H H' → Q (.ref t) H'
section
variable {P : Program} {w : World} {K : PySem.W.Frag} {mg : Str → Option Value} {base : Heap}
/-- one turn of the law's own check -/
theorem chk_turn {n : Nat} {p : Nat → Nat} {x : Int} {a : Addr} {H : Hp} {A B C D : Prop} (hS : SqT K H a (tupOf n p)) (h : (chkE n p x = some false ∧ A) ∨ (chkE n p x = some true ∧ B) ∨ (chkE n p x = none ∧ C)) : True := trivial
end
abbrev aboveN : List Str := ["forest", "one", "other", "path"]
abbrev rootsN : List Str := ["forest", "node", "parent"]
abbrev kidsN : List Str := ["forest", "node", "child", "parent"]
abbrev subN : List Str := ["forest", "node", "low"]
theorem in_nats (u : Nat) : ∀ l : List Nat, inV (vi u) (natsV l) = decide (u ∈ l)
  | [] => by simp [inV, natsV]
  | x :: l => by
    have ih := in_nats u l
    unfold inV natsV at ih ⊢
    rw [List.map_cons, List.any_cons, ih]
    by_cases e : x = u
    · subst e
      simp [eqV]
    · have h1 : eqV (vi x) (vi u) = false := by
        simp only [eqV]
        simp
        omega
      rw [h1]
      simp [Ne.symm e]
def rootsL (n : Nat) (p : Nat → Nat) : List Nat := (List.range n).filter fun v => decide (p v = v)
def kidsL (n : Nat) (p : Nat → Nat) (v : Nat) : List Nat := (List.range n).filter fun c => decide (p c = v) && !decide (c = v)
def subL (n : Nat) (p : Nat → Nat) (v : Nat) : List Nat := (List.range n).filter fun x => decide (v ∈ path p n x)
theorem filt_le (n : Nat) (g : Nat → Bool) : ((List.range n).filter g).length ≤ n := Nat.le_trans (List.length_filter_le _ _) (by rw [List.length_range]; exact Nat.le_refl _)
theorem filt_succ (k : Nat) (g : Nat → Bool) : (List.range (k + 1)).filter g = (List.range k).filter g ++ if g k = true then [k] else [] := by
  rw [List.range_succ, List.filter_append]
  cases e : g k <;> simp [List.filter, e]
/-- one turn of a filter over nodes -/
theorem filt_turn {k : Nat} {g : Nat → Bool} {H : Hp} {D : Addr} (hk : k < 1000) (hD : H D = some (.lst (natsV ((List.range k).filter g)))) : (natsV ((List.range k).filter g)).length < sizeLine ∧
    (g k = true → ∀ y, y = vi k → upd H D (.lst (natsV ((List.range k).filter g) ++ [y])) D = some (.lst (natsV ((List.range (k + 1)).filter g)))) ∧ (g k = false → H D = some (.lst (natsV ((List.range (k + 1)).filter g)))) := by
  refine ⟨?_, fun e y hy => ?_, fun e => ?_⟩
  · have := filt_le k g
    rw [natsV_len]
    exact Nat.lt_of_le_of_lt (show _ ≤ 1000 by omega) (by decide)
  · rw [upd_same, hy, filt_succ, if_pos e]
    unfold natsV
    rw [List.map_append]
    rfl
  · rw [filt_succ, e]
    simp only [Bool.false_eq_true, if_false, List.append_nil]
    exact hD
def spRootsOf (K : PySem.W.Frag) : Sp := fun vs H Q _ => ∃ (a : Addr) (n : Nat) (p : Nat → Nat), vs = [.ref a] ∧ SqT K H a (tupOf n p) ∧ n ≤ 900 ∧ ∀ (q : Addr) H', H q = none → H' q = some (.lst (natsV (rootsL n p))) → Same H H' → Q (.ref q) H'
/-- a def of a node: its answer, or the node raised -/
def spNodeB (K : PySem.W.Frag) (C : Addr) (F : Nat → (Nat → Nat) → Nat → List Nat) : Sp := fun vs H Q E => ∃ (a : Addr) (n : Nat) (p r : Nat → Nat) (x : Int), vs = [.ref a, .int x] ∧ SqT K H a (tupOf n p) ∧ n ≤ 900 ∧ Fo n p r ∧
  ((∃ u : Nat, x = (u : Int) ∧ u < n ∧ ∀ (q : Addr) H', H q = none → H' q = some (.lst (natsV (F n p u))) → Same H H' → Q (.ref q) H') ∨ ((x < 0 ∨ (n : Int) ≤ x) ∧ x.natAbs.log2 < 1920 ∧ Flies H E C "node" "NoNode" (.int x)))
def spAboveB (K : PySem.W.Frag) (C : Addr) : Sp := fun vs H Q E => ∃ (a : Addr) (n : Nat) (p r : Nat → Nat) (x y : Int) (good : List Nat), vs = [.ref a, .int x, .int y] ∧ SqT K H a (tupOf n p) ∧ n ≤ 900 ∧ Fo n p r ∧
  NodesEnd [x, y] n good (∀ u v, good = [u, v] → ∀ H', Same H H' → Q (.bl (decide (u ≠ v) && decide (u ∈ path p n v))) H') (fun z => Flies H E C "node" "NoNode" (.int z))
abbrev sBadPar : Stmt := topS 4
abbrev sCycle : Stmt := topS 5
abbrev sTooMany : Stmt := topS 6
abbrev sLeads : Stmt := topS 10
abbrev sCheck : Stmt := topS 11
abbrev sIsFor : Stmt := topS 12
theorem scBadParI : FnScope ["self", "node"] ["self", "node"] (defScope (initS sBadPar)) := ⟨rfl, rfl, rfl, by decide +kernel, rfl, by decide +kernel, by decide +kernel⟩
theorem scCycleI : FnScope ["self", "node"] ["self", "node"] (defScope (initS sCycle)) := ⟨rfl, rfl, rfl, by decide +kernel, rfl, by decide +kernel, by decide +kernel⟩
theorem scTooManyI : FnScope ["self", "limit"] ["self", "limit"] (defScope (initS sTooMany)) := ⟨rfl, rfl, rfl, by decide +kernel, rfl, by decide +kernel, by decide +kernel⟩
theorem scLeads : FnScope ["parents", "node", "place", "step"] ["parents", "node"] (defScope sLeads) := ⟨rfl, rfl, rfl, by decide +kernel, rfl, by decide +kernel, by decide +kernel⟩
theorem scCheck : FnScope ["parents", "node", "parent"] ["parents"] (defScope sCheck) := ⟨rfl, rfl, rfl, by decide +kernel, rfl, by decide +kernel, by decide +kernel⟩
theorem scIsFor : FnScope ["parents"] ["parents"] (defScope sIsFor) := ⟨rfl, rfl, rfl, by decide +kernel, rfl, by decide +kernel, by decide +kernel⟩
def spLeads (K : PySem.W.Frag) : Sp := fun vs H Q _ => ∃ (a : Addr) (n : Nat) (p : Nat → Nat) (x : Nat), vs = [.ref a, vi x] ∧ SqT K H a (tupOf n p) ∧ n ≤ 1000 ∧ (∀ v, v < n → p v < n) ∧ x < n ∧ Q (.bl (!ringB n p x)) H
def CheckO (CT CB CC : Addr) (xs : List Int) (H : Hp) (E : XK) (Q : VK) : Prop := match verdict xs with
  | .ok => ∀ H', Same H H' → Q .non H'
  | .many => Flies H E CT "limit" "TooManyNodes" (.int 40)
  | .bad v => Flies H E CB "node" "BadParent" (vi v)
  | .cyc v => Flies H E CC "node" "Cycle" (vi v)
def spCheckB (K : PySem.W.Frag) (CT CB CC : Addr) : Sp := fun vs H Q E => ∃ (a : Addr) (xs : List Int), vs = [.ref a] ∧ SqT K H a (xs.map V.int) ∧ xs.length ≤ 1000 ∧ CheckO CT CB CC xs H E Q
def okV (xs : List Int) : Bool := match verdict xs with
  | .ok => true
  | _ => false
def spIsFor (K : PySem.W.Frag) : Sp := fun vs H Q _ => ∃ (a : Addr) (xs : List Int), vs = [.ref a] ∧ SqT K H a (xs.map V.int) ∧ xs.length ≤ 1000 ∧ ∀ H', Same H H' → Q (.bl (okV xs)) H'
theorem row_tup {xs : List Int} (h : ∀ v, v < xs.length → wideB xs v = false) : xs.map V.int = tupOf xs.length (par xs) := by
  refine List.ext_getElem? fun i => ?_
  by_cases hi : i < xs.length
  · rw [List.getElem?_map, List.getElem?_eq_getElem hi, tupOf_at hi]
    have z := (wide_iff.mp (h i hi)).1
    rw [List.getD_eq_getElem?_getD, List.getElem?_eq_getElem hi] at z
    show some (V.int xs[i]) = some (V.int ((xs.getD i 0).toNat : Int))
    rw [List.getD_eq_getElem?_getD, List.getElem?_eq_getElem hi]
    have z : (0 : Int) ≤ xs[i] := z
    show some (V.int xs[i]) = some (V.int ((xs[i]).toNat : Int))
    rw [Int.toNat_of_nonneg z]
  · rw [List.getElem?_eq_none (by rw [List.length_map]; omega), List.getElem?_eq_none (by rw [tupOf_len]; omega)]
section
variable {P : Program} {w : World} {K : PySem.W.Frag} {mg : Str → Option Value} {base : Heap}
theorem ok_badParI {f fM CM : Addr} {fd fdM : FuncData} (F : Fun K "__init__" "BadParent.__init__" (initS sBadPar) f fd) (TM : ClsI K CM fM) (gM : mg "ForestError" = some (.ref CM)) (GM : FnOk P w K mg base CX0 1 fM fdM ["self", "tag", "message"] (spTop K "ValueError.__new__" vaTail)) (bM : Binds K fdM ["self", "tag", "message"] []) :
    FnOk P w K mg base CX0 2 f fd ["self", "node"] (spErrI K "ValueError.__new__" vaTail "node" "BadParent") := by
  refine F.ok scBadParI (fun vs H Q E h => ?_) (fun cdv A outer s H vs Q E hr h => ?_)
  · obtain ⟨a, C, v, rfl, _⟩ := h
    rfl
  · obtain ⟨a, C, v, rfl, ⟨i, rfl, hi⟩, ha, T, nt, nf, q⟩ := h
    refine ⟨_, pss_cons (ps_expr (pe_ci TM GM hr (by rfl) gM bM pass0 (pa_cons (pv 0) (pa_cons pe_str (pa_cons (pe_joined (.cons pe_str (.cons (pe_fmt (pv 1)) (.cons pe_str .nil)))) pa_nil)))))
      (pss_one (ps_st (nid := "ValueError.__new__") PySem.F.store_ValueError (pv 0) (pv 1))), ?_⟩
    have f0 : (Str.empty ++ Str.ofString "the parent of node ").length ≤ 100 := by decide +kernel
    have f1 : (Str.ofString " is no node").length ≤ 100 := by decide +kernel
    have l1 := fits_cat f0 (txt_int hi)
    refine ⟨_, rfl, ⟨_, rfl, fits (by omega), _, rfl, .inr ⟨i, rfl, hi, _, rfl, fits (Nat.le_trans l1 (by decide)), _, rfl, fits (Nat.le_trans (fits_cat l1 f1) (by decide)), ?_⟩⟩⟩
    refine ⟨a, C, _, _, rfl, ha, T, nt, fun dx n ne => ⟨_, rfl, _, rfl, a, C, rfl, T, nf, .inr ⟨dx, _, upd_same, ?_, by show 1 ≤ 900; decide, q dx n ne⟩⟩⟩
    rw [upd_ne ne, upd_same]
end
section
variable {P : Program} {w : World} {K : PySem.W.Frag} {mg : Str → Option Value} {base : Heap}
theorem ok_cycleI {f fM CM : Addr} {fd fdM : FuncData} (F : Fun K "__init__" "Cycle.__init__" (initS sCycle) f fd) (TM : ClsI K CM fM) (gM : mg "ForestError" = some (.ref CM)) (GM : FnOk P w K mg base CX0 1 fM fdM ["self", "tag", "message"] (spTop K "ValueError.__new__" vaTail)) (bM : Binds K fdM ["self", "tag", "message"] []) :
    FnOk P w K mg base CX0 2 f fd ["self", "node"] (spErrI K "ValueError.__new__" vaTail "node" "Cycle") := by
  refine F.ok scCycleI (fun vs H Q E h => ?_) (fun cdv A outer s H vs Q E hr h => ?_)
  · obtain ⟨a, C, v, rfl, _⟩ := h
    rfl
  · obtain ⟨a, C, v, rfl, ⟨i, rfl, hi⟩, ha, T, nt, nf, q⟩ := h
    refine ⟨_, pss_cons (ps_expr (pe_ci TM GM hr (by rfl) gM bM pass0 (pa_cons (pv 0) (pa_cons pe_str (pa_cons (pe_joined (.cons pe_str (.cons (pe_fmt (pv 1)) (.cons pe_str .nil)))) pa_nil)))))
      (pss_one (ps_st (nid := "ValueError.__new__") PySem.F.store_ValueError (pv 0) (pv 1))), ?_⟩
    have f0 : (Str.empty ++ Str.ofString "the parents of node ").length ≤ 100 := by decide +kernel
    have f1 : (Str.ofString " do not lead to a root").length ≤ 100 := by decide +kernel
    have l1 := fits_cat f0 (txt_int hi)
    refine ⟨_, rfl, ⟨_, rfl, fits (by omega), _, rfl, .inr ⟨i, rfl, hi, _, rfl, fits (Nat.le_trans l1 (by decide)), _, rfl, fits (Nat.le_trans (fits_cat l1 f1) (by decide)), ?_⟩⟩⟩
    refine ⟨a, C, _, _, rfl, ha, T, nt, fun dx n ne => ⟨_, rfl, _, rfl, a, C, rfl, T, nf, .inr ⟨dx, _, upd_same, ?_, by show 1 ≤ 900; decide, q dx n ne⟩⟩⟩
    rw [upd_ne ne, upd_same]
end
section
variable {P : Program} {w : World} {K : PySem.W.Frag} {mg : Str → Option Value} {base : Heap}
theorem ok_tooManyI {f fM CM : Addr} {fd fdM : FuncData} (F : Fun K "__init__" "TooManyNodes.__init__" (initS sTooMany) f fd) (TM : ClsI K CM fM) (gM : mg "ForestError" = some (.ref CM)) (GM : FnOk P w K mg base CX0 1 fM fdM ["self", "tag", "message"] (spTop K "ValueError.__new__" vaTail)) (bM : Binds K fdM ["self", "tag", "message"] []) :
    FnOk P w K mg base CX0 2 f fd ["self", "limit"] (spErrI K "ValueError.__new__" vaTail "limit" "TooManyNodes") := by
  refine F.ok scTooManyI (fun vs H Q E h => ?_) (fun cdv A outer s H vs Q E hr h => ?_)
  · obtain ⟨a, C, v, rfl, _⟩ := h
    rfl
  · obtain ⟨a, C, v, rfl, ⟨i, rfl, hi⟩, ha, T, nt, nf, q⟩ := h
    refine ⟨_, pss_cons (ps_expr (pe_ci TM GM hr (by rfl) gM bM pass0 (pa_cons (pv 0) (pa_cons pe_str (pa_cons (pe_joined (.cons pe_str (.cons (pe_fmt (pv 1)) (.cons pe_str .nil)))) pa_nil)))))
      (pss_one (ps_st (nid := "ValueError.__new__") PySem.F.store_ValueError (pv 0) (pv 1))), ?_⟩
    have f0 : (Str.empty ++ Str.ofString "there are more than ").length ≤ 100 := by decide +kernel
    have f1 : (Str.ofString " nodes").length ≤ 100 := by decide +kernel
    have l1 := fits_cat f0 (txt_int hi)
    refine ⟨_, rfl, ⟨_, rfl, fits (by omega), _, rfl, .inr ⟨i, rfl, hi, _, rfl, fits (Nat.le_trans l1 (by decide)), _, rfl, fits (Nat.le_trans (fits_cat l1 f1) (by decide)), ?_⟩⟩⟩
    refine ⟨a, C, _, _, rfl, ha, T, nt, fun dx n ne => ⟨_, rfl, _, rfl, a, C, rfl, T, nf, .inr ⟨dx, _, upd_same, ?_, by show 1 ≤ 900; decide, q dx n ne⟩⟩⟩
    rw [upd_ne ne, upd_same]
end
section
variable {P : Program} {w : World} {K : PySem.W.Frag} {mg : Str → Option Value} {base : Heap}
theorem ok_leads {f : Addr} {fd : FuncData} {k : Nat} (F : Fun K "leads_to_root" "leads_to_root" sLeads f fd) (T : Tx mg) : FnOk P w K mg base CX0 (k + 1) f fd ["parents", "node"] (spLeads K) := by
  refine F.ok scLeads (fun vs H Q E h => ?_) (fun cdv A outer s H vs Q E hr h => ?_)
  · obtain ⟨a, n, p, x, rfl, _⟩ := h
    rfl
  · obtain ⟨a, n, p, x, rfl, hS, hn, hl, hx, q⟩ := h
    refine ⟨_, pss_cons (ps_set (i := 2) scLeads.nd rfl (.inl rfl) (pv 1))
      (pss_cons (ps_for PassesOwn.never rfl (pi_range1 (by rfl) T.range (pa_cons (pe_callB call_len_seq (by rfl) T.len PySem.boot_len (pa_cons (pv 0) pa_nil)) pa_nil)) (pg_name (i := 3) scLeads.nd rfl (.inl rfl))
        (pss_cons (ps_if (pt_cmpR op_eq (pe_ix ix_tup (pv 0) (pv 2) (fun _ _ => rfl)) (pv 2) (nomark _)) (pss_one (ps_ret pe_bl)) pss_nil)
        (pss_one (ps_set (i := 2) scLeads.nd rfl (.inl rfl) (pe_ix ix_tup (pv 0) (pv 2) (fun _ _ => rfl))))))
      (pss_one (ps_ret pe_bl))), ?_⟩
    refine ⟨_, rfl, _, rfl, a, _, rfl, .inr hS, _, rfl, by rw [tupOf_len]; omega, by rw [tupOf_len]; omega, ?_⟩
    rw [tupOf_len]
    have en : ((n : Nat) : Int).toNat = n := by omega
    refine for_range (lo := 0) (n := ((n : Nat) : Int).toNat) (fun i σ H' => (∃ z3, σ = [some (.ref a), some (vi x), some (vi (root p i x)), z3]) ∧ (∀ j, j < i → p (root p j x) ≠ root p j x) ∧ H' = H) ⟨⟨_, rfl⟩, fun j hj => by omega, rfl⟩ ?_ ?_
    · rintro i σ H' hi ⟨⟨z3, rfl⟩, hno, rfl⟩
      have hr0 : root p i x < n := root_lt0 hl i x hx
      refine ⟨_, rfl, _, rfl, a, _, _, _, rfl, rfl, hS, atI_nat (tupOf_at hr0), _, rfl, rfl, _, rfl, ?_⟩
      show if decide (vi (p (root p i x)) = vi (root p i x)) = true then _ else _
      by_cases e : p (root p i x) = root p i x
      · rw [decide_eq_true (by rw [e])]
        refine iteT ?_
        have : ringB n p x = false := by
          unfold ringB
          obtain ⟨j, rfl⟩ : ∃ j, n = i + j := ⟨n - i, by omega⟩
          rw [root_stay e j, decide_eq_true e]; rfl
        rw [this] at q
        exact q
      · rw [decide_eq_false (fun z => e (by injection z with z; omega))]
        refine iteF ⟨_, rfl, _, rfl, a, _, _, _, rfl, rfl, hS, atI_nat (tupOf_at hr0), ⟨some (.int (0 + (i : Int))), ?_⟩, fun j hj => ?_, rfl⟩
        · rw [root_succ]; rfl
        · by_cases ej : j = i
          · rw [ej]; exact e
          · exact hno j (by omega)
    · rintro σ H' ⟨⟨z3, rfl⟩, hno, rfl⟩
      rw [en] at hno
      have : ringB n p x = true := by
        unfold ringB
        rw [decide_eq_false (fun z => by
          obtain ⟨j, hj, e⟩ := fix_before hl hx z
          exact hno j hj e)]
        rfl
      rw [this] at q
      exact q
end
section
variable {P : Program} {w : World} {K : PySem.W.Frag} {mg : Str → Option Value} {base : Heap}
theorem okB_check {f fL CT CB CC : Addr} {fd fdL : FuncData} {tN : Tok} (F : Fun K "check_forest" "check_forest" sCheck f fd) (k1 : Kn P w K mg base 1 "leads_to_root" sLeads ["parents", "node"] (spLeads K) fL fdL) (T : Tx mg) (tE : mg "enumerate" = none) (gN : mg "MAX_NODES" = some (.int 40 tN)) (RT : Raisable P w K mg base 2 "TooManyNodes" CT "limit" "TooManyNodes") (RB : Raisable P w K mg base 2 "BadParent" CB "node" "BadParent") (RC : Raisable P w K mg base 2 "Cycle" CC "node" "Cycle") :
    FnOk P w K mg base (L2N.CX P w) 4 f fd ["parents"] (spCheckB K CT CB CC) := by
  refine okN F scCheck (fun vs H Q E h => ?_) (fun cdv A outer s H vs Q E hr h tk => ?_)
  · obtain ⟨a, xs, rfl, _⟩ := h
    rfl
  · obtain ⟨a, xs, rfl, hS, hn, h⟩ := h
    refine ⟨_, pss_cons (ps_if (pt_cmpR op_gt (pe_callB call_len_seq (by rfl) T.len PySem.boot_len (pa_cons (pv 0) pa_nil)) (pe_glob (v := .int 40) rfl gN ⟨_, rfl⟩) (nomark _)) (pss_one (L2N.ps_raise rfl tk (pmk_err RT hr (by rfl) (pe_glob (v := .int 40) rfl gN ⟨_, rfl⟩)))) pss_nil)
      (pss_cons (ps_for PassesOwn.leaving rfl (pi_enumT (by rfl) tE (pa_cons (pv 0) pa_nil)) (pg_tup rfl (pgs_cons (pg_name (i := 1) scCheck.nd rfl (.inl rfl)) (pgs_cons (pg_name (i := 2) scCheck.nd rfl (.inl rfl)) pgs_nil)))
        (pss_one (ps_if (pt_not (pt_chain op_le op_lt pe_int (pv 2) (pe_callB call_len_seq (by rfl) T.len PySem.boot_len (pa_cons (pv 0) pa_nil)))) (pss_one (L2N.ps_raise rfl tk (pmk_err RB hr (by rfl) (pv 1)))) pss_nil)))
      (pss_one (ps_for PassesOwn.leaving rfl (pi_range1 (by rfl) T.range (pa_cons (pe_callB call_len_seq (by rfl) T.len PySem.boot_len (pa_cons (pv 0) pa_nil)) pa_nil)) (pg_name (i := 1) scCheck.nd rfl (.inl rfl))
        (pss_one (ps_if (pt_not (pt_val (pe_call k1.G (hr.mono (by decide)) (by rfl) k1.g k1.F.kp k1.b .nil pass0 (pa_cons (pv 0) (pa_cons (pv 1) pa_nil))))) (pss_one (L2N.ps_raise rfl tk (pmk_err RC hr (by rfl) (pv 1)))) pss_nil))))), ?_⟩
    refine ⟨_, rfl, a, _, rfl, .inr hS, _, _, rfl, rfl, _, rfl, ?_⟩
    show if decide ((40 : Int) < ((xs.map V.int).length : Int)) = true then _ else _
    rw [List.length_map]
    unfold CheckO verdict at h
    by_cases h40 : 40 < xs.length
    · rw [decide_eq_true (show (40 : Int) < (xs.length : Int) by omega)]
      rw [if_pos h40] at h
      exact iteT ⟨_, rfl, ⟨40, rfl, by decide⟩, h⟩
    · rw [decide_eq_false (show ¬ (40 : Int) < (xs.length : Int) by omega)]
      rw [if_neg h40] at h
      refine iteF ⟨_, rfl, a, _, rfl, hS, ?_⟩
      refine for_enumT (K := K) (a := a) (xs := xs.map V.int) (fun i σ H' => (∃ z1 z2, σ = [some (.ref a), z1, z2]) ∧ (∀ v, v < i → wideB xs v = false) ∧ Same H H') ⟨⟨_, _, rfl⟩, fun v hv => by omega, Same.refl _⟩ (fun i σ H' _ h => same_sqt h.2.2 hS) ?_ ?_
      · rintro i x σ H' T2 hx ⟨⟨z1, z2, rfl⟩, hw, sm⟩ nT
        have hi : i < xs.length := by have := (List.getElem?_eq_some_iff.mp hx).1; rwa [List.length_map] at this
        rw [List.getElem?_map, List.getElem?_eq_getElem hi] at hx
        cases hx
        have gD : xs.getD i 0 = xs[i] := by rw [List.getD_eq_getElem?_getD, List.getElem?_eq_getElem hi]; rfl
        have s2 := same_new (o := .tup [V.int (i : Int), V.int xs[i]]) nT
        have sm2 := sm.trans s2
        refine ⟨T2, _, rfl, SqT.of upd_same, rfl, _, _, rfl, _, _, rfl, rfl, ?_⟩
        refine ⟨_, rfl, _, _, rfl, rfl, _, rfl, ?_⟩
        show if decide ((0 : Int) ≤ xs[i]) = true then _ else _
        have bad : wideB xs i = true → Flies H E CB "node" "BadParent" (vi i) := fun hb => by
          obtain ⟨rest, er⟩ := filt_first hi hw hb
          unfold wideL at h
          rw [er] at h
          exact h
        have good : (0 : Int) ≤ xs[i] → xs[i] < (xs.length : Int) → ∀ v, v < i + 1 → wideB xs v = false := fun a1 a2 v hv => by
          by_cases e : v = i
          · rw [e]; exact wide_iff.mpr (by rw [gD]; exact ⟨a1, a2⟩)
          · exact hw v (by omega)
        have isbad : ¬ ((0 : Int) ≤ xs[i] ∧ xs[i] < (xs.length : Int)) → wideB xs i = true := fun hb => by
          cases e : wideB xs i with
          | true => rfl
          | false => exact absurd (by have z := wide_iff.mp e; rw [gD] at z; exact z) hb
        by_cases h0 : (0 : Int) ≤ xs[i]
        · rw [decide_eq_true h0]
          refine iteT ⟨_, rfl, a, _, rfl, .inr (same_sqt sm2 hS), _, _, rfl, rfl, _, rfl, ?_⟩
          show if (!decide (xs[i] < ((xs.map V.int).length : Int))) = true then _ else _
          rw [List.length_map]
          by_cases h1 : xs[i] < (xs.length : Int)
          · rw [decide_eq_true h1]
            exact iteF ⟨⟨_, _, rfl⟩, good h0 h1, sm2⟩
          · rw [decide_eq_false h1]
            exact iteT ⟨_, rfl, _, rfl, ⟨_, rfl, bits_ok (by omega) (by omega)⟩, flies_same (bad (isbad fun z => h1 z.2)) sm2⟩
        · rw [decide_eq_false h0]
          refine iteF ⟨_, rfl, ?_⟩
          exact iteT ⟨_, rfl, _, rfl, ⟨_, rfl, bits_ok (by omega) (by omega)⟩, flies_same (bad (isbad fun z => h0 z.1)) sm2⟩
      · rintro σ H' ⟨⟨z1, z2, rfl⟩, hw, sm⟩
        rw [List.length_map] at hw
        have hS2 : SqT K H a (tupOf xs.length (par xs)) := by rw [← row_tup hw]; exact hS
        unfold wideL at h
        rw [filt_none hw] at h
        refine ⟨_, rfl, a, _, rfl, .inr (same_sqt sm hS), _, rfl, by rw [List.length_map]; omega, by rw [List.length_map]; omega, ?_⟩
        rw [List.length_map]
        refine for_range (lo := 0) (n := ((xs.length : Nat) : Int).toNat) (fun i σ H' => (∃ z1 z2, σ = [some (.ref a), z1, z2]) ∧ (∀ v, v < i → ringB xs.length (par xs) v = false) ∧ Same H H') ⟨⟨_, _, rfl⟩, fun v hv => by omega, sm⟩ ?_ ?_
        · rintro i σ H2 hi ⟨⟨z1, z2, rfl⟩, hno, sm2⟩
          have hin : i < xs.length := by omega
          refine ⟨_, rfl, _, rfl, a, xs.length, par xs, i, by show [V.ref a, V.int (0 + (i : Int))] = [V.ref a, V.int (i : Int)]; rw [Int.zero_add], same_sqt sm2 hS2, by omega, par_lt hw, hin, _, rfl, ?_⟩
          cases e : ringB xs.length (par xs) i with
          | false =>
            refine iteF ⟨⟨_, _, rfl⟩, fun v hv => ?_, sm2⟩
            by_cases ev : v = i
            · rw [ev]; exact e
            · exact hno v (by omega)
          | true =>
            obtain ⟨rest, er⟩ := filt_first hin hno e
            unfold ringsL at h
            rw [er] at h
            refine iteT ⟨_, rfl, _, rfl, ⟨_, rfl, bits_ok (by omega) (by omega)⟩, ?_⟩
            rw [Int.zero_add]
            exact flies_same h sm2
        · rintro σ H2 ⟨⟨z1, z2, rfl⟩, hno, sm2⟩
          rw [show ((xs.length : Nat) : Int).toNat = xs.length by omega] at hno
          unfold ringsL at h
          rw [filt_none hno] at h
          exact h H2 sm2
end
section
variable {P : Program} {w : World} {K : PySem.W.Frag} {mg : Str → Option Value} {base : Heap}
theorem ok_isFor {f fC CT CB CC : Addr} {fd fdC : FuncData} (F : Fun K "is_forest" "is_forest" sIsFor f fd) (k1 : KnX P w K mg base 4 "check_forest" ["parents"] (spCheckB K CT CB CC) fC fdC) (gT : mg "TooManyNodes" = some (.ref CT)) (gB : mg "BadParent" = some (.ref CB)) (gC : mg "Cycle" = some (.ref CC))
    (mT : PySem.W.exmAny K (.ref CT) [.ref CT, .ref CB, .ref CC] = some true) (mB : PySem.W.exmAny K (.ref CB) [.ref CT, .ref CB, .ref CC] = some true) (mC : PySem.W.exmAny K (.ref CC) [.ref CT, .ref CB, .ref CC] = some true) :
    FnOk P w K mg base CX0 5 f fd ["parents"] (spIsFor K) := by
  refine F.ok scIsFor (fun vs H Q E h => ?_) (fun cdv A outer s H vs Q E hr h => ?_)
  · obtain ⟨a, xs, rfl, _⟩ := h
    rfl
  · obtain ⟨a, xs, rfl, hS, hn, q⟩ := h
    refine ⟨_, pss_cons (ps_tryC (tb := fun W D σ H => (tCons (tVar 0) tNil) σ H fun vs H1 => spCheckB K CT CB CC vs H1 (fun _ H2 => D.nx σ H2) fun cls d H2 => W cls d σ H2) rfl rfl (Wout := fun _ _ _ _ => False) takesN0
        (fun W pn xe tk _ => pss_one (ps_expr (pe_callN k1.G hr (by rfl) k1.g k1.kp k1.b tk (pa_cons (pv 0) pa_nil))))
        (.only (tst_three (by rfl) gT (by rfl) gB (by rfl) gC) (fun a oe cls d pn hz hd => pss_one (ps_ret pe_bl)) .nil))
      (pss_one (ps_ret pe_bl)), ?_⟩
    refine ⟨_, rfl, a, xs, rfl, hS, hn, ?_⟩
    unfold CheckO
    have q2 := q
    unfold okV at q2
    cases e : verdict xs with
    | ok =>
      rw [e] at q2
      exact fun H1 s1 => q2 H1 s1
    | many =>
      rw [e] at q2
      exact fun d H1 n1 h1 s1 => ⟨true, mT, fun _ ea na => q2 H1 s1, fun z => by cases z⟩
    | bad v =>
      rw [e] at q2
      exact fun d H1 n1 h1 s1 => ⟨true, mB, fun _ ea na => q2 H1 s1, fun z => by cases z⟩
    | cyc v =>
      rw [e] at q2
      exact fun d H1 n1 h1 s1 => ⟨true, mC, fun _ ea na => q2 H1 s1, fun z => by cases z⟩
end
abbrev sizesN : List Str := ["one", "other"]
abbrev roots2N : List Str := ["one", "other", "node"]
abbrev chgN : List Str := ["one", "other", "node"]
abbrev barrN : List Str := ["one", "other", "changed", "path", "node"]
abbrev barN : List Str := ["one", "other", "changed", "barring"]
abbrev holdsN : List Str := ["one", "other", "bar", "changed", "node"]
abbrev needN : List Str := ["one", "other", "bar", "node"]
abbrev isNN : List Str := ["one", "other", "node", "changed", "low"]
abbrev cntWN : List Str := ["one", "other", "many"]
abbrev wCostN : List Str := ["one", "other"]
abbrev flatN : List Str := ["forest", "node"]
abbrev sameTN : List Str := ["one", "other"]
/-- two forests -/
structure Two (K : PySem.W.Frag) (H : Hp) (a b : Addr) (n m : Nat) (p q r r' : Nat → Nat) : Prop where
  sa : SqT K H a (tupOf n p)
  sb : SqT K H b (tupOf m q)
  ln : n ≤ 60
  lm : m ≤ 60
  fa : Fo n p r
  fb : Fo m q r'
theorem Two.same {K : PySem.W.Frag} {H H' : Hp} {a b : Addr} {n m : Nat} {p q r r' : Nat → Nat} (h : Two K H a b n m p q r r') (e : Same H H') : Two K H' a b n m p q r r' := ⟨same_sqt e h.sa, same_sqt e h.sb, h.ln, h.lm, h.fa, h.fb⟩
def unlB (p q : Nat → Nat) (v : Nat) : Bool := decide (p v = v) != decide (q v = v)
def unlL (n : Nat) (p q : Nat → Nat) : List Nat := (List.range n).filter (unlB p q)
/-- sizes and roots that differ, or neither -/
def WayE (CS CR : Addr) (n m : Nat) (p q : Nat → Nat) (H : Hp) (E : XK) (ok : Prop) : Prop :=
  (n ≠ m ∧ Flies H E CS "size" "SizesDiffer" (vi m)) ∨ (n = m ∧ ∃ v rest, unlL n p q = v :: rest ∧ Flies H E CR "node" "RootsDiffer" (vi v)) ∨ (n = m ∧ unlL n p q = [] ∧ ok)
theorem WayE.imp {CS CR : Addr} {n m : Nat} {p q : Nat → Nat} {H : Hp} {E : XK} {ok ok' : Prop} (w : WayE CS CR n m p q H E ok) (h : ok → ok') : WayE CS CR n m p q H E ok' := by
  rcases w with w | w | ⟨w1, w2, w3⟩
  · exact .inl w
  · exact .inr (.inl w)
  · exact .inr (.inr ⟨w1, w2, h w3⟩)
theorem unl_nil {n : Nat} {p q : Nat → Nat} (h : unlL n p q = []) (v : Nat) (hv : v < n) : p v = v ↔ q v = v := by
  have z := List.filter_eq_nil_iff.mp h v (List.mem_range.mpr hv)
  unfold unlB at z
  simpa using z
theorem unl_of {n : Nat} {p q : Nat → Nat} (h : ∀ v, v < n → (p v = v ↔ q v = v)) : unlL n p q = [] := List.filter_eq_nil_iff.mpr fun v hv => by
  unfold unlB
  simp [h v (List.mem_range.mp hv)]
def chgL (n : Nat) (p q : Nat → Nat) : List Nat := (List.range n).filter (chg p q)
def barsOf (n : Nat) (p q : Nat → Nat) (x : Nat) : List Nat := (ups p n x).filter fun v => decide (q v ≠ root p n x)
def barL (n : Nat) (p q : Nat → Nat) : List (Nat × Nat) := (chgL n p q).flatMap fun x => (barsOf n p q x).map fun v => (x, v)
def spSizesB (K : PySem.W.Frag) (CS : Addr) : Sp := fun vs H Q E => ∃ (a b : Addr) (xs ys : List V), vs = [.ref a, .ref b] ∧ SqT K H a xs ∧ SqT K H b ys ∧ ys.length ≤ 1000 ∧ ((xs.length ≠ ys.length ∧ Flies H E CS "size" "SizesDiffer" (vi ys.length)) ∨ (xs.length = ys.length ∧ Q .non H))
def spRoots2B (K : PySem.W.Frag) (CR : Addr) : Sp := fun vs H Q E => ∃ (a b : Addr) (n : Nat) (p q : Nat → Nat), vs = [.ref a, .ref b] ∧ SqT K H a (tupOf n p) ∧ SqT K H b (tupOf n q) ∧ n ≤ 60 ∧ ((∃ v rest, unlL n p q = v :: rest ∧ Flies H E CR "node" "RootsDiffer" (vi v)) ∨ (unlL n p q = [] ∧ Q .non H))
def spTwoB (K : PySem.W.Frag) (CS CR : Addr) (ok : Nat → (Nat → Nat) → (Nat → Nat) → Hp → VK → XK → Prop) : Sp := fun vs H Q E => ∃ (a b : Addr) (n m : Nat) (p q r r' : Nat → Nat), vs = [.ref a, .ref b] ∧ Two K H a b n m p q r r' ∧ WayE CS CR n m p q H E (ok n p q H Q E)
def okChg (n : Nat) (p q : Nat → Nat) (H : Hp) (Q : VK) (E : XK) : Prop := ∀ (l : Addr) H', H l = none → H' l = some (.lst (natsV (chgL n p q))) → Same H H' → Q (.ref l) H'
def okBar (n : Nat) (p q : Nat → Nat) (H : Hp) (Q : VK) (E : XK) : Prop := (barL n p q = [] → ∀ H', Same H H' → Q .non H') ∧ ∀ x v rest, barL n p q = (x, v) :: rest → ∀ (t : Addr) H', H t = none → H' t = some (.tup [vi x, vi v]) → Same H H' → Q (.ref t) H'
def okNeed (CN : Addr) (n : Nat) (p q : Nat → Nat) (H : Hp) (Q : VK) (E : XK) : Prop := (barL n p q = [] → ∀ (l : Addr) H', H l = none → H' l = some (.lst (natsV (needS n p q))) → Same H H' → Q (.ref l) H') ∧ ∀ x v rest, barL n p q = (x, v) :: rest → Flies H E CN "node" "NoWay" (vi x)
def okCntW (CN : Addr) (n : Nat) (p q : Nat → Nat) (H : Hp) (Q : VK) (E : XK) : Prop := (barL n p q = [] → ∀ H', Same H H' → Q (.int (fall ((needS n p q).length : Int) ((needS n p q).length : Int))) H') ∧ ∀ x v rest, barL n p q = (x, v) :: rest → Flies H E CN "node" "NoWay" (vi x)
def okWCost (CN : Addr) (n : Nat) (p q : Nat → Nat) (H : Hp) (Q : VK) (E : XK) : Prop := (barL n p q = [] → ∀ H', Same H H' → Q (vi (costs n (needS n p q) p).sum) H') ∧ ∀ x v rest, barL n p q = (x, v) :: rest → Flies H E CN "node" "NoWay" (vi x)
def spSameTB (K : PySem.W.Frag) (CS : Addr) : Sp := fun vs H Q E => ∃ (a b : Addr) (n m : Nat) (p q r r' : Nat → Nat), vs = [.ref a, .ref b] ∧ Two K H a b n m p q r r' ∧ ((n ≠ m ∧ Flies H E CS "size" "SizesDiffer" (vi m)) ∨ (n = m ∧ ∀ H', Same H H' → Q (.bl (decide (∀ v, v < n → root p n v = root q n v))) H'))
def okSameT (n : Nat) (p q : Nat → Nat) (H : Hp) (Q : VK) (E : XK) : Prop := ∀ H', Same H H' → Q (.bl (decide (∀ v, v < n → root p n v = root q n v))) H'
/-- whether an integer is a needed node -/
def needZ (n : Nat) (p q : Nat → Nat) (x : Int) : Bool := decide (0 ≤ x ∧ x < (n : Int)) && needB n p q x.toNat
def barZ (n : Nat) (p q : Nat → Nat) (x y : Int) : Bool := (barL n p q).any fun b => decide (x = (b.1 : Int)) && decide (y = (b.2 : Int))
def spIsNB (K : PySem.W.Frag) (CS CR : Addr) : Sp := fun vs H Q E => ∃ (a b : Addr) (n m : Nat) (p q r r' : Nat → Nat) (x : Int), vs = [.ref a, .ref b, .int x] ∧ Two K H a b n m p q r r' ∧ WayE CS CR n m p q H E (∀ H', Same H H' → Q (.bl (needZ n p q x)) H')
def spHoldsB (K : PySem.W.Frag) (CS CR : Addr) : Sp := fun vs H Q E => ∃ (a b c : Addr) (n m : Nat) (p q r r' : Nat → Nat) (x y : Int), vs = [.ref a, .ref b, .ref c] ∧ SqT K H c [.int x, .int y] ∧ Two K H a b n m p q r r' ∧ WayE CS CR n m p q H E (∀ H', Same H H' → Q (.bl (barZ n p q x y)) H')
def spBarr (K : PySem.W.Frag) : Sp := fun vs H Q _ => ∃ (a b : Addr) (n : Nat) (p q r : Nat → Nat) (x : Nat), vs = [.ref a, .ref b, vi x] ∧ SqT K H a (tupOf n p) ∧ SqT K H b (tupOf n q) ∧ n ≤ 60 ∧ Fo n p r ∧ x < n ∧ ∀ (l : Addr) H', H l = none → H' l = some (.lst (natsV (barsOf n p q x))) → Same H H' → Q (.ref l) H'
def spFlat (K : PySem.W.Frag) : Sp := fun vs H Q _ => ∃ (a : Addr) (n : Nat) (p r : Nat → Nat), vs = [.ref a] ∧ SqT K H a (tupOf n p) ∧ n ≤ 60 ∧ Fo n p r ∧ ∀ (t : Addr) H', H t = none → H' t = some (.tup (tupOf n fun v => root p n v)) → Same H H' → Q (.ref t) H'
theorem path_cut (p : Nat → Nat) (k x : Nat) : cutV (natsV (path p k x)) none (some (-1)) = natsV (ups p k x) := cut_last _ _
theorem prt_vi {n : Nat} (h : n ≤ 2000000000) : Prt (vi n) := ⟨n, rfl, bits_ok (by omega) (by omega)⟩
theorem flat_first {β : Type} (f : Nat → List β) {b : β} {r : List β} : ∀ (l : List Nat) (i : Nat) (hi : i < l.length), (∀ j, j < i → f (l.getD j 0) = []) → f l[i] = b :: r → ∃ rest, l.flatMap f = b :: rest
  | [], i, hi, _, _ => by simp at hi
  | x :: l, 0, hi, _, h => ⟨r ++ l.flatMap f, by rw [List.flatMap_cons]; show f x ++ _ = _; rw [show f x = b :: r from h]; rfl⟩
  | x :: l, i + 1, hi, h0, h => by
    have hx : f x = [] := h0 0 (by omega)
    obtain ⟨rest, e⟩ := flat_first f l i (by simpa using hi) (fun j hj => h0 (j + 1) (by omega)) h
    exact ⟨rest, by rw [List.flatMap_cons, hx]; exact e⟩
theorem flat_none {β : Type} (f : Nat → List β) : ∀ (l : List Nat), (∀ j, j < l.length → f (l.getD j 0) = []) → l.flatMap f = []
  | [], _ => rfl
  | x :: l, h => by
    have hx : f x = [] := h 0 (by simp)
    rw [List.flatMap_cons, hx]
    exact flat_none f l fun j hj => h (j + 1) (by simpa using hj)
theorem inV_int (x : Int) : ∀ l : List Nat, inV (.int x) (natsV l) = l.any fun u => decide (x = (u : Int))
  | [] => rfl
  | y :: l => by
    have ih := inV_int x l
    unfold inV natsV at ih ⊢
    rw [List.map_cons, List.any_cons, List.any_cons, ih]
    by_cases e : x = (y : Int)
    · subst e; simp [eqV]
    · have h1 : eqV (vi y) (.int x) = false := by
        simp only [eqV]
        simp
        omega
      rw [h1, decide_eq_false e]
theorem barL_way {n : Nat} {p q : Nat → Nat} {r : Nat → Nat} (F : Fo n p r) : barL n p q = [] ↔ Way n p q := by
  unfold barL Way
  rw [List.flatMap_eq_nil_iff]
  constructor
  · intro h v hv hc u hu
    have h1 := h v (List.mem_filter.mpr ⟨List.mem_range.mpr hv, hc⟩)
    have h2 : barsOf n p q v = [] := List.map_eq_nil_iff.mp h1
    have h3 := List.filter_eq_nil_iff.mp h2 u hu
    rw [(ups_lt F v hv u hu).2.2.1]
    simpa using h3
  · intro h v hv
    obtain ⟨hv1, hv2⟩ := List.mem_filter.mp hv
    have hv1 := List.mem_range.mp hv1
    refine List.map_eq_nil_iff.mpr (List.filter_eq_nil_iff.mpr fun u hu => ?_)
    have h3 := h v hv1 hv2 u hu
    rw [(ups_lt F v hv1 u hu).2.2.1] at h3
    simpa using h3
theorem chgL_lt {n : Nat} {p q : Nat → Nat} {v : Nat} (h : v ∈ chgL n p q) : v < n := List.mem_range.mp (List.mem_filter.mp h).1
theorem chgL_len (n : Nat) (p q : Nat → Nat) : (chgL n p q).length ≤ n := filt_le n _
theorem nats_get {l : List Nat} {i : Nat} {y : V} (h : (natsV l)[i]? = some y) : ∃ hi : i < l.length, y = vi l[i] := by
  have hil : i < l.length := by have := (List.getElem?_eq_some_iff.mp h).1; rwa [natsV_len] at this
  unfold natsV at h
  rw [List.getElem?_map, List.getElem?_eq_getElem hil] at h
  exact ⟨hil, (Option.some.inj h).symm⟩
theorem any_mem {f g : Nat → Bool} : ∀ {l : List Nat}, (∀ x ∈ l, f x = g x) → l.any f = l.any g
  | [], _ => rfl
  | x :: l, h => by rw [List.any_cons, List.any_cons, h x List.mem_cons_self, any_mem fun y hy => h y (List.mem_cons_of_mem _ hy)]
/-- is_needed, by what is above -/
theorem need_any {n : Nat} {p q r : Nat → Nat} (F : Fo n p r) (hr : ∀ v, v < n → (p v = v ↔ q v = v)) {v : Nat} (hv : v < n) (hc : chg p q v = true) : (!((chgL n p q).map fun u => decide (v ≠ u) && decide (v ∈ path p n u)).any id) = needB n p q v := by
  have nr : p v ≠ v := fun z => by
    have := chg_iff.mp hc
    rw [z, (hr v hv).mp z] at this
    exact this rfl
  unfold needB
  rw [hc, Bool.true_and, List.any_map]
  unfold chgL
  rw [List.any_filter]
  congr 1
  refine any_mem fun u hu => ?_
  have hu := List.mem_range.mp hu
  show (chg p q u && (decide (v ≠ u) && decide (v ∈ path p n u))) = _
  have e : decide (v ∈ path p n u) = (ups p n u).contains v := by
    rw [Bool.eq_iff_iff, decide_eq_true_iff, List.contains_iff_mem]
    unfold path
    rw [List.mem_append, List.mem_singleton]
    constructor
    · rintro (h | h)
      · exact h
      · exact absurd (by rw [h]; exact root_fix F u hu) nr
    · exact .inl
  rw [e]
section
variable {P : Program} {w : World} {K : PySem.W.Frag} {mg : Str → Option Value} {base : Heap}
theorem out_no {X : Cx} {kk : Nat} {D : Lam X kk} {f C CF CM : Addr} {σ : L2.St} {H : Hp} {Q : VK} {x fld tag : Str} {v : V} {lv : Nat} (R : Raisable P w K mg base lv x C fld tag) (hex : PySem.W.exmAny K (.ref C) [.ref CF, .ref CM] = some true) (tg : TagOk tag fld) (hA : D.At f H)
    (hc : ∀ Ha E, Same H Ha → Flies Ha E C fld tag v → D.tb E σ Ha fun _ _ => False) (q : ∀ t H2, H t = none → Same H H2 → H2 t = some (.tup [.non, .str tag, v]) → Q (.ref t) H2) : TTout K CF CM (D.does f σ) H Q := by
  intro Ha sa
  refine ⟨fun cls d H1 => cls = .ref C ∧ ∃ dd, d = some dd ∧ H1 dd = some (.xd [(fld, v), ("tag", .str tag)]) ∧ Same Ha H1, fun _ _ => False, ⟨D.same hA (same_ext sa), hc Ha _ sa fun dd H1 n1 h1 s1 => ⟨rfl, dd, rfl, h1, s1⟩⟩, ?_, fun _ _ h => h.elim⟩
  rintro cls d H1 ⟨rfl, dd, rfl, hdd, s1⟩
  exact ⟨hex, tag, fld, v, ⟨C, dd, rfl, R.xf, R.nt, R.nf, rfl, hdd⟩, tg, fun t H2 n s2 e => q t H2 (sm_none (sa.trans s1) n) ((sa.trans s1).trans s2) e⟩
end
section
variable {P : Program} {w : World} {K : PySem.W.Frag} {mg : Str → Option Value} {base : Heap}
theorem out_yes {X : Cx} {kk : Nat} {D : Lam X kk} {f CF CM : Addr} {σ : L2.St} {H : Hp} {Q : VK} (Q1 : Hp → VK) (hA : D.At f H) (hc : ∀ Ha, Same H Ha → D.tb (fun _ _ _ => False) σ Ha (Q1 Ha))
    (q : ∀ Ha v H1, Same H Ha → Q1 Ha v H1 → ∀ t H2, H1 t = none → Same H1 H2 → H2 t = some (.tup [v, .str "", .non]) → Q (.ref t) H2) : TTout K CF CM (D.does f σ) H Q := by
  intro Ha sa
  exact ⟨fun _ _ _ => False, Q1 Ha, ⟨D.same hA (same_ext sa), hc Ha sa⟩, fun _ _ _ h => h.elim, fun v H1 h t H2 n s2 e => q Ha v H1 sa h t H2 n s2 e⟩
end
section
variable {P : Program} {w : World} {K : PySem.W.Frag} {mg : Str → Option Value} {base : Heap}
/-- what is asked answers -/
theorem ask_yes {X : Cx} {kk : Nat} {D : Lam X kk} {f CF CM : Addr} {σ : L2.St} {H : Hp} {Q : VK} (hA : D.At f H) (hc : ∀ Ha, Same H Ha → D.tb (fun _ _ _ => False) σ Ha fun _ H1 => Same Ha H1)
    (q : ∀ t H2, H t = none → Same H H2 → H2 t = some (.tup [.str "", .non]) → Q (.ref t) H2) : TTerr K CF CM (D.does f σ) H Q := by
  intro Ha sa
  exact ⟨fun _ _ _ => False, fun _ H1 => Same Ha H1, ⟨D.same hA (same_ext sa), hc Ha sa⟩, fun _ _ _ h => h.elim, fun v H1 h t H2 n s2 e => q t H2 (sm_none (sa.trans h) n) ((sa.trans h).trans s2) e⟩
end
section
variable {P : Program} {w : World} {K : PySem.W.Frag} {mg : Str → Option Value} {base : Heap}
/-- a list of lambdas, each answering -/
theorem asks_yes {X : Cx} {kk j : Nat} (σ : L2.St) {H : Hp} {CF CM la D : Addr} (fs : List Addr) {Qd : Hp → Prop} (hl : H la = some (.lst (fs.map V.ref))) (nD : H D = none) (hj : j < σ.length) (hm : fs.length ≤ 1000)
    (hf : ∀ f ∈ fs, ∃ L : Lam X kk, L.At f H ∧ ∀ Ha, Same H Ha → L.tb (fun _ _ _ => False) σ Ha fun _ H1 => Same Ha H1)
    (q : ∀ (ts : List Addr) H1, ts.length = fs.length → H1 D = some (.lst (ts.map V.ref)) → (∀ t ∈ ts, H1 t = some (.tup [.str "", .non])) → Same H H1 → Qd H1) :
    ∃ W : Nat → Nat → Hp → Prop, (∃ m, W 0 m (upd H D (.lst []))) ∧ ∀ i m H, W i m H →
      ((Itl K la).stop i H ∧ Qd H) ∨ ((Itl K la).go i H ∧ ∃ Nx : Hp → Prop, (∀ H', Nx H' → ∃ m', m' < m ∧ W (i + 1) m' H') ∧ ∀ x H', (Itl K la).yld i H x H' → gName j x (wipe σ [j]) H' fun σ2 H2 => wipe σ2 [j] = wipe σ [j] ∧ tYes σ2 H2 fun b H3 =>
        if b = true then (∃ (f : Addr) (L : Lam X kk), σ2[j]? = some (some (.ref f)) ∧ TTerr K CF CM (L.does f σ) H3 fun y H4 => ∃ acc, H4 D = some (.lst acc) ∧ acc.length < sizeLine ∧ Nx (upd H4 D (.lst (acc ++ [y])))) else Nx H3) := by
  refine lc_list (K := K) (a := la) (xs := fs.map V.ref) (g := gName j) (tt := tYes) (te := fun σ1 H1 Q => ∃ (f : Addr) (D : Lam X kk), σ1[j]? = some (some (.ref f)) ∧ TTerr K CF CM (D.does f σ) H1 Q) (vs := [j]) (σ := σ) (Qd := Qd) (fun i H1 => ∃ ts : List Addr, ts.length = i ∧ H1 D = some (.lst (ts.map V.ref)) ∧ (∀ t ∈ ts, H1 t = some (.tup [.str "", .non])) ∧ Same H H1)
    ⟨[], rfl, upd_same, by simp, same_new nD⟩ (fun i H1 _ h => h.elim fun ts h => SqL.of (h.2.2.2 _ _ hl)) ?_ ?_
  · rintro k y H1 hy ⟨ts, hlen, hD, hts, s1⟩
    rw [List.getElem?_map] at hy
    obtain ⟨f, hff, rfl⟩ := Option.map_eq_some_iff.mp hy
    obtain ⟨L, hA, hc⟩ := hf f (List.mem_of_getElem? hff)
    have hk : k < fs.length := (List.getElem?_eq_some_iff.mp hff).1
    refine ⟨wipe_one, f, L, List.getElem?_set_self (by rw [wipe_length]; exact hj), ?_⟩
    refine ask_yes (L.same hA (same_ext s1)) (fun Ha sa => hc Ha (s1.trans sa)) fun t H2 nt s2 e => ?_
    have nDt : t ≠ D := (ne_of_none hD nt).symm
    refine ⟨_, s2 _ _ hD, by rw [List.length_map, hlen]; exact Nat.lt_of_le_of_lt (show k ≤ 1000 by omega) (by decide), ts ++ [t], by rw [List.length_append, hlen]; rfl, by rw [upd_same, List.map_append]; rfl, fun t2 h2 => ?_, same_over (s1.trans s2) nD⟩
    rcases List.mem_append.mp h2 with h2 | h2
    · have e2 := hts t2 h2
      rw [upd_ne (ne_of e2 hD (by intro z; cases z))]
      exact s2 _ _ e2
    · rw [List.mem_singleton.mp h2, upd_ne nDt]
      exact e
  · rintro H1 ⟨ts, hlen, hD, hts, s1⟩
    rw [List.length_map] at hlen
    exact q ts H1 hlen hD hts s1
end
section
variable {P : Program} {w : World} {K : PySem.W.Frag} {mg : Str → Option Value} {base : Heap}
/-- the same tuple many times, as data -/
def dReps (m : Nat) (d : PyData) : PyData := .list (List.replicate m d)
end
section
variable {P : Program} {w : World} {K : PySem.W.Frag} {mg : Str → Option Value} {base : Heap}
theorem dp_reps {H : Hp} {xs : List V} {ds : List PyData} (hd : DpAll K H xs ds) : ∀ {ts : List Addr}, (∀ t ∈ ts, H t = some (.tup xs)) → DpAll K H (ts.map V.ref) (List.replicate ts.length (.tuple ds))
  | [], _ => .nil
  | t :: r, h => .cons (.tup (SqT.of (h t List.mem_cons_self)) hd) (dp_reps hd fun u hu => h u (List.mem_cons_of_mem _ hu))
end
section
variable {P : Program} {w : World} {K : PySem.W.Frag} {mg : Str → Option Value} {base : Heap}
theorem shaped_reps {m : Nat} {tag : Str} (h : PyData.strOk tag = true) (hm : m ≤ 8) {d : PyData} (hd : d = .none ∨ ∃ z, d = .int z) : SeqAt.shaped (dReps m (.tuple [.str tag, d])) = true := by
  unfold SeqAt.shaped dReps
  have e : ∀ m, PyData.canLayAll0 (List.replicate m (.tuple [.str tag, d])) = true ∧ PyData.depthAll (List.replicate m (.tuple [.str tag, d])) ≤ 2 := by
    intro m
    induction m with
    | zero => exact ⟨by simp [PyData.canLayAll0], by simp [PyData.depthAll]⟩
    | succ m ih =>
      obtain ⟨i1, i2⟩ := ih
      rw [List.replicate_succ]
      refine ⟨?_, ?_⟩
      · rcases hd with rfl | ⟨z, rfl⟩ <;> simp [PyData.canLay0, PyData.canLayAll0, h, i1]
      · rcases hd with rfl | ⟨z, rfl⟩ <;> (rw [PyData.depthAll]; simp only [PyData.depth, PyData.depthAll]; omega)
  obtain ⟨e1, e2⟩ := e m
  simp [PyData.canLay0, PyData.depth, e1]
  omega
end
/-- one given by its place, one by its keyword -/
def swA {α : Type} : List α → List α → List α
  | [a], [b] => [a, b]
  | _, _ => []
theorem swA_rel {vs : List V} {us : List Value} {zs : List V} {ws : List Value} (r : Vals vs us) (s : Vals zs ws) : Vals (swA vs zs) (swA us ws) := by
  cases r with
  | nil => exact .nil
  | cons h1 t1 =>
    cases t1 with
    | cons _ _ => exact .nil
    | nil =>
      cases s with
      | nil => exact .nil
      | cons h2 t2 =>
        cases t2 with
        | nil => exact .cons h1 (.cons h2 .nil)
        | cons _ _ => exact .nil
theorem fun_swA {K : PySem.W.Frag} {x qual : Str} {st : Stmt} {f : Addr} {fd : FuncData} {a b : Str} (F : Fun K x qual st f fd)
    (h : ∀ (kV doc pm : Value) (an : Option Addr) (cdv ct : Value) (u v : Value), bindArgs (PySem.W.fnOf x qual (defArgs st) (defBody st) (defScope st) .none kV doc pm an cdv ct) ⟨[u], [(b, v)]⟩ = pure [(a, u), (b, v)]) : KBinds K fd [a, b] [b] swA swA := by
  obtain ⟨oc, od, kV, doc, pm, an, cdv, ct, osl, rfl, lk, hcd⟩ := F.ex
  refine ⟨fun s us ws _ hl => ?_, swA_rel⟩
  match us, ws, hl with
  | [u], [v], _ => exact .of_eq (h kV doc pm an cdv ct u v)
/-- a list of pairs of ints, each a tuple -/
inductive PrL (H : Hp) : List V → List (Int × Int) → Prop
  | nil : PrL H [] []
  | cons {t : Addr} {xs : List V} {x y : Int} {ps : List (Int × Int)} (h : H t = some (.tup [.int x, .int y])) (r : PrL H xs ps) : PrL H (.ref t :: xs) ((x, y) :: ps)
theorem PrL.same {H H' : Hp} {xs : List V} {ps : List (Int × Int)} (h : PrL H xs ps) (s : Same H H') : PrL H' xs ps := by
  induction h with
  | nil => exact .nil
  | cons h r ih => exact .cons (s _ _ h) ih
theorem PrL.ext {H H' : Hp} {xs : List V} {ps : List (Int × Int)} (h : PrL H xs ps) (s : ExtN H H') : PrL H' xs ps := by
  induction h with
  | nil => exact .nil
  | cons h r ih => exact .cons (s _ _ h (by intro ps z; cases z)) ih
theorem PrL.sb {H H' : Hp} {d : Addr} {xs : List V} {ps : List (Int × Int)} (h : PrL H xs ps) (s : Sb d H H') (hd : ∃ ys, H d = some (.lst ys)) : PrL H' xs ps := by
  obtain ⟨ys, hd⟩ := hd
  induction h with
  | nil => exact .nil
  | cons h r ih => exact .cons (s _ _ (ne_of h hd (by intro z; cases z)) h) ih
theorem PrL.upd {H : Hp} {D : Addr} {acc acc' : List V} {xs : List V} {ps : List (Int × Int)} (h : PrL H xs ps) (hD : H D = some (.lst acc)) : PrL (L2.upd H D (.lst acc')) xs ps := by
  induction h with
  | nil => exact .nil
  | cons h r ih => exact .cons (by rw [upd_ne (ne_of h hD (by intro z; cases z))]; exact h) ih
theorem PrL.len {H : Hp} {xs : List V} {ps : List (Int × Int)} (h : PrL H xs ps) : xs.length = ps.length := by
  induction h with
  | nil => rfl
  | cons h r ih => simp [ih]
theorem PrL.app {H : Hp} {xs ys : List V} {ps qs : List (Int × Int)} (h : PrL H xs ps) (h2 : PrL H ys qs) : PrL H (xs ++ ys) (ps ++ qs) := by
  induction h with
  | nil => exact h2
  | cons h r ih => exact .cons h ih
theorem PrL.get {H : Hp} {xs : List V} {ps : List (Int × Int)} (h : PrL H xs ps) : ∀ {i : Nat} {v : V}, xs[i]? = some v → ∃ t x y, v = .ref t ∧ ps[i]? = some (x, y) ∧ H t = some (.tup [.int x, .int y]) := by
  induction h with
  | nil => intro i v e; simp at e
  | cons h r ih =>
    intro i v e
    cases i with
    | zero => exact ⟨_, _, _, (Option.some.inj e).symm, rfl, h⟩
    | succ i => exact ih e
theorem PrL.take {H : Hp} {xs : List V} {ps : List (Int × Int)} (h : PrL H xs ps) : ∀ k : Nat, PrL H (xs.take k) (ps.take k) := by
  induction h with
  | nil => intro k; simp; exact .nil
  | cons h r ih =>
    intro k
    cases k with
    | zero => exact .nil
    | succ k => exact .cons h (ih k)
theorem PrL.drop {H : Hp} {xs : List V} {ps : List (Int × Int)} (h : PrL H xs ps) : ∀ k : Nat, PrL H (xs.drop k) (ps.drop k) := by
  induction h with
  | nil => intro k; simp; exact .nil
  | cons h r ih =>
    intro k
    cases k with
    | zero => exact .cons h r
    | succ k => exact ih k
def prD (p : Int × Int) : PyData := .tuple [.int p.1, .int p.2]
theorem PrL.dp {K : PySem.W.Frag} {H : Hp} {xs : List V} {ps : List (Int × Int)} (h : PrL H xs ps) : DpAll K H xs (ps.map prD) := by
  induction h with
  | nil => exact .nil
  | cons h r ih => exact .cons (.tup (SqT.of h) (.cons (.int _) (.cons (.int _) .nil))) ih
theorem prs_lay : ∀ ps : List (Int × Int), PyData.canLayAll0 (ps.map prD) = true ∧ PyData.depthAll (ps.map prD) ≤ 2
  | [] => ⟨by simp [PyData.canLayAll0], by simp [PyData.depthAll]⟩
  | p :: ps => by
    obtain ⟨i1, i2⟩ := prs_lay ps
    rw [List.map_cons]
    refine ⟨by simp [prD, PyData.canLay0, PyData.canLayAll0, i1], ?_⟩
    rw [PyData.depthAll]
    simp only [prD, PyData.depth, PyData.depthAll] at i2 ⊢
    omega
theorem shaped_prs (ps : List (Int × Int)) : SeqAt.shaped (.list (ps.map prD)) = true := by
  obtain ⟨e1, e2⟩ := prs_lay ps
  unfold SeqAt.shaped
  simp [PyData.canLay0, PyData.depth, e1]
  omega
theorem shaped_pr (p : Int × Int) : SeqAt.shaped (prD p) = true := by
  unfold SeqAt.shaped prD
  simp [PyData.canLay0, PyData.canLayAll0, PyData.depth, PyData.depthAll]
theorem eqv_pr (p q : Int × Int) : PyData.eqv (prD p) (prD q) = decide (p = q) := by
  obtain ⟨a, b⟩ := p
  obtain ⟨c, d⟩ := q
  unfold prD
  simp [PyData.eqv, PyData.eqvAll, Prod.mk.injEq]
  rfl
theorem eqv_prs_nil : ∀ ps : List (Int × Int), PyData.eqv (.list (ps.map prD)) (.list []) = decide (ps = [])
  | [] => by simp [PyData.eqv, PyData.eqvAll]
  | p :: ps => by simp [PyData.eqv, PyData.eqvAll]
theorem any_prs (ps : List (Int × Int)) (p : Int × Int) : ((ps.map prD).any fun z => PyData.eqv z (prD p)) = decide (p ∈ ps) := by
  rw [Bool.eq_iff_iff, List.any_map, List.any_eq_true, decide_eq_true_iff]
  constructor
  · rintro ⟨x, hx, e⟩
    have e : PyData.eqv (prD x) (prD p) = true := e
    rw [eqv_pr] at e
    rw [← of_decide_eq_true e]; exact hx
  · intro h
    exact ⟨p, h, by show PyData.eqv (prD p) (prD p) = true; rw [eqv_pr]; simp⟩
theorem sm_prs {k : Nat} {ps : List (Int × Int)} (h : ps.length ≤ 1000) : Sm (k + 2) (.list (ps.map prD)) := by
  refine .lst (by rw [List.length_map]; exact h) fun d hd => ?_
  obtain ⟨p, _, e⟩ := List.mem_map.mp hd
  rw [← e]
  refine .tup (by show 2 ≤ 1000; decide) fun x hx => ?_
  simp only [List.mem_cons, List.not_mem_nil, or_false] at hx
  rcases hx with z | z <;> rw [z] <;> exact .int _ _
end Ff

namespace Ff
open PySem PySem.Spec PyProof.Rows L2 ExX LamX
abbrev sE_TooManyNodes : Stmt := topS 6
theorem scE_TooManyNodes : FnScope ["self", "limit"] ["self", "limit"] (defScope (initS sE_TooManyNodes)) := ⟨rfl, rfl, rfl, by decide +kernel, rfl, by decide +kernel, by decide +kernel⟩
abbrev sE_BadParent : Stmt := topS 4
theorem scE_BadParent : FnScope ["self", "node"] ["self", "node"] (defScope (initS sE_BadParent)) := ⟨rfl, rfl, rfl, by decide +kernel, rfl, by decide +kernel, by decide +kernel⟩
abbrev sE_Cycle : Stmt := topS 5
theorem scE_Cycle : FnScope ["self", "node"] ["self", "node"] (defScope (initS sE_Cycle)) := ⟨rfl, rfl, rfl, by decide +kernel, rfl, by decide +kernel, by decide +kernel⟩
abbrev sE_ParseError : Stmt := topS 7
theorem scE_ParseError : FnScope ["self", "pos"] ["self", "pos"] (defScope (initS sE_ParseError)) := ⟨rfl, rfl, rfl, by decide +kernel, rfl, by decide +kernel, by decide +kernel⟩
section
variable {P : Program} {w : World} {K : PySem.W.Frag} {mg : Str → Option Value} {base : Heap}
theorem ok_E_TooManyNodes {f fM CM : Addr} {fd fdM : FuncData} (F : Fun K "__init__" "TooManyNodes.__init__" (initS sE_TooManyNodes) f fd) (TM : ClsI K CM fM) (gM : mg "ForestError" = some (.ref CM)) (GM : FnOk P w K mg base CX0 1 fM fdM ["self", "tag", "message"] (spTop K "ValueError.__new__" vaTail)) (bM : Binds K fdM ["self", "tag", "message"] []) :
    FnOk P w K mg base CX0 2 f fd ["self", "limit"] (spErrI K "ValueError.__new__" vaTail "limit" "TooManyNodes") := by
  refine F.ok scE_TooManyNodes (fun vs H Q E h => ?_) (fun cdv A outer s H vs Q E hr h => ?_)
  · obtain ⟨a, C, v, rfl, _⟩ := h
    rfl
  · obtain ⟨a, C, v, rfl, ⟨i, rfl, hi⟩, ha, T, nt, nf, q⟩ := h
    refine ⟨_, pss_cons (ps_expr (pe_ci TM GM hr (by rfl) gM bM pass0 (pa_cons (pv 0) (pa_cons pe_str (pa_cons (pe_joined (.cons pe_str (.cons (pe_fmt (pv 1)) (.cons pe_str .nil)))) pa_nil)))))
      (pss_one (ps_st (nid := "ValueError.__new__") PySem.F.store_ValueError (pv 0) (pv 1))), ?_⟩
    have f0 : (Str.empty ++ Str.ofString "there are more than ").length ≤ 100 := by decide +kernel
    have f1 : (Str.ofString " nodes").length ≤ 100 := by decide +kernel
    have l1 := fits_cat f0 (txt_int hi)
    refine ⟨_, rfl, ⟨_, rfl, fits (by omega), _, rfl, .inr ⟨i, rfl, hi, _, rfl, fits (Nat.le_trans l1 (by decide)), _, rfl, fits (Nat.le_trans (fits_cat l1 f1) (by decide)), ?_⟩⟩⟩
    refine ⟨a, C, _, _, rfl, ha, T, nt, fun dx n ne => ⟨_, rfl, _, rfl, a, C, rfl, T, nf, .inr ⟨dx, _, upd_same, ?_, by show 1 ≤ 900; decide, q dx n ne⟩⟩⟩
    rw [upd_ne ne, upd_same]
theorem ok_E_BadParent {f fM CM : Addr} {fd fdM : FuncData} (F : Fun K "__init__" "BadParent.__init__" (initS sE_BadParent) f fd) (TM : ClsI K CM fM) (gM : mg "ForestError" = some (.ref CM)) (GM : FnOk P w K mg base CX0 1 fM fdM ["self", "tag", "message"] (spTop K "ValueError.__new__" vaTail)) (bM : Binds K fdM ["self", "tag", "message"] []) :
    FnOk P w K mg base CX0 2 f fd ["self", "node"] (spErrI K "ValueError.__new__" vaTail "node" "BadParent") := by
  refine F.ok scE_BadParent (fun vs H Q E h => ?_) (fun cdv A outer s H vs Q E hr h => ?_)
  · obtain ⟨a, C, v, rfl, _⟩ := h
    rfl
  · obtain ⟨a, C, v, rfl, ⟨i, rfl, hi⟩, ha, T, nt, nf, q⟩ := h
    refine ⟨_, pss_cons (ps_expr (pe_ci TM GM hr (by rfl) gM bM pass0 (pa_cons (pv 0) (pa_cons pe_str (pa_cons (pe_joined (.cons pe_str (.cons (pe_fmt (pv 1)) (.cons pe_str .nil)))) pa_nil)))))
      (pss_one (ps_st (nid := "ValueError.__new__") PySem.F.store_ValueError (pv 0) (pv 1))), ?_⟩
    have f0 : (Str.empty ++ Str.ofString "the parent of node ").length ≤ 100 := by decide +kernel
    have f1 : (Str.ofString " is no node").length ≤ 100 := by decide +kernel
    have l1 := fits_cat f0 (txt_int hi)
    refine ⟨_, rfl, ⟨_, rfl, fits (by omega), _, rfl, .inr ⟨i, rfl, hi, _, rfl, fits (Nat.le_trans l1 (by decide)), _, rfl, fits (Nat.le_trans (fits_cat l1 f1) (by decide)), ?_⟩⟩⟩
    refine ⟨a, C, _, _, rfl, ha, T, nt, fun dx n ne => ⟨_, rfl, _, rfl, a, C, rfl, T, nf, .inr ⟨dx, _, upd_same, ?_, by show 1 ≤ 900; decide, q dx n ne⟩⟩⟩
    rw [upd_ne ne, upd_same]
theorem ok_E_Cycle {f fM CM : Addr} {fd fdM : FuncData} (F : Fun K "__init__" "Cycle.__init__" (initS sE_Cycle) f fd) (TM : ClsI K CM fM) (gM : mg "ForestError" = some (.ref CM)) (GM : FnOk P w K mg base CX0 1 fM fdM ["self", "tag", "message"] (spTop K "ValueError.__new__" vaTail)) (bM : Binds K fdM ["self", "tag", "message"] []) :
    FnOk P w K mg base CX0 2 f fd ["self", "node"] (spErrI K "ValueError.__new__" vaTail "node" "Cycle") := by
  refine F.ok scE_Cycle (fun vs H Q E h => ?_) (fun cdv A outer s H vs Q E hr h => ?_)
  · obtain ⟨a, C, v, rfl, _⟩ := h
    rfl
  · obtain ⟨a, C, v, rfl, ⟨i, rfl, hi⟩, ha, T, nt, nf, q⟩ := h
    refine ⟨_, pss_cons (ps_expr (pe_ci TM GM hr (by rfl) gM bM pass0 (pa_cons (pv 0) (pa_cons pe_str (pa_cons (pe_joined (.cons pe_str (.cons (pe_fmt (pv 1)) (.cons pe_str .nil)))) pa_nil)))))
      (pss_one (ps_st (nid := "ValueError.__new__") PySem.F.store_ValueError (pv 0) (pv 1))), ?_⟩
    have f0 : (Str.empty ++ Str.ofString "the parents of node ").length ≤ 100 := by decide +kernel
    have f1 : (Str.ofString " do not lead to a root").length ≤ 100 := by decide +kernel
    have l1 := fits_cat f0 (txt_int hi)
    refine ⟨_, rfl, ⟨_, rfl, fits (by omega), _, rfl, .inr ⟨i, rfl, hi, _, rfl, fits (Nat.le_trans l1 (by decide)), _, rfl, fits (Nat.le_trans (fits_cat l1 f1) (by decide)), ?_⟩⟩⟩
    refine ⟨a, C, _, _, rfl, ha, T, nt, fun dx n ne => ⟨_, rfl, _, rfl, a, C, rfl, T, nf, .inr ⟨dx, _, upd_same, ?_, by show 1 ≤ 900; decide, q dx n ne⟩⟩⟩
    rw [upd_ne ne, upd_same]
theorem ok_E_ParseError {f fM CM : Addr} {fd fdM : FuncData} (F : Fun K "__init__" "ParseError.__init__" (initS sE_ParseError) f fd) (TM : ClsI K CM fM) (gM : mg "ForestError" = some (.ref CM)) (GM : FnOk P w K mg base CX0 1 fM fdM ["self", "tag", "message"] (spTop K "ValueError.__new__" vaTail)) (bM : Binds K fdM ["self", "tag", "message"] []) :
    FnOk P w K mg base CX0 2 f fd ["self", "pos"] (spErrI K "ValueError.__new__" vaTail "pos" "ParseError") := by
  refine F.ok scE_ParseError (fun vs H Q E h => ?_) (fun cdv A outer s H vs Q E hr h => ?_)
  · obtain ⟨a, C, v, rfl, _⟩ := h
    rfl
  · obtain ⟨a, C, v, rfl, ⟨i, rfl, hi⟩, ha, T, nt, nf, q⟩ := h
    refine ⟨_, pss_cons (ps_expr (pe_ci TM GM hr (by rfl) gM bM pass0 (pa_cons (pv 0) (pa_cons pe_str (pa_cons (pe_joined (.cons pe_str (.cons (pe_fmt (pv 1)) .nil))) pa_nil)))))
      (pss_one (ps_st (nid := "ValueError.__new__") PySem.F.store_ValueError (pv 0) (pv 1))), ?_⟩
    have f0 : (Str.empty ++ Str.ofString "the text cannot be parsed at ").length ≤ 100 := by decide +kernel
    refine ⟨_, rfl, ⟨_, rfl, fits (by omega), _, rfl, .inr ⟨i, rfl, hi, _, rfl, fits (Nat.le_trans (fits_cat f0 (txt_int hi)) (by decide)), ?_⟩⟩⟩
    refine ⟨a, C, _, _, rfl, ha, T, nt, fun dx n ne => ⟨_, rfl, _, rfl, a, C, rfl, T, nf, .inr ⟨dx, _, upd_same, ?_, by show 1 ≤ 900; decide, q dx n ne⟩⟩⟩
    rw [upd_ne ne, upd_same]
end
end Ff

namespace Ff
open PySem PySem.Spec PyProof.Rows L2 ExX LamX
def rLeS : R2 := fun x y H Q => ∃ i j, x = V.str i ∧ y = V.str j ∧ Q (.bl (!decide (j.cps.toList < i.cps.toList))) H
/-- a letter from a to z -/
def letB (c : Nat) : Bool := (!decide ([c] < [97])) && (!decide ([122] < [c]))
def nameB (z : Str) : Bool := decide (1 ≤ z.length) && decide (z.length ≤ 6) && z.cps.toList.all letB
theorem lc_str {z : Str} {g : TG} {tt : TT} {te : TE} {vs : List Nat} {σ : L2.St} {H1 : Hp} {D : Addr} {Qd : Hp → Prop} (Pv : Nat → Hp → Prop) (h0 : Pv 0 (upd H1 D (.lst [])))
    (hs : ∀ i c H, z.cps.toList[i]? = some c → Pv i H → g (.str ⟨#[c]⟩) (wipe σ vs) H fun σ2 H2 => wipe σ2 vs = wipe σ vs ∧ tt σ2 H2 fun b H3 =>
      if b = true then te σ2 H3 fun y H4 => ∃ acc, H4 D = some (.lst acc) ∧ acc.length < sizeLine ∧ Pv (i + 1) (upd H4 D (.lst (acc ++ [y]))) else Pv (i + 1) H3) (hd : ∀ H, Pv z.cps.toList.length H → Qd H) :
    ∃ W : Nat → Nat → Hp → Prop, (∃ m, W 0 m (upd H1 D (.lst []))) ∧ ∀ i m H, W i m H →
      ((Its z).stop i H ∧ Qd H) ∨ ((Its z).go i H ∧ ∃ Nx : Hp → Prop, (∀ H', Nx H' → ∃ m', m' < m ∧ W (i + 1) m' H') ∧ ∀ x H', (Its z).yld i H x H' → g x (wipe σ vs) H' fun σ2 H2 => wipe σ2 vs = wipe σ vs ∧ tt σ2 H2 fun b H3 =>
        if b = true then te σ2 H3 fun y H4 => ∃ acc, H4 D = some (.lst acc) ∧ acc.length < sizeLine ∧ Nx (upd H4 D (.lst (acc ++ [y]))) else Nx H3) := by
  refine ⟨fun i m H => m = z.cps.toList.length - i ∧ i ≤ z.cps.toList.length ∧ Pv i H, ⟨z.cps.toList.length, by simp, Nat.zero_le _, h0⟩, ?_⟩
  rintro i m H ⟨rfl, hi, p⟩
  have hsz : z.cps.toList.length = z.cps.size := Array.length_toList
  by_cases hlt : i < z.cps.toList.length
  · refine .inr ⟨show i < z.cps.size by omega, Pv (i + 1), fun H' p' => ⟨z.cps.toList.length - (i + 1), by omega, rfl, hlt, p'⟩, fun v H' y => ?_⟩
    obtain ⟨rfl, c, hc, rfl⟩ := y
    exact hs i c H' (by rw [Array.getElem?_toList]; exact hc) p
  · have e : i = z.cps.toList.length := by omega
    subst e
    exact .inl ⟨show z.cps.size ≤ z.cps.toList.length by omega, hd H p⟩
theorem cps_a : (Str.ofString "a").cps.toList = [97] := by decide +kernel
theorem cps_z : (Str.ofString "z").cps.toList = [122] := by decide +kernel
def spIsNm : Sp := fun vs H Q _ => ∃ z : Str, vs = [.str z] ∧ z.length ≤ 1000 ∧ ∀ H', Same H H' → Q (.bl (nameB z)) H'
section
variable {P : Program} {w : World} {K : PySem.W.Frag} {mg : Str → Option Value} {base : Heap}
end
end Ff

namespace Ff
open PySem PySem.Spec PyProof.Rows L2 ExX LamX
abbrev sPaI : Stmt := topS 15
abbrev paIN : List Str := ["text", "digits", "digit", "number"]
theorem scPaI : FnScope paIN ["text"] (defScope sPaI) := ⟨rfl, rfl, rfl, by decide +kernel, rfl, by decide +kernel, by decide +kernel⟩
/-! any text, read as an integer -/
theorem starts_no {c : Nat} {r : List Nat} (h : c ≠ 45) : Txt.startswith (SX.S (c :: r)) ("-" : Str) = false := by
  unfold Txt.startswith
  rw [StrLaws.subAt_eq]
  have : ((SX.S (c :: r)).cps.toList.drop 0).take ("-" : Str).length = [c] := by
    rw [show ("-" : Str).length = 1 by decide +kernel]; rfl
  rw [this, show ("-" : Str).cps.toList = [45] by decide +kernel]
  have : ([c] == [45]) = false := by simp [h]
  rw [this, Bool.and_false]
theorem starts_yes {r : List Nat} : Txt.startswith (SX.S (45 :: r)) ("-" : Str) = true := by
  unfold Txt.startswith
  rw [StrLaws.subAt_eq]
  have : ((SX.S (45 :: r)).cps.toList.drop 0).take ("-" : Str).length = [45] := by
    rw [show ("-" : Str).length = 1 by decide +kernel]; rfl
  rw [this, show ("-" : Str).cps.toList = [45] by decide +kernel, show ("-" : Str).length = 1 by decide +kernel, SX.S_len, List.length_cons]
  simp
theorem starts_nil : Txt.startswith (SX.S []) ("-" : Str) = false := by decide +kernel
/-- what stands behind a minus sign -/
def digsL : List Nat → List Nat
  | 45 :: r => r
  | l => l
def negB : List Nat → Bool
  | 45 :: _ => true
  | _ => false
def dgB (c : Nat) : Bool := decide (48 ≤ c) && decide (c ≤ 57)
def valL (l : List Nat) : Int := if negB l = true then -((NumText.digitsVal (digsL l) : Nat) : Int) else ((NumText.digitsVal (digsL l) : Nat) : Int)
/-- the integer that a text writes -/
def intD (l : List Nat) : Option Int := if (decide (1 ≤ (digsL l).length) && decide ((digsL l).length ≤ 31) && (digsL l).all dgB) = true then (if intL (valL l) = l then some (valL l) else none) else none
theorem dgB_of {c : Nat} (h : 48 ≤ c ∧ c ≤ 57) : dgB c = true := by
  unfold dgB
  rw [decide_eq_true h.1, decide_eq_true h.2]; rfl
theorem dgB_mem {l : List Nat} (h : l.all dgB = true) : ∀ c ∈ l, 48 ≤ c ∧ c ≤ 57 := fun c hc => by
  have := List.all_eq_true.mp h c hc
  unfold dgB at this
  rwa [Bool.and_eq_true, decide_eq_true_eq, decide_eq_true_eq] at this
theorem digs_cases (l : List Nat) : (∃ r, l = 45 :: r ∧ digsL l = r ∧ negB l = true) ∨ ((∀ r, l ≠ 45 :: r) ∧ digsL l = l ∧ negB l = false) := by
  cases l with
  | nil => exact .inr ⟨fun r h => (by cases h), rfl, rfl⟩
  | cons c r =>
    by_cases h : c = 45
    · subst h
      exact .inl ⟨r, rfl, rfl, rfl⟩
    · refine .inr ⟨fun r' z => h (by injection z), ?_, ?_⟩
      · unfold digsL
        split
        · rename_i z; injection z with z; exact absurd z h
        · rfl
      · unfold negB
        split
        · rename_i z; injection z with z; exact absurd z h
        · rfl
theorem intD_intL {z : Int} (h : z.natAbs < 10 ^ 31) : intD (intL z) = some z := by
  have hl := TL.numL_len (n := z.natAbs) (k := 31) (by decide) h
  have hp := List.length_pos_iff.mpr (TL.numL_ne z.natAbs)
  have hall : (TL.numL z.natAbs).all dgB = true := List.all_eq_true.mpr fun c hc => dgB_of (TL.numL_digits _ _ hc)
  have e : digsL (intL z) = TL.numL z.natAbs ∧ negB (intL z) = decide (z < 0) := by
    by_cases hz : z < 0
    · rw [intL_neg hz, decide_eq_true hz]; exact ⟨rfl, rfl⟩
    · rw [intL_digits hz, decide_eq_false hz]
      rcases digs_cases (TL.numL z.natAbs) with ⟨r, h1, _⟩ | ⟨_, h2, h3⟩
      · have := TL.numL_digits z.natAbs 45 (by rw [h1]; exact List.mem_cons_self)
        omega
      · exact ⟨h2, h3⟩
  have ev : valL (intL z) = z := by
    unfold valL
    rw [e.1, e.2, TL.numL_val]
    by_cases hz : z < 0
    · rw [decide_eq_true hz, if_pos rfl]; omega
    · rw [decide_eq_false hz, if_neg (by decide)]; omega
  unfold intD
  rw [e.1, if_pos (by rw [hall, decide_eq_true (show 1 ≤ (TL.numL z.natAbs).length from hp), decide_eq_true hl]; rfl), ev, if_pos rfl]
theorem digits_lt : ∀ (l : List Nat) (a : Nat), (∀ c ∈ l, 48 ≤ c ∧ c ≤ 57) → l.foldl (fun n c => n * 10 + (c - 48)) a < (a + 1) * 10 ^ l.length
  | [], a, _ => by simp
  | c :: l, a, h => by
    have hc := h c List.mem_cons_self
    have := digits_lt l (a * 10 + (c - 48)) fun d hd => h d (List.mem_cons_of_mem _ hd)
    rw [List.foldl_cons, List.length_cons, Nat.pow_succ]
    refine Nat.lt_of_lt_of_le this ?_
    rw [show (a + 1) * (10 ^ l.length * 10) = ((a + 1) * 10) * 10 ^ l.length by rw [Nat.mul_comm (10 ^ l.length) 10, ← Nat.mul_assoc]]
    exact Nat.mul_le_mul_right _ (by omega)
theorem digitsVal_lt {l : List Nat} (h : ∀ c ∈ l, 48 ≤ c ∧ c ≤ 57) : NumText.digitsVal l < 10 ^ l.length := by
  have := digits_lt l 0 h
  rwa [Nat.zero_add, Nat.one_mul] at this
theorem valL_abs (l : List Nat) : (valL l).natAbs = NumText.digitsVal (digsL l) := by
  unfold valL
  split <;> omega
theorem valL_lt {l : List Nat} (h1 : (digsL l).length ≤ 31) (h2 : ∀ c ∈ digsL l, 48 ≤ c ∧ c ≤ 57) : (valL l).natAbs < 10 ^ 31 := by
  rw [valL_abs]
  exact Nat.lt_of_lt_of_le (digitsVal_lt h2) (Nat.pow_le_pow_right (by decide) h1)
theorem intD_some {l : List Nat} {z : Int} (h : intD l = some z) : l = intL z ∧ z.natAbs < 10 ^ 31 := by
  unfold intD at h
  split at h
  · rename_i hc
    rw [Bool.and_eq_true, Bool.and_eq_true, decide_eq_true_eq, decide_eq_true_eq] at hc
    split at h
    · rename_i he
      injection h with h
      subst h
      exact ⟨he.symm, valL_lt hc.1.2 (dgB_mem hc.2)⟩
    · cases h
  · cases h
theorem valL_reads {l : List Nat} (h0 : 1 ≤ (digsL l).length) (h1 : (digsL l).length ≤ 31) (h2 : (digsL l).all dgB = true) : PySem.intText? (SX.S l) = some (valL l) := by
  have hd := dgB_mem h2
  have hne : digsL l ≠ [] := fun z => by rw [z] at h0; exact absurd h0 (by decide)
  rcases digs_cases l with ⟨r, e1, e2, e3⟩ | ⟨_, e2, e3⟩
  · have e := PySem.intText_neg (x := SX.S l) (cs := digsL l) (by show l = _; rw [e2]; exact e1) hd hne (by rw [SX.S_len, e1, List.length_cons, ← e2]; omega)
    rw [e]
    unfold valL
    rw [e3, if_pos rfl]
  · have e := PySem.intText_digits (x := SX.S l) (by show NumText.AllDigits l; rw [← e2]; exact hd) (by show l ≠ []; rw [← e2]; exact hne) (by rw [SX.S_len, ← e2]; omega)
    rw [e]
    unfold valL
    rw [e3, if_neg (by decide), e2]
theorem log_sml {z : Int} (h : z.natAbs < 10 ^ 31) : z.natAbs.log2 < 1920 := by
  by_cases h0 : z.natAbs = 0
  · rw [h0]; decide
  · exact (Nat.log2_lt h0).mpr (Nat.lt_trans h (by decide +kernel))
theorem starts_neg (l : List Nat) : Txt.startswith (SX.S l) ("-" : Str) = negB l := by
  rcases digs_cases l with ⟨r, e1, e2, e3⟩ | ⟨e1, e2, e3⟩
  · rw [e3, e1, starts_yes]
  · rw [e3]
    cases l with
    | nil => exact starts_nil
    | cons c r => exact starts_no fun z => e1 r (by rw [z])
def spPaIB (CP : Addr) : Sp := fun vs H Q E => ∃ l : List Nat, vs = [.str (SX.S l)] ∧ l.length ≤ 1000000 ∧ ∀ H', Same H H' → match intD l with
  | some z => Q (.int z) H'
  | none => Flies H' E CP "pos" "ParseError" (.int 0)
section
variable {P : Program} {w : World} {K : PySem.W.Frag} {mg : Str → Option Value} {base : Heap} {CP : Addr}
theorem okB_paI {f : Addr} {fd : FuncData} (F : Fun K "parse_integer" "parse_integer" sPaI f fd) (RP : Raisable P w K mg base 2 "ParseError" CP "pos" "ParseError") (T : Tx mg) (TS : TxS mg) (z_all : mg "all" = none) {tD : Tok} (gMD : mg "MAX_DIGITS" = some (.int 31 tD)) : FnOk P w K mg base (L2N.CX P w) 4 f fd ["text"] (spPaIB CP) := by
  refine okN F scPaI (fun vs H Q E h => ?_) (fun cdv A outer s H vs Q E hr h tk => ?_)
  · obtain ⟨l, rfl, _⟩ := h
    rfl
  · obtain ⟨l, rfl, hl, q⟩ := h
    have hrm : ∀ {j : Nat}, j ≤ 3 → Room j (A.deeper (envOfC "parse_integer" (defScope sPaI) s.heap.objs.size f cdv)) := fun h => hr.mono h
    refine ⟨_, (C8.pss_cut (ps_set (i := 1) scPaI.nd rfl (.inl rfl) (pe_ifExp (pt_val (pe_m1 PySem.F.slot_str_startswith PySem.F.type_str_startswith mt_startswith (pv 0) pe_str)) (pe_slice sl_str (pv 0) (po_some pe_int) po_none) (pv 0)))
      (pss_cons (ps_if (PW.pt (pw_or (pt_not (pt_chain op_le op_le pe_int (pe_callB call_len_str (by rfl) T.len PySem.boot_len (pa_cons (pv 1) pa_nil)) (pe_glob (v := .int 31) rfl gMD ⟨_, rfl⟩))) (pw_or1 (pt_not (pt_val (pe_callB (cr_all rfl) (by rfl) z_all (by decide +kernel) (pa_cons (pe_lc (own := [("digit", 2)]) (g := gName 2) (by rfl) scPaI.nd (pi_str (pv 1)) (blkOk_by (own := [("digit", 2)]) (N := paIN) (sc := defScope sPaI) (by decide +kernel)) (fun _ _ _ _ _ => (pg_name (i := 2) scPaI.nd rfl (.inl rfl))) (fun _ _ _ _ _ => pts_nil) (fun _ _ _ _ _ => (pe_chain (show OpR _ (compareOp .LtE) rLeS from op_le_str) (show OpR _ (compareOp .LtE) rLeS from op_le_str) pe_str (pv 2) pe_str))) pa_nil)))))))
        (pss_one (L2N.ps_raise rfl tk (pmk_err RP (hrm (by decide)) (by rfl) pe_int))) pss_nil)
      (pss_cons (ps_set (i := 3) scPaI.nd rfl (.inl rfl) (pe_callTy call_int_str (by rfl) TS.int (by decide +kernel) (pa_cons (pv 0) pa_nil)))
      (pss_cons (ps_if (pt_cmpR op_ne (pe_callTy call_str_int (by rfl) TS.str (by decide +kernel) (pa_cons (pv 3) pa_nil)) (pv 0) (nomark _))
        (pss_one (L2N.ps_raise rfl tk (pmk_err RP (hrm (by decide)) (by rfl) pe_int))) pss_nil)
      (pss_one (ps_ret (pv 3))))))), ?_⟩
    refine ⟨fun σ H' => σ = [some (.str (SX.S l)), some (.str (SX.S (digsL l))), none, none] ∧ H' = H, ?_, ?_⟩
    · refine ⟨_, rfl, ⟨_, rfl⟩, _, _, rfl, rfl, _, rfl, ?_⟩
      rw [starts_neg]
      rcases digs_cases l with ⟨r, e1, e2, e3⟩ | ⟨e1, e2, e3⟩
      · rw [e3]
        refine iteT ⟨_, rfl, _, rfl, _, rfl, by rw [SX.S_len]; exact Nat.le_trans hl (by decide), ?_, rfl⟩
        have e : cutS (SX.S l) (some 1) none = SX.S (digsL l) := by
          rw [e2, e1]
          exact (sliceText_cut _ _ _).symm.trans (SX.slice_from (a := 45 :: r) (i := 1) (by decide))
        rw [e]
        rfl
      · rw [e3]
        refine iteF ⟨_, rfl, ?_, rfl⟩
        rw [e2]
        rfl
    rintro σ H' ⟨rfl, rfl⟩
    have fl : (SX.S (digsL l)).length = (digsL l).length := SX.S_len _
    have hdl : (digsL l).length ≤ l.length := by
      rcases digs_cases l with ⟨r, e1, e2, e3⟩ | ⟨e1, e2, e3⟩
      · rw [e2, e1, List.length_cons]; omega
      · rw [e2]; exact Nat.le_refl _
    have hbad : (decide (1 ≤ (digsL l).length) && decide ((digsL l).length ≤ 31) && (digsL l).all dgB) = false → ∀ H2, Same H' H2 → Flies H2 E CP "pos" "ParseError" (.int 0) := fun hb H2 s' => by
      have := q H2 s'
      unfold intD at this
      rw [hb] at this
      exact this
    have small : Prt (V.int 0) := ⟨0, rfl, by decide⟩
    refine ⟨_, rfl, _, rfl, by rw [fl]; exact Nat.le_trans (Nat.le_trans hdl hl) (by decide), _, _, rfl, rfl, _, rfl, ?_⟩
    rw [fl]
    by_cases h1 : 1 ≤ (digsL l).length
    case neg =>
      rw [decide_eq_false (show ¬ (1 : Int) ≤ (((digsL l).length : Nat) : Int) by omega)]
      refine iteF ⟨_, rfl, iteT ⟨_, rfl, small, hbad ?_ _ (Same.refl _)⟩⟩
      rw [decide_eq_false h1]; rfl
    rw [decide_eq_true (show (1 : Int) ≤ (((digsL l).length : Nat) : Int) by omega)]
    refine iteT ⟨_, _, rfl, rfl, _, rfl, ?_⟩
    by_cases h2 : (digsL l).length ≤ 31
    case neg =>
      rw [decide_eq_false (show ¬ (((digsL l).length : Nat) : Int) ≤ 31 by omega)]
      refine iteT ⟨_, rfl, small, hbad ?_ _ (Same.refl _)⟩
      rw [decide_eq_false h2, Bool.and_false]; rfl
    rw [decide_eq_true (show (((digsL l).length : Nat) : Int) ≤ 31 by omega)]
    refine iteF ⟨_, rfl, _, rfl, fun D nD => ?_⟩
    refine lc_str (z := SX.S (digsL l)) (fun i H2 => H2 D = some (.lst ((((digsL l).take i).map dgB).map V.bl)) ∧ Same H' H2) ⟨upd_same, same_new nD⟩ ?_ ?_
    · rintro i c H2 hc ⟨hD, sm⟩
      have hc : (digsL l)[i]? = some c := hc
      have hi : i < (digsL l).length := (List.getElem?_eq_some_iff.mp hc).1
      refine ⟨rfl, ?_⟩
      refine ⟨_, rfl, _, _, rfl, rfl, _, rfl, ?_⟩
      have e0 : ("0" : Str).cps.toList = [48] := by decide +kernel
      have e9 : ("9" : Str).cps.toList = [57] := by decide +kernel
      have fin : ∀ b, b = dgB c → ∃ acc, H2 D = some (.lst acc) ∧ acc.length < sizeLine ∧ (upd H2 D (.lst (acc ++ [V.bl b])) D = some (.lst ((((digsL l).take (i + 1)).map dgB).map V.bl)) ∧ Same H' (upd H2 D (.lst (acc ++ [V.bl b])))) := fun b e => by
        refine ⟨_, hD, ?_, ?_, same_over sm nD⟩
        · rw [List.length_map, List.length_map, List.length_take]
          exact Nat.lt_of_le_of_lt (show min i (digsL l).length ≤ 1000 by omega) (by decide)
        · rw [upd_same, List.take_add_one, hc, List.map_append, List.map_append, e]
          rfl
      rw [e0]
      by_cases g1 : [c] < [48]
      · rw [decide_eq_true g1]
        refine iteF (fin _ ?_)
        have : c < 48 := by
          cases g1 with
          | rel h => exact h
          | cons h => cases h
        unfold dgB
        rw [decide_eq_false (show ¬ 48 ≤ c by omega)]; rfl
      · rw [decide_eq_false g1]
        have h48 : 48 ≤ c := Nat.le_of_not_lt fun z => g1 (List.Lex.rel z)
        refine iteT ⟨_, _, rfl, rfl, ?_⟩
        rw [e9]
        refine fin _ ?_
        unfold dgB
        rw [decide_eq_true h48]
        by_cases g2 : [57] < [c]
        · have : 57 < c := by
            cases g2 with
            | rel h => exact h
            | cons h => cases h
          rw [decide_eq_true g2, decide_eq_false (show ¬ c ≤ 57 by omega)]; rfl
        · rw [decide_eq_false g2, decide_eq_true (show c ≤ 57 from Nat.le_of_not_lt fun z => g2 (List.Lex.rel z))]; rfl
    rintro H2 ⟨hD, sm⟩
    have hD : H2 D = some (.lst (((digsL l).map dgB).map V.bl)) := by
      have : (digsL l).take (SX.S (digsL l)).cps.toList.length = digsL l := List.take_length
      rw [this] at hD
      exact hD
    refine ⟨D, (digsL l).map dgB, rfl, SqL.of hD, _, rfl, ?_⟩
    have eall : ((digsL l).map dgB).all id = (digsL l).all dgB := by rw [List.all_map]; rfl
    show if (!(((digsL l).map dgB).all id)) = true then _ else _
    rw [eall]
    by_cases h3 : (digsL l).all dgB = true
    case neg =>
      have h3 : (digsL l).all dgB = false := by simpa using h3
      rw [h3]
      refine iteT ⟨_, rfl, small, hbad ?_ _ sm⟩
      rw [h3, Bool.and_false]
    rw [h3]
    have fil : (SX.S l).length = l.length := SX.S_len _
    have hll : l.length ≤ 32 := by
      rcases digs_cases l with ⟨r, e1, e2, e3⟩ | ⟨e1, e2, e3⟩
      · rw [e2] at h2; rw [e1, List.length_cons]; omega
      · rw [e2] at h2; omega
    refine iteF ⟨_, rfl, _, _, rfl, valL_reads h1 h2 h3, by rw [fil]; omega, ?_⟩
    have hq := q H2 sm
    unfold intD at hq
    rw [decide_eq_true h1, decide_eq_true h2, h3] at hq
    refine ⟨_, rfl, _, rfl, log_sml (valL_lt h2 (dgB_mem h3)), _, rfl, rfl, _, rfl, ?_⟩
    rw [show (Str.ofString (toString (valL l)) : Str) = SX.S (intL (valL l)) from str_int _]
    by_cases he : intL (valL l) = l
    · rw [if_pos (by rfl), if_pos he] at hq
      rw [he, decide_eq_true rfl]
      exact iteF ⟨_, rfl, hq⟩
    · rw [if_pos (by rfl), if_neg he] at hq
      rw [decide_eq_false (show ¬ V.str (SX.S (intL (valL l))) = V.str (SX.S l) from fun z => he (SX.S_inj (by injection z)))]
      exact iteT ⟨_, rfl, small, hq⟩
end
end Ff

namespace Ff
open PySem PySem.Spec PyProof.Rows L2 ExX LamX
/-! texts of forests -/
abbrev sFmF : Stmt := topS 16
abbrev fmFN : List Str := ["forest", "node", "parent"]
theorem scFmF : FnScope fmFN ["forest"] (defScope sFmF) := ⟨rfl, rfl, rfl, by decide +kernel, rfl, by decide +kernel, by decide +kernel⟩
def rStrI : List V → Hp → VK → Prop := fun xs H Q => ∃ i : Int, xs = [.int i] ∧ i.natAbs.log2 < 1920 ∧ Q (.str (toString i)) H
/-- the word of a node, by codes -/
def wordL (p : Nat → Nat) (v : Nat) : List Nat := if p v = v then [45] else TL.numL (p v)
/-- the text of a forest, by codes -/
def forL (n : Nat) (p : Nat → Nat) : List Nat := TL.joinL [32] ((List.range n).map (wordL p))
theorem str_num (n : Nat) : (toString ((n : Nat) : Int) : Str) = SX.S (TL.numL n) := SX.num_S n
theorem num_len2 {m : Nat} (h : m < 100) : (TL.numL m).length ≤ 2 := by
  by_cases h1 : m < 10
  · rw [TL.numL_lt h1]; exact Nat.le_succ 1
  · rw [TL.numL_step (by omega), TL.numL_lt (show m / 10 < 10 by omega)]; exact Nat.le_refl 2
theorem word_len {n : Nat} {p : Nat → Nat} (hp : ∀ v, v < n → p v < n) (hn : n ≤ 60) {v : Nat} (hv : v < n) : (wordL p v).length ≤ 2 := by
  unfold wordL
  split
  · decide
  · have := hp v hv
    exact num_len2 (by omega)
theorem sum_le2 {α : Type} (f : α → Nat) : ∀ l : List α, (∀ x ∈ l, f x ≤ 2) → (l.map f).sum ≤ 2 * l.length
  | [], _ => Nat.le_refl _
  | x :: l, h => by
    have h1 := h x List.mem_cons_self
    have h2 := sum_le2 f l fun y hy => h y (List.mem_cons_of_mem _ hy)
    rw [List.map_cons, List.sum_cons, List.length_cons]
    omega
def spFmF (K : PySem.W.Frag) : Sp := fun vs H Q _ => ∃ (a : Addr) (n : Nat) (p : Nat → Nat), vs = [.ref a] ∧ SqT K H a (tupOf n p) ∧ n ≤ 60 ∧ (∀ v, v < n → p v < n) ∧ ∀ H', Same H H' → Q (.str (SX.S (forL n p))) H'
section
variable {P : Program} {w : World} {K : PySem.W.Frag} {mg : Str → Option Value} {base : Heap}
theorem ok_fmF {f : Addr} {fd : FuncData} (F : Fun K "format_forest" "format_forest" sFmF f fd) (TS : TxS mg) (z_enumerate : mg "enumerate" = none) : FnOk P w K mg base CX0 1 f fd ["forest"] (spFmF K) := by
  refine F.ok scFmF (fun vs H Q E h => ?_) (fun cdv A outer s H vs Q E hr h => ?_)
  · obtain ⟨a, n, p, rfl, _⟩ := h
    rfl
  · obtain ⟨a, n, p, rfl, ha, hn, hp, q⟩ := h
    refine ⟨_, (pss_one (ps_ret (pe_join pe_str (pe_lc (own := [("node", 1), ("parent", 2)]) (g := gTup K 2 (gCons (gName 1) (gCons (gName 2) gNil))) (by rfl) scFmF.nd (pi_enumT (by rfl) z_enumerate (pa_cons (pv 0) pa_nil)) (blkOk_by (own := [("node", 1), ("parent", 2)]) (N := fmFN) (sc := defScope sFmF) (by decide +kernel)) (fun _ _ _ _ _ => (pg_tup rfl (pgs_cons (pg_name (i := 1) scFmF.nd rfl (.inl rfl)) (pgs_cons (pg_name (i := 2) scFmF.nd rfl (.inl rfl)) pgs_nil)))) (fun _ _ _ _ _ => pts_nil) (fun _ _ _ _ _ => (pe_ifExp (pt_cmpR op_eq (pv 1) (pv 2) (nomark _)) pe_str (pe_callTy (show CallR _ (.type "str") rStrI from call_str_int) (by rfl) TS.str (by decide +kernel) (pa_cons (pv 2) pa_nil)))))))), ?_⟩
    refine ⟨⟨_, rfl⟩, _, rfl, a, _, rfl, ha, fun D nD => ?_⟩
    refine lc_enumT (K := K) (a := a) (xs := tupOf n p) (fun i H' => H' D = some (.lst (((List.range i).map fun v => SX.S (wordL p v)).map V.str)) ∧ Same H H') ⟨upd_same, same_new nD⟩ (fun i H' _ h => same_sqt h.2 ha) ?_ ?_
    · rintro i x H' T hx ⟨hc, sm⟩ nT
      have hin : i < n := by
        have := (List.getElem?_eq_some_iff.mp hx).1
        rwa [tupOf_len] at this
      rw [tupOf_at hin] at hx
      cases hx
      have s1 := same_new (o := .tup [V.int ((i : Nat) : Int), vi (p i)]) nT
      have hT : upd H' T (.tup [V.int ((i : Nat) : Int), vi (p i)]) T = some (.tup [V.int ((i : Nat) : Int), vi (p i)]) := upd_same
      generalize upd H' T (.tup [V.int ((i : Nat) : Int), vi (p i)]) = H2 at s1 hT ⊢
      have fin : ∀ z : Str, z = SX.S (wordL p i) → ∃ acc, H2 D = some (.lst acc) ∧ acc.length < sizeLine ∧ (upd H2 D (.lst (acc ++ [V.str z])) D = some (.lst (((List.range (i + 1)).map fun v => SX.S (wordL p v)).map V.str)) ∧ Same H (upd H2 D (.lst (acc ++ [V.str z])))) := fun z e => by
        refine ⟨_, s1 _ _ hc, ?_, ?_, same_over (sm.trans s1) nD⟩
        · rw [List.length_map, List.length_map, List.length_range]
          exact Nat.lt_of_le_of_lt (show i ≤ 1000 by omega) (by decide)
        · rw [upd_same, List.range_succ, List.map_append, List.map_append, e]
          rfl
      refine ⟨T, _, rfl, SqT.of hT, rfl, _, _, rfl, _, _, rfl, rfl, rfl, ?_⟩
      refine ⟨_, rfl, _, rfl, rfl, _, rfl, ?_⟩
      by_cases e : p i = i
      · rw [show decide (V.int ((i : Nat) : Int) = vi (p i)) = true from decide_eq_true (by rw [e])]
        refine iteT (fin _ ?_)
        unfold wordL
        rw [if_pos e]
        rfl
      · rw [show decide (V.int ((i : Nat) : Int) = vi (p i)) = false from decide_eq_false fun z => e (by injection z with z; omega)]
        refine iteF ⟨_, rfl, _, rfl, ?_, fin _ ?_⟩
        · rw [Int.natAbs_natCast]
          have := hp i hin
          exact Nat.lt_of_le_of_lt (Nat.log2_le_self _) (by omega)
        · unfold wordL
          rw [if_neg e, ← str_num]
    · rintro H' ⟨hc, sm⟩
      rw [tupOf_len] at hc
      refine ⟨_, D, (List.range n).map fun v => SX.S (wordL p v), rfl, rfl, .inl (SqL.of hc), ?_, ?_⟩
      · have h := sum_le2 (fun v => (SX.S (wordL p v)).length) (List.range n) fun v hv => by rw [SX.S_len]; exact word_len hp hn (List.mem_range.mp hv)
        rw [List.length_range] at h
        have h1 : (" " : Str).length = 1 := by decide +kernel
        rw [List.map_map, List.length_map, List.length_range, h1]
        exact Nat.le_trans (Nat.add_le_add_right h _) (by omega)
      · have e : Txt.join (" " : Str) ((List.range n).map fun v => SX.S (wordL p v)) = SX.S (forL n p) := by
          have := SX.join_S [32] ((List.range n).map (wordL p))
          rw [List.map_map] at this
          exact this
        rw [e]
        exact q H' sm
end
end Ff

namespace Ff
open PySem PySem.Spec PyProof.Rows L2 ExX LamX
abbrev sPaF : Stmt := topS 17
abbrev paFN : List Str := ["text", "words", "parents", "node", "word"]
theorem scPaF : FnScope paFN ["text"] (defScope sPaF) := ⟨rfl, rfl, rfl, by decide +kernel, rfl, by decide +kernel, by decide +kernel⟩
/-! any text, read as a forest -/
def wordsL (l : List Nat) : List (List Nat) := if l = [] then [] else TL.spl [32] 0 [] l
def wrdR (v : Nat) (w : List Nat) : Option Int := if w = [45] then some (v : Int) else intD w
def FoT (l : List Nat) : Prop := ∃ (n : Nat) (p r : Nat → Nat), n ≤ 40 ∧ Fo n p r ∧ l = forL n p
theorem spl_size : ∀ (l acc : List Nat), (TL.spl [32] 0 acc l).length ≤ l.length + 1 ∧ ∀ w ∈ TL.spl [32] 0 acc l, w.length ≤ acc.length + l.length
  | [], acc => by
    rw [TL.spl_nil]
    exact ⟨by simp, fun w hw => by rw [List.mem_singleton.mp hw]; omega⟩
  | c :: r, acc => by
    by_cases h : TL.pre [32] (c :: r) = true
    · rw [TL.spl_hit h]
      obtain ⟨h1, h2⟩ := spl_size r []
      refine ⟨by rw [List.length_cons, List.length_cons]; exact Nat.succ_le_succ h1, fun w hw => ?_⟩
      rcases List.mem_cons.mp hw with rfl | hw
      · omega
      · have := h2 w hw
        rw [List.length_nil] at this
        rw [List.length_cons]; omega
    · have h : TL.pre [32] (c :: r) = false := by simpa using h
      rw [TL.spl_miss h]
      obtain ⟨h1, h2⟩ := spl_size r (acc ++ [c])
      refine ⟨by rw [List.length_cons]; omega, fun w hw => ?_⟩
      have := h2 w hw
      rw [List.length_append] at this
      rw [List.length_cons]
      have e : ([c] : List Nat).length = 1 := rfl
      omega
theorem words_size (l : List Nat) : (wordsL l).length ≤ l.length + 1 ∧ ∀ w ∈ wordsL l, w.length ≤ l.length := by
  unfold wordsL
  split
  · exact ⟨Nat.zero_le _, fun w hw => nomatch hw⟩
  · obtain ⟨h1, h2⟩ := spl_size l []
    exact ⟨h1, fun w hw => by have := h2 w hw; rw [List.length_nil] at this; omega⟩
theorem word_okI {p : Nat → Nat} {v : Nat} : 32 ∉ wordL p v ∧ wordL p v ≠ [] := by
  unfold wordL
  split
  · exact ⟨by decide, by decide⟩
  · refine ⟨fun h => ?_, TL.numL_ne _⟩
    have := TL.numL_digits _ _ h
    omega
theorem join_neI {l : List (List Nat)} (h : l ≠ []) (hw : ∀ x ∈ l, x ≠ []) : TL.joinL [32] l ≠ [] := by
  match l, h with
  | [x], _ => exact hw x List.mem_cons_self
  | x :: y :: r, _ =>
    intro z
    have z : x ++ ([32] ++ TL.joinL [32] (y :: r)) = [] := z
    have := List.append_eq_nil_iff.mp z
    exact hw x List.mem_cons_self this.1
theorem words_for (n : Nat) (p : Nat → Nat) : wordsL (forL n p) = (List.range n).map (wordL p) := by
  by_cases h0 : n = 0
  · subst h0; rfl
  · have hne : (List.range n).map (wordL p) ≠ [] := fun h => by
      have := congrArg List.length h
      rw [List.length_map, List.length_range] at this
      exact h0 this
    unfold wordsL
    rw [if_neg]
    · unfold forL
      rw [SX.spl_join hne]
      intro x hx
      obtain ⟨v, hv, rfl⟩ := List.mem_map.mp hx
      exact word_okI.1
    · exact join_neI hne fun x hx => by
        obtain ⟨v, hv, rfl⟩ := List.mem_map.mp hx
        exact word_okI.2
theorem wrd_for {p : Nat → Nat} {v : Nat} (h : p v < 10 ^ 31) : wrdR v (wordL p v) = some (p v : Int) := by
  unfold wrdR wordL
  by_cases e : p v = v
  · rw [if_pos e, if_pos rfl, e]
  · have e2 : TL.numL (p v) = intL ((p v : Nat) : Int) := by
      rw [intL_digits (by omega)]; rfl
    rw [if_neg e, if_neg (fun z => by
      have := TL.numL_digits (p v) 45 (by rw [z]; exact List.mem_cons_self)
      omega), e2, intD_intL (by rw [Int.natAbs_natCast]; exact h)]
theorem small31 {n : Nat} (h : n ≤ 1000) : n < 10 ^ 31 := Nat.lt_of_le_of_lt h (by decide +kernel)
/-- what is read of a forest's text -/
theorem read_for {n : Nat} {p r : Nat → Nat} (hn : n ≤ 40) (F : Fo n p r) {L : List Int} (hl : L.length = (wordsL (forL n p)).length) (hr : ∀ j, j < L.length → wrdR j ((wordsL (forL n p)).getD j []) = some (L.getD j 0)) : L = intsOf n p := by
  rw [words_for] at hl hr
  rw [List.length_map, List.length_range] at hl
  refine List.ext_getElem? fun j => ?_
  unfold intsOf
  by_cases hj : j < n
  · have h1 := hr j (by omega)
    have hp := F.lt j hj
    rw [List.getD_eq_getElem?_getD, List.getElem?_map, List.getElem?_range hj] at h1
    have h1 : wrdR j (wordL p j) = some (L.getD j 0) := h1
    rw [wrd_for (small31 (by omega))] at h1
    have h2 : L[j]? = some (L.getD j 0) := by
      rw [List.getD_eq_getElem?_getD, List.getElem?_eq_getElem (show j < L.length by omega)]; rfl
    rw [h2, List.getElem?_map, List.getElem?_range hj, ← h1]
    rfl
  · rw [List.getElem?_eq_none (by omega), List.getElem?_eq_none (by rw [List.length_map, List.length_range]; omega)]
theorem ints_lenI (n : Nat) (p : Nat → Nat) : (intsOf n p).length = n := by unfold intsOf; rw [List.length_map, List.length_range]
theorem par_intsI {n : Nat} {p : Nat → Nat} {v : Nat} (hv : v < n) : par (intsOf n p) v = p v := by
  unfold par intsOf
  rw [List.getD_eq_getElem?_getD, List.getElem?_map, List.getElem?_range hv]
  rfl
theorem fo_verdI {n : Nat} {p r : Nat → Nat} (F : Fo n p r) (hn : n ≤ 40) : verdict (intsOf n p) = .ok := by
  have hl := ints_lenI n p
  refine ver_ok.mpr ⟨by rw [hl]; exact hn, fun v hv => ?_, fun v hv => ?_⟩
  · rw [hl] at hv
    have e : (intsOf n p).getD v 0 = (p v : Int) := by
      unfold intsOf
      rw [List.getD_eq_getElem?_getD, List.getElem?_map, List.getElem?_range hv]
      rfl
    unfold wideB
    rw [e, hl, decide_eq_true (by omega), decide_eq_true (by have := F.lt v hv; omega)]
    rfl
  · rw [hl] at hv ⊢
    have e : ∀ k x, x < n → root (par (intsOf n p)) k x = root p k x := fun k => by
      induction k with
      | zero => exact fun x hx => rfl
      | succ k ih =>
        intro x hx
        show (if par (intsOf n p) x = x then x else root (par (intsOf n p)) k (par (intsOf n p) x)) = (if p x = x then x else root p k (p x))
        rw [par_intsI hx, ih _ (F.lt x hx)]
    unfold ringB
    rw [e n v hv, par_intsI (root_lt F v hv), root_fix F v hv, decide_eq_true rfl]
    rfl
theorem okV_iff {L : List Int} (h : okV L = true) : L.length ≤ 40 ∧ L.map V.int = tupOf L.length (par L) ∧ ∃ r, Fo L.length (par L) r := by
  have hv : verdict L = .ok := by
    unfold okV at h
    split at h
    · assumption
    · cases h
  obtain ⟨h1, h2, h3⟩ := ver_ok.mp hv
  have hlt : ∀ v, v < L.length → par L v < L.length := fun v hv => by
    have := (wide_iff.mp (h2 v hv))
    unfold par
    omega
  refine ⟨h1, row_tup h2, _, fo_of hlt fun v hv => ?_⟩
  have := h3 v hv
  unfold ringB at this
  simpa using this
theorem forL_congrI {n : Nat} {p q : Nat → Nat} (h : ∀ v, v < n → p v = q v) : forL n p = forL n q := by
  unfold forL
  have e : (List.range n).map (wordL p) = (List.range n).map (wordL q) := List.map_congr_left fun v hv => by unfold wordL; rw [h v (List.mem_range.mp hv)]
  rw [e]
def spPaFB (CP : Addr) : Sp := fun vs H Q E => ∃ l : List Nat, vs = [.str (SX.S l)] ∧ l.length ≤ 900 ∧
  (∀ (n : Nat) (p r : Nat → Nat), n ≤ 40 → Fo n p r → l = forL n p → ∀ (t : Addr) H', H t = none → H' t = some (.tup (tupOf n p)) → Same H H' → Q (.ref t) H') ∧
  (¬ FoT l → ∀ H', Same H H' → Flies H' E CP "pos" "ParseError" (.int 0))
section
variable {P : Program} {w : World} {K : PySem.W.Frag} {mg : Str → Option Value} {base : Heap} {CP : Addr}
theorem okB_paF {f fP fI fF : Addr} {fd fdP fdI fdF : FuncData} (F : Fun K "parse_forest" "parse_forest" sPaF f fd) (RP : Raisable P w K mg base 2 "ParseError" CP "pos" "ParseError") (T : Tx mg) (TS : TxS mg) (z_enumerate : mg "enumerate" = none) (xP : KnX P w K mg base 4 "parse_integer" ["text"] (spPaIB CP) fP fdP) (kI : Kn P w K mg base 5 "is_forest" sIsFor ["parents"] (spIsFor K) fI fdI) (kF : Kn P w K mg base 1 "format_forest" sFmF ["forest"] (spFmF K) fF fdF) : FnOk P w K mg base (L2N.CX P w) 6 f fd ["text"] (spPaFB CP) := by
  refine okN F scPaF (fun vs H Q E h => ?_) (fun cdv A outer s H vs Q E hr h tk => ?_)
  · obtain ⟨l, rfl, _⟩ := h
    rfl
  · obtain ⟨l, rfl, hl, qy, qn⟩ := h
    have hrm : ∀ {j : Nat}, j ≤ 5 → Room j (A.deeper (envOfC "parse_forest" (defScope sPaF) s.heap.objs.size f cdv)) := fun h => hr.mono h
    refine ⟨_, (C8.pss_cut (ps_set (i := 1) scPaF.nd rfl (.inl rfl) (pe_ifExp (pt_truth (pv 0) (by intro _; rfl)) (pe_split (pv 0) pe_str) (pe_lst pa_nil)))
      (pss_cons (ps_set (i := 2) scPaF.nd rfl (.inl rfl) (pe_callTy call_tuple_of (by rfl) T.tuple (by decide +kernel) (pa_cons (L2N.pe_lcE (own := [("node", 3), ("word", 4)]) (g := gTup K 2 (gCons (gName 3) (gCons (gName 4) gNil))) tk rfl rfl (by rfl) scPaF.nd (pi_enum (by rfl) z_enumerate (pa_cons (pv 1) pa_nil)) (blkOk_by (own := [("node", 3), ("word", 4)]) (N := paFN) (sc := defScope sPaF) (by decide +kernel)) (fun _ _ _ _ _ => (pg_tup rfl (pgs_cons (pg_name (i := 3) scPaF.nd rfl (.inl rfl)) (pgs_cons (pg_name (i := 4) scPaF.nd rfl (.inl rfl)) pgs_nil)))) (fun _ _ _ _ _ => pts_nil) (fun _ _ _ _ _ pB => (pe_ifExp (pt_cmpR (show OpR _ (compareOp .Eq) rEq from op_eq) (pv 4) pe_str (nomark _)) (pv 3) (pe_call xP.G (hrm (by decide)) (by rfl) xP.g xP.kp xP.b .nil pB (pa_cons (pv 4) pa_nil))))) pa_nil)))
      (pss_cons (ps_if (PW.pt (pw_or (pt_not (pt_val (pe_call kI.G (hrm (by decide)) (by rfl) kI.g kI.F.kp kI.b .nil pass0 (pa_cons (pv 2) pa_nil)))) (pw_or1 (pt_cmpR op_ne (pe_call kF.G (hrm (by decide)) (by rfl) kF.g kF.F.kp kF.b .nil pass0 (pa_cons (pv 2) pa_nil)) (pv 0) (nomark _)))))
        (pss_one (L2N.ps_raise rfl tk (pmk_err RP (hrm (by decide)) (by rfl) pe_int))) pss_nil)
      (pss_one (ps_ret (pv 2)))))), ?_⟩
    have small : Prt (V.int 0) := ⟨0, rfl, by decide⟩
    refine ⟨fun σ H' => ∃ a, σ = [some (.str (SX.S l)), some (.ref a), none, none, none] ∧ H' a = some (.lst (((wordsL l).map SX.S).map V.str)) ∧ Same H H', ?_, ?_⟩
    · refine ⟨_, rfl, _, ⟨by rw [SX.S_len]; exact Nat.le_trans hl (by decide), rfl⟩, ?_⟩
      by_cases h0 : l = []
      · subst h0
        rw [show (((SX.S ([] : List Nat)).length : Int) != 0) = false from rfl]
        exact iteF ⟨by show 0 ≤ sizeLine; decide, fun a na => ⟨a, rfl, upd_same, same_new na⟩⟩
      · rw [show (((SX.S l).length : Int) != 0) = true from by
          rw [SX.S_len]
          have : l.length ≠ 0 := fun z => h0 (List.eq_nil_of_length_eq_zero z)
          simp [this]]
        refine iteT ⟨_, rfl, ⟨_, rfl⟩, _, _, rfl, rfl, rfl, ?_, fun a na => ⟨a, rfl, ?_, same_new na⟩⟩
        · rw [SX.S_len]; exact Nat.le_trans (Nat.add_le_add_right hl 2) (by decide)
        · rw [upd_same, show (" " : Str) = SX.S [32] from rfl, SX.split_S (by decide) (by decide)]
          unfold wordsL
          rw [if_neg h0]
    rintro σ H1 ⟨a, rfl, ha, s1⟩
    obtain ⟨wl, ww⟩ := words_size l
    generalize hws : wordsL l = ws at ha wl ww
    refine ⟨_, rfl, a, _, rfl, SqL.of ha, fun D nD => ?_⟩
    have hlen : ((ws.map SX.S).map V.str).length = ws.length := by simp
    have wR : FoT l → ∃ (n : Nat) (p r : Nat → Nat), n ≤ 40 ∧ Fo n p r ∧ l = forL n p ∧ ws.length = n ∧ ∀ j, j < n → wrdR j (ws.getD j []) = some (p j : Int) := fun ⟨n, p, r, hn, fo, e⟩ => by
      refine ⟨n, p, r, hn, fo, e, ?_⟩
      rw [e, words_for] at hws
      subst hws
      refine ⟨by simp, fun j hj => ?_⟩
      rw [List.getD_eq_getElem?_getD, List.getElem?_map, List.getElem?_range hj]
      exact wrd_for (small31 (by have := fo.lt j hj; omega))
    refine lc_it (walk_enum (K := K) (a := a) (xs := (ws.map SX.S).map V.str)) (fun i H' => ∃ L : List Int, L.length = i ∧ (∀ j, j < i → wrdR j (ws.getD j []) = some (L.getD j 0)) ∧ H' D = some (.lst (L.map V.int)) ∧ Same H1 H') ⟨[], rfl, fun j hj => absurd hj (Nat.not_lt_zero _), upd_same, same_new nD⟩ (fun i H' _ ⟨_, _, _, _, h⟩ => SqL.of (h _ _ ha)) ?_ ?_
    · rintro i x H2 H3 hi ⟨L, lL, rL, hD, sm⟩ ⟨T0, y, z, rfl, nT, rfl, hy, hz⟩
      rw [hlen] at hi
      cases hy
      have ez : z = .str (SX.S (ws.getD i [])) := by
        have hz : ((ws.map SX.S).map V.str)[i]? = some z := hz
        rw [List.getElem?_map, List.getElem?_map, List.getElem?_eq_getElem hi] at hz
        rw [List.getD_eq_getElem?_getD, List.getElem?_eq_getElem hi]
        exact (Option.some.inj hz).symm
      subst ez
      have hwl : (ws.getD i []).length ≤ l.length := by
        rw [List.getD_eq_getElem?_getD, List.getElem?_eq_getElem hi]
        exact ww _ (List.getElem_mem hi)
      generalize hwi : ws.getD i [] = wi at hwl ⊢
      have u1 := same_new (o := .tup [V.int ((i : Nat) : Int), .str (SX.S wi)]) nT
      have hT : upd H2 T0 (.tup [V.int ((i : Nat) : Int), .str (SX.S wi)]) T0 = some (.tup [V.int ((i : Nat) : Int), .str (SX.S wi)]) := upd_same
      generalize upd H2 T0 (.tup [V.int ((i : Nat) : Int), .str (SX.S wi)]) = H4 at u1 hT ⊢
      have fin : ∀ H5, Same H4 H5 → ∀ m : Int, wrdR i wi = some m → ∃ acc, H5 D = some (.lst acc) ∧ acc.length < sizeLine ∧ (∃ L : List Int, L.length = i + 1 ∧ (∀ j, j < i + 1 → wrdR j (ws.getD j []) = some (L.getD j 0)) ∧ upd H5 D (.lst (acc ++ [V.int m])) D = some (.lst (L.map V.int)) ∧ Same H1 (upd H5 D (.lst (acc ++ [V.int m])))) := fun H5 s5 m e => by
        refine ⟨_, s5 _ _ (u1 _ _ hD), ?_, L ++ [m], by rw [List.length_append, lL]; rfl, fun j hj => ?_, ?_, same_over ((sm.trans u1).trans s5) nD⟩
        · rw [List.length_map]
          exact Nat.lt_of_le_of_lt (show L.length ≤ 1000 by omega) (by decide)
        · by_cases hji : j = i
          · subst hji
            rw [hwi, e, List.getD_eq_getElem?_getD, List.getElem?_append_right (by omega), lL, Nat.sub_self]
            rfl
          · rw [rL j (by omega), List.getD_eq_getElem?_getD, List.getD_eq_getElem?_getD, List.getElem?_append_left (by omega)]
        · rw [upd_same, List.map_append]
          rfl
      refine ⟨T0, _, rfl, SqT.of hT, rfl, _, _, rfl, _, _, rfl, rfl, rfl, ?_⟩
      refine ⟨_, rfl, rfl, _, rfl, ?_⟩
      by_cases e : wi = [45]
      · rw [show decide (V.str (SX.S wi) = V.str ("-" : Str)) = true from decide_eq_true (by rw [e]; rfl)]
        exact iteT ⟨_, rfl, fin H4 (Same.refl _) _ (by unfold wrdR; rw [if_pos e])⟩
      · rw [show decide (V.str (SX.S wi) = V.str ("-" : Str)) = false from decide_eq_false fun z => by
          injection z with z
          exact e (SX.S_inj z)]
        refine iteF ⟨_, rfl, wi, rfl, by omega, fun H5 s5 => ?_⟩
        cases hd : intD wi with
        | some m => exact fin H5 s5 m (by unfold wrdR; rw [if_neg e]; exact hd)
        | none =>
          refine qn (fun ft => ?_) _ (s1.trans ((sm.trans u1).trans s5))
          obtain ⟨n, p, r, _, _, _, hn, hr⟩ := wR ft
          have := hr i (by omega)
          rw [hwi] at this
          unfold wrdR at this
          rw [if_neg e, hd] at this
          cases this
    rintro H2 ⟨L, lL, rL, hD, sm⟩
    rw [hlen] at lL rL
    refine ⟨D, _, rfl, .inl ⟨SqL.of hD, fun t nt => ?_⟩⟩
    have u1 := same_new (o := .tup (L.map V.int)) nt
    have ht : upd H2 t (.tup (L.map V.int)) t = some (.tup (L.map V.int)) := upd_same
    generalize upd H2 t (.tup (L.map V.int)) = H3 at u1 ht ⊢
    have rdF : ∀ n p r, n ≤ 40 → Fo n p r → l = forL n p → L = intsOf n p := fun n p r hn fo e => by
      refine read_for hn fo ?_ fun j hj => ?_
      · rw [← e, hws]; exact lL
      · rw [← e, hws]; exact rL j (by omega)
    have sA := (s1.trans sm).trans u1
    refine ⟨_, rfl, t, L, rfl, SqT.of ht, by omega, fun H4 s4 => ⟨_, rfl, ?_⟩⟩
    by_cases hok : okV L = true
    case neg =>
      have hok : okV L = false := by simpa using hok
      rw [hok]
      refine iteT ⟨_, rfl, small, qn (fun ⟨n, p, r, hn, fo, e⟩ => ?_) _ (sA.trans s4)⟩
      have := rdF n p r hn fo e
      rw [this] at hok
      unfold okV at hok
      rw [fo_verdI fo hn] at hok
      cases hok
    rw [hok]
    obtain ⟨h40, etup, r0, fo⟩ := okV_iff hok
    rw [etup] at ht
    refine iteF ⟨_, rfl, t, L.length, par L, rfl, SqT.of (s4 _ _ ht), by omega, fo.lt, fun H5 s5 => ⟨_, rfl, rfl, _, rfl, ?_⟩⟩
    by_cases he : forL L.length (par L) = l
    · rw [he, decide_eq_true rfl]
      refine iteF ⟨_, rfl, ?_⟩
      exact qy _ _ _ h40 fo he.symm t H5 (sm_none (s1.trans sm) nt) (s5 _ _ (s4 _ _ ht)) ((sA.trans s4).trans s5)
    · rw [decide_eq_false (fun z => he (SX.S_inj (by injection z)))]
      refine iteT ⟨_, rfl, small, qn (fun ⟨n, p, r, hn, fo2, e⟩ => he ?_) _ ((sA.trans s4).trans s5)⟩
      rw [rdF n p r hn fo2 e, ints_lenI, e]
      exact forL_congrI fun v hv => par_intsI hv
end
end Ff

namespace Ff
open PySem PySem.Spec PyProof.Rows L2 ExX LamX
abbrev sShn : Stmt := topS 32
abbrev shnN : List Str := ["_law_forest_in", "_law_node"]
theorem scShn : FnScope shnN ["_law_forest_in"] (defScope sShn) := ⟨rfl, rfl, rfl, by decide +kernel, rfl, by decide +kernel, by decide +kernel⟩
abbrev sLRd : Stmt := topS 33
abbrev lRdN : List Str := ["_law_text_in", "_law_words", "_law_row", "_law_node", "_law_word", "_law_sign", "_law_above", "_law_ends", "_law_end"]
theorem scLRd : FnScope lRdN ["_law_text_in"] (defScope sLRd) := ⟨rfl, rfl, rfl, by decide +kernel, rfl, by decide +kernel, by decide +kernel⟩
def rLenS (K : PySem.W.Frag) : List V → Hp → VK → Prop := fun xs H Q => ∃ p ys, xs = [.ref p] ∧ (SqL K H p ys ∨ SqT K H p ys) ∧ Q (.int ys.length) H
/-- the law's reading of one word -/
def wrd2 (v : Nat) (w : List Nat) : Option Nat := if w = [45] then some v else if (decide (w = []) || decide (2 < w.length) || !(w.all dgB)) = true then none else some (NumText.digitsVal w)
theorem dig_mem (c : Nat) : decide (c ∈ ("0123456789" : Str).cps.toList) = dgB c := by
  have e : ("0123456789" : Str).cps.toList = [48, 49, 50, 51, 52, 53, 54, 55, 56, 57] := by decide +kernel
  rw [e]
  unfold dgB
  rw [← Bool.decide_and]
  refine decide_eq_decide.mpr ?_
  simp only [List.mem_cons, List.not_mem_nil, or_false]
  omega
theorem wrd2_for {p : Nat → Nat} {v : Nat} (h : p v < 100) : wrd2 v (wordL p v) = some (p v) := by
  unfold wrd2 wordL
  by_cases e : p v = v
  · rw [if_pos e, if_pos rfl, e]
  · have h1 := num_len2 h
    have h2 : (TL.numL (p v)).all dgB = true := List.all_eq_true.mpr fun c hc => dgB_of (TL.numL_digits _ _ hc)
    have h3 := TL.numL_ne (p v)
    rw [if_neg e, if_neg (fun z => by
      have := TL.numL_digits (p v) 45 (by rw [z]; exact List.mem_cons_self)
      omega), if_neg (by rw [h2, decide_eq_false h3, decide_eq_false (show ¬ 2 < (TL.numL (p v)).length by omega)]; decide), TL.numL_val]
theorem wrd2_small {v : Nat} {w : List Nat} {m : Nat} (hv : v ≤ 1000) (h : wrd2 v w = some m) : m ≤ 1000 := by
  unfold wrd2 at h
  split at h
  · injection h with h; omega
  · split at h
    · cases h
    · rename_i hc
      injection h with h
      simp only [Bool.or_eq_true, Bool.not_eq_true', not_or, decide_eq_true_eq, Bool.not_eq_false] at hc
      have := digitsVal_lt (dgB_mem hc.2)
      have h2 : 10 ^ w.length ≤ 10 ^ 2 := Nat.pow_le_pow_right (by decide) (by omega)
      omega
def spLRd : Sp := fun vs H Q _ => ∃ l : List Nat, vs = [.str (SX.S l)] ∧ l.length ≤ 900 ∧
  (∀ (n : Nat) (p r : Nat → Nat), n ≤ 40 → Fo n p r → l = forL n p → ∀ (t : Addr) H', H t = none → H' t = some (.tup (tupOf n p)) → Same H H' → Q (.ref t) H') ∧ (¬ FoT l → ∀ H', Same H H' → Q .non H')
section
variable {P : Program} {w : World} {K : PySem.W.Frag} {mg : Str → Option Value} {base : Heap} {CP : Addr}
theorem ok_shn {f : Addr} {fd : FuncData} (F : Fun K "_law_shown" "_law_shown" sShn f fd) (T : Tx mg) (TS : TxS mg) : FnOk P w K mg base CX0 1 f fd ["_law_forest_in"] (spFmF K) := by
  refine F.ok scShn (fun vs H Q E h => ?_) (fun cdv A outer s H vs Q E hr h => ?_)
  · obtain ⟨a, n, p, rfl, _⟩ := h
    rfl
  · obtain ⟨a, n, p, rfl, ha, hn, hp, q⟩ := h
    refine ⟨_, (pss_one (ps_ret (pe_join pe_str (pe_lc (own := [("_law_node", 1)]) (g := gName 1) (by rfl) scShn.nd (pi_range1 (by rfl) T.range (pa_cons (pe_callB call_len_seq (by rfl) T.len PySem.boot_len (pa_cons (pv 0) pa_nil)) pa_nil)) (blkOk_by (own := [("_law_node", 1)]) (N := shnN) (sc := defScope sShn) (by decide +kernel)) (fun _ _ _ _ _ => (pg_name (i := 1) scShn.nd rfl (.inl rfl))) (fun _ _ _ _ _ => pts_nil) (fun _ _ _ _ _ => (pe_ifExp (pt_cmpR op_eq (pe_ix (show IxR _ (rIx K) from ix_seq) (pv 0) (pv 1) (fun _ _ => rfl)) (pv 1) (nomark _)) pe_str (pe_callTy (show CallR _ (.type "str") rStrI from call_str_int) (by rfl) TS.str (by decide +kernel) (pa_cons (pe_ix (show IxR _ (rIx K) from ix_seq) (pv 0) (pv 1) (fun _ _ => rfl)) pa_nil)))))))), ?_⟩
    refine ⟨⟨_, rfl⟩, _, rfl, a, _, rfl, .inr ha, _, rfl, by rw [tupOf_len]; omega, by rw [tupOf_len]; omega, fun D nD => ?_⟩
    rw [tupOf_len]
    refine lc_range (lo := 0) (n := ((n : Nat) : Int).toNat) (fun i H' => H' D = some (.lst (((List.range i).map fun v => SX.S (wordL p v)).map V.str)) ∧ Same H H') ⟨upd_same, same_new nD⟩ ?_ ?_
    · rintro i H2 hi ⟨hc, sm⟩
      have hin : i < n := by omega
      show gName 1 (V.int ((0 : Int) + (i : Int))) _ _ _
      rw [Int.zero_add]
      have fin : ∀ z : Str, z = SX.S (wordL p i) → ∃ acc, H2 D = some (.lst acc) ∧ acc.length < sizeLine ∧ (upd H2 D (.lst (acc ++ [V.str z])) D = some (.lst (((List.range (i + 1)).map fun v => SX.S (wordL p v)).map V.str)) ∧ Same H (upd H2 D (.lst (acc ++ [V.str z])))) := fun z e => by
        refine ⟨_, hc, ?_, ?_, same_over sm nD⟩
        · rw [List.length_map, List.length_map, List.length_range]
          exact Nat.lt_of_le_of_lt (show i ≤ 1000 by omega) (by decide)
        · rw [upd_same, List.range_succ, List.map_append, List.map_append, e]
          rfl
      have hix : Sq K H2 a (tupOf n p) := .inr (same_sqt sm ha)
      refine ⟨rfl, _, rfl, _, rfl, hix.ix (atI_nat (tupOf_at hin)) ⟨_, rfl, rfl, _, rfl, ?_⟩⟩
      by_cases e : p i = i
      · rw [show decide (vi (p i) = V.int ((i : Nat) : Int)) = true from decide_eq_true (by rw [e])]
        refine iteT (fin _ ?_)
        unfold wordL
        rw [if_pos e]
        rfl
      · rw [show decide (vi (p i) = V.int ((i : Nat) : Int)) = false from decide_eq_false fun z => e (by injection z with z; omega)]
        refine iteF ⟨_, rfl, _, rfl, hix.ix (atI_nat (tupOf_at hin)) ⟨_, rfl, ?_, fin _ ?_⟩⟩
        · rw [Int.natAbs_natCast]
          have := hp i hin
          exact Nat.lt_of_le_of_lt (Nat.log2_le_self _) (by omega)
        · unfold wordL
          rw [if_neg e, ← str_num]
    · rintro H' ⟨hc, sm⟩
      rw [show ((n : Nat) : Int).toNat = n by omega] at hc
      refine ⟨_, D, (List.range n).map fun v => SX.S (wordL p v), rfl, rfl, .inl (SqL.of hc), ?_, ?_⟩
      · have h := sum_le2 (fun v => (SX.S (wordL p v)).length) (List.range n) fun v hv => by rw [SX.S_len]; exact word_len hp hn (List.mem_range.mp hv)
        rw [List.length_range] at h
        have h1 : (" " : Str).length = 1 := by decide +kernel
        rw [List.map_map, List.length_map, List.length_range, h1]
        exact Nat.le_trans (Nat.add_le_add_right h _) (by omega)
      · have e : Txt.join (" " : Str) ((List.range n).map fun v => SX.S (wordL p v)) = SX.S (forL n p) := by
          have := SX.join_S [32] ((List.range n).map (wordL p))
          rw [List.map_map] at this
          exact this
        rw [e]
        exact q H' sm
theorem ok_lrd {f fS fP : Addr} {fd fdS fdP : FuncData} (F : Fun K "_law_read" "_law_read" sLRd f fd) (kS : Kn P w K mg base 1 "_law_shown" sShn ["_law_forest_in"] (spFmF K) fS fdS) (kP : Kn P w K mg base 1 "_law_path" sPath ["_law_forest_in", "_law_node"] (spPath K) fP fdP) (T : Tx mg) (TS : TxS mg) (z_all : mg "all" = none) : FnOk P w K mg base CX0 2 f fd ["_law_text_in"] spLRd := by
  refine F.ok scLRd (fun vs H Q E h => ?_) (fun cdv A outer s H vs Q E hr h => ?_)
  · obtain ⟨l, rfl, _⟩ := h
    rfl
  · obtain ⟨l, rfl, hl, qy, qn⟩ := h
    have hrm : ∀ {j : Nat}, j ≤ 1 → Room j (A.deeper (envOfC "_law_read" (defScope sLRd) s.heap.objs.size f cdv)) := fun h => hr.mono h
    refine ⟨_, (C8.pss_cut (ps_asg (pe_tup (pa_cons (pe_ifExp (pt_cmpR op_ne (pv 0) pe_str (nomark _)) (pe_split (pv 0) pe_str) (pe_lst pa_nil)) (pa_cons (pe_lst pa_nil) pa_nil))) (pg_tup rfl (pgs_cons (pg_name (i := 1) scLRd.nd rfl (.inl rfl)) (pgs_cons (pg_name (i := 2) scLRd.nd rfl (.inr rfl)) pgs_nil))))
      (pss_cons (ps_for PassesOwn.never rfl (pi_range1 (by rfl) T.range (pa_cons (pe_callB call_len_seq (by rfl) T.len PySem.boot_len (pa_cons (pv 1) pa_nil)) pa_nil)) (pg_name (i := 3) scLRd.nd rfl (.inl rfl))
        (pss_cons (ps_set (i := 4) scLRd.nd rfl (.inl rfl) (pe_ix (show IxR _ (rIx K) from ix_seq) (pv 1) (pv 3) (fun _ _ => rfl)))
        (pss_one (ps_if (pt_cmpR op_eq (pv 4) pe_str (nomark _))
          (pss_one (ps_expr (pe_bm PySem.F.plainAttrs_list PySem.F.slot_list_append PySem.F.type_list_append mt_append (pv 2) (pa_cons (pv 3) pa_nil)))) (pss_one (ps_if (PW.pt (pw_or (pt_cmpR op_eq (pv 4) pe_str (nomark _)) (pw_or (pt_cmpR op_gt (pe_callB call_len_str (by rfl) T.len PySem.boot_len (pa_cons (pv 4) pa_nil)) pe_int (nomark _)) (pw_or1 (pt_not (pt_val (pe_callB (cr_all rfl) (by rfl) z_all (by decide +kernel) (pa_cons (pe_lc (own := [("_law_sign", 5)]) (g := gName 5) (by rfl) scLRd.nd (pi_str (pv 4)) (blkOk_by (own := [("_law_sign", 5)]) (N := lRdN) (sc := defScope sLRd) (by decide +kernel)) (fun _ _ _ _ _ => (pg_name (i := 5) scLRd.nd rfl (.inl rfl))) (fun _ _ _ _ _ => pts_nil) (fun _ _ _ _ _ => (pe_cmpR (show OpR _ (compareOp .In) rInS from op_inS) (pv 5) pe_str (by rfl)))) pa_nil))))))))
            (pss_one (ps_ret pe_non)) (pss_one (ps_expr (pe_bm PySem.F.plainAttrs_list PySem.F.slot_list_append PySem.F.type_list_append mt_append (pv 2) (pa_cons (pe_callTy call_int_str (by rfl) TS.int (by decide +kernel) (pa_cons (pv 4) pa_nil)) pa_nil))))))))))
      (pss_cons (ps_if (PW.pt (pw_or (pt_cmpR op_gt (pe_callB call_len_seq (by rfl) T.len PySem.boot_len (pa_cons (pv 2) pa_nil)) pe_int (nomark _)) (pw_or (pt_not (pt_val (pe_callB (cr_all rfl) (by rfl) z_all (by decide +kernel) (pa_cons (pe_lc (own := [("_law_above", 6)]) (g := gName 6) (by rfl) scLRd.nd (pi_list (pv 2)) (blkOk_by (own := [("_law_above", 6)]) (N := lRdN) (sc := defScope sLRd) (by decide +kernel)) (fun _ _ _ _ _ => (pg_name (i := 6) scLRd.nd rfl (.inl rfl))) (fun _ _ _ _ _ => pts_nil) (fun _ _ _ _ _ => (pe_cmpR op_lt (pv 6) (pe_callB (show CallR _ (.builtin "len") (rLenS K) from call_len_seq) (by rfl) T.len PySem.boot_len (pa_cons (pv 2) pa_nil)) (nomark _)))) pa_nil)))) (pw_or1 (pt_cmpR op_ne (pe_call kS.G (hrm (by decide)) (by rfl) kS.g kS.F.kp kS.b .nil pass0 (pa_cons (pe_callTy call_tuple_of (by rfl) T.tuple (by decide +kernel) (pa_cons (pv 2) pa_nil)) pa_nil)) (pv 0) (nomark _))))))
        (pss_one (ps_ret pe_non)) pss_nil)
      (pss_cons (ps_setLc (i := 7) (own := [("_law_node", 3)]) (g := gName 3) (by rfl) scLRd.nd rfl rfl (sw_true rfl rfl rfl (by decide +kernel)) (pi_range1 (by rfl) T.range (pa_cons (pe_callB call_len_seq (by rfl) T.len PySem.boot_len (pa_cons (pv 2) pa_nil)) pa_nil)) (blkOk_by (own := [("_law_node", 3)]) (N := lRdN) (sc := defScope sLRd) (by decide +kernel)) (fun _ _ _ _ _ => (pg_name (i := 3) scLRd.nd rfl (.inl rfl))) (fun _ _ _ _ _ => pts_nil) (fun _ _ _ _ _ => (pe_ix (show IxR _ (rIx K) from ix_seq) (pe_call kP.G (hrm (by decide)) (by rfl) kP.g kP.F.kp kP.b .nil pass0 (pa_cons (pv 2) (pa_cons (pv 3) pa_nil))) (pe_un un_neg pe_int) (fun _ _ => rfl))))
      (pss_one (ps_ret (pe_ifExp (pt_val (pe_callB (cr_all rfl) (by rfl) z_all (by decide +kernel) (pa_cons (pe_lc (own := [("_law_end", 8)]) (g := gName 8) (by rfl) scLRd.nd (pi_list (pv 7)) (blkOk_by (own := [("_law_end", 8)]) (N := lRdN) (sc := defScope sLRd) (by decide +kernel)) (fun _ _ _ _ _ => (pg_name (i := 8) scLRd.nd rfl (.inl rfl))) (fun _ _ _ _ _ => pts_nil) (fun _ _ _ _ _ => (pe_cmpR op_eq (pe_ix (show IxR _ (rIx K) from ix_seq) (pv 2) (pv 8) (fun _ _ => rfl)) (pv 8) (nomark _)))) pa_nil))) (pe_callTy call_tuple_of (by rfl) T.tuple (by decide +kernel) (pa_cons (pv 2) pa_nil)) pe_non))))))), ?_⟩
    obtain ⟨wl, ww⟩ := words_size l
    refine ⟨fun σ H' => ∃ a b, a ≠ b ∧ σ = [some (.str (SX.S l)), some (.ref a), some (.ref b), none, none, none, none, none, none] ∧ H' a = some (.lst (((wordsL l).map SX.S).map V.str)) ∧ H' b = some (.lst []) ∧ Same H H' ∧ H b = none, ?_, ?_⟩
    · refine ⟨_, rfl, rfl, _, rfl, ?_⟩
      have fin : ∀ (a : Addr) (H1 : Hp), H a = none → H1 a = some (.lst (((wordsL l).map SX.S).map V.str)) → Same H H1 → ∀ b, H1 b = none → ∀ T, upd H1 b (.lst []) T = none → a ≠ b ∧ upd (upd H1 b (.lst [])) T (.tup [V.ref a, V.ref b]) a = some (.lst (((wordsL l).map SX.S).map V.str)) ∧ upd (upd H1 b (.lst [])) T (.tup [V.ref a, V.ref b]) b = some (.lst []) ∧ Same H (upd (upd H1 b (.lst [])) T (.tup [V.ref a, V.ref b])) ∧ H b = none := fun a H1 na ha s1 b nb T nT => by
        have u1 := same_new (o := .lst []) nb
        have u2 := same_new (o := .tup [V.ref a, V.ref b]) nT
        exact ⟨ne_of_none ha nb, u2 _ _ (u1 _ _ ha), u2 _ _ upd_same, (s1.trans u1).trans u2, sm_none s1 nb⟩
      by_cases h0 : l = []
      · subst h0
        rw [show decide (V.str (SX.S []) = V.str ("" : Str)) = true from decide_eq_true rfl]
        refine iteF ⟨by show 0 ≤ sizeLine; decide, fun a na => ⟨by show 0 ≤ sizeLine; decide, fun b nb => ⟨by show 2 ≤ sizeLine; decide, fun T nT => ?_⟩⟩⟩
        obtain ⟨f1, f2, f3, f4, f5⟩ := fin a _ na upd_same (same_new na) b nb T nT
        exact ⟨T, _, rfl, SqT.of upd_same, rfl, _, _, rfl, _, _, rfl, rfl, a, b, f1, rfl, f2, f3, f4, f5⟩
      · rw [show decide (V.str (SX.S l) = V.str ("" : Str)) = false from decide_eq_false fun z => h0 (by injection z with z; exact SX.S_inj z)]
        refine iteT ⟨_, rfl, ⟨_, rfl⟩, _, _, rfl, rfl, rfl, ?_, fun a na => ⟨by show 0 ≤ sizeLine; decide, fun b nb => ⟨by show 2 ≤ sizeLine; decide, fun T nT => ?_⟩⟩⟩
        · rw [SX.S_len]; exact Nat.le_trans (Nat.add_le_add_right hl 2) (by decide)
        · have ew : upd H a (.lst ((Txt.split (SX.S l) (" " : Str)).map V.str)) a = some (.lst (((wordsL l).map SX.S).map V.str)) := by
            rw [upd_same, show (" " : Str) = SX.S [32] from rfl, SX.split_S (by decide) (by decide)]
            unfold wordsL
            rw [if_neg h0]
          obtain ⟨f1, f2, f3, f4, f5⟩ := fin a _ na ew (same_new na) b nb T nT
          exact ⟨T, _, rfl, SqT.of upd_same, rfl, _, _, rfl, _, _, rfl, rfl, a, b, f1, rfl, f2, f3, f4, f5⟩
    rintro σ H1 ⟨a, b, hab, rfl, ha, hb, s1, hbn⟩
    generalize hws : wordsL l = ws at ha wl ww
    have wR : FoT l → ∃ (n : Nat) (p r : Nat → Nat), n ≤ 40 ∧ Fo n p r ∧ l = forL n p ∧ ws.length = n ∧ ∀ j, j < n → wrd2 j (ws.getD j []) = some (p j) := fun ⟨n, p, r, hn, fo, e⟩ => by
      refine ⟨n, p, r, hn, fo, e, ?_⟩
      rw [e, words_for] at hws
      subst hws
      refine ⟨by simp, fun j hj => ?_⟩
      rw [List.getD_eq_getElem?_getD, List.getElem?_map, List.getElem?_range hj]
      exact wrd2_for (by have := fo.lt j hj; omega)
    have hlen : ((ws.map SX.S).map V.str).length = ws.length := by simp
    refine ⟨_, rfl, a, _, rfl, .inl (SqL.of ha), _, rfl, by omega, by omega, ?_⟩
    rw [hlen]
    refine for_range (lo := 0) (n := ((ws.length : Nat) : Int).toNat) (fun i σ H' => (∃ y3 y4, σ = [some (.str (SX.S l)), some (.ref a), some (.ref b), y3, y4, none, none, none, none]) ∧ ∃ R : List Nat, R.length = i ∧ (∀ j, j < i → wrd2 j (ws.getD j []) = some (R.getD j 0)) ∧ H' a = some (.lst ((ws.map SX.S).map V.str)) ∧ H' b = some (.lst (natsV R)) ∧ Same H H') ⟨⟨_, _, rfl⟩, [], rfl, fun j hj => absurd hj (Nat.not_lt_zero _), ha, hb, s1⟩ ?_ ?_
    · rintro i σ H2 hi ⟨⟨y3, y4, rfl⟩, R, lR, rR, ha2, hb2, s2⟩
      have hi : i < ws.length := by omega
      show gName 3 (V.int ((0 : Int) + (i : Int))) _ _ _
      rw [Int.zero_add]
      have eix : ((ws.map SX.S).map V.str)[i]? = some (.str (SX.S (ws.getD i []))) := by
        rw [List.getElem?_map, List.getElem?_map, List.getElem?_eq_getElem hi, List.getD_eq_getElem?_getD, List.getElem?_eq_getElem hi]
        rfl
      have hwl : (ws.getD i []).length ≤ l.length := by
        rw [List.getD_eq_getElem?_getD, List.getElem?_eq_getElem hi]
        exact ww _ (List.getElem_mem hi)
      generalize hwi : ws.getD i [] = wi at hwl eix
      have hR : (natsV R).length < sizeLine := by
        rw [natsV_len, lR]
        exact Nat.lt_of_le_of_lt (show i ≤ 1000 by omega) (by decide)
      have fin : ∀ H3, Same H2 H3 → ∀ m, wrd2 i wi = some m → ∀ acc, acc = natsV R ++ [vi m] → ∃ R : List Nat, R.length = i + 1 ∧ (∀ j, j < i + 1 → wrd2 j (ws.getD j []) = some (R.getD j 0)) ∧ upd H3 b (.lst acc) a = some (.lst ((ws.map SX.S).map V.str)) ∧ upd H3 b (.lst acc) b = some (.lst (natsV R)) ∧ Same H (upd H3 b (.lst acc)) := fun H3 s3 m em acc eacc => by
        subst eacc
        refine ⟨R ++ [m], by rw [List.length_append, lR]; rfl, fun j hj => ?_, ?_, ?_, ?_⟩
        · by_cases hji : j = i
          · subst hji
            rw [hwi, em, List.getD_eq_getElem?_getD, List.getElem?_append_right (by omega), lR, Nat.sub_self]
            rfl
          · rw [rR j (by omega), List.getD_eq_getElem?_getD, List.getD_eq_getElem?_getD, List.getElem?_append_left (by omega)]
        · rw [upd_ne hab]; exact s3 _ _ ha2
        · rw [upd_same]; unfold natsV; rw [List.map_append]; rfl
        · refine same_over (s2.trans s3) ?_
          exact hbn
      refine ⟨_, rfl, _, rfl, Sq.ix (.inl (SqL.of ha2)) (atI_nat eix) ⟨_, rfl, rfl, _, rfl, ?_⟩⟩
      by_cases e : wi = [45]
      · rw [show decide (V.str (SX.S wi) = V.str ("-" : Str)) = true from decide_eq_true (by rw [e]; rfl)]
        refine iteT ⟨_, rfl, .inl ⟨rfl, _, SqL.of hb2⟩, _, rfl, b, _, _, rfl, rfl, hb2, hR, ⟨_, _, rfl⟩, fin H2 (Same.refl _) i (by unfold wrd2; rw [if_pos e]) _ rfl⟩
      · rw [show decide (V.str (SX.S wi) = V.str ("-" : Str)) = false from decide_eq_false fun z => by
          injection z with z
          exact e (SX.S_inj z)]
        refine iteF ?_
        have bad : (decide (wi = []) || decide (2 < wi.length) || !(wi.all dgB)) = true → ∀ H', Same H2 H' → Q .non H' := fun hb H' s' => qn (fun ft => by
          obtain ⟨n, p, r, _, _, _, hn, hr⟩ := wR ft
          have := hr i (by omega)
          rw [hwi] at this
          unfold wrd2 at this
          rw [if_neg e, if_pos hb] at this
          cases this) _ (s2.trans s')
        have good : (decide (wi = []) || decide (2 < wi.length) || !(wi.all dgB)) = false → wrd2 i wi = some (NumText.digitsVal wi) := fun hb => by
          unfold wrd2
          rw [if_neg e, if_neg (by rw [hb]; decide)]
        refine ⟨_, rfl, rfl, _, rfl, ?_⟩
        by_cases h0 : wi = []
        · rw [show decide (V.str (SX.S wi) = V.str ("" : Str)) = true from decide_eq_true (by rw [h0]; rfl)]
          refine iteT (iteT (bad ?_ _ (Same.refl _)))
          rw [h0]; rfl
        rw [show decide (V.str (SX.S wi) = V.str ("" : Str)) = false from decide_eq_false fun z => h0 (by injection z with z; exact SX.S_inj z)]
        refine iteF ⟨_, rfl, _, rfl, by rw [SX.S_len]; exact Nat.le_trans (Nat.le_trans hwl hl) (by decide), _, _, rfl, rfl, _, rfl, ?_⟩
        rw [SX.S_len]
        by_cases h2 : 2 < wi.length
        · rw [decide_eq_true (show (2 : Int) < ((wi.length : Nat) : Int) by omega)]
          refine iteT (bad ?_ _ (Same.refl _))
          rw [decide_eq_true h2, Bool.or_true]; rfl
        rw [decide_eq_false (show ¬ (2 : Int) < ((wi.length : Nat) : Int) by omega)]
        refine iteF ⟨_, rfl, _, rfl, fun D nD => ?_⟩
        refine lc_str (z := SX.S wi) (fun i H3 => H3 D = some (.lst (((wi.take i).map dgB).map V.bl)) ∧ Same H2 H3) ⟨upd_same, same_new nD⟩ ?_ ?_
        · rintro i c H3 hc ⟨hD, sm⟩
          have hc : wi[i]? = some c := hc
          refine ⟨rfl, _, rfl, c, _, rfl, rfl, _, hD, ?_, ?_, same_over sm nD⟩
          · rw [List.length_map, List.length_map, List.length_take]
            exact Nat.lt_of_le_of_lt (show min i wi.length ≤ 1000 by omega) (by decide)
          · rw [upd_same, List.take_add_one, hc, List.map_append, List.map_append, dig_mem c]
            rfl
        rintro H3 ⟨hD, sm⟩
        have hD : H3 D = some (.lst ((wi.map dgB).map V.bl)) := by
          have : wi.take (SX.S wi).cps.toList.length = wi := List.take_length
          rw [this] at hD
          exact hD
        refine ⟨D, wi.map dgB, rfl, SqL.of hD, ?_⟩
        have eall : (wi.map dgB).all id = wi.all dgB := by rw [List.all_map]; rfl
        rw [eall]
        have h2f : decide (2 < wi.length) = false := decide_eq_false h2
        have h0f : decide (wi = []) = false := decide_eq_false h0
        by_cases h3 : wi.all dgB = true
        case neg =>
          have h3 : wi.all dgB = false := by simpa using h3
          rw [h3]
          refine ⟨_, rfl, iteT (bad ?_ _ sm)⟩
          rw [h3, h0f, h2f]; rfl
        rw [h3]
        have e1 : digsL wi = wi ∧ negB wi = false := by
          rcases digs_cases wi with ⟨r, e1, e2, e3⟩ | ⟨_, e2, e3⟩
          · have := dgB_mem h3 45 (by rw [e1]; exact List.mem_cons_self)
            omega
          · exact ⟨e2, e3⟩
        have hpos : 1 ≤ wi.length := List.length_pos_iff.mpr h0
        have hrd := valL_reads (l := wi) (by rw [e1.1]; exact hpos) (by rw [e1.1]; omega) (by rw [e1.1]; exact h3)
        have ev : valL wi = ((NumText.digitsVal wi : Nat) : Int) := by
          unfold valL
          rw [e1.2, e1.1]; rfl
        rw [ev] at hrd
        have hb3 := sm _ _ hb2
        refine ⟨_, rfl, iteF ⟨_, rfl, .inl ⟨rfl, _, SqL.of hb3⟩, _, rfl, _, _, rfl, hrd, by rw [SX.S_len]; omega, b, _, _, rfl, rfl, hb3, hR, ⟨_, _, rfl⟩, fin H3 sm _ (good ?_) _ rfl⟩⟩
        rw [h3, h0f, h2f]; rfl
    rintro σ H2 ⟨⟨y3, y4, rfl⟩, R, lR, rR, ha2, hb2, s2⟩
    rw [show ((ws.length : Nat) : Int).toNat = ws.length by omega] at lR rR
    have hRF : ∀ n p r, n ≤ 40 → Fo n p r → l = forL n p → R = (List.range n).map p := fun n p r hn fo e => by
      have hw : ws = (List.range n).map (wordL p) := by rw [← hws, e, words_for]
      have hwn : ws.length = n := by rw [hw]; simp
      refine List.ext_getElem? fun j => ?_
      by_cases hj : j < n
      · have h1 := rR j (by omega)
        have hp := fo.lt j hj
        rw [hw, List.getD_eq_getElem?_getD, List.getElem?_map, List.getElem?_range hj] at h1
        have h1 : wrd2 j (wordL p j) = some (R.getD j 0) := h1
        rw [wrd2_for (by omega)] at h1
        have h2 : R[j]? = some (R.getD j 0) := by
          rw [List.getD_eq_getElem?_getD, List.getElem?_eq_getElem (show j < R.length by omega)]; rfl
        rw [h2, List.getElem?_map, List.getElem?_range hj, ← h1]
        rfl
      · rw [List.getElem?_eq_none (by omega), List.getElem?_eq_none (by rw [List.length_map, List.length_range]; omega)]
    have hno : ¬ FoT l → ∀ H', Same H2 H' → Q .non H' := fun h H' s' => qn h _ (s2.trans s')
    have hRl : (natsV R).length = ws.length := by rw [natsV_len, lR]
    refine ⟨_, rfl, b, _, rfl, .inl (SqL.of hb2), _, _, rfl, rfl, _, rfl, ?_⟩
    rw [hRl]
    have hFw : ∀ n p r, n ≤ 40 → Fo n p r → l = forL n p → ws.length = n := fun n p r hn fo e => by
      have := congrArg List.length (hRF n p r hn fo e)
      rw [List.length_map, List.length_range, lR] at this
      exact this
    by_cases h40 : 40 < ws.length
    · rw [decide_eq_true (show (40 : Int) < ((ws.length : Nat) : Int) by omega)]
      exact iteT (iteT (hno (fun ⟨n, p, r, hn, fo, e⟩ => by have := hFw n p r hn fo e; omega) _ (Same.refl _)))
    rw [decide_eq_false (show ¬ (40 : Int) < ((ws.length : Nat) : Int) by omega)]
    refine iteF ⟨_, rfl, b, rfl, ⟨_, SqL.of hb2⟩, fun D nD => ?_⟩
    refine lc_list (K := K) (a := b) (xs := natsV R) (fun i H' => H' D = some (.lst ((((R.take i).map fun v => decide (v < ws.length))).map V.bl)) ∧ Same H2 H') ⟨upd_same, same_new nD⟩ (fun i H' _ h => SqL.of (h.2 _ _ hb2)) ?_ ?_
    · rintro i x H3 hx ⟨hD, sm⟩
      obtain ⟨v, hv, rfl⟩ : ∃ v, R[i]? = some v ∧ x = vi v := by
        unfold natsV at hx
        rw [List.getElem?_map] at hx
        cases hR : R[i]? with
        | none => rw [hR] at hx; cases hx
        | some v => rw [hR] at hx; exact ⟨v, rfl, (Option.some.inj hx).symm⟩
      have hi : i < R.length := (List.getElem?_eq_some_iff.mp hv).1
      refine ⟨rfl, _, rfl, _, rfl, b, _, rfl, .inl (SqL.of (sm _ _ hb2)), _, _, rfl, rfl, _, hD, ?_, ?_, same_over sm nD⟩
      · rw [List.length_map, List.length_map, List.length_take]
        exact Nat.lt_of_le_of_lt (show min i R.length ≤ 1000 by omega) (by decide)
      · rw [upd_same, List.take_add_one, hv, List.map_append, List.map_append, hRl]
        have e : decide ((v : Int) < ((ws.length : Nat) : Int)) = decide (v < ws.length) := decide_eq_decide.mpr (by omega)
        show some (HO.lst (_ ++ [V.bl (decide ((v : Int) < ((ws.length : Nat) : Int)))])) = _
        rw [e]
        rfl
    rintro H3 ⟨hD, s3⟩
    rw [hRl, ← lR, List.take_length, lR] at hD
    refine ⟨D, _, rfl, SqL.of hD, ?_⟩
    rw [List.all_map]
    by_cases hall : (R.all fun v => decide (v < ws.length)) = true
    case neg =>
      have hall : (R.all fun v => decide (v < ws.length)) = false := by simpa using hall
      rw [show (R.all (id ∘ fun v => decide (v < ws.length))) = false from hall]
      refine ⟨_, rfl, iteT (iteT (hno (fun ⟨n, p, r, hn, fo, e⟩ => ?_) _ s3))⟩
      have hw := hFw n p r hn fo e
      rw [hRF n p r hn fo e, List.all_eq_false] at hall
      obtain ⟨x, hx, hx2⟩ := hall
      obtain ⟨v, hv, rfl⟩ := List.mem_map.mp hx
      exact hx2 (decide_eq_true (by rw [hw]; exact fo.lt v (List.mem_range.mp hv)))
    rw [show (R.all (id ∘ fun v => decide (v < ws.length))) = true from hall]
    obtain ⟨p0, hp0⟩ : ∃ p0 : Nat → Nat, ∀ v, p0 v = R.getD v 0 := ⟨_, fun _ => rfl⟩
    have hlt : ∀ v, v < ws.length → p0 v < ws.length := fun v hv => by
      rw [hp0, List.getD_eq_getElem?_getD, List.getElem?_eq_getElem (show v < R.length by omega)]
      exact of_decide_eq_true (List.all_eq_true.mp hall _ (List.getElem_mem _))
    have hb3 := s3 _ _ hb2
    have etup : natsV R = tupOf ws.length p0 := by
      refine List.ext_getElem? fun j => ?_
      unfold natsV
      by_cases hj : j < ws.length
      · rw [List.getElem?_map, tupOf_at hj, hp0, List.getElem?_eq_getElem (show j < R.length by omega), List.getD_eq_getElem?_getD, List.getElem?_eq_getElem (show j < R.length by omega)]
        rfl
      · rw [List.getElem?_eq_none (by rw [List.length_map]; omega), List.getElem?_eq_none (by rw [tupOf_len]; omega)]
    refine ⟨_, rfl, iteF ⟨_, rfl, b, _, rfl, .inl ⟨SqL.of hb3, fun t nt => ?_⟩⟩⟩
    have u1 := same_new (o := .tup (natsV R)) nt
    have ht : upd H3 t (.tup (natsV R)) t = some (.tup (tupOf ws.length p0)) := by rw [upd_same, etup]
    generalize upd H3 t (.tup (natsV R)) = H4 at u1 ht ⊢
    refine ⟨t, _, _, rfl, SqT.of ht, by omega, hlt, fun H5 s5 => ⟨_, rfl, rfl, _, rfl, ?_⟩⟩
    have s35 := u1.trans s5
    by_cases he : forL ws.length p0 = l
    case neg =>
      rw [decide_eq_false (fun z => he (by injection z with z; exact SX.S_inj z))]
      refine iteT (hno (fun ⟨n, p, r, hn, fo, e⟩ => he ?_) _ (s3.trans s35))
      rw [hFw n p r hn fo e, e]
      refine forL_congrI fun v hv => ?_
      rw [hp0, hRF n p r hn fo e, List.getD_eq_getElem?_getD, List.getElem?_map, List.getElem?_range hv]
      rfl
    rw [he, decide_eq_true rfl]
    refine iteF ?_
    have hb5 := s5 _ _ (u1 _ _ hb3)
    have s25 := s3.trans s35
    refine ⟨_, rfl, b, _, rfl, .inl (SqL.of hb5), _, rfl, by omega, by omega, fun D2 nD2 => ?_⟩
    rw [hRl]
    have hb5' : SqL K H5 b (tupOf ws.length p0) := by rw [← etup]; exact SqL.of hb5
    refine lc_range (lo := 0) (n := ((ws.length : Nat) : Int).toNat) (fun i H' => H' D2 = some (.lst (natsV ((List.range i).map (root p0 ws.length)))) ∧ Same H5 H') ⟨upd_same, same_new nD2⟩ ?_ ?_
    · rintro i H6 hi ⟨hD2, s6⟩
      have hi : i < ws.length := by omega
      show gName 3 (V.int ((0 : Int) + (i : Int))) _ _ _
      rw [Int.zero_add]
      refine ⟨rfl, _, rfl, _, rfl, b, ws.length, p0, i, rfl, .inl (by rw [← etup]; exact SqL.of (s6 _ _ hb5)), by omega, hlt, hi, fun c H7 nc hc s7 => ?_⟩
      have hc : H7 c = some (.lst (natsV (path p0 ws.length i))) := hc
      refine ⟨1, rfl, .inl ⟨c, _, _, _, rfl, rfl, SqL.of hc, natsV_last p0 ws.length i, _, s7 _ _ hD2, ?_, ?_, same_over (s6.trans s7) nD2⟩⟩
      · rw [natsV_len, List.length_map, List.length_range]
        exact Nat.lt_of_le_of_lt (show i ≤ 1000 by omega) (by decide)
      · rw [upd_same, List.range_succ, List.map_append]
        unfold natsV
        rw [List.map_append]
        rfl
    rintro H6 ⟨hD2, s6⟩
    rw [show ((ws.length : Nat) : Int).toNat = ws.length by omega] at hD2
    have hb6 := s6 _ _ hb5
    refine ⟨_, rfl, D2, rfl, ⟨_, SqL.of hD2⟩, fun D3 nD3 => ?_⟩
    refine lc_list (K := K) (a := D2) (xs := natsV ((List.range ws.length).map (root p0 ws.length))) (fun i H' => H' D3 = some (.lst ((((List.range i).map fun v => decide (p0 (root p0 ws.length v) = root p0 ws.length v))).map V.bl)) ∧ Same H6 H') ⟨upd_same, same_new nD3⟩ (fun i H' _ h => SqL.of (h.2 _ _ hD2)) ?_ ?_
    · rintro i x H7 hx ⟨hD3, s7⟩
      have hi : i < ws.length := by
        have := (List.getElem?_eq_some_iff.mp hx).1
        rwa [natsV_len, List.length_map, List.length_range] at this
      obtain rfl : x = vi (root p0 ws.length i) := by
        unfold natsV at hx
        rw [List.getElem?_map, List.getElem?_map, List.getElem?_range hi] at hx
        exact (Option.some.inj hx).symm
      have hri := root_lt0 hlt ws.length i hi
      refine ⟨rfl, _, rfl, _, rfl, Sq.ix (.inl (by rw [← etup]; exact SqL.of (s7 _ _ hb6))) (atI_nat (tupOf_at hri)) ⟨_, rfl, rfl, _, hD3, ?_, ?_, same_over s7 nD3⟩⟩
      · rw [List.length_map, List.length_map, List.length_range]
        exact Nat.lt_of_le_of_lt (show i ≤ 1000 by omega) (by decide)
      · rw [upd_same, List.range_succ, List.map_append, List.map_append]
        have e : decide (vi (p0 (root p0 ws.length i)) = vi (root p0 ws.length i)) = decide (p0 (root p0 ws.length i) = root p0 ws.length i) := decide_eq_decide.mpr ⟨fun z => by have := V.int.inj z; omega, fun z => by rw [z]⟩
        show some (HO.lst (_ ++ [V.bl (decide (vi (p0 (root p0 ws.length i)) = vi (root p0 ws.length i)))])) = _
        rw [e]
        rfl
    rintro H7 ⟨hD3, s7⟩
    rw [natsV_len, List.length_map, List.length_range] at hD3
    refine ⟨D3, _, rfl, SqL.of hD3, _, rfl, ?_⟩
    have s27 := (s25.trans s6).trans s7
    rw [List.all_map]
    by_cases hfix : ((List.range ws.length).all fun v => decide (p0 (root p0 ws.length v) = root p0 ws.length v)) = true
    · rw [show ((List.range ws.length).all (id ∘ fun v => decide (p0 (root p0 ws.length v) = root p0 ws.length v))) = true from hfix]
      have fo := fo_of hlt fun v hv => of_decide_eq_true (List.all_eq_true.mp hfix v (List.mem_range.mpr hv))
      refine iteT ⟨_, rfl, b, _, rfl, .inl ⟨SqL.of (s7 _ _ hb6), fun t2 nt2 => ?_⟩⟩
      exact qy _ _ _ (by omega) fo he.symm t2 _ (sm_none (s2.trans s27) nt2) (by rw [upd_same, etup]) ((s2.trans s27).trans (same_new nt2))
    · have hfix : ((List.range ws.length).all fun v => decide (p0 (root p0 ws.length v) = root p0 ws.length v)) = false := by simpa using hfix
      rw [show ((List.range ws.length).all (id ∘ fun v => decide (p0 (root p0 ws.length v) = root p0 ws.length v))) = false from hfix]
      refine iteF (hno (fun ⟨n, p, r, hn, fo, e⟩ => ?_) _ s27)
      have hw := hFw n p r hn fo e
      rw [List.all_eq_false] at hfix
      obtain ⟨v, hv, hv2⟩ := hfix
      have hv := List.mem_range.mp hv
      have ep : ∀ v, v < n → p0 v = p v := fun v hv => by
        rw [hp0, hRF n p r hn fo e, List.getD_eq_getElem?_getD, List.getElem?_map, List.getElem?_range hv]; rfl
      have er : ∀ k x, x < n → root p0 k x = root p k x := fun k => by
        induction k with
        | zero => exact fun x hx => rfl
        | succ k ih =>
          intro x hx
          show (if p0 x = x then x else root p0 k (p0 x)) = (if p x = x then x else root p k (p x))
          rw [ep x hx, ih _ (fo.lt x hx)]
      rw [hw] at hv2 hv
      refine hv2 (decide_eq_true ?_)
      rw [er n v hv, ep _ (root_lt fo v hv), root_fix fo v hv]
end
end Ff

namespace Ff
open PySem PySem.Spec PyProof.Rows L2 ExX LamX
/-! errors of lambdas made in a comprehension -/
structure RdK (K : PySem.W.Frag) (CF CM C : Addr) (fld : Str) : Prop where
  hex : PySem.W.exmAny K (.ref C) [.ref CF, .ref CM] = some true
  xf : XfC K C
  nt : PySem.W.findIn K (.ref C) "tag" = some none
  nf : PySem.W.findIn K (.ref C) fld = some none
theorem TabS.keepB {H H' : Hp} {P : Addr} {q : Str} (t : TabS H P q) (k : ∀ b o, H b = some o → (∀ xs, o ≠ .lst xs) → (∀ C dx fs, o ≠ .ins C dx fs) → H' b = some o) : TabS H' P q := by
  obtain ⟨ps, h1, h2, h3⟩ := t
  refine ⟨ps, k _ _ h1 (by intro xs z; cases z) (by intro C dx fs z; cases z), h2, fun pos cv hc => ?_⟩
  obtain ⟨c, e1, e2⟩ := h3 pos cv hc
  exact ⟨c, e1, k _ _ e2 (by intro xs z; unfold CodeO at z; cases z) (by intro C dx fs z; unfold CodeO at z; cases z)⟩
theorem Tabs.keepB {T : List (Addr × Str)} {H H' : Hp} (t : Tabs T H) (k : ∀ b o, H b = some o → (∀ xs, o ≠ .lst xs) → (∀ C dx fs, o ≠ .ins C dx fs) → H' b = some o) : Tabs T H' := fun p hp => TabS.keepB (t p hp) k
section
variable {P : Program} {w : World} {K : PySem.W.Frag} {mg : Str → Option Value} {base : Heap}
/-- one error, a lambda of any make -/
theorem ask_flB {C CF CM : Addr} {tl : XK → Hp → VK → Prop} {H : Hp} {Q : VK} {fld tag : Str} {v : V} (R : RdK K CF CM C fld) (tg : TagOk tag fld)
    (hc : ∀ Ha E, Same H Ha → Flies Ha E C fld tag v → tl E Ha fun _ _ => False) (q : ∀ t H2, H t = none → Same H H2 → H2 t = some (.tup [.str tag, v]) → Q (.ref t) H2) : TTerr K CF CM tl H Q := by
  intro Ha sa
  refine ⟨fun cls d H1 => cls = .ref C ∧ ∃ dd, d = some dd ∧ H1 dd = some (.xd [(fld, v), ("tag", .str tag)]) ∧ Same Ha H1, fun _ _ => False, hc Ha _ sa fun dd H1 n1 h1 s1 => ⟨rfl, dd, rfl, h1, s1⟩, ?_, fun _ _ h => h.elim⟩
  rintro cls d H1 ⟨rfl, dd, rfl, hdd, s1⟩
  exact ⟨R.hex, tag, fld, v, ⟨C, dd, rfl, R.xf, R.nt, R.nf, rfl, hdd⟩, tg, fun t H2 n s2 e => q t H2 (sm_none (sa.trans s1) n) ((sa.trans s1).trans s2) e⟩
/-- the errors of lambdas made in the block, one for each item of a list -/
theorem asksB_fl {j : Nat} (σ : L2.St) {H : Hp} {CF CM la D : Addr} {TT : List (Addr × Str)} {tb : XK → TE} (xs : List V) (es : List (Str × V)) {Qd : Hp → Prop} (hl : H la = some (.lst xs)) (nD : H D = none) (hj : j < σ.length) (hm : xs.length ≤ 1000) (he : es.length = xs.length) (hT : Tabs TT H)
    (hf : ∀ (i : Nat) (x : V) (e : Str × V), xs[i]? = some x → es[i]? = some e → ∃ (C : Addr) (fld : Str), RdK K CF CM C fld ∧ TagOk e.1 fld ∧ ∀ Ha E, ExtN H Ha → Tabs TT Ha → Flies Ha E C fld e.1 e.2 → tb E ((wipe σ [j]).set j (some x)) Ha fun _ _ => False)
    (q : ∀ (ts : List Addr) H1, ts.length = es.length → H1 D = some (.lst (ts.map V.ref)) → (∀ (i : Nat) (t : Addr) (e : Str × V), ts[i]? = some t → es[i]? = some e → H1 t = some (.tup [.str e.1, e.2])) → ExtN H H1 → Tabs TT H1 → Qd H1) :
    ∃ W : Nat → Nat → Hp → Prop, (∃ m, W 0 m (upd H D (.lst []))) ∧ ∀ i m H, W i m H →
      ((Itl K la).stop i H ∧ Qd H) ∨ ((Itl K la).go i H ∧ ∃ Nx : Hp → Prop, (∀ H', Nx H' → ∃ m', m' < m ∧ W (i + 1) m' H') ∧ ∀ x H', (Itl K la).yld i H x H' → gName j x (wipe σ [j]) H' fun σ2 H2 => wipe σ2 [j] = wipe σ [j] ∧ tYes σ2 H2 fun b H3 =>
        if b = true then (Tabs TT H3 ∧ ∀ (f : Addr) (H1 : Hp), ExtN H3 H1 → Tabs TT H1 → ∀ At : Hp → Prop, At H1 → (∀ Ha Hb, At Ha → (∀ b o, Ha b = some o → Hb b = some o) → At Hb) → TTerr K CF CM (fun E HZ Q' => At HZ ∧ tb E σ2 HZ Q') H1 fun y H4 => ∃ acc, H4 D = some (.lst acc) ∧ acc.length < sizeLine ∧ Nx (upd H4 D (.lst (acc ++ [y])))) else Nx H3) := by
  have nt : ∀ {xs : List V} (ps), (HO.lst xs) ≠ .tbl ps := fun _ z => by cases z
  refine lc_list (K := K) (a := la) (xs := xs) (g := gName j) (tt := tYes) (te := fun σ2 H3 Q => Tabs TT H3 ∧ ∀ (f : Addr) (H1 : Hp), ExtN H3 H1 → Tabs TT H1 → ∀ At : Hp → Prop, At H1 → (∀ Ha Hb, At Ha → (∀ b o, Ha b = some o → Hb b = some o) → At Hb) → TTerr K CF CM (fun E HZ Q' => At HZ ∧ tb E σ2 HZ Q') H1 Q) (vs := [j]) (σ := σ) (Qd := Qd) (fun i H1 => ∃ ts : List Addr, ts.length = i ∧ H1 D = some (.lst (ts.map V.ref)) ∧ (∀ (i : Nat) (t : Addr) (e : Str × V), ts[i]? = some t → es[i]? = some e → H1 t = some (.tup [.str e.1, e.2])) ∧ ExtN H H1 ∧ Tabs TT H1)
    ⟨[], rfl, upd_same, by simp, same_ext (same_new nD), hT.ext (same_new nD)⟩ (fun i H1 _ h => h.elim fun ts h => SqL.of (h.2.2.2.1 _ _ hl nt)) ?_ ?_
  · rintro k y H1 hy ⟨ts, hlen, hD, hts, s1, hT1⟩
    have hk : k < xs.length := (List.getElem?_eq_some_iff.mp hy).1
    have hee : es[k]? = some es[k] := List.getElem?_eq_getElem (by omega)
    generalize es[k] = e at hee
    obtain ⟨C, fld, R, tg, hc⟩ := hf k y e hy hee
    refine ⟨wipe_one, hT1, fun f H2 e12 hT2 At hA hAs => ?_⟩
    refine ask_flB R tg (fun Ha E sa fl => ⟨hAs _ _ hA sa, hc Ha E (fun b o h n => sa _ _ (e12 b o (s1 b o h n) n)) (hT2.ext sa) fl⟩) fun t H3 nt3 s3 et => ?_
    have hD3 := s3 _ _ (e12 _ _ hD nt)
    have nDt : t ≠ D := fun z => by rw [z, e12 _ _ hD nt] at nt3; cases nt3
    have s13 : ExtN H1 H3 := fun b o h n => s3 _ _ (e12 b o h n)
    have old : ∀ {b : Addr} {o : HO}, H1 b = some o → (∀ ps, o ≠ .tbl ps) → b ≠ D → upd H3 D (.lst ((ts ++ [t]).map V.ref)) b = some o := fun h n nb => by rw [upd_ne nb]; exact s13 _ _ h n
    refine ⟨_, hD3, by rw [List.length_map, hlen]; exact Nat.lt_of_le_of_lt (show k ≤ 1000 by omega) (by decide), ts ++ [t], by rw [List.length_append, hlen]; rfl, by rw [upd_same, List.map_append]; rfl, fun i t2 e2 h2 h3 => ?_, fun b o h n => ?_, ?_⟩
    · by_cases hi : i < ts.length
      · rw [List.getElem?_append_left hi] at h2
        have e2 := hts i t2 e2 h2 h3
        rw [upd_ne (ne_of e2 hD (by intro z; cases z))]
        exact s13 _ _ e2 (fun _ z => by cases z)
      · rw [List.getElem?_append_right (by omega)] at h2
        have hi2 : i = k := by
          have := (List.getElem?_eq_some_iff.mp h2).1
          rw [List.length_singleton] at this
          omega
        subst hi2
        rw [show i - ts.length = 0 by omega, List.getElem?_cons_zero] at h2
        rw [hee] at h3
        cases h2
        cases h3
        rw [upd_ne nDt]
        exact et
    · have nb : b ≠ D := ne_of_none h nD
      rw [upd_ne nb]
      exact s13 _ _ (s1 b o h n) n
    · exact Tabs.keepB (hT2.ext s3) fun b o h n _ => by rw [upd_ne fun z => by rw [z, hD3] at h; cases h; exact n _ rfl]; exact h
  · rintro H1 ⟨ts, hlen, hD, hts, s1, hT1⟩
    exact q ts H1 (by omega) hD hts s1 hT1
end
end Ff

namespace Ff
open PySem PySem.Spec PyProof.Rows L2 ExX LamX
abbrev sLaw : Stmt := topS 34
abbrev lawN : List Str := ["_law_script", "_law_draw", "_law_turn", "_law_forest_in", "_law_text_in", "_law_step", "_law_at", "_law_sign", "_law_due", "_law_expected", "_law_odd", "_law_good", "_law_one"]
theorem scLaw : FnScope lawN ["_law_script"] (defScope sLaw) := ⟨rfl, rfl, rfl, by decide +kernel, rfl, by decide +kernel, by decide +kernel⟩
abbrev lamQ : Str := (envOfC "law" (defScope sLaw) 0 0 .none).qual ++ "<lambda>"
/-- one parameter, given by keyword -/
def kw1 {α : Type} : List α → List α → List α
  | [], [a] => [a]
  | _, _ => []
theorem kw1_rel {vs : List V} {us : List Value} {zs : List V} {ws : List Value} (r : Vals vs us) (s : Vals zs ws) : Vals (kw1 vs zs) (kw1 us ws) := by
  cases r with
  | cons _ _ => exact .nil
  | nil =>
    cases s with
    | nil => exact .nil
    | cons h1 t1 =>
      cases t1 with
      | nil => exact .cons h1 .nil
      | cons _ _ => exact .nil
theorem fun_kw1 {K : PySem.W.Frag} {x qual : Str} {st : Stmt} {f : Addr} {fd : FuncData} {a : Str} (F : Fun K x qual st f fd)
    (h : ∀ (kV doc pm : Value) (an : Option Addr) (cdv ct : Value) (u : Value), bindArgs (PySem.W.fnOf x qual (defArgs st) (defBody st) (defScope st) .none kV doc pm an cdv ct) ⟨[], [(a, u)]⟩ = pure [(a, u)]) : KBinds K fd [a] [a] kw1 kw1 := by
  obtain ⟨oc, od, kV, doc, pm, an, cdv, ct, osl, rfl, lk, hcd⟩ := F.ex
  refine ⟨fun s us ws _ hl => ?_, kw1_rel⟩
  match us, ws, hl with
  | [], [u], _ => exact .of_eq (h kV doc pm an cdv ct u)
theorem join_le : ∀ l : List (List Nat), (TL.joinL [32] l).length ≤ (l.map fun x => x.length).sum + l.length
  | [] => Nat.zero_le _
  | [x] => by show x.length ≤ _; simp
  | x :: y :: r => by
    have h := join_le (y :: r)
    show (x ++ ([32] ++ TL.joinL [32] (y :: r))).length ≤ _
    rw [List.length_append, List.length_append, List.map_cons, List.sum_cons, List.length_cons (a := x)]
    have : ([32] : List Nat).length = 1 := rfl
    omega
/-- a decision: is it a forest's text? -/
def readF : Nat → List (List Nat) → Option (List Nat)
  | _, [] => some []
  | i, w :: r => match wrd2 i w with
    | none => none
    | some m => match readF (i + 1) r with
      | none => none
      | some R => some (m :: R)
def rdB (l : List Nat) : Bool := match readF 0 (wordsL l) with
  | none => false
  | some R => okV (R.map Int.ofNat) && decide (forL R.length (fun v => R.getD v 0) = l)
theorem readF_for {p : Nat → Nat} : ∀ (m k : Nat), (∀ j, k ≤ j → j < k + m → p j < 100) → readF k ((List.range' k m).map (wordL p)) = some ((List.range' k m).map p)
  | 0, _, _ => rfl
  | m + 1, k, h => by
    rw [List.range'_succ, List.map_cons, List.map_cons, readF, wrd2_for (h k (Nat.le_refl _) (by omega))]
    have := readF_for m (k + 1) fun j h1 h2 => h j (by omega) (by omega)
    dsimp only
    rw [this]
theorem rdB_of {l : List Nat} (h : FoT l) : rdB l = true := by
  obtain ⟨n, p, r, hn, fo, e⟩ := h
  unfold rdB
  have e1 : readF 0 (wordsL l) = some ((List.range n).map p) := by
    rw [e, words_for, List.range_eq_range']
    exact readF_for n 0 fun j _ hj => by have := fo.lt j (by omega); omega
  rw [e1]
  have e2 : ((List.range n).map p).map Int.ofNat = intsOf n p := by
    unfold intsOf
    rw [List.map_map]
    rfl
  have e3 : forL ((List.range n).map p).length (fun v => ((List.range n).map p).getD v 0) = l := by
    rw [List.length_map, List.length_range, e]
    refine forL_congrI fun v hv => ?_
    rw [List.getD_eq_getElem?_getD, List.getElem?_map, List.getElem?_range hv]
    rfl
  dsimp only
  rw [e2, decide_eq_true e3]
  unfold okV
  rw [fo_verdI fo hn]
  rfl
abbrev oddS : List Str := [" ", "- ", " -", "0", "1 0", "- -1", "- 00", "- 2", "-  0", "- 0\n", "- +0", "1 2 0", SX.S ((List.replicate 40 [45, 32]).flatten ++ [45])]
abbrev oddV : List V := [.str " ", .str "- ", .str " -", .str "0", .str "1 0", .str "- -1", .str "- 00", .str "- 2", .str "-  0", .str "- 0\n", .str "- +0", .str "1 2 0", .str (SX.S ((List.replicate 40 [45, 32]).flatten ++ [45]))]
theorem odd_no : (oddS.all fun z => !rdB z.cps.toList && decide (z.cps.toList.length ≤ 900)) = true := by decide +kernel
theorem odd_ok {z : Str} (h : z ∈ oddS) : ¬ FoT z.cps.toList ∧ z.cps.toList.length ≤ 900 := by
  have := List.all_eq_true.mp odd_no z h
  rw [Bool.and_eq_true, Bool.not_eq_true', decide_eq_true_eq] at this
  exact ⟨fun f => by rw [rdB_of f] at this; exact absurd this.1 (by decide), this.2⟩
abbrev goodS : List Str := ["", "-", "- 0", "1 -", Txt.join " " (List.replicate 40 "-")]
abbrev goodV : List V := [.str "", .str "-", .str "- 0", .str "1 -", .str (Txt.join " " (List.replicate 40 "-"))]
theorem good_of {n : Nat} {p : Nat → Nat} {z : Str} (hn : n ≤ 40) (h1 : ∀ v, v < n → p v < n) (h2 : ∀ v, v < n → p (root p n v) = root p n v) (h : SX.S (forL n p) = z) : ∃ (n : Nat) (p r : Nat → Nat), n ≤ 40 ∧ Fo n p r ∧ z.cps.toList = forL n p := ⟨n, p, _, hn, fo_of h1 h2, by rw [← h]⟩
theorem good_ok {z : Str} (h : z ∈ goodS) : ∃ (n : Nat) (p r : Nat → Nat), n ≤ 40 ∧ Fo n p r ∧ z.cps.toList = forL n p := by
  simp only [List.mem_cons, List.not_mem_nil, or_false] at h
  rcases h with rfl | rfl | rfl | rfl | rfl
  · exact good_of (n := 0) (p := fun v => v) (by decide) (by decide) (by decide) (by decide +kernel)
  · exact good_of (n := 1) (p := fun v => v) (by decide) (by decide) (by decide) (by decide +kernel)
  · exact good_of (n := 2) (p := fun _ => 0) (by decide) (by decide) (by decide) (by decide +kernel)
  · exact good_of (n := 2) (p := fun _ => 1) (by decide) (by decide) (by decide) (by decide +kernel)
  · exact good_of (n := 40) (p := fun v => v) (by decide) (fun v h => h) (fun v h => by
      have : ∀ k x, root (fun v => v) k x = x := fun k => by
        induction k with
        | zero => exact fun x => rfl
        | succ k ih => intro x; show (if x = x then x else _) = x; rw [if_pos rfl]
      rw [this]) (by decide +kernel)
abbrev sgsV : List V := [V.str " ", V.str "-", V.str "0", V.str "1", V.str "9", V.str "", V.str " 0", V.str "- ", V.str "x", V.str ">"]
theorem sgs_ok {k : Nat} {v : V} (h : sgsV[k]? = some v) : ∃ l : List Nat, v = .str (SX.S l) ∧ l.length ≤ 2 := by
  have hk := (List.getElem?_eq_some_iff.mp h).1
  have z : ∀ z : Str, z.length ≤ 2 → v = .str z → ∃ l : List Nat, v = .str (SX.S l) ∧ l.length ≤ 2 := fun z hz e => ⟨z.cps.toList, by rw [e, SX.S_tl], hz⟩
  match k, hk, h with
  | 0, _, h => exact z " " (by decide) (Option.some.inj h).symm
  | 1, _, h => exact z "-" (by decide) (Option.some.inj h).symm
  | 2, _, h => exact z "0" (by decide) (Option.some.inj h).symm
  | 3, _, h => exact z "1" (by decide) (Option.some.inj h).symm
  | 4, _, h => exact z "9" (by decide) (Option.some.inj h).symm
  | 5, _, h => exact z "" (by decide) (Option.some.inj h).symm
  | 6, _, h => exact z " 0" (by decide) (Option.some.inj h).symm
  | 7, _, h => exact z "- " (by decide) (Option.some.inj h).symm
  | 8, _, h => exact z "x" (by decide) (Option.some.inj h).symm
  | 9, _, h => exact z ">" (by decide) (Option.some.inj h).symm
theorem tnil_of {σ : L2.St} {H : Hp} {F : List V → Hp → Prop} (h : F [] H) : tNil σ H F := h
theorem forL_inj {n n' : Nat} {p p' r r' : Nat → Nat} (hn : n ≤ 40) (F : Fo n p r) (hn' : n' ≤ 40) (F' : Fo n' p' r') (e : forL n p = forL n' p') : tupOf n' p' = tupOf n p := by
  have e2 := congrArg wordsL e
  rw [words_for, words_for] at e2
  have hl := congrArg List.length e2
  rw [List.length_map, List.length_range, List.length_map, List.length_range] at hl
  subst hl
  unfold tupOf
  refine List.map_congr_left fun v hv => ?_
  have hv := List.mem_range.mp hv
  have h1 := congrArg (fun l : List (List Nat) => l[v]?) e2
  have h1 : ((List.range n).map (wordL p))[v]? = ((List.range n).map (wordL p'))[v]? := h1
  rw [List.getElem?_map, List.getElem?_map, List.getElem?_range hv] at h1
  have h1 : wordL p v = wordL p' v := Option.some.inj h1
  have a := wrd_for (p := p) (v := v) (small31 (by have := F.lt v hv; omega))
  have b := wrd_for (p := p') (v := v) (small31 (by have := F'.lt v hv; omega))
  rw [h1, b] at a
  have := Option.some.inj a
  show V.int _ = V.int _
  rw [this]
section
variable {P : Program} {w : World} {K : PySem.W.Frag} {mg : Str → Option Value} {base : Heap}
theorem ok_law {f c PT CP CF CM fO fE fX : Addr} {fdX : FuncData} {kV dc pm ct oc : Value} {an od : Option Addr} {sl : Array (Option Value)} (lk : K.lookup f = some ⟨oc, od, .func (PySem.W.fnOf "law" "law" (defArgs sLaw) (defBody sLaw) (defScope sLaw) .none kV dc pm an (.ref c) ct), sl⟩) (hcd : PySem.W.codeIn K (.ref c) "law" = true)
    (TB : TabB base mg c PT) (T : Tx mg) (TS : TxS mg)
    (k1 : Kx P w K mg base 1 "_law_start" sStart ["_law_script"] (spStart K)) (k2 : Kx P w K mg base 5 "_law_some_forest" sSome ["_law_draw", "_law_most"] spSome) (k3 : Kx P w K mg base 1 "_law_take" sTake ["_law_draw", "_law_many"] spTake) (k4 : Kx P w K mg base 2 "_law_of" sOf ["_law_draw", "_law_some"] (spOf K))
    (k5 : Kx P w K mg base 1 "_law_shown" sShn ["_law_forest_in"] (spFmF K)) (k6 : Kx P w K mg base 2 "_law_read" sLRd ["_law_text_in"] spLRd) (k7 : Kx P w K mg base 5 "_law_same" sSame ["_law_found", "_law_due"] (spSame K 4)) (kF : Kx P w K mg base 1 "format_forest" sFmF ["forest"] (spFmF K))
    (GO : FnL P w K mg base 3 fO (TTout K CF CM)) (kO : PySem.W.keepIn K (.ref fO) = true) (gO : mg "_law_outcome" = some (.ref fO)) (GE : FnL P w K mg base 4 fE (TTerr K CF CM)) (kE : PySem.W.keepIn K (.ref fE) = true) (gE : mg "_law_error" = some (.ref fE))
    (xF : KnX P w K mg base 6 "parse_forest" ["text"] (spPaFB CP) fX fdX) (FX : Fun K "parse_forest" "parse_forest" sPaF fX fdX) (R : Raisable P w K mg base 2 "ParseError" CP "pos" "ParseError") (hex : PySem.W.exmAny K (.ref CP) [.ref CF, .ref CM] = some true) :
    FnOk P w K mg base CX0 13 f (PySem.W.fnOf "law" "law" (defArgs sLaw) (defBody sLaw) (defScope sLaw) .none kV dc pm an (.ref c) ct) ["_law_script"] (spLawT K PT) := by
  obtain ⟨_, _, k1⟩ := k1
  obtain ⟨_, _, k2⟩ := k2
  obtain ⟨_, _, k3⟩ := k3
  obtain ⟨_, _, k4⟩ := k4
  obtain ⟨_, _, k5⟩ := k5
  obtain ⟨_, _, k6⟩ := k6
  obtain ⟨_, _, k7⟩ := k7
  obtain ⟨_, _, kF⟩ := kF
  refine fn_of (k := 12) lk hcd scLaw (fun vs H Q E h => ?_) fun A outer s H vs Q E hr h => ?_
  · obtain ⟨a, ns, rfl, _⟩ := h
    rfl
  · obtain ⟨a, ns, rfl, hP, hS, hlen, q⟩ := h
    have hrm : ∀ {j : Nat}, j ≤ 12 → Room j (A.deeper (envOfC "law" (defScope sLaw) s.heap.objs.size f (.ref c))) := fun h => hr.mono h
    have hrU := hr.units
    suffices z : ∃ t, PSs (cxOf CX0 P w K mg base lawN "law" (defScope sLaw) f (.ref c) A outer s H E).nox (defBody sLaw) t ∧ t { nx := fun _ H1 => Q .non H1, rt := Q } (start lawN [.ref a]) H by
      obtain ⟨t, h1, h2⟩ := z
      exact ⟨t, h1.nox, h2⟩
    refine ⟨_, (pss_cons (ps_set (i := 1) scLaw.nd rfl (.inl rfl) (pe_call k1.G (hrm (by decide)) (by rfl) k1.g k1.F.kp k1.b .nil pass0 (pa_cons (pv 0) pa_nil)))
      (pss_cons (ps_for PassesOwn.never rfl (pi_range1 (by rfl) T.range (pa_cons pe_int pa_nil)) (pg_name (i := 2) scLaw.nd rfl (.inl rfl))
        (pss_cons (ps_set (i := 3) scLaw.nd rfl (.inl rfl) (pe_call k2.G (hrm (by decide)) (by rfl) k2.g k2.F.kp k2.b .nil pass0 (pa_cons (pv 1) (pa_cons pe_int pa_nil))))
        (pss_cons (ps_set (i := 4) scLaw.nd rfl (.inr rfl) (pe_call k5.G (hrm (by decide)) (by rfl) k5.g k5.F.kp k5.b .nil pass0 (pa_cons (pv 3) pa_nil)))
        (pss_cons (ps_if (pt_not (pt_val (pe_call k7.G (hrm (by decide)) (by rfl) k7.g k7.F.kp k7.b .nil pass0 (pa_cons (pe_lst (pa_cons (pe_call kF.G (hrm (by decide)) (by rfl) kF.g kF.F.kp kF.b .nil pass0 (pa_cons (pv 3) pa_nil)) (pa_cons (pe_kws kF.G (hrm (by decide)) (by rfl) kF.g kF.F.kp (fun_kw1 kF.F fun _ _ _ _ _ _ _ => rfl) pass0 (pk_cons (pv 3) pk_nil)) (pa_cons (pe_call (fn_noE xF.G) (hrm (by decide)) (by rfl) xF.g xF.kp xF.b .nil pass0 (pa_cons (pv 4) pa_nil)) pa_nil)))) (pa_cons (pe_lst (pa_cons (pv 4) (pa_cons (pv 4) (pa_cons (pv 3) pa_nil)))) pa_nil)))))
          (pss_one (ps_ret pe_bl)) pss_nil)
        (pss_cons (ps_for PassesOwn.never rfl (pi_range1 (by rfl) T.range (pa_cons (pe_call k3.G (hrm (by decide)) (by rfl) k3.g k3.F.kp k3.b .nil pass0 (pa_cons (pv 1) (pa_cons pe_int pa_nil))) pa_nil)) (pg_name (i := 5) scLaw.nd rfl (.inl rfl))
          (pss_cons (ps_par (i := 6) (j := 7) (by rfl) scLaw.nd rfl rfl (by decide) rfl rfl (pa_cons (pe_call k3.G (hrm (by decide)) (by rfl) k3.g k3.F.kp k3.b .nil pass0 (pa_cons (pv 1) (pa_cons (pe_op op_add (pe_callB call_len_str (by rfl) T.len PySem.boot_len (pa_cons (pv 4) pa_nil)) pe_int) pa_nil))) (pa_cons (pe_call k4.G (hrm (by decide)) (by rfl) k4.g k4.F.kp k4.b .nil pass0 (pa_cons (pv 1) (pa_cons (pe_lst (pa_cons pe_str (pa_cons pe_str (pa_cons pe_str (pa_cons pe_str (pa_cons pe_str (pa_cons pe_str (pa_cons pe_str (pa_cons pe_str (pa_cons pe_str (pa_cons pe_str pa_nil))))))))))) pa_nil))) pa_nil)) (by rfl))
          (pss_one (ps_set (i := 4) scLaw.nd rfl (.inr rfl) (pe_op op_add_str (pe_op op_add_str (pe_slice sl_str (pv 4) po_none (po_some (pv 6))) (pv 7)) (pe_slice sl_str (pv 4) (po_some (pe_op op_add (pv 6) (pe_call k3.G (hrm (by decide)) (by rfl) k3.g k3.F.kp k3.b .nil pass0 (pa_cons (pv 1) (pa_cons pe_int pa_nil))))) po_none))))))
        (pss_cons (ps_set (i := 8) scLaw.nd rfl (.inl rfl) (pe_call k6.G (hrm (by decide)) (by rfl) k6.g k6.F.kp k6.b .nil pass0 (pa_cons (pv 4) pa_nil)))
        (C8.pss_cut (ps_set (i := 9) scLaw.nd rfl (.inl rfl) (pe_ifExp (pt_cmpR op_isN (pv 8) pe_non (nomark _)) (pe_tup (pa_cons pe_non (pa_cons pe_str (pa_cons pe_int pa_nil)))) (pe_tup (pa_cons (pv 8) (pa_cons pe_str (pa_cons pe_non pa_nil))))))
        (pss_one (ps_if (pt_not (pt_val (pe_call k7.G (hrm (by decide)) (by rfl) k7.g k7.F.kp k7.b .nil pass0 (pa_cons (pe_ask (Z := (cxOf CX0 P w K mg base lawN "law" (defScope sLaw) f (.ref c) A outer s H E).nox) (kk := 7) (T := [(PT, lamQ)]) (D := (⟨_, _, _, fun E => tCallK (spPaFB CP) kw1 E tNil (tCons (tVar 4) tNil), lamS_by (sc := defScope sLaw) (by decide +kernel), fun _ _ _ _ _ => rfl, fun f2 c2 E2 A2 outer2 s2 H2 hr2 => pe_kws (X := lamC ((cxOf CX0 P w K mg base lawN "law" (defScope sLaw) f (.ref c) A outer s H E).nox) A2 outer2 s2 H2 E2 _ f2 c2) xF.G (Room.mono hr2 (by decide)) (by rfl) xF.g xF.kp (fun_kw1 FX fun _ _ _ _ _ _ _ => rfl) (lookN (L2N.takes_of rfl rfl rfl rfl) fun _ _ _ _ z => z) (pk_cons (pv 4) pk_nil)⟩ : LamD ((cxOf CX0 P w K mg base lawN "law" (defScope sLaw) f (.ref c) A outer s H E).nox) 7)) GO (hrm (j := 11) (by decide)) (by rfl) gO kO TB rfl (List.mem_singleton.mpr rfl) (fun q hq _ => by rw [List.mem_singleton.mp hq]; rfl) rfl) (pa_cons (pv 9) pa_nil)))))
          (pss_one (ps_ret pe_bl)) pss_nil)))))))))
      (pss_cons (ps_set (i := 10) scLaw.nd rfl (.inl rfl) (pe_lst (pa_cons pe_str (pa_cons pe_str (pa_cons pe_str (pa_cons pe_str (pa_cons pe_str (pa_cons pe_str (pa_cons pe_str (pa_cons pe_str (pa_cons pe_str (pa_cons pe_str (pa_cons pe_str (pa_cons pe_str (pa_cons (pe_op op_add_str (pe_op op_mulS pe_str pe_int) pe_str) pa_nil)))))))))))))))
      (pss_cons (ps_set (i := 11) scLaw.nd rfl (.inl rfl) (pe_lst (pa_cons pe_str (pa_cons pe_str (pa_cons pe_str (pa_cons pe_str (pa_cons (pe_join pe_str (pe_op op_rep (pe_lst (pa_cons pe_str pa_nil)) pe_int)) pa_nil)))))))
      (pss_one (ps_ret (pe_and (pe_cmpR (op_eqD hrU) (pe_lc (own := [("_law_one", 12)]) (g := gName 12) (by rfl) scLaw.nd (pi_list (pv 10)) (blkOk_by (own := [("_law_one", 12)]) (N := lawN) (sc := defScope sLaw) (by decide +kernel)) (fun _ _ _ _ _ => (pg_name (i := 12) scLaw.nd rfl (.inr rfl))) (fun _ _ _ _ _ => pts_nil) (fun s9 H9 C9 cl9 fp9 => (pe_askB (Z := (((cxOf CX0 P w K mg base lawN "law" (defScope sLaw) f (.ref c) A outer s H E).nox).blk s9 H9 _ (compEnvC _ cl9 C9 ((cxOf CX0 P w K mg base lawN "law" (defScope sLaw) f (.ref c) A outer s H E).nox).env) fp9)) (kk := 7) (T := [(PT, lamQ)]) (fun E => tCall (spPaFB CP) [] E (tCons (tVar 12) tNil)) (lamS_blk (sc := defScope sLaw) rfl (by decide +kernel)) (fun _ _ _ _ _ => rfl) (fun f2 c2 E2 A2 outer2 s2 H2 hr2 => pe_call (X := lamC ((((cxOf CX0 P w K mg base lawN "law" (defScope sLaw) f (.ref c) A outer s H E).nox).blk s9 H9 _ (compEnvC _ cl9 C9 ((cxOf CX0 P w K mg base lawN "law" (defScope sLaw) f (.ref c) A outer s H E).nox).env) fp9)) A2 outer2 s2 H2 E2 _ f2 c2) xF.G (Room.mono hr2 (by decide)) (by rfl) xF.g xF.kp xF.b .nil (lookN (L2N.takes_of rfl rfl rfl rfl) fun _ _ _ _ z => z) (pa_cons (pv 12) pa_nil)) GE (hrm (j := 12) (by decide)) (by rfl) gE kE TB rfl (List.mem_singleton.mpr rfl) (fun q hq _ => by rw [List.mem_singleton.mp hq]; rfl) rfl))) (pe_op op_rep (pe_lst (pa_cons (pe_tup (pa_cons pe_str (pa_cons pe_int pa_nil))) pa_nil)) pe_int) (nomark _)) (pe_one (pe_cmpR (op_eqD hrU) (pe_lc (own := [("_law_one", 12)]) (g := gName 12) (by rfl) scLaw.nd (pi_list (pv 11)) (blkOk_by (own := [("_law_one", 12)]) (N := lawN) (sc := defScope sLaw) (by decide +kernel)) (fun _ _ _ _ _ => (pg_name (i := 12) scLaw.nd rfl (.inl rfl))) (fun _ _ _ _ _ => pts_nil) (fun _ _ _ _ _ => (pe_call kF.G (hrm (by decide)) (by rfl) kF.g kF.F.kp kF.b .nil pass0 (pa_cons (pe_call (fn_noE xF.G) (hrm (by decide)) (by rfl) xF.g xF.kp xF.b .nil pass0 (pa_cons (pv 12) pa_nil)) pa_nil)))) (pv 11) (nomark _)))))))))), ?_⟩
    have hT0 : Tabs [(PT, lamQ)] H := fun p hp => by
      rw [List.mem_singleton.mp hp]
      exact TabS.nil hP
    refine ⟨_, rfl, a, ns, rfl, hS, hlen, fun d l H0 nd hD0 s0 => ?_⟩
    refine ⟨_, rfl, by decide, by decide, ?_⟩
    have three : 3 ≤ sizeLine := by decide
    refine for_range (lo := 0) (n := 6) (fun i σ H' => (∃ y2 y3 y4 y5 y6 y7 y8 y9, σ = [some (.ref a), some (.ref d), y2, y3, y4, y5, y6, y7, y8, y9, none, none, none]) ∧ DrawAt H' d l ∧ Tabs [(PT, lamQ)] H') ⟨⟨_, _, _, _, _, _, _, _, rfl⟩, hD0, hT0.ext s0⟩ ?_ ?_
    · rintro i σ H' hi ⟨⟨y2, y3, y4, y5, y6, y7, y8, y9, rfl⟩, hD, hT⟩
      refine ⟨_, rfl, d, l, 40, rfl, hD, by decide, fun t n p r H1 hn nt ht hF hD1 sb1 => ?_⟩
      have hT1 := tabs_sb hT sb1 hD.lst
      have ntd := hD1.net ht
      refine ⟨_, rfl, t, n, p, rfl, SqT.of ht, by omega, hF.lt, fun H2 s2 => ?_⟩
      have ht2 := s2 _ _ ht
      have hD2 := hD1.same s2
      have hT2 := hT1.ext s2
      have hfl : (forL n p).length ≤ 120 := by
        unfold forL
        refine Nat.le_trans (join_le _) ?_
        have h := sum_le2 (fun l : List Nat => l.length) ((List.range n).map (wordL p)) fun x hx => by
          obtain ⟨v, hv, rfl⟩ := List.mem_map.mp hx
          exact word_len hF.lt (show n ≤ 60 by omega) (List.mem_range.mp hv)
        rw [List.length_map, List.length_range] at h
        rw [List.length_map, List.length_range]
        omega
      clear s2 hT1 hD1 sb1 hT hD
      refine ⟨_, rfl, t, n, p, rfl, SqT.of ht2, by omega, hF.lt, fun H3 s3 => ⟨_, rfl, t, n, p, rfl, SqT.of (s3 _ _ ht2), by omega, hF.lt, fun H4 s4 => ⟨_, rfl, forL n p, rfl, by omega, ?_, fun h => absurd ⟨n, p, r, by omega, hF, rfl⟩ h⟩⟩⟩
      intro n' p' r' hn' hF' e t' H5 nt' ht' s5
      rw [forL_inj (show n ≤ 40 by omega) hF hn' hF' e] at ht'
      refine tnil_of ?_
      refine ⟨three, fun p1 np1 => ⟨_, rfl, _, rfl, _, rfl, tnil_of ⟨three, fun p2 np2 => tnil_of ?_⟩⟩⟩
      have u1 := same_new (o := .lst [V.str (SX.S (forL n p)), V.str (SX.S (forL n p)), V.ref t']) np1
      have hp1 : upd H5 p1 (.lst [V.str (SX.S (forL n p)), V.str (SX.S (forL n p)), V.ref t']) p1 = _ := upd_same
      generalize upd H5 p1 (.lst [V.str (SX.S (forL n p)), V.str (SX.S (forL n p)), V.ref t']) = H6 at u1 np2 hp1 ⊢
      have u2 := same_new (o := .lst [V.str (SX.S (forL n p)), V.str (SX.S (forL n p)), V.ref t]) np2
      have s24 := (s3.trans s4).trans s5
      have s26 := (s24.trans u1).trans u2
      refine ⟨_, _, .list [.str (SX.S (forL n p)), .str (SX.S (forL n p)), .tuple ((intsOf n p).map PyData.int)], rfl, .lst (SqL.of (u2 _ _ hp1)) (.cons (.str _) (.cons (.str _) (.cons (dp_forest (SqT.of (u2 _ _ (u1 _ _ ht')))) .nil))), .lst (SqL.of upd_same) (.cons (.str _) (.cons (.str _) (.cons (dp_forest (SqT.of (s26 _ _ ht2))) .nil))), .lst (by show 3 ≤ 1000; decide) (fun x hx => ?_), fun H7 s7 => ⟨_, rfl, iteF ?_⟩⟩
      · have hx' : x = .str (SX.S (forL n p)) ∨ x = .tuple ((intsOf n p).map PyData.int) := by
          simp only [List.mem_cons, List.not_mem_nil, or_false] at hx
          rcases hx with h | h | h
          · exact .inl h
          · exact .inl h
          · exact .inr h
        rcases hx' with rfl | rfl
        · exact .str _ _
        · exact sm_forest (by omega) p
      have s27 := s26.trans s7
      have hD7 := hD2.same s27
      have hT7 := hT2.ext s27
      clear s27 s26 s24 s7 u2 u1 np2 np1 hp1 s5 ht' nt' e hF' hn' s4 s3 hT2 hD2 ht2
      refine ⟨_, rfl, d, l, 4, rfl, hD7, by decide, by decide, fun m H8 hm hD8 sb8 => ?_⟩
      have hT8 := tabs_sb hT7 sb8 hD7.lst
      refine ⟨_, rfl, by omega, by omega, ?_⟩
      generalize hl0 : forL n p = l0 at hfl
      have hmn : ((m : Nat) : Int).toNat = m := by omega
      rw [hmn]
      refine for_range (lo := 0) (n := m) (fun i' σ H' => ∃ (lt : List Nat) (y5 y6 y7 : Option V), σ = [some (.ref a), some (.ref d), some (V.int (0 + (i : Int))), some (.ref t), some (.str (SX.S lt)), y5, y6, y7, y8, y9, none, none, none] ∧ lt.length ≤ 120 + 2 * i' ∧ DrawAt H' d l ∧ Tabs [(PT, lamQ)] H') ⟨l0, _, _, _, rfl, by omega, hD8, hT8⟩ ?_ ?_
      · rintro i2 σ H9 hi2 ⟨lt, z5, z6, z7, rfl, hlt, hD9, hT9⟩
        refine ⟨_, rfl, _, rfl, _, rfl, by rw [SX.S_len]; exact Nat.le_trans (show lt.length ≤ 1000 by omega) (by decide), _, _, rfl, rfl, d, l, lt.length + 1, by rw [SX.S_len]; rfl, hD9, by omega, by omega, fun at_ H10 hat hD10 sb10 => ?_⟩
        have hT10 := tabs_sb hT9 sb10 hD9.lst
        refine ⟨_, rfl, by show 10 ≤ sizeLine; decide, fun p10 np10 => ?_⟩
        have hD11 := hD10.new (o := .lst sgsV) np10
        have npd := hD10.ne np10
        refine ⟨d, l, p10, _, rfl, hD11, npd, SqL.of upd_same, by show 1 ≤ 10; decide, by show 10 ≤ 1000; decide, fun k sg H12 hsg hD12 sb12 => tnil_of ?_⟩
        have hT12 := tabs_sb (hT10.ext (same_new np10)) sb12 hD11.lst
        obtain ⟨sl, rfl, hsl⟩ := sgs_ok hsg
        dsimp only
        have hbig : ∀ {k : Nat}, k ≤ 1000 → k ≤ sizeLine := fun h => Nat.le_trans h (by decide)
        have ltl : (SX.S lt).length ≤ sizeLine := by rw [SX.S_len]; exact hbig (by omega)
        have e1 : cutS (SX.S lt) none (some (at_ : Int)) = SX.S (lt.take at_) := (sliceText_cut _ _ _).symm.trans ((SX.slice_to (a := lt) (i := (at_ : Int)) (by omega)).trans (by rw [Int.toNat_natCast]))
        refine ⟨_, _, rfl, _, rfl, _, rfl, _, rfl, _, rfl, ltl, _, rfl, _, _, rfl, rfl, ?_, ?_⟩
        · rw [e1, SX.S_len, SX.S_len, List.length_take]
          exact hbig (by omega)
        rw [e1, SX.S_cat]
        refine ⟨_, rfl, _, rfl, _, rfl, d, l, 2, rfl, hD12, by decide, by decide, fun r13 H13 hr13 hD13 sb13 => ⟨_, _, rfl, rfl, _, rfl, _, rfl, ltl, _, _, rfl, rfl, ?_⟩⟩
        have e2 : cutS (SX.S lt) (some ((at_ : Int) + (r13 : Int))) none = SX.S (lt.drop (at_ + r13)) := (sliceText_cut _ _ _).symm.trans ((SX.slice_from (a := lt) (i := (at_ : Int) + (r13 : Int)) (by omega)).trans (by rw [show ((at_ : Int) + (r13 : Int)).toNat = at_ + r13 by omega]))
        rw [e2, SX.S_cat, SX.S_len, SX.S_len]
        have hll : (lt.take at_ ++ sl ++ lt.drop (at_ + r13)).length ≤ lt.length + 2 := by
          rw [List.length_append, List.length_append, List.length_take, List.length_drop]
          omega
        refine ⟨?_, lt.take at_ ++ sl ++ lt.drop (at_ + r13), _, _, _, rfl, by omega, hD13, tabs_sb hT12 sb13 hD12.lst⟩
        rw [List.length_append] at hll
        exact hbig (by omega)
      · rintro σ H9 ⟨lt, z5, z6, z7, rfl, hlt, hD9, hT9⟩
        clear hl0 hfl hT8 hD8 sb8 hT7 hD7 hF hn nt ht ntd
        refine ⟨_, rfl, lt, rfl, by omega, fun n1 p1 r1 hn1 hF1 e1 t1 H10 nt1 ht1 s10 => ?_, fun hno H10 s10 => ?_⟩
        · have hD10 := hD9.same s10
          have hT10 := hT9.ext s10
          refine ⟨fun σ H' => ∃ ex, σ = [some (.ref a), some (.ref d), some (V.int (0 + (i : Int))), some (.ref t), some (.str (SX.S lt)), z5, z6, z7, some (.ref t1), some (.ref ex), none, none, none] ∧ H' ex = some (.tup [.ref t1, .str "", .non]) ∧ H' t1 = some (.tup (tupOf n1 p1)) ∧ DrawAt H' d l ∧ Tabs [(PT, lamQ)] H', ?_, ?_⟩
          · refine ⟨_, rfl, rfl, _, rfl, iteF ⟨_, rfl, three, fun ex nex => ?_⟩⟩
            have u := same_new (o := .tup [.ref t1, .str "", .non]) nex
            exact ⟨ex, rfl, upd_same, u _ _ ht1, hD10.same u, hT10.ext u⟩
          rintro σ H11 ⟨ex, rfl, hex11, ht11, hD11, hT11⟩
          refine ⟨hT11, fun fl H12 e12 hT12 hA => ?_⟩
          have nt : ∀ {xs : List V} (ps), (HO.tup xs) ≠ .tbl ps := fun _ z => by cases z
          have hex12 := e12 _ _ hex11 nt
          have ht12 := e12 _ _ ht11 nt
          have hD12 := hD11.ext e12
          refine out_yes (D := LamD.lam _) (fun Ha v H1 => ∃ t2, v = .ref t2 ∧ H1 t2 = some (.tup (tupOf n1 p1)) ∧ Same Ha H1) hA (fun Ha sa => ?_) ?_
          · show tCallK (spPaFB CP) kw1 _ tNil (tCons (tVar 4) tNil) _ _ _
            unfold tCallK
            refine tnil_of ?_
            refine ⟨_, rfl, ?_⟩
            refine tnil_of ?_
            refine ⟨lt, rfl, by omega, fun n' p' r' hn' hF' e' t2 H13 nt2 ht2 s13 => ⟨t2, rfl, ?_, s13⟩, fun h => absurd ⟨n1, p1, r1, hn1, hF1, e1⟩ h⟩
            rw [ht2, forL_inj hn1 hF1 hn' hF' (e1.symm.trans e')]
          · rintro Ha v H13 sa ⟨t2, rfl, ht2, s13⟩ t3 H14 nt3 s14 ht3
            have s24 := (sa.trans s13).trans s14
            refine ⟨_, rfl, tnil_of ⟨_, _, .tuple [.tuple ((intsOf n1 p1).map PyData.int), .str "", .none], rfl, .tup (SqT.of ht3) (.cons (dp_forest (SqT.of (s14 _ _ ht2))) (.cons (.str _) (.cons .non .nil))), .tup (SqT.of (s24 _ _ hex12)) (.cons (dp_forest (SqT.of (s24 _ _ ht12))) (.cons (.str _) (.cons .non .nil))), .tup (by show 3 ≤ 1000; decide) (fun x hx => ?_), fun H15 s15 => ⟨_, rfl, iteF ?_⟩⟩⟩
            · simp only [List.mem_cons, List.not_mem_nil, or_false] at hx
              rcases hx with rfl | rfl | rfl
              · exact sm_forest (by omega) p1
              · exact .str _ _
              · exact .non _
            · exact ⟨⟨_, _, _, _, _, _, _, _, rfl⟩, hD12.same (s24.trans s15), hT12.ext (s24.trans s15)⟩
        · have hD10 := hD9.same s10
          have hT10 := hT9.ext s10
          refine ⟨fun σ H' => ∃ ex, σ = [some (.ref a), some (.ref d), some (V.int (0 + (i : Int))), some (.ref t), some (.str (SX.S lt)), z5, z6, z7, some .non, some (.ref ex), none, none, none] ∧ H' ex = some (.tup [.non, .str "ParseError", .int 0]) ∧ DrawAt H' d l ∧ Tabs [(PT, lamQ)] H', ?_, ?_⟩
          · refine ⟨_, rfl, rfl, _, rfl, iteT ⟨three, fun ex nex => ?_⟩⟩
            have u := same_new (o := .tup [.non, .str "ParseError", .int 0]) nex
            exact ⟨ex, rfl, upd_same, hD10.same u, hT10.ext u⟩
          rintro σ H11 ⟨ex, rfl, hex11, hD11, hT11⟩
          refine ⟨hT11, fun fl H12 e12 hT12 hA => ?_⟩
          have nt : ∀ {xs : List V} (ps), (HO.tup xs) ≠ .tbl ps := fun _ z => by cases z
          have hex12 := e12 _ _ hex11 nt
          have hD12 := hD11.ext e12
          refine out_no (D := LamD.lam _) (v := .int 0) R hex (.inr (.inr (.inl ⟨by decide, rfl⟩))) hA (fun Ha E sa fly => ?_) fun t3 H14 nt3 s14 ht3 => ?_
          · show tCallK (spPaFB CP) kw1 _ tNil (tCons (tVar 4) tNil) _ _ _
            unfold tCallK
            refine tnil_of ?_
            refine ⟨_, rfl, ?_⟩
            refine tnil_of ?_
            exact ⟨lt, rfl, by omega, fun n' p' r' hn' hF' e' => absurd ⟨n', p', r', hn', hF', e'⟩ hno, fun _ H' s' => Flies.same fly s'⟩
          · refine ⟨_, rfl, tnil_of ⟨_, _, .tuple [.none, .str "ParseError", .int 0], rfl, .tup (SqT.of ht3) (.cons .non (.cons (.str _) (.cons (.int _) .nil))), .tup (SqT.of (s14 _ _ hex12)) (.cons .non (.cons (.str _) (.cons (.int _) .nil))), .tup (by show 3 ≤ 1000; decide) (fun x hx => ?_), fun H15 s15 => ⟨_, rfl, iteF ?_⟩⟩⟩
            · simp only [List.mem_cons, List.not_mem_nil, or_false] at hx
              rcases hx with rfl | rfl | rfl
              · exact .non _
              · exact .str _ _
              · exact .int _ _
            · exact ⟨⟨_, _, _, _, _, _, _, _, rfl⟩, hD12.same (s14.trans s15), hT12.ext (s14.trans s15)⟩
    rintro σ H20 ⟨⟨y2, y3, y4, y5, y6, y7, y8, y9, rfl⟩, hD20, hT20⟩
    refine ⟨[45, 32], 40, rfl, rfl, by decide, by decide, by decide, _, _, rfl, rfl, ?_, by show 13 ≤ sizeLine; decide, fun po npo => ?_⟩
    · rw [SX.S_len]
      exact Nat.le_trans (show _ ≤ 1000 by decide) (by decide)
    have eodd : (SX.S (List.replicate 40 [45, 32]).flatten ++ ("-" : Str)) = SX.S ((List.replicate 40 [45, 32]).flatten ++ [45]) := SX.S_cat _ [45]
    rw [eodd]
    have hpo : upd H20 po (.lst oddV) po = some (.lst oddV) := upd_same
    have u1 := same_new (o := .lst oddV) npo
    have hT21 := hT20.ext u1
    generalize upd H20 po (.lst oddV) = H21 at u1 hpo hT21 ⊢
    refine ⟨⟨_, rfl⟩, by decide, fun q1 nq1 => ⟨q1, 40, [V.str "-"], rfl, rfl, upd_same, by decide, by decide, by decide, fun q2 nq2 => ?_⟩⟩
    have u2 := same_new (o := .lst [V.str "-"]) nq1
    have u3 := same_new (o := .lst (List.replicate (40 : Int).toNat [V.str "-"]).flatten) nq2
    have hq2 : upd (upd H21 q1 (.lst [V.str "-"])) q2 (.lst (List.replicate (40 : Int).toNat [V.str "-"]).flatten) q2 = some (.lst ((List.replicate 40 ("-" : Str)).map V.str)) := upd_same
    generalize upd (upd H21 q1 (.lst [V.str "-"])) q2 (.lst (List.replicate (40 : Int).toNat [V.str "-"]).flatten) = H23 at u3 hq2 ⊢
    refine ⟨_, q2, List.replicate 40 ("-" : Str), rfl, rfl, .inl (SqL.of hq2), by decide, by show 5 ≤ sizeLine; decide, fun pg npg => ?_⟩
    have u4 := same_new (o := .lst goodV) npg
    have u24 := (u2.trans u3).trans u4
    have hpg : upd H23 pg (.lst goodV) pg = some (.lst goodV) := upd_same
    have hpo2 := u24 _ _ hpo
    have hT22 := hT21.ext u24
    generalize upd H23 pg (.lst goodV) = H22 at hpg hpo2 hT22 ⊢
    refine ⟨_, rfl, po, rfl, ⟨_, SqL.of hpo2⟩, fun D nD => ?_⟩
    refine asksB_fl (j := 12) [some (.ref a), some (.ref d), y2, y3, y4, y5, y6, y7, y8, y9, some (.ref po), some (.ref pg), none] oddV (List.replicate 13 (("ParseError" : Str), V.int 0)) hpo2 nD (by show 12 < 13; decide) (by show 13 ≤ 1000; decide) rfl hT22 (fun i x e hx he => ?_) fun ts H24 hts hDD htt s24 hT24 => ?_
    · have hxm : x ∈ oddS.map V.str := List.mem_of_getElem? hx
      obtain ⟨z, hz, rfl⟩ := List.mem_map.mp hxm
      obtain ⟨hno, hzl⟩ := odd_ok hz
      obtain rfl : e = (("ParseError" : Str), V.int 0) := List.eq_of_mem_replicate (List.mem_of_getElem? he)
      refine ⟨CP, "pos", ⟨hex, R.xf, R.nt, R.nf⟩, .inr (.inr (.inl ⟨by decide, rfl⟩)), fun Ha E e1 hT1 fly => ?_⟩
      show tCall (spPaFB CP) [] E (tCons (tVar 12) tNil) _ _ _
      unfold tCall
      refine ⟨_, rfl, ?_⟩
      refine tnil_of ?_
      exact ⟨z.cps.toList, by rw [SX.S_tl]; rfl, hzl, fun n' p' r' hn' hF' e' => absurd ⟨n', p', r', hn', hF', e'⟩ hno, fun _ H' s' => Flies.same fly s'⟩
    have hpg24 := s24 _ _ hpg (by intro ps z; cases z)
    refine ⟨by decide, fun pt npt => ⟨by show 1 ≤ sizeLine; decide, fun pl npl => ⟨pl, 13, [V.ref pt], rfl, rfl, upd_same, by decide, by decide, by show 1 * 13 ≤ sizeLine; decide, fun pr npr => ?_⟩⟩⟩
    have v1 := same_new (o := .tup [V.str "ParseError", V.int 0]) npt
    have hpt : upd H24 pt (.tup [V.str "ParseError", V.int 0]) pt = _ := upd_same
    have v2 := same_new (o := .lst [V.ref pt]) npl
    have v3 := same_new (o := .lst (List.replicate (13 : Int).toNat [V.ref pt]).flatten) npr
    have v13 := (v1.trans v2).trans v3
    have hpr : upd (upd (upd H24 pt (.tup [V.str "ParseError", V.int 0])) pl (.lst [V.ref pt])) pr (.lst (List.replicate (13 : Int).toNat [V.ref pt]).flatten) pr = some (.lst ((List.replicate 13 pt).map V.ref)) := upd_same
    have hpt3 := (v2.trans v3) _ _ hpt
    have hDD3 := v13 _ _ hDD
    have hpg3 := v13 _ _ hpg24
    have htt3 : ∀ t ∈ ts, upd (upd (upd H24 pt (.tup [V.str "ParseError", V.int 0])) pl (.lst [V.ref pt])) pr (.lst (List.replicate (13 : Int).toNat [V.ref pt]).flatten) t = some (.tup [V.str "ParseError", V.int 0]) := fun t ht => by
      obtain ⟨j, hj⟩ := List.mem_iff_getElem?.mp ht
      have hjl : j < 13 := by
        have := (List.getElem?_eq_some_iff.mp hj).1
        rw [hts] at this
        simpa using this
      exact v13 _ _ (htt j t _ hj (by rw [List.getElem?_replicate, if_pos hjl]))
    generalize upd (upd (upd H24 pt (.tup [V.str "ParseError", V.int 0])) pl (.lst [V.ref pt])) pr (.lst (List.replicate (13 : Int).toNat [V.ref pt]).flatten) = H25 at hpr hpt3 hDD3 hpg3 htt3 ⊢
    have cd : ∀ H, DpAll K H [V.str "ParseError", V.int 0] [.str "ParseError", .int 0] := fun H => .cons (.str _) (.cons (.int _) .nil)
    have htl : ts.length = 13 := by rw [hts]; rfl
    have d1 : Dp K H25 (.ref D) (dReps 13 (.tuple [.str "ParseError", .int 0])) := .lst (SqL.of hDD3) (by have z := dp_reps (K := K) (cd H25) htt3; rw [htl] at z; exact z)
    have d2 : Dp K H25 (.ref pr) (dReps 13 (.tuple [.str "ParseError", .int 0])) := .lst (SqL.of hpr) (dp_reps (K := K) (ts := List.replicate 13 pt) (cd H25) fun t ht => by rw [List.eq_of_mem_replicate ht]; exact hpt3)
    have hsh : SeqAt.shaped (dReps 13 (.tuple [.str "ParseError", .int 0])) = true := by decide +kernel
    refine ⟨_, _, d1, d2, hsh, hsh, _, rfl, ?_⟩
    rw [SeqAt.eqv_refl _ (SeqAt.canLay_of_shaped hsh)]
    refine iteT ?_
    refine ⟨_, rfl, pg, rfl, ⟨_, SqL.of hpg3⟩, fun D2 nD2 => ?_⟩
    refine lc_list (K := K) (a := pg) (xs := goodV) (fun i H' => H' D2 = some (.lst (goodV.take i)) ∧ Same H25 H') ⟨upd_same, same_new nD2⟩ (fun i H' _ h => SqL.of (h.2 _ _ hpg3)) ?_ ?_
    · rintro i x H26 hx ⟨hD2, s26⟩
      have hxm : x ∈ goodS.map V.str := List.mem_of_getElem? hx
      obtain ⟨z, hz, rfl⟩ := List.mem_map.mp hxm
      obtain ⟨n1, p1, r1, hn1, hF1, e1⟩ := good_ok hz
      have hi : i < 5 := (List.getElem?_eq_some_iff.mp hx).1
      have hzl : z.cps.toList.length ≤ 900 := by
        rw [e1]
        unfold forL
        refine Nat.le_trans (join_le _) ?_
        have h := sum_le2 (fun l : List Nat => l.length) ((List.range n1).map (wordL p1)) fun x hx => by
          obtain ⟨v, hv, rfl⟩ := List.mem_map.mp hx
          exact word_len hF1.lt (show n1 ≤ 60 by omega) (List.mem_range.mp hv)
        rw [List.length_map, List.length_range] at h
        rw [List.length_map, List.length_range]
        omega
      refine ⟨rfl, _, rfl, z.cps.toList, by rw [SX.S_tl]; rfl, hzl, fun n' p' r' hn' hF' e' t2 H27 nt2 ht2 s27 => ?_, fun h => absurd ⟨n1, p1, r1, hn1, hF1, e1⟩ h⟩
      refine ⟨t2, n', p', rfl, SqT.of ht2, by omega, hF'.lt, fun H28 s28 => ?_⟩
      rw [← e', SX.S_tl]
      refine ⟨_, (s27.trans s28) _ _ hD2, ?_, ?_, same_over ((s26.trans s27).trans s28) nD2⟩
      · rw [List.length_take]
        exact Nat.lt_of_le_of_lt (show min i goodV.length ≤ 1000 by omega) (by decide)
      · rw [upd_same, List.take_add_one, hx]
        rfl
    rintro H26 ⟨hD2, s26⟩
    have hD2 : H26 D2 = some (.lst goodV) := hD2
    have hpg4 := s26 _ _ hpg3
    have dg : ∀ {q}, H26 q = some (.lst goodV) → Dp K H26 (.ref q) (.list (goodS.map PyData.str)) := fun h => .lst (SqL.of h) (.cons (.str _) (.cons (.str _) (.cons (.str _) (.cons (.str _) (.cons (.str _) .nil)))))
    have hsh2 : SeqAt.shaped (.list (goodS.map PyData.str)) = true := by decide +kernel
    refine ⟨_, rfl, _, _, dg hD2, dg hpg4, hsh2, hsh2, ?_⟩
    rw [SeqAt.eqv_refl _ (SeqAt.canLay_of_shaped hsh2)]
    exact q _
end
end Ff

namespace Ff
open PySem PySem.Spec PyProof.Rows L2 ExX LamX
theorem all_mk {l : PySem.W.OpenLaw} {w : World} {K : PySem.W.Frag} {h : Heap} {mg : Str → Option Value} {fa : Addr} (X : K.In h) (G : h.Ns mainGlobals mg) (hfa : mg "law" = some (.ref fa)) (own : LamX.OwnTab K fa h)
    (d0 : DefF K "leads_to_root" sLeads)
    (d1 : DefF K "check_forest" sCheck)
    (d2 : DefF K "is_forest" sIsFor)
    (d3 : DefF K "parse_integer" sPaI)
    (d4 : DefF K "format_forest" sFmF)
    (d5 : DefF K "parse_forest" sPaF)
    (d6 : DefF K "_law_start" sStart)
    (d7 : DefF K "_law_take" sTake)
    (d8 : DefF K "_law_of" sOf)
    (d9 : DefF K "_law_shuffled" sShuf)
    (d10 : DefF K "_law_same" sSame)
    (d11 : DefF K "_law_field" sField)
    (d12 : DefF K "_law_outcome" sOut)
    (d13 : DefF K "_law_error" sErr)
    (d14 : DefF K "_law_size" sSize)
    (d15 : DefF K "_law_path" sPath)
    (d16 : DefF K "_law_renamed" sRen)
    (d17 : DefF K "_law_forest" sFor)
    (d18 : DefF K "_law_some_forest" sSome)
    (d19 : DefF K "_law_shown" sShn)
    (d20 : DefF K "_law_read" sLRd)
    (z_len : PySem.W.nsIn K mainGlobals "len" = some none)
    (z_range : PySem.W.nsIn K mainGlobals "range" = some none)
    (z_list : PySem.W.nsIn K mainGlobals "list" = some none)
    (z_tuple : PySem.W.nsIn K mainGlobals "tuple" = some none)
    (z_max : PySem.W.nsIn K mainGlobals "max" = some none)
    (z_min : PySem.W.nsIn K mainGlobals "min" = some none)
    (z_isinstance : PySem.W.nsIn K mainGlobals "isinstance" = some none)
    (z_bool : PySem.W.nsIn K mainGlobals "bool" = some none)
    (z_int : PySem.W.nsIn K mainGlobals "int" = some none)
    (z_str : PySem.W.nsIn K mainGlobals "str" = some none)
    (z_all : PySem.W.nsIn K mainGlobals "all" = some none)
    (z_zip : PySem.W.nsIn K mainGlobals "zip" = some none)
    (z_set : PySem.W.nsIn K mainGlobals "set" = some none)
    (z_sorted : PySem.W.nsIn K mainGlobals "sorted" = some none)
    (z_sum : PySem.W.nsIn K mainGlobals "sum" = some none)
    (z_ValueError : PySem.W.nsIn K mainGlobals "ValueError" = some none)
    (z_LookupError : PySem.W.nsIn K mainGlobals "LookupError" = some none)
    (z_enumerate : PySem.W.nsIn K mainGlobals "enumerate" = some none)
    (z_any : PySem.W.nsIn K mainGlobals "any" = some none)
    {fL c PT : Addr} {oc eL : Value} {od an ddL : Option Addr} {sl slL : Array (Option Value)} {kV dc pm ct : Value} {vsL : Array Value}
    (aL : PySem.W.nsIn K mainGlobals "law" = some (some (.ref fL))) (lL : K.lookup fL = some ⟨oc, od, .func (PySem.W.fnOf "law" "law" (defArgs sLaw) (defBody sLaw) (defScope sLaw) .none kV dc pm an (.ref c) ct), sl⟩) (cL : PySem.W.codeIn K (.ref c) "law" = true)
    (kL : K.lookup c = some ⟨eL, ddL, .fields vsL, slL⟩) (vL : vsL[11]? = some (.ref PT)) (hL : PySem.W.codeHdIn K c PT = true) (nL : K.lookup PT = none)
    {CForestError fForestError : Addr} {ocForestError : Value} {odForestError anForestError : Option Addr} {slForestError : Array (Option Value)} {kVForestError dcForestError pmForestError cdForestError ctForestError : Value}
    (aForestError : PySem.W.nsIn K mainGlobals "ForestError" = some (some (.ref CForestError))) (iForestError : PySem.W.findIn K (.ref CForestError) "__init__" = some (some (.ref fForestError))) (lForestError : K.lookup fForestError = some ⟨ocForestError, odForestError, .func (PySem.W.fnOf "__init__" "ForestError.__init__" (defArgs (initS sForE)) (defBody (initS sForE)) (defScope (initS sForE)) .none kVForestError dcForestError pmForestError anForestError cdForestError ctForestError), slForestError⟩)
    (cForestError : PySem.W.codeIn K cdForestError "ForestError.__init__" = true) (kForestError : PySem.W.keepIn K (.ref fForestError) = true)
    (rForestError : PySem.W.readsIn K CForestError (.type "type") = true) (mForestError : PySem.W.findCls K (.ref CForestError) (.type "type") "__init__" = some (.val (.ref fForestError))) (pForestError : PySem.W.specialIn K (.ref CForestError) "__getattribute__" = some (some (.builtin "type.__getattribute__"))) (qForestError : PySem.W.keepIn K (.ref CForestError) = true) (vForestError : PySem.W.findCls K (.type "ValueError") (.type "type") "__init__" = some (.val (.builtin "ValueError.__init__")))
    {CMissing fMissing : Addr} {ocMissing : Value} {odMissing anMissing : Option Addr} {slMissing : Array (Option Value)} {kVMissing dcMissing pmMissing cdMissing ctMissing : Value}
    (aMissing : PySem.W.nsIn K mainGlobals "Missing" = some (some (.ref CMissing))) (iMissing : PySem.W.findIn K (.ref CMissing) "__init__" = some (some (.ref fMissing))) (lMissing : K.lookup fMissing = some ⟨ocMissing, odMissing, .func (PySem.W.fnOf "__init__" "Missing.__init__" (defArgs (initS sMiss)) (defBody (initS sMiss)) (defScope (initS sMiss)) .none kVMissing dcMissing pmMissing anMissing cdMissing ctMissing), slMissing⟩)
    (cMissing : PySem.W.codeIn K cdMissing "Missing.__init__" = true) (kMissing : PySem.W.keepIn K (.ref fMissing) = true)
    (rMissing : PySem.W.readsIn K CMissing (.type "type") = true) (mMissing : PySem.W.findCls K (.ref CMissing) (.type "type") "__init__" = some (.val (.ref fMissing))) (pMissing : PySem.W.specialIn K (.ref CMissing) "__getattribute__" = some (some (.builtin "type.__getattribute__"))) (qMissing : PySem.W.keepIn K (.ref CMissing) = true) (vMissing : PySem.W.findCls K (.type "LookupError") (.type "type") "__init__" = some (.val (.builtin "LookupError.__init__")))
    {CTooManyNodes fTooManyNodes : Addr} {ocTooManyNodes : Value} {odTooManyNodes anTooManyNodes : Option Addr} {slTooManyNodes : Array (Option Value)} {kVTooManyNodes dcTooManyNodes pmTooManyNodes cdTooManyNodes ctTooManyNodes : Value}
    (aTooManyNodes : PySem.W.nsIn K mainGlobals "TooManyNodes" = some (some (.ref CTooManyNodes))) (iTooManyNodes : PySem.W.findIn K (.ref CTooManyNodes) "__init__" = some (some (.ref fTooManyNodes))) (lTooManyNodes : K.lookup fTooManyNodes = some ⟨ocTooManyNodes, odTooManyNodes, .func (PySem.W.fnOf "__init__" "TooManyNodes.__init__" (defArgs (initS sTooMany)) (defBody (initS sTooMany)) (defScope (initS sTooMany)) .none kVTooManyNodes dcTooManyNodes pmTooManyNodes anTooManyNodes cdTooManyNodes ctTooManyNodes), slTooManyNodes⟩)
    (cTooManyNodes : PySem.W.codeIn K cdTooManyNodes "TooManyNodes.__init__" = true) (kTooManyNodes : PySem.W.keepIn K (.ref fTooManyNodes) = true)
    (tTooManyNodes : PySem.W.typeIn K (.ref fTooManyNodes) = some (.type "function")) (uTooManyNodes : PySem.W.excInitIn K CTooManyNodes vaTail "ValueError.__new__" = true) (oTooManyNodes : PySem.W.excOver K CTooManyNodes vaTail = true) (hTooManyNodes : PySem.W.hasDictIn K CTooManyNodes = true) (saTooManyNodes : PySem.W.findIn K (.ref CTooManyNodes) "__setattr__" = some (some (.builtin "object.__setattr__"))) (bTooManyNodes : PySem.W.subIn K (.ref CTooManyNodes) (.type "BaseException") = some true)
    (yTooManyNodes : PySem.W.typeIn K (.ref CTooManyNodes) = some (.type "type")) (wTooManyNodes : PySem.W.keepIn K (.ref CTooManyNodes) = true) (nTooManyNodes : PySem.W.findIn K (.ref CTooManyNodes) "tag" = some none) (gTooManyNodes : PySem.W.findIn K (.ref CTooManyNodes) "limit" = some none) (xTooManyNodes : PySem.W.findIn K (.ref CTooManyNodes) "__getattribute__" = some (some (.builtin "BaseException.__getattribute__"))) (jTooManyNodes : PySem.W.findIn K (.ref CTooManyNodes) "__getattr__" = some none)
    (zTooManyNodes : PySem.W.exmAny K (.ref CTooManyNodes) [.ref CForestError, .ref CMissing] = some true)
    {CBadParent fBadParent : Addr} {ocBadParent : Value} {odBadParent anBadParent : Option Addr} {slBadParent : Array (Option Value)} {kVBadParent dcBadParent pmBadParent cdBadParent ctBadParent : Value}
    (aBadParent : PySem.W.nsIn K mainGlobals "BadParent" = some (some (.ref CBadParent))) (iBadParent : PySem.W.findIn K (.ref CBadParent) "__init__" = some (some (.ref fBadParent))) (lBadParent : K.lookup fBadParent = some ⟨ocBadParent, odBadParent, .func (PySem.W.fnOf "__init__" "BadParent.__init__" (defArgs (initS sBadPar)) (defBody (initS sBadPar)) (defScope (initS sBadPar)) .none kVBadParent dcBadParent pmBadParent anBadParent cdBadParent ctBadParent), slBadParent⟩)
    (cBadParent : PySem.W.codeIn K cdBadParent "BadParent.__init__" = true) (kBadParent : PySem.W.keepIn K (.ref fBadParent) = true)
    (tBadParent : PySem.W.typeIn K (.ref fBadParent) = some (.type "function")) (uBadParent : PySem.W.excInitIn K CBadParent vaTail "ValueError.__new__" = true) (oBadParent : PySem.W.excOver K CBadParent vaTail = true) (hBadParent : PySem.W.hasDictIn K CBadParent = true) (saBadParent : PySem.W.findIn K (.ref CBadParent) "__setattr__" = some (some (.builtin "object.__setattr__"))) (bBadParent : PySem.W.subIn K (.ref CBadParent) (.type "BaseException") = some true)
    (yBadParent : PySem.W.typeIn K (.ref CBadParent) = some (.type "type")) (wBadParent : PySem.W.keepIn K (.ref CBadParent) = true) (nBadParent : PySem.W.findIn K (.ref CBadParent) "tag" = some none) (gBadParent : PySem.W.findIn K (.ref CBadParent) "node" = some none) (xBadParent : PySem.W.findIn K (.ref CBadParent) "__getattribute__" = some (some (.builtin "BaseException.__getattribute__"))) (jBadParent : PySem.W.findIn K (.ref CBadParent) "__getattr__" = some none)
    (zBadParent : PySem.W.exmAny K (.ref CBadParent) [.ref CForestError, .ref CMissing] = some true)
    {CCycle fCycle : Addr} {ocCycle : Value} {odCycle anCycle : Option Addr} {slCycle : Array (Option Value)} {kVCycle dcCycle pmCycle cdCycle ctCycle : Value}
    (aCycle : PySem.W.nsIn K mainGlobals "Cycle" = some (some (.ref CCycle))) (iCycle : PySem.W.findIn K (.ref CCycle) "__init__" = some (some (.ref fCycle))) (lCycle : K.lookup fCycle = some ⟨ocCycle, odCycle, .func (PySem.W.fnOf "__init__" "Cycle.__init__" (defArgs (initS sCycle)) (defBody (initS sCycle)) (defScope (initS sCycle)) .none kVCycle dcCycle pmCycle anCycle cdCycle ctCycle), slCycle⟩)
    (cCycle : PySem.W.codeIn K cdCycle "Cycle.__init__" = true) (kCycle : PySem.W.keepIn K (.ref fCycle) = true)
    (tCycle : PySem.W.typeIn K (.ref fCycle) = some (.type "function")) (uCycle : PySem.W.excInitIn K CCycle vaTail "ValueError.__new__" = true) (oCycle : PySem.W.excOver K CCycle vaTail = true) (hCycle : PySem.W.hasDictIn K CCycle = true) (saCycle : PySem.W.findIn K (.ref CCycle) "__setattr__" = some (some (.builtin "object.__setattr__"))) (bCycle : PySem.W.subIn K (.ref CCycle) (.type "BaseException") = some true)
    (yCycle : PySem.W.typeIn K (.ref CCycle) = some (.type "type")) (wCycle : PySem.W.keepIn K (.ref CCycle) = true) (nCycle : PySem.W.findIn K (.ref CCycle) "tag" = some none) (gCycle : PySem.W.findIn K (.ref CCycle) "node" = some none) (xCycle : PySem.W.findIn K (.ref CCycle) "__getattribute__" = some (some (.builtin "BaseException.__getattribute__"))) (jCycle : PySem.W.findIn K (.ref CCycle) "__getattr__" = some none)
    (zCycle : PySem.W.exmAny K (.ref CCycle) [.ref CForestError, .ref CMissing] = some true)
    {CParseError fParseError : Addr} {ocParseError : Value} {odParseError anParseError : Option Addr} {slParseError : Array (Option Value)} {kVParseError dcParseError pmParseError cdParseError ctParseError : Value}
    (aParseError : PySem.W.nsIn K mainGlobals "ParseError" = some (some (.ref CParseError))) (iParseError : PySem.W.findIn K (.ref CParseError) "__init__" = some (some (.ref fParseError))) (lParseError : K.lookup fParseError = some ⟨ocParseError, odParseError, .func (PySem.W.fnOf "__init__" "ParseError.__init__" (defArgs (initS sE_ParseError)) (defBody (initS sE_ParseError)) (defScope (initS sE_ParseError)) .none kVParseError dcParseError pmParseError anParseError cdParseError ctParseError), slParseError⟩)
    (cParseError : PySem.W.codeIn K cdParseError "ParseError.__init__" = true) (kParseError : PySem.W.keepIn K (.ref fParseError) = true)
    (tParseError : PySem.W.typeIn K (.ref fParseError) = some (.type "function")) (uParseError : PySem.W.excInitIn K CParseError vaTail "ValueError.__new__" = true) (oParseError : PySem.W.excOver K CParseError vaTail = true) (hParseError : PySem.W.hasDictIn K CParseError = true) (saParseError : PySem.W.findIn K (.ref CParseError) "__setattr__" = some (some (.builtin "object.__setattr__"))) (bParseError : PySem.W.subIn K (.ref CParseError) (.type "BaseException") = some true)
    (yParseError : PySem.W.typeIn K (.ref CParseError) = some (.type "type")) (wParseError : PySem.W.keepIn K (.ref CParseError) = true) (nParseError : PySem.W.findIn K (.ref CParseError) "tag" = some none) (gParseError : PySem.W.findIn K (.ref CParseError) "pos" = some none) (xParseError : PySem.W.findIn K (.ref CParseError) "__getattribute__" = some (some (.builtin "BaseException.__getattribute__"))) (jParseError : PySem.W.findIn K (.ref CParseError) "__getattr__" = some none)
    (zParseError : PySem.W.exmAny K (.ref CParseError) [.ref CForestError, .ref CMissing] = some true)
    {CEmptyHistory : Addr} (aEmptyHistory : PySem.W.nsIn K mainGlobals "EmptyHistory" = some (some (.ref CEmptyHistory)))
    {tM : Tok} (aMX : PySem.W.nsIn K mainGlobals "MAX_NODES" = some (some (.int 40 tM)))
    (mTooManyNodes : PySem.W.exmAny K (.ref CTooManyNodes) [.ref CTooManyNodes, .ref CBadParent, .ref CCycle] = some true)
    (mBadParent : PySem.W.exmAny K (.ref CBadParent) [.ref CTooManyNodes, .ref CBadParent, .ref CCycle] = some true)
    (mCycle : PySem.W.exmAny K (.ref CCycle) [.ref CTooManyNodes, .ref CBadParent, .ref CCycle] = some true)
    {tMD : Tok} (aMD : PySem.W.nsIn K mainGlobals "MAX_DIGITS" = some (some (.int 31 tMD)))
    : LamX.LawAtS l w K CX0 13 63 "_law_script" mg fa h := by
  obtain ⟨f_0, fd_0, F_0, g_0⟩ := d0.get X G
  obtain ⟨f_1, fd_1, F_1, g_1⟩ := d1.get X G
  obtain ⟨f_2, fd_2, F_2, g_2⟩ := d2.get X G
  obtain ⟨f_3, fd_3, F_3, g_3⟩ := d3.get X G
  obtain ⟨f_4, fd_4, F_4, g_4⟩ := d4.get X G
  obtain ⟨f_5, fd_5, F_5, g_5⟩ := d5.get X G
  obtain ⟨f_6, fd_6, F_6, g_6⟩ := d6.get X G
  obtain ⟨f_7, fd_7, F_7, g_7⟩ := d7.get X G
  obtain ⟨f_8, fd_8, F_8, g_8⟩ := d8.get X G
  obtain ⟨f_9, fd_9, F_9, g_9⟩ := d9.get X G
  obtain ⟨f_10, fd_10, F_10, g_10⟩ := d10.get X G
  obtain ⟨f_11, fd_11, F_11, g_11⟩ := d11.get X G
  obtain ⟨f_12, fd_12, F_12, g_12⟩ := d12.get X G
  obtain ⟨f_13, fd_13, F_13, g_13⟩ := d13.get X G
  obtain ⟨f_14, fd_14, F_14, g_14⟩ := d14.get X G
  obtain ⟨f_15, fd_15, F_15, g_15⟩ := d15.get X G
  obtain ⟨f_16, fd_16, F_16, g_16⟩ := d16.get X G
  obtain ⟨f_17, fd_17, F_17, g_17⟩ := d17.get X G
  obtain ⟨f_18, fd_18, F_18, g_18⟩ := d18.get X G
  obtain ⟨f_19, fd_19, F_19, g_19⟩ := d19.get X G
  obtain ⟨f_20, fd_20, F_20, g_20⟩ := d20.get X G
  have e := hfa.symm.trans (PySem.W.mg_of X G aL)
  cases e
  replace z_len := PySem.W.mg_none_of X G z_len
  replace z_range := PySem.W.mg_none_of X G z_range
  replace z_list := PySem.W.mg_none_of X G z_list
  replace z_tuple := PySem.W.mg_none_of X G z_tuple
  replace z_max := PySem.W.mg_none_of X G z_max
  replace z_min := PySem.W.mg_none_of X G z_min
  replace z_isinstance := PySem.W.mg_none_of X G z_isinstance
  replace z_bool := PySem.W.mg_none_of X G z_bool
  replace z_int := PySem.W.mg_none_of X G z_int
  replace z_str := PySem.W.mg_none_of X G z_str
  replace z_all := PySem.W.mg_none_of X G z_all
  replace z_zip := PySem.W.mg_none_of X G z_zip
  replace z_set := PySem.W.mg_none_of X G z_set
  replace z_sorted := PySem.W.mg_none_of X G z_sorted
  replace z_sum := PySem.W.mg_none_of X G z_sum
  replace z_ValueError := PySem.W.mg_none_of X G z_ValueError
  replace z_LookupError := PySem.W.mg_none_of X G z_LookupError
  replace z_enumerate := PySem.W.mg_none_of X G z_enumerate
  replace z_any := PySem.W.mg_none_of X G z_any
  have T : Tx mg := ⟨z_len, z_range, z_list, z_tuple, z_max, z_min⟩
  have TS : TxS mg := ⟨z_isinstance, z_list, z_tuple, z_bool, z_int, z_str, z_len, z_all, z_zip⟩
  have GForestError := PySem.W.mg_of X G aForestError
  have GMissing := PySem.W.mg_of X G aMissing
  have GTooManyNodes := PySem.W.mg_of X G aTooManyNodes
  have GBadParent := PySem.W.mg_of X G aBadParent
  have GCycle := PySem.W.mg_of X G aCycle
  have GParseError := PySem.W.mg_of X G aParseError
  have GEmptyHistory := PySem.W.mg_of X G aEmptyHistory
  have gM := PySem.W.mg_of X G aMX
  have gMD := PySem.W.mg_of X G aMD
  have hP := own c PT _ _ _ _ _ _ lL rfl rfl kL vL
  refine ⟨PySem.W.fnOf "law" "law" (defArgs sLaw) (defBody sLaw) (defScope sLaw) .none kV dc pm an (.ref c) ct, [(c, PT)], spLawT K PT, fun p hp => ?_, fun p hp => ?_, fun p hp => ?_, fun s v => .of_eq rfl, fun H a ns hl _ hH hS => ⟨a, ns, rfl, hH (c, PT) (List.mem_singleton.mpr rfl), hS, hl, fun _ => rfl⟩, fun base _ _ hTB => ?_⟩
  · rw [List.mem_singleton.mp hp]; exact hP
  · rw [List.mem_singleton.mp hp]; exact nL
  · rw [List.mem_singleton.mp hp]; exact PySem.W.codeHd_of_K X hL
  have TB := hTB (c, PT) (List.mem_singleton.mpr rfl)
  have b_0 := F_0.binds (ps := ["parents", "node"]) fun _ _ _ _ _ _ us hl => match us, hl with | [_, _], _ => rfl
  have b_1 := F_1.binds (ps := ["parents"]) fun _ _ _ _ _ _ us hl => match us, hl with | [_], _ => rfl
  have b_2 := F_2.binds (ps := ["parents"]) fun _ _ _ _ _ _ us hl => match us, hl with | [_], _ => rfl
  have b_3 := F_3.binds (ps := ["text"]) fun _ _ _ _ _ _ us hl => match us, hl with | [_], _ => rfl
  have b_4 := F_4.binds (ps := ["forest"]) fun _ _ _ _ _ _ us hl => match us, hl with | [_], _ => rfl
  have b_5 := F_5.binds (ps := ["text"]) fun _ _ _ _ _ _ us hl => match us, hl with | [_], _ => rfl
  have b_6 := F_6.binds (ps := ["_law_script"]) fun _ _ _ _ _ _ us hl => match us, hl with | [_], _ => rfl
  have b_7 := F_7.binds (ps := ["_law_draw", "_law_many"]) fun _ _ _ _ _ _ us hl => match us, hl with | [_, _], _ => rfl
  have b_8 := F_8.binds (ps := ["_law_draw", "_law_some"]) fun _ _ _ _ _ _ us hl => match us, hl with | [_, _], _ => rfl
  have b_9 := F_9.binds (ps := ["_law_draw", "_law_some"]) fun _ _ _ _ _ _ us hl => match us, hl with | [_, _], _ => rfl
  have b_10 := F_10.binds (ps := ["_law_found", "_law_due"]) fun _ _ _ _ _ _ us hl => match us, hl with | [_, _], _ => rfl
  have b_11 := F_11.binds (ps := ["_law_e"]) fun _ _ _ _ _ _ us hl => match us, hl with | [_], _ => rfl
  have b_12 := F_12.binds (ps := ["_law_ask"]) fun _ _ _ _ _ _ us hl => match us, hl with | [_], _ => rfl
  have b_13 := F_13.binds (ps := ["_law_ask"]) fun _ _ _ _ _ _ us hl => match us, hl with | [_], _ => rfl
  have b_14 := F_14.binds (ps := ["_law_draw", "_law_most"]) fun _ _ _ _ _ _ us hl => match us, hl with | [_, _], _ => rfl
  have b_15 := F_15.binds (ps := ["_law_forest_in", "_law_node"]) fun _ _ _ _ _ _ us hl => match us, hl with | [_, _], _ => rfl
  have b_16 := F_16.binds (ps := ["_law_draw", "_law_parents"]) fun _ _ _ _ _ _ us hl => match us, hl with | [_, _], _ => rfl
  have b_17 := F_17.binds (ps := ["_law_draw", "_law_size_here", "_law_many"]) fun _ _ _ _ _ _ us hl => match us, hl with | [_, _, _], _ => rfl
  have b_18 := F_18.binds (ps := ["_law_draw", "_law_most"]) fun _ _ _ _ _ _ us hl => match us, hl with | [_, _], _ => rfl
  have b_19 := F_19.binds (ps := ["_law_forest_in"]) fun _ _ _ _ _ _ us hl => match us, hl with | [_], _ => rfl
  have b_20 := F_20.binds (ps := ["_law_text_in"]) fun _ _ _ _ _ _ us hl => match us, hl with | [_], _ => rfl
  have HForestError : Fun K "__init__" "ForestError.__init__" (initS sForE) fForestError _ := fun_mk (st := initS sForE) lForestError cForestError kForestError
  have IForestError : FnOk l.prog w K mg base CX0 1 fForestError _ ["self", "tag", "message"] (spTop K "ValueError.__new__" vaTail) := ok_forEI HForestError z_ValueError vForestError
  have JForestError := HForestError.binds (ps := ["self", "tag", "message"]) fun _ _ _ _ _ _ us hl => match us, hl with | [_, _, _], _ => rfl
  have LForestError : ClsI K CForestError fForestError := ⟨rForestError, mForestError, pForestError, kForestError, qForestError⟩
  have HMissing : Fun K "__init__" "Missing.__init__" (initS sMiss) fMissing _ := fun_mk (st := initS sMiss) lMissing cMissing kMissing
  have IMissing : FnOk l.prog w K mg base CX0 1 fMissing _ ["self", "tag", "message"] (spTop K "LookupError.__new__" luTail) := ok_missI HMissing z_LookupError vMissing
  have JMissing := HMissing.binds (ps := ["self", "tag", "message"]) fun _ _ _ _ _ _ us hl => match us, hl with | [_, _, _], _ => rfl
  have LMissing : ClsI K CMissing fMissing := ⟨rMissing, mMissing, pMissing, kMissing, qMissing⟩
  have HTooManyNodes : Fun K "__init__" "TooManyNodes.__init__" (initS sTooMany) fTooManyNodes _ := fun_mk (st := initS sTooMany) lTooManyNodes cTooManyNodes kTooManyNodes
  have JTooManyNodes := HTooManyNodes.binds (ps := ["self", "limit"]) fun _ _ _ _ _ _ us hl => match us, hl with | [_, _], _ => rfl
  have RTooManyNodes : Raisable l.prog w K mg base 2 "TooManyNodes" CTooManyNodes "limit" "TooManyNodes" := ⟨⟨_, _, _, _, fTooManyNodes, _, PySem.F.excBase_ValueError, ⟨uTooManyNodes, oTooManyNodes, hTooManyNodes, saTooManyNodes, bTooManyNodes, yTooManyNodes, wTooManyNodes⟩, iTooManyNodes, tTooManyNodes, ok_tooManyI HTooManyNodes LForestError GForestError IForestError JForestError, JTooManyNodes⟩, GTooManyNodes, nTooManyNodes, gTooManyNodes, ⟨xTooManyNodes, jTooManyNodes, bTooManyNodes, hTooManyNodes⟩⟩
  have HBadParent : Fun K "__init__" "BadParent.__init__" (initS sBadPar) fBadParent _ := fun_mk (st := initS sBadPar) lBadParent cBadParent kBadParent
  have JBadParent := HBadParent.binds (ps := ["self", "node"]) fun _ _ _ _ _ _ us hl => match us, hl with | [_, _], _ => rfl
  have RBadParent : Raisable l.prog w K mg base 2 "BadParent" CBadParent "node" "BadParent" := ⟨⟨_, _, _, _, fBadParent, _, PySem.F.excBase_ValueError, ⟨uBadParent, oBadParent, hBadParent, saBadParent, bBadParent, yBadParent, wBadParent⟩, iBadParent, tBadParent, ok_badParI HBadParent LForestError GForestError IForestError JForestError, JBadParent⟩, GBadParent, nBadParent, gBadParent, ⟨xBadParent, jBadParent, bBadParent, hBadParent⟩⟩
  have HCycle : Fun K "__init__" "Cycle.__init__" (initS sCycle) fCycle _ := fun_mk (st := initS sCycle) lCycle cCycle kCycle
  have JCycle := HCycle.binds (ps := ["self", "node"]) fun _ _ _ _ _ _ us hl => match us, hl with | [_, _], _ => rfl
  have RCycle : Raisable l.prog w K mg base 2 "Cycle" CCycle "node" "Cycle" := ⟨⟨_, _, _, _, fCycle, _, PySem.F.excBase_ValueError, ⟨uCycle, oCycle, hCycle, saCycle, bCycle, yCycle, wCycle⟩, iCycle, tCycle, ok_cycleI HCycle LForestError GForestError IForestError JForestError, JCycle⟩, GCycle, nCycle, gCycle, ⟨xCycle, jCycle, bCycle, hCycle⟩⟩
  have HParseError : Fun K "__init__" "ParseError.__init__" (initS sE_ParseError) fParseError _ := fun_mk (st := initS sE_ParseError) lParseError cParseError kParseError
  have JParseError := HParseError.binds (ps := ["self", "pos"]) fun _ _ _ _ _ _ us hl => match us, hl with | [_, _], _ => rfl
  have RParseError : Raisable l.prog w K mg base 2 "ParseError" CParseError "pos" "ParseError" := ⟨⟨_, _, _, _, fParseError, _, PySem.F.excBase_ValueError, ⟨uParseError, oParseError, hParseError, saParseError, bParseError, yParseError, wParseError⟩, iParseError, tParseError, ok_E_ParseError HParseError LForestError GForestError IForestError JForestError, JParseError⟩, GParseError, nParseError, gParseError, ⟨xParseError, jParseError, bParseError, hParseError⟩⟩
  have k_0 : Kn l.prog w K mg base 1 "leads_to_root" sLeads ["parents", "node"] (spLeads K) f_0 fd_0 := ⟨F_0, ok_leads F_0 T, b_0, g_0⟩
  have k_4 : Kn l.prog w K mg base 1 "format_forest" sFmF ["forest"] (spFmF K) f_4 fd_4 := ⟨F_4, ok_fmF F_4 TS z_enumerate, b_4, g_4⟩
  have k_6 : Kn l.prog w K mg base 1 "_law_start" sStart ["_law_script"] (spStart K) f_6 fd_6 := ⟨F_6, ok_start F_6 T, b_6, g_6⟩
  have k_7 : Kn l.prog w K mg base 1 "_law_take" sTake ["_law_draw", "_law_many"] spTake f_7 fd_7 := ⟨F_7, ok_take F_7 T.len, b_7, g_7⟩
  have k_8 : Kn l.prog w K mg base 2 "_law_of" sOf ["_law_draw", "_law_some"] (spOf K) f_8 fd_8 := ⟨F_8, ok_of F_8 k_7.G k_7.F k_7.b k_7.g T, b_8, g_8⟩
  have k_9 : Kn l.prog w K mg base 2 "_law_shuffled" sShuf ["_law_draw", "_law_some"] (spShuf K) f_9 fd_9 := ⟨F_9, ok_shuf F_9 k_7.G k_7.F k_7.b k_7.g T, b_9, g_9⟩
  have k_14 : Kn l.prog w K mg base 3 "_law_size" sSize ["_law_draw", "_law_most"] spSize f_14 fd_14 := ⟨F_14, ok_size F_14 k_7.G k_7.F k_7.b k_7.g k_8.G k_8.F k_8.b k_8.g T, b_14, g_14⟩
  have k_15 : Kn l.prog w K mg base 1 "_law_path" sPath ["_law_forest_in", "_law_node"] (spPath K) f_15 fd_15 := ⟨F_15, ok_path F_15 T, b_15, g_15⟩
  have k_16 : Kn l.prog w K mg base 3 "_law_renamed" sRen ["_law_draw", "_law_parents"] (spRen K) f_16 fd_16 := ⟨F_16, ok_ren F_16 k_9.G k_9.F k_9.b k_9.g T, b_16, g_16⟩
  have k_17 : Kn l.prog w K mg base 4 "_law_forest" sFor ["_law_draw", "_law_size_here", "_law_many"] spFor f_17 fd_17 := ⟨F_17, ok_for F_17 k_7.G k_7.F k_7.b k_7.g k_16.G k_16.F k_16.b k_16.g T, b_17, g_17⟩
  have k_18 : Kn l.prog w K mg base 5 "_law_some_forest" sSome ["_law_draw", "_law_most"] spSome f_18 fd_18 := ⟨F_18, ok_some F_18 k_7.G k_7.F k_7.b k_7.g k_14.G k_14.F k_14.b k_14.g k_17.G k_17.F k_17.b k_17.g, b_18, g_18⟩
  have k_19 : Kn l.prog w K mg base 1 "_law_shown" sShn ["_law_forest_in"] (spFmF K) f_19 fd_19 := ⟨F_19, ok_shn F_19 T TS, b_19, g_19⟩
  have k_20 : Kn l.prog w K mg base 2 "_law_read" sLRd ["_law_text_in"] spLRd f_20 fd_20 := ⟨F_20, ok_lrd F_20 k_19 k_15 T TS z_all, b_20, g_20⟩
  have k_10 : Kn l.prog w K mg base 5 "_law_same" sSame ["_law_found", "_law_due"] (spSame K 4) f_10 fd_10 := ⟨F_10, ok_same F_10 TS b_10 g_10 4, b_10, g_10⟩
  have x_check : KnX l.prog w K mg base 4 "check_forest" ["parents"] (spCheckB K CTooManyNodes CBadParent CCycle) f_1 fd_1 := ⟨F_1.kp, okB_check F_1 k_0 T z_enumerate gM RTooManyNodes RBadParent RCycle, b_1, g_1⟩
  have K_isf : Kn l.prog w K mg base 5 "is_forest" sIsFor ["parents"] (spIsFor K) f_2 _ := ⟨F_2, ok_isFor F_2 x_check GTooManyNodes GBadParent GCycle mTooManyNodes mBadParent mCycle, b_2, g_2⟩
  have x_paI : KnX l.prog w K mg base 4 "parse_integer" ["text"] (spPaIB CParseError) f_3 fd_3 := ⟨F_3.kp, okB_paI F_3 RParseError T TS z_all gMD, b_3, g_3⟩
  have x_paF : KnX l.prog w K mg base 6 "parse_forest" ["text"] (spPaFB CParseError) f_5 fd_5 := ⟨F_5.kp, okB_paF F_5 RParseError T TS z_enumerate x_paI K_isf k_4, b_5, g_5⟩
  have E_f : ExX.FnE l.prog w K mg base CX0 1 f_11 _ ["_law_e"] (spField K) := ok_field F_11
  have E_o : ExX.FnL l.prog w K mg base 3 f_12 (TTout K CForestError CMissing) := ok_out F_12 b_12 E_f F_11.kp b_11 g_11 GForestError GMissing GEmptyHistory
  have E_e : ExX.FnL l.prog w K mg base 4 f_13 (TTerr K CForestError CMissing) := ok_err F_13 b_13 E_o F_12.kp g_12
  exact ok_law lL cL TB T TS ⟨_, _, k_6⟩ ⟨_, _, k_18⟩ ⟨_, _, k_7⟩ ⟨_, _, k_8⟩ ⟨_, _, k_19⟩ ⟨_, _, k_20⟩ ⟨_, _, k_10⟩ ⟨_, _, k_4⟩ E_o F_12.kp g_12 E_e F_13.kp g_13 x_paF F_5 RParseError zParseError
end Ff
open PySem PySem.W PyProof.Rows
set_option maxHeartbeats 0 in
theorem PySem.Challenge.cw_findforests_k49_texts_of_forests_holds : PySem.Challenge.rw_findforests_k49_texts_of_forests.Holds := by
  w_on; o_law; k_head; (case hw => w_witness2)
  k_fill
  refine LamX.walk_ofOwn (l := PySem.Challenge.rw_findforests_k49_texts_of_forests) (n := 63) (k := 13) (x := "_law_script") (CX := fun _ => L2.CX0) rfl (by decide) rfl ⟨rfl, by decide, by decide⟩ (by decide +kernel) (fun w h Y => PySem.W.km_in_of Y) ?F (fun _ _ _ _ _ h => h)
  case F =>
    intro w mg fa h Y KX G hmg own
    refine' Ff.all_mk KX G hmg own ?d0 ?d1 ?d2 ?d3 ?d4 ?d5 ?d6 ?d7 ?d8 ?d9 ?d10 ?d11 ?d12 ?d13 ?d14 ?d15 ?d16 ?d17 ?d18 ?d19 ?d20 ?z_len ?z_range ?z_list ?z_tuple ?z_max ?z_min ?z_isinstance ?z_bool ?z_int ?z_str ?z_all ?z_zip ?z_set ?z_sorted ?z_sum ?z_ValueError ?z_LookupError ?z_enumerate ?z_any ?aL ?lL ?cL ?kL ?vL ?hL ?nL ?aForestError ?iForestError ?lForestError ?cForestError ?kForestError ?rForestError ?mForestError ?pForestError ?qForestError ?vForestError ?aMissing ?iMissing ?lMissing ?cMissing ?kMissing ?rMissing ?mMissing ?pMissing ?qMissing ?vMissing ?aTooManyNodes ?iTooManyNodes ?lTooManyNodes ?cTooManyNodes ?kTooManyNodes ?tTooManyNodes ?uTooManyNodes ?oTooManyNodes ?hTooManyNodes ?saTooManyNodes ?bTooManyNodes ?yTooManyNodes ?wTooManyNodes ?nTooManyNodes ?gTooManyNodes ?xTooManyNodes ?jTooManyNodes ?zTooManyNodes ?aBadParent ?iBadParent ?lBadParent ?cBadParent ?kBadParent ?tBadParent ?uBadParent ?oBadParent ?hBadParent ?saBadParent ?bBadParent ?yBadParent ?wBadParent ?nBadParent ?gBadParent ?xBadParent ?jBadParent ?zBadParent ?aCycle ?iCycle ?lCycle ?cCycle ?kCycle ?tCycle ?uCycle ?oCycle ?hCycle ?saCycle ?bCycle ?yCycle ?wCycle ?nCycle ?gCycle ?xCycle ?jCycle ?zCycle ?aParseError ?iParseError ?lParseError ?cParseError ?kParseError ?tParseError ?uParseError ?oParseError ?hParseError ?saParseError ?bParseError ?yParseError ?wParseError ?nParseError ?gParseError ?xParseError ?jParseError ?zParseError ?aEmptyHistory ?aMX ?mTooManyNodes ?mBadParent ?mCycle ?aMD
    (case z_len => k_is); (case z_range => k_is); (case z_list => k_is); (case z_tuple => k_is); (case z_max => k_is); (case z_min => k_is); (case z_isinstance => k_is); (case z_bool => k_is); (case z_int => k_is); (case z_str => k_is); (case z_all => k_is); (case z_zip => k_is); (case z_set => k_is); (case z_sorted => k_is); (case z_sum => k_is); (case z_ValueError => k_is); (case z_LookupError => k_is); (case z_enumerate => k_is); (case z_any => k_is); (case aL => k_is); (case lL => k_is); (case cL => k_is); (case kL => k_is); (case vL => rfl); (case hL => kernel_rfl); (case nL => kernel_rfl); (case aForestError => k_is); (case iForestError => k_is); (case lForestError => k_is); (case cForestError => k_is); (case kForestError => k_is); (case rForestError => k_is); (case mForestError => k_is); (case pForestError => k_is); (case qForestError => k_is); (case vForestError => k_is); (case aMissing => k_is); (case iMissing => k_is); (case lMissing => k_is); (case cMissing => k_is); (case kMissing => k_is); (case rMissing => k_is); (case mMissing => k_is); (case pMissing => k_is); (case qMissing => k_is); (case vMissing => k_is); (case aTooManyNodes => k_is); (case iTooManyNodes => k_is); (case lTooManyNodes => k_is); (case cTooManyNodes => k_is); (case kTooManyNodes => k_is); (case tTooManyNodes => k_is); (case uTooManyNodes => kx_is); (case oTooManyNodes => kx_is); (case hTooManyNodes => k_is); (case saTooManyNodes => k_is); (case bTooManyNodes => k_is); (case yTooManyNodes => k_is); (case wTooManyNodes => k_is); (case nTooManyNodes => k_is); (case gTooManyNodes => k_is); (case xTooManyNodes => k_is); (case jTooManyNodes => k_is); (case zTooManyNodes => kernel_rfl); (case aBadParent => k_is); (case iBadParent => k_is); (case lBadParent => k_is); (case cBadParent => k_is); (case kBadParent => k_is); (case tBadParent => k_is); (case uBadParent => kx_is); (case oBadParent => kx_is); (case hBadParent => k_is); (case saBadParent => k_is); (case bBadParent => k_is); (case yBadParent => k_is); (case wBadParent => k_is); (case nBadParent => k_is); (case gBadParent => k_is); (case xBadParent => k_is); (case jBadParent => k_is); (case zBadParent => kernel_rfl); (case aCycle => k_is); (case iCycle => k_is); (case lCycle => k_is); (case cCycle => k_is); (case kCycle => k_is); (case tCycle => k_is); (case uCycle => kx_is); (case oCycle => kx_is); (case hCycle => k_is); (case saCycle => k_is); (case bCycle => k_is); (case yCycle => k_is); (case wCycle => k_is); (case nCycle => k_is); (case gCycle => k_is); (case xCycle => k_is); (case jCycle => k_is); (case zCycle => kernel_rfl); (case aParseError => k_is); (case iParseError => k_is); (case lParseError => k_is); (case cParseError => k_is); (case kParseError => k_is); (case tParseError => k_is); (case uParseError => kx_is); (case oParseError => kx_is); (case hParseError => k_is); (case saParseError => k_is); (case bParseError => k_is); (case yParseError => k_is); (case wParseError => k_is); (case nParseError => k_is); (case gParseError => k_is); (case xParseError => k_is); (case jParseError => k_is); (case zParseError => kernel_rfl); (case aEmptyHistory => k_is); (case aMX => k_is); (case mTooManyNodes => kernel_rfl); (case mBadParent => kernel_rfl); (case mCycle => kernel_rfl); (case aMD => k_is)
    all_goals (refine' Ff.DefF.by ?a ?l ?c ?k; (case a => k_is); (case l => k_is); (case c => k_is); (case k => k_is))

