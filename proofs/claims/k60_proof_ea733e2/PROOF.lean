import PyProof.Rows.All
import Wide.All
import OpenK.AllK
import Wide.FinOn
import KE.KExcInit
import HandS.Base
import HandS.Call
import HandS.List
import HandS.Ends
import HandS.Exc
import HandS.ExcInit
import HandS.ExcCtx
import HandS.TryMany
import KE.KTryMore
import HandS.HotCalls
import HandS.ExcField
import HandS.Lambda
import HandS.Codes
import HandS.Words
import HandS.WordsExc
import PyProof.TupleIter
import HandS.FStr
import HandS.Style
import HandS.Comp
import KE.KDflt
import HandS.Iter
import KE.GoesEnum
import HandS.Defaults
import PyProof.CollectIter
import HandS.Dict
import PyProof.DictUpdate
import PyProof.DictDisplay
import HandS.Star
import HandS.CallLocal
import HandS.More
import PyProof.FString4
import PyProof.EqKinds
import PyProof.FactsAll.NoneType
import PyProof.AssignAttr
import HandS.HeadHook3
import HandS.Text
import HandS.WordsList
import HandS.WordsDict
import HandS.Wide
import HandS.Conv
import HandS.Strs
import HandS.SetFor
import HandS.IsInst
import HandS.Zip
import HandS.Deep
import HandS.SortKw
import KE.DatumOrd
import HandS.DictComp
import HandS.TupAny
import KE.KStateDown
import KE.KNestM
import KE.KExcLine
import HandS.EndOwn
import HandS.HeadEnd
import HandS.HeadHook1
import HandS.HeadHook2
import HandS.HeadHook4
import HandS.HeadWalk
import HandS.Head0
import HandS.Head1
import HandS.Head2
import PySem.Challenge.RW_findforests_k60_whole_unions_keep_the_se
set_option Elab.async false
set_option linter.all false
set_option maxRecDepth 100000
set_option maxHeartbeats 4000000
/-! The mathematics of finds: forests as parent functions below n, with a rank that falls towards the roots. -/
namespace Ff
structure Fo (n : Nat) (p : Nat → Nat) (r : Nat → Nat) : Prop where
  lt : ∀ x, x < n → p x < n
  up : ∀ x, x < n → p x = x ∨ r (p x) < r x
  rb : ∀ x, x < n → r x < n
def root (p : Nat → Nat) : Nat → Nat → Nat
  | 0, x => x
  | k + 1, x => if p x = x then x else root p k (p x)
def ups (p : Nat → Nat) : Nat → Nat → List Nat
  | 0, _ => []
  | k + 1, x => if p x = x then [] else x :: ups p k (p x)
def path (p : Nat → Nat) (k x : Nat) : List Nat := ups p k x ++ [root p k x]
theorem root_of {p : Nat → Nat} {x : Nat} (h : p x = x) : ∀ k, root p k x = x
  | 0 => rfl
  | k + 1 => by show (if p x = x then x else _) = x; rw [if_pos h]
theorem ups_of {p : Nat → Nat} {x : Nat} (h : p x = x) : ∀ k, ups p k x = []
  | 0 => rfl
  | k + 1 => by show (if p x = x then [] else _) = []; rw [if_pos h]
theorem root_step {p : Nat → Nat} {x k : Nat} (h : p x ≠ x) : root p (k + 1) x = root p k (p x) := by
  show (if p x = x then x else _) = _; rw [if_neg h]
theorem ups_step {p : Nat → Nat} {x k : Nat} (h : p x ≠ x) : ups p (k + 1) x = x :: ups p k (p x) := by
  show (if p x = x then [] else _) = _; rw [if_neg h]
section
variable {n : Nat} {p : Nat → Nat} {r : Nat → Nat}
/-- enough steps: more of them change nothing -/
theorem root_more (F : Fo n p r) : ∀ (k x : Nat), x < n → r x ≤ k → root p (k + 1) x = root p k x
  | k, x, hx, hr => by
    by_cases h : p x = x
    · rw [root_of h, root_of h]
    · have u := (F.up x hx).resolve_left h
      cases k with
      | zero => omega
      | succ k => rw [root_step h, root_step h]; exact root_more F k (p x) (F.lt x hx) (by omega)
theorem ups_more (F : Fo n p r) : ∀ (k x : Nat), x < n → r x ≤ k → ups p (k + 1) x = ups p k x
  | k, x, hx, hr => by
    by_cases h : p x = x
    · rw [ups_of h, ups_of h]
    · have u := (F.up x hx).resolve_left h
      cases k with
      | zero => omega
      | succ k => rw [ups_step h, ups_step h]; rw [ups_more F k (p x) (F.lt x hx) (by omega)]
theorem root_n (F : Fo n p r) {x : Nat} (hx : x < n) (h : p x ≠ x) : root p n x = root p n (p x) := by
  have := F.rb x hx
  have e := (F.up x hx).resolve_left h
  rw [← root_more F n x hx (by omega), root_step h]
theorem ups_n (F : Fo n p r) {x : Nat} (hx : x < n) (h : p x ≠ x) : ups p n x = x :: ups p n (p x) := by
  have := F.rb x hx
  have e := (F.up x hx).resolve_left h
  rw [← ups_more F n x hx (by omega), ups_step h]
/-- induction from the roots -/
theorem Fo.ind (F : Fo n p r) {C : Nat → Prop} (h0 : ∀ x, x < n → p x = x → C x) (h1 : ∀ x, x < n → p x ≠ x → C (p x) → C x) : ∀ x, x < n → C x := by
  have : ∀ k x, r x ≤ k → x < n → C x := by
    intro k
    induction k with
    | zero =>
      intro x hr hx
      by_cases h : p x = x
      · exact h0 x hx h
      · have := (F.up x hx).resolve_left h; omega
    | succ k ih =>
      intro x hr hx
      by_cases h : p x = x
      · exact h0 x hx h
      · have := (F.up x hx).resolve_left h
        exact h1 x hx h (ih (p x) (by omega) (F.lt x hx))
  exact fun x hx => this (r x) x (Nat.le_refl _) hx
theorem root_lt (F : Fo n p r) : ∀ x, x < n → root p n x < n :=
  F.ind (fun x hx h => by rw [root_of h]; exact hx) (fun x hx h ih => by rw [root_n F hx h]; exact ih)
theorem root_fix (F : Fo n p r) : ∀ x, x < n → p (root p n x) = root p n x :=
  F.ind (fun x hx h => by rw [root_of h]; exact h) (fun x hx h ih => by rw [root_n F hx h]; exact ih)
theorem root_rank (F : Fo n p r) : ∀ x, x < n → root p n x = x ∨ r (root p n x) < r x :=
  F.ind (fun x hx h => .inl (root_of h n)) (fun x hx h ih => by
    have u := (F.up x hx).resolve_left h
    rw [root_n F hx h]
    rcases ih with e | e
    · rw [e]; exact .inr u
    · exact .inr (by omega))
theorem root_ne (F : Fo n p r) {x : Nat} (hx : x < n) (h : p x ≠ x) : root p n x ≠ x := fun e => h (by have z := root_fix F x hx; rw [e] at z; exact z)
theorem ups_lt (F : Fo n p r) : ∀ x, x < n → ∀ v ∈ ups p n x, v < n ∧ p v ≠ v ∧ root p n v = root p n x ∧ r v ≤ r x :=
  F.ind (fun x hx h v hv => by rw [ups_of h] at hv; cases hv) (fun x hx h ih v hv => by
    have u := (F.up x hx).resolve_left h
    rw [ups_n F hx h] at hv
    rcases List.mem_cons.mp hv with e | e
    · subst e; exact ⟨hx, h, rfl, Nat.le_refl _⟩
    · have z := ih v e
      refine ⟨z.1, z.2.1, z.2.2.1.trans (root_n F hx h).symm, by omega⟩)
theorem ups_len (F : Fo n p r) : ∀ x, x < n → (ups p n x).length ≤ r x :=
  F.ind (fun x hx h => by rw [ups_of h]; exact Nat.zero_le _) (fun x hx h ih => by
    have u := (F.up x hx).resolve_left h
    rw [ups_n F hx h, List.length_cons]; omega)
theorem ups_nodup (F : Fo n p r) : ∀ x, x < n → (ups p n x).Nodup :=
  F.ind (fun x hx h => by rw [ups_of h]; exact List.nodup_nil) (fun x hx h ih => by
    have u := (F.up x hx).resolve_left h
    rw [ups_n F hx h]
    refine List.nodup_cons.mpr ⟨fun hm => ?_, ih⟩
    have z := (ups_lt F (p x) (F.lt x hx) x hm).2.2.2
    omega)
theorem self_ups (F : Fo n p r) {x : Nat} (hx : x < n) (h : p x ≠ x) : x ∈ ups p n x := by rw [ups_n F hx h]; exact List.mem_cons_self
/-- a set of nodes with all nodes above them but the roots -/
def Closed (n : Nat) (p : Nat → Nat) (S : Nat → Bool) : Prop := ∀ v, v < n → S v = true → p v ≠ v ∧ (p (p v) = p v ∨ S (p v) = true)
def after (n : Nat) (p : Nat → Nat) (S : Nat → Bool) : Nat → Nat := fun v => if S v = true then root p n v else p v
theorem closed_ups (F : Fo n p r) {S : Nat → Bool} (C : Closed n p S) : ∀ x, x < n → S x = true → ∀ v ∈ ups p n x, S v = true :=
  F.ind (fun x hx h hS v hv => by rw [ups_of h] at hv; cases hv) (fun x hx h ih hS v hv => by
    rw [ups_n F hx h] at hv
    rcases List.mem_cons.mp hv with e | e
    · subst e; exact hS
    · rcases (C x hx hS).2 with z | z
      · rw [ups_of z] at e; cases e
      · exact ih z v e)
theorem after_fo (F : Fo n p r) {S : Nat → Bool} (C : Closed n p S) : Fo n (after n p S) r where
  lt := fun x hx => by unfold after; split; exact root_lt F x hx; exact F.lt x hx
  up := fun x hx => by
    unfold after; split
    · exact root_rank F x hx
    · exact F.up x hx
  rb := F.rb
theorem after_root (F : Fo n p r) {S : Nat → Bool} (C : Closed n p S) {x : Nat} (hx : x < n) (h : p x = x) : after n p S x = x := by
  unfold after; split
  · exact root_of h n
  · exact h
theorem after_nonroot (F : Fo n p r) {S : Nat → Bool} (C : Closed n p S) {x : Nat} (hx : x < n) (h : p x ≠ x) : after n p S x ≠ x := by
  unfold after; split
  · exact root_ne F hx h
  · exact h
theorem after_same_root (F : Fo n p r) {S : Nat → Bool} (C : Closed n p S) : ∀ x, x < n → root (after n p S) n x = root p n x :=
  F.ind (fun x hx h => by rw [root_of h, root_of (after_root F C hx h)]) (fun x hx h ih => by
    have hq := after_nonroot F C hx h
    rw [root_n (after_fo F C) hx hq]
    by_cases hS : S x = true
    · have e : after n p S x = root p n x := by unfold after; rw [if_pos hS]
      rw [e]
      exact root_of (after_root F C (root_lt F x hx) (root_fix F x hx)) n
    · have e : after n p S x = p x := by unfold after; rw [if_neg hS]
      rw [e, ih, root_n F hx h])
theorem after_ups (F : Fo n p r) {S : Nat → Bool} (C : Closed n p S) : ∀ x, x < n →
    (∀ v ∈ ups (after n p S) n x, v ∈ ups p n x) ∧ (∀ v ∈ ups p n x, S v = true ∨ v ∈ ups (after n p S) n x) :=
  F.ind (fun x hx h => by rw [ups_of h, ups_of (after_root F C hx h)]; exact ⟨fun _ z => z, fun _ z => .inr z⟩) (fun x hx h ih => by
    have hq := after_nonroot F C hx h
    have G := after_fo F C
    rw [ups_n G hx hq]
    by_cases hS : S x = true
    · have e : after n p S x = root p n x := by unfold after; rw [if_pos hS]
      rw [e, ups_of (after_root F C (root_lt F x hx) (root_fix F x hx))]
      refine ⟨fun v hv => ?_, fun v hv => .inl (closed_ups F C x hx hS v hv)⟩
      rw [List.mem_singleton.mp hv]; exact self_ups F hx h
    · have e : after n p S x = p x := by unfold after; rw [if_neg hS]
      rw [e, ups_n F hx h]
      refine ⟨fun v hv => ?_, fun v hv => ?_⟩
      · rcases List.mem_cons.mp hv with z | z
        · rw [z]; exact List.mem_cons_self
        · exact List.mem_cons_of_mem _ (ih.1 v z)
      · rcases List.mem_cons.mp hv with z | z
        · exact .inr (by rw [z]; exact List.mem_cons_self)
        · rcases ih.2 v z with y | y
          · exact .inl y
          · exact .inr (List.mem_cons_of_mem _ y))
def low (p : Nat → Nat) (x : Nat) : Nat := if p x = x then 0 else 1
def deep (p : Nat → Nat) (v : Nat) : Bool := decide (p (p v) ≠ p v)
theorem after_cost (F : Fo n p r) {S : Nat → Bool} (C : Closed n p S) : ∀ x, x < n →
    (ups (after n p S) n x).length = low p x + (ups p n x).countP (fun v => deep p v && !S v) :=
  F.ind (fun x hx h => by rw [ups_of h, ups_of (after_root F C hx h)]; unfold low; rw [if_pos h]; rfl) (fun x hx h ih => by
    have hq := after_nonroot F C hx h
    have G := after_fo F C
    rw [ups_n G hx hq, List.length_cons]
    have hl : low p x = 1 := by unfold low; rw [if_neg h]
    rw [hl]
    by_cases hS : S x = true
    · have e : after n p S x = root p n x := by unfold after; rw [if_pos hS]
      rw [e, ups_of (after_root F C (root_lt F x hx) (root_fix F x hx))]
      have z : (ups p n x).countP (fun v => deep p v && !S v) = 0 := by
        refine List.countP_eq_zero.mpr fun v hv => ?_
        rw [closed_ups F C x hx hS v hv]; simp
      rw [z]; rfl
    · have e : after n p S x = p x := by unfold after; rw [if_neg hS]
      have eS : S x = false := by simpa using hS
      rw [e, ih, ups_n F hx h, List.countP_cons, eS]
      unfold low deep
      by_cases hd : p (p x) = p x
      · rw [if_pos hd]; simp [hd]; omega
      · rw [if_neg hd]; simp [hd]; omega)
def join (S T : Nat → Bool) : Nat → Bool := fun v => S v || T v
def upB (p : Nat → Nat) (n x : Nat) : Nat → Bool := fun v => (ups p n x).contains v
theorem upB_iff {v x : Nat} : upB p n x v = true ↔ v ∈ ups p n x := by unfold upB; exact List.contains_iff_mem
theorem ups_above (F : Fo n p r) : ∀ x, x < n → ∀ v ∈ ups p n x, p (p v) = p v ∨ p v ∈ ups p n x :=
  F.ind (fun x hx h v hv => by rw [ups_of h] at hv; cases hv) (fun x hx h ih v hv => by
    rw [ups_n F hx h] at hv ⊢
    rcases List.mem_cons.mp hv with e | e
    · subst e
      by_cases hp : p (p v) = p v
      · exact .inl hp
      · exact .inr (List.mem_cons_of_mem _ (self_ups F (F.lt v hx) hp))
    · rcases ih v e with z | z
      · exact .inl z
      · exact .inr (List.mem_cons_of_mem _ z))
theorem closed_join (F : Fo n p r) {S : Nat → Bool} (C : Closed n p S) {x : Nat} (hx : x < n) : Closed n p (join S (upB p n x)) := fun v hv h => by
  unfold join at h ⊢
  rcases Bool.or_eq_true _ _ |>.mp h with z | z
  · refine ⟨(C v hv z).1, ?_⟩
    rcases (C v hv z).2 with y | y
    · exact .inl y
    · exact .inr (by rw [y]; rfl)
  · have m := upB_iff.mp z
    refine ⟨(ups_lt F x hx v m).2.1, ?_⟩
    rcases ups_above F x hx v m with y | y
    · exact .inl y
    · exact .inr (by rw [upB_iff.mpr y, Bool.or_true])
theorem closed_no : Closed n p (fun _ => false) := fun v _ h => by cases h
def fnd (n : Nat) (p : Nat → Nat) (x : Nat) : Nat → Nat := fun v => if v ∈ path p n x then root p n x else p v
theorem fnd_after (F : Fo n p r) {S : Nat → Bool} (C : Closed n p S) {x : Nat} (hx : x < n) {v : Nat} (hv : v < n) : fnd n (after n p S) x v = after n p (join S (upB p n x)) v := by
  unfold fnd path
  rw [after_same_root F C x hx]
  have A := after_ups F C x hx
  have R := root_fix F x hx
  have Rl := root_lt F x hx
  by_cases h1 : v ∈ ups (after n p S) n x
  · rw [if_pos (List.mem_append_left _ h1)]
    have m := A.1 v h1
    unfold after join
    rw [if_pos (by rw [upB_iff.mpr m, Bool.or_true])]
    exact ((ups_lt F x hx v m).2.2.1).symm
  · by_cases h2 : v = root p n x
    · rw [if_pos (List.mem_append_right _ (List.mem_singleton.mpr h2))]
      subst h2
      exact (after_root F (closed_join F C hx) Rl R).symm
    · rw [if_neg (fun z => by
        rcases List.mem_append.mp z with y | y
        · exact h1 y
        · exact h2 (List.mem_singleton.mp y))]
      by_cases h3 : v ∈ ups p n x
      · have s := (A.2 v h3).resolve_right h1
        unfold after join
        rw [if_pos s, if_pos (by rw [s]; rfl)]
      · unfold after join
        have e : upB p n x v = false := by
          cases hb : upB p n x v with
          | false => rfl
          | true => exact absurd (upB_iff.mp hb) h3
        rw [e, Bool.or_false]
/-- a parent function below n alone matters -/
theorem root_congr {q : Nat → Nat} (hl : ∀ x, x < n → p x < n) (h : ∀ v, v < n → q v = p v) : ∀ k x, x < n → root q k x = root p k x
  | 0, _, _ => rfl
  | k + 1, x, hx => by
    show (if q x = x then x else root q k (q x)) = (if p x = x then x else root p k (p x))
    rw [h x hx, root_congr hl h k (p x) (hl x hx)]
theorem ups_congr {q : Nat → Nat} (hl : ∀ x, x < n → p x < n) (h : ∀ v, v < n → q v = p v) : ∀ k x, x < n → ups q k x = ups p k x
  | 0, _, _ => rfl
  | k + 1, x, hx => by
    show (if q x = x then [] else x :: ups q k (q x)) = (if p x = x then [] else x :: ups p k (p x))
    rw [h x hx, ups_congr hl h k (p x) (hl x hx)]
theorem fnd_congr {q : Nat → Nat} (hl : ∀ x, x < n → p x < n) (h : ∀ v, v < n → q v = p v) {x v : Nat} (hx : x < n) (hv : v < n) : fnd n q x v = fnd n p x v := by
  unfold fnd path
  rw [root_congr hl h n x hx, ups_congr hl h n x hx, h v hv]
theorem Fo.congr {q : Nat → Nat} (F : Fo n p r) (h : ∀ v, v < n → q v = p v) : Fo n q r where
  lt := fun x hx => by rw [h x hx]; exact F.lt x hx
  up := fun x hx => by rw [h x hx]; exact F.up x hx
  rb := F.rb
theorem fnd_fo (F : Fo n p r) {x : Nat} (hx : x < n) : Fo n (fnd n p x) r := by
  have e : ∀ v, v < n → after n p (fun _ => false) v = p v := fun v _ => rfl
  have A := after_fo F (closed_join F closed_no hx)
  exact A.congr fun v hv => (fnd_congr F.lt e hx hv).symm.trans (fnd_after F closed_no hx hv)
end
def fndAll (n : Nat) : List Nat → (Nat → Nat) → Nat → Nat
  | [], p => p
  | x :: l, p => fndAll n l (fnd n p x)
def costs (n : Nat) : List Nat → (Nat → Nat) → List Nat
  | [], _ => []
  | x :: l, p => (ups p n x).length :: costs n l (fnd n p x)
theorem fndAll_snoc (n : Nat) : ∀ (l : List Nat) (x : Nat) (p : Nat → Nat), fndAll n (l ++ [x]) p = fnd n (fndAll n l p) x
  | [], _, _ => rfl
  | y :: l, x, p => fndAll_snoc n l x (fnd n p y)
theorem costs_snoc (n : Nat) : ∀ (l : List Nat) (x : Nat) (p : Nat → Nat), costs n (l ++ [x]) p = costs n l p ++ [(ups (fndAll n l p) n x).length]
  | [], _, _ => rfl
  | y :: l, x, p => by show _ :: costs n (l ++ [x]) (fnd n p y) = _ :: (costs n l (fnd n p y) ++ [_]); rw [costs_snoc n l x (fnd n p y)]; rfl
theorem costs_len (n : Nat) : ∀ (l : List Nat) (p : Nat → Nat), (costs n l p).length = l.length
  | [], _ => rfl
  | y :: l, p => by show (costs n l (fnd n p y)).length + 1 = l.length + 1; rw [costs_len n l]
def markB (n : Nat) (p : Nat → Nat) (l : List Nat) : Nat → Bool := fun v => l.any fun x => upB p n x v
section
variable {n : Nat} {p : Nat → Nat} {r : Nat → Nat}
theorem fndAll_fo (F : Fo n p r) : ∀ (l : List Nat), (∀ x ∈ l, x < n) → ∀ q, Fo n q r → Fo n (fndAll n l q) r
  | [], _, q, G => G
  | x :: l, h, q, G => fndAll_fo F l (fun y hy => h y (List.mem_cons_of_mem _ hy)) _ (fnd_fo G (h x List.mem_cons_self))
theorem fndAll_after (F : Fo n p r) : ∀ (l : List Nat), (∀ x ∈ l, x < n) → ∀ S, Closed n p S → ∀ q, (∀ v, v < n → q v = after n p S v) → ∀ v, v < n → fndAll n l q v = after n p (join S (markB n p l)) v
  | [], _, S, C, q, hq, v, hv => by
    show q v = _
    rw [hq v hv]
    unfold after join markB
    simp
  | x :: l, h, S, C, q, hq, v, hv => by
    have hx := h x List.mem_cons_self
    have G := after_fo F C
    show fndAll n l (fnd n q x) v = _
    rw [fndAll_after F l (fun y hy => h y (List.mem_cons_of_mem _ hy)) (join S (upB p n x)) (closed_join F C hx) (fnd n q x) (fun u hu => (fnd_congr G.lt hq hx hu).trans (fnd_after F C hx hu)) v hv]
    have e : join (join S (upB p n x)) (markB n p l) = join S (markB n p (x :: l)) := by
      funext u
      show ((S u || upB p n x u) || l.any _) = (S u || (upB p n x u || l.any _))
      rw [Bool.or_assoc]
    rw [e]
theorem behind_eq (F : Fo n p r) (l : List Nat) (h : ∀ x ∈ l, x < n) (v : Nat) (hv : v < n) : fndAll n l p v = if markB n p l v = true then root p n v else p v := by
  rw [fndAll_after F l h (fun _ => false) closed_no p (fun u _ => rfl) v hv]
  unfold after join
  simp
theorem countP_split (f g : Nat → Bool) : ∀ l : List Nat, l.countP (fun v => f v && !g v) + l.countP (fun v => f v && g v) = l.countP f
  | [] => rfl
  | x :: l => by
    have ih := countP_split f g l
    rw [List.countP_cons, List.countP_cons, List.countP_cons, ← ih]
    cases f x <;> cases g x <;> simp <;> omega
theorem count_range (F : Fo n p r) {x : Nat} (hx : x < n) (f : Nat → Bool) : (ups p n x).countP f = (List.range n).countP (fun v => upB p n x v && f v) := by
  have P : (ups p n x).Perm ((List.range n).filter (upB p n x)) := by
    refine (List.perm_ext_iff_of_nodup (ups_nodup F x hx) (List.Nodup.sublist List.filter_sublist List.nodup_range)).mpr fun v => ?_
    rw [List.mem_filter, List.mem_range, upB_iff]
    exact ⟨fun h => ⟨(ups_lt F x hx v h).1, h⟩, fun h => h.2⟩
  rw [P.countP_eq, List.countP_filter]
  exact List.countP_congr fun v _ => by rw [Bool.and_comm]
theorem cost_sum (F : Fo n p r) : ∀ (l : List Nat), (∀ x ∈ l, x < n) → ∀ S, Closed n p S → ∀ q, (∀ v, v < n → q v = after n p S v) →
    (costs n l q).sum = (l.map (low p)).sum + (List.range n).countP (fun v => (deep p v && !S v) && markB n p l v)
  | [], _, S, C, q, hq => by
    have e : (List.range n).countP (fun v => (deep p v && !S v) && markB n p [] v) = 0 := List.countP_eq_zero.mpr fun v _ => by unfold markB; simp
    rw [e]; rfl
  | x :: l, h, S, C, q, hq => by
    have hx := h x List.mem_cons_self
    have G := after_fo F C
    show (ups q n x).length + (costs n l (fnd n q x)).sum = (low p x + (l.map (low p)).sum) + _
    rw [cost_sum F l (fun y hy => h y (List.mem_cons_of_mem _ hy)) (join S (upB p n x)) (closed_join F C hx) (fnd n q x) (fun u hu => (fnd_congr G.lt hq hx hu).trans (fnd_after F C hx hu))]
    rw [ups_congr G.lt hq n x hx, after_cost F C x hx, count_range F hx]
    have e := countP_split (fun v => (deep p v && !S v) && markB n p (x :: l) v) (upB p n x) (List.range n)
    rw [← e]
    have e1 : (List.range n).countP (fun v => ((deep p v && !S v) && markB n p (x :: l) v) && upB p n x v) = (List.range n).countP (fun v => upB p n x v && (deep p v && !S v)) := List.countP_congr fun v _ => by
      show (((deep p v && !S v) && (upB p n x v || markB n p l v)) && upB p n x v) = true ↔ (upB p n x v && (deep p v && !S v)) = true
      cases upB p n x v <;> cases deep p v <;> cases S v <;> simp
    have e2 : (List.range n).countP (fun v => ((deep p v && !S v) && markB n p (x :: l) v) && !upB p n x v) = (List.range n).countP (fun v => (deep p v && !join S (upB p n x) v) && markB n p l v) := List.countP_congr fun v _ => by
      show (((deep p v && !S v) && (upB p n x v || markB n p l v)) && !upB p n x v) = true ↔ ((deep p v && !(S v || upB p n x v)) && markB n p l v) = true
      cases upB p n x v <;> cases deep p v <;> cases S v <;> simp
    rw [e1, e2]
    omega
theorem cost_total (F : Fo n p r) (l : List Nat) (h : ∀ x ∈ l, x < n) : (costs n l p).sum = (l.map (low p)).sum + (List.range n).countP (fun v => deep p v && markB n p l v) := by
  rw [cost_sum F l h (fun _ => false) closed_no p (fun u _ => rfl)]
  congr 1
  exact List.countP_congr fun v _ => by simp
theorem mark_same {l m : List Nat} (h : ∀ x, x ∈ l ↔ x ∈ m) (v : Nat) : markB n p l v = markB n p m v := by
  unfold markB
  refine Bool.eq_iff_iff.mpr ?_
  rw [List.any_eq_true, List.any_eq_true]
  exact ⟨fun ⟨x, a, b⟩ => ⟨x, (h x).mp a, b⟩, fun ⟨x, a, b⟩ => ⟨x, (h x).mpr a, b⟩⟩
theorem behind_same (F : Fo n p r) {l m : List Nat} (hl : ∀ x ∈ l, x < n) (h : ∀ x, x ∈ l ↔ x ∈ m) (v : Nat) (hv : v < n) : fndAll n m p v = fndAll n l p v := by
  rw [behind_eq F m (fun x hx => hl x ((h x).mpr hx)) v hv, behind_eq F l hl v hv, mark_same h]
theorem cost_same (F : Fo n p r) {l m : List Nat} (hl : ∀ x ∈ l, x < n) (h : l.Perm m) : (costs n m p).sum = (costs n l p).sum := by
  rw [cost_total F m (fun x hx => hl x (h.mem_iff.mpr hx)), cost_total F l hl, (h.map (low p)).sum_nat]
  congr 1
  exact List.countP_congr fun v _ => by rw [mark_same (fun x => h.mem_iff) v]
end
end Ff
namespace Ff
theorem path_cons {p : Nat → Nat} {k x : Nat} (h : p x ≠ x) : path p (k + 1) x = x :: path p k (p x) := by
  unfold path
  rw [ups_step h, root_step h]
  rfl
theorem path_of {p : Nat → Nat} {k x : Nat} (h : p x = x) : path p k x = [x] := by
  unfold path
  rw [ups_of h, root_of h]
  rfl
theorem path_succ (p : Nat → Nat) : ∀ k x, path p (k + 1) x = if p (root p k x) = root p k x then path p k x else path p k x ++ [p (root p k x)]
  | 0, x => by
    by_cases h : p x = x
    · rw [path_of h, if_pos (show p (root p 0 x) = root p 0 x from h)]; rfl
    · rw [path_cons h, if_neg (show ¬ p (root p 0 x) = root p 0 x from h)]; rfl
  | k + 1, x => by
    by_cases h : p x = x
    · rw [path_of h, root_of h, if_pos h, path_of h]
    · rw [path_cons h, root_step h, path_succ p k (p x), path_cons h]
      split <;> rfl
theorem path_fixed {p : Nat → Nat} {i x : Nat} (h : p (root p i x) = root p i x) : ∀ j, path p (i + j) x = path p i x ∧ root p (i + j) x = root p i x
  | 0 => ⟨rfl, rfl⟩
  | j + 1 => by
    have ih := path_fixed h j
    have e : path p (i + (j + 1)) x = path p i x := by
      show path p ((i + j) + 1) x = _
      rw [path_succ, ih.2, if_pos h]
      exact ih.1
    refine ⟨e, ?_⟩
    unfold path at e
    have z := congrArg List.getLast? e
    rw [List.getLast?_append, List.getLast?_append] at z
    simpa using z
theorem root_lt0 {n : Nat} {p : Nat → Nat} (hl : ∀ x, x < n → p x < n) : ∀ k x, x < n → root p k x < n
  | 0, _, h => h
  | k + 1, x, h => by
    show (if p x = x then x else root p k (p x)) < n
    split
    · exact h
    · exact root_lt0 hl k (p x) (hl x h)
theorem ups_len0 (p : Nat → Nat) : ∀ k x, (ups p k x).length ≤ k
  | 0, _ => Nat.le_refl _
  | k + 1, x => by
    show (if p x = x then [] else x :: ups p k (p x)).length ≤ k + 1
    split
    · exact Nat.zero_le _
    · have := ups_len0 p k (p x)
      rw [List.length_cons]; omega
theorem path_len0 (p : Nat → Nat) (k x : Nat) : (path p k x).length ≤ k + 1 := by
  unfold path
  have := ups_len0 p k x
  rw [List.length_append, List.length_singleton]; omega
end Ff
namespace Ff
theorem root_succ (p : Nat → Nat) : ∀ k x, root p (k + 1) x = p (root p k x)
  | 0, x => by
    by_cases h : p x = x
    · rw [root_of h]; show x = p x; rw [h]
    · rw [root_step h]; rfl
  | k + 1, x => by
    by_cases h : p x = x
    · rw [root_of h, root_of h, h]
    · rw [root_step h, root_step h, root_succ p k (p x)]
theorem ups_succ (p : Nat → Nat) : ∀ k x, ups p (k + 1) x = if p (root p k x) = root p k x then ups p k x else ups p k x ++ [root p k x]
  | 0, x => by
    by_cases h : p x = x
    · rw [ups_of h, if_pos (show p (root p 0 x) = root p 0 x from h)]; rfl
    · rw [ups_step h, if_neg (show ¬ p (root p 0 x) = root p 0 x from h)]; rfl
  | k + 1, x => by
    by_cases h : p x = x
    · rw [ups_of h, root_of h, if_pos h, ups_of h]
    · rw [ups_step h, root_step h, ups_succ p k (p x), ups_step h]
      split <;> rfl
end Ff

/-! Ways between forests: changed nodes, needed nodes. -/
namespace Ff
def chg (p q : Nat → Nat) (v : Nat) : Bool := decide (p v ≠ q v)
/-- finds lead from p to q -/
def Way (n : Nat) (p q : Nat → Nat) : Prop := ∀ v, v < n → chg p q v = true → ∀ u ∈ ups p n v, q u = root p n u
def needB (n : Nat) (p q : Nat → Nat) (v : Nat) : Bool := chg p q v && !(List.range n).any fun u => chg p q u && (decide (v ≠ u) && (ups p n u).contains v)
def needS (n : Nat) (p q : Nat → Nat) : List Nat := (List.range n).filter (needB n p q)
theorem chg_iff {p q : Nat → Nat} {v : Nat} : chg p q v = true ↔ p v ≠ q v := by unfold chg; exact decide_eq_true_iff
theorem needB_iff {n : Nat} {p q : Nat → Nat} {v : Nat} : needB n p q v = true ↔ p v ≠ q v ∧ ∀ u, u < n → p u ≠ q u → v ≠ u → v ∉ ups p n u := by
  unfold needB
  rw [Bool.and_eq_true, chg_iff, Bool.not_eq_true']
  refine and_congr_right fun _ => ?_
  rw [List.any_eq_false]
  constructor
  · intro h u hu hc hn hm
    refine h u (List.mem_range.mpr hu) ?_
    rw [Bool.and_eq_true, Bool.and_eq_true, chg_iff]
    exact ⟨hc, decide_eq_true hn, List.contains_iff_mem.mpr hm⟩
  · intro h u hu z
    rw [Bool.and_eq_true, Bool.and_eq_true, chg_iff] at z
    exact h u (List.mem_range.mp hu) z.1 (of_decide_eq_true z.2.1) (List.contains_iff_mem.mp z.2.2)
theorem needS_mem {n : Nat} {p q : Nat → Nat} {v : Nat} : v ∈ needS n p q ↔ v < n ∧ needB n p q v = true := by
  unfold needS; rw [List.mem_filter, List.mem_range]
theorem needS_nodup (n : Nat) (p q : Nat → Nat) : (needS n p q).Nodup := List.Nodup.sublist List.filter_sublist List.nodup_range
theorem needS_len (n : Nat) (p q : Nat → Nat) : (needS n p q).length ≤ n := Nat.le_trans (List.length_filter_le _ _) (by rw [List.length_range]; exact Nat.le_refl _)
section
variable {n : Nat} {p r : Nat → Nat}
theorem ups_trans (F : Fo n p r) {u v : Nat} : ∀ x, x < n → u ∈ ups p n x → v ∈ ups p n u → v ∈ ups p n x :=
  F.ind (C := fun x => u ∈ ups p n x → v ∈ ups p n u → v ∈ ups p n x) (fun x hx h a _ => by rw [ups_of h] at a; cases a) (fun x hx h ih a b => by
    rw [ups_n F hx h] at a
    rcases List.mem_cons.mp a with e | e
    · subst e; exact b
    · rw [ups_n F hx h]; exact List.mem_cons_of_mem _ (ih e b))
theorem ups_rank (F : Fo n p r) {v x : Nat} (hx : x < n) (h : v ∈ ups p n x) (ne : v ≠ x) : r v < r x := by
  by_cases e : p x = x
  · rw [ups_of e] at h; cases h
  · rw [ups_n F hx e] at h
    rcases List.mem_cons.mp h with z | z
    · exact absurd z ne
    · have := (ups_lt F (p x) (F.lt x hx) v z).2.2.2
      have := (F.up x hx).resolve_left e
      omega
theorem mark_iff {l : List Nat} {v : Nat} : markB n p l v = true ↔ ∃ x ∈ l, v ∈ ups p n x := by
  unfold markB
  rw [List.any_eq_true]
  exact ⟨fun ⟨x, a, b⟩ => ⟨x, a, upB_iff.mp b⟩, fun ⟨x, a, b⟩ => ⟨x, a, upB_iff.mpr b⟩⟩
theorem mark_closed (F : Fo n p r) {l : List Nat} (h : ∀ x ∈ l, x < n) : Closed n p (markB n p l) := fun v hv hm => by
  obtain ⟨x, hx, m⟩ := mark_iff.mp hm
  refine ⟨(ups_lt F x (h x hx) v m).2.1, ?_⟩
  rcases ups_above F x (h x hx) v m with y | y
  · exact .inl y
  · exact .inr (mark_iff.mpr ⟨x, hx, y⟩)
/-- behind finds: what is changed was marked -/
theorem behind_chg (F : Fo n p r) {l : List Nat} (h : ∀ x ∈ l, x < n) {v : Nat} (hv : v < n) (hc : p v ≠ fndAll n l p v) : markB n p l v = true ∧ fndAll n l p v = root p n v ∧ p v ≠ root p n v := by
  have e := behind_eq F l h v hv
  by_cases m : markB n p l v = true
  · rw [if_pos m] at e
    exact ⟨m, e, by rw [← e]; exact hc⟩
  · rw [if_neg m] at e
    exact absurd e.symm hc
theorem way_behind (F : Fo n p r) {l : List Nat} (h : ∀ x ∈ l, x < n) : Way n p (fndAll n l p) := fun v hv hc u hu => by
  have m := (behind_chg F h hv (chg_iff.mp hc)).1
  have hun := (ups_lt F v hv u hu).1
  obtain ⟨x, hx, mx⟩ := mark_iff.mp m
  rw [behind_eq F l h u hun, if_pos (mark_iff.mpr ⟨x, hx, ups_trans F x (h x hx) mx hu⟩)]
/-- whoever is above another one is no child of the root's -/
theorem above_deep (F : Fo n p r) {x v : Nat} (hx : x < n) (h : v ∈ ups p n x) (ne : v ≠ x) : p x ≠ root p n x := by
  have hr : p x ≠ x := fun e => by rw [ups_of e] at h; cases h
  rw [ups_n F hx hr] at h
  rcases List.mem_cons.mp h with z | z
  · exact absurd z ne
  · intro e
    have f := root_fix F x hx
    rw [← e] at f
    rw [ups_of f] at z
    cases z
theorem need_found (F : Fo n p r) {l : List Nat} (h : ∀ x ∈ l, x < n) {v : Nat} (hv : v < n) (hn : needB n p (fndAll n l p) v = true) : v ∈ l := by
  obtain ⟨hc, ho⟩ := needB_iff.mp hn
  obtain ⟨m, _, _⟩ := behind_chg F h hv hc
  obtain ⟨x, hx, mx⟩ := mark_iff.mp m
  by_cases e : v = x
  · rw [e]; exact hx
  · have hxn := h x hx
    have hr : p x ≠ x := fun z => by rw [ups_of z] at mx; cases mx
    have bx : fndAll n l p x = root p n x := by rw [behind_eq F l h x hxn, if_pos (mark_iff.mpr ⟨x, hx, self_ups F hxn hr⟩)]
    exact absurd mx (ho x hxn (by rw [bx]; exact above_deep F hxn mx e) e)
/-- above a needed one, or needed -/
theorem need_below (F : Fo n p r) {q : Nat → Nat} (hq : ∀ v, v < n → p v = v → q v = v) : ∀ k v, n - r v ≤ k → v < n → p v ≠ q v → ∃ u, u < n ∧ needB n p q u = true ∧ v ∈ ups p n u := by
  intro k
  induction k with
  | zero => intro v hk hv _; have := F.rb v hv; omega
  | succ k ih =>
    intro v hk hv hc
    have nr : p v ≠ v := fun e => hc (by rw [hq v hv e]; exact e)
    cases hb : needB n p q v with
    | true => exact ⟨v, hv, hb, self_ups F hv nr⟩
    | false =>
      have z : ¬ (p v ≠ q v ∧ ∀ u, u < n → p u ≠ q u → v ≠ u → v ∉ ups p n u) := fun y => by rw [needB_iff.mpr y] at hb; cases hb
      have : ∃ u, u < n ∧ p u ≠ q u ∧ v ≠ u ∧ v ∈ ups p n u := by
        refine Classical.byContradiction fun y => z ⟨hc, fun u a b c d => y ⟨u, a, b, c, d⟩⟩
      obtain ⟨u, hu, cu, ne, mu⟩ := this
      have rk := ups_rank F hu mu ne
      obtain ⟨w, hw, nw, mw⟩ := ih u (by have := F.rb u hu; omega) hu cu
      exact ⟨w, hw, nw, ups_trans F w hw mw mu⟩
/-- a way: finds of the needed ones lead there -/
theorem need_leads (F : Fo n p r) {q : Nat → Nat} (hq : ∀ v, v < n → p v = v → q v = v) (W : Way n p q) (v : Nat) (hv : v < n) : fndAll n (needS n p q) p v = q v := by
  have hl : ∀ x ∈ needS n p q, x < n := fun x hx => (needS_mem.mp hx).1
  rw [behind_eq F _ hl v hv]
  by_cases m : markB n p (needS n p q) v = true
  · rw [if_pos m]
    obtain ⟨x, hx, mx⟩ := mark_iff.mp m
    have hb := needS_mem.mp hx
    exact (W x hb.1 (chg_iff.mpr (needB_iff.mp hb.2).1) v mx).symm
  · rw [if_neg m]
    refine Classical.byContradiction fun hc => ?_
    obtain ⟨u, hu, nu, mu⟩ := need_below F hq n v (by omega) hv hc
    exact m (mark_iff.mpr ⟨u, needS_mem.mpr ⟨hu, nu⟩, mu⟩)
theorem behind_root (F : Fo n p r) {l : List Nat} (h : ∀ x ∈ l, x < n) (v : Nat) (hv : v < n) (e : p v = v) : fndAll n l p v = v := by
  rw [behind_eq F l h v hv]
  split
  · exact root_of e n
  · exact e
theorem filter_single {f : Nat → Bool} {m : Nat} (hm : m < n) (h : ∀ v, v < n → (f v = true ↔ v = m)) : (List.range n).filter f = [m] := by
  have e : (List.range n).filter f = (List.range n).filter (fun v => v == m) := by
    refine List.filter_congr fun v hv => ?_
    have := h v (List.mem_range.mp hv)
    by_cases z : v = m
    · rw [this.mpr z, z]; simp
    · have y : f v = false := by
        cases hf : f v with
        | false => rfl
        | true => exact absurd (this.mp hf) z
      rw [y]; simp [z]
  rw [e]
  have c : (List.range n).filter (fun v => v == m) = List.replicate ((List.range n).count m) m := List.filter_beq _
  rw [c, (List.nodup_range (n := n)).count, if_pos (List.mem_range.mpr hm)]
  rfl
/-- all but one of the needed ones do not suffice -/
theorem rest_needs (F : Fo n p r) {q : Nat → Nat} (hq : ∀ v, v < n → p v = v → q v = v) (W : Way n p q) {rest : List Nat} {m : Nat} (hmn : m < n) (hm : needB n p q m = true)
    (hr : ∀ x ∈ rest, x ∈ needS n p q ∧ x ≠ m) (hall : ∀ x ∈ needS n p q, x = m ∨ x ∈ rest) :
    fndAll n rest p m ≠ q m ∧ Way n (fndAll n rest p) q ∧ needS n (fndAll n rest p) q = [m] := by
  have hl : ∀ x ∈ rest, x < n := fun x hx => (needS_mem.mp (hr x hx).1).1
  obtain ⟨cm, om⟩ := needB_iff.mp hm
  have C := mark_closed F hl
  have hS : ∀ v, v < n → fndAll n rest p v = after n p (markB n p rest) v := fun v hv => by rw [behind_eq F rest hl v hv]; rfl
  have G := after_fo F C
  have hm0 : markB n p rest m ≠ true := fun z => by
    obtain ⟨x, hx, mx⟩ := mark_iff.mp z
    have hb := needS_mem.mp (hr x hx).1
    exact om x hb.1 (needB_iff.mp hb.2).1 (fun e => (hr x hx).2 e.symm) mx
  have rm : fndAll n rest p m = p m := by rw [behind_eq F rest hl m hmn, if_neg hm0]
  have mchg : fndAll n rest p m ≠ q m := by rw [rm]; exact cm
  have uc : ∀ x, x < n → ups (fndAll n rest p) n x = ups (after n p (markB n p rest)) n x := fun x hx => ups_congr G.lt hS n x hx
  have rc : ∀ x, x < n → root (fndAll n rest p) n x = root p n x := fun x hx => (root_congr G.lt hS n x hx).trans (after_same_root F C x hx)
  -- what is still changed
  have still : ∀ v, v < n → fndAll n rest p v ≠ q v → markB n p rest v ≠ true ∧ p v ≠ q v ∧ v ∈ ups p n m := fun v hv hc => by
    have e := behind_eq F rest hl v hv
    by_cases mv : markB n p rest v = true
    · rw [if_pos mv] at e
      obtain ⟨x, hx, mx⟩ := mark_iff.mp mv
      have hb := needS_mem.mp (hr x hx).1
      exact absurd (e.trans (W x hb.1 (chg_iff.mpr (needB_iff.mp hb.2).1) v mx).symm) hc
    · rw [if_neg mv] at e
      have pc : p v ≠ q v := by rw [← e]; exact hc
      obtain ⟨u, hu, nu, mu⟩ := need_below F hq n v (by omega) hv pc
      rcases hall u (needS_mem.mpr ⟨hu, nu⟩) with z | z
      · exact ⟨mv, pc, z ▸ mu⟩
      · exact absurd (mark_iff.mpr ⟨u, z, mu⟩) mv
  refine ⟨mchg, fun v hv hc u hu => ?_, filter_single hmn fun v hv => ?_⟩
  · obtain ⟨_, pc, _⟩ := still v hv (chg_iff.mp hc)
    rw [uc v hv] at hu
    have hu' := (after_ups F C v hv).1 u hu
    rw [rc u (ups_lt F v hv u hu').1]
    exact W v hv (chg_iff.mpr pc) u hu'
  · rw [needB_iff]
    constructor
    · rintro ⟨hc, ho⟩
      refine Classical.byContradiction fun ne => ?_
      obtain ⟨mv, _, vm⟩ := still v hv hc
      refine ho m hmn mchg ne ?_
      rw [uc m hmn]
      exact ((after_ups F C m hmn).2 v vm).resolve_left mv
    · rintro rfl
      refine ⟨mchg, fun u hu hc ne hm2 => ?_⟩
      obtain ⟨_, _, um⟩ := still u hu hc
      rw [uc u hu] at hm2
      have a := ups_rank F hu ((after_ups F C u hu).1 v hm2) ne
      have b := ups_rank F hmn um (fun e => ne e.symm)
      omega
end
end Ff
namespace Ff
section
variable {n : Nat} {p r : Nat → Nat}
theorem fndAll_append (n : Nat) : ∀ (l m : List Nat) (p : Nat → Nat), fndAll n (l ++ m) p = fndAll n m (fndAll n l p)
  | [], _, _ => rfl
  | x :: l, m, p => fndAll_append n l m (fnd n p x)
theorem behind_same_root (F : Fo n p r) {l : List Nat} (h : ∀ x ∈ l, x < n) (v : Nat) (hv : v < n) : root (fndAll n l p) n v = root p n v := by
  have C := mark_closed F h
  have hS : ∀ v, v < n → fndAll n l p v = after n p (markB n p l) v := fun v hv => by rw [behind_eq F l h v hv]; rfl
  exact (root_congr (after_fo F C).lt hS n v hv).trans (after_same_root F C v hv)
theorem behind_ups (F : Fo n p r) {l : List Nat} (h : ∀ x ∈ l, x < n) {x v : Nat} (hx : x < n) (hv : v ∈ ups (fndAll n l p) n x) : v ∈ ups p n x := by
  have C := mark_closed F h
  have hS : ∀ v, v < n → fndAll n l p v = after n p (markB n p l) v := fun v hv => by rw [behind_eq F l h v hv]; rfl
  rw [ups_congr (after_fo F C).lt hS n x hx] at hv
  exact (after_ups F C x hx).1 v hv
/-- a node keeps its parent or hangs on its root -/
theorem behind_or (F : Fo n p r) {l : List Nat} (h : ∀ x ∈ l, x < n) (v : Nat) (hv : v < n) : fndAll n l p v = p v ∨ fndAll n l p v = root p n v := by
  rw [behind_eq F l h v hv]
  split
  · exact .inr rfl
  · exact .inl rfl
/-- what is needed over two ways is needed over one of them -/
theorem need_two (F : Fo n p r) {l m : List Nat} (hl : ∀ x ∈ l, x < n) (hm : ∀ x ∈ m, x < n) {v : Nat} (hv : v < n) (hn : needB n p (fndAll n m (fndAll n l p)) v = true) :
    needB n p (fndAll n l p) v = true ∨ needB n (fndAll n l p) (fndAll n m (fndAll n l p)) v = true := by
  have G : Fo n (fndAll n l p) r := fndAll_fo F l hl p F
  obtain ⟨hc, ho⟩ := needB_iff.mp hn
  -- once on the root, always on the root
  have stay : ∀ u, u < n → fndAll n l p u = root p n u → fndAll n m (fndAll n l p) u = root p n u := fun u hu e => by
    rcases behind_or G hm u hu with z | z
    · rw [z, e]
    · rw [z, behind_same_root F hl u hu]
  by_cases h1 : p v = fndAll n l p v
  · refine .inr (needB_iff.mpr ⟨by rw [← h1]; exact hc, fun u hu hcu ne hmu => ?_⟩)
    refine ho u hu ?_ ne (behind_ups F hl hu hmu)
    rcases behind_or F hl u hu with z | z
    · rw [← z]; exact hcu
    · exact absurd (z.trans (stay u hu z).symm) hcu
  · refine .inl (needB_iff.mpr ⟨h1, fun u hu hcu ne hmu => ?_⟩)
    refine ho u hu ?_ ne hmu
    have z := (behind_or F hl u hu).resolve_left (fun e => hcu e.symm)
    rw [stay u hu z, ← z]; exact hcu
theorem flat_fo (F : Fo n p r) : Fo n (fun v => root p n v) r where
  lt := root_lt F
  up := root_rank F
  rb := F.rb
theorem flat_way (F : Fo n p r) : Way n p (fun v => root p n v) := fun _ _ _ _ _ => rfl
theorem flat_roots (F : Fo n p r) (v : Nat) (hv : v < n) : p v = v ↔ root p n v = v :=
  ⟨fun e => root_of e n, fun e => Classical.byContradiction fun z => root_ne F hv z e⟩
theorem flat_ups (F : Fo n p r) (v : Nat) (hv : v < n) : (ups (fun v => root p n v) n v).length ≤ 1 := by
  by_cases e : root p n v = v
  · rw [ups_of (p := fun v => root p n v) e]; exact Nat.zero_le _
  · rw [ups_n (flat_fo F) hv e]
    have f : root p n (root p n v) = root p n v := root_of (root_fix F v hv) n
    rw [ups_of (p := fun v => root p n v) f]
    exact Nat.le_refl _
theorem deep_chg (F : Fo n p r) (v : Nat) (hv : v < n) : decide (2 ≤ (ups p n v).length) = chg p (fun v => root p n v) v := by
  unfold chg
  refine decide_eq_decide.mpr ?_
  show 2 ≤ (ups p n v).length ↔ p v ≠ root p n v
  by_cases e : p v = v
  · rw [ups_of e, root_of e]; simp [e]
  · rw [ups_n F hv e, root_n F hv e, List.length_cons]
    constructor
    · intro h z
      rw [ups_of (by rw [z]; exact root_fix F (p v) (F.lt v hv))] at h
      simp at h
    · intro h
      have e2 : p (p v) ≠ p v := fun z => h (root_of z n).symm
      rw [ups_n F (F.lt v hv) e2, List.length_cons]; omega
/-- no way back -/
theorem no_way_back (F : Fo n p r) {l : List Nat} (hl : ∀ x ∈ l, x < n) : Way n (fndAll n l p) p ↔ ∀ v, v < n → p v = fndAll n l p v := by
  have G : Fo n (fndAll n l p) r := fndAll_fo F l hl p F
  constructor
  · intro W v hv
    refine Classical.byContradiction fun hc => ?_
    have z := (behind_or F hl v hv).resolve_left (fun e => hc e.symm)
    have nr : fndAll n l p v ≠ v := by
      intro e
      rw [z] at e
      have pr : p v = v := by
        have y := root_fix F v hv
        rw [e] at y; exact y
      exact hc (by rw [z, e, pr])
    have := W v hv (chg_iff.mpr fun e => hc e.symm) v (self_ups G hv nr)
    rw [behind_same_root F hl v hv, ← z] at this
    exact hc this
  · intro h v hv hc
    exact absurd (h v hv).symm (chg_iff.mp hc)
end
end Ff

/-! Forests by any falling measure; a parent exchanged. -/
namespace Ff
section
variable {n : Nat} {p ρ : Nat → Nat}
theorem bounded (ρ : Nat → Nat) : ∀ n, ∃ M, ∀ v, v < n → ρ v ≤ M
  | 0 => ⟨0, fun v h => by omega⟩
  | n + 1 => by
    obtain ⟨M, h⟩ := bounded ρ n
    refine ⟨M + ρ n, fun v hv => ?_⟩
    by_cases e : v = n
    · rw [e]; omega
    · have := h v (by omega); omega
theorem upsW (hl : ∀ x, x < n → p x < n) (hu : ∀ x, x < n → p x = x ∨ ρ (p x) < ρ x) : ∀ (k x : Nat), x < n → ρ x ≤ k → ups p (k + 1) x = ups p k x
  | k, x, hx, hr => by
    by_cases h : p x = x
    · rw [ups_of h, ups_of h]
    · have u := (hu x hx).resolve_left h
      cases k with
      | zero => omega
      | succ k => rw [ups_step h, ups_step h]; rw [upsW hl hu k (p x) (hl x hx) (by omega)]
theorem ups_memW (hl : ∀ x, x < n → p x < n) (hu : ∀ x, x < n → p x = x ∨ ρ (p x) < ρ x) : ∀ (k x : Nat), x < n → ∀ v ∈ ups p k x, v < n ∧ p v ≠ v ∧ ρ v ≤ ρ x
  | 0, x, hx, v, hv => by cases hv
  | k + 1, x, hx, v, hv => by
    by_cases h : p x = x
    · rw [ups_of h] at hv; cases hv
    · have u := (hu x hx).resolve_left h
      rw [ups_step h] at hv
      rcases List.mem_cons.mp hv with e | e
      · subst e; exact ⟨hx, h, Nat.le_refl _⟩
      · have z := ups_memW hl hu k (p x) (hl x hx) v e
        exact ⟨z.1, z.2.1, by omega⟩
theorem ups_nodupW (hl : ∀ x, x < n → p x < n) (hu : ∀ x, x < n → p x = x ∨ ρ (p x) < ρ x) : ∀ (k x : Nat), x < n → (ups p k x).Nodup
  | 0, x, hx => List.nodup_nil
  | k + 1, x, hx => by
    by_cases h : p x = x
    · rw [ups_of h]; exact List.nodup_nil
    · have u := (hu x hx).resolve_left h
      rw [ups_step h]
      refine List.nodup_cons.mpr ⟨fun hm => ?_, ups_nodupW hl hu k (p x) (hl x hx)⟩
      have := (ups_memW hl hu k (p x) (hl x hx) x hm).2.2
      omega
theorem nodup_len {l : List Nat} (nd : l.Nodup) (h : ∀ v ∈ l, v < n) {w : Nat} (hw : w < n) (ho : w ∉ l) : l.length < n := by
  have P : (w :: l).Perm ((List.range n).filter fun v => (w :: l).contains v) := by
    refine (List.perm_ext_iff_of_nodup (List.nodup_cons.mpr ⟨ho, nd⟩) (List.Nodup.sublist List.filter_sublist List.nodup_range)).mpr fun v => ?_
    rw [List.mem_filter, List.mem_range, List.contains_iff_mem]
    refine ⟨fun z => ⟨?_, z⟩, fun z => z.2⟩
    rcases List.mem_cons.mp z with y | y
    · rw [y]; exact hw
    · exact h v y
  have e := P.length_eq
  rw [List.length_cons] at e
  have := List.length_filter_le (fun v => (w :: l).contains v) (List.range n)
  rw [List.length_range] at this
  omega
/-- any falling measure makes a forest -/
theorem fo_of_weak (hl : ∀ x, x < n → p x < n) (hu : ∀ x, x < n → p x = x ∨ ρ (p x) < ρ x) : ∃ r, Fo n p r := by
  obtain ⟨M, hM⟩ := bounded ρ n
  have st : ∀ x, x < n → p x ≠ x → ups p M x = x :: ups p M (p x) := fun x hx h => by
    rw [← upsW hl hu M x hx (hM x hx), ups_step h]
  refine ⟨fun v => (ups p M v).length, hl, fun x hx => ?_, fun x hx => ?_⟩
  · by_cases h : p x = x
    · exact .inl h
    · refine .inr ?_
      show (ups p M (p x)).length < (ups p M x).length
      rw [st x hx h, List.length_cons]; omega
  · -- some root is not on the way
    have : ∀ k x, x < n → ρ x ≤ k → p (root p k x) = root p k x ∧ root p k x < n := by
      intro k
      induction k with
      | zero =>
        intro x hx hr
        rcases hu x hx with z | z
        · exact ⟨z, hx⟩
        · omega
      | succ k ih =>
        intro x hx hr
        by_cases h : p x = x
        · rw [root_of h]; exact ⟨h, hx⟩
        · rw [root_step h]
          exact ih (p x) (hl x hx) (by have := (hu x hx).resolve_left h; omega)
    obtain ⟨h1, h2⟩ := this M x hx (hM x hx)
    exact nodup_len (ups_nodupW hl hu M x hx) (fun v hv => (ups_memW hl hu M x hx v hv).1) h2 (fun hm => (ups_memW hl hu M x hx _ hm).2.1 h1)
end
/-- a node hung on one that is not below it -/
theorem exchange_fo {n : Nat} {p r : Nat → Nat} (F : Fo n p r) {a b : Nat} (ha : a < n) (hb : b < n) (hr : p a ≠ a) (hn : a ∉ path p n b) : ∃ r', Fo n (fun v => if v = a then b else p v) r' := by
  -- below a, and a itself, go beyond b
  let low : Nat → Bool := fun v => decide (a ∈ path p n v)
  have lowa : low a = true := decide_eq_true (by unfold path; exact List.mem_append_left _ (self_ups F ha hr))
  have lowb : low b = false := decide_eq_false hn
  have pathn : ∀ v, v < n → p v ≠ v → path p n v = v :: path p n (p v) := fun v hv h => by
    unfold path; rw [ups_n F hv h, root_n F hv h]; rfl
  have step : ∀ v, v < n → v ≠ a → p v ≠ v → low (p v) = low v := fun v hv ne h => by
    show decide (a ∈ path p n (p v)) = decide (a ∈ path p n v)
    rw [pathn v hv h]
    refine decide_eq_decide.mpr ⟨fun z => List.mem_cons_of_mem _ z, fun z => ?_⟩
    rcases List.mem_cons.mp z with y | y
    · exact absurd y.symm ne
    · exact y
  refine fo_of_weak (ρ := fun v => if low v = true then r v + n else r v) (fun x hx => ?_) (fun x hx => ?_)
  · show (if x = a then b else p x) < n
    split
    · exact hb
    · exact F.lt x hx
  · by_cases e : x = a
    · subst e
      refine .inr ?_
      show (if low (if x = x then b else p x) = true then r (if x = x then b else p x) + n else r (if x = x then b else p x)) < (if low x = true then r x + n else r x)
      rw [if_pos rfl, lowb, lowa, if_pos rfl, if_neg (by decide)]
      have := F.rb b hb
      omega
    · show (if x = a then b else p x) = x ∨ (if low (if x = a then b else p x) = true then r (if x = a then b else p x) + n else r (if x = a then b else p x)) < (if low x = true then r x + n else r x)
      rw [if_neg e]
      by_cases h : p x = x
      · exact .inl h
      · have u := (F.up x hx).resolve_left h
        refine .inr ?_
        rw [step x hx e h]
        cases low x <;> simp <;> omega
theorem exchange_root {n : Nat} {p : Nat → Nat} {a b : Nat} (hr : p a ≠ a) (ne : b ≠ a) (v : Nat) : (if v = a then b else p v) = v ↔ p v = v := by
  by_cases e : v = a
  · subst e
    rw [if_pos rfl]
    exact ⟨fun z => absurd z ne, fun z => absurd z hr⟩
  · rw [if_neg e]
end Ff

/-! Falling products and choices. -/
namespace Ff
def fallN (s : Int) : Nat → Int
  | 0 => 1
  | k + 1 => fallN s k * (if s - (k : Int) > 0 then s - (k : Int) else 0)
def fall (s c : Int) : Int := if c < 0 then 0 else fallN s c.toNat
def binom (s c : Int) : Int := if c < 0 then 0 else fall s c / fall c c
def choose : Nat → Nat → Nat
  | _, 0 => 1
  | 0, _ + 1 => 0
  | n + 1, k + 1 => choose n k + choose n (k + 1)
def fact : Nat → Nat
  | 0 => 1
  | k + 1 => (k + 1) * fact k
theorem fact_pos : ∀ k, 0 < fact k
  | 0 => Nat.one_pos
  | k + 1 => Nat.mul_pos (Nat.succ_pos k) (fact_pos k)
theorem choose_zero (n : Nat) : choose n 0 = 1 := by cases n <;> rfl
/-- (n + 1 choose k + 1) (k + 1) = (n + 1) (n choose k) -/
theorem choose_succ : ∀ n k, choose (n + 1) (k + 1) * (k + 1) = (n + 1) * choose n k
  | 0, 0 => rfl
  | 0, k + 1 => by show (0 + 0) * (k + 1 + 1) = (0 + 1) * 0; simp
  | n + 1, 0 => by
    have h := choose_succ n 0
    rw [choose_zero] at h
    rw [choose_zero]
    show (choose (n + 1) 0 + choose (n + 1) (0 + 1)) * (0 + 1) = (n + 1 + 1) * 1
    rw [choose_zero]
    omega
  | n + 1, k + 1 => by
    have h1 := choose_succ n k
    have h2 := choose_succ n (k + 1)
    show (choose (n + 1) (k + 1) + choose (n + 1) (k + 1 + 1)) * (k + 1 + 1) = (n + 1 + 1) * choose (n + 1) (k + 1)
    have e : choose (n + 1) (k + 1) = choose n k + choose n (k + 1) := rfl
    have e1 : choose (n + 1) (k + 1) * (k + 1 + 1) = (n + 1) * choose n k + choose (n + 1) (k + 1) := by rw [Nat.mul_add, Nat.mul_one, h1]
    have e2 : (n + 1 + 1) * choose (n + 1) (k + 1) = ((n + 1) * choose n k + (n + 1) * choose n (k + 1)) + choose (n + 1) (k + 1) := by rw [Nat.add_mul, Nat.one_mul, e, Nat.mul_add]
    rw [Nat.add_mul, h2, e1, e2]
    generalize (n + 1) * choose n k = x
    generalize (n + 1) * choose n (k + 1) = y
    omega
theorem fall_rec (n : Nat) : ∀ k : Nat, fallN ((n + 1 : Nat) : Int) (k + 1) = ((n + 1 : Nat) : Int) * fallN (n : Int) k
  | 0 => by
    show 1 * (if ((n + 1 : Nat) : Int) - ((0 : Nat) : Int) > 0 then ((n + 1 : Nat) : Int) - ((0 : Nat) : Int) else 0) = ((n + 1 : Nat) : Int) * 1
    rw [if_pos (by omega)]; omega
  | k + 1 => by
    show fallN ((n + 1 : Nat) : Int) (k + 1) * (if ((n + 1 : Nat) : Int) - ((k + 1 : Nat) : Int) > 0 then ((n + 1 : Nat) : Int) - ((k + 1 : Nat) : Int) else 0) = ((n + 1 : Nat) : Int) * (fallN (n : Int) k * (if (n : Int) - (k : Int) > 0 then (n : Int) - (k : Int) else 0))
    rw [fall_rec n k, Int.mul_assoc]
    congr 2
    rw [show ((n + 1 : Nat) : Int) - ((k + 1 : Nat) : Int) = (n : Int) - (k : Int) by omega]
theorem fall_choose : ∀ k n : Nat, fallN (n : Int) k = ((choose n k * fact k : Nat) : Int)
  | 0, n => by show (1 : Int) = ((choose n 0 * fact 0 : Nat) : Int); cases n <;> rfl
  | k + 1, 0 => by
    show fallN 0 k * (if ((0 : Nat) : Int) - (k : Int) > 0 then ((0 : Nat) : Int) - (k : Int) else 0) = ((0 * fact (k + 1) : Nat) : Int)
    rw [if_neg (by omega), Int.mul_zero, Nat.zero_mul]; rfl
  | k + 1, n + 1 => by
    rw [fall_rec, fall_choose k n]
    have h := choose_succ n k
    show ((n + 1 : Nat) : Int) * ((choose n k * fact k : Nat) : Int) = ((choose (n + 1) (k + 1) * ((k + 1) * fact k) : Nat) : Int)
    rw [← Int.natCast_mul, ← Nat.mul_assoc, ← Nat.mul_assoc, h]
theorem choose_self : ∀ n, choose n n = 1 ∧ ∀ k, n < k → choose n k = 0
  | 0 => ⟨rfl, fun k h => by cases k with | zero => omega | succ k => rfl⟩
  | n + 1 => by
    have ih := choose_self n
    refine ⟨?_, fun k h => ?_⟩
    · show choose n n + choose n (n + 1) = 1
      rw [ih.1, ih.2 (n + 1) (by omega)]
    · cases k with
      | zero => omega
      | succ k => show choose n k + choose n (k + 1) = 0; rw [ih.2 k (by omega), ih.2 (k + 1) (by omega)]
theorem binom_nat (n k : Nat) : binom (n : Int) (k : Int) = (choose n k : Int) := by
  unfold binom fall
  rw [if_neg (by omega), if_neg (by omega), if_neg (by omega), Int.toNat_natCast, fall_choose, fall_choose, (choose_self k).1, Nat.one_mul, Int.natCast_mul]
  exact Int.mul_ediv_cancel _ (by have := fact_pos k; omega)
/-- sums of neighbours -/
theorem pascal (s c : Int) (h : 0 < s) : binom s c = binom (s - 1) (c - 1) + binom (s - 1) c := by
  obtain ⟨n, rfl⟩ : ∃ n : Nat, s = ((n + 1 : Nat) : Int) := ⟨(s - 1).toNat, by omega⟩
  rw [show ((n + 1 : Nat) : Int) - 1 = (n : Int) by omega]
  by_cases hc : c < 0
  · unfold binom
    rw [if_pos hc, if_pos (by omega), if_pos hc]; rfl
  · by_cases h0 : c = 0
    · subst h0
      have e1 := binom_nat (n + 1) 0
      have e2 := binom_nat n 0
      have e3 : binom (n : Int) (0 - 1) = 0 := by unfold binom; rw [if_pos (by omega)]
      rw [e3]
      rw [choose_zero] at e1 e2
      show binom ((n + 1 : Nat) : Int) ((0 : Nat) : Int) = 0 + binom (n : Int) ((0 : Nat) : Int)
      rw [e1, e2]; rfl
    · obtain ⟨k, rfl⟩ : ∃ k : Nat, c = ((k + 1 : Nat) : Int) := ⟨(c - 1).toNat, by omega⟩
      rw [show ((k + 1 : Nat) : Int) - 1 = (k : Int) by omega, binom_nat, binom_nat, binom_nat]
      show ((choose n k + choose n (k + 1) : Nat) : Int) = _
      omega
end Ff

namespace Ff
theorem nodup_le : ∀ (m : Nat) (l : List Nat), l.Nodup → (∀ x ∈ l, x < m) → l.length ≤ m
  | 0, l, _, h => by
    cases l with
    | nil => exact Nat.le_refl _
    | cons a r => exact absurd (h a List.mem_cons_self) (by omega)
  | m + 1, l, hn, h => by
    have ih := nodup_le m (l.erase m) (hn.erase m) fun x hx => by
      have z := (hn.mem_erase_iff (a := x) (b := m)).mp hx
      have := h x z.2
      omega
    have e := List.length_erase (a := m) (l := l)
    split at e <;> omega
/-- the root c hung on a -/
def lnk (p : Nat → Nat) (c a : Nat) : Nat → Nat := fun v => if v = c then a else p v
section
variable {n : Nat} {p r : Nat → Nat}
def lnkR (n : Nat) (p : Nat → Nat) (c : Nat) : Nat → Nat := fun x => (ups p n x).length + if root p n x = c then 1 else 0
theorem lnk_fo (F : Fo n p r) {c a : Nat} (hc : c < n) (ha : a < n) (pc : p c = c) (pa : p a = a) (ne : c ≠ a) : Fo n (lnk p c a) (lnkR n p c) where
  lt := fun x hx => by
    unfold lnk
    split
    · exact ha
    · exact F.lt x hx
  up := fun x hx => by
    unfold lnk
    by_cases e : x = c
    · rw [if_pos e]
      right
      unfold lnkR
      rw [e, ups_of pa, ups_of pc, root_of pa, root_of pc, if_neg (Ne.symm ne), if_pos rfl]
      decide
    · rw [if_neg e]
      by_cases h : p x = x
      · exact .inl h
      · right
        unfold lnkR
        rw [ups_n F hx h, root_n F hx h, List.length_cons]
        omega
  rb := fun x hx => by
    unfold lnkR
    have h1 := ups_lt F x hx
    have h2 := ups_nodup F x hx
    by_cases e : root p n x = c
    · rw [if_pos e]
      have h := nodup_le n (ups p n x ++ [c, a]) (by
        refine List.nodup_append.mpr ⟨h2, by simp [ne], fun y hy z hz e2 => ?_⟩
        have := (h1 y hy).2.1
        rw [e2] at this
        rcases List.mem_cons.mp hz with z1 | z1
        · rw [z1] at this; exact this pc
        · rw [List.mem_singleton.mp z1] at this; exact this pa) fun y hy => by
        rcases List.mem_append.mp hy with z | z
        · exact (h1 y z).1
        · rcases List.mem_cons.mp z with z1 | z1
          · rw [z1]; exact hc
          · rw [List.mem_singleton.mp z1]; exact ha
      rw [List.length_append] at h
      simp at h
      omega
    · rw [if_neg e]
      have := ups_len F x hx
      have := F.rb x hx
      omega
theorem lnk_root (F : Fo n p r) {c a : Nat} (hc : c < n) (ha : a < n) (pc : p c = c) (pa : p a = a) (ne : c ≠ a) : ∀ x, x < n → root (lnk p c a) n x = if root p n x = c then a else root p n x := by
  have F2 := lnk_fo F hc ha pc pa ne
  have qa : lnk p c a a = a := by unfold lnk; rw [if_neg (Ne.symm ne)]; exact pa
  refine F.ind (fun x hx h => ?_) (fun x hx h ih => ?_)
  · rw [root_of h]
    by_cases e : x = c
    · have qx : lnk p c a x = a := by unfold lnk; rw [if_pos e]
      rw [if_pos e, root_n F2 hx (by rw [qx, e]; exact Ne.symm ne), qx, root_of qa]
    · rw [if_neg e]
      exact root_of (by unfold lnk; rw [if_neg e]; exact h) n
  · have e : x ≠ c := fun z => h (by rw [z]; exact pc)
    have qx : lnk p c a x = p x := by unfold lnk; rw [if_neg e]
    rw [root_n F2 hx (by rw [qx]; exact h), qx, ih, root_n F hx h]
end
/-- which error a root asks for -/
def chkE (n : Nat) (p : Nat → Nat) (x : Int) : Option Bool := if 0 ≤ x ∧ x < (n : Int) then (if p x.toNat = x.toNat then none else some true) else some false
end Ff

namespace Ff
/-- the first of a filter -/
theorem filt_first {n i : Nat} {g : Nat → Bool} (hi : i < n) (h0 : ∀ v, v < i → g v = false) (h1 : g i = true) : ∃ rest, (List.range n).filter g = i :: rest := by
  obtain ⟨k, rfl⟩ : ∃ k, n = i + 1 + k := ⟨n - (i + 1), by omega⟩
  have e : (List.range (i + 1 + k)).filter g = (List.range (i + 1)).filter g ++ ((List.range k).map (i + 1 + ·)).filter g := by
    rw [List.range_add, List.filter_append]
  have e2 : (List.range (i + 1)).filter g = [i] := by
    rw [List.range_succ, List.filter_append]
    have : (List.range i).filter g = [] := List.filter_eq_nil_iff.mpr fun v hv => by rw [h0 v (List.mem_range.mp hv)]; simp
    rw [this]
    simp [List.filter, h1]
  rw [e, e2]
  exact ⟨_, rfl⟩
theorem filt_none {n : Nat} {g : Nat → Bool} (h : ∀ v, v < n → g v = false) : (List.range n).filter g = [] := List.filter_eq_nil_iff.mpr fun v hv => by rw [h v (List.mem_range.mp hv)]; simp
section
variable {n : Nat} {p : Nat → Nat}
def fixB (p : Nat → Nat) (y : Nat) : Bool := decide (p y = y)
theorem root_stay {k x : Nat} (h : p (root p k x) = root p k x) : ∀ j, root p (k + j) x = root p k x
  | 0 => rfl
  | j + 1 => by rw [Nat.add_succ, root_succ, root_stay h j]; exact h
theorem root_add (x : Nat) (i : Nat) : ∀ j, root p (i + j) x = root p j (root p i x)
  | 0 => rfl
  | j + 1 => by rw [Nat.add_succ, root_succ, root_succ, root_add x i j]
/-- what is fixed after n steps is fixed before -/
theorem fix_before (hl : ∀ v, v < n → p v < n) {x : Nat} (hx : x < n) (h : p (root p n x) = root p n x) : ∃ j, j < n ∧ p (root p j x) = root p j x := by
  -- two of n + 1 places are one node
  have pig : ∃ i j, i < j ∧ j ≤ n ∧ root p i x = root p j x := by
    refine Classical.byContradiction fun no => ?_
    have nd : ((List.range (n + 1)).map fun k => root p k x).Nodup := by
      unfold List.Nodup
      rw [List.pairwise_map]
      refine List.Pairwise.imp_of_mem (fun {a b} ha hb lt e => no ⟨a, b, lt, by have := List.mem_range.mp hb; omega, e⟩) (List.pairwise_lt_range)
    have := nodup_le n _ nd fun y hy => by
      obtain ⟨k, _, rfl⟩ := List.mem_map.mp hy
      exact root_lt0 hl k x hx
    rw [List.length_map, List.length_range] at this
    omega
  obtain ⟨i, j, hij, hj, e⟩ := pig
  refine ⟨i, by omega, ?_⟩
  have per : ∀ t, root p (i + t * (j - i)) x = root p i x := fun t => by
    induction t with
    | zero => simp
    | succ t ih =>
      have e1 : i + (t + 1) * (j - i) = (i + t * (j - i)) + (j - i) := by rw [Nat.succ_mul]; omega
      rw [e1, root_add, ih, ← root_add, show i + (j - i) = j by omega, e]
  have big : n ≤ i + n * (j - i) := by
    have : n * 1 ≤ n * (j - i) := Nat.mul_le_mul_left n (by omega)
    omega
  obtain ⟨m, hm⟩ : ∃ m, i + n * (j - i) = n + m := ⟨i + n * (j - i) - n, by omega⟩
  have z := per n
  rw [hm, root_stay h m] at z
  rw [← z]; exact h
end
/-- a row of integers as parents -/
def par (xs : List Int) : Nat → Nat := fun v => (xs.getD v 0).toNat
def wideB (xs : List Int) (v : Nat) : Bool := !(decide (0 ≤ xs.getD v 0) && decide (xs.getD v 0 < (xs.length : Int)))
def wideL (xs : List Int) : List Nat := (List.range xs.length).filter (wideB xs)
def ringB (n : Nat) (p : Nat → Nat) (v : Nat) : Bool := !decide (p (root p n v) = root p n v)
def ringsL (xs : List Int) : List Nat := (List.range xs.length).filter (ringB xs.length (par xs))
/-- 0: none; 1: TooManyNodes; 2: BadParent; 3: Cycle -/
inductive Ver
  | ok
  | many
  | bad (v : Nat)
  | cyc (v : Nat)
def verdict (xs : List Int) : Ver := if 40 < xs.length then .many else match wideL xs with
  | v :: _ => .bad v
  | [] => match ringsL xs with
    | v :: _ => .cyc v
    | [] => .ok
theorem wide_iff {xs : List Int} {v : Nat} : wideB xs v = false ↔ 0 ≤ xs.getD v 0 ∧ xs.getD v 0 < (xs.length : Int) := by
  unfold wideB
  rw [Bool.not_eq_false', Bool.and_eq_true, decide_eq_true_iff, decide_eq_true_iff]
theorem par_lt {xs : List Int} (h : ∀ v, v < xs.length → wideB xs v = false) : ∀ v, v < xs.length → par xs v < xs.length := fun v hv => by
  have := wide_iff.mp (h v hv)
  unfold par
  omega
end Ff

namespace Ff
theorem ups_fix (p : Nat → Nat) : ∀ (j k x : Nat), j ≤ k → p (root p j x) = root p j x → ups p k x = ups p j x ∧ (ups p j x).length ≤ j
  | 0, k, x, _, h => by
    have h' : p x = x := h
    refine ⟨?_, Nat.le_refl _⟩
    cases k with
    | zero => rfl
    | succ k =>
      show (if p x = x then [] else x :: ups p k (p x)) = []
      rw [if_pos h']
  | j + 1, 0, x, hk, _ => by omega
  | j + 1, k + 1, x, hk, h => by
    by_cases e : p x = x
    · have a : ups p (k + 1) x = [] := by
        show (if p x = x then [] else x :: ups p k (p x)) = []
        rw [if_pos e]
      have b : ups p (j + 1) x = [] := by
        show (if p x = x then [] else x :: ups p j (p x)) = []
        rw [if_pos e]
      rw [a, b]
      exact ⟨rfl, Nat.zero_le _⟩
    · have a : ups p (k + 1) x = x :: ups p k (p x) := by
        show (if p x = x then [] else x :: ups p k (p x)) = _
        rw [if_neg e]
      have b : ups p (j + 1) x = x :: ups p j (p x) := by
        show (if p x = x then [] else x :: ups p j (p x)) = _
        rw [if_neg e]
      have c : root p (j + 1) x = root p j (p x) := by
        show (if p x = x then x else root p j (p x)) = _
        rw [if_neg e]
      rw [c] at h
      obtain ⟨i1, i2⟩ := ups_fix p j k (p x) (by omega) h
      rw [a, b, i1]
      exact ⟨rfl, by rw [List.length_cons]; omega⟩
/-- a row without a ring is a forest -/
theorem fo_of {n : Nat} {p : Nat → Nat} (hl : ∀ v, v < n → p v < n) (hr : ∀ v, v < n → p (root p n v) = root p n v) : Fo n p (fun v => (ups p n v).length) := by
  refine ⟨hl, fun x hx => ?_, fun x hx => ?_⟩
  · by_cases e : p x = x
    · exact .inl e
    · refine .inr ?_
      obtain ⟨j, hj, h⟩ := fix_before hl hx (hr x hx)
      cases j with
      | zero => exact absurd h e
      | succ j =>
        have c : root p (j + 1) x = root p j (p x) := by
          show (if p x = x then x else root p j (p x)) = _
          rw [if_neg e]
        rw [c] at h
        obtain ⟨m, rfl⟩ : ∃ m, n = m + 1 := ⟨n - 1, by omega⟩
        have a : ups p (m + 1) x = x :: ups p m (p x) := by
          show (if p x = x then [] else x :: ups p m (p x)) = _
          rw [if_neg e]
        have b1 := (ups_fix p j m (p x) (by omega) h).1
        have b2 := (ups_fix p j (m + 1) (p x) (by omega) h).1
        show (ups p (m + 1) (p x)).length < (ups p (m + 1) x).length
        rw [a, b2, b1, List.length_cons]
        omega
  · obtain ⟨j, hj, h⟩ := fix_before hl hx (hr x hx)
    obtain ⟨b1, b2⟩ := ups_fix p j n x (by omega) h
    show (ups p n x).length < n
    rw [b1]
    omega
theorem ver_ok {xs : List Int} : verdict xs = .ok ↔ xs.length ≤ 40 ∧ (∀ v, v < xs.length → wideB xs v = false) ∧ ∀ v, v < xs.length → ringB xs.length (par xs) v = false := by
  unfold verdict
  by_cases h : 40 < xs.length
  · rw [if_pos h]
    constructor
    · intro z; cases z
    · intro z; omega
  · rw [if_neg h]
    constructor
    · intro z
      refine ⟨by omega, ?_, ?_⟩
      · cases e : wideL xs with
        | cons v r => rw [e] at z; cases z
        | nil =>
          intro v hv
          have := List.filter_eq_nil_iff.mp e v (List.mem_range.mpr hv)
          simpa using this
      · cases e : wideL xs with
        | cons v r => rw [e] at z; cases z
        | nil =>
          rw [e] at z
          cases e2 : ringsL xs with
          | cons v r => rw [e2] at z; cases z
          | nil =>
            intro v hv
            have := List.filter_eq_nil_iff.mp e2 v (List.mem_range.mpr hv)
            simpa using this
    · rintro ⟨_, h1, h2⟩
      have e1 : wideL xs = [] := filt_none h1
      have e2 : ringsL xs = [] := filt_none h2
      rw [e1, e2]
end Ff

/-! Histories: finds, links and rounds. -/
namespace Ff
inductive Stp : Type
  | fnd (z : Int)
  | lnk (c a : Int)
  | rnd (k : Int) (kd : Bool) (ss : List Stp)
mutual
def nest : Stp → Nat
  | .fnd _ => 0
  | .lnk _ _ => 0
  | .rnd _ _ ss => nests ss + 1
def nests : List Stp → Nat
  | [] => 0
  | s :: r => max (nest s) (nests r)
end
mutual
/-- the number of finds -/
def nFnd : Stp → Int
  | .fnd _ => 1
  | .lnk _ _ => 0
  | .rnd k _ ss => k * nFnds ss
def nFnds : List Stp → Int
  | [] => 0
  | s :: r => nFnd s + nFnds r
end
mutual
/-- the number of written steps -/
def nWr : Stp → Nat
  | .fnd _ => 1
  | .lnk _ _ => 1
  | .rnd _ _ ss => 1 + nWrs ss
def nWrs : List Stp → Nat
  | [] => 0
  | s :: r => nWr s + nWrs r
end
def lim30 : Int := 10 ^ 30
mutual
/-- a step of a history; links where they are allowed -/
def Wf (top : Bool) : Stp → Prop
  | .fnd _ => True
  | .lnk _ _ => top = true
  | .rnd k _ ss => 0 ≤ k ∧ k ≤ lim30 ∧ Wfs false ss
def Wfs (top : Bool) : List Stp → Prop
  | [] => True
  | s :: r => Wf top s ∧ Wfs top r
end
theorem nests_mem : ∀ {l : List Stp} {s : Stp}, s ∈ l → nest s ≤ nests l
  | x :: l, s, h => by
    rw [nests]
    rcases List.mem_cons.mp h with e | h
    · rw [e]; omega
    · have := nests_mem h; omega
theorem wfs_mem {top : Bool} : ∀ {l : List Stp} {s : Stp}, Wfs top l → s ∈ l → Wf top s
  | x :: l, s, w, h => by
    rw [Wfs] at w
    rcases List.mem_cons.mp h with e | h
    · rw [e]; exact w.1
    · exact wfs_mem w.2 h
theorem wfs_of {top : Bool} : ∀ {l : List Stp}, (∀ s ∈ l, Wf top s) → Wfs top l
  | [], _ => by rw [Wfs]; trivial
  | x :: l, h => by
    rw [Wfs]
    exact ⟨h x List.mem_cons_self, wfs_of fun s hs => h s (List.mem_cons_of_mem _ hs)⟩
theorem nests_le {m : Nat} : ∀ {l : List Stp}, (∀ s ∈ l, nest s ≤ m) → nests l ≤ m
  | [], _ => by rw [nests]; omega
  | x :: l, h => by
    rw [nests]
    have h1 := h x List.mem_cons_self
    have h2 := nests_le fun s hs => h s (List.mem_cons_of_mem _ hs)
    omega
theorem nFnds_app : ∀ l m : List Stp, nFnds (l ++ m) = nFnds l + nFnds m
  | [], m => by rw [List.nil_append, nFnds]; omega
  | x :: l, m => by rw [List.cons_append, nFnds, nFnds, nFnds_app l m]; omega
theorem nWrs_app : ∀ l m : List Stp, nWrs (l ++ m) = nWrs l + nWrs m
  | [], m => by rw [List.nil_append, nWrs]; omega
  | x :: l, m => by rw [List.cons_append, nWrs, nWrs, nWrs_app l m]; omega
theorem take_snoc {α : Type} {l : List α} {i : Nat} {x : α} (h : l[i]? = some x) : l.take (i + 1) = l.take i ++ [x] := by
  rw [List.take_succ, h]; rfl
theorem nFnds_take {l : List Stp} {i : Nat} {s : Stp} (h : l[i]? = some s) : nFnds (l.take (i + 1)) = nFnds (l.take i) + nFnd s := by
  rw [take_snoc h, nFnds_app, nFnds, nFnds]; omega
theorem nWrs_take {l : List Stp} {i : Nat} {s : Stp} (h : l[i]? = some s) : nWrs (l.take (i + 1)) = nWrs (l.take i) + nWr s := by
  rw [take_snoc h, nWrs_app, nWrs, nWrs]; omega
mutual
theorem nFnd_nonneg {top : Bool} : ∀ s : Stp, Wf top s → 0 ≤ nFnd s
  | .fnd _, _ => by rw [nFnd]; decide
  | .lnk _ _, _ => by rw [nFnd]; decide
  | .rnd k _ ss, w => by
    rw [Wf] at w
    rw [nFnd]
    exact Int.mul_nonneg w.1 (nFnds_nonneg ss w.2.2)
theorem nFnds_nonneg {top : Bool} : ∀ l : List Stp, Wfs top l → 0 ≤ nFnds l
  | [], _ => by rw [nFnds]; decide
  | s :: r, w => by
    rw [Wfs] at w
    rw [nFnds]
    have h1 := nFnd_nonneg s w.1
    have h2 := nFnds_nonneg r w.2
    omega
end
/-- bounds of the number of finds, by the number of written steps and the nesting -/
theorem lim_pos : 1 ≤ lim30 := by decide
theorem pow_mono {a b : Nat} (h : a ≤ b) : lim30 ^ a ≤ lim30 ^ b := by
  obtain ⟨c, rfl⟩ : ∃ c, b = a + c := ⟨b - a, by omega⟩
  induction c with
  | zero => exact Int.le_refl _
  | succ c ih =>
    have := ih (by omega)
    rw [← Nat.add_assoc, Int.pow_succ]
    have h0 : (0 : Int) ≤ lim30 ^ (a + c) := Int.pow_nonneg (by have := lim_pos; omega)
    have : lim30 ^ (a + c) * 1 ≤ lim30 ^ (a + c) * lim30 := Int.mul_le_mul_of_nonneg_left lim_pos h0
    omega
mutual
theorem nFnd_le {top : Bool} : ∀ s : Stp, Wf top s → nFnd s ≤ (nWr s : Int) * lim30 ^ nest s
  | .fnd _, _ => by rw [nFnd, nWr, nest]; decide
  | .lnk _ _, _ => by rw [nFnd, nWr, nest]; decide
  | .rnd k _ ss, w => by
    rw [Wf] at w
    rw [nFnd, nWr, nest]
    have h1 := nFnds_le ss w.2.2
    have h0 := nFnds_nonneg ss w.2.2
    have hp : (0 : Int) ≤ lim30 ^ nests ss := Int.pow_nonneg (by have := lim_pos; omega)
    have h2 : k * nFnds ss ≤ lim30 * ((nWrs ss : Int) * lim30 ^ nests ss) := Int.mul_le_mul w.2.1 h1 h0 (by have := lim_pos; omega)
    have h3 : lim30 * ((nWrs ss : Int) * lim30 ^ nests ss) = (nWrs ss : Int) * lim30 ^ (nests ss + 1) := by
      rw [Int.pow_succ, ← Int.mul_assoc, ← Int.mul_assoc, Int.mul_comm lim30, Int.mul_assoc, Int.mul_assoc, Int.mul_comm lim30]
    have h4 : (nWrs ss : Int) * lim30 ^ (nests ss + 1) ≤ ((1 + nWrs ss : Nat) : Int) * lim30 ^ (nests ss + 1) := Int.mul_le_mul_of_nonneg_right (by omega) (Int.pow_nonneg (by have := lim_pos; omega))
    omega
theorem nFnds_le {top : Bool} : ∀ l : List Stp, Wfs top l → nFnds l ≤ (nWrs l : Int) * lim30 ^ nests l
  | [], _ => by rw [nFnds, nWrs, nests]; decide
  | s :: r, w => by
    rw [Wfs] at w
    rw [nFnds, nWrs, nests]
    have h1 := nFnd_le s w.1
    have h2 := nFnds_le r w.2
    have m1 : lim30 ^ nest s ≤ lim30 ^ (max (nest s) (nests r)) := pow_mono (by omega)
    have m2 : lim30 ^ nests r ≤ lim30 ^ (max (nest s) (nests r)) := pow_mono (by omega)
    have g1 : (nWr s : Int) * lim30 ^ nest s ≤ (nWr s : Int) * lim30 ^ (max (nest s) (nests r)) := Int.mul_le_mul_of_nonneg_left m1 (by omega)
    have g2 : (nWrs r : Int) * lim30 ^ nests r ≤ (nWrs r : Int) * lim30 ^ (max (nest s) (nests r)) := Int.mul_le_mul_of_nonneg_left m2 (by omega)
    have g3 : ((nWr s + nWrs r : Nat) : Int) * lim30 ^ (max (nest s) (nests r)) = (nWr s : Int) * lim30 ^ (max (nest s) (nests r)) + (nWrs r : Int) * lim30 ^ (max (nest s) (nests r)) := by
      rw [Int.natCast_add, Int.add_mul]
    omega
end
end Ff

/-! What a history does. -/
namespace Ff
inductive Er : Type
  | no (z : Int)
  | nr (z : Int)
  | sr (z : Int)
inductive Rs (α : Type) : Type
  | ok (a : α)
  | er (e : Er)
def linkR (n : Nat) (p : Nat → Nat) (c a : Int) : Rs (Nat → Nat) :=
  match chkE n p c with
  | some false => .er (.no c)
  | some true => .er (.nr c)
  | none => match chkE n p a with
    | some false => .er (.no a)
    | some true => .er (.nr a)
    | none => if c = a then .er (.sr c) else .ok (lnk p c.toNat a.toNat)
mutual
/-- the number of finds of nodes that are no roots -/
def low1 (p : Nat → Nat) : Stp → Int
  | .fnd z => if p z.toNat = z.toNat then 0 else 1
  | .lnk _ _ => 0
  | .rnd k _ ss => if 0 < k then k * lows p ss else 0
def lows (p : Nat → Nat) : List Stp → Int
  | [] => 0
  | s :: r => low1 p s + lows p r
end
/-- one after another -/
def Rs.seq {X : Type} (a : Rs (X × Int)) (f : X → Rs (X × Int)) : Rs (X × Int) := match a with
  | .er e => .er e
  | .ok (q, c) => match f q with
    | .er e => .er e
    | .ok (q2, c2) => .ok (q2, c + c2)
theorem seq_er {X : Type} {e : Er} {f : X → Rs (X × Int)} : (Rs.er e : Rs (X × Int)).seq f = .er e := rfl
theorem seq_one {X : Type} (a : Rs (X × Int)) : a.seq (fun q => .ok (q, 0)) = a := by
  cases a with
  | er e => rfl
  | ok a =>
    obtain ⟨q, c⟩ := a
    show Rs.ok (q, c + 0) = Rs.ok (q, c)
    rw [Int.add_zero]
theorem one_seq {X : Type} (p : X) (f : X → Rs (X × Int)) : (Rs.ok (p, 0)).seq f = f p := by
  unfold Rs.seq
  cases h : f p with
  | er e => simp [h]
  | ok a =>
    obtain ⟨q, c⟩ := a
    simp [h]
theorem seq_assoc {X : Type} (a : Rs (X × Int)) (f g : X → Rs (X × Int)) : (a.seq f).seq g = a.seq fun q => (f q).seq g := by
  cases a with
  | er e => rfl
  | ok a =>
    obtain ⟨q, c⟩ := a
    unfold Rs.seq
    cases h : f q with
    | er e => simp [h]
    | ok b =>
      obtain ⟨q2, c2⟩ := b
      cases h2 : g q2 with
      | er e => simp [h, h2]
      | ok d =>
        obtain ⟨q3, c3⟩ := d
        simp [h, h2, Int.add_assoc]
mutual
/-- a step at work: the forest and the cost, or an error -/
def stepR (n : Nat) : Stp → (Nat → Nat) → Rs ((Nat → Nat) × Int)
  | .fnd z, p => if 0 ≤ z ∧ z < (n : Int) then .ok (fnd n p z.toNat, ((ups p n z.toNat).length : Int)) else .er (.no z)
  | .lnk c a, p => match linkR n p c a with
    | .ok q => .ok (q, 0)
    | .er e => .er e
  | .rnd k _ ss, p => if k = 0 then .ok (p, 0) else match stepsR n ss p with
    | .ok (q, c) => .ok (q, c + (k - 1) * lows q ss)
    | .er e => .er e
def stepsR (n : Nat) : List Stp → (Nat → Nat) → Rs ((Nat → Nat) × Int)
  | [], p => .ok (p, 0)
  | s :: r, p => (stepR n s p).seq fun q => stepsR n r q
end
theorem stepsR_nil (n : Nat) (p : Nat → Nat) : stepsR n [] p = .ok (p, 0) := by rw [stepsR]
theorem stepsR_cons (n : Nat) (s : Stp) (r : List Stp) (p : Nat → Nat) : stepsR n (s :: r) p = (stepR n s p).seq (stepsR n r) := by rw [stepsR]
theorem stepsR_app (n : Nat) : ∀ (l m : List Stp) (p : Nat → Nat), stepsR n (l ++ m) p = (stepsR n l p).seq (stepsR n m)
  | [], m, p => by rw [List.nil_append, stepsR_nil, one_seq]
  | s :: l, m, p => by
    rw [List.cons_append, stepsR_cons, stepsR_cons, seq_assoc]
    congr 1
    funext q
    exact stepsR_app n l m q
theorem stepsR_snoc {n : Nat} {ss : List Stp} {p q : Nat → Nat} {c : Int} {i : Nat} {s : Stp} (hs : ss[i]? = some s) (h : stepsR n (ss.take i) p = .ok (q, c)) : stepsR n (ss.take (i + 1)) p = (Rs.ok (q, c)).seq (stepR n s) := by
  rw [take_snoc hs, stepsR_app, h]
  congr 1
  funext q'
  rw [stepsR_cons, show stepsR n [] = fun q => .ok (q, 0) from funext fun q => stepsR_nil n q, seq_one]
theorem stepsR_err {n : Nat} {ss : List Stp} {p : Nat → Nat} {i : Nat} {e : Er} (h : stepsR n (ss.take i) p = .er e) : stepsR n ss p = .er e := by
  have := stepsR_app n (ss.take i) (ss.drop i) p
  rw [List.take_append_drop, h] at this
  exact this
theorem lows_app (p : Nat → Nat) : ∀ l m : List Stp, lows p (l ++ m) = lows p l + lows p m
  | [], m => by rw [List.nil_append, lows]; omega
  | x :: l, m => by rw [List.cons_append, lows, lows, lows_app p l m]; omega
theorem lows_take {p : Nat → Nat} {l : List Stp} {i : Nat} {s : Stp} (h : l[i]? = some s) : lows p (l.take (i + 1)) = lows p (l.take i) + low1 p s := by
  rw [take_snoc h, lows_app, lows, lows]; omega
mutual
theorem low1_le {top : Bool} (p : Nat → Nat) : ∀ s : Stp, Wf top s → 0 ≤ low1 p s ∧ low1 p s ≤ nFnd s
  | .fnd z, _ => by rw [low1, nFnd]; split <;> omega
  | .lnk _ _, _ => by rw [low1, nFnd]; omega
  | .rnd k _ ss, w => by
    rw [Wf] at w
    rw [low1, nFnd]
    obtain ⟨h1, h2⟩ := lows_le p ss w.2.2
    split
    · exact ⟨Int.mul_nonneg w.1 h1, Int.mul_le_mul_of_nonneg_left h2 w.1⟩
    · exact ⟨Int.le_refl _, Int.mul_nonneg w.1 (nFnds_nonneg ss w.2.2)⟩
theorem lows_le {top : Bool} (p : Nat → Nat) : ∀ l : List Stp, Wfs top l → 0 ≤ lows p l ∧ lows p l ≤ nFnds l
  | [], _ => by rw [lows, nFnds]; omega
  | s :: r, w => by
    rw [Wfs] at w
    rw [lows, nFnds]
    have h1 := low1_le p s w.1
    have h2 := lows_le p r w.2
    omega
end
theorem linkR_fo {n : Nat} {p r : Nat → Nat} (F : Fo n p r) {c a : Int} {q : Nat → Nat} (h : linkR n p c a = .ok q) : ∃ r', Fo n q r' := by
  unfold linkR at h
  cases h1 : chkE n p c with
  | some b => rw [h1] at h; cases b <;> cases h
  | none =>
    rw [h1] at h
    cases h2 : chkE n p a with
    | some b => rw [h2] at h; cases b <;> cases h
    | none =>
      rw [h2] at h
      have h : (if c = a then Rs.er (.sr c) else .ok (lnk p c.toNat a.toNat)) = Rs.ok q := h
      by_cases e : c = a
      · rw [if_pos e] at h; cases h
      · rw [if_neg e] at h
        injection h with h
        unfold chkE at h1 h2
        by_cases hc : 0 ≤ c ∧ c < (n : Int)
        · by_cases ha : 0 ≤ a ∧ a < (n : Int)
          · rw [if_pos hc] at h1
            rw [if_pos ha] at h2
            by_cases pc : p c.toNat = c.toNat
            · by_cases pa : p a.toNat = a.toNat
              · rw [← h]
                exact ⟨_, lnk_fo F (by omega) (by omega) pc pa (by omega)⟩
              · rw [if_neg pa] at h2; cases h2
            · rw [if_neg pc] at h1; cases h1
          · rw [if_neg ha] at h2; cases h2
        · rw [if_neg hc] at h1; cases h1
mutual
theorem stepR_fo {n : Nat} : ∀ (s : Stp) {p r : Nat → Nat}, Fo n p r → ∀ {q : Nat → Nat} {c : Int}, stepR n s p = .ok (q, c) → ∃ r', Fo n q r'
  | .fnd z, p, r, F, q, c, h => by
    rw [stepR] at h
    by_cases hz : 0 ≤ z ∧ z < (n : Int)
    · rw [if_pos hz] at h
      injection h with h
      injection h with h _
      rw [← h]
      exact ⟨r, fnd_fo F (by omega)⟩
    · rw [if_neg hz] at h; cases h
  | .lnk x a, p, r, F, q, c, h => by
    rw [stepR] at h
    cases e : linkR n p x a with
    | er _ => rw [e] at h; cases h
    | ok q' =>
      rw [e] at h
      injection h with h
      injection h with h _
      rw [← h]
      exact linkR_fo F e
  | .rnd k _ ss, p, r, F, q, c, h => by
    rw [stepR] at h
    by_cases hk : k = 0
    · rw [if_pos hk] at h
      injection h with h
      injection h with h _
      rw [← h]; exact ⟨r, F⟩
    · rw [if_neg hk] at h
      cases e : stepsR n ss p with
      | er _ => rw [e] at h; cases h
      | ok a =>
        obtain ⟨q', c'⟩ := a
        rw [e] at h
        injection h with h
        injection h with h _
        rw [← h]
        exact stepsR_fo ss F e
theorem stepsR_fo {n : Nat} : ∀ (l : List Stp) {p r : Nat → Nat}, Fo n p r → ∀ {q : Nat → Nat} {c : Int}, stepsR n l p = .ok (q, c) → ∃ r', Fo n q r'
  | [], p, r, F, q, c, h => by
    rw [stepsR] at h
    injection h with h
    injection h with h _
    rw [← h]; exact ⟨r, F⟩
  | s :: l, p, r, F, q, c, h => by
    rw [stepsR_cons] at h
    cases e : stepR n s p with
    | er _ => rw [e] at h; cases h
    | ok a =>
      obtain ⟨q1, c1⟩ := a
      rw [e] at h
      obtain ⟨r1, F1⟩ := stepR_fo s F e
      cases e2 : stepsR n l q1 with
      | er _ =>
        unfold Rs.seq at h
        simp [e2] at h
      | ok b =>
        obtain ⟨q2, c2⟩ := b
        unfold Rs.seq at h
        simp [e2] at h
        rw [← h.1]
        exact stepsR_fo l F1 e2
end
end Ff

/-! A round once more: every find costs at most one, the forest stays. -/
namespace Ff
section
variable {n : Nat} {p r : Nat → Nat}
theorem d1_path (F : Fo n p r) {x : Nat} (hx : x < n) (h : p (p x) = p x) : root p n x = p x ∧ (ups p n x).length = (if p x = x then 0 else 1) ∧ ∀ v, v ∈ path p n x → v = x ∨ v = p x := by
  by_cases e : p x = x
  · have hr : root p n x = x := root_of e n
    refine ⟨by rw [hr, e], by rw [ups_of e, if_pos e]; rfl, fun v hv => ?_⟩
    unfold path at hv
    rw [ups_of e, hr] at hv
    exact .inl (by simpa using hv)
  · have hu : ups p n x = [x] := by rw [ups_n F hx e, ups_of h]
    have hr : root p n x = p x := by
      have h1 := (ups_lt F x hx x (by rw [hu]; exact List.mem_singleton.mpr rfl)).2.2.1
      have hn : 1 ≤ n := by omega
      obtain ⟨m, rfl⟩ : ∃ m, n = m + 1 := ⟨n - 1, by omega⟩
      rw [root_step e, root_of h]
    refine ⟨hr, by rw [hu, if_neg e]; rfl, fun v hv => ?_⟩
    unfold path at hv
    rw [hu, hr] at hv
    simpa using hv
theorem fnd_d1 (F : Fo n p r) {x : Nat} (hx : x < n) (h : p (p x) = p x) : fnd n p x = p := by
  obtain ⟨h1, _, h3⟩ := d1_path F hx h
  funext v
  unfold fnd
  by_cases hv : v ∈ path p n x
  · rw [if_pos hv, h1]
    rcases h3 v hv with e | e
    · rw [e]
    · rw [e, h]
  · rw [if_neg hv]
/-- what hangs on a root stays there -/
theorem fnd_keep (F : Fo n p r) {x z : Nat} (hx : x < n) (hz : z < n) (h : p (p z) = p z) : fnd n p x (fnd n p x z) = fnd n p x z := by
  have hroot : ∀ v, v < n → p v = v → fnd n p x v = v := fun v hv e => by
    unfold fnd
    by_cases hm : v ∈ path p n x
    · rw [if_pos hm]
      unfold path at hm
      rw [List.mem_append, List.mem_singleton] at hm
      rcases hm with hm | hm
      · exact absurd e (ups_lt F x hx v hm).2.1
      · exact hm.symm
    · rw [if_neg hm, e]
  by_cases hm : z ∈ path p n x
  · have e : fnd n p x z = root p n x := by unfold fnd; rw [if_pos hm]
    rw [e]
    exact hroot _ (root_lt F x hx) (root_fix F x hx)
  · have e : fnd n p x z = p z := by unfold fnd; rw [if_neg hm]
    rw [e]
    exact hroot _ (F.lt z hz) h
theorem fnd_got (F : Fo n p r) {x : Nat} (hx : x < n) : fnd n p x (fnd n p x x) = fnd n p x x := by
  have hm : x ∈ path p n x := by
    by_cases e : p x = x
    · unfold path; rw [ups_of e, root_of e]; simp
    · unfold path; rw [ups_n F hx e]; simp
  have e : fnd n p x x = root p n x := by unfold fnd; rw [if_pos hm]
  rw [e]
  have hm2 : root p n x ∈ path p n x := by unfold path; simp
  unfold fnd; rw [if_pos hm2]
end
mutual
/-- the nodes that are found are nodes -/
def InX (n : Nat) : Stp → Prop
  | .fnd z => 0 ≤ z ∧ z < (n : Int)
  | .lnk _ _ => True
  | .rnd k _ ss => 0 < k → InXs n ss
def InXs (n : Nat) : List Stp → Prop
  | [] => True
  | s :: r => InX n s ∧ InXs n r
end
theorem inXs_mem {n : Nat} : ∀ {l : List Stp} {s : Stp}, InXs n l → s ∈ l → InX n s
  | x :: l, s, w, h => by
    rw [InXs] at w
    rcases List.mem_cons.mp h with e | h
    · rw [e]; exact w.1
    · exact inXs_mem w.2 h
mutual
theorem ran_in {n : Nat} : ∀ (s : Stp) {p q : Nat → Nat} {c : Int} {top : Bool}, Wf top s → stepR n s p = .ok (q, c) → InX n s
  | .fnd z, p, q, c, top, w, h => by
    rw [stepR] at h
    rw [InX]
    by_cases hz : 0 ≤ z ∧ z < (n : Int)
    · exact hz
    · rw [if_neg hz] at h; cases h
  | .lnk x a, p, q, c, top, w, h => by rw [InX]; trivial
  | .rnd k _ ss, p, q, c, top, w, h => by
    rw [InX]
    rw [stepR] at h
    rw [Wf] at w
    intro hk
    rw [if_neg (by omega)] at h
    cases e : stepsR n ss p with
    | er _ => rw [e] at h; cases h
    | ok a => obtain ⟨q', c'⟩ := a; exact rans_in ss w.2.2 e
theorem rans_in {n : Nat} : ∀ (l : List Stp) {p q : Nat → Nat} {c : Int} {top : Bool}, Wfs top l → stepsR n l p = .ok (q, c) → InXs n l
  | [], p, q, c, top, w, h => by rw [InXs]; trivial
  | s :: l, p, q, c, top, w, h => by
    rw [Wfs] at w
    rw [stepsR_cons] at h
    rw [InXs]
    cases e : stepR n s p with
    | er _ => rw [e] at h; cases h
    | ok a =>
      obtain ⟨q1, c1⟩ := a
      rw [e] at h
      refine ⟨ran_in s w.1 e, ?_⟩
      cases e2 : stepsR n l q1 with
      | er _ =>
        unfold Rs.seq at h
        simp [e2] at h
      | ok b => obtain ⟨q2, c2⟩ := b; exact rans_in l w.2 e2
end
mutual
/-- all that is found hangs on its root -/
def Dn (q : Nat → Nat) : Stp → Prop
  | .fnd z => q (q z.toNat) = q z.toNat
  | .lnk _ _ => True
  | .rnd k _ ss => 0 < k → Dns q ss
def Dns (q : Nat → Nat) : List Stp → Prop
  | [] => True
  | s :: r => Dn q s ∧ Dns q r
end
def Keep (n : Nat) (p q : Nat → Nat) : Prop := ∀ z, z < n → p (p z) = p z → q (q z) = q z
mutual
theorem step_keep {n : Nat} : ∀ (s : Stp) {p r : Nat → Nat}, Fo n p r → Wf false s → ∀ {q : Nat → Nat} {c : Int}, stepR n s p = .ok (q, c) → Keep n p q
  | .fnd z, p, r, F, w, q, c, h => by
    rw [stepR] at h
    by_cases hz : 0 ≤ z ∧ z < (n : Int)
    · rw [if_pos hz] at h
      injection h with h
      injection h with h _
      rw [← h]
      exact fun v hv e => fnd_keep F (by omega) hv e
    · rw [if_neg hz] at h; cases h
  | .lnk x a, p, r, F, w, q, c, h => by rw [Wf] at w; cases w
  | .rnd k _ ss, p, r, F, w, q, c, h => by
    rw [stepR] at h
    rw [Wf] at w
    by_cases hk : k = 0
    · rw [if_pos hk] at h
      injection h with h
      injection h with h _
      rw [← h]; exact fun v hv e => e
    · rw [if_neg hk] at h
      cases e : stepsR n ss p with
      | er _ => rw [e] at h; cases h
      | ok a =>
        obtain ⟨q', c'⟩ := a
        rw [e] at h
        injection h with h
        injection h with h _
        rw [← h]
        exact steps_keep ss F w.2.2 e
theorem steps_keep {n : Nat} : ∀ (l : List Stp) {p r : Nat → Nat}, Fo n p r → Wfs false l → ∀ {q : Nat → Nat} {c : Int}, stepsR n l p = .ok (q, c) → Keep n p q
  | [], p, r, F, w, q, c, h => by
    rw [stepsR] at h
    injection h with h
    injection h with h _
    rw [← h]; exact fun v hv e => e
  | s :: l, p, r, F, w, q, c, h => by
    rw [stepsR_cons] at h
    rw [Wfs] at w
    cases e : stepR n s p with
    | er _ => rw [e] at h; cases h
    | ok a =>
      obtain ⟨q1, c1⟩ := a
      rw [e] at h
      obtain ⟨r1, F1⟩ := stepR_fo s F e
      cases e2 : stepsR n l q1 with
      | er _ => unfold Rs.seq at h; simp [e2] at h
      | ok b =>
        obtain ⟨q2, c2⟩ := b
        unfold Rs.seq at h
        simp [e2] at h
        rw [← h.1]
        exact fun v hv e3 => steps_keep l F1 w.2 e2 v hv (step_keep s F w.1 e v hv e3)
end
mutual
theorem Dn_keep {n : Nat} {p q : Nat → Nat} (k : Keep n p q) : ∀ (s : Stp), InX n s → Dn p s → Dn q s
  | .fnd z, hi, h => by
    rw [Dn] at h ⊢
    rw [InX] at hi
    exact k _ (by omega) h
  | .lnk _ _, _, _ => by rw [Dn]; trivial
  | .rnd kk _ ss, hi, h => by
    rw [Dn] at h ⊢
    rw [InX] at hi
    exact fun hk => Dns_keep k ss (hi hk) (h hk)
theorem Dns_keep {n : Nat} {p q : Nat → Nat} (k : Keep n p q) : ∀ (l : List Stp), InXs n l → Dns p l → Dns q l
  | [], _, _ => by rw [Dns]; trivial
  | s :: l, hi, h => by
    rw [Dns] at h ⊢
    rw [InXs] at hi
    exact ⟨Dn_keep k s hi.1 h.1, Dns_keep k l hi.2 h.2⟩
end
mutual
theorem step_got {n : Nat} : ∀ (s : Stp) {p r : Nat → Nat}, Fo n p r → Wf false s → ∀ {q : Nat → Nat} {c : Int}, stepR n s p = .ok (q, c) → Dn q s
  | .fnd z, p, r, F, w, q, c, h => by
    rw [stepR] at h
    rw [Dn]
    by_cases hz : 0 ≤ z ∧ z < (n : Int)
    · rw [if_pos hz] at h
      injection h with h
      injection h with h _
      rw [← h]
      exact fnd_got F (by omega)
    · rw [if_neg hz] at h; cases h
  | .lnk x a, p, r, F, w, q, c, h => by rw [Wf] at w; cases w
  | .rnd k _ ss, p, r, F, w, q, c, h => by
    rw [stepR] at h
    rw [Wf] at w
    rw [Dn]
    intro hk
    rw [if_neg (by omega)] at h
    cases e : stepsR n ss p with
    | er _ => rw [e] at h; cases h
    | ok a =>
      obtain ⟨q', c'⟩ := a
      rw [e] at h
      injection h with h
      injection h with h _
      rw [← h]
      exact steps_got ss F w.2.2 e
theorem steps_got {n : Nat} : ∀ (l : List Stp) {p r : Nat → Nat}, Fo n p r → Wfs false l → ∀ {q : Nat → Nat} {c : Int}, stepsR n l p = .ok (q, c) → Dns q l
  | [], p, r, F, w, q, c, h => by rw [Dns]; trivial
  | s :: l, p, r, F, w, q, c, h => by
    rw [stepsR_cons] at h
    rw [Wfs] at w
    rw [Dns]
    cases e : stepR n s p with
    | er _ => rw [e] at h; cases h
    | ok a =>
      obtain ⟨q1, c1⟩ := a
      rw [e] at h
      obtain ⟨r1, F1⟩ := stepR_fo s F e
      cases e2 : stepsR n l q1 with
      | er _ => unfold Rs.seq at h; simp [e2] at h
      | ok b =>
        obtain ⟨q2, c2⟩ := b
        unfold Rs.seq at h
        simp [e2] at h
        rw [← h.1]
        exact ⟨Dn_keep (steps_keep l F1 w.2 e2) s (ran_in s w.1 e) (step_got s F w.1 e), steps_got l F1 w.2 e2⟩
end
mutual
theorem step_again {n : Nat} : ∀ (s : Stp) {q r : Nat → Nat}, Fo n q r → Wf false s → InX n s → Dn q s → stepR n s q = .ok (q, low1 q s)
  | .fnd z, q, r, F, w, hi, h => by
    rw [InX] at hi
    rw [Dn] at h
    rw [stepR, if_pos hi, low1]
    have hz : z.toNat < n := by omega
    obtain ⟨_, h2, _⟩ := d1_path F hz h
    rw [fnd_d1 F hz h, h2]
    by_cases e : q z.toNat = z.toNat
    · rw [if_pos e, if_pos e]; rfl
    · rw [if_neg e, if_neg e]; rfl
  | .lnk x a, q, r, F, w, hi, h => by rw [Wf] at w; cases w
  | .rnd k _ ss, q, r, F, w, hi, h => by
    rw [InX] at hi
    rw [Dn] at h
    rw [Wf] at w
    rw [stepR, low1]
    by_cases hk : k = 0
    · rw [if_pos hk, if_neg (by omega)]
    · have hp : 0 < k := by have := w.1; omega
      rw [if_neg hk, if_pos hp, steps_again ss F w.2.2 (hi hp) (h hp)]
      show Rs.ok (q, lows q ss + (k - 1) * lows q ss) = Rs.ok (q, k * lows q ss)
      rw [Int.sub_mul, Int.one_mul]
      congr 2
      omega
theorem steps_again {n : Nat} : ∀ (l : List Stp) {q r : Nat → Nat}, Fo n q r → Wfs false l → InXs n l → Dns q l → stepsR n l q = .ok (q, lows q l)
  | [], q, r, F, w, hi, h => by rw [stepsR, lows]
  | s :: l, q, r, F, w, hi, h => by
    rw [Wfs] at w
    rw [InXs] at hi
    rw [Dns] at h
    rw [stepsR_cons, step_again s F w.1 hi.1 h.1, lows]
    unfold Rs.seq
    simp [steps_again l F w.2 hi.2 h.2]
end
/-- the same steps once more -/
theorem again_steps {n : Nat} {ss : List Stp} {p r q : Nat → Nat} {c : Int} (F : Fo n p r) (w : Wfs false ss) (h : stepsR n ss p = .ok (q, c)) : stepsR n ss q = .ok (q, lows q ss) := by
  obtain ⟨r', F'⟩ := stepsR_fo ss F h
  exact steps_again ss F' w (rans_in ss w h) (steps_got ss F w h)
end Ff

namespace ExX
open PySem PySem.Spec PyProof.Rows L2 Builtin.ObjectAttr
/-- an own class over some built-in exception, its instances having a dict -/
structure ExB (K : PySem.W.Frag) (C : Addr) (nid : String) (tl : List Value) : Prop where
  ini : PySem.W.excInitIn K C tl nid = true
  ov : PySem.W.excOver K C tl = true
  hdt : PySem.W.hasDictIn K C = true
  sat : PySem.W.findIn K (.ref C) "__setattr__" = some (some (.builtin "object.__setattr__"))
  sub : PySem.W.subIn K (.ref C) (.type "BaseException") = some true
  typ : PySem.W.typeIn K (.ref C) = some (.type "type")
  kep : PySem.W.keepIn K (.ref C) = true
def exB (K : PySem.W.Frag) (C : Addr) (nid : String) (tl : List Value) : Bool :=
  PySem.W.excInitIn K C tl nid && PySem.W.excOver K C tl && PySem.W.hasDictIn K C && decide (PySem.W.findIn K (.ref C) "__setattr__" = some (some (.builtin "object.__setattr__"))) && decide (PySem.W.subIn K (.ref C) (.type "BaseException") = some true) &&
    decide (PySem.W.typeIn K (.ref C) = some (.type "type")) && PySem.W.keepIn K (.ref C)
theorem exB_ok {K : PySem.W.Frag} {C : Addr} {nid : String} {tl : List Value} (h : exB K C nid tl = true) : ExB K C nid tl := by
  unfold exB at h
  simp only [Bool.and_eq_true, decide_eq_true_eq] at h
  obtain ⟨⟨⟨⟨⟨⟨a, b⟩, c⟩, d⟩, e⟩, f⟩, g⟩ := h
  exact ⟨a, b, c, d, e, f, g⟩
section
variable {prog : Program} {w : World} {A : Around} {R : Result → Shared → Prop} {hp : Heap} {g : Array GenState} {dr : Drawn} {tk0 : Nat} {os : OsState} {K : PySem.W.Frag} {B nid : String} {tl : List Value} {x C t1 : Addr} {nm : Str} {tk : Tok} {v : Value}
theorem sa_new (SB : StoreFacts B tl "object.__setattr__" "object") (X : K.In hp) (T : ExB K C nid tl) (hx : hp.get? x = some (PySem.W.excObj C t1 none .none)) (ha : PySem.W.findIn K (.ref C) nm = some none)
    (hq : ∀ h2 tk2 dx, (∀ b o, b ≠ x → hp.get? b = some o → h2.get? b = some o) → hp.objs.size ≤ dx → dx ≠ x → h2.get? x = some (PySem.W.excObj C t1 (some dx) .none) →
      h2.Ns1 dx (fun y => if y = nm then some v else none) → R (.ok (.ret .none)) ⟨h2, g, dr, tk2, os⟩) :
    codeAny (model prog w) A (.call (.builtin "object.__setattr__") ⟨[.ref x, .str nm tk, v], []⟩) R ⟨hp, g, dr, tk0, os⟩ := by
  refine PySem.W.osa_openX (od := none) (r := none) SB X ⟨hx, rfl, rfl, trivial⟩ T.ov (by unfold PySem.W.takerIn; rw [ha]; rfl) fun b => ?_
  obtain ⟨cd, hc, hd2⟩ := PySem.W.any_some T.hdt
  have hxs : x ≠ hp.objs.size := Nat.ne_of_lt (Heap.lt_size hx)
  refine wpAny_bind (wpAny_pure (wpAny_bind (PySem.W.instanceDict_exc hx (PySem.W.looks_clsIn X hc) hd2 ?_)))
  show wpAny _ _ (storeInDict hp.objs.size (.str nm tk) nm v) _ _ _
  refine HandSPX.store_in_new ?_ ?_
  · exact ⟨_, #[], _, (Heap.get?_update_ne _ _ _ _ hxs.symm).trans (Heap.get?_push_at rfl rfl), rfl, fun e he => absurd he (by simp), fun _ => rfl⟩
  · intro h2 tk2 hn hs
    have hx1 := Heap.get?_push_of_some (h := hp) (PySem.W.dictOf [] 0) hx
    refine hq h2 tk2 hp.objs.size (fun b o hb ho => ?_) (Nat.le_refl _) hxs.symm ?_ hn
    · exact (hs.2 b (Nat.ne_of_lt (Heap.lt_size ho))).trans ((Heap.get?_update_ne _ _ _ _ hb).trans (Heap.get?_push_of_some _ ho))
    · exact (hs.2 x hxs).trans (Heap.get?_update_self _ hx1 rfl)
theorem sa_old {dx : Addr} {m0 : Str → Option Value} {nl : List Str} (SB : StoreFacts B tl "object.__setattr__" "object") (X : K.In hp) (T : ExB K C nid tl) (hx : hp.get? x = some (PySem.W.excObj C t1 (some dx) .none)) (hns : hp.Ns1 dx m0) (hw : Within m0 nl) (hz : nl.length ≤ 1000)
    (ha : PySem.W.findIn K (.ref C) nm = some none)
    (hq : ∀ h2 tk2, (∀ b o, b ≠ dx → hp.get? b = some o → h2.get? b = some o) → h2.Ns1 dx (fun y => if y = nm then some v else m0 y) → R (.ok (.ret .none)) ⟨h2, g, dr, tk2, os⟩) :
    codeAny (model prog w) A (.call (.builtin "object.__setattr__") ⟨[.ref x, .str nm tk, v], []⟩) R ⟨hp, g, dr, tk0, os⟩ := by
  obtain ⟨oD, esD, epD, hoD, hdD, _⟩ := hns.count hw
  refine PySem.W.osa_openX (od := some oD) (r := none) SB X ⟨hx, rfl, rfl, hoD⟩ T.ov (by unfold PySem.W.takerIn; rw [ha]; rfl) fun b => ?_
  show wpAny _ _ (storeInOwnDict (.ref x) (.ref C) (.str nm tk) nm v b) _ _ _
  obtain ⟨cd, hc, hd2⟩ := PySem.W.any_some T.hdt
  have lc : PySem.W.Looks (model prog w) hp (classData C) cd := PySem.W.looks_clsIn X hc
  obtain ⟨c1, c2, c3, c4, c5, c6, c7, c8, c9, c10, c11⟩ := cd
  dsimp only at hd2
  subst hd2
  unfold storeInOwnDict ownDictForStores
  repeat (first | with_reducible refine PySem.OEX.store_in_old hns hw hz ?_ | with_reducible refine wpAny_loadPart_at hx ?_ | with_reducible refine lc.at ?_ | wp_step)
  intro h2 tk2 hn hs
  exact hq h2 tk2 (fun b o hb ho => (hs.2 b hb).trans ho) hn
end
section
variable {X : Cx} {pins : List (Addr × Obj)} {σ : L2.St} {H : Hp} {s : Shared} {a C dx : Addr} {f : Str} {y : V} {u : Value} {fs : List (Str × V)} {Q : Unit → Shared → Prop} {E : Value → Shared → Prop} {A : Around} {B nid iid : String} {tl : List Value}
/-- the object at a gets its dict at dx -/
theorem inv_dict {hp h2 : Heap} {g : Array GenState} {dr : Drawn} {tk tk2 : Nat} {os : OsState} {t1 : Addr} (I : Inv X pins σ H ⟨hp, g, dr, tk, os⟩) (e : H a = some (exo a C none)) (ry : RelV y u) (k : ∀ b o, b ≠ a → hp.get? b = some o → h2.get? b = some o) (dn : hp.objs.size ≤ dx)
    (hx : h2.get? a = some (PySem.W.excObj C t1 (some dx) .none)) (hn : h2.Ns1 dx (fun y => if y = f then some u else none)) : Inv X pins σ (upd (upd H dx (exd dx [(f, y)])) a (exo a C (some dx))) ⟨h2, g, dr, tk2, os⟩ := by
  have fresh : H dx = none := I.hok.fresh dn
  have old_ne : ∀ {b : Addr} {o : Obj}, hp.get? b = some o → b ≠ dx := fun {b o} q => Nat.ne_of_lt (Nat.lt_of_lt_of_le (Heap.lt_size q) dn)
  have free_ne : ∀ {b : Addr}, H b = none → b ≠ a := fun {b} n z => by
    subst z
    rw [e] at n
    cases n
  have look : ∀ {b : Addr} {o : HO}, H b = some o → b ≠ a → upd (upd H dx (exd dx [(f, y)])) a (exo a C (some dx)) b = some o := fun {b o} q hb => by rw [upd_ne hb, upd_ne (ne_of_none q fresh)]; exact q
  refine I.un (t' := tk2) ⟨fun b o q n _ _ => k b o (free_ne n) q, fun b o q n _ _ => ⟨o.slots, k b o (free_ne n) q⟩, fun b o q n _ => ?_, fun b o q _ => ?_, fun b xs q => look q (at_ne e q exo_tup), fun b o v q => look q (at_ne e q exo_frz), fun b ps q => ⟨#[], ?_⟩⟩ fun b o q => ?_
  · rw [upd_ne (free_ne n), upd_ne (old_ne q)]
    exact n
  · by_cases hb : b = a
    · exact ⟨_, hb ▸ hx⟩
    · exact ⟨o, k b o hb q⟩
  · rw [look q (at_ne e q exo_tbl)]
    simp
  · by_cases hb : b = a
    · rw [hb, upd_same] at q
      rw [hb, ← Option.some.inj q]
      exact exo_ok hx
    rw [upd_ne hb] at q
    by_cases hd : b = dx
    · rw [hd, upd_same] at q
      rw [hd, ← Option.some.inj q]
      exact exd_ok hn (relO_put (fs := []) ry fun _ => True.intro)
    rw [upd_ne hd] at q
    refine (I.hok b o q).stay (fun c v hc z => k c v ?_ z) (fun c hc => look hc (at_ne e hc exo_own)) fun c xs hc => look hc (at_ne e hc exo_tup)
    rcases hc with hc | hc
    · exact hc ▸ hb
    · exact at_ne e hc exo_own
theorem st_new (SB : StoreFacts B tl "object.__setattr__" "object") (T : ExB X.K C nid tl) (I : Inv X pins σ H s) (e : H a = some (exo a C none)) (hno : PySem.W.findIn X.K (.ref C) f = some none) (ry : RelV y u)
    (h : ∀ dx s2, H dx = none → dx ≠ a → Inv X pins σ (upd (upd H dx (exd dx [(f, y)])) a (exo a C (some dx))) s2 → Q () s2) : wpAny (model X.prog X.w) A (setAttr (.ref a) f u) Q E s := by
  obtain ⟨t1, ho⟩ := exo_at I.hok e
  obtain ⟨hp, g, dr, tk, os⟩ := s
  exact PySem.W.set_plain I.kIn (ox := PySem.W.excObj C t1 none .none) (od := none) ⟨ho, rfl, rfl, trivial⟩ T.sat (sa_new SB I.kIn T ho hno fun h2 tk2 dx k dn dne hx hn => h dx _ (I.hok.fresh dn) dne (inv_dict I e ry k dn hx hn))
theorem st_old (SB : StoreFacts B tl "object.__setattr__" "object") (T : ExB X.K C nid tl) (I : Inv X pins σ H s) (e : H a = some (exo a C (some dx))) (ed : H dx = some (exd dx fs)) (hl : fs.length ≤ 900) (hno : PySem.W.findIn X.K (.ref C) f = some none) (ry : RelV y u)
    (h : ∀ s2, Inv X pins σ (upd H dx (exd dx ((f, y) :: fs))) s2 → Q () s2) : wpAny (model X.prog X.w) A (setAttr (.ref a) f u) Q E s := by
  obtain ⟨t1, ho⟩ := exo_at I.hok e
  obtain ⟨mA, hns, rel⟩ := exd_at I.hok ed
  have hw := within_of rel
  obtain ⟨hp, g, dr, tk, os⟩ := s
  obtain ⟨oD, _, _, hoD, _, _⟩ := hns.count hw
  refine PySem.W.set_plain I.kIn (ox := PySem.W.excObj C t1 (some dx) .none) (od := some oD) ⟨ho, rfl, rfl, hoD⟩ T.sat (sa_old SB I.kIn T ho hns hw (by rw [List.length_map]; omega) hno fun h2 tk2 k hn => ?_)
  obtain ⟨o, es, ep, e1, er⟩ := hn
  exact h _ (I.write (t' := tk2) (x := dx) (e := dx) (o := exd dx ((f, y) :: fs)) (by rw [ed]; trivial) (.inl rfl) k ⟨o, e1⟩ (exd_ok ⟨o, es, ep, e1, er⟩ (relO_put ry rel)))
/-- B.__init__(self, ..): it lays the args anew, which are not told -/
theorem base_init {us : List Value} {Q : Value → Shared → Prop} (FB : ExcBaseFacts B nid iid tl) (T : ExB X.K C nid tl) (I : Inv X pins σ H s) (e : H a = some (exo a C none)) (hl : us.length ≤ sizeLine) (h : ∀ s2, Inv X pins σ H s2 → Q .none s2) :
    wpAny (model X.prog X.w) A (call (.builtin iid) (.ref a :: us)) Q E s := by
  obtain ⟨nm, N, qn, bs, bm, hdct, sn, sub, ab, col, dd, k0, k1, k2, k3, k5, hC, hT⟩ := PySem.W.excInit_of I.kIn T.ini
  obtain ⟨t1, ho⟩ := exo_at I.hok e
  obtain ⟨hp, g, dr, tk, os⟩ := s
  refine wpAny_call (PySem.HandSPX.init_base FB hT hC ho hl fun h2 t2 k hx => h _ ?_)
  have J := I.write (t' := tk) (x := a) (e := a) (o := exo a C none) (by rw [e]; trivial) (.inl rfl) k ⟨_, hx⟩ (exo_ok hx)
  have same : upd H a (exo a C none) = H := funext fun b => by
    by_cases hb : b = a
    · rw [hb, upd_same, e]
    · rw [upd_ne hb]
  rwa [same] at J
end
/-! ### rules -/
/-- self.f = e, self an exception in the making -/
def tSt (K : PySem.W.Frag) (nid : String) (tl : List Value) (f : Str) (to te : TE) : TS := fun D σ H => te σ H fun y H1 => to σ H1 fun x H2 => ∃ a C : Addr, x = .ref a ∧ ExB K C nid tl ∧ PySem.W.findIn K (.ref C) f = some none ∧
  ((H2 a = some (exo a C none) ∧ ∀ dx, H2 dx = none → dx ≠ a → D.nx σ (upd (upd H2 dx (exd dx [(f, y)])) a (exo a C (some dx)))) ∨
    ∃ (dx : Addr) (fs : List (Str × V)), H2 a = some (exo a C (some dx)) ∧ H2 dx = some (exd dx fs) ∧ fs.length ≤ 900 ∧ D.nx σ (upd H2 dx (exd dx ((f, y) :: fs))))
/-- B.__init__(self, ..) -/
def tBi (K : PySem.W.Frag) (nid : String) (tl : List Value) (ta : TA) : TE := fun σ H Q => ta σ H fun vs H1 => ∃ (a C : Addr) (ws : List V), vs = .ref a :: ws ∧ ws.length ≤ 1000 ∧ ExB K C nid tl ∧ H1 a = some (exo a C none) ∧ Q .non H1
section
variable {X : Cx} {o e : Expr} {es : List Expr} {to te : TE} {ta : TA} {f x : Str} {p p1 p2 pos : Pos} {B nid iid : String} {tl : List Value}
theorem ps_st (SB : StoreFacts B tl "object.__setattr__" "object") (ho : PE X o to) (he : PE X e te) (hs : swapsWith e (some (.Attribute o f p)) pos.line X.env = pure false := by rfl) : PS X (.Assign [.Attribute o f p] e pos) (tSt X.K nid tl f to te) := by
  refine ⟨fun pins s σ H D I h => plainObj_wpAny_Assign_Attribute (thn (he.run pins s σ H _ I h) fun v s1 ⟨y, H1, I1, r1, q1⟩ => thn (ho.run pins s1 σ H1 _ I1 q1) fun u s2 ⟨z, H2, I2, r2, a, C, ex, T, hno, q⟩ => ?_) hs⟩
  subst ex
  obtain rfl : u = Value.ref a := r2
  rcases q with ⟨ea, q⟩ | ⟨dx, fs, ea, ed, hl, q⟩
  · exact st_new SB T I2 ea hno r1 fun dx s3 n ne J => ⟨σ, _, J, q dx n ne⟩
  · exact st_old SB T I2 ea ed hl hno r1 fun s3 J => ⟨σ, _, J, q⟩
theorem pe_bi {xB : Str} {pl : Sem Bool} (FB : ExcBaseFacts B nid iid tl) (ty : typeOf (.type B) = pure (.type "type")) (st : Manifest.isStub B = false) (bo : bootBuiltins xB = some (.type B)) (hn1 : xB ≠ "__name__") (hn2 : (xB == ("__debug__" : Str)) = false) (hh : PySem.W.handedIn (.builtin iid) = true) (hg : Gl X xB) (hm : X.mg xB = none) (vV : PySem.W.findCls X.K (.type B) (.type "type") "__init__" = some (.val (.builtin iid))) (ha : PA X (e :: es) ta)
    (hc : eval (.Call (.Attribute (.Name xB p1) "__init__" p2) (e :: es) [] pos) X.env = (do
      let z ← eval (.Name xB p1) X.env
      standAt p2.atName
      let (f1, fst) ← holding [z] (getMethod z "__init__" pl)
      callWith pos f1 fst (backTo pos (starEach (e :: es) X.env)) (backToKw pos (keywordEach [] X.env))) := by rfl)
    (he : starEach (e :: es) X.env = (false, eval e X.env) :: starEach es X.env := by rfl) (hpl : (backTo pos (starEach es X.env)).any (·.1) = false := by rfl) :
    PE X (.Call (.Attribute (.Name xB p1) "__init__" p2) (e :: es) [] pos) (tBi X.K nid tl ta) := by
  refine ⟨fun pins s σ H Q I h => PySem.W.methodCall_KW (ld_blt I hg hm bo ?_ hn1 hn2) hc⟩
  obtain ⟨m, fr⟩ := I.fr
  refine PySem.W.method_type fr I.ok.mod.kin ty st vV hh ?_
  show wpAny _ _ (callWith pos (Value.builtin iid) [] (backTo pos (starEach (e :: es) X.env)) []) _ _ _
  refine PyProof.Rows.callWith_method1 (thn (ha.run pos pins _ σ H _ (I.tok _) h) fun us s1 ⟨vs, H1, I1, r1, a, C, ws, ev, hl, T, ea, q⟩ => ?_) he hpl
  subst ev
  cases r1 with
  | @cons _ u0 _ ur ra rw2 =>
    obtain rfl : u0 = Value.ref a := ra
    exact base_init FB T I1 ea (by rw [← Paired.length rw2, sizeLine_eq]; omega) fun s2 J => ⟨.non, H1, J, rfl, q⟩
end
end ExX

namespace ExX
open PySem PySem.Spec PyProof.Rows L2 Builtin.ObjectAttr
/-- what the written part says of D.__init__, read off the class itself: the def at f -/
structure ClsI (K : PySem.W.Frag) (D f : Addr) : Prop where
  rd : PySem.W.readsIn K D (.type "type") = true
  fc : PySem.W.findCls K (.ref D) (.type "type") "__init__" = some (.val (.ref f))
  sp : PySem.W.specialIn K (.ref D) "__getattribute__" = some (some (.builtin "type.__getattribute__"))
  kp : PySem.W.keepIn K (.ref f) = true
  kd : PySem.W.keepIn K (.ref D) = true
def clsI (K : PySem.W.Frag) (D f : Addr) : Bool := PySem.W.readsIn K D (.type "type") && (match PySem.W.findCls K (.ref D) (.type "type") "__init__" with | some (.val v) => decide (v = .ref f) | _ => false) &&
  decide (PySem.W.specialIn K (.ref D) "__getattribute__" = some (some (.builtin "type.__getattribute__"))) && PySem.W.keepIn K (.ref f) && PySem.W.keepIn K (.ref D)
theorem clsI_ok {K : PySem.W.Frag} {D f : Addr} (h : clsI K D f = true) : ClsI K D f := by
  unfold clsI at h
  simp only [Bool.and_eq_true, decide_eq_true_eq] at h
  obtain ⟨⟨⟨⟨a, b⟩, c⟩, d⟩, e⟩ := h
  refine ⟨a, ?_, c, d, e⟩
  split at b
  · rename_i v hv
    rw [hv, of_decide_eq_true b]
  · cases b
/-- what C(..) asks, the arguments evaluated -/
def mkW (C : Addr) (sp : Sp) (vs : List V) (H1 : Hp) (Q : XK) : Prop := vs.length ≤ 1000 ∧ ∀ a, H1 a = none → sp (.ref a :: vs) (upd H1 a (exo a C none))
  (fun v H2 => v = .non ∧ ∃ (d : Addr) (fs : List (Str × V)), H2 a = some (exo a C (some d)) ∧ H2 d = some (exd d fs) ∧ H1 d = none ∧ Q (.ref C) (some d) (upd (del H2 a) d (.xd fs))) (fun _ _ _ => False)
section
variable {X : Cx} {e : Expr} {es : List Expr} {ta : TA} {x : Str} {p p1 p2 pos : Pos} {CX : CXT} {k : Nat} {D f : Addr} {fd : FuncData} {ps : List Str} {sp : Sp} {E : XK}
theorem pe_ci {pl : Sem Bool} (T : ClsI X.K D f) (F : FnOk X.prog X.w X.K X.mg X.base CX k f fd ps sp) (hr : Room k X.A) (hg : Gl X x) (hm : X.mg x = some (.ref D)) (hb : L2.Binds X.K fd ps []) (hx : Passes CX X E) (ha : PA X (e :: es) ta)
    (hdb : (x == ("__debug__" : Str)) = false := by decide)
    (hc : eval (.Call (.Attribute (.Name x p1) "__init__" p2) (e :: es) [] pos) X.env = (do
      let z ← eval (.Name x p1) X.env
      standAt p2.atName
      let (f1, fst) ← holding [z] (getMethod z "__init__" pl)
      callWith pos f1 fst (backTo pos (starEach (e :: es) X.env)) (backToKw pos (keywordEach [] X.env))) := by rfl)
    (he : starEach (e :: es) X.env = (false, eval e X.env) :: starEach es X.env := by rfl) (hpl : (backTo pos (starEach es X.env)).any (·.1) = false := by rfl) :
    PE X (.Call (.Attribute (.Name x p1) "__init__" p2) (e :: es) [] pos) (tCall sp [] E ta) := by
  refine ⟨fun pins s σ H Q I h => PySem.W.methodCall_KW (ld_glob I hg hm ?_ hdb) hc⟩
  refine PySem.W.method_cls I.kIn T.sp (PySem.W.cls_value I.kIn T.rd T.fc rfl ?_)
  refine PySem.W.callWith_K (first := []) (h₀ := X.base) I.ok.mod.kin T.kp (thn (ha.run pos pins _ σ H _ (I.tok _) h) fun us s1 ⟨vs, H1, I1, r, q⟩ => ⟨I1.kIn, ?_⟩) he hpl
  exact run_fn F hr hb .nil hx I1 r q
theorem pmk {C fI : Addr} {B nid iid : String} {tl : List Value} {R : List V → Hp → XK → Prop} (FB : ExcBaseFacts B nid iid tl) (T : ExB X.K C nid tl) (iC : PySem.W.findIn X.K (.ref C) "__init__" = some (some (.ref fI))) (tI : PySem.W.typeIn X.K (.ref fI) = some (.type "function"))
    (F1 : FnOk X.prog X.w X.K X.mg X.base CX k fI fd ps sp) (hr : Room (k + 1) X.A) (hb : L2.Binds X.K fd ps []) (hx : Passes CX X (fun _ _ _ => False)) (hg : Gl X x) (hm : X.mg x = some (.ref C)) (ha : PA X (e :: es) ta) (hR : ∀ vs H1 Q, R vs H1 Q → mkW C sp vs H1 Q)
    (hdb : (x == ("__debug__" : Str)) = false := by decide) (he : starEach (e :: es) X.env = (false, eval e X.env) :: starEach es X.env := by rfl) (hpl : (backTo pos (starEach es X.env)).any (·.1) = false := by rfl) :
    L2N.PMk X (.Call (.Name x p) (e :: es) [] pos) (fun σ H Q => ta σ H fun vs H1 => R vs H1 Q) := by
  intro pins s σ H Q I h
  refine wpAny_Call_Name_kw (ld_glob I hg hm ?_ hdb)
  refine PySem.W.callWith_K (h₀ := X.base) I.ok.mod.kin T.kep (thn (ha.run pos pins s σ H _ I h) fun us s1 ⟨vs, H1, I1, r1, q0⟩ => ⟨I1.kIn, ?_⟩) he hpl
  obtain ⟨hz, q1⟩ := hR _ _ _ q0
  obtain ⟨nm, N, qn, bs, bm, hdct, sn, sub, ab, col, dd, k0, k1, k2, k3, k5, hC, hT⟩ := PySem.W.excInit_of I1.kIn T.ini
  obtain ⟨hp, g, dr, tk, os⟩ := s1
  -- the new exception lies behind its args
  let h1 : Heap := (hp.push (PySem.W.kdv_tup us)).push (PySem.HandSPX.excO C hp.objs.size)
  have kk : ∀ b o, hp.get? b = some o → h1.get? b = some o := fun b o e => Heap.get?_push_of_some _ (Heap.get?_push_of_some _ e)
  have new : h1.get? (hp.objs.size + 1) = some (PySem.HandSPX.excO C hp.objs.size) := by show Heap.get? ((hp.push (PySem.W.kdv_tup us)).push (PySem.HandSPX.excO C hp.objs.size)) _ = _; heap_get
  have hq := q1 (hp.objs.size + 1) (I1.hok.fresh (Nat.le_succ _))
  have I2 : Inv X pins σ (upd H1 (hp.objs.size + 1) (exo (hp.objs.size + 1) C none)) ⟨h1, g, dr, tk, os⟩ := I1.laid (t' := tk) (a := hp.objs.size + 1) (o := exo (hp.objs.size + 1) C none) kk (Nat.le_succ _) (exo_ok new)
  have r2 : Vals (V.ref (hp.objs.size + 1) :: vs) (Value.ref (hp.objs.size + 1) :: us) := .cons rfl r1
  have hl : (Value.ref (hp.objs.size + 1) :: us).length = ps.length := by rw [← r2.length]; exact F1.len _ _ _ _ hq
  have hb2 := hb ⟨h1, g, dr, tk, os⟩ (Value.ref (hp.objs.size + 1) :: us) I2.kIn (by rw [List.append_nil]; exact hl)
  rw [List.append_nil] at hb2
  show wpAny _ _ (call (.ref C) us) _ _ _
  refine wpAny_call (PySem.HandSPX.call_own FB hT hC (PySem.W.looks_findIn I1.kIn iC) (fun self => PySem.W.bind_fn I1.kIn self tI) (by rw [← Paired.length r1, sizeLine_eq]; omega) ?_)
  refine codeAny_mono (F1.run _ X.stack _ _ ⟨Value.ref (hp.objs.size + 1) :: us, []⟩ _ _ _ (fun _ _ _ => False) (hr.make C us []) (I2.env0.make C us []) hb2 r2 hq) fun r s2 z => ?_
  cases r with
  | error er => exact hx pins σ _ _ er s2 I2 z
  | ok fl =>
    cases fl with
    | ret u =>
      obtain ⟨v, H2, os2, bare2, un2, hok2, rv, ev, d, fs, ea, ed, hd1, q2⟩ := z
      subst ev
      obtain ⟨h2, g2, d2, t2, os3⟩ := s2
      obtain ⟨t0, G, J, kG, ge, hoe, na⟩ := mk_end0 (d2 := d2) (t2 := t2) I1 (Nat.le_succ _) kk un2 hok2 os2 bare2 ea ed hd1
      exact ⟨rv, _, _, _, ⟨G, g2, d2, t2, os3⟩, _, .ref C, some d, rfl, J, kG, ge, hoe, ⟨rfl, rfl, fun vs z => by cases z; rfl⟩, rfl, rfl, na, rfl, bare2, raises_own T.sub T.typ, q2⟩
    | _ => exact z.elim
end
end ExX

namespace ExX
open PySem PySem.Spec PyProof.Rows L2
/-- what an except clause's own expression t asks of an exception's class -/
def Tst (X : Cx) (t : Expr) (m : Value → Option Bool) : Prop := ∀ (a : Addr) (oe : Obj) (pn pins : List (Addr × Obj)) (σ : L2.St) (H : Hp) (s : Shared) (b : Bool) (Q : Bool → Shared → Prop) (E : Value → Shared → Prop), Inv (X.suite a ((a, oe) :: pn)) pins σ H s → m oe.cls = some b →
  (∀ h2, (∀ c o, s.heap.get? c = some o → h2.get? c = some o) → Q b { s with heap := h2 }) →
  wpAny (model X.prog X.w) (X.A.mark (some (.ref a))) (eval t X.env) (fun c s1 => wpAny (model X.prog X.w) (X.A.mark (some (.ref a))) (excMatches (.ref a) c) Q E s1) E s
section
variable {X : Cx} {x x1 x2 x3 : Str} {C C1 C2 C3 : Addr} {np np1 np2 np3 tp : Pos}
theorem tst_one (hg : Gl X x) (hm : X.mg x = some (.ref C)) (hdb : (x == ("__debug__" : Str)) = false := by decide) : Tst X (.Name x np) (fun cls => PySem.W.exmOne X.K cls (.ref C)) := by
  intro a oe pn pins σ H s b Q E I hb q
  have at1 := (I.pin (a, oe) (List.mem_append_left _ List.mem_cons_self)).1
  have lt : PySem.W.Looks (model X.prog X.w) s.heap (typeOf (.ref a)) oe.cls := fun A Q E s2 k q => wpAny_typeOf_ref (k _ _ at1) q
  exact ld_glob (X := X.suite a ((a, oe) :: pn)) I hg hm ((PySem.W.exm_one I.kIn lt hb).here (q s.heap fun _ _ e => e)) hdb
theorem tst_two {ctx} (hg1 : Gl X x1) (hm1 : X.mg x1 = some (.ref C1)) (hg2 : Gl X x2) (hm2 : X.mg x2 = some (.ref C2)) (hd1 : (x1 == ("__debug__" : Str)) = false := by decide) (hd2 : (x2 == ("__debug__" : Str)) = false := by decide) :
    Tst X (.Tuple [.Name x1 np1, .Name x2 np2] ctx tp) (fun cls => PySem.W.exmAny X.K cls [.ref C1, .ref C2]) := by
  intro a oe pn pins σ H s b Q E I hb q
  have at1 := (I.pin (a, oe) (List.mem_append_left _ List.mem_cons_self)).1
  refine wpAny_Tuple_spliced (Calls.spliced_cons (ld_glob (X := X.suite a ((a, oe) :: pn)) I hg1 hm1 (Calls.spliced_cons (ld_glob (X := X.suite a ((a, oe) :: pn)) I hg2 hm2 (Calls.spliced_nil ⟨by rw [sizeLine_eq]; simp, ?_⟩) hd2)) hd1))
  have lt : PySem.W.Looks (model X.prog X.w) (s.heap.push { cls := .type "tuple", data := .seq [Value.ref C1, .ref C2].toArray }) (typeOf (.ref a)) oe.cls := fun A Q E s2 k q => wpAny_typeOf_ref (k _ _ (Heap.get?_push_of_some _ at1)) q
  exact (PySem.W.exm_tup2 (I.kIn.keeps fun _ _ e => Heap.get?_push_of_some _ e) lt (Heap.get?_push_size _ rfl) hb).here (q _ fun _ _ e => Heap.get?_push_of_some _ e)
theorem tst_three {ctx} (hg1 : Gl X x1) (hm1 : X.mg x1 = some (.ref C1)) (hg2 : Gl X x2) (hm2 : X.mg x2 = some (.ref C2)) (hg3 : Gl X x3) (hm3 : X.mg x3 = some (.ref C3)) (hd1 : (x1 == ("__debug__" : Str)) = false := by decide) (hd2 : (x2 == ("__debug__" : Str)) = false := by decide) (hd3 : (x3 == ("__debug__" : Str)) = false := by decide) :
    Tst X (.Tuple [.Name x1 np1, .Name x2 np2, .Name x3 np3] ctx tp) (fun cls => PySem.W.exmAny X.K cls [.ref C1, .ref C2, .ref C3]) := by
  intro a oe pn pins σ H s b Q E I hb q
  have at1 := (I.pin (a, oe) (List.mem_append_left _ List.mem_cons_self)).1
  refine wpAny_Tuple_spliced (Calls.spliced_cons (ld_glob (X := X.suite a ((a, oe) :: pn)) I hg1 hm1 (Calls.spliced_cons (ld_glob (X := X.suite a ((a, oe) :: pn)) I hg2 hm2 (Calls.spliced_cons (ld_glob (X := X.suite a ((a, oe) :: pn)) I hg3 hm3 (Calls.spliced_nil ⟨by rw [sizeLine_eq]; simp, ?_⟩) hd3)) hd2)) hd1))
  have lt : PySem.W.Looks (model X.prog X.w) (s.heap.push { cls := .type "tuple", data := .seq [Value.ref C1, .ref C2, .ref C3].toArray }) (typeOf (.ref a)) oe.cls := fun A Q E s2 k q => wpAny_typeOf_ref (k _ _ (Heap.get?_push_of_some _ at1)) q
  exact (PySem.W.exm_tup3 (I.kIn.keeps fun _ _ e => Heap.get?_push_of_some _ e) lt (Heap.get?_push_size _ rfl) hb).here (q _ fun _ _ e => Heap.get?_push_of_some _ e)
end
/-- the ends with the slot i unset -/
def unset (i : Nat) (D : Ends) : Ends := { nx := fun σ H => D.nx (σ.set i none) H, rt := D.rt, bk := fun σ H => D.bk (σ.set i none) H, ct := fun σ H => D.ct (σ.set i none) H }
/-- a clause: whom it takes, the slot of its name, its suite's reading -/
structure Cl where
  m : Value → Option Bool
  slot : Option Nat
  ts : Addr → Value → Option Addr → TS
def Cl.wish (c : Cl) (D : Ends) (a : Addr) (cls : Value) (d : Option Addr) (σ : L2.St) (H : Hp) : Prop := match c.slot with
  | none => c.ts a cls d D σ H
  | some i => c.ts a cls d (unset i D) (σ.set i (some (.ref a))) H
def wCl (Wout : WX) (D : Ends) : List Cl → WX
  | [] => Wout
  | c :: r => fun cls d σ H => ∃ b, c.m cls = some b ∧ (b = true → ∀ a, H a = none → c.wish D a cls d σ H) ∧ (b = false → wCl Wout D r cls d σ H)
inductive ClsOk (X : Cx) : List ExceptHandler → List Cl → Prop
  | nil : ClsOk X [] []
  | only {t : Expr} {m : Value → Option Bool} {ts : Addr → Value → Option Addr → TS} {b0 : Stmt} {su : List Stmt} {ps : Pos} {hds : List ExceptHandler} {l : List Cl} (hc : Tst X t m)
      (hsu : ∀ (a : Addr) (oe : Obj) (cls : Value) (d : Option Addr) (pn : List (Addr × Obj)), L2N.Zn cls d oe → (∃ vs, oe.data = .fields vs) → PSs (X.suite a ((a, oe) :: pn)) (b0 :: su) (ts a cls d)) (r : ClsOk X hds l) :
      ClsOk X (.ExceptHandler (some t) none (b0 :: su) ps :: hds) (⟨m, none, ts⟩ :: l)
  | named {t : Expr} {m : Value → Option Bool} {ts : Addr → Value → Option Addr → TS} {b0 : Stmt} {su : List Stmt} {ps : Pos} {n : Str} {i : Nat} {hds : List ExceptHandler} {l : List Cl} (hN : X.N.Nodup) (hi : X.N[i]? = some n) (hln : X.env.kindOf n = some .local) (hc : Tst X t m)
      (hsu : ∀ (a : Addr) (oe : Obj) (cls : Value) (d : Option Addr) (pn : List (Addr × Obj)), L2N.Zn cls d oe → (∃ vs, oe.data = .fields vs) → PSs (X.suite a ((a, oe) :: pn)) (b0 :: su) (ts a cls d)) (r : ClsOk X hds l) :
      ClsOk X (.ExceptHandler (some t) (some n) (b0 :: su) ps :: hds) (⟨m, some i, ts⟩ :: l)
theorem flying_kept {B h h2 : Heap} {l : List Env} {a : Addr} {Z : Obj → Prop} (fl : HandSPX.FlyingZ B l a Z h) (k : ∀ c o, h.get? c = some o → h2.get? c = some o) : HandSPX.FlyingZ B l a Z h2 := by
  obtain ⟨f1, f2, f3, oe, vs, T, oT, ts, e1, e2, e3, e4, e5, e6, e7, e8⟩ := fl
  exact ⟨fun b o q => k _ _ (f1 b o q), f2, f3.of_keeps fun b o hb _ => ⟨o, k b o hb, rfl⟩, oe, vs, T, oT, ts, k _ _ e1, e2, e3, e4, e5, e6, k _ _ e7, e8⟩
section
variable {X : Cx} {body : List Stmt} {h0 : ExceptHandler} {hds : List ExceptHandler} {l : List Cl} {pos : Pos} {tb : WX → TS} {Wout : WX}
theorem ps_tryC (hs : X.stack = X.env :: X.outer) (hf : X.env.frame = some X.env.locals) (tk : L2N.Takes X Wout)
    (hb : ∀ (W : WX) (pn : List (Addr × Obj)) (xe : Value → Shared → Prop), L2N.Takes (X.tr pn xe) W → PassesOwn (model X.prog X.w) X.A X.env xe → PSs (X.tr pn xe) body (tb W)) (hh : ClsOk X (h0 :: hds) l) :
    PS X (.Try body (h0 :: hds) [] [] pos) (fun D σ H => tb (wCl Wout D l) D σ H) := by
  refine ⟨fun pins s σ H D I h => wpAny_Try_except ?_⟩
  have ok := I.ok
  have hfr : X.A.frames = some (X.env :: X.outer) := hs ▸ ok.frames
  refine wpAny_mono ((hb (wCl Wout D l) (X.pn ++ pins) (fun e s1 => wpAny (model X.prog X.w) X.A (noteFrame e X.env) (fun _ s2 => wpAny (model X.prog X.w) X.A (setFlight e none) (fun _ s3 => wpAny (model X.prog X.w) X.A (handleBy e X.env (h0 :: hds)) (SP X pins D) X.xe s3) X.xe s2) X.xe s1)
    (fun u s1 xx => ?_) PassesOwn.looking).run [] s σ H D (I.toTry _) h) (fun f s1 hsp => ?_) (fun e s1 he => he)
  · obtain ⟨a, B, sI, pinsT, σ1, H1, cls, d, rfl, J0, nb, up, sky, na, os1, ag, w⟩ := xx
    have J : Inv X pins σ1 H1 sI := J0.ofTry ok
    rw [hs] at sky
    show wpAny (model X.prog X.w) X.A (noteFrame (.ref a) X.env) _ _ _
    refine L2N.Sky.land L2N.Zn.steady hfr hf sky fun h3 fl3 up3 => ?_
    -- the clauses, from any heap in which the exception flies
    have go : ∀ {hs2 : List ExceptHandler} {l2 : List Cl}, ClsOk X hs2 l2 → ∀ h4, HandSPX.FlyingZ B (X.env :: X.outer) a (L2N.Zn cls d) h4 → sI.heap.UpToSlots h4 → wCl Wout D l2 cls d σ1 H1 →
        wpAny (model X.prog X.w) X.A (handleBy (.ref a) X.env hs2) (SP X pins D) X.xe { s1 with heap := h4 } := by
      intro hs2 l2 hk
      have su : ∀ {h5 : Heap}, HandSPX.FlyingZ B (X.env :: X.outer) a (L2N.Zn cls d) h5 → sI.heap.UpToSlots h5 → ∃ oe vs, L2N.Zn cls d oe ∧ oe.data = .fields vs ∧ Inv (X.suite a ((a, oe) :: (X.pn ++ pins))) [] σ1 H1 { s1 with heap := h5 } := fun {h5} fl5 up5 => by
        have J5 : Inv X pins σ1 H1 { s1 with heap := h5 } := J.landed nb fl5.1 up5 os1 ag
        obtain ⟨oe, vs, he, hz, hd⟩ := fl5.there
        have nfr : a ∉ frs (X.env :: X.outer) := fun hm => by
          obtain ⟨_, o2, e2, hnf⟩ := fl5.2.2.1.mem hm
          rw [he] at e2
          exact hnf vs (Option.some.inj e2 ▸ hd)
        refine ⟨oe, vs, hz, hd, J5.suite he hd na (fun z => nfr (List.mem_filterMap.mpr ⟨X.env, List.mem_cons_self, by rw [hf, z]⟩)) fun hm => ?_⟩
        obtain ⟨e, he2, q⟩ := List.mem_filterMap.mp hm
        exact nfr (List.mem_filterMap.mpr ⟨e, List.mem_cons_of_mem _ he2, q⟩)
      induction hk with
      | nil =>
        intro h4 fl4 up4 w
        refine wpAny_handleBy_nil ?_
        obtain ⟨k1, k2, k3, oe, vs, T, oT, ts2, he, hz, hd, h1, hr⟩ := id fl4
        unfold PySem.passOn
        refine wpAny_bind (wpAny_field he hd h1 ?_)
        rw [if_neg (show ¬ ((Value.ref T == Value.none) = true) from by simp)]
        have fin : wpAny (model X.prog X.w) X.A (setFlight (.ref a) X.env.frame) (fun _ s4 => wpAny (model X.prog X.w) X.A (throw (.ref a) : Sem Flow) (SP X pins D) X.xe s4) X.xe { s1 with heap := h4 } := by
          rw [hf]
          exact HandSPX.setFlight_upZ fl4 fun h5 hh5 up5 => wpAny_throw (tk _ _ ⟨a, B, sI, pins, σ1, H1, cls, d, rfl, J, nb, up4.trans up5, .inr (.inr (by rw [hs]; exact hh5)), na, os1, ag, w⟩)
        first
          | exact wpAny_bind (wpAny_pure (wpAny_bind fin))
          | exact wpAny_bind fin
      | only hc hsu r ih =>
        intro h4 fl4 up4 w
        obtain ⟨b, hb1, hyes, hno⟩ := w
        obtain ⟨oe, vs, hz, hd, S4⟩ := su fl4 up4
        refine wpAny_handleBy_cons (codeAny_handlers_test (hc a oe _ _ _ _ _ b _ _ S4 (by rw [hz.1]; exact hb1) fun h5 k5 => ?_)) (by intro q; cases q)
        have fl5 := flying_kept fl4 k5
        have up5 : sI.heap.UpToSlots h5 := up4.trans fun c o e _ => ⟨o.slots, k5 c o e⟩
        cases b with
        | true =>
          refine codeAny_handlers_suite (HandSPX.lands_againZ fl5 fun h6 fl6 up6 => ?_)
          obtain ⟨oe6, vs6, hz6, hd6, S6⟩ := su fl6 (up5.trans up6)
          refine wpAny_mono ((hsu a oe6 cls d _ hz6 ⟨_, hd6⟩).run [] _ _ H1 _ S6 (hyes rfl a na)) (fun f s6 hsp => ?_) (fun _ _ z => False.elim z)
          cases f with
          | ret u => obtain ⟨v6, σ6, H6, S7, r6, q6⟩ := hsp; exact ⟨_, _, _, S7.unsuite ok, r6, q6⟩
          | _ => obtain ⟨σ6, H6, S7, q6⟩ := hsp; exact ⟨_, _, S7.unsuite ok, q6⟩
        | false => exact ih h5 fl5 up5 (hno rfl)
      | @named t m ts b0 sui ps n i hds3 l3 hN hi hln hc hsu r ih =>
        intro h4 fl4 up4 w
        obtain ⟨b, hb1, hyes, hno⟩ := w
        obtain ⟨oe, vs, hz, hd, S4⟩ := su fl4 up4
        refine wpAny_handleBy_cons (codeAny_handlers_test (hc a oe _ _ _ _ _ b _ _ S4 (by rw [hz.1]; exact hb1) fun h5 k5 => ?_)) (by intro q; cases q)
        have fl5 := flying_kept fl4 k5
        have up5 : sI.heap.UpToSlots h5 := up4.trans fun c o e _ => ⟨o.slots, k5 c o e⟩
        cases b with
        | true =>
          refine codeAny_handlers_suite_as (HandSPX.lands_againZ fl5 fun h6 fl6 up6 => ?_)
          obtain ⟨oe6, vs6, hz6, hd6, S6⟩ := su fl6 (up5.trans up6)
          refine store_ok (X := X.suite a ((a, oe6) :: (X.pn ++ pins))) (v := .ref a) S6 hN hi (.inl hln) rfl (fun s7 S7 => ?_) (.inr hln)
          refine wpAny_mono ((hsu a oe6 cls d _ hz6 ⟨_, hd6⟩).run [] s7 _ H1 _ S7 (hyes rfl a na)) (fun f s8 hsp => ?_) (fun _ _ z => False.elim z)
          have fin : ∀ {σ8 : L2.St} {H8 : Hp} {Q : Shared → Prop}, Inv (X.suite a ((a, oe6) :: (X.pn ++ pins))) [] σ8 H8 s8 → (∀ s9, Inv X pins (σ8.set i none) H8 s9 → Q s9) →
              wpAny (model X.prog X.w) X.A (do bindName X.env n .none; unbindBehindTheSuite X.env n ps) (fun _ s9 => Q s9) X.xe s8 := fun {σ8 H8 Q} S8 hq => gone_ok (S8.unsuite ok) hN hi hln hq
          cases f with
          | ret u => obtain ⟨v8, σ8, H8, S8, r8, q8⟩ := hsp; exact fin S8 fun s9 J9 => ⟨_, _, _, J9, r8, q8⟩
          | _ => obtain ⟨σ8, H8, S8, q8⟩ := hsp; exact fin S8 fun s9 J9 => ⟨_, _, J9, q8⟩
        | false => exact ih h5 fl5 up5 (hno rfl)
    exact go hh h3 fl3 (up.trans up3) w
  · cases f with
    | next =>
      obtain ⟨σ1, H1, J, q⟩ := hsp
      exact wpAny_execs_nil ⟨σ1, H1, J.ofTry ok, q⟩
    | ret u =>
      obtain ⟨v, σ1, H1, J, r, q⟩ := hsp
      exact ⟨v, σ1, H1, J.ofTry ok, r, q⟩
    | _ =>
      obtain ⟨σ1, H1, J, q⟩ := hsp
      exact ⟨σ1, H1, J.ofTry ok, q⟩
end
end ExX

namespace ExX
open PySem PySem.Spec PyProof.Rows L2
/-- a promise that also speaks of the exception that is handled: its place, class and dict -/
abbrev SpE := Addr → Value → Option Addr → Sp
structure FnE (P : Program) (w : World) (K : PySem.W.Frag) (mg : Str → Option Value) (base : Heap) (CX : CXT) (k : Nat) (f : Addr) (fd : FuncData) (ps : List Str) (sp : SpE) : Prop where
  len : ∀ a cls d vs H Q E, sp a cls d vs H Q E → vs.length = ps.length
  run : ∀ (A : Around) (outer : List Env) (s : Shared) (H : Hp) (args : Args) (us : List Value) (vs : List V) (Q : VK) (E : XK) (p : Addr × Obj) (cls : Value) (d : Option Addr), L2H.RoomH k A → Zc cls d p.2 → (∃ z, p.2.data = .fields z) → L2H.PinOk outer H s p → Env0 P w K mg base A outer s H →
    BindsTo s fd args (ps.zip us) → Vals vs us → sp p.1 cls d vs H Q E → codeAny (model P w) A (.call (.ref f) args) (CR CX outer P w H s Q E) s
theorem fn_ofE {CX : CXT} {P : Program} {w : World} {K : PySem.W.Frag} {mg : Str → Option Value} {base : Heap} {k : Nat} {f : Addr} {name qual : Str} {params : Arguments} {body : List Stmt} {scope : Scope} {dV kV doc pm cdv ct oc : Value} {an od : Option Addr} {osl : Array (Option Value)} {N ps : List Str} {sp : SpE}
    (lk : K.lookup f = some ⟨oc, od, .func (PySem.W.fnOf name qual params body scope dV kV doc pm an cdv ct), osl⟩) (hcd : PySem.W.codeIn K cdv qual = true) (S : FnScope N ps scope) (len : ∀ a cls d vs H Q E, sp a cls d vs H Q E → vs.length = ps.length)
    (hbody : ∀ (A : Around) (outer : List Env) (s : Shared) (H : Hp) (vs : List V) (Q : VK) (E : XK) (p : Addr × Obj) (cls : Value) (d : Option Addr), Zc cls d p.2 → (∃ z, p.2.data = .fields z) → L2H.RoomH k (A.deeper (envOfC qual scope s.heap.objs.size f cdv)) → sp p.1 cls d vs H Q E →
      ∃ t, PSs (L2H.cxH CX P w K mg base N qual scope f cdv A outer s H E p) body t ∧ t { nx := fun _ H1 => Q .non H1, rt := Q } (L2.start N vs) H) :
    FnE P w K mg base CX (k + 1) f (PySem.W.fnOf name qual params body scope dV kV doc pm an cdv ct) ps sp := by
  refine ⟨len, fun A outer s H args us vs Q E p cls d hr hz hd hpin e0 hb r hsp => ?_⟩
  have KX : K.In s.heap := e0.mod.kin.keeps fun b o e => (e0.bs b o e).1
  have hkind : ∀ y ∈ ps.zip us, scope.names.lookup y.1 = some .local ∨ (scope.names.lookup y.1 = some .cell ∧ ((cellsFrom (s.heap.objs.size + 1) scope.names []).lookup y.1).isSome = true) := fun y hy =>
    (S.par y.1 (List.of_mem_zip hy).1).imp id fun q => ⟨q, PySem.W.cellsFrom_some _ _ _ (.inl q)⟩
  refine codeAny_call_function hr.depth (KX _ _ lk) rfl S.co S.gen rfl (PySem.W.codeRec_of KX hcd) (hb _ _ _ _ (wpAny_newFunctionEnv_cells S.kind hkind fun env he s1 x => ?_))
  subst he
  refine ⟨(e0.mod.nolimit.keeps fun b o e => (e0.bs b o e).1).keeps x.toInCall.keep, codeAny_func ?_⟩
  obtain ⟨t, ht, hq⟩ := hbody A outer s H vs Q E p cls d hz hd (hr.deeper _) hsp
  have I : Inv (L2H.cxH CX P w K mg base N qual scope f cdv A outer s H E p) [] (L2.start N vs) H s1 := L2H.inv_startH S hpin e0 (len _ _ _ _ _ _ _ hsp) r x
  refine wpAny_mono (ht.run [] s1 (L2.start N vs) H _ I hq) (fun fl s2 hs => ?_) fun e s2 hs => hs
  cases fl with
  | ret u =>
    obtain ⟨v, σ2, H2, J, rv, q⟩ := hs
    exact ⟨v, H2, J.os, J.bare, J.base, J.hok, rv, q⟩
  | next =>
    obtain ⟨σ2, H2, J, q⟩ := hs
    exact ⟨V.non, H2, J.os, J.bare, J.base, J.hok, rfl, q⟩
  | brk =>
    obtain ⟨_, _, _, q⟩ := hs
    exact q.elim
  | cont =>
    obtain ⟨_, _, _, q⟩ := hs
    exact q.elim
/-- the field f of the handled exception -/
def tFe (K : PySem.W.Frag) (a : Addr) (cls : Value) (d : Option Addr) (f : Str) (te : TE) : TE := fun σ H Q => te σ H fun x H1 => x = .ref a ∧
  ∃ (C dd : Addr) (fs : List (Str × V)) (v : V), cls = .ref C ∧ XfC K C ∧ PySem.W.findIn K (.ref C) f = some none ∧ d = some dd ∧ H1 dd = some (.xd fs) ∧ fs.lookup f = some v ∧ Q v H1
section
variable {X : Cx} {a : Addr} {oe : Obj} {cls : Value} {d : Option Addr} {e : Expr} {te : TE} {pos q : Pos} {n x : Str}
theorem pe_fe (hp : (a, oe) ∈ X.pn) (hz : Zc cls d oe) (hf : ∃ z, oe.data = .fields z) (he : PE X e te) (hb : attributeBase e n X.env (eval e X.env) = eval e X.env := by rfl) : PE X (.Attribute e n pos) (tFe X.K a cls d n te) := by
  refine ⟨fun pins s σ H Q I h => attr_of hb (thn (he.run pins s σ H _ I h) fun u s1 ⟨z, H1, I1, rx, ex, C, dd, fs, v, ec, T, hno, ed, ea, l, w⟩ => ?_)⟩
  subst ex ec ed
  obtain rfl : u = Value.ref a := rx
  have ha := (I1.pin (a, oe) (List.mem_append_left _ hp)).1
  obtain ⟨vs, hd⟩ := hf
  obtain ⟨mA, hns, hr⟩ : ObjOk X.prog X.w H1 s1.heap dd (.xd fs) := I1.hok dd _ ea
  obtain ⟨od, ho, hl⟩ := lookIn_ns hns
  obtain ⟨u, hu, ru⟩ := RelO.some_of (v := v) (o := mA n) (by rw [← l]; exact hr n)
  exact HandSPX.exc_get I1.kIn (⟨ha, hz.1, by unfold PySem.W.notCls; rw [hd] <;> rfl, by rw [hz.2]; exact ho⟩ : PySem.W.InstAt s1.heap a oe C (some od)) T.ga T.gg T.exC (PySem.W.findObj_own T.hdC hno rfl (by rw [hl, hu])) (handed_of ru) ⟨v, H1, I1.tok _, ru, w⟩
variable {CX : CXT} {k : Nat} {f : Addr} {fd : FuncData} {ps : List Str} {sp : SpE} {E : XK} {es : List Expr} {t : TA}
/-- f(e, ..) where an exception is handled -/
theorem pe_callE (F : FnE X.prog X.w X.K X.mg X.base CX k f fd ps sp) (hr : L2H.RoomH k X.A) (hp : (a, oe) ∈ X.pn) (hz : Zc cls d oe) (hf : ∃ z, oe.data = .fields z) (hg : Gl X x) (hm : X.mg x = some (.ref f)) (hk : PySem.W.keepIn X.K (.ref f) = true) (hb : L2.Binds X.K fd ps []) (hx : Passes CX X E)
    (hargs : PA X (e :: es) t) (hdb : (x == ("__debug__" : Str)) = false := by decide) (he : starEach (e :: es) X.env = (false, eval e X.env) :: starEach es X.env := by rfl) (hpl : (backTo pos (starEach es X.env)).any (·.1) = false := by rfl) :
    PE X (.Call (.Name x q) (e :: es) [] pos) (tCall (sp a cls d) [] E t) := by
  refine ⟨fun pins s σ H Q I h => wpAny_Call_Name_kw (ld_glob I hg hm ?_ hdb)⟩
  refine PySem.W.callWith_K (h₀ := X.base) I.ok.mod.kin hk (thn (hargs.run pos pins s σ H _ I h) fun us s1 ⟨vs, H1, I1, r, w⟩ => ⟨I1.kIn, ?_⟩) he hpl
  replace w : sp a cls d (vs ++ []) H1 Q E := w
  rw [List.append_nil] at w
  have hl : us.length = ps.length := by rw [← r.length]; exact F.len _ _ _ _ _ _ _ w
  have b := hb s1 us I1.kIn (by rw [List.append_nil]; exact hl)
  rw [List.append_nil] at b
  have P1 := I1.pin (a, oe) (List.mem_append_left _ hp)
  have hpin : L2H.PinOk X.stack H1 s1 (a, oe) := ⟨P1.1, P1.2.1, fun hm => (List.mem_cons.mp (I1.stkSub a hm)).elim P1.2.2.1 P1.2.2.2.1, P1.2.2.2.2⟩
  refine wpAny_call (codeAny_mono (F.run X.A X.stack s1 H1 ⟨us, []⟩ us vs Q E (a, oe) cls d hr hz hf hpin I1.env0 b r w) fun r s2 hq => ?_)
  cases r with
  | error e => exact hx pins σ H1 s1 e s2 I1 hq
  | ok fl =>
    cases fl with
    | ret u => exact I1.after hq
    | _ => exact hq.elim
end
end ExX

namespace ExX
open PySem PySem.Spec PyProof.Rows L2 LamX
theorem un_over {fs fs2 : List Addr} {H H1 H2 : Hp} {h h1 h2 : Heap} (a : Un fs [] H H1 h h1) (b : Un fs2 [] H1 H2 h1 h2) (hl : ∀ c ∈ fs2, c ∈ fs ∨ h.objs.size ≤ c) : Un fs [] H H2 h h2 where
  keep := fun c o q n hc _ => b.keep c o (a.keep c o q n hc (by simp)) (a.free c o q n (by simp)) (fun z => (hl c z).elim hc fun y => Nat.not_lt.mpr y (Heap.lt_size q)) (by simp)
  slot := fun c o q n hc _ => by
    obtain ⟨sl, e⟩ := a.slot c o q n hc (by simp)
    obtain ⟨sl2, e2⟩ := b.any e (a.free c o q n (by simp)) (by simp)
    exact ⟨sl2, e2⟩
  free := fun c o q n _ => by
    obtain ⟨sl, e⟩ := a.any q n (by simp)
    exact b.free c _ e (a.free c o q n (by simp)) (by simp)
  there := fun c o q _ => by
    obtain ⟨o1, e⟩ := a.there c o q (by simp)
    exact b.there c o1 e (by simp)
  tups := fun c xs q => b.tups c xs (a.tups c xs q)
  frzs := fun c o u q => b.frzs c o u (a.frzs c o u q)
  tbls := fun c ps q => by
    obtain ⟨m, e⟩ := a.tbls c ps q
    obtain ⟨m2, e2⟩ := b.tbls c _ e
    exact ⟨m ++ m2, by rw [e2, Array.append_assoc]⟩
/-- the lambda at f, its code object at c2, made in X -/
def CloO (X : Cx) (params : Arguments) (body : Expr) (scope : Scope) (f c2 : Addr) : HO := .ext fun h => ∃ pm ctv : Value, h.get? f = some (PySem.W.kla_obj "<lambda>" (X.env.qual ++ "<lambda>") params body scope (cloFrom X.env.cells scope.names []) pm c2 ctv)
theorem cloO_tbl {X : Cx} {params : Arguments} {body : Expr} {scope : Scope} {f c2 : Addr} (ps : Array Value) : CloO X params body scope f c2 ≠ .tbl ps := fun z => by
  unfold CloO at z
  cases z
theorem clo_ok {X : Cx} {params : Arguments} {body : Expr} {scope : Scope} {f c2 : Addr} {P : Program} {w : World} {H : Hp} {h : Heap} {pm ctv : Value} (e : h.get? f = some (PySem.W.kla_obj "<lambda>" (X.env.qual ++ "<lambda>") params body scope (cloFrom X.env.cells scope.names []) pm c2 ctv)) :
    ObjOk P w H h f (CloO X params body scope f c2) := ⟨⟨pm, ctv, e⟩, ⟨_, e⟩, fun h1 h2 ⟨a, b, c⟩ st => ⟨a, b, st _ c⟩⟩
section
variable {X : Cx} {pins : List (Addr × Obj)} {σ : L2.St} {H : Hp} {s : Shared}
/-- a lambda is made and tracked -/
theorem lam_made {T : List (Addr × Str)} {c P : Addr} {params : Arguments} {body : Expr} {scope : Scope} {pos : Pos} {E : Value → Shared → Prop} {Q : Value → Shared → Prop} (I : Inv X pins σ H s) (TB : TabB X.base X.mg c P) (hcode : X.env.code = .ref c)
    (hm : (P, X.env.qual ++ "<lambda>") ∈ T) (hu : ∀ p ∈ T, p.1 = P → p.2 = X.env.qual ++ "<lambda>") (hT : Tabs T H) (hdef : defaultsOf params X.env = ([], [])) (hfree : ∀ y ∈ scope.names, y.2 = .free → ∃ c, X.env.cells.lookup y.1 = some c)
    (h : ∀ (f c2 : Addr) (H1 : Hp) (s1 : Shared), Inv X pins σ (upd H1 f (CloO X params body scope f c2)) s1 → ExtN H H1 → Tabs T H1 → H1 f = none → H1 c2 = some (CodeO c2 (X.env.qual ++ "<lambda>")) → Q (.ref f) s1) :
    wpAny (model X.prog X.w) X.A (eval (.Lambda params body scope pos) X.env) Q E s := by
  obtain ⟨ps, hP, ht, ha⟩ := hT _ hm
  refine PySem.W.kla_eval hdef ?_
  have bP : s.heap.BuiltinsAt X.mg P := TB.bm.keeps I.bk
  have hPs : s.heap.get? P = some { cls := .none, data := .fields ps } := I.hok P _ hP
  cases hc : codeAmong pos ps.toList with
  | none =>
    refine PySem.W.kla_makeFunction (mg := X.mg) (c := c) (P := P) (ps := ps) (closure_ok hfree) I.ok.glob (I.mod.glob.keeps I.bk) hcode (TB.code.keeps I.bk) hPs ht hc TB.gP bP fun c2 ctv h2 tk hx hge hlt hrec htb => ?_
    obtain ⟨c3, oc, vs, t, e2, hoc, hd, hv⟩ := hrec
    cases e2
    have nC : H c2 = none := I.hok.fresh hge
    have I1 := inv_table (t' := tk) (more := #[rawInt pos.line, rawInt pos.col, .ref c2]) (h' := h2) I hP hx htb hge ⟨oc, vs, t, hoc, hd, hv⟩
    have hE : ExtN H (upd (upd H P (.tbl (ps ++ #[rawInt pos.line, rawInt pos.col, .ref c2]))) c2 (CodeO c2 (X.env.qual ++ "<lambda>"))) := fun b o e n => by
      rw [upd_ne (ne_of_none e nC), upd_ne (show b ≠ P from fun z => n ps (Option.some.inj (e.symm.trans (by rw [z]; exact hP))))]
      exact e
    have eL : (ps ++ #[rawInt pos.line, rawInt pos.col, .ref c2]).toList = ps.toList ++ [rawInt pos.line, rawInt pos.col, .ref c2] := by simp
    refine h h2.objs.size c2 _ _ (I1.laid (t' := tk) (fun _ _ e => Heap.get?_push_of_some _ e) (Nat.le_refl _) (clo_ok (Heap.get?_push_size _ rfl))) hE (fun p hp => ?_) (I1.hok.fresh (Nat.le_refl _)) upd_same
    by_cases hb : p.1 = P
    · refine ⟨_, by rw [hb, upd_ne (ne_of_none hP nC), upd_same], by rw [eL]; exact PySem.TriplesOk_snoc _ _ _ _ ht, fun pz cv hcv => ?_⟩
      rw [eL] at hcv
      rw [hu p hp hb]
      rcases among_app _ ht hcv with z | z
      · obtain ⟨c0, e1, e2⟩ := ha pz cv z
        exact ⟨c0, e1, hE _ _ e2 codeO_ne⟩
      · exact ⟨c2, z, upd_same⟩
    · obtain ⟨psz, a1, a2, a3⟩ := hT p hp
      refine ⟨psz, by rw [upd_ne (ne_of_none a1 nC), upd_ne hb]; exact a1, a2, fun pz cv hcv => ?_⟩
      obtain ⟨c0, e1, e2⟩ := a3 pz cv hcv
      exact ⟨c0, e1, hE _ _ e2 codeO_ne⟩
  | some cv =>
    obtain ⟨c2, e, hco⟩ := ha pos cv hc
    subst e
    refine PySem.W.kla_makeFunctionHit (mg := X.mg) (c := c) (P := P) (ps := ps) (closure_ok hfree) I.ok.glob (I.mod.glob.keeps I.bk) hcode (TB.code.keeps I.bk) hPs ht hc bP fun ctv h2 tk hx hsz => ?_
    have I1 : Inv X pins σ H { s with heap := h2, toks := tk } := I.kept hx
    exact h h2.objs.size c2 H _ (I1.laid (t' := tk) (fun _ _ e => Heap.get?_push_of_some _ e) (Nat.le_refl _) (clo_ok (Heap.get?_push_size _ rfl))) (ExtN.refl H) hT (I1.hok.fresh (Nat.le_refl _)) hco
end
/-- what is at f acts as tl tells, called from behind s0, H0 -/
structure Acts (P : Program) (w : World) (K : PySem.W.Frag) (mg : Str → Option Value) (base : Heap) (k : Nat) (fs : List Addr) (f : Addr) (s0 : Shared) (H0 : Hp) (tl : XK → Hp → VK → Prop) : Prop where
  fn : ∀ (s1 : Shared) (HZ : Hp) (Q : VK) (E : XK), HOk P w HZ s1.heap → tl E HZ Q → PySem.W.FnAt f s1.heap
  run : ∀ (A : Around) (outer : List Env) (s1 : Shared) (HZ : Hp) (Q : VK) (E : XK), Room k A → Env0 P w K mg base A outer s1 HZ → Un fs [] H0 HZ s0.heap s1.heap → tl E HZ Q →
    codeAny (model P w) A (.call (.ref f) ⟨[], []⟩) (CR (L2N.CX P w) outer P w HZ s1 Q E) s1
/-- the context of a lambda's body: what is raised there has no context of its own -/
abbrev lamC (X : Cx) (A : Around) (outer : List Env) (s : Shared) (H : Hp) (E : XK) (scope : Scope) (f c2 : Addr) : Cx := (lamCx X A outer s H E scope f c2).wish fun e s1 =>
  wpAny (model X.prog X.w) (A.deeper (lamEnv X scope s.heap.objs.size f c2)) (leaving (lamEnv X scope s.heap.objs.size f c2) e) (fun _ s2 => L2N.CX X.prog X.w outer H s E e s2) (fun e2 s2 => L2N.CX X.prog X.w outer H s E e2 s2) s1
/-- a lambda of X's text: what its body reads -/
structure LamD (X : Cx) (k : Nat) where
  params : Arguments
  body : Expr
  scope : Scope
  tb : XK → TE
  L : LamS X.env.scope scope
  hbind : ∀ (q : Str) (cl : List (Str × Addr)) (pm cv ctv : Value), bindArgs (PySem.W.kla_fn "<lambda>" q params body scope cl pm cv ctv) ⟨[], []⟩ = pure []
  hbody : ∀ (f c2 : Addr) (E : XK) (A : Around) (outer : List Env) (s : Shared) (H : Hp), Room k (A.deeper (lamEnv X scope s.heap.objs.size f c2)) → PE (lamC X A outer s H E scope f c2) body (tb E)
/-- such a lambda stands at f -/
def LamD.At {X : Cx} {k : Nat} (D : LamD X k) (f : Addr) (H : Hp) : Prop := ∃ c2, H f = some (CloO X D.params D.body D.scope f c2) ∧ H c2 = some (CodeO c2 (X.env.qual ++ "<lambda>"))
/-- what it does, made with the slots σ -/
def LamD.does {X : Cx} {k : Nat} (D : LamD X k) (f : Addr) (σ : L2.St) : XK → Hp → VK → Prop := fun E HZ Q => D.At f HZ ∧ D.tb E σ HZ Q
section
variable {X : Cx} {pins : List (Addr × Obj)} {σ : L2.St} {H : Hp} {s : Shared}
theorem acts_of {k : Nat} (D : LamD X k) {f : Addr} (I : Inv X pins σ H s) : Acts X.prog X.w X.K X.mg X.base (k + 1) (frs X.stack) f s H (D.does f σ) := by
  refine ⟨fun s1 HZ Q E hok ⟨⟨c2, hcf, hcc⟩, ht⟩ => ?_, fun A outer s1 HZ Q E hr e0 un ⟨⟨c2, hcf, hcc⟩, ht⟩ => ?_⟩
  · obtain ⟨⟨pm, ctv, of1⟩, _, _⟩ := hok f _ hcf
    exact ⟨_, _, _, _, of1⟩
  obtain ⟨⟨pm, ctv, of1⟩, _, _⟩ := e0.hok f _ hcf
  obtain ⟨⟨oc, vs, t, hoc, hdc, hvc⟩, _, _⟩ := e0.hok c2 _ hcc
  refine PySem.W.kla_callFunE hr.depth of1 rfl D.L.co D.L.gen rfl ⟨c2, oc, vs, t, rfl, hoc, hdc, hvc⟩ ?_
  rw [D.hbind]
  have lim : s1.heap.NoLimit := e0.mod.nolimit.keeps fun b o e => (e0.bs b o e).1
  refine wpAny_pure (wpAny_newFunctionEnv (fun y hy => (D.L.own y hy).2) (fun y hy => absurd hy (by simp)) (fun h1 hns hsb => ⟨lim.fresh _ hsb, ?_⟩) D.L.kind)
  show codeAny _ _ (.expr D.body (lamEnv X D.scope s1.heap.objs.size f c2)) _ _
  have kp : ∀ b o, s1.heap.get? b = some o → h1.get? b = some o := fun b o e => hsb.extBut b o (Nat.ne_of_lt (Heap.lt_size e)) (Heap.get?_push_of_some _ e)
  have J : Inv (lamCx X A outer s1 HZ E D.scope f c2) [] σ HZ { s1 with heap := h1, toks := s1.toks + ([] : List (Str × Value)).length } := lam_start2 I D.L e0 hr.hd un hns kp
  refine PySem.W.kla_codeExpr (wpAny_mono ((D.hbody f c2 E A outer s1 HZ (hr.deeper _)).run [] _ _ HZ Q (J.wish _) ht) (fun v s2 hq => ?_) fun e s2 hq => hq)
  obtain ⟨w2, H2, J2, rv, q⟩ := hq
  exact ⟨w2, H2, J2.os, J2.bare, J2.base, J2.hok, rv, q⟩
end
/-- a(), a the name of what acts -/
theorem pe_do {Z : Cx} {W : WX} {k i : Nat} {a : Str} {f : Addr} {fs : List Addr} {s0 : Shared} {H0 : Hp} {tl : XK → Hp → VK → Prop} {p1 p2 : Pos} (ac : Acts Z.prog Z.w Z.K Z.mg Z.base k fs f s0 H0 tl) (hr : Room k Z.A) (hex : Z.ex = []) (hU : Un fs [] H0 Z.H_0 s0.heap Z.s_0.heap)
    (ho : ∀ c ∈ frs Z.outer, c ∈ fs ∨ s0.heap.objs.size ≤ c) (tk : L2N.Takes Z W) (hN : Z.N[i]? = some a) (hv : Vis Z.env.scope a) (hd : (a == ("__debug__" : Str)) = false := by decide) (hcd : (a == ("__classdict__" : Str)) = false := by decide) :
    PE Z (.Call (.Name a p1) [] [] p2) (fun σ H Q => σ[i]? = some (some (.ref f)) ∧ ∃ (E1 : XK) (Q1 : VK), tl E1 H Q1 ∧ (∀ cls d H1, E1 cls d H1 → W cls d σ H1) ∧ ∀ v H1, Q1 v H1 → Q v H1) := by
  refine ⟨fun pins s σ H Q I ⟨hs, E1, Q1, ht, hE, hQ⟩ => wpAny_Call_Name_kw (thn ((pe_var (pos := p1) (i := i) hN hv hd hcd).run pins s σ H (fun v H1 => v = .ref f ∧ H1 = H) I ⟨.ref f, hs, rfl, rfl⟩) fun u s1 ⟨v, H1, I1, r1, ev, eH⟩ => ?_)⟩
  subst ev eH
  obtain rfl : u = Value.ref f := r1
  have base : Un (frs Z.outer) [] Z.H_0 H1 Z.s_0.heap s1.heap := hex ▸ I1.base
  refine PySem.W.callWith_F0 (ac.fn _ _ _ _ I1.hok ht) (wpAny_call (codeAny_mono (ac.run Z.A Z.stack s1 H1 Q1 E1 hr I1.env0 (un_over hU base ho) ht) fun r s2 hq => ?_))
  cases r with
  | error e => exact tk e s2 (L2N.XE.of_call I1 (fun cls d H2 z => hE cls d H2 z) hq)
  | ok fl =>
    cases fl with
    | ret u =>
      obtain ⟨v, H2, c1, c2, c3, c4, c5, c6⟩ := hq
      exact I1.after ⟨v, H2, c1, c2, c3, c4, c5, hQ _ _ c6⟩
    | _ => exact hq.elim
/-- a def of one parameter, handed what acts; it lets nothing out -/
structure FnL (P : Program) (w : World) (K : PySem.W.Frag) (mg : Str → Option Value) (base : Heap) (k : Nat) (g : Addr) (TT : (XK → Hp → VK → Prop) → Hp → VK → Prop) : Prop where
  run : ∀ (kk : Nat) (f : Addr) (fs : List Addr) (s0 : Shared) (H0 : Hp) (tl : XK → Hp → VK → Prop), Acts P w K mg base kk fs f s0 H0 tl → ∀ (A : Around) (outer : List Env) (s : Shared) (H : Hp) (Q : VK), Room (kk + k) A → Env0 P w K mg base A outer s H → Un fs [] H0 H s0.heap s.heap →
    (∀ c ∈ frs outer, c ∈ fs ∨ s0.heap.objs.size ≤ c) → s0.heap.objs.size ≤ s.heap.objs.size → TT tl H Q → codeAny (model P w) A (.call (.ref g) ⟨[.ref f], []⟩) (CR C8.CX0 outer P w H s Q C8.E0) s
section
variable {P : Program} {w : World} {K : PySem.W.Frag} {mg : Str → Option Value} {base : Heap} {k : Nat} {g : Addr} {TT : (XK → Hp → VK → Prop) → Hp → VK → Prop}
theorem fnL_of {x qual a : Str} {st : Stmt} {fd : FuncData} {N : List Str} (F : Fun K x qual st g fd) (S : FnScope N [a] (defScope st)) (hb : L2.Binds K fd [a] [])
    (hbody : ∀ (kk : Nat) (f : Addr) (fs : List Addr) (s0 : Shared) (H0 : Hp) (tl : XK → Hp → VK → Prop), Acts P w K mg base kk fs f s0 H0 tl → ∀ (cdv : Value) (A : Around) (outer : List Env) (s : Shared) (H : Hp) (Q : VK), Room (kk + k) (A.deeper (envOfC qual (defScope st) s.heap.objs.size g cdv)) → Un fs [] H0 H s0.heap s.heap →
      (∀ c ∈ frs outer, c ∈ fs ∨ s0.heap.objs.size ≤ c) → s0.heap.objs.size ≤ s.heap.objs.size → TT tl H Q → ∃ t, PSs (cxOf C8.CX0 P w K mg base N qual (defScope st) g cdv A outer s H C8.E0) (defBody st) t ∧ t { nx := fun _ H1 => Q .non H1, rt := Q } (L2.start N [.ref f]) H) :
    FnL P w K mg base (k + 1) g TT := by
  refine ⟨fun kk f fs s0 H0 tl ac A outer s H Q hr e0 hU ho hz ht => ?_⟩
  obtain ⟨oc, od, kV, doc, pm, an, cdv, ct, osl, rfl, lk, hcd⟩ := F.ex
  have b := hb s [.ref f] (e0.mod.kin.keeps fun b o e => (e0.bs b o e).1) rfl
  exact run_ofS (k := kk + k) (N := N) (ps := [a]) (us := [.ref f]) (vs := [.ref f]) lk hcd S hr e0 b (.cons rfl .nil) rfl fun hr2 => hbody kk f fs s0 H0 tl ac cdv A outer s H Q hr2 hU ho hz ht
end
section
variable {Z : Cx} {k kk i : Nat} {g : Addr} {TT : (XK → Hp → VK → Prop) → Hp → VK → Prop} {x a : Str} {p p1 pos : Pos}
/-- x(a), a the name of what acts -/
theorem pe_hand {f : Addr} {fs : List Addr} {s0 : Shared} {H0 : Hp} {tl : XK → Hp → VK → Prop} (G : FnL Z.prog Z.w Z.K Z.mg Z.base k g TT) (ac : Acts Z.prog Z.w Z.K Z.mg Z.base kk fs f s0 H0 tl) (hr : Room (kk + k) Z.A) (hex : Z.ex = []) (hU : Un fs [] H0 Z.H_0 s0.heap Z.s_0.heap)
    (ho : ∀ c ∈ frs Z.stack, c ∈ fs ∨ s0.heap.objs.size ≤ c) (hg : Gl Z x) (hm : Z.mg x = some (.ref g)) (hk : PySem.W.keepIn Z.K (.ref g) = true) (hN : Z.N[i]? = some a) (hv : Vis Z.env.scope a) (hos : ∀ c ∈ frs Z.outer, c ∈ frs Z.stack) (hz : s0.heap.objs.size ≤ Z.s_0.heap.objs.size) (hdb : (x == ("__debug__" : Str)) = false := by decide) (hd : (a == ("__debug__" : Str)) = false := by decide)
    (hcd : (a == ("__classdict__" : Str)) = false := by decide) (he : starEach [Expr.Name a p1] Z.env = (false, eval (.Name a p1) Z.env) :: starEach [] Z.env := by rfl) (hpl : (backTo pos (starEach [] Z.env)).any (·.1) = false := by rfl) :
    PE Z (.Call (.Name x p) [.Name a p1] [] pos) (fun σ H Q => σ[i]? = some (some (.ref f)) ∧ TT tl H Q) := by
  refine ⟨fun pins s σ H Q I ⟨hs, ht⟩ => wpAny_Call_Name_kw (ld_glob I hg hm ?_ hdb)⟩
  refine PySem.W.callWith_K (h₀ := Z.base) I.ok.mod.kin hk (thn ((pa_cons (pe_var (pos := p1) (i := i) hN hv hd hcd) pa_nil).run pos pins s σ H (fun vs H1 => vs = [.ref f] ∧ H1 = H) I ⟨.ref f, hs, rfl, rfl⟩) fun us s1 ⟨vs, H1, I1, r, ev, eH⟩ => ⟨I1.kIn, ?_⟩) he hpl
  subst ev eH
  cases r with
  | @cons _ u0 _ ur ra rw2 =>
    cases rw2
    obtain rfl : u0 = Value.ref f := ra
    have base : Un (frs Z.outer) [] Z.H_0 H1 Z.s_0.heap s1.heap := hex ▸ I1.base
    refine wpAny_call (codeAny_mono (G.run kk f fs s0 H0 tl ac Z.A Z.stack s1 H1 Q hr I1.env0 (un_over hU base fun c hc => ho c (hos c hc)) ho (Nat.le_trans hz I1.sz) ht) fun r s2 hq => ?_)
    cases r with
    | error e => exact (show False from hq).elim
    | ok fl =>
      cases fl with
      | ret u => exact I1.after hq
      | _ => exact hq.elim
/-- x(e), e giving a lambda of the def's own text -/
theorem pe_give {e : Expr} {te : TE} (G : FnL Z.prog Z.w Z.K Z.mg Z.base k g TT) (hr : Room (kk + 1 + k) Z.A) (hg : Gl Z x) (hm : Z.mg x = some (.ref g)) (hk : PySem.W.keepIn Z.K (.ref g) = true) (h1 : PE Z e te) (hdb : (x == ("__debug__" : Str)) = false := by decide)
    (he : starEach [e] Z.env = (false, eval e Z.env) :: starEach [] Z.env := by rfl) (hpl : (backTo pos (starEach [] Z.env)).any (·.1) = false := by rfl) :
    PE Z (.Call (.Name x p) [e] [] pos) (fun σ H Q => te σ H fun v H1 => ∃ (f : Addr) (D : LamD Z kk), [v] = [V.ref f] ∧ TT (D.does f σ) H1 Q) := by
  refine ⟨fun pins s σ H Q I h => wpAny_Call_Name_kw (ld_glob I hg hm ?_ hdb)⟩
  refine PySem.W.callWith_K (h₀ := Z.base) I.ok.mod.kin hk (thn ((pa_cons h1 pa_nil he).run pos pins s σ H (fun vs H1 => ∃ (f : Addr) (D : LamD Z kk), vs = [.ref f] ∧ TT (D.does f σ) H1 Q) I h) fun us s1 ⟨vs, H1, I1, r, f, D, ev, ht⟩ => ⟨I1.kIn, ?_⟩) he hpl
  subst ev
  cases r with
  | @cons _ u0 _ ur ra rw2 =>
    cases rw2
    obtain rfl : u0 = Value.ref f := ra
    refine wpAny_call (codeAny_mono (G.run (kk + 1) f (frs Z.stack) s1 H1 _ (acts_of D I1) Z.A Z.stack s1 H1 Q hr I1.env0 Un.refl (fun c hc => .inl hc) (Nat.le_refl _) ht) fun r s2 hq => ?_)
    cases r with
    | error e => exact (show False from hq).elim
    | ok fl =>
      cases fl with
      | ret u => exact I1.after hq
      | _ => exact hq.elim
/-- lambda: body -/
theorem pe_lam {T : List (Addr × Str)} {c PT : Addr} (D : LamD Z kk) (TB : TabB Z.base Z.mg c PT) (hcode : Z.env.code = .ref c) (hmT : (PT, Z.env.qual ++ "<lambda>") ∈ T) (hu : ∀ q ∈ T, q.1 = PT → q.2 = Z.env.qual ++ "<lambda>") (hdef : defaultsOf D.params Z.env = ([], [])) :
    PE Z (.Lambda D.params D.body D.scope pos) (fun _ H Q => Tabs T H ∧ ∀ f H1, ExtN H H1 → Tabs T H1 → D.At f H1 → Q (.ref f) H1) := by
  refine ⟨fun pins s σ H Q I ⟨hT, h⟩ => lam_made I TB hcode hmT hu hT hdef (D.L.has I.ok) fun f c2 H1 s1 I1 eN T1 nf hc => ?_⟩
  have ne : ∀ {b : Addr} {o : HO}, H1 b = some o → upd H1 f (CloO Z D.params D.body D.scope f c2) b = some o := fun {b o} e => by rw [upd_ne (ne_of_none e nf)]; exact e
  exact ⟨.ref f, _, I1, rfl, h f _ (fun b o e n => ne (eN b o e n)) (T1.ext fun b o e => ne e) ⟨c2, upd_same, ne hc⟩⟩
/-- x(lambda: body) -/
theorem pe_ask {T : List (Addr × Str)} {c PT : Addr} {lp : Pos} (D : LamD Z kk) (G : FnL Z.prog Z.w Z.K Z.mg Z.base k g TT) (hr : Room (kk + 1 + k) Z.A) (hg : Gl Z x) (hm : Z.mg x = some (.ref g)) (hk : PySem.W.keepIn Z.K (.ref g) = true) (TB : TabB Z.base Z.mg c PT) (hcode : Z.env.code = .ref c)
    (hmT : (PT, Z.env.qual ++ "<lambda>") ∈ T) (hu : ∀ q ∈ T, q.1 = PT → q.2 = Z.env.qual ++ "<lambda>") (hdef : defaultsOf D.params Z.env = ([], [])) (hdb : (x == ("__debug__" : Str)) = false := by decide)
    (he : starEach [.Lambda D.params D.body D.scope lp] Z.env = (false, eval (.Lambda D.params D.body D.scope lp) Z.env) :: starEach [] Z.env := by rfl) (hpl : (backTo pos (starEach [] Z.env)).any (·.1) = false := by rfl) :
    PE Z (.Call (.Name x p) [.Lambda D.params D.body D.scope lp] [] pos) (fun σ H Q => Tabs T H ∧ ∀ f H1, ExtN H H1 → Tabs T H1 → D.At f H1 → TT (D.does f σ) H1 Q) :=
  ⟨fun pins s σ H Q I ⟨h1, h2⟩ => (pe_give (kk := kk) G hr hg hm hk (pe_lam D TB hcode hmT hu hdef) hdb he hpl).run pins s σ H Q I ⟨h1, fun f H1 a b c => ⟨f, D, rfl, h2 f H1 a b c⟩⟩⟩
theorem LamD.At.same {D : LamD Z kk} {f : Addr} {H H1 : Hp} (a : D.At f H) (s : ∀ b o, H b = some o → H1 b = some o) : D.At f H1 := by
  obtain ⟨c2, h1, h2⟩ := a
  exact ⟨c2, s _ _ h1, s _ _ h2⟩
end
end ExX

namespace ExX
open PySem PySem.Spec PyProof.Rows L2
section
variable {prog : Program} {w : World} {A : Around} {E : Value → Shared → Prop} {s : Shared}
/-- a tuple's iterator is at its end, while x1 is handled -/
theorem next_end_hot {it t i : Nat} {items : Array Value} {x1 : Addr} {Q : Option Value → Shared → Prop} (hot : HotX.HotAt A x1 s.heap) (hit : s.heap.IsTupleIter it t i) (ht : s.heap.IsTuple t items) (hx : items[i]? = none) (hne : x1 ≠ it)
    (hQ : ∀ h2, (∀ b o, b ≠ it → s.heap.get? b = some o → h2.get? b = some o) → Q none { s with heap := h2 }) : wpAny (model prog w) A (pyNext (.ref it)) Q E s := by
  obtain ⟨hh, o1, v1, h1, d1, c1⟩ := hot
  obtain ⟨o, ho, hc, hd⟩ := id hit
  obtain ⟨ol, hol, hcl, nl, hdl⟩ := id ht
  unfold pyNext
  refine wpAny_bind (wpAny_attempt (wpAny_callSpecial?_slot (name := Str.ofString "__next__") hit.typeIs F.slot_tuple_iterator_next
    (wpAny_call_entry F.slot_tuple_iterator_next hit.typeIs F.entry_tuple_iterator_next ?_ (F.args_tuple_iterator_next_1 _))))
  show wpAny _ _ (field (.ref it) 0 >>= _) _ _ s
  refine wpAny_bind (wpAny_field ho hd (x := .ref t) rfl ?_)
  show wpAny _ _ (if (Value.ref t == Value.none) = true then _ else _) _ _ s
  rw [if_neg (show ¬ ((Value.ref t == Value.none) = true) from by simp)]
  show wpAny _ _ (field (.ref it) 1 >>= _) _ _ s
  refine wpAny_bind (wpAny_field ho hd (x := .int i 0) rfl ?_)
  show wpAny _ _ (seqItems? (.ref t) >>= _) _ _ s
  refine wpAny_bind (wpAny_seqItems hol hdl ?_)
  simp only [Int.toNat_natCast, hx]
  refine wpAny_bind (wpAny_rule (wpAny_bind (wpAny_setField ho hd (by simp) ?_)))
  show wpAny _ _ (newExc (.type "StopIteration") [] >>= _) _ _ _
  refine wpAny_bind ?_
  simp only [newExc, newTuple]
  refine wpAny_bind (wpAny_newObj_type ?_ (by size_fits))
  refine wpAny_bind (m := firstArgMember _ _) (wpAny_of_eq (a := Value.none) (by first | rfl | (simp only [firstArgMember]; rfl)) (wpAny_newObj_type ?_ (by size_fits)))
  have k : ∀ b u, b ≠ it → s.heap.get? b = some u → (s.heap.update it (Obj.mapFields (·.setIfInBounds 0 Value.none))).get? b = some u := fun b u hb e => (Heap.get?_update_other _ _ (Ne.symm hb)).trans e
  have sz := Heap.lt_size (k x1 o1 hne h1)
  refine HotX.raiseNew_hot (x1 := x1) ⟨hh, o1, v1, Heap.get?_push_of_some _ (Heap.get?_push_of_some _ (k _ _ hne h1)), d1, c1⟩ (Nat.ne_of_lt (Heap.lt_size (Heap.get?_push_of_some _ (k _ _ hne h1)))) (Heap.get?_push_size _ rfl) rfl (by first | (simp; done) | (simp; omega)) ?_
  refine wpAny_bind (wpAny_isInstance (T := "StopIteration") (b := true) ⟨_, Heap.get?_update_self _ (Heap.get?_push_size _ rfl) rfl, rfl⟩ isSubtype_stop ?_)
  refine wpAny_pure (hQ _ fun b o hb e => ?_)
  rw [Heap.get?_update_other _ _ (Nat.ne_of_gt (Heap.lt_size (Heap.get?_push_of_some _ (k b o hb e))))]
  exact Heap.get?_push_of_some _ (Heap.get?_push_of_some _ (k b o hb e))
theorem unpack_hot {t : Addr} {items : Array Value} {x1 : Addr} {Q : List Value → Shared → Prop} (hot : HotX.HotAt A x1 s.heap) (ht : s.heap.IsTuple t items)
    (hQ : ∀ h2, (∀ b o, b ≠ s.heap.objs.size → s.heap.get? b = some o → h2.get? b = some o) → Q items.toList { s with heap := h2 }) : wpAny (model prog w) A (unpackItems (.ref t) items.size none) Q E s := by
  have hlt : t ≠ s.heap.objs.size := by obtain ⟨o, ho, _⟩ := ht; exact Nat.ne_of_lt (Heap.lt_size ho)
  obtain ⟨hh, o1, v1, h1, d1, c1⟩ := hot
  have hxs : x1 ≠ s.heap.objs.size := Nat.ne_of_lt (Heap.lt_size h1)
  unfold unpackItems
  refine wpAny_bind ?_
  unfold notIterableAtAll
  refine wpAny_bind (wpAny_specialOf ht.typeIs F.slot_tuple_iter.lookup (wpAny_pure ?_))
  simp only [Bool.false_eq_true, if_false]
  refine wpAny_bind (wpAny_holding (wpAny_pyIter_tuple ht ?_))
  refine wpAny_bind (wpAny_holding (wpAny_draw_tuple hlt items.size 0 _ _ ⟨_, Heap.get?_push_size _ rfl, rfl, rfl⟩ (ht.push _) (by omega) fun h2 hit2 hs2 => ?_))
  have all : List.take items.size (List.drop 0 items.toList) = items.toList := by rw [List.drop_zero]; exact List.take_of_length_le (by simp)
  rw [all, if_neg (by simp)]
  have ht2 : h2.IsTuple t items := (ht.push _).extBut hs2.extBut hlt
  refine wpAny_bind (wpAny_holding (next_end_hot (x1 := x1) ⟨hh, o1, v1, hs2.extBut _ _ hxs (Heap.get?_push_of_some _ h1), d1, c1⟩ hit2 ht2 (by simp) hxs fun h3 k3 => ?_))
  simp only [Option.isSome_none, Bool.false_eq_true, if_false]
  exact wpAny_pure (hQ h3 fun b o hb e => k3 b o hb (hs2.extBut b o hb (Heap.get?_push_of_some _ e)))
end
/-- a, b = x, y where an exception is handled -/
theorem ps_parH {X : Cx} {pos : Pos} {i j : Nat} {x y : Str} {a b : Expr} {ta : TA} {px py pt : Pos} {kt k2 pt2} (hc : L2H.HotC X) (hN : X.N.Nodup) (hi : X.N[i]? = some x) (hj : X.N[j]? = some y) (hij : i ≠ j)
    (hx : X.env.scope.names.lookup x = some .local) (hy : X.env.scope.names.lookup y = some .local) (ha : PA X [a, b] ta)
    (hw : swappedStores [.Tuple [.Name x px, .Name y py] kt pt] (.Tuple [a, b] k2 pt2) X.env = pure (some [x, y]))
    (hs : swapsWithSole [.Tuple [.Name x px, .Name y py] kt pt] (.Tuple [a, b] k2 pt2) pos.line X.env = pure false := by rfl) :
    PS X (.Assign [.Tuple [.Name x px, .Name y py] kt pt] (.Tuple [a, b] k2 pt2) pos) (tPar i j ta) := by
  refine ⟨fun pins s σ H D I h => ?_⟩
  rw [exec_Assign_arm]
  refine wpAny_bind (wpAny_standAt ?_)
  rw [hs]
  refine wpAny_bind (wpAny_pure ?_)
  rw [if_neg (by decide)]
  refine wpAny_bind (Tuple_ (thn (ha.run _ pins s σ H _ I h) fun us s1 ⟨vs, H1, I1, r1, v, z, e1, q1⟩ => ?_))
  subst e1
  obtain ⟨u1, u2, rfl, rv, rz⟩ : ∃ u1 u2, us = [u1, u2] ∧ RelV v u1 ∧ RelV z u2 := by
    cases r1 with
    | cons p q =>
      cases q with
      | cons p2 q2 =>
        cases q2
        exact ⟨_, _, rfl, p, p2⟩
  refine wpAny_newObj_type ?_ (by show 2 ≤ sizeLine; decide)
  have I2 : Inv X pins σ H1 { s1 with heap := s1.heap.push { cls := .type "tuple", data := .seq [u1, u2].toArray } } := I1.kept (t' := s1.toks) fun b o e => Heap.get?_push_of_some _ e
  rw [hw]
  refine wpAny_bind (wpAny_pure ?_)
  show wpAny (model X.prog X.w) X.A (do rule "assign.swapped-stores"; let items ← unpackItems (.ref s1.heap.objs.size) 2 none; assignInOrder [fun v => bindName X.env y v, fun v => bindName X.env x v] items.reverse; pure Flow.next) _ _ _
  obtain ⟨x1, hot⟩ := hc.at I2
  refine wpAny_bind (wpAny_rule (wpAny_bind (unpack_hot (items := #[u1, u2]) hot (IsTup.new s1.heap _) fun h2 k2 => ?_)))
  have I3 := I2.kept (h' := h2) (t' := s1.toks) fun b o e => k2 b o (Nat.ne_of_lt (Heap.lt_size e)) e
  show wpAny _ _ (assignInOrder [fun v => bindName X.env y v, fun v => bindName X.env x v] [u2, u1] >>= fun _ => pure Flow.next) _ _ _
  refine wpAny_bind (assignInOrder_cons (wpAny_bindName (store_ok I3 hN hj (.inl hy) rz (fun s2 I4 => ?_) (.inr hy))))
  refine assignInOrder_cons (wpAny_bindName (store_ok I4 hN hi (.inl hx) rv (fun s3 I5 => assignInOrder_nil (wpAny_pure ?_)) (.inr hx)))
  rw [List.set_comm _ _ (Ne.symm hij)] at I5
  exact ⟨_, H1, I5, q1⟩
end ExX

namespace ExX
open PySem PySem.Spec PyProof.Rows L2
abbrev luTail : List Value := [.type "LookupError", .type "Exception", .type "BaseException", .type "object"]
abbrev vaTail : List Value := [.type "ValueError", .type "Exception", .type "BaseException", .type "object"]
/-- the body of a class -/
def clsB : Stmt → List Stmt
  | .ClassDef _ _ _ b _ _ _ _ _ _ _ => b
  | _ => []
abbrev initS (s : Stmt) : Stmt := (clsB s).getD 0 (.Pass ⟨0, 0, 0, 0⟩)
theorem txt_int {i : Int} (h : i.natAbs.log2 < 1920) : (Str.ofString (toString i)).length ≤ 1921 := by
  rw [PySem.ofString_length]
  exact int_text_length_le (by decide) h
theorem fits {z : Str} (h : z.length ≤ 10000) : z.length ≤ sizeLine := by rw [sizeLine_eq]; omega
theorem fits_cat {a b : Str} {m n : Nat} (h1 : a.length ≤ m) (h2 : b.length ≤ n) : (a ++ b).length ≤ m + n := by rw [Str.length_append]; omega
/-- an int whose text is short enough -/
def Prt (v : V) : Prop := ∃ i : Int, v = .int i ∧ i.natAbs.log2 < 1920
/-- __init__ of the two classes above all others -/
def spTop (K : PySem.W.Frag) (nid : String) (tl : List Value) : Sp := fun vs H Q _ => ∃ (a C : Addr) (tag msg : Str), vs = [.ref a, .str tag, .str msg] ∧ H a = some (exo a C none) ∧ ExB K C nid tl ∧ PySem.W.findIn K (.ref C) "tag" = some none ∧
  ∀ dx, H dx = none → dx ≠ a → Q .non (upd (upd H dx (exd dx [("tag", .str tag)])) a (exo a C (some dx)))
/-- __init__ of an error with one field -/
def spErrI (K : PySem.W.Frag) (nid : String) (tl : List Value) (fld tag : Str) : Sp := fun vs H Q _ => ∃ (a C : Addr) (v : V), vs = [.ref a, v] ∧ Prt v ∧ H a = some (exo a C none) ∧ ExB K C nid tl ∧ PySem.W.findIn K (.ref C) "tag" = some none ∧ PySem.W.findIn K (.ref C) fld = some none ∧
  ∀ dx, H dx = none → dx ≠ a → Q .non (upd (upd (upd H dx (exd dx [("tag", .str tag)])) a (exo a C (some dx))) dx (exd dx [(fld, v), ("tag", .str tag)]))
/-- an error is on its way: its class, its dict, new, with the field and the tag -/
def Flies (H : Hp) (E : XK) (C : Addr) (fld tag : Str) (v : V) : Prop := ∀ d H1, H d = none → H1 d = some (.xd [(fld, v), ("tag", .str tag)]) → Same H H1 → E (.ref C) (some d) H1
structure Raisable (P : Program) (w : World) (K : PySem.W.Frag) (mg : Str → Option Value) (base : Heap) (k : Nat) (x : Str) (C : Addr) (fld tag : Str) : Prop where
  ex : ∃ (B nid iid : String) (tl : List Value) (fI : Addr) (fd : FuncData), ExcBaseFacts B nid iid tl ∧ ExB K C nid tl ∧ PySem.W.findIn K (.ref C) "__init__" = some (some (.ref fI)) ∧ PySem.W.typeIn K (.ref fI) = some (.type "function") ∧
    FnOk P w K mg base CX0 k fI fd ["self", fld] (spErrI K nid tl fld tag) ∧ L2.Binds K fd ["self", fld] []
  g : mg x = some (.ref C)
  nt : PySem.W.findIn K (.ref C) "tag" = some none
  nf : PySem.W.findIn K (.ref C) fld = some none
  xf : XfC K C
section
variable {X : Cx} {k : Nat} {x fld tag : Str} {C : Addr} {e : Expr} {te : TE} {p pos : Pos}
theorem mk_flies {K : PySem.W.Frag} {nid : String} {tl : List Value} {vs : List V} {H1 : Hp} {Q : XK} (T : ExB K C nid tl) (nt : PySem.W.findIn K (.ref C) "tag" = some none) (nf : PySem.W.findIn K (.ref C) fld = some none) (h : ∃ v, vs = [v] ∧ Prt v ∧ Flies H1 Q C fld tag v) : mkW C (spErrI K nid tl fld tag) vs H1 Q := by
  obtain ⟨v, rfl, hp, fl⟩ := h
  refine ⟨by show 1 ≤ 1000; decide, fun a na => ⟨a, C, v, rfl, hp, upd_same, T, nt, nf, fun dx nd ne => ⟨rfl, dx, _, ?_, upd_same, ?_, ?_⟩⟩⟩
  · rw [upd_ne ne.symm, upd_same]
  · rw [upd_ne ne] at nd
    exact nd
  · rw [upd_ne ne] at nd
    refine fl dx _ nd upd_same fun b o q => ?_
    have hb : b ≠ dx := ne_of_none q nd
    have ha : b ≠ a := ne_of_none q na
    rw [upd_ne hb, del_ne ha, upd_ne hb, upd_ne ha, upd_ne hb, upd_ne ha]
    exact q
theorem pmk_err (T : Raisable X.prog X.w X.K X.mg X.base k x C fld tag) (hr : Room (k + 1) X.A) (hg : Gl X x) (h : PE X e te) (hdb : (x == ("__debug__" : Str)) = false := by decide) (he : starEach [e] X.env = (false, eval e X.env) :: starEach [] X.env := by rfl) (hpl : (backTo pos (starEach [] X.env)).any (·.1) = false := by rfl) :
    L2N.PMk X (.Call (.Name x p) [e] [] pos) (fun σ H Q => te σ H fun v H1 => ∃ v0, [v] = [v0] ∧ Prt v0 ∧ Flies H1 Q C fld tag v0) := by
  obtain ⟨B, nid, iid, tl, fI, fd, FB, TB, iC, tI, G, b⟩ := T.ex
  exact pmk (R := fun vs H1 Q => ∃ v, vs = [v] ∧ Prt v ∧ Flies H1 Q C fld tag v) FB TB iC tI G hr b pass0 hg T.g (pa_cons h pa_nil he) (fun vs H1 Q z => mk_flies TB T.nt T.nf z) hdb he hpl
end
/-- a def that may raise -/
theorem okN {P : Program} {w : World} {K : PySem.W.Frag} {mg : Str → Option Value} {base : Heap} {x qual : Str} {st : Stmt} {f : Addr} {fd : FuncData} {N ps : List Str} {k : Nat} {sp : Sp} (F : Fun K x qual st f fd) (S : FnScope N ps (defScope st)) (len : ∀ vs H Q E, sp vs H Q E → vs.length = ps.length)
    (hbody : ∀ (cdv : Value) (A : Around) (outer : List Env) (s : Shared) (H : Hp) (vs : List V) (Q : VK) (E : XK), Room k (A.deeper (envOfC qual (defScope st) s.heap.objs.size f cdv)) → sp vs H Q E → L2N.Takes (cxOf (L2N.CX P w) P w K mg base N qual (defScope st) f cdv A outer s H E) (fun cls d _ H1 => E cls d H1) →
      ∃ t, PSs (cxOf (L2N.CX P w) P w K mg base N qual (defScope st) f cdv A outer s H E) (defBody st) t ∧ t { nx := fun _ H1 => Q .non H1, rt := Q } (start N vs) H) : FnOk P w K mg base (L2N.CX P w) (k + 1) f fd ps sp := by
  obtain ⟨oc, od, kV, doc, pm, an, cdv, ct, osl, rfl, lk, hcd⟩ := F.ex
  exact fn_of lk hcd S len fun A outer s H vs Q E hr hsp => hbody cdv A outer s H vs Q E hr hsp (L2N.takes_of rfl rfl rfl rfl)
/-- such a def, known by its name -/
structure KnX (P : Program) (w : World) (K : PySem.W.Frag) (mg : Str → Option Value) (base : Heap) (k : Nat) (x : Str) (ps : List Str) (sp : Sp) (f : Addr) (fd : FuncData) : Prop where
  kp : PySem.W.keepIn K (.ref f) = true
  G : FnOk P w K mg base (L2N.CX P w) k f fd ps sp
  b : L2.Binds K fd ps []
  g : mg x = some (.ref f)
theorem lookN {X : Cx} {W : WX} (tk : L2N.Takes X W) {E : XK} (hW : ∀ cls d σ H, E cls d H → W cls d σ H) : Passes (L2N.CX X.prog X.w) X E := L2N.passes_call tk hW
theorem sm_none {H H1 : Hp} (s : Same H H1) {t : Addr} (n : H1 t = none) : H t = none := by
  cases e : H t with
  | none => rfl
  | some o => rw [s _ _ e] at n; cases n
theorem takesN0 {X : Cx} : L2N.Takes X (fun _ _ _ _ => False) := fun _ _ ⟨_, _, _, _, _, _, _, _, _, _, _, _, _, _, _, _, z⟩ => z.elim
end ExX

namespace ExX
open PySem PySem.Spec PyProof.Rows L2
/-- a list comprehension without tests whose element may ask what the def around it knows where the block begins -/
theorem pe_lcI {X : Cx} {elt tg iter : Expr} {scope : Scope} {own : List (Str × Nat)} {pos : Pos} {wi : TI} {g : TG} {te : L2.St → TE} (calm : X.calm = true) (nd : X.N.Nodup) (walk : PI X tg iter wi) (bo : BlkOk X.N X.env.scope scope own)
    (target : ∀ (s : Shared) (H : Hp) (C : Addr) (cl : List (Str × Addr)) (fp : List Addr), PG (X.blk s H scope (compEnvC scope cl C X.env) fp) tg g)
    (item : ∀ (pins : List (Addr × Obj)) (σ : L2.St) (s : Shared) (H : Hp) (C : Addr) (cl : List (Str × Addr)) (fp : List Addr), Inv X pins σ H s → (∀ b ∈ fp, FpOk X pins H b) → PE (X.blk s H scope (compEnvC scope cl C X.env) fp) elt (te σ))
    (fold : ∀ x, foldedSetIterable iter X.env x = pure x := by intro _; rfl) :
    PE X (.ListComp elt [⟨tg, iter, [], 0⟩] scope pos) (fun σ H Q => tLc wi g tYes (te σ) (own.map (·.2)) σ H Q) := by
  refine ⟨fun pins s σ H Q I hyp => ?_⟩
  rw [eval_ListComp]
  have cells : ∀ y ∈ scope.names, y.2 = .free → ∃ c, X.env.cells.lookup y.1 = some c := fun y hy e => (bo.free y hy e).elim (fun z => I.ok.has _ (.inl z)) fun z => I.ok.has _ (.inr z)
  refine wpAny_comprehension_free (use := none) rfl fold (closure_ok cells) bo.kind (fun y hy e => by rw [bo.uniq y hy, e]) (thn (walk.run pins s σ H _ I hyp) fun _ _ h1 => thn h1 fun _ s2 h2 => ?_)
  obtain ⟨it, fp, tn, J, H2, rfl, I2, T, t2, f2, rd⟩ := h2
  refine wpAny_newObj_type (newEnv_comp ?_) (by show 0 ≤ sizeLine; decide)
  -- the new list, at the end of the heap
  obtain ⟨D, eD⟩ : ∃ D, D = s2.heap.objs.size := ⟨_, rfl⟩
  rw [← eD]
  obtain ⟨W, ⟨m0, w0⟩, turn⟩ := rd D (I2.hok.fresh (Nat.le_of_eq eD.symm))
  obtain ⟨H3, eH⟩ : ∃ H3, H3 = upd H2 D (.lst []) := ⟨_, rfl⟩
  obtain ⟨s3, e3⟩ : ∃ s3 : Shared, s3 = { s2 with heap := s2.heap.push { cls := .type "list", data := .seq ([] : List Value).toArray } } := ⟨_, rfl⟩
  have old : ∀ b o, s2.heap.get? b = some o → s3.heap.get? b = some o := fun b o e => by rw [e3]; exact Heap.get?_push_of_some _ e
  have I3 : Inv X pins σ H3 s3 := by
    rw [eH, e3]
    exact I2.laid (t' := s2.toks) (fun b o e => Heap.get?_push_of_some _ e) (Nat.le_of_eq eD.symm) ⟨Nat.zero_le _, [], 0, .nil, by rw [eD]; exact Heap.get?_push_size _ rfl⟩
  have f3 : ∀ b ∈ fp, FpOk X pins H3 b ∧ b < s3.heap.objs.size := fun b hb => by
    obtain ⟨o, e, _⟩ := T.obj _ _ t2 b hb
    exact ⟨⟨by rw [eH, upd_ne (by rw [eD]; exact Nat.ne_of_lt (Heap.lt_size e))]; exact (f2 b hb).1, (f2 b hb).2⟩, Heap.lt_size (old b o e)⟩
  have st := block_start I3 bo nd f3
  rw [← eH] at w0
  rw [← e3]
  -- the block's own names
  obtain ⟨cl, ecl⟩ : ∃ cl, cl = cellsFrom (s3.heap.objs.size + 1) scope.names (cloFrom X.env.cells scope.names []) := ⟨_, rfl⟩
  obtain ⟨C, eC⟩ : ∃ C, C = s3.heap.objs.size := ⟨_, rfl⟩
  have pI := item pins σ s3 H3 C cl fp I3 fun b hb => (f3 b hb).1
  have pG := target s3 H3 C cl fp
  obtain ⟨ce, ece⟩ : ∃ ce, ce = compEnvC scope cl C X.env := ⟨_, rfl⟩
  have ceL : ce.locals = C := by rw [ece]; rfl
  rw [← ecl, ← eC, ← ece] at st
  rw [← ece] at pI pG
  show codeAny _ _ (.compStart (.ListComp elt [⟨tg, iter, [], 0⟩] scope pos) 0 (.ref it) (.ref D) (compEnvC scope (cellsFrom (s3.heap.objs.size + 1) scope.names (cloFrom X.env.cells scope.names [])) s3.heap.objs.size X.env)) (compPost (model X.prog X.w) X.A X.xe none _ (.ref D) s3.heap.objs.size) _
  rw [← ecl, ← eC, ← ece]
  have tb : tn 0 (pushCells (s3.heap.push { cls := .type "dict", data := .dict #[] }) scope.names) := T.keep _ _ _ t2 fun b _ o e => pushCells_keeps _ _ _ _ (Heap.get?_push_of_some _ (old b o e))
  obtain ⟨s4, e4⟩ : ∃ s4 : Shared, s4 = { s3 with heap := pushCells (s3.heap.push { cls := .type "dict", data := .dict #[] }) scope.names } := ⟨_, rfl⟩
  rw [← e4] at st ⊢
  have t4 : tn 0 s4.heap := by rw [e4]; exact tb
  have fOk : ∀ {σ1 : L2.St} {H1 : Hp} {s1 : Shared}, Inv (X.blk s3 H3 scope ce fp) [] σ1 H1 s1 → (∀ b ∈ fp, H1 b = none) → ∀ b ∈ fp, FpOk (X.blk s3 H3 scope ce fp) [] H1 b := fun J1 n b hb =>
    ⟨n b hb, (J1.ok.exf b hb).1, J1.ok.exfs b hb, .inl hb, (J1.ok.exf b hb).2, fun p hp => by cases hp⟩
  have lp : codeAny (model X.prog X.w) X.A (.compLoop (.ListComp elt [⟨tg, iter, [], 0⟩] scope pos) 0 (.ref it) (.ref D) ce) (compPost (model X.prog X.w) X.A X.xe none (EP X pins σ Q) (.ref D) C) s4 := by
    refine compLoop_any (fun n s1 => ∃ i H1, Inv (X.blk s3 H3 scope ce fp) [] (wipe σ (own.map (·.2))) H1 s1 ∧ tn i s1.heap ∧ (∀ b ∈ fp, H1 b = none) ∧ W i n H1) (fun n s5 ⟨i, H5, I5, t5, n5, w5⟩ => ?_) m0 ⟨0, H3, st, t4, fun b hb => (f3 b hb).1.1, w0⟩
    rcases turn i n H5 w5 with ⟨stop, q⟩ | ⟨go, Nx, hNx, step⟩
    · refine thnF (T.done (X.blk s3 H3 scope ce fp) rfl rfl rfl calm i [] s5 _ H5 (fun _ _ => False) I5 (fOk I5 n5) t5 stop) fun r s6 ⟨er, I6⟩ => ?_
      subst er
      have I7 : Inv X pins σ H5 s6 := I3.call' (ch := fp) I6.os I6.base I6.hok I6.bare fun b hb => ⟨(f3 b hb).1.2.2.2.1, (f3 b hb).1.2.1, (f3 b hb).1.2.2.2.2.1, (f3 b hb).1.2.2.2.2.2⟩
      have nC : H5 C = none := by rw [← ceL]; exact I6.free
      obtain ⟨m, hm, _⟩ := I6.loc
      have hm : s6.heap.Ns ce.locals m := hm
      rw [ceL] at hm
      refine ⟨m, hm, fun h8 sb => ?_⟩
      obtain ⟨g0, g1, g2, g3, g4, g5⟩ := I3.fpOk (Nat.le_of_eq eC.symm) nC
      exact ⟨.ref D, H5, I7.turned (t' := s6.toks) (fun b o hb e => (sb.2 b hb).trans e) g0 g1 g3 g4 g5, rfl, q⟩
    · refine thnF (T.item (X.blk s3 H3 scope ce fp) rfl rfl rfl calm i [] s5 _ H5 (fun _ _ => False) I5 (fOk I5 n5) t5 go) fun r s6 ⟨u, er, h6⟩ => ?_
      subst er
      refine thnF h6 fun _ s7 ⟨x, H7, I7, r7, y7, t7, n7⟩ => ?_
      refine thnF (pG.run _ s7 _ H7 x u _ (I7.pinned (fOk I7 n7) (T.obj _ _ t7)) r7 (step x H7 y7)) fun _ s8 ⟨σ8, H8, I8, e8, q8⟩ => wpAny_tests_nil ?_
      rw [if_pos rfl]
      refine thnF (pI.run _ s8 σ8 H8 _ I8 (show te σ σ8 H8 _ from q8)) fun z s9 ⟨yv, H9, I9, r9, acc, hD9, hz9, nx⟩ => ?_
      refine app_ok (X := X.blk s3 H3 scope ce fp) I9 hD9 hz9 r9 fun s10 I10 => ?_
      obtain ⟨m1, lt, w1⟩ := hNx _ nx
      have stay : ∀ b ∈ fp, ∀ o, s7.heap.get? b = some o → s10.heap.get? b = some o ∧ upd H9 D (.lst (acc ++ [yv])) b = none := fun b hb o e => by
        have z := I10.pin (b, o) (List.mem_append_right _ (List.mem_append_right _ (mem_pinsAt hb e)))
        exact ⟨z.1, z.2.1⟩
      refine ⟨m1, lt, i + 1, _, (I10.unpinned (pins := [])).weak (by rw [← e8, wipe_length]) (fun j v e => ?_), T.keep _ _ _ t7 fun b hb o e => (stay b hb o e).1, fun b hb => ?_, w1⟩
      · rw [← e8] at e
        exact (wipe_some e).1
      · obtain ⟨o, e, _⟩ := T.obj _ _ t7 b hb
        exact (stay b hb o e).2
  exact codeAny_compStart_list lp (T.self X.A 0 _ _ _ t4 lp)
/-! ### a lambda with one parameter that has a default -/
open LamX
structure LamT (N : List Str) (sc scope : Scope) (a : Str) : Prop where
  kind : scope.kind = .function
  co : scope.isCoroutine = false
  gen : scope.isGenerator = false
  cel : ∀ y ∈ scope.names, y.2 ≠ .cell
  loc : ∀ y ∈ N, scope.names.lookup y ≠ some .local
  arg : scope.names.lookup a = some .local
  free : ∀ y ∈ scope.names, y.2 = .free → sc.names.lookup y.1 = some .cell ∨ sc.names.lookup y.1 = some .free
def lamTB (N : List Str) (sc scope : Scope) (a : Str) : Bool := decide (scope.kind = .function) && (!scope.isCoroutine && (!scope.isGenerator && (decide (scope.names.lookup a = some .local) && ((N.all fun y => !decide (scope.names.lookup y = some .local)) &&
  scope.names.all fun y => !decide (y.2 = .cell) && (!decide (y.2 = .free) || (decide (sc.names.lookup y.1 = some .cell) || decide (sc.names.lookup y.1 = some .free)))))))
theorem lamT_by {N : List Str} {sc scope : Scope} {a : Str} (h : lamTB N sc scope a = true) : LamT N sc scope a := by
  unfold lamTB at h
  simp only [Bool.and_eq_true, Bool.or_eq_true, Bool.not_eq_true', decide_eq_true_eq, decide_eq_false_iff_not, List.all_eq_true] at h
  obtain ⟨h1, h2, h3, h4, h5, h6⟩ := h
  exact ⟨h1, h2, h3, fun y hy => (h6 y hy).1, h5, h4, fun y hy e => (h6 y hy).2.elim (fun z => absurd e z) id⟩
section
variable {X : Cx} {pins : List (Addr × Obj)} {σ : L2.St} {H HZ : Hp} {s s1 : Shared}
theorem LamT.has {scope : Scope} {a : Str} (L : LamT X.N X.env.scope scope a) (ok : X.Ok) : ∀ y ∈ scope.names, y.2 = .free → ∃ c, X.env.cells.lookup y.1 = some c := fun y hy e => (L.free y hy e).elim (fun z => ok.has _ (.inl z)) fun z => ok.has _ (.inr z)
/-- the body of such a lambda begins -/
theorem lamT_start {A : Around} {outer : List Env} {E : XK} {scope : Scope} {f c2 : Addr} {a : Str} {g : Heap} {tk : Nat} {m1 : Str → Option Value} (I : Inv X pins σ H s) (L : LamT X.N X.env.scope scope a) (e0 : Env0 X.prog X.w X.K X.mg X.base A outer s1 HZ) (hd : A.handled = none)
    (un : Un (frs X.stack) [] H HZ s.heap s1.heap) (hns : g.Ns s1.heap.objs.size m1) (kp : ∀ b o, s1.heap.get? b = some o → g.get? b = some o) : Inv (lamCx X A outer s1 HZ E scope f c2) [] σ HZ { s1 with heap := g, toks := tk } := by
  have hF := L.has I.ok
  have up : ∀ {y c}, (cloFrom X.env.cells scope.names []).lookup y = some c → X.env.cells.lookup y = some c := fun {y c} e => by
    rcases cloFrom_mem (PySem.mem_of_lookup e) with z | ⟨z1, z2⟩
    · cases z
    · obtain ⟨c1, e1⟩ := hF _ z1 rfl
      have e1 : X.env.cells.lookup y = some c1 := e1
      have e2 : c = c1 := by rw [z2, e1]; rfl
      rw [e2]; exact e1
  have dn : ∀ {y}, scope.names.lookup y = some .free → ∃ c, (cloFrom X.env.cells scope.names []).lookup y = some c := fun {y} hl => mem_lookup (cloFrom_has (cells := X.env.cells) (acc := []) (PySem.mem_of_lookup hl))
  have stay : ∀ {c : Addr} {v : Option Value}, H c = none → s.heap.IsCell c v → g.IsCell c v := fun {c v} n ⟨o, ho, hd⟩ => by
    obtain ⟨sl, q⟩ := un.any ho n (by simp)
    exact ⟨_, kp _ _ q, hd⟩
  have no : ∀ {b : Addr} {R : Prop}, b ∈ (lamCx X A outer s1 HZ E scope f c2).ex → R := fun {b R} z => by cases (show b ∈ ([] : List Addr) from z)
  refine ⟨⟨e0.mod, L.kind, rfl, rfl, Nat.le_refl _, fun y z c e1 e2 => I.ok.inj y z c (up e1) (up e2), fun y hy => ?_, fun y c z _ => (Bool.noConfusion (show false = true from z)), fun _ => hd, Around.frames_deeper e0.frames, .inr ⟨rfl, rfl⟩, fun b z => no z, e0.bs, e0.bsz, fun b o e z => no z,
      fun b z => no z, e0.funs, e0.frf⟩, rfl, e0.bare, Un.kept kp, ⟨m1, hns, fun i y v e1 e2 e3 => ?_⟩, fun y c e => ?_, e0.hok.fresh (Nat.le_refl _), fun y c e => ?_, fun q hq => ?_, e0.hok.kept kp, I.len⟩
  · rcases (show scope.names.lookup y = some .cell ∨ scope.names.lookup y = some .free from hy) with z | z
    · exact (L.cel _ (PySem.mem_of_lookup z) rfl).elim
    · exact dn z
  · rcases (show Vis scope y from e3) with k | k | k
    · exact (L.loc y (List.mem_of_getElem? e1) k).elim
    · exact (L.cel _ (PySem.mem_of_lookup k) rfl).elim
    · obtain ⟨m, hn, hl⟩ := I.loc
      have fr := L.free _ (PySem.mem_of_lookup k) rfl
      obtain ⟨u, r, q⟩ := hl i y v e1 e2 (fr.elim (fun z => .inr (.inl z)) fun z => .inr (.inr z))
      obtain ⟨c, ec⟩ := dn k
      refine ⟨u, r, .inr ⟨.inr k, c, ec, ?_⟩⟩
      rcases q with ⟨k2, _⟩ | ⟨_, c3, e4, z⟩
      · have k2 : X.env.scope.names.lookup y = some .local := k2
        have fr : X.env.scope.names.lookup y = some .cell ∨ X.env.scope.names.lookup y = some .free := fr
        rw [k2] at fr
        rcases fr with fr | fr <;> cases fr
      · have := up ec
        rw [e4] at this
        cases this
        exact stay (I.freeC y _ e4) z
  · obtain ⟨v, z⟩ := I.cell y c (up e)
    exact ⟨v, stay (I.freeC y c (up e)) z⟩
  · obtain ⟨v, o, ho, hd⟩ := I.cell y c (up e)
    exact un.free c o ho (I.freeC y c (up e)) (by simp)
  · cases (show q ∈ ([] : List (Addr × Obj)) ++ [] from hq)
end
/-- the lambda at f, its code object at c2, the tuple of its default at T -/
def CloD (X : Cx) (params : Arguments) (body : Expr) (scope : Scope) (f c2 T : Addr) : HO := .ext fun h => ∃ doc pm ctv : Value, h.get? f = some (PySem.W.kdv_obj "<lambda>" (X.env.qual ++ "<lambda>") params (.expr body) scope (cloFrom X.env.cells scope.names []) (.ref T) doc pm c2 ctv)
theorem cloD_ok {X : Cx} {params : Arguments} {body : Expr} {scope : Scope} {f c2 T : Addr} {P : Program} {w : World} {H : Hp} {h : Heap} {doc pm ctv : Value} (e : h.get? f = some (PySem.W.kdv_obj "<lambda>" (X.env.qual ++ "<lambda>") params (.expr body) scope (cloFrom X.env.cells scope.names []) (.ref T) doc pm c2 ctv)) :
    ObjOk P w H h f (CloD X params body scope f c2 T) := ⟨⟨doc, pm, ctv, e⟩, ⟨_, e⟩, fun h1 h2 ⟨a, b, c, d⟩ st => ⟨a, b, c, st _ d⟩⟩
section
variable {X : Cx} {pins : List (Addr × Obj)} {σ : L2.St} {H : Hp} {s : Shared}
theorem lamT_made {T : List (Addr × Str)} {c P : Addr} {params : Arguments} {body e0 : Expr} {scope : Scope} {pos : Pos} {y0 : V} {Q : Value → Shared → Prop} (I : Inv X pins σ H s) (TB : TabB X.base X.mg c P) (hcode : X.env.code = .ref c)
    (hm : (P, X.env.qual ++ "<lambda>") ∈ T) (hu : ∀ p ∈ T, p.1 = P → p.2 = X.env.qual ++ "<lambda>") (hT : Tabs T H) (hdf : params.defaults = [e0]) (hkw : params.kw_defaults = []) (he0 : PE X e0 (fun _ H Q => Q y0 H)) (hfree : ∀ y ∈ scope.names, y.2 = .free → ∃ c, X.env.cells.lookup y.1 = some c)
    (h : ∀ (f c2 t : Addr) (H1 : Hp) (s1 : Shared), Inv X pins σ (upd H1 f (CloD X params body scope f c2 t)) s1 → ExtN H H1 → Tabs T H1 → H1 f = none → H1 c2 = some (CodeO c2 (X.env.qual ++ "<lambda>")) → H1 t = some (.tup [y0]) → Q (.ref f) s1) :
    wpAny (model X.prog X.w) X.A (eval (.Lambda params body scope pos) X.env) Q X.xe s := by
  refine PySem.W.kdv_lam (by rw [hdf]; rfl) hkw ?_
  rw [hdf]
  show wpAny _ _ (evalAll [eval e0 X.env]) _ _ _
  refine evalAll_cons (thn (he0.run pins s σ H (fun v H1 => v = y0 ∧ H1 = H) I ⟨rfl, rfl⟩) fun u s0 ⟨v, H0, I0, r0, ev, eH⟩ => evalAll_nil ?_)
  rw [ev] at r0
  rw [eH] at I0
  rw [makeFunction_eq]
  simp only [List.zip_nil_right, List.filterMap_nil, List.isEmpty_nil, List.isEmpty_cons, Bool.false_eq_true, if_false, if_true, pure_bind]
  refine wpAny_bind (PySem.wpAny_newTextTuple ?_)
  obtain ⟨t, et⟩ : ∃ t, t = s0.heap.objs.size := ⟨_, rfl⟩
  rw [← et]
  have nT : H t = none := I0.hok.fresh (Nat.le_of_eq et.symm)
  obtain ⟨s2, e2⟩ : ∃ s2 : Shared, s2 = { s0 with heap := s0.heap.push { cls := .type "tuple", data := .seq [u].toArray } } := ⟨_, rfl⟩
  have I2 : Inv X pins σ (upd H t (.tup [y0])) s2 := by
    rw [e2]
    refine I0.laid (t' := s0.toks) (fun b o e => Heap.get?_push_of_some _ e) (Nat.le_of_eq et.symm) ⟨by show 1 ≤ sizeLine; decide, [u], .cons r0 .nil, ?_⟩
    rw [et]
    exact IsTup.new s0.heap _
  rw [← e2]
  have x1 : ExtN H (upd H t (.tup [y0])) := fun b o e _ => by rw [upd_ne (ne_of_none e nT)]; exact e
  have hT2 : Tabs T (upd H t (.tup [y0])) := hT.ext fun b o e => by rw [upd_ne (ne_of_none e nT)]; exact e
  obtain ⟨ps, hP, ht, ha⟩ := hT2 _ hm
  have bP : s2.heap.BuiltinsAt X.mg P := TB.bm.keeps I2.bk
  have hPs : s2.heap.get? P = some { cls := .none, data := .fields ps } := I2.hok P _ hP
  cases hc : codeAmong pos ps.toList with
  | none =>
    refine PySem.W.kdv_makeTail (mg := X.mg) (c := c) (P := P) (ps := ps) (closure_ok hfree) I2.ok.glob (I2.mod.glob.keeps I2.bk) hcode (TB.code.keeps I2.bk) hPs ht hc TB.gP bP fun c2 ctv doc h3 tk hx hge hlt hrec htb => ?_
    obtain ⟨c3, oc, vs, tq, z2, hoc, hd, hv⟩ := hrec
    cases z2
    have nC := I2.hok.fresh (a := c2) hge
    have I3 := inv_table (t' := tk) (more := #[rawInt pos.line, rawInt pos.col, .ref c2]) (h' := h3) I2 hP hx htb hge ⟨oc, vs, tq, hoc, hd, hv⟩
    have hE : ExtN (upd H t (.tup [y0])) (upd (upd (upd H t (.tup [y0])) P (.tbl (ps ++ #[rawInt pos.line, rawInt pos.col, .ref c2]))) c2 (CodeO c2 (X.env.qual ++ "<lambda>"))) := fun b o e n => by
      have nb : b ≠ P := fun z => n ps (Option.some.inj (e.symm.trans (by rw [z]; exact hP)))
      rw [upd_ne (ne_of_none e nC), upd_ne nb]
      exact e
    have eL : (ps ++ #[rawInt pos.line, rawInt pos.col, .ref c2]).toList = ps.toList ++ [rawInt pos.line, rawInt pos.col, .ref c2] := by simp
    refine h h3.objs.size c2 t _ _ (I3.laid (t' := tk) (fun _ _ e => Heap.get?_push_of_some _ e) (Nat.le_refl _) (cloD_ok (Heap.get?_push_size _ rfl))) (fun b o e n => hE b o (x1 b o e n) n) (fun p hp => ?_) (I3.hok.fresh (Nat.le_refl _)) upd_same (hE _ _ upd_same (by intro ps z; cases z))
    by_cases hb : p.1 = P
    · refine ⟨_, by rw [hb, upd_ne (ne_of_none hP nC), upd_same], by rw [eL]; exact PySem.TriplesOk_snoc _ _ _ _ ht, fun pz cv hcv => ?_⟩
      rw [eL] at hcv
      rw [hu p hp hb]
      rcases among_app _ ht hcv with z | z
      · obtain ⟨c0, q1, q2⟩ := ha pz cv z
        exact ⟨c0, q1, hE _ _ q2 codeO_ne⟩
      · exact ⟨c2, z, upd_same⟩
    · obtain ⟨psz, a1, a2, a3⟩ := hT2 p hp
      refine ⟨psz, by rw [upd_ne (ne_of_none a1 nC), upd_ne hb]; exact a1, a2, fun pz cv hcv => ?_⟩
      obtain ⟨c0, q1, q2⟩ := a3 pz cv hcv
      exact ⟨c0, q1, hE _ _ q2 codeO_ne⟩
  | some cv =>
    obtain ⟨c2, e, hco⟩ := ha pos cv hc
    subst e
    refine PySem.W.kdv_makeTailHit (mg := X.mg) (c := c) (P := P) (ps := ps) (closure_ok hfree) I2.ok.glob (I2.mod.glob.keeps I2.bk) hcode (TB.code.keeps I2.bk) hPs ht hc bP fun ctv doc h3 tk hx hsz => ?_
    have I3 : Inv X pins σ (upd H t (.tup [y0])) { s2 with heap := h3, toks := tk } := I2.kept hx
    exact h h3.objs.size c2 t _ _ (I3.laid (t' := tk) (fun _ _ e => Heap.get?_push_of_some _ e) (Nat.le_refl _) (cloD_ok (Heap.get?_push_size _ rfl))) x1 hT2 (I3.hok.fresh (Nat.le_refl _)) hco upd_same
end
/-- a lambda that was made in X: where it stands, what its call asks -/
structure Lam (X : Cx) (k : Nat) where
  At : Addr → Hp → Prop
  tb : XK → TE
  acts : ∀ {pins : List (Addr × Obj)} {σ : L2.St} {H : Hp} {s : Shared} {f : Addr}, Inv X pins σ H s → Acts X.prog X.w X.K X.mg X.base (k + 1) (frs X.stack) f s H (fun E HZ Q => At f HZ ∧ tb E σ HZ Q)
  same : ∀ {f : Addr} {H H1 : Hp}, At f H → ExtN H H1 → At f H1
def Lam.does {X : Cx} {k : Nat} (D : Lam X k) (f : Addr) (σ : L2.St) : XK → Hp → VK → Prop := fun E HZ Q => D.At f HZ ∧ D.tb E σ HZ Q
def LamD.lam {X : Cx} {k : Nat} (D : LamD X k) : Lam X k where
  At := D.At
  tb := D.tb
  acts := fun I => acts_of D I
  same := fun ⟨c2, h1, h2⟩ e => ⟨c2, e _ _ h1 cloO_tbl, e _ _ h2 codeO_ne⟩
/-- a lambda of X's text with one parameter that has a default -/
structure LamP (X : Cx) (k : Nat) where
  params : Arguments
  body : Expr
  scope : Scope
  a : Str
  e0 : Expr
  y0 : V
  tb : XK → TE
  L : LamT X.N X.env.scope scope a
  hdf : params.defaults = [e0]
  hkw : params.kw_defaults = []
  he0 : PE X e0 (fun _ H Q => Q y0 H)
  hbind : ∀ (q : Str) (cl : List (Str × Addr)) (T : Addr) (doc pm cv ctv : Value), ∃ kk : Option (Array Value) → Sem (List (Str × Value)), bindArgs (PySem.W.kdv_fn "<lambda>" q params (.expr body) scope cl (.ref T) doc pm cv ctv) ⟨[], []⟩ = seqItems? (.ref T) >>= kk ∧ ∀ u, kk (some #[u]) = pure [(a, u)]
  hbody : ∀ (f c2 : Addr) (E : XK) (A : Around) (outer : List Env) (s : Shared) (H : Hp), Room k (A.deeper (lamEnv X scope s.heap.objs.size f c2)) → PE (lamC X A outer s H E scope f c2) body (tb E)
def LamP.At {X : Cx} {k : Nat} (D : LamP X k) (f : Addr) (H : Hp) : Prop := ∃ c2 T, H f = some (CloD X D.params D.body D.scope f c2 T) ∧ H c2 = some (CodeO c2 (X.env.qual ++ "<lambda>")) ∧ H T = some (.tup [D.y0])
theorem cloD_tbl {X : Cx} {params : Arguments} {body : Expr} {scope : Scope} {f c2 T : Addr} (ps : Array Value) : CloD X params body scope f c2 T ≠ .tbl ps := fun z => by
  unfold CloD at z
  cases z
theorem actsP {X : Cx} {k : Nat} (D : LamP X k) {pins : List (Addr × Obj)} {σ : L2.St} {H : Hp} {s : Shared} {f : Addr} (I : Inv X pins σ H s) : Acts X.prog X.w X.K X.mg X.base (k + 1) (frs X.stack) f s H (fun E HZ Q => D.At f HZ ∧ D.tb E σ HZ Q) := by
  refine ⟨fun s1 HZ Q E hok ⟨⟨c2, T, hcf, hcc, hT⟩, ht⟩ => ?_, fun A outer s1 HZ Q E hr e0 un ⟨⟨c2, T, hcf, hcc, hT⟩, ht⟩ => ?_⟩
  · obtain ⟨⟨doc, pm, ctv, of1⟩, _, _⟩ := hok f _ hcf
    exact ⟨_, _, _, _, of1⟩
  obtain ⟨⟨doc, pm, ctv, of1⟩, _, _⟩ := e0.hok f _ hcf
  obtain ⟨⟨oc, vs, t, hoc, hdc, hvc⟩, _, _⟩ := e0.hok c2 _ hcc
  obtain ⟨_, its, rT, oT, hoT, _, nT, hsT⟩ := e0.hok T _ hT
  cases rT with
  | @cons _ u _ ur ru rr =>
    cases rr
    obtain ⟨kk, hb1, hb2⟩ := D.hbind (X.env.qual ++ "<lambda>") (cloFrom X.env.cells D.scope.names []) T doc pm (.ref c2) ctv
    have bt : BindsTo s1 (PySem.W.kdv_fn "<lambda>" (X.env.qual ++ "<lambda>") D.params (.expr D.body) D.scope (cloFrom X.env.cells D.scope.names []) (.ref T) doc pm (.ref c2) ctv) ⟨[], []⟩ [(D.a, u)] := BindsTo.of_defaults rfl hoT hsT hb1 (hb2 u)
    refine PySem.W.kla_callFunE hr.depth of1 rfl D.L.co D.L.gen rfl ⟨c2, oc, vs, t, rfl, hoc, hdc, hvc⟩ (bt _ _ _ _ ?_)
    have lim : s1.heap.NoLimit := e0.mod.nolimit.keeps fun b o e => (e0.bs b o e).1
    refine wpAny_newFunctionEnv D.L.cel (fun y hy => by rw [List.mem_singleton.mp hy]; exact D.L.arg) (fun h1 hns hsb => ⟨lim.fresh _ hsb, ?_⟩) D.L.kind
    show codeAny _ _ (.expr D.body (lamEnv X D.scope s1.heap.objs.size f c2)) _ _
    have kp : ∀ b o, s1.heap.get? b = some o → h1.get? b = some o := fun b o e => hsb.extBut b o (Nat.ne_of_lt (Heap.lt_size e)) (Heap.get?_push_of_some _ e)
    have J : Inv (lamCx X A outer s1 HZ E D.scope f c2) [] σ HZ { s1 with heap := h1, toks := s1.toks + [(D.a, u)].length } := lamT_start I D.L e0 hr.hd un hns kp
    refine PySem.W.kla_codeExpr (wpAny_mono ((D.hbody f c2 E A outer s1 HZ (hr.deeper _)).run [] _ _ HZ Q (J.wish _) ht) (fun v s2 hq => ?_) fun e s2 hq => hq)
    obtain ⟨w2, H2, J2, rv, q⟩ := hq
    exact ⟨w2, H2, J2.os, J2.bare, J2.base, J2.hok, rv, q⟩
def LamP.lam {X : Cx} {k : Nat} (D : LamP X k) : Lam X k where
  At := D.At
  tb := D.tb
  acts := fun I => actsP D I
  same := fun ⟨c2, T, h1, h2, h3⟩ e => ⟨c2, T, e _ _ h1 cloD_tbl, e _ _ h2 codeO_ne, e _ _ h3 (by intro ps z; cases z)⟩
section
variable {Z : Cx} {k kk i : Nat} {g : Addr} {TT : (XK → Hp → VK → Prop) → Hp → VK → Prop} {x a : Str} {p p1 pos : Pos}
/-- lambda a=..: body -/
theorem pe_lamP {T : List (Addr × Str)} {c PT : Addr} (D : LamP Z kk) (TB : TabB Z.base Z.mg c PT) (hcode : Z.env.code = .ref c) (hmT : (PT, Z.env.qual ++ "<lambda>") ∈ T) (hu : ∀ q ∈ T, q.1 = PT → q.2 = Z.env.qual ++ "<lambda>") :
    PE Z (.Lambda D.params D.body D.scope pos) (fun _ H Q => Tabs T H ∧ ∀ f H1, ExtN H H1 → Tabs T H1 → D.lam.At f H1 → Q (.ref f) H1) := by
  refine ⟨fun pins s σ H Q I ⟨hT, h⟩ => lamT_made I TB hcode hmT hu hT D.hdf D.hkw D.he0 (D.L.has I.ok) fun f c2 t H1 s1 I1 eN T1 nf hc ht => ?_⟩
  have ne : ∀ {b : Addr} {o : HO}, H1 b = some o → upd H1 f (CloD Z D.params D.body D.scope f c2 t) b = some o := fun {b o} e => by rw [upd_ne (ne_of_none e nf)]; exact e
  exact ⟨.ref f, _, I1, rfl, h f _ (fun b o e n => ne (eN b o e n)) (T1.ext fun b o e => ne e) ⟨c2, t, upd_same, ne hc, ne ht⟩⟩
/-- x(a) in a comprehension's block, a one of the lambdas of the def around -/
theorem pe_item {scope : Scope} (G : FnL Z.prog Z.w Z.K Z.mg Z.base k g TT) (hr : Room (kk + 1 + k) Z.A) (hk : PySem.W.keepIn Z.K (.ref g) = true) (hm : Z.mg x = some (.ref g)) (hNi : Z.N[i]? = some a)
    (hg : ∀ (s : Shared) (H : Hp) (C : Addr) (cl : List (Str × Addr)) (fp : List Addr), Gl (Z.blk s H scope (compEnvC scope cl C Z.env) fp) x) (hv : ∀ (C : Addr) (cl : List (Str × Addr)), Vis (compEnvC scope cl C Z.env).scope a)
    (he : ∀ env : Env, starEach [Expr.Name a p1] env = (false, eval (.Name a p1) env) :: starEach [] env := by intro _; rfl) (hpl : ∀ env : Env, (backTo pos (starEach [] env)).any (·.1) = false := by intro _; rfl)
    (hdb : (x == ("__debug__" : Str)) = false := by decide) (hd : (a == ("__debug__" : Str)) = false := by decide) (hcd : (a == ("__classdict__" : Str)) = false := by decide) :
    ∀ (pins : List (Addr × Obj)) (σ : L2.St) (s : Shared) (H : Hp) (C : Addr) (cl : List (Str × Addr)) (fp : List Addr), Inv Z pins σ H s → (∀ b ∈ fp, FpOk Z pins H b) →
      PE (Z.blk s H scope (compEnvC scope cl C Z.env) fp) (.Call (.Name x p) [.Name a p1] [] pos) (fun σ1 H1 Q => ∃ (f : Addr) (D : Lam Z kk), σ1[i]? = some (some (.ref f)) ∧ TT (D.does f σ) H1 Q) := by
  intro pins σ s H C cl fp I hf
  refine ⟨fun pins1 s1 σ1 H1 Q I1 ⟨f, D, hs, ht⟩ => wpAny_Call_Name_kw (ld_glob I1 (hg s H C cl fp) hm ?_ hdb)⟩
  refine PySem.W.callWith_K (h₀ := Z.base) I1.ok.mod.kin hk (thn ((pa_cons (pe_var (X := Z.blk s H scope (compEnvC scope cl C Z.env) fp) (pos := p1) (i := i) hNi (hv C cl) hd hcd) pa_nil (he _)).run pos pins1 s1 σ1 H1 (fun vs H2 => vs = [.ref f] ∧ H2 = H1) I1 ⟨.ref f, hs, rfl, rfl⟩) fun us s2 ⟨vs, H2, I2, r, ev, eH⟩ => ⟨I2.kIn, ?_⟩) (he _) (hpl _)
  subst ev
  rw [eH] at I2
  cases r with
  | @cons _ u0 _ ur ra rw2 =>
    cases rw2
    obtain rfl : u0 = Value.ref f := ra
    have IX : Inv Z pins σ H1 s2 := I.call' (ch := fp) I2.os I2.base I2.hok I2.bare fun b hb => ⟨(hf b hb).2.2.2.1, (hf b hb).2.1, (hf b hb).2.2.2.2.1, (hf b hb).2.2.2.2.2⟩
    refine wpAny_call (codeAny_mono (G.run (kk + 1) f (frs Z.stack) s2 H1 _ (D.acts IX) Z.A Z.stack s2 H1 Q hr I2.env0 Un.refl (fun c hc => .inl hc) (Nat.le_refl _) ht) fun r s3 hq => ?_)
    cases r with
    | error e => exact (show False from hq).elim
    | ok fl =>
      cases fl with
      | ret u => exact I2.after hq
      | _ => exact hq.elim
end
end ExX

namespace ExX
open PySem PySem.Spec PyProof.Rows L2
/-- a list or a tuple -/
def Kd (k : Bool) (K : PySem.W.Frag) (H : Hp) (a : Addr) (xs : List V) : Prop := if k = true then SqL K H a xs else SqT K H a xs
theorem Kd.same {k : Bool} {K : PySem.W.Frag} {H H1 : Hp} {a : Addr} {xs : List V} (h : Kd k K H a xs) (s : Same H H1) : Kd k K H1 a xs := by
  cases k
  · rcases (show SqT K H a xs from h) with (h | ⟨o, h⟩) | h
    · exact .inl (.inl (s _ _ h))
    · exact .inl (.inr ⟨o, s _ _ h⟩)
    · exact .inr h
  · exact s.seq (show SqL K H a xs from h)
theorem Kd.l {K : PySem.W.Frag} {H : Hp} {a : Addr} {xs : List V} (h : SqL K H a xs) : Kd true K H a xs := h
theorem Kd.t {K : PySem.W.Frag} {H : Hp} {a : Addr} {xs : List V} (h : SqT K H a xs) : Kd false K H a xs := h
theorem Kd.sq {k : Bool} {K : PySem.W.Frag} {H : Hp} {a : Addr} {xs : List V} (h : Kd k K H a xs) : SqL K H a xs ∨ SqT K H a xs := by
  cases k
  · exact .inr h
  · exact .inl h
/-- what is walked is one of both -/
def iKd (k : Bool) (K : PySem.W.Frag) (tl : TE) : TI := fun σ H R => if k = true then iList K tl σ H R else iTup K tl σ H R
theorem pi_kd {X : Cx} {tg l : Expr} {tl : TE} (k : Bool) (hl : PE X l tl) : PI X tg l (iKd k X.K tl) := by
  cases k
  · exact ⟨fun pins s σ H R I h => (pi_tup hl).run pins s σ H R I h⟩
  · exact ⟨fun pins s σ H R I h => (pi_list hl).run pins s σ H R I h⟩
theorem for_kd {k : Bool} {K : PySem.W.Frag} {i0 : Nat} {a : Addr} {xs : List V} {g : TG} {tb : TS} {D : Ends} {σ : L2.St} {H : Hp} (hv : σ[i0]? = some (some (.ref a))) (hS : Kd k K H a xs) (Pv : Nat → L2.St → Hp → Prop) (h0 : Pv 0 σ H) (hl : ∀ i σ H, i ≤ xs.length → Pv i σ H → Kd k K H a xs)
    (hs : ∀ i x σ H, xs[i]? = some x → Pv i σ H → g x σ H fun σ2 H2 => tb { D with nx := Pv (i + 1), ct := Pv (i + 1), bk := D.nx } σ2 H2) (hd : ∀ σ H, Pv xs.length σ H → D.nx σ H) : tFor (iKd k K (tVar i0)) g tb D σ H := by
  cases k
  · exact ⟨_, hv, a, rfl, ⟨_, hS⟩, for_tup (xs := xs) Pv h0 hl hs hd⟩
  · exact ⟨_, hv, a, rfl, ⟨_, hS⟩, for_list (xs := xs) Pv h0 hl hs hd⟩
/-- both promises of a def -/
def spOr (s1 s2 : Sp) : Sp := fun vs H Q E => s1 vs H Q (fun _ _ _ => False) ∨ s2 vs H Q E
theorem fn_or {P : Program} {w : World} {K : PySem.W.Frag} {mg : Str → Option Value} {base : Heap} {CX : CXT} {j k : Nat} {f : Addr} {fd : FuncData} {ps : List Str} {s1 s2 : Sp} (F1 : FnOk P w K mg base CX0 j f fd ps s1) (F2 : FnOk P w K mg base CX k f fd ps s2) (h : j ≤ k) : FnOk P w K mg base CX k f fd ps (spOr s1 s2) := by
  refine ⟨fun vs H Q E z => z.elim (F1.len _ _ _ _) (F2.len _ _ _ _), fun A outer s H args us vs Q E hr e0 b r z => ?_⟩
  rcases z with z | z
  · refine codeAny_mono (F1.run A outer s H args us vs Q (fun _ _ _ => False) (hr.mono h) e0 b r z) fun res s2 q => ?_
    cases res with
    | ok fl => cases fl <;> exact q
    | error e => exact (show False from q).elim
  · exact F2.run A outer s H args us vs Q E hr e0 b r z
theorem lookNE {X : Cx} {E : XK} (tk : L2N.Takes X (fun cls d _ H => E cls d H)) : Passes (L2N.CX X.prog X.w) X E := L2N.passes_call tk fun _ _ _ _ z => z
/-- nodes up to the first that is none -/
def NodesEnd (xs : List Int) (n : Nat) (good : List Nat) (ok : Prop) (bad : Int → Prop) : Prop := (∀ x ∈ good, x < n) ∧
  ((xs = good.map (fun v : Nat => (v : Int)) ∧ ok) ∨ ∃ (z : Int) (rest : List Int), xs = good.map (fun v : Nat => (v : Int)) ++ z :: rest ∧ (z < 0 ∨ (n : Int) ≤ z) ∧ z.natAbs.log2 < 1920 ∧ bad z)
theorem NodesEnd.at {xs : List Int} {n : Nat} {good : List Nat} {ok : Prop} {bad : Int → Prop} (h : NodesEnd xs n good ok bad) {i : Nat} {v : V} (hv : (xs.map V.int)[i]? = some v) (hi : i ≤ good.length) :
    (∃ u, good[i]? = some u ∧ v = .int (u : Int) ∧ u < n) ∨ (∃ z, v = .int z ∧ (z < 0 ∨ (n : Int) ≤ z) ∧ z.natAbs.log2 < 1920 ∧ bad z) := by
  rw [List.getElem?_map] at hv
  obtain ⟨k, hk, rfl⟩ := Option.map_eq_some_iff.mp hv
  by_cases h1 : i < good.length
  · refine .inl ⟨good[i], List.getElem?_eq_getElem h1, ?_, h.1 _ (List.getElem_mem h1)⟩
    have e : xs[i]? = some ((good[i] : Nat) : Int) := by
      rcases h.2 with ⟨e, _⟩ | ⟨z, rest, e, _⟩
      · rw [e, List.getElem?_map, List.getElem?_eq_getElem h1]; rfl
      · rw [e, List.getElem?_append_left (by rw [List.length_map]; exact h1), List.getElem?_map, List.getElem?_eq_getElem h1]; rfl
    rw [hk] at e
    rw [Option.some.inj e]
  · have hi2 : i = good.length := by omega
    rcases h.2 with ⟨e, _⟩ | ⟨z, rest, e, h2⟩
    · rw [e, List.getElem?_eq_none (by rw [List.length_map]; omega)] at hk; cases hk
    · rw [e, List.getElem?_append_right (by rw [List.length_map]; omega), List.length_map, hi2, Nat.sub_self] at hk
      have hk : some z = some k := hk
      rw [← Option.some.inj hk]
      exact .inr ⟨z, rfl, h2⟩
theorem NodesEnd.done {xs : List Int} {n : Nat} {good : List Nat} {ok : Prop} {bad : Int → Prop} (h : NodesEnd xs n good ok bad) (hl : (xs.map V.int).length ≤ good.length) : xs = good.map (fun v : Nat => (v : Int)) ∧ ok := by
  rw [List.length_map] at hl
  rcases h.2 with h | ⟨z, rest, e, _⟩
  · exact h
  · rw [e] at hl
    simp at hl
    omega
end ExX
namespace ExX
open PySem PySem.Spec PyProof.Rows L2
theorem lc_kd {k : Bool} {K : PySem.W.Frag} {i0 : Nat} {a : Addr} {xs : List V} {g : TG} {tt : TT} {te : TE} {vs : List Nat} {σ : L2.St} {H : Hp} {Q : VK} (hv : σ[i0]? = some (some (.ref a))) (hS : Kd k K H a xs)
    (h : ∀ D, H D = none → ∃ Pv : Nat → Hp → Prop, Pv 0 (upd H D (.lst [])) ∧ (∀ i H, i ≤ xs.length → Pv i H → Kd k K H a xs) ∧ (∀ i x H, xs[i]? = some x → Pv i H → g x (wipe σ vs) H fun σ2 H2 => wipe σ2 vs = wipe σ vs ∧ tt σ2 H2 fun b H3 =>
      if b = true then te σ2 H3 fun y H4 => ∃ acc, H4 D = some (.lst acc) ∧ acc.length < sizeLine ∧ Pv (i + 1) (upd H4 D (.lst (acc ++ [y]))) else Pv (i + 1) H3) ∧ (∀ H, Pv xs.length H → Q (.ref D) H)) : tLc (iKd k K (tVar i0)) g tt te vs σ H Q := by
  cases k
  · refine ⟨_, hv, a, rfl, ⟨_, hS⟩, fun D nD => ?_⟩
    obtain ⟨Pv, h0, hl, hs, hd⟩ := h D nD
    exact lc_tup (xs := xs) (Qd := Q (.ref D)) Pv h0 hl hs hd
  · refine ⟨_, hv, a, rfl, ⟨_, hS⟩, fun D nD => ?_⟩
    obtain ⟨Pv, h0, hl, hs, hd⟩ := h D nD
    exact lc_list (xs := xs) (Qd := Q (.ref D)) Pv h0 hl hs hd
theorem NodesEnd.len {xs : List Int} {n : Nat} {good : List Nat} {ok : Prop} {bad : Int → Prop} (h : NodesEnd xs n good ok bad) : good.length ≤ xs.length := by
  rcases h.2 with ⟨e, _⟩ | ⟨z, rest, e, _⟩
  · rw [e, List.length_map]; exact Nat.le_refl _
  · rw [e]; simp
end ExX
namespace ExX
open PySem PySem.Spec PyProof.Rows L2
theorem slc_kd {k : Bool} {K : PySem.W.Frag} {i0 j : Nat} {a : Addr} {xs : List V} {g : TG} {tt : TT} {te : TE} {vs : List Nat} {σ : L2.St} {H : Hp} {N : Ends} (hv : σ[i0]? = some (some (.ref a))) (hS : Kd k K H a xs)
    (h : ∀ D, H D = none → ∃ Pv : Nat → Hp → Prop, Pv 0 (upd H D (.lst [])) ∧ (∀ i H, i ≤ xs.length → Pv i H → Kd k K H a xs) ∧ (∀ i x H, xs[i]? = some x → Pv i H → g x (wipe σ vs) H fun σ2 H2 => wipe σ2 vs = wipe σ vs ∧ tt σ2 H2 fun b H3 =>
      if b = true then te σ2 H3 fun y H4 => ∃ acc, H4 D = some (.lst acc) ∧ acc.length < sizeLine ∧ Pv (i + 1) (upd H4 D (.lst (acc ++ [y]))) else Pv (i + 1) H3) ∧ (∀ H, Pv xs.length H → N.nx (σ.set j (some (.ref D))) H)) : tAsg (tLc (iKd k K (tVar i0)) g tt te vs) (gName j) N σ H :=
  lc_kd (Q := fun x H1 => gName j x σ H1 N.nx) hv hS h
end ExX
namespace ExX
open PySem PySem.Spec PyProof.Rows L2
/-- three parameters, given by keywords in the reverse order -/
def sw3 {α : Type} : List α → List α → List α
  | [], [c, b, a] => [a, b, c]
  | _, _ => []
theorem sw3_rel {vs : List V} {us : List Value} {zs : List V} {ws : List Value} (r : Vals vs us) (s : Vals zs ws) : Vals (sw3 vs zs) (sw3 us ws) := by
  cases r with
  | cons _ _ => exact .nil
  | nil =>
    cases s with
    | nil => exact .nil
    | cons h1 t1 =>
      cases t1 with
      | nil => exact .nil
      | cons h2 t2 =>
        cases t2 with
        | nil => exact .nil
        | cons h3 t3 =>
          cases t3 with
          | nil => exact .cons h3 (.cons h2 (.cons h1 .nil))
          | cons _ _ => exact .nil
theorem fun_sw3 {K : PySem.W.Frag} {x qual : Str} {st : Stmt} {f : Addr} {fd : FuncData} {a b c : Str} (F : Fun K x qual st f fd)
    (h : ∀ (kV doc pm : Value) (an : Option Addr) (cdv ct : Value) (u v w : Value), bindArgs (PySem.W.fnOf x qual (defArgs st) (defBody st) (defScope st) .none kV doc pm an cdv ct) ⟨[], [(c, u), (b, v), (a, w)]⟩ = pure [(a, w), (b, v), (c, u)]) : KBinds K fd [a, b, c] [c, b, a] sw3 sw3 := by
  obtain ⟨oc, od, kV, doc, pm, an, cdv, ct, osl, rfl, lk, hcd⟩ := F.ex
  refine ⟨fun s us ws _ hl => ?_, sw3_rel⟩
  match us, ws, hl with
  | [], [u, v, w], _ => exact .of_eq (h kV doc pm an cdv ct u v w)
end ExX
namespace ExX
open PySem PySem.Spec PyProof.Rows L2
/-- f(e, ..) where what is raised is wished for at the slots of the call -/
theorem pe_callN {X : Cx} {W : WX} {k : Nat} {f : Addr} {fd : FuncData} {ps : List Str} {sp : Sp} {x : Str} {q pos : Pos} {e : Expr} {es : List Expr} {t : TA} (F : FnOk X.prog X.w X.K X.mg X.base (L2N.CX X.prog X.w) k f fd ps sp) (hr : Room k X.A) (hg : Gl X x) (hm : X.mg x = some (.ref f)) (hk : PySem.W.keepIn X.K (.ref f) = true) (hb : L2.Binds X.K fd ps []) (tk : L2N.Takes X W)
    (ha : PA X (e :: es) t) (hdb : (x == ("__debug__" : Str)) = false := by decide) (he : starEach (e :: es) X.env = (false, eval e X.env) :: starEach es X.env := by rfl) (hpl : (backTo pos (starEach es X.env)).any (·.1) = false := by rfl) :
    PE X (.Call (.Name x q) (e :: es) [] pos) (fun σ H Q => t σ H fun vs H1 => sp vs H1 Q fun cls d H2 => W cls d σ H2) := by
  refine ⟨fun pins s σ H Q I h => wpAny_Call_Name_kw (ld_glob I hg hm ?_ hdb)⟩
  refine PySem.W.callWith_K (h₀ := X.base) I.ok.mod.kin hk (thn (ha.run pos pins s σ H _ I h) fun us s1 ⟨vs, H1, I1, r, w⟩ => ⟨I1.kIn, ?_⟩) he hpl
  have hl : us.length = ps.length := by rw [← r.length]; exact F.len _ _ _ _ w
  have b := hb s1 us I1.kIn (by rw [List.append_nil]; exact hl)
  rw [List.append_nil] at b
  refine wpAny_call (codeAny_mono (F.run X.A X.stack s1 H1 ⟨us, []⟩ us vs Q _ hr I1.env0 b r w) fun res s2 hq => ?_)
  cases res with
  | error er => exact tk er s2 (L2N.XE.of_call I1 (fun cls d H2 z => z) hq)
  | ok fl =>
    cases fl with
    | ret u => exact I1.after hq
    | _ => exact hq.elim
end ExX
namespace ExX
open PySem PySem.Spec PyProof.Rows L2
/-- one parameter, given by its keyword -/
def sw1 {α : Type} : List α → List α → List α
  | [], [a] => [a]
  | _, _ => []
theorem sw1_rel {vs : List V} {us : List Value} {zs : List V} {ws : List Value} (r : Vals vs us) (s : Vals zs ws) : Vals (sw1 vs zs) (sw1 us ws) := by
  cases r with
  | cons _ _ => exact .nil
  | nil =>
    cases s with
    | nil => exact .nil
    | cons h1 t1 =>
      cases t1 with
      | nil => exact .cons h1 .nil
      | cons h2 t2 => exact .nil
theorem fun_sw1 {K : PySem.W.Frag} {x qual : Str} {st : Stmt} {f : Addr} {fd : FuncData} {a : Str} (F : Fun K x qual st f fd)
    (h : ∀ (kV doc pm : Value) (an : Option Addr) (cdv ct : Value) (u : Value), bindArgs (PySem.W.fnOf x qual (defArgs st) (defBody st) (defScope st) .none kV doc pm an cdv ct) ⟨[], [(a, u)]⟩ = pure [(a, u)]) : KBinds K fd [a] [a] sw1 sw1 := by
  obtain ⟨oc, od, kV, doc, pm, an, cdv, ct, osl, rfl, lk, hcd⟩ := F.ex
  refine ⟨fun s us ws _ hl => ?_, sw1_rel⟩
  match us, ws, hl with
  | [], [u], _ => exact .of_eq (h kV doc pm an cdv ct u)
end ExX

namespace ExX
open PySem PySem.Spec PyProof.Rows L2
theorem meets_enum1 {v : Value} {o : Obj} {H : Heap → Prop} (B : Begins v o H) : Meets (Builtin.«enumerate.__new__» ⟨[.type "enumerate", v], []⟩) (fun _ R s => H s.heap ∧
      R (.ok (.ret (.ref (s.heap.push o).objs.size))) { s with heap := (s.heap.push o).push { cls := .type "enumerate", data := .fields #[.none, .bool false, .ref s.heap.objs.size, rawInt 0, .none, .none] } }) :=
  .of_wp fun prog w A R s h => by
    obtain ⟨hp, g, d, tk, os⟩ := s
    obtain ⟨h1, h⟩ := h
    have hsub := sub_enumerate
    have q1 : ∀ {A' : Around} {E : Value → Shared → Prop} {Q : Value → Shared → Prop}, Q (.ref hp.objs.size) ⟨hp.push o, g, d, tk, os⟩ → wpAny (model prog w) A' (pyIter v) Q E ⟨hp, g, d, tk, os⟩ := fun q => B.iter prog w _ _ ⟨hp, g, d, tk, os⟩ _ h1 q
    wp_walk using q1
    refine wpAny_stack_any fun st => wpAny_pure ?_
    split
    · rename_i c _ _ _ _ _
      cases (c == Value.type "enumerate") <;> (wp_walk using q1; exact ⟨_, rfl, h⟩)
    · wp_walk using q1
      exact ⟨_, rfl, h⟩
/-- enumerate(t), t a tuple -/
theorem call_enumT {prog : Program} {w : World} {A : Around} {E : Value → Shared → Prop} {s : Shared} {t : Addr} {items : Array Value} {Q : Value → Shared → Prop} (hT : s.heap.IsTuple t items)
    (h : ∀ h1, IsEnum h1 (s.heap.objs.size + 1) s.heap.objs.size 0 .none → h1.IsTupleIter s.heap.objs.size t 0 → (∀ b o, s.heap.get? b = some o → h1.get? b = some o) → Q (.ref (s.heap.objs.size + 1)) { s with heap := h1 }) :
    wpAny (model prog w) A (call (.type "enumerate") [.ref t]) Q E s := by
  refine callType_new F.called_enumerate (by decide) (F.typeCall_enumerate_1 _) (F.newCall_enumerate_1 _) (fun obj => F.args_object_init_2 obj _) F.entry_enumerate_new (meets_enum1 (begins_tuple t items)) ⟨hT, ?_⟩
  obtain ⟨oI, eI⟩ : ∃ oI : Obj, oI = { cls := .type "tuple_iterator", data := .fields #[.ref t, .int 0 0] } := ⟨_, rfl⟩
  rw [← eI]
  have sz : (s.heap.push oI).objs.size = s.heap.objs.size + 1 := Heap.size_push ..
  show _ ∧ _
  rw [sz]
  have he := Heap.get?_push_size (s.heap.push oI) (o := { cls := .type "enumerate", data := .fields #[.none, .bool false, .ref s.heap.objs.size, rawInt 0, .none, .none] }) rfl
  rw [sz] at he
  have hi : ((s.heap.push oI).push { cls := .type "enumerate", data := .fields #[.none, .bool false, .ref s.heap.objs.size, rawInt 0, .none, .none] }).get? s.heap.objs.size = some oI := Heap.get?_push_of_some _ (Heap.get?_push_size _ (by rw [eI]; rfl))
  exact ⟨⟨_, he, rfl⟩, h _ he ⟨_, hi, by rw [eI], by rw [eI]; rfl⟩ fun b o x => Heap.get?_push_of_some _ (Heap.get?_push_of_some _ x)⟩
/-- the tuple at a, each item with its number in a new pair -/
def ItE (K : PySem.W.Frag) (a : Addr) : It :=
  ⟨fun i H => ∃ (xs : List V) (x : V), SqT K H a xs ∧ xs[i]? = some x, fun i H v H1 => ∃ T x, v = .ref T ∧ H T = none ∧ H1 = upd H T (.tup [.int (i : Nat), x]) ∧ ∀ xs, SqT K H a xs → xs[i]? = some x, fun i H => ∃ xs : List V, SqT K H a xs ∧ xs.length ≤ i⟩
theorem turn_enumT {P : Program} {w : World} {K : PySem.W.Frag} {elts : List Expr} {kk : Nat} {tpos : Pos} (a e it : Addr) :
    Turn P w K (.Tuple elts kk tpos) (ItE K a) [e, it] e (fun i h => (∃ old, IsEnum h e it ((i : Nat) : Int) old) ∧ h.IsTupleIter it a i ∧ e ≠ it ∧ a ≠ it ∧ a ≠ e) where
  mem := by simp
  obj := fun i h ⟨⟨old, he⟩, ⟨o, ho, hc, hd⟩, _⟩ b hb => by
    rcases List.mem_cons.mp hb with z | z
    · rw [z]; exact ⟨_, he, fun v q => nomatch q⟩
    · rw [List.mem_singleton.mp z]; exact ⟨o, ho, fun v q => by rw [hd] at q; cases q⟩
  keep := fun i h h1 ⟨⟨old, he⟩, hi, r⟩ k => ⟨⟨old, k e (by simp) _ he⟩, hi.at fun o q => k it (by simp) o q, r⟩
  item := by
    intro X hP hw hK hc i pins s σ H E I hf ⟨⟨old, he⟩, hit, hne, hai, hae⟩ ⟨xs, x, hq, hx⟩
    subst hP hw hK
    obtain ⟨its, rv, p, hz⟩ := I.tuple hq
    obtain ⟨u, hu, ru⟩ := rv.get hx
    have hel : e < s.heap.objs.size := Heap.lt_size he
    have hil : it < s.heap.objs.size := by obtain ⟨_, q, _⟩ := hit; exact Heap.lt_size q
    have hlt : i < its.toArray.size := by
      have := (List.getElem?_eq_some_iff.mp hu).1
      simpa using this
    have D := Draws.tuple (prog := X.prog) (w := X.w) (A := X.A.in1) (by simpa using I.ok.hd hc) it a hai its.toArray
    refine wpAny_pyNext_enum_itemD D he ⟨hit, p⟩ hlt hne (by simp [hne, Ne.symm hae]) fun x2 h1 tk hP2 ho ⟨hit1, _⟩ hT hsz hk => ?_
    have e2 : x2 = u := by
      have z : its.toArray[i]? = some u := by simpa using hu
      exact Option.some.inj (hP2.symm.trans z)
    subst e2
    refine ⟨_, rfl, wpAny_letOwnedTupleGo_enum (s := { s with heap := h1, toks := tk + 1 }) ho fun h2 he2 sb => ?_⟩
    have hT2 : h2.get? s.heap.objs.size = some { cls := .type "tuple", data := .seq #[.int i tk, x2] } := (sb.2 _ (Nat.ne_of_gt hel)).trans hT
    have new : ObjOk X.prog X.w (upd H s.heap.objs.size (.tup [.int (i : Nat), x])) h2 s.heap.objs.size (.tup [.int (i : Nat), x]) := ⟨by show 2 ≤ sizeLine; decide, [.int i tk, x2], .cons ⟨_, rfl⟩ (.cons ru .nil), ⟨_, hT2, rfl, _, rfl⟩⟩
    have I1 : Inv X pins σ (upd H s.heap.objs.size (.tup [.int (i : Nat), x])) { s with heap := h2, toks := tk + 1 } :=
      I.turnedNew (ch := [e, it]) (fun b ob hb q => (sb.2 b (fun z => hb (by simp [z]))).trans (hk b ob (fun z => hb (by simp [z])) (fun z => hb (by simp [z])) q)) hf (Nat.le_refl _) new
    refine ⟨.ref s.heap.objs.size, _, I1, rfl, ⟨_, x, rfl, I.hok.fresh (Nat.le_refl _), rfl, fun ys hy => by rw [I.tuple_inj hy hq]; exact hx⟩, ⟨⟨x2, ?_⟩, hit1.at fun o q => (sb.2 it (Ne.symm hne)).trans q, hne, hai, hae⟩, fun b hb => ?_⟩
    · rw [show ((i + 1 : Nat) : Int) = (i : Int) + 1 by omega]; exact he2
    · have hb2 : b < s.heap.objs.size := by
        rcases List.mem_cons.mp hb with z | z
        · rw [z]; exact hel
        · rw [List.mem_singleton.mp z]; exact hil
      rw [upd_ne (Nat.ne_of_lt hb2)]
      exact (hf b hb).1
  done := by
    intro X hP hw hK hc i pins s σ H E I hf ⟨⟨old, he⟩, hit, hne, hai, hae⟩ ⟨xs, hq, hx⟩
    subst hP hw hK
    obtain ⟨its, rv, p, hz⟩ := I.tuple hq
    obtain ⟨f0, f1, f2, f3, f4, f5⟩ := hf it (by simp)
    have hl := rv.length
    have hh : X.A.in1.handled = none := by simpa using I.ok.hd hc
    have D0 : Draws X.prog X.w X.A.in1 it [it, a] i (fun j v => False) (fun j h => j = i ∧ h.IsTupleIter it a i ∧ h.IsTuple a its.toArray) :=
      { live := fun _ _ ⟨_, ⟨o, ho, _⟩, _⟩ => ⟨o, ho⟩
        frame := fun _ _ _ ⟨r, st1, st2⟩ hk => ⟨r, st1.at fun o e => hk it (by simp) o e, st2.at fun o e => hk a (by simp) o e⟩
        item := fun j s Q E hj ⟨r, _⟩ _ => absurd r (Nat.ne_of_lt hj)
        done := fun s Q E ⟨_, st1, st2⟩ hE => wpAny_nextOf_tuple_end hh st1 st2 (by simp; omega) hE }
    exact wpAny_pyNext_enum_endD D0 he ⟨rfl, hit, p⟩ fun h1 eb => ⟨rfl, I.turned (t' := s.toks) (fun b o hb q => eb b o hb q) f0 f1 f3 f4 f5⟩
  self := fun A i s Q E ⟨⟨_, he⟩, _⟩ h => wpAny_pyIter_enum he h
def iEnumT (K : PySem.W.Frag) (ta : TA) : TI := fun σ H R => ta σ H fun vs H1 => ∃ a xs, vs = [.ref a] ∧ SqT K H1 a xs ∧ R (ItE K a) H1
theorem pi_enumT {X : Cx} {e : Expr} {ta : TA} {p pos tpos : Pos} {elts : List Expr} {kk : Nat} (hg : Gl X "enumerate") (hm : X.mg "enumerate" = none) (ha : PA X [e] ta) (hs : starEach [e] X.env = [(false, eval e X.env)] := by rfl) :
    PI X (.Tuple elts kk tpos) (.Call (.Name "enumerate" p) [e] [] pos) (iEnumT X.K ta) := by
  refine ⟨fun pins s σ H R I h => ?_⟩
  refine Call_ (ld_blt I hg hm boot_enumerate (PyProof.Rows.callWith_type1 (thn (ha.run pos pins s σ H _ I h) fun us s1 ⟨vs, H1, I1, r1, a, xs, ex, hq, q⟩ => ?_) hs rfl))
  subst ex
  cases r1 with
  | cons r rr =>
    cases rr
    cases r
    obtain ⟨its, rv, p2, hz⟩ := I1.tuple hq
    have al : a < s1.heap.objs.size := p2.lt
    refine call_enumT p2 fun h1 he hit hk => wpAny_pyIter_enum he ?_
    have I2 : Inv X pins σ H1 { s1 with heap := h1 } := I1.kept (t' := s1.toks) hk
    refine ⟨s1.heap.objs.size + 1, [s1.heap.objs.size + 1, s1.heap.objs.size], _, _, H1, rfl, I2, turn_enumT a (s1.heap.objs.size + 1) s1.heap.objs.size, ⟨⟨.none, he⟩, hit, Nat.succ_ne_self _, Nat.ne_of_lt al, Nat.ne_of_lt (Nat.lt_succ_of_lt al)⟩, fun b hb => ?_, q⟩
    have hle : s1.heap.objs.size ≤ b := by
      rcases List.mem_cons.mp hb with z | z
      · rw [z]; exact Nat.le_succ _
      · rw [List.mem_singleton.mp z]; exact Nat.le_refl _
    exact I1.fpOk hle (I1.hok.fresh hle)
/-- a comprehension over enumerate(t) -/
theorem lc_enumT {K : PySem.W.Frag} {a : Addr} {xs : List V} {g : TG} {tt : TT} {te : TE} {vs : List Nat} {σ : L2.St} {H1 : Hp} {D : Addr} {Qd : Hp → Prop} (Pv : Nat → Hp → Prop) (h0 : Pv 0 (upd H1 D (.lst []))) (hl : ∀ i H, i ≤ xs.length → Pv i H → SqT K H a xs)
    (hs : ∀ i x H T, xs[i]? = some x → Pv i H → H T = none → g (.ref T) (wipe σ vs) (upd H T (.tup [.int (i : Nat), x])) fun σ2 H2 => wipe σ2 vs = wipe σ vs ∧ tt σ2 H2 fun b H3 =>
      if b = true then te σ2 H3 fun y H4 => ∃ acc, H4 D = some (.lst acc) ∧ acc.length < sizeLine ∧ Pv (i + 1) (upd H4 D (.lst (acc ++ [y]))) else Pv (i + 1) H3) (hd : ∀ H, Pv xs.length H → Qd H) :
    ∃ W : Nat → Nat → Hp → Prop, (∃ m, W 0 m (upd H1 D (.lst []))) ∧ ∀ i m H, W i m H →
      ((ItE K a).stop i H ∧ Qd H) ∨ ((ItE K a).go i H ∧ ∃ Nx : Hp → Prop, (∀ H2, Nx H2 → ∃ m2, m2 < m ∧ W (i + 1) m2 H2) ∧ ∀ x H2, (ItE K a).yld i H x H2 → g x (wipe σ vs) H2 fun σ2 H2 => wipe σ2 vs = wipe σ vs ∧ tt σ2 H2 fun b H3 =>
        if b = true then te σ2 H3 fun y H4 => ∃ acc, H4 D = some (.lst acc) ∧ acc.length < sizeLine ∧ Nx (upd H4 D (.lst (acc ++ [y]))) else Nx H3) := by
  refine ⟨fun i m H => m = xs.length - i ∧ i ≤ xs.length ∧ Pv i H, ⟨xs.length, by simp, Nat.zero_le _, h0⟩, fun i m H ⟨em, hi, hp⟩ => ?_⟩
  subst em
  have hq := hl i H hi hp
  by_cases hlt : i < xs.length
  · refine .inr ⟨⟨xs, xs[i], hq, by simp [hlt]⟩, Pv (i + 1), fun H2 p2 => ⟨xs.length - (i + 1), by omega, rfl, hlt, p2⟩, fun x H2 ⟨T, y, ex, nT, eH, hy⟩ => ?_⟩
    subst ex eH
    exact hs i y H T (hy xs hq) hp nT
  · have : i = xs.length := by omega
    subst this
    exact .inl ⟨⟨xs, hq, Nat.le_refl _⟩, hd H hp⟩
end ExX
namespace ExX
open PySem PySem.Spec PyProof.Rows L2
theorem for_enumT {K : PySem.W.Frag} {a : Addr} {xs : List V} {g : TG} {tb : TS} {D : Ends} {σ : L2.St} {H : Hp} (Pv : Nat → L2.St → Hp → Prop) (h0 : Pv 0 σ H) (hl : ∀ i σ H, i ≤ xs.length → Pv i σ H → SqT K H a xs)
    (hs : ∀ i x σ H T, xs[i]? = some x → Pv i σ H → H T = none → g (.ref T) σ (upd H T (.tup [.int (i : Nat), x])) fun σ2 H2 => tb { D with nx := Pv (i + 1), ct := Pv (i + 1), bk := D.nx } σ2 H2) (hd : ∀ σ H, Pv xs.length σ H → D.nx σ H) :
    ∃ W : Nat → Nat → L2.St → Hp → Prop, (∃ m, W 0 m σ H) ∧ ∀ i m σ H, W i m σ H →
      ((ItE K a).stop i H ∧ D.nx σ H) ∨ ((ItE K a).go i H ∧ ∃ N : L2.St → Hp → Prop, (∀ σ2 H2, N σ2 H2 → ∃ m2, m2 < m ∧ W (i + 1) m2 σ2 H2) ∧ ∀ x H2, (ItE K a).yld i H x H2 → g x σ H2 fun σ2 H2 => tb { D with nx := N, ct := N, bk := D.nx } σ2 H2) := by
  refine ⟨fun i m σ H => m = xs.length - i ∧ i ≤ xs.length ∧ Pv i σ H, ⟨xs.length, by simp, Nat.zero_le _, h0⟩, fun i m σ H ⟨em, hi, hp⟩ => ?_⟩
  subst em
  have hq := hl i σ H hi hp
  by_cases hlt : i < xs.length
  · refine .inr ⟨⟨xs, xs[i], hq, by simp [hlt]⟩, Pv (i + 1), fun σ2 H2 p2 => ⟨xs.length - (i + 1), by omega, rfl, hlt, p2⟩, fun x H2 ⟨T, y, ex, nT, eH, hy⟩ => ?_⟩
    subst ex eH
    exact hs i y σ H T (hy xs hq) hp nT
  · have : i = xs.length := by omega
    subst this
    exact .inl ⟨⟨xs, hq, Nat.le_refl _⟩, hd σ H hp⟩
end ExX

namespace ExX
open PySem PySem.Spec PyProof.Rows L2
/-- a def that may raise, called where it does not -/
theorem fn_no {P : Program} {w : World} {K : PySem.W.Frag} {mg : Str → Option Value} {base : Heap} {k : Nat} {f : Addr} {fd : FuncData} {ps : List Str} {sp sp' : Sp} (F : FnOk P w K mg base (L2N.CX P w) k f fd ps sp) (h : ∀ vs H Q E, sp' vs H Q E → sp vs H Q (fun _ _ _ => False)) : FnOk P w K mg base CX0 k f fd ps sp' := by
  refine ⟨fun vs H Q E z => F.len _ _ _ _ (h _ _ _ _ z), fun A outer s H args us vs Q E hr e0 b r z => ?_⟩
  refine codeAny_mono (F.run A outer s H args us vs Q (fun _ _ _ => False) hr e0 b r (h _ _ _ _ z)) fun res s2 q => ?_
  cases res with
  | ok fl => cases fl <;> exact q
  | error e =>
    have q : L2N.CX P w outer H s (fun _ _ _ => False) e s2 := q
    unfold L2N.CX at q
    simp at q
def noE (sp : Sp) : Sp := fun vs H Q _ => sp vs H Q fun _ _ _ => False
theorem fn_noE {P : Program} {w : World} {K : PySem.W.Frag} {mg : Str → Option Value} {base : Heap} {k : Nat} {f : Addr} {fd : FuncData} {ps : List Str} {sp : Sp} (F : FnOk P w K mg base (L2N.CX P w) k f fd ps sp) : FnOk P w K mg base CX0 k f fd ps (noE sp) := fn_no F fun _ _ _ _ z => z
theorem Flies.same {H H1 : Hp} {E : XK} {C : Addr} {fld tag : Str} {v : V} (f : Flies H E C fld tag v) (s : Same H H1) : Flies H1 E C fld tag v := fun d H2 n h s2 => f d H2 (sm_none s n) h (s.trans s2)
end ExX

namespace ExX
open PySem PySem.Spec PyProof.Rows L2
/-! Method calls with keywords, and method calls whose error is wished for at the slots of the call. -/
section
variable {X : Cx} {CX : CXT} {k : Nat} {C f : Addr} {fd : FuncData} {ps ks : List Str} {m : Str} {sp : Sp} {g : List Value → List Value → List Value} {gV : List V → List V → List V} {E : XK} {o e : Expr} {es : List Expr} {kws : List Keyword} {apos pos : Pos} {ta : TE} {t tk : TA} {ds : List Value} {dvs : List V}
/-- o.m(e, .., k = v, ..) -/
def tMethK (C : Addr) (m : Str) (sp : Sp) (gV : List V → List V → List V) (E : XK) (ta : TE) (t tk : TA) : TE := fun σ H Q => ta σ H fun x H1 => ∃ a dx fs, x = .ref a ∧ H1 a = some (.ins C dx fs) ∧ fs.lookup m = none ∧
  t σ H1 fun vs H2 => tk σ H2 fun zs H3 => sp (gV (x :: vs) zs) H3 Q E
theorem pe_methK {pl : Sem Bool} (he : PE X o ta) (c : Cls X.K C) (hm : Meth X.K C m f) (F : FnOk X.prog X.w X.K X.mg X.base CX k f fd ps sp) (hr : Room k X.A) (hb : KBinds X.K fd ps ks g gV) (hx : Passes CX X E) (ha : PA X (e :: es) t) (hkw : PK X kws tk)
    (hall : (backToKw pos (keywordEach kws X.env)).all (·.1.isSome) = true := by rfl) (hks : (backToKw pos (keywordEach kws X.env)).filterMap (·.1) = ks := by rfl)
    (hst : starEach (e :: es) X.env = (false, eval e X.env) :: starEach es X.env := by rfl)
    (hpl : ((backTo pos (starEach (e :: es) X.env)).any (·.1) || (backToKw pos (keywordEach kws X.env)).any (·.1.isNone)) = false := by rfl)
    (ht : eval (.Call (.Attribute o m apos) (e :: es) kws pos) X.env = (do
      let ov ← eval o X.env
      standAt apos.atName
      let (f, first) ← holding [ov] (getMethod ov m pl)
      callWith pos f first (backTo pos (starEach (e :: es) X.env)) (backToKw pos (keywordEach kws X.env))) := by rfl) :
    PE X (.Call (.Attribute o m apos) (e :: es) kws pos) (tMethK C m sp gV E ta t tk) := by
  refine ⟨fun pins s σ H Q I h => ?_⟩
  refine PySem.W.methodCall_KW (pl := pl) (thn (he.run pins s σ H _ I h) fun u s1 ⟨x, H1, I1, rx, a, dx, fs, ex, ea, l, q⟩ => ?_) ht
  subst ex
  obtain rfl : u = Value.ref a := rx
  refine getmeth_ok I1 ea c hm l ?_
  refine PySem.W.callWith_KW (first := [.ref a]) (h₀ := X.base) I.ok.mod.kin hm.kp hall (thn (ha.run pos pins s1 σ H1 _ I1 q) fun us s2 ⟨vs, H2, I2, r, q2⟩ => ?_) hpl hst
  refine thn (hkw.run pos pins s2 σ H2 _ I2 q2) fun ws s3 ⟨zs, H3, I3, rz, q3⟩ => ⟨I3.kIn, ?_⟩
  rw [hks]
  exact run_fnk (us := .ref a :: us) (vs := .ref a :: vs) F hr hb hx I3 (.cons rfl r) rz q3
/-- o.m(k = v, ..) -/
theorem pe_methK0 {pl : Sem Bool} (he : PE X o ta) (c : Cls X.K C) (hm : Meth X.K C m f) (F : FnOk X.prog X.w X.K X.mg X.base CX k f fd ps sp) (hr : Room k X.A) (hb : KBinds X.K fd ps ks g gV) (hx : Passes CX X E) (hkw : PK X kws tk)
    (hall : (backToKw pos (keywordEach kws X.env)).all (·.1.isSome) = true := by rfl) (hks : (backToKw pos (keywordEach kws X.env)).filterMap (·.1) = ks := by rfl)
    (hpl : ((backTo pos (starEach [] X.env)).any (·.1) || (backToKw pos (keywordEach kws X.env)).any (·.1.isNone)) = false := by rfl)
    (ht : eval (.Call (.Attribute o m apos) [] kws pos) X.env = (do
      let ov ← eval o X.env
      standAt apos.atName
      let (f, first) ← holding [ov] (getMethod ov m pl)
      callWith pos f first (backTo pos (starEach [] X.env)) (backToKw pos (keywordEach kws X.env))) := by rfl) :
    PE X (.Call (.Attribute o m apos) [] kws pos) (tMethK C m sp gV E ta tNil tk) := by
  refine ⟨fun pins s σ H Q I h => ?_⟩
  refine PySem.W.methodCall_KW (pl := pl) (thn (he.run pins s σ H _ I h) fun u s1 ⟨x, H1, I1, rx, a, dx, fs, ex, ea, l, q⟩ => ?_) ht
  subst ex
  obtain rfl : u = Value.ref a := rx
  refine getmeth_ok I1 ea c hm l ?_
  refine PySem.W.callWith_KW0 (first := [.ref a]) (h₀ := X.base) I.ok.mod.kin hm.kp hall ?_ hpl
  refine thn (hkw.run pos pins s1 σ H1 _ I1 q) fun ws s3 ⟨zs, H3, I3, rz, q3⟩ => ⟨I3.kIn, ?_⟩
  rw [hks]
  exact run_fnk (us := [.ref a]) (vs := [.ref a]) F hr hb hx I3 (.cons rfl .nil) rz q3
end
section
variable {X : Cx} {W : WX} {k : Nat} {C f : Addr} {fd : FuncData} {ps ks : List Str} {m : Str} {sp : Sp} {g : List Value → List Value → List Value} {gV : List V → List V → List V} {o e : Expr} {es : List Expr} {kws : List Keyword} {apos pos : Pos} {ta : TE} {t tk : TA}
/-- a call whose error is wished for, from the values -/
theorem run_fnW {pins : List (Addr × Obj)} {σ : L2.St} {H : Hp} {s : Shared} {Q : VK} {us : List Value} {vs : List V} (F : FnOk X.prog X.w X.K X.mg X.base (L2N.CX X.prog X.w) k f fd ps sp) (hr : Room k X.A) (hb : L2.Binds X.K fd ps []) (tk : L2N.Takes X W) (I1 : Inv X pins σ H s) (r : Vals vs us)
    (w : sp vs H Q fun cls d H2 => W cls d σ H2) : wpAny (model X.prog X.w) X.A (call (.ref f) us) (EP X pins σ Q) X.xe s := by
  have hl : us.length = ps.length := by rw [← r.length]; exact F.len _ _ _ _ w
  have b := hb s us I1.kIn (by rw [List.append_nil]; exact hl)
  rw [List.append_nil] at b
  refine wpAny_call (codeAny_mono (F.run X.A X.stack s H ⟨us, []⟩ us vs Q _ hr I1.env0 b r w) fun res s2 hq => ?_)
  cases res with
  | error er => exact tk er s2 (L2N.XE.of_call I1 (fun cls d H2 z => z) hq)
  | ok fl =>
    cases fl with
    | ret u => exact I1.after hq
    | _ => exact hq.elim
theorem run_fnkW {pins : List (Addr × Obj)} {σ : L2.St} {H : Hp} {s : Shared} {Q : VK} {us ws : List Value} {vs zs : List V} (F : FnOk X.prog X.w X.K X.mg X.base (L2N.CX X.prog X.w) k f fd ps sp) (hr : Room k X.A) (hb : KBinds X.K fd ps ks g gV) (tk : L2N.Takes X W) (I1 : Inv X pins σ H s) (r : Vals vs us) (rz : Vals zs ws)
    (w : sp (gV vs zs) H Q fun cls d H2 => W cls d σ H2) : wpAny (model X.prog X.w) X.A (call (.ref f) us (ks.zip ws)) (EP X pins σ Q) X.xe s := by
  have r2 := hb.rel r rz
  have hl : (g us ws).length = ps.length := by rw [← r2.length]; exact F.len _ _ _ _ w
  refine wpAny_call (codeAny_mono (F.run X.A X.stack s H ⟨us, ks.zip ws⟩ (g us ws) (gV vs zs) Q _ hr I1.env0 (hb.to s us ws I1.kIn hl) r2 w) fun res s2 hq => ?_)
  cases res with
  | error er => exact tk er s2 (L2N.XE.of_call I1 (fun cls d H2 z => z) hq)
  | ok fl =>
    cases fl with
    | ret u => exact I1.after hq
    | _ => exact hq.elim
/-- o.m(e, ..), an error wished for -/
def tMethN (C : Addr) (m : Str) (sp : Sp) (W : WX) (ta : TE) (t : TA) : TE := fun σ H Q => ta σ H fun x H1 => ∃ a dx fs, x = .ref a ∧ H1 a = some (.ins C dx fs) ∧ fs.lookup m = none ∧
  t σ H1 fun vs H2 => sp (x :: vs) H2 Q fun cls d H3 => W cls d σ H3
theorem pe_methN {pl : Sem Bool} (he : PE X o ta) (c : Cls X.K C) (hm : Meth X.K C m f) (F : FnOk X.prog X.w X.K X.mg X.base (L2N.CX X.prog X.w) k f fd ps sp) (hr : Room k X.A) (hb : L2.Binds X.K fd ps []) (tk : L2N.Takes X W) (ha : PA X (e :: es) t)
    (hst : starEach (e :: es) X.env = (false, eval e X.env) :: starEach es X.env := by rfl) (hpl : (backTo pos (starEach es X.env)).any (·.1) = false := by rfl)
    (ht : eval (.Call (.Attribute o m apos) (e :: es) [] pos) X.env = (do
      let ov ← eval o X.env
      standAt apos.atName
      let (f, first) ← holding [ov] (getMethod ov m pl)
      callWith pos f first (backTo pos (starEach (e :: es) X.env)) (backToKw pos (keywordEach [] X.env))) := by rfl) :
    PE X (.Call (.Attribute o m apos) (e :: es) [] pos) (tMethN C m sp W ta t) := by
  refine ⟨fun pins s σ H Q I h => ?_⟩
  refine PySem.W.methodCall_KW (pl := pl) (thn (he.run pins s σ H _ I h) fun u s1 ⟨x, H1, I1, rx, a, dx, fs, ex, ea, l, q⟩ => ?_) ht
  subst ex
  obtain rfl : u = Value.ref a := rx
  refine getmeth_ok I1 ea c hm l ?_
  refine PySem.W.callWith_K (first := [.ref a]) (h₀ := X.base) I.ok.mod.kin hm.kp (thn (ha.run pos pins s1 σ H1 _ I1 q) fun us s2 ⟨vs, H2, I2, r, q2⟩ => ⟨I2.kIn, ?_⟩) hst hpl
  exact run_fnW (us := .ref a :: us) (vs := .ref a :: vs) F hr hb tk I2 (.cons rfl r) q2
/-- o.m(), an error wished for -/
theorem pe_methN0 {pl : Sem Bool} (he : PE X o ta) (c : Cls X.K C) (hm : Meth X.K C m f) (F : FnOk X.prog X.w X.K X.mg X.base (L2N.CX X.prog X.w) k f fd ps sp) (hr : Room k X.A) (hb : L2.Binds X.K fd ps []) (tk : L2N.Takes X W)
    (ht : eval (.Call (.Attribute o m apos) [] [] pos) X.env = (do
      let ov ← eval o X.env
      standAt apos.atName
      let (f, first) ← holding [ov] (getMethod ov m pl)
      callWith pos f first (backTo pos (starEach [] X.env)) (backToKw pos (keywordEach [] X.env))) := by rfl) :
    PE X (.Call (.Attribute o m apos) [] [] pos) (tMethN C m sp W ta tNil) := by
  refine ⟨fun pins s σ H Q I h => ?_⟩
  refine PySem.W.methodCall_KW (pl := pl) (thn (he.run pins s σ H _ I h) fun u s1 ⟨x, H1, I1, rx, a, dx, fs, ex, ea, l, q⟩ => ?_) ht
  subst ex
  obtain rfl : u = Value.ref a := rx
  refine getmeth_ok I1 ea c hm l ?_
  exact PySem.W.callWith_K0 (first := [.ref a]) I1.kIn hm.kp (run_fnW (us := [.ref a]) (vs := [.ref a]) F hr hb tk I1 (.cons rfl .nil) q)
/-- o.m(e, .., k = v, ..), an error wished for -/
def tMethKN (C : Addr) (m : Str) (sp : Sp) (gV : List V → List V → List V) (W : WX) (ta : TE) (t tk : TA) : TE := fun σ H Q => ta σ H fun x H1 => ∃ a dx fs, x = .ref a ∧ H1 a = some (.ins C dx fs) ∧ fs.lookup m = none ∧
  t σ H1 fun vs H2 => tk σ H2 fun zs H3 => sp (gV (x :: vs) zs) H3 Q fun cls d H4 => W cls d σ H4
theorem pe_methKN {pl : Sem Bool} (he : PE X o ta) (c : Cls X.K C) (hm : Meth X.K C m f) (F : FnOk X.prog X.w X.K X.mg X.base (L2N.CX X.prog X.w) k f fd ps sp) (hr : Room k X.A) (hb : KBinds X.K fd ps ks g gV) (tk' : L2N.Takes X W) (ha : PA X (e :: es) t) (hkw : PK X kws tk)
    (hall : (backToKw pos (keywordEach kws X.env)).all (·.1.isSome) = true := by rfl) (hks : (backToKw pos (keywordEach kws X.env)).filterMap (·.1) = ks := by rfl)
    (hst : starEach (e :: es) X.env = (false, eval e X.env) :: starEach es X.env := by rfl)
    (hpl : ((backTo pos (starEach (e :: es) X.env)).any (·.1) || (backToKw pos (keywordEach kws X.env)).any (·.1.isNone)) = false := by rfl)
    (ht : eval (.Call (.Attribute o m apos) (e :: es) kws pos) X.env = (do
      let ov ← eval o X.env
      standAt apos.atName
      let (f, first) ← holding [ov] (getMethod ov m pl)
      callWith pos f first (backTo pos (starEach (e :: es) X.env)) (backToKw pos (keywordEach kws X.env))) := by rfl) :
    PE X (.Call (.Attribute o m apos) (e :: es) kws pos) (tMethKN C m sp gV W ta t tk) := by
  refine ⟨fun pins s σ H Q I h => ?_⟩
  refine PySem.W.methodCall_KW (pl := pl) (thn (he.run pins s σ H _ I h) fun u s1 ⟨x, H1, I1, rx, a, dx, fs, ex, ea, l, q⟩ => ?_) ht
  subst ex
  obtain rfl : u = Value.ref a := rx
  refine getmeth_ok I1 ea c hm l ?_
  refine PySem.W.callWith_KW (first := [.ref a]) (h₀ := X.base) I.ok.mod.kin hm.kp hall (thn (ha.run pos pins s1 σ H1 _ I1 q) fun us s2 ⟨vs, H2, I2, r, q2⟩ => ?_) hpl hst
  refine thn (hkw.run pos pins s2 σ H2 _ I2 q2) fun ws s3 ⟨zs, H3, I3, rz, q3⟩ => ⟨I3.kIn, ?_⟩
  rw [hks]
  exact run_fnkW (us := .ref a :: us) (vs := .ref a :: vs) F hr hb tk' I3 (.cons rfl r) rz q3
end
end ExX

namespace ExX
open PySem PySem.Spec PyProof.Rows L2
/-! == by the own __eq__, != by it, len(o) by the own __len__, repr(o) by the own __repr__. -/
section
variable {X : Cx} {CX : CXT} {k : Nat} {C f : Addr} {fd : FuncData} {ps : List Str} {sp : Sp} {E : XK}
/-- a call from within a built-in -/
theorem run_in {A : Around} {pins : List (Addr × Obj)} {σ : L2.St} {H : Hp} {s : Shared} {Q : VK} {us : List Value} {vs : List V} (fr : A.frames = X.A.frames) (F : FnOk X.prog X.w X.K X.mg X.base CX k f fd ps sp) (hr : Room k A) (hb : L2.Binds X.K fd ps []) (hx : Passes CX X E)
    (I : Inv X pins σ H s) (r : Vals vs us) (h : sp vs H Q E) : wpAny (model X.prog X.w) A (call (.ref f) us) (EP X pins σ Q) X.xe s := by
  have hl : us.length = ps.length := by rw [← r.length]; exact F.len _ _ _ _ h
  have e0 : Env0 X.prog X.w X.K X.mg X.base A X.stack s H := by
    have e := I.env0
    exact ⟨by rw [fr]; exact e.frames, e.mod, e.bs, e.bsz, e.funs, e.frf, e.hok, e.bare⟩
  have hb2 := hb s us I.kIn (by rw [List.append_nil]; exact hl)
  rw [List.append_nil] at hb2
  refine wpAny_call (codeAny_mono (F.run A X.stack s H ⟨us, []⟩ us vs Q E hr e0 hb2 r h) fun r s' hq => ?_)
  cases r with
  | error e => exact hx pins σ H s e s' I hq
  | ok fl =>
    cases fl with
    | ret u => exact I.after hq
    | next => exact False.elim hq
    | brk => exact False.elim hq
    | cont => exact False.elim hq
def rEqO (C : Addr) (sp : Sp) (E : XK) : R2 := fun x y H Q => ∃ a b dx dy fs gs, x = .ref a ∧ y = .ref b ∧ H a = some (.ins C dx fs) ∧ H b = some (.ins C dy gs) ∧ sp [x, y] H (fun v H1 => ∃ t, v = .bl t ∧ Q (.bl t) H1) E
theorem op_eqO (F : FnOk X.prog X.w X.K X.mg X.base CX k f fd ps sp) (hr : Room k X.A) (hb : L2.Binds X.K fd ps []) (hx : Passes CX X E) (hs : PySem.W.findIn X.K (.ref C) "__eq__" = some (some (.ref f))) (hf : PySem.W.isFn X.K (.ref f) = true) : OpR X (compareOp .Eq) (rEqO C sp E) := by
  intro pins s σ H x y v u Q I rx ry hq
  obtain ⟨a, b, dx, dy, fs, gs, rfl, rfl, ha, hb', h⟩ := hq
  cases rx
  cases ry
  obtain ⟨mA, J, _⟩ := ins_get I.hok ha
  obtain ⟨mB, J', _⟩ := ins_get I.hok hb'
  obtain ⟨od, J, _⟩ := J.look
  obtain ⟨od', J', _⟩ := J'.look
  obtain ⟨m, hF⟩ := I.fr
  show wpAny (model X.prog X.w) X.A (richCompare .Eq (.ref a) (.ref b)) (EP X pins σ Q) X.xe s
  refine PySem.W.cmp_K (op := .Eq) (tb := .ref C) hr.units0 hF I.ok.mod.kin J J'.type (by simp [PySem.W.notFirst]) hs hf ?_
  refine wpAny_mono (run_in (vs := [.ref a, .ref b]) rfl F hr hb hx I (.cons rfl (.cons rfl .nil)) h) (fun r s' z => ?_) fun _ _ z => z
  obtain ⟨w, H', I', rz, t, ew, q⟩ := z
  subst ew
  cases rz
  exact ⟨.bl t, H', I', rfl, q⟩
/-- len(o) -/
def rLenO (C : Addr) (sp : Sp) (E : XK) : List V → Hp → VK → Prop := fun xs H Q => ∃ a dx fs, xs = [.ref a] ∧ H a = some (.ins C dx fs) ∧ sp [.ref a] H (fun v H1 => ∃ n : Nat, v = .int n ∧ n < 1000000 ∧ Q (.int n) H1) E
theorem call_lenO (F : FnOk X.prog X.w X.K X.mg X.base CX k f fd ps sp) (hr : Room (k + 1) X.A) (hb : L2.Binds X.K fd ps []) (hx : Passes CX X E) (hs : PySem.W.findIn X.K (.ref C) "__len__" = some (some (.ref f))) (hf : PySem.W.isFn X.K (.ref f) = true) : CallR X (.builtin "len") (rLenO C sp E) := by
  intro pins s σ H xs us Q I r h
  obtain ⟨a, dx, fs, rfl, ha, h⟩ := h
  obtain ⟨u, rfl, rx⟩ := vals1 r
  cases rx
  obtain ⟨mA, J, _⟩ := ins_get I.hok ha
  obtain ⟨od, J, _⟩ := J.look
  obtain ⟨m, hF⟩ := I.fr
  refine PySem.W.len_K hF I.ok.mod.kin J hs hf ?_
  refine wpAny_mono (run_in (vs := [.ref a]) rfl F hr.in1 hb hx I (.cons rfl .nil) h) (fun r s' z => ?_) fun _ _ z => z
  obtain ⟨w, H', I', rz, n, ew, hn, q⟩ := z
  subst ew
  obtain ⟨t, rfl⟩ := (show ∃ t, r = Value.int n t from rz)
  exact ⟨⟨by omega, by omega⟩, .int n, H', I'.tok _, ⟨_, rfl⟩, q⟩
/-- repr(o) -/
def rReprO (C : Addr) (sp : Sp) (E : XK) : List V → Hp → VK → Prop := fun xs H Q => ∃ a dx fs, xs = [.ref a] ∧ H a = some (.ins C dx fs) ∧ sp [.ref a] H (fun v H1 => ∃ z : Str, v = .str z ∧ Q (.str z) H1) E
theorem call_reprO (F : FnOk X.prog X.w X.K X.mg X.base CX k f fd ps sp) (hr : Room (k + 1) X.A) (hb : L2.Binds X.K fd ps []) (hx : Passes CX X E) (hs : PySem.W.findIn X.K (.ref C) "__repr__" = some (some (.ref f))) (hf : PySem.W.isFn X.K (.ref f) = true) : CallR X (.builtin "repr") (rReprO C sp E) := by
  intro pins s σ H xs us Q I r h
  obtain ⟨a, dx, fs, rfl, ha, h⟩ := h
  obtain ⟨u, rfl, rx⟩ := vals1 r
  cases rx
  obtain ⟨mA, J, _⟩ := ins_get I.hok ha
  obtain ⟨od, J, _⟩ := J.look
  obtain ⟨m, hF⟩ := I.fr
  refine PySem.W.repr_K hr.in1.units0 hF I.ok.mod.kin J hs hf ?_
  refine wpAny_mono (run_in (vs := [.ref a]) rfl F hr.in1 hb hx I (.cons rfl .nil) h) (fun r s' z => ?_) fun _ _ z => z
  obtain ⟨w, H', I', rz, n, ew, q⟩ := z
  subst ew
  obtain ⟨t, rfl⟩ := (show ∃ t, r = Value.str n t from rz)
  exact ⟨.str n, H', I', ⟨_, rfl⟩, q⟩
end
end ExX

/-! word, *rest = a tuple: its first item, and the others in a new list. -/
namespace RSt
open PySem PySem.Spec PyProof.Rows L2
theorem drop {prog : Program} {w : World} {A : Around} {I : Addr} {fp wr : List Addr} {n k : Nat} {P : Nat → Value → Prop} {St : Nat → Heap → Prop} (hk : k ≤ n) (W : Walks prog w A I fp wr n P St) :
    Walks prog w A I fp wr (n - k) (fun i v => P (i + k) v) (fun i h => St (i + k) h) where
  sub := W.sub
  frame := fun i => W.frame (i + k)
  item := fun i s Q E hi st hQ => W.item (i + k) s Q E (by omega) st fun v h' tk hP hst => hQ v h' tk hP (by rw [show i + 1 + k = i + k + 1 by omega]; exact hst)
  done := fun s Q E st hQ => W.done s Q E (by rw [show n - k + k = n by omega] at st; exact st) hQ
  self := fun i => W.self (i + k)
theorem items_drop {items acc : Array Value} {k : Nat} (hk : k ≤ items.size) (h : ItemsOf (fun i v => items[i + k]? = some v) acc (items.size - k)) : acc.toList = items.toList.drop k := by
  refine List.ext_getElem? fun j => ?_
  rw [List.getElem?_drop]
  by_cases hj : j < acc.size
  · have e : acc[j]? = some acc[j] := by simp [hj]
    have := h.2 j _ e
    rw [Array.getElem?_toList, e, Array.getElem?_toList, Nat.add_comm]
    exact this.symm
  · have h1 := h.1
    rw [List.getElem?_eq_none (by simp; omega), List.getElem?_eq_none (by simp; omega)]
section
variable {prog : Program} {w : World} {A : Around} {E : Value → Shared → Prop} {s : Shared}
theorem star_items {t : Addr} {items : Array Value} {x : Value} {Q : List Value → Shared → Prop} (hh : A.handled = none) (ht : s.heap.IsTuple t items) (hx : items[0]? = some x) (hz : items.size ≤ sizeLine)
    (hQ : ∀ (h' : Heap) tk, (∀ b o, s.heap.get? b = some o → h'.get? b = some o) → Q [x, .ref h'.objs.size] { s with heap := h'.push { cls := .type "list", data := .seq (items.toList.drop 1).toArray }, toks := tk }) :
    wpAny (model prog w) A (unpackItems (.ref t) 2 (some 1)) Q E s := by
  have hlt : t ≠ s.heap.objs.size := by obtain ⟨o, ho, _⟩ := ht; exact Nat.ne_of_lt (Heap.lt_size ho)
  have h0 : 0 < items.size := by
    by_cases z : 0 < items.size
    · exact z
    · rw [Array.getElem?_eq_none (by omega)] at hx
      cases hx
  have he : items.toList.drop 0 = x :: items.toList.drop 1 := by
    have e : items.toList[0]? = some x := by simpa using hx
    cases hl : items.toList with
    | nil => rw [hl] at e; cases e
    | cons y ys =>
      rw [hl] at e
      cases e
      rfl
  unfold unpackItems
  refine wpAny_bind ?_
  unfold notIterableAtAll
  refine wpAny_bind (wpAny_specialOf ht.typeIs F.slot_tuple_iter.lookup ?_)
  refine wpAny_pure ?_
  simp only [Bool.false_eq_true, if_false]
  refine wpAny_bind (wpAny_holding (wpAny_pyIter_tuple ht ?_))
  refine wpAny_bind (wpAny_holding (wpAny_draw_tuple hlt 1 0 _ _ ⟨_, Heap.get?_push_size _ rfl, rfl, rfl⟩ (ht.push _) (by omega) fun h₁ hit₁ hs₁ => ?_))
  rw [he, List.take_succ_cons, List.take_zero, if_neg (by simp)]
  have ht₁ : h₁.IsTuple t items := (ht.push _).extBut hs₁.extBut hlt
  obtain ⟨o1, ho1, c1, d1⟩ := id hit₁
  obtain ⟨o2, ho2, _⟩ := id ht₁
  have k1 : ∀ b o, s.heap.get? b = some o → h₁.get? b = some o := fun b o e => hs₁.extBut b o (Nat.ne_of_lt (Heap.lt_size e)) (Heap.get?_push_of_some _ e)
  refine wpAny_bind (wpAny_holding (wpAny_collect_iter (T := "tuple_iterator") (.inr (.inr (.inr rfl))) (drop (k := 1) h0 (Walks.tuple (A := A.in1) hh s.heap.objs.size t hlt items)).toS
    (fun i s' st => st.1.typeIs) ⟨by simpa using hit₁, ht₁⟩ (fun b hb => ?_) (by simp) (fun s' acc hm hacc => ?_) (by omega)))
  · have e : b = s.heap.objs.size ∨ b = t := by simpa using hb
    rcases e with e | e
    · rw [e]; exact Heap.lt_size ho1
    · rw [e]; exact Heap.lt_size ho2
  · rw [items_drop h0 hacc, Moved.eq_with hm]
    rw [show 2 - 1 - 1 = 0 by rfl]
    refine wpAny_bind ?_
    rw [Nat.sub_zero, List.take_length, List.drop_length]
    refine wpAny_newList (wpAny_pure ?_) (by rw [List.length_drop]; show items.toList.length - 1 ≤ sizeLine; rw [Array.length_toList]; omega)
    refine hQ s'.heap s'.toks fun b o e => hm.heap b o (fun z => ?_) (k1 b o e)
    have e1 : b = s.heap.objs.size := List.mem_singleton.mp z
    exact absurd (Heap.lt_size e) (by rw [e1]; exact Nat.lt_irrefl _)
end
end RSt
namespace L2
open PySem PySem.Spec PyProof.Rows
/-- head, *rest = a tuple that has a first item -/
def gHead (K : PySem.W.Frag) (g1 g2 : TG) : TG := fun v σ H Q => ∃ a x xs, v = .ref a ∧ SqT K H a (x :: xs) ∧ ∀ p, H p = none → g1 x σ (upd H p (.lst xs)) fun σ1 H1 => g2 (.ref p) σ1 H1 Q
section
variable {X : Cx}
theorem pg_head {e1 e2 : Expr} {k : Nat} {p pos : Pos} {g1 g2 : TG} (hc : X.calm = true) (h1 : PG X e1 g1) (h2 : PG X e2 g2)
    (hn : assignEach [e1, .Starred e2 p] X.env = [(false, assign e1 X.env), (true, assign e2 X.env)] := by rfl) : PG X (.Tuple [e1, .Starred e2 p] k pos) (gHead X.K g1 g2) := by
  refine ⟨fun pins s σ H v u Q I r hw => ?_⟩
  obtain ⟨a, x, xs, e0, hq, hw⟩ := hw
  subst e0
  cases r
  obtain ⟨its, rv, ht, hz⟩ := I.tuple hq
  have hlen := rv.length
  cases rv with
  | @cons _ u _ us ru rr =>
    rw [assign_Tuple]
    refine wpAny_bind (wpAny_standAt ?_)
    unfold unpack
    rw [hn]
    refine wpAny_bind (wpAny_holding (RSt.star_items (I.ok.hd hc) (show s.heap.IsTuple a (u :: us).toArray from ht) (x := u) (by simp) (by simp at hlen ⊢; simp at hz; omega) fun h' tk hk => ?_))
    have I1 : Inv X pins σ H { s with heap := h', toks := tk } := I.kept hk
    have I2 := I1.laid (a := h'.objs.size) (o := .lst xs) (h' := h'.push { cls := .type "list", data := .seq ((u :: us).toArray.toList.drop 1).toArray }) (t' := tk) (fun b o e => Heap.get?_push_of_some _ e) (Nat.le_refl _)
      ⟨by simp at hz; omega, us, 0, rr, by rw [Heap.get?_push_size _ rfl]; rfl⟩
    refine assignInOrder_cons (thn (h1.run pins _ σ _ x u _ I2 ru (hw _ (I1.hok.fresh (Nat.le_refl _)))) fun _ s1 ⟨σ1, H1, I3, q1⟩ => ?_)
    refine assignInOrder_cons (thn (h2.run pins s1 σ1 H1 (.ref h'.objs.size) (.ref h'.objs.size) _ I3 rfl q1) fun _ s2 ⟨σ2, H2, I4, q2⟩ => ?_)
    exact assignInOrder_nil ⟨σ2, H2, I4, q2⟩
end
end L2

/-! {**d, k: v, ..}: a copy of a dict with more pairs. -/
namespace DUn
open PySem PyProof.Rows L2
section
variable {prog : Program} {w : World} {A : Around} {E : Value → Shared → Prop} {s : Shared}
theorem put_pairs {K : Type} [DecidableEq K] {knd : KeyKind prog w K} {d : Addr} {kvs : List (K × Value)} {k : K} {key v : Value} {Q : Unit → Shared → Prop} (hkey : knd.is k key = true) (hm : s.heap.DictOf knd d kvs)
    (hQ : ∀ h', h'.DictOf knd d (stored kvs k v) → Heap.SameBut d s.heap h' → Q () { s with heap := h' }) (hsz : kvs.length ≤ sizeLine) :
    wpAny (model prog w) A (dictPut d (knd.hash k) key v) Q E s := by
  obtain ⟨o, es, ep, ho, hc, hd, hk, hp, hn⟩ := hm
  have hes : es.size ≤ sizeLine := by
    have e1 := hp.length
    have e2 : es.toList.length = es.size := by simp
    omega
  unfold dictPut
  refine wpAny_bind (wpAny_dictFind_of hkey ho hd hk ?_)
  have hidx : (es.findIdx? fun e => knd.is k e.key) = kvs.findIdx? fun kv => decide (kv.1 = k) := by
    rw [← hp.findIdx k]; obtain ⟨l⟩ := es; simp
  cases hi : es.findIdx? fun e => knd.is k e.key with
  | some i =>
    refine wpAny_updateDict ho hd (hQ _ ⟨_, _, ep, Heap.get?_update_self _ ho (Obj.isFreed_of_dict (Obj.data_mapDict hd _)), hc.mapDict _, Obj.data_mapDict hd _, hk.modify _ _, ?_, ?_⟩ (Heap.SameBut.update ..))
    · rw [stored, if_pos (any_of_findIdx_some (hidx ▸ hi))]
      have hl : (es.toList.findIdx? fun e => knd.is k e.key) = some i := by rw [← hi]; obtain ⟨l⟩ := es; simp
      have := hp.modify hn hl v
      obtain ⟨l⟩ := es
      simpa using this
    · rw [stored, if_pos (any_of_findIdx_some (hidx ▸ hi)), keys_map_store]; exact hn
  | none =>
    have hnot : k ∉ kvs.map (·.1) := not_mem_of_findIdx_none (hidx ▸ hi)
    have hany : ¬ (kvs.any fun kv => decide (kv.1 = k)) = true := by
      rw [List.any_eq_true]; rintro ⟨kv, hkv, he⟩
      exact hnot (List.mem_map.mpr ⟨kv, hkv, of_decide_eq_true he⟩)
    refine wpAny_updateDictKeys (hz := hes) ho hd (hQ _ ⟨_, _, ep + 1, Heap.get?_update_self _ ho (Obj.isFreed_of_dict (Obj.data_mapDictKeys hd _)), hc.mapDictKeys _, Obj.data_mapDictKeys hd _, hk.push hkey _, ?_, ?_⟩ (Heap.SameBut.update ..))
    · rw [stored, if_neg hany]
      have := hp.append hkey (knd.hash k) v
      obtain ⟨l⟩ := es
      simpa using this
    · rw [stored, if_neg hany, List.map_append, List.nodup_append]
      refine ⟨hn, by simp, ?_⟩
      intro a ha b hb
      simp only [List.map_cons, List.map_nil, List.mem_singleton] at hb
      subst hb
      exact fun e => hnot (e ▸ ha)
theorem merge_pairs {d o : Addr} {kvs more : List (Key × Value)} {Q : Unit → Shared → Prop} (hdo : d ≠ o) (hoS : (o == sysModules) = false)
    (hd : s.heap.DictOf (mixKind prog w) d kvs) (ho : s.heap.DictOf (mixKind prog w) o more)
    (hQ : ∀ h', h'.DictOf (mixKind prog w) d (merged kvs more) → h'.DictOf (mixKind prog w) o more → Heap.SameBut d s.heap h' → Q () { s with heap := h' })
    (hsz : kvs.length + more.length ≤ sizeLine) : wpAny (model prog w) A (mergeMapping d (.ref o) false) Q E s := by
  obtain ⟨od, esd, epd, hod, hcd, hdd, hkd, hpd, hnd⟩ := id hd
  obtain ⟨oo, eso, epo, hoo, hco, hdo', hko, hpo, hno⟩ := id ho
  have hlen : more.length = eso.size := by rw [← hpo.length]; simp
  unfold mergeMapping
  refine wpAny_bind (wpAny_isInstance ho.typeIs isSubtype_dict_dict ?_)
  simp only [if_true]
  refine wpAny_bind (wpAny_specialOf ho.typeIs F.slot_dict_iter.lookup (wpAny_bind (wpAny_pure ?_)))
  simp only [beq_self_eq_true, hoS, Bool.false_eq_true, if_false]
  refine wpAny_bind (wpAny_dictEntries hod hdd ?_)
  have loop : wpAny (model prog w) A (do
      let l ← dictEntries o
      let epoch ← dictEpoch o
      forIn (List.range l.size) PUnit.unit fun i (_ : PUnit) => (do
          let l' ← dictEntries o
          match l'[i]? with
            | some e => do
              holding [e.key, e.val] (dictPut d e.hash e.key e.val)
              let ep' ← dictEpoch o
              if (ep' != epoch) = true then do
                  (unsupported "dict.changed-during-merge" : Sem PUnit)
                  pure (ForInStep.yield PUnit.unit)
                else pure (ForInStep.yield PUnit.unit)
            | _ => do
              (unsupported "dict.changed-during-merge" : Sem PUnit)
              pure (ForInStep.yield PUnit.unit) : Sem (ForInStep PUnit))
      pure ()) Q E s := by
    refine wpAny_bind (wpAny_dictEntries hoo hdo' (wpAny_bind (wpAny_dictEpoch hoo hdo' (wpAny_bind ?_))))
    refine wpAny_forIn_list _
      (fun rest _ s' => ∃ h' i, s' = { s with heap := h' } ∧ rest = (List.range eso.size).drop i ∧ i ≤ eso.size ∧ h'.DictOf (mixKind prog w) d (merged kvs (more.take i)) ∧ h'.get? o = some oo ∧ Heap.SameBut d s.heap h')
      _ ?_ ?_ _ _ ⟨s.heap, 0, rfl, by simp, Nat.zero_le _, by simpa [merged] using hd, hoo, Heap.SameBut.refl _ _⟩
    · rintro x rest b s' ⟨h', i, rfl, hr, hi, hd', hoo', hs'⟩
      have hlt : i < eso.size := by
        rcases Nat.lt_or_ge i eso.size with h | h
        · exact h
        · rw [List.drop_of_length_le (by rw [List.length_range]; exact h)] at hr
          cases hr
      obtain ⟨rfl, hrest⟩ : x = i ∧ rest = (List.range eso.size).drop (i + 1) := by
        rw [List.drop_eq_getElem_cons (by rw [List.length_range]; exact hlt)] at hr
        injection hr with h1 h2
        rw [List.getElem_range] at h1
        exact ⟨h1, h2⟩
      refine wpAny_bind (wpAny_dictEntries hoo' hdo' ?_)
      rw [Array.getElem?_eq_getElem hlt]
      obtain ⟨kv, hkv⟩ : ∃ kv, more[x]? = some kv := ⟨more[x]'(by rw [hlen]; exact hlt), List.getElem?_eq_getElem _⟩
      obtain ⟨k, v⟩ := kv
      obtain ⟨hkey, hval⟩ := hpo.get? (e := eso[x]) (by simp [hlt]) hkv
      obtain ⟨k', hkey', hhash⟩ := hko eso[x] (Array.getElem_mem hlt)
      obtain rfl : k' = k := (mixKind prog w).inj _ _ _ hkey' hkey
      show wpAny _ _ (holding [eso[x].key, eso[x].val] (dictPut d eso[x].hash eso[x].key eso[x].val) >>= _) _ _ _
      rw [hhash, hval]
      have hmx : (merged kvs (more.take x)).length ≤ sizeLine := by
        have e1 := merged_length_le kvs (more.take x)
        have e2 : (more.take x).length ≤ more.length := by rw [List.length_take]; omega
        omega
      refine wpAny_bind (wpAny_holding (put_pairs (hsz := hmx) hkey hd' fun h'' hd'' hs'' => ?_))
      have hoo'' : h''.get? o = some oo := (hs''.2 o (Ne.symm hdo)).trans hoo'
      refine wpAny_bind (wpAny_dictEpoch hoo'' hdo' ?_)
      rw [if_neg (by simp)]
      exact wpAny_pure ⟨h'', x + 1, rfl, hrest, hlt, by rw [merged_take_succ kvs more x (k', v) hkv]; exact hd'', hoo'', hs'.trans hs''⟩
    · rintro b s' ⟨h', i, rfl, hr, hi, hd', hoo', hs'⟩
      have hin : i = eso.size := by
        rcases Nat.lt_or_ge i eso.size with h | h
        · rw [List.drop_eq_getElem_cons (by rw [List.length_range]; exact h)] at hr
          cases hr
        · exact Nat.le_antisymm hi h
      refine wpAny_pure (hQ h' ?_ ⟨oo, eso, epo, hoo', hco, hdo', hko, hpo, hno⟩ hs')
      rw [hin, ← hlen, List.take_length] at hd'
      exact hd'
  split
  · refine wpAny_bind (wpAny_dictEntries hoo hdo' (wpAny_bind ?_))
    refine wpAny_of_eq (a := PUnit.unit) ?_ ?_
    · rw [← Array.forIn_toList]
      refine forIn_yield_id _ fun e he c => ?_
      obtain ⟨k, hkey, _⟩ := hko e (Array.mem_toList_iff.mp he)
      rcases keyIs_shape (show keyIs k e.key = true from hkey) with ⟨i, t, rfl, e2⟩ | ⟨x, t, rfl, e2⟩
      · rw [e2]
      · rw [e2]
    · exact loop
  · exact loop
theorem gather (f : (Option (Sem Value) × Sem Value) → (Option Addr × List (Sem Value × Sem Value)) → Sem (ForInStep (Option Addr × List (Sem Value × Sem Value)))) (m0 : Option Addr)
    (hf : ∀ (p : Sem Value × Sem Value) (run : List (Sem Value × Sem Value)), run.length + 1 < 17 → f (some p.1, p.2) (m0, run) = pure (.yield (m0, run ++ [p]))) :
    ∀ (items run : List (Sem Value × Sem Value)), run.length + items.length < 17 → forIn (items.map fun p => (some p.1, p.2)) (m0, run) f = pure (m0, run ++ items)
  | [], run, _ => by simp
  | p :: rest, run, h => by
    rw [List.map_cons, List.forIn_cons, hf p run (by simp at h; omega), pure_bind]
    have := gather f m0 hf rest (run ++ [p]) (by simp at h ⊢; omega)
    simpa using this
theorem display_un {vm : Sem Value} {pairs : List (Sem Value × Sem Value)} {Q : Value → Shared → Prop} (h0 : pairs ≠ []) (hlen : pairs.length < 17)
    (h : wpAny (model prog w) A vm (fun m s1 => ∀ E' : Value → Shared → Prop, wpAny (model prog w) A (mergeMapping s.heap.objs.size m false) (fun _ s2 => wpAny (model prog w) A (subDict pairs) (fun sub s3 =>
      ∀ E' : Value → Shared → Prop, wpAny (model prog w) A (mergeMapping s.heap.objs.size (.ref sub) false) (fun _ s4 => Q (.ref s.heap.objs.size) s4) E' s3) E s2) E' s1) E { s with heap := s.heap.push { cls := .type "dict", data := .dict #[] } }) :
    wpAny (model prog w) A (dictDisplay ((none, vm) :: pairs.map fun p => (some p.1, p.2))) Q E s := by
  unfold dictDisplay
  dsimp only
  rw [List.forIn_cons]
  refine wpAny_bind (wpAny_bind ?_)
  dsimp only
  simp only [List.isEmpty_nil, if_true]
  refine wpAny_bind (wpAny_pure ?_)
  refine wpAny_bind (wpAny_alloc (wpAny_bind (wpAny_holding (wpAny_mono h (fun m s1 h1 => ?_) fun _ _ e => e))))
  refine wpAny_bind (wpAny_onRaise (wpAny_tryCatch (wpAny_onRaise (wpAny_holding (wpAny_mono (h1 _) (fun _ s2 h2 => ?_) fun _ _ e => e)))))
  refine wpAny_pure ?_
  dsimp only
  rw [gather _ (some s.heap.objs.size) (fun p run h => by
    have hne : ((run ++ [(p.1, p.2)]).length == 17) = false := by simp; omega
    simp only [hne, Bool.false_eq_true, if_false]) pairs [] (by simpa using hlen)]
  refine wpAny_pure ?_
  rw [List.nil_append]
  refine wpAny_bind ?_
  dsimp only
  rw [if_neg (by simp [h0])]
  refine wpAny_bind (wpAny_holding (wpAny_mono h2 (fun sub s3 h3 => ?_) fun _ _ e => e))
  exact wpAny_bind (wpAny_onRaise (wpAny_holding (wpAny_mono (h3 _) (fun _ s4 h4 => wpAny_pure (wpAny_pure h4)) fun _ _ e => e)))
end
end DUn
namespace L2
open PySem PyProof.Rows
/-- {**d, k: v, ..} with keys ints and texts: the new dict p, the pairs gathered in another q -/
def tDispU (td : TE) (trs : List (TE × TE)) : TE := fun σ H Q => ∀ p, H p = none → td σ (upd H p (.dK [])) fun x H1 => H1 p = some (.dK []) ∧ ∃ m ms, x = V.ref m ∧ m ≠ p ∧ H1 m = some (.dK ms) ∧
  ∀ q, upd H1 p (.dK ms) q = none → tPairs trs σ (upd (upd H1 p (.dK ms)) q (.dK [])) fun ps H3 => H3 p = some (.dK ms) ∧ H3 q = some (.dK []) ∧ ∃ kvs : List (Key × V), ps = kvs.map (fun kv => (kV kv.1, kv.2)) ∧ kvs.length ≤ 15 ∧ ms.length ≤ 1000 ∧
    Q (.ref p) (upd (upd H3 q (.dK (mergeK [] kvs))) p (.dK (mergeK ms (mergeK [] kvs))))
section
variable {X : Cx}
theorem pe_dispU {e : Expr} {pos : Pos} {keys : List (Option Expr)} {values : List Expr} {td : TE} {trs : List (TE × TE)} (hd : PE X e td) (h : PPs X pos keys values trs) (hall : keys.all (·.isSome) = true := by rfl) (hl : keys.length = values.length := by rfl) (h0 : keys ≠ [] := by simp)
    (h15 : keys.length ≤ 15 := by decide) : PE X (.Dict (none :: keys) (e :: values) pos) (tDispU td trs) := by
  refine ⟨fun pins s σ H Q I q => ?_⟩
  have hn := I.hok.fresh (Nat.le_refl s.heap.objs.size)
  have I1 := I.laid (a := s.heap.objs.size) (o := .dK []) (h' := s.heap.push { cls := .type "dict", data := .dict #[] }) (t' := s.toks) (fun _ _ q => Heap.get?_push_of_some _ q) (Nat.le_refl _) (dk_empty s.heap I.big)
  have hpl := pairTrees_length keys values X.env pos hall hl
  rw [arm_eval_Dict]
  refine wpAny_bind (wpAny_standAt ?_)
  show wpAny _ _ (dictDisplay ((none, do let x ← eval e X.env; standAt pos; pure x) :: (evalEachOpt keys X.env).zip ((evalEach values X.env).map fun v => do let x ← v; standAt pos; pure x))) _ _ _
  rw [zip_pairTrees keys values X.env pos hall hl]
  refine DUn.display_un (fun z => by rw [z] at hpl; exact h0 (List.length_eq_zero_iff.mp hpl.symm)) (by omega) ?_
  refine wpAny_bind (thn (hd.run pins _ σ _ _ I1 (q _ hn)) fun v s1 ⟨x, H1, I2, rx, ep, m, ms, ex, hne, em, q2⟩ => ?_)
  subst ex
  obtain rfl : v = Value.ref m := rx
  refine wpAny_bind (wpAny_standAt (wpAny_pure fun E' => ?_))
  obtain ⟨zm, hms, vsM, rM, dM⟩ := dk_of I2.hok em
  obtain ⟨zp, hps, vs0, r0, dp⟩ := dk_of I2.hok ep
  cases r0
  have hvl : vsM.length = ms.length := rM.length.symm
  have hnd : (vsM.map (·.1)).Nodup := by obtain ⟨_, _, _, _, _, _, _, _, n⟩ := dM; exact n
  refine DUn.merge_pairs (Ne.symm hne) hms dp dM (fun h' dd' _ hs => ?_) (by rw [hvl]; simpa using zm)
  rw [merged_nil_of_nodup vsM hnd] at dd'
  have he : ∃ o, h'.get? s.heap.objs.size = some o := let ⟨o, _, _, ho, _⟩ := dd'; ⟨o, ho⟩
  have I3 : Inv X pins σ (upd H1 s.heap.objs.size (.dK ms)) { s1 with heap := h' } := d_write (t' := s1.toks) I2 (by rw [ep]; exact True.intro) hs he (dk_new zm hps rM dd')
  have I4 := I3.laid (a := h'.objs.size) (o := .dK []) (h' := h'.push { cls := .type "dict", data := .dict #[] }) (t' := s1.toks) (fun _ _ q => Heap.get?_push_of_some _ q) (Nat.le_refl _) (dk_empty h' I3.big)
  have hq := I3.hok.fresh (Nat.le_refl h'.objs.size)
  have hpq : s.heap.objs.size ≠ h'.objs.size := fun z => by rw [← z, upd_same] at hq; cases hq
  refine wpAny_subDict (knd := mixKind X.prog X.w) (by rw [hpl]; exact h15) (thn (h.run pins _ σ _ _ I4 (q2 _ hq)) fun ws s2 ⟨ps, H3, I5, rel, e3, e4, kvs, ek, lk, lm, q3⟩ => ?_)
  subst ek
  obtain ⟨rs, c, rk⟩ := carries_of (P := X.prog) (w := X.w) rel
  obtain ⟨zq, hqs, vs1, r1, dq⟩ := dk_of I5.hok e4
  cases r1
  refine ⟨rs, c, dq, fun h2 dd2 hs2 E2 => ?_⟩
  have hz : (mergeK [] kvs).length ≤ sizeLine := by
    have h1 := length_mergeK kvs []
    rw [List.length_nil] at h1
    rw [sizeLine_eq]; omega
  have he2 : ∃ o, h2.get? h'.objs.size = some o := let ⟨o, _, _, ho, _⟩ := dd2; ⟨o, ho⟩
  have I6 : Inv X pins σ (upd H3 h'.objs.size (.dK (mergeK [] kvs))) { s2 with heap := h2, toks := s2.toks + ws.length } := d_write (t' := s2.toks + ws.length) I5 (by rw [e4]; exact True.intro) hs2 he2 (dk_new hz hqs (rk.merge .nil) dd2)
  have ep6 : upd H3 h'.objs.size (.dK (mergeK [] kvs)) s.heap.objs.size = some (.dK ms) := by rw [upd_ne hpq]; exact e3
  obtain ⟨_, hps6, vs6, r6, d6⟩ := dk_of I6.hok ep6
  have hz2 : (mergeK ms (mergeK [] kvs)).length ≤ sizeLine := by
    have h1 := length_mergeK (mergeK [] kvs) ms
    have h2 := length_mergeK kvs []
    rw [List.length_nil] at h2
    rw [sizeLine_eq]; omega
  have hl6 : vs6.length = ms.length := r6.length.symm
  have hlq : (merged [] rs).length = (mergeK [] kvs).length := (rk.merge (vs := []) .nil).length.symm
  refine DUn.merge_pairs hpq hqs d6 dd2 (fun h3 dd3 _ hs3 => ?_) (by
    have h2 := length_mergeK kvs []
    rw [List.length_nil] at h2
    rw [hl6, hlq, sizeLine_eq]; omega)
  have he3 : ∃ o, h3.get? s.heap.objs.size = some o := let ⟨o, _, _, ho, _⟩ := dd3; ⟨o, ho⟩
  exact ⟨.ref s.heap.objs.size, _, d_write (t' := s2.toks + ws.length) I6 (by rw [ep6]; exact True.intro) hs3 he3 (dk_new hz2 hps6 ((rk.merge .nil).merge r6) dd3), rfl, q3⟩
end
end L2

/-! A def held by a local name, called with a star; get of a written dict. -/
namespace L2
open PySem PySem.Spec PyProof.Rows
section
variable {X : Cx} {k i : Nat} {x : Str} {p pos : Pos} {e : Expr} {es : List Expr} {t : TA}
theorem pe_callAS {S : Addr → Option Sp} (A : ∀ f sp, S f = some sp → Held X.prog X.w X.K X.mg X.base k f sp) (hr : Room k X.A) (hN : X.N[i]? = some x) (hv : Vis X.env.scope x) (ha : PA X (e :: es) t)
    (hdb : (x == ("__debug__" : Str)) = false := by decide) (hcd : (x == ("__classdict__" : Str)) = false := by decide)
    (he : starEach (e :: es) X.env = (false, eval e X.env) :: starEach es X.env := by rfl) (hst : (backTo pos (starEach es X.env)).any (·.1) = true := by rfl) : PE X (.Call (.Name x p) (e :: es) [] pos) (tCallA i S t) := by
  refine ⟨fun pins s σ H Q I h => ?_⟩
  obtain ⟨f, sp, hs, hS, ht⟩ := h
  obtain ⟨fd, ps, F, hk, hb⟩ := (A f sp hS).ex
  refine wpAny_Call_Name_kw (thn ((pe_var (pos := p) hN hv hdb hcd).run pins s σ H (fun v H1 => v = .ref f ∧ H1 = H) I ⟨.ref f, hs, rfl, rfl⟩) fun u s1 ⟨v, H1, I1, r1, q1⟩ => ?_)
  obtain ⟨rfl, rfl⟩ := q1
  cases r1
  refine PySem.W.callWith_S2 (h₀ := X.base) I.ok.mod.kin hk (thn (ha.run pos pins s1 σ _ _ I1 ht) fun us s2 ⟨vs, H2, I2, r, q⟩ => ⟨I2.kIn, ?_⟩) he hst
  have r' := run_fn (dvs := []) (ds := []) (E := fun _ _ _ => False) F hr hb .nil (fun _ _ _ _ _ _ _ z => z.elim) I2 r (by rw [List.append_nil]; exact q)
  exact r'
end
/-- d.get(x) of a written dict -/
def tKGet (K : PySem.W.Frag) (w : World) (td ty : TE) : TE := fun σ H Q => td σ H fun x H1 => ∃ a es n, x = .ref a ∧ KDict K w a es n ∧ ty σ H1 fun y H2 => ∃ (z : Str) (r : Option Value) (v : Option V), y = .str z ∧ PySem.W.nsIn K a z = some r ∧ RelO v r ∧ Q (v.getD .non) H2
section
variable {X : Cx} {o e : Expr} {apos cpos : Pos} {td ty : TE}
theorem pe_kget (ho : PE X o td) (he : PE X e ty) (m : M1 X o "get" apos e cpos) : PE X (.Call (.Attribute o "get" apos) [e] [] cpos) (tKGet X.K X.w td ty) := by
  refine ⟨fun pins s σ H Q I h => ?_⟩
  refine wpAny_Call_method m.base m.few m.line PySem.F.plainAttrs_dict PySem.F.slot_dict_get PySem.F.type_dict_get (thn (ho.run pins s σ H _ I h) fun u s1 ⟨x, H1, I1, rx, a, es, n, ex, D, q1⟩ => ?_)
  subst ex
  obtain rfl : u = Value.ref a := rx
  have hT := kd_type D I1
  refine ⟨hT, fun b q => ?_, ?_⟩
  · cases q
    exact ⟨_, I1.kIn _ _ D.at_, rfl⟩
  rw [m.trees]
  refine Calls.callWith_builtin rfl (Calls.evalArgs_plain (Calls.spliced_cons (thn (he.run pins s1 σ H1 _ I1 q1) fun iv s2 ⟨y, H2, I2, ry, z, r, v, ey, en, rv, q2⟩ => Calls.spliced_nil ?_)))
  subst ey
  obtain ⟨t, rfl⟩ := (show ∃ t, iv = Value.str z t from ry)
  have hm := PySem.W.mapOf_K (prog := X.prog) (w := X.w) I2.kIn D.at_ D.lit
  refine call_meetsIn PySem.F.slot_dict_get hm.typeIs PySem.F.entry_dict_get (PySem.F.args_dict_get_2 _ _) (meets_dict_get (strKind X.prog X.w) a (strKind_is X.prog X.w z t) D.low) ⟨_, hm, _, H2, I2.tok _, ?_, q2⟩
  rw [PySem.W.find_K D.at_ en]
  exact rv.getD rfl
end
end L2

namespace ExX
open PySem PySem.Spec PyProof.Rows L2
/-! errors whose field is a text, or None -/
def spErrV (Pt : V → Prop) (K : PySem.W.Frag) (nid : String) (tl : List Value) (fld tag : Str) : Sp := fun vs H Q _ => ∃ (a C : Addr) (v : V), vs = [.ref a, v] ∧ Pt v ∧ H a = some (exo a C none) ∧ ExB K C nid tl ∧ PySem.W.findIn K (.ref C) "tag" = some none ∧ PySem.W.findIn K (.ref C) fld = some none ∧
  ∀ dx, H dx = none → dx ≠ a → Q .non (upd (upd (upd H dx (exd dx [("tag", .str tag)])) a (exo a C (some dx))) dx (exd dx [(fld, v), ("tag", .str tag)]))
structure RaisV (P : Program) (w : World) (K : PySem.W.Frag) (mg : Str → Option Value) (base : Heap) (Pt : V → Prop) (k : Nat) (x : Str) (C : Addr) (fld tag : Str) : Prop where
  ex : ∃ (B nid iid : String) (tl : List Value) (fI : Addr) (fd : FuncData), ExcBaseFacts B nid iid tl ∧ ExB K C nid tl ∧ PySem.W.findIn K (.ref C) "__init__" = some (some (.ref fI)) ∧ PySem.W.typeIn K (.ref fI) = some (.type "function") ∧
    FnOk P w K mg base CX0 k fI fd ["self", fld] (spErrV Pt K nid tl fld tag) ∧ L2.Binds K fd ["self", fld] []
  g : mg x = some (.ref C)
  nt : PySem.W.findIn K (.ref C) "tag" = some none
  nf : PySem.W.findIn K (.ref C) fld = some none
  xf : XfC K C
section
variable {X : Cx} {k : Nat} {x fld tag : Str} {C : Addr} {e : Expr} {te : TE} {p pos : Pos} {Pt : V → Prop}
theorem mk_fliesV {K : PySem.W.Frag} {nid : String} {tl : List Value} {vs : List V} {H1 : Hp} {Q : XK} (T : ExB K C nid tl) (nt : PySem.W.findIn K (.ref C) "tag" = some none) (nf : PySem.W.findIn K (.ref C) fld = some none) (h : ∃ v, vs = [v] ∧ Pt v ∧ Flies H1 Q C fld tag v) : mkW C (spErrV Pt K nid tl fld tag) vs H1 Q := by
  obtain ⟨v, rfl, hp, fl⟩ := h
  refine ⟨by show 1 ≤ 1000; decide, fun a na => ⟨a, C, v, rfl, hp, upd_same, T, nt, nf, fun dx nd ne => ⟨rfl, dx, _, ?_, upd_same, ?_, ?_⟩⟩⟩
  · rw [upd_ne ne.symm, upd_same]
  · rw [upd_ne ne] at nd
    exact nd
  · rw [upd_ne ne] at nd
    refine fl dx _ nd upd_same fun b o q => ?_
    have hb : b ≠ dx := ne_of_none q nd
    have ha : b ≠ a := ne_of_none q na
    rw [upd_ne hb, del_ne ha, upd_ne hb, upd_ne ha, upd_ne hb, upd_ne ha]
    exact q
theorem pmk_errV (T : RaisV X.prog X.w X.K X.mg X.base Pt k x C fld tag) (hr : Room (k + 1) X.A) (hg : Gl X x) (h : PE X e te) (hdb : (x == ("__debug__" : Str)) = false := by decide) (he : starEach [e] X.env = (false, eval e X.env) :: starEach [] X.env := by rfl) (hpl : (backTo pos (starEach [] X.env)).any (·.1) = false := by rfl) :
    L2N.PMk X (.Call (.Name x p) [e] [] pos) (fun σ H Q => te σ H fun v H1 => ∃ v0, [v] = [v0] ∧ Pt v0 ∧ Flies H1 Q C fld tag v0) := by
  obtain ⟨B, nid, iid, tl, fI, fd, FB, TB, iC, tI, G, b⟩ := T.ex
  exact pmk (R := fun vs H1 Q => ∃ v, vs = [v] ∧ Pt v ∧ Flies H1 Q C fld tag v) FB TB iC tI G hr b pass0 hg T.g (pa_cons h pa_nil he) (fun vs H1 Q z => mk_fliesV TB T.nt T.nf z) hdb he hpl
end
/-- a text of at most a thousand signs -/
def PtS (v : V) : Prop := ∃ z : Str, v = .str z ∧ z.length ≤ 1000
/-- the same, shown -/
def PtR (v : V) : Prop := ∃ z : Str, v = .str z ∧ (reprText z).length ≤ 9000
/-- the same, or None -/
def PtN (v : V) : Prop := v = .non ∨ PtR v
/-- {x!r}: a text, an int or None -/
def tFmtN (te : TE) : TE := fun σ H Q => te σ H fun x H1 => (x = .non ∧ Q (.str "None") H1) ∨ (∃ y : Str, x = .str y ∧ (reprText y).length ≤ sizeLine ∧ Q (.str (reprText y)) H1) ∨ ∃ i : Int, x = .int i ∧ i.natAbs.log2 < 1920 ∧ Q (.str (toString i)) H1
theorem pe_fmtN {X : Cx} {e : Expr} {te : TE} {pos : Pos} (he : PE X e te) : PE X (.FormattedValue e 114 none pos) (tFmtN te) := by
  refine ⟨fun pins s σ H Q I h => ?_⟩
  refine wpAny_FormattedValue_repr (thn (he.run pins s σ H _ I h) fun v s1 hv => ?_)
  obtain ⟨x, H1, I1, r1, q⟩ := hv
  rcases q with ⟨rfl, q⟩ | ⟨y, rfl, hz, q⟩ | ⟨i, rfl, hz, q⟩
  · cases r1
    exact pyReprObj_none (wpAny_formatField_str ⟨.str "None", H1, I1.tok _, ⟨_, rfl⟩, q⟩ ⟨.str "None", H1, I1.tok _, ⟨_, rfl⟩, q⟩ (by decide +kernel))
  · obtain ⟨t, rfl⟩ := r1
    exact pyReprObj_str (wpAny_formatField_str ⟨.str (reprText y), H1, I1.tok _, ⟨_, rfl⟩, q⟩ ⟨.str (reprText y), H1, I1.tok _, ⟨_, rfl⟩, q⟩ hz) hz
  · obtain ⟨t, rfl⟩ := r1
    exact pyReprObj_int hz (wpAny_formatField_str ⟨.str (toString i), H1, I1.tok _, ⟨_, rfl⟩, q⟩ ⟨.str (toString i), H1, I1.tok _, ⟨_, rfl⟩, q⟩ (int_text_fits hz))
end ExX

/-! A def held by a local name, called with a star, that may raise. -/
namespace L2
open PySem PySem.Spec PyProof.Rows
structure HeldX (P : Program) (w : World) (K : PySem.W.Frag) (mg : Str → Option Value) (base : Heap) (k : Nat) (f : Addr) (sp : Sp) : Prop where
  ex : ∃ (fd : FuncData) (ps : List Str), FnOk P w K mg base (L2N.CX P w) k f fd ps sp ∧ PySem.W.keepIn K (.ref f) = true ∧ Binds K fd ps []
def tCallX (P : Program) (w : World) (K : PySem.W.Frag) (mg : Str → Option Value) (base : Heap) (k i : Nat) (E : XK) (t : TA) : TE := fun σ H Q => ∃ f sp, σ[i]? = some (some (.ref f)) ∧ HeldX P w K mg base k f sp ∧ t σ H fun vs H1 => sp vs H1 Q E
section
variable {X : Cx} {k i : Nat} {x : Str} {p pos : Pos} {e : Expr} {es : List Expr} {t : TA} {E : XK}
theorem pe_callXS (hr : Room k X.A) (hN : X.N[i]? = some x) (hv : Vis X.env.scope x) (hx : Passes (L2N.CX X.prog X.w) X E) (ha : PA X (e :: es) t)
    (hdb : (x == ("__debug__" : Str)) = false := by decide) (hcd : (x == ("__classdict__" : Str)) = false := by decide)
    (he : starEach (e :: es) X.env = (false, eval e X.env) :: starEach es X.env := by rfl) (hst : (backTo pos (starEach es X.env)).any (·.1) = true := by rfl) : PE X (.Call (.Name x p) (e :: es) [] pos) (tCallX X.prog X.w X.K X.mg X.base k i E t) := by
  refine ⟨fun pins s σ H Q I h => ?_⟩
  obtain ⟨f, sp, hs, A, ht⟩ := h
  obtain ⟨fd, ps, F, hk, hb⟩ := A.ex
  refine wpAny_Call_Name_kw (thn ((pe_var (pos := p) hN hv hdb hcd).run pins s σ H (fun v H1 => v = .ref f ∧ H1 = H) I ⟨.ref f, hs, rfl, rfl⟩) fun u s1 ⟨v, H1, I1, r1, q1⟩ => ?_)
  obtain ⟨rfl, rfl⟩ := q1
  cases r1
  refine PySem.W.callWith_S2 (h₀ := X.base) I.ok.mod.kin hk (thn (ha.run pos pins s1 σ _ _ I1 ht) fun us s2 ⟨vs, H2, I2, r, q⟩ => ⟨I2.kIn, ?_⟩) he hst
  have r' := run_fn (dvs := []) (ds := []) (E := E) F hr hb .nil hx I2 r (by rw [List.append_nil]; exact q)
  exact r'
end
end L2

/-! get of a written dict, by a text or None. -/
namespace GkN
open PySem PySem.Spec PyProof.Rows
section
variable {prog : Program} {w : World} {A : Around} {E : Value → Shared → Prop} {s : Shared}
theorem hash_none {Q : Int → Shared → Prop} (h : Q 0xFCA86420 { s with toks := s.toks + 1 }) : wpAny (model prog w) A (pyHash .none) Q E s := by
  have hT : s.TypeIs .none "NoneType" := rfl
  unfold pyHash
  have hv : [Value.none].any Value.onHeap = false := rfl
  refine wpAny_bind ?_
  rw [cRoomFor, if_neg (by rw [hv]; exact Bool.false_ne_true)]; refine wpAny_pure ?_
  refine wpAny_bind (wpAny_specialOf hT F.slot_NoneType_hash.lookup ?_)
  show wpAny _ _ (if (some (Value.builtin "NoneType.__hash__") == some Value.none) = true then _ else _) Q E s
  rw [if_neg (by rw [beq_builtin_none]; exact Bool.false_ne_true)]
  refine wpAny_bind (wpAny_specialOf hT F.slot_NoneType_hash.lookup ?_)
  show wpAny _ _ (callSpecialIfBoundUnlessNone? .none "__hash__" _ >>= _) Q E s
  refine wpAny_bind (wpAny_callSpecialIfBoundUnlessNone?_slot hT F.slot_NoneType_hash
    (wpAny_call_entry F.slot_NoneType_hash hT F.entry_NoneType_hash
      (show wpAny _ _ (do ret (← mkInt 0xFCA86420)) _ _ s from wpAny_ret_mkInt ?_) (F.args_NoneType_hash_1 _)))
  show wpAny _ _ (if (decide (-(2 : Int) ^ 63 ≤ 0xFCA86420) && decide ((0xFCA86420 : Int) < 2 ^ 63)) = true then _ else _) Q E _
  rw [if_pos (by decide)]
  exact wpAny_pure h
end
def isO : Option Str → Value → Bool
  | some x, v => Value.isStrOf x v
  | none, .none => true
  | none, _ => false
theorem isO_none {v : Value} (h : isO none v = true) : v = .none := by
  cases v <;> first | rfl | cases h
def hO (w : World) : Option Str → Int
  | none => 0xFCA86420
  | some x => hashStr w x
theorem eq_none {A : Around} {s : Shared} (prog : Program) (w : World) (E : Value → Shared → Prop) (Q : Bool → Shared → Prop) (h : Q true s) : wpAny (model prog w) A (eqBool .none .none) Q E s := by
  unfold eqBool
  refine wpAny_holding ?_
  refine wpAny_ite_split (fun _ => ?_) (fun hab => absurd rfl hab)
  exact wpAny_bind (wpAny_rule (wpAny_pure h))
def oKind (prog : Program) (w : World) : KeyKind prog w (Option Str) where
  is := isO
  hash := hO w
  «strs» := fun k x t v h => by
    cases k with
    | none => cases h
    | some y =>
      have e : x = y := by
        have := Value.isStrOf_shape (show Value.isStrOf y (.str x t) = true from h)
        obtain ⟨u, hu⟩ := this
        injection hu
      subst e
      cases v <;> rfl
  inj := fun v a b ha hb => by
    cases a with
    | none =>
      obtain rfl := isO_none ha
      cases b with
      | none => rfl
      | some y => cases hb
    | some x =>
      obtain ⟨t, rfl⟩ := Value.isStrOf_shape (show Value.isStrOf x v = true from ha)
      cases b with
      | none => cases hb
      | some y => exact congrArg some (Value.isStrOf_inj _ x y (show Value.isStrOf x (.str x t) = true from ha) hb)
  byValue := fun k v h => by
    cases k with
    | none => obtain rfl := isO_none h; rfl
    | some x => obtain ⟨t, rfl⟩ := Value.isStrOf_shape (show Value.isStrOf x v = true from h); rfl
  pyHash := fun {A E s k v Q} hv h => by
    cases k with
    | none => obtain rfl := isO_none hv; exact hash_none h
    | some x => obtain ⟨t, rfl⟩ := Value.isStrOf_shape (show Value.isStrOf x v = true from hv); exact wpAny_pyHash_str h
  eqBool := fun {A E s a b u v Q} hu hv h => by
    cases a with
    | none =>
      obtain rfl := isO_none hu
      cases b with
      | none => obtain rfl := isO_none hv; exact eq_none prog w E Q (by simpa using h)
      | some y => obtain ⟨t, rfl⟩ := Value.isStrOf_shape (show Value.isStrOf y v = true from hv); exact SeqAt.EqAt.none_str y t prog w E Q (by simpa using h)
    | some x =>
      obtain ⟨t, rfl⟩ := Value.isStrOf_shape (show Value.isStrOf x u = true from hu)
      cases b with
      | none => obtain rfl := isO_none hv; exact SeqAt.EqAt.str_none x t prog w E Q (by simpa using h)
      | some y =>
        obtain ⟨t2, rfl⟩ := Value.isStrOf_shape (show Value.isStrOf y v = true from hv)
        refine wpAny_eqBool_str ?_
        have e : decide (some x = some y) = decide (x = y) := by simp
        rw [← e]
        exact h
end GkN
namespace L2
open PySem PySem.Spec PyProof.Rows
/-- d.get(x) of a written dict, x a text or None -/
def tKGetO (K : PySem.W.Frag) (w : World) (td ty : TE) : TE := fun σ H Q => td σ H fun x H1 => ∃ a es n, x = .ref a ∧ KDict K w a es n ∧ ty σ H1 fun y H2 => (y = .non ∧ Q .non H2) ∨ ∃ (z : Str) (r : Option Value) (v : Option V), y = .str z ∧ PySem.W.nsIn K a z = some r ∧ RelO v r ∧ Q (v.getD .non) H2
section
variable {X : Cx} {o e : Expr} {apos cpos : Pos} {td ty : TE}
theorem mapO {prog : Program} {w : World} {h : Heap} {K : PySem.W.Frag} {a : Addr} {es : Array DictEntry} {n : Nat} (X : K.In h) (hl : K.lookup a = some ⟨.type "dict", none, .dict es n, #[]⟩) (hk : PySem.W.KeysLit w.params es.toList) : h.MapOf (GkN.oKind prog w) a (fun k => findBy GkN.isO es k) :=
  ⟨_, es, n, X _ _ hl, ⟨rfl, rfl, rfl⟩, rfl, fun e he => by
    obtain ⟨x, t, e1, e2⟩ := hk.all e (Array.mem_toList_iff.mpr he)
    exact ⟨some x, by rw [e1]; exact strKind_is prog w x t, e2⟩, fun _ => rfl⟩
theorem no_none {P : Params} {es : Array DictEntry} (hk : PySem.W.KeysLit P es.toList) : findBy GkN.isO es none = none := by
  obtain ⟨l⟩ := es
  unfold findBy
  rw [List.find?_toArray]
  have : l.find? (fun d => GkN.isO none d.key) = none := by
    rw [List.find?_eq_none]
    intro d hd
    obtain ⟨x, t, e1, _⟩ := hk.all d hd
    rw [e1]
    intro z
    cases z
  rw [this] <;> rfl
theorem pe_kgetO (ho : PE X o td) (he : PE X e ty) (m : M1 X o "get" apos e cpos) : PE X (.Call (.Attribute o "get" apos) [e] [] cpos) (tKGetO X.K X.w td ty) := by
  refine ⟨fun pins s σ H Q I h => ?_⟩
  refine wpAny_Call_method m.base m.few m.line PySem.F.plainAttrs_dict PySem.F.slot_dict_get PySem.F.type_dict_get (thn (ho.run pins s σ H _ I h) fun u s1 ⟨x, H1, I1, rx, a, es, n, ex, D, q1⟩ => ?_)
  subst ex
  obtain rfl : u = Value.ref a := rx
  have hT := kd_type D I1
  refine ⟨hT, fun b q => ?_, ?_⟩
  · cases q
    exact ⟨_, I1.kIn _ _ D.at_, rfl⟩
  rw [m.trees]
  refine Calls.callWith_builtin rfl (Calls.evalArgs_plain (Calls.spliced_cons (thn (he.run pins s1 σ H1 _ I1 q1) fun iv s2 ⟨y, H2, I2, ry, q2⟩ => Calls.spliced_nil ?_)))
  rcases q2 with ⟨ey, q2⟩ | ⟨z, r, v, ey, en, rv, q2⟩
  · subst ey
    obtain rfl : iv = Value.none := ry
    have hm := mapO (prog := X.prog) (w := X.w) I2.kIn D.at_ D.lit
    refine call_meetsIn PySem.F.slot_dict_get hm.typeIs PySem.F.entry_dict_get (PySem.F.args_dict_get_2 _ _) (meets_dict_get (GkN.oKind X.prog X.w) a (k := none) (by rfl) D.low) ⟨_, hm, _, H2, I2.tok _, ?_, q2⟩
    rw [no_none D.lit] <;> rfl
  · subst ey
    obtain ⟨t, rfl⟩ := (show ∃ t, iv = Value.str z t from ry)
    have hm := PySem.W.mapOf_K (prog := X.prog) (w := X.w) I2.kIn D.at_ D.lit
    refine call_meetsIn PySem.F.slot_dict_get hm.typeIs PySem.F.entry_dict_get (PySem.F.args_dict_get_2 _ _) (meets_dict_get (strKind X.prog X.w) a (strKind_is X.prog X.w z t) D.low) ⟨_, hm, _, H2, I2.tok _, ?_, q2⟩
    rw [PySem.W.find_K D.at_ en]
    exact rv.getD rfl
end
end L2

/-! an attribute of an instance as one of several targets. -/
namespace ExX
open PySem PySem.Spec PyProof.Rows L2
def gFld (K : PySem.W.Frag) (ta : TE) (f : Str) : TG := fun v σ H Q => ta σ H fun x H1 => ∃ a C dx fs, x = .ref a ∧ H1 a = some (.ins C dx fs) ∧ Cls K C ∧ NoAttr K C f ∧ fs.length < 1000 ∧ Q σ (upd H1 a (.ins C dx (putF f v fs)))
theorem pg_fld {X : Cx} {pos : Pos} {o : Expr} {f : Str} {ta : TE} (ha : PE X o ta) : PG X (.Attribute o f pos) (gFld X.K ta f) := by
  refine ⟨fun pins s σ H v u Q I r h => ?_⟩
  rw [assign_Attribute]
  refine wpAny_bind (wpAny_holding (thn (ha.run pins s σ H _ I h) fun ov s1 ⟨x, H1, I1, r1, a, C, dx, fs, ex, ea, c, n, l, q⟩ => ?_))
  subst ex
  obtain rfl : ov = Value.ref a := r1
  refine wpAny_bind (wpAny_standAt (wpAny_bind (wpAny_holding (setattr_ok (Q := fun _ s' => wpAny (model X.prog X.w) X.A (release [u, .ref a] []) _ X.xe s') I1 ea c n l r fun s2 I2 => ?_))))
  exact wpAny_release ⟨σ, _, I2, q⟩
end ExX

namespace Ff
open PySem PySem.Spec PyProof.Rows L2 ExX LamX
/-! EmptyHistory: an error without a field, raised. -/
abbrev ixTail : List Value := [.type "IndexError", .type "LookupError", .type "Exception", .type "BaseException", .type "object"]
theorem ty_ix : typeOf (.type "IndexError") = pure (.type "type") := by kernel_rfl
theorem bo_ix : bootBuiltins "IndexError" = some (.type "IndexError") := by kernel_rfl
abbrev tagEH : Str := "EmptyHistory"
def spEH (K : PySem.W.Frag) : Sp := fun vs H Q _ => ∃ (a C : Addr), vs = [.ref a] ∧ H a = some (exo a C none) ∧ ExB K C "IndexError.__new__" ixTail ∧ PySem.W.findIn K (.ref C) "tag" = some none ∧
  ∀ dx, H dx = none → dx ≠ a → Q .non (upd (upd H dx (exd dx [("tag", .str tagEH)])) a (exo a C (some dx)))
/-- it is on its way -/
def Flies0 (H : Hp) (E : XK) (C : Addr) : Prop := ∀ d H1, H d = none → H1 d = some (.xd [("tag", .str tagEH)]) → Same H H1 → E (.ref C) (some d) H1
structure RaisEH (P : Program) (w : World) (K : PySem.W.Frag) (mg : Str → Option Value) (base : Heap) (C : Addr) : Prop where
  ex : ∃ (fI : Addr) (fd : FuncData), ExB K C "IndexError.__new__" ixTail ∧ PySem.W.findIn K (.ref C) "__init__" = some (some (.ref fI)) ∧ PySem.W.typeIn K (.ref fI) = some (.type "function") ∧
    FnOk P w K mg base CX0 1 fI fd ["self"] (spEH K) ∧ L2.Binds K fd ["self"] []
  g : mg "EmptyHistory" = some (.ref C)
  nt : PySem.W.findIn K (.ref C) "tag" = some none
  xf : XfC K C
section
variable {X : Cx} {k : Nat} {x : Str} {C : Addr} {p pos : Pos}
theorem mk_flies0 {K : PySem.W.Frag} {H1 : Hp} {Q : XK} (T : ExB K C "IndexError.__new__" ixTail) (nt : PySem.W.findIn K (.ref C) "tag" = some none) (fl : Flies0 H1 Q C) : mkW C (spEH K) [] H1 Q := by
  refine ⟨by show 0 ≤ 1000; decide, fun a na => ⟨a, C, rfl, upd_same, T, nt, fun dx nd ne => ⟨rfl, dx, [("tag", .str tagEH)], upd_same, (by rw [upd_ne ne, upd_same]), ?_, ?_⟩⟩⟩
  · rw [upd_ne ne] at nd
    exact nd
  · rw [upd_ne ne] at nd
    refine fl dx _ nd upd_same fun b o q => ?_
    have hb : b ≠ dx := ne_of_none q nd
    have ha : b ≠ a := ne_of_none q na
    rw [upd_ne hb, del_ne ha, upd_ne ha, upd_ne hb, upd_ne ha]
    exact q
/-- C(), an own exception without arguments -/
theorem pmk0 {CX : CXT} {C fI : Addr} {fd : FuncData} {ps : List Str} {sp : Sp} {B nid iid : String} {tl : List Value} {R : Hp → XK → Prop} (FB : ExcBaseFacts B nid iid tl) (T : ExB X.K C nid tl) (iC : PySem.W.findIn X.K (.ref C) "__init__" = some (some (.ref fI))) (tI : PySem.W.typeIn X.K (.ref fI) = some (.type "function"))
    (F1 : FnOk X.prog X.w X.K X.mg X.base CX k fI fd ps sp) (hr : Room (k + 1) X.A) (hb : L2.Binds X.K fd ps []) (hx : Passes CX X (fun _ _ _ => False)) (hg : Gl X x) (hm : X.mg x = some (.ref C)) (hR : ∀ H1 Q, R H1 Q → mkW C sp [] H1 Q)
    (hdb : (x == ("__debug__" : Str)) = false := by decide) :
    L2N.PMk X (.Call (.Name x p) [] [] pos) (fun σ H Q => R H Q) := by
  intro pins s σ H Q I1 q0
  refine wpAny_Call_Name_kw (ld_glob I1 hg hm ?_ hdb)
  refine PySem.W.callWith_K0 (first := []) I1.kIn T.kep ?_
  obtain ⟨hz, q1⟩ := hR _ _ q0
  obtain ⟨nm, N, qn, bs, bm, hdct, sn, sub, ab, col, dd, k0, k1, k2, k3, k5, hC, hT⟩ := PySem.W.excInit_of I1.kIn T.ini
  obtain ⟨hp, g, dr, tk, os⟩ := s
  let h1 : Heap := (hp.push (PySem.W.kdv_tup [])).push (PySem.HandSPX.excO C hp.objs.size)
  have kk : ∀ b o, hp.get? b = some o → h1.get? b = some o := fun b o e => Heap.get?_push_of_some _ (Heap.get?_push_of_some _ e)
  have new : h1.get? (hp.objs.size + 1) = some (PySem.HandSPX.excO C hp.objs.size) := by show Heap.get? ((hp.push (PySem.W.kdv_tup [])).push (PySem.HandSPX.excO C hp.objs.size)) _ = _; heap_get
  have hq := q1 (hp.objs.size + 1) (I1.hok.fresh (Nat.le_succ _))
  have I2 : Inv X pins σ (upd H (hp.objs.size + 1) (exo (hp.objs.size + 1) C none)) ⟨h1, g, dr, tk, os⟩ := I1.laid (t' := tk) (a := hp.objs.size + 1) (o := exo (hp.objs.size + 1) C none) kk (Nat.le_succ _) (exo_ok new)
  have r2 : Vals [V.ref (hp.objs.size + 1)] [Value.ref (hp.objs.size + 1)] := .cons rfl .nil
  have hl : [Value.ref (hp.objs.size + 1)].length = ps.length := by rw [← r2.length]; exact F1.len _ _ _ _ hq
  have hb2 := hb ⟨h1, g, dr, tk, os⟩ [Value.ref (hp.objs.size + 1)] I2.kIn (by rw [List.append_nil]; exact hl)
  rw [List.append_nil] at hb2
  show wpAny _ _ (call (.ref C) []) _ _ _
  refine wpAny_call (PySem.HandSPX.call_own FB hT hC (PySem.W.looks_findIn I1.kIn iC) (fun self => PySem.W.bind_fn I1.kIn self tI) (by rw [sizeLine_eq]; show 0 ≤ _; omega) ?_)
  refine codeAny_mono (F1.run _ X.stack _ _ ⟨[Value.ref (hp.objs.size + 1)], []⟩ _ _ _ (fun _ _ _ => False) (hr.make C [] []) (I2.env0.make C [] []) hb2 r2 hq) fun r s2 z => ?_
  cases r with
  | error er => exact hx pins σ _ _ er s2 I2 z
  | ok fl =>
    cases fl with
    | ret u =>
      obtain ⟨v, H2, os2, bare2, un2, hok2, rv, ev, d, fs, ea, ed, hd1, q2⟩ := z
      subst ev
      obtain ⟨h2, g2, d2, t2, os3⟩ := s2
      obtain ⟨t0, G, J, kG, ge, hoe, na⟩ := mk_end0 (d2 := d2) (t2 := t2) I1 (Nat.le_succ _) kk un2 hok2 os2 bare2 ea ed hd1
      exact ⟨rv, _, _, _, ⟨G, g2, d2, t2, os3⟩, _, .ref C, some d, rfl, J, kG, ge, hoe, ⟨rfl, rfl, fun vs z => by cases z; rfl⟩, rfl, rfl, na, rfl, bare2, raises_own T.sub T.typ, q2⟩
    | _ => exact z.elim
theorem pmk_eh (T : RaisEH X.prog X.w X.K X.mg X.base C) (hr : Room 2 X.A) (hg : Gl X "EmptyHistory") : L2N.PMk X (.Call (.Name "EmptyHistory" p) [] [] pos) (fun σ H Q => Flies0 H Q C) := by
  obtain ⟨fI, fd, TB, iC, tI, G, b⟩ := T.ex
  exact pmk0 (R := fun H1 Q => Flies0 H1 Q C) PySem.F.excBase_IndexError TB iC tI G hr b pass0 hg T.g (fun H1 Q z => mk_flies0 TB T.nt z)
end
end Ff

namespace Ff
open PySem PySem.Spec PyProof.Rows L2
def topS (i : Nat) : Stmt := PySem.Challenge.pw_findforests_k60_whole_unions_keep_the_se.main.body.getD i (.Pass ⟨0, 0, 0, 0⟩)
/-- all but what stands at d is as it was -/
def Sb (d : Addr) (H H' : Hp) : Prop := ∀ b o, b ≠ d → H b = some o → H' b = some o
theorem Sb.refl {d : Addr} {H : Hp} : Sb d H H := fun _ _ _ h => h
theorem Sb.trans {d : Addr} {H H1 H2 : Hp} (a : Sb d H H1) (b : Sb d H1 H2) : Sb d H H2 := fun c o n h => b c o n (a c o n h)
theorem Sb.of {d : Addr} {H H' : Hp} (s : Same H H') : Sb d H H' := fun b o _ h => s b o h
theorem Sb.put {d : Addr} {H : Hp} {o : HO} : Sb d H (upd H d o) := fun b u n h => by rw [upd_ne n]; exact h
theorem same_new {H : Hp} {p : Addr} {o : HO} (h : H p = none) : Same H (upd H p o) := fun b x e => by
  rw [upd_ne (ne_of_none e h)]
  exact e
theorem same_sqt {H : Hp} {K : PySem.W.Frag} {a : Addr} {xs : List V} {H' : Hp} (e : Same H H') (h : SqT K H a xs) : SqT K H' a xs := by
  rcases h with (h | ⟨o, h⟩) | h
  · exact .inl (.inl (e _ _ h))
  · exact .inl (.inr ⟨o, e _ _ h⟩)
  · exact .inr h
/-- the state of the draws: a list of a list of ints and three ints -/
def DrawAt (H : Hp) (d l : Addr) : Prop := ∃ (ns : List Int) (i j k : Int),
  H d = some (.lst [.ref l, .int i, .int j, .int k]) ∧ H l = some (.lst (ns.map V.int)) ∧ 0 ≤ i ∧ 0 ≤ k ∧ k < 2305843009213693951
theorem draw_ne {H : Hp} {d l : Addr} {ns : List Int} {i j k : Int} (h : H d = some (.lst [.ref l, .int i, .int j, .int k])) (h' : H l = some (.lst (ns.map V.int))) : l ≠ d :=
  ne_of h' h (by
    intro z
    cases ns with
    | nil => cases z
    | cons a r => injection z with z; injection z with z _; cases z)
theorem DrawAt.same {H H' : Hp} {d l : Addr} (D : DrawAt H d l) (s : Same H H') : DrawAt H' d l := by
  obtain ⟨ns, i, j, k, h, h', r⟩ := D
  exact ⟨ns, i, j, k, s _ _ h, s _ _ h', r⟩
def spTake : Sp := fun vs H Q _ => ∃ (d l : Addr) (m : Int), vs = [.ref d, .int m] ∧ DrawAt H d l ∧ 1 ≤ m ∧ m.natAbs < 2 ^ 1000 ∧
  ∀ (r : Nat) H', (r : Int) < m → DrawAt H' d l → Sb d H H' → Q (.int r) H'
section
variable {P : Program} {w : World} {K : PySem.W.Frag} {mg : Str → Option Value} {base : Heap}
theorem dix {K : PySem.W.Frag} {H : Hp} {d : Addr} {xs : List V} (h : H d = some (.lst xs)) {k : Nat} {v : V} (e : xs[k]? = some v) : SqL K H d xs ∧ atI xs (k : Int) = some v := ⟨SqL.of h, atI_nat e⟩
end
theorem Sb.sql {K : PySem.W.Frag} {d a : Addr} {H H' : Hp} {xs : List V} (e : Sb d H H') (n : a ≠ d) (h : SqL K H a xs) : SqL K H' a xs := by
  rcases h with (h | ⟨o, h⟩) | h
  · exact .inl (.inl (e _ _ n h))
  · exact .inl (.inr ⟨o, e _ _ n h⟩)
  · exact .inr h
theorem Sb.sqt {K : PySem.W.Frag} {d a : Addr} {H H' : Hp} {xs : List V} (e : Sb d H H') (n : a ≠ d) (h : SqT K H a xs) : SqT K H' a xs := by
  rcases h with (h | ⟨o, h⟩) | h
  · exact .inl (.inl (e _ _ n h))
  · exact .inl (.inr ⟨o, e _ _ n h⟩)
  · exact .inr h
theorem DrawAt.ne {H : Hp} {d l p : Addr} (D : DrawAt H d l) (h : H p = none) : p ≠ d := by
  obtain ⟨ns, i, j, k, e, _⟩ := D
  exact (ne_of_none e h).symm
theorem DrawAt.nel {H : Hp} {d l p : Addr} (D : DrawAt H d l) (h : H p = none) : p ≠ l := by
  obtain ⟨ns, i, j, k, _, e, _⟩ := D
  exact (ne_of_none e h).symm
theorem DrawAt.put {H : Hp} {d l p : Addr} {o : HO} (D : DrawAt H d l) (h : p ≠ d) (h2 : p ≠ l) : DrawAt (upd H p o) d l := by
  obtain ⟨ns, i, j, k, g, g', r⟩ := D
  exact ⟨ns, i, j, k, by rw [upd_ne h.symm]; exact g, by rw [upd_ne h2.symm]; exact g', r⟩
theorem DrawAt.new {H : Hp} {d l p : Addr} {o : HO} (D : DrawAt H d l) (h : H p = none) : DrawAt (upd H p o) d l := D.same (same_new h)
theorem Sb.over {d p : Addr} {H H' : Hp} {o : HO} (e : Sb d H H') (h : H p = none) : Sb d H (upd H' p o) := fun b u n hb => by
  rw [upd_ne (ne_of_none hb h)]
  exact e b u n hb
theorem same_over {p : Addr} {H H' : Hp} {o : HO} (e : Same H H') (h : H p = none) : Same H (upd H' p o) := fun b u hb => by
  rw [upd_ne (ne_of_none hb h)]
  exact e b u hb
theorem Sb.free {d : Addr} {H H' : Hp} (e : Sb d H H') {p : Addr} (n : p ≠ d) (h : H' p = none) : H p = none := by
  cases z : H p with
  | none => rfl
  | some o => rw [e p o n z] at h; cases h
structure Tx (mg : Str → Option Value) : Prop where
  len : mg "len" = none
  range : mg "range" = none
  list : mg "list" = none
  tuple : mg "tuple" = none
  max : mg "max" = none
  min : mg "min" = none
def spOf (K : PySem.W.Frag) : Sp := fun vs H Q _ => ∃ (d l a : Addr) (xs : List V), vs = [.ref d, .ref a] ∧ DrawAt H d l ∧ a ≠ d ∧ SqL K H a xs ∧ 1 ≤ xs.length ∧ xs.length ≤ 1000 ∧
  ∀ (i : Nat) (v : V) H', xs[i]? = some v → DrawAt H' d l → Sb d H H' → Q v H'
def spShuf (K : PySem.W.Frag) : Sp := fun vs H Q _ => ∃ (d l a : Addr) (xs : List V), vs = [.ref d, .ref a] ∧ DrawAt H d l ∧ a ≠ d ∧ SqL K H a xs ∧ xs.length ≤ 1000 ∧
  ∀ (p : Addr) (ys : List V) H', ys.Perm xs → H p = none → p ≠ d → H' p = some (.lst ys) → DrawAt H' d l → Sb d H H' → Q (.ref p) H'
def spSize : Sp := fun vs H Q _ => ∃ (d l : Addr) (m : Nat), vs = [.ref d, .int m] ∧ DrawAt H d l ∧ m ≤ 1000 ∧
  ∀ (r : Nat) H', r ≤ m → DrawAt H' d l → Sb d H H' → Q (.int r) H'
def spStart (K : PySem.W.Frag) : Sp := fun vs H Q _ => ∃ (a : Addr) (ns : List Int), vs = [.ref a] ∧ SqL K H a (ns.map V.int) ∧ ns.length ≤ 63 ∧
  ∀ (d l : Addr) H', H d = none → DrawAt H' d l → Same H H' → Q (.ref d) H'
section
variable {P : Program} {w : World} {K : PySem.W.Frag} {mg : Str → Option Value} {base : Heap}
theorem insert_perm {xs : List V} (i : Nat) (y : V) : (xs.take i ++ [y] ++ xs.drop i).Perm (xs ++ [y]) := by
  rw [List.append_assoc]
  refine (List.Perm.append_left _ (List.perm_append_comm)).trans ?_
  rw [← List.append_assoc, List.take_append_drop]
end
abbrev vi (n : Nat) : V := .int (n : Int)
def natsV (l : List Nat) : List V := l.map vi
def tupOf (n : Nat) (p : Nat → Nat) : List V := (List.range n).map fun v => vi (p v)
theorem tupOf_len (n : Nat) (p : Nat → Nat) : (tupOf n p).length = n := by unfold tupOf; rw [List.length_map, List.length_range]
theorem tupOf_at {n : Nat} {p : Nat → Nat} {i : Nat} (h : i < n) : (tupOf n p)[i]? = some (vi (p i)) := by
  unfold tupOf
  rw [List.getElem?_map, List.getElem?_range h]
  rfl
theorem tupOf_congr {n : Nat} {p q : Nat → Nat} (h : ∀ v, v < n → p v = q v) : tupOf n p = tupOf n q := by
  unfold tupOf
  exact List.map_congr_left fun v hv => by rw [h v (List.mem_range.mp hv)]
theorem tupOf_set {n : Nat} {p : Nat → Nat} {i y : Nat} : (tupOf n p).set i (vi y) = tupOf n (fun v => if v = i then y else p v) := by
  refine List.ext_getElem? fun j => ?_
  rw [List.getElem?_set]
  by_cases hj : j < n
  · rw [tupOf_at hj, tupOf_at hj, tupOf_len]
    by_cases e : i = j
    · subst e
      rw [if_pos rfl, if_pos hj, if_pos rfl]
    · rw [if_neg e, if_neg (fun z => e z.symm)]
  · have z1 : (tupOf n p)[j]? = none := List.getElem?_eq_none (by rw [tupOf_len]; omega)
    have z2 : (tupOf n (fun v => if v = i then y else p v))[j]? = none := List.getElem?_eq_none (by rw [tupOf_len]; omega)
    rw [z1, z2, tupOf_len]
    by_cases e : i = j
    · rw [if_pos e, if_neg (by omega)]
    · rw [if_neg e]
theorem natsV_len (l : List Nat) : (natsV l).length = l.length := List.length_map _
theorem natsV_last (p : Nat → Nat) (k x : Nat) : atI (natsV (path p k x)) (-1) = some (vi (root p k x)) := by
  unfold natsV path
  rw [List.map_append]
  exact atI_last _ _
/-- a list or a tuple that is read -/
def Sq (K : PySem.W.Frag) (H : Hp) (a : Addr) (xs : List V) : Prop := SqL K H a xs ∨ SqT K H a xs
theorem Sq.same {K : PySem.W.Frag} {H H' : Hp} {a : Addr} {xs : List V} (h : Sq K H a xs) (e : Same H H') : Sq K H' a xs := h.imp (fun z => e.seq z) (fun z => same_sqt e z)
theorem Sq.sb {K : PySem.W.Frag} {d : Addr} {H H' : Hp} {a : Addr} {xs : List V} (h : Sq K H a xs) (e : Sb d H H') (n : a ≠ d) : Sq K H' a xs := h.imp (fun z => e.sql n z) (fun z => e.sqt n z)
theorem Sq.ix {K : PySem.W.Frag} {H : Hp} {a : Addr} {xs : List V} (h : Sq K H a xs) {i : Int} {v : V} {Q : VK} (e : atI xs i = some v) (q : Q v H) : rIx K (.ref a) (.int i) H Q := by
  rcases h with z | z
  · exact .inl ⟨a, xs, i, v, rfl, rfl, z, e, q⟩
  · exact .inr (.inl ⟨a, xs, i, v, rfl, rfl, z, e, q⟩)
def spChk (K : PySem.W.Frag) : Sp := fun vs H Q _ => ∃ (a : Addr) (xs : List V) (x : Nat), vs = [.ref a, vi x] ∧ Sq K H a xs ∧ x < xs.length ∧ Q .non H
/-- path_of, and the law's own -/
def spPath (K : PySem.W.Frag) : Sp := fun vs H Q _ => ∃ (a : Addr) (n : Nat) (p : Nat → Nat) (x : Nat), vs = [.ref a, vi x] ∧ Sq K H a (tupOf n p) ∧ n ≤ 1000 ∧ (∀ v, v < n → p v < n) ∧ x < n ∧
  ∀ (q : Addr) H', H q = none → H' q = some (.lst (natsV (path p n x))) → Same H H' → Q (.ref q) H'
def spPathOf (K : PySem.W.Frag) : Sp := fun vs H Q _ => ∃ (a : Addr) (n : Nat) (p r : Nat → Nat) (x : Nat), vs = [.ref a, vi x] ∧ Sq K H a (tupOf n p) ∧ n ≤ 1000 ∧ Fo n p r ∧ x < n ∧
  ∀ (q : Addr) H', H q = none → H' q = some (.lst (natsV (path p n x))) → Same H H' → Q (.ref q) H'
def spRoot (K : PySem.W.Frag) : Sp := fun vs H Q _ => ∃ (a : Addr) (n : Nat) (p : Nat → Nat) (x : Nat), vs = [.ref a, vi x] ∧ Sq K H a (tupOf n p) ∧ n ≤ 1000 ∧ (∀ v, v < n → p v < n) ∧ x < n ∧
  ∀ H', Same H H' → Q (vi (root p n x)) H'
def spFind (K : PySem.W.Frag) : Sp := fun vs H Q _ => ∃ (a : Addr) (n : Nat) (p r : Nat → Nat) (x : Nat), vs = [.ref a, vi x] ∧ Sq K H a (tupOf n p) ∧ n ≤ 1000 ∧ Fo n p r ∧ x < n ∧
  ∀ (t g : Addr) H', H t = none → H g = none → H' t = some (.tup [.ref g, vi (ups p n x).length]) → H' g = some (.tup (tupOf n (fnd n p x))) → Same H H' → Q (.ref t) H'
def spFindAll (K : PySem.W.Frag) : Sp := fun vs H Q _ => ∃ (a b : Addr) (n : Nat) (p r : Nat → Nat) (xs : List Nat), vs = [.ref a, .ref b] ∧ SqT K H a (tupOf n p) ∧ SqL K H b (natsV xs) ∧ n ≤ 1000 ∧ xs.length ≤ 1000 ∧ Fo n p r ∧ (∀ x ∈ xs, x < n) ∧
  ∀ (t g c : Addr) H', H t = none → H c = none → (g = a ∨ H g = none) → H' t = some (.tup [.ref g, .ref c]) → SqT K H' g (tupOf n (fndAll n xs p)) → H' c = some (.lst (natsV (costs n xs p))) → Same H H' → Q (.ref t) H'
/-- an integer that is one of the numbers below -/
def spNum : Sp := fun vs H Q _ => ∃ (n x : Nat), vs = [vi n, vi x] ∧ x < n ∧ Q .non H
def setAll (y : Nat) : List Nat → (Nat → Nat) → Nat → Nat
  | [], p => p
  | v :: l, p => setAll y l (fun u => if u = v then y else p u)
theorem setAll_snoc (y v : Nat) : ∀ (l : List Nat) (p : Nat → Nat), setAll y (l ++ [v]) p = fun u => if u = v then y else setAll y l p u
  | [], _ => rfl
  | a :: l, p => setAll_snoc y v l _
theorem setAll_eq (y : Nat) : ∀ (l : List Nat) (p : Nat → Nat) (u : Nat), setAll y l p u = if u ∈ l then y else p u
  | [], p, u => by rw [if_neg (List.not_mem_nil)]; rfl
  | a :: l, p, u => by
    show setAll y l _ u = _
    rw [setAll_eq y l]
    by_cases h1 : u ∈ l
    · rw [if_pos h1, if_pos (List.mem_cons_of_mem _ h1)]
    · rw [if_neg h1]
      by_cases h2 : u = a
      · rw [if_pos h2, if_pos (by rw [h2]; exact List.mem_cons_self)]
      · rw [if_neg h2, if_neg (fun z => (List.mem_cons.mp z).elim h2 h1)]
theorem fnd_setAll (n : Nat) (p : Nat → Nat) (x : Nat) : setAll (root p n x) (path p n x) p = fnd n p x := by
  funext u
  rw [setAll_eq]
  rfl
theorem path_lt {n : Nat} {p r : Nat → Nat} (F : Fo n p r) {x : Nat} (hx : x < n) : ∀ v ∈ path p n x, v < n := fun v hv => by
  unfold path at hv
  rcases List.mem_append.mp hv with h | h
  · exact (ups_lt F x hx v h).1
  · rw [List.mem_singleton.mp h]; exact root_lt F x hx
theorem ixN_nat {n i : Nat} (h : i < n) : ixN n (i : Int) = some i := by
  unfold ixN
  rw [if_pos (by omega), if_pos (by omega)]
  simp
theorem perm_of_map {α β : Type} {f : α → β} {zs ys : List β} (h : zs.Perm ys) : ∀ l : List α, zs = l.map f → ∃ l' : List α, ys = l'.map f ∧ l.Perm l' := by
  induction h with
  | nil => intro l e; exact ⟨l, e, List.Perm.refl _⟩
  | cons x h ih =>
    intro l e
    cases l with
    | nil => cases e
    | cons a r =>
      injection e with e1 e2
      obtain ⟨l', h1, h2⟩ := ih r e2
      exact ⟨a :: l', by rw [h1, e1]; rfl, h2.cons a⟩
  | swap x y l0 =>
    intro l e
    match l, e with
    | a :: b :: r, e =>
      injection e with e1 e2
      injection e2 with e2 e3
      exact ⟨b :: a :: r, by rw [e1, e2, e3]; rfl, List.Perm.swap _ _ _⟩
  | trans h1 h2 ih1 ih2 =>
    intro l e
    obtain ⟨l1, a, b⟩ := ih1 l e
    obtain ⟨l2, c, d⟩ := ih2 l1 a
    exact ⟨l2, c, b.trans d⟩
theorem rgV_nat (n : Nat) : rgV 0 (n : Int) = natsV (List.range n) := by
  unfold rgV natsV
  rw [show ((n : Int) - 0).toNat = n by omega]
  exact List.map_congr_left fun i _ => by show V.int (0 + (i : Int)) = V.int (i : Int); rw [Int.zero_add]
theorem rgOk_nat {n : Nat} (h : n ≤ 1000) : RgOk 0 (n : Int) := ⟨by decide, by decide, by omega, by omega, by omega⟩
theorem shuf_nats {l : List Nat} {ys : List V} (h : ys.Perm (natsV l)) : ∃ ks : List Nat, ys = natsV ks ∧ ks.Perm l := by
  obtain ⟨l', e, p⟩ := perm_of_map h.symm l rfl
  exact ⟨l', e, p.symm⟩
/-- the assignments of the renaming -/
def asg (ks ps : List Nat) : Nat → Nat → Nat
  | 0 => fun _ => 0
  | i + 1 => fun v => if v = ks.getD i 0 then ks.getD (ps.getD i 0) 0 else asg ks ps i v
theorem getD_inj {ks : List Nat} (nd : ks.Nodup) {i j : Nat} (hi : i < ks.length) (hj : j < ks.length) (e : ks.getD i 0 = ks.getD j 0) : i = j := by
  rw [List.getD_eq_getElem?_getD, List.getD_eq_getElem?_getD, List.getElem?_eq_getElem hi, List.getElem?_eq_getElem hj] at e
  exact (List.getElem_inj nd).mp e
theorem asg_at {ks ps : List Nat} (nd : ks.Nodup) : ∀ i, i ≤ ks.length → ∀ j, j < i → asg ks ps i (ks.getD j 0) = ks.getD (ps.getD j 0) 0
  | 0, _, j, h => by omega
  | i + 1, hi, j, h => by
    show (if ks.getD j 0 = ks.getD i 0 then _ else _) = _
    by_cases e : j = i
    · subst e; rw [if_pos rfl]
    · rw [if_neg (fun z => e (getD_inj nd (by omega) (by omega) z))]
      exact asg_at nd i (by omega) j (by omega)
theorem renamed_fo {ks ps : List Nat} {n : Nat} (hk : ks.Perm (List.range n)) (hp : ∀ j, j < n → ps.getD j 0 ≤ j) : ∃ r, Fo n (asg ks ps n) r := by
  have nd : ks.Nodup := hk.nodup_iff.mpr List.nodup_range
  have hl : ks.length = n := by rw [hk.length_eq, List.length_range]
  have hm : ∀ v, v < n → ∃ j, j < n ∧ ks.getD j 0 = v := fun v hv => by
    obtain ⟨j, hj, e⟩ := List.getElem_of_mem (hk.mem_iff.mpr (List.mem_range.mpr hv))
    exact ⟨j, by omega, by rw [List.getD_eq_getElem?_getD, List.getElem?_eq_getElem hj]; exact e⟩
  have hb : ∀ j, j < n → ks.getD j 0 < n := fun j hj => by
    have hj' : j < ks.length := by omega
    rw [List.getD_eq_getElem?_getD, List.getElem?_eq_getElem hj']
    exact List.mem_range.mp (hk.mem_iff.mp (List.getElem_mem hj'))
  have hi : ∀ j, j < n → ks.idxOf (ks.getD j 0) = j := fun j hj => by
    have hj' : j < ks.length := by omega
    have hmem : ks.getD j 0 ∈ ks := by
      rw [List.getD_eq_getElem?_getD, List.getElem?_eq_getElem hj']
      exact List.getElem_mem hj'
    have h1 := List.idxOf_lt_length_of_mem hmem
    refine getD_inj nd h1 hj' ?_
    rw [List.getD_eq_getElem?_getD, List.getElem?_eq_getElem h1]
    exact List.getElem_idxOf h1
  refine ⟨fun v => ks.idxOf v, fun v hv => ?_, fun v hv => ?_, fun v hv => ?_⟩
  · obtain ⟨j, hj, rfl⟩ := hm v hv
    rw [asg_at nd n (by omega) j hj]
    have := hp j hj
    exact hb _ (by omega)
  · obtain ⟨j, hj, rfl⟩ := hm v hv
    rw [asg_at nd n (by omega) j hj]
    have h1 := hp j hj
    by_cases e : ps.getD j 0 = j
    · exact .inl (by rw [e])
    · exact .inr (by show ks.idxOf _ < ks.idxOf _; rw [hi _ (by omega), hi _ hj]; omega)
  · obtain ⟨j, hj, rfl⟩ := hm v hv
    show ks.idxOf _ < n
    rw [hi j hj]; exact hj
/-- a new forest -/
def spRen (K : PySem.W.Frag) : Sp := fun vs H Q _ => ∃ (d l a : Addr) (ps : List Nat), vs = [.ref d, .ref a] ∧ DrawAt H d l ∧ a ≠ d ∧ SqL K H a (natsV ps) ∧ ps.length ≤ 1000 ∧ (∀ j, j < ps.length → ps.getD j 0 ≤ j) ∧
  ∀ (t : Addr) (p r : Nat → Nat) H', H t = none → H' t = some (.tup (tupOf ps.length p)) → Fo ps.length p r → DrawAt H' d l → Sb d H H' → Q (.ref t) H'
def spFor : Sp := fun vs H Q _ => ∃ (d l : Addr) (n m : Nat), vs = [.ref d, vi n, vi m] ∧ DrawAt H d l ∧ n ≤ 1000 ∧
  ∀ (t : Addr) (p r : Nat → Nat) H', H t = none → H' t = some (.tup (tupOf n p)) → Fo n p r → DrawAt H' d l → Sb d H H' → Q (.ref t) H'
def spSome : Sp := fun vs H Q _ => ∃ (d l : Addr) (m : Nat), vs = [.ref d, vi m] ∧ DrawAt H d l ∧ m ≤ 1000 ∧
  ∀ (t : Addr) (n : Nat) (p r : Nat → Nat) H', n ≤ m → H t = none → H' t = some (.tup (tupOf n p)) → Fo n p r → DrawAt H' d l → Sb d H H' → Q (.ref t) H'
def spNodes : Sp := fun vs H Q _ => ∃ (d l : Addr) (n m : Nat), vs = [.ref d, vi n, vi m] ∧ DrawAt H d l ∧ n ≤ 1000 ∧ m ≤ 500 ∧
  ∀ (a : Addr) (xs : List Nat) H', H a = none → H' a = some (.lst (natsV xs)) → (∀ x ∈ xs, x < n) → xs.length ≤ m → DrawAt H' d l → Sb d H H' → Q (.ref a) H'
theorem rep0 (n : Nat) : (List.replicate n [V.int 0]).flatten = tupOf n (fun _ => 0) := by
  refine List.ext_getElem? fun i => ?_
  have e : (List.replicate n [V.int 0]).flatten = List.replicate n (V.int 0) := by
    induction n with
    | zero => rfl
    | succ n ih => rw [List.replicate_succ, List.flatten_cons, ih]; rfl
  rw [e]
  by_cases h : i < n
  · rw [tupOf_at h, List.getElem?_replicate, if_pos h]; rfl
  · rw [List.getElem?_eq_none (by rw [List.length_replicate]; omega), List.getElem?_eq_none (by rw [tupOf_len]; omega)]
theorem natsV_at {l : List Nat} {i : Nat} (h : i < l.length) : (natsV l)[i]? = some (vi (l.getD i 0)) := by
  unfold natsV
  rw [List.getElem?_map, List.getElem?_eq_getElem h, List.getD_eq_getElem?_getD, List.getElem?_eq_getElem h]
  rfl
section
variable {P : Program} {w : World} {A : Around} {E : Value → Shared → Prop} {s : Shared}
/-- an empty set, new -/
abbrev newSet (w : World) : Obj := { cls := .type "set", dict := none, data := .set #[] 0 (.fresh 0 0 (!w.params.followText "set-order")) }
end
section
variable {P : Program} {w : World} {A : Around} {E : Value → Shared → Prop} {s : Shared}
theorem set_of_ints {l : Addr} {items : Array Value} (ns : List Int) {Q : Value → Shared → Prop} (hh : A.handled = none) (hl : s.heap.IsList l items) (hit : IntsAre items.toList ns) (hb : ns.length + 1 < scanBound)
    (fin : ∀ (h' : Heap) (tk c : Nat), SetR w h' s.heap.objs.size (fun j => decide (j ∈ ns)) c → c ≤ ns.length → (∀ b o, s.heap.get? b = some o → h'.get? b = some o) → Q (.ref s.heap.objs.size) { s with heap := h', toks := tk }) :
    wpAny (model P w) A (call (.type "set") [.ref l]) Q E s := by
  have size_eq : items.size = ns.length := by rw [← Array.length_toList]; exact IntsAre.length hit
  obtain ⟨c, tl, hmro⟩ := F.called_set.mro; have hmade := F.called_set.made; have hsub := F.called_set.sub
  refine wpAny_call (codeAny_of_tree ?_); show wpAny _ _ (callAny (.type "set") _) _ _ _
  refine wpAny_pure ⟨Code.quiet_builtin _ (by decide +kernel), codeAny_builtin F.entry_type_call ?_⟩; rw [Around.under_plain (weight_type_call_type "set" [.ref l] []) rfl]
  have h1 := F.called_set.notType; have h2 := F.called_set.canCreate; have hct := F.typeCall_set_1 (.ref l)
  (repeat (any_goals (first | assumption | wp_step)))
  refine codeAny_mono (code_set_led1 (.ref l) (E := E) (Q₁ := fun obj s1 => obj = .ref s.heap.objs.size ∧ s1 = { s with heap := s.heap.push (newSet w) }) ⟨rfl, rfl⟩) fun r s1 hr => ?_
  match r, hr with
  | .error e, hr => exact hr
  | .ok (.ret obj), hr =>
      obtain ⟨rfl, rfl⟩ := hr
      have at0 : (s.heap.push (newSet w)).get? s.heap.objs.size = some (newSet w) := Heap.get?_push_size _ rfl
      have ty0 : Shared.TypeIs { s with heap := s.heap.push (newSet w) } (.ref s.heap.objs.size) "set" := ⟨_, at0, rfl⟩
      have hli := F.called_set.init.lookup; have hbi := F.called_set.init.bind (.ref s.heap.objs.size)
      (repeat (any_goals (first | assumption | wp_step)))
      refine codeAny_mono (codeAny_call_builtin (R := wants (fun r s2 => r = .none ∧ ∃ h' tk c, s2 = { s with heap := h', toks := tk } ∧ SetR w h' s.heap.objs.size (fun j => decide (j ∈ ns)) c ∧ c ≤ ns.length ∧ (∀ b o, s.heap.get? b = some o → h'.get? b = some o)) E) F.called_set.init.plain F.entry_set_init (check_set_init_1 ty0 ?_)) fun r2 s2 hr2 => ?_
      · obtain ⟨⟨kl, dl, el, sl⟩, hol, hcl, nl, hdl⟩ := hl
        simp only at hcl hdl; subst hcl; subst hdl
        have at1 : (s.heap.push (newSet w)).get? l = some { cls := .type "list", dict := dl, data := .seq items nl, slots := sl } := Heap.get?_push_of_some _ hol
        have hsls := F.sub_list_set; have hslf := F.sub_list_frozenset; have hne : (Value.type "list" == Value.type "dict") = false := by decide
        have isl : (s.heap.push (newSet w)).IsList l items := ⟨_, at1, rfl, nl, rfl⟩
        unfold Builtin.«set.__init__» noKeywords Builtin.Frozenset.updateFrom; generalize hPI : pyIter = PI; wp_walk; subst hPI
        refine wpAny_pyIter_list isl (wpAny_bind (wpAny_runValue ?_))
        have lt0 : l < s.heap.objs.size := Heap.lt_size hol
        have hd3 : A.in1.in1.in1.handled = none := by simp [hh]
        have sz1 : (s.heap.push (newSet w)).objs.size = s.heap.objs.size + 1 := Heap.size_push ..
        have nel : l ≠ (s.heap.push (newSet w)).objs.size := by rw [sz1]; exact Nat.ne_of_lt (Nat.lt_succ_of_lt lt0)
        have out0 : s.heap.objs.size ∉ [(s.heap.push (newSet w)).objs.size, l] := by
          rw [sz1]; intro z
          rcases List.mem_cons.mp z with z | z
          · exact Nat.ne_of_lt (Nat.lt_succ_self _) z
          · exact Nat.ne_of_gt lt0 (List.mem_singleton.mp z)
        have val : ∀ (i : Nat) (v : Value), items[i]? = some v → ∃ k t, ns[i]? = some k ∧ v = .int k t := fun i v hv => by
          have hi : i < ns.length := by rw [← size_eq]; exact (Array.getElem?_eq_some_iff.mp hv).1
          obtain ⟨t, e⟩ := IntsAre.int_at hit i v (by rw [Array.getElem?_toList]; exact hv)
          refine ⟨ns[i], t, List.getElem?_eq_getElem hi, ?_⟩
          rw [e, List.getD_eq_getElem?_getD, List.getElem?_eq_getElem hi]; rfl
        refine set_update_ints ((Walks.list hd3 _ l nel items).toS) s.heap.objs.size out0 ns size_eq hb val (items.size - 0) 0 _ (by omega) (Nat.zero_le _) ⟨⟨_, Heap.get?_push_size _ rfl, rfl, rfl⟩, (isl.push _)⟩ ⟨0, Nat.le_refl 0, setR_new_at (Heap.get?_push_of_some _ at0)⟩ ?_
        rintro ⟨h', g2, d2, t2, o2⟩ c' hm hc' hS'
        obtain rfl : g2 = s.gens := hm.gens
        obtain rfl : d2 = s.drawn := hm.drawn
        obtain rfl : o2 = s.os := hm.os
        show wpAny _ _ _ _ _ _; refine wpAny_pure ?_; show wpAny _ _ (ret Value.none) _ _ _
        refine wpAny_pure ⟨rfl, h', t2, c', rfl, hS', by omega, fun b o e => ?_⟩
        have b0 : b < s.heap.objs.size := Heap.lt_size e
        refine hm.heap b o (fun z => ?_) (Heap.get?_push_of_some _ (Heap.get?_push_of_some _ e))
        rcases List.mem_cons.mp z with z | z
        · exact Nat.ne_of_lt b0 z
        · exact Nat.ne_of_lt (Nat.lt_succ_of_lt b0) ((List.mem_singleton.mp z).trans sz1)
      · match r2, hr2 with
        | .error e, hr2 => exact hr2
        | .ok (.ret r), hr2 =>
            obtain ⟨rfl, h', tk, c', rfl, hS', hc', hk'⟩ := hr2
            (repeat (any_goals (first | assumption | wp_step)))
            exact fin _ _ _ hS' hc' hk'
end
/-- set(xs), a list of ints -/
def rSetI (K : PySem.W.Frag) (w : World) : List V → Hp → VK → Prop := fun xs H Q => ∃ (l : Addr) (ns : List Int), xs = [V.ref l] ∧ SqL K H l (ns.map V.int) ∧ ns.length < 64 ∧
  ∀ (a : Addr) (c : Nat), H a = none → c ≤ ns.length → Q (.ref a) (upd H a (SetO w a (fun j => decide (j ∈ ns)) c))
theorem cr_setI {X : Cx} (hc : X.calm = true) : CallR X (.type "set") (rSetI X.K X.w) := by
  intro pins s σ H xs us Q I r h
  obtain ⟨l, ns, rfl, hl, hf, q⟩ := h
  rw [Vals.ref1 r]
  obtain ⟨its, rv, pl, hz⟩ := I.list hl
  refine set_of_ints (P := X.prog) (w := X.w) ns (I.ok.hd hc) pl.isList (ints_of_vals rv) (by unfold scanBound; omega) fun h' tk c R cl k => ?_
  exact ⟨.ref s.heap.objs.size, upd H s.heap.objs.size (SetO X.w s.heap.objs.size (fun j => decide (j ∈ ns)) c), I.laid (t' := tk) k (Nat.le_refl _) (setO_new R), rfl, q _ c (I.hok.fresh (Nat.le_refl _)) cl⟩
theorem dpAll_ints {K : PySem.W.Frag} {H : Hp} : ∀ l : List Int, DpAll K H (l.map V.int) (l.map PyData.int)
  | [] => .nil
  | x :: r => .cons (.int x) (dpAll_ints r)
theorem lay_ints : ∀ l : List Int, PyData.canLayAll0 (l.map PyData.int) = true
  | [] => by simp [PyData.canLayAll0]
  | x :: r => by simp [PyData.canLayAll0, PyData.canLay0, lay_ints r]
theorem depth_ints : ∀ l : List Int, PyData.depthAll (l.map PyData.int) ≤ 1
  | [] => by simp [PyData.depthAll]
  | x :: r => by
    have := depth_ints r
    simp [PyData.depthAll, PyData.depth]
    omega
theorem shaped_tup (l : List Int) : SeqAt.shaped (.tuple (l.map PyData.int)) = true := by
  unfold SeqAt.shaped
  have := depth_ints l
  simp [PyData.canLay0, lay_ints, PyData.depth]
  omega
def intsOf (n : Nat) (p : Nat → Nat) : List Int := (List.range n).map fun v => (p v : Int)
theorem tupOf_ints (n : Nat) (p : Nat → Nat) : tupOf n p = (intsOf n p).map V.int := by
  unfold tupOf intsOf
  rw [List.map_map]
  rfl
theorem eqv_tup (l : List Int) : PyData.eqv (.tuple (l.map PyData.int)) (.tuple (l.map PyData.int)) = true := SeqAt.eqv_refl _ (SeqAt.canLay_of_shaped (shaped_tup l))
theorem natsV_ints (l : List Nat) : natsV l = (l.map fun n : Nat => (n : Int)).map V.int := by
  unfold natsV
  rw [List.map_map]
  rfl
theorem sum_cast : ∀ l : List Nat, (l.map fun n : Nat => (n : Int)).sum = (l.sum : Nat)
  | [] => rfl
  | x :: r => by
    rw [List.map_cons, List.sum_cons, List.sum_cons, sum_cast r]
    omega
def spLaw (K : PySem.W.Frag) : Sp := fun vs H Q _ => ∃ (a : Addr) (ns : List Int), vs = [.ref a] ∧ SqL K H a (ns.map V.int) ∧ ns.length ≤ 63 ∧ ∀ H', Q (.bl true) H'
theorem DrawAt.net {H : Hp} {d l t : Addr} {xs : List V} (D : DrawAt H d l) (h : H t = some (.tup xs)) : t ≠ d := by
  obtain ⟨ns, i, j, k, e, _⟩ := D
  exact ne_of h e (by intro z; cases z)
theorem cut_last (l : List Nat) (y : Nat) : cutV (natsV (l ++ [y])) none (some (-1)) = natsV l := by
  unfold cutV
  have e1 : HT.sIx (natsV (l ++ [y])).length (natsV (l ++ [y])).length (some (-1)) = l.length := by
    rw [natsV_len, List.length_append, List.length_singleton]
    unfold HT.sIx
    simp
    omega
  rw [e1, HT.sIx_none]
  unfold natsV
  rw [List.map_append]
  simp
theorem flat_nats (l : List Nat) : (natsV l).all flatV = true := by
  unfold natsV
  rw [List.all_eq_true]
  intro v hv
  obtain ⟨n, _, rfl⟩ := List.mem_map.mp hv
  rfl
theorem inV_nats (l : List Nat) (v : Nat) : inV (vi v) (natsV l) = decide (v ∈ l) := by
  unfold inV natsV
  rw [List.any_map]
  refine Bool.eq_iff_iff.mpr ?_
  rw [List.any_eq_true, decide_eq_true_eq]
  constructor
  · rintro ⟨x, hx, e⟩
    have z : ((x : Int) == (v : Int)) = true := e
    have : x = v := by have := eq_of_beq z; omega
    rw [← this]; exact hx
  · intro h
    exact ⟨v, h, by show ((v : Int) == (v : Int)) = true; simp⟩
def markL (n : Nat) (p : Nat → Nat) (l : List Nat) : List Nat := l.flatMap fun x => ups p n x
theorem markL_mem {n : Nat} {p : Nat → Nat} {l : List Nat} {v : Nat} : v ∈ markL n p l ↔ markB n p l v = true := by
  unfold markL markB
  rw [List.mem_flatMap, List.any_eq_true]
  exact ⟨fun ⟨x, a, b⟩ => ⟨x, a, upB_iff.mpr b⟩, fun ⟨x, a, b⟩ => ⟨x, a, upB_iff.mp b⟩⟩
theorem markL_len (n : Nat) (p : Nat → Nat) : ∀ l : List Nat, (markL n p l).length ≤ l.length * n
  | [] => Nat.zero_le _
  | x :: r => by
    have h1 := markL_len n p r
    have h2 := ups_len0 p n x
    show (ups p n x ++ markL n p r).length ≤ (r.length + 1) * n
    rw [List.length_append, Nat.add_mul]
    omega
theorem ints_perm {l : List Nat} {ns : List Int} (h : ns.Perm (l.map fun n : Nat => (n : Int))) : ∃ ys : List Nat, ns.map V.int = natsV ys ∧ ys.Perm l := by
  obtain ⟨ys, e, p⟩ := perm_of_map h.symm l rfl
  exact ⟨ys, by rw [natsV_ints, e], p.symm⟩
theorem ints_of_mem : ∀ {ns : List Int}, (∀ k ∈ ns, ∃ m : Nat, k = (m : Int)) → ∃ ys : List Nat, ns = ys.map fun n : Nat => (n : Int)
  | [], _ => ⟨[], rfl⟩
  | k :: r, h => by
    obtain ⟨m, e⟩ := h k List.mem_cons_self
    obtain ⟨ys, e2⟩ := ints_of_mem (ns := r) fun j hj => h j (List.mem_cons_of_mem _ hj)
    exact ⟨m :: ys, by rw [e, e2]; rfl⟩
/-- a def of the text as the top has left it -/
def DefF (K : PySem.W.Frag) (x : Str) (st : Stmt) : Prop := ∃ (f : Addr) (oc : Value) (od an : Option Addr) (sl : Array (Option Value)) (kV dc pm cd ct : Value),
  PySem.W.nsIn K mainGlobals x = some (some (.ref f)) ∧ K.lookup f = some ⟨oc, od, .func (PySem.W.fnOf x x (defArgs st) (defBody st) (defScope st) .none kV dc pm an cd ct), sl⟩ ∧ PySem.W.codeIn K cd x = true ∧ PySem.W.keepIn K (.ref f) = true
theorem DefF.by {K : PySem.W.Frag} {x : Str} {st : Stmt} {f : Addr} {oc : Value} {od an : Option Addr} {sl : Array (Option Value)} {kV dc pm cd ct : Value} (a : PySem.W.nsIn K mainGlobals x = some (some (.ref f)))
    (l : K.lookup f = some ⟨oc, od, .func (PySem.W.fnOf x x (defArgs st) (defBody st) (defScope st) .none kV dc pm an cd ct), sl⟩) (c : PySem.W.codeIn K cd x = true) (k : PySem.W.keepIn K (.ref f) = true) : DefF K x st := ⟨f, oc, od, an, sl, kV, dc, pm, cd, ct, a, l, c, k⟩
theorem DefF.get {K : PySem.W.Frag} {h : Heap} {mg : Str → Option Value} {x : Str} {st : Stmt} (D : DefF K x st) (X : K.In h) (G : h.Ns mainGlobals mg) : ∃ f fd, Fun K x x st f fd ∧ mg x = some (.ref f) := by
  obtain ⟨f, oc, od, an, sl, kV, dc, pm, cd, ct, a, l, c, k⟩ := D
  exact ⟨f, _, fun_mk (st := st) l c k, PySem.W.mg_of X G a⟩
abbrev sameN : List Str := ["_law_found", "_law_due", "_law_one", "_law_other"]
/-- plain data of at most so many storeys -/
inductive Sm : Nat → PyData → Prop
  | non (n : Nat) : Sm n .none
  | bl (n : Nat) (b : Bool) : Sm n (.bool b)
  | int (n : Nat) (i : Int) : Sm n (.int i)
  | str (n : Nat) (x : Str) : Sm n (.str x)
  | lst {n : Nat} {ds : List PyData} (h : ds.length ≤ 1000) (k : ∀ d ∈ ds, Sm n d) : Sm (n + 1) (.list ds)
  | tup {n : Nat} {ds : List PyData} (h : ds.length ≤ 1000) (k : ∀ d ∈ ds, Sm n d) : Sm (n + 1) (.tuple ds)
def spSame (K : PySem.W.Frag) (n : Nat) : Sp := fun vs H Q _ => ∃ (v u : V) (d : PyData), vs = [v, u] ∧ Dp K H v d ∧ Dp K H u d ∧ Sm n d ∧ ∀ H', Same H H' → Q (.bl true) H'
structure TxS (mg : Str → Option Value) : Prop where
  isinstance : mg "isinstance" = none
  list : mg "list" = none
  tuple : mg "tuple" = none
  bool : mg "bool" = none
  int : mg "int" = none
  str : mg "str" = none
  len : mg "len" = none
  all : mg "all" = none
  zip : mg "zip" = none
section
variable {X : Cx}
theorem pe_ty {x : Str} {n : String} {pos : Pos} (hg : Gl X x) (hm : X.mg x = none) (hv : bootBuiltins x = some (.type n)) (h1 : x ≠ "__name__" := by decide) (h2 : (x == ("__debug__" : Str)) = false := by decide) : PE X (.Name x pos) (tC (.ty n)) := pe_bltn hg hm hv rfl h1 h2
end
theorem kit2 {K : PySem.W.Frag} {t a b : String} {r s : Bool} (h1 : kitB t a = some r) (h2 : kitB t b = some s) : PySem.W.kitAny K (.type t) [.type a, .type b] = some (r || s) :=
  kitAny_cons (kit_ty h1) (fun e => kitAny_cons (kit_ty h2) (fun e2 => by rw [e, e2]; rfl) (fun e2 => by rw [e2, Bool.or_true])) (fun e => by rw [e]; rfl)
theorem dpl_len {K : PySem.W.Frag} {H : Hp} : ∀ {xs : List V} {ds : List PyData}, DpAll K H xs ds → xs.length = ds.length
  | _, _, .nil => rfl
  | _, _, .cons _ r => by rw [List.length_cons, List.length_cons, dpl_len r]
theorem dpl_at {K : PySem.W.Frag} {H : Hp} : ∀ {xs : List V} {ds : List PyData}, DpAll K H xs ds → ∀ {i : Nat} {x : V}, xs[i]? = some x → ∃ d, ds[i]? = some d ∧ Dp K H x d
  | _, _, .cons h r, 0, x, e => ⟨_, rfl, (Option.some.inj e) ▸ h⟩
  | _, _, .cons h r, i + 1, x, e => dpl_at r (i := i) e
mutual
theorem dp_same {K : PySem.W.Frag} {H H' : Hp} (e : Same H H') : ∀ {v : V} {d : PyData}, Dp K H v d → Dp K H' v d
  | _, _, .non => .non
  | _, _, .bl b => .bl b
  | _, _, .int i => .int i
  | _, _, .str x => .str x
  | _, _, .lst s r => .lst (e.seq s) (dpl_same e r)
  | _, _, .tup s r => .tup (same_sqt e s) (dpl_same e r)
theorem dpl_same {K : PySem.W.Frag} {H H' : Hp} (e : Same H H') : ∀ {vs : List V} {ds : List PyData}, DpAll K H vs ds → DpAll K H' vs ds
  | _, _, .nil => .nil
  | _, _, .cons h r => .cons (dp_same e h) (dpl_same e r)
end
theorem tyL {K : PySem.W.Frag} {H : Hp} {a : Addr} {xs : List V} (h : SqL K H a xs) : TyX K H (.ref a) (.type "list") := by
  rcases h with (h | ⟨o, h⟩) | ⟨o, _, _, h, c, _⟩
  · exact .base (.lst h)
  · exact .base (.frz h)
  · exact .kList h c
theorem tyT {K : PySem.W.Frag} {H : Hp} {a : Addr} {xs : List V} (h : SqT K H a xs) : TyX K H (.ref a) (.type "tuple") := by
  rcases h with (h | ⟨o, h⟩) | ⟨o, _, _, h, c, _⟩
  · exact .base (.tup h)
  · exact .fTuple h
  · exact .kTuple h c
abbrev markedN : List Str := ["forest", "nodes", "marked", "node", "passed"]
abbrev afterN : List Str := ["forest", "nodes", "parents", "node"]
abbrev totalN : List Str := ["forest", "nodes", "deep", "lower", "node"]
/-- a def whose promise is known -/
structure Kn (P : Program) (w : World) (K : PySem.W.Frag) (mg : Str → Option Value) (base : Heap) (k : Nat) (x : Str) (st : Stmt) (ps : List Str) (sp : Sp) (f : Addr) (fd : FuncData) : Prop where
  F : Fun K x x st f fd
  G : FnOk P w K mg base CX0 k f fd ps sp
  b : Binds K fd ps []
  g : mg x = some (.ref f)
def spRootOf (K : PySem.W.Frag) : Sp := fun vs H Q _ => ∃ (a : Addr) (n : Nat) (p r : Nat → Nat) (x : Nat), vs = [.ref a, vi x] ∧ Sq K H a (tupOf n p) ∧ n ≤ 1000 ∧ Fo n p r ∧ x < n ∧ ∀ H', Same H H' → Q (vi (root p n x)) H'
def spDepthOf (K : PySem.W.Frag) : Sp := fun vs H Q _ => ∃ (a : Addr) (n : Nat) (p r : Nat → Nat) (x : Nat), vs = [.ref a, vi x] ∧ Sq K H a (tupOf n p) ∧ n ≤ 1000 ∧ Fo n p r ∧ x < n ∧ ∀ H', Same H H' → Q (vi (ups p n x).length) H'
def markS (n : Nat) (p : Nat → Nat) (l : List Nat) : List Nat := (List.range n).filter (markB n p l)
def spMarked (K : PySem.W.Frag) : Sp := fun vs H Q _ => ∃ (a b : Addr) (n : Nat) (p r : Nat → Nat) (xs : List Nat), vs = [.ref a, .ref b] ∧ Sq K H a (tupOf n p) ∧ SqL K H b (natsV xs) ∧ n ≤ 60 ∧ xs.length ≤ 1000 ∧ Fo n p r ∧ (∀ x ∈ xs, x < n) ∧
  ∀ (q : Addr) H', H q = none → H' q = some (.lst (natsV (markS n p xs))) → Same H H' → Q (.ref q) H'
def spAfter (K : PySem.W.Frag) : Sp := fun vs H Q _ => ∃ (a b : Addr) (n : Nat) (p r : Nat → Nat) (xs : List Nat), vs = [.ref a, .ref b] ∧ Sq K H a (tupOf n p) ∧ SqL K H b (natsV xs) ∧ n ≤ 60 ∧ xs.length ≤ 1000 ∧ Fo n p r ∧ (∀ x ∈ xs, x < n) ∧
  ∀ (q : Addr) H', H q = none → H' q = some (.tup (tupOf n (fndAll n xs p))) → Same H H' → Q (.ref q) H'
def spTotal (K : PySem.W.Frag) : Sp := fun vs H Q _ => ∃ (a b : Addr) (n : Nat) (p r : Nat → Nat) (xs : List Nat), vs = [.ref a, .ref b] ∧ Sq K H a (tupOf n p) ∧ SqL K H b (natsV xs) ∧ n ≤ 60 ∧ xs.length ≤ 1000 ∧ Fo n p r ∧ (∀ x ∈ xs, x < n) ∧
  ∀ H', Same H H' → Q (vi (costs n xs p).sum) H'
theorem rise_eq : ∀ {l m : List Int}, l.Pairwise (· < ·) → m.Pairwise (· < ·) → (∀ k, k ∈ l ↔ k ∈ m) → l = m
  | [], [], _, _, _ => rfl
  | [], b :: m, _, _, h => by have := (h b).mpr List.mem_cons_self; cases this
  | a :: l, [], _, _, h => by have := (h a).mp List.mem_cons_self; cases this
  | a :: l, b :: m, hl, hm, h => by
    obtain ⟨h1, h2⟩ := List.pairwise_cons.mp hl
    obtain ⟨g1, g2⟩ := List.pairwise_cons.mp hm
    have e : a = b := by
      rcases List.mem_cons.mp ((h a).mp List.mem_cons_self) with z | z
      · exact z
      · rcases List.mem_cons.mp ((h b).mpr List.mem_cons_self) with y | y
        · exact y.symm
        · have := g1 a z
          have := h1 b y
          omega
    subst e
    rw [rise_eq h2 g2 fun k => ?_]
    constructor
    · intro z
      rcases List.mem_cons.mp ((h k).mp (List.mem_cons_of_mem _ z)) with y | y
      · have := h1 k z; omega
      · exact y
    · intro z
      rcases List.mem_cons.mp ((h k).mpr (List.mem_cons_of_mem _ z)) with y | y
      · have := g1 k z; omega
      · exact y
theorem rise_filter (n : Nat) (f : Nat → Bool) : (((List.range n).filter f).map fun v : Nat => (v : Int)).Pairwise (· < ·) := by
  rw [List.pairwise_map]
  refine List.Pairwise.imp (fun {a b} h => by omega) ((List.pairwise_lt_range (n := n)).filter f)
theorem count_up {n k : Nat} {f g : Nat → Bool} (hk : k < n) (h1 : f k = false) (h2 : ∀ v, g v = (f v || decide (v = k))) : (List.range n).countP g = (List.range n).countP f + 1 := by
  have e := countP_split g f (List.range n)
  have e1 : (List.range n).countP (fun v => g v && f v) = (List.range n).countP f := List.countP_congr fun v _ => by
    rw [h2 v]; cases f v <;> simp
  have e2 : (List.range n).countP (fun v => g v && !f v) = 1 := by
    have z : ∀ v, (g v && !f v) = (v == k) := fun v => by
      rw [h2 v]
      by_cases hv : v = k
      · subst hv; rw [h1]; simp
      · have : (v == k) = false := beq_eq_false_iff_ne.mpr hv
        rw [this]; simp [hv]
    rw [List.countP_congr (q := fun v => v == k) fun v _ => by rw [z v]]
    have c := (List.nodup_range (n := n)).count (a := k)
    rw [if_pos (List.mem_range.mpr hk)] at c
    exact c
  omega
/-- the marked ones hung on their roots, one by one -/
def hang (n : Nat) (p : Nat → Nat) : List Nat → (Nat → Nat) → Nat → Nat
  | [], q => q
  | v :: l, q => hang n p l (fun u => if u = v then root p n v else q u)
theorem hang_snoc (n : Nat) (p : Nat → Nat) (v : Nat) : ∀ (l : List Nat) (q : Nat → Nat), hang n p (l ++ [v]) q = fun u => if u = v then root p n v else hang n p l q u
  | [], _ => rfl
  | a :: l, q => hang_snoc n p v l _
theorem hang_eq (n : Nat) (p : Nat → Nat) : ∀ (l : List Nat) (q : Nat → Nat) (u : Nat), hang n p l q u = if u ∈ l then root p n u else q u
  | [], q, u => by rw [if_neg (List.not_mem_nil)]; rfl
  | a :: l, q, u => by
    show hang n p l _ u = _
    rw [hang_eq n p l]
    by_cases h1 : u ∈ l
    · rw [if_pos h1, if_pos (List.mem_cons_of_mem _ h1)]
    · rw [if_neg h1]
      by_cases h2 : u = a
      · subst h2; rw [if_pos rfl, if_pos List.mem_cons_self]
      · rw [if_neg h2, if_neg (fun z => (List.mem_cons.mp z).elim h2 h1)]
theorem markS_mem {n : Nat} {p : Nat → Nat} {l : List Nat} {v : Nat} : v ∈ markS n p l ↔ v < n ∧ markB n p l v = true := by
  unfold markS
  rw [List.mem_filter, List.mem_range]
theorem markS_len (n : Nat) (p : Nat → Nat) (l : List Nat) : (markS n p l).length ≤ n := by
  unfold markS
  exact Nat.le_trans (List.length_filter_le _ _) (by rw [List.length_range]; exact Nat.le_refl _)
theorem mark_nonroot {n : Nat} {p r : Nat → Nat} (F : Fo n p r) {l : List Nat} (h : ∀ x ∈ l, x < n) {v : Nat} (hm : markB n p l v = true) : v < n ∧ p v ≠ v := by
  unfold markB at hm
  obtain ⟨x, hx, e⟩ := List.any_eq_true.mp hm
  have z := ups_lt F x (h x hx) v (upB_iff.mp e)
  exact ⟨z.1, z.2.1⟩
theorem deep_iff {n : Nat} {p r : Nat → Nat} (F : Fo n p r) {v : Nat} (hv : v < n) (h : p v ≠ v) : deep p v = decide (2 ≤ (ups p n v).length) := by
  unfold deep
  rw [ups_n F hv h]
  refine decide_eq_decide.mpr ?_
  rw [List.length_cons]
  constructor
  · intro z
    rw [ups_n F (F.lt v hv) z, List.length_cons]
    omega
  · intro z e
    rw [ups_of e] at z
    simp at z
structure Pair (K : PySem.W.Frag) (H : Hp) (a b : Addr) (n : Nat) (p q r r' : Nat → Nat) : Prop where
  sa : SqT K H a (tupOf n p)
  sb : SqT K H b (tupOf n q)
  le : n ≤ 60
  fa : Fo n p r
  fb : Fo n q r'
  ro : ∀ v, v < n → (p v = v ↔ q v = v)
theorem Pair.same {K : PySem.W.Frag} {H H' : Hp} {a b : Addr} {n : Nat} {p q r r' : Nat → Nat} (h : Pair K H a b n p q r r') (e : Same H H') : Pair K H' a b n p q r r' := ⟨same_sqt e h.sa, same_sqt e h.sb, h.le, h.fa, h.fb, h.ro⟩
def spNeeded (K : PySem.W.Frag) : Sp := fun vs H Q _ => ∃ (a b : Addr) (n : Nat) (p q r r' : Nat → Nat), vs = [.ref a, .ref b] ∧ Pair K H a b n p q r r' ∧ Way n p q ∧
  ∀ (l : Addr) H', H l = none → H' l = some (.lst (natsV (needS n p q))) → Same H H' → Q (.ref l) H'
def spBar (K : PySem.W.Frag) : Sp := fun vs H Q _ => ∃ (a b : Addr) (n : Nat) (p q r r' : Nat → Nat), vs = [.ref a, .ref b] ∧ Pair K H a b n p q r r' ∧
  (Way n p q → ∀ H', Same H H' → Q .non H') ∧ (¬ Way n p q → ∀ (t : Addr) (x y : Nat) H', H' t = some (.tup [vi x, vi y]) → Same H H' → Q (.ref t) H')
def spWayCost (K : PySem.W.Frag) : Sp := fun vs H Q _ => ∃ (a b : Addr) (n : Nat) (p q r r' : Nat → Nat), vs = [.ref a, .ref b] ∧ Pair K H a b n p q r r' ∧ Way n p q ∧
  ∀ H', Same H H' → Q (vi (costs n (needS n p q) p).sum) H'
theorem behind_roots {n : Nat} {p r : Nat → Nat} (F : Fo n p r) {l : List Nat} (h : ∀ x ∈ l, x < n) (v : Nat) (hv : v < n) : p v = v ↔ fndAll n l p v = v := by
  constructor
  · exact behind_root F h v hv
  · intro e
    rw [behind_eq F l h v hv] at e
    by_cases m : markB n p l v = true
    · rw [if_pos m] at e
      refine Classical.byContradiction fun z => root_ne F hv z e
    · rw [if_neg m] at e; exact e
theorem eqv_ints : ∀ l m : List Int, PyData.eqvAll (l.map PyData.int) (m.map PyData.int) = decide (l = m)
  | [], [] => by simp [PyData.eqvAll]
  | [], b :: m => by simp [PyData.eqvAll]
  | a :: l, [] => by simp [PyData.eqvAll]
  | a :: l, b :: m => by
    rw [List.map_cons, List.map_cons, PyData.eqvAll, eqv_ints l m]
    by_cases e : a = b
    · subst e
      by_cases f : l = m
      · subst f; simp [PyData.eqv]
      · simp [PyData.eqv, f]
    · simp [PyData.eqv, e]
theorem eqv_tups (l m : List Int) : PyData.eqv (.tuple (l.map PyData.int)) (.tuple (m.map PyData.int)) = decide (l = m) := by
  rw [← eqv_ints l m]
  simp [PyData.eqv]
theorem eqv_lsts (l m : List Int) : PyData.eqv (.list (l.map PyData.int)) (.list (m.map PyData.int)) = decide (l = m) := by
  rw [← eqv_ints l m]
  simp [PyData.eqv]
theorem shaped_lst (l : List Int) : SeqAt.shaped (.list (l.map PyData.int)) = true := by
  unfold SeqAt.shaped
  have := depth_ints l
  simp [PyData.canLay0, lay_ints, PyData.depth]
  omega
theorem intsOf_inj {n : Nat} {p q : Nat → Nat} (h : intsOf n p = intsOf n q) {v : Nat} (hv : v < n) : p v = q v := by
  have e := congrArg (fun l : List Int => l[v]?) h
  unfold intsOf at e
  simp only [List.getElem?_map, List.getElem?_range hv, Option.map_some] at e
  have := Option.some.inj e
  omega
theorem natsI (l : List Nat) : natsV l = (l.map fun n : Nat => (n : Int)).map V.int := natsV_ints l
theorem castI {l m : List Nat} (h : (l.map fun n : Nat => (n : Int)) = m.map fun n : Nat => (n : Int)) : l = m := by
  refine List.map_inj_right (f := fun n : Nat => (n : Int)) (fun a b e => by omega) |>.mp h
abbrev Kx (P : Program) (w : World) (K : PySem.W.Frag) (mg : Str → Option Value) (base : Heap) (k : Nat) (x : Str) (st : Stmt) (ps : List Str) (sp : Sp) : Prop := ∃ f fd, Kn P w K mg base k x st ps sp f fd
section
variable {X : Cx} {CX : CXT} {k : Nat} {f : Addr} {fd : FuncData} {ps ks : List Str} {sp : Sp} {g : List Value → List Value → List Value} {gV : List V → List V → List V} {E : XK} {x : Str} {p pos : Pos} {kws : List Keyword} {tk : TA}
theorem pe_kws (F : FnOk X.prog X.w X.K X.mg X.base CX k f fd ps sp) (hr : Room k X.A) (hg : Gl X x) (hm : X.mg x = some (.ref f)) (hk : PySem.W.keepIn X.K (.ref f) = true) (hb : KBinds X.K fd ps ks g gV) (hx : Passes CX X E) (hkw : PK X kws tk)
    (hall : (backToKw pos (keywordEach kws X.env)).all (·.1.isSome) = true := by rfl) (hks : (backToKw pos (keywordEach kws X.env)).filterMap (·.1) = ks := by rfl) (hdb : (x == ("__debug__" : Str)) = false := by decide)
    (hpl : ((backTo pos (starEach [] X.env)).any (·.1) || (backToKw pos (keywordEach kws X.env)).any (·.1.isNone)) = false := by rfl) : PE X (.Call (.Name x p) [] kws pos) (tCallK sp gV E tNil tk) := by
  refine ⟨fun pins s σ H Q I h => wpAny_Call_Name_kw (ld_glob I hg hm (PySem.W.callWith_KW0 (h₀ := X.base) I.ok.mod.kin hk hall ?_ hpl) hdb)⟩
  refine thn (hkw.run pos pins s σ H _ I h) fun ws s2 ⟨zs, H2, I2, rz, q2⟩ => ⟨I2.kIn, ?_⟩
  rw [hks]; exact run_fnk (us := []) (vs := []) F hr hb hx I2 .nil rz q2
end
/-- two parameters, given by keywords in the other order -/
def sw2 {α : Type} : List α → List α → List α
  | [], [b, a] => [a, b]
  | _, _ => []
theorem sw2_rel {vs : List V} {us : List Value} {zs : List V} {ws : List Value} (r : Vals vs us) (s : Vals zs ws) : Vals (sw2 vs zs) (sw2 us ws) := by
  cases r with
  | cons _ _ => exact .nil
  | nil =>
    cases s with
    | nil => exact .nil
    | cons h1 t1 =>
      cases t1 with
      | nil => exact .nil
      | cons h2 t2 =>
        cases t2 with
        | nil => exact .cons h2 (.cons h1 .nil)
        | cons _ _ => exact .nil
theorem Fun.sw {K : PySem.W.Frag} {x qual : Str} {st : Stmt} {f : Addr} {fd : FuncData} {a b : Str} (F : Fun K x qual st f fd)
    (h : ∀ (kV doc pm : Value) (an : Option Addr) (cdv ct : Value) (u v : Value), bindArgs (PySem.W.fnOf x qual (defArgs st) (defBody st) (defScope st) .none kV doc pm an cdv ct) ⟨[], [(b, u), (a, v)]⟩ = pure [(a, v), (b, u)]) : KBinds K fd [a, b] [b, a] sw2 sw2 := by
  obtain ⟨oc, od, kV, doc, pm, an, cdv, ct, osl, rfl, lk, hcd⟩ := F.ex
  refine ⟨fun s us ws _ hl => ?_, sw2_rel⟩
  match us, ws, hl with
  | [], [u, v], _ => exact .of_eq (h kV doc pm an cdv ct u v)
abbrev sTake : Stmt := topS 88
abbrev sStart : Stmt := topS 87
abbrev sOf : Stmt := topS 89
abbrev sChk : Stmt := topS 28
abbrev sPathOf : Stmt := topS 29
abbrev sFind : Stmt := topS 34
abbrev sFindAll : Stmt := topS 35
abbrev sNum : Stmt := topS 27
abbrev sSame : Stmt := topS 90
abbrev sRootOf : Stmt := topS 30
theorem scTake : FnScope ["_law_draw", "_law_many", "_law_cell", "_law_digit", "_law_square"] ["_law_draw", "_law_many"] (defScope sTake) := ⟨rfl, rfl, rfl, by decide +kernel, rfl, by decide +kernel, by decide +kernel⟩
theorem scStart : FnScope ["_law_script"] ["_law_script"] (defScope sStart) := ⟨rfl, rfl, rfl, by decide +kernel, rfl, by decide +kernel, by decide +kernel⟩
theorem scOf : FnScope ["_law_draw", "_law_some"] ["_law_draw", "_law_some"] (defScope sOf) := ⟨rfl, rfl, rfl, by decide +kernel, rfl, by decide +kernel, by decide +kernel⟩
theorem scChk : FnScope ["forest", "node"] ["forest", "node"] (defScope sChk) := ⟨rfl, rfl, rfl, by decide +kernel, rfl, by decide +kernel, by decide +kernel⟩
theorem scPathOf : FnScope ["forest", "node", "path"] ["forest", "node"] (defScope sPathOf) := ⟨rfl, rfl, rfl, by decide +kernel, rfl, by decide +kernel, by decide +kernel⟩
theorem scFind : FnScope ["forest", "node", "path", "parents", "passed"] ["forest", "node"] (defScope sFind) := ⟨rfl, rfl, rfl, by decide +kernel, rfl, by decide +kernel, by decide +kernel⟩
theorem scFindAll : FnScope ["forest", "nodes", "costs", "node", "cost"] ["forest", "nodes"] (defScope sFindAll) := ⟨rfl, rfl, rfl, by decide +kernel, rfl, by decide +kernel, by decide +kernel⟩
theorem scNum : FnScope ["size", "node"] ["size", "node"] (defScope sNum) := ⟨rfl, rfl, rfl, by decide +kernel, rfl, by decide +kernel, by decide +kernel⟩
theorem scSame : FnScope sameN ["_law_found", "_law_due"] (defScope sSame) := ⟨rfl, rfl, rfl, by decide +kernel, rfl, by decide +kernel, by decide +kernel⟩
theorem scRootOf : FnScope ["forest", "node"] ["forest", "node"] (defScope sRootOf) := ⟨rfl, rfl, rfl, by decide +kernel, rfl, by decide +kernel, by decide +kernel⟩
section
variable {P : Program} {w : World} {K : PySem.W.Frag} {mg : Str → Option Value} {base : Heap}
theorem ok_take {f : Addr} {fd : FuncData} {k : Nat} (F : Fun K "_law_take" "_law_take" sTake f fd) (ml : mg "len" = none) : FnOk P w K mg base CX0 (k + 1) f fd ["_law_draw", "_law_many"] spTake := by
  refine F.ok scTake (fun vs H Q E h => ?_) (fun cdv A outer s H vs Q E hr h => ?_)
  · obtain ⟨d, l, m, rfl, _⟩ := h
    rfl
  · obtain ⟨d, l, m, rfl, hD, hm1, hm2, q⟩ := h
    have c61 : (0 : Int) < 2305843009213693951 := by decide
    refine ⟨_, C8.pss_cut (ps_if (PW.pt (pw_and (pt_cmpR op_lt (pe_ix ix_list (pv 0) pe_int (fun _ _ => rfl)) (pv 1) (nomark _))
        (pw_and1 (pt_cmpR op_lt (pe_ix ix_list (pv 0) pe_int (fun _ _ => rfl)) (pe_callB call_len_seq (by rfl) ml PySem.boot_len (pa_cons (pe_ix ix_list (pv 0) pe_int (fun _ _ => rfl)) pa_nil)) (nomark _)))))
        (pss_cons (ps_set (i := 2) scTake.nd rfl (.inl rfl) (pe_ix ix_list (pe_ix ix_list (pv 0) pe_int (fun _ _ => rfl)) (pe_ix ix_list (pv 0) pe_int (fun _ _ => rfl)) (fun _ _ => rfl)))
        (pss_cons (ps_asg (pe_op op_add (pe_ix ix_list (pv 0) pe_int (fun _ _ => rfl)) pe_int) (pg_sub (pv 0) pe_int set_list))
        (pss_cons (ps_asg pe_int (pg_sub (pv 0) pe_int set_list))
        (C8.pss_cut (ps_if (pt_cmpR op_ge (pv 2) (pe_op op_pow pe_int pe_int) (nomark _)) (pss_one (ps_asg (pv 2) (pg_sub (pv 0) pe_int set_list))) pss_nil)
        (pss_one (ps_asg (pe_op op_mod (pe_op op_add (pe_op op_add (pe_op op_mul (pe_ix ix_list (pv 0) pe_int (fun _ _ => rfl)) pe_int) (pe_op op_mul (pe_op op_mod (pv 2) pe_int) pe_int)) (pe_ix ix_list (pv 0) pe_int (fun _ _ => rfl))) pe_int) (pg_sub (pv 0) pe_int set_list))))))) pss_nil)
      (pss_cons (ps_if (pt_cmpR op_ge (pe_ix ix_list (pv 0) pe_int (fun _ _ => rfl)) (pv 1) (nomark _))
        (pss_cons (ps_set (i := 3) scTake.nd rfl (.inl rfl) (pe_op op_mod (pe_ix ix_list (pv 0) pe_int (fun _ _ => rfl)) (pv 1)))
        (pss_cons (ps_asg (pe_op op_fdivW (pe_ix ix_list (pv 0) pe_int (fun _ _ => rfl)) (pv 1)) (pg_sub (pv 0) pe_int set_list))
        (pss_one (ps_ret (pv 3))))) pss_nil)
      (pss_cons (ps_set (i := 4) scTake.nd rfl (.inl rfl) (pe_op op_mod (pe_op op_mul (pe_ix ix_list (pv 0) pe_int (fun _ _ => rfl)) (pe_ix ix_list (pv 0) pe_int (fun _ _ => rfl))) pe_int))
      (pss_cons (ps_asg (pe_op op_mod (pe_op op_add (pe_op op_add (pe_op op_mul (pv 4) pe_int) (pe_op op_mul (pe_ix ix_list (pv 0) pe_int (fun _ _ => rfl)) pe_int)) pe_int) pe_int) (pg_sub (pv 0) pe_int set_list))
      (pss_one (ps_ret (pe_op op_mod (pe_op op_fdiv (pe_ix ix_list (pv 0) pe_int (fun _ _ => rfl)) pe_int) (pv 1))))))), ?_⟩
    refine ⟨fun σ H' => (∃ c, σ = [some (.ref d), some (.int m), c, none, none]) ∧ DrawAt H' d l ∧ Sb d H H', ?_, ?_⟩
    · obtain ⟨ns, i, j, c, h1, h2, h3, h4, h5⟩ := hD
      have ne := draw_ne h1 h2
      have x1 : atI [V.ref l, V.int i, V.int j, V.int c] 0 = some (.ref l) := rfl
      have x2 : atI [V.ref l, V.int i, V.int j, V.int c] 1 = some (.int i) := rfl
      have x3 : atI [V.ref l, V.int i, V.int j, V.int c] 2 = some (.int j) := rfl
      have x4 : atI [V.ref l, V.int i, V.int j, V.int c] 3 = some (.int c) := rfl
      refine ⟨_, rfl, d, _, _, _, rfl, rfl, SqL.of h1, x3, _, rfl, _, _, rfl, rfl, _, rfl, ite2 (fun e1 => ?_) (fun e1 => ?_)⟩
      · refine ⟨_, rfl, d, _, _, _, rfl, rfl, SqL.of h1, x2, _, rfl, d, _, _, _, rfl, rfl, SqL.of h1, x1, l, _, rfl, .inl (SqL.of h2), _, _, rfl, rfl, _, rfl, ite2 (fun e2 => ?_) (fun e2 => ?_)⟩
        · have hi : i < ((ns.map V.int).length : Int) := of_decide_eq_true e2
          rw [List.length_map] at hi
          obtain ⟨u, rfl⟩ : ∃ u : Nat, i = u := ⟨i.toNat, by omega⟩
          have hu : u < ns.length := by omega
          have gu : (ns.map V.int)[u]? = some (.int ns[u]) := by rw [List.getElem?_map, List.getElem?_eq_getElem hu]; rfl
          refine ⟨_, rfl, d, _, _, _, rfl, rfl, SqL.of h1, x1, _, rfl, d, _, _, _, rfl, rfl, SqL.of h1, x2, l, _, _, _, rfl, rfl, SqL.of h2, atI_nat gu, ?_⟩
          refine ⟨_, rfl, d, _, _, _, rfl, rfl, SqL.of h1, x2, _, _, rfl, rfl, _, rfl, d, _, _, 1, rfl, rfl, h1, rfl, ?_⟩
          refine ⟨_, rfl, d, _, _, 2, rfl, rfl, upd_same, rfl, ?_⟩
          refine ⟨fun σ H' => σ = [some (.ref d), some (.int m), some (.int ns[u]), none, none] ∧ (∃ jj : Int, H' d = some (.lst [.ref l, .int ((u : Int) + 1), .int jj, .int c])) ∧ H' l = some (.lst (ns.map V.int)) ∧ Sb d H H', ?_, ?_⟩
          · refine ⟨_, rfl, _, _, rfl, rfl, ⟨by decide, by decide, by decide⟩, _, _, rfl, rfl, _, rfl, ite2 (fun e3 => ?_) (fun e3 => ?_)⟩
            · refine ⟨_, rfl, _, rfl, d, _, _, 2, rfl, rfl, upd_same, rfl, rfl, ⟨ns[u], upd_same⟩, ?_, ?_⟩
              · rw [upd_ne ne, upd_ne ne, upd_ne ne]; exact h2
              · exact (Sb.put.trans Sb.put).trans Sb.put
            · refine ⟨rfl, ⟨0, upd_same⟩, ?_, ?_⟩
              · rw [upd_ne ne, upd_ne ne]; exact h2
              · exact Sb.put.trans Sb.put
          · rintro σ H2 ⟨rfl, ⟨jj, g1⟩, g2, g3⟩
            have y2 : atI [V.ref l, V.int ((u : Int) + 1), V.int jj, V.int c] 1 = some (.int ((u : Int) + 1)) := rfl
            have y4 : atI [V.ref l, V.int ((u : Int) + 1), V.int jj, V.int c] 3 = some (.int c) := rfl
            refine ⟨_, rfl, d, _, _, _, rfl, rfl, SqL.of g1, y4, _, _, rfl, rfl, .inl ⟨by omega, by omega⟩, _, rfl, _, _, rfl, rfl, c61, _, _, rfl, rfl, .inr ⟨by decide, by decide⟩, _, _, rfl, rfl, _, rfl, d, _, _, _, rfl, rfl, SqL.of g1, y2, _, _, rfl, rfl, _, _, rfl, rfl, c61, _, rfl, d, _, _, 3, rfl, rfl, g1, rfl, ⟨_, rfl⟩, ?_, g3.trans Sb.put⟩
            exact ⟨ns, _, jj, _, upd_same, by rw [upd_ne ne]; exact g2, by omega, Int.emod_nonneg _ (by omega), Int.emod_lt_of_pos _ c61⟩
        · exact ⟨⟨_, rfl⟩, ⟨ns, i, j, c, h1, h2, h3, h4, h5⟩, Sb.refl⟩
      · exact ⟨⟨_, rfl⟩, ⟨ns, i, j, c, h1, h2, h3, h4, h5⟩, Sb.refl⟩
    · rintro σ H1 ⟨⟨c0, rfl⟩, ⟨ns, i, j, c, h1, h2, h3, h4, h5⟩, sb⟩
      have ne := draw_ne h1 h2
      have x3 : atI [V.ref l, V.int i, V.int j, V.int c] 2 = some (.int j) := rfl
      have x4 : atI [V.ref l, V.int i, V.int j, V.int c] 3 = some (.int c) := rfl
      refine ⟨_, rfl, d, _, _, _, rfl, rfl, SqL.of h1, x3, _, rfl, _, _, rfl, rfl, _, rfl, ite2 (fun e1 => ?_) (fun e1 => ?_)⟩
      · have hj : m ≤ j := of_decide_eq_true e1
        refine ⟨_, rfl, d, _, _, _, rfl, rfl, SqL.of h1, x3, _, rfl, _, _, rfl, rfl, (by show (0:Int) < m; omega), ?_⟩
        refine ⟨_, rfl, d, _, _, _, rfl, rfl, SqL.of h1, x3, _, rfl, _, _, rfl, rfl, wide_div (b := 1000) (by omega) hm2 (by decide) (by decide), _, rfl, d, _, _, 2, rfl, rfl, h1, rfl, ?_⟩
        have hb : 0 ≤ j % m := Int.emod_nonneg _ (by omega)
        have hb2 : j % m < m := Int.emod_lt_of_pos _ (by omega)
        obtain ⟨r, er⟩ : ∃ r : Nat, j % m = r := ⟨(j % m).toNat, by omega⟩
        refine ⟨_, rfl, ?_⟩
        show Q (.int (j % m)) _
        rw [er]
        refine q r _ (by omega) ⟨ns, i, j / m, c, upd_same, by rw [upd_ne ne]; exact h2, h3, h4, h5⟩ (sb.trans Sb.put)
      · refine ⟨_, rfl, d, _, _, _, rfl, rfl, SqL.of h1, x4, _, rfl, d, _, _, _, rfl, rfl, SqL.of h1, x4, _, _, rfl, rfl, .inl ⟨by omega, by omega⟩, _, _, rfl, rfl, c61, ?_⟩
        have s0 : 0 ≤ c * c % 2305843009213693951 := Int.emod_nonneg _ (by omega)
        have s1 : c * c % 2305843009213693951 < 2305843009213693951 := Int.emod_lt_of_pos _ c61
        generalize hsq : c * c % 2305843009213693951 = sq at s0 s1
        refine ⟨.int (c * c % 2305843009213693951), rfl, _, _, rfl, rfl, .inl ⟨by rw [hsq]; omega, by rw [hsq]; omega⟩, _, rfl, d, _, _, _, rfl, rfl, SqL.of h1, x4, _, _, rfl, rfl, .inl ⟨by omega, by omega⟩, _, _, rfl, rfl, _, _, rfl, rfl, _, _, rfl, rfl, c61, _, rfl, d, _, _, 3, rfl, rfl, h1, rfl, ?_⟩
        have t0 : 0 ≤ (c * c % 2305843009213693951 * 48271 + c * 16807 + 12345) % 2305843009213693951 := Int.emod_nonneg _ (by omega)
        have t1 : (c * c % 2305843009213693951 * 48271 + c * 16807 + 12345) % 2305843009213693951 < 2305843009213693951 := Int.emod_lt_of_pos _ c61
        refine ⟨_, rfl, d, _, _, _, rfl, rfl, SqL.of upd_same, rfl, _, _, rfl, rfl, ⟨by decide, by decide⟩, _, rfl, _, _, rfl, rfl, (by show (0:Int) < m; omega), ?_⟩
        generalize hz : (c * c % 2305843009213693951 * 48271 + c * 16807 + 12345) % 2305843009213693951 = z at t0 t1
        have b0 : 0 ≤ (z / 1021) % m := Int.emod_nonneg _ (by omega)
        have b1 : (z / 1021) % m < m := Int.emod_lt_of_pos _ (by omega)
        obtain ⟨r, er⟩ : ∃ r : Nat, (z / 1021) % m = r := ⟨((z / 1021) % m).toNat, by omega⟩
        show Q (.int (z / 1021 % m)) _
        rw [er]
        refine q r _ (by omega) ⟨ns, i, j, z, ?_, by rw [upd_ne ne]; exact h2, h3, t0, t1⟩ (sb.trans Sb.put)
        rw [upd_same, ← hz]
        rfl
end
section
variable {P : Program} {w : World} {K : PySem.W.Frag} {mg : Str → Option Value} {base : Heap}
theorem ok_start {f : Addr} {fd : FuncData} {k : Nat} (F : Fun K "_law_start" "_law_start" sStart f fd) (T : Tx mg) : FnOk P w K mg base CX0 (k + 1) f fd ["_law_script"] (spStart K) := by
  refine F.ok scStart (fun vs H Q E h => ?_) (fun cdv A outer s H vs Q E hr h => ?_)
  · obtain ⟨a, ns, rfl, _⟩ := h
    rfl
  · obtain ⟨a, ns, rfl, hS, hlen, q⟩ := h
    refine ⟨_, pss_one (ps_ret (pe_lst (pa_cons (pe_callTy call_list_of (by rfl) T.list (by decide +kernel) (pa_cons (pe_slice sl_list (pv 0) po_none (po_some pe_int)) pa_nil))
      (pa_cons pe_int (pa_cons pe_int (pa_cons (pe_op op_add pe_int (pe_op op_mul pe_int (pe_callB call_len_seq (by rfl) T.len PySem.boot_len (pa_cons (pe_slice sl_list (pv 0) po_none (po_some pe_int)) pa_nil)))) pa_nil)))))), ?_⟩
    have cut : ∃ ms : List Int, cutV (ns.map V.int) none (some 63) = ms.map V.int ∧ ms.length ≤ ns.length := by
      refine ⟨(ns.drop (HT.sIx (ns.map V.int).length 0 none)).take (HT.sIx (ns.map V.int).length (ns.map V.int).length (some 63) - HT.sIx (ns.map V.int).length 0 none), ?_, ?_⟩
      · unfold cutV
        rw [List.map_take, List.map_drop]
      · rw [List.length_take, List.length_drop]
        omega
    obtain ⟨ms, em, hml⟩ := cut
    refine ⟨_, rfl, 63, rfl, a, _, rfl, hS, fun c nc => ?_⟩
    rw [em]
    have s1 : Same H (upd H c (.lst (ms.map V.int))) := same_new nc
    refine ⟨c, _, rfl, .inl (SqL.of upd_same), fun l nl => ?_⟩
    have s2 : Same (upd H c (.lst (ms.map V.int))) (upd (upd H c (.lst (ms.map V.int))) l (.lst (ms.map V.int))) := same_new nl
    refine ⟨_, rfl, 63, rfl, a, _, rfl, s2.seq (s1.seq hS), fun c2 nc2 => ?_⟩
    rw [em]
    have s3 := same_new (o := .lst (ms.map V.int)) nc2
    refine ⟨c2, _, rfl, .inl (SqL.of upd_same), _, _, rfl, rfl, .inl ⟨by decide, by decide⟩, _, _, rfl, rfl, ?_⟩
    refine ⟨by show 4 ≤ sizeLine; decide, fun d nd => ?_⟩
    have s4 := same_new (o := .lst [V.ref l, V.int 0, V.int 0, V.int (9494 + 37 * ((ms.map V.int).length : Int))]) nd
    refine q d l _ (((s1.trans s2).trans s3).free nd) ⟨ms, 0, 0, 9494 + 37 * ((ms.map V.int).length : Int), upd_same, ?_, by omega, by omega, by rw [List.length_map]; omega⟩ (((s1.trans s2).trans s3).trans s4)
    exact s4 _ _ (s3 _ _ upd_same)
end
section
variable {P : Program} {w : World} {K : PySem.W.Frag} {mg : Str → Option Value} {base : Heap}
theorem ok_of {f fT : Addr} {fd fdT : FuncData} (F : Fun K "_law_of" "_law_of" sOf f fd) (GT : FnOk P w K mg base CX0 1 fT fdT ["_law_draw", "_law_many"] spTake) (FT : Fun K "_law_take" "_law_take" sTake fT fdT) (bT : Binds K fdT ["_law_draw", "_law_many"] []) (gT : mg "_law_take" = some (.ref fT)) (T : Tx mg) :
    FnOk P w K mg base CX0 2 f fd ["_law_draw", "_law_some"] (spOf K) := by
  refine F.ok scOf (fun vs H Q E h => ?_) (fun cdv A outer s H vs Q E hr h => ?_)
  · obtain ⟨d, l, a, xs, rfl, _⟩ := h
    rfl
  · obtain ⟨d, l, a, xs, rfl, hD, ne, hS, h1, h2, q⟩ := h
    refine ⟨_, pss_one (ps_ret (pe_ix ix_list (pv 1) (pe_call GT hr (by rfl) gT FT.kp bT .nil pass0 (pa_cons (pv 0) (pa_cons (pe_callB call_len_seq (by rfl) T.len PySem.boot_len (pa_cons (pv 1) pa_nil)) pa_nil))) (fun _ _ => rfl))), ?_⟩
    refine ⟨_, rfl, _, rfl, _, rfl, a, xs, rfl, .inl hS, d, l, xs.length, rfl, hD, by omega, Nat.lt_of_le_of_lt (show _ ≤ 1000 by omega) (by decide +kernel), fun r H' hr' hD' sb => ?_⟩
    have hr2 : r < xs.length := by omega
    exact ⟨a, xs, _, xs[r], rfl, rfl, sb.sql ne hS, atI_nat (List.getElem?_eq_getElem hr2), q r _ H' (List.getElem?_eq_getElem hr2) hD' sb⟩
end
section
variable {P : Program} {w : World} {K : PySem.W.Frag} {mg : Str → Option Value} {base : Heap}
theorem ok_pathOf {f fC : Addr} {fd fdC : FuncData} (F : Fun K "path_of" "path_of" sPathOf f fd) (GC : FnOk P w K mg base CX0 2 fC fdC ["forest", "node"] (spChk K)) (FC : Fun K "check_node" "check_node" sChk fC fdC) (bC : Binds K fdC ["forest", "node"] []) (gC : mg "check_node" = some (.ref fC)) :
    FnOk P w K mg base CX0 3 f fd ["forest", "node"] (spPathOf K) := by
  refine F.ok scPathOf (fun vs H Q E h => ?_) (fun cdv A outer s H vs Q E hr h => ?_)
  · obtain ⟨a, n, p, r, x, rfl, _⟩ := h
    rfl
  · obtain ⟨a, n, p, r, x, rfl, hS, hn, hF, hx, q⟩ := h
    refine ⟨_, pss_cons (ps_expr (pe_call GC hr (by rfl) gC FC.kp bC .nil pass0 (pa_cons (pv 0) (pa_cons (pv 1) pa_nil))))
      (pss_cons (ps_set (i := 2) scPathOf.nd rfl (.inl rfl) (pe_lst (pa_cons (pv 1) pa_nil)))
      (pss_cons (ps_while PassesOwn.never (pt_cmpR op_ne (pe_ix ix_seq (pv 0) (pe_ix ix_list (pv 2) (pe_un un_neg pe_int) (fun _ _ => rfl)) (fun _ _ => rfl)) (pe_ix ix_list (pv 2) (pe_un un_neg pe_int) (fun _ _ => rfl)) (nomark _))
          (pss_one (ps_expr (pe_bm PySem.F.plainAttrs_list PySem.F.slot_list_append PySem.F.type_list_append mt_append (pv 2) (pa_cons (pe_ix ix_seq (pv 0) (pe_ix ix_list (pv 2) (pe_un un_neg pe_int) (fun _ _ => rfl)) (fun _ _ => rfl)) pa_nil)))))
      (pss_one (ps_ret (pv 2))))), ?_⟩
    refine ⟨_, rfl, _, rfl, a, _, x, rfl, hS, by rw [tupOf_len]; exact hx, ?_⟩
    refine ⟨_, rfl, by show 1 ≤ sizeLine; decide, fun c nc => ?_⟩
    have s1 : Same H (upd H c (.lst [vi x])) := same_new nc
    refine ⟨fun m σ H' => ∃ i, m = n - i ∧ i ≤ n ∧ σ = [some (.ref a), some (vi x), some (.ref c)] ∧ H' c = some (.lst (natsV (path p i x))) ∧ Same H H', ⟨n, 0, rfl, Nat.zero_le _, rfl, upd_same, s1⟩, ?_⟩
    rintro m σ H' ⟨i, rfl, hi, rfl, hc, sm⟩
    have hr := root_lt0 hF.lt i x hx
    refine ⟨_, rfl, _, rfl, 1, rfl, c, _, _, _, rfl, rfl, SqL.of hc, natsV_last p i x, (hS.same sm).ix (atI_nat (tupOf_at hr)) ⟨_, rfl, 1, rfl, c, _, _, _, rfl, rfl, SqL.of hc, natsV_last p i x, rfl, _, rfl, ite2 (fun e => ?_) (fun e => ?_)⟩⟩
    · have e' : ¬ p (root p i x) = root p i x := fun z => by
        rw [z] at e
        simp at e
      have hlt : i < n := by
        by_cases z : i = n
        · rw [z] at e'
          exact absurd (root_fix hF x hx) e'
        · omega
      refine ⟨fun σ' H'' => σ' = [some (.ref a), some (vi x), some (.ref c)] ∧ H'' c = some (.lst (natsV (path p (i + 1) x))) ∧ Same H H'', fun σ' H'' ⟨z1, z2, z3⟩ => ⟨n - (i + 1), by omega, i + 1, rfl, hlt, z1, z2, z3⟩, ?_⟩
      refine ⟨_, rfl, .inl ⟨rfl, _, SqL.of hc⟩, _, rfl, _, rfl, 1, rfl, c, _, _, _, rfl, rfl, SqL.of hc, natsV_last p i x, (hS.same sm).ix (atI_nat (tupOf_at hr)) ⟨c, _, _, rfl, rfl, hc, ?_, rfl, ?_, same_over sm nc⟩⟩
      · rw [natsV_len]
        have := path_len0 p i x
        exact Nat.lt_of_le_of_lt (show _ ≤ 1001 by omega) (by decide)
      · rw [upd_same, path_succ, if_neg e']
        unfold natsV
        rw [List.map_append]
        rfl
    · have e' : p (root p i x) = root p i x := by
        have z : ¬ (!decide ((vi (p (root p i x))) = vi (root p i x))) = true := e
        simp at z
        omega
      refine ⟨_, rfl, q c H' nc ?_ sm⟩
      have z := (path_fixed e' (n - i)).1
      rw [show i + (n - i) = n by omega] at z
      rw [z]
      exact hc
end
section
variable {P : Program} {w : World} {K : PySem.W.Frag} {mg : Str → Option Value} {base : Heap}
theorem ok_num {f : Addr} {fd : FuncData} {k : Nat} (F : Fun K "check_number" "check_number" sNum f fd) : FnOk P w K mg base CX0 (k + 1) f fd ["size", "node"] spNum := by
  refine F.ok scNum (fun vs H Q E h => ?_) (fun cdv A outer s H vs Q E hr h => ?_)
  · obtain ⟨n, x, rfl, _⟩ := h
    rfl
  · obtain ⟨n, x, rfl, hx, q⟩ := h
    refine ⟨_, pss_one (ps_if (pt_not (pt_chain op_le op_lt pe_int (pv 1) (pv 0))) (pss_one ps_never) pss_nil), ?_⟩
    have e1 : decide ((0 : Int) ≤ (x : Int)) = true := decide_eq_true (by omega)
    have e2 : decide ((x : Int) < (n : Int)) = true := decide_eq_true (by omega)
    refine ⟨_, rfl, _, _, rfl, rfl, _, rfl, ?_⟩
    show if decide ((0 : Int) ≤ (x : Int)) = true then _ else _
    rw [e1]
    refine iteT ⟨_, rfl, _, _, rfl, rfl, _, rfl, ?_⟩
    show if (!decide ((x : Int) < (n : Int))) = true then _ else _
    rw [e2]
    exact iteF q
end
section
variable {P : Program} {w : World} {K : PySem.W.Frag} {mg : Str → Option Value} {base : Heap}
theorem ok_chk {f fN : Addr} {fd fdN : FuncData} (F : Fun K "check_node" "check_node" sChk f fd) (k1 : Kn P w K mg base 1 "check_number" sNum ["size", "node"] spNum fN fdN) (T : Tx mg) : FnOk P w K mg base CX0 2 f fd ["forest", "node"] (spChk K) := by
  refine F.ok scChk (fun vs H Q E h => ?_) (fun cdv A outer s H vs Q E hr h => ?_)
  · obtain ⟨a, xs, x, rfl, _⟩ := h
    rfl
  · obtain ⟨a, xs, x, rfl, hS, hx, q⟩ := h
    refine ⟨_, pss_one (ps_expr (pe_call k1.G hr (by rfl) k1.g k1.F.kp k1.b .nil pass0 (pa_cons (pe_callB call_len_seq (by rfl) T.len PySem.boot_len (pa_cons (pv 0) pa_nil)) (pa_cons (pv 1) pa_nil)))), ?_⟩
    exact ⟨_, rfl, a, xs, rfl, hS, _, rfl, xs.length, x, rfl, hx, q⟩
end
section
variable {P : Program} {w : World} {K : PySem.W.Frag} {mg : Str → Option Value} {base : Heap}
theorem ok_find {f fP : Addr} {fd fdP : FuncData} (F : Fun K "find" "find" sFind f fd) (GP : FnOk P w K mg base CX0 3 fP fdP ["forest", "node"] (spPathOf K)) (FP : Fun K "path_of" "path_of" sPathOf fP fdP) (bP : Binds K fdP ["forest", "node"] []) (gP : mg "path_of" = some (.ref fP)) (T : Tx mg) :
    FnOk P w K mg base CX0 4 f fd ["forest", "node"] (spFind K) := by
  refine F.ok scFind (fun vs H Q E h => ?_) (fun cdv A outer s H vs Q E hr h => ?_)
  · obtain ⟨a, n, p, r, x, rfl, _⟩ := h
    rfl
  · obtain ⟨a, n, p, r, x, rfl, hS, hn, hF, hx, q⟩ := h
    refine ⟨_, pss_cons (ps_set (i := 2) scFind.nd rfl (.inl rfl) (pe_call GP hr (by rfl) gP FP.kp bP .nil pass0 (pa_cons (pv 0) (pa_cons (pv 1) pa_nil))))
      (pss_cons (ps_set (i := 3) scFind.nd rfl (.inl rfl) (pe_callTy call_list_of (by rfl) T.list (by decide +kernel) (pa_cons (pv 0) pa_nil)))
      (pss_cons (ps_for PassesOwn.never rfl (pi_list (pv 2)) (pg_name (i := 4) scFind.nd rfl (.inl rfl))
        (pss_one (ps_asg (pe_ix ix_list (pv 2) (pe_un un_neg pe_int) (fun _ _ => rfl)) (pg_sub (pv 3) (pv 4) set_list))))
      (pss_one (ps_ret (pe_tup (pa_cons (pe_callTy call_tuple_of (by rfl) T.tuple (by decide +kernel) (pa_cons (pv 3) pa_nil)) (pa_cons (pe_op op_sub (pe_callB call_len_seq (by rfl) T.len PySem.boot_len (pa_cons (pv 2) pa_nil)) pe_int) pa_nil))))))), ?_⟩
    refine ⟨_, rfl, _, rfl, a, n, p, r, x, rfl, hS, hn, hF, hx, fun c H1 nc hc s1 => ?_⟩
    refine ⟨_, rfl, a, _, rfl, hS.same s1, fun l nl => ?_⟩
    have s2 : Same H1 (upd H1 l (.lst (tupOf n p))) := same_new nl
    have nlc : c ≠ l := ne_of_none hc nl
    have nl0 : H l = none := s1.free nl
    refine ⟨_, rfl, c, rfl, ⟨_, s2.seq (SqL.of hc)⟩, ?_⟩
    have hcl : ∀ y ∈ path p n x, y < n := path_lt hF hx
    refine for_list (xs := natsV (path p n x)) (fun i σ H' => (∃ y, σ = [some (.ref a), some (vi x), some (.ref c), some (.ref l), y]) ∧ H' c = some (.lst (natsV (path p n x))) ∧ H' l = some (.lst (tupOf n (setAll (root p n x) ((path p n x).take i) p))) ∧ Same H H')
      ⟨⟨none, rfl⟩, s2 _ _ hc, upd_same, s1.trans s2⟩ (fun i σ H' _ h => SqL.of h.2.1) ?_ ?_
    · rintro i v σ H' hv ⟨⟨y, rfl⟩, hc', hl', sm⟩
      unfold natsV at hv
      rw [List.getElem?_map] at hv
      obtain ⟨u, hu, rfl⟩ := Option.map_eq_some_iff.mp hv
      have hun : u < n := hcl u (List.mem_of_getElem? hu)
      refine ⟨_, rfl, 1, rfl, c, _, _, _, rfl, rfl, SqL.of hc', natsV_last p n x, _, rfl, _, rfl, l, _, _, u, rfl, rfl, hl', by rw [tupOf_len]; exact ixN_nat hun, ⟨_, rfl⟩, by rw [upd_ne nlc]; exact hc', ?_, same_over sm nl0⟩
      rw [upd_same, tupOf_set, List.take_add_one, hu]
      show some (HO.lst _) = some (HO.lst (tupOf n (setAll (root p n x) ((path p n x).take i ++ [u]) p)))
      rw [setAll_snoc]
    · rintro σ H' ⟨⟨y, rfl⟩, hc', hl', sm⟩
      rw [natsV_len, List.take_length, fnd_setAll] at hl'
      refine ⟨_, rfl, l, _, rfl, .inl ⟨SqL.of hl', fun g ng => ?_⟩⟩
      have s3 := same_new (o := .tup (tupOf n (fnd n p x))) ng
      refine ⟨_, rfl, c, _, rfl, .inl (SqL.of (s3 _ _ hc')), _, _, rfl, rfl, by show 2 ≤ sizeLine; decide, fun t nt => ?_⟩
      have el : ((natsV (path p n x)).length : Int) - 1 = ((ups p n x).length : Int) := by
        rw [natsV_len]
        unfold path
        rw [List.length_append, List.length_singleton]
        omega
      have s4 := same_new (o := .tup [V.ref g, vi (ups p n x).length]) nt
      show Q (.ref t) (upd (upd H' g (.tup (tupOf n (fnd n p x)))) t (.tup [V.ref g, .int (((natsV (path p n x)).length : Int) - 1)]))
      rw [el]
      refine q t g _ ((sm.trans s3).free nt) (sm.free ng) upd_same (s4 _ _ upd_same) ((sm.trans s3).trans s4)
end
section
variable {P : Program} {w : World} {K : PySem.W.Frag} {mg : Str → Option Value} {base : Heap}
theorem ok_findAll {f fP : Addr} {fd fdP : FuncData} (F : Fun K "find_all" "find_all" sFindAll f fd) (GP : FnOk P w K mg base CX0 4 fP fdP ["forest", "node"] (spFind K)) (FP : Fun K "find" "find" sFind fP fdP) (bP : Binds K fdP ["forest", "node"] []) (gP : mg "find" = some (.ref fP)) :
    FnOk P w K mg base CX0 5 f fd ["forest", "nodes"] (spFindAll K) := by
  refine F.ok scFindAll (fun vs H Q E h => ?_) (fun cdv A outer s H vs Q E hr h => ?_)
  · obtain ⟨a, b, n, p, r, xs, rfl, _⟩ := h
    rfl
  · obtain ⟨a, b, n, p, r, xs, rfl, hS, hB, hn, hxl, hF, hx, q⟩ := h
    refine ⟨_, pss_cons (ps_set (i := 2) scFindAll.nd rfl (.inl rfl) (pe_lst pa_nil))
      (pss_cons (ps_for PassesOwn.never rfl (pi_list (pv 1)) (pg_name (i := 3) scFindAll.nd rfl (.inl rfl))
        (pss_cons (ps_asg (pe_call GP hr (by rfl) gP FP.kp bP .nil pass0 (pa_cons (pv 0) (pa_cons (pv 3) pa_nil))) (pg_tup rfl (pgs_cons (pg_name (i := 0) scFindAll.nd rfl (.inl rfl)) (pgs_cons (pg_name (i := 4) scFindAll.nd rfl (.inl rfl)) pgs_nil))))
        (pss_one (ps_expr (pe_bm PySem.F.plainAttrs_list PySem.F.slot_list_append PySem.F.type_list_append mt_append (pv 2) (pa_cons (pv 4) pa_nil))))))
      (pss_one (ps_ret (pe_tup (pa_cons (pv 0) (pa_cons (pv 2) pa_nil)))))), ?_⟩
    refine ⟨Nat.zero_le _, fun c nc => ?_⟩
    have s1 : Same H (upd H c (.lst [])) := same_new nc
    refine ⟨_, rfl, b, rfl, ⟨_, s1.seq hB⟩, ?_⟩
    refine for_list (xs := natsV xs) (fun i σ H' => (∃ g y z, σ = [some (.ref g), some (.ref b), some (.ref c), y, z] ∧ (g = a ∨ H g = none) ∧ SqT K H' g (tupOf n (fndAll n (xs.take i) p))) ∧ H' c = some (.lst (natsV (costs n (xs.take i) p))) ∧ Same H H')
      ⟨⟨a, none, none, rfl, .inl rfl, same_sqt s1 hS⟩, upd_same, s1⟩ (fun i σ H' _ h => h.2.2.seq hB) ?_ ?_
    · rintro i v σ H' hv ⟨⟨g, y, z, rfl, hga, hg⟩, hc, sm⟩
      unfold natsV at hv
      rw [List.getElem?_map] at hv
      obtain ⟨u, hu, rfl⟩ := Option.map_eq_some_iff.mp hv
      have hun : u < n := hx u (List.mem_of_getElem? hu)
      have hF' : Fo n (fndAll n (xs.take i) p) r := fndAll_fo hF _ (fun x hx' => hx x (List.mem_of_mem_take hx')) p hF
      refine ⟨_, rfl, _, rfl, g, n, _, r, u, rfl, .inr hg, hn, hF', hun, fun t g2 H2 nt ng2 ht hg2 s2 => ?_⟩
      refine ⟨t, _, rfl, SqT.of ht, rfl, _, _, rfl, _, _, rfl, rfl, ?_⟩
      have hc2 := s2 _ _ hc
      have hcn : c ≠ g2 := ne_of_none hc ng2
      refine ⟨_, rfl, .inl ⟨rfl, _, SqL.of hc2⟩, _, rfl, c, _, _, rfl, rfl, hc2, ?_, ⟨g2, _, _, rfl, .inr (sm.free ng2), ?_⟩, ?_, same_over (sm.trans s2) nc⟩
      · rw [natsV_len, costs_len, List.length_take]
        exact Nat.lt_of_le_of_lt (show _ ≤ 1000 by omega) (by decide)
      · have e : fndAll n (xs.take (i + 1)) p = fnd n (fndAll n (xs.take i) p) u := by
          rw [List.take_add_one, hu]
          exact fndAll_snoc n _ u p
        rw [e]
        exact SqT.of (by rw [upd_ne hcn.symm]; exact hg2)
      · rw [upd_same]
        have e : costs n (xs.take (i + 1)) p = costs n (xs.take i) p ++ [(ups (fndAll n (xs.take i) p) n u).length] := by
          rw [List.take_add_one, hu]
          exact costs_snoc n _ u p
        rw [e]
        unfold natsV
        rw [List.map_append]
        rfl
    · rintro σ H' ⟨⟨g, y, z, rfl, hga, hg⟩, hc, sm⟩
      rw [natsV_len, List.take_length] at hg hc
      refine ⟨_, rfl, _, rfl, by show 2 ≤ sizeLine; decide, fun t nt => ?_⟩
      have s4 := same_new (o := .tup [V.ref g, V.ref c]) nt
      exact q t g c _ (sm.free nt) nc hga upd_same (same_sqt s4 hg) (s4 _ _ hc) (sm.trans s4)
end
section
variable {P : Program} {w : World} {K : PySem.W.Frag} {mg : Str → Option Value} {base : Heap}
theorem ok_same {f : Addr} {fd : FuncData} (F : Fun K "_law_same" "_law_same" sSame f fd) (T : TxS mg) (b : Binds K fd ["_law_found", "_law_due"] []) (g : mg "_law_same" = some (.ref f)) :
    ∀ n, FnOk P w K mg base CX0 (n + 1) f fd ["_law_found", "_law_due"] (spSame K n) := by
  intro n
  induction n with
  | zero =>
    refine F.ok scSame (fun vs H Q E h => ?_) (fun cdv A outer s H vs Q E hr h => ?_)
    · obtain ⟨v, u, d, rfl, _⟩ := h
      rfl
    · obtain ⟨v, u, d, rfl, hv, hu, hd, q⟩ := h
      refine ⟨_, pss_cons (ps_if (pt_cmpR op_isN (pv 1) pe_non (nomark _)) (pss_one (ps_ret (pe_cmpR op_isN (pv 0) pe_non (nomark _)))) pss_nil)
        (pss_cons (ps_if (pt_val (pe_callB call_isiT (by rfl) T.isinstance (by decide +kernel) (pa_cons (pv 1) (pa_cons (pe_tup (pa_cons (pe_ty (n := "list") (by rfl) T.list (by decide +kernel)) (pa_cons (pe_ty (n := "tuple") (by rfl) T.tuple (by decide +kernel)) pa_nil))) pa_nil))))
          pss_never pss_nil)
        (pss_cons (ps_if (PW.pt (pw_or
              (pt_cmpR op_ne (pe_callB call_isi (by rfl) T.isinstance (by decide +kernel) (pa_cons (pv 1) (pa_cons (pe_ty (n := "bool") (by rfl) T.bool (by decide +kernel)) pa_nil))) (pe_callB call_isi (by rfl) T.isinstance (by decide +kernel) (pa_cons (pv 0) (pa_cons (pe_ty (n := "bool") (by rfl) T.bool (by decide +kernel)) pa_nil))) (nomark _))
              (pw_or1 (pt_cmpR op_ne (pe_callB call_isi (by rfl) T.isinstance (by decide +kernel) (pa_cons (pv 1) (pa_cons (pe_ty (n := "int") (by rfl) T.int (by decide +kernel)) pa_nil))) (pe_callB call_isi (by rfl) T.isinstance (by decide +kernel) (pa_cons (pv 0) (pa_cons (pe_ty (n := "int") (by rfl) T.int (by decide +kernel)) pa_nil))) (nomark _))))) (pss_one (ps_ret pe_bl)) pss_nil)
        (pss_one (ps_ret (pe_and (pe_cmpR op_eq (pe_callB call_isi (by rfl) T.isinstance (by decide +kernel) (pa_cons (pv 1) (pa_cons (pe_ty (n := "str") (by rfl) T.str (by decide +kernel)) pa_nil))) (pe_callB call_isi (by rfl) T.isinstance (by decide +kernel) (pa_cons (pv 0) (pa_cons (pe_ty (n := "str") (by rfl) T.str (by decide +kernel)) pa_nil))) (nomark _))
          (pe_one (pe_cmpR op_eq (pv 0) (pv 1) (nomark _)))))))), ?_⟩
      cases hd with
      | non =>
        cases hv; cases hu
        exact ⟨_, rfl, rfl, _, rfl, _, rfl, rfl, q H (Same.refl H)⟩
      | bl _ x =>
        cases hv; cases hu
        refine ⟨_, rfl, rfl, _, rfl, _, rfl, by show 2 ≤ sizeLine; decide, fun tp ntp => ?_⟩
        refine ⟨_, tp, _, _, _, _, rfl, upd_same, .cons (.ty _) (.cons (.ty _) .nil), .base (.bl x), kit2 (r := false) (s := false) (by decide +kernel) (by decide +kernel), _, rfl, ?_⟩
        refine ⟨_, rfl, _, _, _, _, _, rfl, .ty _, .base (.bl x), kit_ty (r := true) (by decide +kernel), _, rfl, _, _, _, _, _, rfl, .ty _, .base (.bl x), kit_ty (r := true) (by decide +kernel), rfl, _, rfl, ?_⟩
        refine ⟨_, rfl, _, _, _, _, _, rfl, .ty _, .base (.bl x), kit_ty (r := true) (by decide +kernel), _, rfl, _, _, _, _, _, rfl, .ty _, .base (.bl x), kit_ty (r := true) (by decide +kernel), rfl, _, rfl, ?_⟩
        refine ⟨_, rfl, _, _, _, _, _, rfl, .ty _, .base (.bl x), kit_ty (r := false) (by decide +kernel), _, rfl, _, _, _, _, _, rfl, .ty _, .base (.bl x), kit_ty (r := false) (by decide +kernel), rfl, _, rfl, ?_⟩
        refine ⟨_, rfl, _, rfl, rfl, ?_⟩
        show Q (.bl (decide (V.bl x = V.bl x))) _
        rw [decide_eq_true rfl]
        exact q _ (same_new ntp)
      | int _ x =>
        cases hv; cases hu
        refine ⟨_, rfl, rfl, _, rfl, _, rfl, by show 2 ≤ sizeLine; decide, fun tp ntp => ?_⟩
        refine ⟨_, tp, _, _, _, _, rfl, upd_same, .cons (.ty _) (.cons (.ty _) .nil), .base (.int x), kit2 (r := false) (s := false) (by decide +kernel) (by decide +kernel), _, rfl, ?_⟩
        refine ⟨_, rfl, _, _, _, _, _, rfl, .ty _, .base (.int x), kit_ty (r := false) (by decide +kernel), _, rfl, _, _, _, _, _, rfl, .ty _, .base (.int x), kit_ty (r := false) (by decide +kernel), rfl, _, rfl, ?_⟩
        refine ⟨_, rfl, _, _, _, _, _, rfl, .ty _, .base (.int x), kit_ty (r := true) (by decide +kernel), _, rfl, _, _, _, _, _, rfl, .ty _, .base (.int x), kit_ty (r := true) (by decide +kernel), rfl, _, rfl, ?_⟩
        refine ⟨_, rfl, _, _, _, _, _, rfl, .ty _, .base (.int x), kit_ty (r := false) (by decide +kernel), _, rfl, _, _, _, _, _, rfl, .ty _, .base (.int x), kit_ty (r := false) (by decide +kernel), rfl, _, rfl, ?_⟩
        refine ⟨_, rfl, _, rfl, rfl, ?_⟩
        show Q (.bl (decide (V.int x = V.int x))) _
        rw [decide_eq_true rfl]
        exact q _ (same_new ntp)
      | str _ x =>
        cases hv; cases hu
        refine ⟨_, rfl, rfl, _, rfl, _, rfl, by show 2 ≤ sizeLine; decide, fun tp ntp => ?_⟩
        refine ⟨_, tp, _, _, _, _, rfl, upd_same, .cons (.ty _) (.cons (.ty _) .nil), .base (.str x), kit2 (r := false) (s := false) (by decide +kernel) (by decide +kernel), _, rfl, ?_⟩
        refine ⟨_, rfl, _, _, _, _, _, rfl, .ty _, .base (.str x), kit_ty (r := false) (by decide +kernel), _, rfl, _, _, _, _, _, rfl, .ty _, .base (.str x), kit_ty (r := false) (by decide +kernel), rfl, _, rfl, ?_⟩
        refine ⟨_, rfl, _, _, _, _, _, rfl, .ty _, .base (.str x), kit_ty (r := false) (by decide +kernel), _, rfl, _, _, _, _, _, rfl, .ty _, .base (.str x), kit_ty (r := false) (by decide +kernel), rfl, _, rfl, ?_⟩
        refine ⟨_, rfl, _, _, _, _, _, rfl, .ty _, .base (.str x), kit_ty (r := true) (by decide +kernel), _, rfl, _, _, _, _, _, rfl, .ty _, .base (.str x), kit_ty (r := true) (by decide +kernel), rfl, _, rfl, ?_⟩
        refine ⟨_, rfl, _, rfl, rfl, ?_⟩
        show Q (.bl (decide (V.str x = V.str x))) _
        rw [decide_eq_true rfl]
        exact q _ (same_new ntp)
  | succ n ih =>
    refine F.ok scSame (fun vs H Q E h => ?_) (fun cdv A outer s H vs Q E hr h => ?_)
    · obtain ⟨v, u, d, rfl, _⟩ := h
      rfl
    · obtain ⟨v, u, d, rfl, hv, hu, hd, q⟩ := h
      refine ⟨_, pss_cons (ps_if (pt_cmpR op_isN (pv 1) pe_non (nomark _)) (pss_one (ps_ret (pe_cmpR op_isN (pv 0) pe_non (nomark _)))) pss_nil)
        (pss_cons (ps_if (pt_val (pe_callB call_isiT (by rfl) T.isinstance (by decide +kernel) (pa_cons (pv 1) (pa_cons (pe_tup (pa_cons (pe_ty (n := "list") (by rfl) T.list (by decide +kernel)) (pa_cons (pe_ty (n := "tuple") (by rfl) T.tuple (by decide +kernel)) pa_nil))) pa_nil))))
          (pss_cons (ps_if (PW.pt (pw_or
              (pt_cmpR op_ne (pe_callB call_isi (by rfl) T.isinstance (by decide +kernel) (pa_cons (pv 0) (pa_cons (pe_ty (n := "list") (by rfl) T.list (by decide +kernel)) pa_nil))) (pe_callB call_isi (by rfl) T.isinstance (by decide +kernel) (pa_cons (pv 1) (pa_cons (pe_ty (n := "list") (by rfl) T.list (by decide +kernel)) pa_nil))) (nomark _))
              (pw_or1 (pt_cmpR op_ne (pe_callB call_isi (by rfl) T.isinstance (by decide +kernel) (pa_cons (pv 0) (pa_cons (pe_ty (n := "tuple") (by rfl) T.tuple (by decide +kernel)) pa_nil))) (pe_callB call_isi (by rfl) T.isinstance (by decide +kernel) (pa_cons (pv 1) (pa_cons (pe_ty (n := "tuple") (by rfl) T.tuple (by decide +kernel)) pa_nil))) (nomark _))))) (pss_one (ps_ret pe_bl)) pss_nil)
          (pss_one (ps_ret (pe_and (pe_cmpR op_eq (pe_callB call_len_seq (by rfl) T.len PySem.boot_len (pa_cons (pv 0) pa_nil)) (pe_callB call_len_seq (by rfl) T.len PySem.boot_len (pa_cons (pv 1) pa_nil)) (nomark _))
            (pe_one (pe_callB (cr_all rfl) (by rfl) T.all (by decide +kernel) (pa_cons (pe_lc (own := [("_law_one", 2), ("_law_other", 3)]) (g := gTup K 2 (gCons (gName 2) (gCons (gName 3) gNil))) (by rfl) scSame.nd (RZ.pi_zipA (by rfl) T.zip (pa_cons (pv 0) (pa_cons (pv 1) pa_nil)))
              (blkOk_by (own := [("_law_one", 2), ("_law_other", 3)]) (N := sameN) (sc := defScope sSame) (by decide +kernel)) (fun _ _ _ _ _ => pg_tup rfl (pgs_cons (pg_name (i := 2) scSame.nd rfl (.inl rfl)) (pgs_cons (pg_name (i := 3) scSame.nd rfl (.inl rfl)) pgs_nil))) (fun _ _ _ _ _ => pts_nil)
              (fun _ _ _ _ _ => pe_call ih hr (by rfl) g F.kp b .nil pass0 (pa_cons (pv 2) (pa_cons (pv 3) pa_nil)))) pa_nil))))))) pss_nil)
        (pss_cons (ps_if (PW.pt (pw_or
              (pt_cmpR op_ne (pe_callB call_isi (by rfl) T.isinstance (by decide +kernel) (pa_cons (pv 1) (pa_cons (pe_ty (n := "bool") (by rfl) T.bool (by decide +kernel)) pa_nil))) (pe_callB call_isi (by rfl) T.isinstance (by decide +kernel) (pa_cons (pv 0) (pa_cons (pe_ty (n := "bool") (by rfl) T.bool (by decide +kernel)) pa_nil))) (nomark _))
              (pw_or1 (pt_cmpR op_ne (pe_callB call_isi (by rfl) T.isinstance (by decide +kernel) (pa_cons (pv 1) (pa_cons (pe_ty (n := "int") (by rfl) T.int (by decide +kernel)) pa_nil))) (pe_callB call_isi (by rfl) T.isinstance (by decide +kernel) (pa_cons (pv 0) (pa_cons (pe_ty (n := "int") (by rfl) T.int (by decide +kernel)) pa_nil))) (nomark _))))) (pss_one (ps_ret pe_bl)) pss_nil)
        (pss_one (ps_ret (pe_and (pe_cmpR op_eq (pe_callB call_isi (by rfl) T.isinstance (by decide +kernel) (pa_cons (pv 1) (pa_cons (pe_ty (n := "str") (by rfl) T.str (by decide +kernel)) pa_nil))) (pe_callB call_isi (by rfl) T.isinstance (by decide +kernel) (pa_cons (pv 0) (pa_cons (pe_ty (n := "str") (by rfl) T.str (by decide +kernel)) pa_nil))) (nomark _))
          (pe_one (pe_cmpR op_eq (pv 0) (pv 1) (nomark _)))))))), ?_⟩
      cases hd with
      | non =>
        cases hv; cases hu
        exact ⟨_, rfl, rfl, _, rfl, _, rfl, rfl, q H (Same.refl H)⟩
      | bl _ x =>
        cases hv; cases hu
        refine ⟨_, rfl, rfl, _, rfl, _, rfl, by show 2 ≤ sizeLine; decide, fun tp ntp => ?_⟩
        refine ⟨_, tp, _, _, _, _, rfl, upd_same, .cons (.ty _) (.cons (.ty _) .nil), .base (.bl x), kit2 (r := false) (s := false) (by decide +kernel) (by decide +kernel), _, rfl, ?_⟩
        refine ⟨_, rfl, _, _, _, _, _, rfl, .ty _, .base (.bl x), kit_ty (r := true) (by decide +kernel), _, rfl, _, _, _, _, _, rfl, .ty _, .base (.bl x), kit_ty (r := true) (by decide +kernel), rfl, _, rfl, ?_⟩
        refine ⟨_, rfl, _, _, _, _, _, rfl, .ty _, .base (.bl x), kit_ty (r := true) (by decide +kernel), _, rfl, _, _, _, _, _, rfl, .ty _, .base (.bl x), kit_ty (r := true) (by decide +kernel), rfl, _, rfl, ?_⟩
        refine ⟨_, rfl, _, _, _, _, _, rfl, .ty _, .base (.bl x), kit_ty (r := false) (by decide +kernel), _, rfl, _, _, _, _, _, rfl, .ty _, .base (.bl x), kit_ty (r := false) (by decide +kernel), rfl, _, rfl, ?_⟩
        refine ⟨_, rfl, _, rfl, rfl, ?_⟩
        show Q (.bl (decide (V.bl x = V.bl x))) _
        rw [decide_eq_true rfl]
        exact q _ (same_new ntp)
      | int _ x =>
        cases hv; cases hu
        refine ⟨_, rfl, rfl, _, rfl, _, rfl, by show 2 ≤ sizeLine; decide, fun tp ntp => ?_⟩
        refine ⟨_, tp, _, _, _, _, rfl, upd_same, .cons (.ty _) (.cons (.ty _) .nil), .base (.int x), kit2 (r := false) (s := false) (by decide +kernel) (by decide +kernel), _, rfl, ?_⟩
        refine ⟨_, rfl, _, _, _, _, _, rfl, .ty _, .base (.int x), kit_ty (r := false) (by decide +kernel), _, rfl, _, _, _, _, _, rfl, .ty _, .base (.int x), kit_ty (r := false) (by decide +kernel), rfl, _, rfl, ?_⟩
        refine ⟨_, rfl, _, _, _, _, _, rfl, .ty _, .base (.int x), kit_ty (r := true) (by decide +kernel), _, rfl, _, _, _, _, _, rfl, .ty _, .base (.int x), kit_ty (r := true) (by decide +kernel), rfl, _, rfl, ?_⟩
        refine ⟨_, rfl, _, _, _, _, _, rfl, .ty _, .base (.int x), kit_ty (r := false) (by decide +kernel), _, rfl, _, _, _, _, _, rfl, .ty _, .base (.int x), kit_ty (r := false) (by decide +kernel), rfl, _, rfl, ?_⟩
        refine ⟨_, rfl, _, rfl, rfl, ?_⟩
        show Q (.bl (decide (V.int x = V.int x))) _
        rw [decide_eq_true rfl]
        exact q _ (same_new ntp)
      | str _ x =>
        cases hv; cases hu
        refine ⟨_, rfl, rfl, _, rfl, _, rfl, by show 2 ≤ sizeLine; decide, fun tp ntp => ?_⟩
        refine ⟨_, tp, _, _, _, _, rfl, upd_same, .cons (.ty _) (.cons (.ty _) .nil), .base (.str x), kit2 (r := false) (s := false) (by decide +kernel) (by decide +kernel), _, rfl, ?_⟩
        refine ⟨_, rfl, _, _, _, _, _, rfl, .ty _, .base (.str x), kit_ty (r := false) (by decide +kernel), _, rfl, _, _, _, _, _, rfl, .ty _, .base (.str x), kit_ty (r := false) (by decide +kernel), rfl, _, rfl, ?_⟩
        refine ⟨_, rfl, _, _, _, _, _, rfl, .ty _, .base (.str x), kit_ty (r := false) (by decide +kernel), _, rfl, _, _, _, _, _, rfl, .ty _, .base (.str x), kit_ty (r := false) (by decide +kernel), rfl, _, rfl, ?_⟩
        refine ⟨_, rfl, _, _, _, _, _, rfl, .ty _, .base (.str x), kit_ty (r := true) (by decide +kernel), _, rfl, _, _, _, _, _, rfl, .ty _, .base (.str x), kit_ty (r := true) (by decide +kernel), rfl, _, rfl, ?_⟩
        refine ⟨_, rfl, _, rfl, rfl, ?_⟩
        show Q (.bl (decide (V.str x = V.str x))) _
        rw [decide_eq_true rfl]
        exact q _ (same_new ntp)
      | lst hl hk =>
        cases hv with
        | @lst a xs _ sa ra =>
        cases hu with
        | @lst b ys _ sb rb =>
        refine ⟨_, rfl, rfl, _, rfl, _, rfl, by show 2 ≤ sizeLine; decide, fun tp ntp => ?_⟩
        have s1 := same_new (o := .tup [V.ty "list", V.ty "tuple"]) ntp
        have sa1 := Same.seq (s1) sa
        have sb1 := Same.seq (s1) sb
        refine ⟨_, tp, _, _, _, _, rfl, upd_same, .cons (.ty _) (.cons (.ty _) .nil), tyL sb1, kit2 (r := true) (s := false) (by decide +kernel) (by decide +kernel), _, rfl, ?_⟩
        refine ⟨_, rfl, _, _, _, _, _, rfl, .ty _, tyL sa1, kit_ty (r := true) (by decide +kernel), _, rfl, _, _, _, _, _, rfl, .ty _, tyL sb1, kit_ty (r := true) (by decide +kernel), rfl, _, rfl, ?_⟩
        refine ⟨_, rfl, _, _, _, _, _, rfl, .ty _, tyL sa1, kit_ty (r := false) (by decide +kernel), _, rfl, _, _, _, _, _, rfl, .ty _, tyL sb1, kit_ty (r := false) (by decide +kernel), rfl, _, rfl, ?_⟩
        have la := dpl_len ra
        have lb := dpl_len rb
        refine ⟨_, rfl, a, _, rfl, .inl sa1, _, rfl, b, _, rfl, .inl sb1, rfl, _, rfl, ?_⟩
        have el : decide (V.int (xs.length : Int) = V.int (ys.length : Int)) = true := decide_eq_true (by rw [la, lb])
        rw [el]
        refine ⟨_, rfl, _, rfl, a, b, xs, ys, rfl, .inl ⟨sa1, sb1, fun D nD => ?_⟩⟩
        have s2 := same_new (o := .lst []) nD
        refine ⟨fun i m H' => m = xs.length - i ∧ i ≤ xs.length ∧ H' D = some (.lst ((List.replicate i true).map V.bl)) ∧ Same (upd H tp (.tup [V.ty "list", V.ty "tuple"])) H', ⟨xs.length, rfl, Nat.zero_le _, upd_same, s2⟩, ?_⟩
        rintro i m H' ⟨rfl, hi, hD, sm⟩
        have sa2 := Same.seq (sm) sa1
        have sb2 := Same.seq (sm) sb1
        by_cases hlt : i < xs.length
        · have hlt2 : i < ys.length := by omega
          refine .inr ⟨⟨xs, ys, xs[i], ys[i], sa2, sb2, List.getElem?_eq_getElem hlt, List.getElem?_eq_getElem hlt2⟩, fun H2 => H2 D = some (.lst ((List.replicate (i + 1) true).map V.bl)) ∧ Same (upd H tp (.tup [V.ty "list", V.ty "tuple"])) H2, fun H2 z => ⟨xs.length - (i + 1), by omega, rfl, hlt, z.1, z.2⟩, ?_⟩
          rintro vv H2 ⟨tt, x, y, rfl, ntt, rfl, hx, hy⟩
          have ex := hx _ sa2
          have ey := hy _ sb2
          have s3 := same_new (o := .tup [x, y]) ntt
          refine ⟨tt, _, rfl, SqT.of upd_same, rfl, _, _, rfl, _, _, rfl, rfl, rfl, ?_⟩
          obtain ⟨d1, e1, p1⟩ := dpl_at ra ex
          obtain ⟨d2, e2, p2⟩ := dpl_at rb ey
          obtain rfl : d1 = d2 := Option.some.inj (e1.symm.trans e2)
          have s13 := (s1.trans sm).trans s3
          refine ⟨_, rfl, _, rfl, x, y, d1, rfl, dp_same s13 p1, dp_same s13 p2, hk d1 (List.mem_of_getElem? e1), fun H4 s4 => ?_⟩
          have nDt : D ≠ tt := ne_of_none hD ntt
          refine ⟨_, s4 _ _ (s3 _ _ hD), by rw [List.length_map, List.length_replicate]; exact Nat.lt_of_lt_of_le (show i < 1001 by omega) (by decide), ?_, same_over ((sm.trans s3).trans s4) nD⟩
          rw [upd_same, List.replicate_succ', List.map_append]
          rfl
        · have ei : i = xs.length := by omega
          refine .inl ⟨⟨xs, ys, sa2, sb2, .inl (by omega)⟩, D, List.replicate i true, rfl, SqL.of hD, ?_⟩
          have ea : (List.replicate i true).all id = true := List.all_eq_true.mpr fun z hz => (List.mem_replicate.mp hz).2
          rw [ea]
          exact q H' (s1.trans sm)
      | tup hl hk =>
        cases hv with
        | @tup a xs _ sa ra =>
        cases hu with
        | @tup b ys _ sb rb =>
        refine ⟨_, rfl, rfl, _, rfl, _, rfl, by show 2 ≤ sizeLine; decide, fun tp ntp => ?_⟩
        have s1 := same_new (o := .tup [V.ty "list", V.ty "tuple"]) ntp
        have sa1 := same_sqt (s1) sa
        have sb1 := same_sqt (s1) sb
        refine ⟨_, tp, _, _, _, _, rfl, upd_same, .cons (.ty _) (.cons (.ty _) .nil), tyT sb1, kit2 (r := false) (s := true) (by decide +kernel) (by decide +kernel), _, rfl, ?_⟩
        refine ⟨_, rfl, _, _, _, _, _, rfl, .ty _, tyT sa1, kit_ty (r := false) (by decide +kernel), _, rfl, _, _, _, _, _, rfl, .ty _, tyT sb1, kit_ty (r := false) (by decide +kernel), rfl, _, rfl, ?_⟩
        refine ⟨_, rfl, _, _, _, _, _, rfl, .ty _, tyT sa1, kit_ty (r := true) (by decide +kernel), _, rfl, _, _, _, _, _, rfl, .ty _, tyT sb1, kit_ty (r := true) (by decide +kernel), rfl, _, rfl, ?_⟩
        have la := dpl_len ra
        have lb := dpl_len rb
        refine ⟨_, rfl, a, _, rfl, .inr sa1, _, rfl, b, _, rfl, .inr sb1, rfl, _, rfl, ?_⟩
        have el : decide (V.int (xs.length : Int) = V.int (ys.length : Int)) = true := decide_eq_true (by rw [la, lb])
        rw [el]
        refine ⟨_, rfl, _, rfl, a, b, xs, ys, rfl, .inr ⟨sa1, sb1, fun D nD => ?_⟩⟩
        have s2 := same_new (o := .lst []) nD
        refine ⟨fun i m H' => m = xs.length - i ∧ i ≤ xs.length ∧ H' D = some (.lst ((List.replicate i true).map V.bl)) ∧ Same (upd H tp (.tup [V.ty "list", V.ty "tuple"])) H', ⟨xs.length, rfl, Nat.zero_le _, upd_same, s2⟩, ?_⟩
        rintro i m H' ⟨rfl, hi, hD, sm⟩
        have sa2 := same_sqt (sm) sa1
        have sb2 := same_sqt (sm) sb1
        by_cases hlt : i < xs.length
        · have hlt2 : i < ys.length := by omega
          refine .inr ⟨⟨xs, ys, xs[i], ys[i], sa2, sb2, List.getElem?_eq_getElem hlt, List.getElem?_eq_getElem hlt2⟩, fun H2 => H2 D = some (.lst ((List.replicate (i + 1) true).map V.bl)) ∧ Same (upd H tp (.tup [V.ty "list", V.ty "tuple"])) H2, fun H2 z => ⟨xs.length - (i + 1), by omega, rfl, hlt, z.1, z.2⟩, ?_⟩
          rintro vv H2 ⟨tt, x, y, rfl, ntt, rfl, hx, hy⟩
          have ex := hx _ sa2
          have ey := hy _ sb2
          have s3 := same_new (o := .tup [x, y]) ntt
          refine ⟨tt, _, rfl, SqT.of upd_same, rfl, _, _, rfl, _, _, rfl, rfl, rfl, ?_⟩
          obtain ⟨d1, e1, p1⟩ := dpl_at ra ex
          obtain ⟨d2, e2, p2⟩ := dpl_at rb ey
          obtain rfl : d1 = d2 := Option.some.inj (e1.symm.trans e2)
          have s13 := (s1.trans sm).trans s3
          refine ⟨_, rfl, _, rfl, x, y, d1, rfl, dp_same s13 p1, dp_same s13 p2, hk d1 (List.mem_of_getElem? e1), fun H4 s4 => ?_⟩
          have nDt : D ≠ tt := ne_of_none hD ntt
          refine ⟨_, s4 _ _ (s3 _ _ hD), by rw [List.length_map, List.length_replicate]; exact Nat.lt_of_lt_of_le (show i < 1001 by omega) (by decide), ?_, same_over ((sm.trans s3).trans s4) nD⟩
          rw [upd_same, List.replicate_succ', List.map_append]
          rfl
        · have ei : i = xs.length := by omega
          refine .inl ⟨⟨xs, ys, sa2, sb2, .inl (by omega)⟩, D, List.replicate i true, rfl, SqL.of hD, ?_⟩
          have ea : (List.replicate i true).all id = true := List.all_eq_true.mpr fun z hz => (List.mem_replicate.mp hz).2
          rw [ea]
          exact q H' (s1.trans sm)
end
section
variable {P : Program} {w : World} {K : PySem.W.Frag} {mg : Str → Option Value} {base : Heap}
theorem ok_rootOf {f fP : Addr} {fd fdP : FuncData} (F : Fun K "root_of" "root_of" sRootOf f fd) (T1 : Kn P w K mg base 3 "path_of" sPathOf ["forest", "node"] (spPathOf K) fP fdP) : FnOk P w K mg base CX0 4 f fd ["forest", "node"] (spRootOf K) := by
  refine F.ok scRootOf (fun vs H Q E h => ?_) (fun cdv A outer s H vs Q E hr h => ?_)
  · obtain ⟨a, n, p, r, x, rfl, _⟩ := h
    rfl
  · obtain ⟨a, n, p, r, x, rfl, hS, hn, hF, hx, q⟩ := h
    refine ⟨_, pss_one (ps_ret (pe_ix ix_list (pe_call T1.G hr (by rfl) T1.g T1.F.kp T1.b .nil pass0 (pa_cons (pv 0) (pa_cons (pv 1) pa_nil))) (pe_un un_neg pe_int) (fun _ _ => rfl))), ?_⟩
    exact ⟨_, rfl, _, rfl, a, n, p, r, x, rfl, hS, hn, hF, hx, fun c H' nc hc sm => ⟨1, rfl, c, _, _, _, rfl, rfl, SqL.of hc, natsV_last p n x, q H' sm⟩⟩
end
end Ff

namespace Ff
open PySem PySem.Spec PyProof.Rows L2 ExX LamX
abbrev sForE : Stmt := topS 2
abbrev sMiss : Stmt := topS 3
abbrev sNoNode : Stmt := topS 19
theorem scForEI : FnScope ["self", "tag", "message"] ["self", "tag", "message"] (defScope (initS sForE)) := ⟨rfl, rfl, rfl, by decide +kernel, rfl, by decide +kernel, by decide +kernel⟩
theorem scMissI : FnScope ["self", "tag", "message"] ["self", "tag", "message"] (defScope (initS sMiss)) := ⟨rfl, rfl, rfl, by decide +kernel, rfl, by decide +kernel, by decide +kernel⟩
theorem scNoNodeI : FnScope ["self", "node"] ["self", "node"] (defScope (initS sNoNode)) := ⟨rfl, rfl, rfl, by decide +kernel, rfl, by decide +kernel, by decide +kernel⟩
theorem ty_lu : typeOf (.type "LookupError") = pure (.type "type") := by kernel_rfl
theorem ty_va : typeOf (.type "ValueError") = pure (.type "type") := by kernel_rfl
theorem bo_lu : bootBuiltins "LookupError" = some (.type "LookupError") := by kernel_rfl
theorem bo_va : bootBuiltins "ValueError" = some (.type "ValueError") := by kernel_rfl
section
variable {P : Program} {w : World} {K : PySem.W.Frag} {mg : Str → Option Value} {base : Heap}
theorem ok_missI {f : Addr} {fd : FuncData} {k : Nat} (F : Fun K "__init__" "Missing.__init__" (initS sMiss) f fd) (z : mg "LookupError" = none) (v : PySem.W.findCls K (.type "LookupError") (.type "type") "__init__" = some (.val (.builtin "LookupError.__init__"))) :
    FnOk P w K mg base CX0 (k + 1) f fd ["self", "tag", "message"] (spTop K "LookupError.__new__" luTail) := by
  refine F.ok scMissI (fun vs H Q E h => ?_) (fun cdv A outer s H vs Q E hr h => ?_)
  · obtain ⟨a, C, tag, msg, rfl, _⟩ := h
    rfl
  · obtain ⟨a, C, tag, msg, rfl, ha, T, nt, q⟩ := h
    refine ⟨_, pss_cons (ps_expr (pe_bi (xB := "LookupError") PySem.F.excBase_LookupError ty_lu (by decide +kernel) bo_lu (by decide) (by decide) (by decide +kernel) (by rfl) z v (pa_cons (pv 0) (pa_cons (pv 2) pa_nil))))
      (pss_one (ps_st (nid := "LookupError.__new__") PySem.F.store_LookupError (pv 0) (pv 1))), ?_⟩
    exact ⟨_, rfl, _, rfl, a, C, _, rfl, by show 1 ≤ 1000; decide, T, ha, _, rfl, _, rfl, a, C, rfl, T, nt, .inl ⟨ha, fun dx n ne => q dx n ne⟩⟩
end
section
variable {P : Program} {w : World} {K : PySem.W.Frag} {mg : Str → Option Value} {base : Heap}
theorem ok_forEI {f : Addr} {fd : FuncData} {k : Nat} (F : Fun K "__init__" "ForestError.__init__" (initS sForE) f fd) (z : mg "ValueError" = none) (v : PySem.W.findCls K (.type "ValueError") (.type "type") "__init__" = some (.val (.builtin "ValueError.__init__"))) :
    FnOk P w K mg base CX0 (k + 1) f fd ["self", "tag", "message"] (spTop K "ValueError.__new__" vaTail) := by
  refine F.ok scForEI (fun vs H Q E h => ?_) (fun cdv A outer s H vs Q E hr h => ?_)
  · obtain ⟨a, C, tag, msg, rfl, _⟩ := h
    rfl
  · obtain ⟨a, C, tag, msg, rfl, ha, T, nt, q⟩ := h
    refine ⟨_, pss_cons (ps_expr (pe_bi (xB := "ValueError") PySem.F.excBase_ValueError ty_va (by decide +kernel) bo_va (by decide) (by decide) (by decide +kernel) (by rfl) z v (pa_cons (pv 0) (pa_cons (pv 2) pa_nil))))
      (pss_one (ps_st (nid := "ValueError.__new__") PySem.F.store_ValueError (pv 0) (pv 1))), ?_⟩
    exact ⟨_, rfl, _, rfl, a, C, _, rfl, by show 1 ≤ 1000; decide, T, ha, _, rfl, _, rfl, a, C, rfl, T, nt, .inl ⟨ha, fun dx n ne => q dx n ne⟩⟩
end
section
variable {P : Program} {w : World} {K : PySem.W.Frag} {mg : Str → Option Value} {base : Heap}
theorem ok_noNodeI {f fM CM : Addr} {fd fdM : FuncData} (F : Fun K "__init__" "NoNode.__init__" (initS sNoNode) f fd) (TM : ClsI K CM fM) (gM : mg "Missing" = some (.ref CM)) (GM : FnOk P w K mg base CX0 1 fM fdM ["self", "tag", "message"] (spTop K "LookupError.__new__" luTail)) (bM : Binds K fdM ["self", "tag", "message"] []) :
    FnOk P w K mg base CX0 2 f fd ["self", "node"] (spErrI K "LookupError.__new__" luTail "node" "NoNode") := by
  refine F.ok scNoNodeI (fun vs H Q E h => ?_) (fun cdv A outer s H vs Q E hr h => ?_)
  · obtain ⟨a, C, v, rfl, _⟩ := h
    rfl
  · obtain ⟨a, C, v, rfl, ⟨i, rfl, hi⟩, ha, T, nt, nf, q⟩ := h
    refine ⟨_, pss_cons (ps_expr (pe_ci TM GM hr (by rfl) gM bM pass0 (pa_cons (pv 0) (pa_cons pe_str (pa_cons (pe_joined (.cons pe_str (.cons (pe_fmt (pv 1)) .nil))) pa_nil)))))
      (pss_one (ps_st (nid := "LookupError.__new__") PySem.F.store_LookupError (pv 0) (pv 1))), ?_⟩
    have f0 : (Str.empty ++ Str.ofString "there is no node ").length ≤ 100 := by decide +kernel
    refine ⟨_, rfl, ⟨_, rfl, fits (by omega), _, rfl, .inr ⟨i, rfl, hi, _, rfl, fits (Nat.le_trans (fits_cat f0 (txt_int hi)) (by decide)), ?_⟩⟩⟩
    refine ⟨a, C, _, _, rfl, ha, T, nt, fun dx n ne => ⟨_, rfl, _, rfl, a, C, rfl, T, nf, .inr ⟨dx, _, upd_same, ?_, by show 1 ≤ 900; decide, q dx n ne⟩⟩⟩
    rw [upd_ne ne, upd_same]
end
section
variable {P : Program} {w : World} {K : PySem.W.Frag} {mg : Str → Option Value} {base : Heap}
def spChkX (K : PySem.W.Frag) (C : Addr) : Sp := fun vs H Q E => ∃ (a : Addr) (xs : List V) (x : Int), vs = [.ref a, .int x] ∧ Sq K H a xs ∧ (x < 0 ∨ (xs.length : Int) ≤ x) ∧ x.natAbs.log2 < 1920 ∧ Flies H E C "node" "NoNode" (.int x)
end
section
variable {P : Program} {w : World} {K : PySem.W.Frag} {mg : Str → Option Value} {base : Heap}
theorem okX_pathOf {f fC C : Addr} {fd fdC : FuncData} (F : Fun K "path_of" "path_of" sPathOf f fd) (k1 : KnX P w K mg base 5 "check_node" ["forest", "node"] (spChkX K C) fC fdC) : FnOk P w K mg base (L2N.CX P w) 6 f fd ["forest", "node"] (spChkX K C) := by
  refine okN F scPathOf (fun vs H Q E h => ?_) (fun cdv A outer s H vs Q E hr h tk => ?_)
  · obtain ⟨a, xs, x, rfl, _⟩ := h
    rfl
  · refine ⟨_, pss_cons (ps_expr (pe_call k1.G hr (by rfl) k1.g k1.kp k1.b .nil (lookN tk fun _ _ _ _ z => z) (pa_cons (pv 0) (pa_cons (pv 1) pa_nil)))) (pss_cons ps_never (pss_cons ps_never (pss_one ps_never))), ?_⟩
    obtain ⟨a, xs, x, rfl, r⟩ := h
    exact ⟨_, rfl, _, rfl, a, xs, x, rfl, r⟩
end
section
variable {P : Program} {w : World} {K : PySem.W.Frag} {mg : Str → Option Value} {base : Heap}
theorem okX_find {f fC C : Addr} {fd fdC : FuncData} (F : Fun K "find" "find" sFind f fd) (k1 : KnX P w K mg base 6 "path_of" ["forest", "node"] (spChkX K C) fC fdC) : FnOk P w K mg base (L2N.CX P w) 7 f fd ["forest", "node"] (spChkX K C) := by
  refine okN F scFind (fun vs H Q E h => ?_) (fun cdv A outer s H vs Q E hr h tk => ?_)
  · obtain ⟨a, xs, x, rfl, _⟩ := h
    rfl
  · refine ⟨_, pss_cons (ps_set (i := 2) scFind.nd rfl (.inl rfl) (pe_call k1.G hr (by rfl) k1.g k1.kp k1.b .nil (lookN tk fun _ _ _ _ z => z) (pa_cons (pv 0) (pa_cons (pv 1) pa_nil)))) (pss_cons ps_never (pss_cons ps_never (pss_one ps_never))), ?_⟩
    obtain ⟨a, xs, x, rfl, r⟩ := h
    exact ⟨_, rfl, _, rfl, a, xs, x, rfl, r⟩
end
/-- the handled error has a tag of the table and its field -/
structure Told (K : PySem.W.Frag) (cls : Value) (d : Option Addr) (H : Hp) (tag fld : Str) (v : V) : Prop where
  ex : ∃ C dd : Addr, cls = .ref C ∧ XfC K C ∧ PySem.W.findIn K (.ref C) "tag" = some none ∧ PySem.W.findIn K (.ref C) fld = some none ∧ d = some dd ∧ H dd = some (.xd [(fld, v), ("tag", .str tag)])
def nodeTags : List Str := ["BadParent", "Cycle", "NotRoot", "SameRoot", "RootsDiffer", "NoWay", "BadWeight", "NoNode"]
def limitTags : List Str := ["TooManyNodes", "TooLong", "TooManyForests", "TooManyWatches"]
def posTags : List Str := ["BadStep", "BadCost", "Contradiction", "ParseError"]
def sizeTags : List Str := ["SizesDiffer", "BadSize"]
def nameTags : List Str := ["BadName", "NameTaken", "NoForest"]
def wordTags : List Str := ["BadCommand", "BadCount"]
def TagOk (tag fld : Str) : Prop := (tag ∈ nodeTags ∧ fld = "node") ∨ (tag ∈ limitTags ∧ fld = "limit") ∨ (tag ∈ posTags ∧ fld = "pos") ∨ (tag ∈ sizeTags ∧ fld = "size") ∨ (tag ∈ nameTags ∧ fld = "name") ∨ (tag = "BadCommand" ∧ fld = "word") ∨ (tag = "BadCount" ∧ fld = "count") ∨ (tag = "NoWatch" ∧ fld = "number")
def spField (K : PySem.W.Frag) : SpE := fun a cls d vs H Q _ => vs = [.ref a] ∧ ∃ (tag fld : Str) (v : V), Told K cls d H tag fld v ∧ TagOk tag fld ∧ ∀ H1, Same H H1 → Q v H1
section
variable {P : Program} {w : World} {K : PySem.W.Frag} {mg : Str → Option Value} {base : Heap}
/-- what the law makes of what it asks -/
def OutE (K : PySem.W.Frag) (CF CM : Addr) (Q : Str → V → Addr → Hp → Hp → Prop) : XK := fun cls d H1 => PySem.W.exmAny K cls [.ref CF, .ref CM] = some true ∧ ∃ (tag fld : Str) (v : V), Told K cls d H1 tag fld v ∧ TagOk tag fld ∧ ∀ t H2, H1 t = none → Same H1 H2 → Q tag v t H1 H2
end
section
variable {P : Program} {w : World} {K : PySem.W.Frag} {mg : Str → Option Value} {base : Heap}
def TTout (K : PySem.W.Frag) (CF CM : Addr) (tl : XK → Hp → VK → Prop) (H : Hp) (Q : VK) : Prop := ∀ Ha, Same H Ha → ∃ (E1 : XK) (Q1 : VK), tl E1 Ha Q1 ∧
  (∀ cls d H1, E1 cls d H1 → OutE K CF CM (fun tag v t _ H2 => H2 t = some (.tup [.non, .str tag, v]) → Q (.ref t) H2) cls d H1) ∧ ∀ v H1, Q1 v H1 → ∀ t H2, H1 t = none → Same H1 H2 → H2 t = some (.tup [v, .str "", .non]) → Q (.ref t) H2
end
section
variable {P : Program} {w : World} {K : PySem.W.Frag} {mg : Str → Option Value} {base : Heap}
/-- the same without the answer -/
def TTerr (K : PySem.W.Frag) (CF CM : Addr) (tl : XK → Hp → VK → Prop) (H : Hp) (Q : VK) : Prop := ∀ Ha, Same H Ha → ∃ (E1 : XK) (Q1 : VK), tl E1 Ha Q1 ∧
  (∀ cls d H1, E1 cls d H1 → OutE K CF CM (fun tag v t _ H2 => H2 t = some (.tup [.str tag, v]) → Q (.ref t) H2) cls d H1) ∧ ∀ v H1, Q1 v H1 → ∀ t H2, H1 t = none → Same H1 H2 → H2 t = some (.tup [.str "", .non]) → Q (.ref t) H2
end
section
variable {P : Program} {w : World} {K : PySem.W.Frag} {mg : Str → Option Value} {base : Heap}
theorem cut3 (a b c : V) : cutV [a, b, c] (some 1) none = [b, c] := rfl
end
/-- an integer that is no node -/
def spStrange : Sp := fun vs H Q _ => ∃ (d l : Addr) (n : Nat), vs = [.ref d, vi n] ∧ DrawAt H d l ∧ n ≤ 1000 ∧ ∀ (z : Int) H', (z < 0 ∨ (n : Int) ≤ z) → -2000000000 ≤ z → z ≤ 2000000000 → DrawAt H' d l → Sb d H H' → Q (.int z) H'
section
variable {P : Program} {w : World} {K : PySem.W.Frag} {mg : Str → Option Value} {base : Heap}
def spNumX (C : Addr) : Sp := fun vs H Q E => ∃ (n x : Int), vs = [.int n, .int x] ∧ (x < 0 ∨ n ≤ x) ∧ x.natAbs.log2 < 1920 ∧ Flies H E C "node" "NoNode" (.int x)
end
section
variable {P : Program} {w : World} {K : PySem.W.Frag} {mg : Str → Option Value} {base : Heap}
theorem okX_num {f C : Addr} {fd : FuncData} (F : Fun K "check_number" "check_number" sNum f fd) (R : Raisable P w K mg base 2 "NoNode" C "node" "NoNode") : FnOk P w K mg base (L2N.CX P w) 4 f fd ["size", "node"] (spNumX C) := by
  refine okN F scNum (fun vs H Q E h => ?_) (fun cdv A outer s H vs Q E hr h tk => ?_)
  · obtain ⟨n, x, rfl, _⟩ := h
    rfl
  · obtain ⟨n, x, rfl, hx, hb, fl⟩ := h
    refine ⟨_, pss_one (ps_if (pt_not (pt_chain op_le op_lt pe_int (pv 1) (pv 0))) (pss_one (L2N.ps_raise rfl tk (pmk_err R hr (by rfl) (pv 1)))) pss_nil), ?_⟩
    refine ⟨_, rfl, _, _, rfl, rfl, _, rfl, ?_⟩
    show if decide ((0 : Int) ≤ x) = true then _ else _
    by_cases h0 : (0 : Int) ≤ x
    · rw [decide_eq_true h0]
      refine iteT ⟨_, rfl, _, _, rfl, rfl, _, rfl, ?_⟩
      show if (!decide (x < n)) = true then _ else _
      rw [decide_eq_false (show ¬ x < n by omega)]
      exact iteT ⟨_, rfl, _, rfl, ⟨x, rfl, hb⟩, fl⟩
    · rw [decide_eq_false h0]
      refine iteF ⟨_, rfl, ?_⟩
      exact iteT ⟨_, rfl, _, rfl, ⟨x, rfl, hb⟩, fl⟩
end
section
variable {P : Program} {w : World} {K : PySem.W.Frag} {mg : Str → Option Value} {base : Heap}
theorem okX_chk {f fN C : Addr} {fd fdN : FuncData} (F : Fun K "check_node" "check_node" sChk f fd) (k1 : KnX P w K mg base 4 "check_number" ["size", "node"] (spNumX C) fN fdN) (T : Tx mg) : FnOk P w K mg base (L2N.CX P w) 5 f fd ["forest", "node"] (spChkX K C) := by
  refine okN F scChk (fun vs H Q E h => ?_) (fun cdv A outer s H vs Q E hr h tk => ?_)
  · obtain ⟨a, xs, x, rfl, _⟩ := h
    rfl
  · obtain ⟨a, xs, x, rfl, hS, hx, hb, fl⟩ := h
    refine ⟨_, pss_one (ps_expr (pe_call k1.G hr (by rfl) k1.g k1.kp k1.b .nil (lookNE tk) (pa_cons (pe_callB call_len_seq (by rfl) T.len PySem.boot_len (pa_cons (pv 0) pa_nil)) (pa_cons (pv 1) pa_nil)))), ?_⟩
    exact ⟨_, rfl, a, xs, rfl, hS, _, rfl, xs.length, x, rfl, hx, hb, fl⟩
end
def spLawT (K : PySem.W.Frag) (PT : Addr) : Sp := fun vs H Q _ => ∃ (a : Addr) (ns : List Int), vs = [.ref a] ∧ H PT = some (.tbl #[]) ∧ SqL K H a (ns.map V.int) ∧ ns.length ≤ 63 ∧ ∀ H1, Q (.bl true) H1
/-- a second find of the same node -/
theorem again_same {n : Nat} {p r : Nat → Nat} (F : Fo n p r) {x : Nat} (hx : x < n) (v : Nat) (hv : v < n) : fnd n (fnd n p x) x v = fnd n p x v := by
  have h := behind_same F (l := [x]) (m := [x, x]) (by intro y hy; rw [List.mem_singleton.mp hy]; exact hx) (fun y => by simp) v hv
  exact h
theorem again_cost {n : Nat} {p r : Nat → Nat} (F : Fo n p r) {x : Nat} (hx : x < n) : (ups (fnd n p x) n x).length = low p x := by
  have h1 := cost_total F [x] (by intro y hy; rw [List.mem_singleton.mp hy]; exact hx)
  have h2 := cost_total F [x, x] (by intro y hy; simp at hy; rw [hy]; exact hx)
  have e : (List.range n).countP (fun v => deep p v && markB n p [x, x] v) = (List.range n).countP (fun v => deep p v && markB n p [x] v) := by
    refine List.countP_congr fun v _ => ?_
    rw [mark_same (n := n) (p := p) (l := [x, x]) (m := [x]) (fun y => by simp) v]
  rw [e] at h2
  simp only [costs, List.sum_cons, List.sum_nil, List.map_cons, List.map_nil] at h1 h2
  omega
theorem low_min {n : Nat} {p r : Nat → Nat} (F : Fo n p r) {x : Nat} (hx : x < n) : (if ((ups p n x).length : Int) < 1 then ((ups p n x).length : Int) else 1) = ((low p x : Nat) : Int) := by
  unfold low
  by_cases e : p x = x
  · rw [if_pos e, ups_of e]; simp
  · rw [if_neg e, ups_n F hx e, List.length_cons, if_neg (by omega)]; rfl
/-- all but tables stays, but what stands at d -/
theorem tabs_sb {T : List (Addr × Str)} {H H1 : Hp} {d : Addr} (t : Tabs T H) (s : Sb d H H1) (nd : ∃ xs, H d = some (.lst xs)) : Tabs T H1 := by
  obtain ⟨xs, hd⟩ := nd
  intro p hp
  obtain ⟨ps, h1, h2, h3⟩ := t p hp
  refine ⟨ps, s _ _ (ne_of h1 hd (by intro z; cases z)) h1, h2, fun pos cv hc => ?_⟩
  obtain ⟨c, e1, e2⟩ := h3 pos cv hc
  exact ⟨c, e1, s _ _ (ne_of e2 hd (by unfold CodeO; intro z; cases z)) e2⟩
theorem DrawAt.lst {H : Hp} {d l : Addr} (D : DrawAt H d l) : ∃ xs, H d = some (.lst xs) := by
  obtain ⟨ns, i, j, k, h, _⟩ := D
  exact ⟨_, h⟩
theorem DrawAt.ext {H H1 : Hp} {d l : Addr} (D : DrawAt H d l) (s : ExtN H H1) : DrawAt H1 d l := by
  obtain ⟨ns, i, j, k, h, h2, r⟩ := D
  exact ⟨ns, i, j, k, s _ _ h (by intro ps z; cases z), s _ _ h2 (by intro ps z; cases z), r⟩
theorem shaped_err {x : Str} (h : PyData.strOk x = true) (z : Int) : SeqAt.shaped (.tuple [.str x, .int z]) = true := by
  unfold SeqAt.shaped
  simp [PyData.canLay0, PyData.canLayAll0, PyData.depth, PyData.depthAll, h]
theorem bits_ok {z : Int} (h1 : -2000000000 ≤ z) (h2 : z ≤ 2000000000) : z.natAbs.log2 < 1920 := by
  by_cases h0 : z.natAbs = 0
  · rw [h0]; decide
  · refine (Nat.log2_lt h0).mpr (Nat.lt_of_le_of_lt (show z.natAbs ≤ 2000000000 by omega) ?_)
    exact Nat.lt_of_lt_of_le (show 2000000000 < 2 ^ 31 by decide) (Nat.pow_le_pow_right (by decide) (by decide))
/-- what a find answers, as data -/
def dFind (n : Nat) (q : Nat → Nat) (c : Nat) : PyData := .tuple [.tuple ((intsOf n q).map PyData.int), .int (c : Int)]
theorem dp_find {K : PySem.W.Frag} {H : Hp} {t g : Addr} {n c : Nat} {q : Nat → Nat} (h1 : H t = some (.tup [.ref g, vi c])) (h2 : SqT K H g (tupOf n q)) : Dp K H (.ref t) (dFind n q c) := by
  rw [tupOf_ints] at h2
  exact .tup (SqT.of h1) (.cons (.tup h2 (dpAll_ints _)) (.cons (.int _) .nil))
theorem sm_forest {n k : Nat} (h : n ≤ 1000) (q : Nat → Nat) : Sm (k + 1) (.tuple ((intsOf n q).map PyData.int)) := by
  refine .tup (by rw [List.length_map]; unfold intsOf; rw [List.length_map, List.length_range]; omega) fun d hd => ?_
  obtain ⟨i, _, e⟩ := List.mem_map.mp hd
  rw [← e]; exact .int _ _
theorem sm_find {n k : Nat} (h : n ≤ 1000) (q : Nat → Nat) (c : Nat) : Sm (k + 2) (dFind n q c) := by
  refine .tup (by show 2 ≤ 1000; decide) fun d hd => ?_
  rcases List.mem_cons.mp hd with z | z
  · rw [z]; exact sm_forest h q
  · rw [List.mem_singleton.mp z]; exact .int _ _
theorem cut_take (zs : List V) (j : Nat) : cutV zs none (some (j : Int)) = zs.take j := by
  unfold cutV
  rw [HT.sIx_none, HT.sIx_nat, List.drop_zero, Nat.sub_zero]
  by_cases h : j ≤ zs.length
  · rw [Nat.min_eq_left h]
  · rw [Nat.min_eq_right (by omega), List.take_of_length_le (Nat.le_refl _), List.take_of_length_le (by omega)]
theorem cut_drop (zs : List V) (j : Nat) : cutV zs (some (j : Int)) none = zs.drop j := by
  unfold cutV
  rw [HT.sIx_none, HT.sIx_nat]
  by_cases h : j ≤ zs.length
  · rw [Nat.min_eq_left h]
    exact List.take_of_length_le (by rw [List.length_drop]; omega)
  · rw [Nat.min_eq_right (by omega), List.drop_eq_nil_of_le (Nat.le_refl _), List.drop_eq_nil_of_le (by omega)]
    simp
/-- what a list of finds answers, as data -/
def dFindAll (n : Nat) (q : Nat → Nat) (cs : List Nat) : PyData := .tuple [.tuple ((intsOf n q).map PyData.int), .list ((cs.map fun n : Nat => (n : Int)).map PyData.int)]
theorem dp_nats {K : PySem.W.Frag} {H : Hp} {a : Addr} {l : List Nat} (h : SqL K H a (natsV l)) : Dp K H (.ref a) (.list ((l.map fun n : Nat => (n : Int)).map PyData.int)) := by
  rw [natsI] at h
  exact .lst h (dpAll_ints _)
theorem dp_forest {K : PySem.W.Frag} {H : Hp} {a : Addr} {n : Nat} {p : Nat → Nat} (h : SqT K H a (tupOf n p)) : Dp K H (.ref a) (.tuple ((intsOf n p).map PyData.int)) := by
  rw [tupOf_ints] at h
  exact .tup h (dpAll_ints _)
theorem dp_findAll {K : PySem.W.Frag} {H : Hp} {t g c : Addr} {n : Nat} {q : Nat → Nat} {cs : List Nat} (h1 : H t = some (.tup [.ref g, .ref c])) (h2 : SqT K H g (tupOf n q)) (h3 : SqL K H c (natsV cs)) : Dp K H (.ref t) (dFindAll n q cs) :=
  .tup (SqT.of h1) (.cons (dp_forest h2) (.cons (dp_nats h3) .nil))
theorem sm_ints {k : Nat} {l : List Int} (h : l.length ≤ 1000) : Sm (k + 1) (.list (l.map PyData.int)) := by
  refine .lst (by rw [List.length_map]; exact h) fun d hd => ?_
  obtain ⟨i, _, e⟩ := List.mem_map.mp hd
  rw [← e]; exact .int _ _
theorem sm_findAll {n k : Nat} (h : n ≤ 1000) (q : Nat → Nat) {cs : List Nat} (hc : cs.length ≤ 1000) : Sm (k + 2) (dFindAll n q cs) := by
  refine .tup (by show 2 ≤ 1000; decide) fun d hd => ?_
  rcases List.mem_cons.mp hd with z | z
  · rw [z]; exact sm_forest h q
  · rw [List.mem_singleton.mp z]; exact sm_ints (by rw [List.length_map]; exact hc)
/-- a list that does not stand in the draws' cell -/
theorem DrawAt.nel2 {H : Hp} {d l a : Addr} {xs : List V} (D : DrawAt H d l) (h : H a = some (.lst xs)) (n : a ≠ d) : True := trivial
/-- find_all: all nodes of a list or tuple found, or the first that is none raised -/
def spFindAllB (K : PySem.W.Frag) (C : Addr) : Sp := fun vs H Q E => ∃ (k : Bool) (a b : Addr) (n : Nat) (p r : Nat → Nat) (xs : List Int) (good : List Nat), vs = [.ref a, .ref b] ∧ SqT K H a (tupOf n p) ∧ Kd k K H b (xs.map V.int) ∧ n ≤ 1000 ∧ xs.length ≤ 1000 ∧ Fo n p r ∧
  NodesEnd xs n good (∀ (t g c : Addr) H', H t = none → H c = none → (g = a ∨ H g = none) → H' t = some (.tup [.ref g, .ref c]) → SqT K H' g (tupOf n (fndAll n good p)) → H' c = some (.lst (natsV (costs n good p))) → Same H H' → Q (.ref t) H')
    (fun z => Flies H E C "node" "NoNode" (.int z))
section
variable {P : Program} {w : World} {K : PySem.W.Frag} {mg : Str → Option Value} {base : Heap}
theorem flies_same {H H1 : Hp} {E : XK} {C : Addr} {fld tag : Str} {v : V} (h : Flies H E C fld tag v) (s : Same H H1) : Flies H1 E C fld tag v := fun d H2 n e s2 => h d H2 (sm_none s n) e (s.trans s2)
end
section
variable {P : Program} {w : World} {K : PySem.W.Frag} {mg : Str → Option Value} {base : Heap}
theorem okB_findAll {f fP C : Addr} {fd fdP : FuncData} (F : Fun K "find_all" "find_all" sFindAll f fd) (k1 : KnX P w K mg base 7 "find" ["forest", "node"] (spOr (spFind K) (spChkX K C)) fP fdP) :
    FnOk P w K mg base (L2N.CX P w) 8 f fd ["forest", "nodes"] (spFindAllB K C) := by
  refine okN F scFindAll (fun vs H Q E h => ?_) (fun cdv A outer s H vs Q E hr h tk => ?_)
  · obtain ⟨k, a, b, n, p, r, xs, good, rfl, _⟩ := h
    rfl
  · obtain ⟨k, a, b, n, p, r, xs, good, rfl, hS, hB, hn, hxl, hF, hE⟩ := h
    refine ⟨_, pss_cons (ps_set (i := 2) scFindAll.nd rfl (.inl rfl) (pe_lst pa_nil))
      (pss_cons (ps_for PassesOwn.leaving rfl (pi_kd k (pv 1)) (pg_name (i := 3) scFindAll.nd rfl (.inl rfl))
        (pss_cons (ps_asg (pe_call k1.G hr (by rfl) k1.g k1.kp k1.b .nil (lookNE tk) (pa_cons (pv 0) (pa_cons (pv 3) pa_nil))) (pg_tup rfl (pgs_cons (pg_name (i := 0) scFindAll.nd rfl (.inl rfl)) (pgs_cons (pg_name (i := 4) scFindAll.nd rfl (.inl rfl)) pgs_nil))))
        (pss_one (ps_expr (pe_bm PySem.F.plainAttrs_list PySem.F.slot_list_append PySem.F.type_list_append mt_append (pv 2) (pa_cons (pv 4) pa_nil))))))
      (pss_one (ps_ret (pe_tup (pa_cons (pv 0) (pa_cons (pv 2) pa_nil)))))), ?_⟩
    refine ⟨Nat.zero_le _, fun c nc => ?_⟩
    have s1 : Same H (upd H c (.lst [])) := same_new nc
    refine for_kd (xs := xs.map V.int) rfl (hB.same s1) (fun i σ H' => i ≤ good.length ∧ (∃ g y z, σ = [some (.ref g), some (.ref b), some (.ref c), y, z] ∧ (g = a ∨ H g = none) ∧ SqT K H' g (tupOf n (fndAll n (good.take i) p))) ∧ H' c = some (.lst (natsV (costs n (good.take i) p))) ∧ Same H H')
      ⟨Nat.zero_le _, ⟨a, none, none, rfl, .inl rfl, same_sqt s1 hS⟩, upd_same, s1⟩ (fun i σ H' _ h => hB.same h.2.2.2) ?_ ?_
    · rintro i v σ H' hv ⟨hi, ⟨g, y, z, rfl, hga, hg⟩, hc, sm⟩
      have hF' : Fo n (fndAll n (good.take i) p) r := fndAll_fo hF _ (fun x hx' => hE.1 x (List.mem_of_mem_take hx')) p hF
      rcases hE.at hv hi with ⟨u, hu, rfl, hun⟩ | ⟨z2, rfl, hz, hb, fl⟩
      · refine ⟨_, rfl, _, rfl, .inl ⟨g, n, _, r, u, rfl, .inr hg, hn, hF', hun, fun t g2 H2 nt ng2 ht hg2 s2 => ?_⟩⟩
        refine ⟨t, _, rfl, SqT.of ht, rfl, _, _, rfl, _, _, rfl, rfl, ?_⟩
        have hc2 := s2 _ _ hc
        have hcn : c ≠ g2 := ne_of_none hc ng2
        have hil : i < good.length := (List.getElem?_eq_some_iff.mp hu).1
        refine ⟨_, rfl, .inl ⟨rfl, _, SqL.of hc2⟩, _, rfl, c, _, _, rfl, rfl, hc2, ?_, hil, ⟨g2, _, _, rfl, .inr (sm.free ng2), ?_⟩, ?_, same_over (sm.trans s2) nc⟩
        · have := (List.getElem?_eq_some_iff.mp hv).1
          rw [List.length_map] at this
          rw [natsV_len, costs_len, List.length_take]
          exact Nat.lt_of_le_of_lt (show _ ≤ 1000 by omega) (by decide)
        · have e : fndAll n (good.take (i + 1)) p = fnd n (fndAll n (good.take i) p) u := by
            rw [List.take_add_one, hu]
            exact fndAll_snoc n _ u p
          rw [e]
          exact SqT.of (by rw [upd_ne hcn.symm]; exact hg2)
        · rw [upd_same]
          have e : costs n (good.take (i + 1)) p = costs n (good.take i) p ++ [(ups (fndAll n (good.take i) p) n u).length] := by
            rw [List.take_add_one, hu]
            exact costs_snoc n _ u p
          rw [e]
          unfold natsV
          rw [List.map_append]
          rfl
      · exact ⟨_, rfl, _, rfl, .inr ⟨g, _, z2, rfl, .inr hg, by rw [tupOf_len]; exact hz, hb, flies_same fl sm⟩⟩
    · rintro σ H' ⟨hi, ⟨g, y, z, rfl, hga, hg⟩, hc, sm⟩
      obtain ⟨ex, q⟩ := hE.done hi
      have el : (xs.map V.int).length = good.length := by rw [ex, List.length_map, List.length_map]
      rw [el, List.take_length] at hg hc
      refine ⟨_, rfl, _, rfl, by show 2 ≤ sizeLine; decide, fun t nt => ?_⟩
      have s4 := same_new (o := .tup [V.ref g, V.ref c]) nt
      exact q t g c _ (sm.free nt) nc hga upd_same (same_sqt s4 hg) (s4 _ _ hc) (sm.trans s4)
end
section
variable {P : Program} {w : World} {K : PySem.W.Frag} {mg : Str → Option Value} {base : Heap}
theorem same_ext {H H1 : Hp} (s : Same H H1) : ExtN H H1 := fun b o e _ => s b o e
end
section
variable {P : Program} {w : World} {K : PySem.W.Frag} {mg : Str → Option Value} {base : Heap}
/-- what is asked raises: the law's reader answers with the tag and the field -/
theorem ask_no {X : Cx} {kk : Nat} {D : Lam X kk} {f C CF CM : Addr} {σ : L2.St} {H : Hp} {Q : VK} {x fld tag : Str} {v : V} {lv : Nat} (R : Raisable P w K mg base lv x C fld tag) (hex : PySem.W.exmAny K (.ref C) [.ref CF, .ref CM] = some true) (tg : TagOk tag fld) (hA : D.At f H)
    (hc : ∀ Ha E, Same H Ha → Flies Ha E C fld tag v → D.tb E σ Ha fun _ _ => False) (q : ∀ t H2, H t = none → Same H H2 → H2 t = some (.tup [.str tag, v]) → Q (.ref t) H2) : TTerr K CF CM (D.does f σ) H Q := by
  intro Ha sa
  refine ⟨fun cls d H1 => cls = .ref C ∧ ∃ dd, d = some dd ∧ H1 dd = some (.xd [(fld, v), ("tag", .str tag)]) ∧ Same Ha H1, fun _ _ => False, ⟨D.same hA (same_ext sa), hc Ha _ sa fun dd H1 n1 h1 s1 => ⟨rfl, dd, rfl, h1, s1⟩⟩, ?_, fun _ _ h => h.elim⟩
  rintro cls d H1 ⟨rfl, dd, rfl, hdd, s1⟩
  exact ⟨hex, tag, fld, v, ⟨C, dd, rfl, R.xf, R.nt, R.nf, rfl, hdd⟩, tg, fun t H2 n s2 e => q t H2 (sm_none (sa.trans s1) n) ((sa.trans s1).trans s2) e⟩
end
section
variable {P : Program} {w : World} {K : PySem.W.Frag} {mg : Str → Option Value} {base : Heap}
theorem wipe_one {σ : L2.St} {i : Nat} {x : Option V} : wipe ((wipe σ [i]).set i x) [i] = wipe σ [i] := by
  show ((σ.set i none).set i x).set i none = σ.set i none
  rw [List.set_set, List.set_set]
end
section
variable {P : Program} {w : World} {K : PySem.W.Frag} {mg : Str → Option Value} {base : Heap}
/-- a list of lambdas, each raising the same -/
theorem asks_no {X : Cx} {kk j lv : Nat} (σ : L2.St) {H : Hp} {C CF CM la D : Addr} (fs : List Addr) {Qd : Hp → Prop} {x fld tag : Str} {v : V} (R : Raisable P w K mg base lv x C fld tag) (hex : PySem.W.exmAny K (.ref C) [.ref CF, .ref CM] = some true) (tg : TagOk tag fld) (hl : H la = some (.lst (fs.map V.ref))) (nD : H D = none) (hj : j < σ.length) (hm : fs.length ≤ 1000)
    (hf : ∀ f ∈ fs, ∃ L : Lam X kk, L.At f H ∧ ∀ Ha E, Same H Ha → Flies Ha E C fld tag v → L.tb E σ Ha fun _ _ => False)
    (q : ∀ (ts : List Addr) H1, ts.length = fs.length → H1 D = some (.lst (ts.map V.ref)) → (∀ t ∈ ts, H1 t = some (.tup [.str tag, v])) → Same H H1 → Qd H1) :
    ∃ W : Nat → Nat → Hp → Prop, (∃ m, W 0 m (upd H D (.lst []))) ∧ ∀ i m H, W i m H →
      ((Itl K la).stop i H ∧ Qd H) ∨ ((Itl K la).go i H ∧ ∃ Nx : Hp → Prop, (∀ H', Nx H' → ∃ m', m' < m ∧ W (i + 1) m' H') ∧ ∀ x H', (Itl K la).yld i H x H' → gName j x (wipe σ [j]) H' fun σ2 H2 => wipe σ2 [j] = wipe σ [j] ∧ tYes σ2 H2 fun b H3 =>
        if b = true then (∃ (f : Addr) (L : Lam X kk), σ2[j]? = some (some (.ref f)) ∧ TTerr K CF CM (L.does f σ) H3 fun y H4 => ∃ acc, H4 D = some (.lst acc) ∧ acc.length < sizeLine ∧ Nx (upd H4 D (.lst (acc ++ [y])))) else Nx H3) := by
  refine lc_list (K := K) (a := la) (xs := fs.map V.ref) (g := gName j) (tt := tYes) (te := fun σ1 H1 Q => ∃ (f : Addr) (D : Lam X kk), σ1[j]? = some (some (.ref f)) ∧ TTerr K CF CM (D.does f σ) H1 Q) (vs := [j]) (σ := σ) (Qd := Qd) (fun i H1 => ∃ ts : List Addr, ts.length = i ∧ H1 D = some (.lst (ts.map V.ref)) ∧ (∀ t ∈ ts, H1 t = some (.tup [.str tag, v])) ∧ Same H H1)
    ⟨[], rfl, upd_same, by simp, same_new nD⟩ (fun i H1 _ h => h.elim fun ts h => SqL.of (h.2.2.2 _ _ hl)) ?_ ?_
  · rintro k y H1 hy ⟨ts, hlen, hD, hts, s1⟩
    rw [List.getElem?_map] at hy
    obtain ⟨f, hff, rfl⟩ := Option.map_eq_some_iff.mp hy
    obtain ⟨L, hA, hc⟩ := hf f (List.mem_of_getElem? hff)
    have hk : k < fs.length := (List.getElem?_eq_some_iff.mp hff).1
    refine ⟨wipe_one, f, L, List.getElem?_set_self (by rw [wipe_length]; exact hj), ?_⟩
    refine ask_no R hex tg (L.same hA (same_ext s1)) (fun Ha E sa fl => hc Ha E (s1.trans sa) fl) fun t H2 nt s2 e => ?_
    have nDt : t ≠ D := (ne_of_none hD nt).symm
    refine ⟨_, s2 _ _ hD, by rw [List.length_map, hlen]; exact Nat.lt_of_le_of_lt (show k ≤ 1000 by omega) (by decide), ts ++ [t], by rw [List.length_append, hlen]; rfl, by rw [upd_same, List.map_append]; rfl, fun t2 h2 => ?_, same_over (s1.trans s2) nD⟩
    rcases List.mem_append.mp h2 with h2 | h2
    · have e2 := hts t2 h2
      rw [upd_ne (ne_of e2 hD (by intro z; cases z))]
      exact s2 _ _ e2
    · rw [List.mem_singleton.mp h2, upd_ne nDt]
      exact e
  · rintro H1 ⟨ts, hlen, hD, hts, s1⟩
    rw [List.length_map] at hlen
    exact q ts H1 hlen hD hts s1
end
section
variable {P : Program} {w : World} {K : PySem.W.Frag} {mg : Str → Option Value} {base : Heap}
/-- such answers as data -/
def dErrs (m : Nat) (tag : Str) (z : Int) : PyData := .list (List.replicate m (.tuple [.str tag, .int z]))
end
section
variable {P : Program} {w : World} {K : PySem.W.Frag} {mg : Str → Option Value} {base : Heap}
theorem dp_errs {H : Hp} {tag : Str} {z : Int} : ∀ {ts : List Addr}, (∀ t ∈ ts, H t = some (.tup [.str tag, .int z])) → DpAll K H (ts.map V.ref) (List.replicate ts.length (.tuple [.str tag, .int z]))
  | [], _ => .nil
  | t :: r, h => .cons (.tup (SqT.of (h t List.mem_cons_self)) (.cons (.str _) (.cons (.int _) .nil))) (dp_errs fun u hu => h u (List.mem_cons_of_mem _ hu))
end
section
variable {P : Program} {w : World} {K : PySem.W.Frag} {mg : Str → Option Value} {base : Heap}
theorem shaped_errs {m : Nat} {tag : Str} (h : PyData.strOk tag = true) (hm : m ≤ 4) (z : Int) : SeqAt.shaped (dErrs m tag z) = true := by
  unfold SeqAt.shaped dErrs
  match m, hm with
  | 0, _ => simp [List.replicate, PyData.canLay0, PyData.canLayAll0, PyData.depth, PyData.depthAll, h]
  | 1, _ => simp [List.replicate, PyData.canLay0, PyData.canLayAll0, PyData.depth, PyData.depthAll, h]
  | 2, _ => simp [List.replicate, PyData.canLay0, PyData.canLayAll0, PyData.depth, PyData.depthAll, h]
  | 3, _ => simp [List.replicate, PyData.canLay0, PyData.canLayAll0, PyData.depth, PyData.depthAll, h]
  | 4, _ => simp [List.replicate, PyData.canLay0, PyData.canLayAll0, PyData.depth, PyData.depthAll, h]
end
abbrev sNotRoot : Stmt := topS 7
abbrev sSameRoot : Stmt := topS 8
abbrev sChkRoot : Stmt := topS 36
abbrev sLink : Stmt := topS 37
abbrev sUnite : Stmt := topS 38
theorem scNotRootI : FnScope ["self", "node"] ["self", "node"] (defScope (initS sNotRoot)) := ⟨rfl, rfl, rfl, by decide +kernel, rfl, by decide +kernel, by decide +kernel⟩
theorem scSameRootI : FnScope ["self", "node"] ["self", "node"] (defScope (initS sSameRoot)) := ⟨rfl, rfl, rfl, by decide +kernel, rfl, by decide +kernel, by decide +kernel⟩
theorem scChkRoot : FnScope ["forest", "node"] ["forest", "node"] (defScope sChkRoot) := ⟨rfl, rfl, rfl, by decide +kernel, rfl, by decide +kernel, by decide +kernel⟩
abbrev linkN : List Str := ["forest", "child", "above", "parents"]
theorem scLink : FnScope linkN ["forest", "child", "above"] (defScope sLink) := ⟨rfl, rfl, rfl, by decide +kernel, rfl, by decide +kernel, by decide +kernel⟩
abbrev uniteN : List Str := ["forest", "one", "other", "found", "costs", "child", "above"]
theorem scUnite : FnScope uniteN ["forest", "one", "other"] (defScope sUnite) := ⟨rfl, rfl, rfl, by decide +kernel, rfl, by decide +kernel, by decide +kernel⟩
/-- what check_root answers -/
def spChkRB (K : PySem.W.Frag) (CN CR : Addr) : Sp := fun vs H Q E => ∃ (a : Addr) (n : Nat) (p : Nat → Nat) (x : Int), vs = [.ref a, .int x] ∧ Sq K H a (tupOf n p) ∧ x.natAbs.log2 < 1920 ∧
  ((chkE n p x = none ∧ ∀ H', Same H H' → Q .non H') ∨ (chkE n p x = some false ∧ Flies H E CN "node" "NoNode" (.int x)) ∨ (chkE n p x = some true ∧ Flies H E CR "node" "NotRoot" (.int x)))
def spLinkB (K : PySem.W.Frag) (CN CR CS : Addr) : Sp := fun vs H Q E => ∃ (a : Addr) (n : Nat) (p : Nat → Nat) (x y : Int), vs = [.ref a, .int x, .int y] ∧ Sq K H a (tupOf n p) ∧ n ≤ 1000 ∧ x.natAbs.log2 < 1920 ∧ y.natAbs.log2 < 1920 ∧
  ((chkE n p x = some false ∧ Flies H E CN "node" "NoNode" (.int x)) ∨ (chkE n p x = some true ∧ Flies H E CR "node" "NotRoot" (.int x)) ∨
   (chkE n p x = none ∧ ((chkE n p y = some false ∧ Flies H E CN "node" "NoNode" (.int y)) ∨ (chkE n p y = some true ∧ Flies H E CR "node" "NotRoot" (.int y)) ∨
     (chkE n p y = none ∧ ((x = y ∧ Flies H E CS "node" "SameRoot" (.int x)) ∨ (x ≠ y ∧ ∀ (q : Addr) H', H q = none → H' q = some (.tup (tupOf n (lnk p x.toNat y.toNat))) → Same H H' → Q (.ref q) H'))))))
def uniF (n : Nat) (p : Nat → Nat) (u v : Nat) : Nat → Nat := if root p n u = root p n v then fndAll n [u, v] p else lnk (fndAll n [u, v] p) (root p n u) (root p n v)
def spUniteB (K : PySem.W.Frag) (C : Addr) : Sp := fun vs H Q E => ∃ (a : Addr) (n : Nat) (p r : Nat → Nat) (x y : Int) (good : List Nat), vs = [.ref a, .int x, .int y] ∧ SqT K H a (tupOf n p) ∧ n ≤ 1000 ∧ Fo n p r ∧
  NodesEnd [x, y] n good (∀ u v, good = [u, v] → ∀ (t g : Addr) H', H t = none → H' t = some (.tup [.ref g, vi (costs n [u, v] p).sum]) → SqT K H' g (tupOf n (uniF n p u v)) → Same H H' → Q (.ref t) H') (fun z => Flies H E C "node" "NoNode" (.int z))
theorem bits_small {u : Nat} (h : u < 2000000000) : (u : Int).natAbs.log2 < 1920 := bits_ok (z := (u : Int)) (by omega) (by omega)
theorem chkE_node {n : Nat} {p : Nat → Nat} {x : Int} : (chkE n p x = some false ∧ (x < 0 ∨ (n : Int) ≤ x)) ∨ ∃ u : Nat, x = (u : Int) ∧ u < n ∧ ((chkE n p x = none ∧ p u = u) ∨ (chkE n p x = some true ∧ p u ≠ u)) := by
  unfold chkE
  by_cases h : 0 ≤ x ∧ x < (n : Int)
  · obtain ⟨u, rfl⟩ : ∃ u : Nat, x = u := ⟨x.toNat, by omega⟩
    right
    refine ⟨u, rfl, by omega, ?_⟩
    rw [if_pos h, Int.toNat_natCast]
    by_cases e : p u = u
    · rw [if_pos e]; exact .inl ⟨rfl, e⟩
    · rw [if_neg e]; exact .inr ⟨rfl, e⟩
  · left
    rw [if_neg h]
    exact ⟨rfl, by omega⟩
section
variable {P : Program} {w : World} {K : PySem.W.Frag} {mg : Str → Option Value} {base : Heap}
theorem ok_notRootI {f fM CM : Addr} {fd fdM : FuncData} (F : Fun K "__init__" "NotRoot.__init__" (initS sNotRoot) f fd) (TM : ClsI K CM fM) (gM : mg "ForestError" = some (.ref CM)) (GM : FnOk P w K mg base CX0 1 fM fdM ["self", "tag", "message"] (spTop K "ValueError.__new__" vaTail)) (bM : Binds K fdM ["self", "tag", "message"] []) :
    FnOk P w K mg base CX0 2 f fd ["self", "node"] (spErrI K "ValueError.__new__" vaTail "node" "NotRoot") := by
  refine F.ok scNotRootI (fun vs H Q E h => ?_) (fun cdv A outer s H vs Q E hr h => ?_)
  · obtain ⟨a, C, v, rfl, _⟩ := h
    rfl
  · obtain ⟨a, C, v, rfl, ⟨i, rfl, hi⟩, ha, T, nt, nf, q⟩ := h
    refine ⟨_, pss_cons (ps_expr (pe_ci TM GM hr (by rfl) gM bM pass0 (pa_cons (pv 0) (pa_cons pe_str (pa_cons (pe_joined (.cons pe_str (.cons (pe_fmt (pv 1)) (.cons pe_str .nil)))) pa_nil)))))
      (pss_one (ps_st (nid := "ValueError.__new__") PySem.F.store_ValueError (pv 0) (pv 1))), ?_⟩
    have f0 : (Str.empty ++ Str.ofString "node ").length ≤ 100 := by decide +kernel
    have f1 : (Str.ofString " is no root").length ≤ 100 := by decide +kernel
    have l1 := fits_cat f0 (txt_int hi)
    refine ⟨_, rfl, ⟨_, rfl, fits (by omega), _, rfl, .inr ⟨i, rfl, hi, _, rfl, fits (Nat.le_trans l1 (by decide)), _, rfl, fits (Nat.le_trans (fits_cat l1 f1) (by decide)), ?_⟩⟩⟩
    refine ⟨a, C, _, _, rfl, ha, T, nt, fun dx n ne => ⟨_, rfl, _, rfl, a, C, rfl, T, nf, .inr ⟨dx, _, upd_same, ?_, by show 1 ≤ 900; decide, q dx n ne⟩⟩⟩
    rw [upd_ne ne, upd_same]
end
section
variable {P : Program} {w : World} {K : PySem.W.Frag} {mg : Str → Option Value} {base : Heap}
theorem ok_sameRootI {f fM CM : Addr} {fd fdM : FuncData} (F : Fun K "__init__" "SameRoot.__init__" (initS sSameRoot) f fd) (TM : ClsI K CM fM) (gM : mg "ForestError" = some (.ref CM)) (GM : FnOk P w K mg base CX0 1 fM fdM ["self", "tag", "message"] (spTop K "ValueError.__new__" vaTail)) (bM : Binds K fdM ["self", "tag", "message"] []) :
    FnOk P w K mg base CX0 2 f fd ["self", "node"] (spErrI K "ValueError.__new__" vaTail "node" "SameRoot") := by
  refine F.ok scSameRootI (fun vs H Q E h => ?_) (fun cdv A outer s H vs Q E hr h => ?_)
  · obtain ⟨a, C, v, rfl, _⟩ := h
    rfl
  · obtain ⟨a, C, v, rfl, ⟨i, rfl, hi⟩, ha, T, nt, nf, q⟩ := h
    refine ⟨_, pss_cons (ps_expr (pe_ci TM GM hr (by rfl) gM bM pass0 (pa_cons (pv 0) (pa_cons pe_str (pa_cons (pe_joined (.cons pe_str (.cons (pe_fmt (pv 1)) (.cons pe_str .nil)))) pa_nil)))))
      (pss_one (ps_st (nid := "ValueError.__new__") PySem.F.store_ValueError (pv 0) (pv 1))), ?_⟩
    have f0 : (Str.empty ++ Str.ofString "root ").length ≤ 100 := by decide +kernel
    have f1 : (Str.ofString " cannot be linked to itself").length ≤ 100 := by decide +kernel
    have l1 := fits_cat f0 (txt_int hi)
    refine ⟨_, rfl, ⟨_, rfl, fits (by omega), _, rfl, .inr ⟨i, rfl, hi, _, rfl, fits (Nat.le_trans l1 (by decide)), _, rfl, fits (Nat.le_trans (fits_cat l1 f1) (by decide)), ?_⟩⟩⟩
    refine ⟨a, C, _, _, rfl, ha, T, nt, fun dx n ne => ⟨_, rfl, _, rfl, a, C, rfl, T, nf, .inr ⟨dx, _, upd_same, ?_, by show 1 ≤ 900; decide, q dx n ne⟩⟩⟩
    rw [upd_ne ne, upd_same]
end
section
variable {P : Program} {w : World} {K : PySem.W.Frag} {mg : Str → Option Value} {base : Heap}
theorem okB_chkRoot {f fC CN CR : Addr} {fd fdC : FuncData} (F : Fun K "check_root" "check_root" sChkRoot f fd) (k1 : KnX P w K mg base 5 "check_node" ["forest", "node"] (spOr (spChk K) (spChkX K CN)) fC fdC) (R : Raisable P w K mg base 2 "NotRoot" CR "node" "NotRoot") :
    FnOk P w K mg base (L2N.CX P w) 6 f fd ["forest", "node"] (spChkRB K CN CR) := by
  refine okN F scChkRoot (fun vs H Q E h => ?_) (fun cdv A outer s H vs Q E hr h tk => ?_)
  · obtain ⟨a, n, p, x, rfl, _⟩ := h
    rfl
  · obtain ⟨a, n, p, x, rfl, hS, hb, h⟩ := h
    refine ⟨_, pss_cons (ps_expr (pe_call k1.G hr (by rfl) k1.g k1.kp k1.b .nil (lookNE tk) (pa_cons (pv 0) (pa_cons (pv 1) pa_nil))))
      (pss_one (ps_if (pt_cmpR op_ne (pe_ix (show IxR _ (rIx K) from ix_seq) (pv 0) (pv 1) (fun _ _ => rfl)) (pv 1) (nomark _)) (pss_one (L2N.ps_raise rfl tk (pmk_err R (hr.mono (by decide)) (by rfl) (pv 1)))) pss_nil)), ?_⟩
    rcases chkE_node (n := n) (p := p) (x := x) with ⟨e, hx⟩ | ⟨u, rfl, hu, hc⟩
    · rw [e] at h
      rcases h with ⟨h, _⟩ | ⟨_, fl⟩ | ⟨h, _⟩
      · cases h
      · exact ⟨_, rfl, _, rfl, .inr ⟨a, _, x, rfl, hS, by rw [tupOf_len]; exact hx, hb, fl⟩⟩
      · cases h
    · refine ⟨_, rfl, _, rfl, .inl ⟨a, _, u, rfl, hS, by rw [tupOf_len]; exact hu, ?_⟩⟩
      refine ⟨_, rfl, _, rfl, hS.ix (atI_nat (tupOf_at hu)) ⟨_, rfl, rfl, _, rfl, ?_⟩⟩
      rcases hc with ⟨e, pu⟩ | ⟨e, pu⟩
      · rw [e] at h
        rcases h with ⟨_, q⟩ | ⟨h, _⟩ | ⟨h, _⟩
        · show if (!decide (vi (p u) = vi u)) = true then _ else _
          rw [pu, decide_eq_true rfl]
          exact iteF (q _ (Same.refl _))
        · cases h
        · cases h
      · rw [e] at h
        rcases h with ⟨h, _⟩ | ⟨h, _⟩ | ⟨_, fl⟩
        · cases h
        · cases h
        · show if (!decide (vi (p u) = vi u)) = true then _ else _
          rw [decide_eq_false (fun z => pu (by injection z with z; omega))]
          exact iteT ⟨_, rfl, _, rfl, ⟨_, rfl, hb⟩, fl⟩
end
section
variable {P : Program} {w : World} {K : PySem.W.Frag} {mg : Str → Option Value} {base : Heap}
theorem okB_link {f fC CN CR CS : Addr} {fd fdC : FuncData} (F : Fun K "link" "link" sLink f fd) (k1 : KnX P w K mg base 6 "check_root" ["forest", "node"] (spChkRB K CN CR) fC fdC) (R : Raisable P w K mg base 2 "SameRoot" CS "node" "SameRoot") (T : Tx mg) :
    FnOk P w K mg base (L2N.CX P w) 7 f fd ["forest", "child", "above"] (spLinkB K CN CR CS) := by
  refine okN F scLink (fun vs H Q E h => ?_) (fun cdv A outer s H vs Q E hr h tk => ?_)
  · obtain ⟨a, n, p, x, y, rfl, _⟩ := h
    rfl
  · obtain ⟨a, n, p, x, y, rfl, hS, hn, hbx, hby, h⟩ := h
    refine ⟨_, pss_cons (ps_expr (pe_call k1.G hr (by rfl) k1.g k1.kp k1.b .nil (lookNE tk) (pa_cons (pv 0) (pa_cons (pv 1) pa_nil))))
      (pss_cons (ps_expr (pe_call k1.G hr (by rfl) k1.g k1.kp k1.b .nil (lookNE tk) (pa_cons (pv 0) (pa_cons (pv 2) pa_nil))))
      (pss_cons (ps_if (pt_cmpR op_eq (pv 1) (pv 2) (nomark _)) (pss_one (L2N.ps_raise rfl tk (pmk_err R (hr.mono (by decide)) (by rfl) (pv 1)))) pss_nil)
      (pss_cons (ps_set (i := 3) scLink.nd rfl (.inl rfl) (pe_callTy call_list_of (by rfl) T.list (by decide +kernel) (pa_cons (pv 0) pa_nil)))
      (pss_cons (ps_asg (pv 2) (pg_sub (pv 3) (pv 1) set_list))
      (pss_one (ps_ret (pe_callTy call_tuple_of (by rfl) T.tuple (by decide +kernel) (pa_cons (pv 3) pa_nil)))))))), ?_⟩
    rcases h with ⟨e, fl⟩ | ⟨e, fl⟩ | ⟨e, h⟩
    · exact ⟨_, rfl, _, rfl, a, n, p, x, rfl, hS, hbx, .inr (.inl ⟨e, fl⟩)⟩
    · exact ⟨_, rfl, _, rfl, a, n, p, x, rfl, hS, hbx, .inr (.inr ⟨e, fl⟩)⟩
    · refine ⟨_, rfl, _, rfl, a, n, p, x, rfl, hS, hbx, .inl ⟨e, fun H1 s1 => ?_⟩⟩
      rcases h with ⟨e2, fl⟩ | ⟨e2, fl⟩ | ⟨e2, h⟩
      · exact ⟨_, rfl, _, rfl, a, n, p, y, rfl, hS.same s1, hby, .inr (.inl ⟨e2, flies_same fl s1⟩)⟩
      · exact ⟨_, rfl, _, rfl, a, n, p, y, rfl, hS.same s1, hby, .inr (.inr ⟨e2, flies_same fl s1⟩)⟩
      · refine ⟨_, rfl, _, rfl, a, n, p, y, rfl, hS.same s1, hby, .inl ⟨e2, fun H2 s2 => ?_⟩⟩
        have s12 := s1.trans s2
        refine ⟨_, rfl, _, rfl, rfl, _, rfl, ?_⟩
        show if decide (V.int x = V.int y) = true then _ else _
        rcases h with ⟨exy, fl⟩ | ⟨exy, q⟩
        · rw [decide_eq_true (by rw [exy])]
          exact iteT ⟨_, rfl, _, rfl, ⟨_, rfl, hbx⟩, flies_same fl s12⟩
        · rw [decide_eq_false (fun z => exy (by injection z))]
          refine iteF ⟨_, rfl, a, _, rfl, hS.same s12, fun l nl => ?_⟩
          have s3 := same_new (o := .lst (tupOf n p)) nl
          obtain ⟨u, rfl, hu, -⟩ := (chkE_node (n := n) (p := p) (x := x)).resolve_left (by rw [e]; simp)
          obtain ⟨v, rfl, hv, -⟩ := (chkE_node (n := n) (p := p) (x := y)).resolve_left (by rw [e2]; simp)
          refine ⟨_, rfl, _, rfl, _, rfl, l, _, _, u, rfl, rfl, upd_same, by rw [tupOf_len]; exact ixN_nat hu, ?_⟩
          refine ⟨_, rfl, l, _, rfl, .inl ⟨SqL.of upd_same, fun g ng => ?_⟩⟩
          refine q g _ (sm_none s12 (sm_none s3 (by
            by_cases hg : g = l
            · rw [hg, upd_same] at ng; cases ng
            · rwa [upd_ne hg] at ng))) ?_ ?_
          · rw [upd_same, tupOf_set]
            rfl
          · exact (same_over (s12.trans s3) (sm_none s12 nl)).trans (same_new ng)
end
section
variable {P : Program} {w : World} {K : PySem.W.Frag} {mg : Str → Option Value} {base : Heap}
theorem okB_unite {f fA fR fL CN CR CS : Addr} {fd fdA fdR fdL : FuncData} (F : Fun K "unite" "unite" sUnite f fd) (k1 : KnX P w K mg base 8 "find_all" ["forest", "nodes"] (spFindAllB K CN) fA fdA) (k2 : Kn P w K mg base 4 "root_of" sRootOf ["forest", "node"] (spRootOf K) fR fdR)
    (k3 : KnX P w K mg base 7 "link" ["forest", "child", "above"] (spLinkB K CN CR CS) fL fdL) (tU : mg "sum" = none) : FnOk P w K mg base (L2N.CX P w) 9 f fd ["forest", "one", "other"] (spUniteB K CN) := by
  refine okN F scUnite (fun vs H Q E h => ?_) (fun cdv A outer s H vs Q E hr h tk => ?_)
  · obtain ⟨a, n, p, r, x, y, good, rfl, _⟩ := h
    rfl
  · obtain ⟨a, n, p, r, x, y, good, rfl, hS, hn, hF, hE⟩ := h
    refine ⟨_, pss_cons (ps_asg (pe_call k1.G hr (by rfl) k1.g k1.kp k1.b .nil (lookNE tk) (pa_cons (pv 0) (pa_cons (pe_lst (pa_cons (pv 1) (pa_cons (pv 2) pa_nil))) pa_nil))) (pg_tup rfl (pgs_cons (pg_name (i := 3) scUnite.nd rfl (.inl rfl)) (pgs_cons (pg_name (i := 4) scUnite.nd rfl (.inl rfl)) pgs_nil))))
      (pss_cons (ps_set (i := 5) scUnite.nd rfl (.inl rfl) (pe_call k2.G (hr.mono (by decide)) (by rfl) k2.g k2.F.kp k2.b .nil pass0 (pa_cons (pv 3) (pa_cons (pv 1) pa_nil))))
      (pss_cons (ps_set (i := 6) scUnite.nd rfl (.inl rfl) (pe_call k2.G (hr.mono (by decide)) (by rfl) k2.g k2.F.kp k2.b .nil pass0 (pa_cons (pv 3) (pa_cons (pv 2) pa_nil))))
      (C8.pss_cut (ps_if (pt_cmpR op_ne (pv 5) (pv 6) (nomark _)) (pss_one (ps_set (i := 3) scUnite.nd rfl (.inl rfl) (pe_call k3.G (hr.mono (by decide)) (by rfl) k3.g k3.kp k3.b .nil (lookNE tk) (pa_cons (pv 3) (pa_cons (pv 5) (pa_cons (pv 6) pa_nil)))))) pss_nil)
      (pss_one (ps_ret (pe_tup (pa_cons (pv 3) (pa_cons (pe_callB (cr_sum rfl) (by rfl) tU (by decide +kernel) (pa_cons (pv 4) pa_nil)) pa_nil))))))))  , ?_⟩
    refine ⟨_, rfl, _, rfl, _, rfl, by show 2 ≤ sizeLine; decide, fun b nb => ?_⟩
    have s1 := same_new (o := .lst [V.int x, V.int y]) nb
    refine ⟨true, a, b, n, p, r, [x, y], good, rfl, same_sqt s1 hS, Kd.l (SqL.of upd_same), hn, by show 2 ≤ 1000; decide, hF, hE.1, ?_⟩
    rcases hE.2 with ⟨ez, q⟩ | ⟨z2, rest, ez, hz, hb, fl⟩
    case inr => exact .inr ⟨z2, rest, ez, hz, hb, flies_same fl s1⟩
    obtain ⟨u, v, rfl, rfl, rfl⟩ : ∃ u v : Nat, good = [u, v] ∧ x = (u : Int) ∧ y = (v : Int) := by
      match good, ez with
      | [u, v], ez =>
        injection ez with e1 ez
        injection ez with e2 _
        exact ⟨u, v, rfl, e1, e2⟩
    have hu : u < n := hE.1 u (by simp)
    have hv : v < n := hE.1 v (by simp)
    refine .inl ⟨ez, fun t g c H2 nt nc hga ht hg hc s2 => ?_⟩
    refine ⟨t, _, rfl, SqT.of ht, rfl, _, _, rfl, _, _, rfl, rfl, ?_⟩
    have hl : ∀ z ∈ [u, v], z < n := hE.1
    have hF2 : Fo n (fndAll n [u, v] p) r := fndAll_fo hF _ hl p hF
    have s12 := s1.trans s2
    refine ⟨_, rfl, _, rfl, g, n, _, r, u, rfl, .inr hg, hn, hF2, hu, fun H3 s3 => ?_⟩
    refine ⟨_, rfl, _, rfl, g, n, _, r, v, rfl, .inr (same_sqt s3 hg), hn, hF2, hv, fun H4 s4 => ?_⟩
    have s34 := s3.trans s4
    have eu := behind_same_root hF hl u hu
    have ev := behind_same_root hF hl v hv
    refine ⟨fun σ H' => ∃ g', σ = [some (.ref a), some (vi u), some (vi v), some (.ref g'), some (.ref c), some (vi (root (fndAll n [u, v] p) n u)), some (vi (root (fndAll n [u, v] p) n v))] ∧ SqT K H' g' (tupOf n (uniF n p u v)) ∧ Same H4 H', ?_, ?_⟩
    · refine ⟨_, rfl, _, rfl, rfl, _, rfl, ?_⟩
      show if (!decide (vi (root (fndAll n [u, v] p) n u) = vi (root (fndAll n [u, v] p) n v))) = true then _ else _
      by_cases e : root p n u = root p n v
      · rw [eu, ev, e, decide_eq_true rfl]
        refine iteF ⟨g, rfl, ?_, Same.refl _⟩
        unfold uniF
        rw [if_pos e]
        exact same_sqt s34 hg
      · rw [decide_eq_false (fun z => e (by rw [eu, ev] at z; injection z with z; omega))]
        have hru := root_lt hF u hu
        have hrv := root_lt hF v hv
        have pu : fndAll n [u, v] p (root p n u) = root p n u := behind_root hF hl _ hru (root_fix hF u hu)
        have pv2 : fndAll n [u, v] p (root p n v) = root p n v := behind_root hF hl _ hrv (root_fix hF v hv)
        have cu : chkE n (fndAll n [u, v] p) ((root p n u : Nat) : Int) = none := by
          unfold chkE; rw [if_pos ⟨by omega, by omega⟩, Int.toNat_natCast, if_pos pu]
        have cv : chkE n (fndAll n [u, v] p) ((root p n v : Nat) : Int) = none := by
          unfold chkE; rw [if_pos ⟨by omega, by omega⟩, Int.toNat_natCast, if_pos pv2]
        refine iteT ⟨_, rfl, _, rfl, _, rfl, g, n, fndAll n [u, v] p, ((root p n u : Nat) : Int), ((root p n v : Nat) : Int), by rw [eu, ev]; rfl, .inr (same_sqt s34 hg), hn, bits_small (by omega), bits_small (by omega), .inr (.inr ⟨cu, .inr (.inr ⟨cv, .inr ⟨by omega, fun g2 H5 ng2 hg2 s5 => ⟨g2, rfl, ?_, s5⟩⟩⟩)⟩)⟩
        unfold uniF
        rw [if_neg e]
        exact SqT.of hg2
    · rintro σ H5 ⟨g', rfl, hg', s5⟩
      have hc5 : SqL K H5 c (((costs n [u, v] p).map fun v : Nat => (v : Int)).map V.int) := by rw [← natsI]; exact SqL.of (s5 _ _ (s34 _ _ hc))
      refine ⟨_, rfl, _, rfl, c, _, rfl, hc5, by show 2 ≤ sizeLine; decide, fun t2 nt2 => ?_⟩
      rw [sum_cast]
      have s6 := same_new (o := .tup [V.ref g', vi (costs n [u, v] p).sum]) nt2
      have s15 := (s12.trans s34).trans s5
      exact q u v rfl t2 g' _ (sm_none s15 nt2) upd_same (same_sqt s6 hg') (s15.trans s6)
end
abbrev linkedN : List Str := ["_law_forest_in", "_law_child_in", "_law_above_in", "_law_node"]
/-- what a link answers, as data -/
def errD (b : Bool) (z : Int) : PyData := .tuple [.none, .str (if b = true then "NotRoot" else "NoNode"), .int z]
def linkD (n : Nat) (p : Nat → Nat) (x y : Int) : PyData := match chkE n p x with
  | some b => errD b x
  | none => match chkE n p y with
    | some b => errD b y
    | none => if x = y then .tuple [.none, .str "SameRoot", .int x] else .tuple [.tuple ((intsOf n (lnk p x.toNat y.toNat)).map PyData.int), .str "", .none]
def spLinked (K : PySem.W.Frag) : Sp := fun vs H Q _ => ∃ (a : Addr) (n : Nat) (p : Nat → Nat) (x y : Int), vs = [.ref a, .int x, .int y] ∧ SqT K H a (tupOf n p) ∧ n ≤ 1000 ∧ ∀ (t : Addr) H', Dp K H' (.ref t) (linkD n p x y) → Same H H' → Q (.ref t) H'
section
variable {P : Program} {w : World} {K : PySem.W.Frag} {mg : Str → Option Value} {base : Heap}
/-- one turn of the law's own check -/
theorem chk_turn {n : Nat} {p : Nat → Nat} {x : Int} {a : Addr} {H : Hp} {A B C D : Prop} (hS : SqT K H a (tupOf n p)) (h : (chkE n p x = some false ∧ A) ∨ (chkE n p x = some true ∧ B) ∨ (chkE n p x = none ∧ C)) : True := trivial
end
abbrev sAbove : Stmt := topS 31
abbrev sRootsOf : Stmt := topS 32
abbrev aboveN : List Str := ["forest", "one", "other", "path"]
theorem scAbove : FnScope aboveN ["forest", "one", "other"] (defScope sAbove) := ⟨rfl, rfl, rfl, by decide +kernel, rfl, by decide +kernel, by decide +kernel⟩
abbrev rootsN : List Str := ["forest", "node", "parent"]
theorem scRootsOf : FnScope rootsN ["forest"] (defScope sRootsOf) := ⟨rfl, rfl, rfl, by decide +kernel, rfl, by decide +kernel, by decide +kernel⟩
abbrev kidsN : List Str := ["forest", "node", "child", "parent"]
abbrev subN : List Str := ["forest", "node", "low"]
theorem in_nats (u : Nat) : ∀ l : List Nat, inV (vi u) (natsV l) = decide (u ∈ l)
  | [] => by simp [inV, natsV]
  | x :: l => by
    have ih := in_nats u l
    unfold inV natsV at ih ⊢
    rw [List.map_cons, List.any_cons, ih]
    by_cases e : x = u
    · subst e
      simp [eqV]
    · have h1 : eqV (vi x) (vi u) = false := by
        simp only [eqV]
        simp
        omega
      rw [h1]
      simp [Ne.symm e]
def rootsL (n : Nat) (p : Nat → Nat) : List Nat := (List.range n).filter fun v => decide (p v = v)
def kidsL (n : Nat) (p : Nat → Nat) (v : Nat) : List Nat := (List.range n).filter fun c => decide (p c = v) && !decide (c = v)
def subL (n : Nat) (p : Nat → Nat) (v : Nat) : List Nat := (List.range n).filter fun x => decide (v ∈ path p n x)
theorem filt_le (n : Nat) (g : Nat → Bool) : ((List.range n).filter g).length ≤ n := Nat.le_trans (List.length_filter_le _ _) (by rw [List.length_range]; exact Nat.le_refl _)
theorem filt_succ (k : Nat) (g : Nat → Bool) : (List.range (k + 1)).filter g = (List.range k).filter g ++ if g k = true then [k] else [] := by
  rw [List.range_succ, List.filter_append]
  cases e : g k <;> simp [List.filter, e]
/-- one turn of a filter over nodes -/
theorem filt_turn {k : Nat} {g : Nat → Bool} {H : Hp} {D : Addr} (hk : k < 1000) (hD : H D = some (.lst (natsV ((List.range k).filter g)))) : (natsV ((List.range k).filter g)).length < sizeLine ∧
    (g k = true → ∀ y, y = vi k → upd H D (.lst (natsV ((List.range k).filter g) ++ [y])) D = some (.lst (natsV ((List.range (k + 1)).filter g)))) ∧ (g k = false → H D = some (.lst (natsV ((List.range (k + 1)).filter g)))) := by
  refine ⟨?_, fun e y hy => ?_, fun e => ?_⟩
  · have := filt_le k g
    rw [natsV_len]
    exact Nat.lt_of_le_of_lt (show _ ≤ 1000 by omega) (by decide)
  · rw [upd_same, hy, filt_succ, if_pos e]
    unfold natsV
    rw [List.map_append]
    rfl
  · rw [filt_succ, e]
    simp only [Bool.false_eq_true, if_false, List.append_nil]
    exact hD
def spRootsOf (K : PySem.W.Frag) : Sp := fun vs H Q _ => ∃ (a : Addr) (n : Nat) (p : Nat → Nat), vs = [.ref a] ∧ SqT K H a (tupOf n p) ∧ n ≤ 900 ∧ ∀ (q : Addr) H', H q = none → H' q = some (.lst (natsV (rootsL n p))) → Same H H' → Q (.ref q) H'
/-- a def of a node: its answer, or the node raised -/
def spNodeB (K : PySem.W.Frag) (C : Addr) (F : Nat → (Nat → Nat) → Nat → List Nat) : Sp := fun vs H Q E => ∃ (a : Addr) (n : Nat) (p r : Nat → Nat) (x : Int), vs = [.ref a, .int x] ∧ SqT K H a (tupOf n p) ∧ n ≤ 900 ∧ Fo n p r ∧
  ((∃ u : Nat, x = (u : Int) ∧ u < n ∧ ∀ (q : Addr) H', H q = none → H' q = some (.lst (natsV (F n p u))) → Same H H' → Q (.ref q) H') ∨ ((x < 0 ∨ (n : Int) ≤ x) ∧ x.natAbs.log2 < 1920 ∧ Flies H E C "node" "NoNode" (.int x)))
def spAboveB (K : PySem.W.Frag) (C : Addr) : Sp := fun vs H Q E => ∃ (a : Addr) (n : Nat) (p r : Nat → Nat) (x y : Int) (good : List Nat), vs = [.ref a, .int x, .int y] ∧ SqT K H a (tupOf n p) ∧ n ≤ 900 ∧ Fo n p r ∧
  NodesEnd [x, y] n good (∀ u v, good = [u, v] → ∀ H', Same H H' → Q (.bl (decide (u ≠ v) && decide (u ∈ path p n v))) H') (fun z => Flies H E C "node" "NoNode" (.int z))
section
variable {P : Program} {w : World} {K : PySem.W.Frag} {mg : Str → Option Value} {base : Heap}
theorem ok_rootsOf {f : Addr} {fd : FuncData} {k : Nat} (F : Fun K "roots_of" "roots_of" sRootsOf f fd) (tE : mg "enumerate" = none) : FnOk P w K mg base CX0 (k + 1) f fd ["forest"] (spRootsOf K) := by
  refine F.ok scRootsOf (fun vs H Q E h => ?_) (fun cdv A outer s H vs Q E hr h => ?_)
  · obtain ⟨a, n, p, rfl, _⟩ := h
    rfl
  · obtain ⟨a, n, p, rfl, hS, hn, q⟩ := h
    refine ⟨_, pss_one (ps_ret (pe_lc (own := [("node", 1), ("parent", 2)]) (g := gTup K 2 (gCons (gName 1) (gCons (gName 2) gNil))) (by rfl) scRootsOf.nd (pi_enumT (by rfl) tE (pa_cons (pv 0) pa_nil)) (blkOk_by (own := [("node", 1), ("parent", 2)]) (N := rootsN) (sc := defScope sRootsOf) (by decide +kernel))
      (fun _ _ _ _ _ => pg_tup rfl (pgs_cons (pg_name (i := 1) scRootsOf.nd rfl (.inl rfl)) (pgs_cons (pg_name (i := 2) scRootsOf.nd rfl (.inl rfl)) pgs_nil))) (fun _ _ _ _ _ => pts_one (pt_cmpR op_eq (pv 1) (pv 2) (nomark _))) (fun _ _ _ _ _ => pv 1))), ?_⟩
    refine ⟨_, rfl, a, _, rfl, hS, fun D nD => ?_⟩
    refine lc_enumT (K := K) (a := a) (xs := tupOf n p) (fun i H' => H' D = some (.lst (natsV (rootsL i p))) ∧ Same H H') ⟨upd_same, same_new nD⟩ (fun i H' _ h => same_sqt h.2 hS) ?_ ?_
    · rintro i x H' T hx ⟨hD, sm⟩ nT
      have hin : i < n := by have := (List.getElem?_eq_some_iff.mp hx).1; rwa [tupOf_len] at this
      rw [tupOf_at hin] at hx
      cases hx
      have s2 := same_new (o := .tup [V.int (i : Int), vi (p i)]) nT
      obtain ⟨f1, f2, f3⟩ := filt_turn (k := i) (g := fun v => decide (p v = v)) (by omega) (s2 _ _ hD)
      refine ⟨T, _, rfl, SqT.of upd_same, rfl, _, _, rfl, _, _, rfl, rfl, rfl, ?_⟩
      refine ⟨_, rfl, _, rfl, rfl, _, rfl, ?_⟩
      show if decide (vi i = vi (p i)) = true then _ else _
      by_cases e : p i = i
      · rw [decide_eq_true (by rw [e])]
        exact iteT ⟨_, rfl, _, s2 _ _ hD, f1, f2 (decide_eq_true e) _ rfl, same_over (sm.trans s2) nD⟩
      · rw [decide_eq_false (fun z => e (by injection z with z; omega))]
        exact iteF ⟨f3 (decide_eq_false e), sm.trans s2⟩
    · rintro H' ⟨hD, sm⟩
      rw [tupOf_len] at hD
      exact q D H' nD hD sm
end
section
variable {P : Program} {w : World} {K : PySem.W.Frag} {mg : Str → Option Value} {base : Heap}
theorem okB_above {f fC fP C : Addr} {fd fdC fdP : FuncData} (F : Fun K "is_above" "is_above" sAbove f fd) (k1 : KnX P w K mg base 5 "check_node" ["forest", "node"] (spOr (spChk K) (spChkX K C)) fC fdC) (k2 : KnX P w K mg base 6 "path_of" ["forest", "node"] (spOr (spPathOf K) (spChkX K C)) fP fdP) : FnOk P w K mg base (L2N.CX P w) 7 f fd ["forest", "one", "other"] (spAboveB K C) := by
  refine okN F scAbove (fun vs H Q E h => ?_) (fun cdv A outer s H vs Q E hr h tk => ?_)
  · obtain ⟨a, n, p, r, x, y, good, rfl, _⟩ := h
    rfl
  · obtain ⟨a, n, p, r, x, y, good, rfl, hS, hn, hF, hE⟩ := h
    refine ⟨_, pss_cons (ps_expr (pe_call k1.G (hr.mono (by decide)) (by rfl) k1.g k1.kp k1.b .nil (lookNE tk) (pa_cons (pv 0) (pa_cons (pv 1) pa_nil))))
      (pss_cons (ps_set (i := 3) scAbove.nd rfl (.inl rfl) (pe_call k2.G hr (by rfl) k2.g k2.kp k2.b .nil (lookNE tk) (pa_cons (pv 0) (pa_cons (pv 2) pa_nil))))
      (pss_one (ps_ret (pe_and (pe_cmpR op_ne (pv 1) (pv 2) (nomark _)) (pe_one (pe_cmpR (show OpR _ (compareOp .In) (rIn K false) from op_in_seq) (pv 1) (pv 3) (by rfl))))))), ?_⟩
    have h0 := hE.at (i := 0) (v := .int x) rfl (Nat.zero_le _)
    rcases h0 with ⟨u, hu0, ex, hu⟩ | ⟨z, ez, hz, hb, fl⟩
    case inr =>
      cases ez
      exact ⟨_, rfl, _, rfl, .inr ⟨a, _, x, rfl, .inr hS, by rw [tupOf_len]; exact hz, hb, fl⟩⟩
    obtain rfl : x = (u : Int) := by injection ex
    refine ⟨_, rfl, _, rfl, .inl ⟨a, _, u, rfl, .inr hS, by rw [tupOf_len]; exact hu, ?_⟩⟩
    have hl : 1 ≤ good.length := (List.getElem?_eq_some_iff.mp hu0).1
    have h1 := hE.at (i := 1) (v := .int y) rfl hl
    rcases h1 with ⟨v, hv0, ey, hv⟩ | ⟨z, ez, hz, hb, fl⟩
    case inr =>
      cases ez
      exact ⟨_, rfl, _, rfl, .inr ⟨a, _, y, rfl, .inr hS, by rw [tupOf_len]; exact hz, hb, fl⟩⟩
    obtain rfl : y = (v : Int) := by injection ey
    have hl2 : 2 ≤ good.length := (List.getElem?_eq_some_iff.mp hv0).1
    obtain ⟨ez, q⟩ := hE.done hl2
    have eg : good = [u, v] := by
      match good, ez, hu0, hv0 with
      | [a0, b0], _, hu0, hv0 =>
        cases hu0
        cases hv0
        rfl
    refine ⟨_, rfl, _, rfl, .inl ⟨a, n, p, r, v, rfl, .inr hS, by omega, hF, hv, fun pt H2 npt hpt s2 => ?_⟩⟩
    refine ⟨_, rfl, _, rfl, rfl, _, rfl, ?_⟩
    have qq := q u v eg H2 s2
    show if (!decide (vi u = vi v)) = true then _ else _
    by_cases e : u = v
    · rw [decide_eq_true (by rw [e])]
      refine iteF ?_
      rw [decide_eq_false (fun z => z e)] at qq
      exact qq
    · rw [decide_eq_false (fun z => e (by injection z with z; omega))]
      refine iteT ⟨_, rfl, _, rfl, pt, _, rfl, .inl (SqL.of hpt), rfl, flat_nats _, ?_⟩
      rw [decide_eq_true e, Bool.true_and, ← in_nats] at qq
      exact qq
end
abbrev sBadPar : Stmt := topS 4
abbrev sCycle : Stmt := topS 5
abbrev sTooMany : Stmt := topS 6
abbrev sLeads : Stmt := topS 23
abbrev sCheck : Stmt := topS 24
abbrev sIsFor : Stmt := topS 25
theorem scBadParI : FnScope ["self", "node"] ["self", "node"] (defScope (initS sBadPar)) := ⟨rfl, rfl, rfl, by decide +kernel, rfl, by decide +kernel, by decide +kernel⟩
theorem scCycleI : FnScope ["self", "node"] ["self", "node"] (defScope (initS sCycle)) := ⟨rfl, rfl, rfl, by decide +kernel, rfl, by decide +kernel, by decide +kernel⟩
theorem scTooManyI : FnScope ["self", "limit"] ["self", "limit"] (defScope (initS sTooMany)) := ⟨rfl, rfl, rfl, by decide +kernel, rfl, by decide +kernel, by decide +kernel⟩
theorem scLeads : FnScope ["parents", "node", "place", "step"] ["parents", "node"] (defScope sLeads) := ⟨rfl, rfl, rfl, by decide +kernel, rfl, by decide +kernel, by decide +kernel⟩
theorem scCheck : FnScope ["parents", "node", "parent"] ["parents"] (defScope sCheck) := ⟨rfl, rfl, rfl, by decide +kernel, rfl, by decide +kernel, by decide +kernel⟩
theorem scIsFor : FnScope ["parents"] ["parents"] (defScope sIsFor) := ⟨rfl, rfl, rfl, by decide +kernel, rfl, by decide +kernel, by decide +kernel⟩
def spLeads (K : PySem.W.Frag) : Sp := fun vs H Q _ => ∃ (a : Addr) (n : Nat) (p : Nat → Nat) (x : Nat), vs = [.ref a, vi x] ∧ SqT K H a (tupOf n p) ∧ n ≤ 1000 ∧ (∀ v, v < n → p v < n) ∧ x < n ∧ Q (.bl (!ringB n p x)) H
def CheckO (CT CB CC : Addr) (xs : List Int) (H : Hp) (E : XK) (Q : VK) : Prop := match verdict xs with
  | .ok => ∀ H', Same H H' → Q .non H'
  | .many => Flies H E CT "limit" "TooManyNodes" (.int 40)
  | .bad v => Flies H E CB "node" "BadParent" (vi v)
  | .cyc v => Flies H E CC "node" "Cycle" (vi v)
def spCheckB (K : PySem.W.Frag) (CT CB CC : Addr) : Sp := fun vs H Q E => ∃ (a : Addr) (xs : List Int), vs = [.ref a] ∧ SqT K H a (xs.map V.int) ∧ xs.length ≤ 1000 ∧ CheckO CT CB CC xs H E Q
def okV (xs : List Int) : Bool := match verdict xs with
  | .ok => true
  | _ => false
def spIsFor (K : PySem.W.Frag) : Sp := fun vs H Q _ => ∃ (a : Addr) (xs : List Int), vs = [.ref a] ∧ SqT K H a (xs.map V.int) ∧ xs.length ≤ 1000 ∧ ∀ H', Same H H' → Q (.bl (okV xs)) H'
theorem row_tup {xs : List Int} (h : ∀ v, v < xs.length → wideB xs v = false) : xs.map V.int = tupOf xs.length (par xs) := by
  refine List.ext_getElem? fun i => ?_
  by_cases hi : i < xs.length
  · rw [List.getElem?_map, List.getElem?_eq_getElem hi, tupOf_at hi]
    have z := (wide_iff.mp (h i hi)).1
    rw [List.getD_eq_getElem?_getD, List.getElem?_eq_getElem hi] at z
    show some (V.int xs[i]) = some (V.int ((xs.getD i 0).toNat : Int))
    rw [List.getD_eq_getElem?_getD, List.getElem?_eq_getElem hi]
    have z : (0 : Int) ≤ xs[i] := z
    show some (V.int xs[i]) = some (V.int ((xs[i]).toNat : Int))
    rw [Int.toNat_of_nonneg z]
  · rw [List.getElem?_eq_none (by rw [List.length_map]; omega), List.getElem?_eq_none (by rw [tupOf_len]; omega)]
section
variable {P : Program} {w : World} {K : PySem.W.Frag} {mg : Str → Option Value} {base : Heap}
theorem ok_badParI {f fM CM : Addr} {fd fdM : FuncData} (F : Fun K "__init__" "BadParent.__init__" (initS sBadPar) f fd) (TM : ClsI K CM fM) (gM : mg "ForestError" = some (.ref CM)) (GM : FnOk P w K mg base CX0 1 fM fdM ["self", "tag", "message"] (spTop K "ValueError.__new__" vaTail)) (bM : Binds K fdM ["self", "tag", "message"] []) :
    FnOk P w K mg base CX0 2 f fd ["self", "node"] (spErrI K "ValueError.__new__" vaTail "node" "BadParent") := by
  refine F.ok scBadParI (fun vs H Q E h => ?_) (fun cdv A outer s H vs Q E hr h => ?_)
  · obtain ⟨a, C, v, rfl, _⟩ := h
    rfl
  · obtain ⟨a, C, v, rfl, ⟨i, rfl, hi⟩, ha, T, nt, nf, q⟩ := h
    refine ⟨_, pss_cons (ps_expr (pe_ci TM GM hr (by rfl) gM bM pass0 (pa_cons (pv 0) (pa_cons pe_str (pa_cons (pe_joined (.cons pe_str (.cons (pe_fmt (pv 1)) (.cons pe_str .nil)))) pa_nil)))))
      (pss_one (ps_st (nid := "ValueError.__new__") PySem.F.store_ValueError (pv 0) (pv 1))), ?_⟩
    have f0 : (Str.empty ++ Str.ofString "the parent of node ").length ≤ 100 := by decide +kernel
    have f1 : (Str.ofString " is no node").length ≤ 100 := by decide +kernel
    have l1 := fits_cat f0 (txt_int hi)
    refine ⟨_, rfl, ⟨_, rfl, fits (by omega), _, rfl, .inr ⟨i, rfl, hi, _, rfl, fits (Nat.le_trans l1 (by decide)), _, rfl, fits (Nat.le_trans (fits_cat l1 f1) (by decide)), ?_⟩⟩⟩
    refine ⟨a, C, _, _, rfl, ha, T, nt, fun dx n ne => ⟨_, rfl, _, rfl, a, C, rfl, T, nf, .inr ⟨dx, _, upd_same, ?_, by show 1 ≤ 900; decide, q dx n ne⟩⟩⟩
    rw [upd_ne ne, upd_same]
end
section
variable {P : Program} {w : World} {K : PySem.W.Frag} {mg : Str → Option Value} {base : Heap}
theorem ok_cycleI {f fM CM : Addr} {fd fdM : FuncData} (F : Fun K "__init__" "Cycle.__init__" (initS sCycle) f fd) (TM : ClsI K CM fM) (gM : mg "ForestError" = some (.ref CM)) (GM : FnOk P w K mg base CX0 1 fM fdM ["self", "tag", "message"] (spTop K "ValueError.__new__" vaTail)) (bM : Binds K fdM ["self", "tag", "message"] []) :
    FnOk P w K mg base CX0 2 f fd ["self", "node"] (spErrI K "ValueError.__new__" vaTail "node" "Cycle") := by
  refine F.ok scCycleI (fun vs H Q E h => ?_) (fun cdv A outer s H vs Q E hr h => ?_)
  · obtain ⟨a, C, v, rfl, _⟩ := h
    rfl
  · obtain ⟨a, C, v, rfl, ⟨i, rfl, hi⟩, ha, T, nt, nf, q⟩ := h
    refine ⟨_, pss_cons (ps_expr (pe_ci TM GM hr (by rfl) gM bM pass0 (pa_cons (pv 0) (pa_cons pe_str (pa_cons (pe_joined (.cons pe_str (.cons (pe_fmt (pv 1)) (.cons pe_str .nil)))) pa_nil)))))
      (pss_one (ps_st (nid := "ValueError.__new__") PySem.F.store_ValueError (pv 0) (pv 1))), ?_⟩
    have f0 : (Str.empty ++ Str.ofString "the parents of node ").length ≤ 100 := by decide +kernel
    have f1 : (Str.ofString " do not lead to a root").length ≤ 100 := by decide +kernel
    have l1 := fits_cat f0 (txt_int hi)
    refine ⟨_, rfl, ⟨_, rfl, fits (by omega), _, rfl, .inr ⟨i, rfl, hi, _, rfl, fits (Nat.le_trans l1 (by decide)), _, rfl, fits (Nat.le_trans (fits_cat l1 f1) (by decide)), ?_⟩⟩⟩
    refine ⟨a, C, _, _, rfl, ha, T, nt, fun dx n ne => ⟨_, rfl, _, rfl, a, C, rfl, T, nf, .inr ⟨dx, _, upd_same, ?_, by show 1 ≤ 900; decide, q dx n ne⟩⟩⟩
    rw [upd_ne ne, upd_same]
end
section
variable {P : Program} {w : World} {K : PySem.W.Frag} {mg : Str → Option Value} {base : Heap}
theorem ok_tooManyI {f fM CM : Addr} {fd fdM : FuncData} (F : Fun K "__init__" "TooManyNodes.__init__" (initS sTooMany) f fd) (TM : ClsI K CM fM) (gM : mg "ForestError" = some (.ref CM)) (GM : FnOk P w K mg base CX0 1 fM fdM ["self", "tag", "message"] (spTop K "ValueError.__new__" vaTail)) (bM : Binds K fdM ["self", "tag", "message"] []) :
    FnOk P w K mg base CX0 2 f fd ["self", "limit"] (spErrI K "ValueError.__new__" vaTail "limit" "TooManyNodes") := by
  refine F.ok scTooManyI (fun vs H Q E h => ?_) (fun cdv A outer s H vs Q E hr h => ?_)
  · obtain ⟨a, C, v, rfl, _⟩ := h
    rfl
  · obtain ⟨a, C, v, rfl, ⟨i, rfl, hi⟩, ha, T, nt, nf, q⟩ := h
    refine ⟨_, pss_cons (ps_expr (pe_ci TM GM hr (by rfl) gM bM pass0 (pa_cons (pv 0) (pa_cons pe_str (pa_cons (pe_joined (.cons pe_str (.cons (pe_fmt (pv 1)) (.cons pe_str .nil)))) pa_nil)))))
      (pss_one (ps_st (nid := "ValueError.__new__") PySem.F.store_ValueError (pv 0) (pv 1))), ?_⟩
    have f0 : (Str.empty ++ Str.ofString "there are more than ").length ≤ 100 := by decide +kernel
    have f1 : (Str.ofString " nodes").length ≤ 100 := by decide +kernel
    have l1 := fits_cat f0 (txt_int hi)
    refine ⟨_, rfl, ⟨_, rfl, fits (by omega), _, rfl, .inr ⟨i, rfl, hi, _, rfl, fits (Nat.le_trans l1 (by decide)), _, rfl, fits (Nat.le_trans (fits_cat l1 f1) (by decide)), ?_⟩⟩⟩
    refine ⟨a, C, _, _, rfl, ha, T, nt, fun dx n ne => ⟨_, rfl, _, rfl, a, C, rfl, T, nf, .inr ⟨dx, _, upd_same, ?_, by show 1 ≤ 900; decide, q dx n ne⟩⟩⟩
    rw [upd_ne ne, upd_same]
end
section
variable {P : Program} {w : World} {K : PySem.W.Frag} {mg : Str → Option Value} {base : Heap}
theorem ok_leads {f : Addr} {fd : FuncData} {k : Nat} (F : Fun K "leads_to_root" "leads_to_root" sLeads f fd) (T : Tx mg) : FnOk P w K mg base CX0 (k + 1) f fd ["parents", "node"] (spLeads K) := by
  refine F.ok scLeads (fun vs H Q E h => ?_) (fun cdv A outer s H vs Q E hr h => ?_)
  · obtain ⟨a, n, p, x, rfl, _⟩ := h
    rfl
  · obtain ⟨a, n, p, x, rfl, hS, hn, hl, hx, q⟩ := h
    refine ⟨_, pss_cons (ps_set (i := 2) scLeads.nd rfl (.inl rfl) (pv 1))
      (pss_cons (ps_for PassesOwn.never rfl (pi_range1 (by rfl) T.range (pa_cons (pe_callB call_len_seq (by rfl) T.len PySem.boot_len (pa_cons (pv 0) pa_nil)) pa_nil)) (pg_name (i := 3) scLeads.nd rfl (.inl rfl))
        (pss_cons (ps_if (pt_cmpR op_eq (pe_ix ix_tup (pv 0) (pv 2) (fun _ _ => rfl)) (pv 2) (nomark _)) (pss_one (ps_ret pe_bl)) pss_nil)
        (pss_one (ps_set (i := 2) scLeads.nd rfl (.inl rfl) (pe_ix ix_tup (pv 0) (pv 2) (fun _ _ => rfl))))))
      (pss_one (ps_ret pe_bl))), ?_⟩
    refine ⟨_, rfl, _, rfl, a, _, rfl, .inr hS, _, rfl, by rw [tupOf_len]; omega, by rw [tupOf_len]; omega, ?_⟩
    rw [tupOf_len]
    have en : ((n : Nat) : Int).toNat = n := by omega
    refine for_range (lo := 0) (n := ((n : Nat) : Int).toNat) (fun i σ H' => (∃ z3, σ = [some (.ref a), some (vi x), some (vi (root p i x)), z3]) ∧ (∀ j, j < i → p (root p j x) ≠ root p j x) ∧ H' = H) ⟨⟨_, rfl⟩, fun j hj => by omega, rfl⟩ ?_ ?_
    · rintro i σ H' hi ⟨⟨z3, rfl⟩, hno, rfl⟩
      have hr0 : root p i x < n := root_lt0 hl i x hx
      refine ⟨_, rfl, _, rfl, a, _, _, _, rfl, rfl, hS, atI_nat (tupOf_at hr0), _, rfl, rfl, _, rfl, ?_⟩
      show if decide (vi (p (root p i x)) = vi (root p i x)) = true then _ else _
      by_cases e : p (root p i x) = root p i x
      · rw [decide_eq_true (by rw [e])]
        refine iteT ?_
        have : ringB n p x = false := by
          unfold ringB
          obtain ⟨j, rfl⟩ : ∃ j, n = i + j := ⟨n - i, by omega⟩
          rw [root_stay e j, decide_eq_true e]; rfl
        rw [this] at q
        exact q
      · rw [decide_eq_false (fun z => e (by injection z with z; omega))]
        refine iteF ⟨_, rfl, _, rfl, a, _, _, _, rfl, rfl, hS, atI_nat (tupOf_at hr0), ⟨some (.int (0 + (i : Int))), ?_⟩, fun j hj => ?_, rfl⟩
        · rw [root_succ]; rfl
        · by_cases ej : j = i
          · rw [ej]; exact e
          · exact hno j (by omega)
    · rintro σ H' ⟨⟨z3, rfl⟩, hno, rfl⟩
      rw [en] at hno
      have : ringB n p x = true := by
        unfold ringB
        rw [decide_eq_false (fun z => by
          obtain ⟨j, hj, e⟩ := fix_before hl hx z
          exact hno j hj e)]
        rfl
      rw [this] at q
      exact q
end
section
variable {P : Program} {w : World} {K : PySem.W.Frag} {mg : Str → Option Value} {base : Heap}
theorem okB_check {f fL CT CB CC : Addr} {fd fdL : FuncData} {tN : Tok} (F : Fun K "check_forest" "check_forest" sCheck f fd) (k1 : Kn P w K mg base 1 "leads_to_root" sLeads ["parents", "node"] (spLeads K) fL fdL) (T : Tx mg) (tE : mg "enumerate" = none) (gN : mg "MAX_NODES" = some (.int 40 tN)) (RT : Raisable P w K mg base 2 "TooManyNodes" CT "limit" "TooManyNodes") (RB : Raisable P w K mg base 2 "BadParent" CB "node" "BadParent") (RC : Raisable P w K mg base 2 "Cycle" CC "node" "Cycle") :
    FnOk P w K mg base (L2N.CX P w) 4 f fd ["parents"] (spCheckB K CT CB CC) := by
  refine okN F scCheck (fun vs H Q E h => ?_) (fun cdv A outer s H vs Q E hr h tk => ?_)
  · obtain ⟨a, xs, rfl, _⟩ := h
    rfl
  · obtain ⟨a, xs, rfl, hS, hn, h⟩ := h
    refine ⟨_, pss_cons (ps_if (pt_cmpR op_gt (pe_callB call_len_seq (by rfl) T.len PySem.boot_len (pa_cons (pv 0) pa_nil)) (pe_glob (v := .int 40) rfl gN ⟨_, rfl⟩) (nomark _)) (pss_one (L2N.ps_raise rfl tk (pmk_err RT hr (by rfl) (pe_glob (v := .int 40) rfl gN ⟨_, rfl⟩)))) pss_nil)
      (pss_cons (ps_for PassesOwn.leaving rfl (pi_enumT (by rfl) tE (pa_cons (pv 0) pa_nil)) (pg_tup rfl (pgs_cons (pg_name (i := 1) scCheck.nd rfl (.inl rfl)) (pgs_cons (pg_name (i := 2) scCheck.nd rfl (.inl rfl)) pgs_nil)))
        (pss_one (ps_if (pt_not (pt_chain op_le op_lt pe_int (pv 2) (pe_callB call_len_seq (by rfl) T.len PySem.boot_len (pa_cons (pv 0) pa_nil)))) (pss_one (L2N.ps_raise rfl tk (pmk_err RB hr (by rfl) (pv 1)))) pss_nil)))
      (pss_one (ps_for PassesOwn.leaving rfl (pi_range1 (by rfl) T.range (pa_cons (pe_callB call_len_seq (by rfl) T.len PySem.boot_len (pa_cons (pv 0) pa_nil)) pa_nil)) (pg_name (i := 1) scCheck.nd rfl (.inl rfl))
        (pss_one (ps_if (pt_not (pt_val (pe_call k1.G (hr.mono (by decide)) (by rfl) k1.g k1.F.kp k1.b .nil pass0 (pa_cons (pv 0) (pa_cons (pv 1) pa_nil))))) (pss_one (L2N.ps_raise rfl tk (pmk_err RC hr (by rfl) (pv 1)))) pss_nil))))), ?_⟩
    refine ⟨_, rfl, a, _, rfl, .inr hS, _, _, rfl, rfl, _, rfl, ?_⟩
    show if decide ((40 : Int) < ((xs.map V.int).length : Int)) = true then _ else _
    rw [List.length_map]
    unfold CheckO verdict at h
    by_cases h40 : 40 < xs.length
    · rw [decide_eq_true (show (40 : Int) < (xs.length : Int) by omega)]
      rw [if_pos h40] at h
      exact iteT ⟨_, rfl, ⟨40, rfl, by decide⟩, h⟩
    · rw [decide_eq_false (show ¬ (40 : Int) < (xs.length : Int) by omega)]
      rw [if_neg h40] at h
      refine iteF ⟨_, rfl, a, _, rfl, hS, ?_⟩
      refine for_enumT (K := K) (a := a) (xs := xs.map V.int) (fun i σ H' => (∃ z1 z2, σ = [some (.ref a), z1, z2]) ∧ (∀ v, v < i → wideB xs v = false) ∧ Same H H') ⟨⟨_, _, rfl⟩, fun v hv => by omega, Same.refl _⟩ (fun i σ H' _ h => same_sqt h.2.2 hS) ?_ ?_
      · rintro i x σ H' T2 hx ⟨⟨z1, z2, rfl⟩, hw, sm⟩ nT
        have hi : i < xs.length := by have := (List.getElem?_eq_some_iff.mp hx).1; rwa [List.length_map] at this
        rw [List.getElem?_map, List.getElem?_eq_getElem hi] at hx
        cases hx
        have gD : xs.getD i 0 = xs[i] := by rw [List.getD_eq_getElem?_getD, List.getElem?_eq_getElem hi]; rfl
        have s2 := same_new (o := .tup [V.int (i : Int), V.int xs[i]]) nT
        have sm2 := sm.trans s2
        refine ⟨T2, _, rfl, SqT.of upd_same, rfl, _, _, rfl, _, _, rfl, rfl, ?_⟩
        refine ⟨_, rfl, _, _, rfl, rfl, _, rfl, ?_⟩
        show if decide ((0 : Int) ≤ xs[i]) = true then _ else _
        have bad : wideB xs i = true → Flies H E CB "node" "BadParent" (vi i) := fun hb => by
          obtain ⟨rest, er⟩ := filt_first hi hw hb
          unfold wideL at h
          rw [er] at h
          exact h
        have good : (0 : Int) ≤ xs[i] → xs[i] < (xs.length : Int) → ∀ v, v < i + 1 → wideB xs v = false := fun a1 a2 v hv => by
          by_cases e : v = i
          · rw [e]; exact wide_iff.mpr (by rw [gD]; exact ⟨a1, a2⟩)
          · exact hw v (by omega)
        have isbad : ¬ ((0 : Int) ≤ xs[i] ∧ xs[i] < (xs.length : Int)) → wideB xs i = true := fun hb => by
          cases e : wideB xs i with
          | true => rfl
          | false => exact absurd (by have z := wide_iff.mp e; rw [gD] at z; exact z) hb
        by_cases h0 : (0 : Int) ≤ xs[i]
        · rw [decide_eq_true h0]
          refine iteT ⟨_, rfl, a, _, rfl, .inr (same_sqt sm2 hS), _, _, rfl, rfl, _, rfl, ?_⟩
          show if (!decide (xs[i] < ((xs.map V.int).length : Int))) = true then _ else _
          rw [List.length_map]
          by_cases h1 : xs[i] < (xs.length : Int)
          · rw [decide_eq_true h1]
            exact iteF ⟨⟨_, _, rfl⟩, good h0 h1, sm2⟩
          · rw [decide_eq_false h1]
            exact iteT ⟨_, rfl, _, rfl, ⟨_, rfl, bits_ok (by omega) (by omega)⟩, flies_same (bad (isbad fun z => h1 z.2)) sm2⟩
        · rw [decide_eq_false h0]
          refine iteF ⟨_, rfl, ?_⟩
          exact iteT ⟨_, rfl, _, rfl, ⟨_, rfl, bits_ok (by omega) (by omega)⟩, flies_same (bad (isbad fun z => h0 z.1)) sm2⟩
      · rintro σ H' ⟨⟨z1, z2, rfl⟩, hw, sm⟩
        rw [List.length_map] at hw
        have hS2 : SqT K H a (tupOf xs.length (par xs)) := by rw [← row_tup hw]; exact hS
        unfold wideL at h
        rw [filt_none hw] at h
        refine ⟨_, rfl, a, _, rfl, .inr (same_sqt sm hS), _, rfl, by rw [List.length_map]; omega, by rw [List.length_map]; omega, ?_⟩
        rw [List.length_map]
        refine for_range (lo := 0) (n := ((xs.length : Nat) : Int).toNat) (fun i σ H' => (∃ z1 z2, σ = [some (.ref a), z1, z2]) ∧ (∀ v, v < i → ringB xs.length (par xs) v = false) ∧ Same H H') ⟨⟨_, _, rfl⟩, fun v hv => by omega, sm⟩ ?_ ?_
        · rintro i σ H2 hi ⟨⟨z1, z2, rfl⟩, hno, sm2⟩
          have hin : i < xs.length := by omega
          refine ⟨_, rfl, _, rfl, a, xs.length, par xs, i, by show [V.ref a, V.int (0 + (i : Int))] = [V.ref a, V.int (i : Int)]; rw [Int.zero_add], same_sqt sm2 hS2, by omega, par_lt hw, hin, _, rfl, ?_⟩
          cases e : ringB xs.length (par xs) i with
          | false =>
            refine iteF ⟨⟨_, _, rfl⟩, fun v hv => ?_, sm2⟩
            by_cases ev : v = i
            · rw [ev]; exact e
            · exact hno v (by omega)
          | true =>
            obtain ⟨rest, er⟩ := filt_first hin hno e
            unfold ringsL at h
            rw [er] at h
            refine iteT ⟨_, rfl, _, rfl, ⟨_, rfl, bits_ok (by omega) (by omega)⟩, ?_⟩
            rw [Int.zero_add]
            exact flies_same h sm2
        · rintro σ H2 ⟨⟨z1, z2, rfl⟩, hno, sm2⟩
          rw [show ((xs.length : Nat) : Int).toNat = xs.length by omega] at hno
          unfold ringsL at h
          rw [filt_none hno] at h
          exact h H2 sm2
end
section
variable {P : Program} {w : World} {K : PySem.W.Frag} {mg : Str → Option Value} {base : Heap}
theorem ok_isFor {f fC CT CB CC : Addr} {fd fdC : FuncData} (F : Fun K "is_forest" "is_forest" sIsFor f fd) (k1 : KnX P w K mg base 4 "check_forest" ["parents"] (spCheckB K CT CB CC) fC fdC) (gT : mg "TooManyNodes" = some (.ref CT)) (gB : mg "BadParent" = some (.ref CB)) (gC : mg "Cycle" = some (.ref CC))
    (mT : PySem.W.exmAny K (.ref CT) [.ref CT, .ref CB, .ref CC] = some true) (mB : PySem.W.exmAny K (.ref CB) [.ref CT, .ref CB, .ref CC] = some true) (mC : PySem.W.exmAny K (.ref CC) [.ref CT, .ref CB, .ref CC] = some true) :
    FnOk P w K mg base CX0 5 f fd ["parents"] (spIsFor K) := by
  refine F.ok scIsFor (fun vs H Q E h => ?_) (fun cdv A outer s H vs Q E hr h => ?_)
  · obtain ⟨a, xs, rfl, _⟩ := h
    rfl
  · obtain ⟨a, xs, rfl, hS, hn, q⟩ := h
    refine ⟨_, pss_cons (ps_tryC (tb := fun W D σ H => (tCons (tVar 0) tNil) σ H fun vs H1 => spCheckB K CT CB CC vs H1 (fun _ H2 => D.nx σ H2) fun cls d H2 => W cls d σ H2) rfl rfl (Wout := fun _ _ _ _ => False) takesN0
        (fun W pn xe tk _ => pss_one (ps_expr (pe_callN k1.G hr (by rfl) k1.g k1.kp k1.b tk (pa_cons (pv 0) pa_nil))))
        (.only (tst_three (by rfl) gT (by rfl) gB (by rfl) gC) (fun a oe cls d pn hz hd => pss_one (ps_ret pe_bl)) .nil))
      (pss_one (ps_ret pe_bl)), ?_⟩
    refine ⟨_, rfl, a, xs, rfl, hS, hn, ?_⟩
    unfold CheckO
    have q2 := q
    unfold okV at q2
    cases e : verdict xs with
    | ok =>
      rw [e] at q2
      exact fun H1 s1 => q2 H1 s1
    | many =>
      rw [e] at q2
      exact fun d H1 n1 h1 s1 => ⟨true, mT, fun _ ea na => q2 H1 s1, fun z => by cases z⟩
    | bad v =>
      rw [e] at q2
      exact fun d H1 n1 h1 s1 => ⟨true, mB, fun _ ea na => q2 H1 s1, fun z => by cases z⟩
    | cyc v =>
      rw [e] at q2
      exact fun d H1 n1 h1 s1 => ⟨true, mC, fun _ ea na => q2 H1 s1, fun z => by cases z⟩
end
abbrev sSizes : Stmt := topS 55
abbrev sizesN : List Str := ["one", "other"]
theorem scSizes : FnScope sizesN ["one", "other"] (defScope sSizes) := ⟨rfl, rfl, rfl, by decide +kernel, rfl, by decide +kernel, by decide +kernel⟩
abbrev sRoots2 : Stmt := topS 56
abbrev roots2N : List Str := ["one", "other", "node"]
theorem scRoots2 : FnScope roots2N ["one", "other"] (defScope sRoots2) := ⟨rfl, rfl, rfl, by decide +kernel, rfl, by decide +kernel, by decide +kernel⟩
abbrev sChg : Stmt := topS 57
abbrev chgN : List Str := ["one", "other", "node"]
theorem scChg : FnScope chgN ["one", "other"] (defScope sChg) := ⟨rfl, rfl, rfl, by decide +kernel, rfl, by decide +kernel, by decide +kernel⟩
abbrev sBarr : Stmt := topS 58
abbrev barrN : List Str := ["one", "other", "changed", "path", "node"]
theorem scBarr : FnScope barrN ["one", "other", "changed"] (defScope sBarr) := ⟨rfl, rfl, rfl, by decide +kernel, rfl, by decide +kernel, by decide +kernel⟩
abbrev sBar : Stmt := topS 59
abbrev barN : List Str := ["one", "other", "changed", "barring"]
theorem scBar : FnScope barN ["one", "other"] (defScope sBar) := ⟨rfl, rfl, rfl, by decide +kernel, rfl, by decide +kernel, by decide +kernel⟩
abbrev holdsN : List Str := ["one", "other", "bar", "changed", "node"]
abbrev sNeed : Stmt := topS 60
abbrev needN : List Str := ["one", "other", "bar", "node"]
theorem scNeed : FnScope needN ["one", "other"] (defScope sNeed) := ⟨rfl, rfl, rfl, by decide +kernel, rfl, by decide +kernel, by decide +kernel⟩
abbrev sIsN : Stmt := topS 61
abbrev isNN : List Str := ["one", "other", "node", "changed", "low"]
theorem scIsN : FnScope isNN ["one", "other", "node"] (defScope sIsN) := ⟨rfl, rfl, rfl, by decide +kernel, rfl, by decide +kernel, by decide +kernel⟩
abbrev cntWN : List Str := ["one", "other", "many"]
abbrev wCostN : List Str := ["one", "other"]
abbrev sFlat : Stmt := topS 62
abbrev flatN : List Str := ["forest", "node"]
theorem scFlat : FnScope flatN ["forest"] (defScope sFlat) := ⟨rfl, rfl, rfl, by decide +kernel, rfl, by decide +kernel, by decide +kernel⟩
abbrev sameTN : List Str := ["one", "other"]
/-- two forests -/
structure Two (K : PySem.W.Frag) (H : Hp) (a b : Addr) (n m : Nat) (p q r r' : Nat → Nat) : Prop where
  sa : SqT K H a (tupOf n p)
  sb : SqT K H b (tupOf m q)
  ln : n ≤ 60
  lm : m ≤ 60
  fa : Fo n p r
  fb : Fo m q r'
theorem Two.same {K : PySem.W.Frag} {H H' : Hp} {a b : Addr} {n m : Nat} {p q r r' : Nat → Nat} (h : Two K H a b n m p q r r') (e : Same H H') : Two K H' a b n m p q r r' := ⟨same_sqt e h.sa, same_sqt e h.sb, h.ln, h.lm, h.fa, h.fb⟩
def unlB (p q : Nat → Nat) (v : Nat) : Bool := decide (p v = v) != decide (q v = v)
def unlL (n : Nat) (p q : Nat → Nat) : List Nat := (List.range n).filter (unlB p q)
/-- sizes and roots that differ, or neither -/
def WayE (CS CR : Addr) (n m : Nat) (p q : Nat → Nat) (H : Hp) (E : XK) (ok : Prop) : Prop :=
  (n ≠ m ∧ Flies H E CS "size" "SizesDiffer" (vi m)) ∨ (n = m ∧ ∃ v rest, unlL n p q = v :: rest ∧ Flies H E CR "node" "RootsDiffer" (vi v)) ∨ (n = m ∧ unlL n p q = [] ∧ ok)
theorem WayE.imp {CS CR : Addr} {n m : Nat} {p q : Nat → Nat} {H : Hp} {E : XK} {ok ok' : Prop} (w : WayE CS CR n m p q H E ok) (h : ok → ok') : WayE CS CR n m p q H E ok' := by
  rcases w with w | w | ⟨w1, w2, w3⟩
  · exact .inl w
  · exact .inr (.inl w)
  · exact .inr (.inr ⟨w1, w2, h w3⟩)
theorem unl_nil {n : Nat} {p q : Nat → Nat} (h : unlL n p q = []) (v : Nat) (hv : v < n) : p v = v ↔ q v = v := by
  have z := List.filter_eq_nil_iff.mp h v (List.mem_range.mpr hv)
  unfold unlB at z
  simpa using z
theorem unl_of {n : Nat} {p q : Nat → Nat} (h : ∀ v, v < n → (p v = v ↔ q v = v)) : unlL n p q = [] := List.filter_eq_nil_iff.mpr fun v hv => by
  unfold unlB
  simp [h v (List.mem_range.mp hv)]
def chgL (n : Nat) (p q : Nat → Nat) : List Nat := (List.range n).filter (chg p q)
def barsOf (n : Nat) (p q : Nat → Nat) (x : Nat) : List Nat := (ups p n x).filter fun v => decide (q v ≠ root p n x)
def barL (n : Nat) (p q : Nat → Nat) : List (Nat × Nat) := (chgL n p q).flatMap fun x => (barsOf n p q x).map fun v => (x, v)
def spSizesB (K : PySem.W.Frag) (CS : Addr) : Sp := fun vs H Q E => ∃ (a b : Addr) (xs ys : List V), vs = [.ref a, .ref b] ∧ SqT K H a xs ∧ SqT K H b ys ∧ ys.length ≤ 1000 ∧ ((xs.length ≠ ys.length ∧ Flies H E CS "size" "SizesDiffer" (vi ys.length)) ∨ (xs.length = ys.length ∧ Q .non H))
def spRoots2B (K : PySem.W.Frag) (CR : Addr) : Sp := fun vs H Q E => ∃ (a b : Addr) (n : Nat) (p q : Nat → Nat), vs = [.ref a, .ref b] ∧ SqT K H a (tupOf n p) ∧ SqT K H b (tupOf n q) ∧ n ≤ 60 ∧ ((∃ v rest, unlL n p q = v :: rest ∧ Flies H E CR "node" "RootsDiffer" (vi v)) ∨ (unlL n p q = [] ∧ Q .non H))
def spTwoB (K : PySem.W.Frag) (CS CR : Addr) (ok : Nat → (Nat → Nat) → (Nat → Nat) → Hp → VK → XK → Prop) : Sp := fun vs H Q E => ∃ (a b : Addr) (n m : Nat) (p q r r' : Nat → Nat), vs = [.ref a, .ref b] ∧ Two K H a b n m p q r r' ∧ WayE CS CR n m p q H E (ok n p q H Q E)
def okChg (n : Nat) (p q : Nat → Nat) (H : Hp) (Q : VK) (E : XK) : Prop := ∀ (l : Addr) H', H l = none → H' l = some (.lst (natsV (chgL n p q))) → Same H H' → Q (.ref l) H'
def okBar (n : Nat) (p q : Nat → Nat) (H : Hp) (Q : VK) (E : XK) : Prop := (barL n p q = [] → ∀ H', Same H H' → Q .non H') ∧ ∀ x v rest, barL n p q = (x, v) :: rest → ∀ (t : Addr) H', H t = none → H' t = some (.tup [vi x, vi v]) → Same H H' → Q (.ref t) H'
def okNeed (CN : Addr) (n : Nat) (p q : Nat → Nat) (H : Hp) (Q : VK) (E : XK) : Prop := (barL n p q = [] → ∀ (l : Addr) H', H l = none → H' l = some (.lst (natsV (needS n p q))) → Same H H' → Q (.ref l) H') ∧ ∀ x v rest, barL n p q = (x, v) :: rest → Flies H E CN "node" "NoWay" (vi x)
def okCntW (CN : Addr) (n : Nat) (p q : Nat → Nat) (H : Hp) (Q : VK) (E : XK) : Prop := (barL n p q = [] → ∀ H', Same H H' → Q (.int (fall ((needS n p q).length : Int) ((needS n p q).length : Int))) H') ∧ ∀ x v rest, barL n p q = (x, v) :: rest → Flies H E CN "node" "NoWay" (vi x)
def okWCost (CN : Addr) (n : Nat) (p q : Nat → Nat) (H : Hp) (Q : VK) (E : XK) : Prop := (barL n p q = [] → ∀ H', Same H H' → Q (vi (costs n (needS n p q) p).sum) H') ∧ ∀ x v rest, barL n p q = (x, v) :: rest → Flies H E CN "node" "NoWay" (vi x)
def spSameTB (K : PySem.W.Frag) (CS : Addr) : Sp := fun vs H Q E => ∃ (a b : Addr) (n m : Nat) (p q r r' : Nat → Nat), vs = [.ref a, .ref b] ∧ Two K H a b n m p q r r' ∧ ((n ≠ m ∧ Flies H E CS "size" "SizesDiffer" (vi m)) ∨ (n = m ∧ ∀ H', Same H H' → Q (.bl (decide (∀ v, v < n → root p n v = root q n v))) H'))
def okSameT (n : Nat) (p q : Nat → Nat) (H : Hp) (Q : VK) (E : XK) : Prop := ∀ H', Same H H' → Q (.bl (decide (∀ v, v < n → root p n v = root q n v))) H'
/-- whether an integer is a needed node -/
def needZ (n : Nat) (p q : Nat → Nat) (x : Int) : Bool := decide (0 ≤ x ∧ x < (n : Int)) && needB n p q x.toNat
def barZ (n : Nat) (p q : Nat → Nat) (x y : Int) : Bool := (barL n p q).any fun b => decide (x = (b.1 : Int)) && decide (y = (b.2 : Int))
def spIsNB (K : PySem.W.Frag) (CS CR : Addr) : Sp := fun vs H Q E => ∃ (a b : Addr) (n m : Nat) (p q r r' : Nat → Nat) (x : Int), vs = [.ref a, .ref b, .int x] ∧ Two K H a b n m p q r r' ∧ WayE CS CR n m p q H E (∀ H', Same H H' → Q (.bl (needZ n p q x)) H')
def spHoldsB (K : PySem.W.Frag) (CS CR : Addr) : Sp := fun vs H Q E => ∃ (a b c : Addr) (n m : Nat) (p q r r' : Nat → Nat) (x y : Int), vs = [.ref a, .ref b, .ref c] ∧ SqT K H c [.int x, .int y] ∧ Two K H a b n m p q r r' ∧ WayE CS CR n m p q H E (∀ H', Same H H' → Q (.bl (barZ n p q x y)) H')
def spBarr (K : PySem.W.Frag) : Sp := fun vs H Q _ => ∃ (a b : Addr) (n : Nat) (p q r : Nat → Nat) (x : Nat), vs = [.ref a, .ref b, vi x] ∧ SqT K H a (tupOf n p) ∧ SqT K H b (tupOf n q) ∧ n ≤ 60 ∧ Fo n p r ∧ x < n ∧ ∀ (l : Addr) H', H l = none → H' l = some (.lst (natsV (barsOf n p q x))) → Same H H' → Q (.ref l) H'
def spFlat (K : PySem.W.Frag) : Sp := fun vs H Q _ => ∃ (a : Addr) (n : Nat) (p r : Nat → Nat), vs = [.ref a] ∧ SqT K H a (tupOf n p) ∧ n ≤ 60 ∧ Fo n p r ∧ ∀ (t : Addr) H', H t = none → H' t = some (.tup (tupOf n fun v => root p n v)) → Same H H' → Q (.ref t) H'
theorem path_cut (p : Nat → Nat) (k x : Nat) : cutV (natsV (path p k x)) none (some (-1)) = natsV (ups p k x) := cut_last _ _
theorem prt_vi {n : Nat} (h : n ≤ 2000000000) : Prt (vi n) := ⟨n, rfl, bits_ok (by omega) (by omega)⟩
theorem flat_first {β : Type} (f : Nat → List β) {b : β} {r : List β} : ∀ (l : List Nat) (i : Nat) (hi : i < l.length), (∀ j, j < i → f (l.getD j 0) = []) → f l[i] = b :: r → ∃ rest, l.flatMap f = b :: rest
  | [], i, hi, _, _ => by simp at hi
  | x :: l, 0, hi, _, h => ⟨r ++ l.flatMap f, by rw [List.flatMap_cons]; show f x ++ _ = _; rw [show f x = b :: r from h]; rfl⟩
  | x :: l, i + 1, hi, h0, h => by
    have hx : f x = [] := h0 0 (by omega)
    obtain ⟨rest, e⟩ := flat_first f l i (by simpa using hi) (fun j hj => h0 (j + 1) (by omega)) h
    exact ⟨rest, by rw [List.flatMap_cons, hx]; exact e⟩
theorem flat_none {β : Type} (f : Nat → List β) : ∀ (l : List Nat), (∀ j, j < l.length → f (l.getD j 0) = []) → l.flatMap f = []
  | [], _ => rfl
  | x :: l, h => by
    have hx : f x = [] := h 0 (by simp)
    rw [List.flatMap_cons, hx]
    exact flat_none f l fun j hj => h (j + 1) (by simpa using hj)
theorem inV_int (x : Int) : ∀ l : List Nat, inV (.int x) (natsV l) = l.any fun u => decide (x = (u : Int))
  | [] => rfl
  | y :: l => by
    have ih := inV_int x l
    unfold inV natsV at ih ⊢
    rw [List.map_cons, List.any_cons, List.any_cons, ih]
    by_cases e : x = (y : Int)
    · subst e; simp [eqV]
    · have h1 : eqV (vi y) (.int x) = false := by
        simp only [eqV]
        simp
        omega
      rw [h1, decide_eq_false e]
theorem barL_way {n : Nat} {p q : Nat → Nat} {r : Nat → Nat} (F : Fo n p r) : barL n p q = [] ↔ Way n p q := by
  unfold barL Way
  rw [List.flatMap_eq_nil_iff]
  constructor
  · intro h v hv hc u hu
    have h1 := h v (List.mem_filter.mpr ⟨List.mem_range.mpr hv, hc⟩)
    have h2 : barsOf n p q v = [] := List.map_eq_nil_iff.mp h1
    have h3 := List.filter_eq_nil_iff.mp h2 u hu
    rw [(ups_lt F v hv u hu).2.2.1]
    simpa using h3
  · intro h v hv
    obtain ⟨hv1, hv2⟩ := List.mem_filter.mp hv
    have hv1 := List.mem_range.mp hv1
    refine List.map_eq_nil_iff.mpr (List.filter_eq_nil_iff.mpr fun u hu => ?_)
    have h3 := h v hv1 hv2 u hu
    rw [(ups_lt F v hv1 u hu).2.2.1] at h3
    simpa using h3
theorem chgL_lt {n : Nat} {p q : Nat → Nat} {v : Nat} (h : v ∈ chgL n p q) : v < n := List.mem_range.mp (List.mem_filter.mp h).1
theorem chgL_len (n : Nat) (p q : Nat → Nat) : (chgL n p q).length ≤ n := filt_le n _
theorem nats_get {l : List Nat} {i : Nat} {y : V} (h : (natsV l)[i]? = some y) : ∃ hi : i < l.length, y = vi l[i] := by
  have hil : i < l.length := by have := (List.getElem?_eq_some_iff.mp h).1; rwa [natsV_len] at this
  unfold natsV at h
  rw [List.getElem?_map, List.getElem?_eq_getElem hil] at h
  exact ⟨hil, (Option.some.inj h).symm⟩
theorem any_mem {f g : Nat → Bool} : ∀ {l : List Nat}, (∀ x ∈ l, f x = g x) → l.any f = l.any g
  | [], _ => rfl
  | x :: l, h => by rw [List.any_cons, List.any_cons, h x List.mem_cons_self, any_mem fun y hy => h y (List.mem_cons_of_mem _ hy)]
/-- is_needed, by what is above -/
theorem need_any {n : Nat} {p q r : Nat → Nat} (F : Fo n p r) (hr : ∀ v, v < n → (p v = v ↔ q v = v)) {v : Nat} (hv : v < n) (hc : chg p q v = true) : (!((chgL n p q).map fun u => decide (v ≠ u) && decide (v ∈ path p n u)).any id) = needB n p q v := by
  have nr : p v ≠ v := fun z => by
    have := chg_iff.mp hc
    rw [z, (hr v hv).mp z] at this
    exact this rfl
  unfold needB
  rw [hc, Bool.true_and, List.any_map]
  unfold chgL
  rw [List.any_filter]
  congr 1
  refine any_mem fun u hu => ?_
  have hu := List.mem_range.mp hu
  show (chg p q u && (decide (v ≠ u) && decide (v ∈ path p n u))) = _
  have e : decide (v ∈ path p n u) = (ups p n u).contains v := by
    rw [Bool.eq_iff_iff, decide_eq_true_iff, List.contains_iff_mem]
    unfold path
    rw [List.mem_append, List.mem_singleton]
    constructor
    · rintro (h | h)
      · exact h
      · exact absurd (by rw [h]; exact root_fix F u hu) nr
    · exact .inl
  rw [e]
section
variable {P : Program} {w : World} {K : PySem.W.Frag} {mg : Str → Option Value} {base : Heap}
theorem okB_sizes {f CS : Addr} {fd : FuncData} (F : Fun K "check_sizes" "check_sizes" sSizes f fd) (T : Tx mg) (RS : Raisable P w K mg base 2 "SizesDiffer" CS "size" "SizesDiffer") : FnOk P w K mg base (L2N.CX P w) 4 f fd ["one", "other"] (spSizesB K CS) := by
  refine okN F scSizes (fun vs H Q E h => ?_) (fun cdv A outer s H vs Q E hr h tk => ?_)
  · obtain ⟨a, b, xs, ys, rfl, _⟩ := h
    rfl
  · obtain ⟨a, b, xs, ys, rfl, ha, hb, hl, h⟩ := h
    have hrm : ∀ {j : Nat}, j ≤ 3 → Room j (A.deeper (envOfC "check_sizes" (defScope sSizes) s.heap.objs.size f cdv)) := fun h => hr.mono h
    refine ⟨_, (pss_one (ps_if (pt_cmpR op_ne (pe_callB call_len_seq (by rfl) T.len PySem.boot_len (pa_cons (pv 0) pa_nil)) (pe_callB call_len_seq (by rfl) T.len PySem.boot_len (pa_cons (pv 1) pa_nil)) (nomark _))
        (pss_one (L2N.ps_raise rfl tk (pmk_err RS (hrm (by decide)) (by rfl) (pe_callB call_len_seq (by rfl) T.len PySem.boot_len (pa_cons (pv 1) pa_nil))))) pss_nil)), ?_⟩
    refine ⟨_, rfl, a, _, rfl, .inr ha, _, rfl, b, _, rfl, .inr hb, rfl, _, rfl, ?_⟩
    show if (!decide (V.int (xs.length : Int) = V.int (ys.length : Int))) = true then _ else _
    rcases h with ⟨ne, fl⟩ | ⟨e, q⟩
    · rw [decide_eq_false (fun z => ne (by injection z with z; omega))]
      exact iteT ⟨_, rfl, b, _, rfl, .inr hb, _, rfl, prt_vi (by omega), fl⟩
    · rw [decide_eq_true (by rw [e])]
      exact iteF q
end
section
variable {P : Program} {w : World} {K : PySem.W.Frag} {mg : Str → Option Value} {base : Heap}
theorem okB_roots2 {f CR : Addr} {fd : FuncData} (F : Fun K "check_roots" "check_roots" sRoots2 f fd) (T : Tx mg) (RR : Raisable P w K mg base 2 "RootsDiffer" CR "node" "RootsDiffer") : FnOk P w K mg base (L2N.CX P w) 4 f fd ["one", "other"] (spRoots2B K CR) := by
  refine okN F scRoots2 (fun vs H Q E h => ?_) (fun cdv A outer s H vs Q E hr h tk => ?_)
  · obtain ⟨a, b, n, p, q, rfl, _⟩ := h
    rfl
  · obtain ⟨a, b, n, p, q, rfl, ha, hb, hl, h⟩ := h
    have hrm : ∀ {j : Nat}, j ≤ 3 → Room j (A.deeper (envOfC "check_roots" (defScope sRoots2) s.heap.objs.size f cdv)) := fun h => hr.mono h
    refine ⟨_, (pss_one (ps_for PassesOwn.leaving rfl (pi_range1 (by rfl) T.range (pa_cons (pe_callB call_len_seq (by rfl) T.len PySem.boot_len (pa_cons (pv 0) pa_nil)) pa_nil)) (pg_name (i := 2) scRoots2.nd rfl (.inl rfl))
        (pss_one (ps_if (pt_cmpR op_ne (pe_cmpR op_eq (pe_ix (show IxR _ (rIx K) from ix_seq) (pv 0) (pv 2) (fun _ _ => rfl)) (pv 2) (nomark _)) (pe_cmpR op_eq (pe_ix (show IxR _ (rIx K) from ix_seq) (pv 1) (pv 2) (fun _ _ => rfl)) (pv 2) (nomark _)) (nomark _))
          (pss_one (L2N.ps_raise rfl tk (pmk_err RR (hrm (by decide)) (by rfl) (pv 2)))) pss_nil)))), ?_⟩
    refine ⟨_, rfl, a, _, rfl, .inr ha, _, rfl, by rw [tupOf_len]; omega, by rw [tupOf_len]; omega, ?_⟩
    rw [tupOf_len]
    refine for_range (lo := 0) (n := ((n : Nat) : Int).toNat) (fun i σ H' => (∃ y, σ = [some (.ref a), some (.ref b), y]) ∧ H' = H ∧ ∀ v, v < i → unlB p q v = false) ⟨⟨_, rfl⟩, rfl, fun v hv => by omega⟩ ?_ ?_
    · rintro i σ H' hi ⟨⟨y, rfl⟩, rfl, hu⟩
      have hin : i < n := by omega
      have ea : atI (tupOf n p) (0 + (i : Int)) = some (vi (p i)) := by rw [Int.zero_add]; exact atI_nat (tupOf_at hin)
      have eb : atI (tupOf n q) (0 + (i : Int)) = some (vi (q i)) := by rw [Int.zero_add]; exact atI_nat (tupOf_at hin)
      refine ⟨_, rfl, _, rfl, Sq.ix (.inr ha) ea ⟨_, rfl, rfl, _, rfl, _, rfl, Sq.ix (.inr hb) eb ⟨_, rfl, rfl, rfl, _, rfl, ?_⟩⟩⟩
      have e1 : decide (vi (p i) = V.int (0 + (i : Int))) = decide (p i = i) := by
        refine decide_eq_decide.mpr ⟨fun z => by injection z with z; omega, fun z => by rw [z, Int.zero_add]⟩
      have e2 : decide (vi (q i) = V.int (0 + (i : Int))) = decide (q i = i) := by
        refine decide_eq_decide.mpr ⟨fun z => by injection z with z; omega, fun z => by rw [z, Int.zero_add]⟩
      show if (!decide (V.bl (decide (vi (p i) = V.int (0 + (i : Int)))) = V.bl (decide (vi (q i) = V.int (0 + (i : Int)))))) = true then _ else _
      rw [e1, e2]
      have e3 : (!decide (V.bl (decide (p i = i)) = V.bl (decide (q i = i)))) = unlB p q i := by
        unfold unlB
        cases decide (p i = i) <;> cases decide (q i = i) <;> rfl
      rw [e3]
      cases eu : unlB p q i with
      | false =>
        refine iteF ⟨⟨_, rfl⟩, rfl, fun v hv => ?_⟩
        by_cases e : v = i
        · rw [e]; exact eu
        · exact hu v (by omega)
      | true =>
        obtain ⟨rest, hf⟩ := filt_first hin hu eu
        refine iteT ⟨_, rfl, _, rfl, ?_, ?_⟩
        · rw [Int.zero_add]; exact prt_vi (by omega)
        · rw [Int.zero_add]
          rcases h with ⟨v, rest', e, fl⟩ | ⟨e, q⟩
          · unfold unlL at e
            rw [hf] at e
            injection e with e _
            rw [e]; exact fl
          · unfold unlL at e
            rw [hf] at e; cases e
    · rintro σ H' ⟨⟨y, rfl⟩, rfl, hu⟩
      have e0 : unlL n p q = [] := filt_none fun v hv => hu v (by omega)
      rcases h with ⟨v, rest', e, fl⟩ | ⟨e, q⟩
      · rw [e0] at e; cases e
      · exact q
end
section
variable {P : Program} {w : World} {K : PySem.W.Frag} {mg : Str → Option Value} {base : Heap}
theorem okB_chg {f fS fR CS CR : Addr} {fd fdS fdR : FuncData} (F : Fun K "changed_nodes" "changed_nodes" sChg f fd) (kS : KnX P w K mg base 4 "check_sizes" ["one", "other"] (spSizesB K CS) fS fdS) (kR : KnX P w K mg base 4 "check_roots" ["one", "other"] (spRoots2B K CR) fR fdR) (T : Tx mg) : FnOk P w K mg base (L2N.CX P w) 5 f fd ["one", "other"] (spTwoB K CS CR okChg) := by
  refine okN F scChg (fun vs H Q E h => ?_) (fun cdv A outer s H vs Q E hr h tk => ?_)
  · obtain ⟨a, b, n, m, p, q, r, r', rfl, _⟩ := h
    rfl
  · obtain ⟨a, b, n, m, p, q, r, r', rfl, h2, h⟩ := h
    have hrm : ∀ {j : Nat}, j ≤ 4 → Room j (A.deeper (envOfC "changed_nodes" (defScope sChg) s.heap.objs.size f cdv)) := fun h => hr.mono h
    refine ⟨_, (pss_cons (ps_expr (pe_call kS.G (hrm (by decide)) (by rfl) kS.g kS.kp kS.b .nil (lookNE tk) (pa_cons (pv 0) (pa_cons (pv 1) pa_nil))))
      (pss_cons (ps_expr (pe_call kR.G (hrm (by decide)) (by rfl) kR.g kR.kp kR.b .nil (lookNE tk) (pa_cons (pv 0) (pa_cons (pv 1) pa_nil))))
      (pss_one (ps_ret (pe_lc (own := [("node", 2)]) (g := gName 2) (by rfl) scChg.nd (pi_range1 (by rfl) T.range (pa_cons (pe_callB call_len_seq (by rfl) T.len PySem.boot_len (pa_cons (pv 0) pa_nil)) pa_nil)) (blkOk_by (own := [("node", 2)]) (N := chgN) (sc := defScope sChg) (by decide +kernel)) (fun _ _ _ _ _ => (pg_name (i := 2) scChg.nd rfl (.inl rfl))) (fun _ _ _ _ _ => (pts_one (pt_cmpR op_ne (pe_ix (show IxR _ (rIx K) from ix_seq) (pv 0) (pv 2) (fun _ _ => rfl)) (pe_ix (show IxR _ (rIx K) from ix_seq) (pv 1) (pv 2) (fun _ _ => rfl)) (nomark _)))) (fun _ _ _ _ _ => (pv 2))))))), ?_⟩
    have lm := h2.lm
    have ln := h2.ln
    rcases h with ⟨ne, fl⟩ | h0
    · exact ⟨_, rfl, _, rfl, a, b, _, _, rfl, h2.sa, h2.sb, by rw [tupOf_len]; omega, .inl ⟨by rw [tupOf_len, tupOf_len]; exact ne, by rw [tupOf_len]; exact fl⟩⟩
    obtain ⟨e, h⟩ : n = m ∧ ((∃ v rest, unlL n p q = v :: rest ∧ Flies H E CR "node" "RootsDiffer" (vi v)) ∨ (unlL n p q = [] ∧ okChg n p q H Q E)) := by
      rcases h0 with ⟨e, h⟩ | ⟨e, h⟩
      · exact ⟨e, .inl h⟩
      · exact ⟨e, .inr h⟩
    clear h0
    subst e
    refine ⟨_, rfl, _, rfl, a, b, _, _, rfl, h2.sa, h2.sb, by rw [tupOf_len]; omega, .inr ⟨by rw [tupOf_len, tupOf_len], ?_⟩⟩
    refine ⟨_, rfl, _, rfl, a, b, n, p, q, rfl, h2.sa, h2.sb, ln, ?_⟩
    rcases h with h | ⟨hu, ok⟩
    · exact .inl h
    refine .inr ⟨hu, ?_⟩
    refine ⟨_, rfl, a, _, rfl, .inr h2.sa, _, rfl, by rw [tupOf_len]; omega, by rw [tupOf_len]; omega, fun D nD => ?_⟩
    rw [tupOf_len]
    refine lc_range (lo := 0) (n := ((n : Nat) : Int).toNat) (fun i H' => H' D = some (.lst (natsV ((List.range i).filter (chg p q)))) ∧ Same H H') ⟨upd_same, same_new nD⟩ ?_ ?_
    · rintro i H' hi ⟨hD, sm⟩
      have hin : i < n := by omega
      obtain ⟨f1, f2, f3⟩ := filt_turn (k := i) (g := chg p q) (by omega) hD
      have ea : atI (tupOf n p) (0 + (i : Int)) = some (vi (p i)) := by rw [Int.zero_add]; exact atI_nat (tupOf_at hin)
      have eb : atI (tupOf n q) (0 + (i : Int)) = some (vi (q i)) := by rw [Int.zero_add]; exact atI_nat (tupOf_at hin)
      refine ⟨rfl, _, rfl, _, rfl, Sq.ix (.inr (same_sqt sm h2.sa)) ea ⟨_, rfl, _, rfl, Sq.ix (.inr (same_sqt sm h2.sb)) eb ⟨rfl, _, rfl, ?_⟩⟩⟩
      show if (!decide (vi (p i) = vi (q i))) = true then _ else _
      by_cases e : p i = q i
      · rw [decide_eq_true (by rw [e])]
        exact iteF ⟨f3 (by unfold chg; simp [e]), sm⟩
      · rw [decide_eq_false (fun z => e (by injection z with z; omega))]
        exact iteT ⟨_, rfl, _, hD, f1, f2 (by unfold chg; simp [e]) _ (by rw [Int.zero_add]), same_over sm nD⟩
    · rintro H' ⟨hD, sm⟩
      rw [show ((n : Nat) : Int).toNat = n by omega] at hD
      exact ok D H' nD hD sm
end
section
variable {P : Program} {w : World} {K : PySem.W.Frag} {mg : Str → Option Value} {base : Heap}
theorem ok_barr {f fP : Addr} {fd fdP : FuncData} (F : Fun K "barring_nodes" "barring_nodes" sBarr f fd) (kP : Kn P w K mg base 3 "path_of" sPathOf ["forest", "node"] (spPathOf K) fP fdP) : FnOk P w K mg base CX0 4 f fd ["one", "other", "changed"] (spBarr K) := by
  refine F.ok scBarr (fun vs H Q E h => ?_) (fun cdv A outer s H vs Q E hr h => ?_)
  · obtain ⟨a, b, n, p, q, r, x, rfl, _⟩ := h
    rfl
  · obtain ⟨a, b, n, p, q, r, x, rfl, ha, hb, hn, hF, hx, ok⟩ := h
    have hrm : ∀ {j : Nat}, j ≤ 3 → Room j (A.deeper (envOfC "barring_nodes" (defScope sBarr) s.heap.objs.size f cdv)) := fun h => hr.mono h
    refine ⟨_, (pss_cons (ps_set (i := 3) scBarr.nd rfl (.inr rfl) (pe_call kP.G (hrm (by decide)) (by rfl) kP.g kP.F.kp kP.b .nil pass0 (pa_cons (pv 0) (pa_cons (pv 2) pa_nil))))
      (pss_one (ps_ret (pe_lc (own := [("node", 4)]) (g := gName 4) (by rfl) scBarr.nd (pi_list (pe_slice sl_list (pv 3) po_none (po_some (pe_un un_neg pe_int)))) (blkOk_by (own := [("node", 4)]) (N := barrN) (sc := defScope sBarr) (by decide +kernel)) (fun _ _ _ _ _ => (pg_name (i := 4) scBarr.nd rfl (.inl rfl))) (fun _ _ _ _ _ => (pts_one (pt_cmpR op_ne (pe_ix (show IxR _ (rIx K) from ix_seq) (pv 1) (pv 4) (fun _ _ => rfl)) (pe_ix (show IxR _ (rIx K) from ix_seq) (pv 3) (pe_un un_neg pe_int) (fun _ _ => rfl)) (nomark _)))) (fun _ _ _ _ _ => (pv 4)))))), ?_⟩
    refine ⟨_, rfl, _, rfl, a, n, p, r, x, rfl, .inr ha, by omega, hF, hx, fun pt H1 npt hpt s1 => ?_⟩
    refine ⟨_, rfl, 1, rfl, _, rfl, pt, _, rfl, SqL.of hpt, fun sl nsl => ?_⟩
    have s2 := same_new (o := .lst (cutV (natsV (path p n x)) none (some (-1)))) nsl
    rw [path_cut] at s2
    refine ⟨sl, rfl, ⟨_, SqL.of upd_same⟩, fun D nD => ?_⟩
    have hsl : (upd H1 sl (.lst (cutV (natsV (path p n x)) none (some (-1))))) sl = some (.lst (natsV (ups p n x))) := by rw [path_cut]; exact upd_same
    rw [path_cut] at hsl nD ⊢
    generalize hH2 : upd H1 sl (.lst (natsV (ups p n x))) = H2 at s2 nD hsl ⊢
    have s12 := s1.trans s2
    refine lc_list (K := K) (a := sl) (xs := natsV (ups p n x)) (fun i H' => H' D = some (.lst (natsV (((ups p n x).take i).filter fun v => decide (q v ≠ root p n x)))) ∧ Same H2 H') ⟨upd_same, same_new nD⟩ (fun i H' _ h => SqL.of (h.2 _ _ hsl)) ?_ ?_
    · rintro i y H' hy ⟨hD, sm⟩
      have hil : i < (ups p n x).length := by have := (List.getElem?_eq_some_iff.mp hy).1; rwa [natsV_len] at this
      have hyv : y = vi ((ups p n x)[i]) := by
        unfold natsV at hy
        rw [List.getElem?_map, List.getElem?_eq_getElem hil] at hy
        exact (Option.some.inj hy).symm
      subst hyv
      have hv : (ups p n x)[i] < n := (ups_lt hF x hx _ (List.getElem_mem hil)).1
      generalize hvv : (ups p n x)[i] = v at hv
      have tk1 : (ups p n x).take (i + 1) = (ups p n x).take i ++ [v] := by rw [← hvv, List.take_succ, List.getElem?_eq_getElem hil]; rfl
      refine ⟨rfl, _, rfl, _, rfl, Sq.ix (.inr (same_sqt (s12.trans sm) hb)) (atI_nat (tupOf_at hv)) ⟨_, rfl, 1, rfl, Sq.ix (.inl (SqL.of (sm _ _ (s2 _ _ hpt)))) (natsV_last p n x) ⟨rfl, _, rfl, ?_⟩⟩⟩
      show if (!decide (vi (q v) = vi (root p n x))) = true then _ else _
      rw [tk1, List.filter_append]
      by_cases e : q v = root p n x
      · rw [decide_eq_true (by rw [e])]
        refine iteF ⟨?_, sm⟩
        simpa [List.filter, e] using hD
      · rw [decide_eq_false (fun z => e (by injection z with z; omega))]
        refine iteT ⟨_, rfl, _, hD, ?_, ?_, same_over sm nD⟩
        · rw [natsV_len]
          have h1 := List.length_filter_le (fun v => decide (q v ≠ root p n x)) ((ups p n x).take i)
          have h2 := ups_len0 p n x
          rw [List.length_take] at h1
          exact Nat.lt_of_le_of_lt (show _ ≤ 1000 by omega) (by decide)
        · rw [upd_same]
          simp [List.filter, e, natsV]
    · rintro H' ⟨hD, sm⟩
      rw [natsV_len, List.take_length] at hD
      exact ok D H' (sm_none s12 nD) hD (s12.trans sm)
end
section
variable {P : Program} {w : World} {K : PySem.W.Frag} {mg : Str → Option Value} {base : Heap}
theorem okB_bar {f fC fB CS CR : Addr} {fd fdC fdB : FuncData} (F : Fun K "find_bar" "find_bar" sBar f fd) (kC : KnX P w K mg base 5 "changed_nodes" ["one", "other"] (spTwoB K CS CR okChg) fC fdC) (kB : Kn P w K mg base 4 "barring_nodes" sBarr ["one", "other", "changed"] (spBarr K) fB fdB) : FnOk P w K mg base (L2N.CX P w) 6 f fd ["one", "other"] (spTwoB K CS CR okBar) := by
  refine okN F scBar (fun vs H Q E h => ?_) (fun cdv A outer s H vs Q E hr h tk => ?_)
  · obtain ⟨a, b, n, m, p, q, r, r', rfl, _⟩ := h
    rfl
  · obtain ⟨a, b, n, m, p, q, r, r', rfl, h2, h⟩ := h
    have hrm : ∀ {j : Nat}, j ≤ 5 → Room j (A.deeper (envOfC "find_bar" (defScope sBar) s.heap.objs.size f cdv)) := fun h => hr.mono h
    refine ⟨_, (pss_cons (ps_for PassesOwn.leaving rfl (pi_list (pe_call kC.G (hrm (by decide)) (by rfl) kC.g kC.kp kC.b .nil (lookNE tk) (pa_cons (pv 0) (pa_cons (pv 1) pa_nil)))) (pg_name (i := 2) scBar.nd rfl (.inl rfl))
        (pss_cons (ps_set (i := 3) scBar.nd rfl (.inl rfl) (pe_call kB.G (hrm (by decide)) (by rfl) kB.g kB.F.kp kB.b .nil pass0 (pa_cons (pv 0) (pa_cons (pv 1) (pa_cons (pv 2) pa_nil)))))
        (pss_one (ps_if (pt_truth (pv 3) (by intro _; rfl))
          (pss_one (ps_ret (pe_tup (pa_cons (pv 2) (pa_cons (pe_ix (show IxR _ (rIx K) from ix_seq) (pv 3) pe_int (fun _ _ => rfl)) pa_nil))))) pss_nil))))
      (pss_one (ps_ret pe_non))), ?_⟩
    have ln := h2.ln
    refine ⟨_, rfl, _, rfl, a, b, n, m, p, q, r, r', rfl, h2, ?_⟩
    rcases h with h | h | ⟨e, hu, ok⟩
    · exact .inl h
    · exact .inr (.inl h)
    subst e
    refine .inr (.inr ⟨rfl, hu, fun l H1 nl hl s1 => ?_⟩)
    refine ⟨l, rfl, ⟨_, SqL.of hl⟩, ?_⟩
    refine for_list (K := K) (a := l) (xs := natsV (chgL n p q)) (fun i σ H' => (∃ y z, σ = [some (.ref a), some (.ref b), y, z]) ∧ Same H1 H' ∧ ∀ j, j < i → barsOf n p q ((chgL n p q).getD j 0) = []) ⟨⟨_, _, rfl⟩, Same.refl _, fun j hj => by omega⟩ (fun i σ H' _ h => SqL.of (h.2.1 _ _ hl)) ?_ ?_
    · rintro i y σ H' hy ⟨⟨y2, y3, rfl⟩, sm, h0⟩
      obtain ⟨hi, rfl⟩ := nats_get hy
      have hx := chgL_lt (List.getElem_mem hi)
      have s01 := s1.trans sm
      refine ⟨_, rfl, _, rfl, _, rfl, a, b, n, p, q, r, (chgL n p q)[i], rfl, same_sqt s01 h2.sa, same_sqt s01 h2.sb, ln, h2.fa, hx, fun c H2 nc hc s3 => ?_⟩
      refine ⟨_, rfl, _, .inl ⟨_, SqL.of hc, rfl⟩, ?_⟩
      cases hb : barsOf n p q (chgL n p q)[i] with
      | nil =>
        refine iteF ⟨⟨_, _, rfl⟩, sm.trans s3, fun j hj => ?_⟩
        by_cases e : j = i
        · rw [e, List.getD_eq_getElem?_getD, List.getElem?_eq_getElem hi]; exact hb
        · exact h0 j (by omega)
      | cons v rest =>
        rw [hb] at hc
        obtain ⟨rest', hbl⟩ := flat_first (fun x => (barsOf n p q x).map fun v => (x, v)) (b := ((chgL n p q)[i], v)) (r := rest.map fun v => ((chgL n p q)[i], v)) (chgL n p q) i hi (fun j hj => by rw [h0 j hj]; rfl) (by rw [hb]; rfl)
        refine iteT ⟨_, rfl, _, rfl, Sq.ix (.inl (SqL.of hc)) (show atI (natsV (v :: rest)) ((0 : Nat) : Int) = some (vi v) from atI_nat rfl) ⟨by show 2 ≤ sizeLine; decide, fun t nt => ?_⟩⟩
        exact ok.2 _ v rest' hbl t _ (sm_none (s01.trans s3) nt) upd_same ((s01.trans s3).trans (same_new nt))
    · rintro σ H' ⟨_, sm, h0⟩
      rw [natsV_len] at h0
      exact ok.1 (flat_none _ _ fun j hj => by rw [h0 j hj]; rfl) H' (s1.trans sm)
end
section
variable {P : Program} {w : World} {K : PySem.W.Frag} {mg : Str → Option Value} {base : Heap}
theorem okB_isN {f fC fA CS CR CX : Addr} {fd fdC fdA : FuncData} (F : Fun K "is_needed" "is_needed" sIsN f fd) (kC : KnX P w K mg base 5 "changed_nodes" ["one", "other"] (spTwoB K CS CR okChg) fC fdC) (kA : KnX P w K mg base 7 "is_above" ["forest", "one", "other"] (spAboveB K CX) fA fdA) (z_any : mg "any" = none) : FnOk P w K mg base (L2N.CX P w) 8 f fd ["one", "other", "node"] (spIsNB K CS CR) := by
  refine okN F scIsN (fun vs H Q E h => ?_) (fun cdv A outer s H vs Q E hr h tk => ?_)
  · obtain ⟨a, b, n, m, p, q, r, r', x, rfl, _⟩ := h
    rfl
  · obtain ⟨a, b, n, m, p, q, r, r', x, rfl, h2, h⟩ := h
    have hrm : ∀ {j : Nat}, j ≤ 7 → Room j (A.deeper (envOfC "is_needed" (defScope sIsN) s.heap.objs.size f cdv)) := fun h => hr.mono h
    refine ⟨_, (pss_cons (ps_set (i := 3) scIsN.nd rfl (.inl rfl) (pe_call kC.G (hrm (by decide)) (by rfl) kC.g kC.kp kC.b .nil (lookNE tk) (pa_cons (pv 0) (pa_cons (pv 1) pa_nil))))
      (pss_cons (ps_if (pt_cmpR (show OpR _ (compareOp .NotIn) (rIn K true) from op_notIn_seq) (pv 2) (pv 3) (by rfl))
        (pss_one (ps_ret pe_bl)) pss_nil)
      (pss_one (ps_ret (pe_not (pe_callB (cr_any rfl) (by rfl) z_any (by decide +kernel) (pa_cons (pe_lc (own := [("low", 4)]) (g := gName 4) (by rfl) scIsN.nd (pi_list (pv 3)) (blkOk_by (own := [("low", 4)]) (N := isNN) (sc := defScope sIsN) (by decide +kernel)) (fun _ _ _ _ _ => (pg_name (i := 4) scIsN.nd rfl (.inl rfl))) (fun _ _ _ _ _ => pts_nil) (fun _ _ _ _ _ => (pe_call (fn_noE kA.G) (hrm (by decide)) (by rfl) kA.g kA.kp kA.b .nil pass0 (pa_cons (pv 0) (pa_cons (pv 2) (pa_cons (pv 4) pa_nil)))))) pa_nil))))))), ?_⟩
    have ln := h2.ln
    refine ⟨_, rfl, _, rfl, a, b, n, m, p, q, r, r', rfl, h2, ?_⟩
    rcases h with h | h | ⟨e, hu, ok⟩
    · exact .inl h
    · exact .inr (.inl h)
    subst e
    refine .inr (.inr ⟨rfl, hu, fun l H1 nl hl s1 => ?_⟩)
    have ro := unl_nil hu
    refine ⟨_, rfl, _, rfl, l, _, rfl, .inl (SqL.of hl), rfl, flat_nats _, _, rfl, ?_⟩
    show if (!inV (.int x) (natsV (chgL n p q))) = true then _ else _
    rw [inV_int]
    cases e : (chgL n p q).any fun u => decide (x = (u : Int)) with
    | false =>
      have hf : needZ n p q x = false := by
        unfold needZ
        by_cases hx : 0 ≤ x ∧ x < (n : Int)
        · have := List.any_eq_false.mp e x.toNat
          have hc : chg p q x.toNat = false := by
            cases hc : chg p q x.toNat with
            | false => rfl
            | true =>
              have z := this (List.mem_filter.mpr ⟨List.mem_range.mpr (by omega), hc⟩)
              simp at z
              omega
          unfold needB
          rw [hc]; simp
        · rw [decide_eq_false hx]; rfl
      rw [hf] at ok
      exact iteT (ok H1 s1)
    | true =>
      obtain ⟨u, hu', e2⟩ := List.any_eq_true.mp e
      have ex : x = (u : Int) := of_decide_eq_true e2
      subst ex
      have hun := chgL_lt hu'
      have huc := (List.mem_filter.mp hu').2
      refine iteF ⟨_, rfl, l, rfl, ⟨_, SqL.of hl⟩, fun D nD => ?_⟩
      refine lc_list (K := K) (a := l) (xs := natsV (chgL n p q)) (fun i H' => H' D = some (.lst ((((chgL n p q).take i).map fun v => decide (u ≠ v) && decide (u ∈ path p n v)).map V.bl)) ∧ Same H1 H') ⟨upd_same, same_new nD⟩ (fun i H' _ h => SqL.of (h.2 _ _ hl)) ?_ ?_
      · rintro i y H' hy ⟨hD, sm⟩
        obtain ⟨hi, rfl⟩ := nats_get hy
        have hx := chgL_lt (List.getElem_mem hi)
        have tk1 : (chgL n p q).take (i + 1) = (chgL n p q).take i ++ [(chgL n p q)[i]] := by rw [List.take_succ, List.getElem?_eq_getElem hi]; rfl
        have hl2 := chgL_len n p q
        generalize (chgL n p q)[i] = v at hx tk1
        refine ⟨rfl, ?_⟩
        refine ⟨_, rfl, _, rfl, _, rfl, a, n, p, r, _, _, [u, v], rfl, same_sqt (s1.trans sm) h2.sa, by omega, h2.fa, by simp [hun, hx], .inl ⟨rfl, fun u0 v0 e0 H3 s3 => ?_⟩⟩
        obtain ⟨rfl, rfl⟩ : u = u0 ∧ v = v0 := by
          injection e0 with e1 e2
          injection e2 with e2 _
          exact ⟨e1, e2⟩
        refine ⟨_, s3 _ _ hD, ?_, ?_, same_over (sm.trans s3) nD⟩
        · rw [List.length_map, List.length_map, List.length_take]
          exact Nat.lt_of_le_of_lt (show _ ≤ 1000 by omega) (by decide)
        · rw [upd_same, tk1, List.map_append, List.map_append]; rfl
      · rintro H' ⟨hD, sm⟩
        rw [natsV_len, List.take_length] at hD
        refine ⟨D, _, rfl, SqL.of hD, _, rfl, ?_⟩
        have hz : needZ n p q u = needB n p q u := by
          unfold needZ
          rw [decide_eq_true (by omega)]; rfl
        rw [need_any h2.fa ro hun huc, ← hz]
        exact ok H' (s1.trans sm)
end
section
variable {P : Program} {w : World} {K : PySem.W.Frag} {mg : Str → Option Value} {base : Heap}
theorem okB_need {f fF fI CS CR CN : Addr} {fd fdF fdI : FuncData} (F : Fun K "needed_finds" "needed_finds" sNeed f fd) (kF : KnX P w K mg base 6 "find_bar" ["one", "other"] (spTwoB K CS CR okBar) fF fdF) (kI : KnX P w K mg base 8 "is_needed" ["one", "other", "node"] (spIsNB K CS CR) fI fdI) (T : Tx mg) (RN : Raisable P w K mg base 2 "NoWay" CN "node" "NoWay") : FnOk P w K mg base (L2N.CX P w) 9 f fd ["one", "other"] (spTwoB K CS CR (okNeed CN)) := by
  refine okN F scNeed (fun vs H Q E h => ?_) (fun cdv A outer s H vs Q E hr h tk => ?_)
  · obtain ⟨a, b, n, m, p, q, r, r', rfl, _⟩ := h
    rfl
  · obtain ⟨a, b, n, m, p, q, r, r', rfl, h2, h⟩ := h
    have hrm : ∀ {j : Nat}, j ≤ 8 → Room j (A.deeper (envOfC "needed_finds" (defScope sNeed) s.heap.objs.size f cdv)) := fun h => hr.mono h
    refine ⟨_, (pss_cons (ps_set (i := 2) scNeed.nd rfl (.inl rfl) (pe_call kF.G (hrm (by decide)) (by rfl) kF.g kF.kp kF.b .nil (lookNE tk) (pa_cons (pv 0) (pa_cons (pv 1) pa_nil))))
      (pss_cons (ps_if (pt_cmpR op_notN (pv 2) pe_non (nomark _))
        (pss_one (L2N.ps_raise rfl tk (pmk_err RN (hrm (by decide)) (by rfl) (pe_ix (show IxR _ (rIx K) from ix_seq) (pv 2) pe_int (fun _ _ => rfl))))) pss_nil)
      (pss_one (ps_ret (pe_lc (own := [("node", 3)]) (g := gName 3) (by rfl) scNeed.nd (pi_range1 (by rfl) T.range (pa_cons (pe_callB call_len_seq (by rfl) T.len PySem.boot_len (pa_cons (pv 0) pa_nil)) pa_nil)) (blkOk_by (own := [("node", 3)]) (N := needN) (sc := defScope sNeed) (by decide +kernel)) (fun _ _ _ _ _ => (pg_name (i := 3) scNeed.nd rfl (.inl rfl))) (fun _ _ _ _ _ => (pts_one (pt_val (pe_call (fn_noE kI.G) (hrm (by decide)) (by rfl) kI.g kI.kp kI.b .nil pass0 (pa_cons (pv 0) (pa_cons (pv 1) (pa_cons (pv 3) pa_nil))))))) (fun _ _ _ _ _ => (pv 3))))))), ?_⟩
    have ln := h2.ln
    refine ⟨_, rfl, _, rfl, a, b, n, m, p, q, r, r', rfl, h2, ?_⟩
    rcases h with h | h | ⟨e, hu, ok⟩
    · exact .inl h
    · exact .inr (.inl h)
    subst e
    refine .inr (.inr ⟨rfl, hu, ?_, ?_⟩)
    · intro hb H1 s1
      refine ⟨_, rfl, rfl, _, rfl, ?_⟩
      refine iteF ⟨_, rfl, a, _, rfl, .inr (same_sqt s1 h2.sa), _, rfl, by rw [tupOf_len]; omega, by rw [tupOf_len]; omega, fun D nD => ?_⟩
      rw [tupOf_len]
      refine lc_range (lo := 0) (n := ((n : Nat) : Int).toNat) (fun i H' => H' D = some (.lst (natsV ((List.range i).filter (needB n p q)))) ∧ Same H1 H') ⟨upd_same, same_new nD⟩ ?_ ?_
      · rintro i H' hi ⟨hD, sm⟩
        have hin : i < n := by omega
        refine ⟨rfl, ?_⟩
        refine ⟨_, rfl, _, rfl, _, rfl, a, b, n, n, p, q, r, r', _, rfl, h2.same (s1.trans sm), .inr (.inr ⟨rfl, hu, fun H3 s3 => ?_⟩)⟩
        obtain ⟨f1, f2, f3⟩ := filt_turn (k := i) (g := needB n p q) (by omega) (s3 _ _ hD)
        refine ⟨_, rfl, ?_⟩
        have hz : needZ n p q (0 + (i : Int)) = needB n p q i := by
          unfold needZ
          rw [decide_eq_true (by omega), Int.zero_add]; rfl
        rw [hz]
        cases e : needB n p q i with
        | false => exact iteF ⟨f3 e, sm.trans s3⟩
        | true => exact iteT ⟨_, rfl, _, s3 _ _ hD, f1, f2 e _ (by rw [Int.zero_add]), same_over (sm.trans s3) nD⟩
      · rintro H' ⟨hD, sm⟩
        rw [show ((n : Nat) : Int).toNat = n by omega] at hD
        exact ok.1 hb D H' (sm_none s1 nD) hD (s1.trans sm)
    · intro x v rest hb t H1 nt ht s1
      refine ⟨_, rfl, rfl, _, rfl, ?_⟩
      have hx : x < n := by
        have hm : (x, v) ∈ barL n p q := by rw [hb]; exact List.mem_cons_self
        obtain ⟨u', hu'', hv'⟩ := List.mem_flatMap.mp hm
        obtain ⟨v', hv1, e2⟩ := List.mem_map.mp hv'
        injection e2 with e2 e3
        rw [← e2]; exact chgL_lt hu''
      exact iteT ⟨_, rfl, Sq.ix (.inr (SqT.of ht)) rfl ⟨_, rfl, prt_vi (by omega), (ok.2 x v rest hb).same s1⟩⟩
end
section
variable {P : Program} {w : World} {K : PySem.W.Frag} {mg : Str → Option Value} {base : Heap}
theorem ok_flat {f fO : Addr} {fd fdO : FuncData} (F : Fun K "flattened" "flattened" sFlat f fd) (kO : Kn P w K mg base 4 "root_of" sRootOf ["forest", "node"] (spRootOf K) fO fdO) (T : Tx mg) : FnOk P w K mg base CX0 5 f fd ["forest"] (spFlat K) := by
  refine F.ok scFlat (fun vs H Q E h => ?_) (fun cdv A outer s H vs Q E hr h => ?_)
  · obtain ⟨a, n, p, r, rfl, _⟩ := h
    rfl
  · obtain ⟨a, n, p, r, rfl, ha, hn, hF, ok⟩ := h
    have hrm : ∀ {j : Nat}, j ≤ 4 → Room j (A.deeper (envOfC "flattened" (defScope sFlat) s.heap.objs.size f cdv)) := fun h => hr.mono h
    refine ⟨_, (pss_one (ps_ret (pe_callTy call_tuple_of (by rfl) T.tuple (by decide +kernel) (pa_cons (pe_lc (own := [("node", 1)]) (g := gName 1) (by rfl) scFlat.nd (pi_range1 (by rfl) T.range (pa_cons (pe_callB call_len_seq (by rfl) T.len PySem.boot_len (pa_cons (pv 0) pa_nil)) pa_nil)) (blkOk_by (own := [("node", 1)]) (N := flatN) (sc := defScope sFlat) (by decide +kernel)) (fun _ _ _ _ _ => (pg_name (i := 1) scFlat.nd rfl (.inl rfl))) (fun _ _ _ _ _ => pts_nil) (fun _ _ _ _ _ => (pe_call kO.G (hrm (by decide)) (by rfl) kO.g kO.F.kp kO.b .nil pass0 (pa_cons (pv 0) (pa_cons (pv 1) pa_nil))))) pa_nil)))), ?_⟩
    refine ⟨_, rfl, a, _, rfl, .inr ha, _, rfl, by rw [tupOf_len]; omega, by rw [tupOf_len]; omega, fun D nD => ?_⟩
    rw [tupOf_len]
    refine lc_range (lo := 0) (n := ((n : Nat) : Int).toNat) (fun i H' => H' D = some (.lst (tupOf i fun v => root p n v)) ∧ Same H H') ⟨upd_same, same_new nD⟩ ?_ ?_
    · rintro i H' hi ⟨hD, sm⟩
      have hin : i < n := by omega
      refine ⟨rfl, ?_⟩
      refine ⟨_, rfl, _, rfl, a, n, p, r, i, ?_, .inr (same_sqt sm ha), by omega, hF, hin, fun H3 s3 => ?_⟩
      · show [V.ref a, V.int (0 + (i : Int))] = [V.ref a, V.int (i : Int)]
        rw [Int.zero_add]
      refine ⟨_, s3 _ _ hD, by rw [tupOf_len]; exact Nat.lt_of_le_of_lt (show i ≤ 1000 by omega) (by decide), ?_, same_over (sm.trans s3) nD⟩
      rw [upd_same]
      unfold tupOf
      rw [List.range_succ, List.map_append]; rfl
    · rintro H' ⟨hD, sm⟩
      rw [show ((n : Nat) : Int).toNat = n by omega] at hD
      exact ⟨D, _, rfl, .inl ⟨SqL.of hD, fun t nt => ok t _ (sm_none sm nt) upd_same (sm.trans (same_new nt))⟩⟩
end
theorem Pair.two {K : PySem.W.Frag} {H : Hp} {a b : Addr} {n : Nat} {p q r r' : Nat → Nat} (h : Pair K H a b n p q r r') : Two K H a b n n p q r r' := ⟨h.sa, h.sb, h.le, h.le, h.fa, h.fb⟩
theorem need_plain {K : PySem.W.Frag} {CS CR CN : Addr} (vs : List V) (H : Hp) (Q : VK) (E : XK) (h : spNeeded K vs H Q E) : spTwoB K CS CR (okNeed CN) vs H Q (fun _ _ _ => False) := by
  obtain ⟨a, b, n, p, q, r, r', rfl, h2, W, ok⟩ := h
  exact ⟨a, b, n, n, p, q, r, r', rfl, h2.two, .inr (.inr ⟨rfl, unl_of h2.ro, fun _ => ok, fun x v rest hb => by rw [(barL_way h2.fa).mpr W] at hb; cases hb⟩)⟩
theorem wcost_plain {K : PySem.W.Frag} {CS CR CN : Addr} (vs : List V) (H : Hp) (Q : VK) (E : XK) (h : spWayCost K vs H Q E) : spTwoB K CS CR (okWCost CN) vs H Q (fun _ _ _ => False) := by
  obtain ⟨a, b, n, p, q, r, r', rfl, h2, W, ok⟩ := h
  exact ⟨a, b, n, n, p, q, r, r', rfl, h2.two, .inr (.inr ⟨rfl, unl_of h2.ro, fun _ => ok, fun x v rest hb => by rw [(barL_way h2.fa).mpr W] at hb; cases hb⟩)⟩
theorem bar_plain {K : PySem.W.Frag} {CS CR : Addr} (vs : List V) (H : Hp) (Q : VK) (E : XK) (h : spBar K vs H Q E) : spTwoB K CS CR okBar vs H Q (fun _ _ _ => False) := by
  obtain ⟨a, b, n, p, q, r, r', rfl, h2, ok1, ok2⟩ := h
  refine ⟨a, b, n, n, p, q, r, r', rfl, h2.two, .inr (.inr ⟨rfl, unl_of h2.ro, fun hb => ok1 ((barL_way h2.fa).mp hb), fun x v rest hb t H' nt ht s => ok2 (fun W => ?_) t x v H' ht s⟩)⟩
  rw [(barL_way h2.fa).mpr W] at hb; cases hb
section
variable {P : Program} {w : World} {K : PySem.W.Frag} {mg : Str → Option Value} {base : Heap}
theorem out_no {X : Cx} {kk : Nat} {D : Lam X kk} {f C CF CM : Addr} {σ : L2.St} {H : Hp} {Q : VK} {x fld tag : Str} {v : V} {lv : Nat} (R : Raisable P w K mg base lv x C fld tag) (hex : PySem.W.exmAny K (.ref C) [.ref CF, .ref CM] = some true) (tg : TagOk tag fld) (hA : D.At f H)
    (hc : ∀ Ha E, Same H Ha → Flies Ha E C fld tag v → D.tb E σ Ha fun _ _ => False) (q : ∀ t H2, H t = none → Same H H2 → H2 t = some (.tup [.non, .str tag, v]) → Q (.ref t) H2) : TTout K CF CM (D.does f σ) H Q := by
  intro Ha sa
  refine ⟨fun cls d H1 => cls = .ref C ∧ ∃ dd, d = some dd ∧ H1 dd = some (.xd [(fld, v), ("tag", .str tag)]) ∧ Same Ha H1, fun _ _ => False, ⟨D.same hA (same_ext sa), hc Ha _ sa fun dd H1 n1 h1 s1 => ⟨rfl, dd, rfl, h1, s1⟩⟩, ?_, fun _ _ h => h.elim⟩
  rintro cls d H1 ⟨rfl, dd, rfl, hdd, s1⟩
  exact ⟨hex, tag, fld, v, ⟨C, dd, rfl, R.xf, R.nt, R.nf, rfl, hdd⟩, tg, fun t H2 n s2 e => q t H2 (sm_none (sa.trans s1) n) ((sa.trans s1).trans s2) e⟩
end
section
variable {P : Program} {w : World} {K : PySem.W.Frag} {mg : Str → Option Value} {base : Heap}
theorem out_yes {X : Cx} {kk : Nat} {D : Lam X kk} {f CF CM : Addr} {σ : L2.St} {H : Hp} {Q : VK} (Q1 : Hp → VK) (hA : D.At f H) (hc : ∀ Ha, Same H Ha → D.tb (fun _ _ _ => False) σ Ha (Q1 Ha))
    (q : ∀ Ha v H1, Same H Ha → Q1 Ha v H1 → ∀ t H2, H1 t = none → Same H1 H2 → H2 t = some (.tup [v, .str "", .non]) → Q (.ref t) H2) : TTout K CF CM (D.does f σ) H Q := by
  intro Ha sa
  exact ⟨fun _ _ _ => False, Q1 Ha, ⟨D.same hA (same_ext sa), hc Ha sa⟩, fun _ _ _ h => h.elim, fun v H1 h t H2 n s2 e => q Ha v H1 sa h t H2 n s2 e⟩
end
section
variable {P : Program} {w : World} {K : PySem.W.Frag} {mg : Str → Option Value} {base : Heap}
/-- what is asked answers -/
theorem ask_yes {X : Cx} {kk : Nat} {D : Lam X kk} {f CF CM : Addr} {σ : L2.St} {H : Hp} {Q : VK} (hA : D.At f H) (hc : ∀ Ha, Same H Ha → D.tb (fun _ _ _ => False) σ Ha fun _ H1 => Same Ha H1)
    (q : ∀ t H2, H t = none → Same H H2 → H2 t = some (.tup [.str "", .non]) → Q (.ref t) H2) : TTerr K CF CM (D.does f σ) H Q := by
  intro Ha sa
  exact ⟨fun _ _ _ => False, fun _ H1 => Same Ha H1, ⟨D.same hA (same_ext sa), hc Ha sa⟩, fun _ _ _ h => h.elim, fun v H1 h t H2 n s2 e => q t H2 (sm_none (sa.trans h) n) ((sa.trans h).trans s2) e⟩
end
section
variable {P : Program} {w : World} {K : PySem.W.Frag} {mg : Str → Option Value} {base : Heap}
/-- a list of lambdas, each answering -/
theorem asks_yes {X : Cx} {kk j : Nat} (σ : L2.St) {H : Hp} {CF CM la D : Addr} (fs : List Addr) {Qd : Hp → Prop} (hl : H la = some (.lst (fs.map V.ref))) (nD : H D = none) (hj : j < σ.length) (hm : fs.length ≤ 1000)
    (hf : ∀ f ∈ fs, ∃ L : Lam X kk, L.At f H ∧ ∀ Ha, Same H Ha → L.tb (fun _ _ _ => False) σ Ha fun _ H1 => Same Ha H1)
    (q : ∀ (ts : List Addr) H1, ts.length = fs.length → H1 D = some (.lst (ts.map V.ref)) → (∀ t ∈ ts, H1 t = some (.tup [.str "", .non])) → Same H H1 → Qd H1) :
    ∃ W : Nat → Nat → Hp → Prop, (∃ m, W 0 m (upd H D (.lst []))) ∧ ∀ i m H, W i m H →
      ((Itl K la).stop i H ∧ Qd H) ∨ ((Itl K la).go i H ∧ ∃ Nx : Hp → Prop, (∀ H', Nx H' → ∃ m', m' < m ∧ W (i + 1) m' H') ∧ ∀ x H', (Itl K la).yld i H x H' → gName j x (wipe σ [j]) H' fun σ2 H2 => wipe σ2 [j] = wipe σ [j] ∧ tYes σ2 H2 fun b H3 =>
        if b = true then (∃ (f : Addr) (L : Lam X kk), σ2[j]? = some (some (.ref f)) ∧ TTerr K CF CM (L.does f σ) H3 fun y H4 => ∃ acc, H4 D = some (.lst acc) ∧ acc.length < sizeLine ∧ Nx (upd H4 D (.lst (acc ++ [y])))) else Nx H3) := by
  refine lc_list (K := K) (a := la) (xs := fs.map V.ref) (g := gName j) (tt := tYes) (te := fun σ1 H1 Q => ∃ (f : Addr) (D : Lam X kk), σ1[j]? = some (some (.ref f)) ∧ TTerr K CF CM (D.does f σ) H1 Q) (vs := [j]) (σ := σ) (Qd := Qd) (fun i H1 => ∃ ts : List Addr, ts.length = i ∧ H1 D = some (.lst (ts.map V.ref)) ∧ (∀ t ∈ ts, H1 t = some (.tup [.str "", .non])) ∧ Same H H1)
    ⟨[], rfl, upd_same, by simp, same_new nD⟩ (fun i H1 _ h => h.elim fun ts h => SqL.of (h.2.2.2 _ _ hl)) ?_ ?_
  · rintro k y H1 hy ⟨ts, hlen, hD, hts, s1⟩
    rw [List.getElem?_map] at hy
    obtain ⟨f, hff, rfl⟩ := Option.map_eq_some_iff.mp hy
    obtain ⟨L, hA, hc⟩ := hf f (List.mem_of_getElem? hff)
    have hk : k < fs.length := (List.getElem?_eq_some_iff.mp hff).1
    refine ⟨wipe_one, f, L, List.getElem?_set_self (by rw [wipe_length]; exact hj), ?_⟩
    refine ask_yes (L.same hA (same_ext s1)) (fun Ha sa => hc Ha (s1.trans sa)) fun t H2 nt s2 e => ?_
    have nDt : t ≠ D := (ne_of_none hD nt).symm
    refine ⟨_, s2 _ _ hD, by rw [List.length_map, hlen]; exact Nat.lt_of_le_of_lt (show k ≤ 1000 by omega) (by decide), ts ++ [t], by rw [List.length_append, hlen]; rfl, by rw [upd_same, List.map_append]; rfl, fun t2 h2 => ?_, same_over (s1.trans s2) nD⟩
    rcases List.mem_append.mp h2 with h2 | h2
    · have e2 := hts t2 h2
      rw [upd_ne (ne_of e2 hD (by intro z; cases z))]
      exact s2 _ _ e2
    · rw [List.mem_singleton.mp h2, upd_ne nDt]
      exact e
  · rintro H1 ⟨ts, hlen, hD, hts, s1⟩
    rw [List.length_map] at hlen
    exact q ts H1 hlen hD hts s1
end
section
variable {P : Program} {w : World} {K : PySem.W.Frag} {mg : Str → Option Value} {base : Heap}
/-- the same tuple many times, as data -/
def dReps (m : Nat) (d : PyData) : PyData := .list (List.replicate m d)
end
section
variable {P : Program} {w : World} {K : PySem.W.Frag} {mg : Str → Option Value} {base : Heap}
theorem dp_reps {H : Hp} {xs : List V} {ds : List PyData} (hd : DpAll K H xs ds) : ∀ {ts : List Addr}, (∀ t ∈ ts, H t = some (.tup xs)) → DpAll K H (ts.map V.ref) (List.replicate ts.length (.tuple ds))
  | [], _ => .nil
  | t :: r, h => .cons (.tup (SqT.of (h t List.mem_cons_self)) hd) (dp_reps hd fun u hu => h u (List.mem_cons_of_mem _ hu))
end
section
variable {P : Program} {w : World} {K : PySem.W.Frag} {mg : Str → Option Value} {base : Heap}
theorem shaped_reps {m : Nat} {tag : Str} (h : PyData.strOk tag = true) (hm : m ≤ 8) {d : PyData} (hd : d = .none ∨ ∃ z, d = .int z) : SeqAt.shaped (dReps m (.tuple [.str tag, d])) = true := by
  unfold SeqAt.shaped dReps
  have e : ∀ m, PyData.canLayAll0 (List.replicate m (.tuple [.str tag, d])) = true ∧ PyData.depthAll (List.replicate m (.tuple [.str tag, d])) ≤ 2 := by
    intro m
    induction m with
    | zero => exact ⟨by simp [PyData.canLayAll0], by simp [PyData.depthAll]⟩
    | succ m ih =>
      obtain ⟨i1, i2⟩ := ih
      rw [List.replicate_succ]
      refine ⟨?_, ?_⟩
      · rcases hd with rfl | ⟨z, rfl⟩ <;> simp [PyData.canLay0, PyData.canLayAll0, h, i1]
      · rcases hd with rfl | ⟨z, rfl⟩ <;> (rw [PyData.depthAll]; simp only [PyData.depth, PyData.depthAll]; omega)
  obtain ⟨e1, e2⟩ := e m
  simp [PyData.canLay0, PyData.depth, e1]
  omega
end
/-- one given by its place, one by its keyword -/
def swA {α : Type} : List α → List α → List α
  | [a], [b] => [a, b]
  | _, _ => []
theorem swA_rel {vs : List V} {us : List Value} {zs : List V} {ws : List Value} (r : Vals vs us) (s : Vals zs ws) : Vals (swA vs zs) (swA us ws) := by
  cases r with
  | nil => exact .nil
  | cons h1 t1 =>
    cases t1 with
    | cons _ _ => exact .nil
    | nil =>
      cases s with
      | nil => exact .nil
      | cons h2 t2 =>
        cases t2 with
        | nil => exact .cons h1 (.cons h2 .nil)
        | cons _ _ => exact .nil
theorem fun_swA {K : PySem.W.Frag} {x qual : Str} {st : Stmt} {f : Addr} {fd : FuncData} {a b : Str} (F : Fun K x qual st f fd)
    (h : ∀ (kV doc pm : Value) (an : Option Addr) (cdv ct : Value) (u v : Value), bindArgs (PySem.W.fnOf x qual (defArgs st) (defBody st) (defScope st) .none kV doc pm an cdv ct) ⟨[u], [(b, v)]⟩ = pure [(a, u), (b, v)]) : KBinds K fd [a, b] [b] swA swA := by
  obtain ⟨oc, od, kV, doc, pm, an, cdv, ct, osl, rfl, lk, hcd⟩ := F.ex
  refine ⟨fun s us ws _ hl => ?_, swA_rel⟩
  match us, ws, hl with
  | [u], [v], _ => exact .of_eq (h kV doc pm an cdv ct u v)
/-- a list of pairs of ints, each a tuple -/
inductive PrL (H : Hp) : List V → List (Int × Int) → Prop
  | nil : PrL H [] []
  | cons {t : Addr} {xs : List V} {x y : Int} {ps : List (Int × Int)} (h : H t = some (.tup [.int x, .int y])) (r : PrL H xs ps) : PrL H (.ref t :: xs) ((x, y) :: ps)
theorem PrL.same {H H' : Hp} {xs : List V} {ps : List (Int × Int)} (h : PrL H xs ps) (s : Same H H') : PrL H' xs ps := by
  induction h with
  | nil => exact .nil
  | cons h r ih => exact .cons (s _ _ h) ih
theorem PrL.ext {H H' : Hp} {xs : List V} {ps : List (Int × Int)} (h : PrL H xs ps) (s : ExtN H H') : PrL H' xs ps := by
  induction h with
  | nil => exact .nil
  | cons h r ih => exact .cons (s _ _ h (by intro ps z; cases z)) ih
theorem PrL.sb {H H' : Hp} {d : Addr} {xs : List V} {ps : List (Int × Int)} (h : PrL H xs ps) (s : Sb d H H') (hd : ∃ ys, H d = some (.lst ys)) : PrL H' xs ps := by
  obtain ⟨ys, hd⟩ := hd
  induction h with
  | nil => exact .nil
  | cons h r ih => exact .cons (s _ _ (ne_of h hd (by intro z; cases z)) h) ih
theorem PrL.upd {H : Hp} {D : Addr} {acc acc' : List V} {xs : List V} {ps : List (Int × Int)} (h : PrL H xs ps) (hD : H D = some (.lst acc)) : PrL (L2.upd H D (.lst acc')) xs ps := by
  induction h with
  | nil => exact .nil
  | cons h r ih => exact .cons (by rw [upd_ne (ne_of h hD (by intro z; cases z))]; exact h) ih
theorem PrL.len {H : Hp} {xs : List V} {ps : List (Int × Int)} (h : PrL H xs ps) : xs.length = ps.length := by
  induction h with
  | nil => rfl
  | cons h r ih => simp [ih]
theorem PrL.app {H : Hp} {xs ys : List V} {ps qs : List (Int × Int)} (h : PrL H xs ps) (h2 : PrL H ys qs) : PrL H (xs ++ ys) (ps ++ qs) := by
  induction h with
  | nil => exact h2
  | cons h r ih => exact .cons h ih
theorem PrL.get {H : Hp} {xs : List V} {ps : List (Int × Int)} (h : PrL H xs ps) : ∀ {i : Nat} {v : V}, xs[i]? = some v → ∃ t x y, v = .ref t ∧ ps[i]? = some (x, y) ∧ H t = some (.tup [.int x, .int y]) := by
  induction h with
  | nil => intro i v e; simp at e
  | cons h r ih =>
    intro i v e
    cases i with
    | zero => exact ⟨_, _, _, (Option.some.inj e).symm, rfl, h⟩
    | succ i => exact ih e
theorem PrL.take {H : Hp} {xs : List V} {ps : List (Int × Int)} (h : PrL H xs ps) : ∀ k : Nat, PrL H (xs.take k) (ps.take k) := by
  induction h with
  | nil => intro k; simp; exact .nil
  | cons h r ih =>
    intro k
    cases k with
    | zero => exact .nil
    | succ k => exact .cons h (ih k)
theorem PrL.drop {H : Hp} {xs : List V} {ps : List (Int × Int)} (h : PrL H xs ps) : ∀ k : Nat, PrL H (xs.drop k) (ps.drop k) := by
  induction h with
  | nil => intro k; simp; exact .nil
  | cons h r ih =>
    intro k
    cases k with
    | zero => exact .cons h r
    | succ k => exact ih k
def prD (p : Int × Int) : PyData := .tuple [.int p.1, .int p.2]
theorem PrL.dp {K : PySem.W.Frag} {H : Hp} {xs : List V} {ps : List (Int × Int)} (h : PrL H xs ps) : DpAll K H xs (ps.map prD) := by
  induction h with
  | nil => exact .nil
  | cons h r ih => exact .cons (.tup (SqT.of h) (.cons (.int _) (.cons (.int _) .nil))) ih
theorem prs_lay : ∀ ps : List (Int × Int), PyData.canLayAll0 (ps.map prD) = true ∧ PyData.depthAll (ps.map prD) ≤ 2
  | [] => ⟨by simp [PyData.canLayAll0], by simp [PyData.depthAll]⟩
  | p :: ps => by
    obtain ⟨i1, i2⟩ := prs_lay ps
    rw [List.map_cons]
    refine ⟨by simp [prD, PyData.canLay0, PyData.canLayAll0, i1], ?_⟩
    rw [PyData.depthAll]
    simp only [prD, PyData.depth, PyData.depthAll] at i2 ⊢
    omega
theorem shaped_prs (ps : List (Int × Int)) : SeqAt.shaped (.list (ps.map prD)) = true := by
  obtain ⟨e1, e2⟩ := prs_lay ps
  unfold SeqAt.shaped
  simp [PyData.canLay0, PyData.depth, e1]
  omega
theorem shaped_pr (p : Int × Int) : SeqAt.shaped (prD p) = true := by
  unfold SeqAt.shaped prD
  simp [PyData.canLay0, PyData.canLayAll0, PyData.depth, PyData.depthAll]
theorem eqv_pr (p q : Int × Int) : PyData.eqv (prD p) (prD q) = decide (p = q) := by
  obtain ⟨a, b⟩ := p
  obtain ⟨c, d⟩ := q
  unfold prD
  simp [PyData.eqv, PyData.eqvAll, Prod.mk.injEq]
  rfl
theorem eqv_prs_nil : ∀ ps : List (Int × Int), PyData.eqv (.list (ps.map prD)) (.list []) = decide (ps = [])
  | [] => by simp [PyData.eqv, PyData.eqvAll]
  | p :: ps => by simp [PyData.eqv, PyData.eqvAll]
theorem any_prs (ps : List (Int × Int)) (p : Int × Int) : ((ps.map prD).any fun z => PyData.eqv z (prD p)) = decide (p ∈ ps) := by
  rw [Bool.eq_iff_iff, List.any_map, List.any_eq_true, decide_eq_true_iff]
  constructor
  · rintro ⟨x, hx, e⟩
    have e : PyData.eqv (prD x) (prD p) = true := e
    rw [eqv_pr] at e
    rw [← of_decide_eq_true e]; exact hx
  · intro h
    exact ⟨p, h, by show PyData.eqv (prD p) (prD p) = true; rw [eqv_pr]; simp⟩
theorem sm_prs {k : Nat} {ps : List (Int × Int)} (h : ps.length ≤ 1000) : Sm (k + 2) (.list (ps.map prD)) := by
  refine .lst (by rw [List.length_map]; exact h) fun d hd => ?_
  obtain ⟨p, _, e⟩ := List.mem_map.mp hd
  rw [← e]
  refine .tup (by show 2 ≤ 1000; decide) fun x hx => ?_
  simp only [List.mem_cons, List.not_mem_nil, or_false] at hx
  rcases hx with z | z <;> rw [z] <;> exact .int _ _
abbrev sIsFnd : Stmt := topS 43
abbrev isFndN : List Str := ["step"]
theorem scIsFnd : FnScope isFndN ["step"] (defScope sIsFnd) := ⟨rfl, rfl, rfl, by decide +kernel, rfl, by decide +kernel, by decide +kernel⟩
abbrev sForm : Stmt := topS 44
abbrev formN : List Str := ["step", "word"]
theorem scForm : FnScope formN ["step", "word"] (defScope sForm) := ⟨rfl, rfl, rfl, by decide +kernel, rfl, by decide +kernel, by decide +kernel⟩
abbrev sIsLnk : Stmt := topS 45
abbrev isLnkN : List Str := ["step"]
theorem scIsLnk : FnScope isLnkN ["step"] (defScope sIsLnk) := ⟨rfl, rfl, rfl, by decide +kernel, rfl, by decide +kernel, by decide +kernel⟩
abbrev sIsRnd : Stmt := topS 46
abbrev isRndN : List Str := ["step"]
theorem scIsRnd : FnScope isRndN ["step"] (defScope sIsRnd) := ⟨rfl, rfl, rfl, by decide +kernel, rfl, by decide +kernel, by decide +kernel⟩
abbrev sMay : Stmt := topS 47
abbrev mayN : List Str := ["step", "depth"]
theorem scMay : FnScope mayN ["step", "depth"] (defScope sMay) := ⟨rfl, rfl, rfl, by decide +kernel, rfl, by decide +kernel, by decide +kernel⟩
abbrev sChkS : Stmt := topS 48
abbrev chkSN : List Str := ["steps", "depth", "pos", "step"]
theorem scChkS : FnScope chkSN ["steps", "depth", "pos"] (defScope sChkS) := ⟨rfl, rfl, rfl, by decide +kernel, rfl, by decide +kernel, by decide +kernel⟩
abbrev sChkH : Stmt := topS 49
abbrev chkHN : List Str := ["history"]
theorem scChkH : FnScope chkHN ["history"] (defScope sChkH) := ⟨rfl, rfl, rfl, by decide +kernel, rfl, by decide +kernel, by decide +kernel⟩
abbrev findsN : List Str := ["steps", "total", "step"]
abbrev cntFN : List Str := ["history"]
def ob (kd : Bool) (xs : List V) : HO := if kd = true then .lst xs else .tup xs
theorem ob_kd {kd : Bool} {K : PySem.W.Frag} {H : Hp} {a : Addr} {xs : List V} (h : H a = some (ob kd xs)) : Kd kd K H a xs := by
  cases kd
  · exact Kd.t (SqT.of h)
  · exact Kd.l (SqL.of h)
theorem ob_sq {kd : Bool} {K : PySem.W.Frag} {H : Hp} {a : Addr} {xs : List V} (h : H a = some (ob kd xs)) : Sq K H a xs := by
  cases kd
  · exact .inr (SqT.of h)
  · exact .inl (SqL.of h)
mutual
/-- a value that is a step -/
inductive StAt (H : Hp) : V → Stp → Prop
  | fnd (z : Int) : StAt H (.int z) (.fnd z)
  | lnk {t : Addr} {c a : Int} : H t = some (.tup [.str "link", .int c, .int a]) → StAt H (.ref t) (.lnk c a)
  | rnd {t b : Addr} {k : Int} {kd : Bool} {xs : List V} {ss : List Stp} : H t = some (.tup [.str "repeat", .int k, .ref b]) → H b = some (ob kd xs) → StsAt H xs ss → StAt H (.ref t) (.rnd k kd ss)
inductive StsAt (H : Hp) : List V → List Stp → Prop
  | nil : StsAt H [] []
  | cons {v : V} {xs : List V} {s : Stp} {ss : List Stp} : StAt H v s → StsAt H xs ss → StsAt H (v :: xs) (s :: ss)
end
mutual
theorem StAt.same {H H' : Hp} (e : Same H H') : ∀ {v : V} {s : Stp}, StAt H v s → StAt H' v s
  | _, _, .fnd z => .fnd z
  | _, _, .lnk h => .lnk (e _ _ h)
  | _, _, .rnd h1 h2 h3 => .rnd (e _ _ h1) (e _ _ h2) (StsAt.same e h3)
theorem StsAt.same {H H' : Hp} (e : Same H H') : ∀ {xs : List V} {ss : List Stp}, StsAt H xs ss → StsAt H' xs ss
  | _, _, .nil => .nil
  | _, _, .cons h r => .cons (StAt.same e h) (StsAt.same e r)
end
theorem ob_tab {kd : Bool} {xs : List V} (ps : Array Value) : ob kd xs ≠ .tbl ps := by cases kd <;> (intro z; cases z)
mutual
theorem StAt.ext {H H' : Hp} (e : ExtN H H') : ∀ {v : V} {s : Stp}, StAt H v s → StAt H' v s
  | _, _, .fnd z => .fnd z
  | _, _, .lnk h => .lnk (e _ _ h (by intro ps z; cases z))
  | _, _, .rnd h1 h2 h3 => .rnd (e _ _ h1 (by intro ps z; cases z)) (e _ _ h2 ob_tab) (StsAt.ext e h3)
theorem StsAt.ext {H H' : Hp} (e : ExtN H H') : ∀ {xs : List V} {ss : List Stp}, StsAt H xs ss → StsAt H' xs ss
  | _, _, .nil => .nil
  | _, _, .cons h r => .cons (StAt.ext e h) (StsAt.ext e r)
end
theorem StAt.not_list {H : Hp} {l : Addr} {ys : List V} {s : Stp} (h : StAt H (.ref l) s) (hl : H l = some (.lst ys)) : False := by
  cases h with
  | lnk h => rw [hl] at h; cases h
  | rnd h _ _ => rw [hl] at h; cases h
theorem DrawAt.ne_steps {H : Hp} {d l b : Addr} {kd : Bool} {xs : List V} {ss : List Stp} (D : DrawAt H d l) (hb : H b = some (ob kd xs)) (h : StsAt H xs ss) : b ≠ d := by
  intro z
  subst z
  obtain ⟨ns, i, j, k, h1, h2, _⟩ := D
  rw [h1] at hb
  cases kd with
  | false => cases Option.some.inj hb
  | true =>
    have hb : some (HO.lst _) = some (HO.lst xs) := hb
    injection hb with hb
    injection hb with hb
    subst hb
    cases h with
    | cons h _ => exact h.not_list h2
mutual
theorem StAt.sb {H H' : Hp} {d l : Addr} (D : DrawAt H d l) (e : Sb d H H') : ∀ {v : V} {s : Stp}, StAt H v s → StAt H' v s
  | _, _, .fnd z => .fnd z
  | _, _, .lnk h => .lnk (e _ _ (D.net h) h)
  | _, _, .rnd h1 h2 h3 => .rnd (e _ _ (D.net h1) h1) (e _ _ (D.ne_steps h2 h3) h2) (StsAt.sb D e h3)
theorem StsAt.sb {H H' : Hp} {d l : Addr} (D : DrawAt H d l) (e : Sb d H H') : ∀ {xs : List V} {ss : List Stp}, StsAt H xs ss → StsAt H' xs ss
  | _, _, .nil => .nil
  | _, _, .cons h r => .cons (StAt.sb D e h) (StsAt.sb D e r)
end
theorem StsAt.len {H : Hp} : ∀ {xs : List V} {ss : List Stp}, StsAt H xs ss → xs.length = ss.length
  | _, _, .nil => rfl
  | _, _, .cons h r => by simp [StsAt.len r]
theorem StsAt.get {H : Hp} : ∀ {xs : List V} {ss : List Stp}, StsAt H xs ss → ∀ {i : Nat} {v : V}, xs[i]? = some v → ∃ s, ss[i]? = some s ∧ StAt H v s
  | _, _, .nil, i, v, e => by simp at e
  | _, _, .cons h r, 0, v, e => by cases Option.some.inj e; exact ⟨_, rfl, h⟩
  | _, _, .cons h r, i + 1, v, e => StsAt.get r e
theorem StsAt.app {H : Hp} : ∀ {xs ys : List V} {ss rr : List Stp}, StsAt H xs ss → StsAt H ys rr → StsAt H (xs ++ ys) (ss ++ rr)
  | _, _, _, _, .nil, h2 => h2
  | _, _, _, _, .cons h r, h2 => .cons h (StsAt.app r h2)
theorem StsAt.take {H : Hp} : ∀ {xs : List V} {ss : List Stp}, StsAt H xs ss → ∀ k, StsAt H (xs.take k) (ss.take k)
  | _, _, .nil, k => by simp; exact .nil
  | _, _, .cons h r, 0 => .nil
  | _, _, .cons h r, k + 1 => .cons h (StsAt.take r k)
theorem StsAt.drop {H : Hp} : ∀ {xs : List V} {ss : List Stp}, StsAt H xs ss → ∀ k, StsAt H (xs.drop k) (ss.drop k)
  | _, _, .nil, k => by simp; exact .nil
  | _, _, .cons h r, 0 => .cons h r
  | _, _, .cons h r, k + 1 => StsAt.drop r k
def isF : Stp → Bool
  | .fnd _ => true
  | _ => false
def isL : Stp → Bool
  | .lnk _ _ => true
  | _ => false
def isR : Stp → Bool
  | .rnd _ _ _ => true
  | _ => false
def spIsFnd : Sp := fun vs H Q _ => ∃ (v : V) (s : Stp), vs = [v] ∧ StAt H v s ∧ Q (.bl (isF s)) H
def spForm : Sp := fun vs H Q _ => ∃ (v : V) (s : Stp) (lk : Bool), vs = [v, .str (if lk = true then "link" else "repeat")] ∧ StAt H v s ∧ Q (.bl (if lk = true then isL s else isR s)) H
def spIsLnk : Sp := fun vs H Q _ => ∃ (v : V) (s : Stp), vs = [v] ∧ StAt H v s ∧ Q (.bl (isL s)) H
def spIsRnd : Sp := fun vs H Q _ => ∃ (v : V) (s : Stp) (top : Bool), vs = [v] ∧ StAt H v s ∧ Wf top s ∧ ∀ H', Same H H' → Q (.bl (isR s)) H'
def spMay : Sp := fun vs H Q _ => ∃ (v : V) (s : Stp) (dep : Nat), vs = [v, vi dep] ∧ StAt H v s ∧ Wf (decide (dep = 0)) s ∧ dep + nest s ≤ 4 ∧ ∀ H', Same H H' → Q (.bl true) H'
def spChkS (n : Nat) : Sp := fun vs H Q _ => ∃ (kd : Bool) (a : Addr) (xs : List V) (ss : List Stp) (dep pos : Nat), vs = [.ref a, vi dep, vi pos] ∧ H a = some (ob kd xs) ∧ StsAt H xs ss ∧ Wfs (decide (dep = 0)) ss ∧ nests ss ≤ n ∧ dep + nests ss ≤ 4 ∧ pos + nWrs ss ≤ 100 ∧ ∀ H', Same H H' → Q (vi (pos + nWrs ss)) H'
def spChkH (n : Nat) : Sp := fun vs H Q _ => ∃ (kd : Bool) (a : Addr) (xs : List V) (ss : List Stp), vs = [.ref a] ∧ H a = some (ob kd xs) ∧ StsAt H xs ss ∧ Wfs true ss ∧ nests ss ≤ n ∧ n ≤ 4 ∧ nWrs ss ≤ 100 ∧ ∀ H', Same H H' → Q .non H'
def spFinds (n : Nat) : Sp := fun vs H Q _ => ∃ (kd : Bool) (a : Addr) (xs : List V) (ss : List Stp) (top : Bool), vs = [.ref a] ∧ H a = some (ob kd xs) ∧ StsAt H xs ss ∧ Wfs top ss ∧ nests ss ≤ n ∧ nests ss ≤ 10 ∧ nWrs ss ≤ 1000 ∧ ∀ H', Same H H' → Q (.int (nFnds ss)) H'
def spCntF (n : Nat) : Sp := fun vs H Q _ => ∃ (kd : Bool) (a : Addr) (xs : List V) (ss : List Stp), vs = [.ref a] ∧ H a = some (ob kd xs) ∧ StsAt H xs ss ∧ Wfs true ss ∧ nests ss ≤ n ∧ n ≤ 4 ∧ nWrs ss ≤ 100 ∧ ∀ H', Same H H' → Q (.int (nFnds ss)) H'
theorem nWr_pos : ∀ s : Stp, 1 ≤ nWr s
  | .fnd _ => by rw [nWr]; omega
  | .lnk _ _ => by rw [nWr]; omega
  | .rnd _ _ ss => by rw [nWr]; omega
theorem nWrs_take_le (ss : List Stp) (i : Nat) : nWrs (ss.take i) ≤ nWrs ss := by
  have h := nWrs_app (ss.take i) (ss.drop i)
  rw [List.take_append_drop] at h
  omega
theorem nWrs_mem : ∀ {ss : List Stp} {s : Stp}, s ∈ ss → nWr s ≤ nWrs ss
  | x :: l, s, h => by
    rw [nWrs]
    rcases List.mem_cons.mp h with e | h
    · rw [e]; omega
    · have := nWrs_mem h; omega
theorem lim_bits : lim30.natAbs < 2 ^ 100 := by decide
theorem pow_bits : ∀ n : Nat, (lim30 ^ n).natAbs < 2 ^ (100 * n + 1)
  | 0 => by rw [Int.pow_zero]; decide
  | n + 1 => by
    have := wide_lt (pow_bits n) lim_bits
    rw [Int.pow_succ, show 100 * (n + 1) + 1 = 100 * n + 1 + 100 by omega]
    exact this
theorem nFnds_bits {top : Bool} {ss : List Stp} (w : Wfs top ss) (hn : nests ss ≤ 10) (hw : nWrs ss ≤ 1000) : (nFnds ss).natAbs < 2 ^ 1011 := by
  have h0 := nFnds_nonneg ss w
  have h1 := nFnds_le ss w
  have hp : lim30 ^ nests ss ≤ lim30 ^ 10 := pow_mono hn
  have h2 : (nWrs ss : Int) * lim30 ^ nests ss ≤ 1000 * lim30 ^ 10 := Int.mul_le_mul (by omega) hp (Int.pow_nonneg (by have := lim_pos; omega)) (by decide)
  have h3 : (1000 * lim30 ^ 10).natAbs < 2 ^ 1011 := by
    have := wide_lt (i := 1000) (a := 10) (by decide) (pow_bits 10)
    exact this
  exact wide_le h0 (by omega) h3
section
variable {P : Program} {w : World} {K : PySem.W.Frag} {mg : Str → Option Value} {base : Heap}
theorem ok_isFnd {f : Addr} {fd : FuncData} {k : Nat} (F : Fun K "is_find" "is_find" sIsFnd f fd) (TS : TxS mg) : FnOk P w K mg base CX0 (k + 1) f fd ["step"] spIsFnd := by
  refine F.ok scIsFnd (fun vs H Q E h => ?_) (fun cdv A outer s H vs Q E hr h => ?_)
  · obtain ⟨v, st, rfl, _⟩ := h
    rfl
  · obtain ⟨v, st, rfl, hs, q⟩ := h
    refine ⟨_, (pss_one (ps_ret (pe_callB call_isi (by rfl) TS.isinstance (by decide +kernel) (pa_cons (pv 0) (pa_cons (pe_ty (n := "int") (by rfl) TS.int (by decide +kernel)) pa_nil))))), ?_⟩
    cases hs with
    | fnd z => exact ⟨_, rfl, _, _, _, _, _, rfl, .ty _, .base (.int z), kit_ty (r := true) (by decide +kernel), q⟩
    | lnk h => exact ⟨_, rfl, _, _, _, _, _, rfl, .ty _, .base (.tup h), kit_ty (r := false) (by decide +kernel), q⟩
    | rnd h _ _ => exact ⟨_, rfl, _, _, _, _, _, rfl, .ty _, .base (.tup h), kit_ty (r := false) (by decide +kernel), q⟩
end
section
variable {P : Program} {w : World} {K : PySem.W.Frag} {mg : Str → Option Value} {base : Heap}
theorem ok_form {f : Addr} {fd : FuncData} {k : Nat} (F : Fun K "has_form" "has_form" sForm f fd) (T : Tx mg) (TS : TxS mg) : FnOk P w K mg base CX0 (k + 1) f fd ["step", "word"] spForm := by
  refine F.ok scForm (fun vs H Q E h => ?_) (fun cdv A outer s H vs Q E hr h => ?_)
  · obtain ⟨v, st, lk, rfl, _⟩ := h
    rfl
  · obtain ⟨v, st, lk, rfl, hs, q⟩ := h
    refine ⟨_, (pss_one (ps_ret (pe_and (pe_callB call_isi (by rfl) TS.isinstance (by decide +kernel) (pa_cons (pv 0) (pa_cons (pe_ty (n := "tuple") (by rfl) TS.tuple (by decide +kernel)) pa_nil))) (pe_and (pe_cmpR op_eq (pe_callB call_len_seq (by rfl) T.len PySem.boot_len (pa_cons (pv 0) pa_nil)) pe_int (nomark _)) (pe_one (pe_cmpR op_eq (pe_ix (show IxR _ (rIx K) from ix_seq) (pv 0) pe_int (fun _ _ => rfl)) (pv 1) (nomark _))))))), ?_⟩
    cases hs with
    | fnd z => exact ⟨_, rfl, _, _, _, _, _, rfl, .ty _, .base (.int z), kit_ty (r := false) (by decide +kernel), _, rfl, iteF (by cases lk <;> exact q)⟩
    | lnk h =>
      refine ⟨_, rfl, _, _, _, _, _, rfl, .ty _, .base (.tup h), kit_ty (r := true) (by decide +kernel), _, rfl, iteT ?_⟩
      refine ⟨_, rfl, _, _, rfl, .inr (SqT.of h), rfl, _, rfl, iteT ?_⟩
      refine ⟨_, rfl, Sq.ix (.inr (SqT.of h)) rfl ⟨_, rfl, rfl, ?_⟩⟩
      cases lk <;> exact q
    | rnd h _ _ =>
      refine ⟨_, rfl, _, _, _, _, _, rfl, .ty _, .base (.tup h), kit_ty (r := true) (by decide +kernel), _, rfl, iteT ?_⟩
      refine ⟨_, rfl, _, _, rfl, .inr (SqT.of h), rfl, _, rfl, iteT ?_⟩
      refine ⟨_, rfl, Sq.ix (.inr (SqT.of h)) rfl ⟨_, rfl, rfl, ?_⟩⟩
      cases lk <;> exact q
end
section
variable {P : Program} {w : World} {K : PySem.W.Frag} {mg : Str → Option Value} {base : Heap}
theorem ok_isLnk {f fA : Addr} {fd fdA : FuncData} (F : Fun K "is_link" "is_link" sIsLnk f fd) (kA : Kn P w K mg base 1 "has_form" sForm ["step", "word"] spForm fA fdA) (TS : TxS mg) : FnOk P w K mg base CX0 2 f fd ["step"] spIsLnk := by
  refine F.ok scIsLnk (fun vs H Q E h => ?_) (fun cdv A outer s H vs Q E hr h => ?_)
  · obtain ⟨v, st, rfl, _⟩ := h
    rfl
  · obtain ⟨v, st, rfl, hs, q⟩ := h
    have hrm : ∀ {j : Nat}, j ≤ 1 → Room j (A.deeper (envOfC "is_link" (defScope sIsLnk) s.heap.objs.size f cdv)) := fun h => hr.mono h
    refine ⟨_, (pss_one (ps_ret (pe_and (pe_call kA.G (hrm (by omega)) (by rfl) kA.g kA.F.kp kA.b .nil pass0 (pa_cons (pv 0) (pa_cons pe_str pa_nil))) (pe_one (pe_callB call_isi (by rfl) TS.isinstance (by decide +kernel) (pa_cons (pe_ix (show IxR _ (rIx K) from ix_seq) (pv 0) pe_int (fun _ _ => rfl)) (pa_cons (pe_ty (n := "int") (by rfl) TS.int (by decide +kernel)) pa_nil))))))), ?_⟩
    refine ⟨_, rfl, v, st, true, rfl, hs, _, rfl, ?_⟩
    cases hs with
    | fnd z => exact iteF q
    | lnk h => exact iteT ⟨_, rfl, Sq.ix (.inr (SqT.of h)) rfl ⟨_, _, _, _, _, rfl, .ty _, .base (.int _), kit_ty (r := true) (by decide +kernel), q⟩⟩
    | rnd h _ _ => exact iteF q
end
section
variable {P : Program} {w : World} {K : PySem.W.Frag} {mg : Str → Option Value} {base : Heap}
theorem ok_isRnd {f fA : Addr} {fd fdA : FuncData} {tL : Tok} (F : Fun K "is_round" "is_round" sIsRnd f fd) (kA : Kn P w K mg base 1 "has_form" sForm ["step", "word"] spForm fA fdA) (TS : TxS mg) (gL : mg "COUNT_LIMIT" = some (.int 1000000000000000000000000000000 tL)) : FnOk P w K mg base CX0 2 f fd ["step"] spIsRnd := by
  refine F.ok scIsRnd (fun vs H Q E h => ?_) (fun cdv A outer s H vs Q E hr h => ?_)
  · obtain ⟨v, st, top, rfl, _⟩ := h
    rfl
  · obtain ⟨v, st, top, rfl, hs, wf, q⟩ := h
    have hrm : ∀ {j : Nat}, j ≤ 1 → Room j (A.deeper (envOfC "is_round" (defScope sIsRnd) s.heap.objs.size f cdv)) := fun h => hr.mono h
    refine ⟨_, (pss_one (ps_ret (pe_and (pe_call kA.G (hrm (by omega)) (by rfl) kA.g kA.F.kp kA.b .nil pass0 (pa_cons (pv 0) (pa_cons pe_str pa_nil))) (pe_and (pe_callB call_isiT (by rfl) TS.isinstance (by decide +kernel) (pa_cons (pe_ix (show IxR _ (rIx K) from ix_seq) (pv 0) pe_int (fun _ _ => rfl)) (pa_cons (pe_tup (pa_cons (pe_ty (n := "list") (by rfl) TS.list (by decide +kernel)) (pa_cons (pe_ty (n := "tuple") (by rfl) TS.tuple (by decide +kernel)) pa_nil))) pa_nil))) (pe_one (pe_chain op_le op_le pe_int (pe_ix (show IxR _ (rIx K) from ix_seq) (pv 0) pe_int (fun _ _ => rfl)) (pe_glob (v := .int 1000000000000000000000000000000) rfl gL ⟨_, rfl⟩))))))), ?_⟩
    refine ⟨_, rfl, v, st, false, rfl, hs, _, rfl, ?_⟩
    cases hs with
    | fnd z => exact iteF (q H (Same.refl _))
    | lnk h => exact iteF (q H (Same.refl _))
    | @rnd t b k kd xs ss h h2 h3 =>
      rw [Wf] at wf
      refine iteT ⟨_, rfl, Sq.ix (.inr (SqT.of h)) rfl ⟨by show 2 ≤ sizeLine; decide, fun tp ntp => ?_⟩⟩
      have s1 := same_new (o := .tup [V.ty "list", V.ty "tuple"]) ntp
      have e1 : decide ((0 : Int) ≤ k) = true := decide_eq_true wf.1
      have el : lim30 = 1000000000000000000000000000000 := by decide
      have e2 : decide (k ≤ (1000000000000000000000000000000 : Int)) = true := decide_eq_true (el ▸ wf.2.1)
      cases kd with
      | false =>
        refine ⟨_, tp, _, _, _, _, rfl, upd_same, .cons (.ty _) (.cons (.ty _) .nil), tyT (SqT.of (s1 _ _ h2)), kit2 (r := false) (s := true) (by decide +kernel) (by decide +kernel), _, rfl, iteT ?_⟩
        refine ⟨_, rfl, Sq.ix (.inr (SqT.of (s1 _ _ h))) rfl ⟨_, _, rfl, rfl, _, rfl, ?_⟩⟩
        show if decide ((0 : Int) ≤ k) = true then _ else _
        rw [e1]
        refine iteT ⟨_, _, rfl, rfl, ?_⟩
        show Q (.bl (decide (k ≤ (1000000000000000000000000000000 : Int)))) _
        rw [e2]
        exact q _ s1
      | true =>
        refine ⟨_, tp, _, _, _, _, rfl, upd_same, .cons (.ty _) (.cons (.ty _) .nil), tyL (SqL.of (s1 _ _ h2)), kit2 (r := true) (s := false) (by decide +kernel) (by decide +kernel), _, rfl, iteT ?_⟩
        refine ⟨_, rfl, Sq.ix (.inr (SqT.of (s1 _ _ h))) rfl ⟨_, _, rfl, rfl, _, rfl, ?_⟩⟩
        show if decide ((0 : Int) ≤ k) = true then _ else _
        rw [e1]
        refine iteT ⟨_, _, rfl, rfl, ?_⟩
        show Q (.bl (decide (k ≤ (1000000000000000000000000000000 : Int)))) _
        rw [e2]
        exact q _ s1
end
section
variable {P : Program} {w : World} {K : PySem.W.Frag} {mg : Str → Option Value} {base : Heap}
theorem ok_may {f fL fR fF : Addr} {fd fdL fdR fdF : FuncData} {tN : Tok} (F : Fun K "may_stand" "may_stand" sMay f fd) (kL : Kn P w K mg base 2 "is_link" sIsLnk ["step"] spIsLnk fL fdL) (kR : Kn P w K mg base 2 "is_round" sIsRnd ["step"] spIsRnd fR fdR) (kF : Kn P w K mg base 1 "is_find" sIsFnd ["step"] spIsFnd fF fdF) (gN : mg "MAX_NESTING" = some (.int 4 tN)) : FnOk P w K mg base CX0 3 f fd ["step", "depth"] spMay := by
  refine F.ok scMay (fun vs H Q E h => ?_) (fun cdv A outer s H vs Q E hr h => ?_)
  · obtain ⟨v, st, dep, rfl, _⟩ := h
    rfl
  · obtain ⟨v, st, dep, rfl, hs, wf, hd, q⟩ := h
    have hrm : ∀ {j : Nat}, j ≤ 2 → Room j (A.deeper (envOfC "may_stand" (defScope sMay) s.heap.objs.size f cdv)) := fun h => hr.mono h
    refine ⟨_, (pss_cons (ps_if (pt_val (pe_call kL.G (hrm (by omega)) (by rfl) kL.g kL.F.kp kL.b .nil pass0 (pa_cons (pv 0) pa_nil)))
        (pss_one (ps_ret (pe_cmpR op_eq (pv 1) pe_int (nomark _)))) pss_nil)
      (pss_cons (ps_if (pt_val (pe_call kR.G (hrm (by omega)) (by rfl) kR.g kR.F.kp kR.b .nil pass0 (pa_cons (pv 0) pa_nil)))
        (pss_one (ps_ret (pe_cmpR op_lt (pv 1) (pe_glob (v := .int 4) rfl gN ⟨_, rfl⟩) (nomark _)))) pss_nil)
      (pss_one (ps_ret (pe_call kF.G (hrm (by omega)) (by rfl) kF.g kF.F.kp kF.b .nil pass0 (pa_cons (pv 0) pa_nil)))))), ?_⟩
    refine ⟨_, rfl, v, st, rfl, hs, _, rfl, ?_⟩
    cases st with
    | lnk c a =>
      rw [Wf] at wf
      have e : dep = 0 := of_decide_eq_true wf
      subst e
      exact iteT ⟨_, rfl, rfl, q H (Same.refl _)⟩
    | rnd k kd ss =>
      refine iteF ⟨_, rfl, v, _, _, rfl, hs, wf, fun H1 s1 => ⟨_, rfl, iteT ⟨_, rfl, _, _, rfl, rfl, ?_⟩⟩⟩
      rw [nest] at hd
      show Q (.bl (decide ((dep : Int) < 4))) H1
      rw [decide_eq_true (by omega)]
      exact q H1 s1
    | fnd z => exact iteF ⟨_, rfl, v, _, _, rfl, hs, wf, fun H1 s1 => ⟨_, rfl, iteF ⟨_, rfl, v, _, rfl, hs.same s1, q H1 s1⟩⟩⟩
end
section
variable {P : Program} {w : World} {K : PySem.W.Frag} {mg : Str → Option Value} {base : Heap}
theorem ok_chkS {f fM fR : Addr} {fd fdM fdR : FuncData} {tS : Tok} (F : Fun K "check_steps" "check_steps" sChkS f fd) (kM : Kn P w K mg base 3 "may_stand" sMay ["step", "depth"] spMay fM fdM) (kR : Kn P w K mg base 2 "is_round" sIsRnd ["step"] spIsRnd fR fdR) (b : Binds K fd ["steps", "depth", "pos"] []) (g : mg "check_steps" = some (.ref f)) (gS : mg "MAX_STEPS" = some (.int 100 tS)) :
    ∀ n, FnOk P w K mg base CX0 (n + 4) f fd ["steps", "depth", "pos"] (spChkS n) := by
  intro n
  have main : ∀ n, (∀ sp' : Sp, (∀ vs H Q E, sp' vs H Q E → ∃ m, m < n ∧ spChkS m vs H Q E) → FnOk P w K mg base CX0 (n + 3) f fd ["steps", "depth", "pos"] sp') → FnOk P w K mg base CX0 (n + 4) f fd ["steps", "depth", "pos"] (spChkS n) := by
    intro n ih0
    have ih := ih0 (fun vs H Q E => ∃ m, m < n ∧ spChkS m vs H Q E) fun _ _ _ _ h => h
    refine F.ok scChkS (fun vs H Q E h => ?_) (fun cdv A outer s H vs Q E hr h => ?_)
    · obtain ⟨kd0, a, xs, ss, dep, pos, rfl, _⟩ := h
      rfl
    · obtain ⟨kd0, a, xs, ss, dep, pos, rfl, ha, hss, wf, hn, hd, hw, q⟩ := h
      have hrm : ∀ {j : Nat}, j ≤ n + 3 → Room j (A.deeper (envOfC "check_steps" (defScope sChkS) s.heap.objs.size f cdv)) := fun h => hr.mono h
      refine ⟨_, (pss_cons (ps_for PassesOwn.never rfl (pi_kd kd0 (pv 0)) (pg_name (i := 3) scChkS.nd rfl (.inl rfl))
        (pss_cons (ps_if (pt_cmpR op_ge (pv 2) (pe_glob (v := .int 100) rfl gS ⟨_, rfl⟩) (nomark _))
          (pss_one ps_never) pss_nil)
        (pss_cons (ps_if (pt_not (pt_val (pe_call kM.G (hrm (by omega)) (by rfl) kM.g kM.F.kp kM.b .nil pass0 (pa_cons (pv 3) (pa_cons (pv 1) pa_nil)))))
          (pss_one ps_never) pss_nil)
        (pss_cons (ps_aug (i := 2) scChkS.nd rfl (.inl rfl) pe_int ip_add)
        (pss_one (ps_if (pt_val (pe_call kR.G (hrm (by omega)) (by rfl) kR.g kR.F.kp kR.b .nil pass0 (pa_cons (pv 3) pa_nil)))
          (pss_one (ps_set (i := 2) scChkS.nd rfl (.inl rfl) (pe_call ih (hrm (by omega)) (by rfl) g F.kp b .nil pass0 (pa_cons (pe_ix (show IxR _ (rIx K) from ix_seq) (pv 3) pe_int (fun _ _ => rfl)) (pa_cons (pe_op op_add (pv 1) pe_int) (pa_cons (pv 2) pa_nil)))))) pss_nil))))))
      (pss_one (ps_ret (pv 2)))), ?_⟩
      refine for_kd (xs := xs) rfl (ob_kd ha) (fun i σ H' => (∃ y, σ = [some (.ref a), some (vi dep), some (vi (pos + nWrs (ss.take i))), y]) ∧ Same H H') ⟨⟨_, rfl⟩, Same.refl _⟩ (fun i σ H' _ h => ob_kd (h.2 _ _ ha)) ?_ ?_
      · rintro i v σ H' hv ⟨⟨y, rfl⟩, sm⟩
        obtain ⟨st, hst, hat⟩ := hss.get hv
        have hmem := List.mem_of_getElem? hst
        have hti := nWrs_take hst
        have htl := nWrs_take_le ss (i + 1)
        have hp := nWr_pos st
        have hat' := hat.same sm
        have wfs := wfs_mem wf hmem
        have hne := nests_mem hmem
        refine ⟨_, rfl, _, _, rfl, rfl, _, rfl, ?_⟩
        show if decide ((100 : Int) ≤ ((pos + nWrs (ss.take i) : Nat) : Int)) = true then _ else _
        rw [decide_eq_false (by omega)]
        refine iteF ⟨_, rfl, _, rfl, v, st, dep, rfl, hat', wfs, by omega, fun H1 s1 => ⟨_, rfl, iteF ?_⟩⟩
        refine ⟨_, rfl, _, _, rfl, rfl, ?_⟩
        refine ⟨_, rfl, v, st, _, rfl, hat'.same s1, wfs, fun H2 s2 => ⟨_, rfl, ?_⟩⟩
        have s02 := (sm.trans s1).trans s2
        cases st with
        | fnd z =>
          refine iteF ⟨⟨some v, ?_⟩, s02⟩
          rw [hti, nWr]; rfl
        | lnk c a =>
          refine iteF ⟨⟨some v, ?_⟩, s02⟩
          rw [hti, nWr]; rfl
        | rnd k kd2 s2' =>
          have h3 := hat'.same (s1.trans s2)
          cases h3 with
          | @rnd t b2 _ _ ys _ ht hb hsts =>
            rw [Wf] at wfs
            rw [nest] at hne
            rw [nWr] at hti
            refine iteT ⟨_, rfl, Sq.ix (.inr (SqT.of ht)) rfl ⟨_, rfl, _, _, rfl, rfl, _, rfl, nests s2', by omega, kd2, b2, ys, s2', dep + 1, pos + nWrs (ss.take i) + 1, rfl, hb, hsts, ?_, Nat.le_refl _, by omega, by omega, fun H3 s3 => ⟨⟨some (.ref t), ?_⟩, s02.trans s3⟩⟩⟩
            · rw [decide_eq_false (by omega)]; exact wfs.2.2
            · rw [hti, show pos + nWrs (ss.take i) + 1 + nWrs s2' = pos + (nWrs (ss.take i) + (1 + nWrs s2')) by omega]; rfl
      · rintro σ H' ⟨⟨y, rfl⟩, sm⟩
        rw [hss.len, List.take_length]
        exact ⟨_, rfl, q H' sm⟩
  induction n using Nat.strongRecOn with
  | _ n ih =>
    refine main n fun sp' h => ?_
    cases n with
    | zero => exact ⟨fun vs H Q E z => by obtain ⟨m, hm, _⟩ := h _ _ _ _ z; omega, fun A outer s H args us vs Q E hr e0 bb r z => by obtain ⟨m, hm, _⟩ := h _ _ _ _ z; omega⟩
    | succ n =>
      refine FnOk.imp (FnOk.mono (ih n (by omega)) (by omega)) fun vs H Q E z => ?_
      obtain ⟨m, hm, kd, a, xs, ss, dep, pos, e, h1, h2, h3, h4, h5⟩ := h _ _ _ _ z
      exact ⟨kd, a, xs, ss, dep, pos, e, h1, h2, h3, by omega, h5⟩
end
section
variable {P : Program} {w : World} {K : PySem.W.Frag} {mg : Str → Option Value} {base : Heap}
theorem ok_chkH {f fC : Addr} {fd fdC : FuncData} (F : Fun K "check_history" "check_history" sChkH f fd) (n : Nat) (kC : Kn P w K mg base (n + 4) "check_steps" sChkS ["steps", "depth", "pos"] (spChkS n) fC fdC) : FnOk P w K mg base CX0 (n + 5) f fd ["history"] (spChkH n) := by
  refine F.ok scChkH (fun vs H Q E h => ?_) (fun cdv A outer s H vs Q E hr h => ?_)
  · obtain ⟨kd, a, xs, ss, rfl, _⟩ := h
    rfl
  · obtain ⟨kd, a, xs, ss, rfl, ha, hss, wf, hn, hn4, hw, q⟩ := h
    have hrm : ∀ {j : Nat}, j ≤ n + 4 → Room j (A.deeper (envOfC "check_history" (defScope sChkH) s.heap.objs.size f cdv)) := fun h => hr.mono h
    refine ⟨_, (pss_one (ps_expr (pe_call kC.G (hrm (by omega)) (by rfl) kC.g kC.F.kp kC.b .nil pass0 (pa_cons (pv 0) (pa_cons pe_int (pa_cons pe_int pa_nil)))))), ?_⟩
    exact ⟨_, rfl, kd, a, xs, ss, 0, 0, rfl, ha, hss, wf, hn, by omega, by omega, fun H1 s1 => q H1 s1⟩
end
end Ff

namespace Ff
open PySem PySem.Spec PyProof.Rows L2 ExX LamX
abbrev sE_NoNode : Stmt := topS 19
theorem scE_NoNode : FnScope ["self", "node"] ["self", "node"] (defScope (initS sE_NoNode)) := ⟨rfl, rfl, rfl, by decide +kernel, rfl, by decide +kernel, by decide +kernel⟩
abbrev sE_NotRoot : Stmt := topS 7
theorem scE_NotRoot : FnScope ["self", "node"] ["self", "node"] (defScope (initS sE_NotRoot)) := ⟨rfl, rfl, rfl, by decide +kernel, rfl, by decide +kernel, by decide +kernel⟩
abbrev sE_SameRoot : Stmt := topS 8
theorem scE_SameRoot : FnScope ["self", "node"] ["self", "node"] (defScope (initS sE_SameRoot)) := ⟨rfl, rfl, rfl, by decide +kernel, rfl, by decide +kernel, by decide +kernel⟩
abbrev sE_TooManyNodes : Stmt := topS 6
theorem scE_TooManyNodes : FnScope ["self", "limit"] ["self", "limit"] (defScope (initS sE_TooManyNodes)) := ⟨rfl, rfl, rfl, by decide +kernel, rfl, by decide +kernel, by decide +kernel⟩
abbrev sE_BadParent : Stmt := topS 4
theorem scE_BadParent : FnScope ["self", "node"] ["self", "node"] (defScope (initS sE_BadParent)) := ⟨rfl, rfl, rfl, by decide +kernel, rfl, by decide +kernel, by decide +kernel⟩
abbrev sE_Cycle : Stmt := topS 5
theorem scE_Cycle : FnScope ["self", "node"] ["self", "node"] (defScope (initS sE_Cycle)) := ⟨rfl, rfl, rfl, by decide +kernel, rfl, by decide +kernel, by decide +kernel⟩
abbrev sE_SizesDiffer : Stmt := topS 9
theorem scE_SizesDiffer : FnScope ["self", "size"] ["self", "size"] (defScope (initS sE_SizesDiffer)) := ⟨rfl, rfl, rfl, by decide +kernel, rfl, by decide +kernel, by decide +kernel⟩
abbrev sE_RootsDiffer : Stmt := topS 10
theorem scE_RootsDiffer : FnScope ["self", "node"] ["self", "node"] (defScope (initS sE_RootsDiffer)) := ⟨rfl, rfl, rfl, by decide +kernel, rfl, by decide +kernel, by decide +kernel⟩
abbrev sE_NoWay : Stmt := topS 11
theorem scE_NoWay : FnScope ["self", "node"] ["self", "node"] (defScope (initS sE_NoWay)) := ⟨rfl, rfl, rfl, by decide +kernel, rfl, by decide +kernel, by decide +kernel⟩
abbrev sE_BadStep : Stmt := topS 12
theorem scE_BadStep : FnScope ["self", "pos"] ["self", "pos"] (defScope (initS sE_BadStep)) := ⟨rfl, rfl, rfl, by decide +kernel, rfl, by decide +kernel, by decide +kernel⟩
abbrev sE_TooLong : Stmt := topS 14
theorem scE_TooLong : FnScope ["self", "limit"] ["self", "limit"] (defScope (initS sE_TooLong)) := ⟨rfl, rfl, rfl, by decide +kernel, rfl, by decide +kernel, by decide +kernel⟩
abbrev sE_BadCount : Stmt := topS 13
theorem scE_BadCount : FnScope ["self", "count"] ["self", "count"] (defScope (initS sE_BadCount)) := ⟨rfl, rfl, rfl, by decide +kernel, rfl, by decide +kernel, by decide +kernel⟩
abbrev sE_TooManyForests : Stmt := topS 17
theorem scE_TooManyForests : FnScope ["self", "limit"] ["self", "limit"] (defScope (initS sE_TooManyForests)) := ⟨rfl, rfl, rfl, by decide +kernel, rfl, by decide +kernel, by decide +kernel⟩
abbrev sE_BadName : Stmt := topS 15
theorem scE_BadName : FnScope ["self", "name"] ["self", "name"] (defScope (initS sE_BadName)) := ⟨rfl, rfl, rfl, by decide +kernel, rfl, by decide +kernel, by decide +kernel⟩
abbrev sE_NameTaken : Stmt := topS 16
theorem scE_NameTaken : FnScope ["self", "name"] ["self", "name"] (defScope (initS sE_NameTaken)) := ⟨rfl, rfl, rfl, by decide +kernel, rfl, by decide +kernel, by decide +kernel⟩
abbrev sE_NoForest : Stmt := topS 20
theorem scE_NoForest : FnScope ["self", "name"] ["self", "name"] (defScope (initS sE_NoForest)) := ⟨rfl, rfl, rfl, by decide +kernel, rfl, by decide +kernel, by decide +kernel⟩
abbrev sE_BadCommand : Stmt := topS 18
theorem scE_BadCommand : FnScope ["self", "word"] ["self", "word"] (defScope (initS sE_BadCommand)) := ⟨rfl, rfl, rfl, by decide +kernel, rfl, by decide +kernel, by decide +kernel⟩
section
variable {P : Program} {w : World} {K : PySem.W.Frag} {mg : Str → Option Value} {base : Heap}
theorem ok_E_NoNode {f fM CM : Addr} {fd fdM : FuncData} (F : Fun K "__init__" "NoNode.__init__" (initS sE_NoNode) f fd) (TM : ClsI K CM fM) (gM : mg "Missing" = some (.ref CM)) (GM : FnOk P w K mg base CX0 1 fM fdM ["self", "tag", "message"] (spTop K "LookupError.__new__" luTail)) (bM : Binds K fdM ["self", "tag", "message"] []) :
    FnOk P w K mg base CX0 2 f fd ["self", "node"] (spErrI K "LookupError.__new__" luTail "node" "NoNode") := by
  refine F.ok scE_NoNode (fun vs H Q E h => ?_) (fun cdv A outer s H vs Q E hr h => ?_)
  · obtain ⟨a, C, v, rfl, _⟩ := h
    rfl
  · obtain ⟨a, C, v, rfl, ⟨i, rfl, hi⟩, ha, T, nt, nf, q⟩ := h
    refine ⟨_, pss_cons (ps_expr (pe_ci TM GM hr (by rfl) gM bM pass0 (pa_cons (pv 0) (pa_cons pe_str (pa_cons (pe_joined (.cons pe_str (.cons (pe_fmt (pv 1)) .nil))) pa_nil)))))
      (pss_one (ps_st (nid := "LookupError.__new__") PySem.F.store_LookupError (pv 0) (pv 1))), ?_⟩
    have f0 : (Str.empty ++ Str.ofString "there is no node ").length ≤ 100 := by decide +kernel
    refine ⟨_, rfl, ⟨_, rfl, fits (by omega), _, rfl, .inr ⟨i, rfl, hi, _, rfl, fits (Nat.le_trans (fits_cat f0 (txt_int hi)) (by decide)), ?_⟩⟩⟩
    refine ⟨a, C, _, _, rfl, ha, T, nt, fun dx n ne => ⟨_, rfl, _, rfl, a, C, rfl, T, nf, .inr ⟨dx, _, upd_same, ?_, by show 1 ≤ 900; decide, q dx n ne⟩⟩⟩
    rw [upd_ne ne, upd_same]
theorem ok_E_NotRoot {f fM CM : Addr} {fd fdM : FuncData} (F : Fun K "__init__" "NotRoot.__init__" (initS sE_NotRoot) f fd) (TM : ClsI K CM fM) (gM : mg "ForestError" = some (.ref CM)) (GM : FnOk P w K mg base CX0 1 fM fdM ["self", "tag", "message"] (spTop K "ValueError.__new__" vaTail)) (bM : Binds K fdM ["self", "tag", "message"] []) :
    FnOk P w K mg base CX0 2 f fd ["self", "node"] (spErrI K "ValueError.__new__" vaTail "node" "NotRoot") := by
  refine F.ok scE_NotRoot (fun vs H Q E h => ?_) (fun cdv A outer s H vs Q E hr h => ?_)
  · obtain ⟨a, C, v, rfl, _⟩ := h
    rfl
  · obtain ⟨a, C, v, rfl, ⟨i, rfl, hi⟩, ha, T, nt, nf, q⟩ := h
    refine ⟨_, pss_cons (ps_expr (pe_ci TM GM hr (by rfl) gM bM pass0 (pa_cons (pv 0) (pa_cons pe_str (pa_cons (pe_joined (.cons pe_str (.cons (pe_fmt (pv 1)) (.cons pe_str .nil)))) pa_nil)))))
      (pss_one (ps_st (nid := "ValueError.__new__") PySem.F.store_ValueError (pv 0) (pv 1))), ?_⟩
    have f0 : (Str.empty ++ Str.ofString "node ").length ≤ 100 := by decide +kernel
    have f1 : (Str.ofString " is no root").length ≤ 100 := by decide +kernel
    have l1 := fits_cat f0 (txt_int hi)
    refine ⟨_, rfl, ⟨_, rfl, fits (by omega), _, rfl, .inr ⟨i, rfl, hi, _, rfl, fits (Nat.le_trans l1 (by decide)), _, rfl, fits (Nat.le_trans (fits_cat l1 f1) (by decide)), ?_⟩⟩⟩
    refine ⟨a, C, _, _, rfl, ha, T, nt, fun dx n ne => ⟨_, rfl, _, rfl, a, C, rfl, T, nf, .inr ⟨dx, _, upd_same, ?_, by show 1 ≤ 900; decide, q dx n ne⟩⟩⟩
    rw [upd_ne ne, upd_same]
theorem ok_E_SameRoot {f fM CM : Addr} {fd fdM : FuncData} (F : Fun K "__init__" "SameRoot.__init__" (initS sE_SameRoot) f fd) (TM : ClsI K CM fM) (gM : mg "ForestError" = some (.ref CM)) (GM : FnOk P w K mg base CX0 1 fM fdM ["self", "tag", "message"] (spTop K "ValueError.__new__" vaTail)) (bM : Binds K fdM ["self", "tag", "message"] []) :
    FnOk P w K mg base CX0 2 f fd ["self", "node"] (spErrI K "ValueError.__new__" vaTail "node" "SameRoot") := by
  refine F.ok scE_SameRoot (fun vs H Q E h => ?_) (fun cdv A outer s H vs Q E hr h => ?_)
  · obtain ⟨a, C, v, rfl, _⟩ := h
    rfl
  · obtain ⟨a, C, v, rfl, ⟨i, rfl, hi⟩, ha, T, nt, nf, q⟩ := h
    refine ⟨_, pss_cons (ps_expr (pe_ci TM GM hr (by rfl) gM bM pass0 (pa_cons (pv 0) (pa_cons pe_str (pa_cons (pe_joined (.cons pe_str (.cons (pe_fmt (pv 1)) (.cons pe_str .nil)))) pa_nil)))))
      (pss_one (ps_st (nid := "ValueError.__new__") PySem.F.store_ValueError (pv 0) (pv 1))), ?_⟩
    have f0 : (Str.empty ++ Str.ofString "root ").length ≤ 100 := by decide +kernel
    have f1 : (Str.ofString " cannot be linked to itself").length ≤ 100 := by decide +kernel
    have l1 := fits_cat f0 (txt_int hi)
    refine ⟨_, rfl, ⟨_, rfl, fits (by omega), _, rfl, .inr ⟨i, rfl, hi, _, rfl, fits (Nat.le_trans l1 (by decide)), _, rfl, fits (Nat.le_trans (fits_cat l1 f1) (by decide)), ?_⟩⟩⟩
    refine ⟨a, C, _, _, rfl, ha, T, nt, fun dx n ne => ⟨_, rfl, _, rfl, a, C, rfl, T, nf, .inr ⟨dx, _, upd_same, ?_, by show 1 ≤ 900; decide, q dx n ne⟩⟩⟩
    rw [upd_ne ne, upd_same]
theorem ok_E_TooManyNodes {f fM CM : Addr} {fd fdM : FuncData} (F : Fun K "__init__" "TooManyNodes.__init__" (initS sE_TooManyNodes) f fd) (TM : ClsI K CM fM) (gM : mg "ForestError" = some (.ref CM)) (GM : FnOk P w K mg base CX0 1 fM fdM ["self", "tag", "message"] (spTop K "ValueError.__new__" vaTail)) (bM : Binds K fdM ["self", "tag", "message"] []) :
    FnOk P w K mg base CX0 2 f fd ["self", "limit"] (spErrI K "ValueError.__new__" vaTail "limit" "TooManyNodes") := by
  refine F.ok scE_TooManyNodes (fun vs H Q E h => ?_) (fun cdv A outer s H vs Q E hr h => ?_)
  · obtain ⟨a, C, v, rfl, _⟩ := h
    rfl
  · obtain ⟨a, C, v, rfl, ⟨i, rfl, hi⟩, ha, T, nt, nf, q⟩ := h
    refine ⟨_, pss_cons (ps_expr (pe_ci TM GM hr (by rfl) gM bM pass0 (pa_cons (pv 0) (pa_cons pe_str (pa_cons (pe_joined (.cons pe_str (.cons (pe_fmt (pv 1)) (.cons pe_str .nil)))) pa_nil)))))
      (pss_one (ps_st (nid := "ValueError.__new__") PySem.F.store_ValueError (pv 0) (pv 1))), ?_⟩
    have f0 : (Str.empty ++ Str.ofString "there are more than ").length ≤ 100 := by decide +kernel
    have f1 : (Str.ofString " nodes").length ≤ 100 := by decide +kernel
    have l1 := fits_cat f0 (txt_int hi)
    refine ⟨_, rfl, ⟨_, rfl, fits (by omega), _, rfl, .inr ⟨i, rfl, hi, _, rfl, fits (Nat.le_trans l1 (by decide)), _, rfl, fits (Nat.le_trans (fits_cat l1 f1) (by decide)), ?_⟩⟩⟩
    refine ⟨a, C, _, _, rfl, ha, T, nt, fun dx n ne => ⟨_, rfl, _, rfl, a, C, rfl, T, nf, .inr ⟨dx, _, upd_same, ?_, by show 1 ≤ 900; decide, q dx n ne⟩⟩⟩
    rw [upd_ne ne, upd_same]
theorem ok_E_BadParent {f fM CM : Addr} {fd fdM : FuncData} (F : Fun K "__init__" "BadParent.__init__" (initS sE_BadParent) f fd) (TM : ClsI K CM fM) (gM : mg "ForestError" = some (.ref CM)) (GM : FnOk P w K mg base CX0 1 fM fdM ["self", "tag", "message"] (spTop K "ValueError.__new__" vaTail)) (bM : Binds K fdM ["self", "tag", "message"] []) :
    FnOk P w K mg base CX0 2 f fd ["self", "node"] (spErrI K "ValueError.__new__" vaTail "node" "BadParent") := by
  refine F.ok scE_BadParent (fun vs H Q E h => ?_) (fun cdv A outer s H vs Q E hr h => ?_)
  · obtain ⟨a, C, v, rfl, _⟩ := h
    rfl
  · obtain ⟨a, C, v, rfl, ⟨i, rfl, hi⟩, ha, T, nt, nf, q⟩ := h
    refine ⟨_, pss_cons (ps_expr (pe_ci TM GM hr (by rfl) gM bM pass0 (pa_cons (pv 0) (pa_cons pe_str (pa_cons (pe_joined (.cons pe_str (.cons (pe_fmt (pv 1)) (.cons pe_str .nil)))) pa_nil)))))
      (pss_one (ps_st (nid := "ValueError.__new__") PySem.F.store_ValueError (pv 0) (pv 1))), ?_⟩
    have f0 : (Str.empty ++ Str.ofString "the parent of node ").length ≤ 100 := by decide +kernel
    have f1 : (Str.ofString " is no node").length ≤ 100 := by decide +kernel
    have l1 := fits_cat f0 (txt_int hi)
    refine ⟨_, rfl, ⟨_, rfl, fits (by omega), _, rfl, .inr ⟨i, rfl, hi, _, rfl, fits (Nat.le_trans l1 (by decide)), _, rfl, fits (Nat.le_trans (fits_cat l1 f1) (by decide)), ?_⟩⟩⟩
    refine ⟨a, C, _, _, rfl, ha, T, nt, fun dx n ne => ⟨_, rfl, _, rfl, a, C, rfl, T, nf, .inr ⟨dx, _, upd_same, ?_, by show 1 ≤ 900; decide, q dx n ne⟩⟩⟩
    rw [upd_ne ne, upd_same]
theorem ok_E_Cycle {f fM CM : Addr} {fd fdM : FuncData} (F : Fun K "__init__" "Cycle.__init__" (initS sE_Cycle) f fd) (TM : ClsI K CM fM) (gM : mg "ForestError" = some (.ref CM)) (GM : FnOk P w K mg base CX0 1 fM fdM ["self", "tag", "message"] (spTop K "ValueError.__new__" vaTail)) (bM : Binds K fdM ["self", "tag", "message"] []) :
    FnOk P w K mg base CX0 2 f fd ["self", "node"] (spErrI K "ValueError.__new__" vaTail "node" "Cycle") := by
  refine F.ok scE_Cycle (fun vs H Q E h => ?_) (fun cdv A outer s H vs Q E hr h => ?_)
  · obtain ⟨a, C, v, rfl, _⟩ := h
    rfl
  · obtain ⟨a, C, v, rfl, ⟨i, rfl, hi⟩, ha, T, nt, nf, q⟩ := h
    refine ⟨_, pss_cons (ps_expr (pe_ci TM GM hr (by rfl) gM bM pass0 (pa_cons (pv 0) (pa_cons pe_str (pa_cons (pe_joined (.cons pe_str (.cons (pe_fmt (pv 1)) (.cons pe_str .nil)))) pa_nil)))))
      (pss_one (ps_st (nid := "ValueError.__new__") PySem.F.store_ValueError (pv 0) (pv 1))), ?_⟩
    have f0 : (Str.empty ++ Str.ofString "the parents of node ").length ≤ 100 := by decide +kernel
    have f1 : (Str.ofString " do not lead to a root").length ≤ 100 := by decide +kernel
    have l1 := fits_cat f0 (txt_int hi)
    refine ⟨_, rfl, ⟨_, rfl, fits (by omega), _, rfl, .inr ⟨i, rfl, hi, _, rfl, fits (Nat.le_trans l1 (by decide)), _, rfl, fits (Nat.le_trans (fits_cat l1 f1) (by decide)), ?_⟩⟩⟩
    refine ⟨a, C, _, _, rfl, ha, T, nt, fun dx n ne => ⟨_, rfl, _, rfl, a, C, rfl, T, nf, .inr ⟨dx, _, upd_same, ?_, by show 1 ≤ 900; decide, q dx n ne⟩⟩⟩
    rw [upd_ne ne, upd_same]
theorem ok_E_SizesDiffer {f fM CM : Addr} {fd fdM : FuncData} (F : Fun K "__init__" "SizesDiffer.__init__" (initS sE_SizesDiffer) f fd) (TM : ClsI K CM fM) (gM : mg "ForestError" = some (.ref CM)) (GM : FnOk P w K mg base CX0 1 fM fdM ["self", "tag", "message"] (spTop K "ValueError.__new__" vaTail)) (bM : Binds K fdM ["self", "tag", "message"] []) :
    FnOk P w K mg base CX0 2 f fd ["self", "size"] (spErrI K "ValueError.__new__" vaTail "size" "SizesDiffer") := by
  refine F.ok scE_SizesDiffer (fun vs H Q E h => ?_) (fun cdv A outer s H vs Q E hr h => ?_)
  · obtain ⟨a, C, v, rfl, _⟩ := h
    rfl
  · obtain ⟨a, C, v, rfl, ⟨i, rfl, hi⟩, ha, T, nt, nf, q⟩ := h
    refine ⟨_, pss_cons (ps_expr (pe_ci TM GM hr (by rfl) gM bM pass0 (pa_cons (pv 0) (pa_cons pe_str (pa_cons (pe_joined (.cons pe_str (.cons (pe_fmt (pv 1)) (.cons pe_str .nil)))) pa_nil)))))
      (pss_one (ps_st (nid := "ValueError.__new__") PySem.F.store_ValueError (pv 0) (pv 1))), ?_⟩
    have f0 : (Str.empty ++ Str.ofString "the other forest has ").length ≤ 100 := by decide +kernel
    have f1 : (Str.ofString " nodes").length ≤ 100 := by decide +kernel
    have l1 := fits_cat f0 (txt_int hi)
    refine ⟨_, rfl, ⟨_, rfl, fits (by omega), _, rfl, .inr ⟨i, rfl, hi, _, rfl, fits (Nat.le_trans l1 (by decide)), _, rfl, fits (Nat.le_trans (fits_cat l1 f1) (by decide)), ?_⟩⟩⟩
    refine ⟨a, C, _, _, rfl, ha, T, nt, fun dx n ne => ⟨_, rfl, _, rfl, a, C, rfl, T, nf, .inr ⟨dx, _, upd_same, ?_, by show 1 ≤ 900; decide, q dx n ne⟩⟩⟩
    rw [upd_ne ne, upd_same]
theorem ok_E_RootsDiffer {f fM CM : Addr} {fd fdM : FuncData} (F : Fun K "__init__" "RootsDiffer.__init__" (initS sE_RootsDiffer) f fd) (TM : ClsI K CM fM) (gM : mg "ForestError" = some (.ref CM)) (GM : FnOk P w K mg base CX0 1 fM fdM ["self", "tag", "message"] (spTop K "ValueError.__new__" vaTail)) (bM : Binds K fdM ["self", "tag", "message"] []) :
    FnOk P w K mg base CX0 2 f fd ["self", "node"] (spErrI K "ValueError.__new__" vaTail "node" "RootsDiffer") := by
  refine F.ok scE_RootsDiffer (fun vs H Q E h => ?_) (fun cdv A outer s H vs Q E hr h => ?_)
  · obtain ⟨a, C, v, rfl, _⟩ := h
    rfl
  · obtain ⟨a, C, v, rfl, ⟨i, rfl, hi⟩, ha, T, nt, nf, q⟩ := h
    refine ⟨_, pss_cons (ps_expr (pe_ci TM GM hr (by rfl) gM bM pass0 (pa_cons (pv 0) (pa_cons pe_str (pa_cons (pe_joined (.cons pe_str (.cons (pe_fmt (pv 1)) (.cons pe_str .nil)))) pa_nil)))))
      (pss_one (ps_st (nid := "ValueError.__new__") PySem.F.store_ValueError (pv 0) (pv 1))), ?_⟩
    have f0 : (Str.empty ++ Str.ofString "node ").length ≤ 100 := by decide +kernel
    have f1 : (Str.ofString " is a root in only one of the forests").length ≤ 100 := by decide +kernel
    have l1 := fits_cat f0 (txt_int hi)
    refine ⟨_, rfl, ⟨_, rfl, fits (by omega), _, rfl, .inr ⟨i, rfl, hi, _, rfl, fits (Nat.le_trans l1 (by decide)), _, rfl, fits (Nat.le_trans (fits_cat l1 f1) (by decide)), ?_⟩⟩⟩
    refine ⟨a, C, _, _, rfl, ha, T, nt, fun dx n ne => ⟨_, rfl, _, rfl, a, C, rfl, T, nf, .inr ⟨dx, _, upd_same, ?_, by show 1 ≤ 900; decide, q dx n ne⟩⟩⟩
    rw [upd_ne ne, upd_same]
theorem ok_E_NoWay {f fM CM : Addr} {fd fdM : FuncData} (F : Fun K "__init__" "NoWay.__init__" (initS sE_NoWay) f fd) (TM : ClsI K CM fM) (gM : mg "ForestError" = some (.ref CM)) (GM : FnOk P w K mg base CX0 1 fM fdM ["self", "tag", "message"] (spTop K "ValueError.__new__" vaTail)) (bM : Binds K fdM ["self", "tag", "message"] []) :
    FnOk P w K mg base CX0 2 f fd ["self", "node"] (spErrI K "ValueError.__new__" vaTail "node" "NoWay") := by
  refine F.ok scE_NoWay (fun vs H Q E h => ?_) (fun cdv A outer s H vs Q E hr h => ?_)
  · obtain ⟨a, C, v, rfl, _⟩ := h
    rfl
  · obtain ⟨a, C, v, rfl, ⟨i, rfl, hi⟩, ha, T, nt, nf, q⟩ := h
    refine ⟨_, pss_cons (ps_expr (pe_ci TM GM hr (by rfl) gM bM pass0 (pa_cons (pv 0) (pa_cons pe_str (pa_cons (pe_joined (.cons pe_str (.cons (pe_fmt (pv 1)) .nil))) pa_nil)))))
      (pss_one (ps_st (nid := "ValueError.__new__") PySem.F.store_ValueError (pv 0) (pv 1))), ?_⟩
    have f0 : (Str.empty ++ Str.ofString "the way is barred at node ").length ≤ 100 := by decide +kernel
    refine ⟨_, rfl, ⟨_, rfl, fits (by omega), _, rfl, .inr ⟨i, rfl, hi, _, rfl, fits (Nat.le_trans (fits_cat f0 (txt_int hi)) (by decide)), ?_⟩⟩⟩
    refine ⟨a, C, _, _, rfl, ha, T, nt, fun dx n ne => ⟨_, rfl, _, rfl, a, C, rfl, T, nf, .inr ⟨dx, _, upd_same, ?_, by show 1 ≤ 900; decide, q dx n ne⟩⟩⟩
    rw [upd_ne ne, upd_same]
theorem ok_E_BadStep {f fM CM : Addr} {fd fdM : FuncData} (F : Fun K "__init__" "BadStep.__init__" (initS sE_BadStep) f fd) (TM : ClsI K CM fM) (gM : mg "ForestError" = some (.ref CM)) (GM : FnOk P w K mg base CX0 1 fM fdM ["self", "tag", "message"] (spTop K "ValueError.__new__" vaTail)) (bM : Binds K fdM ["self", "tag", "message"] []) :
    FnOk P w K mg base CX0 2 f fd ["self", "pos"] (spErrI K "ValueError.__new__" vaTail "pos" "BadStep") := by
  refine F.ok scE_BadStep (fun vs H Q E h => ?_) (fun cdv A outer s H vs Q E hr h => ?_)
  · obtain ⟨a, C, v, rfl, _⟩ := h
    rfl
  · obtain ⟨a, C, v, rfl, ⟨i, rfl, hi⟩, ha, T, nt, nf, q⟩ := h
    refine ⟨_, pss_cons (ps_expr (pe_ci TM GM hr (by rfl) gM bM pass0 (pa_cons (pv 0) (pa_cons pe_str (pa_cons (pe_joined (.cons pe_str (.cons (pe_fmt (pv 1)) (.cons pe_str .nil)))) pa_nil)))))
      (pss_one (ps_st (nid := "ValueError.__new__") PySem.F.store_ValueError (pv 0) (pv 1))), ?_⟩
    have f0 : (Str.empty ++ Str.ofString "the step at position ").length ≤ 100 := by decide +kernel
    have f1 : (Str.ofString " is none of a history").length ≤ 100 := by decide +kernel
    have l1 := fits_cat f0 (txt_int hi)
    refine ⟨_, rfl, ⟨_, rfl, fits (by omega), _, rfl, .inr ⟨i, rfl, hi, _, rfl, fits (Nat.le_trans l1 (by decide)), _, rfl, fits (Nat.le_trans (fits_cat l1 f1) (by decide)), ?_⟩⟩⟩
    refine ⟨a, C, _, _, rfl, ha, T, nt, fun dx n ne => ⟨_, rfl, _, rfl, a, C, rfl, T, nf, .inr ⟨dx, _, upd_same, ?_, by show 1 ≤ 900; decide, q dx n ne⟩⟩⟩
    rw [upd_ne ne, upd_same]
theorem ok_E_TooLong {f fM CM : Addr} {fd fdM : FuncData} (F : Fun K "__init__" "TooLong.__init__" (initS sE_TooLong) f fd) (TM : ClsI K CM fM) (gM : mg "ForestError" = some (.ref CM)) (GM : FnOk P w K mg base CX0 1 fM fdM ["self", "tag", "message"] (spTop K "ValueError.__new__" vaTail)) (bM : Binds K fdM ["self", "tag", "message"] []) :
    FnOk P w K mg base CX0 2 f fd ["self", "limit"] (spErrI K "ValueError.__new__" vaTail "limit" "TooLong") := by
  refine F.ok scE_TooLong (fun vs H Q E h => ?_) (fun cdv A outer s H vs Q E hr h => ?_)
  · obtain ⟨a, C, v, rfl, _⟩ := h
    rfl
  · obtain ⟨a, C, v, rfl, ⟨i, rfl, hi⟩, ha, T, nt, nf, q⟩ := h
    refine ⟨_, pss_cons (ps_expr (pe_ci TM GM hr (by rfl) gM bM pass0 (pa_cons (pv 0) (pa_cons pe_str (pa_cons (pe_joined (.cons pe_str (.cons (pe_fmt (pv 1)) .nil))) pa_nil)))))
      (pss_one (ps_st (nid := "ValueError.__new__") PySem.F.store_ValueError (pv 0) (pv 1))), ?_⟩
    have f0 : (Str.empty ++ Str.ofString "the length is greater than ").length ≤ 100 := by decide +kernel
    refine ⟨_, rfl, ⟨_, rfl, fits (by omega), _, rfl, .inr ⟨i, rfl, hi, _, rfl, fits (Nat.le_trans (fits_cat f0 (txt_int hi)) (by decide)), ?_⟩⟩⟩
    refine ⟨a, C, _, _, rfl, ha, T, nt, fun dx n ne => ⟨_, rfl, _, rfl, a, C, rfl, T, nf, .inr ⟨dx, _, upd_same, ?_, by show 1 ≤ 900; decide, q dx n ne⟩⟩⟩
    rw [upd_ne ne, upd_same]
theorem ok_E_BadCount {f fM CM : Addr} {fd fdM : FuncData} (F : Fun K "__init__" "BadCount.__init__" (initS sE_BadCount) f fd) (TM : ClsI K CM fM) (gM : mg "ForestError" = some (.ref CM)) (GM : FnOk P w K mg base CX0 1 fM fdM ["self", "tag", "message"] (spTop K "ValueError.__new__" vaTail)) (bM : Binds K fdM ["self", "tag", "message"] []) :
    FnOk P w K mg base CX0 2 f fd ["self", "count"] (spErrI K "ValueError.__new__" vaTail "count" "BadCount") := by
  refine F.ok scE_BadCount (fun vs H Q E h => ?_) (fun cdv A outer s H vs Q E hr h => ?_)
  · obtain ⟨a, C, v, rfl, _⟩ := h
    rfl
  · obtain ⟨a, C, v, rfl, ⟨i, rfl, hi⟩, ha, T, nt, nf, q⟩ := h
    refine ⟨_, pss_cons (ps_expr (pe_ci TM GM hr (by rfl) gM bM pass0 (pa_cons (pv 0) (pa_cons pe_str (pa_cons (pe_joined (.cons (pe_fmt (pv 1)) (.cons pe_str .nil))) pa_nil)))))
      (pss_one (ps_st (nid := "ValueError.__new__") PySem.F.store_ValueError (pv 0) (pv 1))), ?_⟩
    have f0 : Str.empty.length ≤ 100 := by decide +kernel
    have f1 : (Str.ofString " is not an allowed count").length ≤ 100 := by decide +kernel
    have l1 := fits_cat f0 (txt_int hi)
    refine ⟨_, rfl, ⟨_, rfl, .inr ⟨i, rfl, hi, _, rfl, fits (Nat.le_trans l1 (by decide)), _, rfl, fits (Nat.le_trans (fits_cat l1 f1) (by decide)), ?_⟩⟩⟩
    refine ⟨a, C, _, _, rfl, ha, T, nt, fun dx n ne => ⟨_, rfl, _, rfl, a, C, rfl, T, nf, .inr ⟨dx, _, upd_same, ?_, by show 1 ≤ 900; decide, q dx n ne⟩⟩⟩
    rw [upd_ne ne, upd_same]
theorem ok_E_TooManyForests {f fM CM : Addr} {fd fdM : FuncData} (F : Fun K "__init__" "TooManyForests.__init__" (initS sE_TooManyForests) f fd) (TM : ClsI K CM fM) (gM : mg "ForestError" = some (.ref CM)) (GM : FnOk P w K mg base CX0 1 fM fdM ["self", "tag", "message"] (spTop K "ValueError.__new__" vaTail)) (bM : Binds K fdM ["self", "tag", "message"] []) :
    FnOk P w K mg base CX0 2 f fd ["self", "limit"] (spErrI K "ValueError.__new__" vaTail "limit" "TooManyForests") := by
  refine F.ok scE_TooManyForests (fun vs H Q E h => ?_) (fun cdv A outer s H vs Q E hr h => ?_)
  · obtain ⟨a, C, v, rfl, _⟩ := h
    rfl
  · obtain ⟨a, C, v, rfl, ⟨i, rfl, hi⟩, ha, T, nt, nf, q⟩ := h
    refine ⟨_, pss_cons (ps_expr (pe_ci TM GM hr (by rfl) gM bM pass0 (pa_cons (pv 0) (pa_cons pe_str (pa_cons (pe_joined (.cons pe_str (.cons (pe_fmt (pv 1)) (.cons pe_str .nil)))) pa_nil)))))
      (pss_one (ps_st (nid := "ValueError.__new__") PySem.F.store_ValueError (pv 0) (pv 1))), ?_⟩
    have f0 : (Str.empty ++ Str.ofString "there are ").length ≤ 100 := by decide +kernel
    have f1 : (Str.ofString " forests already").length ≤ 100 := by decide +kernel
    have l1 := fits_cat f0 (txt_int hi)
    refine ⟨_, rfl, ⟨_, rfl, fits (by omega), _, rfl, .inr ⟨i, rfl, hi, _, rfl, fits (Nat.le_trans l1 (by decide)), _, rfl, fits (Nat.le_trans (fits_cat l1 f1) (by decide)), ?_⟩⟩⟩
    refine ⟨a, C, _, _, rfl, ha, T, nt, fun dx n ne => ⟨_, rfl, _, rfl, a, C, rfl, T, nf, .inr ⟨dx, _, upd_same, ?_, by show 1 ≤ 900; decide, q dx n ne⟩⟩⟩
    rw [upd_ne ne, upd_same]
theorem ok_E_BadName {f fM CM : Addr} {fd fdM : FuncData} (F : Fun K "__init__" "BadName.__init__" (initS sE_BadName) f fd) (TM : ClsI K CM fM) (gM : mg "ForestError" = some (.ref CM)) (GM : FnOk P w K mg base CX0 1 fM fdM ["self", "tag", "message"] (spTop K "ValueError.__new__" vaTail)) (bM : Binds K fdM ["self", "tag", "message"] []) :
    FnOk P w K mg base CX0 2 f fd ["self", "name"] (spErrV PtR K "ValueError.__new__" vaTail "name" "BadName") := by
  refine F.ok scE_BadName (fun vs H Q E h => ?_) (fun cdv A outer s H vs Q E hr h => ?_)
  · obtain ⟨a, C, v, rfl, _⟩ := h
    rfl
  · obtain ⟨a, C, v, rfl, hp, ha, T, nt, nf, q⟩ := h
    refine ⟨_, pss_cons (ps_expr (pe_ci TM GM hr (by rfl) gM bM pass0 (pa_cons (pv 0) (pa_cons pe_str (pa_cons (pe_joined (.cons (pe_fmtR (pv 1)) (.cons pe_str .nil))) pa_nil)))))
      (pss_one (ps_st (nid := "ValueError.__new__") PySem.F.store_ValueError (pv 0) (pv 1))), ?_⟩
    obtain ⟨z, rfl, hz⟩ := hp
    have f0 : Str.empty.length ≤ 100 := by decide +kernel
    have f1 : (Str.ofString " is no name").length ≤ 100 := by decide +kernel
    have l1 := fits_cat f0 hz
    refine ⟨_, rfl, ⟨_, rfl, .inl ⟨z, rfl, fits (by omega), _, rfl, fits (Nat.le_trans l1 (by decide)), _, rfl, fits (Nat.le_trans (fits_cat l1 f1) (by decide)), ?_⟩⟩⟩
    refine ⟨a, C, _, _, rfl, ha, T, nt, fun dx n ne => ⟨_, rfl, _, rfl, a, C, rfl, T, nf, .inr ⟨dx, _, upd_same, ?_, by show 1 ≤ 900; decide, q dx n ne⟩⟩⟩
    rw [upd_ne ne, upd_same]
theorem ok_E_NameTaken {f fM CM : Addr} {fd fdM : FuncData} (F : Fun K "__init__" "NameTaken.__init__" (initS sE_NameTaken) f fd) (TM : ClsI K CM fM) (gM : mg "ForestError" = some (.ref CM)) (GM : FnOk P w K mg base CX0 1 fM fdM ["self", "tag", "message"] (spTop K "ValueError.__new__" vaTail)) (bM : Binds K fdM ["self", "tag", "message"] []) :
    FnOk P w K mg base CX0 2 f fd ["self", "name"] (spErrV PtS K "ValueError.__new__" vaTail "name" "NameTaken") := by
  refine F.ok scE_NameTaken (fun vs H Q E h => ?_) (fun cdv A outer s H vs Q E hr h => ?_)
  · obtain ⟨a, C, v, rfl, _⟩ := h
    rfl
  · obtain ⟨a, C, v, rfl, hp, ha, T, nt, nf, q⟩ := h
    refine ⟨_, pss_cons (ps_expr (pe_ci TM GM hr (by rfl) gM bM pass0 (pa_cons (pv 0) (pa_cons pe_str (pa_cons (pe_joined (.cons pe_str (.cons (pe_fmt (pv 1)) (.cons pe_str .nil)))) pa_nil)))))
      (pss_one (ps_st (nid := "ValueError.__new__") PySem.F.store_ValueError (pv 0) (pv 1))), ?_⟩
    obtain ⟨z, rfl, hz⟩ := hp
    have f0 : (Str.empty ++ Str.ofString "there is a forest called ").length ≤ 100 := by decide +kernel
    have f1 : (Str.ofString " already").length ≤ 100 := by decide +kernel
    have l1 := fits_cat f0 hz
    refine ⟨_, rfl, ⟨_, rfl, fits (by omega), _, rfl, .inl ⟨z, rfl, fits (by omega), _, rfl, fits (Nat.le_trans l1 (by decide)), _, rfl, fits (Nat.le_trans (fits_cat l1 f1) (by decide)), ?_⟩⟩⟩
    refine ⟨a, C, _, _, rfl, ha, T, nt, fun dx n ne => ⟨_, rfl, _, rfl, a, C, rfl, T, nf, .inr ⟨dx, _, upd_same, ?_, by show 1 ≤ 900; decide, q dx n ne⟩⟩⟩
    rw [upd_ne ne, upd_same]
theorem ok_E_NoForest {f fM CM : Addr} {fd fdM : FuncData} (F : Fun K "__init__" "NoForest.__init__" (initS sE_NoForest) f fd) (TM : ClsI K CM fM) (gM : mg "Missing" = some (.ref CM)) (GM : FnOk P w K mg base CX0 1 fM fdM ["self", "tag", "message"] (spTop K "LookupError.__new__" luTail)) (bM : Binds K fdM ["self", "tag", "message"] []) :
    FnOk P w K mg base CX0 2 f fd ["self", "name"] (spErrV PtS K "LookupError.__new__" luTail "name" "NoForest") := by
  refine F.ok scE_NoForest (fun vs H Q E h => ?_) (fun cdv A outer s H vs Q E hr h => ?_)
  · obtain ⟨a, C, v, rfl, _⟩ := h
    rfl
  · obtain ⟨a, C, v, rfl, hp, ha, T, nt, nf, q⟩ := h
    refine ⟨_, pss_cons (ps_expr (pe_ci TM GM hr (by rfl) gM bM pass0 (pa_cons (pv 0) (pa_cons pe_str (pa_cons (pe_joined (.cons pe_str (.cons (pe_fmt (pv 1)) .nil))) pa_nil)))))
      (pss_one (ps_st (nid := "LookupError.__new__") PySem.F.store_LookupError (pv 0) (pv 1))), ?_⟩
    obtain ⟨z, rfl, hz⟩ := hp
    have f0 : (Str.empty ++ Str.ofString "there is no forest called ").length ≤ 100 := by decide +kernel
    refine ⟨_, rfl, ⟨_, rfl, fits (by omega), _, rfl, .inl ⟨z, rfl, fits (by omega), _, rfl, fits (Nat.le_trans (fits_cat f0 hz) (by decide)), ?_⟩⟩⟩
    refine ⟨a, C, _, _, rfl, ha, T, nt, fun dx n ne => ⟨_, rfl, _, rfl, a, C, rfl, T, nf, .inr ⟨dx, _, upd_same, ?_, by show 1 ≤ 900; decide, q dx n ne⟩⟩⟩
    rw [upd_ne ne, upd_same]
theorem ok_E_BadCommand {f fM CM : Addr} {fd fdM : FuncData} (F : Fun K "__init__" "BadCommand.__init__" (initS sE_BadCommand) f fd) (TM : ClsI K CM fM) (gM : mg "ForestError" = some (.ref CM)) (GM : FnOk P w K mg base CX0 1 fM fdM ["self", "tag", "message"] (spTop K "ValueError.__new__" vaTail)) (bM : Binds K fdM ["self", "tag", "message"] []) :
    FnOk P w K mg base CX0 2 f fd ["self", "word"] (spErrV PtN K "ValueError.__new__" vaTail "word" "BadCommand") := by
  refine F.ok scE_BadCommand (fun vs H Q E h => ?_) (fun cdv A outer s H vs Q E hr h => ?_)
  · obtain ⟨a, C, v, rfl, _⟩ := h
    rfl
  · obtain ⟨a, C, v, rfl, hp, ha, T, nt, nf, q⟩ := h
    refine ⟨_, pss_cons (ps_expr (pe_ci TM GM hr (by rfl) gM bM pass0 (pa_cons (pv 0) (pa_cons pe_str (pa_cons (pe_joined (.cons (pe_fmtN (pv 1)) (.cons pe_str .nil))) pa_nil)))))
      (pss_one (ps_st (nid := "ValueError.__new__") PySem.F.store_ValueError (pv 0) (pv 1))), ?_⟩
    rcases hp with rfl | ⟨z, rfl, hz⟩
    · have hz : ("None" : Str).length ≤ 100 := by decide +kernel
      have f0 : Str.empty.length ≤ 100 := by decide +kernel
      have f1 : (Str.ofString " begins no command of this form").length ≤ 100 := by decide +kernel
      have l1 := fits_cat f0 hz
      refine ⟨_, rfl, ⟨_, rfl, .inl ⟨rfl, _, rfl, fits (Nat.le_trans l1 (by decide)), _, rfl, fits (Nat.le_trans (fits_cat l1 f1) (by decide)), ?_⟩⟩⟩
      refine ⟨a, C, _, _, rfl, ha, T, nt, fun dx n ne => ⟨_, rfl, _, rfl, a, C, rfl, T, nf, .inr ⟨dx, _, upd_same, ?_, by show 1 ≤ 900; decide, q dx n ne⟩⟩⟩
      rw [upd_ne ne, upd_same]
    · have f0 : Str.empty.length ≤ 100 := by decide +kernel
      have f1 : (Str.ofString " begins no command of this form").length ≤ 100 := by decide +kernel
      have l1 := fits_cat f0 hz
      refine ⟨_, rfl, ⟨_, rfl, .inr (.inl ⟨z, rfl, fits (by omega), _, rfl, fits (Nat.le_trans l1 (by decide)), _, rfl, fits (Nat.le_trans (fits_cat l1 f1) (by decide)), ?_⟩)⟩⟩
      refine ⟨a, C, _, _, rfl, ha, T, nt, fun dx n ne => ⟨_, rfl, _, rfl, a, C, rfl, T, nf, .inr ⟨dx, _, upd_same, ?_, by show 1 ≤ 900; decide, q dx n ne⟩⟩⟩
      rw [upd_ne ne, upd_same]
end
end Ff

namespace Ff
open PySem PySem.Spec PyProof.Rows L2 ExX LamX
abbrev sLow : Stmt := topS 50
abbrev lowN : List Str := ["forest", "steps", "total", "step"]
theorem scLow : FnScope lowN ["forest", "steps"] (defScope sLow) := ⟨rfl, rfl, rfl, by decide +kernel, rfl, by decide +kernel, by decide +kernel⟩
abbrev sRunR : Stmt := topS 51
abbrev runRN : List Str := ["forest", "step", "after", "cost"]
theorem scRunR : FnScope runRN ["forest", "step"] (defScope sRunR) := ⟨rfl, rfl, rfl, by decide +kernel, rfl, by decide +kernel, by decide +kernel⟩
abbrev sRunS : Stmt := topS 52
abbrev runSN : List Str := ["forest", "steps", "total", "step", "cost"]
theorem scRunS : FnScope runSN ["forest", "steps"] (defScope sRunS) := ⟨rfl, rfl, rfl, by decide +kernel, rfl, by decide +kernel, by decide +kernel⟩
abbrev sRunH : Stmt := topS 53
abbrev runHN : List Str := ["forest", "history"]
theorem scRunH : FnScope runHN ["forest", "history"] (defScope sRunH) := ⟨rfl, rfl, rfl, by decide +kernel, rfl, by decide +kernel, by decide +kernel⟩
mutual
/-- ints that can be printed -/
def Sml : Stp → Prop
  | .fnd z => z.natAbs.log2 < 1920
  | .lnk c a => c.natAbs.log2 < 1920 ∧ a.natAbs.log2 < 1920
  | .rnd _ _ ss => Smls ss
def Smls : List Stp → Prop
  | [] => True
  | s :: r => Sml s ∧ Smls r
end
theorem smls_mem : ∀ {l : List Stp} {s : Stp}, Smls l → s ∈ l → Sml s
  | x :: l, s, w, h => by
    rw [Smls] at w
    rcases List.mem_cons.mp h with e | h
    · rw [e]; exact w.1
    · exact smls_mem w.2 h
theorem smls_of : ∀ {l : List Stp}, (∀ s ∈ l, Sml s) → Smls l
  | [], _ => by rw [Smls]; trivial
  | x :: l, h => by
    rw [Smls]
    exact ⟨h x List.mem_cons_self, smls_of fun s hs => h s (List.mem_cons_of_mem _ hs)⟩
def ErO (CN CR CS : Addr) (H : Hp) (E : XK) : Er → Prop
  | .no z => Flies H E CN "node" "NoNode" (.int z)
  | .nr z => Flies H E CR "node" "NotRoot" (.int z)
  | .sr z => Flies H E CS "node" "SameRoot" (.int z)
theorem ErO.same {CN CR CS : Addr} {H H1 : Hp} {E : XK} {e : Er} (h : ErO CN CR CS H E e) (s : Same H H1) : ErO CN CR CS H1 E e := by
  cases e with
  | no z => exact Flies.same h s
  | nr z => exact Flies.same h s
  | sr z => exact Flies.same h s
def RunO (K : PySem.W.Frag) (CN CR CS : Addr) (n : Nat) (H : Hp) (Q : VK) (E : XK) : Rs ((Nat → Nat) × Int) → Prop
  | .er e => ErO CN CR CS H E e
  | .ok (q, c) => ∀ (t g : Addr) H', H t = none → H' t = some (.tup [.ref g, .int c]) → SqT K H' g (tupOf n q) → Same H H' → Q (.ref t) H'
theorem RunO.same {K : PySem.W.Frag} {CN CR CS : Addr} {n : Nat} {H H1 : Hp} {Q : VK} {E : XK} {r : Rs ((Nat → Nat) × Int)} (h : RunO K CN CR CS n H Q E r) (s : Same H H1) : RunO K CN CR CS n H1 Q E r := by
  cases r with
  | er e => exact ErO.same h s
  | ok a => obtain ⟨q, c⟩ := a; exact fun t g H' nt ht hg s' => h t g H' (sm_none s nt) ht hg (s.trans s')
def spLow (K : PySem.W.Frag) (m : Nat) : Sp := fun vs H Q _ => ∃ (kd : Bool) (a b : Addr) (xs : List V) (ss : List Stp) (n : Nat) (p : Nat → Nat), vs = [.ref a, .ref b] ∧ SqT K H a (tupOf n p) ∧ H b = some (ob kd xs) ∧ StsAt H xs ss ∧ Wfs false ss ∧ nests ss ≤ m ∧ nests ss ≤ 10 ∧ nWrs ss ≤ 1000 ∧ InXs n ss ∧ ∀ H', Same H H' → Q (.int (lows p ss)) H'
def spRunR (K : PySem.W.Frag) (CN CR CS : Addr) (m : Nat) : Sp := fun vs H Q E => ∃ (a : Addr) (v : V) (k : Int) (kd : Bool) (ss : List Stp) (n : Nat) (p r : Nat → Nat), vs = [.ref a, v] ∧ SqT K H a (tupOf n p) ∧ n ≤ 60 ∧ Fo n p r ∧ StAt H v (.rnd k kd ss) ∧ Wf true (.rnd k kd ss) ∧ nests ss + 1 ≤ m ∧ nests ss ≤ 9 ∧ nWrs ss ≤ 1000 ∧ Smls ss ∧ RunO K CN CR CS n H Q E (stepR n (.rnd k kd ss) p)
def spRunS (K : PySem.W.Frag) (CN CR CS : Addr) (m : Nat) : Sp := fun vs H Q E => ∃ (kd : Bool) (a b : Addr) (xs : List V) (ss : List Stp) (n : Nat) (p r : Nat → Nat) (top : Bool), vs = [.ref a, .ref b] ∧ SqT K H a (tupOf n p) ∧ n ≤ 60 ∧ Fo n p r ∧ H b = some (ob kd xs) ∧ StsAt H xs ss ∧ Wfs top ss ∧ nests ss ≤ m ∧ nests ss ≤ 10 ∧ nWrs ss ≤ 1000 ∧ Smls ss ∧ RunO K CN CR CS n H Q E (stepsR n ss p)
def spRunH (K : PySem.W.Frag) (CN CR CS : Addr) (m : Nat) : Sp := fun vs H Q E => ∃ (kd : Bool) (a b : Addr) (xs : List V) (ss : List Stp) (n : Nat) (p r : Nat → Nat), vs = [.ref a, .ref b] ∧ SqT K H a (tupOf n p) ∧ n ≤ 60 ∧ Fo n p r ∧ H b = some (ob kd xs) ∧ StsAt H xs ss ∧ Wfs true ss ∧ nests ss ≤ m ∧ m ≤ 4 ∧ nWrs ss ≤ 100 ∧ Smls ss ∧ RunO K CN CR CS n H Q E (stepsR n ss p)
theorem wf_top {top : Bool} {k : Int} {kd : Bool} {ss : List Stp} (h : Wf top (.rnd k kd ss)) : Wf true (.rnd k kd ss) := by
  rw [Wf] at h ⊢
  exact h
theorem lows_bits {top : Bool} {p : Nat → Nat} {ss : List Stp} (w : Wfs top ss) (hn : nests ss ≤ 10) (hw : nWrs ss ≤ 1000) : (lows p ss).natAbs < 2 ^ 1011 := by
  obtain ⟨h0, h1⟩ := lows_le p ss w
  exact wide_le h0 h1 (nFnds_bits w hn hw)
section
variable {P : Program} {w : World} {K : PySem.W.Frag} {mg : Str → Option Value} {base : Heap}
theorem ok_low {f fF : Addr} {fd fdF : FuncData} (F : Fun K "lower_finds" "lower_finds" sLow f fd) (kF : Kn P w K mg base 1 "is_find" sIsFnd ["step"] spIsFnd fF fdF) (b : Binds K fd ["forest", "steps"] []) (g : mg "lower_finds" = some (.ref f)) :
    ∀ n, FnOk P w K mg base CX0 (n + 2) f fd ["forest", "steps"] (spLow K n) := by
  intro n
  have main : ∀ n, (∀ sp' : Sp, (∀ vs H Q E, sp' vs H Q E → ∃ m, m < n ∧ spLow K m vs H Q E) → FnOk P w K mg base CX0 (n + 1) f fd ["forest", "steps"] sp') → FnOk P w K mg base CX0 (n + 2) f fd ["forest", "steps"] (spLow K n) := by
    intro m ih0
    have ih := ih0 (fun vs H Q E => ∃ m', m' < m ∧ spLow K m' vs H Q E) fun _ _ _ _ h => h
    refine F.ok scLow (fun vs H Q E h => ?_) (fun cdv A outer s H vs Q E hr h => ?_)
    · obtain ⟨kd0, a, b2, xs, ss, n, p, rfl, _⟩ := h
      rfl
    · obtain ⟨kd0, a, b2, xs, ss, n, p, rfl, ha, hb, hss, wf, hn, hn4, hw, hin, q⟩ := h
      have hrm : ∀ {j : Nat}, j ≤ m + 1 → Room j (A.deeper (envOfC "lower_finds" (defScope sLow) s.heap.objs.size f cdv)) := fun h => hr.mono h
      refine ⟨_, (pss_cons (ps_set (i := 2) scLow.nd rfl (.inl rfl) pe_int)
      (pss_cons (ps_for PassesOwn.never rfl (pi_kd kd0 (pv 1)) (pg_name (i := 3) scLow.nd rfl (.inl rfl))
        (pss_one (ps_if (pt_val (pe_call kF.G (hrm (by omega)) (by rfl) kF.g kF.F.kp kF.b .nil pass0 (pa_cons (pv 3) pa_nil)))
          (pss_one (ps_aug (i := 2) scLow.nd rfl (.inl rfl) (pe_ifExp (pt_cmpR op_ne (pe_ix (show IxR _ (rIx K) from ix_seq) (pv 0) (pv 3) (fun _ _ => rfl)) (pv 3) (nomark _)) pe_int pe_int) ip_add)) (pss_one (ps_if (pt_cmpR op_gt (pe_ix (show IxR _ (rIx K) from ix_seq) (pv 3) pe_int (fun _ _ => rfl)) pe_int (nomark _))
            (pss_one (ps_aug (i := 2) scLow.nd rfl (.inl rfl) (pe_op op_mulW (pe_ix (show IxR _ (rIx K) from ix_seq) (pv 3) pe_int (fun _ _ => rfl)) (pe_call ih (hrm (by omega)) (by rfl) g F.kp b .nil pass0 (pa_cons (pv 0) (pa_cons (pe_ix (show IxR _ (rIx K) from ix_seq) (pv 3) pe_int (fun _ _ => rfl)) pa_nil)))) ip_add)) pss_nil)))))
      (pss_one (ps_ret (pv 2))))), ?_⟩
      refine for_kd (xs := xs) rfl (ob_kd hb) (fun i σ H' => (∃ y, σ = [some (.ref a), some (.ref b2), some (.int (lows p (ss.take i))), y]) ∧ Same H H') ⟨⟨_, rfl⟩, Same.refl _⟩ (fun i σ H' _ h => ob_kd (h.2 _ _ hb)) ?_ ?_
      · rintro i v σ H' hv ⟨⟨y, rfl⟩, sm⟩
        obtain ⟨st, hst, hat⟩ := hss.get hv
        have hmem := List.mem_of_getElem? hst
        have hti := lows_take (p := p) hst
        have hat' := hat.same sm
        have wfs := wfs_mem wf hmem
        have hne := nests_mem hmem
        have hwm := nWrs_mem hmem
        have hix := inXs_mem hin hmem
        refine ⟨_, rfl, v, st, rfl, hat', _, rfl, ?_⟩
        cases st with
        | fnd z =>
          cases hat'
          rw [InX] at hix
          obtain ⟨u, rfl⟩ : ∃ u : Nat, z = u := ⟨z.toNat, by omega⟩
          have hu : u < n := by omega
          rw [low1] at hti
          refine iteT ⟨_, rfl, _, rfl, _, rfl, Sq.ix (.inr (same_sqt sm ha)) (atI_nat (tupOf_at hu)) ⟨_, rfl, rfl, _, rfl, ?_⟩⟩
          show if (!decide (vi (p u) = vi u)) = true then _ else _
          have et : ((u : Nat) : Int).toNat = u := by omega
          rw [et] at hti
          by_cases e : p u = u
          · rw [decide_eq_true (by rw [e])]
            rw [if_pos e] at hti
            refine iteF ⟨_, _, rfl, rfl, ⟨some (vi u), ?_⟩, sm⟩
            rw [hti]; rfl
          · rw [decide_eq_false (fun z => e (by injection z with z; omega))]
            rw [if_neg e] at hti
            refine iteT ⟨_, _, rfl, rfl, ⟨some (vi u), ?_⟩, sm⟩
            rw [hti]; rfl
        | lnk c a => rw [Wf] at wfs; cases wfs
        | rnd k kd2 s2' =>
          cases hat' with
          | @rnd t b3 _ _ ys _ ht hb3 hsts =>
            rw [Wf] at wfs
            rw [nest] at hne
            rw [nWr] at hwm
            rw [low1] at hti
            rw [InX] at hix
            refine iteF ⟨_, rfl, Sq.ix (.inr (SqT.of ht)) rfl ⟨_, _, rfl, rfl, _, rfl, ?_⟩⟩
            show if decide ((0 : Int) < k) = true then _ else _
            by_cases hk : 0 < k
            · rw [decide_eq_true hk]
              rw [if_pos hk] at hti
              refine iteT ⟨_, rfl, _, rfl, Sq.ix (.inr (SqT.of ht)) rfl ⟨_, rfl, _, rfl, Sq.ix (.inr (SqT.of ht)) rfl ⟨nests s2', by omega, kd2, a, b3, ys, s2', n, p, rfl, same_sqt sm ha, hb3, hsts, wfs.2.2, Nat.le_refl _, by omega, by omega, hix hk, fun H3 s3 => ⟨_, _, rfl, rfl, ?_, _, _, rfl, rfl, ⟨some (.ref t), ?_⟩, sm.trans s3⟩⟩⟩⟩
              · have hk2 : k.natAbs < 2 ^ 100 := wide_le wfs.1 wfs.2.1 lim_bits
                exact wide_mul hk2 (lows_bits wfs.2.2 (by omega) (by omega)) (by decide) (by decide) (by decide)
              · rw [hti]; rfl
            · rw [decide_eq_false hk]
              rw [if_neg hk, Int.add_zero] at hti
              refine iteF ⟨⟨some (.ref t), ?_⟩, sm⟩
              rw [hti]; rfl
      · rintro σ H' ⟨⟨y, rfl⟩, sm⟩
        rw [hss.len, List.take_length]
        exact ⟨_, rfl, q H' sm⟩
  induction n using Nat.strongRecOn with
  | _ n ih =>
    refine main n fun sp' h => ?_
    cases n with
    | zero => exact ⟨fun vs H Q E z => by obtain ⟨m, hm, _⟩ := h _ _ _ _ z; omega, fun A outer s H args us vs Q E hr e0 bb r z => by obtain ⟨m, hm, _⟩ := h _ _ _ _ z; omega⟩
    | succ n =>
      refine FnOk.imp (FnOk.mono (ih n (by omega)) (by omega)) fun vs H Q E z => ?_
      obtain ⟨m, hm, kd, a, b2, xs, ss, n', p, e, h1, h2, h3, h4, h5, h6⟩ := h _ _ _ _ z
      exact ⟨kd, a, b2, xs, ss, n', p, e, h1, h2, h3, h4, by omega, h6⟩
theorem okB_runR {f fS fO CN CR CS : Addr} {fd fdS fdO : FuncData} (F : Fun K "run_round" "run_round" sRunR f fd) (m : Nat) (kS : KnX P w K mg base (2 * m + 8) "run_steps" ["forest", "steps"] (spRunS K CN CR CS m) fS fdS) (kO : Kn P w K mg base (m + 2) "lower_finds" sLow ["forest", "steps"] (spLow K m) fO fdO) :
    FnOk P w K mg base (L2N.CX P w) (2 * m + 9) f fd ["forest", "step"] (spRunR K CN CR CS (m + 1)) := by
  refine okN F scRunR (fun vs H Q E h => ?_) (fun cdv A outer s H vs Q E hr h tk => ?_)
  · obtain ⟨a, v, k, kd, ss, n, p, r, rfl, _⟩ := h
    rfl
  · obtain ⟨a, v, k, kd, ss, n, p, r, rfl, ha, hn, hF, hat, wf, hm, hm9, hw, sml, ro⟩ := h
    have hrm : ∀ {j : Nat}, j ≤ 2 * m + 8 → Room j (A.deeper (envOfC "run_round" (defScope sRunR) s.heap.objs.size f cdv)) := fun h => hr.mono h
    refine ⟨_, (pss_cons (ps_if (pt_cmpR op_eq (pe_ix (show IxR _ (rIx K) from ix_seq) (pv 1) pe_int (fun _ _ => rfl)) pe_int (nomark _))
        (pss_one (ps_ret (pe_tup (pa_cons (pv 0) (pa_cons pe_int pa_nil))))) pss_nil)
      (pss_cons (ps_asg (pe_call kS.G (hrm (by omega)) (by rfl) kS.g kS.kp kS.b .nil (lookNE tk) (pa_cons (pv 0) (pa_cons (pe_ix (show IxR _ (rIx K) from ix_seq) (pv 1) pe_int (fun _ _ => rfl)) pa_nil))) (pg_tup rfl (pgs_cons (pg_name (i := 2) scRunR.nd rfl (.inl rfl)) (pgs_cons (pg_name (i := 3) scRunR.nd rfl (.inl rfl)) pgs_nil))))
      (pss_one (ps_ret (pe_tup (pa_cons (pv 2) (pa_cons (pe_op op_add (pv 3) (pe_op op_mulW (pe_op op_sub (pe_ix (show IxR _ (rIx K) from ix_seq) (pv 1) pe_int (fun _ _ => rfl)) pe_int) (pe_call kO.G (hrm (by omega)) (by rfl) kO.g kO.F.kp kO.b .nil pass0 (pa_cons (pv 2) (pa_cons (pe_ix (show IxR _ (rIx K) from ix_seq) (pv 1) pe_int (fun _ _ => rfl)) pa_nil))))) pa_nil))))))), ?_⟩
    rw [Wf] at wf
    rw [stepR] at ro
    cases hat with
    | @rnd t b _ _ ys _ ht hb hsts =>
      refine ⟨_, rfl, Sq.ix (.inr (SqT.of ht)) rfl ⟨rfl, _, rfl, ?_⟩⟩
      show if decide (V.int k = V.int 0) = true then _ else _
      by_cases hk : k = 0
      · rw [decide_eq_true (by rw [hk])]
        rw [if_pos hk] at ro
        refine iteT ⟨_, rfl, by show 2 ≤ sizeLine; decide, fun t2 nt2 => ?_⟩
        exact ro t2 a _ nt2 upd_same (same_sqt (same_new nt2) ha) (same_new nt2)
      · rw [decide_eq_false (fun z => hk (by injection z))]
        rw [if_neg hk] at ro
        refine iteF ⟨_, rfl, _, rfl, Sq.ix (.inr (SqT.of ht)) rfl ⟨kd, a, b, ys, ss, n, p, r, false, rfl, ha, hn, hF, hb, hsts, wf.2.2, by omega, by omega, hw, sml, ?_⟩⟩
        cases e : stepsR n ss p with
        | er er => rw [e] at ro; exact ro
        | ok qc =>
          obtain ⟨q, cc⟩ := qc
          rw [e] at ro
          intro t1 g1 H1 nt1 ht1 hg1 s1
          refine ⟨t1, _, rfl, SqT.of ht1, rfl, _, _, rfl, _, _, rfl, rfl, ?_⟩
          refine ⟨_, rfl, _, rfl, _, rfl, Sq.ix (.inr (SqT.of (s1 _ _ ht))) rfl ⟨_, _, rfl, rfl, _, rfl, _, rfl, Sq.ix (.inr (SqT.of (s1 _ _ ht))) rfl ⟨kd, g1, b, ys, ss, n, q, rfl, hg1, s1 _ _ hb, hsts.same s1, wf.2.2, by omega, by omega, hw, rans_in ss wf.2.2 e, fun H2 s2 => ?_⟩⟩⟩
          have hk2 : (k - 1).natAbs < 2 ^ 100 := by
            have := wide_le wf.1 wf.2.1 lim_bits
            have h0 := wf.1
            omega
          refine ⟨_, _, rfl, rfl, wide_mul hk2 (lows_bits wf.2.2 (by omega) hw) (by decide) (by decide) (by decide), _, _, rfl, rfl, by show 2 ≤ sizeLine; decide, fun t3 nt3 => ?_⟩
          have s3 := same_new (o := .tup [V.ref g1, V.int (cc + (k - 1) * lows q ss)]) nt3
          exact ro t3 g1 _ (sm_none (s1.trans s2) nt3) upd_same (same_sqt (s2.trans s3) hg1) ((s1.trans s2).trans s3)
theorem okB_runS {f fF fL fX fK fR CN CR CS : Addr} {fd fdF fdL fdX fdK fdR : FuncData} (F : Fun K "run_steps" "run_steps" sRunS f fd) (m : Nat) (kF : Kn P w K mg base 1 "is_find" sIsFnd ["step"] spIsFnd fF fdF) (kL : Kn P w K mg base 2 "is_link" sIsLnk ["step"] spIsLnk fL fdL)
    (kX : KnX P w K mg base 7 "find" ["forest", "node"] (spOr (spFind K) (spChkX K CN)) fX fdX) (kK : KnX P w K mg base 7 "link" ["forest", "child", "above"] (spLinkB K CN CR CS) fK fdK) (kR : KnX P w K mg base (2 * m + 7) "run_round" ["forest", "step"] (spRunR K CN CR CS m) fR fdR) :
    FnOk P w K mg base (L2N.CX P w) (2 * m + 8) f fd ["forest", "steps"] (spRunS K CN CR CS m) := by
  refine okN F scRunS (fun vs H Q E h => ?_) (fun cdv A outer s H vs Q E hr h tk => ?_)
  · obtain ⟨kd0, a, b, xs, ss, n, p, r, top, rfl, _⟩ := h
    rfl
  · obtain ⟨kd0, a, b, xs, ss, n, p, r, top, rfl, ha, hn, hF, hb, hss, wf, hm, hm10, hw, sml, ro⟩ := h
    have hrm : ∀ {j : Nat}, j ≤ 2 * m + 7 → Room j (A.deeper (envOfC "run_steps" (defScope sRunS) s.heap.objs.size f cdv)) := fun h => hr.mono h
    refine ⟨_, (pss_cons (ps_set (i := 2) scRunS.nd rfl (.inl rfl) pe_int)
      (pss_cons (ps_for PassesOwn.leaving rfl (pi_kd kd0 (pv 1)) (pg_name (i := 3) scRunS.nd rfl (.inl rfl))
        (pss_cons (ps_set (i := 4) scRunS.nd rfl (.inl rfl) pe_int)
        (C8.pss_cut (ps_if (pt_val (pe_call kF.G (hrm (by omega)) (by rfl) kF.g kF.F.kp kF.b .nil pass0 (pa_cons (pv 3) pa_nil)))
          (pss_one (ps_asg (pe_call kX.G (hrm (by omega)) (by rfl) kX.g kX.kp kX.b .nil (lookNE tk) (pa_cons (pv 0) (pa_cons (pv 3) pa_nil))) (pg_tup rfl (pgs_cons (pg_name (i := 0) scRunS.nd rfl (.inl rfl)) (pgs_cons (pg_name (i := 4) scRunS.nd rfl (.inl rfl)) pgs_nil))))) (pss_one (ps_if (pt_val (pe_call kL.G (hrm (by omega)) (by rfl) kL.g kL.F.kp kL.b .nil pass0 (pa_cons (pv 3) pa_nil)))
            (pss_one (ps_set (i := 0) scRunS.nd rfl (.inl rfl) (pe_call kK.G (hrm (by omega)) (by rfl) kK.g kK.kp kK.b .nil (lookNE tk) (pa_cons (pv 0) (pa_cons (pe_ix (show IxR _ (rIx K) from ix_seq) (pv 3) pe_int (fun _ _ => rfl)) (pa_cons (pe_ix (show IxR _ (rIx K) from ix_seq) (pv 3) pe_int (fun _ _ => rfl)) pa_nil)))))) (pss_one (ps_asg (pe_call kR.G (hrm (by omega)) (by rfl) kR.g kR.kp kR.b .nil (lookNE tk) (pa_cons (pv 0) (pa_cons (pv 3) pa_nil))) (pg_tup rfl (pgs_cons (pg_name (i := 0) scRunS.nd rfl (.inl rfl)) (pgs_cons (pg_name (i := 4) scRunS.nd rfl (.inl rfl)) pgs_nil))))))))
        (pss_one (ps_aug (i := 2) scRunS.nd rfl (.inl rfl) (pv 4) ip_add)))))
      (pss_one (ps_ret (pe_tup (pa_cons (pv 0) (pa_cons (pv 2) pa_nil))))))), ?_⟩
    refine for_kd (xs := xs) rfl (ob_kd hb) (fun i σ H' => (∃ (a' : Addr) (q rr : Nat → Nat) (T : Int) (y3 y4 : Option V), σ = [some (.ref a'), some (.ref b), some (.int T), y3, y4] ∧ SqT K H' a' (tupOf n q) ∧ Fo n q rr ∧ stepsR n (ss.take i) p = .ok (q, T)) ∧ Same H H') ⟨⟨a, p, r, 0, _, _, rfl, ha, hF, stepsR_nil n p⟩, Same.refl _⟩ (fun i σ H' _ h => ob_kd (h.2 _ _ hb)) ?_ ?_
    · rintro i v σ H' hv ⟨⟨a', q, rr, T, y3, y4, rfl, ha', hFq, hsr⟩, sm⟩
      obtain ⟨st, hst, hat⟩ := hss.get hv
      have hmem := List.mem_of_getElem? hst
      have hsn := stepsR_snoc hst hsr
      have hat' := hat.same sm
      have wfs := wfs_mem wf hmem
      have hne := nests_mem hmem
      have hwm := nWrs_mem hmem
      have hsm := smls_mem sml hmem
      have erq : ∀ e, stepR n st q = .er e → ErO CN CR CS H E e := fun e he => by
        have h1 : stepsR n (ss.take (i + 1)) p = .er e := by rw [hsn]; unfold Rs.seq; simp [he]
        rw [stepsR_err h1] at ro
        exact ro
      refine ⟨fun σ H'' => (∃ (a2 : Addr) (q2 : Nat → Nat) (c2 : Int), σ = [some (.ref a2), some (.ref b), some (.int T), some v, some (.int c2)] ∧ SqT K H'' a2 (tupOf n q2) ∧ stepR n st q = .ok (q2, c2)) ∧ Same H H'', ?_, ?_⟩
      · refine ⟨_, rfl, v, st, rfl, hat', _, rfl, ?_⟩
        cases st with
        | fnd z =>
          cases hat'
          rw [Sml] at hsm
          refine iteT ⟨_, rfl, _, rfl, ?_⟩
          by_cases hz : 0 ≤ z ∧ z < (n : Int)
          · obtain ⟨u, rfl⟩ : ∃ u : Nat, z = u := ⟨z.toNat, by omega⟩
            refine .inl ⟨a', n, q, rr, u, rfl, .inr ha', by omega, hFq, by omega, fun t g H1 nt ng ht hg s1 => ?_⟩
            refine ⟨t, _, rfl, SqT.of ht, rfl, _, _, rfl, _, _, rfl, rfl, ⟨g, _, _, rfl, SqT.of hg, ?_⟩, sm.trans s1⟩
            rw [stepR, if_pos hz]; rfl
          · have he : stepR n (.fnd z) q = .er (.no z) := by rw [stepR, if_neg hz]
            refine .inr ⟨a', _, z, rfl, .inr ha', by rw [tupOf_len]; omega, hsm, ?_⟩
            exact Flies.same (erq _ he) sm
        | lnk x y =>
          rw [Sml] at hsm
          refine iteF ⟨_, rfl, v, _, rfl, hat', _, rfl, iteT ?_⟩
          cases hat' with
          | @lnk t _ _ ht =>
            refine ⟨_, rfl, _, rfl, Sq.ix (.inr (SqT.of ht)) rfl ⟨_, rfl, Sq.ix (.inr (SqT.of ht)) rfl ⟨a', n, q, x, y, rfl, .inr ha', by omega, hsm.1, hsm.2, ?_⟩⟩⟩
            have erl : ∀ e, linkR n q x y = .er e → ErO CN CR CS H' E e := fun e he => (erq e (by rw [stepR, he])).same sm
            cases h1 : chkE n q x with
            | some bb =>
              cases bb with
              | false => exact .inl ⟨rfl, erl (.no x) (by simp only [linkR, h1])⟩
              | true => exact .inr (.inl ⟨rfl, erl (.nr x) (by simp only [linkR, h1])⟩)
            | none =>
              refine .inr (.inr ⟨rfl, ?_⟩)
              cases h2 : chkE n q y with
              | some bb =>
                cases bb with
                | false => exact .inl ⟨rfl, erl (.no y) (by simp only [linkR, h1, h2])⟩
                | true => exact .inr (.inl ⟨rfl, erl (.nr y) (by simp only [linkR, h1, h2])⟩)
              | none =>
                refine .inr (.inr ⟨rfl, ?_⟩)
                by_cases e : x = y
                · exact .inl ⟨e, erl (.sr x) (by simp only [linkR, h1, h2, if_pos e])⟩
                · refine .inr ⟨e, fun g H1 ng hg s1 => ⟨⟨g, _, 0, rfl, SqT.of hg, ?_⟩, sm.trans s1⟩⟩
                  have hl : linkR n q x y = .ok (lnk q x.toNat y.toNat) := by simp only [linkR, h1, h2, if_neg e]
                  rw [stepR, hl]
        | rnd k kd2 s2' =>
          rw [Sml] at hsm
          rw [nest] at hne
          rw [nWr] at hwm
          refine iteF ⟨_, rfl, v, _, rfl, hat', _, rfl, iteF ?_⟩
          refine ⟨_, rfl, _, rfl, a', v, k, kd2, s2', n, q, rr, rfl, ha', hn, hFq, hat', wf_top wfs, by omega, by omega, by omega, hsm, ?_⟩
          cases e : stepR n (.rnd k kd2 s2') q with
          | er er => exact (erq _ e).same sm
          | ok qc =>
            obtain ⟨q2, c2⟩ := qc
            intro t g H1 nt ht hg s1
            exact ⟨t, _, rfl, SqT.of ht, rfl, _, _, rfl, _, _, rfl, rfl, ⟨g, q2, c2, rfl, hg, rfl⟩, sm.trans s1⟩
      · rintro σ H'' ⟨⟨a2, q2, c2, rfl, ha2, hst2⟩, sm2⟩
        obtain ⟨r2, hF2⟩ := stepR_fo st hFq hst2
        refine ⟨_, rfl, _, rfl, _, _, rfl, rfl, ⟨a2, q2, r2, T + c2, some v, some (.int c2), rfl, ha2, hF2, ?_⟩, sm2⟩
        rw [hsn]
        unfold Rs.seq
        simp [hst2]
    · rintro σ H' ⟨⟨a', q, rr, T, y3, y4, rfl, ha', hFq, hsr⟩, sm⟩
      rw [hss.len, List.take_length] at hsr
      rw [hsr] at ro
      refine ⟨_, rfl, _, rfl, by show 2 ≤ sizeLine; decide, fun t nt => ?_⟩
      have s2 := same_new (o := .tup [V.ref a', V.int T]) nt
      exact ro t a' _ (sm_none sm nt) upd_same (same_sqt s2 ha') (sm.trans s2)
/-- both by turns -/
theorem okB_run {fS fR fF fL fX fK fO CN CR CS : Addr} {fdS fdR fdF fdL fdX fdK fdO : FuncData} (FS : Fun K "run_steps" "run_steps" sRunS fS fdS) (FR : Fun K "run_round" "run_round" sRunR fR fdR) (bS : Binds K fdS ["forest", "steps"] []) (gS : mg "run_steps" = some (.ref fS)) (bR : Binds K fdR ["forest", "step"] []) (gR : mg "run_round" = some (.ref fR))
    (kF : Kn P w K mg base 1 "is_find" sIsFnd ["step"] spIsFnd fF fdF) (kL : Kn P w K mg base 2 "is_link" sIsLnk ["step"] spIsLnk fL fdL) (kX : KnX P w K mg base 7 "find" ["forest", "node"] (spOr (spFind K) (spChkX K CN)) fX fdX) (kK : KnX P w K mg base 7 "link" ["forest", "child", "above"] (spLinkB K CN CR CS) fK fdK)
    (kO : ∀ m, Kn P w K mg base (m + 2) "lower_finds" sLow ["forest", "steps"] (spLow K m) fO fdO) : ∀ m, FnOk P w K mg base (L2N.CX P w) (2 * m + 8) fS fdS ["forest", "steps"] (spRunS K CN CR CS m)
  | 0 => okB_runS FS 0 kF kL kX kK ⟨FR.kp, ⟨fun vs H Q E h => by obtain ⟨a, v, k, kd, ss, n, p, r, rfl, _⟩ := h; rfl, fun A outer s H args us vs Q E hr e0 bb r h => by obtain ⟨a, v, k, kd, ss, n, p, r, _, _, _, _, _, _, hm, _⟩ := h; omega⟩, bR, gR⟩
  | m + 1 => okB_runS FS (m + 1) kF kL kX kK ⟨FR.kp, okB_runR FR m ⟨FS.kp, okB_run FS FR bS gS bR gR kF kL kX kK kO m, bS, gS⟩ (kO m), bR, gR⟩
theorem okB_runH {f fS fH CN CR CS : Addr} {fd fdS fdH : FuncData} (F : Fun K "run_history" "run_history" sRunH f fd) (m : Nat) (kS : KnX P w K mg base (2 * m + 8) "run_steps" ["forest", "steps"] (spRunS K CN CR CS m) fS fdS) (kH : Kn P w K mg base (m + 5) "check_history" sChkH ["history"] (spChkH m) fH fdH) :
    FnOk P w K mg base (L2N.CX P w) (2 * m + 9) f fd ["forest", "history"] (spRunH K CN CR CS m) := by
  refine okN F scRunH (fun vs H Q E h => ?_) (fun cdv A outer s H vs Q E hr h tk => ?_)
  · obtain ⟨kd0, a, b, xs, ss, n, p, r, rfl, _⟩ := h
    rfl
  · obtain ⟨kd0, a, b, xs, ss, n, p, r, rfl, ha, hn, hF, hb, hss, wf, hm, hm4, hw, sml, ro⟩ := h
    have hrm : ∀ {j : Nat}, j ≤ 2 * m + 8 → Room j (A.deeper (envOfC "run_history" (defScope sRunH) s.heap.objs.size f cdv)) := fun h => hr.mono h
    refine ⟨_, (pss_cons (ps_expr (pe_call kH.G (hrm (by omega)) (by rfl) kH.g kH.F.kp kH.b .nil pass0 (pa_cons (pv 1) pa_nil)))
      (pss_one (ps_ret (pe_call kS.G (hrm (by omega)) (by rfl) kS.g kS.kp kS.b .nil (lookNE tk) (pa_cons (pv 0) (pa_cons (pv 1) pa_nil)))))), ?_⟩
    refine ⟨_, rfl, kd0, b, xs, ss, rfl, hb, hss, wf, hm, hm4, hw, fun H1 s1 => ?_⟩
    exact ⟨_, rfl, _, rfl, kd0, a, b, xs, ss, n, p, r, true, rfl, same_sqt s1 ha, hn, hF, s1 _ _ hb, hss.same s1, wf, hm, by omega, by omega, sml, ro.same s1⟩
end
end Ff

namespace Ff
open PySem PySem.Spec PyProof.Rows L2 ExX LamX
abbrev sFlatF : Stmt := topS 63
abbrev flatFN : List Str := ["forest"]
theorem scFlatF : FnScope flatFN ["forest"] (defScope sFlatF) := ⟨rfl, rfl, rfl, by decide +kernel, rfl, by decide +kernel, by decide +kernel⟩
def spFlatFinds (K : PySem.W.Frag) : Sp := fun vs H Q _ => ∃ (a : Addr) (n : Nat) (p r : Nat → Nat), vs = [.ref a] ∧ SqT K H a (tupOf n p) ∧ n ≤ 60 ∧ Fo n p r ∧
  ∀ (l : Addr) H', H l = none → H' l = some (.lst (natsV (needS n p (fun v => root p n v)))) → Same H H' → Q (.ref l) H'
def spDeep (K : PySem.W.Frag) : Sp := fun vs H Q _ => ∃ (a : Addr) (n : Nat) (p r : Nat → Nat), vs = [.ref a] ∧ SqT K H a (tupOf n p) ∧ n ≤ 60 ∧ Fo n p r ∧
  ∀ (l : Addr) H', H l = none → H' l = some (.lst (natsV ((List.range n).filter fun v => decide (2 ≤ (ups p n v).length)))) → Same H H' → Q (.ref l) H'
def spHeight (K : PySem.W.Frag) : Sp := fun vs H Q _ => ∃ (a : Addr) (n : Nat) (p r : Nat → Nat), vs = [.ref a] ∧ SqT K H a (tupOf n p) ∧ n ≤ 60 ∧ Fo n p r ∧
  ∀ (m : Nat) H', (∀ v, v < n → (ups p n v).length ≤ m) → (m = 0 ∨ ∃ v, v < n ∧ m = (ups p n v).length) → Same H H' → Q (vi m) H'
def spChanged (K : PySem.W.Frag) : Sp := fun vs H Q _ => ∃ (a b : Addr) (n : Nat) (p q r r' : Nat → Nat), vs = [.ref a, .ref b] ∧ Pair K H a b n p q r r' ∧
  ∀ (l : Addr) H', H l = none → H' l = some (.lst (natsV ((List.range n).filter (chg p q)))) → Same H H' → Q (.ref l) H'
def spSameTrees (K : PySem.W.Frag) : Sp := fun vs H Q _ => ∃ (a b : Addr) (n : Nat) (p q r r' : Nat → Nat), vs = [.ref a, .ref b] ∧ Pair K H a b n p q r r' ∧ (∀ v, v < n → root p n v = root q n v) ∧ ∀ H', Same H H' → Q (.bl true) H'
theorem chg_plain {K : PySem.W.Frag} {CS CR : Addr} (vs : List V) (H : Hp) (Q : VK) (E : XK) (h : spChanged K vs H Q E) : spTwoB K CS CR okChg vs H Q (fun _ _ _ => False) := by
  obtain ⟨a, b, n, p, q, r, r', rfl, h2, ok⟩ := h
  exact ⟨a, b, n, n, p, q, r, r', rfl, h2.two, .inr (.inr ⟨rfl, unl_of h2.ro, ok⟩)⟩
theorem sameT_plain {K : PySem.W.Frag} {CS : Addr} (vs : List V) (H : Hp) (Q : VK) (E : XK) (h : spSameTrees K vs H Q E) : spSameTB K CS vs H Q (fun _ _ _ => False) := by
  obtain ⟨a, b, n, p, q, r, r', rfl, h2, e, ok⟩ := h
  exact ⟨a, b, n, n, p, q, r, r', rfl, h2.two, .inr ⟨rfl, by rw [decide_eq_true e]; exact ok⟩⟩
/-- max(xs, default=d), ints -/
def rMaxD (K : PySem.W.Frag) : List V → List V → Hp → VK → Prop := fun xs zs H Q => ∃ (a : Addr) (ns : List Int) (d : Int), xs = [V.ref a] ∧ zs = [V.int d] ∧ SqL K H a (ns.map V.int) ∧ (ns = [] → Q (.int d) H) ∧ ∀ m, m ∈ ns → (∀ y, y ∈ ns → y ≤ m) → Q (.int m) H
theorem maxOf_int : ∀ (ys : List Int) (y : Int), PySem.W.maxOf y ys ∈ y :: ys ∧ ∀ z ∈ y :: ys, z ≤ PySem.W.maxOf y ys
  | [], y => ⟨List.mem_cons_self, fun z hz => by rw [List.mem_singleton.mp hz]; exact Int.le_refl _⟩
  | x :: ys, y => by
    have e : PySem.W.maxOf y (x :: ys) = PySem.W.maxOf (if decide (y < x) = true then x else y) ys := rfl
    have ih := maxOf_int ys (if decide (y < x) = true then x else y)
    rw [e]
    by_cases h : y < x
    · rw [if_pos (decide_eq_true h)] at ih ⊢
      refine ⟨List.mem_cons_of_mem _ ih.1, fun z hz => ?_⟩
      rcases List.mem_cons.mp hz with k | k
      · have := ih.2 x List.mem_cons_self
        omega
      · exact ih.2 z k
    · rw [if_neg (fun k => h (of_decide_eq_true k))] at ih ⊢
      refine ⟨?_, fun z hz => ?_⟩
      · rcases List.mem_cons.mp ih.1 with k | k
        · rw [k]; exact List.mem_cons_self
        · exact List.mem_cons_of_mem _ (List.mem_cons_of_mem _ k)
      · rcases List.mem_cons.mp hz with k | k
        · rw [k]; exact ih.2 y List.mem_cons_self
        · rcases List.mem_cons.mp k with k | k
          · have := ih.2 y List.mem_cons_self
            omega
          · exact ih.2 z (List.mem_cons_of_mem _ k)
theorem cr_maxD {X : Cx} (hc : X.calm = true) (hu : X.A.units + 64 < cLine) : CallRK X (.builtin "max") ["default"] (rMaxD X.K) := by
  intro pins s σ H xs zs us ws Q I r rz h
  obtain ⟨a, ns, d, rfl, rfl, hs, h0, h1⟩ := h
  obtain ⟨its, rv, hl, _⟩ := I.list hs
  rw [Vals.ref1 r]
  cases rz with
  | cons rd rn =>
    cases rn
    obtain ⟨td, rfl⟩ := rd
    refine PySem.W.max_list_datum_default (xs := ns) (I.ok.hd hc) hl.isList (PySem.W.HoldAll.of_ints (ints_of_vals rv)) (by show X.A.units + 1 + 0 < cLine; omega) (fun e h' tk hk => ⟨.int d, H, I.kept hk, ⟨_, rfl⟩, h0 e⟩) fun y ys i v h' tk e hv hv2 hk => ?_
    obtain ⟨as, rr⟩ := hv2
    generalize hm : PySem.W.maxOf y ys = m at rr
    cases rr with
    | int k t =>
      have z := maxOf_int ys y
      rw [hm] at z
      exact ⟨.int m, H, I.kept hk, ⟨t, rfl⟩, h1 m (by rw [e]; exact z.1) (fun y' hy => z.2 y' (by rw [e] at hy; exact hy))⟩
section
variable {P : Program} {w : World} {K : PySem.W.Frag} {mg : Str → Option Value} {base : Heap}
theorem ok_flatF {f fL fN : Addr} {fd fdL fdN : FuncData} (F : Fun K "flattening_finds" "flattening_finds" sFlatF f fd) (kL : Kn P w K mg base 5 "flattened" sFlat ["forest"] (spFlat K) fL fdL) (kN : Kn P w K mg base 9 "needed_finds" sNeed ["one", "other"] (spNeeded K) fN fdN) : FnOk P w K mg base CX0 10 f fd ["forest"] (spFlatFinds K) := by
  refine F.ok scFlatF (fun vs H Q E h => ?_) (fun cdv A outer s H vs Q E hr h => ?_)
  · obtain ⟨a, n, p, r, rfl, _⟩ := h
    rfl
  · obtain ⟨a, n, p, r, rfl, hS, hn, hF, q⟩ := h
    have hrm : ∀ {j : Nat}, j ≤ 9 → Room j (A.deeper (envOfC "flattening_finds" (defScope sFlatF) s.heap.objs.size f cdv)) := fun h => hr.mono h
    refine ⟨_, (pss_one (ps_ret (pe_call kN.G (hrm (by decide)) (by rfl) kN.g kN.F.kp kN.b .nil pass0 (pa_cons (pv 0) (pa_cons (pe_call kL.G (hrm (by decide)) (by rfl) kL.g kL.F.kp kL.b .nil pass0 (pa_cons (pv 0) pa_nil)) pa_nil))))), ?_⟩
    refine ⟨_, rfl, _, rfl, a, n, p, r, rfl, hS, hn, hF, fun t H1 nt ht s1 => ?_⟩
    exact ⟨a, t, n, p, _, r, r, rfl, ⟨same_sqt s1 hS, SqT.of ht, hn, hF, flat_fo hF, fun v hv => flat_roots hF v hv⟩, flat_way hF, fun l H2 nl hl s2 => q l H2 (sm_none s1 nl) hl (s1.trans s2)⟩
end
end Ff

namespace Ff
open PySem PySem.Spec PyProof.Rows L2 ExX LamX
abbrev sIsNm : Stmt := topS 68
abbrev isNmN : List Str := ["text", "letter"]
theorem scIsNm : FnScope isNmN ["text"] (defScope sIsNm) := ⟨rfl, rfl, rfl, by decide +kernel, rfl, by decide +kernel, by decide +kernel⟩
abbrev sFIn : Stmt := topS 69
abbrev fInN : List Str := ["forests", "name"]
theorem scFIn : FnScope fInN ["forests", "name"] (defScope sFIn) := ⟨rfl, rfl, rfl, by decide +kernel, rfl, by decide +kernel, by decide +kernel⟩
def rLeS : R2 := fun x y H Q => ∃ i j, x = V.str i ∧ y = V.str j ∧ Q (.bl (!decide (j.cps.toList < i.cps.toList))) H
/-- a letter from a to z -/
def letB (c : Nat) : Bool := (!decide ([c] < [97])) && (!decide ([122] < [c]))
def nameB (z : Str) : Bool := decide (1 ≤ z.length) && decide (z.length ≤ 6) && z.cps.toList.all letB
theorem lc_str {z : Str} {g : TG} {tt : TT} {te : TE} {vs : List Nat} {σ : L2.St} {H1 : Hp} {D : Addr} {Qd : Hp → Prop} (Pv : Nat → Hp → Prop) (h0 : Pv 0 (upd H1 D (.lst [])))
    (hs : ∀ i c H, z.cps.toList[i]? = some c → Pv i H → g (.str ⟨#[c]⟩) (wipe σ vs) H fun σ2 H2 => wipe σ2 vs = wipe σ vs ∧ tt σ2 H2 fun b H3 =>
      if b = true then te σ2 H3 fun y H4 => ∃ acc, H4 D = some (.lst acc) ∧ acc.length < sizeLine ∧ Pv (i + 1) (upd H4 D (.lst (acc ++ [y]))) else Pv (i + 1) H3) (hd : ∀ H, Pv z.cps.toList.length H → Qd H) :
    ∃ W : Nat → Nat → Hp → Prop, (∃ m, W 0 m (upd H1 D (.lst []))) ∧ ∀ i m H, W i m H →
      ((Its z).stop i H ∧ Qd H) ∨ ((Its z).go i H ∧ ∃ Nx : Hp → Prop, (∀ H', Nx H' → ∃ m', m' < m ∧ W (i + 1) m' H') ∧ ∀ x H', (Its z).yld i H x H' → g x (wipe σ vs) H' fun σ2 H2 => wipe σ2 vs = wipe σ vs ∧ tt σ2 H2 fun b H3 =>
        if b = true then te σ2 H3 fun y H4 => ∃ acc, H4 D = some (.lst acc) ∧ acc.length < sizeLine ∧ Nx (upd H4 D (.lst (acc ++ [y]))) else Nx H3) := by
  refine ⟨fun i m H => m = z.cps.toList.length - i ∧ i ≤ z.cps.toList.length ∧ Pv i H, ⟨z.cps.toList.length, by simp, Nat.zero_le _, h0⟩, ?_⟩
  rintro i m H ⟨rfl, hi, p⟩
  have hsz : z.cps.toList.length = z.cps.size := Array.length_toList
  by_cases hlt : i < z.cps.toList.length
  · refine .inr ⟨show i < z.cps.size by omega, Pv (i + 1), fun H' p' => ⟨z.cps.toList.length - (i + 1), by omega, rfl, hlt, p'⟩, fun v H' y => ?_⟩
    obtain ⟨rfl, c, hc, rfl⟩ := y
    exact hs i c H' (by rw [Array.getElem?_toList]; exact hc) p
  · have e : i = z.cps.toList.length := by omega
    subst e
    exact .inl ⟨show z.cps.size ≤ z.cps.toList.length by omega, hd H p⟩
theorem cps_a : (Str.ofString "a").cps.toList = [97] := by decide +kernel
theorem cps_z : (Str.ofString "z").cps.toList = [122] := by decide +kernel
def spIsNm : Sp := fun vs H Q _ => ∃ z : Str, vs = [.str z] ∧ z.length ≤ 1000 ∧ ∀ H', Same H H' → Q (.bl (nameB z)) H'
section
variable {P : Program} {w : World} {K : PySem.W.Frag} {mg : Str → Option Value} {base : Heap}
theorem ok_isNm {f : Addr} {fd : FuncData} {k : Nat} (F : Fun K "is_name" "is_name" sIsNm f fd) (T : Tx mg) (z_all : mg "all" = none) {tA : Tok} (gLt : mg "MAX_LETTERS" = some (.int 6 tA)) : FnOk P w K mg base CX0 (k + 1) f fd ["text"] spIsNm := by
  refine F.ok scIsNm (fun vs H Q E h => ?_) (fun cdv A outer s H vs Q E hr h => ?_)
  · obtain ⟨z, rfl, _⟩ := h
    rfl
  · obtain ⟨z, rfl, hz, q⟩ := h
    have hu1 : (A.deeper (envOfC "is_name" (defScope sIsNm) s.heap.objs.size f cdv)).units + 1 < cLine := by have := hr.un; omega
    refine ⟨_, (pss_one (ps_ret (pe_and (pe_chain op_le op_le pe_int (pe_callB call_len_str (by rfl) T.len PySem.boot_len (pa_cons (pv 0) pa_nil)) (pe_glob (v := .int 6) rfl gLt ⟨_, rfl⟩)) (pe_one (pe_callB (cr_all rfl) (by rfl) z_all (by decide +kernel) (pa_cons (pe_lc (own := [("letter", 1)]) (g := gName 1) (by rfl) scIsNm.nd (pi_str (pv 0)) (blkOk_by (own := [("letter", 1)]) (N := isNmN) (sc := defScope sIsNm) (by decide +kernel)) (fun _ _ _ _ _ => (pg_name (i := 1) scIsNm.nd rfl (.inl rfl))) (fun _ _ _ _ _ => pts_nil) (fun _ _ _ _ _ => (pe_chain (show OpR _ (compareOp .LtE) rLeS from op_le_str) (show OpR _ (compareOp .LtE) rLeS from op_le_str) pe_str (pv 1) pe_str))) pa_nil)))))), ?_⟩
    have one : ∀ {b : Bool} {H'}, Same H H' → nameB z = b → Q (.bl b) H' := fun {b H'} s e => by rw [← e]; exact q H' s
    refine ⟨_, rfl, z, rfl, Nat.le_trans hz (by decide), _, _, rfl, rfl, _, rfl, ?_⟩
    by_cases h1 : 1 ≤ z.length
    · rw [decide_eq_true (show (1 : Int) ≤ ((z.length : Nat) : Int) by omega)]
      refine iteT ⟨_, _, rfl, rfl, _, rfl, ?_⟩
      by_cases h2 : z.length ≤ 6
      · rw [decide_eq_true (show ((z.length : Nat) : Int) ≤ 6 by omega)]
        have hlen : z.cps.toList.length = z.length := Array.length_toList
        refine iteT ⟨_, rfl, z, rfl, fun D nD => ?_⟩
        refine lc_str (z := z) (fun i H' => H' D = some (.lst ((z.cps.toList.take i).map fun c => V.bl (letB c))) ∧ Same H H') ⟨upd_same, same_new nD⟩ ?_ ?_
        · rintro i c H' hc ⟨hD, sm⟩
          refine ⟨rfl, ?_⟩
          have fin : ∀ b : Bool, letB c = b → ∃ acc, H' D = some (.lst acc) ∧ acc.length < sizeLine ∧ (upd H' D (.lst (acc ++ [V.bl b])) D = some (.lst ((z.cps.toList.take (i + 1)).map fun c => V.bl (letB c))) ∧ Same H (upd H' D (.lst (acc ++ [V.bl b])))) := fun b e => by
            refine ⟨_, hD, ?_, ?_, same_over sm nD⟩
            · rw [List.length_map, List.length_take]
              exact Nat.lt_of_le_of_lt (show _ ≤ 6 by omega) (by decide)
            · rw [upd_same, List.take_add_one, hc, List.map_append, ← e]
              rfl
          refine ⟨_, rfl, _, _, rfl, rfl, _, rfl, ?_⟩
          rw [cps_a]
          cases h3 : !decide ([c] < [97]) with
          | false => exact iteF (fin false (by unfold letB; rw [h3]; rfl))
          | true =>
            refine iteT ⟨_, _, rfl, rfl, ?_⟩
            rw [cps_z]
            exact fin _ (by unfold letB; rw [h3]; exact Bool.true_and _)
        · rintro H' ⟨hD, sm⟩
          rw [List.take_length] at hD
          refine ⟨D, (z.cps.toList.map letB), rfl, SqL.of (by rw [hD, List.map_map]; rfl), one sm ?_⟩
          unfold nameB
          rw [decide_eq_true h1, decide_eq_true h2, List.all_map]
          rfl
      · rw [decide_eq_false (show ¬ ((z.length : Nat) : Int) ≤ 6 by omega)]
        exact iteF (one (Same.refl _) (by unfold nameB; rw [decide_eq_false h2, Bool.and_false]; rfl))
    · rw [decide_eq_false (show ¬ (1 : Int) ≤ ((z.length : Nat) : Int) by omega)]
      exact iteF ⟨_, rfl, iteF (one (Same.refl _) (by unfold nameB; rw [decide_eq_false h1]; rfl))⟩
end
end Ff

namespace Ff
open PySem PySem.Spec PyProof.Rows L2 ExX LamX
/-! Stores: what they hold, and what a command asks. -/
/-- a forest: its size and its parents -/
abbrev Fr := Nat × (Nat → Nat)
/-- forests by name -/
abbrev Fs := List (Str × Fr)
def FrOk (f : Fr) : Prop := f.1 ≤ 40 ∧ ∃ r, Fo f.1 f.2 r
def look : Fs → Str → Option Fr
  | [], _ => none
  | m :: M, z => if m.1 = z then some m.2 else look M z
def putM (M : Fs) (z : Str) (f : Fr) : Fs := if (look M z).isSome = true then M.map (fun m => if m.1 = z then (m.1, f) else m) else M ++ [(z, f)]
def dropM (M : Fs) (z : Str) : Fs := M.filter fun m => !decide (m.1 = z)
structure FsOk (M : Fs) : Prop where
  nd : (M.map Prod.fst).Nodup
  le : M.length ≤ 6
  nm : ∀ m ∈ M, nameB m.1 = true
  fo : ∀ m ∈ M, FrOk m.2
/-- entries of a dict: names, and tuples of parents -/
inductive KvAt (K : PySem.W.Frag) (H : Hp) : List (Key × V) → Fs → Prop
  | nil : KvAt K H [] []
  | cons {a : Addr} {z : Str} {f : Fr} {kvs : List (Key × V)} {M : Fs} : SqT K H a (tupOf f.1 f.2) → KvAt K H kvs M → KvAt K H ((Sum.inr z, V.ref a) :: kvs) ((z, f) :: M)
def FsAt (K : PySem.W.Frag) (H : Hp) (d : Addr) (M : Fs) : Prop := ∃ kvs, H d = some (.dK kvs) ∧ KvAt K H kvs M
theorem KvAt.same {K : PySem.W.Frag} {H H' : Hp} (s : Same H H') : ∀ {kvs : List (Key × V)} {M : Fs}, KvAt K H kvs M → KvAt K H' kvs M
  | _, _, .nil => .nil
  | _, _, .cons h r => .cons (same_sqt s h) (r.same s)
theorem FsAt.same {K : PySem.W.Frag} {H H' : Hp} {d : Addr} {M : Fs} (h : FsAt K H d M) (s : Same H H') : FsAt K H' d M := by
  obtain ⟨kvs, h1, h2⟩ := h
  exact ⟨kvs, s _ _ h1, h2.same s⟩
theorem KvAt.len {K : PySem.W.Frag} {H : Hp} : ∀ {kvs : List (Key × V)} {M : Fs}, KvAt K H kvs M → kvs.length = M.length
  | _, _, .nil => rfl
  | _, _, .cons h r => by rw [List.length_cons, List.length_cons, r.len]
theorem KvAt.none {K : PySem.W.Frag} {H : Hp} {z : Str} : ∀ {kvs : List (Key × V)} {M : Fs}, KvAt K H kvs M → look M z = none → valV kvs (Sum.inr z : Key) = none
  | _, _, .nil, _ => rfl
  | _, _, .cons (z := y) h r, e => by
    unfold look at e
    by_cases n : y = z
    · rw [if_pos n] at e; cases e
    · rw [if_neg n] at e
      rw [valV_neg (fun x => n (Sum.inr.inj x))]
      exact r.none e
theorem KvAt.some {K : PySem.W.Frag} {H : Hp} {z : Str} {f : Fr} : ∀ {kvs : List (Key × V)} {M : Fs}, KvAt K H kvs M → look M z = some f → ∃ a, valV kvs (Sum.inr z : Key) = some (V.ref a) ∧ SqT K H a (tupOf f.1 f.2)
  | _, _, .nil, e => by cases e
  | _, _, .cons (a := a) (z := y) h r, e => by
    unfold look at e
    by_cases n : y = z
    · rw [if_pos n] at e
      cases e
      exact ⟨a, by rw [valV_pos (by rw [n])], h⟩
    · rw [if_neg n] at e
      rw [valV_neg (fun x => n (Sum.inr.inj x))]
      exact r.some e
theorem KvAt.app {K : PySem.W.Frag} {H : Hp} : ∀ {kvs kws : List (Key × V)} {M N : Fs}, KvAt K H kvs M → KvAt K H kws N → KvAt K H (kvs ++ kws) (M ++ N)
  | _, _, _, _, .nil, h => h
  | _, _, _, _, .cons h r, h2 => .cons h (r.app h2)
theorem KvAt.map {K : PySem.W.Frag} {H : Hp} {z : Str} {f : Fr} {a : Addr} (ha : SqT K H a (tupOf f.1 f.2)) : ∀ {kvs : List (Key × V)} {M : Fs}, KvAt K H kvs M → KvAt K H (kvs.map fun kv => if kv.1 = (Sum.inr z : Key) then (kv.1, V.ref a) else kv) (M.map fun m => if m.1 = z then (m.1, f) else m)
  | _, _, .nil => .nil
  | _, _, .cons (a := b) (z := y) (f := g) h r => by
    rw [List.map_cons, List.map_cons]
    by_cases n : y = z
    · rw [if_pos (show (Sum.inr y : Key) = Sum.inr z by rw [n]), if_pos n]
      exact .cons ha (r.map ha)
    · rw [if_neg (fun x => n (Sum.inr.inj x)), if_neg n]
      exact .cons h (r.map ha)
theorem KvAt.put {K : PySem.W.Frag} {H : Hp} {z : Str} {f : Fr} {a : Addr} {kvs : List (Key × V)} {M : Fs} (h : KvAt K H kvs M) (ha : SqT K H a (tupOf f.1 f.2)) : KvAt K H (putK kvs (Sum.inr z : Key) (.ref a)) (putM M z f) := by
  unfold putM putK
  rw [valV_any]
  cases e : look M z with
  | none =>
    rw [h.none e]
    exact h.app (.cons ha .nil)
  | some g =>
    obtain ⟨b, hb, _⟩ := h.some e
    rw [hb]
    exact h.map ha
theorem look_isSome {M : Fs} {z : Str} : (look M z).isSome = true ↔ z ∈ M.map Prod.fst := by
  induction M with
  | nil => simp [look]
  | cons m M ih =>
    unfold look
    by_cases n : m.1 = z
    · rw [if_pos n]; simp [n]
    · rw [if_neg n, ih, List.map_cons, List.mem_cons]
      constructor
      · exact .inr
      · rintro (e | e)
        · exact absurd e.symm n
        · exact e
theorem look_mem {M : Fs} {z : Str} {f : Fr} : look M z = some f → (z, f) ∈ M := by
  induction M with
  | nil => intro e; cases e
  | cons m M ih =>
    unfold look
    by_cases n : m.1 = z
    · rw [if_pos n]
      intro e
      cases e
      rw [← n]
      exact List.mem_cons_self
    · rw [if_neg n]
      exact fun e => List.mem_cons_of_mem _ (ih e)
theorem FsOk.ofLook {M : Fs} (h : FsOk M) {z : Str} {f : Fr} (e : look M z = some f) : FrOk f := h.fo _ (look_mem e)
theorem FsOk.put {M : Fs} (h : FsOk M) {z : Str} {f : Fr} (hf : FrOk f) (hz : look M z = none → nameB z = true ∧ M.length < 6) : FsOk (putM M z f) := by
  unfold putM
  cases e : look M z with
  | some g =>
    rw [if_pos (by rfl)]
    have k : (M.map fun m => if m.1 = z then (m.1, f) else m).map Prod.fst = M.map Prod.fst := by
      rw [List.map_map]
      refine List.map_congr_left fun m _ => ?_
      show (if m.1 = z then (m.1, f) else m).1 = m.1
      by_cases n : m.1 = z
      · rw [if_pos n]
      · rw [if_neg n]
    refine ⟨by rw [k]; exact h.nd, by rw [List.length_map]; exact h.le, fun m hm => ?_, fun m hm => ?_⟩
    · obtain ⟨x, hx, rfl⟩ := List.mem_map.mp hm
      by_cases n : x.1 = z
      · rw [if_pos n]; exact h.nm x hx
      · rw [if_neg n]; exact h.nm x hx
    · obtain ⟨x, hx, rfl⟩ := List.mem_map.mp hm
      by_cases n : x.1 = z
      · rw [if_pos n]; exact hf
      · rw [if_neg n]; exact h.fo x hx
  | none =>
    rw [if_neg (by intro x; cases x)]
    obtain ⟨h1, h2⟩ := hz e
    refine ⟨?_, by rw [List.length_append]; exact h2, fun m hm => ?_, fun m hm => ?_⟩
    · rw [List.map_append, List.nodup_append]
      refine ⟨h.nd, by simp, ?_⟩
      intro a ha b hb
      rw [List.map_cons, List.map_nil, List.mem_singleton] at hb
      rw [hb]
      intro n
      rw [n] at ha
      have := look_isSome.mpr ha
      rw [e] at this
      cases this
    · rcases List.mem_append.mp hm with h3 | h3
      · exact h.nm m h3
      · rw [List.mem_singleton.mp h3]; exact h1
    · rcases List.mem_append.mp hm with h3 | h3
      · exact h.fo m h3
      · rw [List.mem_singleton.mp h3]; exact hf
theorem FsOk.drop {M : Fs} (h : FsOk M) (z : Str) : FsOk (dropM M z) :=
  ⟨List.Nodup.sublist (List.Sublist.map _ List.filter_sublist) h.nd, Nat.le_trans (List.length_filter_le _ _) h.le, fun m hm => h.nm m (List.mem_filter.mp hm).1, fun m hm => h.fo m (List.mem_filter.mp hm).1⟩
theorem FsOk.nil : FsOk [] := ⟨List.nodup_nil, Nat.zero_le _, (fun m h => by cases h), (fun m h => by cases h)⟩
/-! faults -/
inductive Flt : Type
  | noNode (z : Int) | notRoot (z : Int) | sameRoot (z : Int) | many | badParent (v : Nat) | cycle (v : Nat)
  | badName (z : Str) | taken (z : Str) | full | noForest (z : Str) | badCmd (w : Option Str) | badCount (z : Int) | badStep (i : Nat)
  | sizes (n : Nat) | roots (v : Nat) | noWay (v : Nat) | manyW | noWatch (z : Int)
structure CEr where
  (NN NR SR TM BP CY BN NT TF NF BC BK BS SD RD NW TW WN : Addr)
def Flt.adr (c : CEr) : Flt → Addr
  | .noNode _ => c.NN | .notRoot _ => c.NR | .sameRoot _ => c.SR | .many => c.TM | .badParent _ => c.BP | .cycle _ => c.CY
  | .badName _ => c.BN | .taken _ => c.NT | .full => c.TF | .noForest _ => c.NF | .badCmd _ => c.BC | .badCount _ => c.BK | .badStep _ => c.BS
  | .sizes _ => c.SD | .roots _ => c.RD | .noWay _ => c.NW | .manyW => c.TW | .noWatch _ => c.WN
def Flt.fld : Flt → Str
  | .noNode _ => "node" | .notRoot _ => "node" | .sameRoot _ => "node" | .many => "limit" | .badParent _ => "node" | .cycle _ => "node"
  | .badName _ => "name" | .taken _ => "name" | .full => "limit" | .noForest _ => "name" | .badCmd _ => "word" | .badCount _ => "count" | .badStep _ => "pos"
  | .sizes _ => "size" | .roots _ => "node" | .noWay _ => "node" | .manyW => "limit" | .noWatch _ => "number"
def Flt.tag : Flt → Str
  | .noNode _ => "NoNode" | .notRoot _ => "NotRoot" | .sameRoot _ => "SameRoot" | .many => "TooManyNodes" | .badParent _ => "BadParent" | .cycle _ => "Cycle"
  | .badName _ => "BadName" | .taken _ => "NameTaken" | .full => "TooManyForests" | .noForest _ => "NoForest" | .badCmd _ => "BadCommand" | .badCount _ => "BadCount" | .badStep _ => "BadStep"
  | .sizes _ => "SizesDiffer" | .roots _ => "RootsDiffer" | .noWay _ => "NoWay" | .manyW => "TooManyWatches" | .noWatch _ => "NoWatch"
def Flt.val : Flt → V
  | .noNode z => .int z | .notRoot z => .int z | .sameRoot z => .int z | .many => .int 40 | .badParent v => vi v | .cycle v => vi v
  | .badName z => .str z | .taken z => .str z | .full => .int 6 | .noForest z => .str z | .badCmd none => .non | .badCmd (some w) => .str w | .badCount z => .int z | .badStep i => vi i
  | .sizes n => vi n | .roots v => vi v | .noWay v => vi v | .manyW => .int 6 | .noWatch z => .int z
/-- a fault is on its way -/
def Fl (c : CEr) (H : Hp) (E : XK) (e : Flt) : Prop := Flies H E (e.adr c) e.fld e.tag e.val
theorem Fl.same {c : CEr} {H H' : Hp} {E : XK} {e : Flt} (h : Fl c H E e) (s : Same H H') : Fl c H' E e := Flies.same h s
def nameF (M : Fs) (z : Str) : Option Flt := if nameB z = true then (if (look M z).isSome = true then some (.taken z) else if 6 ≤ M.length then some .full else none) else some (.badName z)
def erF : Er → Flt
  | .no z => .noNode z
  | .nr z => .notRoot z
  | .sr z => .sameRoot z
def verF (xs : List Int) : Option Flt := match verdict xs with
  | .ok => none
  | .many => some .many
  | .bad v => some (.badParent v)
  | .cyc v => some (.cycle v)
/-! commands -/
inductive Cmd : Type
  | new (z : Str) (xs : List Int) | drop (z : Str) | copy (z y : Str) | swap (z y : Str) | find (z : Str) (i : Int) | link (z : Str) (i j : Int) | unite (z : Str) (i j : Int)
  | run (z : Str) (ss : List Stp) | runB (z : Str) | flatten (z : Str) | grow (z : Str) (i : Int) | mal (w : Option Str)
abbrev Ans (α : Type) := Except Flt α
/-- with the forest of a name -/
def withF (M : Fs) (z : Str) (k : Fr → Ans (Fs × Int)) : Ans (Fs × Int) := match look M z with
  | none => .error (.noForest z)
  | some f => k f
def orF (o : Option Flt) (r : Ans (Fs × Int)) : Ans (Fs × Int) := match o with
  | some e => .error e
  | none => r
def flatQ (f : Fr) : Nat → Nat := fun v => root f.2 f.1 v
def growQ (f : Fr) : Nat → Nat := fun v => if v < f.1 then f.2 v else v
def doC (M : Fs) : Cmd → Ans (Fs × Int)
  | .new z xs => orF (nameF M z) (orF (verF xs) (.ok (putM M z (xs.length, par xs), 0)))
  | .drop z => withF M z fun _ => .ok (dropM M z, 0)
  | .copy z y => withF M z fun f => orF (nameF M y) (.ok (putM M y f, 0))
  | .swap z y => withF M z fun f => withF M y fun g => .ok (putM (putM M z g) y f, 0)
  | .find z i => withF M z fun f => if 0 ≤ i ∧ i < (f.1 : Int) then .ok (putM M z (f.1, fnd f.1 f.2 i.toNat), (((ups f.2 f.1 i.toNat).length : Nat) : Int)) else .error (.noNode i)
  | .link z i j => withF M z fun f => match linkR f.1 f.2 i j with
    | .er e => .error (erF e)
    | .ok q => .ok (putM M z (f.1, q), 0)
  | .unite z i j => withF M z fun f => if 0 ≤ i ∧ i < (f.1 : Int) then (if 0 ≤ j ∧ j < (f.1 : Int) then .ok (putM M z (f.1, uniF f.1 f.2 i.toNat j.toNat), ((costs f.1 [i.toNat, j.toNat] f.2).sum : Nat)) else .error (.noNode j)) else .error (.noNode i)
  | .run z ss => withF M z fun f => match stepsR f.1 ss f.2 with
    | .er e => .error (erF e)
    | .ok (q, c) => .ok (putM M z (f.1, q), c)
  | .runB z => withF M z fun _ => .error (.badStep 0)
  | .flatten z => withF M z fun f => .ok (putM M z (f.1, flatQ f), ((costs f.1 (needS f.1 f.2 (flatQ f)) f.2).sum : Nat))
  | .grow z i => withF M z fun f => if i < 0 then .error (.badCount i) else if 40 < (f.1 : Int) + i then .error .many else .ok (putM M z (f.1 + i.toNat, growQ f), 0)
  | .mal w => .error (.badCmd w)
end Ff

namespace Ff
open PySem PySem.Spec PyProof.Rows L2 ExX LamX
abbrev sCNN : Stmt := topS 70
abbrev cNNN : List Str := ["forests", "name"]
theorem scCNN : FnScope cNNN ["forests", "name"] (defScope sCNN) := ⟨rfl, rfl, rfl, by decide +kernel, rfl, by decide +kernel, by decide +kernel⟩
abbrev sDoNew : Stmt := topS 71
abbrev doNewN : List Str := ["forests", "name", "parents", "forest"]
theorem scDoNew : FnScope doNewN ["forests", "name", "parents"] (defScope sDoNew) := ⟨rfl, rfl, rfl, by decide +kernel, rfl, by decide +kernel, by decide +kernel⟩
def spFInB (K : PySem.W.Frag) (c : CEr) : Sp := fun vs H Q E => ∃ (m : Addr) (z : Str) (M : Fs), vs = [.ref m, .str z] ∧ FsAt K H m M ∧ z.length ≤ 800 ∧
  match look M z with
  | none => Fl c H E (.noForest z)
  | some f => ∀ a, SqT K H a (tupOf f.1 f.2) → Q (.ref a) H
def spCNNB (K : PySem.W.Frag) (c : CEr) : Sp := fun vs H Q E => ∃ (m : Addr) (z : Str) (M : Fs), vs = [.ref m, .str z] ∧ FsAt K H m M ∧ z.length ≤ 800 ∧ (reprText z).length ≤ 9000 ∧
  match nameF M z with
  | some e => Fl c H E e
  | none => ∀ H', Same H H' → Q .non H'
theorem FsAt.get {K : PySem.W.Frag} {H : Hp} {m : Addr} {M : Fs} (h : FsAt K H m M) (z : Str) : match look M z with
    | none => DGet H m (.str z) none
    | some f => ∃ a, DGet H m (.str z) (some (V.ref a)) ∧ SqT K H a (tupOf f.1 f.2) := by
  obtain ⟨kvs, h1, h2⟩ := h
  have d := DGet.k (k := (Sum.inr z : Key)) h1
  cases e : look M z with
  | none =>
    rw [h2.none e] at d
    exact d
  | some f =>
    obtain ⟨a, ha, hs⟩ := h2.some e
    rw [ha] at d
    exact ⟨a, d, hs⟩
/-- what a command comes to: a fault, or new forests and a cost -/
def DoO (K : PySem.W.Frag) (c : CEr) (H : Hp) (Q : VK) (E : XK) : Ans (Fs × Int) → Prop
  | .error e => Fl c H E e
  | .ok (M', cost) => ∀ (t d : Addr) H', H t = none → H d = none → H' t = some (.tup [.ref d, .int cost]) → FsAt K H' d M' → Same H H' → Q (.ref t) H'
theorem DoO.same {K : PySem.W.Frag} {c : CEr} {H H1 : Hp} {Q : VK} {E : XK} : ∀ {r : Ans (Fs × Int)}, DoO K c H Q E r → Same H H1 → DoO K c H1 Q E r
  | .error e, h, s => Fl.same h s
  | .ok (M', cost), h, s => fun t d H' nt nd ht hd s' => h t d H' (sm_none s nt) (sm_none s nd) ht hd (s.trans s')
/-- the new dict behind a command on one forest -/
theorem two_szS : 2 ≤ sizeLine := by decide
theorem mergeK_oneS (kvs : List (Key × V)) (k : Key) (v : V) : mergeK kvs (mergeK [] [(k, v)]) = putK kvs k v := rfl
theorem disp_varS {i j k : Nat} {σ : L2.St} {H : Hp} {Q : VK} {m : Addr} {z : Str} {v : V} {kvs : List (Key × V)} (hi : σ[i]? = some (some (V.ref m))) (hj : σ[j]? = some (some (V.str z))) (hk : σ[k]? = some (some v)) (hm : H m = some (.dK kvs)) (hl : kvs.length ≤ 1000)
    (q : ∀ p H', H p = none → H' p = some (.dK (putK kvs (Sum.inr z : Key) v)) → Same H H' → Q (.ref p) H') : tDispU (tVar i) [(tVar j, tVar k)] σ H Q := by
  refine fun p np => ⟨_, hi, upd_same, m, kvs, rfl, (fun e => by rw [e, np] at hm; cases hm), same_new np _ _ hm, fun qq nq => ?_⟩
  have hpq : qq ≠ p := fun e => by rw [e, upd_same] at nq; cases nq
  have hq : H qq = none := by rw [upd_ne hpq] at nq; rw [upd_ne hpq] at nq; exact nq
  refine ⟨_, hj, _, hk, ?_⟩
  refine ⟨by rw [upd_ne (Ne.symm hpq), upd_same], upd_same, [((Sum.inr z : Key), v)], rfl, by simp, hl, ?_⟩
  rw [mergeK_oneS]
  refine q p _ np upd_same fun b o hb => ?_
  have e1 : b ≠ p := fun e => by rw [e, np] at hb; cases hb
  have e2 : b ≠ qq := fun e => by rw [e, hq] at hb; cases hb
  rw [upd_ne e1, upd_ne e2, upd_ne e2, upd_ne e1, upd_ne e1]
  exact hb
/-- a dict and a pair: the answer of a command -/
theorem DoO.give {K : PySem.W.Frag} {c : CEr} {H H1 : Hp} {Q : VK} {E : XK} {M' : Fs} {cost : Int} {t d : Addr} (h : DoO K c H Q E (.ok (M', cost))) (s : Same H H1) (hd : FsAt K H1 d M') (nd : H d = none) (nt : H1 t = none) : Q (.ref t) (upd H1 t (.tup [.ref d, .int cost])) :=
  h t d _ (sm_none s nt) nd upd_same (hd.same (same_new nt)) (s.trans (same_new nt))
def spNew (K : PySem.W.Frag) (c : CEr) : Sp := fun vs H Q E => ∃ (m l : Addr) (z : Str) (kd : Bool) (xs : List Int) (M : Fs), vs = [.ref m, .str z, .ref l] ∧ FsAt K H m M ∧ FsOk M ∧ z.length ≤ 800 ∧ (reprText z).length ≤ 9000 ∧ Kd kd K H l (xs.map V.int) ∧ xs.length ≤ 1000 ∧ DoO K c H Q E (doC M (.new z xs))
theorem tup_of {K : PySem.W.Frag} {kd : Bool} {H1 : Hp} {l : Addr} {ys : List V} {Q2 : VK} (hl : Kd kd K H1 l ys) (q : ∀ lt H2, SqT K H2 lt ys → Same H1 H2 → Q2 (.ref lt) H2) :
    ∃ (p : Addr) (zs : List V), [V.ref l] = [V.ref p] ∧ ((SqL K H1 p zs ∧ ∀ l', H1 l' = none → Q2 (.ref l') (upd H1 l' (.tup zs))) ∨ (SqT K H1 p zs ∧ Q2 (.ref p) H1)) := by
  cases kd with
  | true => exact ⟨l, ys, rfl, .inl ⟨hl, fun l' n => q l' _ (SqT.of upd_same) (same_new n)⟩⟩
  | false => exact ⟨l, ys, rfl, .inr ⟨hl, q l H1 hl (Same.refl _)⟩⟩
theorem ok_tup {xs : List Int} (h : verdict xs = .ok) : xs.map V.int = tupOf xs.length (par xs) := row_tup (ver_ok.mp h).2.1
section
variable {P : Program} {w : World} {K : PySem.W.Frag} {mg : Str → Option Value} {base : Heap} {c : CEr}
theorem okB_fIn {f : Addr} {fd : FuncData} (F : Fun K "forest_in" "forest_in" sFIn f fd) (RNF : RaisV P w K mg base PtS 2 "NoForest" c.NF "name" "NoForest") : FnOk P w K mg base (L2N.CX P w) 4 f fd ["forests", "name"] (spFInB K c) := by
  refine okN F scFIn (fun vs H Q E h => ?_) (fun cdv A outer s H vs Q E hr h tk => ?_)
  · obtain ⟨m, z, M, rfl, _⟩ := h
    rfl
  · obtain ⟨m, z, M, rfl, hm, hz, q⟩ := h
    have hrm : ∀ {j : Nat}, j ≤ 3 → Room j (A.deeper (envOfC "forest_in" (defScope sFIn) s.heap.objs.size f cdv)) := fun h => hr.mono h
    have hu1 : (A.deeper (envOfC "forest_in" (defScope sFIn) s.heap.objs.size f cdv)).units + 1 < cLine := by have := hr.un; omega
    refine ⟨_, (pss_cons (ps_if (pt_cmp (pc_dnotin hu1 (pv 1) (pv 0)))
        (pss_one (L2N.ps_raise rfl tk (pmk_errV RNF (hrm (by decide)) (by rfl) (pv 1)))) pss_nil)
      (pss_one (ps_ret (pe_dget hu1 (pv 0) (pv 1) (fun _ _ => rfl))))), ?_⟩
    have dg := hm.get z
    cases e : look M z with
    | none =>
      rw [e] at q dg
      exact ⟨_, rfl, _, rfl, m, _, rfl, dg, _, rfl, iteT ⟨_, rfl, .str z, rfl, ⟨z, rfl, by omega⟩, q⟩⟩
    | some g =>
      rw [e] at q dg
      obtain ⟨a, dg, ha⟩ := dg
      exact ⟨_, rfl, _, rfl, m, _, rfl, dg, _, rfl, iteF ⟨_, rfl, _, rfl, m, _, rfl, dg, q a ha⟩⟩
theorem okB_cNN {f fN : Addr} {fd fdN : FuncData} (F : Fun K "check_new_name" "check_new_name" sCNN f fd) (kN : Kn P w K mg base 1 "is_name" sIsNm ["text"] spIsNm fN fdN) (T : Tx mg) {tA : Tok} (gMF : mg "MAX_FORESTS" = some (.int 6 tA))
    (RBN : RaisV P w K mg base PtR 2 "BadName" c.BN "name" "BadName") (RNT : RaisV P w K mg base PtS 2 "NameTaken" c.NT "name" "NameTaken") (RTF : Raisable P w K mg base 2 "TooManyForests" c.TF "limit" "TooManyForests") : FnOk P w K mg base (L2N.CX P w) 4 f fd ["forests", "name"] (spCNNB K c) := by
  refine okN F scCNN (fun vs H Q E h => ?_) (fun cdv A outer s H vs Q E hr h tk => ?_)
  · obtain ⟨m, z, M, rfl, _⟩ := h
    rfl
  · obtain ⟨m, z, M, rfl, hm, hz, hz2, q⟩ := h
    have hrm : ∀ {j : Nat}, j ≤ 3 → Room j (A.deeper (envOfC "check_new_name" (defScope sCNN) s.heap.objs.size f cdv)) := fun h => hr.mono h
    have hu1 : (A.deeper (envOfC "check_new_name" (defScope sCNN) s.heap.objs.size f cdv)).units + 1 < cLine := by have := hr.un; omega
    refine ⟨_, (pss_cons (ps_if (pt_not (pt_val (pe_call kN.G (hrm (by decide)) (by rfl) kN.g kN.F.kp kN.b .nil pass0 (pa_cons (pv 1) pa_nil))))
        (pss_one (L2N.ps_raise rfl tk (pmk_errV RBN (hrm (by decide)) (by rfl) (pv 1)))) pss_nil)
      (pss_cons (ps_if (pt_cmp (pc_din hu1 (pv 1) (pv 0)))
        (pss_one (L2N.ps_raise rfl tk (pmk_errV RNT (hrm (by decide)) (by rfl) (pv 1)))) pss_nil)
      (pss_one (ps_if (pt_cmpR op_ge (pe_callB call_lenD (by rfl) T.len PySem.boot_len (pa_cons (pv 0) pa_nil)) (pe_glob (v := .int 6) rfl gMF ⟨_, rfl⟩) (nomark _))
        (pss_one (L2N.ps_raise rfl tk (pmk_err RTF (hrm (by decide)) (by rfl) (pe_glob (v := .int 6) (by rfl) gMF ⟨_, rfl⟩)))) pss_nil)))), ?_⟩
    refine ⟨_, rfl, z, rfl, by omega, fun H1 s1 => ⟨_, rfl, ?_⟩⟩
    have hm1 := hm.same s1
    have dg := hm1.get z
    unfold nameF at q
    cases e : nameB z with
    | false =>
      rw [e, if_neg (by intro x; cases x)] at q
      exact iteT ⟨_, rfl, .str z, rfl, ⟨z, rfl, hz2⟩, Fl.same q s1⟩
    | true =>
      rw [e, if_pos rfl] at q
      refine iteF ?_
      cases e2 : look M z with
      | some g =>
        rw [e2, if_pos (by rfl)] at q
        rw [e2] at dg
        obtain ⟨a, dg, ha⟩ := dg
        exact ⟨_, rfl, _, rfl, m, _, rfl, dg, _, rfl, iteT ⟨_, rfl, .str z, rfl, ⟨z, rfl, by omega⟩, Fl.same q s1⟩⟩
      | none =>
        rw [e2, if_neg (by intro x; cases x)] at q
        rw [e2] at dg
        obtain ⟨kvs, h1, h2⟩ := hm1
        refine ⟨_, rfl, _, rfl, m, _, rfl, dg, _, rfl, iteF ?_⟩
        refine ⟨_, rfl, m, kvs, rfl, h1, _, _, rfl, rfl, _, rfl, ?_⟩
        have hl := h2.len
        by_cases e3 : 6 ≤ M.length
        · rw [if_pos e3] at q
          rw [decide_eq_true (show (6 : Int) ≤ (kvs.length : Int) by omega)]
          exact iteT ⟨.int 6, rfl, ⟨6, rfl, by decide +kernel⟩, Fl.same q s1⟩
        · rw [if_neg e3] at q
          rw [decide_eq_false (show ¬ (6 : Int) ≤ (kvs.length : Int) by omega)]
          exact iteF (q H1 s1)
theorem okB_doNew {f fW fC : Addr} {fd fdW fdC : FuncData} (F : Fun K "do_new" "do_new" sDoNew f fd) (kW : KnX P w K mg base 4 "check_new_name" ["forests", "name"] (spCNNB K c) fW fdW) (kC : KnX P w K mg base 4 "check_forest" ["parents"] (spCheckB K c.TM c.BP c.CY) fC fdC) (T : Tx mg) :
    FnOk P w K mg base (L2N.CX P w) 18 f fd ["forests", "name", "parents"] (spNew K c) := by
  refine okN F scDoNew (fun vs H Q E h => ?_) (fun cdv A outer s H vs Q E hr h tk => ?_)
  · obtain ⟨m, l, z, kd, xs, M, rfl, _⟩ := h
    rfl
  · obtain ⟨m, l, z, kd, xs, M, rfl, hm, hM, hz, hz2, hl, hxl, q⟩ := h
    have hrm : ∀ {j : Nat}, j ≤ 17 → Room j (A.deeper (envOfC "do_new" (defScope sDoNew) s.heap.objs.size f cdv)) := fun h => hr.mono h
    refine ⟨_, (pss_cons (ps_expr (pe_call kW.G (hrm (by decide)) (by rfl) kW.g kW.kp kW.b .nil (lookNE tk) (pa_cons (pv 0) (pa_cons (pv 1) pa_nil))))
      (pss_cons (ps_set (i := 3) scDoNew.nd rfl (.inl rfl) (pe_callTy call_tuple_of (by rfl) T.tuple (by decide +kernel) (pa_cons (pv 2) pa_nil)))
      (pss_cons (ps_expr (pe_call kC.G (hrm (by decide)) (by rfl) kC.g kC.kp kC.b .nil (lookNE tk) (pa_cons (pv 3) pa_nil)))
      (pss_one (ps_ret (pe_tup (pa_cons (pe_dispU (pv 0) (pps_cons (pv 1) (pv 3) pps_nil)) (pa_cons pe_int pa_nil)))))))), ?_⟩
    refine ⟨_, rfl, _, rfl, m, z, M, rfl, hm, hz, hz2, ?_⟩
    change DoO K c H Q E (orF (nameF M z) (orF (verF xs) (.ok (putM M z (xs.length, par xs), 0)))) at q
    cases e : nameF M z with
    | some er =>
      rw [e] at q
      exact q
    | none =>
      rw [e] at q
      intro H1 s1
      refine ⟨_, rfl, tup_of (Q2 := fun x H' => gName 3 x _ H' _) (hl.same s1) fun lt H2 hlt s2 => ?_⟩
      refine ⟨_, rfl, lt, xs, rfl, hlt, hxl, ?_⟩
      have s12 := s1.trans s2
      change DoO K c H Q E (orF (verF xs) (.ok (putM M z (xs.length, par xs), 0))) at q
      unfold verF at q
      unfold CheckO
      cases e2 : verdict xs with
      | many => rw [e2] at q; exact Fl.same q s12
      | bad v => rw [e2] at q; exact Fl.same q s12
      | cyc v => rw [e2] at q; exact Fl.same q s12
      | ok =>
        rw [e2] at q
        intro H3 s3
        have s13 := s12.trans s3
        obtain ⟨kvs, h1, h2⟩ := hm.same s13
        have hl2 := h2.len
        have hle := hM.le
        dsimp only [tRet, tTup, tCons]
        refine disp_varS (i := 0) (j := 1) (k := 3) rfl rfl rfl h1 (by omega) fun d H4 nd hd s4 => ?_
        refine ⟨two_szS, fun t nt => ?_⟩
        refine DoO.give q (s13.trans s4) ⟨_, hd, (h2.same s4).put (f := (xs.length, par xs)) ?_⟩ (sm_none s13 nd) nt
        rw [← ok_tup e2]
        exact same_sqt (s3.trans s4) hlt
end
end Ff

namespace Ff
open PySem PySem.Spec PyProof.Rows L2 ExX LamX
abbrev sDoCp : Stmt := topS 73
abbrev doCpN : List Str := ["forests", "name", "other", "forest"]
theorem scDoCp : FnScope doCpN ["forests", "name", "other"] (defScope sDoCp) := ⟨rfl, rfl, rfl, by decide +kernel, rfl, by decide +kernel, by decide +kernel⟩
abbrev sDoFi : Stmt := topS 75
abbrev doFiN : List Str := ["forests", "name", "node", "after", "cost"]
theorem scDoFi : FnScope doFiN ["forests", "name", "node"] (defScope sDoFi) := ⟨rfl, rfl, rfl, by decide +kernel, rfl, by decide +kernel, by decide +kernel⟩
abbrev sDoUn : Stmt := topS 77
abbrev doUnN : List Str := ["forests", "name", "one", "other", "after", "cost"]
theorem scDoUn : FnScope doUnN ["forests", "name", "one", "other"] (defScope sDoUn) := ⟨rfl, rfl, rfl, by decide +kernel, rfl, by decide +kernel, by decide +kernel⟩
abbrev sDoRu : Stmt := topS 78
abbrev doRuN : List Str := ["forests", "name", "history", "after", "cost"]
theorem scDoRu : FnScope doRuN ["forests", "name", "history"] (defScope sDoRu) := ⟨rfl, rfl, rfl, by decide +kernel, rfl, by decide +kernel, by decide +kernel⟩
abbrev sDoFl : Stmt := topS 79
abbrev doFlN : List Str := ["forests", "name", "forest", "after", "costs"]
theorem scDoFl : FnScope doFlN ["forests", "name"] (defScope sDoFl) := ⟨rfl, rfl, rfl, by decide +kernel, rfl, by decide +kernel, by decide +kernel⟩
def spCopy (K : PySem.W.Frag) (c : CEr) : Sp := fun vs H Q E => ∃ (m : Addr) (z y : Str) (M : Fs), vs = [.ref m, .str z, .str y] ∧ FsAt K H m M ∧ FsOk M ∧ z.length ≤ 800 ∧ y.length ≤ 800 ∧ (reprText y).length ≤ 9000 ∧ DoO K c H Q E (doC M (.copy z y))
def spDFind (K : PySem.W.Frag) (c : CEr) : Sp := fun vs H Q E => ∃ (m : Addr) (z : Str) (i : Int) (M : Fs), vs = [.ref m, .str z, .int i] ∧ FsAt K H m M ∧ FsOk M ∧ z.length ≤ 800 ∧ i.natAbs.log2 < 1920 ∧ DoO K c H Q E (doC M (.find z i))
def spDUni (K : PySem.W.Frag) (c : CEr) : Sp := fun vs H Q E => ∃ (m : Addr) (z : Str) (i j : Int) (M : Fs), vs = [.ref m, .str z, .int i, .int j] ∧ FsAt K H m M ∧ FsOk M ∧ z.length ≤ 800 ∧ i.natAbs.log2 < 1920 ∧ j.natAbs.log2 < 1920 ∧ DoO K c H Q E (doC M (.unite z i j))
def spDRun (K : PySem.W.Frag) (c : CEr) (n : Nat) : Sp := fun vs H Q E => ∃ (m b : Addr) (z : Str) (kd : Bool) (xs : List V) (ss : List Stp) (M : Fs), vs = [.ref m, .str z, .ref b] ∧ FsAt K H m M ∧ FsOk M ∧ z.length ≤ 800 ∧ H b = some (ob kd xs) ∧ StsAt H xs ss ∧ Wfs true ss ∧ nests ss ≤ n ∧ n ≤ 4 ∧ nWrs ss ≤ 100 ∧ Smls ss ∧ DoO K c H Q E (doC M (.run z ss))
def spDFlat (K : PySem.W.Frag) (c : CEr) : Sp := fun vs H Q E => ∃ (m : Addr) (z : Str) (M : Fs), vs = [.ref m, .str z] ∧ FsAt K H m M ∧ FsOk M ∧ z.length ≤ 800 ∧ DoO K c H Q E (doC M (.flatten z))
theorem nodes_end1 {i : Int} {n : Nat} (h : 0 ≤ i ∧ i < (n : Int)) : ((i.toNat : Nat) : Int) = i ∧ i.toNat < n := by omega
theorem vi_of {i : Int} (h : 0 ≤ i) : vi i.toNat = V.int i := by show V.int ((i.toNat : Nat) : Int) = V.int i; rw [show ((i.toNat : Nat) : Int) = i by omega]
section
variable {P : Program} {w : World} {K : PySem.W.Frag} {mg : Str → Option Value} {base : Heap} {c : CEr}
theorem okB_doCp {f fI fW : Addr} {fd fdI fdW : FuncData} (F : Fun K "do_copy" "do_copy" sDoCp f fd) (kI : KnX P w K mg base 4 "forest_in" ["forests", "name"] (spFInB K c) fI fdI) (kW : KnX P w K mg base 4 "check_new_name" ["forests", "name"] (spCNNB K c) fW fdW) :
    FnOk P w K mg base (L2N.CX P w) 18 f fd ["forests", "name", "other"] (spCopy K c) := by
  refine okN F scDoCp (fun vs H Q E h => ?_) (fun cdv A outer s H vs Q E hr h tk => ?_)
  · obtain ⟨m, z, y, M, rfl, _⟩ := h
    rfl
  · obtain ⟨m, z, y, M, rfl, hm, hM, hz, hy, hy2, q⟩ := h
    have hrm : ∀ {j : Nat}, j ≤ 17 → Room j (A.deeper (envOfC "do_copy" (defScope sDoCp) s.heap.objs.size f cdv)) := fun h => hr.mono h
    refine ⟨_, (pss_cons (ps_set (i := 3) scDoCp.nd rfl (.inl rfl) (pe_call kI.G (hrm (by first | decide | omega)) (by rfl) kI.g kI.kp kI.b .nil (lookNE tk) (pa_cons (pv 0) (pa_cons (pv 1) pa_nil))))
      (pss_cons (ps_expr (pe_call kW.G (hrm (by first | decide | omega)) (by rfl) kW.g kW.kp kW.b .nil (lookNE tk) (pa_cons (pv 0) (pa_cons (pv 2) pa_nil))))
      (pss_one (ps_ret (pe_tup (pa_cons (pe_dispU (pv 0) (pps_cons (pv 2) (pv 3) pps_nil)) (pa_cons pe_int pa_nil))))))), ?_⟩
    change DoO K c H Q E (withF M z fun f => orF (nameF M y) (.ok (putM M y f, 0))) at q
    unfold withF at q
    refine ⟨_, rfl, _, rfl, m, z, M, rfl, hm, hz, ?_⟩
    cases e : look M z with
    | none => rw [e] at q; exact q
    | some g =>
      rw [e] at q
      intro a ha
      refine ⟨_, rfl, _, rfl, m, y, M, rfl, hm, hy, hy2, ?_⟩
      dsimp only at q
      cases e2 : nameF M y with
      | some er => rw [e2] at q; exact q
      | none =>
        rw [e2] at q
        intro H1 s1
        obtain ⟨kvs, h1, h2⟩ := hm.same s1
        have hl2 := h2.len
        have hle := hM.le
        dsimp only [tRet, tTup, tCons]
        refine disp_varS (i := 0) (j := 2) (k := 3) rfl rfl rfl h1 (by omega) fun d H4 nd hd s4 => ?_
        refine ⟨two_szS, fun t nt => ?_⟩
        exact DoO.give q (s1.trans s4) ⟨_, hd, (h2.same s4).put (same_sqt (s1.trans s4) ha)⟩ (sm_none s1 nd) nt
theorem okB_doFi {f fI fF : Addr} {fd fdI fdF : FuncData} (F : Fun K "do_find" "do_find" sDoFi f fd) (kI : KnX P w K mg base 4 "forest_in" ["forests", "name"] (spFInB K c) fI fdI) (kF : KnX P w K mg base 7 "find" ["forest", "node"] (spOr (spFind K) (spChkX K c.NN)) fF fdF) :
    FnOk P w K mg base (L2N.CX P w) 18 f fd ["forests", "name", "node"] (spDFind K c) := by
  refine okN F scDoFi (fun vs H Q E h => ?_) (fun cdv A outer s H vs Q E hr h tk => ?_)
  · obtain ⟨m, z, i, M, rfl, _⟩ := h
    rfl
  · obtain ⟨m, z, i, M, rfl, hm, hM, hz, hi, q⟩ := h
    have hrm : ∀ {j : Nat}, j ≤ 17 → Room j (A.deeper (envOfC "do_find" (defScope sDoFi) s.heap.objs.size f cdv)) := fun h => hr.mono h
    refine ⟨_, (pss_cons (ps_asg (pe_call kF.G (hrm (by first | decide | omega)) (by rfl) kF.g kF.kp kF.b .nil (lookNE tk) (pa_cons (pe_call kI.G (hrm (by first | decide | omega)) (by rfl) kI.g kI.kp kI.b .nil (lookNE tk) (pa_cons (pv 0) (pa_cons (pv 1) pa_nil))) (pa_cons (pv 2) pa_nil))) (pg_tup rfl (pgs_cons (pg_name (i := 3) scDoFi.nd rfl (.inl rfl)) (pgs_cons (pg_name (i := 4) scDoFi.nd rfl (.inl rfl)) pgs_nil))))
      (pss_one (ps_ret (pe_tup (pa_cons (pe_dispU (pv 0) (pps_cons (pv 1) (pv 3) pps_nil)) (pa_cons (pv 4) pa_nil)))))), ?_⟩
    change DoO K c H Q E (withF M z fun f => if 0 ≤ i ∧ i < (f.1 : Int) then .ok (putM M z (f.1, fnd f.1 f.2 i.toNat), (((ups f.2 f.1 i.toNat).length : Nat) : Int)) else .error (.noNode i)) at q
    unfold withF at q
    refine ⟨_, rfl, _, rfl, m, z, M, rfl, hm, hz, ?_⟩
    cases e : look M z with
    | none => rw [e] at q; exact q
    | some g =>
      rw [e] at q
      intro a ha
      obtain ⟨hn, r, hF⟩ := hM.ofLook e
      dsimp only at q
      by_cases hi2 : 0 ≤ i ∧ i < (g.1 : Int)
      · rw [if_pos hi2] at q
        obtain ⟨e1, e2⟩ := nodes_end1 hi2
        refine ⟨_, rfl, .inl ⟨a, g.1, g.2, r, i.toNat, by rw [vi_of hi2.1]; rfl, .inr ha, by omega, hF, e2, fun t b H1 nt nb ht hb s1 => ?_⟩⟩
        refine ⟨t, _, rfl, SqT.of ht, rfl, _, _, rfl, _, _, rfl, rfl, ?_⟩
        obtain ⟨kvs, h1, h2⟩ := hm.same s1
        have hl2 := h2.len
        have hle := hM.le
        dsimp only [tRet, tTup, tCons]
        refine disp_varS (i := 0) (j := 1) (k := 3) rfl rfl rfl h1 (by omega) fun d H4 nd hd s4 => ?_
        refine ⟨_, rfl, two_szS, fun t nt => ?_⟩
        exact DoO.give q (s1.trans s4) ⟨_, hd, (h2.same s4).put (f := (g.1, fnd g.1 g.2 i.toNat)) (SqT.of (s4 _ _ hb))⟩ (sm_none s1 nd) nt
      · rw [if_neg hi2] at q
        exact ⟨_, rfl, .inr ⟨a, _, i, rfl, .inr ha, by rw [tupOf_len]; omega, hi, q⟩⟩
theorem okB_doUn {f fI fU : Addr} {fd fdI fdU : FuncData} (F : Fun K "do_unite" "do_unite" sDoUn f fd) (kI : KnX P w K mg base 4 "forest_in" ["forests", "name"] (spFInB K c) fI fdI) (kU : KnX P w K mg base 9 "unite" ["forest", "one", "other"] (spUniteB K c.NN) fU fdU) :
    FnOk P w K mg base (L2N.CX P w) 18 f fd ["forests", "name", "one", "other"] (spDUni K c) := by
  refine okN F scDoUn (fun vs H Q E h => ?_) (fun cdv A outer s H vs Q E hr h tk => ?_)
  · obtain ⟨m, z, i, j, M, rfl, _⟩ := h
    rfl
  · obtain ⟨m, z, i, j, M, rfl, hm, hM, hz, hi, hj, q⟩ := h
    have hrm : ∀ {j : Nat}, j ≤ 17 → Room j (A.deeper (envOfC "do_unite" (defScope sDoUn) s.heap.objs.size f cdv)) := fun h => hr.mono h
    refine ⟨_, (pss_cons (ps_asg (pe_call kU.G (hrm (by first | decide | omega)) (by rfl) kU.g kU.kp kU.b .nil (lookNE tk) (pa_cons (pe_call kI.G (hrm (by first | decide | omega)) (by rfl) kI.g kI.kp kI.b .nil (lookNE tk) (pa_cons (pv 0) (pa_cons (pv 1) pa_nil))) (pa_cons (pv 2) (pa_cons (pv 3) pa_nil)))) (pg_tup rfl (pgs_cons (pg_name (i := 4) scDoUn.nd rfl (.inl rfl)) (pgs_cons (pg_name (i := 5) scDoUn.nd rfl (.inl rfl)) pgs_nil))))
      (pss_one (ps_ret (pe_tup (pa_cons (pe_dispU (pv 0) (pps_cons (pv 1) (pv 4) pps_nil)) (pa_cons (pv 5) pa_nil)))))), ?_⟩
    change DoO K c H Q E (withF M z fun f => if 0 ≤ i ∧ i < (f.1 : Int) then (if 0 ≤ j ∧ j < (f.1 : Int) then .ok (putM M z (f.1, uniF f.1 f.2 i.toNat j.toNat), (((costs f.1 [i.toNat, j.toNat] f.2).sum : Nat) : Int)) else .error (.noNode j)) else .error (.noNode i)) at q
    unfold withF at q
    refine ⟨_, rfl, _, rfl, m, z, M, rfl, hm, hz, ?_⟩
    cases e : look M z with
    | none => rw [e] at q; exact q
    | some g =>
      rw [e] at q
      intro a ha
      obtain ⟨hn, r, hF⟩ := hM.ofLook e
      dsimp only at q
      refine ⟨_, rfl, _, rfl, a, g.1, g.2, r, i, j, ([i, j].takeWhile fun x => decide (0 ≤ x ∧ x < (g.1 : Int))).map Int.toNat, rfl, ha, by omega, hF, ?_⟩
      by_cases hi2 : 0 ≤ i ∧ i < (g.1 : Int)
      · rw [if_pos hi2] at q
        obtain ⟨e1, e2⟩ := nodes_end1 hi2
        by_cases hj2 : 0 ≤ j ∧ j < (g.1 : Int)
        · rw [if_pos hj2] at q
          obtain ⟨e3, e4⟩ := nodes_end1 hj2
          rw [List.takeWhile_cons, if_pos (decide_eq_true hi2), List.takeWhile_cons, if_pos (decide_eq_true hj2)]
          refine ⟨fun x hx => ?_, .inl ⟨?_, fun u v huv t b H1 nt ht hb s1 => ?_⟩⟩
          · rcases List.mem_cons.mp hx with rfl | hx
            · exact e2
            · rcases List.mem_cons.mp hx with rfl | hx
              · exact e4
              · cases hx
          · show [i, j] = [((i.toNat : Nat) : Int), ((j.toNat : Nat) : Int)]
            rw [e1, e3]
          · obtain ⟨hu, huv2⟩ := List.cons.inj huv
            obtain ⟨hv, _⟩ := List.cons.inj huv2
            subst hu hv
            refine ⟨t, _, rfl, SqT.of ht, rfl, _, _, rfl, _, _, rfl, rfl, ?_⟩
            obtain ⟨kvs, h1, h2⟩ := hm.same s1
            have hl2 := h2.len
            have hle := hM.le
            dsimp only [tRet, tTup, tCons]
            refine disp_varS (i := 0) (j := 1) (k := 4) rfl rfl rfl h1 (by omega) fun d H4 nd hd s4 => ?_
            refine ⟨_, rfl, two_szS, fun t nt => ?_⟩
            exact DoO.give q (s1.trans s4) ⟨_, hd, (h2.same s4).put (f := (g.1, uniF g.1 g.2 i.toNat j.toNat)) (same_sqt s4 hb)⟩ (sm_none s1 nd) nt
        · rw [if_neg hj2] at q
          rw [List.takeWhile_cons, if_pos (decide_eq_true hi2), List.takeWhile_cons, if_neg (by rw [decide_eq_false hj2]; intro x; cases x)]
          refine ⟨fun x hx => ?_, .inr ⟨j, [], ?_, by omega, hj, q⟩⟩
          · rw [List.mem_singleton.mp hx]
            exact e2
          · show [i, j] = [((i.toNat : Nat) : Int)] ++ [j]
            rw [e1]
            rfl
      · rw [if_neg hi2] at q
        rw [List.takeWhile_cons, if_neg (by rw [decide_eq_false hi2]; intro x; cases x)]
        exact ⟨fun x hx => (by cases hx), .inr ⟨i, [j], rfl, by omega, hi, q⟩⟩
theorem okB_doRu {f fI fR : Addr} {fd fdI fdR : FuncData} (n : Nat) (F : Fun K "do_run" "do_run" sDoRu f fd) (kI : KnX P w K mg base 4 "forest_in" ["forests", "name"] (spFInB K c) fI fdI) (kR : KnX P w K mg base (2 * n + 9) "run_history" ["forest", "history"] (spRunH K c.NN c.NR c.SR n) fR fdR) (hn4 : n ≤ 4) :
    FnOk P w K mg base (L2N.CX P w) 18 f fd ["forests", "name", "history"] (spDRun K c n) := by
  refine okN F scDoRu (fun vs H Q E h => ?_) (fun cdv A outer s H vs Q E hr h tk => ?_)
  · obtain ⟨m, b, z, kd, xs, ss, M, rfl, _⟩ := h
    rfl
  · obtain ⟨m, b, z, kd, xs, ss, M, rfl, hm, hM, hz, hb, hss, wf, hne, _, hw, sml, q⟩ := h
    have hrm : ∀ {j : Nat}, j ≤ 17 → Room j (A.deeper (envOfC "do_run" (defScope sDoRu) s.heap.objs.size f cdv)) := fun h => hr.mono h
    refine ⟨_, (pss_cons (ps_asg (pe_call kR.G (hrm (by first | decide | omega)) (by rfl) kR.g kR.kp kR.b .nil (lookNE tk) (pa_cons (pe_call kI.G (hrm (by first | decide | omega)) (by rfl) kI.g kI.kp kI.b .nil (lookNE tk) (pa_cons (pv 0) (pa_cons (pv 1) pa_nil))) (pa_cons (pv 2) pa_nil))) (pg_tup rfl (pgs_cons (pg_name (i := 3) scDoRu.nd rfl (.inl rfl)) (pgs_cons (pg_name (i := 4) scDoRu.nd rfl (.inl rfl)) pgs_nil))))
      (pss_one (ps_ret (pe_tup (pa_cons (pe_dispU (pv 0) (pps_cons (pv 1) (pv 3) pps_nil)) (pa_cons (pv 4) pa_nil)))))), ?_⟩
    change DoO K c H Q E (withF M z fun f => match stepsR f.1 ss f.2 with
      | .er e => .error (erF e)
      | .ok (q, c) => .ok (putM M z (f.1, q), c)) at q
    unfold withF at q
    refine ⟨_, rfl, _, rfl, m, z, M, rfl, hm, hz, ?_⟩
    cases e : look M z with
    | none => rw [e] at q; exact q
    | some g =>
      rw [e] at q
      intro a ha
      obtain ⟨hn, r, hF⟩ := hM.ofLook e
      dsimp only at q
      refine ⟨_, rfl, kd, a, b, xs, ss, g.1, g.2, r, rfl, ha, by omega, hF, hb, hss, wf, hne, hn4, hw, sml, ?_⟩
      cases e2 : stepsR g.1 ss g.2 with
      | er er =>
        rw [e2] at q
        cases er with
        | no z => exact q
        | nr z => exact q
        | sr z => exact q
      | ok qc =>
        obtain ⟨q2, c2⟩ := qc
        rw [e2] at q
        intro t b2 H1 nt ht hb2 s1
        refine ⟨t, _, rfl, SqT.of ht, rfl, _, _, rfl, _, _, rfl, rfl, ?_⟩
        obtain ⟨kvs, h1, h2⟩ := hm.same s1
        have hl2 := h2.len
        have hle := hM.le
        dsimp only [tRet, tTup, tCons]
        refine disp_varS (i := 0) (j := 1) (k := 3) rfl rfl rfl h1 (by omega) fun d H4 nd hd s4 => ?_
        refine ⟨_, rfl, two_szS, fun t nt => ?_⟩
        exact DoO.give q (s1.trans s4) ⟨_, hd, (h2.same s4).put (f := (g.1, q2)) (same_sqt s4 hb2)⟩ (sm_none s1 nd) nt
theorem okB_doFl {f fI fA fG : Addr} {fd fdI fdA fdG : FuncData} (F : Fun K "do_flatten" "do_flatten" sDoFl f fd) (kI : KnX P w K mg base 4 "forest_in" ["forests", "name"] (spFInB K c) fI fdI) (kA : Kn P w K mg base 5 "find_all" sFindAll ["forest", "nodes"] (spFindAll K) fA fdA) (kG : Kn P w K mg base 10 "flattening_finds" sFlatF ["forest"] (spFlatFinds K) fG fdG) (z_sum : mg "sum" = none) :
    FnOk P w K mg base (L2N.CX P w) 18 f fd ["forests", "name"] (spDFlat K c) := by
  refine okN F scDoFl (fun vs H Q E h => ?_) (fun cdv A outer s H vs Q E hr h tk => ?_)
  · obtain ⟨m, z, M, rfl, _⟩ := h
    rfl
  · obtain ⟨m, z, M, rfl, hm, hM, hz, q⟩ := h
    have hrm : ∀ {j : Nat}, j ≤ 17 → Room j (A.deeper (envOfC "do_flatten" (defScope sDoFl) s.heap.objs.size f cdv)) := fun h => hr.mono h
    refine ⟨_, (pss_cons (ps_set (i := 2) scDoFl.nd rfl (.inl rfl) (pe_call kI.G (hrm (by first | decide | omega)) (by rfl) kI.g kI.kp kI.b .nil (lookNE tk) (pa_cons (pv 0) (pa_cons (pv 1) pa_nil))))
      (pss_cons (ps_asg (pe_call kA.G (hrm (by first | decide | omega)) (by rfl) kA.g kA.F.kp kA.b .nil pass0 (pa_cons (pv 2) (pa_cons (pe_call kG.G (hrm (by first | decide | omega)) (by rfl) kG.g kG.F.kp kG.b .nil pass0 (pa_cons (pv 2) pa_nil)) pa_nil))) (pg_tup rfl (pgs_cons (pg_name (i := 3) scDoFl.nd rfl (.inl rfl)) (pgs_cons (pg_name (i := 4) scDoFl.nd rfl (.inl rfl)) pgs_nil))))
      (pss_one (ps_ret (pe_tup (pa_cons (pe_dispU (pv 0) (pps_cons (pv 1) (pv 3) pps_nil)) (pa_cons (pe_callB (cr_sum rfl) (by rfl) z_sum (by decide +kernel) (pa_cons (pv 4) pa_nil)) pa_nil))))))), ?_⟩
    change DoO K c H Q E (withF M z fun f => .ok (putM M z (f.1, flatQ f), (((costs f.1 (needS f.1 f.2 (flatQ f)) f.2).sum : Nat) : Int))) at q
    unfold withF at q
    refine ⟨_, rfl, _, rfl, m, z, M, rfl, hm, hz, ?_⟩
    cases e : look M z with
    | none => rw [e] at q; exact q
    | some g =>
      rw [e] at q
      intro a ha
      obtain ⟨hn, r, hF⟩ := hM.ofLook e
      dsimp only at q
      refine ⟨_, rfl, _, rfl, a, g.1, g.2, r, rfl, ha, by omega, hF, fun l H1 nl hl1 s1 => ?_⟩
      have hfx : ∀ x ∈ needS g.1 g.2 (fun v => root g.2 g.1 v), x < g.1 := fun x hx => (needS_mem.mp hx).1
      have hnl : (needS g.1 g.2 (fun v => root g.2 g.1 v)).length ≤ g.1 := needS_len _ _ _
      refine ⟨a, l, g.1, g.2, r, needS g.1 g.2 (fun v => root g.2 g.1 v), rfl, same_sqt s1 ha, SqL.of hl1, by omega, by omega, hF, hfx, fun t b c H2 nt nc hga ht hb hc s2 => ?_⟩
      have s12 := s1.trans s2
      refine ⟨t, _, rfl, SqT.of ht, rfl, _, _, rfl, _, _, rfl, rfl, ?_⟩
      obtain ⟨kvs, h1, h2⟩ := hm.same s12
      have hl2 := h2.len
      have hle := hM.le
      dsimp only [tRet, tTup, tCons]
      refine disp_varS (i := 0) (j := 1) (k := 3) rfl rfl rfl h1 (by omega) fun d H3 nd hd s3 => ?_
      refine ⟨_, rfl, c, (costs g.1 (needS g.1 g.2 (fun v => root g.2 g.1 v)) g.2).map (fun v : Nat => (v : Int)), rfl, SqL.of (by rw [s3 _ _ hc, natsV_ints]), ?_⟩
      refine ⟨two_szS, fun t3 nt3 => ?_⟩
      have hq := DoO.give q (s12.trans s3) (nt := nt3) ⟨_, hd, (h2.same s3).put (f := (g.1, flatQ g)) (same_sqt s3 ?_)⟩ (sm_none s12 nd)
      · rw [sum_cast]
        exact hq
      · have e5 : tupOf g.1 (flatQ g) = tupOf g.1 (fndAll g.1 (needS g.1 g.2 (fun v => root g.2 g.1 v)) g.2) := tupOf_congr fun v hv => (need_leads hF (fun v hv e => (flat_roots hF v hv).mp e) (flat_way hF) v hv).symm
        show SqT K H2 _ (tupOf g.1 (flatQ g))
        rw [e5]
        exact hb
end
end Ff

namespace Ff
open PySem PySem.Spec PyProof.Rows L2 ExX LamX
abbrev sDoLi : Stmt := topS 76
abbrev doLiN : List Str := ["forests", "name", "child", "above"]
theorem scDoLi : FnScope doLiN ["forests", "name", "child", "above"] (defScope sDoLi) := ⟨rfl, rfl, rfl, by decide +kernel, rfl, by decide +kernel, by decide +kernel⟩
abbrev sDoSw : Stmt := topS 74
abbrev doSwN : List Str := ["forests", "name", "other", "first", "second"]
theorem scDoSw : FnScope doSwN ["forests", "name", "other"] (defScope sDoSw) := ⟨rfl, rfl, rfl, by decide +kernel, rfl, by decide +kernel, by decide +kernel⟩
abbrev sDoGr : Stmt := topS 80
abbrev doGrN : List Str := ["forests", "name", "many", "forest", "roots"]
theorem scDoGr : FnScope doGrN ["forests", "name", "many"] (defScope sDoGr) := ⟨rfl, rfl, rfl, by decide +kernel, rfl, by decide +kernel, by decide +kernel⟩
abbrev sDoDr : Stmt := topS 72
abbrev doDrN : List Str := ["forests", "name", "kept"]
theorem scDoDr : FnScope doDrN ["forests", "name"] (defScope sDoDr) := ⟨rfl, rfl, rfl, by decide +kernel, rfl, by decide +kernel, by decide +kernel⟩
abbrev sSing2 : Stmt := topS 26
abbrev sing2N : List Str := ["size"]
theorem scSing2 : FnScope sing2N ["size"] (defScope sSing2) := ⟨rfl, rfl, rfl, by decide +kernel, rfl, by decide +kernel, by decide +kernel⟩
def spDLink (K : PySem.W.Frag) (c : CEr) : Sp := fun vs H Q E => ∃ (m : Addr) (z : Str) (i j : Int) (M : Fs), vs = [.ref m, .str z, .int i, .int j] ∧ FsAt K H m M ∧ FsOk M ∧ z.length ≤ 800 ∧ i.natAbs.log2 < 1920 ∧ j.natAbs.log2 < 1920 ∧ DoO K c H Q E (doC M (.link z i j))
def spSwap (K : PySem.W.Frag) (c : CEr) : Sp := fun vs H Q E => ∃ (m : Addr) (z y : Str) (M : Fs), vs = [.ref m, .str z, .str y] ∧ FsAt K H m M ∧ FsOk M ∧ z.length ≤ 800 ∧ y.length ≤ 800 ∧ DoO K c H Q E (doC M (.swap z y))
def spGrow (K : PySem.W.Frag) (c : CEr) : Sp := fun vs H Q E => ∃ (m : Addr) (z : Str) (i : Int) (M : Fs), vs = [.ref m, .str z, .int i] ∧ FsAt K H m M ∧ FsOk M ∧ z.length ≤ 800 ∧ i.natAbs.log2 < 1920 ∧ DoO K c H Q E (doC M (.grow z i))
def spDrop (K : PySem.W.Frag) (c : CEr) : Sp := fun vs H Q E => ∃ (m : Addr) (z : Str) (M : Fs), vs = [.ref m, .str z] ∧ FsAt K H m M ∧ FsOk M ∧ z.length ≤ 800 ∧ DoO K c H Q E (doC M (.drop z))
def spSing2 (K : PySem.W.Frag) (C : Addr) : Sp := fun vs H Q E => ∃ n : Nat, vs = [.int (n : Int)] ∧ ((n ≤ 40 ∧ ∀ t H', H t = none → H' t = some (.tup (rgV 0 (n : Int))) → Same H H' → Q (.ref t) H') ∨ (40 < n ∧ Flies H E C "limit" "TooManyNodes" (.int 40)))
/-- what stands behind the pairs of {**forests, name: x} -/
theorem disp_endS {H H' H3 : Hp} {p qq : Addr} {kvs : List (Key × V)} {z : Str} {v : V} {Q : VK} (np : H p = none) (nq : H qq = none) (hpq : qq ≠ p) (hp : H' p = some (.dK kvs)) (hq : H' qq = some (.dK [])) (s : Same H H') (s3 : Same H' H3) (hl : kvs.length ≤ 1000)
    (q : ∀ H4, H4 p = some (.dK (putK kvs (Sum.inr z : Key) v)) → Same H H4 → (∀ b xs, Rd H3 b (.tup xs) → Rd H4 b (.tup xs)) → Q (.ref p) H4) :
    H3 p = some (.dK kvs) ∧ H3 qq = some (.dK []) ∧ ∃ kvs' : List (Key × V), [(V.str z, v)] = kvs'.map (fun kv => (kV kv.1, kv.2)) ∧ kvs'.length ≤ 15 ∧ kvs.length ≤ 1000 ∧ Q (.ref p) (upd (upd H3 qq (.dK (mergeK [] kvs'))) p (.dK (mergeK kvs (mergeK [] kvs')))) := by
  have h3p := s3 _ _ hp
  have h3q := s3 _ _ hq
  refine ⟨h3p, h3q, [((Sum.inr z : Key), v)], rfl, by simp, hl, ?_⟩
  rw [mergeK_oneS]
  refine q _ upd_same (fun b o hb => ?_) fun b xs hb => ?_
  · have e1 : b ≠ p := fun e => by rw [e, np] at hb; cases hb
    have e2 : b ≠ qq := fun e => by rw [e, nq] at hb; cases hb
    rw [upd_ne e1, upd_ne e2]
    exact s3 _ _ (s _ _ hb)
  · have e1 : ∀ {o}, H3 b = some o → (∀ l, o ≠ .dK l) → b ≠ p := fun h n e => by rw [e, h3p] at h; cases h; exact n _ rfl
    have e2 : ∀ {o}, H3 b = some o → (∀ l, o ≠ .dK l) → b ≠ qq := fun h n e => by rw [e, h3q] at h; cases h; exact n _ rfl
    rcases hb with hb | ⟨o, hb⟩
    · refine .inl ?_
      rw [upd_ne (e1 hb (by intro l x; cases x)), upd_ne (e2 hb (by intro l x; cases x))]
      exact hb
    · refine .inr ⟨o, ?_⟩
      rw [upd_ne (e1 hb (by intro l x; cases x)), upd_ne (e2 hb (by intro l x; cases x))]
      exact hb
theorem rd_sqt {K : PySem.W.Frag} {H3 H4 : Hp} {b : Addr} {xs : List V} (k : ∀ b xs, Rd H3 b (.tup xs) → Rd H4 b (.tup xs)) (h : SqT K H3 b xs) : SqT K H4 b xs := h.imp (fun z => k _ _ z) id
theorem rgV_nat2 (n : Nat) : rgV 0 (n : Int) = natsV (List.range n) := rgV_nat n
theorem grow_tup (n k : Nat) (p : Nat → Nat) : tupOf n p ++ (List.range k).map (fun j => vi (n + j)) = tupOf (n + k) (growQ (n, p)) := by
  unfold tupOf growQ
  rw [List.range_add, List.map_append, List.map_map]
  congr 1
  · refine List.map_congr_left fun v hv => ?_
    show vi (p v) = vi (if v < n then p v else v)
    rw [if_pos (List.mem_range.mp hv)]
  · refine List.map_congr_left fun v hv => ?_
    show vi (n + v) = vi (if n + v < n then p (n + v) else n + v)
    rw [if_neg (by omega)]
theorem cut_rg (n k : Nat) : cutV (rgV 0 ((n + k : Nat) : Int)) (some ((n : Nat) : Int)) none = (List.range k).map (fun j => vi (n + j)) := by
  have hl : (natsV (List.range (n + k))).length = n + k := by rw [natsV_len, List.length_range]
  rw [rgV_nat]
  unfold cutV
  rw [hl]
  simp only [HT.sIx_nat, HT.sIx_none]
  rw [show min n (n + k) = n by omega, show n + k - n = k by omega]
  unfold natsV
  rw [List.range_add, List.map_append, List.drop_left' (by rw [List.length_map, List.length_range]), List.take_of_length_le (by rw [List.length_map, List.length_map, List.length_range]; exact Nat.le_refl _), List.map_map]
  rfl
theorem grow_val {K : PySem.W.Frag} {H0 : Hp} {t a : Addr} {n k : Nat} {p : Nat → Nat} {Q : VK} (hn : n + k ≤ 40) (ht : SqT K H0 t (rgV 0 ((n + k : Nat) : Int))) (ha : SqT K H0 a (tupOf n p)) (q : ∀ b H', SqT K H' b (tupOf (n + k) (growQ (n, p))) → Same H0 H' → Q (.ref b) H') :
    rSlA K (.ref t) (some ((n : Nat) : Int)) none H0 fun y H2 => rCatA K (.ref a) y H2 Q := by
  have hl : (rgV 0 ((n + k : Nat) : Int)).length = n + k := by rw [rgV_nat, natsV_len, List.length_range]
  have hs : HT.sIx (n + k) 0 (some ((n : Nat) : Int)) = n := by rw [HT.sIx_nat]; omega
  refine ⟨t, _, rfl, ht, fun hw => ?_, fun hw p0 np => ?_⟩
  · rw [hl, hs] at hw
    obtain ⟨h0, _⟩ := hw
    subst h0
    refine ⟨a, t, tupOf 0 p, rgV 0 ((0 + k : Nat) : Int), rfl, rfl, ha, ht, ?_, fun _ => q t H0 ?_ (Same.refl _), fun h => absurd rfl h, fun h => absurd rfl h⟩
    · rw [hl, tupOf_len]
      exact Nat.le_trans (show _ ≤ 40 by omega) (by decide)
    · rw [← grow_tup, ← cut_rg]
      have e : rgV 0 ((0 + k : Nat) : Int) = tupOf 0 p ++ cutV (rgV 0 ((0 + k : Nat) : Int)) (some ((0 : Nat) : Int)) none := by
        rw [cut_rg, rgV_nat]
        show natsV _ = [] ++ _
        rw [List.nil_append]
        unfold natsV
        rw [Nat.zero_add]
        refine List.map_congr_left fun v _ => ?_
        rw [Nat.zero_add]
      rw [← e]
      exact ht
  · rw [cut_rg]
    have sp := same_new (o := .tup ((List.range k).map fun j => vi (n + j))) np
    have hp : upd H0 p0 (.tup ((List.range k).map fun j => vi (n + j))) p0 = some (.tup ((List.range k).map fun j => vi (n + j))) := upd_same
    generalize upd H0 p0 (.tup ((List.range k).map fun j => vi (n + j))) = H1 at sp hp ⊢
    have ha1 := same_sqt sp ha
    refine ⟨a, p0, tupOf n p, _, rfl, rfl, ha1, SqT.of hp, ?_, fun h => ?_, fun _ h => ?_, fun _ _ b nb => ?_⟩
    · rw [tupOf_len, List.length_map, List.length_range]
      exact Nat.le_trans (show _ ≤ 40 by omega) (by decide)
    · have : n = 0 := by rw [← tupOf_len n p, h]; rfl
      subst this
      refine absurd ?_ hw
      rw [hl, hs]
      exact ⟨rfl, rfl⟩
    · have : k = 0 := by
        have := congrArg List.length h
        rw [List.length_map, List.length_range] at this
        exact this
      subst this
      refine q a H1 ?_ sp
      rw [← grow_tup]
      show SqT K H1 a (_ ++ [])
      rw [List.append_nil]
      exact ha1
    · refine q b _ (SqT.of ?_) (sp.trans (same_new nb))
      rw [upd_same, grow_tup]
section
variable {P : Program} {w : World} {K : PySem.W.Frag} {mg : Str → Option Value} {base : Heap} {c : CEr}
theorem okB_sing2 {f C : Addr} {fd : FuncData} {tM : Tok} (F : Fun K "single_nodes" "single_nodes" sSing2 f fd) (T : Tx mg) (gM : mg "MAX_NODES" = some (.int 40 tM)) (RTM : Raisable P w K mg base 2 "TooManyNodes" C "limit" "TooManyNodes") : FnOk P w K mg base (L2N.CX P w) 4 f fd ["size"] (spSing2 K C) := by
  refine okN F scSing2 (fun vs H Q E h => ?_) (fun cdv A outer s H vs Q E hr h tk => ?_)
  · obtain ⟨n, rfl, _⟩ := h
    rfl
  · obtain ⟨n, rfl, h⟩ := h
    have hrm : ∀ {j : Nat}, j ≤ 3 → Room j (A.deeper (envOfC "single_nodes" (defScope sSing2) s.heap.objs.size f cdv)) := fun h => hr.mono h
    refine ⟨_, (pss_cons (ps_if (pt_cmpR op_gt (pv 0) (pe_glob (v := .int 40) rfl gM ⟨_, rfl⟩) (nomark _))
        (pss_one (L2N.ps_raise rfl tk (pmk_err RTM (hrm (by decide)) (by rfl) (pe_glob (v := .int 40) (by rfl) gM ⟨_, rfl⟩)))) pss_nil)
      (pss_one (ps_ret (pe_tupRg rfl (by rfl) T.tuple (prg_1 (by rfl) T.range (pv 0)))))), ?_⟩
    refine ⟨_, rfl, _, _, rfl, rfl, _, rfl, ?_⟩
    show if decide ((40 : Int) < (n : Int)) = true then _ else _
    rcases h with ⟨h1, q⟩ | ⟨h1, fl⟩
    · rw [decide_eq_false (by omega)]
      refine iteF ⟨_, rfl, n, rfl, ?_, fun t nt => q t _ nt upd_same (same_new nt)⟩
      exact L2.RgOk.of_le (by omega) (by omega) (by omega) (by omega)
    · rw [decide_eq_true (by omega)]
      refine iteT ⟨.int 40, rfl, ⟨40, rfl, by decide +kernel⟩, fl⟩
theorem okB_doLi {f fI fL : Addr} {fd fdI fdL : FuncData} (F : Fun K "do_link" "do_link" sDoLi f fd) (kI : KnX P w K mg base 4 "forest_in" ["forests", "name"] (spFInB K c) fI fdI) (kL : KnX P w K mg base 7 "link" ["forest", "child", "above"] (spLinkB K c.NN c.NR c.SR) fL fdL) :
    FnOk P w K mg base (L2N.CX P w) 18 f fd ["forests", "name", "child", "above"] (spDLink K c) := by
  refine okN F scDoLi (fun vs H Q E h => ?_) (fun cdv A outer s H vs Q E hr h tk => ?_)
  · obtain ⟨m, z, i, j, M, rfl, _⟩ := h
    rfl
  · obtain ⟨m, z, i, j, M, rfl, hm, hM, hz, hi, hj, q⟩ := h
    have hrm : ∀ {j : Nat}, j ≤ 17 → Room j (A.deeper (envOfC "do_link" (defScope sDoLi) s.heap.objs.size f cdv)) := fun h => hr.mono h
    refine ⟨_, (pss_one (ps_ret (pe_tup (pa_cons (pe_dispU (pv 0) (pps_cons (pv 1) (pe_call kL.G (hrm (by decide)) (by rfl) kL.g kL.kp kL.b .nil (lookNE tk) (pa_cons (pe_call kI.G (hrm (by decide)) (by rfl) kI.g kI.kp kI.b .nil (lookNE tk) (pa_cons (pv 0) (pa_cons (pv 1) pa_nil))) (pa_cons (pv 2) (pa_cons (pv 3) pa_nil)))) pps_nil)) (pa_cons pe_int pa_nil))))), ?_⟩
    change DoO K c H Q E (withF M z fun f => match linkR f.1 f.2 i j with
      | .er e => .error (erF e)
      | .ok q => .ok (putM M z (f.1, q), 0)) at q
    unfold withF at q
    obtain ⟨kvs, h1, h2⟩ := id hm
    have hl2 := h2.len
    have hle := hM.le
    dsimp only [tRet, tTup, tCons]
    refine fun p np => ⟨_, rfl, upd_same, m, kvs, rfl, (fun e => by rw [e, np] at h1; cases h1), same_new np _ _ h1, fun qq nq => ?_⟩
    have hpq : qq ≠ p := fun e => by rw [e, upd_same] at nq; cases nq
    have nq0 : H qq = none := by rw [upd_ne hpq] at nq; rw [upd_ne hpq] at nq; exact nq
    have s0 : Same H (upd (upd (upd H p (.dK [])) p (.dK kvs)) qq (.dK [])) := fun b o hb => by
      have e1 : b ≠ p := fun e => by rw [e, np] at hb; cases hb
      have e2 : b ≠ qq := fun e => by rw [e, nq0] at hb; cases hb
      rw [upd_ne e2, upd_ne e1, upd_ne e1]
      exact hb
    have hp0 : upd (upd (upd H p (.dK [])) p (.dK kvs)) qq (.dK []) p = some (.dK kvs) := by rw [upd_ne (Ne.symm hpq), upd_same]
    have hq0 : upd (upd (upd H p (.dK [])) p (.dK kvs)) qq (.dK []) qq = some (.dK []) := upd_same
    generalize upd (upd (upd H p (.dK [])) p (.dK kvs)) qq (.dK []) = H0 at s0 hp0 hq0 ⊢
    refine ⟨_, rfl, _, rfl, _, rfl, m, z, M, rfl, hm.same s0, hz, ?_⟩
    cases e : look M z with
    | none => rw [e] at q; exact Fl.same q s0
    | some g =>
      rw [e] at q
      intro a ha
      obtain ⟨hn, r, hF⟩ := hM.ofLook e
      dsimp only at q
      unfold linkR at q
      refine ⟨_, rfl, _, rfl, a, g.1, g.2, i, j, rfl, .inr ha, by omega, hi, hj, ?_⟩
      cases e1 : chkE g.1 g.2 i with
      | some b =>
        rw [e1] at q
        cases b with
        | false => exact .inl ⟨rfl, Fl.same q s0⟩
        | true => exact .inr (.inl ⟨rfl, Fl.same q s0⟩)
      | none =>
        rw [e1] at q
        refine .inr (.inr ⟨rfl, ?_⟩)
        cases e2 : chkE g.1 g.2 j with
        | some b =>
          rw [e2] at q
          cases b with
          | false => exact .inl ⟨rfl, Fl.same q s0⟩
          | true => exact .inr (.inl ⟨rfl, Fl.same q s0⟩)
        | none =>
          rw [e2] at q
          refine .inr (.inr ⟨rfl, ?_⟩)
          by_cases e3 : i = j
          · dsimp only at q
            rw [if_pos e3] at q
            exact .inl ⟨e3, Fl.same q s0⟩
          · dsimp only at q
            rw [if_neg e3] at q
            refine .inr ⟨e3, fun b H1 nb hb s1 => ?_⟩
            refine disp_endS (z := z) (v := V.ref b) (Q := fun x H' => 2 ≤ sizeLine ∧ ∀ t, H' t = none → Q (V.ref t) (upd H' t (.tup [x, V.int 0]))) np nq0 hpq hp0 hq0 s0 s1 (by omega) fun H4 hd s4 k4 => ?_
            refine ⟨two_szS, fun t nt => ?_⟩
            exact DoO.give q s4 ⟨_, hd, (h2.same s4).put (f := (g.1, lnk g.2 i.toNat j.toNat)) (rd_sqt k4 (SqT.of hb))⟩ np nt
theorem mergeK_twoS (kvs : List (Key × V)) (k j : Key) (u v : V) (ne : k ≠ j) : mergeK kvs (mergeK [] [(k, u), (j, v)]) = putK (putK kvs k u) j v := by
  have e : mergeK [] [(k, u), (j, v)] = [(k, u), (j, v)] := by
    show putK (putK [] k u) j v = _
    unfold putK
    simp [ne]
  rw [e]
  rfl
theorem mergeK_twoE (kvs : List (Key × V)) (k : Key) (u v : V) : mergeK kvs (mergeK [] [(k, u), (k, v)]) = putK kvs k v := by
  have e : mergeK [] [(k, u), (k, v)] = [(k, v)] := by
    show putK (putK [] k u) k v = _
    unfold putK
    simp
  rw [e]
  rfl
theorem putM_put (M : Fs) (z : Str) (f g : Fr) : putM (putM M z f) z g = putM M z g := by
  have hl : ∀ M : Fs, (look M z).isSome = true → (look (M.map fun m => if m.1 = z then (m.1, f) else m) z).isSome = true := fun M h => by
    rw [look_isSome] at h ⊢
    rw [List.map_map]
    obtain ⟨m, hm, e⟩ := List.mem_map.mp h
    exact List.mem_map.mpr ⟨m, hm, by show (if m.1 = z then (m.1, f) else m).1 = z; rw [if_pos e]; exact e⟩
  unfold putM
  by_cases h : (look M z).isSome = true
  · rw [if_pos h, if_pos h, if_pos (hl M h), List.map_map]
    refine List.map_congr_left fun m _ => ?_
    show (if (if m.1 = z then (m.1, f) else m).1 = z then ((if m.1 = z then (m.1, f) else m).1, g) else (if m.1 = z then (m.1, f) else m)) = (if m.1 = z then (m.1, g) else m)
    by_cases e : m.1 = z
    · rw [if_pos e, if_pos e, if_pos e]
    · rw [if_neg e, if_neg e]
  · rw [if_neg h, if_neg h]
    have h2 : (look (M ++ [(z, f)]) z).isSome = true := look_isSome.mpr (by simp)
    rw [if_pos h2, List.map_append]
    have h3 : M.map (fun m => if m.1 = z then (m.1, g) else m) = M := by
      refine Eq.trans (List.map_congr_left (f := fun m => if m.1 = z then (m.1, g) else m) (g := id) fun m hm => ?_) (List.map_id M)
      have : m.1 ≠ z := fun e => h (look_isSome.mpr (by rw [← e]; exact List.mem_map_of_mem hm))
      show (if m.1 = z then (m.1, g) else m) = m
      rw [if_neg this]
    rw [h3]
    simp
theorem okB_doSw {f fI : Addr} {fd fdI : FuncData} (F : Fun K "do_swap" "do_swap" sDoSw f fd) (kI : KnX P w K mg base 4 "forest_in" ["forests", "name"] (spFInB K c) fI fdI) :
    FnOk P w K mg base (L2N.CX P w) 18 f fd ["forests", "name", "other"] (spSwap K c) := by
  refine okN F scDoSw (fun vs H Q E h => ?_) (fun cdv A outer s H vs Q E hr h tk => ?_)
  · obtain ⟨m, z, y, M, rfl, _⟩ := h
    rfl
  · obtain ⟨m, z, y, M, rfl, hm, hM, hz, hy, q⟩ := h
    have hrm : ∀ {j : Nat}, j ≤ 17 → Room j (A.deeper (envOfC "do_swap" (defScope sDoSw) s.heap.objs.size f cdv)) := fun h => hr.mono h
    refine ⟨_, (pss_cons (ps_set (i := 3) scDoSw.nd rfl (.inl rfl) (pe_call kI.G (hrm (by first | decide | omega)) (by rfl) kI.g kI.kp kI.b .nil (lookNE tk) (pa_cons (pv 0) (pa_cons (pv 1) pa_nil))))
      (pss_cons (ps_set (i := 4) scDoSw.nd rfl (.inl rfl) (pe_call kI.G (hrm (by first | decide | omega)) (by rfl) kI.g kI.kp kI.b .nil (lookNE tk) (pa_cons (pv 0) (pa_cons (pv 2) pa_nil))))
      (pss_one (ps_ret (pe_tup (pa_cons (pe_dispU (pv 0) (pps_cons (pv 1) (pv 4) (pps_cons (pv 2) (pv 3) pps_nil))) (pa_cons pe_int pa_nil))))))), ?_⟩
    change DoO K c H Q E (withF M z fun f => withF M y fun g => .ok (putM (putM M z g) y f, 0)) at q
    unfold withF at q
    refine ⟨_, rfl, _, rfl, m, z, M, rfl, hm, hz, ?_⟩
    cases e : look M z with
    | none => rw [e] at q; exact q
    | some f1 =>
      rw [e] at q
      intro a ha
      dsimp only at q
      refine ⟨_, rfl, _, rfl, m, y, M, rfl, hm, hy, ?_⟩
      cases e2 : look M y with
      | none => rw [e2] at q; exact q
      | some f2 =>
        rw [e2] at q
        intro b hb
        dsimp only at q
        obtain ⟨kvs, h1, h2⟩ := id hm
        have hl2 := h2.len
        have hle := hM.le
        dsimp only [tRet, tTup, tCons]
        refine fun p np => ⟨_, rfl, upd_same, m, kvs, rfl, (fun e => by rw [e, np] at h1; cases h1), same_new np _ _ h1, fun qq nq => ?_⟩
        have hpq : qq ≠ p := fun e => by rw [e, upd_same] at nq; cases nq
        have nq0 : H qq = none := by rw [upd_ne hpq] at nq; rw [upd_ne hpq] at nq; exact nq
        refine ⟨_, rfl, _, rfl, _, rfl, _, rfl, ?_⟩
        refine ⟨by rw [upd_ne (Ne.symm hpq), upd_same], upd_same, [((Sum.inr z : Key), V.ref b), ((Sum.inr y : Key), V.ref a)], rfl, by simp, by omega, ?_⟩
        refine ⟨two_szS, fun t nt => ?_⟩
        have s1 : ∀ kk, Same H (upd (upd (upd (upd (upd H p (.dK [])) p (.dK kvs)) qq (.dK [])) qq (.dK (mergeK [] [((Sum.inr z : Key), V.ref b), ((Sum.inr y : Key), V.ref a)]))) p (.dK kk)) := fun kk b o hb => by
          have e1 : b ≠ p := fun e => by rw [e, np] at hb; cases hb
          have e2 : b ≠ qq := fun e => by rw [e, nq0] at hb; cases hb
          rw [upd_ne e1, upd_ne e2, upd_ne e2, upd_ne e1, upd_ne e1]
          exact hb
        refine DoO.give q (s1 _) ⟨_, upd_same, ?_⟩ np nt
        by_cases hzy : z = y
        · subst hzy
          rw [e] at e2
          cases e2
          rw [mergeK_twoE, putM_put]
          exact (h2.same (s1 _)).put (same_sqt (s1 _) ha)
        · rw [mergeK_twoS _ _ _ _ _ (fun x => hzy (Sum.inr.inj x))]
          exact ((h2.same (s1 _)).put (same_sqt (s1 _) hb)).put (same_sqt (s1 _) ha)
theorem okB_doGr {f fI fS : Addr} {fd fdI fdS : FuncData} (F : Fun K "do_grow" "do_grow" sDoGr f fd) (kI : KnX P w K mg base 4 "forest_in" ["forests", "name"] (spFInB K c) fI fdI) (kS : KnX P w K mg base 4 "single_nodes" ["size"] (spSing2 K c.TM) fS fdS) (RBK : Raisable P w K mg base 2 "BadCount" c.BK "count" "BadCount") (T : Tx mg) :
    FnOk P w K mg base (L2N.CX P w) 18 f fd ["forests", "name", "many"] (spGrow K c) := by
  refine okN F scDoGr (fun vs H Q E h => ?_) (fun cdv A outer s H vs Q E hr h tk => ?_)
  · obtain ⟨m, z, i, M, rfl, _⟩ := h
    rfl
  · obtain ⟨m, z, i, M, rfl, hm, hM, hz, hi, q⟩ := h
    have hrm : ∀ {j : Nat}, j ≤ 17 → Room j (A.deeper (envOfC "do_grow" (defScope sDoGr) s.heap.objs.size f cdv)) := fun h => hr.mono h
    refine ⟨_, (pss_cons (ps_set (i := 3) scDoGr.nd rfl (.inl rfl) (pe_call kI.G (hrm (by first | decide | omega)) (by rfl) kI.g kI.kp kI.b .nil (lookNE tk) (pa_cons (pv 0) (pa_cons (pv 1) pa_nil))))
      (pss_cons (ps_if (pt_cmpR op_lt (pv 2) pe_int (nomark _))
        (pss_one (L2N.ps_raise rfl tk (pmk_err RBK (hrm (by decide)) (by rfl) (pv 2)))) pss_nil)
      (pss_cons (ps_set (i := 4) scDoGr.nd rfl (.inl rfl) (pe_call kS.G (hrm (by first | decide | omega)) (by rfl) kS.g kS.kp kS.b .nil (lookNE tk) (pa_cons (pe_op op_add (pe_callB call_len_seq (by rfl) T.len PySem.boot_len (pa_cons (pv 3) pa_nil)) (pv 2)) pa_nil)))
      (pss_one (ps_ret (pe_tup (pa_cons (pe_dispU (pv 0) (pps_cons (pv 1) (pe_op op_catA (pv 3) (pe_slice sl_tupA (pv 4) (po_some (pe_callB call_len_seq (by rfl) T.len PySem.boot_len (pa_cons (pv 3) pa_nil))) po_none)) pps_nil)) (pa_cons pe_int pa_nil)))))))), ?_⟩
    change DoO K c H Q E (withF M z fun f => if i < 0 then .error (.badCount i) else if 40 < (f.1 : Int) + i then .error .many else .ok (putM M z (f.1 + i.toNat, growQ f), 0)) at q
    unfold withF at q
    refine ⟨_, rfl, _, rfl, m, z, M, rfl, hm, hz, ?_⟩
    cases e : look M z with
    | none => rw [e] at q; exact q
    | some g =>
      rw [e] at q
      intro a ha
      obtain ⟨hn, r, hF⟩ := hM.ofLook e
      dsimp only at q
      refine ⟨_, rfl, _, _, rfl, rfl, _, rfl, ?_⟩
      by_cases h0 : i < 0
      · rw [if_pos h0] at q
        rw [decide_eq_true h0]
        exact iteT ⟨_, rfl, .int i, rfl, ⟨i, rfl, hi⟩, q⟩
      · rw [if_neg h0] at q
        rw [decide_eq_false h0]
        refine iteF ?_
        refine ⟨_, rfl, a, _, rfl, .inr ha, ?_⟩
        rw [tupOf_len]
        refine ⟨_, rfl, _, _, rfl, rfl, (g.1 + i.toNat), ?_, ?_⟩
        · show [V.int ((g.1 : Int) + i)] = [V.int ((g.1 + i.toNat : Nat) : Int)]
          rw [show ((g.1 + i.toNat : Nat) : Int) = (g.1 : Int) + i by omega]
        · by_cases h4 : 40 < (g.1 : Int) + i
          · rw [if_pos h4] at q
            exact .inr ⟨by omega, q⟩
          · rw [if_neg h4] at q
            refine .inl ⟨by omega, fun t H1 nt ht s1 => ?_⟩
            obtain ⟨kvs, h1, h2⟩ := hm.same s1
            have hl2 := h2.len
            have hle := hM.le
            have ha1 := same_sqt s1 ha
            dsimp only [tRet, tTup, tCons]
            refine fun p np => ⟨_, rfl, upd_same, m, kvs, rfl, (fun e => by rw [e, np] at h1; cases h1), same_new np _ _ h1, fun qq nq => ?_⟩
            have hpq : qq ≠ p := fun e => by rw [e, upd_same] at nq; cases nq
            have nq0 : H1 qq = none := by rw [upd_ne hpq] at nq; rw [upd_ne hpq] at nq; exact nq
            have s0 : Same H1 (upd (upd (upd H1 p (.dK [])) p (.dK kvs)) qq (.dK [])) := fun b o hb => by
              have e1 : b ≠ p := fun e => by rw [e, np] at hb; cases hb
              have e2 : b ≠ qq := fun e => by rw [e, nq0] at hb; cases hb
              rw [upd_ne e2, upd_ne e1, upd_ne e1]
              exact hb
            have hp0 : upd (upd (upd H1 p (.dK [])) p (.dK kvs)) qq (.dK []) p = some (.dK kvs) := by rw [upd_ne (Ne.symm hpq), upd_same]
            have hq0 : upd (upd (upd H1 p (.dK [])) p (.dK kvs)) qq (.dK []) qq = some (.dK []) := upd_same
            generalize upd (upd (upd H1 p (.dK [])) p (.dK kvs)) qq (.dK []) = H0 at s0 hp0 hq0 ⊢
            refine ⟨_, rfl, _, rfl, _, rfl, ?_⟩
            refine ⟨_, rfl, a, _, rfl, .inr (same_sqt s0 ha1), _, rfl, ?_⟩
            rw [tupOf_len]
            show rSlA K (V.ref t) (some ((g.1 : Nat) : Int)) none H0 (fun y H2 => rCatA K (V.ref a) y H2 _)
            refine grow_val (k := i.toNat) (by omega) (SqT.of ?_) (same_sqt s0 ha1) fun b H3 hb s3 => ?_
            · rw [s0 _ _ ht]
            refine disp_endS (z := z) (v := V.ref b) (Q := fun x H' => 2 ≤ sizeLine ∧ ∀ t, H' t = none → Q (V.ref t) (upd H' t (.tup [x, V.int 0]))) np nq0 hpq hp0 hq0 s0 s3 (by omega) fun H4 hd s4 k4 => ?_
            refine ⟨two_szS, fun t nt => ?_⟩
            exact DoO.give q (s1.trans s4) ⟨_, hd, (h2.same s4).put (f := (g.1 + i.toNat, growQ g)) (rd_sqt k4 hb)⟩ (sm_none s1 np) nt
theorem valV_no {k : Key} : ∀ {l : List (Key × V)}, (∀ p ∈ l, p.1 ≠ k) → valV l k = none
  | [], _ => rfl
  | p :: l, h => by
    rw [valV_neg (h p List.mem_cons_self)]
    exact valV_no fun q hq => h q (List.mem_cons_of_mem _ hq)
theorem valV_nth {k : Key} {v : V} : ∀ {l : List (Key × V)} {i : Nat}, (l.map Prod.fst).Nodup → l[i]? = some (k, v) → valV l k = some v
  | [], i, _, h => by simp at h
  | p :: l, 0, _, h => by
    rw [List.getElem?_cons_zero] at h
    cases h
    exact valV_pos rfl
  | p :: l, i + 1, nd, h => by
    rw [List.getElem?_cons_succ] at h
    rw [List.map_cons, List.nodup_cons] at nd
    have hm : k ∈ l.map Prod.fst := List.mem_map.mpr ⟨_, List.mem_of_getElem? h, rfl⟩
    rw [valV_neg (fun e => nd.1 (by rw [e]; exact hm))]
    exact valV_nth nd.2 h
theorem take_new {k : Key} {v : V} : ∀ {l : List (Key × V)} {i : Nat}, (l.map Prod.fst).Nodup → l[i]? = some (k, v) → ∀ p ∈ l.take i, p.1 ≠ k
  | [], i, _, h => by simp at h
  | p :: l, 0, _, h => fun q hq => by cases hq
  | p :: l, i + 1, nd, h => fun q hq => by
    rw [List.getElem?_cons_succ] at h
    rw [List.map_cons, List.nodup_cons] at nd
    rw [List.take_succ_cons] at hq
    have hm : k ∈ l.map Prod.fst := List.mem_map.mpr ⟨_, List.mem_of_getElem? h, rfl⟩
    rcases List.mem_cons.mp hq with rfl | hq
    · exact fun e => nd.1 (by rw [e]; exact hm)
    · exact take_new nd.2 h q hq
theorem KvAt.keys {K : PySem.W.Frag} {H : Hp} : ∀ {kvs : List (Key × V)} {M : Fs}, KvAt K H kvs M → kvs.map Prod.fst = (M.map Prod.fst).map Sum.inr
  | _, _, .nil => rfl
  | _, _, .cons h r => by
    rw [List.map_cons, List.map_cons, List.map_cons, r.keys]
theorem KvAt.nodup {K : PySem.W.Frag} {H : Hp} {kvs : List (Key × V)} {M : Fs} (h : KvAt K H kvs M) (nd : (M.map Prod.fst).Nodup) : (kvs.map Prod.fst).Nodup := by
  rw [h.keys, List.Nodup, List.pairwise_map]
  exact nd.imp fun ne e => ne (Sum.inr.inj e)
/-- over the keys of a dict that is locked -/
theorem dc_keys {d : Addr} {o : Obj} {kvs : List (Key × V)} {g : TG} {tt : TT} {tk tv : TE} {vs : List Nat} {σ : L2.St} {H1 : Hp} {D : Addr} {Qd : Hp → Prop} (Pv : Nat → Hp → Prop) (h0 : Pv 0 (upd H1 D (.dK []))) (hl : ∀ i H, Pv i H → H d = some (.frz o (.dK kvs)))
    (hs : ∀ i k v H, kvs[i]? = some (k, v) → Pv i H → g (kV k) (wipe σ vs) H fun σ2 H2 => wipe σ2 vs = wipe σ vs ∧ tt σ2 H2 fun b H3 =>
      if b = true then tk σ2 H3 fun y H4 => tv σ2 H4 fun z H5 => ∃ kvs k, y = kV k ∧ H5 D = some (.dK kvs) ∧ kvs.length < sizeLine ∧ Pv (i + 1) (upd H5 D (.dK (putK kvs k z))) else Pv (i + 1) H3) (hd : ∀ H, Pv kvs.length H → Qd H) :
    ∃ W : Nat → Nat → Hp → Prop, (∃ m, W 0 m (upd H1 D (.dK []))) ∧ ∀ i m H, W i m H →
      ((Itk d o kvs).stop i H ∧ Qd H) ∨ ((Itk d o kvs).go i H ∧ ∃ Nx : Hp → Prop, (∀ H', Nx H' → ∃ m', m' < m ∧ W (i + 1) m' H') ∧ ∀ x H', (Itk d o kvs).yld i H x H' → g x (wipe σ vs) H' fun σ2 H2 => wipe σ2 vs = wipe σ vs ∧ tt σ2 H2 fun b H3 =>
        if b = true then tk σ2 H3 fun y H4 => tv σ2 H4 fun z H5 => ∃ kvs k, y = kV k ∧ H5 D = some (.dK kvs) ∧ kvs.length < sizeLine ∧ Nx (upd H5 D (.dK (putK kvs k z))) else Nx H3) := by
  refine ⟨fun i m H => m = kvs.length - i ∧ i ≤ kvs.length ∧ Pv i H, ⟨kvs.length, by simp, Nat.zero_le _, h0⟩, ?_⟩
  rintro i m H ⟨rfl, hi, p⟩
  have q := hl i H p
  by_cases hlt : i < kvs.length
  · refine .inr ⟨⟨q, hlt⟩, Pv (i + 1), fun H' p' => ⟨kvs.length - (i + 1), by omega, rfl, hlt, p'⟩, fun x H' y => ?_⟩
    obtain ⟨rfl, k, v, hk, rfl⟩ := y
    exact hs i k v _ hk p
  · have e : i = kvs.length := by omega
    subst e
    exact .inl ⟨⟨q, Nat.le_refl _⟩, hd H p⟩
/-- the entries but one, in their order -/
theorem KvAt.filt {K : PySem.W.Frag} {H : Hp} {z : Str} : ∀ {kvs : List (Key × V)} {M : Fs}, KvAt K H kvs M → KvAt K H (kvs.filter fun kv => !decide (kv.1 = (Sum.inr z : Key))) (dropM M z)
  | _, _, .nil => .nil
  | _, _, .cons (a := a) (z := y) (f := g) h r => by
    unfold dropM
    rw [List.filter_cons, List.filter_cons]
    by_cases n : y = z
    · rw [if_neg (by rw [n]; simp), if_neg (by rw [n]; simp)]
      exact r.filt
    · rw [if_pos (by rw [decide_eq_false (fun x => n (Sum.inr.inj x))]; rfl), if_pos (by rw [decide_eq_false n]; rfl)]
      exact .cons h r.filt
theorem KvAt.nth {K : PySem.W.Frag} {H : Hp} {i : Nat} {k : Key} {v : V} : ∀ {kvs : List (Key × V)} {M : Fs}, KvAt K H kvs M → kvs[i]? = Option.some (k, v) → ∃ (y : Str) (f : Fr) (a : Addr), k = Sum.inr y ∧ v = V.ref a ∧ M[i]? = Option.some (y, f) := by
  intro kvs M h
  induction h generalizing i with
  | nil => intro e; simp at e
  | cons ha r ih =>
    intro e
    cases i with
    | zero =>
      rw [List.getElem?_cons_zero] at e
      cases e
      exact ⟨_, _, _, rfl, rfl, rfl⟩
    | succ i =>
      rw [List.getElem?_cons_succ] at e
      exact ih e
theorem okB_doDr {f fI : Addr} {fd fdI : FuncData} (F : Fun K "do_drop" "do_drop" sDoDr f fd) (kI : KnX P w K mg base 4 "forest_in" ["forests", "name"] (spFInB K c) fI fdI) :
    FnOk P w K mg base (L2N.CX P w) 18 f fd ["forests", "name"] (spDrop K c) := by
  refine okN F scDoDr (fun vs H Q E h => ?_) (fun cdv A outer s H vs Q E hr h tk => ?_)
  · obtain ⟨m, z, M, rfl, _⟩ := h
    rfl
  · obtain ⟨m, z, M, rfl, hm, hM, hz, q⟩ := h
    have hrm : ∀ {j : Nat}, j ≤ 17 → Room j (A.deeper (envOfC "do_drop" (defScope sDoDr) s.heap.objs.size f cdv)) := fun h => hr.mono h
    have hu1 : (A.deeper (envOfC "do_drop" (defScope sDoDr) s.heap.objs.size f cdv)).units + 1 < cLine := by have := hr.un; omega
    refine ⟨_, (pss_cons (ps_expr (pe_call kI.G (hrm (by first | decide | omega)) (by rfl) kI.g kI.kp kI.b .nil (lookNE tk) (pa_cons (pv 0) (pa_cons (pv 1) pa_nil))))
      (pss_one (ps_ret (pe_tup (pa_cons (pe_lock (pe_dc (own := [("kept", 2)]) (g := gName 2) rfl scDoDr.nd (pi_keys (pv 0)) (blkOk_by (own := [("kept", 2)]) (N := doDrN) (sc := defScope sDoDr) (by decide +kernel)) (fun _ _ _ _ _ => pg_name (i := 2) scDoDr.nd rfl (Or.inl rfl)) (fun _ _ _ _ _ => (pts_one (pt_cmpR op_ne (pv 2) (pv 1) (nomark _)))) (fun _ _ _ _ _ => pv 2) (fun _ _ _ _ _ => pe_dget hu1 (pv 0) (pv 2) (fun _ _ => rfl)))) (pa_cons pe_int pa_nil)))))), ?_⟩
    change DoO K c H Q E (withF M z fun _ => .ok (dropM M z, 0)) at q
    unfold withF at q
    refine ⟨_, rfl, _, rfl, m, z, M, rfl, hm, hz, ?_⟩
    cases e : look M z with
    | none => rw [e] at q; exact q
    | some g =>
      rw [e] at q
      intro a ha
      obtain ⟨kvs, h1, h2⟩ := id hm
      have hl2 := h2.len
      have hle := hM.le
      dsimp only [tRet, tTup, tCons]
      refine ⟨m, _, h1, trivial, fun od => ?_⟩
      have hm0 : upd H m (.frz od (.dK kvs)) m = some (.frz od (.dK kvs)) := upd_same
      have old : ∀ b o, b ≠ m → H b = some o → upd H m (.frz od (.dK kvs)) b = some o := fun b o hb h => by rw [upd_ne hb]; exact h
      refine ⟨_, rfl, m, od, rfl, .inl ⟨kvs, hm0, fun D nD => ?_⟩⟩
      have nDm : D ≠ m := fun e => by rw [e, hm0] at nD; cases nD
      have nD0 : H D = none := by rw [upd_ne nDm] at nD; exact nD
      have nd := h2.nodup hM.nd
      refine dc_keys (fun i H' => H' D = some (.dK ((kvs.take i).filter fun kv => !decide (kv.1 = (Sum.inr z : Key)))) ∧ H' m = some (.frz od (.dK kvs)) ∧ ∀ b o, b ≠ m → H b = some o → H' b = some o)
        ⟨upd_same, by rw [upd_ne (Ne.symm nDm)]; exact hm0, fun b o hb h => by rw [upd_ne (fun e => by rw [e, nD0] at h; cases h)]; exact old b o hb h⟩ (fun i H' h => h.2.1) ?_ ?_
      · rintro i k v H' hk ⟨hD, hm', ol⟩
        obtain ⟨y, f, b, rfl, rfl, hy⟩ := h2.nth hk
        have ct : (kvs.take (i + 1)).filter (fun kv => !decide (kv.1 = (Sum.inr z : Key))) = (kvs.take i).filter (fun kv => !decide (kv.1 = (Sum.inr z : Key))) ++ (if y = z then [] else [((Sum.inr y : Key), V.ref b)]) := by
          rw [List.take_add_one, hk, List.filter_append]
          by_cases n : y = z
          · rw [if_pos n, n]
            simp
          · rw [if_neg n]
            simp [n]
        refine ⟨rfl, _, rfl, _, rfl, rfl, _, rfl, ?_⟩
        show if (!decide (V.str y = V.str z)) = true then _ else _
        by_cases n : y = z
        · rw [decide_eq_true (by rw [n])]
          refine iteF ⟨?_, hm', ol⟩
          rw [hD, ct, if_pos n, List.append_nil]
        · rw [decide_eq_false (fun e => n (by injection e))]
          refine iteT ⟨_, rfl, _, rfl, _, rfl, m, V.ref b, rfl, .inl ⟨kvs, (Sum.inr y : Key), .inr ⟨od, hm'⟩, rfl, (valV_nth nd hk).symm⟩, _, (Sum.inr y : Key), rfl, hD, ?_, ?_, by rw [upd_ne (Ne.symm nDm)]; exact hm', fun b o hb h => by rw [upd_ne (fun e => by rw [e, nD0] at h; cases h)]; exact ol b o hb h⟩
          · exact Nat.lt_of_le_of_lt (Nat.le_trans (List.length_filter_le _ _) (show (kvs.take i).length ≤ 6 by rw [List.length_take]; omega)) (show 6 < sizeLine by decide)
          · rw [upd_same, ct, if_neg n, putK_new _ (valV_no fun p hp => take_new nd hk p (List.mem_filter.mp hp).1)]
      · rintro H' ⟨hD, hm', ol⟩
        rw [List.take_length] at hD
        refine ⟨hm', two_szS, fun t nt => ?_⟩
        have s1 : Same H (upd H' m (.dK kvs)) := fun b o h => by
          by_cases e : b = m
          · rw [e, upd_same, ← h1, ← e]; exact h
          · rw [upd_ne e]; exact ol b o e h
        exact DoO.give q s1 ⟨_, by rw [upd_ne nDm]; exact hD, (h2.same s1).filt⟩ nD0 nt
end
end Ff

namespace Ff
open PySem PySem.Spec PyProof.Rows L2 ExX LamX
abbrev sChkC : Stmt := topS 82
abbrev chkCN : List Str := ["command", "word"]
theorem scChkC : FnScope chkCN ["command"] (defScope sChkC) := ⟨rfl, rfl, rfl, by decide +kernel, rfl, by decide +kernel, by decide +kernel⟩
abbrev sDoCmd : Stmt := topS 83
abbrev doCmdN : List Str := ["forests", "command", "word", "rest", "action"]
theorem scDoCmd : FnScope doCmdN ["forests", "command"] (defScope sDoCmd) := ⟨rfl, rfl, rfl, by decide +kernel, rfl, by decide +kernel, by decide +kernel⟩
def Cmd.word : Cmd → Str
  | .new _ _ => "new" | .drop _ => "drop" | .copy _ _ => "copy" | .swap _ _ => "swap" | .find _ _ => "find" | .link _ _ _ => "link" | .unite _ _ _ => "unite"
  | .run _ _ => "run" | .runB _ => "run" | .flatten _ => "flatten" | .grow _ _ => "grow" | .mal _ => ""
def Cmd.ar : Cmd → Nat
  | .new _ _ => 3 | .drop _ => 2 | .copy _ _ => 3 | .swap _ _ => 3 | .find _ _ => 3 | .link _ _ _ => 4 | .unite _ _ _ => 4
  | .run _ _ => 3 | .runB _ => 3 | .flatten _ => 2 | .grow _ _ => 3 | .mal _ => 0
/-- a name that a command may bear -/
def NmOk (z : Str) : Prop := z.length ≤ 800 ∧ (reprText z).length ≤ 9000
def IntOk (i : Int) : Prop := i.natAbs.log2 < 1920
/-- what a command's numbers and texts must keep to -/
def CmdOk : Cmd → Prop
  | .new z xs => NmOk z ∧ xs.length ≤ 1000
  | .drop z => NmOk z
  | .copy z y => NmOk z ∧ NmOk y
  | .swap z y => NmOk z ∧ NmOk y
  | .find z i => NmOk z ∧ IntOk i
  | .link z i j => NmOk z ∧ IntOk i ∧ IntOk j
  | .unite z i j => NmOk z ∧ IntOk i ∧ IntOk j
  | .run z ss => NmOk z ∧ Wfs true ss ∧ nests ss ≤ 4 ∧ nWrs ss ≤ 100 ∧ Smls ss
  | .runB z => NmOk z
  | .flatten z => NmOk z
  | .grow z i => NmOk z ∧ IntOk i
  | .mal w => ∀ z, w = some z → (reprText z).length ≤ 9000
/-- what stands behind a command's word -/
def ArgsAt (K : PySem.W.Frag) (H : Hp) : Cmd → List V → Prop
  | .new z xs, vs => ∃ (l : Addr) (kd : Bool), vs = [.str z, .ref l] ∧ Kd kd K H l (xs.map V.int)
  | .drop z, vs => vs = [.str z]
  | .copy z y, vs => vs = [.str z, .str y]
  | .swap z y, vs => vs = [.str z, .str y]
  | .find z i, vs => vs = [.str z, .int i]
  | .link z i j, vs => vs = [.str z, .int i, .int j]
  | .unite z i j, vs => vs = [.str z, .int i, .int j]
  | .run z ss, vs => ∃ (b : Addr) (kd : Bool) (ys : List V), vs = [.str z, .ref b] ∧ H b = some (ob kd ys) ∧ StsAt H ys ss
  | .runB z, vs => ∃ b t e : Addr, vs = [.str z, .ref b] ∧ SqT K H b [.ref t] ∧ SqT K H t [.str "round", .int 1, .ref e] ∧ SqT K H e []
  | .flatten z, vs => vs = [.str z]
  | .grow z i, vs => vs = [.str z, .int i]
  | .mal _, _ => False
/-- a command in the heap -/
def CmdAt (K : PySem.W.Frag) (dL : Addr) (H : Hp) (c : Addr) : Cmd → Prop
  | .mal w => (w = none ∧ SqT K H c []) ∨ ∃ (z : Str) (vs : List V) (r : Option Value), w = some z ∧ SqT K H c (.str z :: vs) ∧ PySem.W.nsIn K dL z = some r ∧ (r = none ∨ ∃ i tk, r = some (.int i tk) ∧ i ≠ ((vs.length + 1 : Nat) : Int))
  | cmd => ∃ vs, SqT K H c (.str cmd.word :: vs) ∧ ArgsAt K H cmd vs
/-- the lengths as the top has written them -/
structure WordsT (K : PySem.W.Frag) (dL : Addr) : Prop where
  new : ∃ t, PySem.W.nsIn K dL "new" = some (some (.int 3 t))
  drop : ∃ t, PySem.W.nsIn K dL "drop" = some (some (.int 2 t))
  copy : ∃ t, PySem.W.nsIn K dL "copy" = some (some (.int 3 t))
  swap : ∃ t, PySem.W.nsIn K dL "swap" = some (some (.int 3 t))
  find : ∃ t, PySem.W.nsIn K dL "find" = some (some (.int 3 t))
  link : ∃ t, PySem.W.nsIn K dL "link" = some (some (.int 4 t))
  unite : ∃ t, PySem.W.nsIn K dL "unite" = some (some (.int 4 t))
  run : ∃ t, PySem.W.nsIn K dL "run" = some (some (.int 3 t))
  flatten : ∃ t, PySem.W.nsIn K dL "flatten" = some (some (.int 2 t))
  grow : ∃ t, PySem.W.nsIn K dL "grow" = some (some (.int 3 t))
def isMal : Cmd → Bool
  | .mal _ => true
  | _ => false
theorem WordsT.at_ {K : PySem.W.Frag} {dL : Addr} (W : WordsT K dL) : ∀ {cmd : Cmd}, isMal cmd = false → ∃ t, PySem.W.nsIn K dL cmd.word = some (some (.int (cmd.ar : Int) t))
  | .new _ _, _ => W.new | .drop _, _ => W.drop | .copy _ _, _ => W.copy | .swap _ _, _ => W.swap | .find _ _, _ => W.find | .link _ _ _, _ => W.link | .unite _ _ _, _ => W.unite
  | .run _ _, _ => W.run | .runB _, _ => W.run | .flatten _, _ => W.flatten | .grow _ _, _ => W.grow | .mal _, h => by cases h
theorem ArgsAt.len {K : PySem.W.Frag} {H : Hp} : ∀ {cmd : Cmd} {vs : List V}, ArgsAt K H cmd vs → vs.length + 1 = cmd.ar
  | .new _ _, _, ⟨_, _, h, _⟩ => by rw [h]; rfl
  | .drop _, _, h => by rw [show _ = _ from h]; rfl
  | .copy _ _, _, h => by rw [show _ = _ from h]; rfl
  | .swap _ _, _, h => by rw [show _ = _ from h]; rfl
  | .find _ _, _, h => by rw [show _ = _ from h]; rfl
  | .link _ _ _, _, h => by rw [show _ = _ from h]; rfl
  | .unite _ _ _, _, h => by rw [show _ = _ from h]; rfl
  | .run _ _, _, ⟨_, _, _, h, _⟩ => by rw [h]; rfl
  | .runB _, _, ⟨_, _, _, h, _⟩ => by rw [h]; rfl
  | .flatten _, _, h => by rw [show _ = _ from h]; rfl
  | .grow _ _, _, h => by rw [show _ = _ from h]; rfl
  | .mal _, _, h => h.elim
theorem CmdAt.args {K : PySem.W.Frag} {dL : Addr} {H : Hp} {c : Addr} : ∀ {cmd : Cmd}, CmdAt K dL H c cmd → isMal cmd = false → ∃ vs, SqT K H c (.str cmd.word :: vs) ∧ ArgsAt K H cmd vs
  | .new _ _, h, _ => h | .drop _, h, _ => h | .copy _ _, h, _ => h | .swap _ _, h, _ => h | .find _ _, h, _ => h | .link _ _ _, h, _ => h | .unite _ _ _, h, _ => h
  | .run _ _, h, _ => h | .runB _, h, _ => h | .flatten _, h, _ => h | .grow _ _, h, _ => h | .mal _, _, h => by cases h
theorem ArgsAt.same {K : PySem.W.Frag} {H H' : Hp} (s : Same H H') : ∀ {cmd : Cmd} {vs : List V}, ArgsAt K H cmd vs → ArgsAt K H' cmd vs
  | .new _ _, _, ⟨l, kd, h, k⟩ => ⟨l, kd, h, k.same s⟩
  | .drop _, _, h => h
  | .copy _ _, _, h => h
  | .swap _ _, _, h => h
  | .find _ _, _, h => h
  | .link _ _ _, _, h => h
  | .unite _ _ _, _, h => h
  | .run _ _, _, ⟨b, kd, ys, h, k, m⟩ => ⟨b, kd, ys, h, s _ _ k, m.same s⟩
  | .runB _, _, ⟨b, t, e, h, k, m, n⟩ => ⟨b, t, e, h, same_sqt s k, same_sqt s m, same_sqt s n⟩
  | .flatten _, _, h => h
  | .grow _ _, _, h => h
  | .mal _, _, h => h
theorem CmdAt.same {K : PySem.W.Frag} {dL : Addr} {H H' : Hp} {c : Addr} (s : Same H H') : ∀ {cmd : Cmd}, CmdAt K dL H c cmd → CmdAt K dL H' c cmd := by
  intro cmd h
  cases hm : isMal cmd with
  | false =>
    obtain ⟨vs, h1, h2⟩ := h.args hm
    have : CmdAt K dL H' c cmd = ∃ vs, SqT K H' c (.str cmd.word :: vs) ∧ ArgsAt K H' cmd vs := by cases cmd <;> first | rfl | cases hm
    rw [this]
    exact ⟨vs, same_sqt s h1, h2.same s⟩
  | true =>
    cases cmd with
    | mal w =>
      rcases h with ⟨h1, h2⟩ | ⟨z, vs, r, h1, h2, h3⟩
      · exact .inl ⟨h1, same_sqt s h2⟩
      · exact .inr ⟨z, vs, r, h1, same_sqt s h2, h3⟩
    | _ => cases hm
def spChkCB (K : PySem.W.Frag) (dL : Addr) (c : CEr) : Sp := fun vs H Q E => ∃ (a : Addr) (cmd : Cmd), vs = [.ref a] ∧ CmdAt K dL H a cmd ∧ CmdOk cmd ∧ (if isMal cmd = true then ∃ w, cmd = .mal w ∧ Fl c H E (.badCmd w) else Q .non H)
/-- the def behind a command's word -/
def ActOk (P : Program) (w : World) (K : PySem.W.Frag) (mg : Str → Option Value) (base : Heap) (dA : Addr) (c : CEr) (cmd : Cmd) : Prop := ∃ (g : Addr) (sp : Sp), KDct K w dA cmd.word (.ref g) ∧ HeldX P w K mg base 18 g sp ∧
  ∀ (m : Addr) (args : List V) (M : Fs) (H : Hp) (Q : VK) (E : XK), FsAt K H m M → FsOk M → ArgsAt K H cmd args → CmdOk cmd → DoO K c H Q E (doC M cmd) → sp (.ref m :: args) H Q E
def spDoCmdB (P : Program) (w : World) (K : PySem.W.Frag) (mg : Str → Option Value) (base : Heap) (dL dA : Addr) (c : CEr) : Sp := fun vs H Q E => ∃ (m a : Addr) (M : Fs) (cmd : Cmd), vs = [.ref m, .ref a] ∧ FsAt K H m M ∧ FsOk M ∧ CmdAt K dL H a cmd ∧ CmdOk cmd ∧ isMal cmd = false ∧ ActOk P w K mg base dA c cmd ∧ DoO K c H Q E (doC M cmd)
section
variable {P : Program} {w : World} {K : PySem.W.Frag} {mg : Str → Option Value} {base : Heap} {c : CEr}
theorem okB_chkC {f dL : Addr} {fd : FuncData} {es : Array DictEntry} {nn : Nat} (F : Fun K "check_command" "check_command" sChkC f fd) (T : Tx mg) (gLen : mg "LENGTHS" = some (.ref dL)) (D : KDict K w dL es nn) (W : WordsT K dL) (RBC : RaisV P w K mg base PtN 2 "BadCommand" c.BC "word" "BadCommand") : FnOk P w K mg base (L2N.CX P w) 4 f fd ["command"] (spChkCB K dL c) := by
  refine okN F scChkC (fun vs H Q E h => ?_) (fun cdv A outer s H vs Q E hr h tk => ?_)
  · obtain ⟨a, cmd, rfl, _⟩ := h
    rfl
  · obtain ⟨a, cmd, rfl, hc, hok, q⟩ := h
    have hrm : ∀ {j : Nat}, j ≤ 3 → Room j (A.deeper (envOfC "check_command" (defScope sChkC) s.heap.objs.size f cdv)) := fun h => hr.mono h
    refine ⟨_, (C8.pss_cut (ps_set (i := 1) scChkC.nd rfl (.inl rfl) (pe_ifExp (pt_truth (pv 0) (by intro _; rfl)) (pe_ix (show IxR _ (rIx K) from ix_seq) (pv 0) pe_int (fun _ _ => rfl)) pe_non))
      (pss_one (ps_if (pt_cmpR op_ne (pe_kgetO (pe_glob (v := .ref dL) (by rfl) gLen rfl) (pv 1) ⟨rfl, rfl, rfl, rfl⟩) (pe_callB call_len_seq (by rfl) T.len PySem.boot_len (pa_cons (pv 0) pa_nil)) (nomark _))
        (pss_one (L2N.ps_raise rfl tk (pmk_errV RBC (hrm (by decide)) (by rfl) (pv 1)))) pss_nil))), ?_⟩
    cases hm : isMal cmd with
    | false =>
      rw [hm, if_neg (by intro z; cases z)] at q
      obtain ⟨vs, h1, h2⟩ := hc.args hm
      obtain ⟨t, ht⟩ := W.at_ hm
      refine ⟨fun σ H' => σ = [some (.ref a), some (.str cmd.word)] ∧ H' = H, ?_, ?_⟩
      · exact ⟨_, rfl, true, .inr (.inl ⟨_, h1, rfl⟩), iteT ⟨_, rfl, Sq.ix (.inr h1) (show atI _ ((0 : Nat) : Int) = some (V.str cmd.word) from atI_nat rfl) ⟨rfl, rfl⟩⟩⟩
      · rintro σ H' ⟨rfl, rfl⟩
        refine ⟨dL, es, nn, rfl, D, _, rfl, .inr ⟨cmd.word, _, some (.int (cmd.ar : Int)), rfl, ht, ⟨_, rfl⟩, _, rfl, a, _, rfl, .inr h1, rfl, _, rfl, ?_⟩⟩
        rw [List.length_cons, h2.len]
        show if (!decide (V.int (cmd.ar : Int) = V.int (cmd.ar : Int))) = true then _ else _
        rw [decide_eq_true rfl]
        exact iteF q
    | true =>
      rw [hm, if_pos rfl] at q
      obtain ⟨w0, rfl, fl⟩ := q
      rcases hc with ⟨rfl, h1⟩ | ⟨z, vs, r, rfl, h1, hn, hr'⟩
      · refine ⟨fun σ H' => σ = [some (.ref a), some .non] ∧ H' = H, ?_, ?_⟩
        · exact ⟨_, rfl, false, .inr (.inl ⟨_, h1, rfl⟩), iteF ⟨rfl, rfl⟩⟩
        · rintro σ H' ⟨rfl, rfl⟩
          refine ⟨dL, es, nn, rfl, D, _, rfl, .inl ⟨rfl, _, rfl, a, _, rfl, .inr h1, rfl, _, rfl, ?_⟩⟩
          show if (!decide (V.non = V.int ((0 : Nat) : Int))) = true then _ else _
          rw [decide_eq_false (by intro x; cases x)]
          exact iteT ⟨_, rfl, .non, rfl, .inl rfl, fl⟩
      · refine ⟨fun σ H' => σ = [some (.ref a), some (.str z)] ∧ H' = H, ?_, ?_⟩
        · exact ⟨_, rfl, true, .inr (.inl ⟨_, h1, rfl⟩), iteT ⟨_, rfl, Sq.ix (.inr h1) (show atI _ ((0 : Nat) : Int) = some (V.str z) from atI_nat rfl) ⟨rfl, rfl⟩⟩⟩
        · rintro σ H' ⟨rfl, rfl⟩
          have fin : ∀ v : V, v ≠ V.int ((vs.length + 1 : Nat) : Int) → (scal v (V.int ((vs.length + 1 : Nat) : Int)) = true) → (!decide (v = V.int ((vs.length + 1 : Nat) : Int))) = true := fun v hv _ => by rw [decide_eq_false hv]; rfl
          rcases hr' with rfl | ⟨i, tk0, rfl, hi⟩
          · refine ⟨dL, es, nn, rfl, D, _, rfl, .inr ⟨z, _, none, rfl, hn, trivial, _, rfl, a, _, rfl, .inr h1, rfl, _, rfl, ?_⟩⟩
            rw [List.length_cons]
            show if (!decide (V.non = V.int ((vs.length + 1 : Nat) : Int))) = true then _ else _
            rw [decide_eq_false (by intro x; cases x)]
            exact iteT ⟨_, rfl, .str z, rfl, .inr ⟨z, rfl, hok z rfl⟩, fl⟩
          · refine ⟨dL, es, nn, rfl, D, _, rfl, .inr ⟨z, _, some (.int i), rfl, hn, ⟨_, rfl⟩, _, rfl, a, _, rfl, .inr h1, rfl, _, rfl, ?_⟩⟩
            rw [List.length_cons]
            show if (!decide (V.int i = V.int ((vs.length + 1 : Nat) : Int))) = true then _ else _
            rw [decide_eq_false (by intro x; injection x with x; exact hi x)]
            exact iteT ⟨_, rfl, .str z, rfl, .inr ⟨z, rfl, hok z rfl⟩, fl⟩
theorem okB_doCmd {f dA dL : Addr} {fd : FuncData} (F : Fun K "do_command" "do_command" sDoCmd f fd) (gAct : mg "ACTIONS" = some (.ref dA)) : FnOk P w K mg base (L2N.CX P w) 19 f fd ["forests", "command"] (spDoCmdB P w K mg base dL dA c) := by
  refine okN F scDoCmd (fun vs H Q E h => ?_) (fun cdv A outer s H vs Q E hr h tk => ?_)
  · obtain ⟨m, a, M, cmd, rfl, _⟩ := h
    rfl
  · obtain ⟨m, a, M, cmd, rfl, hm, hM, hc, hok, hml, ⟨g, sp, hd, hS, hsp⟩, q⟩ := h
    have hrm : ∀ {j : Nat}, j ≤ 18 → Room j (A.deeper (envOfC "do_command" (defScope sDoCmd) s.heap.objs.size f cdv)) := fun h => hr.mono h
    refine ⟨_, (pss_cons (ps_asg (pv 1) (pg_head rfl (pg_name (i := 2) scDoCmd.nd rfl (.inl rfl)) (pg_name (i := 3) scDoCmd.nd rfl (.inl rfl))))
      (pss_cons (ps_set (i := 4) scDoCmd.nd rfl (.inl rfl) (pe_ix ix_kdict (pe_glob (v := .ref dA) (by rfl) gAct rfl) (pv 2) (fun _ _ => rfl)))
      (pss_one (ps_ret (pe_callXS (k := 18) (i := 4) (hrm (by decide)) rfl (.inl rfl) (lookNE tk) (pa_cons (pv 0) (StX.pa_star (pv 3) pa_nil))))))), ?_⟩
    obtain ⟨args, h1, h2⟩ := hc.args hml
    refine ⟨_, rfl, a, .str cmd.word, args, rfl, h1, fun p np => ?_⟩
    refine ⟨_, rfl, dA, cmd.word, .ref g, rfl, rfl, hd, ?_⟩
    refine ⟨g, sp, rfl, hS, _, rfl, _, rfl, p, args, rfl, .inr (SqL.of upd_same), ?_⟩
    have s1 := same_new (o := .lst args) np
    show sp (V.ref m :: (args ++ [])) _ Q E
    rw [List.append_nil]
    exact hsp m args M _ Q E (hm.same s1) hM (h2.same s1) hok (q.same s1)
end
end Ff

namespace Ff
open PySem PySem.Spec PyProof.Rows L2 ExX LamX
abbrev sSI : Stmt := inClass (topS 85) 0
abbrev sIN : List Str := ["self"]
theorem scSI : FnScope sIN ["self"] (defScope sSI) := ⟨rfl, rfl, rfl, by decide +kernel, rfl, by decide +kernel, by decide +kernel⟩
def stN : List Str := ["forests", "total", "past", "future", "watches", "told", "last_number"]
/-- the fields of a store, in whatever order -/
structure StF (fs : List (Str × V)) (fo : Addr) (to : Int) (pa fu wa te : Addr) (la : Int) : Prop where
  f : fs.lookup ("forests" : Str) = some (V.ref fo)
  t : fs.lookup ("total" : Str) = some (V.int to)
  p : fs.lookup ("past" : Str) = some (V.ref pa)
  u : fs.lookup ("future" : Str) = some (V.ref fu)
  w : fs.lookup ("watches" : Str) = some (V.ref wa)
  e : fs.lookup ("told" : Str) = some (V.ref te)
  n : fs.lookup ("last_number" : Str) = some (V.int la)
  no : ∀ m : Str, m ∉ stN → fs.lookup m = none
  len : fs.length ≤ 7
theorem putF_len {k : Str} {v x : V} : ∀ {fs : List (Str × V)}, fs.lookup k = some x → (putF k v fs).length = fs.length
  | [], h => by cases h
  | (a, y) :: fs, h => by
    unfold putF
    by_cases e : a = k
    · rw [if_pos e]
      rfl
    · rw [if_neg e, List.length_cons, List.length_cons]
      rw [List.lookup_cons] at h
      have e2 : (k == a) = false := beq_eq_false_iff_ne.mpr fun z => e z.symm
      rw [e2] at h
      rw [putF_len h]
theorem look_no {k m : Str} {v : V} {fs : List (Str × V)} (h : fs.lookup m = none) (hk : k ∈ stN) (hm : m ∉ stN) : (putF k v fs).lookup m = none := by
  rw [lookup_putF, if_neg fun z => hm (by rw [z]; exact hk)]
  exact h
theorem StF.putU {fs : List (Str × V)} {fo : Addr} {to : Int} {pa fu wa te : Addr} {la : Int} (h : StF fs fo to pa fu wa te la) (x : Addr) : StF (putF "future" (.ref x) fs) fo to pa x wa te la := by
  refine ⟨?_, ?_, ?_, ?_, ?_, ?_, ?_, fun m hm => look_no (h.no m hm) (by decide +kernel) hm, by rw [putF_len h.u]; exact h.len⟩
  · rw [lookup_putF, if_neg (by decide +kernel)]; exact h.f
  · rw [lookup_putF, if_neg (by decide +kernel)]; exact h.t
  · rw [lookup_putF, if_neg (by decide +kernel)]; exact h.p
  · rw [lookup_putF, if_pos rfl]
  · rw [lookup_putF, if_neg (by decide +kernel)]; exact h.w
  · rw [lookup_putF, if_neg (by decide +kernel)]; exact h.e
  · rw [lookup_putF, if_neg (by decide +kernel)]; exact h.n
theorem StF.putF' {fs : List (Str × V)} {fo : Addr} {to : Int} {pa fu wa te : Addr} {la : Int} (h : StF fs fo to pa fu wa te la) (x : Addr) : StF (putF "forests" (.ref x) fs) x to pa fu wa te la := by
  refine ⟨?_, ?_, ?_, ?_, ?_, ?_, ?_, fun m hm => look_no (h.no m hm) (by decide +kernel) hm, by rw [putF_len h.f]; exact h.len⟩
  · rw [lookup_putF, if_pos rfl]
  · rw [lookup_putF, if_neg (by decide +kernel)]; exact h.t
  · rw [lookup_putF, if_neg (by decide +kernel)]; exact h.p
  · rw [lookup_putF, if_neg (by decide +kernel)]; exact h.u
  · rw [lookup_putF, if_neg (by decide +kernel)]; exact h.w
  · rw [lookup_putF, if_neg (by decide +kernel)]; exact h.e
  · rw [lookup_putF, if_neg (by decide +kernel)]; exact h.n
theorem StF.putT {fs : List (Str × V)} {fo : Addr} {to : Int} {pa fu wa te : Addr} {la : Int} (h : StF fs fo to pa fu wa te la) (x : Int) : StF (putF "total" (.int x) fs) fo x pa fu wa te la := by
  refine ⟨?_, ?_, ?_, ?_, ?_, ?_, ?_, fun m hm => look_no (h.no m hm) (by decide +kernel) hm, by rw [putF_len h.t]; exact h.len⟩
  · rw [lookup_putF, if_neg (by decide +kernel)]; exact h.f
  · rw [lookup_putF, if_pos rfl]
  · rw [lookup_putF, if_neg (by decide +kernel)]; exact h.p
  · rw [lookup_putF, if_neg (by decide +kernel)]; exact h.u
  · rw [lookup_putF, if_neg (by decide +kernel)]; exact h.w
  · rw [lookup_putF, if_neg (by decide +kernel)]; exact h.e
  · rw [lookup_putF, if_neg (by decide +kernel)]; exact h.n
/-- what the top has made of the class -/
structure StT (K : PySem.W.Frag) (C : Addr) : Prop where
  cl : Cls K C
  no : ∀ m ∈ stN, NoAttr K C m
theorem StF.putP {fs : List (Str × V)} {fo : Addr} {to : Int} {pa fu wa te : Addr} {la : Int} (h : StF fs fo to pa fu wa te la) (x : Addr) : StF (putF "past" (.ref x) fs) fo to x fu wa te la := by
  refine ⟨?_, ?_, ?_, ?_, ?_, ?_, ?_, fun m hm => look_no (h.no m hm) (by decide +kernel) hm, by rw [putF_len h.p]; exact h.len⟩
  · rw [lookup_putF, if_neg (by decide +kernel)]; exact h.f
  · rw [lookup_putF, if_neg (by decide +kernel)]; exact h.t
  · rw [lookup_putF, if_pos rfl]
  · rw [lookup_putF, if_neg (by decide +kernel)]; exact h.u
  · rw [lookup_putF, if_neg (by decide +kernel)]; exact h.w
  · rw [lookup_putF, if_neg (by decide +kernel)]; exact h.e
  · rw [lookup_putF, if_neg (by decide +kernel)]; exact h.n
theorem StF.putW {fs : List (Str × V)} {fo : Addr} {to : Int} {pa fu wa te : Addr} {la : Int} (h : StF fs fo to pa fu wa te la) (x : Addr) : StF (putF "watches" (.ref x) fs) fo to pa fu x te la := by
  refine ⟨?_, ?_, ?_, ?_, ?_, ?_, ?_, fun m hm => look_no (h.no m hm) (by decide +kernel) hm, by rw [putF_len h.w]; exact h.len⟩
  · rw [lookup_putF, if_neg (by decide +kernel)]; exact h.f
  · rw [lookup_putF, if_neg (by decide +kernel)]; exact h.t
  · rw [lookup_putF, if_neg (by decide +kernel)]; exact h.p
  · rw [lookup_putF, if_neg (by decide +kernel)]; exact h.u
  · rw [lookup_putF, if_pos rfl]
  · rw [lookup_putF, if_neg (by decide +kernel)]; exact h.e
  · rw [lookup_putF, if_neg (by decide +kernel)]; exact h.n
theorem StF.putE {fs : List (Str × V)} {fo : Addr} {to : Int} {pa fu wa te : Addr} {la : Int} (h : StF fs fo to pa fu wa te la) (x : Addr) : StF (putF "told" (.ref x) fs) fo to pa fu wa x la := by
  refine ⟨?_, ?_, ?_, ?_, ?_, ?_, ?_, fun m hm => look_no (h.no m hm) (by decide +kernel) hm, by rw [putF_len h.e]; exact h.len⟩
  · rw [lookup_putF, if_neg (by decide +kernel)]; exact h.f
  · rw [lookup_putF, if_neg (by decide +kernel)]; exact h.t
  · rw [lookup_putF, if_neg (by decide +kernel)]; exact h.p
  · rw [lookup_putF, if_neg (by decide +kernel)]; exact h.u
  · rw [lookup_putF, if_neg (by decide +kernel)]; exact h.w
  · rw [lookup_putF, if_pos rfl]
  · rw [lookup_putF, if_neg (by decide +kernel)]; exact h.n
theorem StF.putN {fs : List (Str × V)} {fo : Addr} {to : Int} {pa fu wa te : Addr} {la : Int} (h : StF fs fo to pa fu wa te la) (x : Int) : StF (putF "last_number" (.int x) fs) fo to pa fu wa te x := by
  refine ⟨?_, ?_, ?_, ?_, ?_, ?_, ?_, fun m hm => look_no (h.no m hm) (by decide +kernel) hm, by rw [putF_len h.n]; exact h.len⟩
  · rw [lookup_putF, if_neg (by decide +kernel)]; exact h.f
  · rw [lookup_putF, if_neg (by decide +kernel)]; exact h.t
  · rw [lookup_putF, if_neg (by decide +kernel)]; exact h.p
  · rw [lookup_putF, if_neg (by decide +kernel)]; exact h.u
  · rw [lookup_putF, if_neg (by decide +kernel)]; exact h.w
  · rw [lookup_putF, if_neg (by decide +kernel)]; exact h.e
  · rw [lookup_putF, if_pos rfl]
/-- all but p as it was -/
def SameXs (p : Addr) (H H' : Hp) : Prop := ∀ b o, H b = some o → b ≠ p → H' b = some o
/-- a store has come to be: five new objects that are its own -/
def spSI (C : Addr) : Sp := fun vs H Q _ => ∃ (p dx : Addr), vs = [.ref p] ∧ H p = some (.ins C dx []) ∧
  ∀ (fo pa fu wa te : Addr) (fs : List (Str × V)) H', H fo = none → H pa = none → H fu = none → H wa = none → H te = none → pa ≠ fu → wa ≠ te → fo ≠ wa → fo ≠ te → H' p = some (.ins C dx fs) → StF fs fo 0 pa fu wa te 0 → H' fo = some (.dK []) → H' pa = some (.lst []) → H' fu = some (.lst []) → H' wa = some (.dK []) → H' te = some (.dK []) → SameXs p H H' → Q .non H'
theorem new_put {G : Hp} {p x C dx : Addr} {o : HO} {fs fs' : List (Str × V)} (hp : G p = some (.ins C dx fs)) (hx : G x = none) :
    upd (upd G x o) p (.ins C dx fs') p = some (.ins C dx fs') ∧ upd (upd G x o) p (.ins C dx fs') x = some o ∧ (∀ b u, b ≠ p → G b = some u → upd (upd G x o) p (.ins C dx fs') b = some u) ∧ x ≠ p := by
  have hxp : x ≠ p := fun e => by rw [e, hp] at hx; cases hx
  refine ⟨upd_same, by rw [upd_ne hxp, upd_same], fun b u hb h => ?_, hxp⟩
  rw [upd_ne hb, upd_ne (ne_of_none h hx)]
  exact h
theorem put_keep {G : Hp} {p C dx : Addr} {fs' : List (Str × V)} : ∀ b u, b ≠ p → G b = some u → upd G p (.ins C dx fs') b = some u := fun b u hb h => by rw [upd_ne hb]; exact h
/-- the fields as __init__ puts them -/
def stFl (fo : Addr) (pa fu wa te : Addr) : List (Str × V) := putF "last_number" (.int 0) (putF "told" (.ref te) (putF "watches" (.ref wa) (putF "future" (.ref fu) (putF "past" (.ref pa) (putF "total" (.int 0) (putF "forests" (.ref fo) []))))))
theorem stFl_ok (fo pa fu wa te : Addr) : StF (stFl fo pa fu wa te) fo 0 pa fu wa te 0 := by
  have ln : ∀ {k : Str} {v : V} {fs : List (Str × V)} {n : Nat}, fs.length ≤ n → (putF k v fs).length ≤ n + 1 := fun h => Nat.le_trans (length_putF _ _ _) (Nat.succ_le_succ h)
  refine ⟨?_, ?_, ?_, ?_, ?_, ?_, ?_, fun m hm => ?_, ln (ln (ln (ln (ln (ln (ln (Nat.zero_le 0)))))))⟩
  · unfold stFl
    rw [lookup_putF, if_neg (by decide +kernel), lookup_putF, if_neg (by decide +kernel), lookup_putF, if_neg (by decide +kernel), lookup_putF, if_neg (by decide +kernel), lookup_putF, if_neg (by decide +kernel), lookup_putF, if_neg (by decide +kernel), lookup_putF, if_pos rfl]
  · unfold stFl
    rw [lookup_putF, if_neg (by decide +kernel), lookup_putF, if_neg (by decide +kernel), lookup_putF, if_neg (by decide +kernel), lookup_putF, if_neg (by decide +kernel), lookup_putF, if_neg (by decide +kernel), lookup_putF, if_pos rfl]
  · unfold stFl
    rw [lookup_putF, if_neg (by decide +kernel), lookup_putF, if_neg (by decide +kernel), lookup_putF, if_neg (by decide +kernel), lookup_putF, if_neg (by decide +kernel), lookup_putF, if_pos rfl]
  · unfold stFl
    rw [lookup_putF, if_neg (by decide +kernel), lookup_putF, if_neg (by decide +kernel), lookup_putF, if_neg (by decide +kernel), lookup_putF, if_pos rfl]
  · unfold stFl
    rw [lookup_putF, if_neg (by decide +kernel), lookup_putF, if_neg (by decide +kernel), lookup_putF, if_pos rfl]
  · unfold stFl
    rw [lookup_putF, if_neg (by decide +kernel), lookup_putF, if_pos rfl]
  · unfold stFl
    rw [lookup_putF, if_pos rfl]
  · unfold stFl
    exact look_no (look_no (look_no (look_no (look_no (look_no (look_no rfl (by decide +kernel) hm) (by decide +kernel) hm) (by decide +kernel) hm) (by decide +kernel) hm) (by decide +kernel) hm) (by decide +kernel) hm) (by decide +kernel) hm
theorem stN_no {K : PySem.W.Frag} {C : Addr} (h0 : NoAttr K C "forests") (h1 : NoAttr K C "total") (h2 : NoAttr K C "past") (h3 : NoAttr K C "future") (h4 : NoAttr K C "watches") (h5 : NoAttr K C "told") (h6 : NoAttr K C "last_number") : ∀ m ∈ stN, NoAttr K C m :=
  List.forall_mem_cons.mpr ⟨h0, List.forall_mem_cons.mpr ⟨h1, List.forall_mem_cons.mpr ⟨h2, List.forall_mem_cons.mpr ⟨h3, List.forall_mem_cons.mpr ⟨h4, List.forall_mem_cons.mpr ⟨h5, List.forall_mem_cons.mpr ⟨h6, fun m h => by cases h⟩⟩⟩⟩⟩⟩⟩
/-! what a store holds, as a whole -/
structure StS where
  M : Fs
  to : Int
  past : List (Fs × Int)
  fut : List (Fs × Int)
  wat : List (Int × Str × Int)
  told : List (Int × Option (Nat × Nat))
  last : Int
/-- the objects that a store changes -/
structure SAd where
  (pa fu wa te : Addr)
/-- the dicts of its steps -/
structure SDi where
  fo : Addr
  dp : List Addr
  df : List Addr
def SAd.all (p : Addr) (A : SAd) : List Addr := [p, A.pa, A.fu, A.wa, A.te]
def SDi.all (D : SDi) : List Addr := D.fo :: (D.dp ++ D.df)
inductive HsAt (K : PySem.W.Frag) (H : Hp) : List V → List Addr → List (Fs × Int) → Prop
  | nil : HsAt K H [] [] []
  | cons {t d : Addr} {to : Int} {M : Fs} {vs : List V} {ds : List Addr} {l : List (Fs × Int)} : H t = some (.tup [.ref d, .int to]) → FsAt K H d M → FsOk M → HsAt K H vs ds l → HsAt K H (.ref t :: vs) (d :: ds) ((M, to) :: l)
inductive WaAt (H : Hp) : List (Key × V) → List (Int × Str × Int) → Prop
  | nil : WaAt H [] []
  | cons {t : Addr} {n i : Int} {z : Str} {kvs : List (Key × V)} {ws : List (Int × Str × Int)} : H t = some (.tup [.str z, .int i]) → WaAt H kvs ws → WaAt H ((Sum.inl n, .ref t) :: kvs) ((n, z, i) :: ws)
def WvAt (H : Hp) (v : V) : Option (Nat × Nat) → Prop
  | none => v = .non
  | some (r, d) => ∃ t, v = .ref t ∧ H t = some (.tup [vi r, vi d])
inductive TeAt (H : Hp) : List (Key × V) → List (Int × Option (Nat × Nat)) → Prop
  | nil : TeAt H [] []
  | cons {n : Int} {v : V} {o : Option (Nat × Nat)} {kvs : List (Key × V)} {ts : List (Int × Option (Nat × Nat))} : WvAt H v o → TeAt H kvs ts → TeAt H ((Sum.inl n, v) :: kvs) ((n, o) :: ts)
structure StH (K : PySem.W.Frag) (H : Hp) (C p : Addr) (A : SAd) (D : SDi) (S : StS) : Prop where
  ob : ∃ dx fs, H p = some (.ins C dx fs) ∧ StF fs D.fo S.to A.pa A.fu A.wa A.te S.last
  fo : FsAt K H D.fo S.M
  ok : FsOk S.M
  pa : ∃ vs, H A.pa = some (.lst vs) ∧ HsAt K H vs D.dp S.past
  fu : ∃ vs, H A.fu = some (.lst vs) ∧ HsAt K H vs D.df S.fut
  wa : ∃ kvs, H A.wa = some (.dK kvs) ∧ WaAt H kvs S.wat
  te : ∃ kvs, H A.te = some (.dK kvs) ∧ TeAt H kvs S.told
  n1 : A.pa ≠ A.fu
  n2 : A.wa ≠ A.te
  nd : ∀ d ∈ D.all, d ≠ A.wa ∧ d ≠ A.te
/-- all but the objects of X as it was -/
def Kps (X : Addr → Prop) (H H' : Hp) : Prop := ∀ b o, ¬ X b → H b = some o → H' b = some o
theorem Kps.of {X : Addr → Prop} {H H' : Hp} (s : Same H H') : Kps X H H' := fun b o _ h => s b o h
theorem Kps.trans {X : Addr → Prop} {H H1 H2 : Hp} (a : Kps X H H1) (b : Kps X H1 H2) : Kps X H H2 := fun x o n h => b x o n (a x o n h)
theorem Kps.mono {X Y : Addr → Prop} {H H' : Hp} (a : Kps X H H') (h : ∀ b, X b → Y b) : Kps Y H H' := fun x o n => a x o fun z => n (h x z)
/-- no tuple is among them -/
def NoTup (X : Addr → Prop) (H : Hp) : Prop := ∀ b xs, X b → ¬ Rd H b (.tup xs)
theorem Kps.rd {X : Addr → Prop} {H H' : Hp} (k : Kps X H H') (n : NoTup X H) {b : Addr} {xs : List V} (h : Rd H b (.tup xs)) : Rd H' b (.tup xs) := by
  have hx : ¬ X b := fun z => n b xs z h
  rcases h with h | ⟨o, h⟩
  · exact .inl (k _ _ hx h)
  · exact .inr ⟨o, k _ _ hx h⟩
theorem Kps.sqt {K : PySem.W.Frag} {X : Addr → Prop} {H H' : Hp} (k : Kps X H H') (n : NoTup X H) {b : Addr} {xs : List V} (h : SqT K H b xs) : SqT K H' b xs := h.imp (fun z => k.rd n z) id
theorem Kps.tup {X : Addr → Prop} {H H' : Hp} (k : Kps X H H') (n : NoTup X H) {b : Addr} {xs : List V} (h : H b = some (.tup xs)) : H' b = some (.tup xs) := k _ _ (fun z => n b xs z (.inl h)) h
theorem KvAt.kps {K : PySem.W.Frag} {X : Addr → Prop} {H H' : Hp} (k : Kps X H H') (n : NoTup X H) : ∀ {kvs : List (Key × V)} {M : Fs}, KvAt K H kvs M → KvAt K H' kvs M
  | _, _, .nil => .nil
  | _, _, .cons h r => .cons (k.sqt n h) (r.kps k n)
theorem FsAt.kps {K : PySem.W.Frag} {X : Addr → Prop} {H H' : Hp} (k : Kps X H H') (n : NoTup X H) {d : Addr} {M : Fs} (hd : ¬ X d) (h : FsAt K H d M) : FsAt K H' d M := by
  obtain ⟨kvs, h1, h2⟩ := h
  exact ⟨kvs, k _ _ hd h1, h2.kps k n⟩
theorem HsAt.kps {K : PySem.W.Frag} {X : Addr → Prop} {H H' : Hp} (k : Kps X H H') (n : NoTup X H) : ∀ {vs : List V} {ds : List Addr} {l : List (Fs × Int)}, (∀ d ∈ ds, ¬ X d) → HsAt K H vs ds l → HsAt K H' vs ds l
  | _, _, _, _, .nil => .nil
  | _, _, _, hx, .cons h1 h2 h3 r => .cons (k.tup n h1) (h2.kps k n (hx _ List.mem_cons_self)) h3 (r.kps k n fun d hd => hx d (List.mem_cons_of_mem _ hd))
theorem WaAt.kps {X : Addr → Prop} {H H' : Hp} (k : Kps X H H') (n : NoTup X H) : ∀ {kvs : List (Key × V)} {ws : List (Int × Str × Int)}, WaAt H kvs ws → WaAt H' kvs ws
  | _, _, .nil => .nil
  | _, _, .cons h r => .cons (k.tup n h) (r.kps k n)
theorem WvAt.kps {X : Addr → Prop} {H H' : Hp} (k : Kps X H H') (n : NoTup X H) {v : V} : ∀ {o : Option (Nat × Nat)}, WvAt H v o → WvAt H' v o
  | none, h => h
  | some (r, d), ⟨t, e, h⟩ => ⟨t, e, k.tup n h⟩
theorem TeAt.kps {X : Addr → Prop} {H H' : Hp} (k : Kps X H H') (n : NoTup X H) : ∀ {kvs : List (Key × V)} {ts : List (Int × Option (Nat × Nat))}, TeAt H kvs ts → TeAt H' kvs ts
  | _, _, .nil => .nil
  | _, _, .cons h r => .cons (h.kps k n) (r.kps k n)
theorem no_tup {H : Hp} {b : Addr} {u : HO} {xs : List V} (h : H b = some u) (h1 : ∀ l, u ≠ .tup l) (h2 : ∀ o w, u ≠ .frz o w) : ¬ Rd H b (.tup xs) := by
  rintro (z | ⟨o, z⟩)
  · rw [h] at z; exact h1 _ (Option.some.inj z)
  · rw [h] at z; exact h2 _ _ (Option.some.inj z)
/-- a store whose objects are all left alone -/
theorem StH.kps {K : PySem.W.Frag} {X : Addr → Prop} {H H' : Hp} {C p : Addr} {A : SAd} {D : SDi} {S : StS} (h : StH K H C p A D S) (k : Kps X H H') (n : NoTup X H) (ha : ∀ a ∈ A.all p, ¬ X a) (hd : ∀ d ∈ D.all, ¬ X d) : StH K H' C p A D S := by
  obtain ⟨dx, fs, o1, o2⟩ := h.ob
  obtain ⟨vs, p1, p2⟩ := h.pa
  obtain ⟨us, u1, u2⟩ := h.fu
  obtain ⟨kw, w1, w2⟩ := h.wa
  obtain ⟨kt, t1, t2⟩ := h.te
  exact ⟨⟨dx, fs, k _ _ (ha _ (by simp [SAd.all])) o1, o2⟩, h.fo.kps k n (hd _ (by simp [SDi.all])), h.ok, ⟨vs, k _ _ (ha _ (by simp [SAd.all])) p1, p2.kps k n fun d hd' => hd d (by simp [SDi.all, hd'])⟩,
    ⟨us, k _ _ (ha _ (by simp [SAd.all])) u1, u2.kps k n fun d hd' => hd d (by simp [SDi.all, hd'])⟩, ⟨kw, k _ _ (ha _ (by simp [SAd.all])) w1, w2.kps k n⟩, ⟨kt, k _ _ (ha _ (by simp [SAd.all])) t1, t2.kps k n⟩, h.n1, h.n2, h.nd⟩
theorem StH.same {K : PySem.W.Frag} {H H' : Hp} {C p : Addr} {A : SAd} {D : SDi} {S : StS} (h : StH K H C p A D S) (s : Same H H') : StH K H' C p A D S :=
  h.kps (X := fun _ => False) (Kps.of s) (fun _ _ z => z.elim) (fun _ _ z => z) (fun _ _ z => z)
/-- a store's own objects are no tuples -/
theorem StH.noTup {K : PySem.W.Frag} {H : Hp} {C p : Addr} {A : SAd} {D : SDi} {S : StS} (h : StH K H C p A D S) : NoTup (fun b => b ∈ A.all p) H := by
  obtain ⟨dx, fs, o1, o2⟩ := h.ob
  obtain ⟨vs, p1, p2⟩ := h.pa
  obtain ⟨us, u1, u2⟩ := h.fu
  obtain ⟨kw, w1, w2⟩ := h.wa
  obtain ⟨kt, t1, t2⟩ := h.te
  intro b xs hb
  have hb' : b = p ∨ b = A.pa ∨ b = A.fu ∨ b = A.wa ∨ b = A.te := by simpa [SAd.all] using hb
  rcases hb' with rfl | rfl | rfl | rfl | rfl
  · exact no_tup o1 (by intro l z; cases z) (by intro o w z; cases z)
  · exact no_tup p1 (by intro l z; cases z) (by intro o w z; cases z)
  · exact no_tup u1 (by intro l z; cases z) (by intro o w z; cases z)
  · exact no_tup w1 (by intro l z; cases z) (by intro o w z; cases z)
  · exact no_tup t1 (by intro l z; cases z) (by intro o w z; cases z)
theorem HsAt.same {K : PySem.W.Frag} {H H' : Hp} (s : Same H H') {vs : List V} {ds : List Addr} {l : List (Fs × Int)} (h : HsAt K H vs ds l) : HsAt K H' vs ds l := h.kps (X := fun _ => False) (Kps.of s) (fun _ _ z => z.elim) fun _ _ z => z
theorem HsAt.app {K : PySem.W.Frag} {H : Hp} : ∀ {vs us : List V} {ds es : List Addr} {l m : List (Fs × Int)}, HsAt K H vs ds l → HsAt K H us es m → HsAt K H (vs ++ us) (ds ++ es) (l ++ m)
  | _, _, _, _, _, _, .nil, h => h
  | _, _, _, _, _, _, .cons h1 h2 h3 r, h => .cons h1 h2 h3 (r.app h)
theorem HsAt.len {K : PySem.W.Frag} {H : Hp} : ∀ {vs : List V} {ds : List Addr} {l : List (Fs × Int)}, HsAt K H vs ds l → vs.length = l.length
  | _, _, _, .nil => rfl
  | _, _, _, .cons h1 h2 h3 r => by rw [List.length_cons, List.length_cons, r.len]
section
variable {P : Program} {w : World} {K : PySem.W.Frag} {mg : Str → Option Value} {base : Heap} {C : Addr}
theorem ok_sI {f : Addr} {fd : FuncData} (F : Fun K "__init__" "Store.__init__" sSI f fd) (TC : StT K C) : FnOk P w K mg base CX0 1 f fd ["self"] (spSI C) := by
  refine F.ok scSI (fun vs H Q E h => ?_) (fun cdv A outer s H vs Q E hr h => ?_)
  · obtain ⟨p, dx, rfl, _⟩ := h
    rfl
  · obtain ⟨p, dx, rfl, hp, q⟩ := h
    refine ⟨_, (pss_cons (ps_fld (pv 0) pe_dnewK rfl)
      (pss_cons (ps_fld (pv 0) pe_int rfl)
      (pss_cons (ps_fld (pv 0) (pe_lst pa_nil) rfl)
      (pss_cons (ps_fld (pv 0) (pe_lst pa_nil) rfl)
      (pss_cons (ps_fld (pv 0) pe_dnewK rfl)
      (pss_cons (ps_fld (pv 0) pe_dnewK rfl)
      (pss_one (ps_fld (pv 0) pe_int rfl)))))))), ?_⟩
    have ln : ∀ {k : Str} {v : V} {fs : List (Str × V)} {n : Nat}, fs.length ≤ n → (putF k v fs).length ≤ n + 1 := fun h => Nat.le_trans (length_putF _ _ _) (Nat.succ_le_succ h)
    have lt : ∀ {fs : List (Str × V)} {n : Nat}, fs.length ≤ n → n < 1000 → fs.length < 1000 := fun h h2 => Nat.lt_of_le_of_lt h h2
    have no : ∀ {m : Str}, m ∈ stN → NoAttr K C m := fun h => TC.no _ h
    have l0 : ([] : List (Str × V)).length ≤ 0 := Nat.le_refl 0
    refine fun fo nfo => ⟨_, rfl, p, C, dx, _, rfl, by rw [upd_ne (ne_of_none hp nfo)]; exact hp, TC.cl, no (by decide +kernel), lt l0 (by decide), ?_⟩
    obtain ⟨p1, ffo, o1, mfo⟩ := new_put (o := (.dK [])) (fs' := (putF "forests" (.ref fo) [])) hp nfo
    generalize upd (upd H fo (.dK [])) p (.ins C dx (putF "forests" (.ref fo) [])) = G1 at p1 ffo o1 ⊢
    have l1 := ln (k := "forests") (v := .ref fo) l0
    refine ⟨_, rfl, p, C, dx, _, rfl, p1, TC.cl, no (by decide +kernel), lt l1 (by decide), ?_⟩
    have o2 := put_keep (G := G1) (p := p) (C := C) (dx := dx) (fs' := (putF "total" (.int 0) (putF "forests" (.ref fo) [])))
    have p2 : upd G1 p (.ins C dx (putF "total" (.int 0) (putF "forests" (.ref fo) []))) p = some (.ins C dx (putF "total" (.int 0) (putF "forests" (.ref fo) []))) := upd_same
    generalize upd G1 p (.ins C dx (putF "total" (.int 0) (putF "forests" (.ref fo) []))) = G2 at p2 o2 ⊢
    replace ffo := o2 _ _ mfo ffo
    have l2 := ln (k := "total") (v := .int 0) l1
    refine ⟨by show 0 ≤ sizeLine; decide, fun pa npa => ⟨_, rfl, p, C, dx, _, rfl, by rw [upd_ne (ne_of_none p2 npa)]; exact p2, TC.cl, no (by decide +kernel), lt l2 (by decide), ?_⟩⟩
    have dfopa := ne_of_none ffo npa
    obtain ⟨p3, fpa, o3, mpa⟩ := new_put (o := (.lst [])) (fs' := (putF "past" (.ref pa) (putF "total" (.int 0) (putF "forests" (.ref fo) [])))) p2 npa
    generalize upd (upd G2 pa (.lst [])) p (.ins C dx (putF "past" (.ref pa) (putF "total" (.int 0) (putF "forests" (.ref fo) [])))) = G3 at p3 fpa o3 ⊢
    replace ffo := o3 _ _ mfo ffo
    have l3 := ln (k := "past") (v := .ref pa) l2
    refine ⟨by show 0 ≤ sizeLine; decide, fun fu nfu => ⟨_, rfl, p, C, dx, _, rfl, by rw [upd_ne (ne_of_none p3 nfu)]; exact p3, TC.cl, no (by decide +kernel), lt l3 (by decide), ?_⟩⟩
    have dfofu := ne_of_none ffo nfu
    have dpafu := ne_of_none fpa nfu
    obtain ⟨p4, ffu, o4, mfu⟩ := new_put (o := (.lst [])) (fs' := (putF "future" (.ref fu) (putF "past" (.ref pa) (putF "total" (.int 0) (putF "forests" (.ref fo) []))))) p3 nfu
    generalize upd (upd G3 fu (.lst [])) p (.ins C dx (putF "future" (.ref fu) (putF "past" (.ref pa) (putF "total" (.int 0) (putF "forests" (.ref fo) []))))) = G4 at p4 ffu o4 ⊢
    replace ffo := o4 _ _ mfo ffo
    replace fpa := o4 _ _ mpa fpa
    have l4 := ln (k := "future") (v := .ref fu) l3
    refine fun wa nwa => ⟨_, rfl, p, C, dx, _, rfl, by rw [upd_ne (ne_of_none p4 nwa)]; exact p4, TC.cl, no (by decide +kernel), lt l4 (by decide), ?_⟩
    have dfowa := ne_of_none ffo nwa
    have dpawa := ne_of_none fpa nwa
    have dfuwa := ne_of_none ffu nwa
    obtain ⟨p5, fwa, o5, mwa⟩ := new_put (o := (.dK [])) (fs' := (putF "watches" (.ref wa) (putF "future" (.ref fu) (putF "past" (.ref pa) (putF "total" (.int 0) (putF "forests" (.ref fo) [])))))) p4 nwa
    generalize upd (upd G4 wa (.dK [])) p (.ins C dx (putF "watches" (.ref wa) (putF "future" (.ref fu) (putF "past" (.ref pa) (putF "total" (.int 0) (putF "forests" (.ref fo) [])))))) = G5 at p5 fwa o5 ⊢
    replace ffo := o5 _ _ mfo ffo
    replace fpa := o5 _ _ mpa fpa
    replace ffu := o5 _ _ mfu ffu
    have l5 := ln (k := "watches") (v := .ref wa) l4
    refine fun te nte => ⟨_, rfl, p, C, dx, _, rfl, by rw [upd_ne (ne_of_none p5 nte)]; exact p5, TC.cl, no (by decide +kernel), lt l5 (by decide), ?_⟩
    have dfote := ne_of_none ffo nte
    have dpate := ne_of_none fpa nte
    have dfute := ne_of_none ffu nte
    have dwate := ne_of_none fwa nte
    obtain ⟨p6, fte, o6, mte⟩ := new_put (o := (.dK [])) (fs' := (putF "told" (.ref te) (putF "watches" (.ref wa) (putF "future" (.ref fu) (putF "past" (.ref pa) (putF "total" (.int 0) (putF "forests" (.ref fo) []))))))) p5 nte
    generalize upd (upd G5 te (.dK [])) p (.ins C dx (putF "told" (.ref te) (putF "watches" (.ref wa) (putF "future" (.ref fu) (putF "past" (.ref pa) (putF "total" (.int 0) (putF "forests" (.ref fo) []))))))) = G6 at p6 fte o6 ⊢
    replace ffo := o6 _ _ mfo ffo
    replace fpa := o6 _ _ mpa fpa
    replace ffu := o6 _ _ mfu ffu
    replace fwa := o6 _ _ mwa fwa
    have l6 := ln (k := "told") (v := .ref te) l5
    refine ⟨_, rfl, p, C, dx, _, rfl, p6, TC.cl, no (by decide +kernel), lt l6 (by decide), ?_⟩
    have o7 := put_keep (G := G6) (p := p) (C := C) (dx := dx) (fs' := (putF "last_number" (.int 0) (putF "told" (.ref te) (putF "watches" (.ref wa) (putF "future" (.ref fu) (putF "past" (.ref pa) (putF "total" (.int 0) (putF "forests" (.ref fo) []))))))))
    have p7 : upd G6 p (.ins C dx (putF "last_number" (.int 0) (putF "told" (.ref te) (putF "watches" (.ref wa) (putF "future" (.ref fu) (putF "past" (.ref pa) (putF "total" (.int 0) (putF "forests" (.ref fo) [])))))))) p = some (.ins C dx (putF "last_number" (.int 0) (putF "told" (.ref te) (putF "watches" (.ref wa) (putF "future" (.ref fu) (putF "past" (.ref pa) (putF "total" (.int 0) (putF "forests" (.ref fo) [])))))))) := upd_same
    generalize upd G6 p (.ins C dx (putF "last_number" (.int 0) (putF "told" (.ref te) (putF "watches" (.ref wa) (putF "future" (.ref fu) (putF "past" (.ref pa) (putF "total" (.int 0) (putF "forests" (.ref fo) [])))))))) = G7 at p7 o7 ⊢
    replace ffo := o7 _ _ mfo ffo
    replace fpa := o7 _ _ mpa fpa
    replace ffu := o7 _ _ mfu ffu
    replace fwa := o7 _ _ mwa fwa
    replace fte := o7 _ _ mte fte
    have l7 := ln (k := "last_number") (v := .int 0) l6
    have c2 : ∀ b u, b ≠ p → H b = some u → G2 b = some u := fun b u hb h => o2 _ _ hb (o1 _ _ hb h)
    have c3 : ∀ b u, b ≠ p → H b = some u → G3 b = some u := fun b u hb h => o3 _ _ hb (c2 _ _ hb h)
    have c4 : ∀ b u, b ≠ p → H b = some u → G4 b = some u := fun b u hb h => o4 _ _ hb (c3 _ _ hb h)
    have c5 : ∀ b u, b ≠ p → H b = some u → G5 b = some u := fun b u hb h => o5 _ _ hb (c4 _ _ hb h)
    have c7 : ∀ b u, b ≠ p → H b = some u → G7 b = some u := fun b u hb h => o7 _ _ hb (o6 _ _ hb (c5 _ _ hb h))
    have fr : ∀ {G : Hp} {b : Addr}, (∀ b u, b ≠ p → H b = some u → G b = some u) → b ≠ p → G b = none → H b = none := fun {G b} c hb h => by
      cases e : H b with
      | none => rfl
      | some u => rw [c b u hb e] at h; cases h
    exact q fo pa fu wa te _ G7 nfo (fr c2 mpa npa) (fr c3 mfu nfu) (fr c4 mwa nwa) (fr c5 mte nte) dpafu dwate dfowa dfote p7 (stFl_ok fo pa fu wa te) ffo fpa ffu fwa fte fun b u hb hbp => c7 b u hbp hb
/-- a method at work -/
structure KMs (P : Program) (w : World) (K : PySem.W.Frag) (mg : Str → Option Value) (base : Heap) (C : Addr) (k : Nat) (x : Str) (ps : List Str) (sp : Sp) (f : Addr) (fd : FuncData) : Prop where
  ok : FnOk P w K mg base CX0 k f fd ps sp
  b : Binds K fd ps []
  mt : Meth K C x f
/-- a method that may raise -/
structure KMsX (P : Program) (w : World) (K : PySem.W.Frag) (mg : Str → Option Value) (base : Heap) (C : Addr) (k : Nat) (x : Str) (ps : List Str) (sp : Sp) (f : Addr) (fd : FuncData) : Prop where
  ok : FnOk P w K mg base (L2N.CX P w) k f fd ps sp
  b : Binds K fd ps []
  mt : Meth K C x f
end
end Ff

namespace Ff
open PySem PySem.Spec PyProof.Rows L2 ExX LamX
abbrev sAA : Stmt := inClass (topS 85) 5
abbrev aAN : List Str := ["self", "commands", "command", "forests", "costs", "cost"]
theorem scAA : FnScope aAN ["self", "commands"] (defScope sAA) := ⟨rfl, rfl, rfl, by decide +kernel, rfl, by decide +kernel, by decide +kernel⟩
inductive CmdsAt (K : PySem.W.Frag) (dL : Addr) (H : Hp) : List V → List Cmd → Prop
  | nil : CmdsAt K dL H [] []
  | cons {a : Addr} {cmd : Cmd} {vs : List V} {cs : List Cmd} : CmdAt K dL H a cmd → CmdsAt K dL H vs cs → CmdsAt K dL H (.ref a :: vs) (cmd :: cs)
theorem CmdsAt.same {K : PySem.W.Frag} {dL : Addr} {H H' : Hp} (s : Same H H') : ∀ {vs : List V} {cs : List Cmd}, CmdsAt K dL H vs cs → CmdsAt K dL H' vs cs
  | _, _, .nil => .nil
  | _, _, .cons h r => .cons (h.same s) (r.same s)
theorem CmdsAt.len {K : PySem.W.Frag} {dL : Addr} {H : Hp} : ∀ {vs : List V} {cs : List Cmd}, CmdsAt K dL H vs cs → vs.length = cs.length
  | _, _, .nil => rfl
  | _, _, .cons h r => by rw [List.length_cons, List.length_cons, r.len]
theorem CmdsAt.nth {K : PySem.W.Frag} {dL : Addr} {H : Hp} {i : Nat} {v : V} : ∀ {vs : List V} {cs : List Cmd}, CmdsAt K dL H vs cs → vs[i]? = some v → ∃ a cmd, v = .ref a ∧ cs[i]? = some cmd ∧ CmdAt K dL H a cmd := by
  intro vs cs h
  induction h generalizing i with
  | nil => intro e; simp at e
  | cons hc r ih =>
    intro e
    cases i with
    | zero =>
      rw [List.getElem?_cons_zero] at e
      exact ⟨_, _, (Option.some.inj e).symm, rfl, hc⟩
    | succ i =>
      rw [List.getElem?_cons_succ] at e
      exact ih e
/-- the first that is none -/
def firstMal : List Cmd → Option (Option Str)
  | [] => none
  | .mal w :: _ => some w
  | _ :: r => firstMal r
/-- one after another -/
def consA (k : Int) : Ans (Fs × List Int) → Ans (Fs × List Int)
  | .error e => .error e
  | .ok (M, ks) => .ok (M, k :: ks)
def thenA (a : Ans (Fs × Int)) (f : Fs → Ans (Fs × List Int)) : Ans (Fs × List Int) := match a with
  | .error e => .error e
  | .ok (M', k) => consA k (f M')
def doAll : Fs → List Cmd → Ans (Fs × List Int)
  | M, [] => .ok (M, [])
  | M, c :: r => thenA (doC M c) fun M' => doAll M' r
def snocA (a : Ans (Fs × List Int)) (c : Cmd) : Ans (Fs × List Int) := match a with
  | .error e => .error e
  | .ok (M', ks) => match doC M' c with
    | .error e => .error e
    | .ok (M2, k) => .ok (M2, ks ++ [k])
/-- a batch -/
def batch (S : StS) (cs : List Cmd) : Ans (StS × List Int) := match firstMal cs with
  | some w => .error (.badCmd w)
  | none => match doAll S.M cs with
    | .error e => .error e
    | .ok (M', ks) => .ok ({ S with M := M', to := S.to + ks.sum, past := S.past ++ [(S.M, S.to)], fut := [] }, ks)
theorem firstMal_none : ∀ {cs : List Cmd}, (∀ c ∈ cs, isMal c = false) → firstMal cs = none
  | [], _ => rfl
  | c :: r, h => by
    have h1 := h c List.mem_cons_self
    have h2 := firstMal_none fun x hx => h x (List.mem_cons_of_mem _ hx)
    cases c <;> first | exact h2 | cases h1
/-- a fault while the commands are checked -/
theorem firstMal_take {i : Nat} {c : Cmd} : ∀ {cs : List Cmd}, (∀ j x, j < i → cs[j]? = some x → isMal x = false) → cs[i]? = some c → ∀ w, c = .mal w → firstMal cs = some w := by
  induction i with
  | zero =>
    intro cs _ h w e
    cases cs with
    | nil => simp at h
    | cons x r =>
      rw [List.getElem?_cons_zero] at h
      cases h
      rw [e]
      rfl
  | succ i ih =>
    intro cs hb h w e
    cases cs with
    | nil => simp at h
    | cons x r =>
      rw [List.getElem?_cons_succ] at h
      have h1 := hb 0 x (by omega) rfl
      have h2 := ih (cs := r) (fun j y hj hy => hb (j + 1) y (by omega) (by rw [List.getElem?_cons_succ]; exact hy)) h w e
      cases x <;> first | exact h2 | cases h1
/-- commands one by one, from the front -/
theorem doAll_snoc {c : Cmd} : ∀ {cs : List Cmd} {M : Fs}, doAll M (cs ++ [c]) = snocA (doAll M cs) c
  | [], M => by
    show thenA (doC M c) (fun M' => .ok (M', [])) = snocA (.ok (M, [])) c
    unfold thenA snocA
    dsimp only
    cases doC M c with
    | error e => rfl
    | ok a => rfl
  | x :: r, M => by
    show thenA (doC M x) (fun M' => doAll M' (r ++ [c])) = snocA (thenA (doC M x) fun M' => doAll M' r) c
    cases doC M x with
    | error e => rfl
    | ok a =>
      obtain ⟨M1, k⟩ := a
      show consA k (doAll M1 (r ++ [c])) = snocA (consA k (doAll M1 r)) c
      rw [doAll_snoc (cs := r) (M := M1)]
      cases doAll M1 r with
      | error e => rfl
      | ok b =>
        obtain ⟨M2, ks⟩ := b
        show consA k (snocA (.ok (M2, ks)) c) = snocA (.ok (M2, k :: ks)) c
        unfold snocA
        dsimp only
        cases doC M2 c with
        | error e => rfl
        | ok d => rfl
/-- a fault on the way stays -/
theorem doAll_err {e : Flt} : ∀ {cs ds : List Cmd} {M : Fs}, doAll M cs = .error e → doAll M (cs ++ ds) = .error e
  | [], _, _, h => by cases h
  | x :: r, ds, M, h => by
    have h1 : thenA (doC M x) (fun M' => doAll M' r) = .error e := h
    show thenA (doC M x) (fun M' => doAll M' (r ++ ds)) = .error e
    cases hx : doC M x with
    | error e2 => rw [hx] at h1; exact h1
    | ok a =>
      obtain ⟨M1, k⟩ := a
      rw [hx] at h1
      have h2 : consA k (doAll M1 r) = .error e := h1
      show consA k (doAll M1 (r ++ ds)) = .error e
      cases hy : doAll M1 r with
      | error e2 =>
        rw [hy] at h2
        rw [doAll_err hy]
        exact h2
      | ok b => rw [hy] at h2; cases h2
theorem uni_fo {n : Nat} {p r : Nat → Nat} (F : Fo n p r) {u v : Nat} (hu : u < n) (hv : v < n) : ∃ r', Fo n (uniF n p u v) r' := by
  have hl : ∀ z ∈ [u, v], z < n := by simp [hu, hv]
  have F2 : Fo n (fndAll n [u, v] p) r := fndAll_fo F _ hl p F
  unfold uniF
  by_cases e : root p n u = root p n v
  · rw [if_pos e]; exact ⟨r, F2⟩
  · rw [if_neg e]
    exact ⟨_, lnk_fo F2 (root_lt F u hu) (root_lt F v hv) (behind_root F hl _ (root_lt F u hu) (root_fix F u hu)) (behind_root F hl _ (root_lt F v hv) (root_fix F v hv)) e⟩
theorem grow_fo {n k : Nat} {p r : Nat → Nat} (F : Fo n p r) : ∃ r', Fo (n + k) (growQ (n, p)) r' := by
  refine ⟨fun v => if v < n then r v else 0, ⟨fun x hx => ?_, fun x hx => ?_, fun x hx => ?_⟩⟩
  · show (if x < n then p x else x) < n + k
    by_cases h : x < n
    · rw [if_pos h]; have := F.lt x h; omega
    · rw [if_neg h]; exact hx
  · show (if x < n then p x else x) = x ∨ (if (if x < n then p x else x) < n then r (if x < n then p x else x) else 0) < (if x < n then r x else 0)
    by_cases h : x < n
    · rw [if_pos h]
      rcases F.up x h with e | e
      · exact .inl e
      · refine .inr ?_
        rw [if_pos (F.lt x h), if_pos h]
        exact e
    · rw [if_neg h]; exact .inl rfl
  · show (if x < n then r x else 0) < n + k
    by_cases h : x < n
    · rw [if_pos h]; have := F.rb x h; omega
    · rw [if_neg h]; omega
theorem withF_ok {M M' : Fs} {z : Str} {k : Fr → Ans (Fs × Int)} {n : Int} (h : withF M z k = .ok (M', n)) : ∃ f, look M z = some f ∧ k f = .ok (M', n) := by
  unfold withF at h
  cases e : look M z with
  | none => rw [e] at h; cases h
  | some f => rw [e] at h; exact ⟨f, rfl, h⟩
theorem orF_ok {o : Option Flt} {r : Ans (Fs × Int)} {M' : Fs} {n : Int} (h : orF o r = .ok (M', n)) : o = none ∧ r = .ok (M', n) := by
  cases o with
  | none => exact ⟨rfl, h⟩
  | some e => cases h
theorem nameF_ok {M : Fs} {z : Str} (h : nameF M z = none) : nameB z = true ∧ look M z = none ∧ M.length < 6 := by
  unfold nameF at h
  by_cases e : nameB z = true
  · rw [if_pos e] at h
    by_cases e2 : (look M z).isSome = true
    · rw [if_pos e2] at h; cases h
    · rw [if_neg e2] at h
      by_cases e3 : 6 ≤ M.length
      · rw [if_pos e3] at h; cases h
      · refine ⟨e, ?_, by omega⟩
        cases e4 : look M z with
        | none => rfl
        | some f => rw [e4] at e2; exact absurd rfl e2
  · rw [if_neg e] at h; cases h
theorem put_old {M : Fs} (h : FsOk M) {z : Str} {f g : Fr} (e : look M z = some g) (hf : FrOk f) : FsOk (putM M z f) := h.put hf fun x => by rw [e] at x; cases x
/-- what a command leaves is in order -/
theorem doC_ok {M M' : Fs} {k : Int} (hM : FsOk M) : ∀ {c : Cmd}, doC M c = .ok (M', k) → FsOk M'
  | .new z xs, h => by
    obtain ⟨h1, h2⟩ := orF_ok h
    obtain ⟨h3, h4⟩ := orF_ok h2
    cases h4
    obtain ⟨a, b, d⟩ := nameF_ok h1
    refine hM.put ?_ fun _ => ⟨a, d⟩
    have hv : verdict xs = .ok := by
      unfold verF at h3
      cases e : verdict xs with
      | ok => rfl
      | many => rw [e] at h3; cases h3
      | bad v => rw [e] at h3; cases h3
      | cyc v => rw [e] at h3; cases h3
    obtain ⟨v1, v2, v3⟩ := ver_ok.mp hv
    refine ⟨v1, _, fo_of (fun v hv => ?_) fun v hv => ?_⟩
    · have := v2 v hv
      unfold wideB at this
      have hw : decide (0 ≤ xs.getD v 0) = true ∧ decide (xs.getD v 0 < (xs.length : Int)) = true := by simpa using this
      have h5 := of_decide_eq_true hw.1
      have h6 := of_decide_eq_true hw.2
      show par xs v < xs.length
      unfold par
      omega
    · have := v3 v hv
      unfold ringB at this
      have h5 : decide (par xs (root (par xs) xs.length v) = root (par xs) xs.length v) = true := by simpa using this
      exact of_decide_eq_true h5
  | .drop z, h => by
    obtain ⟨f, _, h2⟩ := withF_ok h
    cases h2
    exact hM.drop z
  | .copy z y, h => by
    obtain ⟨f, h1, h2⟩ := withF_ok h
    obtain ⟨h3, h4⟩ := orF_ok h2
    cases h4
    obtain ⟨a, b, d⟩ := nameF_ok h3
    exact hM.put (hM.ofLook h1) fun _ => ⟨a, d⟩
  | .swap z y, h => by
    obtain ⟨f, h1, h2⟩ := withF_ok h
    obtain ⟨g, h3, h4⟩ := withF_ok h2
    cases h4
    have A := put_old hM h1 (hM.ofLook h3)
    refine A.put (hM.ofLook h1) fun x => ?_
    have hy : (look (putM M z g) y).isSome = true := by
      rw [look_isSome]
      have hm := look_isSome.mp (show (look M y).isSome = true by rw [h3]; rfl)
      unfold putM
      rw [h1, if_pos (by rfl), List.map_map]
      obtain ⟨m, hm1, hm2⟩ := List.mem_map.mp hm
      refine List.mem_map.mpr ⟨m, hm1, ?_⟩
      show (if m.1 = z then (m.1, g) else m).1 = y
      by_cases e : m.1 = z
      · rw [if_pos e]; exact hm2
      · rw [if_neg e]; exact hm2
    rw [x] at hy
    cases hy
  | .find z i, h => by
    obtain ⟨f, h1, h2⟩ := withF_ok h
    obtain ⟨hn, r, hF⟩ := hM.ofLook h1
    by_cases e : 0 ≤ i ∧ i < (f.1 : Int)
    · rw [if_pos e] at h2
      cases h2
      exact put_old hM h1 ⟨hn, r, fnd_fo hF (by omega)⟩
    · rw [if_neg e] at h2; cases h2
  | .link z i j, h => by
    obtain ⟨f, h1, h2⟩ := withF_ok h
    obtain ⟨hn, r, hF⟩ := hM.ofLook h1
    cases e : linkR f.1 f.2 i j with
    | er e2 => rw [e] at h2; cases h2
    | ok q =>
      rw [e] at h2
      cases h2
      refine put_old hM h1 ⟨hn, ?_⟩
      exact stepR_fo (.lnk i j) hF (c := 0) (by unfold stepR; rw [e])
  | .unite z i j, h => by
    obtain ⟨f, h1, h2⟩ := withF_ok h
    obtain ⟨hn, r, hF⟩ := hM.ofLook h1
    by_cases e : 0 ≤ i ∧ i < (f.1 : Int)
    · rw [if_pos e] at h2
      by_cases e2 : 0 ≤ j ∧ j < (f.1 : Int)
      · rw [if_pos e2] at h2
        cases h2
        exact put_old hM h1 ⟨hn, uni_fo hF (by omega) (by omega)⟩
      · rw [if_neg e2] at h2; cases h2
    · rw [if_neg e] at h2; cases h2
  | .run z ss, h => by
    obtain ⟨f, h1, h2⟩ := withF_ok h
    obtain ⟨hn, r, hF⟩ := hM.ofLook h1
    cases e : stepsR f.1 ss f.2 with
    | er e2 => rw [e] at h2; cases h2
    | ok q =>
      obtain ⟨q, c⟩ := q
      rw [e] at h2
      cases h2
      exact put_old hM h1 ⟨hn, stepsR_fo ss hF e⟩
  | .runB z, h => by
    obtain ⟨f, h1, h2⟩ := withF_ok h
    cases h2
  | .flatten z, h => by
    obtain ⟨f, h1, h2⟩ := withF_ok h
    obtain ⟨hn, r, hF⟩ := hM.ofLook h1
    cases h2
    exact put_old hM h1 ⟨hn, r, flat_fo hF⟩
  | .grow z i, h => by
    obtain ⟨f, h1, h2⟩ := withF_ok h
    obtain ⟨hn, r, hF⟩ := hM.ofLook h1
    by_cases e : i < 0
    · rw [if_pos e] at h2; cases h2
    · rw [if_neg e] at h2
      by_cases e2 : 40 < (f.1 : Int) + i
      · rw [if_pos e2] at h2; cases h2
      · rw [if_neg e2] at h2
        cases h2
        refine put_old hM h1 ⟨by show f.1 + i.toNat ≤ 40; omega, ?_⟩
        exact grow_fo hF
  | .mal w, h => by cases h
theorem doAll_ok : ∀ {cs : List Cmd} {M M' : Fs} {ks : List Int}, FsOk M → doAll M cs = .ok (M', ks) → FsOk M'
  | [], _, _, _, hM, h => by cases h; exact hM
  | c :: r, M, M', ks, hM, h => by
    have h1 : thenA (doC M c) (fun M' => doAll M' r) = .ok (M', ks) := h
    cases hx : doC M c with
    | error e2 => rw [hx] at h1; cases h1
    | ok a =>
      obtain ⟨M1, k⟩ := a
      rw [hx] at h1
      have h2 : consA k (doAll M1 r) = .ok (M', ks) := h1
      cases hy : doAll M1 r with
      | error e2 => rw [hy] at h2; cases h2
      | ok b =>
        obtain ⟨M2, ks2⟩ := b
        rw [hy] at h2
        cases h2
        exact doAll_ok (doC_ok hM hx) hy
theorem doAll_len : ∀ {cs : List Cmd} {M M' : Fs} {ks : List Int}, doAll M cs = .ok (M', ks) → ks.length = cs.length
  | [], _, _, _, h => by cases h; rfl
  | c :: r, M, M', ks, h => by
    have h1 : thenA (doC M c) (fun M' => doAll M' r) = .ok (M', ks) := h
    cases hx : doC M c with
    | error e2 => rw [hx] at h1; cases h1
    | ok a =>
      obtain ⟨M1, k⟩ := a
      rw [hx] at h1
      have h2 : consA k (doAll M1 r) = .ok (M', ks) := h1
      cases hy : doAll M1 r with
      | error e2 => rw [hy] at h2; cases h2
      | ok b =>
        obtain ⟨M2, ks2⟩ := b
        rw [hy] at h2
        cases h2
        rw [List.length_cons, List.length_cons, doAll_len hy]
/-- a batch applied: a fault that leaves all as it was, or a step -/
def AppO (K : PySem.W.Frag) (C p : Addr) (A : SAd) (D : SDi) (c : CEr) (H : Hp) (E : XK) (Qd : List Int → Hp → Prop) (some_ : Bool) : Ans (StS × List Int) → Prop
  | .error e => Fl c H E e
  | .ok (S', ks) => ∀ (fu' d' : Addr) (H1 H' : Hp), Same H H1 → Kps (fun b => b ∈ A.all p) H1 H' → H fu' = none → (if some_ = true then H d' = none else d' = D.fo) → StH K H' C p { A with fu := fu' } ⟨d', D.dp ++ [D.fo], []⟩ S' → Qd ks H'
theorem AppO.same {K : PySem.W.Frag} {C p : Addr} {A : SAd} {D : SDi} {c : CEr} {H H0 : Hp} {E : XK} {Qd : List Int → Hp → Prop} {b : Bool} (s : Same H H0) : ∀ {r : Ans (StS × List Int)}, AppO K C p A D c H E Qd b r → AppO K C p A D c H0 E Qd b r
  | .error e, h => Fl.same h s
  | .ok (S', ks), h => fun fu' d' H1 H' s1 k nf nd hs => h fu' d' H1 H' (s.trans s1) k (sm_none s nf) (by cases b with
    | true => exact sm_none s (by simpa using nd)
    | false => simpa using nd) hs
def spAppB (P : Program) (w : World) (K : PySem.W.Frag) (mg : Str → Option Value) (base : Heap) (C dL dA : Addr) (c : CEr) : Sp := fun vs H Q E => ∃ (p l : Addr) (kd : Bool) (A : SAd) (D : SDi) (S : StS) (us : List V) (cs : List Cmd), vs = [.ref p, .ref l] ∧ StH K H C p A D S ∧ Kd kd K H l us ∧ CmdsAt K dL H us cs ∧
  (∀ x ∈ cs, CmdOk x ∧ (isMal x = false → ActOk P w K mg base dA c x)) ∧ cs.length ≤ 1000 ∧ S.past.length ≤ 100000 ∧
  AppO K C p A D c H E (fun ks H' => ∀ cl, H cl = none → cl ∉ A.all p → H' cl = some (.lst (ks.map V.int)) → Q (.ref cl) H') (!cs.isEmpty) (batch S cs)
theorem HsAt.dict {K : PySem.W.Frag} {H : Hp} : ∀ {vs : List V} {ds : List Addr} {l : List (Fs × Int)}, HsAt K H vs ds l → ∀ d ∈ ds, ∃ kv, H d = some (.dK kv)
  | _, _, _, .nil, d, hd => nomatch hd
  | _, _, _, .cons h1 h2 h3 r, d, hd => by
    rcases List.mem_cons.mp hd with rfl | hd
    · obtain ⟨kv, k1, _⟩ := h2
      exact ⟨kv, k1⟩
    · exact r.dict d hd
section
variable {P : Program} {w : World} {K : PySem.W.Frag} {mg : Str → Option Value} {base : Heap} {c : CEr} {C : Addr}
theorem okB_aA {f fC fD dL dA : Addr} {fd fdC fdD : FuncData} (F : Fun K "apply_all" "Store.apply_all" sAA f fd) (TC : StT K C) (kC : KnX P w K mg base 4 "check_command" ["command"] (spChkCB K dL c) fC fdC) (kD : KnX P w K mg base 19 "do_command" ["forests", "command"] (spDoCmdB P w K mg base dL dA c) fD fdD) (z_sum : mg "sum" = none) :
    FnOk P w K mg base (L2N.CX P w) 20 f fd ["self", "commands"] (spAppB P w K mg base C dL dA c) := by
  refine okN F scAA (fun vs H Q E h => ?_) (fun cdv A0 outer s H vs Q E hr h tk => ?_)
  · obtain ⟨p, l, kd, A, D, S, us, cs, rfl, _⟩ := h
    rfl
  · obtain ⟨p, l, kd0, A, D, S, us, cs, rfl, hSt, hl, hcs, hok, hcl, hpl, q⟩ := h
    have hrm : ∀ {j : Nat}, j ≤ 19 → Room j (A0.deeper (envOfC "Store.apply_all" (defScope sAA) s.heap.objs.size f cdv)) := fun h => hr.mono h
    refine ⟨_, (pss_cons (ps_for PassesOwn.leaving rfl (pi_kd kd0 (pv 1)) (pg_name (i := 2) scAA.nd rfl (.inl rfl))
        (pss_one (ps_expr (pe_call kC.G (hrm (by decide)) (by rfl) kC.g kC.kp kC.b .nil (lookNE tk) (pa_cons (pv 2) pa_nil)))))
      (pss_cons (ps_set (i := 3) scAA.nd rfl (.inl rfl) (pe_fld (pv 0) rfl))
      (pss_cons (ps_set (i := 4) scAA.nd rfl (.inl rfl) (pe_lst pa_nil))
      (pss_cons (ps_for PassesOwn.leaving rfl (pi_kd kd0 (pv 1)) (pg_name (i := 2) scAA.nd rfl (.inl rfl))
        (pss_cons (ps_asg (pe_call kD.G (hrm (by decide)) (by rfl) kD.g kD.kp kD.b .nil (lookNE tk) (pa_cons (pv 3) (pa_cons (pv 2) pa_nil))) (pg_tup rfl (pgs_cons (pg_name (i := 3) scAA.nd rfl (.inl rfl)) (pgs_cons (pg_name (i := 5) scAA.nd rfl (.inl rfl)) pgs_nil))))
        (pss_one (ps_expr (pe_bm PySem.F.plainAttrs_list PySem.F.slot_list_append PySem.F.type_list_append mt_append (pv 4) (pa_cons (pv 5) pa_nil))))))
      (pss_cons (ps_expr (pe_bm PySem.F.plainAttrs_list PySem.F.slot_list_append PySem.F.type_list_append mt_append (pe_fld (pv 0) rfl) (pa_cons (pe_tup (pa_cons (pe_fld (pv 0) rfl) (pa_cons (pe_fld (pv 0) rfl) pa_nil))) pa_nil)))
      (pss_cons (ps_fld (pv 0) (pe_lst pa_nil) rfl)
      (pss_cons (ps_fld (pv 0) (pv 3) rfl)
      (pss_cons (ps_fldaug (pv 0) (pe_callB (cr_sum rfl) (by rfl) z_sum (by decide +kernel) (pa_cons (pv 4) pa_nil)) in_add)
      (pss_one (ps_ret (pv 4))))))))))), ?_⟩
    have hul := hcs.len
    refine for_kd (xs := us) rfl hl (fun i σ H' => (∃ y2, σ = [some (.ref p), some (.ref l), y2, none, none, none]) ∧ H' = H ∧ ∀ j x, j < i → cs[j]? = some x → isMal x = false) ⟨⟨_, rfl⟩, rfl, fun j x hj => by omega⟩ (fun i σ H' _ h => by rw [h.2.1]; exact hl) ?_ ?_
    · rintro i x σ H' hx ⟨⟨y2, rfl⟩, rfl, hb⟩
      obtain ⟨a, cmd, rfl, hcm, hca⟩ := hcs.nth hx
      refine ⟨_, rfl, a, cmd, rfl, hca, (hok cmd (List.mem_of_getElem? hcm)).1, ?_⟩
      cases hm : isMal cmd with
      | false =>
        rw [if_neg (by intro z; cases z)]
        refine ⟨⟨_, rfl⟩, rfl, fun j x hj hx2 => ?_⟩
        by_cases e : j = i
        · subst e
          rw [hcm] at hx2
          cases hx2
          exact hm
        · exact hb j x (by omega) hx2
      | true =>
        rw [if_pos rfl]
        cases cmd with
        | mal w0 =>
          refine ⟨w0, rfl, ?_⟩
          unfold batch at q
          rw [firstMal_take hb hcm w0 rfl] at q
          exact q
        | _ => cases hm
    rintro σ H' ⟨⟨y2, rfl⟩, rfl, hb⟩
    rw [hul] at hb
    have hnm : ∀ x ∈ cs, isMal x = false := fun x hx => by
      obtain ⟨j, hj, e⟩ := List.mem_iff_getElem.mp hx
      exact hb j x hj (by rw [List.getElem?_eq_getElem hj, e])
    unfold batch at q
    rw [firstMal_none hnm] at q
    dsimp only at q
    obtain ⟨dx, fs, hp, hF⟩ := hSt.ob
    refine ⟨_, rfl, p, C, dx, _, _, rfl, hp, TC.cl, TC.no _ (by decide +kernel), hF.f, ?_⟩
    refine ⟨by show 0 ≤ sizeLine; decide, fun cl ncl => ?_⟩
    have s1 := same_new (o := .lst ([] : List V)) ncl
    have hcl1 : upd H' cl (.lst []) cl = some (.lst []) := upd_same
    generalize upd H' cl (.lst []) = H1 at s1 hcl1 ⊢
    refine for_kd (xs := us) rfl (hl.same s1) (fun i σ H2 => ∃ y2 y5 d M ks, σ = [some (.ref p), some (.ref l), y2, some (.ref d), some (.ref cl), y5] ∧ doAll S.M (cs.take i) = .ok (M, ks) ∧ FsAt K H2 d M ∧ H2 cl = some (.lst (ks.map V.int)) ∧ Same H' H2 ∧ (if i = 0 then d = D.fo else H' d = none))
      ⟨_, _, D.fo, S.M, [], rfl, rfl, hSt.fo.same s1, hcl1, s1, if_pos rfl ▸ rfl⟩ (fun i σ H2 _ h => by obtain ⟨_, _, _, _, _, _, _, _, _, s2, _⟩ := h; exact hl.same s2) ?_ ?_
    · rintro i x σ H2 hx ⟨y2, y5, d, M, ks, rfl, hdo, hd, hcl2, s2, hz⟩
      obtain ⟨a, cmd, rfl, hcm, hca⟩ := hcs.nth hx
      have hmem := List.mem_of_getElem? hcm
      have hsn : doAll S.M (cs.take (i + 1)) = snocA (.ok (M, ks)) cmd := by rw [List.take_add_one, hcm]; show doAll S.M (cs.take i ++ [cmd]) = _; rw [doAll_snoc, hdo]
      have hlt : i < cs.length := (List.getElem?_eq_some_iff.mp hcm).1
      refine ⟨_, rfl, _, rfl, d, a, M, cmd, rfl, hd, doAll_ok hSt.ok hdo, hca.same s2, (hok cmd hmem).1, hnm cmd hmem, (hok cmd hmem).2 (hnm cmd hmem), ?_⟩
      cases e : doC M cmd with
      | error er =>
        have h2 : doAll S.M (cs.take (i + 1)) = .error er := by rw [hsn]; unfold snocA; dsimp only; rw [e]
        have h3 : doAll S.M cs = .error er := by
          have := doAll_err (ds := cs.drop (i + 1)) h2
          rw [List.take_append_drop] at this
          exact this
        rw [h3] at q
        exact Fl.same q s2
      | ok r =>
        obtain ⟨M', k⟩ := r
        intro t d' H3 nt nd ht hd' s3
        have s23 := s2.trans s3
        refine ⟨t, _, rfl, SqT.of ht, rfl, _, _, rfl, _, _, rfl, rfl, ?_⟩
        have hks := doAll_len hdo
        rw [List.length_take] at hks
        refine ⟨_, rfl, .inl ⟨rfl, _, SqL.of (s3 _ _ hcl2)⟩, _, rfl, cl, _, _, rfl, rfl, s3 _ _ hcl2, ?_, _, _, d', M', ks ++ [k], rfl, ?_, ?_, ?_, same_over s23 ncl, ?_⟩
        · rw [List.length_map]
          exact Nat.lt_of_le_of_lt (show ks.length ≤ 1000 by omega) (by decide)
        · rw [hsn]; unfold snocA; dsimp only; rw [e]
        · obtain ⟨kv, k1, k2⟩ := hd'
          exact FsAt.kps (X := fun b => b = cl) (fun b o nb h => by rw [upd_ne nb]; exact h) (fun b xs hb => by rw [hb]; exact no_tup (s3 _ _ hcl2) (by intro l z; cases z) (by intro o w z; cases z)) (fun z => by rw [z, s3 _ _ hcl2] at k1; cases k1) ⟨kv, k1, k2⟩
        · rw [upd_same, List.map_append]
          rfl
        · rw [if_neg (by omega)]
          exact sm_none s2 nd
    rintro σ H2 ⟨y2, y5, d, M, ks, rfl, hdo, hd, hcl2, s2, hz⟩
    rw [hul, List.take_length] at hdo
    rw [hdo] at q
    have hz' : if (!cs.isEmpty) = true then H' d = none else d = D.fo := by
      cases cs with
      | nil => rw [hul] at hz; simpa using hz
      | cons x r => rw [hul, List.length_cons, if_neg (by omega)] at hz; simpa using hz
    obtain ⟨vs, hpa, hpH⟩ := hSt.pa
    have hpl2 := hpH.len
    have hp4 := s2 _ _ hp
    have hpa4 := s2 _ _ hpa
    have n_pa_p : A.pa ≠ p := ne_of hpa4 hp4 (by intro z; cases z)
    have n_cl_p : cl ≠ p := fun e => by rw [e, hp] at ncl; cases ncl
    have n_cl_pa : cl ≠ A.pa := fun e => by rw [e, hpa] at ncl; cases ncl
    refine ⟨_, rfl, p, C, dx, _, _, rfl, hp4, TC.cl, TC.no _ (by decide +kernel), hF.p, .inl ⟨rfl, _, SqL.of hpa4⟩, _, rfl, p, C, dx, _, _, rfl, hp4, TC.cl, TC.no _ (by decide +kernel), hF.f, _, rfl, p, C, dx, _, _, rfl, hp4, TC.cl, TC.no _ (by decide +kernel), hF.t, two_szS, fun t' nt' => ?_⟩
    have s5 := same_new (o := .tup [V.ref D.fo, V.int S.to]) nt'
    have ht5 : upd H2 t' (.tup [V.ref D.fo, V.int S.to]) t' = some (.tup [V.ref D.fo, V.int S.to]) := upd_same
    have n_t_p : t' ≠ p := fun e => by rw [e, hp4] at nt'; cases nt'
    have n_t_pa : t' ≠ A.pa := fun e => by rw [e, hpa4] at nt'; cases nt'
    generalize upd H2 t' (.tup [V.ref D.fo, V.int S.to]) = H5 at s5 ht5 ⊢
    refine ⟨A.pa, vs, .ref t', rfl, rfl, s5 _ _ hpa4, Nat.lt_of_le_of_lt (show vs.length ≤ 100000 by omega) (by decide), ?_⟩
    have h6 : ∀ b, b ≠ A.pa → upd H5 A.pa (.lst (vs ++ [V.ref t'])) b = H5 b := fun b hb => upd_ne hb
    have hpa6 : upd H5 A.pa (.lst (vs ++ [V.ref t'])) A.pa = some (.lst (vs ++ [V.ref t'])) := upd_same
    generalize upd H5 A.pa (.lst (vs ++ [V.ref t'])) = H6 at h6 hpa6 ⊢
    have hp6 : H6 p = some (.ins C dx fs) := by rw [h6 p (Ne.symm n_pa_p)]; exact s5 _ _ hp4
    refine ⟨by show 0 ≤ sizeLine; decide, fun u2 nu2 => ?_⟩
    have n_p_u : p ≠ u2 := ne_of_none hp6 nu2
    have l1 : ∀ {gs : List (Str × V)}, gs.length ≤ 7 → gs.length < 1000 := fun h => by omega
    refine ⟨_, rfl, p, C, dx, _, rfl, by rw [upd_ne n_p_u]; exact hp6, TC.cl, TC.no _ (by decide +kernel), l1 hF.len, ?_⟩
    have hF1 := hF.putU u2
    refine ⟨_, rfl, _, rfl, p, C, dx, _, rfl, upd_same, TC.cl, TC.no _ (by decide +kernel), l1 hF1.len, ?_⟩
    have hF2 := hF1.putF' d
    have hF3 := hF2.putT (S.to + ks.sum)
    have h7 : ∀ b, b ≠ p → b ≠ u2 → upd (upd (upd H6 u2 (.lst [])) p (.ins C dx (putF "future" (.ref u2) fs))) p (.ins C dx (putF "forests" (.ref d) (putF "future" (.ref u2) fs))) b = H6 b := fun b h1 h2 => by rw [upd_ne h1, upd_ne h1, upd_ne h2]
    have hu7 : upd (upd (upd H6 u2 (.lst [])) p (.ins C dx (putF "future" (.ref u2) fs))) p (.ins C dx (putF "forests" (.ref d) (putF "future" (.ref u2) fs))) u2 = some (.lst []) := by rw [upd_ne (Ne.symm n_p_u), upd_ne (Ne.symm n_p_u), upd_same]
    have hp7 : upd (upd (upd H6 u2 (.lst [])) p (.ins C dx (putF "future" (.ref u2) fs))) p (.ins C dx (putF "forests" (.ref d) (putF "future" (.ref u2) fs))) p = some (.ins C dx (putF "forests" (.ref d) (putF "future" (.ref u2) fs))) := upd_same
    generalize upd (upd (upd H6 u2 (.lst [])) p (.ins C dx (putF "future" (.ref u2) fs))) p (.ins C dx (putF "forests" (.ref d) (putF "future" (.ref u2) fs))) = H7 at h7 hu7 hp7 ⊢
    have n_u_none : ∀ {b o}, H6 b = some o → b ≠ u2 := fun h e => by rw [e, nu2] at h; cases h
    have hcl6 : H6 cl = some (.lst (ks.map V.int)) := by rw [h6 cl n_cl_pa]; exact s5 _ _ hcl2
    have hcl7 : H7 cl = some (.lst (ks.map V.int)) := by rw [h7 cl n_cl_p (n_u_none hcl6)]; exact hcl6
    have ht6 : H6 t' = some (.tup [V.ref D.fo, V.int S.to]) := by rw [h6 t' n_t_pa]; exact ht5
    refine ⟨_, rfl, p, C, dx, _, _, rfl, hp7, TC.cl, TC.no _ (by decide +kernel), hF2.t, _, rfl, cl, ks, rfl, SqL.of hcl7, S.to, ks.sum, rfl, rfl, dx, _, hp7, l1 hF2.len, ?_⟩
    have hk : ∀ b o, b ≠ p → b ≠ A.pa → H2 b = some o → upd H7 p (.ins C dx (putF "total" (.int (S.to + ks.sum)) (putF "forests" (.ref d) (putF "future" (.ref u2) fs)))) b = some o := fun b o h1 h2 hb => by
      have h8 : H6 b = some o := by rw [h6 b h2]; exact s5 _ _ hb
      rw [upd_ne h1, h7 b h1 (n_u_none h8)]
      exact h8
    have hnu2 : H2 u2 = none := by
      cases e : H2 u2 with
      | none => rfl
      | some o =>
        have e4 := s5 _ _ e
        by_cases z : u2 = A.pa
        · rw [z, hpa6] at nu2; cases nu2
        · rw [h6 u2 z, e4] at nu2; cases nu2
    have hKx : Kps (fun b => b = p ∨ b = A.pa) H2 (upd H7 p (.ins C dx (putF "total" (.int (S.to + ks.sum)) (putF "forests" (.ref d) (putF "future" (.ref u2) fs))))) := fun b o nb hb => hk b o (fun e => nb (.inl e)) (fun e => nb (.inr e)) hb
    have hpaf : upd H7 p (.ins C dx (putF "total" (.int (S.to + ks.sum)) (putF "forests" (.ref d) (putF "future" (.ref u2) fs)))) A.pa = some (.lst (vs ++ [V.ref t'])) := by rw [upd_ne n_pa_p, h7 A.pa n_pa_p (n_u_none hpa6)]; exact hpa6
    have htf : upd H7 p (.ins C dx (putF "total" (.int (S.to + ks.sum)) (putF "forests" (.ref d) (putF "future" (.ref u2) fs)))) t' = some (.tup [V.ref D.fo, V.int S.to]) := by rw [upd_ne n_t_p, h7 t' n_t_p (n_u_none ht6)]; exact ht6
    have huf : upd H7 p (.ins C dx (putF "total" (.int (S.to + ks.sum)) (putF "forests" (.ref d) (putF "future" (.ref u2) fs)))) u2 = some (.lst []) := by rw [upd_ne (Ne.symm n_p_u)]; exact hu7
    have hclf : upd H7 p (.ins C dx (putF "total" (.int (S.to + ks.sum)) (putF "forests" (.ref d) (putF "future" (.ref u2) fs)))) cl = some (.lst (ks.map V.int)) := by rw [upd_ne n_cl_p]; exact hcl7
    have hpf : upd H7 p (.ins C dx (putF "total" (.int (S.to + ks.sum)) (putF "forests" (.ref d) (putF "future" (.ref u2) fs)))) p = some (.ins C dx (putF "total" (.int (S.to + ks.sum)) (putF "forests" (.ref d) (putF "future" (.ref u2) fs)))) := upd_same
    generalize upd H7 p (.ins C dx (putF "total" (.int (S.to + ks.sum)) (putF "forests" (.ref d) (putF "future" (.ref u2) fs)))) = Hf at hk hKx hpaf htf huf hclf hpf ⊢
    refine ⟨_, rfl, ?_⟩
    have hNx : NoTup (fun b => b = p ∨ b = A.pa) H2 := fun b xs hb => by
      rcases hb with rfl | rfl
      · exact no_tup hp4 (by intro l z; cases z) (by intro o w z; cases z)
      · exact no_tup hpa4 (by intro l z; cases z) (by intro o w z; cases z)
    have dKx : ∀ {x : Addr} {kv : List (Key × V)}, H2 x = some (.dK kv) → ¬ (x = p ∨ x = A.pa) := fun hx z => by
      rcases z with rfl | rfl
      · rw [hp4] at hx; cases hx
      · rw [hpa4] at hx; cases hx
    have fsK : ∀ {x : Addr} {M0 : Fs}, FsAt K H2 x M0 → FsAt K Hf x M0 := fun h => by
      obtain ⟨kv, k1, k2⟩ := id h
      exact h.kps hKx hNx (dKx k1)
    obtain ⟨kw, w1, w2⟩ := hSt.wa
    obtain ⟨kt, e1, e2⟩ := hSt.te
    refine q u2 d H2 Hf s2 (fun b o nb hb => hk b o (fun e => nb (by rw [e]; simp [SAd.all])) (fun e => nb (by rw [e]; simp [SAd.all])) hb) (sm_none s2 hnu2) hz' ⟨⟨dx, _, hpf, hF3⟩, fsK hd, doAll_ok hSt.ok hdo, ⟨_, hpaf, ?_⟩, ⟨[], huf, .nil⟩, ⟨kw, hk _ _ (ne_of (s2 _ _ w1) hp4 (by intro z; cases z)) (ne_of (s2 _ _ w1) hpa4 (by intro z; cases z)) (s2 _ _ w1), (w2.kps (X := fun _ => False) (Kps.of s2) (fun _ _ z => z.elim)).kps hKx hNx⟩,
      ⟨kt, hk _ _ (ne_of (s2 _ _ e1) hp4 (by intro z; cases z)) (ne_of (s2 _ _ e1) hpa4 (by intro z; cases z)) (s2 _ _ e1), (e2.kps (X := fun _ => False) (Kps.of s2) (fun _ _ z => z.elim)).kps hKx hNx⟩, ?_, hSt.n2, ?_⟩ cl ncl ?_ hclf
    · refine ((hpH.same s2).kps hKx hNx fun x hx => ?_).app (.cons htf (fsK (hSt.fo.same s2)) hSt.ok .nil)
      obtain ⟨kv, hkv⟩ := hpH.dict x hx
      exact dKx (s2 _ _ hkv)
    · exact fun z => by rw [← show A.pa = u2 from z, hpa4] at hnu2; cases hnu2
    · intro d' hd'
      have hd2 : d' = d ∨ d' ∈ D.all := by
        have h3 : d' = d ∨ (d' ∈ D.dp ∨ d' = D.fo) := by simpa [SDi.all] using hd'
        rcases h3 with h | h | h
        · exact .inl h
        · exact .inr (by simp [SDi.all, h])
        · exact .inr (by simp [SDi.all, h])
      rcases hd2 with rfl | h
      · cases hc : (!cs.isEmpty) with
        | false =>
          rw [hc] at hz'
          rw [show d' = D.fo by simpa using hz']
          exact hSt.nd _ (by simp [SDi.all])
        | true =>
          rw [hc] at hz'
          have hn : H' d' = none := by simpa using hz'
          exact ⟨fun z => (by rw [z, w1] at hn; cases hn), fun z => (by rw [z, e1] at hn; cases hn)⟩
      · exact hSt.nd _ h
    · intro hm
      obtain ⟨vu, f1, _⟩ := hSt.fu
      have hm' : cl = p ∨ cl = A.pa ∨ cl = A.fu ∨ cl = A.wa ∨ cl = A.te := by simpa [SAd.all] using hm
      rcases hm' with z | z | z | z | z
      · rw [z, hp] at ncl; cases ncl
      · rw [z, hpa] at ncl; cases ncl
      · rw [z, f1] at ncl; cases ncl
      · rw [z, w1] at ncl; cases ncl
      · rw [z, e1] at ncl; cases ncl
end
end Ff

namespace Ff
open PySem PySem.Spec PyProof.Rows L2 ExX LamX
abbrev sAp : Stmt := inClass (topS 85) 4
abbrev apN : List Str := ["self", "command"]
theorem scAp : FnScope apN ["self", "command"] (defScope sAp) := ⟨rfl, rfl, rfl, by decide +kernel, rfl, by decide +kernel, by decide +kernel⟩
theorem batch_len {S S' : StS} {cs : List Cmd} {ks : List Int} (h : batch S cs = .ok (S', ks)) : ks.length = cs.length := by
  unfold batch at h
  cases e : firstMal cs with
  | some w => rw [e] at h; cases h
  | none =>
    rw [e] at h
    dsimp only at h
    cases e2 : doAll S.M cs with
    | error er => rw [e2] at h; cases h
    | ok r =>
      obtain ⟨M', ks'⟩ := r
      rw [e2] at h
      cases h
      exact doAll_len e2
theorem AppO.mono {K : PySem.W.Frag} {C p : Addr} {A : SAd} {D : SDi} {c : CEr} {H : Hp} {E : XK} {Qd Qe : List Int → Hp → Prop} {b : Bool} : ∀ {r : Ans (StS × List Int)}, (∀ S' ks H', r = .ok (S', ks) → Qd ks H' → Qe ks H') → AppO K C p A D c H E Qd b r → AppO K C p A D c H E Qe b r
  | .error e, _, h => h
  | .ok (S', ks), hm, h => fun fu' d' H1 H' s1 k nf nd hs => hm S' ks H' rfl (h fu' d' H1 H' s1 k nf nd hs)
/-- one command as a step -/
def spAp (P : Program) (w : World) (K : PySem.W.Frag) (mg : Str → Option Value) (base : Heap) (C dL dA : Addr) (c : CEr) : Sp := fun vs H Q E => ∃ (p a : Addr) (A : SAd) (D : SDi) (S : StS) (cmd : Cmd), vs = [.ref p, .ref a] ∧ StH K H C p A D S ∧ CmdAt K dL H a cmd ∧
  CmdOk cmd ∧ (isMal cmd = false → ActOk P w K mg base dA c cmd) ∧ S.past.length ≤ 100000 ∧ AppO K C p A D c H E (fun ks H' => ∀ k, ks = [k] → Q (.int k) H') true (batch S [cmd])
/-- steps taken back -/
def StS.undo (S : StS) : Option StS := match S.past.getLast? with
  | none => none
  | some (M, to) => some { S with M := M, to := to, past := S.past.dropLast, fut := S.fut ++ [(S.M, S.to)] }
def StS.redo (S : StS) : Option StS := match S.fut.getLast? with
  | none => none
  | some (M, to) => some { S with M := M, to := to, fut := S.fut.dropLast, past := S.past ++ [(S.M, S.to)] }
def SDi.undo (D : SDi) : SDi := ⟨D.dp.getLast?.getD D.fo, D.dp.dropLast, D.df ++ [D.fo]⟩
def SDi.redo (D : SDi) : SDi := ⟨D.df.getLast?.getD D.fo, D.dp ++ [D.fo], D.df.dropLast⟩
def MovO (K : PySem.W.Frag) (C p : Addr) (A : SAd) (D' : SDi) (CE : Addr) (H : Hp) (E : XK) (Q : VK) : Option StS → Prop
  | none => Flies0 H E CE
  | some S' => ∀ (H1 H' : Hp), Same H H1 → Kps (fun b => b ∈ A.all p) H1 H' → StH K H' C p A D' S' → Q .non H'
def spUd (K : PySem.W.Frag) (C CE : Addr) : Sp := fun vs H Q E => ∃ (p : Addr) (A : SAd) (D : SDi) (S : StS), vs = [.ref p] ∧ StH K H C p A D S ∧ S.fut.length ≤ 100000 ∧ S.past.length ≤ 100000 ∧ MovO K C p A D.undo CE H E Q S.undo
def spRd (K : PySem.W.Frag) (C CE : Addr) : Sp := fun vs H Q E => ∃ (p : Addr) (A : SAd) (D : SDi) (S : StS), vs = [.ref p] ∧ StH K H C p A D S ∧ S.fut.length ≤ 100000 ∧ S.past.length ≤ 100000 ∧ MovO K C p A D.redo CE H E Q S.redo
theorem HsAt.last {K : PySem.W.Frag} {H : Hp} : ∀ {vs : List V} {ds : List Addr} {l : List (Fs × Int)}, HsAt K H vs ds l → l ≠ [] → ∃ t d M to vs' ds' l', vs = vs' ++ [.ref t] ∧ ds = ds' ++ [d] ∧ l = l' ++ [(M, to)] ∧ HsAt K H vs' ds' l' ∧ H t = some (.tup [.ref d, .int to]) ∧ FsAt K H d M ∧ FsOk M
  | _, _, _, .nil, h => absurd rfl h
  | _, _, _, .cons (t := t) (d := d) (to := to) (M := M) (vs := vs) (ds := ds) (l := l) h1 h2 h3 r, _ => by
    cases l with
    | nil =>
      cases r
      exact ⟨t, d, M, to, [], [], [], rfl, rfl, rfl, .nil, h1, h2, h3⟩
    | cons x l =>
      obtain ⟨t', d', M', to', vs', ds', l', rfl, rfl, e, r', g1, g2, g3⟩ := r.last (by intro z; cases z)
      exact ⟨t', d', M', to', _, _, _ :: l', rfl, rfl, by rw [e]; rfl, .cons h1 h2 h3 r', g1, g2, g3⟩
def Xpf (p : Addr) (A : SAd) (b : Addr) : Prop := b = p ∨ b = A.pa ∨ b = A.fu
theorem xpf_all {p : Addr} {A : SAd} {b : Addr} (h : Xpf p A b) : b ∈ A.all p := by
  rcases h with rfl | rfl | rfl
  · simp [SAd.all]
  · simp [SAd.all]
  · simp [SAd.all]
section
variable {K : PySem.W.Frag} {H Hf : Hp} {C p : Addr} {A : SAd} {D : SDi} {S : StS}
theorem StH.xno (h : StH K H C p A D S) : NoTup (Xpf p A) H := fun b xs hb => h.noTup b xs (xpf_all hb)
theorem StH.xdict (h : StH K H C p A D S) {x : Addr} {kv : List (Key × V)} (hx : H x = some (.dK kv)) : ¬ Xpf p A x := by
  obtain ⟨dx, fs, o1, _⟩ := h.ob
  obtain ⟨vs, p1, _⟩ := h.pa
  obtain ⟨us, u1, _⟩ := h.fu
  rintro (rfl | rfl | rfl)
  · rw [o1] at hx; cases hx
  · rw [p1] at hx; cases hx
  · rw [u1] at hx; cases hx
theorem StH.keepD (h : StH K H C p A D S) (k : Kps (Xpf p A) H Hf) {x : Addr} {M : Fs} (hx : FsAt K H x M) : FsAt K Hf x M := by
  obtain ⟨kv, k1, _⟩ := id hx
  exact hx.kps k h.xno (h.xdict k1)
theorem StH.keepH (h : StH K H C p A D S) (k : Kps (Xpf p A) H Hf) {vs : List V} {ds : List Addr} {l : List (Fs × Int)} (hx : HsAt K H vs ds l) : HsAt K Hf vs ds l :=
  hx.kps k h.xno fun d hd => by
    obtain ⟨kv, k1⟩ := hx.dict d hd
    exact h.xdict k1
/-- a store after one of its moves in time -/
theorem StH.moved (h : StH K H C p A D S) (k : Kps (Xpf p A) H Hf) {D' : SDi} {S' : StS} {dx : Addr} {fs' : List (Str × V)} (hp : Hf p = some (.ins C dx fs')) (hF : StF fs' D'.fo S'.to A.pa A.fu A.wa A.te S'.last) (hd : FsAt K H D'.fo S'.M) (hM : FsOk S'.M)
    (hpa : ∃ vs, Hf A.pa = some (.lst vs) ∧ HsAt K Hf vs D'.dp S'.past) (hfu : ∃ vs, Hf A.fu = some (.lst vs) ∧ HsAt K Hf vs D'.df S'.fut) (hw : S'.wat = S.wat) (ht : S'.told = S.told) (sub : ∀ d ∈ D'.all, d ∈ D.all) : StH K Hf C p A D' S' := by
  obtain ⟨kw, w1, w2⟩ := h.wa
  obtain ⟨kt, t1, t2⟩ := h.te
  exact ⟨⟨dx, fs', hp, hF⟩, h.keepD k hd, hM, hpa, hfu, ⟨kw, k _ _ (h.xdict w1) w1, by rw [hw]; exact w2.kps k h.xno⟩, ⟨kt, k _ _ (h.xdict t1) t1, by rw [ht]; exact t2.kps k h.xno⟩, h.n1, h.n2, fun d hd => h.nd d (sub d hd)⟩
end
theorem past_undo {S : StS} {l : List (Fs × Int)} {M : Fs} {to : Int} (e : S.past = l ++ [(M, to)]) : S.undo = some { S with M := M, to := to, past := l, fut := S.fut ++ [(S.M, S.to)] } := by
  unfold StS.undo
  rw [e, List.getLast?_concat]
  dsimp only
  rw [List.dropLast_concat]
theorem fut_redo {S : StS} {l : List (Fs × Int)} {M : Fs} {to : Int} (e : S.fut = l ++ [(M, to)]) : S.redo = some { S with M := M, to := to, fut := l, past := S.past ++ [(S.M, S.to)] } := by
  unfold StS.redo
  rw [e, List.getLast?_concat]
  dsimp only
  rw [List.dropLast_concat]
section
variable {P : Program} {w : World} {K : PySem.W.Frag} {mg : Str → Option Value} {base : Heap} {c : CEr} {C CE : Addr}
theorem okB_ap {f fA dL dA : Addr} {fd fdA : FuncData} (F : Fun K "apply" "Store.apply" sAp f fd) (TC : StT K C) (mA : KMsX P w K mg base C 20 "apply_all" ["self", "commands"] (spAppB P w K mg base C dL dA c) fA fdA) :
    FnOk P w K mg base (L2N.CX P w) 21 f fd ["self", "command"] (spAp P w K mg base C dL dA c) := by
  refine okN F scAp (fun vs H Q E h => ?_) (fun cdv A0 outer s H vs Q E hr h tk => ?_)
  · obtain ⟨p, a, A, D, S, cmd, rfl, _⟩ := h
    rfl
  · obtain ⟨p, a, A, D, S, cmd, rfl, hSt, hc, hok, hact, hpl, q⟩ := h
    have hrm : ∀ {j : Nat}, j ≤ 20 → Room j (A0.deeper (envOfC "Store.apply" (defScope sAp) s.heap.objs.size f cdv)) := fun h => hr.mono h
    refine ⟨_, (pss_one (ps_ret (pe_ix (show IxR _ (rIx K) from ix_seq) (pe_methN (pv 0) TC.cl mA.mt mA.ok (hrm (by decide)) mA.b tk (pa_cons (pe_lst (pa_cons (pv 1) pa_nil)) pa_nil)) pe_int (fun _ _ => rfl)))), ?_⟩
    obtain ⟨dx, fs, hp, hF⟩ := id hSt.ob
    refine ⟨_, rfl, p, dx, fs, rfl, hp, hF.no _ (by decide +kernel), _, rfl, by show 1 ≤ sizeLine; decide, fun l nl => ?_⟩
    have s1 := same_new (o := .lst [V.ref a]) nl
    have hl : upd H l (.lst [V.ref a]) l = some (.lst [V.ref a]) := upd_same
    generalize upd H l (.lst [V.ref a]) = H1 at s1 hl ⊢
    refine ⟨p, l, true, A, D, S, [.ref a], [cmd], rfl, hSt.same s1, ?_, .cons (hc.same s1) .nil, fun x hx => by rw [List.mem_singleton.mp hx]; exact ⟨hok, hact⟩, by show 1 ≤ 1000; decide, hpl, ?_⟩
    · exact SqL.of hl
    refine (AppO.same s1 q).mono fun S' ks H' e h cl ncl nm hcl => ?_
    have hk := batch_len e
    obtain ⟨k, rfl⟩ := List.length_eq_one_iff.mp hk
    exact .inl ⟨cl, [V.int k], 0, V.int k, rfl, rfl, SqL.of hcl, rfl, h k rfl⟩
end
end Ff

namespace Ff
open PySem PySem.Spec PyProof.Rows L2 ExX LamX
abbrev sSF : Stmt := inClass (topS 85) 9
abbrev sFN : List Str := ["self", "name"]
theorem scSF : FnScope sFN ["self", "name"] (defScope sSF) := ⟨rfl, rfl, rfl, by decide +kernel, rfl, by decide +kernel, by decide +kernel⟩
abbrev sTC : Stmt := inClass (topS 85) 10
abbrev tCN : List Str := ["self"]
theorem scTC : FnScope tCN ["self"] (defScope sTC) := ⟨rfl, rfl, rfl, by decide +kernel, rfl, by decide +kernel, by decide +kernel⟩
abbrev sSteps : Stmt := inClass (topS 85) 11
abbrev stepsN : List Str := ["self"]
theorem scSteps : FnScope stepsN ["self"] (defScope sSteps) := ⟨rfl, rfl, rfl, by decide +kernel, rfl, by decide +kernel, by decide +kernel⟩
def spSFB (K : PySem.W.Frag) (C : Addr) (c : CEr) : Sp := fun vs H Q E => ∃ (p : Addr) (z : Str) (A : SAd) (D : SDi) (S : StS), vs = [.ref p, .str z] ∧ StH K H C p A D S ∧ z.length ≤ 800 ∧ match look S.M z with
  | none => Fl c H E (.noForest z)
  | some f => ∀ a, SqT K H a (tupOf f.1 f.2) → Q (.ref a) H
def spTC (K : PySem.W.Frag) (C : Addr) : Sp := fun vs H Q _ => ∃ (p : Addr) (A : SAd) (D : SDi) (S : StS), vs = [.ref p] ∧ StH K H C p A D S ∧ Q (.int S.to) H
def spSteps (K : PySem.W.Frag) (C : Addr) : Sp := fun vs H Q _ => ∃ (p : Addr) (A : SAd) (D : SDi) (S : StS), vs = [.ref p] ∧ StH K H C p A D S ∧ ∀ t H', H t = none → H' t = some (.tup [vi S.past.length, vi S.fut.length]) → Same H H' → Q (.ref t) H'
/-- a new store -/
theorem stH_new {K : PySem.W.Frag} {H' : Hp} {C p fo pa fu wa te dx : Addr} {fs : List (Str × V)} (h1 : pa ≠ fu) (h2 : wa ≠ te) (h3 : fo ≠ wa) (h4 : fo ≠ te) (hp : H' p = some (.ins C dx fs)) (hF : StF fs fo 0 pa fu wa te 0) (f1 : H' fo = some (.dK [])) (f2 : H' pa = some (.lst [])) (f3 : H' fu = some (.lst [])) (f4 : H' wa = some (.dK [])) (f5 : H' te = some (.dK [])) :
    StH K H' C p ⟨pa, fu, wa, te⟩ ⟨fo, [], []⟩ ⟨[], 0, [], [], [], [], 0⟩ :=
  ⟨⟨dx, fs, hp, hF⟩, ⟨[], f1, .nil⟩, ⟨List.nodup_nil, Nat.zero_le _, (fun m h => by cases h), (fun m h => by cases h)⟩, ⟨[], f2, .nil⟩, ⟨[], f3, .nil⟩, ⟨[], f4, .nil⟩, ⟨[], f5, .nil⟩, h1, h2, fun d hd => by
    have e : d = fo := by simpa [SDi.all] using hd
    rw [e]
    exact ⟨h3, h4⟩⟩
section
variable {P : Program} {w : World} {K : PySem.W.Frag} {mg : Str → Option Value} {base : Heap} {c : CEr} {C CE : Addr}
theorem okB_sF {f fI : Addr} {fd fdI : FuncData} (F : Fun K "forest_of" "Store.forest_of" sSF f fd) (TC : StT K C) (kI : KnX P w K mg base 4 "forest_in" ["forests", "name"] (spFInB K c) fI fdI) : FnOk P w K mg base (L2N.CX P w) 5 f fd ["self", "name"] (spSFB K C c) := by
  refine okN F scSF (fun vs H Q E h => ?_) (fun cdv A0 outer s H vs Q E hr h tk => ?_)
  · obtain ⟨p, z, A, D, S, rfl, _⟩ := h
    rfl
  · obtain ⟨p, z, A, D, S, rfl, hSt, hz, q⟩ := h
    have hrm : ∀ {j : Nat}, j ≤ 4 → Room j (A0.deeper (envOfC "Store.forest_of" (defScope sSF) s.heap.objs.size f cdv)) := fun h => hr.mono h
    refine ⟨_, (pss_one (ps_ret (pe_call kI.G (hrm (by decide)) (by rfl) kI.g kI.kp kI.b .nil (lookNE tk) (pa_cons (pe_fld (pv 0) rfl) (pa_cons (pv 1) pa_nil))))), ?_⟩
    obtain ⟨dx, fs, hp, hF⟩ := id hSt.ob
    exact ⟨_, rfl, p, C, dx, _, _, rfl, hp, TC.cl, TC.no _ (by decide +kernel), hF.f, _, rfl, D.fo, z, S.M, rfl, hSt.fo, hz, q⟩
theorem ok_tC {f : Addr} {fd : FuncData} (F : Fun K "total_cost" "Store.total_cost" sTC f fd) (TC : StT K C) : FnOk P w K mg base CX0 1 f fd ["self"] (spTC K C) := by
  refine F.ok scTC (fun vs H Q E h => ?_) (fun cdv A0 outer s H vs Q E hr h => ?_)
  · obtain ⟨p, A, D, S, rfl, _⟩ := h
    rfl
  · obtain ⟨p, A, D, S, rfl, hSt, q⟩ := h
    refine ⟨_, (pss_one (ps_ret (pe_fld (pv 0) rfl))), ?_⟩
    obtain ⟨dx, fs, hp, hF⟩ := id hSt.ob
    exact ⟨_, rfl, p, C, dx, _, _, rfl, hp, TC.cl, TC.no _ (by decide +kernel), hF.t, q⟩
theorem ok_steps {f : Addr} {fd : FuncData} (F : Fun K "steps" "Store.steps" sSteps f fd) (T : Tx mg) (TC : StT K C) : FnOk P w K mg base CX0 1 f fd ["self"] (spSteps K C) := by
  refine F.ok scSteps (fun vs H Q E h => ?_) (fun cdv A0 outer s H vs Q E hr h => ?_)
  · obtain ⟨p, A, D, S, rfl, _⟩ := h
    rfl
  · obtain ⟨p, A, D, S, rfl, hSt, q⟩ := h
    refine ⟨_, (pss_one (ps_ret (pe_tup (pa_cons (pe_callB call_len_seq (by rfl) T.len PySem.boot_len (pa_cons (pe_fld (pv 0) rfl) pa_nil)) (pa_cons (pe_callB call_len_seq (by rfl) T.len PySem.boot_len (pa_cons (pe_fld (pv 0) rfl) pa_nil)) pa_nil))))), ?_⟩
    obtain ⟨dx, fs, hp, hF⟩ := id hSt.ob
    obtain ⟨vs, hpa, hpH⟩ := id hSt.pa
    obtain ⟨us, hfu, hfH⟩ := id hSt.fu
    refine ⟨_, rfl, p, C, dx, _, _, rfl, hp, TC.cl, TC.no _ (by decide +kernel), hF.p, A.pa, vs, rfl, .inl (SqL.of hpa), _, rfl, p, C, dx, _, _, rfl, hp, TC.cl, TC.no _ (by decide +kernel), hF.u, A.fu, us, rfl, .inl (SqL.of hfu), two_szS, fun t n => q t _ n ?_ (same_new n)⟩
    rw [upd_same, hpH.len, hfH.len]
end
end Ff

namespace Ff
open PySem PySem.Spec PyProof.Rows L2 ExX LamX
/-! sets of nodes, the root of each first -/
def hdS (s : List Nat) : Nat := s.headD 0
structure SetsOk (n : Nat) (p : Nat → Nat) (ss : List (List Nat)) : Prop where
  ne : ∀ s ∈ ss, s ≠ []
  lt : ∀ s ∈ ss, ∀ v ∈ s, v < n
  rt : ∀ s ∈ ss, ∀ v ∈ s, root p n v = hdS s
  cov : ∀ v, v < n → ∃ s ∈ ss, v ∈ s
  nd : (ss.map hdS).Nodup
  ndl : ∀ s ∈ ss, s.Nodup
theorem hd_mem {s : List Nat} (h : s ≠ []) : hdS s ∈ s := by
  cases s with
  | nil => exact absurd rfl h
  | cons x r => exact List.mem_cons_self
theorem inj_hd : ∀ {ss : List (List Nat)}, (ss.map hdS).Nodup → ∀ s ∈ ss, ∀ t ∈ ss, hdS s = hdS t → s = t
  | [], _, s, hs, _, _, _ => nomatch hs
  | x :: ss, nd, s, hs, t, ht, e => by
    obtain ⟨n1, n2⟩ := List.nodup_cons.mp nd
    rcases List.mem_cons.mp hs with rfl | hs
    · rcases List.mem_cons.mp ht with ht | ht
      · exact ht.symm
      · exact absurd (List.mem_map.mpr ⟨t, ht, e.symm⟩) n1
    · rcases List.mem_cons.mp ht with ht | ht
      · exact absurd (List.mem_map.mpr ⟨s, hs, by rw [e, ht]⟩) n1
      · exact inj_hd n2 s hs t ht e
theorem nodup_le' {n : Nat} {l : List Nat} (h : l.Nodup) (hl : ∀ x ∈ l, x < n) : l.length ≤ n := nodup_le n l h hl
section
variable {n : Nat} {p : Nat → Nat} {ss : List (List Nat)}
theorem SetsOk.inj (h : SetsOk n p ss) {s t : List Nat} (hs : s ∈ ss) (ht : t ∈ ss) (e : hdS s = hdS t) : s = t := inj_hd h.nd s hs t ht e
theorem SetsOk.hlt (h : SetsOk n p ss) {s : List Nat} (hs : s ∈ ss) : hdS s < n := h.lt s hs _ (hd_mem (h.ne s hs))
theorem SetsOk.fix {r : Nat → Nat} (h : SetsOk n p ss) (F : Fo n p r) {s : List Nat} (hs : s ∈ ss) : p (hdS s) = hdS s := by
  have e := h.rt s hs _ (hd_mem (h.ne s hs))
  have := root_fix F (hdS s) (h.hlt hs)
  rw [e] at this
  exact this
theorem SetsOk.len (h : SetsOk n p ss) : ss.length ≤ n := by
  have := nodup_le' (n := n) h.nd fun x hx => by
    obtain ⟨s, hs, rfl⟩ := List.mem_map.mp hx
    exact h.hlt hs
  rwa [List.length_map] at this
theorem SetsOk.lens (h : SetsOk n p ss) {s : List Nat} (hs : s ∈ ss) : s.length ≤ n := nodup_le' (h.ndl s hs) (h.lt s hs)
theorem SetsOk.keep {q : Nat → Nat} (h : SetsOk n p ss) (e : ∀ v, v < n → root q n v = root p n v) : SetsOk n q ss :=
  ⟨h.ne, h.lt, fun s hs v hv => by rw [e v (h.lt s hs v hv)]; exact h.rt s hs v hv, h.cov, h.nd, h.ndl⟩
theorem SetsOk.join {q : Nat → Nat} (h : SetsOk n p ss) {s t : List Nat} (hs : s ∈ ss) (ht : t ∈ ss) (ne : s ≠ t) (e : ∀ v, v < n → root q n v = if root p n v = hdS s then hdS t else root p n v) :
    SetsOk n q ((ss.filter fun x => decide (x ≠ s) && decide (x ≠ t)) ++ [t ++ s]) := by
  have hh : hdS (t ++ s) = hdS t := by
    cases t with
    | nil => exact absurd rfl (h.ne _ ht)
    | cons x r => rfl
  have hne : hdS t ≠ hdS s := fun z => ne (h.inj hs ht z.symm)
  have old : ∀ x, x ∈ (ss.filter fun x => decide (x ≠ s) && decide (x ≠ t)) → x ∈ ss ∧ x ≠ s ∧ x ≠ t := fun x hx => by
    obtain ⟨h1, h2⟩ := List.mem_filter.mp hx
    have h3 : x ≠ s ∧ x ≠ t := by simpa using h2
    exact ⟨h1, h3⟩
  have both : ∀ x, x ∈ (ss.filter fun x => decide (x ≠ s) && decide (x ≠ t)) ++ [t ++ s] → (x ∈ ss ∧ x ≠ s ∧ x ≠ t) ∨ x = t ++ s := fun x hx => by
    rcases List.mem_append.mp hx with z | z
    · exact .inl (old x z)
    · exact .inr (List.mem_singleton.mp z)
  refine ⟨fun x hx => ?_, fun x hx v hv => ?_, fun x hx v hv => ?_, fun v hv => ?_, ?_, fun x hx => ?_⟩
  · rcases both x hx with z | rfl
    · exact h.ne x z.1
    · intro z
      exact h.ne t ht (List.append_eq_nil_iff.mp z).1
  · rcases both x hx with z | rfl
    · exact h.lt x z.1 v hv
    · rcases List.mem_append.mp hv with z | z
      · exact h.lt t ht v z
      · exact h.lt s hs v z
  · rcases both x hx with z | rfl
    · rw [e v (h.lt x z.1 v hv), h.rt x z.1 v hv, if_neg fun y => z.2.1 (h.inj z.1 hs y)]
    · rw [hh]
      rcases List.mem_append.mp hv with z | z
      · rw [e v (h.lt t ht v z), h.rt t ht v z, if_neg hne]
      · rw [e v (h.lt s hs v z), h.rt s hs v z, if_pos rfl]
  · obtain ⟨x, hx, hv'⟩ := h.cov v hv
    by_cases e1 : x = s
    · exact ⟨t ++ s, List.mem_append_right _ (List.mem_singleton.mpr rfl), List.mem_append_right _ (e1 ▸ hv')⟩
    · by_cases e2 : x = t
      · exact ⟨t ++ s, List.mem_append_right _ (List.mem_singleton.mpr rfl), List.mem_append_left _ (e2 ▸ hv')⟩
      · exact ⟨x, List.mem_append_left _ (List.mem_filter.mpr ⟨hx, by simp [e1, e2]⟩), hv'⟩
  · rw [List.map_append, List.nodup_append]
    refine ⟨List.Nodup.sublist (List.Sublist.map _ List.filter_sublist) h.nd, by simp, ?_⟩
    intro a ha b hb
    obtain ⟨x, hx, rfl⟩ := List.mem_map.mp ha
    have hb' : b = hdS (t ++ s) := by simpa using hb
    obtain ⟨h1, h2, h3⟩ := old x hx
    rw [hb', hh]
    exact fun z => h3 (h.inj h1 ht z)
  · rcases both x hx with z | rfl
    · exact h.ndl x z.1
    · rw [List.nodup_append]
      refine ⟨h.ndl t ht, h.ndl s hs, fun a ha b hb z => ?_⟩
      subst z
      exact hne ((h.rt t ht a ha).symm.trans (h.rt s hs a hb))
/-- the sets a node is in -/
theorem SetsOk.pick (h : SetsOk n p ss) {v : Nat} (hv : v < n) : ∃ s, s ∈ ss ∧ ss.filter (fun x => decide (v ∈ x)) = [s] ∧ v ∈ s := by
  obtain ⟨s, hs, hv'⟩ := h.cov v hv
  have hall : ∀ x ∈ ss.filter (fun x => decide (v ∈ x)), x = s := fun x hx => by
    obtain ⟨h1, h2⟩ := List.mem_filter.mp hx
    have h3 := of_decide_eq_true h2
    exact h.inj h1 hs ((h.rt x h1 v h3).symm.trans (h.rt s hs v hv'))
  have nds : (ss.filter (fun x => decide (v ∈ x))).Nodup := by
    refine List.Nodup.sublist List.filter_sublist ?_
    exact List.Pairwise.of_map hdS (fun a b hn e => hn (by rw [e])) h.nd
  have hm : s ∈ ss.filter (fun x => decide (v ∈ x)) := List.mem_filter.mpr ⟨hs, decide_eq_true hv'⟩
  refine ⟨s, hs, ?_, hv'⟩
  cases e : ss.filter (fun x => decide (v ∈ x)) with
  | nil => rw [e] at hm; cases hm
  | cons x r =>
    rw [e] at hall nds
    have e1 := hall x List.mem_cons_self
    cases r with
    | nil => rw [e1]
    | cons y r =>
      have e2 := hall y (List.mem_cons_of_mem _ List.mem_cons_self)
      rw [e1, e2] at nds
      exact absurd List.mem_cons_self (List.nodup_cons.mp nds).1
theorem sorted_eq' : ∀ {l m : List Int}, l.Pairwise (· ≤ ·) → m.Pairwise (· ≤ ·) → l.Perm m → l = m
  | [], m, _, _, h => h.nil_eq
  | x :: l, [], _, _, h => by have := h.length_eq; simp at this
  | x :: l, y :: m, hl, hm, h => by
    have hx := List.pairwise_cons.mp hl
    have hy := List.pairwise_cons.mp hm
    have e : x = y := by
      have h1 : x ∈ y :: m := h.mem_iff.mp List.mem_cons_self
      have h2 : y ∈ x :: l := h.mem_iff.mpr List.mem_cons_self
      rcases List.mem_cons.mp h1 with z | z
      · exact z
      · rcases List.mem_cons.mp h2 with z2 | z2
        · exact z2.symm
        · have := hx.1 y z2
          have := hy.1 x z
          omega
    subst e
    rw [sorted_eq' hx.2 hy.2 (List.Perm.cons_inv h)]
theorem perm_nodup : ∀ {l m : List Int}, l.Nodup → m.Nodup → (∀ x, x ∈ l ↔ x ∈ m) → l.Perm m
  | [], m, _, _, h => by
    cases m with
    | nil => exact .nil
    | cons y m => exact absurd ((h y).mpr List.mem_cons_self) (by simp)
  | x :: l, m, hl, hm, h => by
    obtain ⟨n1, n2⟩ := List.nodup_cons.mp hl
    have hx : x ∈ m := (h x).mp List.mem_cons_self
    refine List.Perm.trans (.cons x (perm_nodup n2 (hm.erase x) fun y => ?_)) (List.perm_cons_erase hx).symm
    constructor
    · intro hy
      have hyx : y ≠ x := fun e => n1 (e ▸ hy)
      exact (List.mem_erase_of_ne hyx).mpr ((h y).mp (List.mem_cons_of_mem _ hy))
    · intro hy
      have hy' := List.mem_of_mem_erase hy
      rcases List.mem_cons.mp ((h y).mpr hy') with z | z
      · rw [z] at hy
        exact absurd hy (List.Nodup.not_mem_erase hm)
      · exact z
theorem roots_sorted (n : Nat) (p : Nat → Nat) : ((rootsL n p).map fun v : Nat => (v : Int)).Pairwise (· ≤ ·) := by
  rw [List.pairwise_map]
  refine List.Pairwise.imp (fun h => ?_) (List.Pairwise.filter _ List.pairwise_lt_range)
  omega
theorem roots_nodup (n : Nat) (p : Nat → Nat) : ((rootsL n p).map fun v : Nat => (v : Int)).Nodup := by
  rw [List.Nodup, List.pairwise_map]
  refine List.Pairwise.imp (fun h => ?_) (List.Pairwise.filter _ List.pairwise_lt_range)
  omega
theorem roots_mem {n : Nat} {p : Nat → Nat} {x : Int} : x ∈ (rootsL n p).map (fun v : Nat => (v : Int)) ↔ ∃ v : Nat, v < n ∧ p v = v ∧ x = v := by
  unfold rootsL
  rw [List.mem_map]
  constructor
  · rintro ⟨v, hv, rfl⟩
    obtain ⟨h1, h2⟩ := List.mem_filter.mp hv
    exact ⟨v, List.mem_range.mp h1, of_decide_eq_true h2, rfl⟩
  · rintro ⟨v, h1, h2, rfl⟩
    exact ⟨v, List.mem_filter.mpr ⟨List.mem_range.mpr h1, decide_eq_true h2⟩, rfl⟩
theorem SetsOk.heads {r : Nat → Nat} (h : SetsOk n p ss) (F : Fo n p r) {ns : List Int} (hp : ns.Perm (ss.map fun s => ((hdS s : Nat) : Int))) (hs : ns.Pairwise (· ≤ ·)) : ns = (rootsL n p).map (fun v : Nat => (v : Int)) := by
  refine sorted_eq' hs (roots_sorted n p) (hp.trans (perm_nodup ?_ (roots_nodup n p) fun x => ?_))
  · have : (ss.map fun s => ((hdS s : Nat) : Int)) = (ss.map hdS).map (fun v : Nat => (v : Int)) := by rw [List.map_map]; rfl
    rw [this, List.Nodup, List.pairwise_map]
    exact List.Pairwise.imp (fun h z => h (Int.ofNat.inj z)) h.nd
  · rw [roots_mem, List.mem_map]
    constructor
    · rintro ⟨s, hs, rfl⟩
      exact ⟨hdS s, h.hlt hs, h.fix F hs, rfl⟩
    · rintro ⟨v, hv, e, rfl⟩
      obtain ⟨s, hs, hv'⟩ := h.cov v hv
      have e2 := h.rt s hs v hv'
      have e3 : root p n v = v := root_of e n
      exact ⟨s, hs, by rw [← e2, e3]⟩
/-- at the start -/
theorem sets_start (n : Nat) : SetsOk n (fun v => v) ((List.range n).map fun v => [v]) := by
  refine ⟨fun s hs => ?_, fun s hs v hv => ?_, fun s hs v hv => ?_, fun v hv => ?_, ?_, fun s hs => ?_⟩
  · obtain ⟨v, _, rfl⟩ := List.mem_map.mp hs
    intro z; cases z
  · obtain ⟨u, hu, rfl⟩ := List.mem_map.mp hs
    rw [List.mem_singleton.mp hv]
    exact List.mem_range.mp hu
  · obtain ⟨u, hu, rfl⟩ := List.mem_map.mp hs
    rw [List.mem_singleton.mp hv]
    exact root_of (p := fun v => v) rfl n
  · exact ⟨[v], List.mem_map.mpr ⟨v, List.mem_range.mpr hv, rfl⟩, List.mem_singleton.mpr rfl⟩
  · rw [List.map_map]
    have : (hdS ∘ fun v : Nat => [v]) = id := by funext v; rfl
    rw [this, List.map_id]
    exact List.nodup_range
  · obtain ⟨u, hu, rfl⟩ := List.mem_map.mp hs
    simp
end
end Ff

namespace Ff
open PySem PySem.Spec PyProof.Rows L2 ExX LamX
/-! set(xs), a tuple of ints -/
section
variable {P : Program} {w : World} {A : Around} {E : Value → Shared → Prop} {s : Shared}
theorem set_of_intsT {l : Addr} {items : Array Value} (ns : List Int) {Q : Value → Shared → Prop} (hh : A.handled = none) (hl : s.heap.IsTuple l items) (hit : IntsAre items.toList ns) (hb : ns.length + 1 < scanBound)
    (fin : ∀ (h' : Heap) (tk c : Nat), SetR w h' s.heap.objs.size (fun j => decide (j ∈ ns)) c → c ≤ ns.length → (∀ b o, s.heap.get? b = some o → h'.get? b = some o) → Q (.ref s.heap.objs.size) { s with heap := h', toks := tk }) :
    wpAny (model P w) A (call (.type "set") [.ref l]) Q E s := by
  have size_eq : items.size = ns.length := by rw [← Array.length_toList]; exact IntsAre.length hit
  obtain ⟨c, tl, hmro⟩ := F.called_set.mro; have hmade := F.called_set.made; have hsub := F.called_set.sub
  refine wpAny_call (codeAny_of_tree ?_); show wpAny _ _ (callAny (.type "set") _) _ _ _
  refine wpAny_pure ⟨Code.quiet_builtin _ (by decide +kernel), codeAny_builtin F.entry_type_call ?_⟩; rw [Around.under_plain (weight_type_call_type "set" [.ref l] []) rfl]
  have h1 := F.called_set.notType; have h2 := F.called_set.canCreate; have hct := F.typeCall_set_1 (.ref l)
  (repeat (any_goals (first | assumption | wp_step)))
  refine codeAny_mono (code_set_led1 (.ref l) (E := E) (Q₁ := fun obj s1 => obj = .ref s.heap.objs.size ∧ s1 = { s with heap := s.heap.push (newSet w) }) ⟨rfl, rfl⟩) fun r s1 hr => ?_
  match r, hr with
  | .error e, hr => exact hr
  | .ok (.ret obj), hr =>
      obtain ⟨rfl, rfl⟩ := hr
      have at0 : (s.heap.push (newSet w)).get? s.heap.objs.size = some (newSet w) := Heap.get?_push_size _ rfl
      have ty0 : Shared.TypeIs { s with heap := s.heap.push (newSet w) } (.ref s.heap.objs.size) "set" := ⟨_, at0, rfl⟩
      have hli := F.called_set.init.lookup; have hbi := F.called_set.init.bind (.ref s.heap.objs.size)
      (repeat (any_goals (first | assumption | wp_step)))
      refine codeAny_mono (codeAny_call_builtin (R := wants (fun r s2 => r = .none ∧ ∃ h' tk c, s2 = { s with heap := h', toks := tk } ∧ SetR w h' s.heap.objs.size (fun j => decide (j ∈ ns)) c ∧ c ≤ ns.length ∧ (∀ b o, s.heap.get? b = some o → h'.get? b = some o)) E) F.called_set.init.plain F.entry_set_init (check_set_init_1 ty0 ?_)) fun r2 s2 hr2 => ?_
      · obtain ⟨⟨kl, dl, el, sl⟩, hol, hcl, nl, hdl⟩ := hl
        simp only at hcl hdl; subst hcl; subst hdl
        have at1 : (s.heap.push (newSet w)).get? l = some { cls := .type "tuple", dict := dl, data := .seq items nl, slots := sl } := Heap.get?_push_of_some _ hol
        have hsls := F.sub_tuple_set; have hslf := F.sub_tuple_frozenset; have hne : (Value.type "tuple" == Value.type "dict") = false := by decide
        have isl : (s.heap.push (newSet w)).IsTuple l items := ⟨_, at1, rfl, nl, rfl⟩
        unfold Builtin.«set.__init__» noKeywords Builtin.Frozenset.updateFrom; generalize hPI : pyIter = PI; wp_walk; subst hPI
        refine wpAny_pyIter_tuple isl (wpAny_bind (wpAny_runValue ?_))
        have lt0 : l < s.heap.objs.size := Heap.lt_size hol
        have hd3 : A.in1.in1.in1.handled = none := by simp [hh]
        have sz1 : (s.heap.push (newSet w)).objs.size = s.heap.objs.size + 1 := Heap.size_push ..
        have nel : l ≠ (s.heap.push (newSet w)).objs.size := by rw [sz1]; exact Nat.ne_of_lt (Nat.lt_succ_of_lt lt0)
        have out0 : s.heap.objs.size ∉ [(s.heap.push (newSet w)).objs.size, l] := by
          rw [sz1]; intro z
          rcases List.mem_cons.mp z with z | z
          · exact Nat.ne_of_lt (Nat.lt_succ_self _) z
          · exact Nat.ne_of_gt lt0 (List.mem_singleton.mp z)
        have val : ∀ (i : Nat) (v : Value), items[i]? = some v → ∃ k t, ns[i]? = some k ∧ v = .int k t := fun i v hv => by
          have hi : i < ns.length := by rw [← size_eq]; exact (Array.getElem?_eq_some_iff.mp hv).1
          obtain ⟨t, e⟩ := IntsAre.int_at hit i v (by rw [Array.getElem?_toList]; exact hv)
          refine ⟨ns[i], t, List.getElem?_eq_getElem hi, ?_⟩
          rw [e, List.getD_eq_getElem?_getD, List.getElem?_eq_getElem hi]; rfl
        refine set_update_ints ((Walks.tuple hd3 _ l nel items).toS) s.heap.objs.size out0 ns size_eq hb val (items.size - 0) 0 _ (by omega) (Nat.zero_le _) ⟨⟨_, Heap.get?_push_size _ rfl, rfl, rfl⟩, (isl.push _)⟩ ⟨0, Nat.le_refl 0, setR_new_at (Heap.get?_push_of_some _ at0)⟩ ?_
        rintro ⟨h', g2, d2, t2, o2⟩ c' hm hc' hS'
        obtain rfl : g2 = s.gens := hm.gens
        obtain rfl : d2 = s.drawn := hm.drawn
        obtain rfl : o2 = s.os := hm.os
        show wpAny _ _ _ _ _ _; refine wpAny_pure ?_; show wpAny _ _ (ret Value.none) _ _ _
        refine wpAny_pure ⟨rfl, h', t2, c', rfl, hS', by omega, fun b o e => ?_⟩
        have b0 : b < s.heap.objs.size := Heap.lt_size e
        refine hm.heap b o (fun z => ?_) (Heap.get?_push_of_some _ (Heap.get?_push_of_some _ e))
        rcases List.mem_cons.mp z with z | z
        · exact Nat.ne_of_lt b0 z
        · exact Nat.ne_of_lt (Nat.lt_succ_of_lt b0) ((List.mem_singleton.mp z).trans sz1)
      · match r2, hr2 with
        | .error e, hr2 => exact hr2
        | .ok (.ret r), hr2 =>
            obtain ⟨rfl, h', tk, c', rfl, hS', hc', hk'⟩ := hr2
            (repeat (any_goals (first | assumption | wp_step)))
            exact fin _ _ _ hS' hc' hk'
end
def rSetT (K : PySem.W.Frag) (w : World) : List V → Hp → VK → Prop := fun xs H Q => ∃ (l : Addr) (ns : List Int), xs = [V.ref l] ∧ SqT K H l (ns.map V.int) ∧ ns.length < 64 ∧
  ∀ (a : Addr) (c : Nat), H a = none → c ≤ ns.length → Q (.ref a) (upd H a (SetO w a (fun j => decide (j ∈ ns)) c))
theorem cr_setT {X : Cx} (hc : X.calm = true) : CallR X (.type "set") (rSetT X.K X.w) := by
  intro pins s σ H xs us Q I r h
  obtain ⟨l, ns, rfl, hl, hf, q⟩ := h
  rw [Vals.ref1 r]
  obtain ⟨its, rv, pl, hz⟩ := I.tuple hl
  refine set_of_intsT (P := X.prog) (w := X.w) ns (I.ok.hd hc) pl (ints_of_vals rv) (by unfold scanBound; omega) fun h' tk c R cl k => ?_
  exact ⟨.ref s.heap.objs.size, upd H s.heap.objs.size (SetO X.w s.heap.objs.size (fun j => decide (j ∈ ns)) c), I.laid (t' := tk) k (Nat.le_refl _) (setO_new R), rfl, q _ c (I.hok.fresh (Nat.le_refl _)) cl⟩
end Ff

namespace Ff
open PySem PySem.Spec PyProof.Rows L2 ExX LamX
abbrev sLaw : Stmt := topS 91
abbrev lawN : List Str := ["_law_script", "_law_draw", "_law_size", "_law_forest", "_law_total", "_law_sets", "_law_node", "_law_store", "_law_turn", "_law_pick", "_law_one_z", "_law_other_z", "_law_first", "_law_some", "_law_second", "_law_steps", "_law_cost", "_law_paid"]
theorem scLaw : FnScope lawN ["_law_script"] (defScope sLaw) := ⟨rfl, rfl, rfl, by decide +kernel, rfl, by decide +kernel, by decide +kernel⟩
structure KSt (P : Program) (w : World) (K : PySem.W.Frag) (mg : Str → Option Value) (base : Heap) (C : Addr) (f : Addr) (fd : FuncData) : Prop where
  mkc : Mk K C f
  ok : FnOk P w K mg base CX0 1 f fd ["self"] (spSI C)
  g : mg "Store" = some (.ref C)
  b : Binds K fd ["self"] []
/-- lists of nodes, each an object -/
def LsAt (H : Hp) (L : List (Addr × List Nat)) : Prop := ∀ x ∈ L, H x.1 = some (.lst (natsV x.2))
def refsL (L : List (Addr × List Nat)) : List V := L.map fun x => V.ref x.1
theorem LsAt.keep {H H' : Hp} {L : List (Addr × List Nat)} {X : Addr → Prop} (h : LsAt H L) (k : Kps X H H') (hx : ∀ x ∈ L, ¬ X x.1) : LsAt H' L := fun x hm => k _ _ (hx x hm) (h x hm)
theorem LsAt.same {H H' : Hp} {L : List (Addr × List Nat)} (h : LsAt H L) (s : Same H H') : LsAt H' L := fun x hm => s _ _ (h x hm)
theorem DrawAt.kps {H H' : Hp} {X : Addr → Prop} {d l : Addr} (D : DrawAt H d l) (k : Kps X H H') (hd : ¬ X d) (hl : ¬ X l) : DrawAt H' d l := by
  obtain ⟨ns, i, j, m, h, h', r⟩ := D
  exact ⟨ns, i, j, m, k _ _ hd h, k _ _ hl h', r⟩
abbrev oakN : Str := "oak"
def StS.step (S : StS) (M' : Fs) (k : Int) : StS := { S with M := M', to := S.to + k, past := S.past ++ [(S.M, S.to)], fut := [] }
theorem batch_one {S : StS} {cmd : Cmd} {M' : Fs} {k : Int} (hm : isMal cmd = false) (e : doC S.M cmd = .ok (M', k)) : batch S [cmd] = .ok (S.step M' k, [k]) := by
  unfold batch
  rw [firstMal_none (cs := [cmd]) (fun x hx => by rw [List.mem_singleton.mp hx]; exact hm)]
  have h2 : doAll S.M [cmd] = .ok (M', [k]) := by
    show thenA (doC S.M cmd) (fun M1 => .ok (M1, [])) = _
    rw [e]
    rfl
  dsimp only
  rw [h2]
  show (Except.ok _ : Ans (StS × List Int)) = _
  unfold StS.step
  simp
/-- a command that is answered, as a law asks it -/
theorem ap_ok {P : Program} {w : World} {K : PySem.W.Frag} {mg : Str → Option Value} {base : Heap} {C dL dA p tc : Addr} {c : CEr} {A : SAd} {D : SDi} {S : StS} {H : Hp} {cmd : Cmd} {M' : Fs} {k : Int} {Q : VK} {E : XK} (hSt : StH K H C p A D S) (hc : CmdAt K dL H tc cmd) (hok : CmdOk cmd) (hm : isMal cmd = false)
    (ha : ActOk P w K mg base dA c cmd) (hp : S.past.length ≤ 100000) (e : doC S.M cmd = .ok (M', k)) (q : ∀ fu' D' H', Kps (fun b => b ∈ A.all p) H H' → H fu' = none → StH K H' C p { A with fu := fu' } D' (S.step M' k) → Q (.int k) H') :
    noE (spAp P w K mg base C dL dA c) [.ref p, .ref tc] H Q E := by
  refine ⟨p, tc, A, D, S, cmd, rfl, hSt, hc, hok, fun _ => ha, hp, ?_⟩
  rw [batch_one hm e]
  intro fu' d' H1 H' s1 kp nf nd hs k2 ek
  cases ek
  exact q fu' _ H' ((Kps.of s1).trans kp) nf hs
/-- the row 0, 1, .. -/
def idxs (n : Nat) : List Int := (List.range n).map fun v : Nat => (v : Int)
theorem idxs_len (n : Nat) : (idxs n).length = n := by unfold idxs; rw [List.length_map, List.length_range]
theorem par_idxs {n v : Nat} (h : v < n) : par (idxs n) v = v := by
  unfold par idxs
  rw [List.getD_eq_getElem?_getD, List.getElem?_map, List.getElem?_range h]
  rfl
theorem idxs_vals (n : Nat) : (idxs n).map V.int = natsV (List.range n) := by
  unfold idxs natsV
  rw [List.map_map]
  rfl
theorem idxs_tup (n : Nat) : (idxs n).map V.int = tupOf n (par (idxs n)) := by
  rw [idxs_vals]
  exact tupOf_congr fun v hv => (par_idxs hv).symm
theorem idxs_fo (n : Nat) : Fo n (par (idxs n)) (fun _ => 0) := ⟨fun v hv => by rw [par_idxs hv]; exact hv, fun v hv => .inl (par_idxs hv), fun v hv => by omega⟩
theorem do_first {n : Nat} (hn : n ≤ 40) : doC [] (.new oakN (idxs n)) = .ok ([(oakN, (n, par (idxs n)))], 0) := by
  show orF (nameF [] oakN) (orF (verF (idxs n)) _) = _
  have h1 : nameF [] oakN = none := by decide +kernel
  have h2 : verdict (idxs n) = .ok := ver_ok.mpr ⟨by rw [idxs_len]; exact hn, fun v hv => ?_, fun v hv => ?_⟩
  · have h3 : verF (idxs n) = none := by unfold verF; rw [h2]
    rw [h1, h3]
    show Except.ok (putM [] oakN ((idxs n).length, par (idxs n)), 0) = _
    rw [idxs_len]
    rfl
  · rw [idxs_len] at hv
    unfold wideB
    have e : (idxs n).getD v 0 = (v : Int) := by
      unfold idxs
      rw [List.getD_eq_getElem?_getD, List.getElem?_map, List.getElem?_range hv]
      rfl
    rw [e, idxs_len]
    simp
    omega
  · rw [idxs_len] at hv ⊢
    unfold ringB
    have e : root (par (idxs n)) n v = v := root_of (par_idxs hv) n
    rw [e, par_idxs hv]
    simp
theorem Sb.kps {d : Addr} {H H' : Hp} (e : Sb d H H') : Kps (fun b => b = d) H H' := fun b o n h => e b o n h
theorem DrawAt.noTup {H : Hp} {d l : Addr} (D : DrawAt H d l) : NoTup (fun b => b = d) H := fun b xs hb => by
  obtain ⟨ns, i, j, m, h, _⟩ := D
  rw [hb]
  exact no_tup h (by intro l z; cases z) (by intro o w z; cases z)
/-- what holds between two turns -/
structure Lp (K : PySem.W.Frag) (C : Addr) (n : Nat) (d l ps : Addr) (i : Nat) (H : Hp) (t sl : Addr) (p pm : Nat → Nat) (L : List (Addr × List Nat)) (to : Int) : Prop where
  dr : DrawAt H d l
  fo : SqT K H t (tupOf n p)
  F : ∃ r, Fo n p r
  hsl : H sl = some (.lst (refsL L))
  ls : LsAt H L
  st : ∃ A D S, StH K H C ps A D S ∧ S.M = [(oakN, (n, pm))] ∧ S.to = to ∧ S.past.length ≤ i + 1 ∧ (d ∉ A.all ps ∧ l ∉ A.all ps ∧ sl ∉ A.all ps ∧ ∀ x ∈ L, x.1 ∉ A.all ps)
  sd : sl ≠ d
  ld : ∀ x ∈ L, x.1 ≠ d
section
variable {K : PySem.W.Frag} {C : Addr} {n : Nat} {d l ps : Addr} {i : Nat} {H H' : Hp} {t sl : Addr} {p pm : Nat → Nat} {L : List (Addr × List Nat)} {to : Int}
/-- a draw between -/
theorem Lp.draw (h : Lp K C n d l ps i H t sl p pm L to) (D' : DrawAt H' d l) (e : Sb d H H') : Lp K C n d l ps i H' t sl p pm L to := by
  obtain ⟨A, D, S, s1, s2, s3, s4, s5⟩ := h.st
  refine ⟨D', e.kps.sqt h.dr.noTup h.fo, h.F, e _ _ h.sd h.hsl, h.ls.keep e.kps h.ld, ⟨A, D, S, ?_, s2, s3, s4, s5⟩, h.sd, h.ld⟩
  refine s1.kps e.kps h.dr.noTup (fun a ha z => s5.1 (z ▸ ha)) fun x hx => ?_
  obtain ⟨ns, a1, a2, a3, hd, _⟩ := h.dr
  intro z
  have hdx : ∃ kv, H x = some (.dK kv) := by
    have hx' : x = D.fo ∨ x ∈ D.dp ∨ x ∈ D.df := by simpa [SDi.all] using hx
    rcases hx' with e1 | e1 | e1
    · obtain ⟨kv, k1, _⟩ := s1.fo
      exact ⟨kv, e1 ▸ k1⟩
    · obtain ⟨vs, _, v2⟩ := s1.pa
      exact v2.dict x e1
    · obtain ⟨vs, _, v2⟩ := s1.fu
      exact v2.dict x e1
  obtain ⟨kv, hkv⟩ := hdx
  rw [z, hd] at hkv
  cases hkv
/-- new objects between -/
theorem Lp.same (h : Lp K C n d l ps i H t sl p pm L to) (s : Same H H') : Lp K C n d l ps i H' t sl p pm L to := by
  obtain ⟨A, D, S, s1, s2⟩ := h.st
  exact ⟨h.dr.same s, same_sqt s h.fo, h.F, s _ _ h.hsl, h.ls.same s, ⟨A, D, S, s1.same s, s2⟩, h.sd, h.ld⟩
/-- another forest -/
theorem Lp.forest (h : Lp K C n d l ps i H t sl p pm L to) {t' : Addr} {q r : Nat → Nat} (ht : SqT K H t' (tupOf n q)) (F : Fo n q r) : Lp K C n d l ps i H t' sl q pm L to :=
  ⟨h.dr, ht, ⟨r, F⟩, h.hsl, h.ls, h.st, h.sd, h.ld⟩
theorem Lp.obj (h : Lp K C n d l ps i H t sl p pm L to) : ∃ dx fs, H ps = some (.ins C dx fs) ∧ ∀ m : Str, m ∉ stN → fs.lookup m = none := by
  obtain ⟨A, D, S, s1, _⟩ := h.st
  obtain ⟨dx, fs, h1, h2⟩ := s1.ob
  exact ⟨dx, fs, h1, h2.no⟩
/-- a command of the store -/
theorem Lp.ap {P : Program} {w : World} {mg : Str → Option Value} {base : Heap} {dL dA tc : Addr} {c : CEr} {cmd : Cmd} {q : Nat → Nat} {k : Int} {Q : VK} {E : XK} (h : Lp K C n d l ps i H t sl p pm L to) (hc : CmdAt K dL H tc cmd) (hok : CmdOk cmd) (hm : isMal cmd = false)
    (ha : ActOk P w K mg base dA c cmd) (hi : i ≤ 1000) (e : doC [(oakN, (n, pm))] cmd = .ok ([(oakN, (n, q))], k)) (hq : ∀ H', Lp K C n d l ps (i + 1) H' t sl p q L (to + k) → Q (.int k) H') :
    noE (spAp P w K mg base C dL dA c) [.ref ps, .ref tc] H Q E := by
  obtain ⟨A, D, S, s1, s2, s3, s4, s5, s6, s7, s8⟩ := h.st
  refine ap_ok s1 hc hok hm ha (by omega) (by rw [s2]; exact e) fun fu' D' H' kp nf hs => hq H' ?_
  have off : ∀ b o, H b = some o → b ∉ A.all ps → b ∉ SAd.all ps { A with fu := fu' } := fun b o hb h1 hm => by
    have h1' : ¬ (b = ps ∨ b = A.pa ∨ b = A.fu ∨ b = A.wa ∨ b = A.te) := by simpa [SAd.all] using h1
    have hm' : b = ps ∨ b = A.pa ∨ b = fu' ∨ b = A.wa ∨ b = A.te := by simpa [SAd.all] using hm
    rcases hm' with z | z | z | z | z
    · exact h1' (.inl z)
    · exact h1' (.inr (.inl z))
    · rw [z, nf] at hb; cases hb
    · exact h1' (.inr (.inr (.inr (.inl z))))
    · exact h1' (.inr (.inr (.inr (.inr z))))
  obtain ⟨ns, a1, a2, a3, hd, hl, _⟩ := id h.dr
  refine ⟨h.dr.kps kp s5 s6, kp.sqt s1.noTup h.fo, h.F, kp _ _ s7 h.hsl, h.ls.keep kp s8, ⟨_, _, _, hs, rfl, ?_, ?_, off _ _ hd s5, off _ _ hl s6, off _ _ h.hsl s7, fun x hx => off _ _ (h.ls x hx) (s8 x hx)⟩, h.sd, h.ld⟩
  · show S.to + k = to + k
    rw [s3]
  · show (S.past ++ [(S.M, S.to)]).length ≤ _
    rw [List.length_append]
    show S.past.length + 1 ≤ _
    omega
end
theorem filt_step {α : Type} {L : List α} {g : α → Bool} {j : Nat} {x : α} (hx : L[j]? = some x) : (L.take (j + 1)).filter g = (L.take j).filter g ++ (if g x = true then [x] else []) := by
  rw [List.take_add_one, hx, List.filter_append]
  congr 1
  show List.filter g [x] = _
  by_cases h : g x = true
  · rw [if_pos h, List.filter_cons, if_pos h]; rfl
  · rw [if_neg h, List.filter_cons, if_neg h]; rfl
theorem refsL_app (L M : List (Addr × List Nat)) : refsL (L ++ M) = refsL L ++ refsL M := by
  unfold refsL
  rw [List.map_append]
theorem refsL_len (L : List (Addr × List Nat)) : (refsL L).length = L.length := by
  unfold refsL
  rw [List.length_map]
theorem refsL_at {L : List (Addr × List Nat)} {j : Nat} {v : V} (h : (refsL L)[j]? = some v) : ∃ x, L[j]? = some x ∧ v = .ref x.1 := by
  unfold refsL at h
  rw [List.getElem?_map] at h
  obtain ⟨x, hx, rfl⟩ := Option.map_eq_some_iff.mp h
  exact ⟨x, hx, rfl⟩
theorem pickL {n v : Nat} {p : Nat → Nat} {L : List (Addr × List Nat)} (h : SetsOk n p (L.map (·.2))) (hv : v < n) : ∃ x, x ∈ L ∧ L.filter (fun x => decide (v ∈ x.2)) = [x] ∧ v ∈ x.2 := by
  obtain ⟨s, hs, e, hm⟩ := h.pick hv
  rw [List.filter_map] at e
  cases ef : L.filter ((fun x => decide (v ∈ x)) ∘ fun x : Addr × List Nat => x.2) with
  | nil => rw [ef] at e; cases e
  | cons x r =>
    rw [ef] at e
    cases r with
    | cons y r => cases e
    | nil =>
      have e1 : x.2 = s := by injection e
      have hx : x ∈ L.filter ((fun x => decide (v ∈ x)) ∘ fun x : Addr × List Nat => x.2) := by rw [ef]; exact List.mem_cons_self
      exact ⟨x, (List.mem_filter.mp hx).1, ef, by rw [e1]; exact hm⟩
def RelQ (n : Nat) (p q : Nat → Nat) (pk : Nat) (s t : List Nat) : Prop := ((pk = 0 ∨ s = t) → ∀ w, w < n → root q n w = root p n w) ∧ (pk ≠ 0 → s ≠ t → ∀ w, w < n → root q n w = if root p n w = hdS s then hdS t else root p n w)
theorem fnd_ok {n x : Nat} {q : Nat → Nat} (hx : x < n) : stepR n (.fnd (x : Int)) q = .ok (fnd n q x, ((ups q n x).length : Int)) := by
  rw [stepR, if_pos (by omega), Int.toNat_natCast]
theorem seq_ok {X : Type} {q q2 : X} {c c2 : Int} {f : X → Rs (X × Int)} (h : f q = .ok (q2, c2)) : (Rs.ok (q, c)).seq f = .ok (q2, c + c2) := by
  unfold Rs.seq
  dsimp only
  rw [h]
theorem run_ss {n u v : Nat} {p : Nat → Nat} {m : Int} (hu : u < n) (hv : v < n) (hm : m ≠ 0) : ∃ k, stepsR n [.fnd (u : Int), .rnd m false [.fnd (v : Int), .fnd (u : Int)]] p = .ok (fndAll n [u, v, u] p, k) := by
  have a3 : ∀ q, ∃ k, stepsR n [.fnd (u : Int)] q = .ok (fnd n q u, k) := fun q => ⟨_, by rw [stepsR_cons, fnd_ok hu]; exact seq_ok (stepsR_nil n _)⟩
  have h2 : ∀ q, ∃ k, stepsR n [.fnd (v : Int), .fnd (u : Int)] q = .ok (fndAll n [v, u] q, k) := fun q => by
    obtain ⟨k, hk⟩ := a3 (fnd n q v)
    exact ⟨_, by rw [stepsR_cons, fnd_ok hv]; exact seq_ok hk⟩
  obtain ⟨k, hk⟩ := h2 (fnd n p u)
  have h3 : stepR n (.rnd m false [.fnd (v : Int), .fnd (u : Int)]) (fnd n p u) = .ok (fndAll n [v, u] (fnd n p u), k + (m - 1) * lows (fndAll n [v, u] (fnd n p u)) [.fnd (v : Int), .fnd (u : Int)]) := by
    rw [stepR, if_neg hm, hk]
  obtain ⟨k4, h4⟩ : ∃ k4, stepsR n [.rnd m false [.fnd (v : Int), .fnd (u : Int)]] (fnd n p u) = .ok (fndAll n [v, u] (fnd n p u), k4) := ⟨_, by
    rw [stepsR_cons, h3]
    exact seq_ok (stepsR_nil n _)⟩
  exact ⟨_, by rw [stepsR_cons, fnd_ok hu]; exact seq_ok h4⟩
theorem eq_dec (a b : Nat) : decide (V.int (a : Int) = V.int (b : Int)) = decide (a = b) := by
  by_cases h : a = b
  · rw [h]; simp
  · have : V.int (a : Int) ≠ V.int (b : Int) := fun e => h (by injection e with e; exact Int.ofNat.inj e)
    rw [decide_eq_false this, decide_eq_false h]
theorem bits40 {u : Nat} (h : u < 40) : IntOk (u : Int) := bits_ok (z := (u : Int)) (by omega) (by omega)
theorem look_oak {n : Nat} {p : Nat → Nat} : look [(oakN, (n, p))] oakN = some (n, p) := by
  unfold look
  rfl
theorem put_oak {n : Nat} {p q : Nat → Nat} : putM [(oakN, (n, p))] oakN (n, q) = [(oakN, (n, q))] := by
  unfold putM
  rw [look_oak]
  rfl
theorem do_run {n : Nat} {p q : Nat → Nat} {ss : List Stp} {k : Int} (hk : stepsR n ss p = .ok (q, k)) : doC [(oakN, (n, p))] (.run oakN ss) = .ok ([(oakN, (n, q))], k) := by
  unfold doC
  dsimp only
  unfold withF
  rw [look_oak]
  dsimp only
  rw [hk]
  dsimp only
  rw [put_oak]
theorem do_link {n : Nat} {p q : Nat → Nat} {i j : Int} (hk : linkR n p i j = .ok q) : doC [(oakN, (n, p))] (.link oakN i j) = .ok ([(oakN, (n, q))], 0) := by
  unfold doC
  dsimp only
  unfold withF
  rw [look_oak]
  dsimp only
  rw [hk]
  dsimp only
  rw [put_oak]
theorem do_unite {n u v : Nat} {p : Nat → Nat} (hu : u < n) (hv : v < n) : doC [(oakN, (n, p))] (.unite oakN (u : Int) (v : Int)) = .ok ([(oakN, (n, uniF n p u v))], ((costs n [u, v] p).sum : Nat)) := by
  unfold doC
  dsimp only
  unfold withF
  rw [look_oak]
  dsimp only
  rw [if_pos (by omega), if_pos (by omega), Int.toNat_natCast, Int.toNat_natCast, put_oak]
theorem chk_root {n a : Nat} {p : Nat → Nat} (h : a < n) (pa : p a = a) : chkE n p (a : Int) = none := by
  unfold chkE
  rw [if_pos (by omega), Int.toNat_natCast, if_pos pa]
theorem link_ok {n a b : Nat} {p : Nat → Nat} (ha : a < n) (hb : b < n) (pa : p a = a) (pb : p b = b) (ne : a ≠ b) : linkR n p (a : Int) (b : Int) = .ok (lnk p a b) := by
  unfold linkR
  rw [chk_root ha pa]
  dsimp only
  rw [chk_root hb pb]
  dsimp only
  rw [if_neg (show ¬ ((a : Int) = (b : Int)) from fun e => ne (Int.ofNat.inj e)), Int.toNat_natCast, Int.toNat_natCast]
theorem uni_rel {n u v : Nat} {p r : Nat → Nat} (F : Fo n p r) (hu : u < n) (hv : v < n) : (root p n u = root p n v → ∀ w, w < n → root (uniF n p u v) n w = root p n w) ∧ (root p n u ≠ root p n v → ∀ w, w < n → root (uniF n p u v) n w = if root p n w = root p n u then root p n v else root p n w) := by
  have hl : ∀ z ∈ [u, v], z < n := by simp [hu, hv]
  have F2 : Fo n (fndAll n [u, v] p) r := fndAll_fo F _ hl p F
  refine ⟨fun e w hw => ?_, fun e w hw => ?_⟩
  · unfold uniF
    rw [if_pos e]
    exact behind_same_root F hl w hw
  · unfold uniF
    rw [if_neg e, lnk_root F2 (root_lt F u hu) (root_lt F v hv) (behind_root F hl _ (root_lt F u hu) (root_fix F u hu)) (behind_root F hl _ (root_lt F v hv) (root_fix F v hv)) e w hw, behind_same_root F hl w hw]
theorem eqv_nats (s t : List Nat) : PyData.eqv (.list ((s.map fun n : Nat => (n : Int)).map PyData.int)) (.list ((t.map fun n : Nat => (n : Int)).map PyData.int)) = decide (s = t) := by
  rw [eqv_lsts]
  by_cases h : s = t
  · rw [h, decide_eq_true rfl, decide_eq_true rfl]
  · rw [decide_eq_false h, decide_eq_false]
    exact fun e => h ((List.map_inj_right fun x y z => Int.ofNat.inj z).mp e)
theorem hd_at {s : List Nat} (h : s ≠ []) : atI (natsV s) 0 = some (vi (hdS s)) := by
  cases s with
  | nil => exact absurd rfl h
  | cons x r =>
    show atI (natsV (x :: r)) ((0 : Nat) : Int) = _
    exact atI_nat rfl
theorem StH.have {K : PySem.W.Frag} {H : Hp} {C p : Addr} {A : SAd} {D : SDi} {S : StS} (h : StH K H C p A D S) : ∀ a ∈ A.all p, ∃ o, H a = some o := by
  obtain ⟨dx, fs, o1, o2⟩ := h.ob
  obtain ⟨vs, p1, p2⟩ := h.pa
  obtain ⟨us, u1, u2⟩ := h.fu
  obtain ⟨kw, w1, w2⟩ := h.wa
  obtain ⟨kt, t1, t2⟩ := h.te
  intro b hb
  have hb' : b = p ∨ b = A.pa ∨ b = A.fu ∨ b = A.wa ∨ b = A.te := by simpa [SAd.all] using hb
  rcases hb' with rfl | rfl | rfl | rfl | rfl
  · exact ⟨_, o1⟩
  · exact ⟨_, p1⟩
  · exact ⟨_, u1⟩
  · exact ⟨_, w1⟩
  · exact ⟨_, t1⟩
/-- other sets -/
theorem Lp.sets {K : PySem.W.Frag} {C : Addr} {n : Nat} {d l ps : Addr} {i : Nat} {H H' : Hp} {t sl sl' : Addr} {p pm : Nat → Nat} {L L' : List (Addr × List Nat)} {to : Int} (h : Lp K C n d l ps i H t sl p pm L to) (s : Same H H') (nsl : H sl' = none) (hsl : H' sl' = some (.lst (refsL L'))) (hls : LsAt H' L') (hin : ∀ x ∈ L', x ∈ L ∨ H x.1 = none) :
    Lp K C n d l ps i H' t sl' p pm L' to := by
  have h' := h.same s
  obtain ⟨A, D, S, s1, s2, s3, s4, s5, s6, s7, s8⟩ := h.st
  have fresh : ∀ b, H b = none → b ∉ A.all ps := fun b hb hm => by
    obtain ⟨o, ho⟩ := s1.have b hm
    rw [hb] at ho
    cases ho
  refine ⟨h'.dr, h'.fo, h'.F, hsl, hls, ⟨A, D, S, s1.same s, s2, s3, s4, s5, s6, fresh _ nsl, fun x hx => ?_⟩, h.dr.ne nsl, fun x hx => ?_⟩
  · rcases hin x hx with z | z
    · exact s8 x z
    · exact fresh _ z
  · rcases hin x hx with z | z
    · exact h.ld x z
    · exact h.dr.ne z
theorem list_getD {n : Nat} {p : Nat → Nat} {v : Nat} (hv : v < n) : (intsOf n p).getD v 0 = (p v : Int) := by
  unfold intsOf
  rw [List.getD_eq_getElem?_getD, List.getElem?_map, List.getElem?_range hv]
  rfl
theorem fo_ver {n : Nat} {p r : Nat → Nat} (F : Fo n p r) (hn : n ≤ 40) : verdict (intsOf n p) = .ok := by
  have hl : (intsOf n p).length = n := by unfold intsOf; rw [List.length_map, List.length_range]
  have hp : ∀ v, v < n → par (intsOf n p) v = p v := fun v hv => by unfold par; rw [list_getD hv]; rfl
  refine ver_ok.mpr ⟨by rw [hl]; exact hn, fun v hv => ?_, fun v hv => ?_⟩
  · rw [hl] at hv
    unfold wideB
    rw [list_getD hv, hl, decide_eq_true (by omega), decide_eq_true (by have := F.lt v hv; omega)]
    rfl
  · rw [hl] at hv ⊢
    have e : ∀ k x, x < n → root (par (intsOf n p)) k x = root p k x := fun k => by
      induction k with
      | zero => exact fun x hx => rfl
      | succ k ih =>
        intro x hx
        show (if par (intsOf n p) x = x then x else root (par (intsOf n p)) k (par (intsOf n p) x)) = (if p x = x then x else root p k (p x))
        rw [hp x hx, ih _ (F.lt x hx)]
    unfold ringB
    rw [e n v hv, hp _ (root_lt F v hv), root_fix F v hv, decide_eq_true rfl]
    rfl
theorem rep_flat (k h : Nat) : (List.replicate k [vi h]).flatten = natsV (List.replicate k h) := by
  induction k with
  | zero => rfl
  | succ k ih => rw [List.replicate_succ, List.flatten_cons, ih]; rfl
theorem flat_sorted {n : Nat} {p r : Nat → Nat} (F : Fo n p r) {ns : List Int} (hpw : ns.Pairwise (· < ·)) (hm : ∀ k : Int, k ∈ ns ↔ decide (k ∈ intsOf n (fun v => root p n v)) = true) : ns = (rootsL n p).map (fun v : Nat => (v : Int)) := by
  refine sorted_eq' (hpw.imp fun h => by omega) (roots_sorted n p) (perm_nodup (hpw.imp fun h => by omega) (roots_nodup n p) fun x => ?_)
  rw [hm, decide_eq_true_iff, roots_mem]
  unfold intsOf
  rw [List.mem_map]
  constructor
  · rintro ⟨v, hv, rfl⟩
    have hv' := List.mem_range.mp hv
    exact ⟨root p n v, root_lt F v hv', root_fix F v hv', rfl⟩
  · rintro ⟨v, hv, e, rfl⟩
    exact ⟨v, List.mem_range.mpr hv, by show ((root p n v : Nat) : Int) = _; rw [root_of e]⟩
section
variable {P : Program} {w : World} {K : PySem.W.Frag} {mg : Str → Option Value} {base : Heap} {C : Addr} {c : CEr}
theorem act_new {dA g : Addr} (kD : KDct K w dA "new" (.ref g)) (h : HeldX P w K mg base 18 g (spNew K c)) : ∀ z xs, ActOk P w K mg base dA c (.new z xs) := fun z xs => ⟨g, _, kD, h, fun m args M H Q E hm hM ha hok q => by
  obtain ⟨l, kd, rfl, hk⟩ := ha
  exact ⟨m, l, z, kd, xs, M, rfl, hm, hM, hok.1.1, hok.1.2, hk, hok.2, q⟩⟩
theorem act_run {dA g : Addr} (kD : KDct K w dA "run" (.ref g)) (h : HeldX P w K mg base 18 g (spDRun K c 4)) : ∀ z ss, ActOk P w K mg base dA c (.run z ss) := fun z ss => ⟨g, _, kD, h, fun m args M H Q E hm hM ha hok q => by
  obtain ⟨b, kd, ys, rfl, hk, hs⟩ := ha
  obtain ⟨h1, h2, h3, h4, h5⟩ := hok
  exact ⟨m, b, z, kd, ys, ss, M, rfl, hm, hM, h1.1, hk, hs, h2, h3, by decide, h4, h5, q⟩⟩
theorem act_link {dA g : Addr} (kD : KDct K w dA "link" (.ref g)) (h : HeldX P w K mg base 18 g (spDLink K c)) : ∀ z i j, ActOk P w K mg base dA c (.link z i j) := fun z i j => ⟨g, _, kD, h, fun m args M H Q E hm hM ha hok q => by
  have e : args = [.str z, .int i, .int j] := ha
  subst e
  exact ⟨m, z, i, j, M, rfl, hm, hM, hok.1.1, hok.2.1, hok.2.2, q⟩⟩
theorem act_uni {dA g : Addr} (kD : KDct K w dA "unite" (.ref g)) (h : HeldX P w K mg base 18 g (spDUni K c)) : ∀ z i j, ActOk P w K mg base dA c (.unite z i j) := fun z i j => ⟨g, _, kD, h, fun m args M H Q E hm hM ha hok q => by
  have e : args = [.str z, .int i, .int j] := ha
  subst e
  exact ⟨m, z, i, j, M, rfl, hm, hM, hok.1.1, hok.2.1, hok.2.2, q⟩⟩
theorem ok_law {f fI fP fF' fT f1 fR fL fU dL dA : Addr} {fd dI dP dF dT d1 dR dL' dU : FuncData} (F : Fun K "law" "law" sLaw f fd) (T : Tx mg) (TC : StT K C) (z_sorted : mg "sorted" = none) (z_set : mg "set" = none)
    (k1 : Kx P w K mg base 1 "_law_start" sStart ["_law_script"] (spStart K)) (k2 : Kx P w K mg base 2 "_law_of" sOf ["_law_draw", "_law_some"] (spOf K)) (k3 : Kx P w K mg base 1 "_law_take" sTake ["_law_draw", "_law_many"] spTake)
    (kS : Kx P w K mg base 4 "_law_same" sSame ["_law_found", "_law_due"] (spSame K 3)) (x1 : KnX P w K mg base 4 "single_nodes" ["size"] (spSing2 K c.TM) f1 d1) (xR : KnX P w K mg base 17 "run_history" ["forest", "history"] (spRunH K c.NN c.NR c.SR 4) fR dR)
    (xL : KnX P w K mg base 7 "link" ["forest", "child", "above"] (spLinkB K c.NN c.NR c.SR) fL dL') (xU : KnX P w K mg base 9 "unite" ["forest", "one", "other"] (spUniteB K c.NN) fU dU)
    (k4 : Kx P w K mg base 1 "roots_of" sRootsOf ["forest"] (spRootsOf K)) (k5 : Kx P w K mg base 5 "is_forest" sIsFor ["parents"] (spIsFor K)) (k6 : Kx P w K mg base 4 "root_of" sRootOf ["forest", "node"] (spRootOf K)) (k7 : Kx P w K mg base 5 "flattened" sFlat ["forest"] (spFlat K))
    (kC : KSt P w K mg base C fI dI) (mF : KMs P w K mg base C 5 "forest_of" ["self", "name"] (noE (spSFB K C c)) fF' dF) (mP : KMs P w K mg base C 21 "apply" ["self", "command"] (noE (spAp P w K mg base C dL dA c)) fP dP) (mT : KMs P w K mg base C 1 "total_cost" ["self"] (spTC K C) fT dT)
    (aNew : ∀ z xs, ActOk P w K mg base dA c (.new z xs)) (aRun : ∀ z ss, ActOk P w K mg base dA c (.run z ss)) (aLink : ∀ z i j, ActOk P w K mg base dA c (.link z i j)) (aUni : ∀ z i j, ActOk P w K mg base dA c (.unite z i j)) :
    FnOk P w K mg base CX0 24 f fd ["_law_script"] (spLaw K) := by
  obtain ⟨_, _, k1⟩ := k1
  obtain ⟨_, _, k2⟩ := k2
  obtain ⟨_, _, k3⟩ := k3
  obtain ⟨_, _, k4⟩ := k4
  obtain ⟨_, _, k5⟩ := k5
  obtain ⟨_, _, k6⟩ := k6
  obtain ⟨_, _, k7⟩ := k7
  obtain ⟨_, _, kS⟩ := kS
  refine F.ok scLaw (fun vs H Q E h => ?_) (fun cdv A outer s H vs Q E hr h => ?_)
  · obtain ⟨a, ns, rfl, _⟩ := h
    rfl
  · obtain ⟨a, ns, rfl, hS, hlen, q⟩ := h
    have hrm : ∀ {j : Nat}, j ≤ 23 → Room j (A.deeper (envOfC "law" (defScope sLaw) s.heap.objs.size f cdv)) := fun h => hr.mono h
    have hrU := hr.units
    refine ⟨_, (pss_cons (ps_set (i := 1) scLaw.nd rfl (.inl rfl) (pe_call k1.G (hrm (by decide)) (by rfl) k1.g k1.F.kp k1.b .nil pass0 (pa_cons (pv 0) pa_nil)))
      (pss_cons (ps_set (i := 2) scLaw.nd rfl (.inl rfl) (pe_op op_add pe_int (pe_call k2.G (hrm (by decide)) (by rfl) k2.g k2.F.kp k2.b .nil pass0 (pa_cons (pv 1) (pa_cons (pe_lst (pa_cons (pe_call k3.G (hrm (by decide)) (by rfl) k3.g k3.F.kp k3.b .nil pass0 (pa_cons (pv 1) (pa_cons pe_int pa_nil))) (pa_cons (pe_call k3.G (hrm (by decide)) (by rfl) k3.g k3.F.kp k3.b .nil pass0 (pa_cons (pv 1) (pa_cons pe_int pa_nil))) pa_nil))) pa_nil)))))
      (pss_cons (ps_asg (pe_tup (pa_cons (pe_call (fn_noE x1.G) (hrm (by decide)) (by rfl) x1.g x1.kp x1.b .nil pass0 (pa_cons (pv 2) pa_nil)) (pa_cons pe_int (pa_cons (pe_lc (own := [("_law_node", 6)]) (g := gName 6) (by rfl) scLaw.nd (pi_range1 (by rfl) T.range (pa_cons (pv 2) pa_nil)) (blkOk_by (own := [("_law_node", 6)]) (N := lawN) (sc := defScope sLaw) (by decide +kernel)) (fun _ _ _ _ _ => (pg_name (i := 6) scLaw.nd rfl (.inl rfl))) (fun _ _ _ _ _ => pts_nil) (fun _ _ _ _ _ => (pe_lst (pa_cons (pv 6) pa_nil)))) pa_nil)))) (pg_tup rfl (pgs_cons (pg_name (i := 3) scLaw.nd rfl (.inr rfl)) (pgs_cons (pg_name (i := 4) scLaw.nd rfl (.inl rfl)) (pgs_cons (pg_name (i := 5) scLaw.nd rfl (.inl rfl)) pgs_nil)))))
      (pss_cons (ps_set (i := 7) scLaw.nd rfl (.inl rfl) (pe_make0 kC.mkc kC.ok (hrm (by decide)) (by rfl) kC.g kC.b .nil pass0))
      (pss_cons (ps_expr (pe_meth (pv 7) TC.cl mP.mt mP.ok (hrm (by decide)) mP.b .nil pass0 (pa_cons (pe_tup (pa_cons pe_str (pa_cons pe_str (pa_cons (pe_tupRg rfl (by rfl) T.tuple (prg_1 (by rfl) T.range (pv 2))) pa_nil)))) pa_nil)))
      (pss_cons (ps_for PassesOwn.never rfl (pi_range1 (by rfl) T.range (pa_cons (pe_call k3.G (hrm (by decide)) (by rfl) k3.g k3.F.kp k3.b .nil pass0 (pa_cons (pv 1) (pa_cons pe_int pa_nil))) pa_nil)) (pg_name (i := 8) scLaw.nd rfl (.inl rfl))
        (pss_cons (ps_asg (pe_tup (pa_cons (pe_call k3.G (hrm (by decide)) (by rfl) k3.g k3.F.kp k3.b .nil pass0 (pa_cons (pv 1) (pa_cons pe_int pa_nil))) (pa_cons (pe_call k3.G (hrm (by decide)) (by rfl) k3.g k3.F.kp k3.b .nil pass0 (pa_cons (pv 1) (pa_cons (pv 2) pa_nil))) (pa_cons (pe_call k3.G (hrm (by decide)) (by rfl) k3.g k3.F.kp k3.b .nil pass0 (pa_cons (pv 1) (pa_cons (pv 2) pa_nil))) pa_nil)))) (pg_tup rfl (pgs_cons (pg_name (i := 9) scLaw.nd rfl (.inl rfl)) (pgs_cons (pg_name (i := 10) scLaw.nd rfl (.inr rfl)) (pgs_cons (pg_name (i := 11) scLaw.nd rfl (.inr rfl)) pgs_nil)))))
        (pss_cons (ps_set (i := 12) scLaw.nd rfl (.inr rfl) (pe_ix (show IxR _ (rIx K) from ix_seq) (pe_lc (own := [("_law_some", 13)]) (g := gName 13) (by rfl) scLaw.nd (pi_list (pv 5)) (blkOk_by (own := [("_law_some", 13)]) (N := lawN) (sc := defScope sLaw) (by decide +kernel)) (fun _ _ _ _ _ => (pg_name (i := 13) scLaw.nd rfl (.inl rfl))) (fun _ _ _ _ _ => (pts_one (pt_cmpR (show OpR _ (compareOp .In) (rIn K false) from op_in_seq) (pv 10) (pv 13) (by rfl)))) (fun _ _ _ _ _ => (pv 13))) pe_int (fun _ _ => rfl)))
        (pss_cons (ps_set (i := 14) scLaw.nd rfl (.inr rfl) (pe_ix (show IxR _ (rIx K) from ix_seq) (pe_lc (own := [("_law_some", 13)]) (g := gName 13) (by rfl) scLaw.nd (pi_list (pv 5)) (blkOk_by (own := [("_law_some", 13)]) (N := lawN) (sc := defScope sLaw) (by decide +kernel)) (fun _ _ _ _ _ => (pg_name (i := 13) scLaw.nd rfl (.inl rfl))) (fun _ _ _ _ _ => (pts_one (pt_cmpR (show OpR _ (compareOp .In) (rIn K false) from op_in_seq) (pv 11) (pv 13) (by rfl)))) (fun _ _ _ _ _ => (pv 13))) pe_int (fun _ _ => rfl)))
        (C8.pss_cut (ps_if (pt_cmpR op_eq (pv 9) pe_int (nomark _))
          (pss_cons (ps_set (i := 15) scLaw.nd rfl (.inl rfl) (pe_tup (pa_cons (pv 10) (pa_cons (pe_tup (pa_cons pe_str (pa_cons (pe_op op_add pe_int (pe_call k3.G (hrm (by decide)) (by rfl) k3.g k3.F.kp k3.b .nil pass0 (pa_cons (pv 1) (pa_cons (pe_op op_pow pe_int pe_int) pa_nil)))) (pa_cons (pe_tup (pa_cons (pv 11) (pa_cons (pv 10) pa_nil))) pa_nil)))) pa_nil))))
          (pss_cons (ps_asg (pe_call (fn_noE xR.G) (hrm (by decide)) (by rfl) xR.g xR.kp xR.b .nil pass0 (pa_cons (pv 3) (pa_cons (pv 15) pa_nil))) (pg_tup rfl (pgs_cons (pg_name (i := 3) scLaw.nd rfl (.inr rfl)) (pgs_cons (pg_name (i := 16) scLaw.nd rfl (.inl rfl)) pgs_nil))))
          (pss_one (ps_set (i := 17) scLaw.nd rfl (.inl rfl) (pe_meth (pv 7) TC.cl mP.mt mP.ok (hrm (by decide)) mP.b .nil pass0 (pa_cons (pe_tup (pa_cons pe_str (pa_cons pe_str (pa_cons (pv 15) pa_nil)))) pa_nil)))))) (pss_one (ps_if (PW.pt (pw_and (pt_cmpR op_eq (pv 9) pe_int (nomark _)) (pw_and1 (pt_cmpR (op_neD hrU) (pv 12) (pv 14) (nomark _)))))
            (pss_cons (ps_asg (pe_tup (pa_cons (pe_call (fn_noE xL.G) (hrm (by decide)) (by rfl) xL.g xL.kp xL.b .nil pass0 (pa_cons (pv 3) (pa_cons (pe_ix (show IxR _ (rIx K) from ix_seq) (pv 12) pe_int (fun _ _ => rfl)) (pa_cons (pe_ix (show IxR _ (rIx K) from ix_seq) (pv 14) pe_int (fun _ _ => rfl)) pa_nil)))) (pa_cons pe_int pa_nil))) (pg_tup rfl (pgs_cons (pg_name (i := 3) scLaw.nd rfl (.inr rfl)) (pgs_cons (pg_name (i := 16) scLaw.nd rfl (.inl rfl)) pgs_nil))))
            (pss_one (ps_set (i := 17) scLaw.nd rfl (.inl rfl) (pe_meth (pv 7) TC.cl mP.mt mP.ok (hrm (by decide)) mP.b .nil pass0 (pa_cons (pe_tup (pa_cons pe_str (pa_cons pe_str (pa_cons (pe_ix (show IxR _ (rIx K) from ix_seq) (pv 12) pe_int (fun _ _ => rfl)) (pa_cons (pe_ix (show IxR _ (rIx K) from ix_seq) (pv 14) pe_int (fun _ _ => rfl)) pa_nil))))) pa_nil))))) (pss_cons (ps_asg (pe_call (fn_noE xU.G) (hrm (by decide)) (by rfl) xU.g xU.kp xU.b .nil pass0 (pa_cons (pv 3) (pa_cons (pv 10) (pa_cons (pv 11) pa_nil)))) (pg_tup rfl (pgs_cons (pg_name (i := 3) scLaw.nd rfl (.inr rfl)) (pgs_cons (pg_name (i := 16) scLaw.nd rfl (.inl rfl)) pgs_nil))))
            (pss_one (ps_set (i := 17) scLaw.nd rfl (.inl rfl) (pe_meth (pv 7) TC.cl mP.mt mP.ok (hrm (by decide)) mP.b .nil pass0 (pa_cons (pe_tup (pa_cons pe_str (pa_cons pe_str (pa_cons (pv 10) (pa_cons (pv 11) pa_nil))))) pa_nil))))))))
        (C8.pss_cut (ps_if (PW.pt (pw_and (pt_cmpR op_gt (pv 9) pe_int (nomark _)) (pw_and1 (pt_cmpR (op_neD hrU) (pv 12) (pv 14) (nomark _)))))
          (pss_one (ps_set (i := 5) scLaw.nd rfl (.inl rfl) (pe_op op_cat (pe_lc (own := [("_law_some", 13)]) (g := gName 13) (by rfl) scLaw.nd (pi_list (pv 5)) (blkOk_by (own := [("_law_some", 13)]) (N := lawN) (sc := defScope sLaw) (by decide +kernel)) (fun _ _ _ _ _ => (pg_name (i := 13) scLaw.nd rfl (.inl rfl))) (fun _ _ _ _ _ => (pts_one (PW.pt (pw_and (pt_cmpR (show OpR _ (compareOp .NotEq) (rNeD K) from op_neD hrU) (pv 13) (pv 12) (nomark _)) (pw_and1 (pt_cmpR (show OpR _ (compareOp .NotEq) (rNeD K) from op_neD hrU) (pv 13) (pv 14) (nomark _))))))) (fun _ _ _ _ _ => (pv 13))) (pe_lst (pa_cons (pe_op op_cat (pv 14) (pv 12)) pa_nil))))) pss_nil)
        (pss_cons (ps_set (i := 4) scLaw.nd rfl (.inl rfl) (pe_op op_add (pv 4) (pv 16)))
        (pss_cons (ps_if (pt_not (pt_val (pe_call kS.G (hrm (by decide)) (by rfl) kS.g kS.F.kp kS.b .nil pass0 (pa_cons (pe_lst (pa_cons (pe_meth (pv 7) TC.cl mF.mt mF.ok (hrm (by decide)) mF.b .nil pass0 (pa_cons pe_str pa_nil)) (pa_cons (pv 17) (pa_cons (pe_meth0 (pv 7) TC.cl mT.mt mT.ok (hrm (by decide)) mT.b .nil pass0) pa_nil)))) (pa_cons (pe_lst (pa_cons (pv 3) (pa_cons (pv 16) (pa_cons (pv 4) pa_nil)))) pa_nil)))))
          (pss_one (ps_ret pe_bl)) pss_nil)
        (pss_one (ps_if (PW.pt (pw_or (pt_cmpR (op_neD hrU) (pe_call k4.G (hrm (by decide)) (by rfl) k4.g k4.F.kp k4.b .nil pass0 (pa_cons (pv 3) pa_nil)) (pe_callB cr_sortedI (by rfl) z_sorted (by decide +kernel) (pa_cons (pe_lc (own := [("_law_some", 13)]) (g := gName 13) (by rfl) scLaw.nd (pi_list (pv 5)) (blkOk_by (own := [("_law_some", 13)]) (N := lawN) (sc := defScope sLaw) (by decide +kernel)) (fun _ _ _ _ _ => (pg_name (i := 13) scLaw.nd rfl (.inl rfl))) (fun _ _ _ _ _ => pts_nil) (fun _ _ _ _ _ => (pe_ix (show IxR _ (rIx K) from ix_seq) (pv 13) pe_int (fun _ _ => rfl)))) pa_nil)) (nomark _)) (pw_or1 (pt_not (pt_val (pe_call k5.G (hrm (by decide)) (by rfl) k5.g k5.F.kp k5.b .nil pass0 (pa_cons (pv 3) pa_nil)))))))
          (pss_one (ps_ret pe_bl)) pss_nil))))))))))
      (pss_cons (ps_for PassesOwn.never rfl (pi_list (pv 5)) (pg_name (i := 13) scLaw.nd rfl (.inl rfl))
        (pss_one (ps_if (pt_cmpR (op_neD hr.units) (pe_lc (own := [("_law_node", 6)]) (g := gName 6) (by rfl) scLaw.nd (pi_list (pv 13)) (blkOk_by (own := [("_law_node", 6)]) (N := lawN) (sc := defScope sLaw) (by decide +kernel)) (fun _ _ _ _ _ => (pg_name (i := 6) scLaw.nd rfl (.inl rfl))) (fun _ _ _ _ _ => pts_nil) (fun _ _ _ _ _ => (pe_call k6.G (hrm (by decide)) (by rfl) k6.g k6.F.kp k6.b .nil pass0 (pa_cons (pv 3) (pa_cons (pv 6) pa_nil))))) (pe_op op_rep (pe_lst (pa_cons (pe_ix (show IxR _ (rIx K) from ix_seq) (pv 13) pe_int (fun _ _ => rfl)) pa_nil)) (pe_callB call_len_seq (by rfl) T.len PySem.boot_len (pa_cons (pv 13) pa_nil))) (nomark _))
          (pss_one (ps_ret pe_bl)) pss_nil)))
      (pss_one (ps_ret (pe_cmpR (op_eqD hrU) (pe_callB (cr_sortedSet rfl) (by rfl) z_sorted (by decide +kernel) (pa_cons (pe_callTy (cr_setT rfl) (by rfl) z_set (by decide +kernel) (pa_cons (pe_call k7.G (hrm (by decide)) (by rfl) k7.g k7.F.kp k7.b .nil pass0 (pa_cons (pv 3) pa_nil)) pa_nil)) pa_nil)) (pe_call k4.G (hrm (by decide)) (by rfl) k4.g k4.F.kp k4.b .nil pass0 (pa_cons (pv 3) pa_nil)) (nomark _))))))))))), ?_⟩
    refine ⟨_, rfl, a, ns, rfl, hS, hlen, fun d l H0 nd hD0 s0 => ?_⟩
    refine ⟨_, rfl, _, rfl, d, l, 40, rfl, hD0, by decide, by decide, fun u1 H1 hu1 hD1 sb1 => ?_⟩
    refine ⟨_, rfl, d, l, 8, rfl, hD1, by decide, by decide, fun u2 H2 hu2 hD2 sb2 => ?_⟩
    refine ⟨by show 2 ≤ sizeLine; decide, fun la nla => ?_⟩
    refine ⟨d, l, la, _, rfl, hD2.new nla, hD2.ne nla, SqL.of upd_same, by show 1 ≤ 2; decide, by show 2 ≤ 1000; decide, fun i v H3 hv hD3 sb3 => ?_⟩
    obtain ⟨m, rfl, hm⟩ : ∃ m : Nat, v = V.int (m : Int) ∧ m < 40 := by
      cases i with
      | zero => cases hv; exact ⟨u1, rfl, by omega⟩
      | succ i =>
        cases i with
        | zero => cases hv; exact ⟨u2, rfl, by omega⟩
        | succ i => simp at hv
    refine ⟨1, m, rfl, rfl, ?_⟩
    show gName 2 (V.int (1 + (m : Int))) _ _ _
    obtain ⟨n, hn, hn1, hn40⟩ : ∃ n : Nat, (1 + (m : Int)) = (n : Int) ∧ 1 ≤ n ∧ n ≤ 40 := ⟨m + 1, by omega, by omega, by omega⟩
    rw [hn]
    refine ⟨_, rfl, n, rfl, .inl ⟨hn40, fun t H4 nt ht s4 => ?_⟩⟩
    rw [show rgV 0 (n : Int) = tupOf n (fun v => v) from rgV_nat2 n] at ht
    have hD4 := hD3.same s4
    have ntd := hD4.net ht
    refine ⟨_, rfl, ?_⟩
    refine ⟨_, rfl, by omega, by omega, fun D0 nD0 => ?_⟩
    have hD0d : D0 ≠ d := hD4.ne nD0
    refine lc_range (lo := 0) (n := ((n : Nat) : Int).toNat) (fun j H' => ∃ L, H' D0 = some (.lst (refsL L)) ∧ L.map (·.2) = (List.range j).map (fun v => [v]) ∧ LsAt H' L ∧ (∀ x ∈ L, x.1 ≠ D0 ∧ x.1 ≠ d) ∧ Same H4 H')
      ⟨[], upd_same, rfl, (fun x h => by cases h), (fun x h => by cases h), same_new nD0⟩ ?_ ?_
    · rintro j H' hj ⟨L, h1, h2, h3, h4, s'⟩
      refine ⟨rfl, ?_⟩
      unfold tYes
      dsimp only
      rw [if_pos rfl]
      refine ⟨_, rfl, by show 1 ≤ sizeLine; decide, fun x nx => ?_⟩
      have hxD : x ≠ D0 := fun e => by rw [e, h1] at nx; cases nx
      have hxd : x ≠ d := (hD4.same s').ne nx
      have hll : L.length = j := by have := congrArg List.length h2; rw [List.length_map, List.length_map, List.length_range] at this; exact this
      refine ⟨_, by rw [upd_ne (Ne.symm hxD)]; exact h1, Nat.lt_of_le_of_lt (show (refsL L).length ≤ 1000 by unfold refsL; rw [List.length_map]; omega) (by decide), L ++ [(x, [j])], ?_, ?_, ?_, ?_, ?_⟩
      · rw [upd_same]
        unfold refsL
        rw [List.map_append]
        rfl
      · rw [List.map_append, h2, List.range_succ, List.map_append]
        rfl
      · intro y hy
        rcases List.mem_append.mp hy with hy | hy
        · rw [upd_ne (h4 y hy).1, upd_ne (ne_of_none (h3 y hy) nx)]
          exact h3 y hy
        · rw [List.mem_singleton.mp hy, upd_ne hxD, upd_same]
          show some (HO.lst [V.int (0 + (j : Int))]) = _
          rw [Int.zero_add]
          rfl
      · intro y hy
        rcases List.mem_append.mp hy with hy | hy
        · exact h4 y hy
        · rw [List.mem_singleton.mp hy]; exact ⟨hxD, hxd⟩
      · exact fun b o hb => by
          have hb1 := s' _ _ hb
          rw [upd_ne (fun e => by rw [e, nD0] at hb; cases hb), upd_ne (ne_of_none hb1 nx)]
          exact hb1
    rintro H5 ⟨L, hL1, hL2, hL3, hL4, s5⟩
    rw [show ((n : Nat) : Int).toNat = n by omega] at hL2
    refine ⟨by show 3 ≤ sizeLine; decide, fun tt ntt => ?_⟩
    refine ⟨tt, _, rfl, SqT.of upd_same, rfl, _, _, rfl, _, _, rfl, _, _, rfl, rfl, ?_⟩
    have s5t := same_new (o := .tup [V.ref t, .int 0, .ref D0]) ntt
    generalize upd H5 tt (.tup [V.ref t, .int 0, .ref D0]) = H5t at s5t ⊢
    refine fun ps dx nps ndx ndp => ⟨ps, dx, rfl, upd_same, fun fo pa fu wa te fs H6 nfo npa nfu nwa nte e1 e2 e3 e4 hp6 hF6 f1 f2 f3 f4 f5 sx => ⟨rfl, ?_⟩⟩
    have old : ∀ b o, H5t b = some o → b ≠ ps ∧ b ≠ dx := fun b o hb => ⟨fun e => (by rw [e, nps] at hb; cases hb), fun e => (by rw [e, ndx] at hb; cases hb)⟩
    have old2 : ∀ b o y, H5t b = some o → upd (upd H5t dx (.own ps)) ps (.ins C dx []) y = none → b ≠ y := fun b o y hb hy e => by
      obtain ⟨o1, o2⟩ := old b o hb
      rw [← e, upd_ne o1, upd_ne o2, hb] at hy
      cases hy
    have s6 : Same H5t H6 := fun b o hb => by
      obtain ⟨o1, o2⟩ := old b o hb
      exact sx b o (by rw [upd_ne o1, upd_ne o2]; exact hb) o1
    have hoff : ∀ b o, H5t b = some o → b ∉ SAd.all ps ⟨pa, fu, wa, te⟩ := fun b o hb hm => by
      have hm' : b = ps ∨ b = pa ∨ b = fu ∨ b = wa ∨ b = te := by simpa [SAd.all] using hm
      rcases hm' with z | z | z | z | z
      · exact (old b o hb).1 z
      · exact old2 b o pa hb npa z
      · exact old2 b o fu hb nfu z
      · exact old2 b o wa hb nwa z
      · exact old2 b o te hb nte z
    have hSt6 := stH_new (K := K) (C := C) e1 e2 e3 e4 hp6 hF6 f1 f2 f3 f4 f5
    have sAll : Same H4 H6 := s5.trans (s5t.trans s6)
    refine ⟨_, rfl, ps, dx, fs, rfl, hp6, hF6.no _ (by decide +kernel), ?_⟩
    refine ⟨_, rfl, (n : Int), rfl, rgOk_nat (by omega), fun q1 nq1 => ?_⟩
    refine ⟨by show 3 ≤ sizeLine; decide, fun tc ntc => ?_⟩
    show noE (spAp P w K mg base C dL dA c) [V.ref ps, V.ref tc] _ _ (fun _ _ _ => False)
    rw [show rgV 0 (n : Int) = (idxs n).map V.int from (rgV_nat2 n).trans (idxs_vals n).symm] at ntc ⊢
    have s7 := same_new (o := .tup ((idxs n).map V.int)) nq1
    have hq7 : upd H6 q1 (.tup ((idxs n).map V.int)) q1 = some (.tup ((idxs n).map V.int)) := upd_same
    have s8 := same_new (o := .tup [V.str "new", V.str "oak", V.ref q1]) ntc
    have htc8 : upd (upd H6 q1 (.tup ((idxs n).map V.int))) tc (.tup [V.str "new", V.str "oak", V.ref q1]) tc = some (.tup [V.str "new", V.str "oak", V.ref q1]) := upd_same
    have hq8 := s8 _ _ hq7
    have s68 := s7.trans s8
    refine ap_ok (cmd := .new oakN (idxs n)) (k := 0) (hSt6.same s68) ⟨_, SqT.of htc8, q1, false, rfl, (show SqT K _ _ _ from SqT.of hq8)⟩ ⟨⟨by decide, by decide +kernel⟩, by rw [idxs_len]; omega⟩ rfl (aNew _ _) (by decide) (do_first hn40) fun fu' D' H9 k9 nfu' hSt9 => ?_
    generalize upd (upd H6 q1 (.tup ((idxs n).map V.int))) tc (.tup [V.str "new", V.str "oak", V.ref q1]) = H8 at s8 htc8 hq8 s68 k9 nfu'
    have s58 := s6.trans s68
    have hoff' : ∀ b o, H5t b = some o → b ∉ SAd.all ps ⟨pa, fu', wa, te⟩ := fun b o hb hm => by
      have hm' : b = ps ∨ b = pa ∨ b = fu' ∨ b = wa ∨ b = te := by simpa [SAd.all] using hm
      have h1 := hoff b o hb
      have h1' : ¬ (b = ps ∨ b = pa ∨ b = fu ∨ b = wa ∨ b = te) := by simpa [SAd.all] using h1
      rcases hm' with z | z | z | z | z
      · exact h1' (.inl z)
      · exact h1' (.inr (.inl z))
      · have := s58 b o hb
        rw [z, nfu'] at this
        cases this
      · exact h1' (.inr (.inr (.inr (.inl z))))
      · exact h1' (.inr (.inr (.inr (.inr z))))
    have k59 : ∀ b o, H5t b = some o → H9 b = some o := fun b o hb => k9 b o (hoff b o hb) (s58 b o hb)
    have hD5 := (hD4.same s5).same s5t
    obtain ⟨dns, di, dj, dk, hdd, hdl, hdr⟩ := id hD5
    have hOk9 : SetsOk n (par (idxs n)) (L.map (·.2)) := by
      rw [hL2]
      exact (sets_start n).keep fun v hv => by rw [root_of (par_idxs hv), root_of (p := fun v => v) rfl]
    have hLp9 : Lp K C n d l ps 0 H9 t D0 (par (idxs n)) (par (idxs n)) L 0 := by
      refine ⟨⟨dns, di, dj, dk, k59 _ _ hdd, k59 _ _ hdl, hdr⟩, ?_, ⟨_, idxs_fo n⟩, k59 _ _ (s5t _ _ hL1), fun x hx => k59 _ _ (s5t _ _ (hL3 x hx)), ⟨_, _, _, hSt9, rfl, rfl, Nat.le_refl 1, hoff' _ _ hdd, hoff' _ _ hdl, hoff' _ _ (s5t _ _ hL1), fun x hx => hoff' _ _ (s5t _ _ (hL3 x hx))⟩, hD0d, fun x hx => (hL4 x hx).2⟩
      rw [← tupOf_congr (p := fun v => v) fun v hv => (par_idxs hv).symm]
      exact SqT.of (k59 _ _ (s5t _ _ (s5 _ _ ht)))
    clear hoff hoff' k59 hD5 hdd hdl hdr s58 k9 nfu' hSt9 hq8 htc8 s8 s68 old old2 s6 sAll hSt6 sx
    refine ⟨_, rfl, d, l, 31, rfl, hLp9.dr, by decide, by decide, fun rr H10 hr10 hD10 sb10 => ?_⟩
    have hLp10 := hLp9.draw hD10 sb10
    clear hLp9 hD10 sb10
    refine ⟨_, rfl, by omega, by omega, ?_⟩
    refine for_range (lo := 0) (n := ((rr : Nat) : Int).toNat) (fun i σ H' => ∃ t sl p L to, (∃ y6 y8 y9 y10 y11 y12 y13 y14 y15 y16 y17, σ = [some (.ref a), some (.ref d), some (.int n), some (.ref t), some (.int to), some (.ref sl), y6, some (.ref ps), y8, y9, y10, y11, y12, y13, y14, y15, y16, y17]) ∧ Lp K C n d l ps i H' t sl p p L to ∧ SetsOk n p (L.map (·.2)))
      ⟨t, D0, _, L, 0, ⟨_, _, _, _, _, _, _, _, _, _, _, rfl⟩, hLp10, hOk9⟩ ?_ ?_
    · rintro i σ H' hi ⟨t, sl, p, L, to, ⟨y6, y8, y9, y10, y11, y12, y13, y14, y15, y16, y17, rfl⟩, hL, hOk⟩
      have hn1000 : ((n : Nat) : Int).natAbs < 2 ^ 1000 := Nat.lt_of_le_of_lt (show ((n : Nat) : Int).natAbs ≤ 40 by omega) (by decide)
      refine ⟨_, rfl, d, l, 4, rfl, hL.dr, by decide, by decide, fun pk H1 hpk hD1 sb1 => ?_⟩
      replace hL := hL.draw hD1 sb1
      refine ⟨_, rfl, _, rfl, d, l, n, rfl, hL.dr, by omega, hn1000, fun u H2 hu hD2 sb2 => ?_⟩
      replace hL := hL.draw hD2 sb2
      refine ⟨_, rfl, _, rfl, d, l, n, rfl, hL.dr, by omega, hn1000, fun v H3 hv hD3 sb3 => ?_⟩
      replace hL := hL.draw hD3 sb3
      clear sb1 sb2 sb3 hD1 hD2 hD3 hn1000
      refine ⟨by show 3 ≤ sizeLine; decide, fun t3 nt3 => ?_⟩
      refine ⟨t3, _, rfl, SqT.of upd_same, rfl, _, _, rfl, _, _, rfl, _, _, rfl, rfl, ?_⟩
      replace hL := hL.same (same_new (o := .tup [V.int pk, .int u, .int v]) nt3)
      generalize upd H3 t3 (.tup [V.int pk, .int u, .int v]) = H4' at hL ⊢
      obtain ⟨xf, hxf, ef, mf⟩ := pickL hOk (show u < n by omega)
      obtain ⟨xs, hxs, es, ms⟩ := pickL hOk (show v < n by omega)
      have hLl : L.length ≤ 40 := by have := hOk.len; rw [List.length_map] at this; omega
      refine ⟨_, rfl, sl, rfl, ⟨_, SqL.of hL.hsl⟩, fun D1 nD1 => ?_⟩
      refine lc_list (K := K) (a := sl) (xs := refsL L) (fun j H' => H' D1 = some (.lst (refsL ((L.take j).filter fun x => decide (u ∈ x.2)))) ∧ Same H4' H') ⟨upd_same, same_new nD1⟩ (fun j H' _ h => SqL.of (h.2 _ _ hL.hsl)) ?_ ?_
      · rintro j y H' hy ⟨hD', s'⟩
        obtain ⟨x, hx, rfl⟩ := refsL_at hy
        refine ⟨rfl, _, rfl, _, rfl, x.1, _, rfl, .inl (SqL.of (s' _ _ (hL.ls x (List.mem_of_getElem? hx)))), rfl, flat_nats _, ?_⟩
        refine ⟨_, rfl, ?_⟩
        rw [show (if false = true then !inV (V.int (u : Int)) (natsV x.2) else inV (V.int (u : Int)) (natsV x.2)) = decide (u ∈ x.2) from inV_nats _ _]
        have fs := filt_step (g := fun x : Addr × List Nat => decide (u ∈ x.2)) hx
        cases hc : decide (u ∈ x.2) with
        | true =>
          refine iteT ⟨_, rfl, _, hD', ?_, ?_, same_over s' nD1⟩
          · rw [refsL_len]
            exact Nat.lt_of_le_of_lt (Nat.le_trans (List.length_filter_le _ _) (by rw [List.length_take]; exact Nat.le_trans (Nat.min_le_right _ _) hLl)) (by decide)
          · rw [upd_same, fs, if_pos hc, refsL_app]; rfl
        | false => exact iteF ⟨by rw [fs, if_neg (by rw [hc]; exact Bool.false_ne_true), List.append_nil]; exact hD', s'⟩
      rintro H5' ⟨hD1, s5'⟩
      rw [refsL_len, List.take_length, ef] at hD1
      replace hL := hL.same s5'
      refine .inl ⟨D1, _, 0, V.ref xf.1, rfl, rfl, SqL.of hD1, rfl, ?_⟩
      clear s5' hD1 nD1
      refine ⟨_, rfl, sl, rfl, ⟨_, SqL.of hL.hsl⟩, fun D2 nD2 => ?_⟩
      refine lc_list (K := K) (a := sl) (xs := refsL L) (fun j H' => H' D2 = some (.lst (refsL ((L.take j).filter fun x => decide (v ∈ x.2)))) ∧ Same H5' H') ⟨upd_same, same_new nD2⟩ (fun j H' _ h => SqL.of (h.2 _ _ hL.hsl)) ?_ ?_
      · rintro j y H' hy ⟨hD', s'⟩
        obtain ⟨x, hx, rfl⟩ := refsL_at hy
        refine ⟨rfl, _, rfl, _, rfl, x.1, _, rfl, .inl (SqL.of (s' _ _ (hL.ls x (List.mem_of_getElem? hx)))), rfl, flat_nats _, ?_⟩
        refine ⟨_, rfl, ?_⟩
        rw [show (if false = true then !inV (V.int (v : Int)) (natsV x.2) else inV (V.int (v : Int)) (natsV x.2)) = decide (v ∈ x.2) from inV_nats _ _]
        have fs := filt_step (g := fun x : Addr × List Nat => decide (v ∈ x.2)) hx
        cases hc : decide (v ∈ x.2) with
        | true =>
          refine iteT ⟨_, rfl, _, hD', ?_, ?_, same_over s' nD2⟩
          · rw [refsL_len]
            exact Nat.lt_of_le_of_lt (Nat.le_trans (List.length_filter_le _ _) (by rw [List.length_take]; exact Nat.le_trans (Nat.min_le_right _ _) hLl)) (by decide)
          · rw [upd_same, fs, if_pos hc, refsL_app]; rfl
        | false => exact iteF ⟨by rw [fs, if_neg (by rw [hc]; exact Bool.false_ne_true), List.append_nil]; exact hD', s'⟩
      rintro H6' ⟨hD2, s6'⟩
      rw [refsL_len, List.take_length, es] at hD2
      replace hL := hL.same s6'
      refine .inl ⟨D2, _, 0, V.ref xs.1, rfl, rfl, SqL.of hD2, rfl, ?_⟩
      clear s6' hD2 nD2
      show C8.tCut _ _ _ [some (.ref a), some (.ref d), some (.int n), some (.ref t), some (.int to), some (.ref sl), y6, some (.ref ps), some (.int (0 + (i : Int))), some (.int pk), some (.int u), some (.int v), some (.ref xf.1), y13, some (.ref xs.1), y15, y16, y17] H6'
      refine ⟨fun σ H' => ∃ t' q k z15, σ = [some (.ref a), some (.ref d), some (.int n), some (.ref t'), some (.int to), some (.ref sl), y6, some (.ref ps), some (.int (0 + (i : Int))), some (.int pk), some (.int u), some (.int v), some (.ref xf.1), y13, some (.ref xs.1), z15, some (.int k), some (.int k)] ∧ Lp K C n d l ps (i + 1) H' t' sl q q L (to + k) ∧ RelQ n p q pk xf.2 xs.2, ?_, ?_⟩
      · have hru : root p n u = hdS xf.2 := hOk.rt _ (List.mem_map.mpr ⟨xf, hxf, rfl⟩) u mf
        have hrv : root p n v = hdS xs.2 := hOk.rt _ (List.mem_map.mpr ⟨xs, hxs, rfl⟩) v ms
        have hun : u < n := by omega
        have hvn : v < n := by omega
        obtain ⟨r, hF⟩ := hL.F
        refine ⟨_, rfl, ?_⟩
        refine ⟨rfl, _, rfl, ?_⟩
        rw [show decide (V.int (pk : Int) = V.int 0) = decide (pk = 0) from eq_dec pk 0]
        by_cases h0 : pk = 0
        · rw [decide_eq_true h0]
          refine iteT ?_
          refine ⟨_, rfl, _, rfl, 10, 9, rfl, rfl, ⟨by decide, by decide, by decide⟩, ?_⟩
          refine ⟨d, l, 10 ^ 9, rfl, hL.dr, by decide, by decide, fun rk H8 hrk hD8 sb8 => ?_⟩
          replace hL := hL.draw hD8 sb8
          refine ⟨2, rk, rfl, rfl, ?_⟩
          refine ⟨_, rfl, _, rfl, by show 2 ≤ sizeLine; decide, fun ti nti => ?_⟩
          refine ⟨by show 3 ≤ sizeLine; decide, fun tr ntr => ?_⟩
          refine ⟨by show 2 ≤ sizeLine; decide, fun ts nts => ?_⟩
          have s9 := ((same_new (o := .tup [V.int v, .int u]) nti).trans (same_new (o := .tup [V.str "repeat", .int (2 + (rk : Int)), .ref ti]) ntr)).trans (same_new (o := .tup [V.int u, .ref tr]) nts)
          have hti : upd (upd (upd H8 ti (.tup [V.int v, .int u])) tr (.tup [V.str "repeat", .int (2 + (rk : Int)), .ref ti])) ts (.tup [V.int u, .ref tr]) ti = some (.tup [V.int v, .int u]) := same_new nts _ _ (same_new ntr _ _ upd_same)
          have htr : upd (upd (upd H8 ti (.tup [V.int v, .int u])) tr (.tup [V.str "repeat", .int (2 + (rk : Int)), .ref ti])) ts (.tup [V.int u, .ref tr]) tr = some (.tup [V.str "repeat", .int (2 + (rk : Int)), .ref ti]) := same_new nts _ _ upd_same
          have hts : upd (upd (upd H8 ti (.tup [V.int v, .int u])) tr (.tup [V.str "repeat", .int (2 + (rk : Int)), .ref ti])) ts (.tup [V.int u, .ref tr]) ts = some (.tup [V.int u, .ref tr]) := upd_same
          generalize upd (upd (upd H8 ti (.tup [V.int v, .int u])) tr (.tup [V.str "repeat", .int (2 + (rk : Int)), .ref ti])) ts (.tup [V.int u, .ref tr]) = H9 at s9 hti htr hts ⊢
          replace hL := hL.same s9
          have hst : StsAt H9 [V.int u, .ref tr] [.fnd (u : Int), .rnd (2 + (rk : Int)) false [.fnd (v : Int), .fnd (u : Int)]] := .cons (.fnd _) (.cons (.rnd (kd := false) htr hti (.cons (.fnd _) (.cons (.fnd _) .nil))) .nil)
          obtain ⟨k, hk⟩ := run_ss (p := p) (m := 2 + (rk : Int)) hun hvn (by omega)
          have hwf : Wfs true [.fnd (u : Int), .rnd (2 + (rk : Int)) false [.fnd (v : Int), .fnd (u : Int)]] := by
            simp only [Wfs, Wf, true_and, and_true]
            unfold lim30
            omega
          have hsm : Smls [.fnd (u : Int), .rnd (2 + (rk : Int)) false [.fnd (v : Int), .fnd (u : Int)]] := by
            simp only [Smls, Sml, and_true]
            exact ⟨bits40 (by omega), bits40 (by omega), bits40 (by omega)⟩
          have hne : nests [.fnd (u : Int), .rnd (2 + (rk : Int)) false [.fnd (v : Int), .fnd (u : Int)]] = 1 := rfl
          have hnw : nWrs [.fnd (u : Int), .rnd (2 + (rk : Int)) false [.fnd (v : Int), .fnd (u : Int)]] = 4 := rfl
          have hlt : ∀ x ∈ [u, v, u], x < n := by simp [hun, hvn]
          generalize [Stp.fnd (u : Int), .rnd (2 + (rk : Int)) false [.fnd (v : Int), .fnd (u : Int)]] = ss at hst hk hwf hsm hne hnw
          refine ⟨_, rfl, _, rfl, false, t, ts, _, ss, n, p, r, rfl, hL.fo, by omega, hF, hts, hst, hwf, by omega, by decide, by omega, hsm, ?_⟩
          rw [hk]
          intro t2 g H10' nt2 ht2 hg s10'
          have hFg : Fo n (fndAll n [u, v, u] p) r := fndAll_fo hF _ hlt p hF
          replace hL := (hL.same s10').forest hg hFg
          have hts10 := s10' _ _ hts
          have hst10 := hst.same s10'
          refine ⟨t2, _, rfl, SqT.of ht2, rfl, _, _, rfl, _, _, rfl, rfl, ?_⟩
          obtain ⟨dx, fs, hob, hno⟩ := hL.obj
          refine ⟨_, rfl, ps, dx, fs, rfl, hob, hno _ (by decide +kernel), ?_⟩
          refine ⟨_, rfl, by show 3 ≤ sizeLine; decide, fun tc ntc => ?_⟩
          show noE (spAp P w K mg base C dL dA c) [V.ref ps, V.ref tc] _ _ (fun _ _ _ => False)
          have s11 := same_new (o := .tup [V.str "run", V.str "oak", V.ref ts]) ntc
          have htc : upd H10' tc (.tup [V.str "run", V.str "oak", V.ref ts]) tc = some (.tup [V.str "run", V.str "oak", V.ref ts]) := upd_same
          refine (hL.same s11).ap (cmd := .run oakN ss) ⟨_, SqT.of htc, ts, false, _, rfl, s11 _ _ hts10, hst10.same s11⟩ ⟨⟨by decide, by decide +kernel⟩, hwf, by omega, by omega, hsm⟩ rfl (aRun _ _) (by omega) (q := fndAll n [u, v, u] p) (k := k) ?_ fun H' hL' => ?_
          · exact do_run hk
          · exact ⟨g, _, k, _, rfl, hL', fun _ w hw => behind_same_root hF hlt w hw, fun h => absurd h0 h⟩
        · rw [decide_eq_false h0]
          refine iteF ?_
          have hfx := hL.ls xf hxf
          have hsx := hL.ls xs hxs
          have hfne : xf.2 ≠ [] := hOk.ne _ (List.mem_map.mpr ⟨xf, hxf, rfl⟩)
          have hsne : xs.2 ≠ [] := hOk.ne _ (List.mem_map.mpr ⟨xs, hxs, rfl⟩)
          refine ⟨_, rfl, rfl, _, rfl, ?_⟩
          rw [show decide (V.int (pk : Int) = V.int 1) = decide (pk = 1) from eq_dec pk 1]
          have hR : RelQ n p (uniF n p u v) pk xf.2 xs.2 := by
            obtain ⟨r1, r2⟩ := uni_rel hF hun hvn
            rw [hru, hrv] at r1 r2
            exact ⟨fun h => r1 (by rw [h.resolve_left h0]), fun _ hne => r2 fun e => hne (hOk.inj (List.mem_map.mpr ⟨xf, hxf, rfl⟩) (List.mem_map.mpr ⟨xs, hxs, rfl⟩) e)⟩
          by_cases h1 : pk = 1
          · rw [decide_eq_true h1]
            refine iteT ?_
            refine ⟨_, rfl, _, rfl, _, _, dp_nats (SqL.of hfx), dp_nats (SqL.of hsx), shaped_lst _, shaped_lst _, _, rfl, ?_⟩
            rw [eqv_nats]
            by_cases hst : xf.2 = xs.2
            · rw [decide_eq_true hst]
              refine iteF ?_
              refine ⟨_, rfl, _, rfl, _, rfl, t, n, p, r, (u : Int), (v : Int), [u, v], rfl, hL.fo, by omega, hF, ?_⟩
              refine ⟨by simp [hun, hvn], .inl ⟨rfl, fun u' v' huv t2 g H8 nt2 ht2 hg s8 => ?_⟩⟩
              cases huv
              obtain ⟨r', hFu⟩ := uni_fo hF hun hvn
              replace hL := (hL.same s8).forest hg hFu
              refine ⟨t2, _, rfl, SqT.of ht2, rfl, _, _, rfl, _, _, rfl, rfl, ?_⟩
              obtain ⟨dx, fs, hob, hno⟩ := hL.obj
              refine ⟨_, rfl, ps, dx, fs, rfl, hob, hno _ (by decide +kernel), ?_⟩
              refine ⟨_, rfl, _, rfl, by show 4 ≤ sizeLine; decide, fun tc ntc => ?_⟩
              show noE (spAp P w K mg base C dL dA c) [V.ref ps, V.ref tc] _ _ (fun _ _ _ => False)
              have s11 := same_new (o := .tup [V.str "unite", V.str "oak", V.int (u : Int), V.int (v : Int)]) ntc
              have htc : upd H8 tc (.tup [V.str "unite", V.str "oak", V.int (u : Int), V.int (v : Int)]) tc = some (.tup [V.str "unite", V.str "oak", V.int (u : Int), V.int (v : Int)]) := upd_same
              refine (hL.same s11).ap (cmd := .unite oakN (u : Int) (v : Int)) ⟨_, SqT.of htc, rfl⟩ ⟨⟨by decide, by decide +kernel⟩, bits40 (by omega), bits40 (by omega)⟩ rfl (aUni _ _ _) (by omega) (do_unite hun hvn) fun H' hL' => ?_
              exact ⟨g, _, _, _, rfl, hL', hR⟩
            rw [decide_eq_false hst]
            refine iteT ?_
            have hne : hdS xf.2 ≠ hdS xs.2 := fun e => hst (hOk.inj (List.mem_map.mpr ⟨xf, hxf, rfl⟩) (List.mem_map.mpr ⟨xs, hxs, rfl⟩) e)
            have hcl : hdS xf.2 < n := hOk.hlt (List.mem_map.mpr ⟨xf, hxf, rfl⟩)
            have hal : hdS xs.2 < n := hOk.hlt (List.mem_map.mpr ⟨xs, hxs, rfl⟩)
            have pc := hOk.fix hF (List.mem_map.mpr ⟨xf, hxf, rfl⟩)
            have pa := hOk.fix hF (List.mem_map.mpr ⟨xs, hxs, rfl⟩)
            refine ⟨_, rfl, _, rfl, .inl ⟨xf.1, _, 0, vi (hdS xf.2), rfl, rfl, SqL.of hfx, hd_at hfne, _, rfl, .inl ⟨xs.1, _, 0, vi (hdS xs.2), rfl, rfl, SqL.of hsx, hd_at hsne, ?_⟩⟩⟩
            refine ⟨t, n, p, ((hdS xf.2 : Nat) : Int), ((hdS xs.2 : Nat) : Int), rfl, .inr hL.fo, by omega, bits40 (by omega), bits40 (by omega), .inr (.inr ⟨chk_root hcl pc, .inr (.inr ⟨chk_root hal pa, .inr ⟨fun e => hne (Int.ofNat.inj e), fun g H8 ng hg s8 => ?_⟩⟩)⟩)⟩
            rw [Int.toNat_natCast, Int.toNat_natCast] at hg
            have hFl := lnk_fo hF hcl hal pc pa hne
            replace hL := (hL.same s8).forest (SqT.of hg) hFl
            replace hfx := s8 _ _ hfx
            replace hsx := s8 _ _ hsx
            refine ⟨by show 2 ≤ sizeLine; decide, fun t2 nt2 => ?_⟩
            refine ⟨t2, _, rfl, SqT.of upd_same, rfl, _, _, rfl, _, _, rfl, rfl, ?_⟩
            have s9 := same_new (o := .tup [V.ref g, .int 0]) nt2
            generalize upd H8 t2 (.tup [V.ref g, .int 0]) = H9 at s9 ⊢
            replace hL := hL.same s9
            replace hfx := s9 _ _ hfx
            replace hsx := s9 _ _ hsx
            obtain ⟨dx, fs, hob, hno⟩ := hL.obj
            refine ⟨_, rfl, ps, dx, fs, rfl, hob, hno _ (by decide +kernel), ?_⟩
            refine ⟨_, rfl, .inl ⟨xf.1, _, 0, vi (hdS xf.2), rfl, rfl, SqL.of hfx, hd_at hfne, _, rfl, .inl ⟨xs.1, _, 0, vi (hdS xs.2), rfl, rfl, SqL.of hsx, hd_at hsne, ?_⟩⟩⟩
            refine ⟨by show 4 ≤ sizeLine; decide, fun tc ntc => ?_⟩
            show noE (spAp P w K mg base C dL dA c) [V.ref ps, V.ref tc] _ _ (fun _ _ _ => False)
            have s11 := same_new (o := .tup [V.str "link", V.str "oak", vi (hdS xf.2), vi (hdS xs.2)]) ntc
            have htc : upd H9 tc (.tup [V.str "link", V.str "oak", vi (hdS xf.2), vi (hdS xs.2)]) tc = some (.tup [V.str "link", V.str "oak", vi (hdS xf.2), vi (hdS xs.2)]) := upd_same
            refine (hL.same s11).ap (cmd := .link oakN ((hdS xf.2 : Nat) : Int) ((hdS xs.2 : Nat) : Int)) ⟨_, SqT.of htc, rfl⟩ ⟨⟨by decide, by decide +kernel⟩, bits40 (by omega), bits40 (by omega)⟩ rfl (aLink _ _ _) (by omega) (do_link (link_ok hcl hal pc pa hne)) fun H' hL' => ?_
            exact ⟨g, _, 0, _, rfl, hL', fun h => (h.elim h0 hst).elim, fun _ _ w hw => lnk_root hF hcl hal pc pa hne w hw⟩
          rw [decide_eq_false h1]
          refine iteF ?_
          refine iteF ?_
          refine ⟨_, rfl, _, rfl, _, rfl, t, n, p, r, (u : Int), (v : Int), [u, v], rfl, hL.fo, by omega, hF, ?_⟩
          refine ⟨by simp [hun, hvn], .inl ⟨rfl, fun u' v' huv t2 g H8 nt2 ht2 hg s8 => ?_⟩⟩
          cases huv
          obtain ⟨r', hFu⟩ := uni_fo hF hun hvn
          replace hL := (hL.same s8).forest hg hFu
          refine ⟨t2, _, rfl, SqT.of ht2, rfl, _, _, rfl, _, _, rfl, rfl, ?_⟩
          obtain ⟨dx, fs, hob, hno⟩ := hL.obj
          refine ⟨_, rfl, ps, dx, fs, rfl, hob, hno _ (by decide +kernel), ?_⟩
          refine ⟨_, rfl, _, rfl, by show 4 ≤ sizeLine; decide, fun tc ntc => ?_⟩
          show noE (spAp P w K mg base C dL dA c) [V.ref ps, V.ref tc] _ _ (fun _ _ _ => False)
          have s11 := same_new (o := .tup [V.str "unite", V.str "oak", V.int (u : Int), V.int (v : Int)]) ntc
          have htc : upd H8 tc (.tup [V.str "unite", V.str "oak", V.int (u : Int), V.int (v : Int)]) tc = some (.tup [V.str "unite", V.str "oak", V.int (u : Int), V.int (v : Int)]) := upd_same
          refine (hL.same s11).ap (cmd := .unite oakN (u : Int) (v : Int)) ⟨_, SqT.of htc, rfl⟩ ⟨⟨by decide, by decide +kernel⟩, bits40 (by omega), bits40 (by omega)⟩ rfl (aUni _ _ _) (by omega) (do_unite hun hvn) fun H' hL' => ?_
          exact ⟨g, _, _, _, rfl, hL', hR⟩
      rintro σ H7 ⟨t', q', k, z15, rfl, hL7, hR⟩
      clear hL
      refine ⟨fun σ H' => ∃ sl' L', σ = [some (.ref a), some (.ref d), some (.int n), some (.ref t'), some (.int to), some (.ref sl'), y6, some (.ref ps), some (.int (0 + (i : Int))), some (.int pk), some (.int u), some (.int v), some (.ref xf.1), y13, some (.ref xs.1), z15, some (.int k), some (.int k)] ∧ Lp K C n d l ps (i + 1) H' t' sl' q' q' L' (to + k) ∧ SetsOk n q' (L'.map (·.2)), ?_, ?_⟩
      · have hmf : xf.2 ∈ L.map (·.2) := List.mem_map.mpr ⟨xf, hxf, rfl⟩
        have hms : xs.2 ∈ L.map (·.2) := List.mem_map.mpr ⟨xs, hxs, rfl⟩
        have hfx := hL7.ls xf hxf
        have hsx := hL7.ls xs hxs
        refine ⟨_, rfl, pk, 0, rfl, rfl, _, rfl, ?_⟩
        by_cases h0 : pk = 0
        · rw [decide_eq_false (show ¬ ((0 : Int) < (pk : Int)) by omega)]
          refine iteF ?_
          refine iteF ?_
          exact ⟨sl, L, rfl, hL7, hOk.keep (hR.1 (.inl h0))⟩
        rw [decide_eq_true (show (0 : Int) < (pk : Int) by omega)]
        refine iteT ?_
        refine ⟨_, rfl, _, rfl, _, _, dp_nats (SqL.of hfx), dp_nats (SqL.of hsx), shaped_lst _, shaped_lst _, _, rfl, ?_⟩
        rw [eqv_nats]
        by_cases hst : xf.2 = xs.2
        · rw [decide_eq_true hst]
          refine iteF ?_
          exact ⟨sl, L, rfl, hL7, hOk.keep (hR.1 (.inr hst))⟩
        rw [decide_eq_false hst]
        refine iteT ?_
        refine ⟨_, rfl, sl, rfl, ⟨_, SqL.of hL7.hsl⟩, fun D3 nD3 => ?_⟩
        refine lc_list (K := K) (a := sl) (xs := refsL L) (fun j H' => H' D3 = some (.lst (refsL ((L.take j).filter fun x => decide (x.2 ≠ xf.2) && decide (x.2 ≠ xs.2)))) ∧ Same H7 H') ⟨upd_same, same_new nD3⟩ (fun j H' _ h => SqL.of (h.2 _ _ hL7.hsl)) ?_ ?_
        · rintro j y H' hy ⟨hD', s'⟩
          obtain ⟨x, hx, rfl⟩ := refsL_at hy
          have hxa := s' _ _ (hL7.ls x (List.mem_of_getElem? hx))
          refine ⟨rfl, ?_⟩
          refine ⟨_, rfl, _, rfl, _, _, dp_nats (SqL.of hxa), dp_nats (SqL.of (s' _ _ hfx)), shaped_lst _, shaped_lst _, _, rfl, ?_⟩
          rw [eqv_nats]
          have fs := filt_step (g := fun x : Addr × List Nat => decide (x.2 ≠ xf.2) && decide (x.2 ≠ xs.2)) hx
          have keepS : (refsL ((L.take j).filter fun x => decide (x.2 ≠ xf.2) && decide (x.2 ≠ xs.2))).length < sizeLine := by
            rw [refsL_len]
            exact Nat.lt_of_le_of_lt (Nat.le_trans (List.length_filter_le _ _) (by rw [List.length_take]; exact Nat.le_trans (Nat.min_le_right _ _) hLl)) (by decide)
          by_cases g1 : x.2 = xf.2
          · rw [decide_eq_true g1]
            refine iteF ?_
            refine iteF ?_
            exact ⟨by rw [fs, if_neg (by simp [g1]), List.append_nil]; exact hD', s'⟩
          rw [decide_eq_false g1]
          refine iteT ?_
          refine ⟨_, rfl, _, rfl, _, _, dp_nats (SqL.of hxa), dp_nats (SqL.of (s' _ _ hsx)), shaped_lst _, shaped_lst _, _, rfl, ?_⟩
          rw [eqv_nats]
          by_cases g2 : x.2 = xs.2
          · rw [decide_eq_true g2]
            refine iteF ?_
            exact ⟨by rw [fs, if_neg (by simp [g2]), List.append_nil]; exact hD', s'⟩
          rw [decide_eq_false g2]
          refine iteT ⟨_, rfl, _, hD', keepS, ?_, same_over s' nD3⟩
          rw [upd_same, fs, if_pos (by simp [g1, g2]), refsL_app]
          rfl
        rintro H8 ⟨hD3, s8⟩
        rw [refsL_len, List.take_length] at hD3
        have hlf := hOk.lens hmf
        have hls := hOk.lens hms
        refine ⟨_, rfl, _, rfl, xs.1, xf.1, natsV xs.2, natsV xf.2, rfl, rfl, s8 _ _ hsx, s8 _ _ hfx, Nat.le_trans (show (natsV xs.2).length + (natsV xf.2).length ≤ 1000 by rw [natsV_len, natsV_len]; omega) (by decide), fun jn njn => ?_⟩
        refine ⟨by show 1 ≤ sizeLine; decide, fun sg nsg => ?_⟩
        have s9 := same_new (o := .lst (natsV xs.2 ++ natsV xf.2)) njn
        have s10 := same_new (o := .lst [V.ref jn]) nsg
        have hjn : upd (upd H8 jn (.lst (natsV xs.2 ++ natsV xf.2))) sg (.lst [V.ref jn]) jn = some (.lst (natsV xs.2 ++ natsV xf.2)) := s10 _ _ upd_same
        have hsg : upd (upd H8 jn (.lst (natsV xs.2 ++ natsV xf.2))) sg (.lst [V.ref jn]) sg = some (.lst [V.ref jn]) := upd_same
        have s810 := s9.trans s10
        have njn7 : H7 jn = none := sm_none s8 njn
        generalize upd (upd H8 jn (.lst (natsV xs.2 ++ natsV xf.2))) sg (.lst [V.ref jn]) = H10 at s10 hjn hsg s810 ⊢
        refine ⟨D3, sg, _, _, rfl, rfl, s810 _ _ hD3, hsg, Nat.le_trans (show (refsL (L.filter fun x => decide (x.2 ≠ xf.2) && decide (x.2 ≠ xs.2))).length + [V.ref jn].length ≤ 1000 by rw [refsL_len]; have := List.length_filter_le (fun x : Addr × List Nat => decide (x.2 ≠ xf.2) && decide (x.2 ≠ xs.2)) L; show _ + 1 ≤ _; omega) (by decide), fun sl' nsl' => ?_⟩
        have s11 := same_new (o := .lst (refsL (L.filter fun x => decide (x.2 ≠ xf.2) && decide (x.2 ≠ xs.2)) ++ [V.ref jn])) nsl'
        have s711 := s8.trans (s810.trans s11)
        refine ⟨sl', (L.filter fun x => decide (x.2 ≠ xf.2) && decide (x.2 ≠ xs.2)) ++ [(jn, xs.2 ++ xf.2)], rfl, hL7.sets s711 (sm_none (s8.trans s810) nsl') (by rw [upd_same, refsL_app]; rfl) (fun x hx => ?_) (fun x hx => ?_), ?_⟩
        · rcases List.mem_append.mp hx with z | z
          · exact s711 _ _ (hL7.ls x (List.mem_filter.mp z).1)
          · rw [List.mem_singleton.mp z]
            show _ = some (HO.lst (natsV (xs.2 ++ xf.2)))
            rw [s11 _ _ hjn]
            unfold natsV
            rw [List.map_append]
        · rcases List.mem_append.mp hx with z | z
          · exact .inl (List.mem_filter.mp z).1
          · rw [List.mem_singleton.mp z]
            exact .inr njn7
        · have hj := hOk.join hmf hms hst (hR.2 h0 hst)
          rw [List.filter_map] at hj
          rw [List.map_append]
          exact hj
      rintro σ H8 ⟨sl', L', rfl, hL8, hOk8⟩
      refine ⟨_, rfl, _, rfl, to, k, rfl, rfl, ?_⟩
      show tSeq _ _ _ [some (.ref a), some (.ref d), some (.int n), some (.ref t'), some (.int (to + k)), some (.ref sl'), y6, some (.ref ps), some (.int (0 + (i : Int))), some (.int pk), some (.int u), some (.int v), some (.ref xf.1), y13, some (.ref xs.1), z15, some (.int k), some (.int k)] H8
      obtain ⟨dx, fs, hob, hno⟩ := hL8.obj
      obtain ⟨SA, SD, SS, s1, s2, s3, _⟩ := id hL8.st
      refine ⟨_, rfl, ps, dx, fs, rfl, hob, hno _ (by decide +kernel), ?_⟩
      refine ⟨ps, oakN, SA, SD, SS, rfl, s1, by decide, ?_⟩
      rw [s2, look_oak]
      intro fa hfa
      refine ⟨_, rfl, _, rfl, ps, dx, fs, rfl, hob, hno _ (by decide +kernel), ?_⟩
      refine ⟨ps, SA, SD, SS, rfl, s1, ?_⟩
      rw [s3]
      refine ⟨by show 3 ≤ sizeLine; decide, fun l1 nl1 => ?_⟩
      refine ⟨_, rfl, _, rfl, _, rfl, by show 3 ≤ sizeLine; decide, fun l2 nl2 => ?_⟩
      have s9 := same_new (o := .lst [V.ref fa, .int k, .int (to + k)]) nl1
      have s10 := same_new (o := .lst [V.ref t', .int k, .int (to + k)]) nl2
      have h1 : upd (upd H8 l1 (.lst [V.ref fa, .int k, .int (to + k)])) l2 (.lst [V.ref t', .int k, .int (to + k)]) l1 = some (.lst [V.ref fa, .int k, .int (to + k)]) := s10 _ _ upd_same
      have h2 : upd (upd H8 l1 (.lst [V.ref fa, .int k, .int (to + k)])) l2 (.lst [V.ref t', .int k, .int (to + k)]) l2 = some (.lst [V.ref t', .int k, .int (to + k)]) := upd_same
      have s810 := s9.trans s10
      generalize upd (upd H8 l1 (.lst [V.ref fa, .int k, .int (to + k)])) l2 (.lst [V.ref t', .int k, .int (to + k)]) = H10 at s810 h1 h2 ⊢
      replace hL8 := hL8.same s810
      refine ⟨_, _, .list [.tuple ((intsOf n q').map PyData.int), .int k, .int (to + k)], rfl, .lst (SqL.of h1) (.cons (dp_forest (same_sqt s810 hfa)) (.cons (.int _) (.cons (.int _) .nil))), .lst (SqL.of h2) (.cons (dp_forest hL8.fo) (.cons (.int _) (.cons (.int _) .nil))),
        .lst (by show 3 ≤ 1000; decide) (fun z hz => ?_), fun H11 s11 => ?_⟩
      · rcases List.mem_cons.mp hz with rfl | hz
        · exact sm_forest (by omega) q'
        · rcases List.mem_cons.mp hz with rfl | hz
          · exact .int _ _
          · rw [List.mem_singleton.mp hz]; exact .int _ _
      replace hL8 := hL8.same s11
      refine ⟨_, rfl, ?_⟩
      refine iteF ?_
      have hrl : (rootsL n q').length ≤ n := by
        unfold rootsL
        exact Nat.le_trans (List.length_filter_le _ _) (by rw [List.length_range]; exact Nat.le_refl n)
      have hLl' : L'.length ≤ 40 := by have := hOk8.len; rw [List.length_map] at this; omega
      obtain ⟨r', hF'⟩ := hL8.F
      refine ⟨_, rfl, t', n, q', rfl, hL8.fo, by omega, fun ra H12 nra hra s12 => ?_⟩
      replace hL8 := hL8.same s12
      refine ⟨_, rfl, sl', rfl, ⟨_, SqL.of hL8.hsl⟩, fun D4 nD4 => ?_⟩
      refine lc_list (K := K) (a := sl') (xs := refsL L') (fun j H' => H' D4 = some (.lst (natsV ((L'.take j).map fun x => hdS x.2))) ∧ Same H12 H') ⟨upd_same, same_new nD4⟩ (fun j H' _ h => SqL.of (h.2 _ _ hL8.hsl)) ?_ ?_
      · rintro j y H' hy ⟨hD', s'⟩
        obtain ⟨x, hx, rfl⟩ := refsL_at hy
        have hxm := List.mem_of_getElem? hx
        refine ⟨rfl, ?_⟩
        unfold tYes
        dsimp only
        rw [if_pos rfl]
        refine ⟨_, rfl, .inl ⟨x.1, natsV x.2, 0, vi (hdS x.2), rfl, rfl, SqL.of (s' _ _ (hL8.ls x hxm)), hd_at (hOk8.ne _ (List.mem_map.mpr ⟨x, hxm, rfl⟩)), _, hD', ?_, ?_, same_over s' nD4⟩⟩
        · rw [natsV_len, List.length_map, List.length_take]
          exact Nat.lt_of_le_of_lt (Nat.le_trans (Nat.min_le_right _ _) hLl') (by decide)
        · rw [upd_same, List.take_add_one, hx, List.map_append]
          unfold natsV
          rw [List.map_append]
          rfl
      rintro H13 ⟨hD4, s13⟩
      rw [refsL_len, List.take_length] at hD4
      replace hL8 := hL8.same s13
      refine ⟨D4, L'.map fun x => ((hdS x.2 : Nat) : Int), rfl, SqL.of (by rw [hD4]; unfold natsV; rw [List.map_map, List.map_map]; rfl), fun ns' pp hp hs npp => ?_⟩
      have ens : ns' = (rootsL n q').map (fun v : Nat => (v : Int)) := hOk8.heads hF' (by rw [List.map_map]; exact hp) hs
      subst ens
      have s14 := same_new (o := .lst (((rootsL n q').map (fun v : Nat => (v : Int))).map V.int)) npp
      refine ⟨_, _, dp_nats (SqL.of (s14 _ _ (s13 _ _ hra))), dp_nats (l := rootsL n q') (SqL.of (by rw [upd_same]; unfold natsV; rw [List.map_map]; rfl)), shaped_lst _, shaped_lst _, _, rfl, ?_⟩
      rw [eqv_nats, decide_eq_true rfl]
      refine iteF ?_
      replace hL8 := hL8.same s14
      generalize upd H13 pp (.lst (((rootsL n q').map (fun v : Nat => (v : Int))).map V.int)) = H14 at hL8 ⊢
      refine ⟨_, rfl, t', intsOf n q', rfl, by rw [← tupOf_ints]; exact hL8.fo, by unfold intsOf; rw [List.length_map, List.length_range]; omega, fun H15 s15 => ?_⟩
      rw [show okV (intsOf n q') = true from by unfold okV; rw [fo_ver hF' hn40]]
      refine ⟨_, rfl, ?_⟩
      refine iteF ?_
      exact ⟨t', sl', q', L', to + k, ⟨_, _, _, _, _, _, _, _, _, _, _, rfl⟩, hL8.same s15, hOk8⟩
    rintro σ H' ⟨t, sl, p, L, to, ⟨y6, y8, y9, y10, y11, y12, y13, y14, y15, y16, y17, rfl⟩, hL, hOk⟩
    obtain ⟨r, hF⟩ := hL.F
    have hLl : L.length ≤ 40 := by have := hOk.len; rw [List.length_map] at this; omega
    refine ⟨_, rfl, sl, rfl, ⟨_, SqL.of hL.hsl⟩, ?_⟩
    refine for_list (K := K) (a := sl) (xs := refsL L) (fun j σ H'' => (∃ z6 z13, σ = [some (.ref a), some (.ref d), some (.int n), some (.ref t), some (.int to), some (.ref sl), z6, some (.ref ps), y8, y9, y10, y11, y12, z13, y14, y15, y16, y17]) ∧ Same H' H'') ⟨⟨_, _, rfl⟩, fun _ _ h => h⟩ (fun j σ H'' _ h => SqL.of (h.2 _ _ hL.hsl)) ?_ ?_
    · rintro j y σ H'' hy ⟨⟨z6, z13, rfl⟩, s'⟩
      obtain ⟨x, hx, rfl⟩ := refsL_at hy
      have hxm := List.mem_of_getElem? hx
      have hxo : x.2 ∈ L.map (·.2) := List.mem_map.mpr ⟨x, hxm, rfl⟩
      have hxa := s' _ _ (hL.ls x hxm)
      have hxl := hOk.lens hxo
      refine ⟨_, rfl, x.1, rfl, ⟨_, SqL.of hxa⟩, fun D5 nD5 => ?_⟩
      refine lc_list (K := K) (a := x.1) (xs := natsV x.2) (fun m H3 => H3 D5 = some (.lst (natsV ((x.2.take m).map fun v => root p n v))) ∧ Same H'' H3) ⟨upd_same, same_new nD5⟩ (fun m H3 _ h => SqL.of (h.2 _ _ hxa)) ?_ ?_
      · rintro m y H3 hy ⟨hD', s3⟩
        unfold natsV at hy
        rw [List.getElem?_map] at hy
        obtain ⟨w1, hw1, rfl⟩ := Option.map_eq_some_iff.mp hy
        have hwn := hOk.lt _ hxo w1 (List.mem_of_getElem? hw1)
        refine ⟨rfl, ?_⟩
        unfold tYes
        dsimp only
        rw [if_pos rfl]
        refine ⟨_, rfl, _, rfl, t, n, p, r, w1, rfl, .inr (same_sqt (s'.trans s3) hL.fo), by omega, hF, hwn, fun H4 s4 => ⟨_, s4 _ _ hD', ?_, ?_, same_over (s3.trans s4) nD5⟩⟩
        · rw [natsV_len, List.length_map, List.length_take]
          exact Nat.lt_of_le_of_lt (Nat.le_trans (Nat.min_le_right _ _) (show x.2.length ≤ 40 by omega)) (by decide)
        · rw [upd_same, List.take_add_one, hw1, List.map_append]
          unfold natsV
          rw [List.map_append]
          rfl
      rintro H3 ⟨hD5, s3⟩
      rw [natsV_len, List.take_length] at hD5
      refine ⟨_, rfl, .inl ⟨x.1, natsV x.2, 0, vi (hdS x.2), rfl, rfl, SqL.of (s3 _ _ hxa), hd_at (hOk.ne _ hxo), by show 1 ≤ sizeLine; decide, fun l1 nl1 => ?_⟩⟩
      have s4 := same_new (o := .lst [vi (hdS x.2)]) nl1
      refine ⟨_, rfl, x.1, natsV x.2, rfl, .inl (SqL.of (s4 _ _ (s3 _ _ hxa))), ?_⟩
      refine ⟨l1, _, _, rfl, rfl, upd_same, by rw [natsV_len]; omega, by rw [natsV_len]; omega, Nat.le_trans (show [vi (hdS x.2)].length * ((natsV x.2).length : Int).toNat ≤ 1000 by rw [natsV_len]; show 1 * _ ≤ _; omega) (by decide), fun l2 nl2 => ?_⟩
      have er : (x.2.map fun v => root p n v) = List.replicate x.2.length (hdS x.2) := List.eq_replicate_iff.mpr ⟨List.length_map _, fun b hb => by
        obtain ⟨v1, hv1, rfl⟩ := List.mem_map.mp hb
        exact hOk.rt _ hxo v1 hv1⟩
      rw [natsV_len, Int.toNat_natCast, rep_flat]
      have s5 := same_new (o := .lst (natsV (List.replicate x.2.length (hdS x.2)))) nl2
      refine ⟨_, _, dp_nats (SqL.of (s5 _ _ (s4 _ _ hD5))), dp_nats (SqL.of upd_same), shaped_lst _, shaped_lst _, _, rfl, ?_⟩
      rw [eqv_nats, er, decide_eq_true rfl]
      refine iteF ?_
      exact ⟨⟨_, _, rfl⟩, s'.trans (s3.trans (s4.trans s5))⟩
    rintro σ H'' ⟨⟨z6, z13, rfl⟩, s'⟩
    refine ⟨_, rfl, t, n, p, r, rfl, same_sqt s' hL.fo, by omega, hF, fun g H1 ng hg s1 => ?_⟩
    refine ⟨g, intsOf n (fun v => root p n v), rfl, SqT.of (by rw [← tupOf_ints]; exact hg), by unfold intsOf; rw [List.length_map, List.length_range]; omega, fun sa cc nsa hcc => ?_⟩
    have hcc' : cc ≤ n := by unfold intsOf at hcc; rw [List.length_map, List.length_range] at hcc; exact hcc
    refine ⟨sa, _, cc, rfl, upd_same, by omega, fun ns2 p2 hpw hmem hlen2 np2 => ?_⟩
    have e2 := flat_sorted hF hpw hmem
    subst e2
    refine ⟨_, rfl, t, n, p, rfl, same_sqt (s'.trans (s1.trans ((same_new nsa).trans (same_new np2)))) hL.fo, by omega, fun ra H2 nra hra s2 => ?_⟩
    refine ⟨_, _, .lst (SqL.of (s2 _ _ upd_same)) (dpAll_ints _), dp_nats (SqL.of hra), shaped_lst _, shaped_lst _, ?_⟩
    rw [eqv_lsts, decide_eq_true rfl]
    exact q _
end
end Ff

/-! The head by one kernel run: what is looked at behind the top. -/
namespace He
open PySem PySem.Spec PyProof.Rows L2
/-- all addresses below n, the newest first -/
def asM (_ : Addr → Option Obj) (n : Nat) : List Addr := mainGlobals :: cStatics :: (List.range n).reverse
def obsM (n : Nat) (fn : List DefD) (ts : List Tab) (tf : List Defn) (ex : PySem.W.Frag → Bool) (g : Addr → Option Obj) : AlX := (obsT [] fn ts (frT g (asM g n)), ex (frT g (asM g n)) && tabsB g tf (frT g (asM g n)))
theorem saysM_of {n : Nat} {fn : List DefD} {ts : List Tab} {tf : List Defn} {ex : PySem.W.Frag → Bool} {w : World} {h : Heap} (e : obsM n fn ts tf ex h.get? = valX fn ts w) : SaysX [] fn ts tf ex w h (frT h.get? (asM h.get? n)) := by
  have e1 : obsT [] fn ts (frT h.get? (asM h.get? n)) = valT fn ts w := congrArg (fun z : AlX => z.1) e
  have e2 : (ex (frT h.get? (asM h.get? n)) && tabsB h.get? tf (frT h.get? (asM h.get? n))) = true := congrArg (fun z : AlX => z.2) e
  obtain ⟨h1, h2⟩ := ba e2
  have key : ∀ p ∈ tf, PySem.W.codeHdIn (frT h.get? (asM h.get? n)) (cT (frT h.get? (asM h.get? n)) p).1 (cT (frT h.get? (asM h.get? n)) p).2 = true ∧ ∃ o, h.get? (cT (frT h.get? (asM h.get? n)) p).2 = some o ∧ emptyTab o = true := fun p hp => by
    obtain ⟨h3, h4⟩ := ba (List.all_eq_true.mp h2 p hp)
    refine ⟨h3, ?_⟩
    cases q : h.get? (cT (frT h.get? (asM h.get? n)) p).2 with
    | none =>
      rw [q] at h4
      cases h4
    | some o =>
      rw [q] at h4
      exact ⟨o, rfl, h4⟩
  exact ⟨e1, h1, fun p hp => (key p hp).1, fun p hp => by
    obtain ⟨_, o, q, z⟩ := key p hp
    exact frT_none q z, fun p hp => by
    obtain ⟨_, o, q, z⟩ := key p hp
    rw [q, emptyTab_eq z]⟩
def hookM (n : Nat) (fn : List DefD) (ts : List Tab) (tf : List Defn) (ex : PySem.W.Frag → Bool) : PySem.W.Hook where
  α := AlX
  obs := fun s => obsM n fn ts tf ex s.heap.get?
  val := fun w => valX fn ts w
  says := fun w h => ∃ K : PySem.W.Frag, K.In h ∧ SaysX [] fn ts tf ex w h K
  of := fun _ _ e => ⟨_, frT_in, saysM_of e⟩
  keeps := fun _ _ _ ⟨K, hK, c⟩ k => ⟨K, PySem.W.Frag.In.keeps hK k, ⟨c.t, c.more, c.hd, c.out, fun p hp => k _ _ (c.empty p hp)⟩⟩
theorem obsM_eq {n : Nat} {fn : List DefD} {ts : List Tab} {tf : List Defn} {ex : PySem.W.Frag → Bool} {g : Addr → Option Obj} {s : Shared} (h : ∀ a, g a = s.heap.get? a) : obsM n fn ts tf ex g = (hookM n fn ts tf ex).obs s := by
  have e : g = s.heap.get? := funext h
  rw [e] <;> rfl
/-- the run and what it must look like, apart -/
def RunA (r : PySem.W.OpenRow) (q : Program) (M : Nat) (loose : List PySem.Str) (w : World) : Prop :=
  ∀ os : OsState, (HandSHeadRun.endF (HandSHeadRun.stepQ (HandSHeadRun.denQ HandSHeadRun.tabQ) r.prog w) M r.prog w os).map (fun s => (HandSHeadRun.looksF r.prog (PySem.W.boot_heap w.params) s.abs, HandSHeadRun.seenQ q loose (importedModules r.prog.main.body) (fun s => PySem.W.xlAt q [] s && PySem.W.recOk r.toRowW.records s) s.abs)) = some (true, PySem.W.openGood q loose)
def RunB (r : PySem.W.OpenRow) (n : Nat) (fn : List DefD) (ts : List Tab) (M : Nat) (w : World) : Prop :=
  ∀ os : OsState, (HandSHeadRun.endF (HandSHeadRun.stepQ (HandSHeadRun.denQ HandSHeadRun.tabQ) r.prog w) M r.prog w os).map (fun s => obsT [] fn ts (frT (HandSHeadRun.getT s) (asM (HandSHeadRun.getT s) n))) = some (valT fn ts w)
def RunC (r : PySem.W.OpenRow) (n : Nat) (tf : List Defn) (ex : PySem.W.Frag → Bool) (M : Nat) (w : World) : Prop :=
  ∀ os : OsState, (HandSHeadRun.endF (HandSHeadRun.stepQ (HandSHeadRun.denQ HandSHeadRun.tabQ) r.prog w) M r.prog w os).map (fun s => ex (frT (HandSHeadRun.getT s) (asM (HandSHeadRun.getT s) n)) && tabsB (HandSHeadRun.getT s) tf (frT (HandSHeadRun.getT s) (asM (HandSHeadRun.getT s) n))) = some true
theorem run_of {r : PySem.W.OpenRow} {q : Program} {n M : Nat} {fn : List DefD} {ts : List Tab} {tf : List Defn} {ex : PySem.W.Frag → Bool} {loose : List PySem.Str} {w : World} (a : RunA r q M loose w) (b : RunB r n fn ts M w) (c : RunC r n tf ex M w) :
    HandSHeadRun.RunEq r q (hookM n fn ts tf ex) (fun s => obsM n fn ts tf ex (HandSHeadRun.getT s)) M loose w := fun os => by
  have a' := a os
  have b' := b os
  have c' := c os
  revert a' b' c'
  generalize HandSHeadRun.endF (HandSHeadRun.stepQ (HandSHeadRun.denQ HandSHeadRun.tabQ) r.prog w) M r.prog w os = x
  intro a' b' c'
  cases x with
  | none => cases a'
  | some s =>
    have a2 := Option.some.inj a'
    have b2 := Option.some.inj b'
    have c2 := Option.some.inj c'
    obtain ⟨a3, a4⟩ := Prod.mk.inj a2
    show some (_, _, (_, _)) = some (_, _, (_, _))
    rw [a3, a4]
    exact congrArg (fun z => some (true, PySem.W.openGood q loose, z)) (Prod.ext b2 c2)
/-- the object under a key of a table -/
def nsR (K : PySem.W.Frag) (D : Addr) (x : Str) : Addr := match PySem.W.nsIn K D x with
  | some (some (.ref a)) => a
  | _ => 0
/-- a Bool out of a list -/
theorem at_ex {K : PySem.W.Frag} {l : List (PySem.W.Frag → Bool)} (h : (l.all fun b => b K) = true) (i : Nat) {b : PySem.W.Frag → Bool} (e : l[i]? = some b) : b K = true := List.all_eq_true.mp h b (List.mem_of_getElem? e)
def cfB (a : Option PySem.W.CFound) (v : Value) : Bool := match a with
  | some (.val u) => decide (u = v)
  | _ => false
theorem cfB_ok {a : Option PySem.W.CFound} {v : Value} (h : cfB a v = true) : a = some (.val v) := by
  cases a with
  | none => cases h
  | some r =>
    cases r with
    | val u => exact congrArg (fun x => some (PySem.W.CFound.val x)) (of_decide_eq_true h)
    | _ => cases h
def intB (a : Option (Option Value)) (i : Int) : Bool := match a with
  | some (some (.int j _)) => decide (j = i)
  | _ => false
theorem intB_ok {a : Option (Option Value)} {i : Int} (h : intB a i = true) : ∃ t, a = some (some (.int i t)) := by
  cases a with
  | none => cases h
  | some r =>
    cases r with
    | none => cases h
    | some v =>
      cases v with
      | int j t =>
        have e : j = i := of_decide_eq_true h
        exact ⟨t, by rw [e]⟩
      | _ => cases h
/-- a def without defaults, as it stands -/
theorem def_at {fa : List Fa} {fn : List DefD} {K : PySem.W.Frag} (c : SaysD fa fn K) (i : Nat) {d : DefD} (h : fn[i]? = some d) (e0 : d.dfl = []) : PySem.W.keepIn K (.ref (fAd K d.at_)) = true ∧
    ∃ (oc : Value) (od : Option Addr) (sl : Array (Option Value)) (kV dc pm : Value) (an : Option Addr) (cd ct : Value), K.lookup (fAd K d.at_) = some ⟨oc, od, .func (PySem.W.fnOf d.name d.qual d.params d.body d.scope .none kV dc pm an cd ct), sl⟩ ∧ PySem.W.codeIn K cd d.qual = true := by
  obtain ⟨fd, ⟨oc, od, dV, kV, dc, pm, an, cd, ct, sl, rfl, lk, hc, hd, _⟩, kp⟩ := c.def_ i h
  refine ⟨kp, oc, od, sl, kV, dc, pm, an, cd, ct, ?_, hc⟩
  rcases hd with ⟨_, rfl⟩ | ⟨z, _⟩
  · exact lk
  · unfold DefD.dvs at z
    rw [e0] at z
    exact absurd rfl z
/-- the code object of a def whose lambdas have a table -/
theorem code_at {K : PySem.W.Frag} {p : Defn} {oc : Value} {od : Option Addr} {osl : Array (Option Value)} {fd : FuncData} {q : Str} (lk : K.lookup (fAd K p) = some ⟨oc, od, .func fd, osl⟩) (hc : PySem.W.codeIn K fd.code q = true) (hd : PySem.W.codeHdIn K (cT K p).1 (cT K p).2 = true) :
    ∃ (c : Addr) (e : Value) (dd : Option Addr) (vs : Array Value) (sl : Array (Option Value)), fd.code = .ref c ∧ (cT K p).1 = c ∧ K.lookup c = some ⟨e, dd, .fields vs, sl⟩ ∧ vs[11]? = some (.ref (cT K p).2) := by
  obtain ⟨c, ec⟩ := codeIn_ref hc
  have e1 : (cT K p).1 = c := codeOf_eq lk ec
  rw [e1] at hd
  generalize (cT K p).2 = P at hd
  unfold PySem.W.codeHdIn at hd
  split at hd
  · rename_i dd vs sl hk
    have h1 := (ba (ba (ba (ba (ba hd).1).1).1).1).1
    refine ⟨c, _, dd, vs, sl, ec, e1, hk, ?_⟩
    cases q2 : vs[11]? with
    | none =>
      rw [q2] at h1
      cases h1
    | some v =>
      rw [q2] at h1
      cases v with
      | ref P' =>
        have e2 : P' = P := by
          have h2 : (P' == P) = true := h1
          exact beq_iff_eq.mp h2
        rw [e2]
      | _ => cases h1
  · cases hd
end He

namespace Ff
open PySem PySem.Spec PyProof.Rows L2 ExX LamX
theorem all_mk {l : PySem.W.OpenLaw} {w : World} {K : PySem.W.Frag} {h : Heap} {mg : Str → Option Value} {fa : Addr} (X : K.In h) (G : h.Ns mainGlobals mg) (hfa : mg "law" = some (.ref fa))
    (d0 : DefF K "leads_to_root" sLeads)
    (d1 : DefF K "check_forest" sCheck)
    (d2 : DefF K "is_forest" sIsFor)
    (d3 : DefF K "single_nodes" sSing2)
    (d4 : DefF K "check_number" sNum)
    (d5 : DefF K "check_node" sChk)
    (d6 : DefF K "path_of" sPathOf)
    (d7 : DefF K "root_of" sRootOf)
    (d8 : DefF K "roots_of" sRootsOf)
    (d9 : DefF K "find" sFind)
    (d10 : DefF K "find_all" sFindAll)
    (d11 : DefF K "check_root" sChkRoot)
    (d12 : DefF K "link" sLink)
    (d13 : DefF K "unite" sUnite)
    (d14 : DefF K "is_find" sIsFnd)
    (d15 : DefF K "has_form" sForm)
    (d16 : DefF K "is_link" sIsLnk)
    (d17 : DefF K "is_round" sIsRnd)
    (d18 : DefF K "may_stand" sMay)
    (d19 : DefF K "check_steps" sChkS)
    (d20 : DefF K "check_history" sChkH)
    (d21 : DefF K "lower_finds" sLow)
    (d22 : DefF K "run_round" sRunR)
    (d23 : DefF K "run_steps" sRunS)
    (d24 : DefF K "run_history" sRunH)
    (d25 : DefF K "barring_nodes" sBarr)
    (d26 : DefF K "flattened" sFlat)
    (d27 : DefF K "is_name" sIsNm)
    (d28 : DefF K "forest_in" sFIn)
    (d29 : DefF K "check_new_name" sCNN)
    (d30 : DefF K "do_new" sDoNew)
    (d31 : DefF K "do_link" sDoLi)
    (d32 : DefF K "do_unite" sDoUn)
    (d33 : DefF K "do_run" sDoRu)
    (d34 : DefF K "check_command" sChkC)
    (d35 : DefF K "do_command" sDoCmd)
    (d36 : DefF K "_law_start" sStart)
    (d37 : DefF K "_law_take" sTake)
    (d38 : DefF K "_law_of" sOf)
    (d39 : DefF K "_law_same" sSame)
    (d40 : DefF K "law" sLaw)
    (z_len : PySem.W.nsIn K mainGlobals "len" = some none)
    (z_range : PySem.W.nsIn K mainGlobals "range" = some none)
    (z_list : PySem.W.nsIn K mainGlobals "list" = some none)
    (z_tuple : PySem.W.nsIn K mainGlobals "tuple" = some none)
    (z_max : PySem.W.nsIn K mainGlobals "max" = some none)
    (z_min : PySem.W.nsIn K mainGlobals "min" = some none)
    (z_isinstance : PySem.W.nsIn K mainGlobals "isinstance" = some none)
    (z_bool : PySem.W.nsIn K mainGlobals "bool" = some none)
    (z_int : PySem.W.nsIn K mainGlobals "int" = some none)
    (z_str : PySem.W.nsIn K mainGlobals "str" = some none)
    (z_all : PySem.W.nsIn K mainGlobals "all" = some none)
    (z_zip : PySem.W.nsIn K mainGlobals "zip" = some none)
    (z_set : PySem.W.nsIn K mainGlobals "set" = some none)
    (z_sorted : PySem.W.nsIn K mainGlobals "sorted" = some none)
    (z_sum : PySem.W.nsIn K mainGlobals "sum" = some none)
    (z_ValueError : PySem.W.nsIn K mainGlobals "ValueError" = some none)
    (z_LookupError : PySem.W.nsIn K mainGlobals "LookupError" = some none)
    (z_enumerate : PySem.W.nsIn K mainGlobals "enumerate" = some none)
    {CForestError fForestError : Addr} {ocForestError : Value} {odForestError anForestError : Option Addr} {slForestError : Array (Option Value)} {kVForestError dcForestError pmForestError cdForestError ctForestError : Value}
    (aForestError : PySem.W.nsIn K mainGlobals "ForestError" = some (some (.ref CForestError))) (iForestError : PySem.W.findIn K (.ref CForestError) "__init__" = some (some (.ref fForestError))) (lForestError : K.lookup fForestError = some ⟨ocForestError, odForestError, .func (PySem.W.fnOf "__init__" "ForestError.__init__" (defArgs (initS sForE)) (defBody (initS sForE)) (defScope (initS sForE)) .none kVForestError dcForestError pmForestError anForestError cdForestError ctForestError), slForestError⟩)
    (cForestError : PySem.W.codeIn K cdForestError "ForestError.__init__" = true) (kForestError : PySem.W.keepIn K (.ref fForestError) = true)
    (rForestError : PySem.W.readsIn K CForestError (.type "type") = true) (mForestError : PySem.W.findCls K (.ref CForestError) (.type "type") "__init__" = some (.val (.ref fForestError))) (pForestError : PySem.W.specialIn K (.ref CForestError) "__getattribute__" = some (some (.builtin "type.__getattribute__"))) (qForestError : PySem.W.keepIn K (.ref CForestError) = true) (vForestError : PySem.W.findCls K (.type "ValueError") (.type "type") "__init__" = some (.val (.builtin "ValueError.__init__")))
    {CMissing fMissing : Addr} {ocMissing : Value} {odMissing anMissing : Option Addr} {slMissing : Array (Option Value)} {kVMissing dcMissing pmMissing cdMissing ctMissing : Value}
    (aMissing : PySem.W.nsIn K mainGlobals "Missing" = some (some (.ref CMissing))) (iMissing : PySem.W.findIn K (.ref CMissing) "__init__" = some (some (.ref fMissing))) (lMissing : K.lookup fMissing = some ⟨ocMissing, odMissing, .func (PySem.W.fnOf "__init__" "Missing.__init__" (defArgs (initS sMiss)) (defBody (initS sMiss)) (defScope (initS sMiss)) .none kVMissing dcMissing pmMissing anMissing cdMissing ctMissing), slMissing⟩)
    (cMissing : PySem.W.codeIn K cdMissing "Missing.__init__" = true) (kMissing : PySem.W.keepIn K (.ref fMissing) = true)
    (rMissing : PySem.W.readsIn K CMissing (.type "type") = true) (mMissing : PySem.W.findCls K (.ref CMissing) (.type "type") "__init__" = some (.val (.ref fMissing))) (pMissing : PySem.W.specialIn K (.ref CMissing) "__getattribute__" = some (some (.builtin "type.__getattribute__"))) (qMissing : PySem.W.keepIn K (.ref CMissing) = true) (vMissing : PySem.W.findCls K (.type "LookupError") (.type "type") "__init__" = some (.val (.builtin "LookupError.__init__")))
    {CNoNode fNoNode : Addr} {ocNoNode : Value} {odNoNode anNoNode : Option Addr} {slNoNode : Array (Option Value)} {kVNoNode dcNoNode pmNoNode cdNoNode ctNoNode : Value}
    (aNoNode : PySem.W.nsIn K mainGlobals "NoNode" = some (some (.ref CNoNode))) (iNoNode : PySem.W.findIn K (.ref CNoNode) "__init__" = some (some (.ref fNoNode))) (lNoNode : K.lookup fNoNode = some ⟨ocNoNode, odNoNode, .func (PySem.W.fnOf "__init__" "NoNode.__init__" (defArgs (initS sE_NoNode)) (defBody (initS sE_NoNode)) (defScope (initS sE_NoNode)) .none kVNoNode dcNoNode pmNoNode anNoNode cdNoNode ctNoNode), slNoNode⟩)
    (cNoNode : PySem.W.codeIn K cdNoNode "NoNode.__init__" = true) (kNoNode : PySem.W.keepIn K (.ref fNoNode) = true)
    (tNoNode : PySem.W.typeIn K (.ref fNoNode) = some (.type "function")) (uNoNode : PySem.W.excInitIn K CNoNode luTail "LookupError.__new__" = true) (oNoNode : PySem.W.excOver K CNoNode luTail = true) (hNoNode : PySem.W.hasDictIn K CNoNode = true) (saNoNode : PySem.W.findIn K (.ref CNoNode) "__setattr__" = some (some (.builtin "object.__setattr__"))) (bNoNode : PySem.W.subIn K (.ref CNoNode) (.type "BaseException") = some true)
    (yNoNode : PySem.W.typeIn K (.ref CNoNode) = some (.type "type")) (wNoNode : PySem.W.keepIn K (.ref CNoNode) = true) (nNoNode : PySem.W.findIn K (.ref CNoNode) "tag" = some none) (gNoNode : PySem.W.findIn K (.ref CNoNode) "node" = some none) (xNoNode : PySem.W.findIn K (.ref CNoNode) "__getattribute__" = some (some (.builtin "BaseException.__getattribute__"))) (jNoNode : PySem.W.findIn K (.ref CNoNode) "__getattr__" = some none)
    {CNotRoot fNotRoot : Addr} {ocNotRoot : Value} {odNotRoot anNotRoot : Option Addr} {slNotRoot : Array (Option Value)} {kVNotRoot dcNotRoot pmNotRoot cdNotRoot ctNotRoot : Value}
    (aNotRoot : PySem.W.nsIn K mainGlobals "NotRoot" = some (some (.ref CNotRoot))) (iNotRoot : PySem.W.findIn K (.ref CNotRoot) "__init__" = some (some (.ref fNotRoot))) (lNotRoot : K.lookup fNotRoot = some ⟨ocNotRoot, odNotRoot, .func (PySem.W.fnOf "__init__" "NotRoot.__init__" (defArgs (initS sE_NotRoot)) (defBody (initS sE_NotRoot)) (defScope (initS sE_NotRoot)) .none kVNotRoot dcNotRoot pmNotRoot anNotRoot cdNotRoot ctNotRoot), slNotRoot⟩)
    (cNotRoot : PySem.W.codeIn K cdNotRoot "NotRoot.__init__" = true) (kNotRoot : PySem.W.keepIn K (.ref fNotRoot) = true)
    (tNotRoot : PySem.W.typeIn K (.ref fNotRoot) = some (.type "function")) (uNotRoot : PySem.W.excInitIn K CNotRoot vaTail "ValueError.__new__" = true) (oNotRoot : PySem.W.excOver K CNotRoot vaTail = true) (hNotRoot : PySem.W.hasDictIn K CNotRoot = true) (saNotRoot : PySem.W.findIn K (.ref CNotRoot) "__setattr__" = some (some (.builtin "object.__setattr__"))) (bNotRoot : PySem.W.subIn K (.ref CNotRoot) (.type "BaseException") = some true)
    (yNotRoot : PySem.W.typeIn K (.ref CNotRoot) = some (.type "type")) (wNotRoot : PySem.W.keepIn K (.ref CNotRoot) = true) (nNotRoot : PySem.W.findIn K (.ref CNotRoot) "tag" = some none) (gNotRoot : PySem.W.findIn K (.ref CNotRoot) "node" = some none) (xNotRoot : PySem.W.findIn K (.ref CNotRoot) "__getattribute__" = some (some (.builtin "BaseException.__getattribute__"))) (jNotRoot : PySem.W.findIn K (.ref CNotRoot) "__getattr__" = some none)
    {CSameRoot fSameRoot : Addr} {ocSameRoot : Value} {odSameRoot anSameRoot : Option Addr} {slSameRoot : Array (Option Value)} {kVSameRoot dcSameRoot pmSameRoot cdSameRoot ctSameRoot : Value}
    (aSameRoot : PySem.W.nsIn K mainGlobals "SameRoot" = some (some (.ref CSameRoot))) (iSameRoot : PySem.W.findIn K (.ref CSameRoot) "__init__" = some (some (.ref fSameRoot))) (lSameRoot : K.lookup fSameRoot = some ⟨ocSameRoot, odSameRoot, .func (PySem.W.fnOf "__init__" "SameRoot.__init__" (defArgs (initS sE_SameRoot)) (defBody (initS sE_SameRoot)) (defScope (initS sE_SameRoot)) .none kVSameRoot dcSameRoot pmSameRoot anSameRoot cdSameRoot ctSameRoot), slSameRoot⟩)
    (cSameRoot : PySem.W.codeIn K cdSameRoot "SameRoot.__init__" = true) (kSameRoot : PySem.W.keepIn K (.ref fSameRoot) = true)
    (tSameRoot : PySem.W.typeIn K (.ref fSameRoot) = some (.type "function")) (uSameRoot : PySem.W.excInitIn K CSameRoot vaTail "ValueError.__new__" = true) (oSameRoot : PySem.W.excOver K CSameRoot vaTail = true) (hSameRoot : PySem.W.hasDictIn K CSameRoot = true) (saSameRoot : PySem.W.findIn K (.ref CSameRoot) "__setattr__" = some (some (.builtin "object.__setattr__"))) (bSameRoot : PySem.W.subIn K (.ref CSameRoot) (.type "BaseException") = some true)
    (ySameRoot : PySem.W.typeIn K (.ref CSameRoot) = some (.type "type")) (wSameRoot : PySem.W.keepIn K (.ref CSameRoot) = true) (nSameRoot : PySem.W.findIn K (.ref CSameRoot) "tag" = some none) (gSameRoot : PySem.W.findIn K (.ref CSameRoot) "node" = some none) (xSameRoot : PySem.W.findIn K (.ref CSameRoot) "__getattribute__" = some (some (.builtin "BaseException.__getattribute__"))) (jSameRoot : PySem.W.findIn K (.ref CSameRoot) "__getattr__" = some none)
    {CTooManyNodes fTooManyNodes : Addr} {ocTooManyNodes : Value} {odTooManyNodes anTooManyNodes : Option Addr} {slTooManyNodes : Array (Option Value)} {kVTooManyNodes dcTooManyNodes pmTooManyNodes cdTooManyNodes ctTooManyNodes : Value}
    (aTooManyNodes : PySem.W.nsIn K mainGlobals "TooManyNodes" = some (some (.ref CTooManyNodes))) (iTooManyNodes : PySem.W.findIn K (.ref CTooManyNodes) "__init__" = some (some (.ref fTooManyNodes))) (lTooManyNodes : K.lookup fTooManyNodes = some ⟨ocTooManyNodes, odTooManyNodes, .func (PySem.W.fnOf "__init__" "TooManyNodes.__init__" (defArgs (initS sTooMany)) (defBody (initS sTooMany)) (defScope (initS sTooMany)) .none kVTooManyNodes dcTooManyNodes pmTooManyNodes anTooManyNodes cdTooManyNodes ctTooManyNodes), slTooManyNodes⟩)
    (cTooManyNodes : PySem.W.codeIn K cdTooManyNodes "TooManyNodes.__init__" = true) (kTooManyNodes : PySem.W.keepIn K (.ref fTooManyNodes) = true)
    (tTooManyNodes : PySem.W.typeIn K (.ref fTooManyNodes) = some (.type "function")) (uTooManyNodes : PySem.W.excInitIn K CTooManyNodes vaTail "ValueError.__new__" = true) (oTooManyNodes : PySem.W.excOver K CTooManyNodes vaTail = true) (hTooManyNodes : PySem.W.hasDictIn K CTooManyNodes = true) (saTooManyNodes : PySem.W.findIn K (.ref CTooManyNodes) "__setattr__" = some (some (.builtin "object.__setattr__"))) (bTooManyNodes : PySem.W.subIn K (.ref CTooManyNodes) (.type "BaseException") = some true)
    (yTooManyNodes : PySem.W.typeIn K (.ref CTooManyNodes) = some (.type "type")) (wTooManyNodes : PySem.W.keepIn K (.ref CTooManyNodes) = true) (nTooManyNodes : PySem.W.findIn K (.ref CTooManyNodes) "tag" = some none) (gTooManyNodes : PySem.W.findIn K (.ref CTooManyNodes) "limit" = some none) (xTooManyNodes : PySem.W.findIn K (.ref CTooManyNodes) "__getattribute__" = some (some (.builtin "BaseException.__getattribute__"))) (jTooManyNodes : PySem.W.findIn K (.ref CTooManyNodes) "__getattr__" = some none)
    {CBadParent fBadParent : Addr} {ocBadParent : Value} {odBadParent anBadParent : Option Addr} {slBadParent : Array (Option Value)} {kVBadParent dcBadParent pmBadParent cdBadParent ctBadParent : Value}
    (aBadParent : PySem.W.nsIn K mainGlobals "BadParent" = some (some (.ref CBadParent))) (iBadParent : PySem.W.findIn K (.ref CBadParent) "__init__" = some (some (.ref fBadParent))) (lBadParent : K.lookup fBadParent = some ⟨ocBadParent, odBadParent, .func (PySem.W.fnOf "__init__" "BadParent.__init__" (defArgs (initS sBadPar)) (defBody (initS sBadPar)) (defScope (initS sBadPar)) .none kVBadParent dcBadParent pmBadParent anBadParent cdBadParent ctBadParent), slBadParent⟩)
    (cBadParent : PySem.W.codeIn K cdBadParent "BadParent.__init__" = true) (kBadParent : PySem.W.keepIn K (.ref fBadParent) = true)
    (tBadParent : PySem.W.typeIn K (.ref fBadParent) = some (.type "function")) (uBadParent : PySem.W.excInitIn K CBadParent vaTail "ValueError.__new__" = true) (oBadParent : PySem.W.excOver K CBadParent vaTail = true) (hBadParent : PySem.W.hasDictIn K CBadParent = true) (saBadParent : PySem.W.findIn K (.ref CBadParent) "__setattr__" = some (some (.builtin "object.__setattr__"))) (bBadParent : PySem.W.subIn K (.ref CBadParent) (.type "BaseException") = some true)
    (yBadParent : PySem.W.typeIn K (.ref CBadParent) = some (.type "type")) (wBadParent : PySem.W.keepIn K (.ref CBadParent) = true) (nBadParent : PySem.W.findIn K (.ref CBadParent) "tag" = some none) (gBadParent : PySem.W.findIn K (.ref CBadParent) "node" = some none) (xBadParent : PySem.W.findIn K (.ref CBadParent) "__getattribute__" = some (some (.builtin "BaseException.__getattribute__"))) (jBadParent : PySem.W.findIn K (.ref CBadParent) "__getattr__" = some none)
    {CCycle fCycle : Addr} {ocCycle : Value} {odCycle anCycle : Option Addr} {slCycle : Array (Option Value)} {kVCycle dcCycle pmCycle cdCycle ctCycle : Value}
    (aCycle : PySem.W.nsIn K mainGlobals "Cycle" = some (some (.ref CCycle))) (iCycle : PySem.W.findIn K (.ref CCycle) "__init__" = some (some (.ref fCycle))) (lCycle : K.lookup fCycle = some ⟨ocCycle, odCycle, .func (PySem.W.fnOf "__init__" "Cycle.__init__" (defArgs (initS sCycle)) (defBody (initS sCycle)) (defScope (initS sCycle)) .none kVCycle dcCycle pmCycle anCycle cdCycle ctCycle), slCycle⟩)
    (cCycle : PySem.W.codeIn K cdCycle "Cycle.__init__" = true) (kCycle : PySem.W.keepIn K (.ref fCycle) = true)
    (tCycle : PySem.W.typeIn K (.ref fCycle) = some (.type "function")) (uCycle : PySem.W.excInitIn K CCycle vaTail "ValueError.__new__" = true) (oCycle : PySem.W.excOver K CCycle vaTail = true) (hCycle : PySem.W.hasDictIn K CCycle = true) (saCycle : PySem.W.findIn K (.ref CCycle) "__setattr__" = some (some (.builtin "object.__setattr__"))) (bCycle : PySem.W.subIn K (.ref CCycle) (.type "BaseException") = some true)
    (yCycle : PySem.W.typeIn K (.ref CCycle) = some (.type "type")) (wCycle : PySem.W.keepIn K (.ref CCycle) = true) (nCycle : PySem.W.findIn K (.ref CCycle) "tag" = some none) (gCycle : PySem.W.findIn K (.ref CCycle) "node" = some none) (xCycle : PySem.W.findIn K (.ref CCycle) "__getattribute__" = some (some (.builtin "BaseException.__getattribute__"))) (jCycle : PySem.W.findIn K (.ref CCycle) "__getattr__" = some none)
    {CSizesDiffer fSizesDiffer : Addr} {ocSizesDiffer : Value} {odSizesDiffer anSizesDiffer : Option Addr} {slSizesDiffer : Array (Option Value)} {kVSizesDiffer dcSizesDiffer pmSizesDiffer cdSizesDiffer ctSizesDiffer : Value}
    (aSizesDiffer : PySem.W.nsIn K mainGlobals "SizesDiffer" = some (some (.ref CSizesDiffer))) (iSizesDiffer : PySem.W.findIn K (.ref CSizesDiffer) "__init__" = some (some (.ref fSizesDiffer))) (lSizesDiffer : K.lookup fSizesDiffer = some ⟨ocSizesDiffer, odSizesDiffer, .func (PySem.W.fnOf "__init__" "SizesDiffer.__init__" (defArgs (initS sE_SizesDiffer)) (defBody (initS sE_SizesDiffer)) (defScope (initS sE_SizesDiffer)) .none kVSizesDiffer dcSizesDiffer pmSizesDiffer anSizesDiffer cdSizesDiffer ctSizesDiffer), slSizesDiffer⟩)
    (cSizesDiffer : PySem.W.codeIn K cdSizesDiffer "SizesDiffer.__init__" = true) (kSizesDiffer : PySem.W.keepIn K (.ref fSizesDiffer) = true)
    (tSizesDiffer : PySem.W.typeIn K (.ref fSizesDiffer) = some (.type "function")) (uSizesDiffer : PySem.W.excInitIn K CSizesDiffer vaTail "ValueError.__new__" = true) (oSizesDiffer : PySem.W.excOver K CSizesDiffer vaTail = true) (hSizesDiffer : PySem.W.hasDictIn K CSizesDiffer = true) (saSizesDiffer : PySem.W.findIn K (.ref CSizesDiffer) "__setattr__" = some (some (.builtin "object.__setattr__"))) (bSizesDiffer : PySem.W.subIn K (.ref CSizesDiffer) (.type "BaseException") = some true)
    (ySizesDiffer : PySem.W.typeIn K (.ref CSizesDiffer) = some (.type "type")) (wSizesDiffer : PySem.W.keepIn K (.ref CSizesDiffer) = true) (nSizesDiffer : PySem.W.findIn K (.ref CSizesDiffer) "tag" = some none) (gSizesDiffer : PySem.W.findIn K (.ref CSizesDiffer) "size" = some none) (xSizesDiffer : PySem.W.findIn K (.ref CSizesDiffer) "__getattribute__" = some (some (.builtin "BaseException.__getattribute__"))) (jSizesDiffer : PySem.W.findIn K (.ref CSizesDiffer) "__getattr__" = some none)
    {CRootsDiffer fRootsDiffer : Addr} {ocRootsDiffer : Value} {odRootsDiffer anRootsDiffer : Option Addr} {slRootsDiffer : Array (Option Value)} {kVRootsDiffer dcRootsDiffer pmRootsDiffer cdRootsDiffer ctRootsDiffer : Value}
    (aRootsDiffer : PySem.W.nsIn K mainGlobals "RootsDiffer" = some (some (.ref CRootsDiffer))) (iRootsDiffer : PySem.W.findIn K (.ref CRootsDiffer) "__init__" = some (some (.ref fRootsDiffer))) (lRootsDiffer : K.lookup fRootsDiffer = some ⟨ocRootsDiffer, odRootsDiffer, .func (PySem.W.fnOf "__init__" "RootsDiffer.__init__" (defArgs (initS sE_RootsDiffer)) (defBody (initS sE_RootsDiffer)) (defScope (initS sE_RootsDiffer)) .none kVRootsDiffer dcRootsDiffer pmRootsDiffer anRootsDiffer cdRootsDiffer ctRootsDiffer), slRootsDiffer⟩)
    (cRootsDiffer : PySem.W.codeIn K cdRootsDiffer "RootsDiffer.__init__" = true) (kRootsDiffer : PySem.W.keepIn K (.ref fRootsDiffer) = true)
    (tRootsDiffer : PySem.W.typeIn K (.ref fRootsDiffer) = some (.type "function")) (uRootsDiffer : PySem.W.excInitIn K CRootsDiffer vaTail "ValueError.__new__" = true) (oRootsDiffer : PySem.W.excOver K CRootsDiffer vaTail = true) (hRootsDiffer : PySem.W.hasDictIn K CRootsDiffer = true) (saRootsDiffer : PySem.W.findIn K (.ref CRootsDiffer) "__setattr__" = some (some (.builtin "object.__setattr__"))) (bRootsDiffer : PySem.W.subIn K (.ref CRootsDiffer) (.type "BaseException") = some true)
    (yRootsDiffer : PySem.W.typeIn K (.ref CRootsDiffer) = some (.type "type")) (wRootsDiffer : PySem.W.keepIn K (.ref CRootsDiffer) = true) (nRootsDiffer : PySem.W.findIn K (.ref CRootsDiffer) "tag" = some none) (gRootsDiffer : PySem.W.findIn K (.ref CRootsDiffer) "node" = some none) (xRootsDiffer : PySem.W.findIn K (.ref CRootsDiffer) "__getattribute__" = some (some (.builtin "BaseException.__getattribute__"))) (jRootsDiffer : PySem.W.findIn K (.ref CRootsDiffer) "__getattr__" = some none)
    {CNoWay fNoWay : Addr} {ocNoWay : Value} {odNoWay anNoWay : Option Addr} {slNoWay : Array (Option Value)} {kVNoWay dcNoWay pmNoWay cdNoWay ctNoWay : Value}
    (aNoWay : PySem.W.nsIn K mainGlobals "NoWay" = some (some (.ref CNoWay))) (iNoWay : PySem.W.findIn K (.ref CNoWay) "__init__" = some (some (.ref fNoWay))) (lNoWay : K.lookup fNoWay = some ⟨ocNoWay, odNoWay, .func (PySem.W.fnOf "__init__" "NoWay.__init__" (defArgs (initS sE_NoWay)) (defBody (initS sE_NoWay)) (defScope (initS sE_NoWay)) .none kVNoWay dcNoWay pmNoWay anNoWay cdNoWay ctNoWay), slNoWay⟩)
    (cNoWay : PySem.W.codeIn K cdNoWay "NoWay.__init__" = true) (kNoWay : PySem.W.keepIn K (.ref fNoWay) = true)
    (tNoWay : PySem.W.typeIn K (.ref fNoWay) = some (.type "function")) (uNoWay : PySem.W.excInitIn K CNoWay vaTail "ValueError.__new__" = true) (oNoWay : PySem.W.excOver K CNoWay vaTail = true) (hNoWay : PySem.W.hasDictIn K CNoWay = true) (saNoWay : PySem.W.findIn K (.ref CNoWay) "__setattr__" = some (some (.builtin "object.__setattr__"))) (bNoWay : PySem.W.subIn K (.ref CNoWay) (.type "BaseException") = some true)
    (yNoWay : PySem.W.typeIn K (.ref CNoWay) = some (.type "type")) (wNoWay : PySem.W.keepIn K (.ref CNoWay) = true) (nNoWay : PySem.W.findIn K (.ref CNoWay) "tag" = some none) (gNoWay : PySem.W.findIn K (.ref CNoWay) "node" = some none) (xNoWay : PySem.W.findIn K (.ref CNoWay) "__getattribute__" = some (some (.builtin "BaseException.__getattribute__"))) (jNoWay : PySem.W.findIn K (.ref CNoWay) "__getattr__" = some none)
    {CBadStep fBadStep : Addr} {ocBadStep : Value} {odBadStep anBadStep : Option Addr} {slBadStep : Array (Option Value)} {kVBadStep dcBadStep pmBadStep cdBadStep ctBadStep : Value}
    (aBadStep : PySem.W.nsIn K mainGlobals "BadStep" = some (some (.ref CBadStep))) (iBadStep : PySem.W.findIn K (.ref CBadStep) "__init__" = some (some (.ref fBadStep))) (lBadStep : K.lookup fBadStep = some ⟨ocBadStep, odBadStep, .func (PySem.W.fnOf "__init__" "BadStep.__init__" (defArgs (initS sE_BadStep)) (defBody (initS sE_BadStep)) (defScope (initS sE_BadStep)) .none kVBadStep dcBadStep pmBadStep anBadStep cdBadStep ctBadStep), slBadStep⟩)
    (cBadStep : PySem.W.codeIn K cdBadStep "BadStep.__init__" = true) (kBadStep : PySem.W.keepIn K (.ref fBadStep) = true)
    (tBadStep : PySem.W.typeIn K (.ref fBadStep) = some (.type "function")) (uBadStep : PySem.W.excInitIn K CBadStep vaTail "ValueError.__new__" = true) (oBadStep : PySem.W.excOver K CBadStep vaTail = true) (hBadStep : PySem.W.hasDictIn K CBadStep = true) (saBadStep : PySem.W.findIn K (.ref CBadStep) "__setattr__" = some (some (.builtin "object.__setattr__"))) (bBadStep : PySem.W.subIn K (.ref CBadStep) (.type "BaseException") = some true)
    (yBadStep : PySem.W.typeIn K (.ref CBadStep) = some (.type "type")) (wBadStep : PySem.W.keepIn K (.ref CBadStep) = true) (nBadStep : PySem.W.findIn K (.ref CBadStep) "tag" = some none) (gBadStep : PySem.W.findIn K (.ref CBadStep) "pos" = some none) (xBadStep : PySem.W.findIn K (.ref CBadStep) "__getattribute__" = some (some (.builtin "BaseException.__getattribute__"))) (jBadStep : PySem.W.findIn K (.ref CBadStep) "__getattr__" = some none)
    {CTooLong fTooLong : Addr} {ocTooLong : Value} {odTooLong anTooLong : Option Addr} {slTooLong : Array (Option Value)} {kVTooLong dcTooLong pmTooLong cdTooLong ctTooLong : Value}
    (aTooLong : PySem.W.nsIn K mainGlobals "TooLong" = some (some (.ref CTooLong))) (iTooLong : PySem.W.findIn K (.ref CTooLong) "__init__" = some (some (.ref fTooLong))) (lTooLong : K.lookup fTooLong = some ⟨ocTooLong, odTooLong, .func (PySem.W.fnOf "__init__" "TooLong.__init__" (defArgs (initS sE_TooLong)) (defBody (initS sE_TooLong)) (defScope (initS sE_TooLong)) .none kVTooLong dcTooLong pmTooLong anTooLong cdTooLong ctTooLong), slTooLong⟩)
    (cTooLong : PySem.W.codeIn K cdTooLong "TooLong.__init__" = true) (kTooLong : PySem.W.keepIn K (.ref fTooLong) = true)
    (tTooLong : PySem.W.typeIn K (.ref fTooLong) = some (.type "function")) (uTooLong : PySem.W.excInitIn K CTooLong vaTail "ValueError.__new__" = true) (oTooLong : PySem.W.excOver K CTooLong vaTail = true) (hTooLong : PySem.W.hasDictIn K CTooLong = true) (saTooLong : PySem.W.findIn K (.ref CTooLong) "__setattr__" = some (some (.builtin "object.__setattr__"))) (bTooLong : PySem.W.subIn K (.ref CTooLong) (.type "BaseException") = some true)
    (yTooLong : PySem.W.typeIn K (.ref CTooLong) = some (.type "type")) (wTooLong : PySem.W.keepIn K (.ref CTooLong) = true) (nTooLong : PySem.W.findIn K (.ref CTooLong) "tag" = some none) (gTooLong : PySem.W.findIn K (.ref CTooLong) "limit" = some none) (xTooLong : PySem.W.findIn K (.ref CTooLong) "__getattribute__" = some (some (.builtin "BaseException.__getattribute__"))) (jTooLong : PySem.W.findIn K (.ref CTooLong) "__getattr__" = some none)
    {CBadCount fBadCount : Addr} {ocBadCount : Value} {odBadCount anBadCount : Option Addr} {slBadCount : Array (Option Value)} {kVBadCount dcBadCount pmBadCount cdBadCount ctBadCount : Value}
    (aBadCount : PySem.W.nsIn K mainGlobals "BadCount" = some (some (.ref CBadCount))) (iBadCount : PySem.W.findIn K (.ref CBadCount) "__init__" = some (some (.ref fBadCount))) (lBadCount : K.lookup fBadCount = some ⟨ocBadCount, odBadCount, .func (PySem.W.fnOf "__init__" "BadCount.__init__" (defArgs (initS sE_BadCount)) (defBody (initS sE_BadCount)) (defScope (initS sE_BadCount)) .none kVBadCount dcBadCount pmBadCount anBadCount cdBadCount ctBadCount), slBadCount⟩)
    (cBadCount : PySem.W.codeIn K cdBadCount "BadCount.__init__" = true) (kBadCount : PySem.W.keepIn K (.ref fBadCount) = true)
    (tBadCount : PySem.W.typeIn K (.ref fBadCount) = some (.type "function")) (uBadCount : PySem.W.excInitIn K CBadCount vaTail "ValueError.__new__" = true) (oBadCount : PySem.W.excOver K CBadCount vaTail = true) (hBadCount : PySem.W.hasDictIn K CBadCount = true) (saBadCount : PySem.W.findIn K (.ref CBadCount) "__setattr__" = some (some (.builtin "object.__setattr__"))) (bBadCount : PySem.W.subIn K (.ref CBadCount) (.type "BaseException") = some true)
    (yBadCount : PySem.W.typeIn K (.ref CBadCount) = some (.type "type")) (wBadCount : PySem.W.keepIn K (.ref CBadCount) = true) (nBadCount : PySem.W.findIn K (.ref CBadCount) "tag" = some none) (gBadCount : PySem.W.findIn K (.ref CBadCount) "count" = some none) (xBadCount : PySem.W.findIn K (.ref CBadCount) "__getattribute__" = some (some (.builtin "BaseException.__getattribute__"))) (jBadCount : PySem.W.findIn K (.ref CBadCount) "__getattr__" = some none)
    {CTooManyForests fTooManyForests : Addr} {ocTooManyForests : Value} {odTooManyForests anTooManyForests : Option Addr} {slTooManyForests : Array (Option Value)} {kVTooManyForests dcTooManyForests pmTooManyForests cdTooManyForests ctTooManyForests : Value}
    (aTooManyForests : PySem.W.nsIn K mainGlobals "TooManyForests" = some (some (.ref CTooManyForests))) (iTooManyForests : PySem.W.findIn K (.ref CTooManyForests) "__init__" = some (some (.ref fTooManyForests))) (lTooManyForests : K.lookup fTooManyForests = some ⟨ocTooManyForests, odTooManyForests, .func (PySem.W.fnOf "__init__" "TooManyForests.__init__" (defArgs (initS sE_TooManyForests)) (defBody (initS sE_TooManyForests)) (defScope (initS sE_TooManyForests)) .none kVTooManyForests dcTooManyForests pmTooManyForests anTooManyForests cdTooManyForests ctTooManyForests), slTooManyForests⟩)
    (cTooManyForests : PySem.W.codeIn K cdTooManyForests "TooManyForests.__init__" = true) (kTooManyForests : PySem.W.keepIn K (.ref fTooManyForests) = true)
    (tTooManyForests : PySem.W.typeIn K (.ref fTooManyForests) = some (.type "function")) (uTooManyForests : PySem.W.excInitIn K CTooManyForests vaTail "ValueError.__new__" = true) (oTooManyForests : PySem.W.excOver K CTooManyForests vaTail = true) (hTooManyForests : PySem.W.hasDictIn K CTooManyForests = true) (saTooManyForests : PySem.W.findIn K (.ref CTooManyForests) "__setattr__" = some (some (.builtin "object.__setattr__"))) (bTooManyForests : PySem.W.subIn K (.ref CTooManyForests) (.type "BaseException") = some true)
    (yTooManyForests : PySem.W.typeIn K (.ref CTooManyForests) = some (.type "type")) (wTooManyForests : PySem.W.keepIn K (.ref CTooManyForests) = true) (nTooManyForests : PySem.W.findIn K (.ref CTooManyForests) "tag" = some none) (gTooManyForests : PySem.W.findIn K (.ref CTooManyForests) "limit" = some none) (xTooManyForests : PySem.W.findIn K (.ref CTooManyForests) "__getattribute__" = some (some (.builtin "BaseException.__getattribute__"))) (jTooManyForests : PySem.W.findIn K (.ref CTooManyForests) "__getattr__" = some none)
    {CBadName fBadName : Addr} {ocBadName : Value} {odBadName anBadName : Option Addr} {slBadName : Array (Option Value)} {kVBadName dcBadName pmBadName cdBadName ctBadName : Value}
    (aBadName : PySem.W.nsIn K mainGlobals "BadName" = some (some (.ref CBadName))) (iBadName : PySem.W.findIn K (.ref CBadName) "__init__" = some (some (.ref fBadName))) (lBadName : K.lookup fBadName = some ⟨ocBadName, odBadName, .func (PySem.W.fnOf "__init__" "BadName.__init__" (defArgs (initS sE_BadName)) (defBody (initS sE_BadName)) (defScope (initS sE_BadName)) .none kVBadName dcBadName pmBadName anBadName cdBadName ctBadName), slBadName⟩)
    (cBadName : PySem.W.codeIn K cdBadName "BadName.__init__" = true) (kBadName : PySem.W.keepIn K (.ref fBadName) = true)
    (tBadName : PySem.W.typeIn K (.ref fBadName) = some (.type "function")) (uBadName : PySem.W.excInitIn K CBadName vaTail "ValueError.__new__" = true) (oBadName : PySem.W.excOver K CBadName vaTail = true) (hBadName : PySem.W.hasDictIn K CBadName = true) (saBadName : PySem.W.findIn K (.ref CBadName) "__setattr__" = some (some (.builtin "object.__setattr__"))) (bBadName : PySem.W.subIn K (.ref CBadName) (.type "BaseException") = some true)
    (yBadName : PySem.W.typeIn K (.ref CBadName) = some (.type "type")) (wBadName : PySem.W.keepIn K (.ref CBadName) = true) (nBadName : PySem.W.findIn K (.ref CBadName) "tag" = some none) (gBadName : PySem.W.findIn K (.ref CBadName) "name" = some none) (xBadName : PySem.W.findIn K (.ref CBadName) "__getattribute__" = some (some (.builtin "BaseException.__getattribute__"))) (jBadName : PySem.W.findIn K (.ref CBadName) "__getattr__" = some none)
    {CNameTaken fNameTaken : Addr} {ocNameTaken : Value} {odNameTaken anNameTaken : Option Addr} {slNameTaken : Array (Option Value)} {kVNameTaken dcNameTaken pmNameTaken cdNameTaken ctNameTaken : Value}
    (aNameTaken : PySem.W.nsIn K mainGlobals "NameTaken" = some (some (.ref CNameTaken))) (iNameTaken : PySem.W.findIn K (.ref CNameTaken) "__init__" = some (some (.ref fNameTaken))) (lNameTaken : K.lookup fNameTaken = some ⟨ocNameTaken, odNameTaken, .func (PySem.W.fnOf "__init__" "NameTaken.__init__" (defArgs (initS sE_NameTaken)) (defBody (initS sE_NameTaken)) (defScope (initS sE_NameTaken)) .none kVNameTaken dcNameTaken pmNameTaken anNameTaken cdNameTaken ctNameTaken), slNameTaken⟩)
    (cNameTaken : PySem.W.codeIn K cdNameTaken "NameTaken.__init__" = true) (kNameTaken : PySem.W.keepIn K (.ref fNameTaken) = true)
    (tNameTaken : PySem.W.typeIn K (.ref fNameTaken) = some (.type "function")) (uNameTaken : PySem.W.excInitIn K CNameTaken vaTail "ValueError.__new__" = true) (oNameTaken : PySem.W.excOver K CNameTaken vaTail = true) (hNameTaken : PySem.W.hasDictIn K CNameTaken = true) (saNameTaken : PySem.W.findIn K (.ref CNameTaken) "__setattr__" = some (some (.builtin "object.__setattr__"))) (bNameTaken : PySem.W.subIn K (.ref CNameTaken) (.type "BaseException") = some true)
    (yNameTaken : PySem.W.typeIn K (.ref CNameTaken) = some (.type "type")) (wNameTaken : PySem.W.keepIn K (.ref CNameTaken) = true) (nNameTaken : PySem.W.findIn K (.ref CNameTaken) "tag" = some none) (gNameTaken : PySem.W.findIn K (.ref CNameTaken) "name" = some none) (xNameTaken : PySem.W.findIn K (.ref CNameTaken) "__getattribute__" = some (some (.builtin "BaseException.__getattribute__"))) (jNameTaken : PySem.W.findIn K (.ref CNameTaken) "__getattr__" = some none)
    {CNoForest fNoForest : Addr} {ocNoForest : Value} {odNoForest anNoForest : Option Addr} {slNoForest : Array (Option Value)} {kVNoForest dcNoForest pmNoForest cdNoForest ctNoForest : Value}
    (aNoForest : PySem.W.nsIn K mainGlobals "NoForest" = some (some (.ref CNoForest))) (iNoForest : PySem.W.findIn K (.ref CNoForest) "__init__" = some (some (.ref fNoForest))) (lNoForest : K.lookup fNoForest = some ⟨ocNoForest, odNoForest, .func (PySem.W.fnOf "__init__" "NoForest.__init__" (defArgs (initS sE_NoForest)) (defBody (initS sE_NoForest)) (defScope (initS sE_NoForest)) .none kVNoForest dcNoForest pmNoForest anNoForest cdNoForest ctNoForest), slNoForest⟩)
    (cNoForest : PySem.W.codeIn K cdNoForest "NoForest.__init__" = true) (kNoForest : PySem.W.keepIn K (.ref fNoForest) = true)
    (tNoForest : PySem.W.typeIn K (.ref fNoForest) = some (.type "function")) (uNoForest : PySem.W.excInitIn K CNoForest luTail "LookupError.__new__" = true) (oNoForest : PySem.W.excOver K CNoForest luTail = true) (hNoForest : PySem.W.hasDictIn K CNoForest = true) (saNoForest : PySem.W.findIn K (.ref CNoForest) "__setattr__" = some (some (.builtin "object.__setattr__"))) (bNoForest : PySem.W.subIn K (.ref CNoForest) (.type "BaseException") = some true)
    (yNoForest : PySem.W.typeIn K (.ref CNoForest) = some (.type "type")) (wNoForest : PySem.W.keepIn K (.ref CNoForest) = true) (nNoForest : PySem.W.findIn K (.ref CNoForest) "tag" = some none) (gNoForest : PySem.W.findIn K (.ref CNoForest) "name" = some none) (xNoForest : PySem.W.findIn K (.ref CNoForest) "__getattribute__" = some (some (.builtin "BaseException.__getattribute__"))) (jNoForest : PySem.W.findIn K (.ref CNoForest) "__getattr__" = some none)
    {CBadCommand fBadCommand : Addr} {ocBadCommand : Value} {odBadCommand anBadCommand : Option Addr} {slBadCommand : Array (Option Value)} {kVBadCommand dcBadCommand pmBadCommand cdBadCommand ctBadCommand : Value}
    (aBadCommand : PySem.W.nsIn K mainGlobals "BadCommand" = some (some (.ref CBadCommand))) (iBadCommand : PySem.W.findIn K (.ref CBadCommand) "__init__" = some (some (.ref fBadCommand))) (lBadCommand : K.lookup fBadCommand = some ⟨ocBadCommand, odBadCommand, .func (PySem.W.fnOf "__init__" "BadCommand.__init__" (defArgs (initS sE_BadCommand)) (defBody (initS sE_BadCommand)) (defScope (initS sE_BadCommand)) .none kVBadCommand dcBadCommand pmBadCommand anBadCommand cdBadCommand ctBadCommand), slBadCommand⟩)
    (cBadCommand : PySem.W.codeIn K cdBadCommand "BadCommand.__init__" = true) (kBadCommand : PySem.W.keepIn K (.ref fBadCommand) = true)
    (tBadCommand : PySem.W.typeIn K (.ref fBadCommand) = some (.type "function")) (uBadCommand : PySem.W.excInitIn K CBadCommand vaTail "ValueError.__new__" = true) (oBadCommand : PySem.W.excOver K CBadCommand vaTail = true) (hBadCommand : PySem.W.hasDictIn K CBadCommand = true) (saBadCommand : PySem.W.findIn K (.ref CBadCommand) "__setattr__" = some (some (.builtin "object.__setattr__"))) (bBadCommand : PySem.W.subIn K (.ref CBadCommand) (.type "BaseException") = some true)
    (yBadCommand : PySem.W.typeIn K (.ref CBadCommand) = some (.type "type")) (wBadCommand : PySem.W.keepIn K (.ref CBadCommand) = true) (nBadCommand : PySem.W.findIn K (.ref CBadCommand) "tag" = some none) (gBadCommand : PySem.W.findIn K (.ref CBadCommand) "word" = some none) (xBadCommand : PySem.W.findIn K (.ref CBadCommand) "__getattribute__" = some (some (.builtin "BaseException.__getattribute__"))) (jBadCommand : PySem.W.findIn K (.ref CBadCommand) "__getattr__" = some none)
    {tM : Tok} (aMX : PySem.W.nsIn K mainGlobals "MAX_NODES" = some (some (.int 40 tM)))
    (mTooManyNodes : PySem.W.exmAny K (.ref CTooManyNodes) [.ref CTooManyNodes, .ref CBadParent, .ref CCycle] = some true)
    (mBadParent : PySem.W.exmAny K (.ref CBadParent) [.ref CTooManyNodes, .ref CBadParent, .ref CCycle] = some true)
    (mCycle : PySem.W.exmAny K (.ref CCycle) [.ref CTooManyNodes, .ref CBadParent, .ref CCycle] = some true)
    {tL : Tok} (aCL : PySem.W.nsIn K mainGlobals "COUNT_LIMIT" = some (some (.int 1000000000000000000000000000000 tL)))
    {tN : Tok} (aMN : PySem.W.nsIn K mainGlobals "MAX_NESTING" = some (some (.int 4 tN)))
    {tS : Tok} (aMS : PySem.W.nsIn K mainGlobals "MAX_STEPS" = some (some (.int 100 tS)))
    {CS : Addr} (aCS : PySem.W.nsIn K mainGlobals "Store" = some (some (.ref CS))) (pgS : PySem.W.plainGet K CS Str.empty = true) (hdS : PySem.W.hasDictIn K CS = true) (poS : PySem.W.plainOver K CS = true) (saS : PySem.W.findIn K (.ref CS) "__setattr__" = some (some (.builtin "object.__setattr__"))) (mkS : PySem.W.makesIn K CS = true) (kcS : PySem.W.keepIn K (.ref CS) = true) (nS0 : PySem.W.findIn K (.ref CS) "forests" = some none) (nS1 : PySem.W.findIn K (.ref CS) "total" = some none) (nS2 : PySem.W.findIn K (.ref CS) "past" = some none) (nS3 : PySem.W.findIn K (.ref CS) "future" = some none) (nS4 : PySem.W.findIn K (.ref CS) "watches" = some none) (nS5 : PySem.W.findIn K (.ref CS) "told" = some none) (nS6 : PySem.W.findIn K (.ref CS) "last_number" = some none)
    {fSI : Addr} {ocSI : Value} {odSI anSI : Option Addr} {slSI : Array (Option Value)} {kVSI dcSI pmSI cdSI ctSI : Value} (aSI : PySem.W.findIn K (.ref CS) "__init__" = some (some (.ref fSI))) (iSI : PySem.W.isFn K (.ref fSI) = true) (lSI : K.lookup fSI = some ⟨ocSI, odSI, .func (PySem.W.fnOf "__init__" "Store.__init__" (defArgs sSI) (defBody sSI) (defScope sSI) .none kVSI dcSI pmSI anSI cdSI ctSI), slSI⟩) (cSI : PySem.W.codeIn K cdSI "Store.__init__" = true) (kSI : PySem.W.keepIn K (.ref fSI) = true)
    {fSF : Addr} {ocSF : Value} {odSF anSF : Option Addr} {slSF : Array (Option Value)} {kVSF dcSF pmSF cdSF ctSF : Value} (aSF : PySem.W.findIn K (.ref CS) "forest_of" = some (some (.ref fSF))) (iSF : PySem.W.isFn K (.ref fSF) = true) (lSF : K.lookup fSF = some ⟨ocSF, odSF, .func (PySem.W.fnOf "forest_of" "Store.forest_of" (defArgs sSF) (defBody sSF) (defScope sSF) .none kVSF dcSF pmSF anSF cdSF ctSF), slSF⟩) (cSF : PySem.W.codeIn K cdSF "Store.forest_of" = true) (kSF : PySem.W.keepIn K (.ref fSF) = true)
    {fSA : Addr} {ocSA : Value} {odSA anSA : Option Addr} {slSA : Array (Option Value)} {kVSA dcSA pmSA cdSA ctSA : Value} (aSA : PySem.W.findIn K (.ref CS) "apply_all" = some (some (.ref fSA))) (iSA : PySem.W.isFn K (.ref fSA) = true) (lSA : K.lookup fSA = some ⟨ocSA, odSA, .func (PySem.W.fnOf "apply_all" "Store.apply_all" (defArgs sAA) (defBody sAA) (defScope sAA) .none kVSA dcSA pmSA anSA cdSA ctSA), slSA⟩) (cSA : PySem.W.codeIn K cdSA "Store.apply_all" = true) (kSA : PySem.W.keepIn K (.ref fSA) = true)
    {fSP : Addr} {ocSP : Value} {odSP anSP : Option Addr} {slSP : Array (Option Value)} {kVSP dcSP pmSP cdSP ctSP : Value} (aSP : PySem.W.findIn K (.ref CS) "apply" = some (some (.ref fSP))) (iSP : PySem.W.isFn K (.ref fSP) = true) (lSP : K.lookup fSP = some ⟨ocSP, odSP, .func (PySem.W.fnOf "apply" "Store.apply" (defArgs sAp) (defBody sAp) (defScope sAp) .none kVSP dcSP pmSP anSP cdSP ctSP), slSP⟩) (cSP : PySem.W.codeIn K cdSP "Store.apply" = true) (kSP : PySem.W.keepIn K (.ref fSP) = true)
    {fST : Addr} {ocST : Value} {odST anST : Option Addr} {slST : Array (Option Value)} {kVST dcST pmST cdST ctST : Value} (aST : PySem.W.findIn K (.ref CS) "total_cost" = some (some (.ref fST))) (iST : PySem.W.isFn K (.ref fST) = true) (lST : K.lookup fST = some ⟨ocST, odST, .func (PySem.W.fnOf "total_cost" "Store.total_cost" (defArgs sTC) (defBody sTC) (defScope sTC) .none kVST dcST pmST anST cdST ctST), slST⟩) (cST : PySem.W.codeIn K cdST "Store.total_cost" = true) (kST : PySem.W.keepIn K (.ref fST) = true)
    {dL : Addr} {esL : Array DictEntry} {nL : Nat} (aLEN : PySem.W.nsIn K mainGlobals "LENGTHS" = some (some (.ref dL))) (lkL : K.lookup dL = some ⟨.type "dict", none, .dict esL nL, #[]⟩) (ltL : PySem.W.KeysLit w.params esL.toList) (loL : (dL == sysModules) = false)
    {dA : Addr} {esA : Array DictEntry} {nA : Nat} (aACT : PySem.W.nsIn K mainGlobals "ACTIONS" = some (some (.ref dA))) (lkA : K.lookup dA = some ⟨.type "dict", none, .dict esA nA, #[]⟩) (ltA : PySem.W.KeysLit w.params esA.toList) (loA : (dA == sysModules) = false)
    {t3 t4 : Tok} (aMF : PySem.W.nsIn K mainGlobals "MAX_FORESTS" = some (some (.int 6 t3))) (aLt : PySem.W.nsIn K mainGlobals "MAX_LETTERS" = some (some (.int 6 t4)))
    {tw0 tw1 tw2 tw3 tw4 tw5 tw6 tw7 tw8 tw9 : Tok} (nW0 : PySem.W.nsIn K dL "new" = some (some (.int 3 tw0))) (nW1 : PySem.W.nsIn K dL "drop" = some (some (.int 2 tw1))) (nW2 : PySem.W.nsIn K dL "copy" = some (some (.int 3 tw2))) (nW3 : PySem.W.nsIn K dL "swap" = some (some (.int 3 tw3))) (nW4 : PySem.W.nsIn K dL "find" = some (some (.int 3 tw4))) (nW5 : PySem.W.nsIn K dL "link" = some (some (.int 4 tw5))) (nW6 : PySem.W.nsIn K dL "unite" = some (some (.int 4 tw6))) (nW7 : PySem.W.nsIn K dL "run" = some (some (.int 3 tw7))) (nW8 : PySem.W.nsIn K dL "flatten" = some (some (.int 2 tw8))) (nW9 : PySem.W.nsIn K dL "grow" = some (some (.int 3 tw9)))
    {g1 g2 g3 g4 : Addr} (nA1 : PySem.W.nsIn K dA "new" = some (some (.ref g1))) (aN1 : PySem.W.nsIn K mainGlobals "do_new" = some (some (.ref g1))) (nA2 : PySem.W.nsIn K dA "run" = some (some (.ref g2))) (aN2 : PySem.W.nsIn K mainGlobals "do_run" = some (some (.ref g2))) (nA3 : PySem.W.nsIn K dA "link" = some (some (.ref g3))) (aN3 : PySem.W.nsIn K mainGlobals "do_link" = some (some (.ref g3))) (nA4 : PySem.W.nsIn K dA "unite" = some (some (.ref g4))) (aN4 : PySem.W.nsIn K mainGlobals "do_unite" = some (some (.ref g4)))
    : ∃ fd : FuncData, (∀ (s : Shared) (v : Value), BindsTo s fd ⟨[v], []⟩ [("_law_script", v)]) ∧ ∀ base : Heap, K.In base → base.Ns mainGlobals mg → FnOk l.prog w K mg base CX0 24 fa fd ["_law_script"] (spLaw K) := by
  obtain ⟨f_0, fd_0, F_0, g_0⟩ := d0.get X G
  obtain ⟨f_1, fd_1, F_1, g_1⟩ := d1.get X G
  obtain ⟨f_2, fd_2, F_2, g_2⟩ := d2.get X G
  obtain ⟨f_3, fd_3, F_3, g_3⟩ := d3.get X G
  obtain ⟨f_4, fd_4, F_4, g_4⟩ := d4.get X G
  obtain ⟨f_5, fd_5, F_5, g_5⟩ := d5.get X G
  obtain ⟨f_6, fd_6, F_6, g_6⟩ := d6.get X G
  obtain ⟨f_7, fd_7, F_7, g_7⟩ := d7.get X G
  obtain ⟨f_8, fd_8, F_8, g_8⟩ := d8.get X G
  obtain ⟨f_9, fd_9, F_9, g_9⟩ := d9.get X G
  obtain ⟨f_10, fd_10, F_10, g_10⟩ := d10.get X G
  obtain ⟨f_11, fd_11, F_11, g_11⟩ := d11.get X G
  obtain ⟨f_12, fd_12, F_12, g_12⟩ := d12.get X G
  obtain ⟨f_13, fd_13, F_13, g_13⟩ := d13.get X G
  obtain ⟨f_14, fd_14, F_14, g_14⟩ := d14.get X G
  obtain ⟨f_15, fd_15, F_15, g_15⟩ := d15.get X G
  obtain ⟨f_16, fd_16, F_16, g_16⟩ := d16.get X G
  obtain ⟨f_17, fd_17, F_17, g_17⟩ := d17.get X G
  obtain ⟨f_18, fd_18, F_18, g_18⟩ := d18.get X G
  obtain ⟨f_19, fd_19, F_19, g_19⟩ := d19.get X G
  obtain ⟨f_20, fd_20, F_20, g_20⟩ := d20.get X G
  obtain ⟨f_21, fd_21, F_21, g_21⟩ := d21.get X G
  obtain ⟨f_22, fd_22, F_22, g_22⟩ := d22.get X G
  obtain ⟨f_23, fd_23, F_23, g_23⟩ := d23.get X G
  obtain ⟨f_24, fd_24, F_24, g_24⟩ := d24.get X G
  obtain ⟨f_25, fd_25, F_25, g_25⟩ := d25.get X G
  obtain ⟨f_26, fd_26, F_26, g_26⟩ := d26.get X G
  obtain ⟨f_27, fd_27, F_27, g_27⟩ := d27.get X G
  obtain ⟨f_28, fd_28, F_28, g_28⟩ := d28.get X G
  obtain ⟨f_29, fd_29, F_29, g_29⟩ := d29.get X G
  obtain ⟨f_30, fd_30, F_30, g_30⟩ := d30.get X G
  obtain ⟨f_31, fd_31, F_31, g_31⟩ := d31.get X G
  obtain ⟨f_32, fd_32, F_32, g_32⟩ := d32.get X G
  obtain ⟨f_33, fd_33, F_33, g_33⟩ := d33.get X G
  obtain ⟨f_34, fd_34, F_34, g_34⟩ := d34.get X G
  obtain ⟨f_35, fd_35, F_35, g_35⟩ := d35.get X G
  obtain ⟨f_36, fd_36, F_36, g_36⟩ := d36.get X G
  obtain ⟨f_37, fd_37, F_37, g_37⟩ := d37.get X G
  obtain ⟨f_38, fd_38, F_38, g_38⟩ := d38.get X G
  obtain ⟨f_39, fd_39, F_39, g_39⟩ := d39.get X G
  obtain ⟨fL, oc, od, an, sl, kV, dc, pm, cd, ct, aL, lk, cL, kL⟩ := d40
  have e := hfa.symm.trans (PySem.W.mg_of X G aL)
  cases e
  have FL := fun_mk (st := sLaw) lk cL kL
  replace z_len := PySem.W.mg_none_of X G z_len
  replace z_range := PySem.W.mg_none_of X G z_range
  replace z_list := PySem.W.mg_none_of X G z_list
  replace z_tuple := PySem.W.mg_none_of X G z_tuple
  replace z_max := PySem.W.mg_none_of X G z_max
  replace z_min := PySem.W.mg_none_of X G z_min
  replace z_isinstance := PySem.W.mg_none_of X G z_isinstance
  replace z_bool := PySem.W.mg_none_of X G z_bool
  replace z_int := PySem.W.mg_none_of X G z_int
  replace z_str := PySem.W.mg_none_of X G z_str
  replace z_all := PySem.W.mg_none_of X G z_all
  replace z_zip := PySem.W.mg_none_of X G z_zip
  replace z_set := PySem.W.mg_none_of X G z_set
  replace z_sorted := PySem.W.mg_none_of X G z_sorted
  replace z_sum := PySem.W.mg_none_of X G z_sum
  replace z_ValueError := PySem.W.mg_none_of X G z_ValueError
  replace z_LookupError := PySem.W.mg_none_of X G z_LookupError
  replace z_enumerate := PySem.W.mg_none_of X G z_enumerate
  have T : Tx mg := ⟨z_len, z_range, z_list, z_tuple, z_max, z_min⟩
  have TS : TxS mg := ⟨z_isinstance, z_list, z_tuple, z_bool, z_int, z_str, z_len, z_all, z_zip⟩
  have GForestError := PySem.W.mg_of X G aForestError
  have GMissing := PySem.W.mg_of X G aMissing
  have GNoNode := PySem.W.mg_of X G aNoNode
  have GNotRoot := PySem.W.mg_of X G aNotRoot
  have GSameRoot := PySem.W.mg_of X G aSameRoot
  have GTooManyNodes := PySem.W.mg_of X G aTooManyNodes
  have GBadParent := PySem.W.mg_of X G aBadParent
  have GCycle := PySem.W.mg_of X G aCycle
  have GSizesDiffer := PySem.W.mg_of X G aSizesDiffer
  have GRootsDiffer := PySem.W.mg_of X G aRootsDiffer
  have GNoWay := PySem.W.mg_of X G aNoWay
  have GBadStep := PySem.W.mg_of X G aBadStep
  have GTooLong := PySem.W.mg_of X G aTooLong
  have GBadCount := PySem.W.mg_of X G aBadCount
  have GTooManyForests := PySem.W.mg_of X G aTooManyForests
  have GBadName := PySem.W.mg_of X G aBadName
  have GNameTaken := PySem.W.mg_of X G aNameTaken
  have GNoForest := PySem.W.mg_of X G aNoForest
  have GBadCommand := PySem.W.mg_of X G aBadCommand
  have gM := PySem.W.mg_of X G aMX
  have gL := PySem.W.mg_of X G aCL
  have gN := PySem.W.mg_of X G aMN
  have gS := PySem.W.mg_of X G aMS
  have gCS := PySem.W.mg_of X G aCS
  have TCS : StT K CS := ⟨⟨pgS, hdS, poS, saS⟩, stN_no nS0 nS1 nS2 nS3 nS4 nS5 nS6⟩
  have FSI : Fun K "__init__" "Store.__init__" sSI fSI _ := fun_mk (st := sSI) lSI cSI kSI
  have FSF : Fun K "forest_of" "Store.forest_of" sSF fSF _ := fun_mk (st := sSF) lSF cSF kSF
  have bSF := FSF.binds (ps := ["self", "name"]) fun _ _ _ _ _ _ us hl => match us, hl with | [_, _], _ => rfl
  have FSA : Fun K "apply_all" "Store.apply_all" sAA fSA _ := fun_mk (st := sAA) lSA cSA kSA
  have bSA := FSA.binds (ps := ["self", "commands"]) fun _ _ _ _ _ _ us hl => match us, hl with | [_, _], _ => rfl
  have FSP : Fun K "apply" "Store.apply" sAp fSP _ := fun_mk (st := sAp) lSP cSP kSP
  have bSP := FSP.binds (ps := ["self", "command"]) fun _ _ _ _ _ _ us hl => match us, hl with | [_, _], _ => rfl
  have FST : Fun K "total_cost" "Store.total_cost" sTC fST _ := fun_mk (st := sTC) lST cST kST
  have bST := FST.binds (ps := ["self"]) fun _ _ _ _ _ _ us hl => match us, hl with | [_], _ => rfl
  have gLen := PySem.W.mg_of X G aLEN
  have gAct := PySem.W.mg_of X G aACT
  have gMF := PySem.W.mg_of X G aMF
  have gLt := PySem.W.mg_of X G aLt
  have DL : KDict K w dL esL nL := ⟨lkL, ltL, loL⟩
  have WDT : WordsT K dL := ⟨⟨_, nW0⟩, ⟨_, nW1⟩, ⟨_, nW2⟩, ⟨_, nW3⟩, ⟨_, nW4⟩, ⟨_, nW5⟩, ⟨_, nW6⟩, ⟨_, nW7⟩, ⟨_, nW8⟩, ⟨_, nW9⟩⟩
  refine ⟨PySem.W.fnOf "law" "law" (defArgs sLaw) (defBody sLaw) (defScope sLaw) .none kV dc pm an cd ct, fun s v => .of_eq rfl, fun base _ _ => ?_⟩
  have b_0 := F_0.binds (ps := ["parents", "node"]) fun _ _ _ _ _ _ us hl => match us, hl with | [_, _], _ => rfl
  have b_1 := F_1.binds (ps := ["parents"]) fun _ _ _ _ _ _ us hl => match us, hl with | [_], _ => rfl
  have b_2 := F_2.binds (ps := ["parents"]) fun _ _ _ _ _ _ us hl => match us, hl with | [_], _ => rfl
  have b_3 := F_3.binds (ps := ["size"]) fun _ _ _ _ _ _ us hl => match us, hl with | [_], _ => rfl
  have b_4 := F_4.binds (ps := ["size", "node"]) fun _ _ _ _ _ _ us hl => match us, hl with | [_, _], _ => rfl
  have b_5 := F_5.binds (ps := ["forest", "node"]) fun _ _ _ _ _ _ us hl => match us, hl with | [_, _], _ => rfl
  have b_6 := F_6.binds (ps := ["forest", "node"]) fun _ _ _ _ _ _ us hl => match us, hl with | [_, _], _ => rfl
  have b_7 := F_7.binds (ps := ["forest", "node"]) fun _ _ _ _ _ _ us hl => match us, hl with | [_, _], _ => rfl
  have b_8 := F_8.binds (ps := ["forest"]) fun _ _ _ _ _ _ us hl => match us, hl with | [_], _ => rfl
  have b_9 := F_9.binds (ps := ["forest", "node"]) fun _ _ _ _ _ _ us hl => match us, hl with | [_, _], _ => rfl
  have b_10 := F_10.binds (ps := ["forest", "nodes"]) fun _ _ _ _ _ _ us hl => match us, hl with | [_, _], _ => rfl
  have b_11 := F_11.binds (ps := ["forest", "node"]) fun _ _ _ _ _ _ us hl => match us, hl with | [_, _], _ => rfl
  have b_12 := F_12.binds (ps := ["forest", "child", "above"]) fun _ _ _ _ _ _ us hl => match us, hl with | [_, _, _], _ => rfl
  have b_13 := F_13.binds (ps := ["forest", "one", "other"]) fun _ _ _ _ _ _ us hl => match us, hl with | [_, _, _], _ => rfl
  have b_14 := F_14.binds (ps := ["step"]) fun _ _ _ _ _ _ us hl => match us, hl with | [_], _ => rfl
  have b_15 := F_15.binds (ps := ["step", "word"]) fun _ _ _ _ _ _ us hl => match us, hl with | [_, _], _ => rfl
  have b_16 := F_16.binds (ps := ["step"]) fun _ _ _ _ _ _ us hl => match us, hl with | [_], _ => rfl
  have b_17 := F_17.binds (ps := ["step"]) fun _ _ _ _ _ _ us hl => match us, hl with | [_], _ => rfl
  have b_18 := F_18.binds (ps := ["step", "depth"]) fun _ _ _ _ _ _ us hl => match us, hl with | [_, _], _ => rfl
  have b_19 := F_19.binds (ps := ["steps", "depth", "pos"]) fun _ _ _ _ _ _ us hl => match us, hl with | [_, _, _], _ => rfl
  have b_20 := F_20.binds (ps := ["history"]) fun _ _ _ _ _ _ us hl => match us, hl with | [_], _ => rfl
  have b_21 := F_21.binds (ps := ["forest", "steps"]) fun _ _ _ _ _ _ us hl => match us, hl with | [_, _], _ => rfl
  have b_22 := F_22.binds (ps := ["forest", "step"]) fun _ _ _ _ _ _ us hl => match us, hl with | [_, _], _ => rfl
  have b_23 := F_23.binds (ps := ["forest", "steps"]) fun _ _ _ _ _ _ us hl => match us, hl with | [_, _], _ => rfl
  have b_24 := F_24.binds (ps := ["forest", "history"]) fun _ _ _ _ _ _ us hl => match us, hl with | [_, _], _ => rfl
  have b_25 := F_25.binds (ps := ["one", "other", "changed"]) fun _ _ _ _ _ _ us hl => match us, hl with | [_, _, _], _ => rfl
  have b_26 := F_26.binds (ps := ["forest"]) fun _ _ _ _ _ _ us hl => match us, hl with | [_], _ => rfl
  have b_27 := F_27.binds (ps := ["text"]) fun _ _ _ _ _ _ us hl => match us, hl with | [_], _ => rfl
  have b_28 := F_28.binds (ps := ["forests", "name"]) fun _ _ _ _ _ _ us hl => match us, hl with | [_, _], _ => rfl
  have b_29 := F_29.binds (ps := ["forests", "name"]) fun _ _ _ _ _ _ us hl => match us, hl with | [_, _], _ => rfl
  have b_30 := F_30.binds (ps := ["forests", "name", "parents"]) fun _ _ _ _ _ _ us hl => match us, hl with | [_, _, _], _ => rfl
  have b_31 := F_31.binds (ps := ["forests", "name", "child", "above"]) fun _ _ _ _ _ _ us hl => match us, hl with | [_, _, _, _], _ => rfl
  have b_32 := F_32.binds (ps := ["forests", "name", "one", "other"]) fun _ _ _ _ _ _ us hl => match us, hl with | [_, _, _, _], _ => rfl
  have b_33 := F_33.binds (ps := ["forests", "name", "history"]) fun _ _ _ _ _ _ us hl => match us, hl with | [_, _, _], _ => rfl
  have b_34 := F_34.binds (ps := ["command"]) fun _ _ _ _ _ _ us hl => match us, hl with | [_], _ => rfl
  have b_35 := F_35.binds (ps := ["forests", "command"]) fun _ _ _ _ _ _ us hl => match us, hl with | [_, _], _ => rfl
  have b_36 := F_36.binds (ps := ["_law_script"]) fun _ _ _ _ _ _ us hl => match us, hl with | [_], _ => rfl
  have b_37 := F_37.binds (ps := ["_law_draw", "_law_many"]) fun _ _ _ _ _ _ us hl => match us, hl with | [_, _], _ => rfl
  have b_38 := F_38.binds (ps := ["_law_draw", "_law_some"]) fun _ _ _ _ _ _ us hl => match us, hl with | [_, _], _ => rfl
  have b_39 := F_39.binds (ps := ["_law_found", "_law_due"]) fun _ _ _ _ _ _ us hl => match us, hl with | [_, _], _ => rfl
  have HForestError : Fun K "__init__" "ForestError.__init__" (initS sForE) fForestError _ := fun_mk (st := initS sForE) lForestError cForestError kForestError
  have IForestError : FnOk l.prog w K mg base CX0 1 fForestError _ ["self", "tag", "message"] (spTop K "ValueError.__new__" vaTail) := ok_forEI HForestError z_ValueError vForestError
  have JForestError := HForestError.binds (ps := ["self", "tag", "message"]) fun _ _ _ _ _ _ us hl => match us, hl with | [_, _, _], _ => rfl
  have LForestError : ClsI K CForestError fForestError := ⟨rForestError, mForestError, pForestError, kForestError, qForestError⟩
  have HMissing : Fun K "__init__" "Missing.__init__" (initS sMiss) fMissing _ := fun_mk (st := initS sMiss) lMissing cMissing kMissing
  have IMissing : FnOk l.prog w K mg base CX0 1 fMissing _ ["self", "tag", "message"] (spTop K "LookupError.__new__" luTail) := ok_missI HMissing z_LookupError vMissing
  have JMissing := HMissing.binds (ps := ["self", "tag", "message"]) fun _ _ _ _ _ _ us hl => match us, hl with | [_, _, _], _ => rfl
  have LMissing : ClsI K CMissing fMissing := ⟨rMissing, mMissing, pMissing, kMissing, qMissing⟩
  have HNoNode : Fun K "__init__" "NoNode.__init__" (initS sE_NoNode) fNoNode _ := fun_mk (st := initS sE_NoNode) lNoNode cNoNode kNoNode
  have JNoNode := HNoNode.binds (ps := ["self", "node"]) fun _ _ _ _ _ _ us hl => match us, hl with | [_, _], _ => rfl
  have RNoNode : Raisable l.prog w K mg base 2 "NoNode" CNoNode "node" "NoNode" := ⟨⟨_, _, _, _, fNoNode, _, PySem.F.excBase_LookupError, ⟨uNoNode, oNoNode, hNoNode, saNoNode, bNoNode, yNoNode, wNoNode⟩, iNoNode, tNoNode, ok_E_NoNode HNoNode LMissing GMissing IMissing JMissing, JNoNode⟩, GNoNode, nNoNode, gNoNode, ⟨xNoNode, jNoNode, bNoNode, hNoNode⟩⟩
  have HNotRoot : Fun K "__init__" "NotRoot.__init__" (initS sE_NotRoot) fNotRoot _ := fun_mk (st := initS sE_NotRoot) lNotRoot cNotRoot kNotRoot
  have JNotRoot := HNotRoot.binds (ps := ["self", "node"]) fun _ _ _ _ _ _ us hl => match us, hl with | [_, _], _ => rfl
  have RNotRoot : Raisable l.prog w K mg base 2 "NotRoot" CNotRoot "node" "NotRoot" := ⟨⟨_, _, _, _, fNotRoot, _, PySem.F.excBase_ValueError, ⟨uNotRoot, oNotRoot, hNotRoot, saNotRoot, bNotRoot, yNotRoot, wNotRoot⟩, iNotRoot, tNotRoot, ok_E_NotRoot HNotRoot LForestError GForestError IForestError JForestError, JNotRoot⟩, GNotRoot, nNotRoot, gNotRoot, ⟨xNotRoot, jNotRoot, bNotRoot, hNotRoot⟩⟩
  have HSameRoot : Fun K "__init__" "SameRoot.__init__" (initS sE_SameRoot) fSameRoot _ := fun_mk (st := initS sE_SameRoot) lSameRoot cSameRoot kSameRoot
  have JSameRoot := HSameRoot.binds (ps := ["self", "node"]) fun _ _ _ _ _ _ us hl => match us, hl with | [_, _], _ => rfl
  have RSameRoot : Raisable l.prog w K mg base 2 "SameRoot" CSameRoot "node" "SameRoot" := ⟨⟨_, _, _, _, fSameRoot, _, PySem.F.excBase_ValueError, ⟨uSameRoot, oSameRoot, hSameRoot, saSameRoot, bSameRoot, ySameRoot, wSameRoot⟩, iSameRoot, tSameRoot, ok_E_SameRoot HSameRoot LForestError GForestError IForestError JForestError, JSameRoot⟩, GSameRoot, nSameRoot, gSameRoot, ⟨xSameRoot, jSameRoot, bSameRoot, hSameRoot⟩⟩
  have HTooManyNodes : Fun K "__init__" "TooManyNodes.__init__" (initS sTooMany) fTooManyNodes _ := fun_mk (st := initS sTooMany) lTooManyNodes cTooManyNodes kTooManyNodes
  have JTooManyNodes := HTooManyNodes.binds (ps := ["self", "limit"]) fun _ _ _ _ _ _ us hl => match us, hl with | [_, _], _ => rfl
  have RTooManyNodes : Raisable l.prog w K mg base 2 "TooManyNodes" CTooManyNodes "limit" "TooManyNodes" := ⟨⟨_, _, _, _, fTooManyNodes, _, PySem.F.excBase_ValueError, ⟨uTooManyNodes, oTooManyNodes, hTooManyNodes, saTooManyNodes, bTooManyNodes, yTooManyNodes, wTooManyNodes⟩, iTooManyNodes, tTooManyNodes, ok_tooManyI HTooManyNodes LForestError GForestError IForestError JForestError, JTooManyNodes⟩, GTooManyNodes, nTooManyNodes, gTooManyNodes, ⟨xTooManyNodes, jTooManyNodes, bTooManyNodes, hTooManyNodes⟩⟩
  have HBadParent : Fun K "__init__" "BadParent.__init__" (initS sBadPar) fBadParent _ := fun_mk (st := initS sBadPar) lBadParent cBadParent kBadParent
  have JBadParent := HBadParent.binds (ps := ["self", "node"]) fun _ _ _ _ _ _ us hl => match us, hl with | [_, _], _ => rfl
  have RBadParent : Raisable l.prog w K mg base 2 "BadParent" CBadParent "node" "BadParent" := ⟨⟨_, _, _, _, fBadParent, _, PySem.F.excBase_ValueError, ⟨uBadParent, oBadParent, hBadParent, saBadParent, bBadParent, yBadParent, wBadParent⟩, iBadParent, tBadParent, ok_badParI HBadParent LForestError GForestError IForestError JForestError, JBadParent⟩, GBadParent, nBadParent, gBadParent, ⟨xBadParent, jBadParent, bBadParent, hBadParent⟩⟩
  have HCycle : Fun K "__init__" "Cycle.__init__" (initS sCycle) fCycle _ := fun_mk (st := initS sCycle) lCycle cCycle kCycle
  have JCycle := HCycle.binds (ps := ["self", "node"]) fun _ _ _ _ _ _ us hl => match us, hl with | [_, _], _ => rfl
  have RCycle : Raisable l.prog w K mg base 2 "Cycle" CCycle "node" "Cycle" := ⟨⟨_, _, _, _, fCycle, _, PySem.F.excBase_ValueError, ⟨uCycle, oCycle, hCycle, saCycle, bCycle, yCycle, wCycle⟩, iCycle, tCycle, ok_cycleI HCycle LForestError GForestError IForestError JForestError, JCycle⟩, GCycle, nCycle, gCycle, ⟨xCycle, jCycle, bCycle, hCycle⟩⟩
  have HSizesDiffer : Fun K "__init__" "SizesDiffer.__init__" (initS sE_SizesDiffer) fSizesDiffer _ := fun_mk (st := initS sE_SizesDiffer) lSizesDiffer cSizesDiffer kSizesDiffer
  have JSizesDiffer := HSizesDiffer.binds (ps := ["self", "size"]) fun _ _ _ _ _ _ us hl => match us, hl with | [_, _], _ => rfl
  have RSizesDiffer : Raisable l.prog w K mg base 2 "SizesDiffer" CSizesDiffer "size" "SizesDiffer" := ⟨⟨_, _, _, _, fSizesDiffer, _, PySem.F.excBase_ValueError, ⟨uSizesDiffer, oSizesDiffer, hSizesDiffer, saSizesDiffer, bSizesDiffer, ySizesDiffer, wSizesDiffer⟩, iSizesDiffer, tSizesDiffer, ok_E_SizesDiffer HSizesDiffer LForestError GForestError IForestError JForestError, JSizesDiffer⟩, GSizesDiffer, nSizesDiffer, gSizesDiffer, ⟨xSizesDiffer, jSizesDiffer, bSizesDiffer, hSizesDiffer⟩⟩
  have HRootsDiffer : Fun K "__init__" "RootsDiffer.__init__" (initS sE_RootsDiffer) fRootsDiffer _ := fun_mk (st := initS sE_RootsDiffer) lRootsDiffer cRootsDiffer kRootsDiffer
  have JRootsDiffer := HRootsDiffer.binds (ps := ["self", "node"]) fun _ _ _ _ _ _ us hl => match us, hl with | [_, _], _ => rfl
  have RRootsDiffer : Raisable l.prog w K mg base 2 "RootsDiffer" CRootsDiffer "node" "RootsDiffer" := ⟨⟨_, _, _, _, fRootsDiffer, _, PySem.F.excBase_ValueError, ⟨uRootsDiffer, oRootsDiffer, hRootsDiffer, saRootsDiffer, bRootsDiffer, yRootsDiffer, wRootsDiffer⟩, iRootsDiffer, tRootsDiffer, ok_E_RootsDiffer HRootsDiffer LForestError GForestError IForestError JForestError, JRootsDiffer⟩, GRootsDiffer, nRootsDiffer, gRootsDiffer, ⟨xRootsDiffer, jRootsDiffer, bRootsDiffer, hRootsDiffer⟩⟩
  have HNoWay : Fun K "__init__" "NoWay.__init__" (initS sE_NoWay) fNoWay _ := fun_mk (st := initS sE_NoWay) lNoWay cNoWay kNoWay
  have JNoWay := HNoWay.binds (ps := ["self", "node"]) fun _ _ _ _ _ _ us hl => match us, hl with | [_, _], _ => rfl
  have RNoWay : Raisable l.prog w K mg base 2 "NoWay" CNoWay "node" "NoWay" := ⟨⟨_, _, _, _, fNoWay, _, PySem.F.excBase_ValueError, ⟨uNoWay, oNoWay, hNoWay, saNoWay, bNoWay, yNoWay, wNoWay⟩, iNoWay, tNoWay, ok_E_NoWay HNoWay LForestError GForestError IForestError JForestError, JNoWay⟩, GNoWay, nNoWay, gNoWay, ⟨xNoWay, jNoWay, bNoWay, hNoWay⟩⟩
  have HBadStep : Fun K "__init__" "BadStep.__init__" (initS sE_BadStep) fBadStep _ := fun_mk (st := initS sE_BadStep) lBadStep cBadStep kBadStep
  have JBadStep := HBadStep.binds (ps := ["self", "pos"]) fun _ _ _ _ _ _ us hl => match us, hl with | [_, _], _ => rfl
  have RBadStep : Raisable l.prog w K mg base 2 "BadStep" CBadStep "pos" "BadStep" := ⟨⟨_, _, _, _, fBadStep, _, PySem.F.excBase_ValueError, ⟨uBadStep, oBadStep, hBadStep, saBadStep, bBadStep, yBadStep, wBadStep⟩, iBadStep, tBadStep, ok_E_BadStep HBadStep LForestError GForestError IForestError JForestError, JBadStep⟩, GBadStep, nBadStep, gBadStep, ⟨xBadStep, jBadStep, bBadStep, hBadStep⟩⟩
  have HTooLong : Fun K "__init__" "TooLong.__init__" (initS sE_TooLong) fTooLong _ := fun_mk (st := initS sE_TooLong) lTooLong cTooLong kTooLong
  have JTooLong := HTooLong.binds (ps := ["self", "limit"]) fun _ _ _ _ _ _ us hl => match us, hl with | [_, _], _ => rfl
  have RTooLong : Raisable l.prog w K mg base 2 "TooLong" CTooLong "limit" "TooLong" := ⟨⟨_, _, _, _, fTooLong, _, PySem.F.excBase_ValueError, ⟨uTooLong, oTooLong, hTooLong, saTooLong, bTooLong, yTooLong, wTooLong⟩, iTooLong, tTooLong, ok_E_TooLong HTooLong LForestError GForestError IForestError JForestError, JTooLong⟩, GTooLong, nTooLong, gTooLong, ⟨xTooLong, jTooLong, bTooLong, hTooLong⟩⟩
  have HBadCount : Fun K "__init__" "BadCount.__init__" (initS sE_BadCount) fBadCount _ := fun_mk (st := initS sE_BadCount) lBadCount cBadCount kBadCount
  have JBadCount := HBadCount.binds (ps := ["self", "count"]) fun _ _ _ _ _ _ us hl => match us, hl with | [_, _], _ => rfl
  have RBadCount : Raisable l.prog w K mg base 2 "BadCount" CBadCount "count" "BadCount" := ⟨⟨_, _, _, _, fBadCount, _, PySem.F.excBase_ValueError, ⟨uBadCount, oBadCount, hBadCount, saBadCount, bBadCount, yBadCount, wBadCount⟩, iBadCount, tBadCount, ok_E_BadCount HBadCount LForestError GForestError IForestError JForestError, JBadCount⟩, GBadCount, nBadCount, gBadCount, ⟨xBadCount, jBadCount, bBadCount, hBadCount⟩⟩
  have HTooManyForests : Fun K "__init__" "TooManyForests.__init__" (initS sE_TooManyForests) fTooManyForests _ := fun_mk (st := initS sE_TooManyForests) lTooManyForests cTooManyForests kTooManyForests
  have JTooManyForests := HTooManyForests.binds (ps := ["self", "limit"]) fun _ _ _ _ _ _ us hl => match us, hl with | [_, _], _ => rfl
  have RTooManyForests : Raisable l.prog w K mg base 2 "TooManyForests" CTooManyForests "limit" "TooManyForests" := ⟨⟨_, _, _, _, fTooManyForests, _, PySem.F.excBase_ValueError, ⟨uTooManyForests, oTooManyForests, hTooManyForests, saTooManyForests, bTooManyForests, yTooManyForests, wTooManyForests⟩, iTooManyForests, tTooManyForests, ok_E_TooManyForests HTooManyForests LForestError GForestError IForestError JForestError, JTooManyForests⟩, GTooManyForests, nTooManyForests, gTooManyForests, ⟨xTooManyForests, jTooManyForests, bTooManyForests, hTooManyForests⟩⟩
  have HBadName : Fun K "__init__" "BadName.__init__" (initS sE_BadName) fBadName _ := fun_mk (st := initS sE_BadName) lBadName cBadName kBadName
  have JBadName := HBadName.binds (ps := ["self", "name"]) fun _ _ _ _ _ _ us hl => match us, hl with | [_, _], _ => rfl
  have RBadName : RaisV l.prog w K mg base PtR 2 "BadName" CBadName "name" "BadName" := ⟨⟨_, _, _, _, fBadName, _, PySem.F.excBase_ValueError, ⟨uBadName, oBadName, hBadName, saBadName, bBadName, yBadName, wBadName⟩, iBadName, tBadName, ok_E_BadName HBadName LForestError GForestError IForestError JForestError, JBadName⟩, GBadName, nBadName, gBadName, ⟨xBadName, jBadName, bBadName, hBadName⟩⟩
  have HNameTaken : Fun K "__init__" "NameTaken.__init__" (initS sE_NameTaken) fNameTaken _ := fun_mk (st := initS sE_NameTaken) lNameTaken cNameTaken kNameTaken
  have JNameTaken := HNameTaken.binds (ps := ["self", "name"]) fun _ _ _ _ _ _ us hl => match us, hl with | [_, _], _ => rfl
  have RNameTaken : RaisV l.prog w K mg base PtS 2 "NameTaken" CNameTaken "name" "NameTaken" := ⟨⟨_, _, _, _, fNameTaken, _, PySem.F.excBase_ValueError, ⟨uNameTaken, oNameTaken, hNameTaken, saNameTaken, bNameTaken, yNameTaken, wNameTaken⟩, iNameTaken, tNameTaken, ok_E_NameTaken HNameTaken LForestError GForestError IForestError JForestError, JNameTaken⟩, GNameTaken, nNameTaken, gNameTaken, ⟨xNameTaken, jNameTaken, bNameTaken, hNameTaken⟩⟩
  have HNoForest : Fun K "__init__" "NoForest.__init__" (initS sE_NoForest) fNoForest _ := fun_mk (st := initS sE_NoForest) lNoForest cNoForest kNoForest
  have JNoForest := HNoForest.binds (ps := ["self", "name"]) fun _ _ _ _ _ _ us hl => match us, hl with | [_, _], _ => rfl
  have RNoForest : RaisV l.prog w K mg base PtS 2 "NoForest" CNoForest "name" "NoForest" := ⟨⟨_, _, _, _, fNoForest, _, PySem.F.excBase_LookupError, ⟨uNoForest, oNoForest, hNoForest, saNoForest, bNoForest, yNoForest, wNoForest⟩, iNoForest, tNoForest, ok_E_NoForest HNoForest LMissing GMissing IMissing JMissing, JNoForest⟩, GNoForest, nNoForest, gNoForest, ⟨xNoForest, jNoForest, bNoForest, hNoForest⟩⟩
  have HBadCommand : Fun K "__init__" "BadCommand.__init__" (initS sE_BadCommand) fBadCommand _ := fun_mk (st := initS sE_BadCommand) lBadCommand cBadCommand kBadCommand
  have JBadCommand := HBadCommand.binds (ps := ["self", "word"]) fun _ _ _ _ _ _ us hl => match us, hl with | [_, _], _ => rfl
  have RBadCommand : RaisV l.prog w K mg base PtN 2 "BadCommand" CBadCommand "word" "BadCommand" := ⟨⟨_, _, _, _, fBadCommand, _, PySem.F.excBase_ValueError, ⟨uBadCommand, oBadCommand, hBadCommand, saBadCommand, bBadCommand, yBadCommand, wBadCommand⟩, iBadCommand, tBadCommand, ok_E_BadCommand HBadCommand LForestError GForestError IForestError JForestError, JBadCommand⟩, GBadCommand, nBadCommand, gBadCommand, ⟨xBadCommand, jBadCommand, bBadCommand, hBadCommand⟩⟩
  have k_0 : Kn l.prog w K mg base 1 "leads_to_root" sLeads ["parents", "node"] (spLeads K) f_0 fd_0 := ⟨F_0, ok_leads F_0 T, b_0, g_0⟩
  have k_4 : Kn l.prog w K mg base 1 "check_number" sNum ["size", "node"] spNum f_4 fd_4 := ⟨F_4, ok_num F_4 , b_4, g_4⟩
  have k_5 : Kn l.prog w K mg base 2 "check_node" sChk ["forest", "node"] (spChk K) f_5 fd_5 := ⟨F_5, ok_chk F_5 k_4 T, b_5, g_5⟩
  have k_6 : Kn l.prog w K mg base 3 "path_of" sPathOf ["forest", "node"] (spPathOf K) f_6 fd_6 := ⟨F_6, ok_pathOf F_6 k_5.G k_5.F k_5.b k_5.g, b_6, g_6⟩
  have k_7 : Kn l.prog w K mg base 4 "root_of" sRootOf ["forest", "node"] (spRootOf K) f_7 fd_7 := ⟨F_7, ok_rootOf F_7 k_6, b_7, g_7⟩
  have k_8 : Kn l.prog w K mg base 1 "roots_of" sRootsOf ["forest"] (spRootsOf K) f_8 fd_8 := ⟨F_8, ok_rootsOf F_8 z_enumerate, b_8, g_8⟩
  have k_9 : Kn l.prog w K mg base 4 "find" sFind ["forest", "node"] (spFind K) f_9 fd_9 := ⟨F_9, ok_find F_9 k_6.G k_6.F k_6.b k_6.g T, b_9, g_9⟩
  have k_10 : Kn l.prog w K mg base 5 "find_all" sFindAll ["forest", "nodes"] (spFindAll K) f_10 fd_10 := ⟨F_10, ok_findAll F_10 k_9.G k_9.F k_9.b k_9.g, b_10, g_10⟩
  have k_14 : Kn l.prog w K mg base 1 "is_find" sIsFnd ["step"] spIsFnd f_14 fd_14 := ⟨F_14, ok_isFnd F_14 TS, b_14, g_14⟩
  have k_15 : Kn l.prog w K mg base 1 "has_form" sForm ["step", "word"] spForm f_15 fd_15 := ⟨F_15, ok_form F_15 T TS, b_15, g_15⟩
  have k_16 : Kn l.prog w K mg base 2 "is_link" sIsLnk ["step"] spIsLnk f_16 fd_16 := ⟨F_16, ok_isLnk F_16 k_15 TS, b_16, g_16⟩
  have k_17 : Kn l.prog w K mg base 2 "is_round" sIsRnd ["step"] spIsRnd f_17 fd_17 := ⟨F_17, ok_isRnd F_17 k_15 TS gL, b_17, g_17⟩
  have k_18 : Kn l.prog w K mg base 3 "may_stand" sMay ["step", "depth"] spMay f_18 fd_18 := ⟨F_18, ok_may F_18 k_16 k_17 k_14 gN, b_18, g_18⟩
  have k_19 : Kn l.prog w K mg base 8 "check_steps" sChkS ["steps", "depth", "pos"] (spChkS 4) f_19 fd_19 := ⟨F_19, ok_chkS F_19 k_18 k_17 b_19 g_19 gS 4, b_19, g_19⟩
  have k_20 : Kn l.prog w K mg base 9 "check_history" sChkH ["history"] (spChkH 4) f_20 fd_20 := ⟨F_20, ok_chkH F_20 4 k_19, b_20, g_20⟩
  have k_25 : Kn l.prog w K mg base 4 "barring_nodes" sBarr ["one", "other", "changed"] (spBarr K) f_25 fd_25 := ⟨F_25, ok_barr F_25 k_6, b_25, g_25⟩
  have k_26 : Kn l.prog w K mg base 5 "flattened" sFlat ["forest"] (spFlat K) f_26 fd_26 := ⟨F_26, ok_flat F_26 k_7 T, b_26, g_26⟩
  have k_27 : Kn l.prog w K mg base 1 "is_name" sIsNm ["text"] spIsNm f_27 fd_27 := ⟨F_27, ok_isNm F_27 T z_all gLt, b_27, g_27⟩
  have k_36 : Kn l.prog w K mg base 1 "_law_start" sStart ["_law_script"] (spStart K) f_36 fd_36 := ⟨F_36, ok_start F_36 T, b_36, g_36⟩
  have k_37 : Kn l.prog w K mg base 1 "_law_take" sTake ["_law_draw", "_law_many"] spTake f_37 fd_37 := ⟨F_37, ok_take F_37 T.len, b_37, g_37⟩
  have k_38 : Kn l.prog w K mg base 2 "_law_of" sOf ["_law_draw", "_law_some"] (spOf K) f_38 fd_38 := ⟨F_38, ok_of F_38 k_37.G k_37.F k_37.b k_37.g T, b_38, g_38⟩
  have k_39 : Kn l.prog w K mg base 4 "_law_same" sSame ["_law_found", "_law_due"] (spSame K 3) f_39 fd_39 := ⟨F_39, ok_same F_39 TS b_39 g_39 3, b_39, g_39⟩
  have x_num : KnX l.prog w K mg base 4 "check_number" ["size", "node"] (spNumX CNoNode) f_4 fd_4 := ⟨F_4.kp, okX_num F_4 RNoNode, b_4, g_4⟩
  have x_chk : KnX l.prog w K mg base 5 "check_node" ["forest", "node"] (spChkX K CNoNode) f_5 fd_5 := ⟨F_5.kp, okX_chk F_5 x_num T, b_5, g_5⟩
  have x_path : KnX l.prog w K mg base 6 "path_of" ["forest", "node"] (spChkX K CNoNode) f_6 fd_6 := ⟨F_6.kp, okX_pathOf F_6 x_chk, b_6, g_6⟩
  have x_find : KnX l.prog w K mg base 7 "find" ["forest", "node"] (spChkX K CNoNode) f_9 fd_9 := ⟨F_9.kp, okX_find F_9 x_path, b_9, g_9⟩
  have x_findB : KnX l.prog w K mg base 7 "find" ["forest", "node"] (spOr (spFind K) (spChkX K CNoNode)) f_9 fd_9 := ⟨F_9.kp, fn_or k_9.G x_find.G (by decide), b_9, g_9⟩
  have x_fall : KnX l.prog w K mg base 8 "find_all" ["forest", "nodes"] (spFindAllB K CNoNode) f_10 fd_10 := ⟨F_10.kp, okB_findAll F_10 x_findB, b_10, g_10⟩
  have x_chkB : KnX l.prog w K mg base 5 "check_node" ["forest", "node"] (spOr (spChk K) (spChkX K CNoNode)) f_5 fd_5 := ⟨F_5.kp, fn_or k_5.G x_chk.G (by decide), b_5, g_5⟩
  have x_chkR : KnX l.prog w K mg base 6 "check_root" ["forest", "node"] (spChkRB K CNoNode CNotRoot) f_11 fd_11 := ⟨F_11.kp, okB_chkRoot F_11 x_chkB RNotRoot, b_11, g_11⟩
  have x_link : KnX l.prog w K mg base 7 "link" ["forest", "child", "above"] (spLinkB K CNoNode CNotRoot CSameRoot) f_12 fd_12 := ⟨F_12.kp, okB_link F_12 x_chkR RSameRoot T, b_12, g_12⟩
  have x_runS : KnX l.prog w K mg base 16 "run_steps" ["forest", "steps"] (spRunS K CNoNode CNotRoot CSameRoot 4) f_23 fd_23 := ⟨F_23.kp, okB_run F_23 F_22 b_23 g_23 b_22 g_22 k_14 k_16 x_findB x_link (fun m => ⟨F_21, ok_low F_21 k_14 b_21 g_21 m, b_21, g_21⟩) 4, b_23, g_23⟩
  have x_runH : KnX l.prog w K mg base 17 "run_history" ["forest", "history"] (spRunH K CNoNode CNotRoot CSameRoot 4) f_24 fd_24 := ⟨F_24.kp, okB_runH F_24 4 x_runS k_20, b_24, g_24⟩
  have x_check : KnX l.prog w K mg base 4 "check_forest" ["parents"] (spCheckB K CTooManyNodes CBadParent CCycle) f_1 fd_1 := ⟨F_1.kp, okB_check F_1 k_0 T z_enumerate gM RTooManyNodes RBadParent RCycle, b_1, g_1⟩
  have x_unite : KnX l.prog w K mg base 9 "unite" ["forest", "one", "other"] (spUniteB K CNoNode) f_13 fd_13 := ⟨F_13.kp, okB_unite F_13 x_fall k_7 x_link z_sum, b_13, g_13⟩
  have x_sing : KnX l.prog w K mg base 4 "single_nodes" ["size"] (spSing2 K CTooManyNodes) f_3 fd_3 := ⟨F_3.kp, okB_sing2 F_3 T gM RTooManyNodes, b_3, g_3⟩
  have K_isf : Kn l.prog w K mg base 5 "is_forest" sIsFor ["parents"] (spIsFor K) f_2 _ := ⟨F_2, ok_isFor F_2 x_check GTooManyNodes GBadParent GCycle mTooManyNodes mBadParent mCycle, b_2, g_2⟩
  have x_fIn : KnX l.prog w K mg base 4 "forest_in" ["forests", "name"] (spFInB K (CEr.mk CNoNode CNotRoot CSameRoot CTooManyNodes CBadParent CCycle CBadName CNameTaken CTooManyForests CNoForest CBadCommand CBadCount CBadStep CSizesDiffer CRootsDiffer CNoWay CNoNode CNoNode)) f_28 fd_28 := ⟨F_28.kp, okB_fIn F_28 RNoForest, b_28, g_28⟩
  have x_cNN : KnX l.prog w K mg base 4 "check_new_name" ["forests", "name"] (spCNNB K (CEr.mk CNoNode CNotRoot CSameRoot CTooManyNodes CBadParent CCycle CBadName CNameTaken CTooManyForests CNoForest CBadCommand CBadCount CBadStep CSizesDiffer CRootsDiffer CNoWay CNoNode CNoNode)) f_29 fd_29 := ⟨F_29.kp, okB_cNN F_29 k_27 T gMF RBadName RNameTaken RTooManyForests, b_29, g_29⟩
  have x_dN : KnX l.prog w K mg base 18 "do_new" ["forests", "name", "parents"] (spNew K (CEr.mk CNoNode CNotRoot CSameRoot CTooManyNodes CBadParent CCycle CBadName CNameTaken CTooManyForests CNoForest CBadCommand CBadCount CBadStep CSizesDiffer CRootsDiffer CNoWay CNoNode CNoNode)) f_30 fd_30 := ⟨F_30.kp, okB_doNew F_30 x_cNN x_check T, b_30, g_30⟩
  have x_dL : KnX l.prog w K mg base 18 "do_link" ["forests", "name", "child", "above"] (spDLink K (CEr.mk CNoNode CNotRoot CSameRoot CTooManyNodes CBadParent CCycle CBadName CNameTaken CTooManyForests CNoForest CBadCommand CBadCount CBadStep CSizesDiffer CRootsDiffer CNoWay CNoNode CNoNode)) f_31 fd_31 := ⟨F_31.kp, okB_doLi F_31 x_fIn x_link, b_31, g_31⟩
  have x_dU : KnX l.prog w K mg base 18 "do_unite" ["forests", "name", "one", "other"] (spDUni K (CEr.mk CNoNode CNotRoot CSameRoot CTooManyNodes CBadParent CCycle CBadName CNameTaken CTooManyForests CNoForest CBadCommand CBadCount CBadStep CSizesDiffer CRootsDiffer CNoWay CNoNode CNoNode)) f_32 fd_32 := ⟨F_32.kp, okB_doUn F_32 x_fIn x_unite, b_32, g_32⟩
  have x_dR : KnX l.prog w K mg base 18 "do_run" ["forests", "name", "history"] (spDRun K (CEr.mk CNoNode CNotRoot CSameRoot CTooManyNodes CBadParent CCycle CBadName CNameTaken CTooManyForests CNoForest CBadCommand CBadCount CBadStep CSizesDiffer CRootsDiffer CNoWay CNoNode CNoNode) 4) f_33 fd_33 := ⟨F_33.kp, okB_doRu 4 F_33 x_fIn x_runH (by decide), b_33, g_33⟩
  have x_chkC : KnX l.prog w K mg base 4 "check_command" ["command"] (spChkCB K dL (CEr.mk CNoNode CNotRoot CSameRoot CTooManyNodes CBadParent CCycle CBadName CNameTaken CTooManyForests CNoForest CBadCommand CBadCount CBadStep CSizesDiffer CRootsDiffer CNoWay CNoNode CNoNode)) f_34 fd_34 := ⟨F_34.kp, okB_chkC F_34 T gLen DL WDT RBadCommand, b_34, g_34⟩
  have x_dC : KnX l.prog w K mg base 19 "do_command" ["forests", "command"] (spDoCmdB l.prog w K mg base dL dA (CEr.mk CNoNode CNotRoot CSameRoot CTooManyNodes CBadParent CCycle CBadName CNameTaken CTooManyForests CNoForest CBadCommand CBadCount CBadStep CSizesDiffer CRootsDiffer CNoWay CNoNode CNoNode)) f_35 fd_35 := ⟨F_35.kp, okB_doCmd F_35 gAct, b_35, g_35⟩
  have m_sf : KMs l.prog w K mg base CS 5 "forest_of" ["self", "name"] (noE (spSFB K CS (CEr.mk CNoNode CNotRoot CSameRoot CTooManyNodes CBadParent CCycle CBadName CNameTaken CTooManyForests CNoForest CBadCommand CBadCount CBadStep CSizesDiffer CRootsDiffer CNoWay CNoNode CNoNode))) fSF _ := ⟨fn_noE (okB_sF FSF TCS x_fIn), bSF, ⟨aSF, iSF, kSF⟩⟩
  have m_aa : KMsX l.prog w K mg base CS 20 "apply_all" ["self", "commands"] (spAppB l.prog w K mg base CS dL dA (CEr.mk CNoNode CNotRoot CSameRoot CTooManyNodes CBadParent CCycle CBadName CNameTaken CTooManyForests CNoForest CBadCommand CBadCount CBadStep CSizesDiffer CRootsDiffer CNoWay CNoNode CNoNode)) fSA _ := ⟨okB_aA FSA TCS x_chkC x_dC z_sum, bSA, ⟨aSA, iSA, kSA⟩⟩
  have m_ap : KMs l.prog w K mg base CS 21 "apply" ["self", "command"] (noE (spAp l.prog w K mg base CS dL dA (CEr.mk CNoNode CNotRoot CSameRoot CTooManyNodes CBadParent CCycle CBadName CNameTaken CTooManyForests CNoForest CBadCommand CBadCount CBadStep CSizesDiffer CRootsDiffer CNoWay CNoNode CNoNode))) fSP _ := ⟨fn_noE (okB_ap FSP TCS m_aa), bSP, ⟨aSP, iSP, kSP⟩⟩
  have m_tc : KMs l.prog w K mg base CS 1 "total_cost" ["self"] (spTC K CS) fST _ := ⟨ok_tC FST TCS, bST, ⟨aST, iST, kST⟩⟩
  have k_St : KSt l.prog w K mg base CS fSI _ := ⟨⟨mkS, aSI, iSI, kcS⟩, ok_sI FSI TCS, gCS, FSI.binds (ps := ["self"]) fun _ _ _ _ _ _ us hl => match us, hl with | [_], _ => rfl⟩
  have e_g1 : g1 = f_30 := by have z := (PySem.W.mg_of X G aN1).symm.trans g_30; injection z with z; injection z
  have e_g2 : g2 = f_33 := by have z := (PySem.W.mg_of X G aN2).symm.trans g_33; injection z with z; injection z
  have e_g3 : g3 = f_31 := by have z := (PySem.W.mg_of X G aN3).symm.trans g_31; injection z with z; injection z
  have e_g4 : g4 = f_32 := by have z := (PySem.W.mg_of X G aN4).symm.trans g_32; injection z with z; injection z
  have a_new : ∀ z xs, ActOk l.prog w K mg base dA (CEr.mk CNoNode CNotRoot CSameRoot CTooManyNodes CBadParent CCycle CBadName CNameTaken CTooManyForests CNoForest CBadCommand CBadCount CBadStep CSizesDiffer CRootsDiffer CNoWay CNoNode CNoNode) (.new z xs) := act_new (g := f_30) (e_g1 ▸ ⟨esA, nA, _, lkA, ltA, nA1, rfl⟩) ⟨⟨_, _, x_dN.G, x_dN.kp, x_dN.b⟩⟩
  have a_run : ∀ z ss, ActOk l.prog w K mg base dA (CEr.mk CNoNode CNotRoot CSameRoot CTooManyNodes CBadParent CCycle CBadName CNameTaken CTooManyForests CNoForest CBadCommand CBadCount CBadStep CSizesDiffer CRootsDiffer CNoWay CNoNode CNoNode) (.run z ss) := act_run (g := f_33) (e_g2 ▸ ⟨esA, nA, _, lkA, ltA, nA2, rfl⟩) ⟨⟨_, _, x_dR.G, x_dR.kp, x_dR.b⟩⟩
  have a_link : ∀ z i j, ActOk l.prog w K mg base dA (CEr.mk CNoNode CNotRoot CSameRoot CTooManyNodes CBadParent CCycle CBadName CNameTaken CTooManyForests CNoForest CBadCommand CBadCount CBadStep CSizesDiffer CRootsDiffer CNoWay CNoNode CNoNode) (.link z i j) := act_link (g := f_31) (e_g3 ▸ ⟨esA, nA, _, lkA, ltA, nA3, rfl⟩) ⟨⟨_, _, x_dL.G, x_dL.kp, x_dL.b⟩⟩
  have a_uni : ∀ z i j, ActOk l.prog w K mg base dA (CEr.mk CNoNode CNotRoot CSameRoot CTooManyNodes CBadParent CCycle CBadName CNameTaken CTooManyForests CNoForest CBadCommand CBadCount CBadStep CSizesDiffer CRootsDiffer CNoWay CNoNode CNoNode) (.unite z i j) := act_uni (g := f_32) (e_g4 ▸ ⟨esA, nA, _, lkA, ltA, nA4, rfl⟩) ⟨⟨_, _, x_dU.G, x_dU.kp, x_dU.b⟩⟩
  exact ok_law FL (c := (CEr.mk CNoNode CNotRoot CSameRoot CTooManyNodes CBadParent CCycle CBadName CNameTaken CTooManyForests CNoForest CBadCommand CBadCount CBadStep CSizesDiffer CRootsDiffer CNoWay CNoNode CNoNode)) T TCS z_sorted z_set ⟨_, _, k_36⟩ ⟨_, _, k_38⟩ ⟨_, _, k_37⟩ ⟨_, _, k_39⟩ x_sing x_runH x_link x_unite ⟨_, _, k_8⟩ ⟨_, _, K_isf⟩ ⟨_, _, k_7⟩ ⟨_, _, k_26⟩ k_St m_sf m_ap m_tc a_new a_run a_link a_uni
section
open He
theorem at_ {K : PySem.W.Frag} {l : List (PySem.W.Frag → Bool)} (h : (l.all fun b => b K) = true) (i : Nat) {b : PySem.W.Frag → Bool} (e : l[i]? = some b) : b K = true := He.at_ex h i e
theorem ne_of_nd {a b : Addr} (h : (!decide (a = b)) = true) : a ≠ b := fun e => by rw [decide_eq_true e] at h; cases h
def dd_0 : He.DefD := ⟨("leads_to_root", none), "leads_to_root", "leads_to_root", defArgs sLeads, defBody sLeads, defScope sLeads, [], []⟩
def dd_1 : He.DefD := ⟨("check_forest", none), "check_forest", "check_forest", defArgs sCheck, defBody sCheck, defScope sCheck, [], []⟩
def dd_2 : He.DefD := ⟨("is_forest", none), "is_forest", "is_forest", defArgs sIsFor, defBody sIsFor, defScope sIsFor, [], []⟩
def dd_3 : He.DefD := ⟨("single_nodes", none), "single_nodes", "single_nodes", defArgs sSing2, defBody sSing2, defScope sSing2, [], []⟩
def dd_4 : He.DefD := ⟨("check_number", none), "check_number", "check_number", defArgs sNum, defBody sNum, defScope sNum, [], []⟩
def dd_5 : He.DefD := ⟨("check_node", none), "check_node", "check_node", defArgs sChk, defBody sChk, defScope sChk, [], []⟩
def dd_6 : He.DefD := ⟨("path_of", none), "path_of", "path_of", defArgs sPathOf, defBody sPathOf, defScope sPathOf, [], []⟩
def dd_7 : He.DefD := ⟨("root_of", none), "root_of", "root_of", defArgs sRootOf, defBody sRootOf, defScope sRootOf, [], []⟩
def dd_8 : He.DefD := ⟨("roots_of", none), "roots_of", "roots_of", defArgs sRootsOf, defBody sRootsOf, defScope sRootsOf, [], []⟩
def dd_9 : He.DefD := ⟨("find", none), "find", "find", defArgs sFind, defBody sFind, defScope sFind, [], []⟩
def dd_10 : He.DefD := ⟨("find_all", none), "find_all", "find_all", defArgs sFindAll, defBody sFindAll, defScope sFindAll, [], []⟩
def dd_11 : He.DefD := ⟨("check_root", none), "check_root", "check_root", defArgs sChkRoot, defBody sChkRoot, defScope sChkRoot, [], []⟩
def dd_12 : He.DefD := ⟨("link", none), "link", "link", defArgs sLink, defBody sLink, defScope sLink, [], []⟩
def dd_13 : He.DefD := ⟨("unite", none), "unite", "unite", defArgs sUnite, defBody sUnite, defScope sUnite, [], []⟩
def dd_14 : He.DefD := ⟨("is_find", none), "is_find", "is_find", defArgs sIsFnd, defBody sIsFnd, defScope sIsFnd, [], []⟩
def dd_15 : He.DefD := ⟨("has_form", none), "has_form", "has_form", defArgs sForm, defBody sForm, defScope sForm, [], []⟩
def dd_16 : He.DefD := ⟨("is_link", none), "is_link", "is_link", defArgs sIsLnk, defBody sIsLnk, defScope sIsLnk, [], []⟩
def dd_17 : He.DefD := ⟨("is_round", none), "is_round", "is_round", defArgs sIsRnd, defBody sIsRnd, defScope sIsRnd, [], []⟩
def dd_18 : He.DefD := ⟨("may_stand", none), "may_stand", "may_stand", defArgs sMay, defBody sMay, defScope sMay, [], []⟩
def dd_19 : He.DefD := ⟨("check_steps", none), "check_steps", "check_steps", defArgs sChkS, defBody sChkS, defScope sChkS, [], []⟩
def dd_20 : He.DefD := ⟨("check_history", none), "check_history", "check_history", defArgs sChkH, defBody sChkH, defScope sChkH, [], []⟩
def dd_21 : He.DefD := ⟨("lower_finds", none), "lower_finds", "lower_finds", defArgs sLow, defBody sLow, defScope sLow, [], []⟩
def dd_22 : He.DefD := ⟨("run_round", none), "run_round", "run_round", defArgs sRunR, defBody sRunR, defScope sRunR, [], []⟩
def dd_23 : He.DefD := ⟨("run_steps", none), "run_steps", "run_steps", defArgs sRunS, defBody sRunS, defScope sRunS, [], []⟩
def dd_24 : He.DefD := ⟨("run_history", none), "run_history", "run_history", defArgs sRunH, defBody sRunH, defScope sRunH, [], []⟩
def dd_25 : He.DefD := ⟨("barring_nodes", none), "barring_nodes", "barring_nodes", defArgs sBarr, defBody sBarr, defScope sBarr, [], []⟩
def dd_26 : He.DefD := ⟨("flattened", none), "flattened", "flattened", defArgs sFlat, defBody sFlat, defScope sFlat, [], []⟩
def dd_27 : He.DefD := ⟨("is_name", none), "is_name", "is_name", defArgs sIsNm, defBody sIsNm, defScope sIsNm, [], []⟩
def dd_28 : He.DefD := ⟨("forest_in", none), "forest_in", "forest_in", defArgs sFIn, defBody sFIn, defScope sFIn, [], []⟩
def dd_29 : He.DefD := ⟨("check_new_name", none), "check_new_name", "check_new_name", defArgs sCNN, defBody sCNN, defScope sCNN, [], []⟩
def dd_30 : He.DefD := ⟨("do_new", none), "do_new", "do_new", defArgs sDoNew, defBody sDoNew, defScope sDoNew, [], []⟩
def dd_31 : He.DefD := ⟨("do_link", none), "do_link", "do_link", defArgs sDoLi, defBody sDoLi, defScope sDoLi, [], []⟩
def dd_32 : He.DefD := ⟨("do_unite", none), "do_unite", "do_unite", defArgs sDoUn, defBody sDoUn, defScope sDoUn, [], []⟩
def dd_33 : He.DefD := ⟨("do_run", none), "do_run", "do_run", defArgs sDoRu, defBody sDoRu, defScope sDoRu, [], []⟩
def dd_34 : He.DefD := ⟨("check_command", none), "check_command", "check_command", defArgs sChkC, defBody sChkC, defScope sChkC, [], []⟩
def dd_35 : He.DefD := ⟨("do_command", none), "do_command", "do_command", defArgs sDoCmd, defBody sDoCmd, defScope sDoCmd, [], []⟩
def dd_36 : He.DefD := ⟨("_law_start", none), "_law_start", "_law_start", defArgs sStart, defBody sStart, defScope sStart, [], []⟩
def dd_37 : He.DefD := ⟨("_law_take", none), "_law_take", "_law_take", defArgs sTake, defBody sTake, defScope sTake, [], []⟩
def dd_38 : He.DefD := ⟨("_law_of", none), "_law_of", "_law_of", defArgs sOf, defBody sOf, defScope sOf, [], []⟩
def dd_39 : He.DefD := ⟨("_law_same", none), "_law_same", "_law_same", defArgs sSame, defBody sSame, defScope sSame, [], []⟩
def dd_40 : He.DefD := ⟨("law", none), "law", "law", defArgs sLaw, defBody sLaw, defScope sLaw, [], []⟩
def dd_41 : He.DefD := ⟨("ForestError", some "__init__"), "__init__", "ForestError.__init__", defArgs (initS sForE), defBody (initS sForE), defScope (initS sForE), [], []⟩
def dd_42 : He.DefD := ⟨("Missing", some "__init__"), "__init__", "Missing.__init__", defArgs (initS sMiss), defBody (initS sMiss), defScope (initS sMiss), [], []⟩
def dd_43 : He.DefD := ⟨("NoNode", some "__init__"), "__init__", "NoNode.__init__", defArgs (initS sE_NoNode), defBody (initS sE_NoNode), defScope (initS sE_NoNode), [], []⟩
def dd_44 : He.DefD := ⟨("NotRoot", some "__init__"), "__init__", "NotRoot.__init__", defArgs (initS sE_NotRoot), defBody (initS sE_NotRoot), defScope (initS sE_NotRoot), [], []⟩
def dd_45 : He.DefD := ⟨("SameRoot", some "__init__"), "__init__", "SameRoot.__init__", defArgs (initS sE_SameRoot), defBody (initS sE_SameRoot), defScope (initS sE_SameRoot), [], []⟩
def dd_46 : He.DefD := ⟨("TooManyNodes", some "__init__"), "__init__", "TooManyNodes.__init__", defArgs (initS sTooMany), defBody (initS sTooMany), defScope (initS sTooMany), [], []⟩
def dd_47 : He.DefD := ⟨("BadParent", some "__init__"), "__init__", "BadParent.__init__", defArgs (initS sBadPar), defBody (initS sBadPar), defScope (initS sBadPar), [], []⟩
def dd_48 : He.DefD := ⟨("Cycle", some "__init__"), "__init__", "Cycle.__init__", defArgs (initS sCycle), defBody (initS sCycle), defScope (initS sCycle), [], []⟩
def dd_49 : He.DefD := ⟨("SizesDiffer", some "__init__"), "__init__", "SizesDiffer.__init__", defArgs (initS sE_SizesDiffer), defBody (initS sE_SizesDiffer), defScope (initS sE_SizesDiffer), [], []⟩
def dd_50 : He.DefD := ⟨("RootsDiffer", some "__init__"), "__init__", "RootsDiffer.__init__", defArgs (initS sE_RootsDiffer), defBody (initS sE_RootsDiffer), defScope (initS sE_RootsDiffer), [], []⟩
def dd_51 : He.DefD := ⟨("NoWay", some "__init__"), "__init__", "NoWay.__init__", defArgs (initS sE_NoWay), defBody (initS sE_NoWay), defScope (initS sE_NoWay), [], []⟩
def dd_52 : He.DefD := ⟨("BadStep", some "__init__"), "__init__", "BadStep.__init__", defArgs (initS sE_BadStep), defBody (initS sE_BadStep), defScope (initS sE_BadStep), [], []⟩
def dd_53 : He.DefD := ⟨("TooLong", some "__init__"), "__init__", "TooLong.__init__", defArgs (initS sE_TooLong), defBody (initS sE_TooLong), defScope (initS sE_TooLong), [], []⟩
def dd_54 : He.DefD := ⟨("BadCount", some "__init__"), "__init__", "BadCount.__init__", defArgs (initS sE_BadCount), defBody (initS sE_BadCount), defScope (initS sE_BadCount), [], []⟩
def dd_55 : He.DefD := ⟨("TooManyForests", some "__init__"), "__init__", "TooManyForests.__init__", defArgs (initS sE_TooManyForests), defBody (initS sE_TooManyForests), defScope (initS sE_TooManyForests), [], []⟩
def dd_56 : He.DefD := ⟨("BadName", some "__init__"), "__init__", "BadName.__init__", defArgs (initS sE_BadName), defBody (initS sE_BadName), defScope (initS sE_BadName), [], []⟩
def dd_57 : He.DefD := ⟨("NameTaken", some "__init__"), "__init__", "NameTaken.__init__", defArgs (initS sE_NameTaken), defBody (initS sE_NameTaken), defScope (initS sE_NameTaken), [], []⟩
def dd_58 : He.DefD := ⟨("NoForest", some "__init__"), "__init__", "NoForest.__init__", defArgs (initS sE_NoForest), defBody (initS sE_NoForest), defScope (initS sE_NoForest), [], []⟩
def dd_59 : He.DefD := ⟨("BadCommand", some "__init__"), "__init__", "BadCommand.__init__", defArgs (initS sE_BadCommand), defBody (initS sE_BadCommand), defScope (initS sE_BadCommand), [], []⟩
def dd_60 : He.DefD := ⟨("Store", some "__init__"), "__init__", "Store.__init__", defArgs sSI, defBody sSI, defScope sSI, [], []⟩
def dd_61 : He.DefD := ⟨("Store", some "forest_of"), "forest_of", "Store.forest_of", defArgs sSF, defBody sSF, defScope sSF, [], []⟩
def dd_62 : He.DefD := ⟨("Store", some "apply_all"), "apply_all", "Store.apply_all", defArgs sAA, defBody sAA, defScope sAA, [], []⟩
def dd_63 : He.DefD := ⟨("Store", some "apply"), "apply", "Store.apply", defArgs sAp, defBody sAp, defScope sAp, [], []⟩
def dd_64 : He.DefD := ⟨("Store", some "total_cost"), "total_cost", "Store.total_cost", defArgs sTC, defBody sTC, defScope sTC, [], []⟩
def fn_ : List He.DefD := [dd_0, dd_1, dd_2, dd_3, dd_4, dd_5, dd_6, dd_7, dd_8, dd_9, dd_10, dd_11, dd_12, dd_13, dd_14, dd_15, dd_16, dd_17, dd_18, dd_19, dd_20, dd_21, dd_22, dd_23, dd_24, dd_25, dd_26, dd_27, dd_28, dd_29, dd_30, dd_31, dd_32, dd_33, dd_34, dd_35, dd_36, dd_37, dd_38, dd_39, dd_40, dd_41, dd_42, dd_43, dd_44, dd_45, dd_46, dd_47, dd_48, dd_49, dd_50, dd_51, dd_52, dd_53, dd_54, dd_55, dd_56, dd_57, dd_58, dd_59, dd_60, dd_61, dd_62, dd_63, dd_64]
def x_0 (K : PySem.W.Frag) : Bool := He.eqO (PySem.W.nsIn K mainGlobals "leads_to_root") (some (some (.ref (He.ga K "leads_to_root"))))
def x_1 (K : PySem.W.Frag) : Bool := He.eqO (PySem.W.nsIn K mainGlobals "check_forest") (some (some (.ref (He.ga K "check_forest"))))
def x_2 (K : PySem.W.Frag) : Bool := He.eqO (PySem.W.nsIn K mainGlobals "is_forest") (some (some (.ref (He.ga K "is_forest"))))
def x_3 (K : PySem.W.Frag) : Bool := He.eqO (PySem.W.nsIn K mainGlobals "single_nodes") (some (some (.ref (He.ga K "single_nodes"))))
def x_4 (K : PySem.W.Frag) : Bool := He.eqO (PySem.W.nsIn K mainGlobals "check_number") (some (some (.ref (He.ga K "check_number"))))
def x_5 (K : PySem.W.Frag) : Bool := He.eqO (PySem.W.nsIn K mainGlobals "check_node") (some (some (.ref (He.ga K "check_node"))))
def x_6 (K : PySem.W.Frag) : Bool := He.eqO (PySem.W.nsIn K mainGlobals "path_of") (some (some (.ref (He.ga K "path_of"))))
def x_7 (K : PySem.W.Frag) : Bool := He.eqO (PySem.W.nsIn K mainGlobals "root_of") (some (some (.ref (He.ga K "root_of"))))
def x_8 (K : PySem.W.Frag) : Bool := He.eqO (PySem.W.nsIn K mainGlobals "roots_of") (some (some (.ref (He.ga K "roots_of"))))
def x_9 (K : PySem.W.Frag) : Bool := He.eqO (PySem.W.nsIn K mainGlobals "find") (some (some (.ref (He.ga K "find"))))
def x_10 (K : PySem.W.Frag) : Bool := He.eqO (PySem.W.nsIn K mainGlobals "find_all") (some (some (.ref (He.ga K "find_all"))))
def x_11 (K : PySem.W.Frag) : Bool := He.eqO (PySem.W.nsIn K mainGlobals "check_root") (some (some (.ref (He.ga K "check_root"))))
def x_12 (K : PySem.W.Frag) : Bool := He.eqO (PySem.W.nsIn K mainGlobals "link") (some (some (.ref (He.ga K "link"))))
def x_13 (K : PySem.W.Frag) : Bool := He.eqO (PySem.W.nsIn K mainGlobals "unite") (some (some (.ref (He.ga K "unite"))))
def x_14 (K : PySem.W.Frag) : Bool := He.eqO (PySem.W.nsIn K mainGlobals "is_find") (some (some (.ref (He.ga K "is_find"))))
def x_15 (K : PySem.W.Frag) : Bool := He.eqO (PySem.W.nsIn K mainGlobals "has_form") (some (some (.ref (He.ga K "has_form"))))
def x_16 (K : PySem.W.Frag) : Bool := He.eqO (PySem.W.nsIn K mainGlobals "is_link") (some (some (.ref (He.ga K "is_link"))))
def x_17 (K : PySem.W.Frag) : Bool := He.eqO (PySem.W.nsIn K mainGlobals "is_round") (some (some (.ref (He.ga K "is_round"))))
def x_18 (K : PySem.W.Frag) : Bool := He.eqO (PySem.W.nsIn K mainGlobals "may_stand") (some (some (.ref (He.ga K "may_stand"))))
def x_19 (K : PySem.W.Frag) : Bool := He.eqO (PySem.W.nsIn K mainGlobals "check_steps") (some (some (.ref (He.ga K "check_steps"))))
def x_20 (K : PySem.W.Frag) : Bool := He.eqO (PySem.W.nsIn K mainGlobals "check_history") (some (some (.ref (He.ga K "check_history"))))
def x_21 (K : PySem.W.Frag) : Bool := He.eqO (PySem.W.nsIn K mainGlobals "lower_finds") (some (some (.ref (He.ga K "lower_finds"))))
def x_22 (K : PySem.W.Frag) : Bool := He.eqO (PySem.W.nsIn K mainGlobals "run_round") (some (some (.ref (He.ga K "run_round"))))
def x_23 (K : PySem.W.Frag) : Bool := He.eqO (PySem.W.nsIn K mainGlobals "run_steps") (some (some (.ref (He.ga K "run_steps"))))
def x_24 (K : PySem.W.Frag) : Bool := He.eqO (PySem.W.nsIn K mainGlobals "run_history") (some (some (.ref (He.ga K "run_history"))))
def x_25 (K : PySem.W.Frag) : Bool := He.eqO (PySem.W.nsIn K mainGlobals "barring_nodes") (some (some (.ref (He.ga K "barring_nodes"))))
def x_26 (K : PySem.W.Frag) : Bool := He.eqO (PySem.W.nsIn K mainGlobals "flattened") (some (some (.ref (He.ga K "flattened"))))
def x_27 (K : PySem.W.Frag) : Bool := He.eqO (PySem.W.nsIn K mainGlobals "is_name") (some (some (.ref (He.ga K "is_name"))))
def x_28 (K : PySem.W.Frag) : Bool := He.eqO (PySem.W.nsIn K mainGlobals "forest_in") (some (some (.ref (He.ga K "forest_in"))))
def x_29 (K : PySem.W.Frag) : Bool := He.eqO (PySem.W.nsIn K mainGlobals "check_new_name") (some (some (.ref (He.ga K "check_new_name"))))
def x_30 (K : PySem.W.Frag) : Bool := He.eqO (PySem.W.nsIn K mainGlobals "do_new") (some (some (.ref (He.ga K "do_new"))))
def x_31 (K : PySem.W.Frag) : Bool := He.eqO (PySem.W.nsIn K mainGlobals "do_link") (some (some (.ref (He.ga K "do_link"))))
def x_32 (K : PySem.W.Frag) : Bool := He.eqO (PySem.W.nsIn K mainGlobals "do_unite") (some (some (.ref (He.ga K "do_unite"))))
def x_33 (K : PySem.W.Frag) : Bool := He.eqO (PySem.W.nsIn K mainGlobals "do_run") (some (some (.ref (He.ga K "do_run"))))
def x_34 (K : PySem.W.Frag) : Bool := He.eqO (PySem.W.nsIn K mainGlobals "check_command") (some (some (.ref (He.ga K "check_command"))))
def x_35 (K : PySem.W.Frag) : Bool := He.eqO (PySem.W.nsIn K mainGlobals "do_command") (some (some (.ref (He.ga K "do_command"))))
def x_36 (K : PySem.W.Frag) : Bool := He.eqO (PySem.W.nsIn K mainGlobals "_law_start") (some (some (.ref (He.ga K "_law_start"))))
def x_37 (K : PySem.W.Frag) : Bool := He.eqO (PySem.W.nsIn K mainGlobals "_law_take") (some (some (.ref (He.ga K "_law_take"))))
def x_38 (K : PySem.W.Frag) : Bool := He.eqO (PySem.W.nsIn K mainGlobals "_law_of") (some (some (.ref (He.ga K "_law_of"))))
def x_39 (K : PySem.W.Frag) : Bool := He.eqO (PySem.W.nsIn K mainGlobals "_law_same") (some (some (.ref (He.ga K "_law_same"))))
def x_40 (K : PySem.W.Frag) : Bool := He.eqO (PySem.W.nsIn K mainGlobals "law") (some (some (.ref (He.ga K "law"))))
def x_41 (K : PySem.W.Frag) : Bool := He.eqO (PySem.W.nsIn K mainGlobals "len") (some none)
def x_42 (K : PySem.W.Frag) : Bool := He.eqO (PySem.W.nsIn K mainGlobals "range") (some none)
def x_43 (K : PySem.W.Frag) : Bool := He.eqO (PySem.W.nsIn K mainGlobals "list") (some none)
def x_44 (K : PySem.W.Frag) : Bool := He.eqO (PySem.W.nsIn K mainGlobals "tuple") (some none)
def x_45 (K : PySem.W.Frag) : Bool := He.eqO (PySem.W.nsIn K mainGlobals "max") (some none)
def x_46 (K : PySem.W.Frag) : Bool := He.eqO (PySem.W.nsIn K mainGlobals "min") (some none)
def x_47 (K : PySem.W.Frag) : Bool := He.eqO (PySem.W.nsIn K mainGlobals "isinstance") (some none)
def x_48 (K : PySem.W.Frag) : Bool := He.eqO (PySem.W.nsIn K mainGlobals "bool") (some none)
def x_49 (K : PySem.W.Frag) : Bool := He.eqO (PySem.W.nsIn K mainGlobals "int") (some none)
def x_50 (K : PySem.W.Frag) : Bool := He.eqO (PySem.W.nsIn K mainGlobals "str") (some none)
def x_51 (K : PySem.W.Frag) : Bool := He.eqO (PySem.W.nsIn K mainGlobals "all") (some none)
def x_52 (K : PySem.W.Frag) : Bool := He.eqO (PySem.W.nsIn K mainGlobals "zip") (some none)
def x_53 (K : PySem.W.Frag) : Bool := He.eqO (PySem.W.nsIn K mainGlobals "set") (some none)
def x_54 (K : PySem.W.Frag) : Bool := He.eqO (PySem.W.nsIn K mainGlobals "sorted") (some none)
def x_55 (K : PySem.W.Frag) : Bool := He.eqO (PySem.W.nsIn K mainGlobals "sum") (some none)
def x_56 (K : PySem.W.Frag) : Bool := He.eqO (PySem.W.nsIn K mainGlobals "ValueError") (some none)
def x_57 (K : PySem.W.Frag) : Bool := He.eqO (PySem.W.nsIn K mainGlobals "LookupError") (some none)
def x_58 (K : PySem.W.Frag) : Bool := He.eqO (PySem.W.nsIn K mainGlobals "enumerate") (some none)
def x_59 (K : PySem.W.Frag) : Bool := He.eqO (PySem.W.nsIn K mainGlobals "ForestError") (some (some (.ref (He.ga K "ForestError"))))
def x_60 (K : PySem.W.Frag) : Bool := He.eqO (PySem.W.findIn K (.ref (He.ga K "ForestError")) "__init__") (some (some (.ref (He.ma K (He.ga K "ForestError") "__init__"))))
def x_61 (K : PySem.W.Frag) : Bool := PySem.W.keepIn K (.ref (He.ma K (He.ga K "ForestError") "__init__"))
def x_62 (K : PySem.W.Frag) : Bool := PySem.W.readsIn K (He.ga K "ForestError") (.type "type")
def x_63 (K : PySem.W.Frag) : Bool := He.cfB (PySem.W.findCls K (.ref (He.ga K "ForestError")) (.type "type") "__init__") (.ref (He.ma K (He.ga K "ForestError") "__init__"))
def x_64 (K : PySem.W.Frag) : Bool := He.eqO (PySem.W.specialIn K (.ref (He.ga K "ForestError")) "__getattribute__") (some (some (.builtin "type.__getattribute__")))
def x_65 (K : PySem.W.Frag) : Bool := PySem.W.keepIn K (.ref (He.ga K "ForestError"))
def x_66 (K : PySem.W.Frag) : Bool := He.cfB (PySem.W.findCls K (.type "ValueError") (.type "type") "__init__") (.builtin "ValueError.__init__")
def x_67 (K : PySem.W.Frag) : Bool := He.eqO (PySem.W.nsIn K mainGlobals "Missing") (some (some (.ref (He.ga K "Missing"))))
def x_68 (K : PySem.W.Frag) : Bool := He.eqO (PySem.W.findIn K (.ref (He.ga K "Missing")) "__init__") (some (some (.ref (He.ma K (He.ga K "Missing") "__init__"))))
def x_69 (K : PySem.W.Frag) : Bool := PySem.W.keepIn K (.ref (He.ma K (He.ga K "Missing") "__init__"))
def x_70 (K : PySem.W.Frag) : Bool := PySem.W.readsIn K (He.ga K "Missing") (.type "type")
def x_71 (K : PySem.W.Frag) : Bool := He.cfB (PySem.W.findCls K (.ref (He.ga K "Missing")) (.type "type") "__init__") (.ref (He.ma K (He.ga K "Missing") "__init__"))
def x_72 (K : PySem.W.Frag) : Bool := He.eqO (PySem.W.specialIn K (.ref (He.ga K "Missing")) "__getattribute__") (some (some (.builtin "type.__getattribute__")))
def x_73 (K : PySem.W.Frag) : Bool := PySem.W.keepIn K (.ref (He.ga K "Missing"))
def x_74 (K : PySem.W.Frag) : Bool := He.cfB (PySem.W.findCls K (.type "LookupError") (.type "type") "__init__") (.builtin "LookupError.__init__")
def x_75 (K : PySem.W.Frag) : Bool := He.eqO (PySem.W.nsIn K mainGlobals "NoNode") (some (some (.ref (He.ga K "NoNode"))))
def x_76 (K : PySem.W.Frag) : Bool := He.eqO (PySem.W.findIn K (.ref (He.ga K "NoNode")) "__init__") (some (some (.ref (He.ma K (He.ga K "NoNode") "__init__"))))
def x_77 (K : PySem.W.Frag) : Bool := PySem.W.keepIn K (.ref (He.ma K (He.ga K "NoNode") "__init__"))
def x_78 (K : PySem.W.Frag) : Bool := decide (PySem.W.typeIn K (.ref (He.ma K (He.ga K "NoNode") "__init__")) = some (.type "function"))
def x_79 (K : PySem.W.Frag) : Bool := PySem.W.excInitIn K (He.ga K "NoNode") luTail "LookupError.__new__"
def x_80 (K : PySem.W.Frag) : Bool := PySem.W.excOver K (He.ga K "NoNode") luTail
def x_81 (K : PySem.W.Frag) : Bool := PySem.W.hasDictIn K (He.ga K "NoNode")
def x_82 (K : PySem.W.Frag) : Bool := He.eqO (PySem.W.findIn K (.ref (He.ga K "NoNode")) "__setattr__") (some (some (.builtin "object.__setattr__")))
def x_83 (K : PySem.W.Frag) : Bool := decide (PySem.W.subIn K (.ref (He.ga K "NoNode")) (.type "BaseException") = some true)
def x_84 (K : PySem.W.Frag) : Bool := decide (PySem.W.typeIn K (.ref (He.ga K "NoNode")) = some (.type "type"))
def x_85 (K : PySem.W.Frag) : Bool := PySem.W.keepIn K (.ref (He.ga K "NoNode"))
def x_86 (K : PySem.W.Frag) : Bool := He.eqO (PySem.W.findIn K (.ref (He.ga K "NoNode")) "tag") (some none)
def x_87 (K : PySem.W.Frag) : Bool := He.eqO (PySem.W.findIn K (.ref (He.ga K "NoNode")) "node") (some none)
def x_88 (K : PySem.W.Frag) : Bool := He.eqO (PySem.W.findIn K (.ref (He.ga K "NoNode")) "__getattribute__") (some (some (.builtin "BaseException.__getattribute__")))
def x_89 (K : PySem.W.Frag) : Bool := He.eqO (PySem.W.findIn K (.ref (He.ga K "NoNode")) "__getattr__") (some none)
def x_90 (K : PySem.W.Frag) : Bool := He.eqO (PySem.W.nsIn K mainGlobals "NotRoot") (some (some (.ref (He.ga K "NotRoot"))))
def x_91 (K : PySem.W.Frag) : Bool := He.eqO (PySem.W.findIn K (.ref (He.ga K "NotRoot")) "__init__") (some (some (.ref (He.ma K (He.ga K "NotRoot") "__init__"))))
def x_92 (K : PySem.W.Frag) : Bool := PySem.W.keepIn K (.ref (He.ma K (He.ga K "NotRoot") "__init__"))
def x_93 (K : PySem.W.Frag) : Bool := decide (PySem.W.typeIn K (.ref (He.ma K (He.ga K "NotRoot") "__init__")) = some (.type "function"))
def x_94 (K : PySem.W.Frag) : Bool := PySem.W.excInitIn K (He.ga K "NotRoot") vaTail "ValueError.__new__"
def x_95 (K : PySem.W.Frag) : Bool := PySem.W.excOver K (He.ga K "NotRoot") vaTail
def x_96 (K : PySem.W.Frag) : Bool := PySem.W.hasDictIn K (He.ga K "NotRoot")
def x_97 (K : PySem.W.Frag) : Bool := He.eqO (PySem.W.findIn K (.ref (He.ga K "NotRoot")) "__setattr__") (some (some (.builtin "object.__setattr__")))
def x_98 (K : PySem.W.Frag) : Bool := decide (PySem.W.subIn K (.ref (He.ga K "NotRoot")) (.type "BaseException") = some true)
def x_99 (K : PySem.W.Frag) : Bool := decide (PySem.W.typeIn K (.ref (He.ga K "NotRoot")) = some (.type "type"))
def x_100 (K : PySem.W.Frag) : Bool := PySem.W.keepIn K (.ref (He.ga K "NotRoot"))
def x_101 (K : PySem.W.Frag) : Bool := He.eqO (PySem.W.findIn K (.ref (He.ga K "NotRoot")) "tag") (some none)
def x_102 (K : PySem.W.Frag) : Bool := He.eqO (PySem.W.findIn K (.ref (He.ga K "NotRoot")) "node") (some none)
def x_103 (K : PySem.W.Frag) : Bool := He.eqO (PySem.W.findIn K (.ref (He.ga K "NotRoot")) "__getattribute__") (some (some (.builtin "BaseException.__getattribute__")))
def x_104 (K : PySem.W.Frag) : Bool := He.eqO (PySem.W.findIn K (.ref (He.ga K "NotRoot")) "__getattr__") (some none)
def x_105 (K : PySem.W.Frag) : Bool := He.eqO (PySem.W.nsIn K mainGlobals "SameRoot") (some (some (.ref (He.ga K "SameRoot"))))
def x_106 (K : PySem.W.Frag) : Bool := He.eqO (PySem.W.findIn K (.ref (He.ga K "SameRoot")) "__init__") (some (some (.ref (He.ma K (He.ga K "SameRoot") "__init__"))))
def x_107 (K : PySem.W.Frag) : Bool := PySem.W.keepIn K (.ref (He.ma K (He.ga K "SameRoot") "__init__"))
def x_108 (K : PySem.W.Frag) : Bool := decide (PySem.W.typeIn K (.ref (He.ma K (He.ga K "SameRoot") "__init__")) = some (.type "function"))
def x_109 (K : PySem.W.Frag) : Bool := PySem.W.excInitIn K (He.ga K "SameRoot") vaTail "ValueError.__new__"
def x_110 (K : PySem.W.Frag) : Bool := PySem.W.excOver K (He.ga K "SameRoot") vaTail
def x_111 (K : PySem.W.Frag) : Bool := PySem.W.hasDictIn K (He.ga K "SameRoot")
def x_112 (K : PySem.W.Frag) : Bool := He.eqO (PySem.W.findIn K (.ref (He.ga K "SameRoot")) "__setattr__") (some (some (.builtin "object.__setattr__")))
def x_113 (K : PySem.W.Frag) : Bool := decide (PySem.W.subIn K (.ref (He.ga K "SameRoot")) (.type "BaseException") = some true)
def x_114 (K : PySem.W.Frag) : Bool := decide (PySem.W.typeIn K (.ref (He.ga K "SameRoot")) = some (.type "type"))
def x_115 (K : PySem.W.Frag) : Bool := PySem.W.keepIn K (.ref (He.ga K "SameRoot"))
def x_116 (K : PySem.W.Frag) : Bool := He.eqO (PySem.W.findIn K (.ref (He.ga K "SameRoot")) "tag") (some none)
def x_117 (K : PySem.W.Frag) : Bool := He.eqO (PySem.W.findIn K (.ref (He.ga K "SameRoot")) "node") (some none)
def x_118 (K : PySem.W.Frag) : Bool := He.eqO (PySem.W.findIn K (.ref (He.ga K "SameRoot")) "__getattribute__") (some (some (.builtin "BaseException.__getattribute__")))
def x_119 (K : PySem.W.Frag) : Bool := He.eqO (PySem.W.findIn K (.ref (He.ga K "SameRoot")) "__getattr__") (some none)
def x_120 (K : PySem.W.Frag) : Bool := He.eqO (PySem.W.nsIn K mainGlobals "TooManyNodes") (some (some (.ref (He.ga K "TooManyNodes"))))
def x_121 (K : PySem.W.Frag) : Bool := He.eqO (PySem.W.findIn K (.ref (He.ga K "TooManyNodes")) "__init__") (some (some (.ref (He.ma K (He.ga K "TooManyNodes") "__init__"))))
def x_122 (K : PySem.W.Frag) : Bool := PySem.W.keepIn K (.ref (He.ma K (He.ga K "TooManyNodes") "__init__"))
def x_123 (K : PySem.W.Frag) : Bool := decide (PySem.W.typeIn K (.ref (He.ma K (He.ga K "TooManyNodes") "__init__")) = some (.type "function"))
def x_124 (K : PySem.W.Frag) : Bool := PySem.W.excInitIn K (He.ga K "TooManyNodes") vaTail "ValueError.__new__"
def x_125 (K : PySem.W.Frag) : Bool := PySem.W.excOver K (He.ga K "TooManyNodes") vaTail
def x_126 (K : PySem.W.Frag) : Bool := PySem.W.hasDictIn K (He.ga K "TooManyNodes")
def x_127 (K : PySem.W.Frag) : Bool := He.eqO (PySem.W.findIn K (.ref (He.ga K "TooManyNodes")) "__setattr__") (some (some (.builtin "object.__setattr__")))
def x_128 (K : PySem.W.Frag) : Bool := decide (PySem.W.subIn K (.ref (He.ga K "TooManyNodes")) (.type "BaseException") = some true)
def x_129 (K : PySem.W.Frag) : Bool := decide (PySem.W.typeIn K (.ref (He.ga K "TooManyNodes")) = some (.type "type"))
def x_130 (K : PySem.W.Frag) : Bool := PySem.W.keepIn K (.ref (He.ga K "TooManyNodes"))
def x_131 (K : PySem.W.Frag) : Bool := He.eqO (PySem.W.findIn K (.ref (He.ga K "TooManyNodes")) "tag") (some none)
def x_132 (K : PySem.W.Frag) : Bool := He.eqO (PySem.W.findIn K (.ref (He.ga K "TooManyNodes")) "limit") (some none)
def x_133 (K : PySem.W.Frag) : Bool := He.eqO (PySem.W.findIn K (.ref (He.ga K "TooManyNodes")) "__getattribute__") (some (some (.builtin "BaseException.__getattribute__")))
def x_134 (K : PySem.W.Frag) : Bool := He.eqO (PySem.W.findIn K (.ref (He.ga K "TooManyNodes")) "__getattr__") (some none)
def x_135 (K : PySem.W.Frag) : Bool := He.eqO (PySem.W.nsIn K mainGlobals "BadParent") (some (some (.ref (He.ga K "BadParent"))))
def x_136 (K : PySem.W.Frag) : Bool := He.eqO (PySem.W.findIn K (.ref (He.ga K "BadParent")) "__init__") (some (some (.ref (He.ma K (He.ga K "BadParent") "__init__"))))
def x_137 (K : PySem.W.Frag) : Bool := PySem.W.keepIn K (.ref (He.ma K (He.ga K "BadParent") "__init__"))
def x_138 (K : PySem.W.Frag) : Bool := decide (PySem.W.typeIn K (.ref (He.ma K (He.ga K "BadParent") "__init__")) = some (.type "function"))
def x_139 (K : PySem.W.Frag) : Bool := PySem.W.excInitIn K (He.ga K "BadParent") vaTail "ValueError.__new__"
def x_140 (K : PySem.W.Frag) : Bool := PySem.W.excOver K (He.ga K "BadParent") vaTail
def x_141 (K : PySem.W.Frag) : Bool := PySem.W.hasDictIn K (He.ga K "BadParent")
def x_142 (K : PySem.W.Frag) : Bool := He.eqO (PySem.W.findIn K (.ref (He.ga K "BadParent")) "__setattr__") (some (some (.builtin "object.__setattr__")))
def x_143 (K : PySem.W.Frag) : Bool := decide (PySem.W.subIn K (.ref (He.ga K "BadParent")) (.type "BaseException") = some true)
def x_144 (K : PySem.W.Frag) : Bool := decide (PySem.W.typeIn K (.ref (He.ga K "BadParent")) = some (.type "type"))
def x_145 (K : PySem.W.Frag) : Bool := PySem.W.keepIn K (.ref (He.ga K "BadParent"))
def x_146 (K : PySem.W.Frag) : Bool := He.eqO (PySem.W.findIn K (.ref (He.ga K "BadParent")) "tag") (some none)
def x_147 (K : PySem.W.Frag) : Bool := He.eqO (PySem.W.findIn K (.ref (He.ga K "BadParent")) "node") (some none)
def x_148 (K : PySem.W.Frag) : Bool := He.eqO (PySem.W.findIn K (.ref (He.ga K "BadParent")) "__getattribute__") (some (some (.builtin "BaseException.__getattribute__")))
def x_149 (K : PySem.W.Frag) : Bool := He.eqO (PySem.W.findIn K (.ref (He.ga K "BadParent")) "__getattr__") (some none)
def x_150 (K : PySem.W.Frag) : Bool := He.eqO (PySem.W.nsIn K mainGlobals "Cycle") (some (some (.ref (He.ga K "Cycle"))))
def x_151 (K : PySem.W.Frag) : Bool := He.eqO (PySem.W.findIn K (.ref (He.ga K "Cycle")) "__init__") (some (some (.ref (He.ma K (He.ga K "Cycle") "__init__"))))
def x_152 (K : PySem.W.Frag) : Bool := PySem.W.keepIn K (.ref (He.ma K (He.ga K "Cycle") "__init__"))
def x_153 (K : PySem.W.Frag) : Bool := decide (PySem.W.typeIn K (.ref (He.ma K (He.ga K "Cycle") "__init__")) = some (.type "function"))
def x_154 (K : PySem.W.Frag) : Bool := PySem.W.excInitIn K (He.ga K "Cycle") vaTail "ValueError.__new__"
def x_155 (K : PySem.W.Frag) : Bool := PySem.W.excOver K (He.ga K "Cycle") vaTail
def x_156 (K : PySem.W.Frag) : Bool := PySem.W.hasDictIn K (He.ga K "Cycle")
def x_157 (K : PySem.W.Frag) : Bool := He.eqO (PySem.W.findIn K (.ref (He.ga K "Cycle")) "__setattr__") (some (some (.builtin "object.__setattr__")))
def x_158 (K : PySem.W.Frag) : Bool := decide (PySem.W.subIn K (.ref (He.ga K "Cycle")) (.type "BaseException") = some true)
def x_159 (K : PySem.W.Frag) : Bool := decide (PySem.W.typeIn K (.ref (He.ga K "Cycle")) = some (.type "type"))
def x_160 (K : PySem.W.Frag) : Bool := PySem.W.keepIn K (.ref (He.ga K "Cycle"))
def x_161 (K : PySem.W.Frag) : Bool := He.eqO (PySem.W.findIn K (.ref (He.ga K "Cycle")) "tag") (some none)
def x_162 (K : PySem.W.Frag) : Bool := He.eqO (PySem.W.findIn K (.ref (He.ga K "Cycle")) "node") (some none)
def x_163 (K : PySem.W.Frag) : Bool := He.eqO (PySem.W.findIn K (.ref (He.ga K "Cycle")) "__getattribute__") (some (some (.builtin "BaseException.__getattribute__")))
def x_164 (K : PySem.W.Frag) : Bool := He.eqO (PySem.W.findIn K (.ref (He.ga K "Cycle")) "__getattr__") (some none)
def x_165 (K : PySem.W.Frag) : Bool := He.eqO (PySem.W.nsIn K mainGlobals "SizesDiffer") (some (some (.ref (He.ga K "SizesDiffer"))))
def x_166 (K : PySem.W.Frag) : Bool := He.eqO (PySem.W.findIn K (.ref (He.ga K "SizesDiffer")) "__init__") (some (some (.ref (He.ma K (He.ga K "SizesDiffer") "__init__"))))
def x_167 (K : PySem.W.Frag) : Bool := PySem.W.keepIn K (.ref (He.ma K (He.ga K "SizesDiffer") "__init__"))
def x_168 (K : PySem.W.Frag) : Bool := decide (PySem.W.typeIn K (.ref (He.ma K (He.ga K "SizesDiffer") "__init__")) = some (.type "function"))
def x_169 (K : PySem.W.Frag) : Bool := PySem.W.excInitIn K (He.ga K "SizesDiffer") vaTail "ValueError.__new__"
def x_170 (K : PySem.W.Frag) : Bool := PySem.W.excOver K (He.ga K "SizesDiffer") vaTail
def x_171 (K : PySem.W.Frag) : Bool := PySem.W.hasDictIn K (He.ga K "SizesDiffer")
def x_172 (K : PySem.W.Frag) : Bool := He.eqO (PySem.W.findIn K (.ref (He.ga K "SizesDiffer")) "__setattr__") (some (some (.builtin "object.__setattr__")))
def x_173 (K : PySem.W.Frag) : Bool := decide (PySem.W.subIn K (.ref (He.ga K "SizesDiffer")) (.type "BaseException") = some true)
def x_174 (K : PySem.W.Frag) : Bool := decide (PySem.W.typeIn K (.ref (He.ga K "SizesDiffer")) = some (.type "type"))
def x_175 (K : PySem.W.Frag) : Bool := PySem.W.keepIn K (.ref (He.ga K "SizesDiffer"))
def x_176 (K : PySem.W.Frag) : Bool := He.eqO (PySem.W.findIn K (.ref (He.ga K "SizesDiffer")) "tag") (some none)
def x_177 (K : PySem.W.Frag) : Bool := He.eqO (PySem.W.findIn K (.ref (He.ga K "SizesDiffer")) "size") (some none)
def x_178 (K : PySem.W.Frag) : Bool := He.eqO (PySem.W.findIn K (.ref (He.ga K "SizesDiffer")) "__getattribute__") (some (some (.builtin "BaseException.__getattribute__")))
def x_179 (K : PySem.W.Frag) : Bool := He.eqO (PySem.W.findIn K (.ref (He.ga K "SizesDiffer")) "__getattr__") (some none)
def x_180 (K : PySem.W.Frag) : Bool := He.eqO (PySem.W.nsIn K mainGlobals "RootsDiffer") (some (some (.ref (He.ga K "RootsDiffer"))))
def x_181 (K : PySem.W.Frag) : Bool := He.eqO (PySem.W.findIn K (.ref (He.ga K "RootsDiffer")) "__init__") (some (some (.ref (He.ma K (He.ga K "RootsDiffer") "__init__"))))
def x_182 (K : PySem.W.Frag) : Bool := PySem.W.keepIn K (.ref (He.ma K (He.ga K "RootsDiffer") "__init__"))
def x_183 (K : PySem.W.Frag) : Bool := decide (PySem.W.typeIn K (.ref (He.ma K (He.ga K "RootsDiffer") "__init__")) = some (.type "function"))
def x_184 (K : PySem.W.Frag) : Bool := PySem.W.excInitIn K (He.ga K "RootsDiffer") vaTail "ValueError.__new__"
def x_185 (K : PySem.W.Frag) : Bool := PySem.W.excOver K (He.ga K "RootsDiffer") vaTail
def x_186 (K : PySem.W.Frag) : Bool := PySem.W.hasDictIn K (He.ga K "RootsDiffer")
def x_187 (K : PySem.W.Frag) : Bool := He.eqO (PySem.W.findIn K (.ref (He.ga K "RootsDiffer")) "__setattr__") (some (some (.builtin "object.__setattr__")))
def x_188 (K : PySem.W.Frag) : Bool := decide (PySem.W.subIn K (.ref (He.ga K "RootsDiffer")) (.type "BaseException") = some true)
def x_189 (K : PySem.W.Frag) : Bool := decide (PySem.W.typeIn K (.ref (He.ga K "RootsDiffer")) = some (.type "type"))
def x_190 (K : PySem.W.Frag) : Bool := PySem.W.keepIn K (.ref (He.ga K "RootsDiffer"))
def x_191 (K : PySem.W.Frag) : Bool := He.eqO (PySem.W.findIn K (.ref (He.ga K "RootsDiffer")) "tag") (some none)
def x_192 (K : PySem.W.Frag) : Bool := He.eqO (PySem.W.findIn K (.ref (He.ga K "RootsDiffer")) "node") (some none)
def x_193 (K : PySem.W.Frag) : Bool := He.eqO (PySem.W.findIn K (.ref (He.ga K "RootsDiffer")) "__getattribute__") (some (some (.builtin "BaseException.__getattribute__")))
def x_194 (K : PySem.W.Frag) : Bool := He.eqO (PySem.W.findIn K (.ref (He.ga K "RootsDiffer")) "__getattr__") (some none)
def x_195 (K : PySem.W.Frag) : Bool := He.eqO (PySem.W.nsIn K mainGlobals "NoWay") (some (some (.ref (He.ga K "NoWay"))))
def x_196 (K : PySem.W.Frag) : Bool := He.eqO (PySem.W.findIn K (.ref (He.ga K "NoWay")) "__init__") (some (some (.ref (He.ma K (He.ga K "NoWay") "__init__"))))
def x_197 (K : PySem.W.Frag) : Bool := PySem.W.keepIn K (.ref (He.ma K (He.ga K "NoWay") "__init__"))
def x_198 (K : PySem.W.Frag) : Bool := decide (PySem.W.typeIn K (.ref (He.ma K (He.ga K "NoWay") "__init__")) = some (.type "function"))
def x_199 (K : PySem.W.Frag) : Bool := PySem.W.excInitIn K (He.ga K "NoWay") vaTail "ValueError.__new__"
def x_200 (K : PySem.W.Frag) : Bool := PySem.W.excOver K (He.ga K "NoWay") vaTail
def x_201 (K : PySem.W.Frag) : Bool := PySem.W.hasDictIn K (He.ga K "NoWay")
def x_202 (K : PySem.W.Frag) : Bool := He.eqO (PySem.W.findIn K (.ref (He.ga K "NoWay")) "__setattr__") (some (some (.builtin "object.__setattr__")))
def x_203 (K : PySem.W.Frag) : Bool := decide (PySem.W.subIn K (.ref (He.ga K "NoWay")) (.type "BaseException") = some true)
def x_204 (K : PySem.W.Frag) : Bool := decide (PySem.W.typeIn K (.ref (He.ga K "NoWay")) = some (.type "type"))
def x_205 (K : PySem.W.Frag) : Bool := PySem.W.keepIn K (.ref (He.ga K "NoWay"))
def x_206 (K : PySem.W.Frag) : Bool := He.eqO (PySem.W.findIn K (.ref (He.ga K "NoWay")) "tag") (some none)
def x_207 (K : PySem.W.Frag) : Bool := He.eqO (PySem.W.findIn K (.ref (He.ga K "NoWay")) "node") (some none)
def x_208 (K : PySem.W.Frag) : Bool := He.eqO (PySem.W.findIn K (.ref (He.ga K "NoWay")) "__getattribute__") (some (some (.builtin "BaseException.__getattribute__")))
def x_209 (K : PySem.W.Frag) : Bool := He.eqO (PySem.W.findIn K (.ref (He.ga K "NoWay")) "__getattr__") (some none)
def x_210 (K : PySem.W.Frag) : Bool := He.eqO (PySem.W.nsIn K mainGlobals "BadStep") (some (some (.ref (He.ga K "BadStep"))))
def x_211 (K : PySem.W.Frag) : Bool := He.eqO (PySem.W.findIn K (.ref (He.ga K "BadStep")) "__init__") (some (some (.ref (He.ma K (He.ga K "BadStep") "__init__"))))
def x_212 (K : PySem.W.Frag) : Bool := PySem.W.keepIn K (.ref (He.ma K (He.ga K "BadStep") "__init__"))
def x_213 (K : PySem.W.Frag) : Bool := decide (PySem.W.typeIn K (.ref (He.ma K (He.ga K "BadStep") "__init__")) = some (.type "function"))
def x_214 (K : PySem.W.Frag) : Bool := PySem.W.excInitIn K (He.ga K "BadStep") vaTail "ValueError.__new__"
def x_215 (K : PySem.W.Frag) : Bool := PySem.W.excOver K (He.ga K "BadStep") vaTail
def x_216 (K : PySem.W.Frag) : Bool := PySem.W.hasDictIn K (He.ga K "BadStep")
def x_217 (K : PySem.W.Frag) : Bool := He.eqO (PySem.W.findIn K (.ref (He.ga K "BadStep")) "__setattr__") (some (some (.builtin "object.__setattr__")))
def x_218 (K : PySem.W.Frag) : Bool := decide (PySem.W.subIn K (.ref (He.ga K "BadStep")) (.type "BaseException") = some true)
def x_219 (K : PySem.W.Frag) : Bool := decide (PySem.W.typeIn K (.ref (He.ga K "BadStep")) = some (.type "type"))
def x_220 (K : PySem.W.Frag) : Bool := PySem.W.keepIn K (.ref (He.ga K "BadStep"))
def x_221 (K : PySem.W.Frag) : Bool := He.eqO (PySem.W.findIn K (.ref (He.ga K "BadStep")) "tag") (some none)
def x_222 (K : PySem.W.Frag) : Bool := He.eqO (PySem.W.findIn K (.ref (He.ga K "BadStep")) "pos") (some none)
def x_223 (K : PySem.W.Frag) : Bool := He.eqO (PySem.W.findIn K (.ref (He.ga K "BadStep")) "__getattribute__") (some (some (.builtin "BaseException.__getattribute__")))
def x_224 (K : PySem.W.Frag) : Bool := He.eqO (PySem.W.findIn K (.ref (He.ga K "BadStep")) "__getattr__") (some none)
def x_225 (K : PySem.W.Frag) : Bool := He.eqO (PySem.W.nsIn K mainGlobals "TooLong") (some (some (.ref (He.ga K "TooLong"))))
def x_226 (K : PySem.W.Frag) : Bool := He.eqO (PySem.W.findIn K (.ref (He.ga K "TooLong")) "__init__") (some (some (.ref (He.ma K (He.ga K "TooLong") "__init__"))))
def x_227 (K : PySem.W.Frag) : Bool := PySem.W.keepIn K (.ref (He.ma K (He.ga K "TooLong") "__init__"))
def x_228 (K : PySem.W.Frag) : Bool := decide (PySem.W.typeIn K (.ref (He.ma K (He.ga K "TooLong") "__init__")) = some (.type "function"))
def x_229 (K : PySem.W.Frag) : Bool := PySem.W.excInitIn K (He.ga K "TooLong") vaTail "ValueError.__new__"
def x_230 (K : PySem.W.Frag) : Bool := PySem.W.excOver K (He.ga K "TooLong") vaTail
def x_231 (K : PySem.W.Frag) : Bool := PySem.W.hasDictIn K (He.ga K "TooLong")
def x_232 (K : PySem.W.Frag) : Bool := He.eqO (PySem.W.findIn K (.ref (He.ga K "TooLong")) "__setattr__") (some (some (.builtin "object.__setattr__")))
def x_233 (K : PySem.W.Frag) : Bool := decide (PySem.W.subIn K (.ref (He.ga K "TooLong")) (.type "BaseException") = some true)
def x_234 (K : PySem.W.Frag) : Bool := decide (PySem.W.typeIn K (.ref (He.ga K "TooLong")) = some (.type "type"))
def x_235 (K : PySem.W.Frag) : Bool := PySem.W.keepIn K (.ref (He.ga K "TooLong"))
def x_236 (K : PySem.W.Frag) : Bool := He.eqO (PySem.W.findIn K (.ref (He.ga K "TooLong")) "tag") (some none)
def x_237 (K : PySem.W.Frag) : Bool := He.eqO (PySem.W.findIn K (.ref (He.ga K "TooLong")) "limit") (some none)
def x_238 (K : PySem.W.Frag) : Bool := He.eqO (PySem.W.findIn K (.ref (He.ga K "TooLong")) "__getattribute__") (some (some (.builtin "BaseException.__getattribute__")))
def x_239 (K : PySem.W.Frag) : Bool := He.eqO (PySem.W.findIn K (.ref (He.ga K "TooLong")) "__getattr__") (some none)
def x_240 (K : PySem.W.Frag) : Bool := He.eqO (PySem.W.nsIn K mainGlobals "BadCount") (some (some (.ref (He.ga K "BadCount"))))
def x_241 (K : PySem.W.Frag) : Bool := He.eqO (PySem.W.findIn K (.ref (He.ga K "BadCount")) "__init__") (some (some (.ref (He.ma K (He.ga K "BadCount") "__init__"))))
def x_242 (K : PySem.W.Frag) : Bool := PySem.W.keepIn K (.ref (He.ma K (He.ga K "BadCount") "__init__"))
def x_243 (K : PySem.W.Frag) : Bool := decide (PySem.W.typeIn K (.ref (He.ma K (He.ga K "BadCount") "__init__")) = some (.type "function"))
def x_244 (K : PySem.W.Frag) : Bool := PySem.W.excInitIn K (He.ga K "BadCount") vaTail "ValueError.__new__"
def x_245 (K : PySem.W.Frag) : Bool := PySem.W.excOver K (He.ga K "BadCount") vaTail
def x_246 (K : PySem.W.Frag) : Bool := PySem.W.hasDictIn K (He.ga K "BadCount")
def x_247 (K : PySem.W.Frag) : Bool := He.eqO (PySem.W.findIn K (.ref (He.ga K "BadCount")) "__setattr__") (some (some (.builtin "object.__setattr__")))
def x_248 (K : PySem.W.Frag) : Bool := decide (PySem.W.subIn K (.ref (He.ga K "BadCount")) (.type "BaseException") = some true)
def x_249 (K : PySem.W.Frag) : Bool := decide (PySem.W.typeIn K (.ref (He.ga K "BadCount")) = some (.type "type"))
def x_250 (K : PySem.W.Frag) : Bool := PySem.W.keepIn K (.ref (He.ga K "BadCount"))
def x_251 (K : PySem.W.Frag) : Bool := He.eqO (PySem.W.findIn K (.ref (He.ga K "BadCount")) "tag") (some none)
def x_252 (K : PySem.W.Frag) : Bool := He.eqO (PySem.W.findIn K (.ref (He.ga K "BadCount")) "count") (some none)
def x_253 (K : PySem.W.Frag) : Bool := He.eqO (PySem.W.findIn K (.ref (He.ga K "BadCount")) "__getattribute__") (some (some (.builtin "BaseException.__getattribute__")))
def x_254 (K : PySem.W.Frag) : Bool := He.eqO (PySem.W.findIn K (.ref (He.ga K "BadCount")) "__getattr__") (some none)
def x_255 (K : PySem.W.Frag) : Bool := He.eqO (PySem.W.nsIn K mainGlobals "TooManyForests") (some (some (.ref (He.ga K "TooManyForests"))))
def x_256 (K : PySem.W.Frag) : Bool := He.eqO (PySem.W.findIn K (.ref (He.ga K "TooManyForests")) "__init__") (some (some (.ref (He.ma K (He.ga K "TooManyForests") "__init__"))))
def x_257 (K : PySem.W.Frag) : Bool := PySem.W.keepIn K (.ref (He.ma K (He.ga K "TooManyForests") "__init__"))
def x_258 (K : PySem.W.Frag) : Bool := decide (PySem.W.typeIn K (.ref (He.ma K (He.ga K "TooManyForests") "__init__")) = some (.type "function"))
def x_259 (K : PySem.W.Frag) : Bool := PySem.W.excInitIn K (He.ga K "TooManyForests") vaTail "ValueError.__new__"
def x_260 (K : PySem.W.Frag) : Bool := PySem.W.excOver K (He.ga K "TooManyForests") vaTail
def x_261 (K : PySem.W.Frag) : Bool := PySem.W.hasDictIn K (He.ga K "TooManyForests")
def x_262 (K : PySem.W.Frag) : Bool := He.eqO (PySem.W.findIn K (.ref (He.ga K "TooManyForests")) "__setattr__") (some (some (.builtin "object.__setattr__")))
def x_263 (K : PySem.W.Frag) : Bool := decide (PySem.W.subIn K (.ref (He.ga K "TooManyForests")) (.type "BaseException") = some true)
def x_264 (K : PySem.W.Frag) : Bool := decide (PySem.W.typeIn K (.ref (He.ga K "TooManyForests")) = some (.type "type"))
def x_265 (K : PySem.W.Frag) : Bool := PySem.W.keepIn K (.ref (He.ga K "TooManyForests"))
def x_266 (K : PySem.W.Frag) : Bool := He.eqO (PySem.W.findIn K (.ref (He.ga K "TooManyForests")) "tag") (some none)
def x_267 (K : PySem.W.Frag) : Bool := He.eqO (PySem.W.findIn K (.ref (He.ga K "TooManyForests")) "limit") (some none)
def x_268 (K : PySem.W.Frag) : Bool := He.eqO (PySem.W.findIn K (.ref (He.ga K "TooManyForests")) "__getattribute__") (some (some (.builtin "BaseException.__getattribute__")))
def x_269 (K : PySem.W.Frag) : Bool := He.eqO (PySem.W.findIn K (.ref (He.ga K "TooManyForests")) "__getattr__") (some none)
def x_270 (K : PySem.W.Frag) : Bool := He.eqO (PySem.W.nsIn K mainGlobals "BadName") (some (some (.ref (He.ga K "BadName"))))
def x_271 (K : PySem.W.Frag) : Bool := He.eqO (PySem.W.findIn K (.ref (He.ga K "BadName")) "__init__") (some (some (.ref (He.ma K (He.ga K "BadName") "__init__"))))
def x_272 (K : PySem.W.Frag) : Bool := PySem.W.keepIn K (.ref (He.ma K (He.ga K "BadName") "__init__"))
def x_273 (K : PySem.W.Frag) : Bool := decide (PySem.W.typeIn K (.ref (He.ma K (He.ga K "BadName") "__init__")) = some (.type "function"))
def x_274 (K : PySem.W.Frag) : Bool := PySem.W.excInitIn K (He.ga K "BadName") vaTail "ValueError.__new__"
def x_275 (K : PySem.W.Frag) : Bool := PySem.W.excOver K (He.ga K "BadName") vaTail
def x_276 (K : PySem.W.Frag) : Bool := PySem.W.hasDictIn K (He.ga K "BadName")
def x_277 (K : PySem.W.Frag) : Bool := He.eqO (PySem.W.findIn K (.ref (He.ga K "BadName")) "__setattr__") (some (some (.builtin "object.__setattr__")))
def x_278 (K : PySem.W.Frag) : Bool := decide (PySem.W.subIn K (.ref (He.ga K "BadName")) (.type "BaseException") = some true)
def x_279 (K : PySem.W.Frag) : Bool := decide (PySem.W.typeIn K (.ref (He.ga K "BadName")) = some (.type "type"))
def x_280 (K : PySem.W.Frag) : Bool := PySem.W.keepIn K (.ref (He.ga K "BadName"))
def x_281 (K : PySem.W.Frag) : Bool := He.eqO (PySem.W.findIn K (.ref (He.ga K "BadName")) "tag") (some none)
def x_282 (K : PySem.W.Frag) : Bool := He.eqO (PySem.W.findIn K (.ref (He.ga K "BadName")) "name") (some none)
def x_283 (K : PySem.W.Frag) : Bool := He.eqO (PySem.W.findIn K (.ref (He.ga K "BadName")) "__getattribute__") (some (some (.builtin "BaseException.__getattribute__")))
def x_284 (K : PySem.W.Frag) : Bool := He.eqO (PySem.W.findIn K (.ref (He.ga K "BadName")) "__getattr__") (some none)
def x_285 (K : PySem.W.Frag) : Bool := He.eqO (PySem.W.nsIn K mainGlobals "NameTaken") (some (some (.ref (He.ga K "NameTaken"))))
def x_286 (K : PySem.W.Frag) : Bool := He.eqO (PySem.W.findIn K (.ref (He.ga K "NameTaken")) "__init__") (some (some (.ref (He.ma K (He.ga K "NameTaken") "__init__"))))
def x_287 (K : PySem.W.Frag) : Bool := PySem.W.keepIn K (.ref (He.ma K (He.ga K "NameTaken") "__init__"))
def x_288 (K : PySem.W.Frag) : Bool := decide (PySem.W.typeIn K (.ref (He.ma K (He.ga K "NameTaken") "__init__")) = some (.type "function"))
def x_289 (K : PySem.W.Frag) : Bool := PySem.W.excInitIn K (He.ga K "NameTaken") vaTail "ValueError.__new__"
def x_290 (K : PySem.W.Frag) : Bool := PySem.W.excOver K (He.ga K "NameTaken") vaTail
def x_291 (K : PySem.W.Frag) : Bool := PySem.W.hasDictIn K (He.ga K "NameTaken")
def x_292 (K : PySem.W.Frag) : Bool := He.eqO (PySem.W.findIn K (.ref (He.ga K "NameTaken")) "__setattr__") (some (some (.builtin "object.__setattr__")))
def x_293 (K : PySem.W.Frag) : Bool := decide (PySem.W.subIn K (.ref (He.ga K "NameTaken")) (.type "BaseException") = some true)
def x_294 (K : PySem.W.Frag) : Bool := decide (PySem.W.typeIn K (.ref (He.ga K "NameTaken")) = some (.type "type"))
def x_295 (K : PySem.W.Frag) : Bool := PySem.W.keepIn K (.ref (He.ga K "NameTaken"))
def x_296 (K : PySem.W.Frag) : Bool := He.eqO (PySem.W.findIn K (.ref (He.ga K "NameTaken")) "tag") (some none)
def x_297 (K : PySem.W.Frag) : Bool := He.eqO (PySem.W.findIn K (.ref (He.ga K "NameTaken")) "name") (some none)
def x_298 (K : PySem.W.Frag) : Bool := He.eqO (PySem.W.findIn K (.ref (He.ga K "NameTaken")) "__getattribute__") (some (some (.builtin "BaseException.__getattribute__")))
def x_299 (K : PySem.W.Frag) : Bool := He.eqO (PySem.W.findIn K (.ref (He.ga K "NameTaken")) "__getattr__") (some none)
def x_300 (K : PySem.W.Frag) : Bool := He.eqO (PySem.W.nsIn K mainGlobals "NoForest") (some (some (.ref (He.ga K "NoForest"))))
def x_301 (K : PySem.W.Frag) : Bool := He.eqO (PySem.W.findIn K (.ref (He.ga K "NoForest")) "__init__") (some (some (.ref (He.ma K (He.ga K "NoForest") "__init__"))))
def x_302 (K : PySem.W.Frag) : Bool := PySem.W.keepIn K (.ref (He.ma K (He.ga K "NoForest") "__init__"))
def x_303 (K : PySem.W.Frag) : Bool := decide (PySem.W.typeIn K (.ref (He.ma K (He.ga K "NoForest") "__init__")) = some (.type "function"))
def x_304 (K : PySem.W.Frag) : Bool := PySem.W.excInitIn K (He.ga K "NoForest") luTail "LookupError.__new__"
def x_305 (K : PySem.W.Frag) : Bool := PySem.W.excOver K (He.ga K "NoForest") luTail
def x_306 (K : PySem.W.Frag) : Bool := PySem.W.hasDictIn K (He.ga K "NoForest")
def x_307 (K : PySem.W.Frag) : Bool := He.eqO (PySem.W.findIn K (.ref (He.ga K "NoForest")) "__setattr__") (some (some (.builtin "object.__setattr__")))
def x_308 (K : PySem.W.Frag) : Bool := decide (PySem.W.subIn K (.ref (He.ga K "NoForest")) (.type "BaseException") = some true)
def x_309 (K : PySem.W.Frag) : Bool := decide (PySem.W.typeIn K (.ref (He.ga K "NoForest")) = some (.type "type"))
def x_310 (K : PySem.W.Frag) : Bool := PySem.W.keepIn K (.ref (He.ga K "NoForest"))
def x_311 (K : PySem.W.Frag) : Bool := He.eqO (PySem.W.findIn K (.ref (He.ga K "NoForest")) "tag") (some none)
def x_312 (K : PySem.W.Frag) : Bool := He.eqO (PySem.W.findIn K (.ref (He.ga K "NoForest")) "name") (some none)
def x_313 (K : PySem.W.Frag) : Bool := He.eqO (PySem.W.findIn K (.ref (He.ga K "NoForest")) "__getattribute__") (some (some (.builtin "BaseException.__getattribute__")))
def x_314 (K : PySem.W.Frag) : Bool := He.eqO (PySem.W.findIn K (.ref (He.ga K "NoForest")) "__getattr__") (some none)
def x_315 (K : PySem.W.Frag) : Bool := He.eqO (PySem.W.nsIn K mainGlobals "BadCommand") (some (some (.ref (He.ga K "BadCommand"))))
def x_316 (K : PySem.W.Frag) : Bool := He.eqO (PySem.W.findIn K (.ref (He.ga K "BadCommand")) "__init__") (some (some (.ref (He.ma K (He.ga K "BadCommand") "__init__"))))
def x_317 (K : PySem.W.Frag) : Bool := PySem.W.keepIn K (.ref (He.ma K (He.ga K "BadCommand") "__init__"))
def x_318 (K : PySem.W.Frag) : Bool := decide (PySem.W.typeIn K (.ref (He.ma K (He.ga K "BadCommand") "__init__")) = some (.type "function"))
def x_319 (K : PySem.W.Frag) : Bool := PySem.W.excInitIn K (He.ga K "BadCommand") vaTail "ValueError.__new__"
def x_320 (K : PySem.W.Frag) : Bool := PySem.W.excOver K (He.ga K "BadCommand") vaTail
def x_321 (K : PySem.W.Frag) : Bool := PySem.W.hasDictIn K (He.ga K "BadCommand")
def x_322 (K : PySem.W.Frag) : Bool := He.eqO (PySem.W.findIn K (.ref (He.ga K "BadCommand")) "__setattr__") (some (some (.builtin "object.__setattr__")))
def x_323 (K : PySem.W.Frag) : Bool := decide (PySem.W.subIn K (.ref (He.ga K "BadCommand")) (.type "BaseException") = some true)
def x_324 (K : PySem.W.Frag) : Bool := decide (PySem.W.typeIn K (.ref (He.ga K "BadCommand")) = some (.type "type"))
def x_325 (K : PySem.W.Frag) : Bool := PySem.W.keepIn K (.ref (He.ga K "BadCommand"))
def x_326 (K : PySem.W.Frag) : Bool := He.eqO (PySem.W.findIn K (.ref (He.ga K "BadCommand")) "tag") (some none)
def x_327 (K : PySem.W.Frag) : Bool := He.eqO (PySem.W.findIn K (.ref (He.ga K "BadCommand")) "word") (some none)
def x_328 (K : PySem.W.Frag) : Bool := He.eqO (PySem.W.findIn K (.ref (He.ga K "BadCommand")) "__getattribute__") (some (some (.builtin "BaseException.__getattribute__")))
def x_329 (K : PySem.W.Frag) : Bool := He.eqO (PySem.W.findIn K (.ref (He.ga K "BadCommand")) "__getattr__") (some none)
def x_330 (K : PySem.W.Frag) : Bool := He.intB (PySem.W.nsIn K mainGlobals "MAX_NODES") 40
def x_331 (K : PySem.W.Frag) : Bool := decide (PySem.W.exmAny K (.ref (He.ga K "TooManyNodes")) [.ref (He.ga K "TooManyNodes"), .ref (He.ga K "BadParent"), .ref (He.ga K "Cycle")] = some true)
def x_332 (K : PySem.W.Frag) : Bool := decide (PySem.W.exmAny K (.ref (He.ga K "BadParent")) [.ref (He.ga K "TooManyNodes"), .ref (He.ga K "BadParent"), .ref (He.ga K "Cycle")] = some true)
def x_333 (K : PySem.W.Frag) : Bool := decide (PySem.W.exmAny K (.ref (He.ga K "Cycle")) [.ref (He.ga K "TooManyNodes"), .ref (He.ga K "BadParent"), .ref (He.ga K "Cycle")] = some true)
def x_334 (K : PySem.W.Frag) : Bool := He.intB (PySem.W.nsIn K mainGlobals "COUNT_LIMIT") 1000000000000000000000000000000
def x_335 (K : PySem.W.Frag) : Bool := He.intB (PySem.W.nsIn K mainGlobals "MAX_NESTING") 4
def x_336 (K : PySem.W.Frag) : Bool := He.intB (PySem.W.nsIn K mainGlobals "MAX_STEPS") 100
def x_337 (K : PySem.W.Frag) : Bool := He.eqO (PySem.W.nsIn K mainGlobals "Store") (some (some (.ref (He.ga K "Store"))))
def x_338 (K : PySem.W.Frag) : Bool := PySem.W.plainGet K (He.ga K "Store") Str.empty
def x_339 (K : PySem.W.Frag) : Bool := PySem.W.hasDictIn K (He.ga K "Store")
def x_340 (K : PySem.W.Frag) : Bool := PySem.W.plainOver K (He.ga K "Store")
def x_341 (K : PySem.W.Frag) : Bool := He.eqO (PySem.W.findIn K (.ref (He.ga K "Store")) "__setattr__") (some (some (.builtin "object.__setattr__")))
def x_342 (K : PySem.W.Frag) : Bool := PySem.W.makesIn K (He.ga K "Store")
def x_343 (K : PySem.W.Frag) : Bool := PySem.W.keepIn K (.ref (He.ga K "Store"))
def x_344 (K : PySem.W.Frag) : Bool := He.eqO (PySem.W.findIn K (.ref (He.ga K "Store")) "forests") (some none)
def x_345 (K : PySem.W.Frag) : Bool := He.eqO (PySem.W.findIn K (.ref (He.ga K "Store")) "total") (some none)
def x_346 (K : PySem.W.Frag) : Bool := He.eqO (PySem.W.findIn K (.ref (He.ga K "Store")) "past") (some none)
def x_347 (K : PySem.W.Frag) : Bool := He.eqO (PySem.W.findIn K (.ref (He.ga K "Store")) "future") (some none)
def x_348 (K : PySem.W.Frag) : Bool := He.eqO (PySem.W.findIn K (.ref (He.ga K "Store")) "watches") (some none)
def x_349 (K : PySem.W.Frag) : Bool := He.eqO (PySem.W.findIn K (.ref (He.ga K "Store")) "told") (some none)
def x_350 (K : PySem.W.Frag) : Bool := He.eqO (PySem.W.findIn K (.ref (He.ga K "Store")) "last_number") (some none)
def x_351 (K : PySem.W.Frag) : Bool := He.eqO (PySem.W.findIn K (.ref (He.ga K "Store")) "__init__") (some (some (.ref (He.ma K (He.ga K "Store") "__init__"))))
def x_352 (K : PySem.W.Frag) : Bool := PySem.W.isFn K (.ref (He.ma K (He.ga K "Store") "__init__"))
def x_353 (K : PySem.W.Frag) : Bool := PySem.W.keepIn K (.ref (He.ma K (He.ga K "Store") "__init__"))
def x_354 (K : PySem.W.Frag) : Bool := He.eqO (PySem.W.findIn K (.ref (He.ga K "Store")) "forest_of") (some (some (.ref (He.ma K (He.ga K "Store") "forest_of"))))
def x_355 (K : PySem.W.Frag) : Bool := PySem.W.isFn K (.ref (He.ma K (He.ga K "Store") "forest_of"))
def x_356 (K : PySem.W.Frag) : Bool := PySem.W.keepIn K (.ref (He.ma K (He.ga K "Store") "forest_of"))
def x_357 (K : PySem.W.Frag) : Bool := He.eqO (PySem.W.findIn K (.ref (He.ga K "Store")) "apply_all") (some (some (.ref (He.ma K (He.ga K "Store") "apply_all"))))
def x_358 (K : PySem.W.Frag) : Bool := PySem.W.isFn K (.ref (He.ma K (He.ga K "Store") "apply_all"))
def x_359 (K : PySem.W.Frag) : Bool := PySem.W.keepIn K (.ref (He.ma K (He.ga K "Store") "apply_all"))
def x_360 (K : PySem.W.Frag) : Bool := He.eqO (PySem.W.findIn K (.ref (He.ga K "Store")) "apply") (some (some (.ref (He.ma K (He.ga K "Store") "apply"))))
def x_361 (K : PySem.W.Frag) : Bool := PySem.W.isFn K (.ref (He.ma K (He.ga K "Store") "apply"))
def x_362 (K : PySem.W.Frag) : Bool := PySem.W.keepIn K (.ref (He.ma K (He.ga K "Store") "apply"))
def x_363 (K : PySem.W.Frag) : Bool := He.eqO (PySem.W.findIn K (.ref (He.ga K "Store")) "total_cost") (some (some (.ref (He.ma K (He.ga K "Store") "total_cost"))))
def x_364 (K : PySem.W.Frag) : Bool := PySem.W.isFn K (.ref (He.ma K (He.ga K "Store") "total_cost"))
def x_365 (K : PySem.W.Frag) : Bool := PySem.W.keepIn K (.ref (He.ma K (He.ga K "Store") "total_cost"))
def x_366 (K : PySem.W.Frag) : Bool := He.eqO (PySem.W.nsIn K mainGlobals "LENGTHS") (some (some (.ref (He.ga K "LENGTHS"))))
def x_367 (K : PySem.W.Frag) : Bool := He.eqO (PySem.W.nsIn K mainGlobals "ACTIONS") (some (some (.ref (He.ga K "ACTIONS"))))
def x_368 (K : PySem.W.Frag) : Bool := He.intB (PySem.W.nsIn K mainGlobals "MAX_FORESTS") 6
def x_369 (K : PySem.W.Frag) : Bool := He.intB (PySem.W.nsIn K mainGlobals "MAX_LETTERS") 6
def x_370 (K : PySem.W.Frag) : Bool := He.intB (PySem.W.nsIn K (He.ga K "LENGTHS") "new") 3
def x_371 (K : PySem.W.Frag) : Bool := He.intB (PySem.W.nsIn K (He.ga K "LENGTHS") "drop") 2
def x_372 (K : PySem.W.Frag) : Bool := He.intB (PySem.W.nsIn K (He.ga K "LENGTHS") "copy") 3
def x_373 (K : PySem.W.Frag) : Bool := He.intB (PySem.W.nsIn K (He.ga K "LENGTHS") "swap") 3
def x_374 (K : PySem.W.Frag) : Bool := He.intB (PySem.W.nsIn K (He.ga K "LENGTHS") "find") 3
def x_375 (K : PySem.W.Frag) : Bool := He.intB (PySem.W.nsIn K (He.ga K "LENGTHS") "link") 4
def x_376 (K : PySem.W.Frag) : Bool := He.intB (PySem.W.nsIn K (He.ga K "LENGTHS") "unite") 4
def x_377 (K : PySem.W.Frag) : Bool := He.intB (PySem.W.nsIn K (He.ga K "LENGTHS") "run") 3
def x_378 (K : PySem.W.Frag) : Bool := He.intB (PySem.W.nsIn K (He.ga K "LENGTHS") "flatten") 2
def x_379 (K : PySem.W.Frag) : Bool := He.intB (PySem.W.nsIn K (He.ga K "LENGTHS") "grow") 3
def x_380 (K : PySem.W.Frag) : Bool := He.eqO (PySem.W.nsIn K (He.ga K "ACTIONS") "new") (some (some (.ref (He.nsR K (He.ga K "ACTIONS") "new"))))
def x_381 (K : PySem.W.Frag) : Bool := He.eqO (PySem.W.nsIn K mainGlobals "do_new") (some (some (.ref (He.nsR K (He.ga K "ACTIONS") "new"))))
def x_382 (K : PySem.W.Frag) : Bool := He.eqO (PySem.W.nsIn K (He.ga K "ACTIONS") "run") (some (some (.ref (He.nsR K (He.ga K "ACTIONS") "run"))))
def x_383 (K : PySem.W.Frag) : Bool := He.eqO (PySem.W.nsIn K mainGlobals "do_run") (some (some (.ref (He.nsR K (He.ga K "ACTIONS") "run"))))
def x_384 (K : PySem.W.Frag) : Bool := He.eqO (PySem.W.nsIn K (He.ga K "ACTIONS") "link") (some (some (.ref (He.nsR K (He.ga K "ACTIONS") "link"))))
def x_385 (K : PySem.W.Frag) : Bool := He.eqO (PySem.W.nsIn K mainGlobals "do_link") (some (some (.ref (He.nsR K (He.ga K "ACTIONS") "link"))))
def x_386 (K : PySem.W.Frag) : Bool := He.eqO (PySem.W.nsIn K (He.ga K "ACTIONS") "unite") (some (some (.ref (He.nsR K (He.ga K "ACTIONS") "unite"))))
def x_387 (K : PySem.W.Frag) : Bool := He.eqO (PySem.W.nsIn K mainGlobals "do_unite") (some (some (.ref (He.nsR K (He.ga K "ACTIONS") "unite"))))
def exL0 : List (PySem.W.Frag → Bool) := [x_0, x_1, x_2, x_3, x_4, x_5, x_6, x_7, x_8, x_9, x_10, x_11, x_12, x_13, x_14, x_15, x_16, x_17, x_18, x_19, x_20, x_21, x_22, x_23, x_24, x_25, x_26, x_27, x_28, x_29, x_30, x_31, x_32, x_33, x_34, x_35, x_36, x_37, x_38, x_39]
def exL1 : List (PySem.W.Frag → Bool) := [x_40, x_41, x_42, x_43, x_44, x_45, x_46, x_47, x_48, x_49, x_50, x_51, x_52, x_53, x_54, x_55, x_56, x_57, x_58, x_59, x_60, x_61, x_62, x_63, x_64, x_65, x_66, x_67, x_68, x_69, x_70, x_71, x_72, x_73, x_74, x_75, x_76, x_77, x_78, x_79]
def exL2 : List (PySem.W.Frag → Bool) := [x_80, x_81, x_82, x_83, x_84, x_85, x_86, x_87, x_88, x_89, x_90, x_91, x_92, x_93, x_94, x_95, x_96, x_97, x_98, x_99, x_100, x_101, x_102, x_103, x_104, x_105, x_106, x_107, x_108, x_109, x_110, x_111, x_112, x_113, x_114, x_115, x_116, x_117, x_118, x_119]
def exL3 : List (PySem.W.Frag → Bool) := [x_120, x_121, x_122, x_123, x_124, x_125, x_126, x_127, x_128, x_129, x_130, x_131, x_132, x_133, x_134, x_135, x_136, x_137, x_138, x_139, x_140, x_141, x_142, x_143, x_144, x_145, x_146, x_147, x_148, x_149, x_150, x_151, x_152, x_153, x_154, x_155, x_156, x_157, x_158, x_159]
def exL4 : List (PySem.W.Frag → Bool) := [x_160, x_161, x_162, x_163, x_164, x_165, x_166, x_167, x_168, x_169, x_170, x_171, x_172, x_173, x_174, x_175, x_176, x_177, x_178, x_179, x_180, x_181, x_182, x_183, x_184, x_185, x_186, x_187, x_188, x_189, x_190, x_191, x_192, x_193, x_194, x_195, x_196, x_197, x_198, x_199]
def exL5 : List (PySem.W.Frag → Bool) := [x_200, x_201, x_202, x_203, x_204, x_205, x_206, x_207, x_208, x_209, x_210, x_211, x_212, x_213, x_214, x_215, x_216, x_217, x_218, x_219, x_220, x_221, x_222, x_223, x_224, x_225, x_226, x_227, x_228, x_229, x_230, x_231, x_232, x_233, x_234, x_235, x_236, x_237, x_238, x_239]
def exL6 : List (PySem.W.Frag → Bool) := [x_240, x_241, x_242, x_243, x_244, x_245, x_246, x_247, x_248, x_249, x_250, x_251, x_252, x_253, x_254, x_255, x_256, x_257, x_258, x_259, x_260, x_261, x_262, x_263, x_264, x_265, x_266, x_267, x_268, x_269, x_270, x_271, x_272, x_273, x_274, x_275, x_276, x_277, x_278, x_279]
def exL7 : List (PySem.W.Frag → Bool) := [x_280, x_281, x_282, x_283, x_284, x_285, x_286, x_287, x_288, x_289, x_290, x_291, x_292, x_293, x_294, x_295, x_296, x_297, x_298, x_299, x_300, x_301, x_302, x_303, x_304, x_305, x_306, x_307, x_308, x_309, x_310, x_311, x_312, x_313, x_314, x_315, x_316, x_317, x_318, x_319]
def exL8 : List (PySem.W.Frag → Bool) := [x_320, x_321, x_322, x_323, x_324, x_325, x_326, x_327, x_328, x_329, x_330, x_331, x_332, x_333, x_334, x_335, x_336, x_337, x_338, x_339, x_340, x_341, x_342, x_343, x_344, x_345, x_346, x_347, x_348, x_349, x_350, x_351, x_352, x_353, x_354, x_355, x_356, x_357, x_358, x_359]
def exL9 : List (PySem.W.Frag → Bool) := [x_360, x_361, x_362, x_363, x_364, x_365, x_366, x_367, x_368, x_369, x_370, x_371, x_372, x_373, x_374, x_375, x_376, x_377, x_378, x_379, x_380, x_381, x_382, x_383, x_384, x_385, x_386, x_387]
def exs_ : List (PySem.W.Frag → Bool) := exL0 ++ (exL1 ++ (exL2 ++ (exL3 ++ (exL4 ++ (exL5 ++ (exL6 ++ (exL7 ++ (exL8 ++ (exL9)))))))))
def ex_ (K : PySem.W.Frag) : Bool := exs_.all fun b => b K
def ts_ : List He.Tab := [(fun K => (He.ga K "LENGTHS"), ["new", "drop", "copy", "swap", "find", "link", "unite", "run", "flatten", "grow"]), (fun K => (He.ga K "ACTIONS"), ["new", "drop", "copy", "swap", "find", "link", "unite", "run", "flatten", "grow"])]
def tf_ : List He.Defn := []
theorem facts {l : PySem.W.OpenLaw} {w : World} {K : PySem.W.Frag} {h : Heap} {mg : Str → Option Value} {fa : Addr} (X : K.In h) (G : h.Ns mainGlobals mg) (hfa : mg "law" = some (.ref fa)) (c : He.SaysX [] fn_ ts_ tf_ ex_ w h K) : ∃ fd : FuncData, (∀ (s : Shared) (v : Value), BindsTo s fd ⟨[v], []⟩ [("_law_script", v)]) ∧ ∀ base : Heap, K.In base → base.Ns mainGlobals mg → FnOk l.prog w K mg base CX0 24 fa fd ["_law_script"] (spLaw K) := by
  have E : (exs_.all fun b => b K) = true := c.more
  obtain ⟨kp0, oc0, od0, sl0, kV0, dc0, pm0, an0, cd0, ct0, lk0, cc0⟩ := def_at c.t.d 0 (d := dd_0) rfl rfl
  obtain ⟨kp1, oc1, od1, sl1, kV1, dc1, pm1, an1, cd1, ct1, lk1, cc1⟩ := def_at c.t.d 1 (d := dd_1) rfl rfl
  obtain ⟨kp2, oc2, od2, sl2, kV2, dc2, pm2, an2, cd2, ct2, lk2, cc2⟩ := def_at c.t.d 2 (d := dd_2) rfl rfl
  obtain ⟨kp3, oc3, od3, sl3, kV3, dc3, pm3, an3, cd3, ct3, lk3, cc3⟩ := def_at c.t.d 3 (d := dd_3) rfl rfl
  obtain ⟨kp4, oc4, od4, sl4, kV4, dc4, pm4, an4, cd4, ct4, lk4, cc4⟩ := def_at c.t.d 4 (d := dd_4) rfl rfl
  obtain ⟨kp5, oc5, od5, sl5, kV5, dc5, pm5, an5, cd5, ct5, lk5, cc5⟩ := def_at c.t.d 5 (d := dd_5) rfl rfl
  obtain ⟨kp6, oc6, od6, sl6, kV6, dc6, pm6, an6, cd6, ct6, lk6, cc6⟩ := def_at c.t.d 6 (d := dd_6) rfl rfl
  obtain ⟨kp7, oc7, od7, sl7, kV7, dc7, pm7, an7, cd7, ct7, lk7, cc7⟩ := def_at c.t.d 7 (d := dd_7) rfl rfl
  obtain ⟨kp8, oc8, od8, sl8, kV8, dc8, pm8, an8, cd8, ct8, lk8, cc8⟩ := def_at c.t.d 8 (d := dd_8) rfl rfl
  obtain ⟨kp9, oc9, od9, sl9, kV9, dc9, pm9, an9, cd9, ct9, lk9, cc9⟩ := def_at c.t.d 9 (d := dd_9) rfl rfl
  obtain ⟨kp10, oc10, od10, sl10, kV10, dc10, pm10, an10, cd10, ct10, lk10, cc10⟩ := def_at c.t.d 10 (d := dd_10) rfl rfl
  obtain ⟨kp11, oc11, od11, sl11, kV11, dc11, pm11, an11, cd11, ct11, lk11, cc11⟩ := def_at c.t.d 11 (d := dd_11) rfl rfl
  obtain ⟨kp12, oc12, od12, sl12, kV12, dc12, pm12, an12, cd12, ct12, lk12, cc12⟩ := def_at c.t.d 12 (d := dd_12) rfl rfl
  obtain ⟨kp13, oc13, od13, sl13, kV13, dc13, pm13, an13, cd13, ct13, lk13, cc13⟩ := def_at c.t.d 13 (d := dd_13) rfl rfl
  obtain ⟨kp14, oc14, od14, sl14, kV14, dc14, pm14, an14, cd14, ct14, lk14, cc14⟩ := def_at c.t.d 14 (d := dd_14) rfl rfl
  obtain ⟨kp15, oc15, od15, sl15, kV15, dc15, pm15, an15, cd15, ct15, lk15, cc15⟩ := def_at c.t.d 15 (d := dd_15) rfl rfl
  obtain ⟨kp16, oc16, od16, sl16, kV16, dc16, pm16, an16, cd16, ct16, lk16, cc16⟩ := def_at c.t.d 16 (d := dd_16) rfl rfl
  obtain ⟨kp17, oc17, od17, sl17, kV17, dc17, pm17, an17, cd17, ct17, lk17, cc17⟩ := def_at c.t.d 17 (d := dd_17) rfl rfl
  obtain ⟨kp18, oc18, od18, sl18, kV18, dc18, pm18, an18, cd18, ct18, lk18, cc18⟩ := def_at c.t.d 18 (d := dd_18) rfl rfl
  obtain ⟨kp19, oc19, od19, sl19, kV19, dc19, pm19, an19, cd19, ct19, lk19, cc19⟩ := def_at c.t.d 19 (d := dd_19) rfl rfl
  obtain ⟨kp20, oc20, od20, sl20, kV20, dc20, pm20, an20, cd20, ct20, lk20, cc20⟩ := def_at c.t.d 20 (d := dd_20) rfl rfl
  obtain ⟨kp21, oc21, od21, sl21, kV21, dc21, pm21, an21, cd21, ct21, lk21, cc21⟩ := def_at c.t.d 21 (d := dd_21) rfl rfl
  obtain ⟨kp22, oc22, od22, sl22, kV22, dc22, pm22, an22, cd22, ct22, lk22, cc22⟩ := def_at c.t.d 22 (d := dd_22) rfl rfl
  obtain ⟨kp23, oc23, od23, sl23, kV23, dc23, pm23, an23, cd23, ct23, lk23, cc23⟩ := def_at c.t.d 23 (d := dd_23) rfl rfl
  obtain ⟨kp24, oc24, od24, sl24, kV24, dc24, pm24, an24, cd24, ct24, lk24, cc24⟩ := def_at c.t.d 24 (d := dd_24) rfl rfl
  obtain ⟨kp25, oc25, od25, sl25, kV25, dc25, pm25, an25, cd25, ct25, lk25, cc25⟩ := def_at c.t.d 25 (d := dd_25) rfl rfl
  obtain ⟨kp26, oc26, od26, sl26, kV26, dc26, pm26, an26, cd26, ct26, lk26, cc26⟩ := def_at c.t.d 26 (d := dd_26) rfl rfl
  obtain ⟨kp27, oc27, od27, sl27, kV27, dc27, pm27, an27, cd27, ct27, lk27, cc27⟩ := def_at c.t.d 27 (d := dd_27) rfl rfl
  obtain ⟨kp28, oc28, od28, sl28, kV28, dc28, pm28, an28, cd28, ct28, lk28, cc28⟩ := def_at c.t.d 28 (d := dd_28) rfl rfl
  obtain ⟨kp29, oc29, od29, sl29, kV29, dc29, pm29, an29, cd29, ct29, lk29, cc29⟩ := def_at c.t.d 29 (d := dd_29) rfl rfl
  obtain ⟨kp30, oc30, od30, sl30, kV30, dc30, pm30, an30, cd30, ct30, lk30, cc30⟩ := def_at c.t.d 30 (d := dd_30) rfl rfl
  obtain ⟨kp31, oc31, od31, sl31, kV31, dc31, pm31, an31, cd31, ct31, lk31, cc31⟩ := def_at c.t.d 31 (d := dd_31) rfl rfl
  obtain ⟨kp32, oc32, od32, sl32, kV32, dc32, pm32, an32, cd32, ct32, lk32, cc32⟩ := def_at c.t.d 32 (d := dd_32) rfl rfl
  obtain ⟨kp33, oc33, od33, sl33, kV33, dc33, pm33, an33, cd33, ct33, lk33, cc33⟩ := def_at c.t.d 33 (d := dd_33) rfl rfl
  obtain ⟨kp34, oc34, od34, sl34, kV34, dc34, pm34, an34, cd34, ct34, lk34, cc34⟩ := def_at c.t.d 34 (d := dd_34) rfl rfl
  obtain ⟨kp35, oc35, od35, sl35, kV35, dc35, pm35, an35, cd35, ct35, lk35, cc35⟩ := def_at c.t.d 35 (d := dd_35) rfl rfl
  obtain ⟨kp36, oc36, od36, sl36, kV36, dc36, pm36, an36, cd36, ct36, lk36, cc36⟩ := def_at c.t.d 36 (d := dd_36) rfl rfl
  obtain ⟨kp37, oc37, od37, sl37, kV37, dc37, pm37, an37, cd37, ct37, lk37, cc37⟩ := def_at c.t.d 37 (d := dd_37) rfl rfl
  obtain ⟨kp38, oc38, od38, sl38, kV38, dc38, pm38, an38, cd38, ct38, lk38, cc38⟩ := def_at c.t.d 38 (d := dd_38) rfl rfl
  obtain ⟨kp39, oc39, od39, sl39, kV39, dc39, pm39, an39, cd39, ct39, lk39, cc39⟩ := def_at c.t.d 39 (d := dd_39) rfl rfl
  obtain ⟨kp40, oc40, od40, sl40, kV40, dc40, pm40, an40, cd40, ct40, lk40, cc40⟩ := def_at c.t.d 40 (d := dd_40) rfl rfl
  obtain ⟨kp41, oc41, od41, sl41, kV41, dc41, pm41, an41, cd41, ct41, lk41, cc41⟩ := def_at c.t.d 41 (d := dd_41) rfl rfl
  obtain ⟨kp42, oc42, od42, sl42, kV42, dc42, pm42, an42, cd42, ct42, lk42, cc42⟩ := def_at c.t.d 42 (d := dd_42) rfl rfl
  obtain ⟨kp43, oc43, od43, sl43, kV43, dc43, pm43, an43, cd43, ct43, lk43, cc43⟩ := def_at c.t.d 43 (d := dd_43) rfl rfl
  obtain ⟨kp44, oc44, od44, sl44, kV44, dc44, pm44, an44, cd44, ct44, lk44, cc44⟩ := def_at c.t.d 44 (d := dd_44) rfl rfl
  obtain ⟨kp45, oc45, od45, sl45, kV45, dc45, pm45, an45, cd45, ct45, lk45, cc45⟩ := def_at c.t.d 45 (d := dd_45) rfl rfl
  obtain ⟨kp46, oc46, od46, sl46, kV46, dc46, pm46, an46, cd46, ct46, lk46, cc46⟩ := def_at c.t.d 46 (d := dd_46) rfl rfl
  obtain ⟨kp47, oc47, od47, sl47, kV47, dc47, pm47, an47, cd47, ct47, lk47, cc47⟩ := def_at c.t.d 47 (d := dd_47) rfl rfl
  obtain ⟨kp48, oc48, od48, sl48, kV48, dc48, pm48, an48, cd48, ct48, lk48, cc48⟩ := def_at c.t.d 48 (d := dd_48) rfl rfl
  obtain ⟨kp49, oc49, od49, sl49, kV49, dc49, pm49, an49, cd49, ct49, lk49, cc49⟩ := def_at c.t.d 49 (d := dd_49) rfl rfl
  obtain ⟨kp50, oc50, od50, sl50, kV50, dc50, pm50, an50, cd50, ct50, lk50, cc50⟩ := def_at c.t.d 50 (d := dd_50) rfl rfl
  obtain ⟨kp51, oc51, od51, sl51, kV51, dc51, pm51, an51, cd51, ct51, lk51, cc51⟩ := def_at c.t.d 51 (d := dd_51) rfl rfl
  obtain ⟨kp52, oc52, od52, sl52, kV52, dc52, pm52, an52, cd52, ct52, lk52, cc52⟩ := def_at c.t.d 52 (d := dd_52) rfl rfl
  obtain ⟨kp53, oc53, od53, sl53, kV53, dc53, pm53, an53, cd53, ct53, lk53, cc53⟩ := def_at c.t.d 53 (d := dd_53) rfl rfl
  obtain ⟨kp54, oc54, od54, sl54, kV54, dc54, pm54, an54, cd54, ct54, lk54, cc54⟩ := def_at c.t.d 54 (d := dd_54) rfl rfl
  obtain ⟨kp55, oc55, od55, sl55, kV55, dc55, pm55, an55, cd55, ct55, lk55, cc55⟩ := def_at c.t.d 55 (d := dd_55) rfl rfl
  obtain ⟨kp56, oc56, od56, sl56, kV56, dc56, pm56, an56, cd56, ct56, lk56, cc56⟩ := def_at c.t.d 56 (d := dd_56) rfl rfl
  obtain ⟨kp57, oc57, od57, sl57, kV57, dc57, pm57, an57, cd57, ct57, lk57, cc57⟩ := def_at c.t.d 57 (d := dd_57) rfl rfl
  obtain ⟨kp58, oc58, od58, sl58, kV58, dc58, pm58, an58, cd58, ct58, lk58, cc58⟩ := def_at c.t.d 58 (d := dd_58) rfl rfl
  obtain ⟨kp59, oc59, od59, sl59, kV59, dc59, pm59, an59, cd59, ct59, lk59, cc59⟩ := def_at c.t.d 59 (d := dd_59) rfl rfl
  obtain ⟨tk330, hk330⟩ := He.intB_ok (at_ E 330 (b := x_330) rfl)
  obtain ⟨tk334, hk334⟩ := He.intB_ok (at_ E 334 (b := x_334) rfl)
  obtain ⟨tk335, hk335⟩ := He.intB_ok (at_ E 335 (b := x_335) rfl)
  obtain ⟨tk336, hk336⟩ := He.intB_ok (at_ E 336 (b := x_336) rfl)
  obtain ⟨kp60, oc60, od60, sl60, kV60, dc60, pm60, an60, cd60, ct60, lk60, cc60⟩ := def_at c.t.d 60 (d := dd_60) rfl rfl
  obtain ⟨kp61, oc61, od61, sl61, kV61, dc61, pm61, an61, cd61, ct61, lk61, cc61⟩ := def_at c.t.d 61 (d := dd_61) rfl rfl
  obtain ⟨kp62, oc62, od62, sl62, kV62, dc62, pm62, an62, cd62, ct62, lk62, cc62⟩ := def_at c.t.d 62 (d := dd_62) rfl rfl
  obtain ⟨kp63, oc63, od63, sl63, kV63, dc63, pm63, an63, cd63, ct63, lk63, cc63⟩ := def_at c.t.d 63 (d := dd_63) rfl rfl
  obtain ⟨kp64, oc64, od64, sl64, kV64, dc64, pm64, an64, cd64, ct64, lk64, cc64⟩ := def_at c.t.d 64 (d := dd_64) rfl rfl
  obtain ⟨es0, nn0, DL0⟩ := c.t.tab 0 rfl
  obtain ⟨es1, nn1, DL1⟩ := c.t.tab 1 rfl
  obtain ⟨tk368, hk368⟩ := He.intB_ok (at_ E 368 (b := x_368) rfl)
  obtain ⟨tk369, hk369⟩ := He.intB_ok (at_ E 369 (b := x_369) rfl)
  obtain ⟨tk370, hk370⟩ := He.intB_ok (at_ E 370 (b := x_370) rfl)
  obtain ⟨tk371, hk371⟩ := He.intB_ok (at_ E 371 (b := x_371) rfl)
  obtain ⟨tk372, hk372⟩ := He.intB_ok (at_ E 372 (b := x_372) rfl)
  obtain ⟨tk373, hk373⟩ := He.intB_ok (at_ E 373 (b := x_373) rfl)
  obtain ⟨tk374, hk374⟩ := He.intB_ok (at_ E 374 (b := x_374) rfl)
  obtain ⟨tk375, hk375⟩ := He.intB_ok (at_ E 375 (b := x_375) rfl)
  obtain ⟨tk376, hk376⟩ := He.intB_ok (at_ E 376 (b := x_376) rfl)
  obtain ⟨tk377, hk377⟩ := He.intB_ok (at_ E 377 (b := x_377) rfl)
  obtain ⟨tk378, hk378⟩ := He.intB_ok (at_ E 378 (b := x_378) rfl)
  obtain ⟨tk379, hk379⟩ := He.intB_ok (at_ E 379 (b := x_379) rfl)
  exact all_mk X G hfa (DefF.by (He.eqO_ok (at_ E 0 (b := x_0) rfl)) lk0 cc0 kp0) (DefF.by (He.eqO_ok (at_ E 1 (b := x_1) rfl)) lk1 cc1 kp1) (DefF.by (He.eqO_ok (at_ E 2 (b := x_2) rfl)) lk2 cc2 kp2) (DefF.by (He.eqO_ok (at_ E 3 (b := x_3) rfl)) lk3 cc3 kp3) (DefF.by (He.eqO_ok (at_ E 4 (b := x_4) rfl)) lk4 cc4 kp4) (DefF.by (He.eqO_ok (at_ E 5 (b := x_5) rfl)) lk5 cc5 kp5) (DefF.by (He.eqO_ok (at_ E 6 (b := x_6) rfl)) lk6 cc6 kp6) (DefF.by (He.eqO_ok (at_ E 7 (b := x_7) rfl)) lk7 cc7 kp7) (DefF.by (He.eqO_ok (at_ E 8 (b := x_8) rfl)) lk8 cc8 kp8) (DefF.by (He.eqO_ok (at_ E 9 (b := x_9) rfl)) lk9 cc9 kp9) (DefF.by (He.eqO_ok (at_ E 10 (b := x_10) rfl)) lk10 cc10 kp10) (DefF.by (He.eqO_ok (at_ E 11 (b := x_11) rfl)) lk11 cc11 kp11) (DefF.by (He.eqO_ok (at_ E 12 (b := x_12) rfl)) lk12 cc12 kp12) (DefF.by (He.eqO_ok (at_ E 13 (b := x_13) rfl)) lk13 cc13 kp13) (DefF.by (He.eqO_ok (at_ E 14 (b := x_14) rfl)) lk14 cc14 kp14) (DefF.by (He.eqO_ok (at_ E 15 (b := x_15) rfl)) lk15 cc15 kp15) (DefF.by (He.eqO_ok (at_ E 16 (b := x_16) rfl)) lk16 cc16 kp16) (DefF.by (He.eqO_ok (at_ E 17 (b := x_17) rfl)) lk17 cc17 kp17) (DefF.by (He.eqO_ok (at_ E 18 (b := x_18) rfl)) lk18 cc18 kp18) (DefF.by (He.eqO_ok (at_ E 19 (b := x_19) rfl)) lk19 cc19 kp19) (DefF.by (He.eqO_ok (at_ E 20 (b := x_20) rfl)) lk20 cc20 kp20) (DefF.by (He.eqO_ok (at_ E 21 (b := x_21) rfl)) lk21 cc21 kp21) (DefF.by (He.eqO_ok (at_ E 22 (b := x_22) rfl)) lk22 cc22 kp22) (DefF.by (He.eqO_ok (at_ E 23 (b := x_23) rfl)) lk23 cc23 kp23) (DefF.by (He.eqO_ok (at_ E 24 (b := x_24) rfl)) lk24 cc24 kp24) (DefF.by (He.eqO_ok (at_ E 25 (b := x_25) rfl)) lk25 cc25 kp25) (DefF.by (He.eqO_ok (at_ E 26 (b := x_26) rfl)) lk26 cc26 kp26) (DefF.by (He.eqO_ok (at_ E 27 (b := x_27) rfl)) lk27 cc27 kp27) (DefF.by (He.eqO_ok (at_ E 28 (b := x_28) rfl)) lk28 cc28 kp28) (DefF.by (He.eqO_ok (at_ E 29 (b := x_29) rfl)) lk29 cc29 kp29) (DefF.by (He.eqO_ok (at_ E 30 (b := x_30) rfl)) lk30 cc30 kp30) (DefF.by (He.eqO_ok (at_ E 31 (b := x_31) rfl)) lk31 cc31 kp31) (DefF.by (He.eqO_ok (at_ E 32 (b := x_32) rfl)) lk32 cc32 kp32) (DefF.by (He.eqO_ok (at_ E 33 (b := x_33) rfl)) lk33 cc33 kp33) (DefF.by (He.eqO_ok (at_ E 34 (b := x_34) rfl)) lk34 cc34 kp34) (DefF.by (He.eqO_ok (at_ E 35 (b := x_35) rfl)) lk35 cc35 kp35) (DefF.by (He.eqO_ok (at_ E 36 (b := x_36) rfl)) lk36 cc36 kp36) (DefF.by (He.eqO_ok (at_ E 37 (b := x_37) rfl)) lk37 cc37 kp37) (DefF.by (He.eqO_ok (at_ E 38 (b := x_38) rfl)) lk38 cc38 kp38) (DefF.by (He.eqO_ok (at_ E 39 (b := x_39) rfl)) lk39 cc39 kp39) (DefF.by (He.eqO_ok (at_ E 40 (b := x_40) rfl)) lk40 cc40 kp40) (He.eqO_ok (at_ E 41 (b := x_41) rfl)) (He.eqO_ok (at_ E 42 (b := x_42) rfl)) (He.eqO_ok (at_ E 43 (b := x_43) rfl)) (He.eqO_ok (at_ E 44 (b := x_44) rfl)) (He.eqO_ok (at_ E 45 (b := x_45) rfl)) (He.eqO_ok (at_ E 46 (b := x_46) rfl)) (He.eqO_ok (at_ E 47 (b := x_47) rfl)) (He.eqO_ok (at_ E 48 (b := x_48) rfl)) (He.eqO_ok (at_ E 49 (b := x_49) rfl)) (He.eqO_ok (at_ E 50 (b := x_50) rfl)) (He.eqO_ok (at_ E 51 (b := x_51) rfl)) (He.eqO_ok (at_ E 52 (b := x_52) rfl)) (He.eqO_ok (at_ E 53 (b := x_53) rfl)) (He.eqO_ok (at_ E 54 (b := x_54) rfl)) (He.eqO_ok (at_ E 55 (b := x_55) rfl)) (He.eqO_ok (at_ E 56 (b := x_56) rfl)) (He.eqO_ok (at_ E 57 (b := x_57) rfl)) (He.eqO_ok (at_ E 58 (b := x_58) rfl)) (He.eqO_ok (at_ E 59 (b := x_59) rfl)) (He.eqO_ok (at_ E 60 (b := x_60) rfl)) lk41 cc41 (at_ E 61 (b := x_61) rfl) (at_ E 62 (b := x_62) rfl) (He.cfB_ok (at_ E 63 (b := x_63) rfl)) (He.eqO_ok (at_ E 64 (b := x_64) rfl)) (at_ E 65 (b := x_65) rfl) (He.cfB_ok (at_ E 66 (b := x_66) rfl)) (He.eqO_ok (at_ E 67 (b := x_67) rfl)) (He.eqO_ok (at_ E 68 (b := x_68) rfl)) lk42 cc42 (at_ E 69 (b := x_69) rfl) (at_ E 70 (b := x_70) rfl) (He.cfB_ok (at_ E 71 (b := x_71) rfl)) (He.eqO_ok (at_ E 72 (b := x_72) rfl)) (at_ E 73 (b := x_73) rfl) (He.cfB_ok (at_ E 74 (b := x_74) rfl)) (He.eqO_ok (at_ E 75 (b := x_75) rfl)) (He.eqO_ok (at_ E 76 (b := x_76) rfl)) lk43 cc43 (at_ E 77 (b := x_77) rfl) (of_decide_eq_true (at_ E 78 (b := x_78) rfl)) (at_ E 79 (b := x_79) rfl) (at_ E 80 (b := x_80) rfl) (at_ E 81 (b := x_81) rfl) (He.eqO_ok (at_ E 82 (b := x_82) rfl)) (of_decide_eq_true (at_ E 83 (b := x_83) rfl)) (of_decide_eq_true (at_ E 84 (b := x_84) rfl)) (at_ E 85 (b := x_85) rfl) (He.eqO_ok (at_ E 86 (b := x_86) rfl)) (He.eqO_ok (at_ E 87 (b := x_87) rfl)) (He.eqO_ok (at_ E 88 (b := x_88) rfl)) (He.eqO_ok (at_ E 89 (b := x_89) rfl)) (He.eqO_ok (at_ E 90 (b := x_90) rfl)) (He.eqO_ok (at_ E 91 (b := x_91) rfl)) lk44 cc44 (at_ E 92 (b := x_92) rfl) (of_decide_eq_true (at_ E 93 (b := x_93) rfl)) (at_ E 94 (b := x_94) rfl) (at_ E 95 (b := x_95) rfl) (at_ E 96 (b := x_96) rfl) (He.eqO_ok (at_ E 97 (b := x_97) rfl)) (of_decide_eq_true (at_ E 98 (b := x_98) rfl)) (of_decide_eq_true (at_ E 99 (b := x_99) rfl)) (at_ E 100 (b := x_100) rfl) (He.eqO_ok (at_ E 101 (b := x_101) rfl)) (He.eqO_ok (at_ E 102 (b := x_102) rfl)) (He.eqO_ok (at_ E 103 (b := x_103) rfl)) (He.eqO_ok (at_ E 104 (b := x_104) rfl)) (He.eqO_ok (at_ E 105 (b := x_105) rfl)) (He.eqO_ok (at_ E 106 (b := x_106) rfl)) lk45 cc45 (at_ E 107 (b := x_107) rfl) (of_decide_eq_true (at_ E 108 (b := x_108) rfl)) (at_ E 109 (b := x_109) rfl) (at_ E 110 (b := x_110) rfl) (at_ E 111 (b := x_111) rfl) (He.eqO_ok (at_ E 112 (b := x_112) rfl)) (of_decide_eq_true (at_ E 113 (b := x_113) rfl)) (of_decide_eq_true (at_ E 114 (b := x_114) rfl)) (at_ E 115 (b := x_115) rfl) (He.eqO_ok (at_ E 116 (b := x_116) rfl)) (He.eqO_ok (at_ E 117 (b := x_117) rfl)) (He.eqO_ok (at_ E 118 (b := x_118) rfl)) (He.eqO_ok (at_ E 119 (b := x_119) rfl)) (He.eqO_ok (at_ E 120 (b := x_120) rfl)) (He.eqO_ok (at_ E 121 (b := x_121) rfl)) lk46 cc46 (at_ E 122 (b := x_122) rfl) (of_decide_eq_true (at_ E 123 (b := x_123) rfl)) (at_ E 124 (b := x_124) rfl) (at_ E 125 (b := x_125) rfl) (at_ E 126 (b := x_126) rfl) (He.eqO_ok (at_ E 127 (b := x_127) rfl)) (of_decide_eq_true (at_ E 128 (b := x_128) rfl)) (of_decide_eq_true (at_ E 129 (b := x_129) rfl)) (at_ E 130 (b := x_130) rfl) (He.eqO_ok (at_ E 131 (b := x_131) rfl)) (He.eqO_ok (at_ E 132 (b := x_132) rfl)) (He.eqO_ok (at_ E 133 (b := x_133) rfl)) (He.eqO_ok (at_ E 134 (b := x_134) rfl)) (He.eqO_ok (at_ E 135 (b := x_135) rfl)) (He.eqO_ok (at_ E 136 (b := x_136) rfl)) lk47 cc47 (at_ E 137 (b := x_137) rfl) (of_decide_eq_true (at_ E 138 (b := x_138) rfl)) (at_ E 139 (b := x_139) rfl) (at_ E 140 (b := x_140) rfl) (at_ E 141 (b := x_141) rfl) (He.eqO_ok (at_ E 142 (b := x_142) rfl)) (of_decide_eq_true (at_ E 143 (b := x_143) rfl)) (of_decide_eq_true (at_ E 144 (b := x_144) rfl)) (at_ E 145 (b := x_145) rfl) (He.eqO_ok (at_ E 146 (b := x_146) rfl)) (He.eqO_ok (at_ E 147 (b := x_147) rfl)) (He.eqO_ok (at_ E 148 (b := x_148) rfl)) (He.eqO_ok (at_ E 149 (b := x_149) rfl)) (He.eqO_ok (at_ E 150 (b := x_150) rfl)) (He.eqO_ok (at_ E 151 (b := x_151) rfl)) lk48 cc48 (at_ E 152 (b := x_152) rfl) (of_decide_eq_true (at_ E 153 (b := x_153) rfl)) (at_ E 154 (b := x_154) rfl) (at_ E 155 (b := x_155) rfl) (at_ E 156 (b := x_156) rfl) (He.eqO_ok (at_ E 157 (b := x_157) rfl)) (of_decide_eq_true (at_ E 158 (b := x_158) rfl)) (of_decide_eq_true (at_ E 159 (b := x_159) rfl)) (at_ E 160 (b := x_160) rfl) (He.eqO_ok (at_ E 161 (b := x_161) rfl)) (He.eqO_ok (at_ E 162 (b := x_162) rfl)) (He.eqO_ok (at_ E 163 (b := x_163) rfl)) (He.eqO_ok (at_ E 164 (b := x_164) rfl)) (He.eqO_ok (at_ E 165 (b := x_165) rfl)) (He.eqO_ok (at_ E 166 (b := x_166) rfl)) lk49 cc49 (at_ E 167 (b := x_167) rfl) (of_decide_eq_true (at_ E 168 (b := x_168) rfl)) (at_ E 169 (b := x_169) rfl) (at_ E 170 (b := x_170) rfl) (at_ E 171 (b := x_171) rfl) (He.eqO_ok (at_ E 172 (b := x_172) rfl)) (of_decide_eq_true (at_ E 173 (b := x_173) rfl)) (of_decide_eq_true (at_ E 174 (b := x_174) rfl)) (at_ E 175 (b := x_175) rfl) (He.eqO_ok (at_ E 176 (b := x_176) rfl)) (He.eqO_ok (at_ E 177 (b := x_177) rfl)) (He.eqO_ok (at_ E 178 (b := x_178) rfl)) (He.eqO_ok (at_ E 179 (b := x_179) rfl)) (He.eqO_ok (at_ E 180 (b := x_180) rfl)) (He.eqO_ok (at_ E 181 (b := x_181) rfl)) lk50 cc50 (at_ E 182 (b := x_182) rfl) (of_decide_eq_true (at_ E 183 (b := x_183) rfl)) (at_ E 184 (b := x_184) rfl) (at_ E 185 (b := x_185) rfl) (at_ E 186 (b := x_186) rfl) (He.eqO_ok (at_ E 187 (b := x_187) rfl)) (of_decide_eq_true (at_ E 188 (b := x_188) rfl)) (of_decide_eq_true (at_ E 189 (b := x_189) rfl)) (at_ E 190 (b := x_190) rfl) (He.eqO_ok (at_ E 191 (b := x_191) rfl)) (He.eqO_ok (at_ E 192 (b := x_192) rfl)) (He.eqO_ok (at_ E 193 (b := x_193) rfl)) (He.eqO_ok (at_ E 194 (b := x_194) rfl)) (He.eqO_ok (at_ E 195 (b := x_195) rfl)) (He.eqO_ok (at_ E 196 (b := x_196) rfl)) lk51 cc51 (at_ E 197 (b := x_197) rfl) (of_decide_eq_true (at_ E 198 (b := x_198) rfl)) (at_ E 199 (b := x_199) rfl) (at_ E 200 (b := x_200) rfl) (at_ E 201 (b := x_201) rfl) (He.eqO_ok (at_ E 202 (b := x_202) rfl)) (of_decide_eq_true (at_ E 203 (b := x_203) rfl)) (of_decide_eq_true (at_ E 204 (b := x_204) rfl)) (at_ E 205 (b := x_205) rfl) (He.eqO_ok (at_ E 206 (b := x_206) rfl)) (He.eqO_ok (at_ E 207 (b := x_207) rfl)) (He.eqO_ok (at_ E 208 (b := x_208) rfl)) (He.eqO_ok (at_ E 209 (b := x_209) rfl)) (He.eqO_ok (at_ E 210 (b := x_210) rfl)) (He.eqO_ok (at_ E 211 (b := x_211) rfl)) lk52 cc52 (at_ E 212 (b := x_212) rfl) (of_decide_eq_true (at_ E 213 (b := x_213) rfl)) (at_ E 214 (b := x_214) rfl) (at_ E 215 (b := x_215) rfl) (at_ E 216 (b := x_216) rfl) (He.eqO_ok (at_ E 217 (b := x_217) rfl)) (of_decide_eq_true (at_ E 218 (b := x_218) rfl)) (of_decide_eq_true (at_ E 219 (b := x_219) rfl)) (at_ E 220 (b := x_220) rfl) (He.eqO_ok (at_ E 221 (b := x_221) rfl)) (He.eqO_ok (at_ E 222 (b := x_222) rfl)) (He.eqO_ok (at_ E 223 (b := x_223) rfl)) (He.eqO_ok (at_ E 224 (b := x_224) rfl)) (He.eqO_ok (at_ E 225 (b := x_225) rfl)) (He.eqO_ok (at_ E 226 (b := x_226) rfl)) lk53 cc53 (at_ E 227 (b := x_227) rfl) (of_decide_eq_true (at_ E 228 (b := x_228) rfl)) (at_ E 229 (b := x_229) rfl) (at_ E 230 (b := x_230) rfl) (at_ E 231 (b := x_231) rfl) (He.eqO_ok (at_ E 232 (b := x_232) rfl)) (of_decide_eq_true (at_ E 233 (b := x_233) rfl)) (of_decide_eq_true (at_ E 234 (b := x_234) rfl)) (at_ E 235 (b := x_235) rfl) (He.eqO_ok (at_ E 236 (b := x_236) rfl)) (He.eqO_ok (at_ E 237 (b := x_237) rfl)) (He.eqO_ok (at_ E 238 (b := x_238) rfl)) (He.eqO_ok (at_ E 239 (b := x_239) rfl)) (He.eqO_ok (at_ E 240 (b := x_240) rfl)) (He.eqO_ok (at_ E 241 (b := x_241) rfl)) lk54 cc54 (at_ E 242 (b := x_242) rfl) (of_decide_eq_true (at_ E 243 (b := x_243) rfl)) (at_ E 244 (b := x_244) rfl) (at_ E 245 (b := x_245) rfl) (at_ E 246 (b := x_246) rfl) (He.eqO_ok (at_ E 247 (b := x_247) rfl)) (of_decide_eq_true (at_ E 248 (b := x_248) rfl)) (of_decide_eq_true (at_ E 249 (b := x_249) rfl)) (at_ E 250 (b := x_250) rfl) (He.eqO_ok (at_ E 251 (b := x_251) rfl)) (He.eqO_ok (at_ E 252 (b := x_252) rfl)) (He.eqO_ok (at_ E 253 (b := x_253) rfl)) (He.eqO_ok (at_ E 254 (b := x_254) rfl)) (He.eqO_ok (at_ E 255 (b := x_255) rfl)) (He.eqO_ok (at_ E 256 (b := x_256) rfl)) lk55 cc55 (at_ E 257 (b := x_257) rfl) (of_decide_eq_true (at_ E 258 (b := x_258) rfl)) (at_ E 259 (b := x_259) rfl) (at_ E 260 (b := x_260) rfl) (at_ E 261 (b := x_261) rfl) (He.eqO_ok (at_ E 262 (b := x_262) rfl)) (of_decide_eq_true (at_ E 263 (b := x_263) rfl)) (of_decide_eq_true (at_ E 264 (b := x_264) rfl)) (at_ E 265 (b := x_265) rfl) (He.eqO_ok (at_ E 266 (b := x_266) rfl)) (He.eqO_ok (at_ E 267 (b := x_267) rfl)) (He.eqO_ok (at_ E 268 (b := x_268) rfl)) (He.eqO_ok (at_ E 269 (b := x_269) rfl)) (He.eqO_ok (at_ E 270 (b := x_270) rfl)) (He.eqO_ok (at_ E 271 (b := x_271) rfl)) lk56 cc56 (at_ E 272 (b := x_272) rfl) (of_decide_eq_true (at_ E 273 (b := x_273) rfl)) (at_ E 274 (b := x_274) rfl) (at_ E 275 (b := x_275) rfl) (at_ E 276 (b := x_276) rfl) (He.eqO_ok (at_ E 277 (b := x_277) rfl)) (of_decide_eq_true (at_ E 278 (b := x_278) rfl)) (of_decide_eq_true (at_ E 279 (b := x_279) rfl)) (at_ E 280 (b := x_280) rfl) (He.eqO_ok (at_ E 281 (b := x_281) rfl)) (He.eqO_ok (at_ E 282 (b := x_282) rfl)) (He.eqO_ok (at_ E 283 (b := x_283) rfl)) (He.eqO_ok (at_ E 284 (b := x_284) rfl)) (He.eqO_ok (at_ E 285 (b := x_285) rfl)) (He.eqO_ok (at_ E 286 (b := x_286) rfl)) lk57 cc57 (at_ E 287 (b := x_287) rfl) (of_decide_eq_true (at_ E 288 (b := x_288) rfl)) (at_ E 289 (b := x_289) rfl) (at_ E 290 (b := x_290) rfl) (at_ E 291 (b := x_291) rfl) (He.eqO_ok (at_ E 292 (b := x_292) rfl)) (of_decide_eq_true (at_ E 293 (b := x_293) rfl)) (of_decide_eq_true (at_ E 294 (b := x_294) rfl)) (at_ E 295 (b := x_295) rfl) (He.eqO_ok (at_ E 296 (b := x_296) rfl)) (He.eqO_ok (at_ E 297 (b := x_297) rfl)) (He.eqO_ok (at_ E 298 (b := x_298) rfl)) (He.eqO_ok (at_ E 299 (b := x_299) rfl)) (He.eqO_ok (at_ E 300 (b := x_300) rfl)) (He.eqO_ok (at_ E 301 (b := x_301) rfl)) lk58 cc58 (at_ E 302 (b := x_302) rfl) (of_decide_eq_true (at_ E 303 (b := x_303) rfl)) (at_ E 304 (b := x_304) rfl) (at_ E 305 (b := x_305) rfl) (at_ E 306 (b := x_306) rfl) (He.eqO_ok (at_ E 307 (b := x_307) rfl)) (of_decide_eq_true (at_ E 308 (b := x_308) rfl)) (of_decide_eq_true (at_ E 309 (b := x_309) rfl)) (at_ E 310 (b := x_310) rfl) (He.eqO_ok (at_ E 311 (b := x_311) rfl)) (He.eqO_ok (at_ E 312 (b := x_312) rfl)) (He.eqO_ok (at_ E 313 (b := x_313) rfl)) (He.eqO_ok (at_ E 314 (b := x_314) rfl)) (He.eqO_ok (at_ E 315 (b := x_315) rfl)) (He.eqO_ok (at_ E 316 (b := x_316) rfl)) lk59 cc59 (at_ E 317 (b := x_317) rfl) (of_decide_eq_true (at_ E 318 (b := x_318) rfl)) (at_ E 319 (b := x_319) rfl) (at_ E 320 (b := x_320) rfl) (at_ E 321 (b := x_321) rfl) (He.eqO_ok (at_ E 322 (b := x_322) rfl)) (of_decide_eq_true (at_ E 323 (b := x_323) rfl)) (of_decide_eq_true (at_ E 324 (b := x_324) rfl)) (at_ E 325 (b := x_325) rfl) (He.eqO_ok (at_ E 326 (b := x_326) rfl)) (He.eqO_ok (at_ E 327 (b := x_327) rfl)) (He.eqO_ok (at_ E 328 (b := x_328) rfl)) (He.eqO_ok (at_ E 329 (b := x_329) rfl)) hk330 (of_decide_eq_true (at_ E 331 (b := x_331) rfl)) (of_decide_eq_true (at_ E 332 (b := x_332) rfl)) (of_decide_eq_true (at_ E 333 (b := x_333) rfl)) hk334 hk335 hk336 (He.eqO_ok (at_ E 337 (b := x_337) rfl)) (at_ E 338 (b := x_338) rfl) (at_ E 339 (b := x_339) rfl) (at_ E 340 (b := x_340) rfl) (He.eqO_ok (at_ E 341 (b := x_341) rfl)) (at_ E 342 (b := x_342) rfl) (at_ E 343 (b := x_343) rfl) (He.eqO_ok (at_ E 344 (b := x_344) rfl)) (He.eqO_ok (at_ E 345 (b := x_345) rfl)) (He.eqO_ok (at_ E 346 (b := x_346) rfl)) (He.eqO_ok (at_ E 347 (b := x_347) rfl)) (He.eqO_ok (at_ E 348 (b := x_348) rfl)) (He.eqO_ok (at_ E 349 (b := x_349) rfl)) (He.eqO_ok (at_ E 350 (b := x_350) rfl)) (He.eqO_ok (at_ E 351 (b := x_351) rfl)) (at_ E 352 (b := x_352) rfl) lk60 cc60 (at_ E 353 (b := x_353) rfl) (He.eqO_ok (at_ E 354 (b := x_354) rfl)) (at_ E 355 (b := x_355) rfl) lk61 cc61 (at_ E 356 (b := x_356) rfl) (He.eqO_ok (at_ E 357 (b := x_357) rfl)) (at_ E 358 (b := x_358) rfl) lk62 cc62 (at_ E 359 (b := x_359) rfl) (He.eqO_ok (at_ E 360 (b := x_360) rfl)) (at_ E 361 (b := x_361) rfl) lk63 cc63 (at_ E 362 (b := x_362) rfl) (He.eqO_ok (at_ E 363 (b := x_363) rfl)) (at_ E 364 (b := x_364) rfl) lk64 cc64 (at_ E 365 (b := x_365) rfl) (He.eqO_ok (at_ E 366 (b := x_366) rfl)) DL0.1 DL0.2 DL0.3 (He.eqO_ok (at_ E 367 (b := x_367) rfl)) DL1.1 DL1.2 DL1.3 hk368 hk369 hk370 hk371 hk372 hk373 hk374 hk375 hk376 hk377 hk378 hk379 (He.eqO_ok (at_ E 380 (b := x_380) rfl)) (He.eqO_ok (at_ E 381 (b := x_381) rfl)) (He.eqO_ok (at_ E 382 (b := x_382) rfl)) (He.eqO_ok (at_ E 383 (b := x_383) rfl)) (He.eqO_ok (at_ E 384 (b := x_384) rfl)) (He.eqO_ok (at_ E 385 (b := x_385) rfl)) (He.eqO_ok (at_ E 386 (b := x_386) rfl)) (He.eqO_ok (at_ E 387 (b := x_387) rfl))
end
end Ff
set_option maxHeartbeats 0
namespace Ff
open PySem PySem.Spec PyProof.Rows L2
def nm0 : List Str := ["_wall", "ForestError", "Missing", "BadParent", "Cycle", "TooManyNodes", "NotRoot", "SameRoot", "SizesDiffer", "RootsDiffer", "NoWay", "BadStep", "BadCount", "TooLong", "BadName", "NameTaken", "TooManyForests", "BadCommand", "NoNode", "NoForest", "MAX_NODES", "leads_to_root", "check_forest", "is_forest", "single_nodes", "check_number", "check_node", "path_of", "root_of", "is_above"]
def nm1 : List Str := ["roots_of", "find", "find_all", "check_root", "link", "unite", "MAX_STEPS", "MAX_NESTING", "COUNT_LIMIT", "is_find", "has_form", "is_link", "is_round", "may_stand", "check_steps", "check_history", "lower_finds", "run_round", "run_steps", "run_history", "check_sizes", "check_roots", "changed_nodes", "barring_nodes", "find_bar", "needed_finds", "is_needed", "flattened", "flattening_finds", "MAX_FORESTS"]
def nm2 : List Str := ["MAX_LETTERS", "LENGTHS", "is_name", "forest_in", "check_new_name", "do_new", "do_drop", "do_copy", "do_swap", "do_find", "do_link", "do_unite", "do_run", "do_flatten", "do_grow", "ACTIONS", "check_command", "do_command", "count_nodes", "Store", "_law_start", "_law_take", "_law_of", "_law_same"]
def names_ : List Str := nm0 ++ nm1 ++ nm2
abbrev R_ : PySem.W.OpenRow := PySem.W.OpenLaw.row PySem.Challenge.rw_findforests_k60_whole_unions_keep_the_se
abbrev hk_ : PySem.W.Hook := He.hookM 1400 fn_ ts_ tf_ ex_
def ob_ (s : PySem.W.SharedT) : He.AlX := He.obsM 1400 fn_ ts_ tf_ ex_ (HandSHeadRun.getT s)
theorem ob_eq_ (s : PySem.W.SharedT) : ob_ s = hk_.obs s.abs := He.obsM_eq (HandSHeadRun.getT_eq s)
def Pw_ (w : World) : Prop := HandSHeadRun.RunEq R_ (PySem.W.view R_.prog [91]) hk_ ob_ 12000 names_ w
def PA_ (w : World) : Prop := He.RunA R_ (PySem.W.view R_.prog [91]) 12000 names_ w
def PB_ (w : World) : Prop := He.RunB R_ 1400 fn_ ts_ 12000 w
def PC_ (w : World) : Prop := He.RunC R_ 1400 tf_ ex_ 12000 w
theorem runA_0 (w : World) : PA_ ((w).withFollow "special-get-raises" false) := by
  intro os
  kernel_rfl
theorem runA_1 (w : World) : PA_ ((w).withFollow "special-get-raises" true) := by
  intro os
  kernel_rfl
theorem runA_ (w : World) : PA_ w := PySem.W.byRow2 "special-get-raises" runA_0 runA_1 w
theorem runB_0 (w : World) : PB_ ((w).withFollow "special-get-raises" false) := by
  intro os
  kernel_rfl
theorem runB_1 (w : World) : PB_ ((w).withFollow "special-get-raises" true) := by
  intro os
  kernel_rfl
theorem runB_ (w : World) : PB_ w := PySem.W.byRow2 "special-get-raises" runB_0 runB_1 w
theorem runC_0 (w : World) : PC_ ((w).withFollow "special-get-raises" false) := by
  intro os
  kernel_rfl
theorem runC_1 (w : World) : PC_ ((w).withFollow "special-get-raises" true) := by
  intro os
  kernel_rfl
theorem runC_ (w : World) : PC_ w := PySem.W.byRow2 "special-get-raises" runC_0 runC_1 w
theorem run_ (w : World) : Pw_ w := He.run_of (runA_ w) (runB_ w) (runC_ w)
end Ff
open PySem PySem.W PySem.Calls PyProof.Rows
theorem PySem.Challenge.cw_findforests_k60_whole_unions_keep_the_se_holds : PySem.Challenge.rw_findforests_k60_whole_unions_keep_the_se.Holds := by
  w_on; o_law
  refine HandSHeadRun.head_any (r := OpenLaw.row PySem.Challenge.rw_findforests_k60_whole_unions_keep_the_se) (q := view (OpenLaw.row PySem.Challenge.rw_findforests_k60_whole_unions_keep_the_se).prog [91]) (H := Ff.hk_) (ob := Ff.ob_) (M := 12000) (loose := Ff.names_) (d := HandSHeadRun.topDef (OpenLaw.row PySem.Challenge.rw_findforests_k60_whole_unions_keep_the_se).prog 91) (kwd := []) Ff.ob_eq_
    (by kernel_rfl) (fun s => by kernel_rfl) Ff.run_ (by kernel_rfl) (by kernel_rfl) (by kernel_rfl) (by rfl) (by first | assumption | decide +kernel) (by decide +kernel) ⟨rfl, rfl, rfl, rfl, rfl, by decide +kernel⟩ ?hw ?hc
  case hw => w_witness2
  case hc =>
    refine L2.walk_ofE (l := PySem.Challenge.rw_findforests_k60_whole_unions_keep_the_se) (n := 63) (k := 24) (x := "_law_script") (CX := L2.CX0) rfl (by decide) (by kernel_rfl) ⟨rfl, by decide, by decide⟩ ?F (fun _ _ _ _ z => z)
    intro w mg fa h Y G hmg0
    obtain ⟨K, KX, c⟩ := Y
    have hmg : mg ("law" : PySem.Str) = some (.ref fa) := by
      have e : (HandSHeadRun.topDef (OpenLaw.row PySem.Challenge.rw_findforests_k60_whole_unions_keep_the_se).prog 91).name = ("law" : PySem.Str) := by kernel_rfl
      rw [← e]
      exact hmg0
    obtain ⟨fd, hb, hF⟩ := Ff.facts (l := PySem.Challenge.rw_findforests_k60_whole_unions_keep_the_se) (w := w) KX G hmg c
    exact ⟨K, fd, Ff.spLaw K, KX, hb, fun H a ns hl _ hS => ⟨a, ns, rfl, hS, hl, fun _ => rfl⟩, hF⟩

