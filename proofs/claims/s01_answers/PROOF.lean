import PyProof.Rows.All
import Wide.All
import OpenK.AllK
import Wide.FinOn
import Open.SpecLaws
import KE.OsGo
import HandS.ForSpec
import HandS.Rev
import HandS.Wide
import HandS.Comp
import HandS.Iter
import HandS.SetFor
import HandS.Flow
import HandS.Zip
import HandS.Walk
import PySem.Challenge.RW_hungmobile_s01_answers
set_option Elab.async false
set_option maxRecDepth 100000
set_option maxHeartbeats 2000000
set_option autoImplicit false
/-! Mobiles as lists of rods: the mathematics, without the library. -/
namespace HM
open Sy65 (Tree)

/-- a rod: its arms; its hooks: at the left end from f to ahead of m, at the right end from m to ahead of b -/
structure Rd where
  l : Nat
  r : Nat
  f : Nat
  m : Nat
  b : Nat
  deriving DecidableEq
def rodsOf : Nat → Tree → List Rd
  | _, .hook => []
  | f, .rod l r a b => ⟨l, r, f, f + Sy65.hooks a, f + Sy65.hooks a + Sy65.hooks b⟩ :: (rodsOf f a ++ rodsOf (f + Sy65.hooks a) b)
def okArms (l r : Nat) : Bool := decide (1 ≤ l ∧ l ≤ 20 ∧ 1 ≤ r ∧ r ≤ 20)
theorem okArms_iff {l r : Nat} : okArms l r = true ↔ (1 ≤ l ∧ l ≤ 20 ∧ 1 ≤ r ∧ r ≤ 20) := by
  unfold okArms
  exact decide_eq_true_iff
def Good : Tree → Prop
  | .hook => True
  | .rod l r a b => okArms l r = true ∧ Good a ∧ Good b
theorem hooks_pos : ∀ t : Tree, 1 ≤ Sy65.hooks t
  | .hook => Nat.le_refl 1
  | .rod _ _ a b => by
    have := hooks_pos a
    unfold Sy65.hooks
    omega
theorem hooks_rods : ∀ t : Tree, Sy65.hooks t = Sy65.rods t + 1
  | .hook => rfl
  | .rod _ _ a b => by
    have := hooks_rods a
    have := hooks_rods b
    unfold Sy65.hooks Sy65.rods
    omega
theorem rodsOf_length : ∀ (t : Tree) (f : Nat), (rodsOf f t).length = Sy65.rods t
  | .hook, _ => rfl
  | .rod _ _ a b, f => by
    show (rodsOf f a ++ rodsOf (f + Sy65.hooks a) b).length + 1 = Sy65.rods a + Sy65.rods b + 1
    rw [List.length_append, rodsOf_length a, rodsOf_length b]
/-- each rod's hooks lie where the tree's do -/
def Within (lo hi : Nat) (p : Rd) : Prop := lo ≤ p.f ∧ p.f < p.m ∧ p.m < p.b ∧ p.b ≤ hi
theorem rodsOf_within : ∀ (t : Tree) (f : Nat), ∀ p ∈ rodsOf f t, Within f (f + Sy65.hooks t) p
  | .hook, f, p, h => by cases h
  | .rod l r a b, f, p, h => by
    have ha := hooks_pos a
    have hb := hooks_pos b
    have h' : p = ⟨l, r, f, f + Sy65.hooks a, f + Sy65.hooks a + Sy65.hooks b⟩ ∨ (p ∈ rodsOf f a ∨ p ∈ rodsOf (f + Sy65.hooks a) b) := by
      rcases List.mem_cons.mp h with h | h
      · exact .inl h
      · exact .inr (List.mem_append.mp h)
    show Within f (f + (Sy65.hooks a + Sy65.hooks b)) p
    rcases h' with h | h | h
    · subst h
      unfold Within
      dsimp only
      omega
    · have := rodsOf_within a f p h
      unfold Within at this ⊢
      omega
    · have := rodsOf_within b _ p h
      unfold Within at this ⊢
      omega
theorem rodsOf_good : ∀ (t : Tree) (f : Nat), Good t → ∀ p ∈ rodsOf f t, okArms p.l p.r = true
  | .hook, f, _, p, h => by cases h
  | .rod l r a b, f, g, p, h => by
    obtain ⟨g1, g2, g3⟩ := g
    rcases List.mem_cons.mp h with h | h
    · subst h
      exact g1
    · rcases List.mem_append.mp h with h | h
      · exact rodsOf_good a f g2 p h
      · exact rodsOf_good b _ g3 p h
/-! ### what stands from one place to another -/
def seg (lo hi : Nat) (w : List Nat) : List Nat := (w.drop lo).take (hi - lo)
theorem seg_mid {pre x post : List Nat} {lo hi : Nat} (h1 : pre.length = lo) (h2 : lo + x.length = hi) : seg lo hi (pre ++ x ++ post) = x := by
  subst h1
  unfold seg
  rw [List.append_assoc, List.drop_left]
  have : hi - pre.length = x.length := by omega
  rw [this, List.take_left]
/-- what pulls on a rod's either end -/
def pullL (w : List Nat) (p : Rd) : Nat := p.l * (seg p.f p.m w).sum
def pullR (w : List Nat) (p : Rd) : Nat := p.r * (seg p.m p.b w).sum
theorem pulls_rods : ∀ (t : Tree) (f : Nat) (pre w post : List Nat), w.length = Sy65.hooks t → pre.length = f →
    Sy65.pulls t w = (rodsOf f t).map fun p => (pullL (pre ++ w ++ post) p, pullR (pre ++ w ++ post) p)
  | .hook, _, _, _, _, _, _ => rfl
  | .rod l r a b, f, pre, w, post, hw, hp => by
    have hw' : w.length = Sy65.hooks a + Sy65.hooks b := hw
    have e : w = w.take (Sy65.hooks a) ++ w.drop (Sy65.hooks a) := (List.take_append_drop _ _).symm
    have hx : (w.take (Sy65.hooks a)).length = Sy65.hooks a := by rw [List.length_take]; omega
    have hy : (w.drop (Sy65.hooks a)).length = Sy65.hooks b := by rw [List.length_drop]; omega
    generalize w.take (Sy65.hooks a) = x at e hx
    generalize w.drop (Sy65.hooks a) = y at e hy
    subst e
    have e1 : pre ++ (x ++ y) ++ post = pre ++ x ++ (y ++ post) := by simp only [List.append_assoc]
    have e2 : pre ++ (x ++ y) ++ post = (pre ++ x) ++ y ++ post := by simp only [List.append_assoc]
    have ht : (x ++ y).take (Sy65.hooks a) = x := by rw [← hx, List.take_left]
    have hd : (x ++ y).drop (Sy65.hooks a) = y := by rw [← hx, List.drop_left]
    have i1 := pulls_rods a f pre x (y ++ post) hx hp
    have i2 := pulls_rods b (f + Sy65.hooks a) (pre ++ x) y post hy (by rw [List.length_append, hp, hx])
    show (l * Sy65.heavy ((x ++ y).take (Sy65.hooks a)), r * Sy65.heavy ((x ++ y).drop (Sy65.hooks a))) :: (Sy65.pulls a ((x ++ y).take (Sy65.hooks a)) ++ Sy65.pulls b ((x ++ y).drop (Sy65.hooks a))) = _
    rw [ht, hd, i1, i2]
    show _ = (pullL (pre ++ (x ++ y) ++ post) ⟨l, r, f, f + Sy65.hooks a, f + Sy65.hooks a + Sy65.hooks b⟩, pullR (pre ++ (x ++ y) ++ post) ⟨l, r, f, f + Sy65.hooks a, f + Sy65.hooks a + Sy65.hooks b⟩) :: (rodsOf f a ++ rodsOf (f + Sy65.hooks a) b).map _
    rw [List.map_append]
    congr 1
    · unfold pullL pullR
      dsimp only
      congr 2
      · rw [e1, seg_mid hp (by rw [hx])]
        rfl
      · rw [e2, seg_mid (by rw [List.length_append, hp, hx]) (by rw [hy])]
        rfl
    · rw [← e1, ← e2]
theorem pulls_is (t : Tree) (w : List Nat) (h : w.length = Sy65.hooks t) : Sy65.pulls t w = (rodsOf 0 t).map fun p => (pullL w p, pullR w p) := by
  have := pulls_rods t 0 [] w [] h rfl
  simpa using this
/-- the shortest arms that what hangs wants -/
def armsL (w : List Nat) (p : Rd) : Nat := (seg p.m p.b w).sum / Nat.gcd (seg p.f p.m w).sum (seg p.m p.b w).sum
def armsR (w : List Nat) (p : Rd) : Nat := (seg p.f p.m w).sum / Nat.gcd (seg p.f p.m w).sum (seg p.m p.b w).sum
theorem arms_rods : ∀ (t : Tree) (f : Nat) (pre w post : List Nat), w.length = Sy65.hooks t → pre.length = f →
    Sy65.arms t w = (rodsOf f t).map fun p => (armsL (pre ++ w ++ post) p, armsR (pre ++ w ++ post) p)
  | .hook, _, _, _, _, _, _ => rfl
  | .rod l r a b, f, pre, w, post, hw, hp => by
    have hw' : w.length = Sy65.hooks a + Sy65.hooks b := hw
    have e : w = w.take (Sy65.hooks a) ++ w.drop (Sy65.hooks a) := (List.take_append_drop _ _).symm
    have hx : (w.take (Sy65.hooks a)).length = Sy65.hooks a := by rw [List.length_take]; omega
    have hy : (w.drop (Sy65.hooks a)).length = Sy65.hooks b := by rw [List.length_drop]; omega
    generalize w.take (Sy65.hooks a) = x at e hx
    generalize w.drop (Sy65.hooks a) = y at e hy
    subst e
    have e1 : pre ++ (x ++ y) ++ post = pre ++ x ++ (y ++ post) := by simp only [List.append_assoc]
    have e2 : pre ++ (x ++ y) ++ post = (pre ++ x) ++ y ++ post := by simp only [List.append_assoc]
    have ht : (x ++ y).take (Sy65.hooks a) = x := by rw [← hx, List.take_left]
    have hd : (x ++ y).drop (Sy65.hooks a) = y := by rw [← hx, List.drop_left]
    have i1 := arms_rods a f pre x (y ++ post) hx hp
    have i2 := arms_rods b (f + Sy65.hooks a) (pre ++ x) y post hy (by rw [List.length_append, hp, hx])
    show (Sy65.heavy ((x ++ y).drop (Sy65.hooks a)) / Nat.gcd (Sy65.heavy ((x ++ y).take (Sy65.hooks a))) (Sy65.heavy ((x ++ y).drop (Sy65.hooks a))), Sy65.heavy ((x ++ y).take (Sy65.hooks a)) / Nat.gcd (Sy65.heavy ((x ++ y).take (Sy65.hooks a))) (Sy65.heavy ((x ++ y).drop (Sy65.hooks a)))) :: (Sy65.arms a ((x ++ y).take (Sy65.hooks a)) ++ Sy65.arms b ((x ++ y).drop (Sy65.hooks a))) = _
    rw [ht, hd, i1, i2]
    show _ = (armsL (pre ++ (x ++ y) ++ post) ⟨l, r, f, f + Sy65.hooks a, f + Sy65.hooks a + Sy65.hooks b⟩, armsR (pre ++ (x ++ y) ++ post) ⟨l, r, f, f + Sy65.hooks a, f + Sy65.hooks a + Sy65.hooks b⟩) :: (rodsOf f a ++ rodsOf (f + Sy65.hooks a) b).map _
    rw [List.map_append]
    have s1 : seg f (f + Sy65.hooks a) (pre ++ (x ++ y) ++ post) = x := by rw [e1, seg_mid hp (by rw [hx])]
    have s2 : seg (f + Sy65.hooks a) (f + Sy65.hooks a + Sy65.hooks b) (pre ++ (x ++ y) ++ post) = y := by rw [e2, seg_mid (by rw [List.length_append, hp, hx]) (by rw [hy])]
    congr 1
    · unfold armsL armsR
      dsimp only
      rw [s1, s2]
      rfl
    · rw [← e1, ← e2]
theorem arms_is (t : Tree) (w : List Nat) (h : w.length = Sy65.hooks t) : Sy65.arms t w = (rodsOf 0 t).map fun p => (armsL w p, armsR w p) := by
  have := arms_rods t 0 [] w [] h rfl
  simpa using this
end HM
namespace HM
open Sy65 (Tree)
/-! ### the least weights, from the last rod to the first -/
/-- the weights from lo to ahead of hi so many times -/
def mulR (lo hi c : Nat) (w : List Nat) : List Nat := w.mapIdx fun i x => if lo ≤ i ∧ i < hi then x * c else x
theorem mulR_length (lo hi c : Nat) (w : List Nat) : (mulR lo hi c w).length = w.length := by
  unfold mulR
  rw [List.length_mapIdx]
theorem mulR_get {lo hi c : Nat} {w : List Nat} {i : Nat} : (mulR lo hi c w)[i]? = w[i]?.map fun x => if lo ≤ i ∧ i < hi then x * c else x := by
  unfold mulR
  rw [List.getElem?_mapIdx]
theorem mulR_none (lo c : Nat) (w : List Nat) : mulR lo lo c w = w := by
  apply List.ext_getElem?
  intro i
  rw [mulR_get]
  have : ¬ (lo ≤ i ∧ i < lo) := by omega
  simp only [this, if_false]
  cases w[i]? <;> rfl
/-- one turn of the loop -/
theorem mulR_step {lo c : Nat} {w : List Nat} {j x : Nat} (h : w[lo + j]? = some x) :
    (mulR lo (lo + j) c w)[lo + j]? = some x ∧ (mulR lo (lo + j) c w).set (lo + j) (x * c) = mulR lo (lo + j + 1) c w := by
  refine ⟨?_, ?_⟩
  · rw [mulR_get, h]
    have : ¬ (lo ≤ lo + j ∧ lo + j < lo + j) := by omega
    simp only [Option.map_some, this, if_false]
  · apply List.ext_getElem?
    intro i
    rw [List.getElem?_set, mulR_get, mulR_get, mulR_length]
    by_cases e : lo + j = i
    · subst e
      have hl : lo + j < w.length := by
        rcases Nat.lt_or_ge (lo + j) w.length with q | q
        · exact q
        · rw [List.getElem?_eq_none q] at h
          cases h
      have : lo ≤ lo + j ∧ lo + j < lo + j + 1 := by omega
      rw [if_pos rfl, if_pos hl, h]
      simp only [Option.map_some, this, and_self, if_true]
    · rw [if_neg e]
      by_cases q : lo ≤ i ∧ i < lo + j
      · have q' : lo ≤ i ∧ i < lo + j + 1 := by omega
        simp only [q, q', and_self, if_true]
      · have q' : ¬ (lo ≤ i ∧ i < lo + j + 1) := by omega
        simp only [q, q', if_false]
theorem mulR_mid {pre x post : List Nat} {lo hi c : Nat} (h1 : pre.length = lo) (h2 : lo + x.length = hi) : mulR lo hi c (pre ++ x ++ post) = pre ++ x.map (fun n => n * c) ++ post := by
  apply List.ext_getElem?
  intro i
  rw [mulR_get]
  rcases Nat.lt_or_ge i lo with q | q
  · have : ¬ (lo ≤ i ∧ i < hi) := by omega
    simp only [this, if_false]
    rw [List.getElem?_append_left (by rw [List.length_append]; omega), List.getElem?_append_left (by omega), List.getElem?_append_left (by rw [List.length_append]; omega), List.getElem?_append_left (by omega)]
    cases pre[i]? <;> rfl
  · rcases Nat.lt_or_ge i hi with q' | q'
    · have : lo ≤ i ∧ i < hi := ⟨q, q'⟩
      simp only [this, and_self, if_true]
      rw [List.getElem?_append_left (by rw [List.length_append]; omega), List.getElem?_append_right (by omega), List.getElem?_append_left (by rw [List.length_append, List.length_map]; omega), List.getElem?_append_right (by omega), List.getElem?_map]
    · have : ¬ (lo ≤ i ∧ i < hi) := by omega
      simp only [this, if_false]
      rw [List.getElem?_append_right (by rw [List.length_append]; omega), List.getElem?_append_right (by rw [List.length_append, List.length_map]; omega), List.length_append, List.length_append, List.length_map]
      cases post[i - (pre.length + x.length)]? <;> rfl
/-- one rod -/
def stepRod (p : Rd) (w : List Nat) : List Nat :=
  mulR p.m p.b (pullL w p / Nat.gcd (pullL w p) (pullR w p)) (mulR p.f p.m (pullR w p / Nat.gcd (pullL w p) (pullR w p)) w)
theorem stepRod_length (p : Rd) (w : List Nat) : (stepRod p w).length = w.length := by
  unfold stepRod
  rw [mulR_length, mulR_length]
theorem least_length : ∀ t : Tree, (Sy65.least t).length = Sy65.hooks t
  | .hook => rfl
  | .rod l r a b => by
    unfold Sy65.least Sy65.hooks
    dsimp only
    unfold Sy65.times
    rw [List.length_append, List.length_map, List.length_map, least_length a, least_length b]
theorem times_mul (c : Nat) (x : List Nat) : x.map (fun n => n * c) = Sy65.times c x := by
  unfold Sy65.times
  apply List.map_congr_left
  intro a _
  exact Nat.mul_comm a c
theorem least_rods : ∀ (t : Tree) (f : Nat) (pre post : List Nat), pre.length = f →
    (rodsOf f t).foldr stepRod (pre ++ List.replicate (Sy65.hooks t) 1 ++ post) = pre ++ Sy65.least t ++ post
  | .hook, _, _, _, _ => rfl
  | .rod l r a b, f, pre, post, hp => by
    have e0 : List.replicate (Sy65.hooks (.rod l r a b)) 1 = List.replicate (Sy65.hooks a) 1 ++ List.replicate (Sy65.hooks b) 1 := by
      show List.replicate (Sy65.hooks a + Sy65.hooks b) 1 = _
      rw [List.replicate_append_replicate]
    have i2 := least_rods b (f + Sy65.hooks a) (pre ++ List.replicate (Sy65.hooks a) 1) post (by rw [List.length_append, hp, List.length_replicate])
    have i1 := least_rods a f pre (Sy65.least b ++ post) hp
    have e1 : pre ++ (List.replicate (Sy65.hooks a) 1 ++ List.replicate (Sy65.hooks b) 1) ++ post = pre ++ List.replicate (Sy65.hooks a) 1 ++ List.replicate (Sy65.hooks b) 1 ++ post := by simp only [List.append_assoc]
    have e2 : pre ++ List.replicate (Sy65.hooks a) 1 ++ Sy65.least b ++ post = pre ++ List.replicate (Sy65.hooks a) 1 ++ (Sy65.least b ++ post) := by simp only [List.append_assoc]
    rw [e0]
    show stepRod ⟨l, r, f, f + Sy65.hooks a, f + Sy65.hooks a + Sy65.hooks b⟩ ((rodsOf f a ++ rodsOf (f + Sy65.hooks a) b).foldr stepRod _) = _
    rw [List.foldr_append, e1, i2, e2, i1]
    have la := least_length a
    have lb := least_length b
    have s1 : seg f (f + Sy65.hooks a) (pre ++ Sy65.least a ++ (Sy65.least b ++ post)) = Sy65.least a := seg_mid hp (by rw [la])
    have s2 : seg (f + Sy65.hooks a) (f + Sy65.hooks a + Sy65.hooks b) (pre ++ Sy65.least a ++ (Sy65.least b ++ post)) = Sy65.least b := by
      rw [show pre ++ Sy65.least a ++ (Sy65.least b ++ post) = (pre ++ Sy65.least a) ++ Sy65.least b ++ post by simp only [List.append_assoc]]
      exact seg_mid (by rw [List.length_append, hp, la]) (by rw [lb])
    unfold stepRod pullL pullR
    dsimp only
    rw [s1, s2, mulR_mid hp (by rw [la])]
    rw [show ∀ c : Nat, pre ++ (Sy65.least a).map (fun n => n * c) ++ (Sy65.least b ++ post) = (pre ++ (Sy65.least a).map (fun n => n * c)) ++ Sy65.least b ++ post from fun c => by simp only [List.append_assoc]]
    rw [mulR_mid (by rw [List.length_append, List.length_map, hp, la]) (by rw [lb]), times_mul, times_mul]
    show _ = pre ++ (Sy65.times _ (Sy65.least a) ++ Sy65.times _ (Sy65.least b)) ++ post
    simp only [List.append_assoc]
    rfl
theorem least_is (t : Tree) : (rodsOf 0 t).foldr stepRod (List.replicate (Sy65.hooks t) 1) = Sy65.least t := by
  have := least_rods t 0 [] [] rfl
  simpa using this
/-! ### bounds -/
theorem sum_times (n : Nat) : ∀ l : List Nat, (Sy65.times n l).sum = n * l.sum
  | [] => by simp [Sy65.times]
  | x :: l => by
    have := sum_times n l
    unfold Sy65.times at this ⊢
    rw [List.map_cons, List.sum_cons, List.sum_cons, this, Nat.mul_add]
theorem le_sum : ∀ {l : List Nat} {x : Nat}, x ∈ l → x ≤ l.sum
  | y :: l, x, h => by
    rw [List.sum_cons]
    rcases List.mem_cons.mp h with h | h
    · omega
    · have := le_sum h
      omega
theorem least_pos : ∀ t : Tree, Good t → (∀ x ∈ Sy65.least t, 1 ≤ x) ∧ 1 ≤ (Sy65.least t).sum
  | .hook, _ => by
    refine ⟨fun x h => ?_, by decide⟩
    have : x = 1 := by simpa [Sy65.least] using h
    omega
  | .rod l r a b, g => by
    obtain ⟨g1, g2, g3⟩ := g
    obtain ⟨pa, sa⟩ := least_pos a g2
    obtain ⟨pb, sb⟩ := least_pos b g3
    obtain ⟨h1, h2, h3, h4⟩ := okArms_iff.mp g1
    have hp : 0 < l * (Sy65.least a).sum := Nat.mul_pos h1 sa
    have hq : 0 < r * (Sy65.least b).sum := Nat.mul_pos h3 sb
    have hg := Nat.gcd_pos_of_pos_left (r * (Sy65.least b).sum) hp
    have c1 : 0 < r * (Sy65.least b).sum / Nat.gcd (l * (Sy65.least a).sum) (r * (Sy65.least b).sum) := Nat.div_pos (Nat.gcd_le_right _ hq) hg
    have c2 : 0 < l * (Sy65.least a).sum / Nat.gcd (l * (Sy65.least a).sum) (r * (Sy65.least b).sum) := Nat.div_pos (Nat.gcd_le_left _ hp) hg
    have all : ∀ x ∈ Sy65.least (.rod l r a b), 1 ≤ x := by
      intro x hx
      have hx' : x ∈ Sy65.times (r * (Sy65.least b).sum / Nat.gcd (l * (Sy65.least a).sum) (r * (Sy65.least b).sum)) (Sy65.least a) ++ Sy65.times (l * (Sy65.least a).sum / Nat.gcd (l * (Sy65.least a).sum) (r * (Sy65.least b).sum)) (Sy65.least b) := hx
      rcases List.mem_append.mp hx' with h | h
      · obtain ⟨y, hy, e⟩ := List.mem_map.mp h
        have := Nat.mul_pos c1 (pa y hy)
        omega
      · obtain ⟨y, hy, e⟩ := List.mem_map.mp h
        have := Nat.mul_pos c2 (pb y hy)
        omega
    refine ⟨all, ?_⟩
    have hl : (Sy65.least (.rod l r a b)).length = _ := least_length _
    have := hooks_pos (.rod l r a b)
    generalize Sy65.least (.rod l r a b) = w at *
    cases w with
    | nil => simp at hl; omega
    | cons x w =>
      have := all x (by simp)
      rw [List.sum_cons]
      omega
/-- a mobile's least weights are no more than 40 for each rod -/
theorem least_sum_le : ∀ t : Tree, Good t → (Sy65.least t).sum ≤ 40 ^ Sy65.rods t
  | .hook, _ => by decide
  | .rod l r a b, g => by
    obtain ⟨g1, g2, g3⟩ := g
    have ia := least_sum_le a g2
    have ib := least_sum_le b g3
    obtain ⟨h1, h2, h3, h4⟩ := okArms_iff.mp g1
    show (Sy65.times (r * (Sy65.least b).sum / Nat.gcd (l * (Sy65.least a).sum) (r * (Sy65.least b).sum)) (Sy65.least a) ++ Sy65.times (l * (Sy65.least a).sum / Nat.gcd (l * (Sy65.least a).sum) (r * (Sy65.least b).sum)) (Sy65.least b)).sum ≤ 40 ^ (Sy65.rods a + Sy65.rods b + 1)
    rw [List.sum_append, sum_times, sum_times]
    have q1 := Nat.div_le_self (r * (Sy65.least b).sum) (Nat.gcd (l * (Sy65.least a).sum) (r * (Sy65.least b).sum))
    have q2 := Nat.div_le_self (l * (Sy65.least a).sum) (Nat.gcd (l * (Sy65.least a).sum) (r * (Sy65.least b).sum))
    generalize Nat.gcd (l * (Sy65.least a).sum) (r * (Sy65.least b).sum) = d at *
    generalize (Sy65.least a).sum = x at *
    generalize (Sy65.least b).sum = y at *
    have e1 : r * y / d * x ≤ 20 * (x * y) := by
      refine Nat.le_trans (Nat.mul_le_mul_right x q1) ?_
      rw [Nat.mul_assoc, Nat.mul_comm y x]
      exact Nat.mul_le_mul_right _ h4
    have e2 : l * x / d * y ≤ 20 * (x * y) := by
      refine Nat.le_trans (Nat.mul_le_mul_right y q2) ?_
      rw [Nat.mul_assoc]
      exact Nat.mul_le_mul_right _ h2
    have e3 : x * y ≤ 40 ^ Sy65.rods a * 40 ^ Sy65.rods b := Nat.mul_le_mul ia ib
    rw [Nat.pow_succ, Nat.pow_add]
    omega
theorem least_bound {t : Tree} (g : Good t) (h : Sy65.hooks t ≤ 7) : (Sy65.least t).sum ≤ 4096000000 := by
  have e := hooks_rods t
  have := least_sum_le t g
  have q : 40 ^ Sy65.rods t ≤ 40 ^ 6 := Nat.pow_le_pow_right (by decide) (by omega)
  have : 40 ^ 6 = 4096000000 := by decide
  omega
end HM
namespace HM
open Sy65 (Tree)
/-! ### a mobile's numbers -/
theorem numbers_len : ∀ t : Tree, 1 ≤ (Sy65.numbers t).length
  | .hook => Nat.le_refl 1
  | .rod _ _ _ _ => by unfold Sy65.numbers; simp
/-- what is read is a mobile's numbers -/
theorem read_numbers : ∀ (n : Nat) (l : List Nat) (t : Tree) (r : List Nat), Sy65.read n l = some (t, r) → Good t ∧ l = Sy65.numbers t ++ r
  | 0, _, _, _, h => by cases h
  | n + 1, l, t, r, h => by
    unfold Sy65.read at h
    split at h
    · rename_i r'
      cases h
      exact ⟨trivial, rfl⟩
    · rename_i x y r' hx
      by_cases c : x < 1 ∨ 20 < x ∨ y < 1 ∨ 20 < y
      · rw [if_pos c] at h
        cases h
      · rw [if_neg c] at h
        cases e1 : Sy65.read n r' with
        | none => rw [e1] at h; cases h
        | some a =>
          rw [e1] at h
          dsimp only [Option.bind_some] at h
          cases e2 : Sy65.read n a.2 with
          | none => rw [e2] at h; cases h
          | some b =>
            rw [e2] at h
            cases h
            obtain ⟨g1, q1⟩ := read_numbers n r' a.1 a.2 e1
            obtain ⟨g2, q2⟩ := read_numbers n a.2 b.1 b.2 e2
            refine ⟨⟨okArms_iff.mpr (by omega), g1, g2⟩, ?_⟩
            show x :: y :: r' = x :: y :: (Sy65.numbers a.1 ++ Sy65.numbers b.1) ++ b.2
            rw [q1, q2]
            simp
    · cases h
theorem read_of : ∀ (t : Tree) (n : Nat) (r : List Nat), Good t → (Sy65.numbers t).length ≤ n → Sy65.read n (Sy65.numbers t ++ r) = some (t, r)
  | .hook, 0, _, _, h => by cases h
  | .hook, n + 1, r, _, _ => rfl
  | .rod _ _ _ _, 0, _, _, h => by cases h
  | .rod l r' a b, n + 1, r, g, h => by
    obtain ⟨g1, g2, g3⟩ := g
    have h' : (Sy65.numbers a ++ Sy65.numbers b).length + 1 + 1 ≤ n + 1 := h
    rw [List.length_append] at h'
    obtain ⟨h1, h2, h3, h4⟩ := okArms_iff.mp g1
    show Sy65.read (n + 1) (l :: r' :: ((Sy65.numbers a ++ Sy65.numbers b) ++ r)) = _
    rw [List.append_assoc]
    unfold Sy65.read
    split
    · rename_i q
      cases q
      omega
    · rename_i x y s hx q
      cases q
      rw [if_neg (by omega), read_of a n _ g2 (by omega)]
      dsimp only [Option.bind_some]
      rw [read_of b n _ g3 (by omega)]
      rfl
    · rename_i q
      exact absurd rfl (q _ _ _)
theorem count_numbers : ∀ t : Tree, Good t → (Sy65.numbers t).count 0 = Sy65.hooks t
  | .hook, _ => rfl
  | .rod l r a b, g => by
    obtain ⟨g1, g2, g3⟩ := g
    obtain ⟨h1, h2, h3, h4⟩ := okArms_iff.mp g1
    show (l :: r :: (Sy65.numbers a ++ Sy65.numbers b)).count 0 = Sy65.hooks a + Sy65.hooks b
    rw [List.count_cons_of_ne (by omega), List.count_cons_of_ne (by omega), List.count_append, count_numbers a g2, count_numbers b g3]
/-! ### tells_one_mobile: so many mobiles are still wanted -/
def tells : Nat → List Nat → Bool
  | 0, l => l.isEmpty
  | _ + 1, [] => false
  | n + 1, 0 :: r => tells n r
  | _ + 1, [_] => false
  | n + 1, x :: y :: r => if okArms x y then tells (n + 2) r else false
termination_by _ l => l.length
theorem tells_zero (l : List Nat) : tells 0 l = l.isEmpty := by rw [tells]
theorem tells_nil (n : Nat) : tells (n + 1) [] = false := by rw [tells]
theorem tells_hook (n : Nat) (r : List Nat) : tells (n + 1) (0 :: r) = tells n r := by rw [tells]
theorem tells_one {n x : Nat} (h : x ≠ 0) : tells (n + 1) [x] = false := by
  rw [tells]
  exact h
theorem tells_rod {n x y : Nat} {r : List Nat} (h : x ≠ 0) : tells (n + 1) (x :: y :: r) = if okArms x y then tells (n + 2) r else false := by
  rw [tells]
  exact h
theorem tells_iff : ∀ (k : Nat) (l : List Nat), l.length ≤ k → ∀ n, tells n l = true ↔ ∃ ts : List Tree, ts.length = n ∧ (∀ t ∈ ts, Good t) ∧ l = ts.flatMap Sy65.numbers
  | k, l, hk, 0 => by
    rw [tells_zero]
    constructor
    · intro h
      exact ⟨[], rfl, (fun t ht => by cases ht), by simpa using h⟩
    · rintro ⟨ts, h1, _, h3⟩
      have : ts = [] := List.eq_nil_of_length_eq_zero h1
      subst this
      subst h3
      rfl
  | k, [], hk, n + 1 => by
    rw [tells_nil]
    constructor
    · intro h; cases h
    · rintro ⟨ts, h1, _, h3⟩
      cases ts with
      | nil => cases h1
      | cons t ts =>
        have := congrArg List.length h3
        rw [List.flatMap_cons, List.length_append] at this
        have := numbers_len t
        simp at *
        omega
  | 0, x :: l, hk, n + 1 => by simp at hk
  | k + 1, x :: l, hk, n + 1 => by
    have hl : l.length ≤ k := by simpa using hk
    by_cases hx : x = 0
    · subst hx
      rw [tells_hook, tells_iff k l hl n]
      constructor
      · rintro ⟨ts, h1, h2, h3⟩
        refine ⟨.hook :: ts, by simp [h1], ?_, ?_⟩
        · intro t ht
          rcases List.mem_cons.mp ht with rfl | ht
          · trivial
          · exact h2 t ht
        · rw [List.flatMap_cons, ← h3]
          rfl
      · rintro ⟨ts, h1, h2, h3⟩
        cases ts with
        | nil => cases h1
        | cons t ts =>
          rw [List.flatMap_cons] at h3
          cases t with
          | hook =>
            refine ⟨ts, by simpa using h1, fun t ht => h2 t (List.mem_cons_of_mem _ ht), ?_⟩
            exact (List.cons.inj h3).2
          | rod a b c d =>
            have := (h2 _ List.mem_cons_self).1
            have := okArms_iff.mp this
            have e : (0 : Nat) = a := (List.cons.inj h3).1
            omega
    · cases l with
      | nil =>
        rw [tells_one hx]
        constructor
        · intro h; cases h
        · rintro ⟨ts, h1, h2, h3⟩
          cases ts with
          | nil => cases h1
          | cons t ts =>
            rw [List.flatMap_cons] at h3
            cases t with
            | hook => exact absurd (List.cons.inj h3).1 hx
            | rod a b c d => exact absurd (List.cons.inj h3).2 (by intro q; cases q)
      | cons y r =>
        rw [tells_rod hx]
        have hr : r.length ≤ k := by simp at hl; omega
        constructor
        · intro h
          by_cases c : okArms x y = true
          · rw [if_pos c] at h
            obtain ⟨ts, h1, h2, h3⟩ := (tells_iff k r hr (n + 2)).mp h
            match ts, h1 with
            | a :: b :: ts, h1 =>
              refine ⟨.rod x y a b :: ts, by simp at h1 ⊢; omega, ?_, ?_⟩
              · intro t ht
                rcases List.mem_cons.mp ht with rfl | ht
                · exact ⟨c, h2 a (by simp), h2 b (by simp)⟩
                · exact h2 t (by simp [ht])
              · rw [h3]
                simp [List.flatMap_cons, Sy65.numbers]
          · rw [if_neg c] at h
            cases h
        · rintro ⟨ts, h1, h2, h3⟩
          cases ts with
          | nil => cases h1
          | cons t ts =>
            rw [List.flatMap_cons] at h3
            cases t with
            | hook => exact absurd (List.cons.inj h3).1 hx
            | rod a b c d =>
              obtain ⟨g1, g2, g3⟩ := h2 _ List.mem_cons_self
              have e1 : x = a := (List.cons.inj h3).1
              have e2 : y = b := (List.cons.inj (List.cons.inj h3).2).1
              have e3 := (List.cons.inj (List.cons.inj h3).2).2
              subst e1
              subst e2
              rw [if_pos g1, tells_iff k r hr (n + 2)]
              refine ⟨c :: d :: ts, by simp at h1 ⊢; omega, ?_, ?_⟩
              · intro t ht
                rcases List.mem_cons.mp ht with rfl | ht
                · exact g2
                · rcases List.mem_cons.mp ht with rfl | ht
                  · exact g3
                  · exact h2 t (List.mem_cons_of_mem _ ht)
              · rw [e3]
                simp [List.flatMap_cons]
/-- whether the numbers are those of just one mobile -/
theorem tells_numbers (l : List Nat) : tells 1 l = true ↔ ∃ t, Good t ∧ l = Sy65.numbers t := by
  rw [tells_iff l.length l (Nat.le_refl _) 1]
  constructor
  · rintro ⟨ts, h1, h2, h3⟩
    match ts, h1 with
    | [t], _ =>
      refine ⟨t, h2 t (by simp), ?_⟩
      simpa using h3
  · rintro ⟨t, g, e⟩
    exact ⟨[t], rfl, fun t' ht => by rw [List.mem_singleton.mp ht]; exact g, by simpa using e⟩
theorem read_tells {l : List Nat} (h : tells 1 l = false) (t : Tree) : Sy65.read 60 l ≠ some (t, []) := by
  intro q
  obtain ⟨g, e⟩ := read_numbers 60 l t [] q
  rw [List.append_nil] at e
  have := (tells_numbers l).mpr ⟨t, g, e⟩
  rw [h] at this
  cases this
theorem read_told {l : List Nat} (hl : l.length ≤ 60) (h : tells 1 l = true) : ∃ t, Good t ∧ l = Sy65.numbers t ∧ Sy65.read 60 l = some (t, []) := by
  obtain ⟨t, g, e⟩ := (tells_numbers l).mp h
  refine ⟨t, g, e, ?_⟩
  have := read_of t 60 [] g (by rw [← e]; exact hl)
  rw [List.append_nil] at this
  rw [e]
  exact this
/-! ### rods_told: the numbers from their end -/
/-- what the loop has: the ends (the last pushed first), the rods (the last made first), the first hook -/
structure Bk where
  ends : List Nat
  rods : List Rd
  first : Nat
def back : List Nat → Bk → Option Bk
  | [], s => some s
  | 0 :: p, s => if s.first = 0 then none else back p ⟨1 :: s.ends, s.rods, s.first - 1⟩
  | [_], _ => none
  | y :: x :: p, s => match s.ends with
    | a :: b :: e => back p ⟨(a + b) :: e, ⟨x, y, s.first, s.first + a, s.first + a + b⟩ :: s.rods, s.first⟩
    | _ => none
termination_by p _ => p.length
theorem back_nil (s : Bk) : back [] s = some s := by rw [back]
theorem back_hook {p : List Nat} {s : Bk} (h : s.first ≠ 0) : back (0 :: p) s = back p ⟨1 :: s.ends, s.rods, s.first - 1⟩ := by rw [back, if_neg h]
theorem back_zero {p : List Nat} {s z : Bk} (q : back (0 :: p) s = some z) : s.first ≠ 0 ∧ back p ⟨1 :: s.ends, s.rods, s.first - 1⟩ = some z := by
  rw [back] at q
  by_cases h : s.first = 0
  · rw [if_pos h] at q
    cases q
  · rw [if_neg h] at q
    exact ⟨h, q⟩
theorem back_rod {x y a b : Nat} {p e : List Nat} {rs : List Rd} {f : Nat} (h : y ≠ 0) :
    back (y :: x :: p) ⟨a :: b :: e, rs, f⟩ = back p ⟨(a + b) :: e, ⟨x, y, f, f + a, f + a + b⟩ :: rs, f⟩ := by
  rw [back]
  exact h
/-- where the loop comes to an end, a turn at a rod finds one at hand -/
theorem back_some {y : Nat} {p : List Nat} {s z : Bk} (h : y ≠ 0) (q : back (y :: p) s = some z) :
    ∃ x p' a b e, p = x :: p' ∧ s.ends = a :: b :: e ∧ back p' ⟨(a + b) :: e, ⟨x, y, s.first, s.first + a, s.first + a + b⟩ :: s.rods, s.first⟩ = some z := by
  cases p with
  | nil =>
    rw [back] at q
    · cases q
    · exact h
  | cons x p =>
    obtain ⟨e, rs, f⟩ := s
    match e with
    | [] =>
      rw [back] at q
      · cases q
      · exact h
    | [a] =>
      rw [back] at q
      · cases q
      · exact h
    | a :: b :: e =>
      refine ⟨x, p, a, b, e, rfl, rfl, ?_⟩
      rw [back_rod h] at q
      exact q
/-- a mobile's numbers are gone through as a whole -/
theorem back_numbers : ∀ (t : Tree) (p e : List Nat) (rs : List Rd) (f : Nat), Good t →
    back ((Sy65.numbers t).reverse ++ p) ⟨e, rs, f + Sy65.hooks t⟩ = back p ⟨Sy65.hooks t :: e, rodsOf f t ++ rs, f⟩
  | .hook, p, e, rs, f, _ => by
    show back ([0] ++ p) _ = _
    rw [List.singleton_append, back_hook (by show f + Sy65.hooks .hook ≠ 0; unfold Sy65.hooks; omega)]
    rfl
  | .rod l r a b, p, e, rs, f, g => by
    obtain ⟨g1, g2, g3⟩ := g
    obtain ⟨h1, h2, h3, h4⟩ := okArms_iff.mp g1
    have e1 : (Sy65.numbers (.rod l r a b)).reverse ++ p = (Sy65.numbers b).reverse ++ ((Sy65.numbers a).reverse ++ (r :: l :: p)) := by
      show (l :: r :: (Sy65.numbers a ++ Sy65.numbers b)).reverse ++ p = _
      simp
    have e2 : f + Sy65.hooks (.rod l r a b) = (f + Sy65.hooks a) + Sy65.hooks b := by
      show f + (Sy65.hooks a + Sy65.hooks b) = _
      omega
    rw [e1, e2, back_numbers b _ _ _ _ g3, back_numbers a _ _ _ _ g2, back_rod (by omega)]
    show _ = back p ⟨(Sy65.hooks a + Sy65.hooks b) :: e, ⟨l, r, f, f + Sy65.hooks a, f + Sy65.hooks a + Sy65.hooks b⟩ :: (rodsOf f a ++ rodsOf (f + Sy65.hooks a) b) ++ rs, f⟩
    simp
theorem back_told {t : Tree} (g : Good t) : back (Sy65.numbers t).reverse ⟨[], [], Sy65.hooks t⟩ = some ⟨[Sy65.hooks t], rodsOf 0 t, 0⟩ := by
  have := back_numbers t [] [] [] 0 g
  rw [List.append_nil, Nat.zero_add, back_nil, List.append_nil] at this
  exact this
/-! ### arms: one rod's arms changed -/
theorem withArms_hooks (l r : Nat) : ∀ (t : Tree) (k : Nat), Sy65.hooks (Sy65.withArms l r k t) = Sy65.hooks t
  | .hook, k => by unfold Sy65.withArms; rfl
  | .rod x y a b, k => by
    unfold Sy65.withArms
    split
    · rfl
    · split
      · unfold Sy65.hooks
        rw [withArms_hooks l r a]
      · unfold Sy65.hooks
        rw [withArms_hooks l r b]
theorem withArms_good {l r : Nat} (h : okArms l r = true) : ∀ (t : Tree) (k : Nat), Good t → Good (Sy65.withArms l r k t)
  | .hook, k, g => by unfold Sy65.withArms; trivial
  | .rod x y a b, k, g => by
    obtain ⟨g1, g2, g3⟩ := g
    unfold Sy65.withArms
    split
    · exact ⟨h, g2, g3⟩
    · split
      · exact ⟨g1, withArms_good h a _ g2, g3⟩
      · exact ⟨g1, g2, withArms_good h b _ g3⟩
theorem modify_left {A : Type} (g : A → A) : ∀ (x y : List A) (k : Nat), k < x.length → (x ++ y).modify k g = x.modify k g ++ y
  | [], _, _, h => by cases h
  | _ :: _, _, 0, _ => rfl
  | a :: x, y, k + 1, h => by
    rw [List.cons_append, List.modify_succ_cons, List.modify_succ_cons, modify_left g x y k (by simpa using h)]
    rfl
theorem modify_right {A : Type} (g : A → A) : ∀ (x y : List A) (k : Nat), x.length ≤ k → (x ++ y).modify k g = x ++ y.modify (k - x.length) g
  | [], _, _, _ => rfl
  | a :: x, y, 0, h => by cases h
  | a :: x, y, k + 1, h => by
    rw [List.cons_append, List.modify_succ_cons, modify_right g x y k (by simpa using h), List.length_cons, Nat.add_sub_add_right]
    rfl
def setArms (l r : Nat) (p : Rd) : Rd := { p with l := l, r := r }
theorem withArms_rods (l r : Nat) : ∀ (t : Tree) (f k : Nat), rodsOf f (Sy65.withArms l r k t) = (rodsOf f t).modify k (setArms l r)
  | .hook, f, k => by
    unfold Sy65.withArms
    show [] = [].modify k _
    simp
  | .rod x y a b, f, k => by
    unfold Sy65.withArms
    split
    · rename_i h
      subst h
      rfl
    · rename_i h
      obtain ⟨j, rfl⟩ : ∃ j, k = j + 1 := ⟨k - 1, by omega⟩
      show _ = (_ :: (rodsOf f a ++ rodsOf (f + Sy65.hooks a) b)).modify (j + 1) _
      rw [List.modify_succ_cons]
      simp only [Nat.add_sub_cancel]
      split
      · rename_i q
        show (_ : Rd) :: (rodsOf f (Sy65.withArms l r j a) ++ rodsOf (f + Sy65.hooks (Sy65.withArms l r j a)) b) = _
        rw [withArms_hooks, withArms_rods l r a]
        congr 1
        exact (modify_left _ _ _ _ (by rw [rodsOf_length]; exact q)).symm
      · rename_i q
        show (_ : Rd) :: (rodsOf f a ++ rodsOf (f + Sy65.hooks a) (Sy65.withArms l r (j - Sy65.rods a) b)) = _
        rw [withArms_hooks, withArms_rods l r b]
        congr 1
        rw [modify_right _ _ _ _ (by rw [rodsOf_length]; omega), rodsOf_length]
end HM
namespace HM
/-! ### the calls, one behind another in one list -/
theorem natIn_of {n : Nat} (r : List Int) (h : n < 4294967296) : Sy65Neutral.natIn ((n : Int) :: r) = some (n, r) := by
  have c : 0 ≤ (n : Int) ∧ (n : Int) < 2 ^ 32 := by omega
  simp only [Sy65Neutral.natIn, if_pos c, Int.toNat_natCast]
theorem many_nat : ∀ (x : List Nat) (r : List Int), (∀ n ∈ x, n < 4294967296) → Sy65Neutral.many_ Sy65Neutral.natIn x.length (Sy65.ints x ++ r) = some (x, r)
  | [], r, _ => rfl
  | n :: x, r, h => by
    have hn := h n (by simp)
    have ih := many_nat x r fun m hm => h m (by simp [hm])
    have e : Sy65Neutral.natIn ((n : Int) :: (Sy65.ints x ++ r)) = some (n, Sy65.ints x ++ r) := natIn_of _ hn
    show (Sy65Neutral.natIn ((n : Int) :: (Sy65.ints x ++ r))).bind (fun y => (Sy65Neutral.many_ Sy65Neutral.natIn x.length y.2).map fun z => (y.1 :: z.1, z.2)) = _
    rw [e]
    dsimp only [Option.bind_some]
    rw [ih]
    rfl
/-- the next call of a list, and what is behind it -/
inductive Nxt : List Int → Sy65.Call → List Int → Prop
  | begins (x : List Nat) (r : List Int) (h : x.length ≤ 60) (hx : ∀ n ∈ x, n < 4294967296) : Nxt (0 :: (x.length : Int) :: (Sy65.ints x ++ r)) (.begins x) r
  | hang (a b : Nat) (r : List Int) (ha : a < 4294967296) (hb : b < 4294967296) : Nxt (1 :: (a : Int) :: (b : Int) :: r) (.hang a b) r
  | arms (a b c : Nat) (r : List Int) (ha : a < 4294967296) (hb : b < 4294967296) (hc : c < 4294967296) : Nxt (2 :: (a : Int) :: (b : Int) :: (c : Int) :: r) (.arms_ a b c) r
  | pulls (r : List Int) : Nxt (3 :: r) .pulls r
  | least (r : List Int) : Nxt (4 :: r) .least r
  | scale (a : Nat) (r : List Int) (ha : a < 4294967296) : Nxt (5 :: (a : Int) :: r) (.scale a) r
  | up (r : List Int) : Nxt (6 :: r) .madeUp r
  | mend (r : List Int) : Nxt (7 :: r) .mend r
  | wants (r : List Int) : Nxt (8 :: r) .wants r
  | ways (k : Nat) (x : List Nat) (r : List Int) (hk : k < 4294967296) (h : x.length ≤ 60) (hx : ∀ n ∈ x, n < 4294967296) : Nxt (9 :: (k : Int) :: (x.length : Int) :: (Sy65.ints x ++ r)) (.ways k x) r
  | missing (a : Nat) (r : List Int) (ha : a < 4294967296) : Nxt (10 :: (a : Int) :: r) (.missing a) r
  | state (r : List Int) : Nxt (11 :: r) .state r
inductive Asks : List Int → List Sy65.Call → Prop
  | nil : Asks [] []
  | cons {l r : List Int} {c : Sy65.Call} {cs : List Sy65.Call} : Nxt l c r → Asks r cs → Asks l (c :: cs)
theorem within_nat {x : Int} (h : PyInside.within 0 4294967295 x = true) : ∃ n : Nat, x = (n : Int) ∧ n < 4294967296 := by
  unfold PyInside.within at h
  rw [Bool.and_eq_true, decide_eq_true_iff, decide_eq_true_iff] at h
  exact ⟨x.toNat, by omega, by omega⟩
theorem row_nat : ∀ {x : List Int}, x.all (PyInside.within 0 4294967295) = true → ∃ y : List Nat, x = Sy65.ints y ∧ ∀ n ∈ y, n < 4294967296
  | [], _ => ⟨[], rfl, fun n h => by cases h⟩
  | a :: x, h => by
    rw [List.all_cons, Bool.and_eq_true] at h
    obtain ⟨n, rfl, hn⟩ := within_nat h.1
    obtain ⟨y, rfl, hy⟩ := row_nat h.2
    refine ⟨n :: y, rfl, fun m hm => ?_⟩
    rcases List.mem_cons.mp hm with rfl | hm
    · exact hn
    · exact hy m hm
theorem rowIn_of {x : List Nat} (h : x.length ≤ 60) (hx : ∀ n ∈ x, n < 4294967296) : Sy65Neutral.all_ (Sy65Neutral.rowIn ((x.length : Int) :: Sy65.ints x)) = some x := by
  have e : Sy65Neutral.rowIn ((x.length : Int) :: Sy65.ints x) = some (x, []) := by
    unfold Sy65Neutral.rowIn Sy65Neutral.listIn
    dsimp only
    rw [if_pos ⟨by omega, by omega⟩]
    have := many_nat x [] hx
    rw [List.append_nil] at this
    exact this
  rw [e]
  rfl
theorem call0 (l : List Int) : Sy65Neutral.callOf (0 :: l) = (Sy65Neutral.all_ (Sy65Neutral.rowIn l)).map fun (y : List Nat) => .begins y := rfl
theorem ints_len (x : List Nat) : (Sy65.ints x).length = x.length := by
  unfold Sy65.ints
  rw [List.length_map]
theorem some0 (l : List Int) : Sy65Neutral.some_ 0 l = some ([], l) := rfl
theorem many_step {A : Type} {p : List Int → Option (A × List Int)} {k : Nat} {l l' r : List Int} {a : A} {as : List A} (h : p l = some (a, l')) (h' : Sy65Neutral.many_ p k l' = some (as, r)) : Sy65Neutral.many_ p (k + 1) l = some (a :: as, r) := by
  show (p l).bind _ = _
  rw [h]
  show (Sy65Neutral.many_ p k l').map _ = _
  rw [h']
  rfl
theorem some1 {n : Nat} {r : List Int} (hn : n < 4294967296) : Sy65Neutral.some_ 1 ((n : Int) :: r) = some ([n], r) := many_step (natIn_of _ hn) rfl
theorem some2 {n m : Nat} {r : List Int} (hn : n < 4294967296) (hm : m < 4294967296) : Sy65Neutral.some_ 2 ((n : Int) :: (m : Int) :: r) = some ([n, m], r) := many_step (natIn_of _ hn) (some1 hm)
theorem some3 {n m k : Nat} {r : List Int} (hn : n < 4294967296) (hm : m < 4294967296) (hk : k < 4294967296) : Sy65Neutral.some_ 3 ((n : Int) :: (m : Int) :: (k : Int) :: r) = some ([n, m, k], r) := many_step (natIn_of _ hn) (some2 hm hk)
theorem call1 (l : List Int) : Sy65Neutral.callOf (1 :: l) = (Sy65Neutral.all_ (Sy65Neutral.some_ 2 l)).map fun (x : List Nat) => .hang (Sy65Neutral.g x 0) (Sy65Neutral.g x 1) := rfl
theorem call2 (l : List Int) : Sy65Neutral.callOf (2 :: l) = (Sy65Neutral.all_ (Sy65Neutral.some_ 3 l)).map fun (x : List Nat) => .arms_ (Sy65Neutral.g x 0) (Sy65Neutral.g x 1) (Sy65Neutral.g x 2) := rfl
theorem call5 (l : List Int) : Sy65Neutral.callOf (5 :: l) = (Sy65Neutral.all_ (Sy65Neutral.some_ 1 l)).map fun (x : List Nat) => .scale (Sy65Neutral.g x 0) := rfl
theorem call9 (l : List Int) : Sy65Neutral.callOf (9 :: l) = (Sy65Neutral.some_ 1 l).bind fun (x : List Nat × List Int) => (Sy65Neutral.all_ (Sy65Neutral.rowIn x.2)).map fun (y : List Nat) => .ways (Sy65Neutral.g x.1 0) y := rfl
theorem call10 (l : List Int) : Sy65Neutral.callOf (10 :: l) = (Sy65Neutral.all_ (Sy65Neutral.some_ 1 l)).map fun (x : List Nat) => .missing (Sy65Neutral.g x 0) := rfl
theorem rows_nil {s t : List Int} {xs : List (List Int)} (h : PyFlat.rows 0 s = some (xs, t)) : xs = [] ∧ s = t := by
  have h' : some (([] : List (List Int)), s) = some (xs, t) := h
  cases h'
  exact ⟨rfl, rfl⟩
theorem row_is {r x t : List Int} (h : PyFlat.row r = some (x, t)) : r = (x.length : Int) :: (x ++ t) := by
  cases r with
  | nil => cases h
  | cons n r =>
    unfold PyFlat.row at h
    dsimp only at h
    by_cases c : 0 ≤ n ∧ n.toNat ≤ r.length
    · rw [if_pos c] at h
      cases h
      rw [List.take_append_drop, List.length_take]
      congr 1
      omega
    · rw [if_neg c] at h
      cases h
theorem rows_zero {r : List Int} : PyFlat.rows 0 r = some ([], r) := rfl
theorem rows_one {r t : List Int} {xs : List (List Int)} (h : PyFlat.rows 1 r = some (xs, t)) : ∃ x, xs = [x] ∧ r = (x.length : Int) :: (x ++ t) := by
  unfold PyFlat.rows at h
  cases e : PyFlat.row r with
  | none => rw [e] at h; cases h
  | some y =>
    rw [e] at h
    obtain ⟨x, s⟩ := y
    dsimp only at h
    rw [rows_zero] at h
    cases h
    exact ⟨x, rfl, row_is e⟩
/-- a call's head: so many numbers, then its rows -/
theorem call_parts {p : Int} {r t : List Int} {c : List (List Int)} {n k : Nat} (hs : PySy65.shape p = some (n, k)) (h : PyFlat.call PySy65.shape (p :: r) = some (c, t)) :
    ∃ a s xs, r = a ++ s ∧ a.length = n ∧ PyFlat.rows k s = some (xs, t) ∧ c = (p :: a) :: xs := by
  unfold PyFlat.call at h
  dsimp only at h
  rw [hs] at h
  dsimp only at h
  by_cases q : r.length < n
  · rw [if_pos q] at h
    cases h
  · rw [if_neg q] at h
    cases e : PyFlat.rows k (r.drop n) with
    | none => rw [e] at h; cases h
    | some y =>
      rw [e] at h
      cases h
      refine ⟨r.take n, r.drop n, y.1, (List.take_append_drop n r).symm, by rw [List.length_take]; omega, e, rfl⟩
theorem no_shape {p : Int} (h : PySy65.shape p = none) {r t : List Int} {c : List (List Int)} : PyFlat.call PySy65.shape (p :: r) ≠ some (c, t) := by
  intro q
  unfold PyFlat.call at q
  dsimp only at q
  rw [h] at q
  cases q
theorem len0 {A : Type} {a : List A} (h : a.length = 0) : a = [] := List.eq_nil_of_length_eq_zero h
theorem len1 {A : Type} {a : List A} (h : a.length = 1) : ∃ x, a = [x] := by
  match a, h with
  | [x], _ => exact ⟨x, rfl⟩
theorem len2 {A : Type} {a : List A} (h : a.length = 2) : ∃ x y, a = [x, y] := by
  match a, h with
  | [x, y], _ => exact ⟨x, y, rfl⟩
theorem len3 {A : Type} {a : List A} (h : a.length = 3) : ∃ x y z, a = [x, y, z] := by
  match a, h with
  | [x, y, z], _ => exact ⟨x, y, z, rfl⟩
theorem call_is {p : Int} {r t : List Int} {c : List (List Int)} (h : PyFlat.call PySy65.shape (p :: r) = some (c, t)) (hb : PyInside.call PySy65.bound c = true) :
    ∃ C, Nxt (p :: r) C t ∧ Sy65Neutral.callOf ((PySy65.whole c).headD []) = some C := by
  by_cases h0 : p = 0
  · subst h0
    obtain ⟨a, s, xs, e, ha, hr, hc⟩ := call_parts (n := 0) (k := 1) rfl h
    cases len0 ha
    obtain ⟨x, rfl, rfl⟩ := rows_one hr
    subst e hc
    have hb' : (decide (0 ≤ x.length) && decide (x.length ≤ 60) && x.all (PyInside.within 0 4294967295) && true) = true := hb
    simp only [Bool.and_eq_true, Bool.and_true, decide_eq_true_iff] at hb'
    obtain ⟨⟨_, hl⟩, hi⟩ := hb'
    obtain ⟨y, rfl, hy⟩ := row_nat hi
    rw [ints_len] at hl ⊢
    refine ⟨.begins y, .begins y _ hl hy, ?_⟩
    show Sy65Neutral.callOf (0 :: (((Sy65.ints y).length : Nat) : Int) :: Sy65.ints y) = _
    rw [ints_len, call0, rowIn_of hl hy]
    rfl
  by_cases h1 : p = 1
  · subst h1
    obtain ⟨a, s, xs, e, ha, hr, hc⟩ := call_parts (n := 2) (k := 0) rfl h
    obtain ⟨x, y, rfl⟩ := len2 ha
    obtain ⟨rfl, rfl⟩ := rows_nil hr
    subst e hc
    have hb' : (PyInside.within 0 4294967295 x && (PyInside.within 0 4294967295 y && true) && true) = true := hb
    simp only [Bool.and_eq_true, Bool.and_true] at hb'
    obtain ⟨n, rfl, hn⟩ := within_nat hb'.1
    obtain ⟨m, rfl, hm⟩ := within_nat hb'.2
    refine ⟨.hang n m, .hang n m _ hn hm, ?_⟩
    show Sy65Neutral.callOf (1 :: [(n : Int), (m : Int)]) = _
    rw [call1, some2 hn hm]
    rfl
  by_cases h2 : p = 2
  · subst h2
    obtain ⟨a, s, xs, e, ha, hr, hc⟩ := call_parts (n := 3) (k := 0) rfl h
    obtain ⟨x, y, z, rfl⟩ := len3 ha
    obtain ⟨rfl, rfl⟩ := rows_nil hr
    subst e hc
    have hb' : (PyInside.within 0 4294967295 x && (PyInside.within 0 4294967295 y && (PyInside.within 0 4294967295 z && true)) && true) = true := hb
    simp only [Bool.and_eq_true, Bool.and_true] at hb'
    obtain ⟨n, rfl, hn⟩ := within_nat hb'.1
    obtain ⟨m, rfl, hm⟩ := within_nat hb'.2.1
    obtain ⟨k, rfl, hk⟩ := within_nat hb'.2.2
    refine ⟨.arms_ n m k, .arms n m k _ hn hm hk, ?_⟩
    show Sy65Neutral.callOf (2 :: [(n : Int), (m : Int), (k : Int)]) = _
    rw [call2, some3 hn hm hk]
    rfl
  by_cases h3 : p = 3
  · subst h3
    obtain ⟨a, s, xs, e, ha, hr, hc⟩ := call_parts (n := 0) (k := 0) rfl h
    cases len0 ha
    obtain ⟨rfl, rfl⟩ := rows_nil hr
    subst e hc
    exact ⟨.pulls, .pulls _, rfl⟩
  by_cases h4 : p = 4
  · subst h4
    obtain ⟨a, s, xs, e, ha, hr, hc⟩ := call_parts (n := 0) (k := 0) rfl h
    cases len0 ha
    obtain ⟨rfl, rfl⟩ := rows_nil hr
    subst e hc
    exact ⟨.least, .least _, rfl⟩
  by_cases h5 : p = 5
  · subst h5
    obtain ⟨a, s, xs, e, ha, hr, hc⟩ := call_parts (n := 1) (k := 0) rfl h
    obtain ⟨x, rfl⟩ := len1 ha
    obtain ⟨rfl, rfl⟩ := rows_nil hr
    subst e hc
    have hb' : (PyInside.within 0 4294967295 x && true && true) = true := hb
    simp only [Bool.and_true] at hb'
    obtain ⟨n, rfl, hn⟩ := within_nat hb'
    refine ⟨.scale n, .scale n _ hn, ?_⟩
    show Sy65Neutral.callOf (5 :: [(n : Int)]) = _
    rw [call5, some1 hn]
    rfl
  by_cases h6 : p = 6
  · subst h6
    obtain ⟨a, s, xs, e, ha, hr, hc⟩ := call_parts (n := 0) (k := 0) rfl h
    cases len0 ha
    obtain ⟨rfl, rfl⟩ := rows_nil hr
    subst e hc
    exact ⟨.madeUp, .up _, rfl⟩
  by_cases h7 : p = 7
  · subst h7
    obtain ⟨a, s, xs, e, ha, hr, hc⟩ := call_parts (n := 0) (k := 0) rfl h
    cases len0 ha
    obtain ⟨rfl, rfl⟩ := rows_nil hr
    subst e hc
    exact ⟨.mend, .mend _, rfl⟩
  by_cases h8 : p = 8
  · subst h8
    obtain ⟨a, s, xs, e, ha, hr, hc⟩ := call_parts (n := 0) (k := 0) rfl h
    cases len0 ha
    obtain ⟨rfl, rfl⟩ := rows_nil hr
    subst e hc
    exact ⟨.wants, .wants _, rfl⟩
  by_cases h9 : p = 9
  · subst h9
    obtain ⟨a, s, xs, e, ha, hr, hc⟩ := call_parts (n := 1) (k := 1) rfl h
    obtain ⟨k, rfl⟩ := len1 ha
    obtain ⟨x, rfl, rfl⟩ := rows_one hr
    subst e hc
    have hb' : (PyInside.within 0 4294967295 k && true && (decide (0 ≤ x.length) && decide (x.length ≤ 60) && x.all (PyInside.within 0 4294967295) && true)) = true := hb
    simp only [Bool.and_eq_true, Bool.and_true, decide_eq_true_iff] at hb'
    obtain ⟨hk, ⟨_, hl⟩, hi⟩ := hb'
    obtain ⟨n, rfl, hn⟩ := within_nat hk
    obtain ⟨y, rfl, hy⟩ := row_nat hi
    rw [ints_len] at hl ⊢
    refine ⟨.ways n y, .ways n y _ hn hl hy, ?_⟩
    show Sy65Neutral.callOf (9 :: (n : Int) :: (((Sy65.ints y).length : Nat) : Int) :: Sy65.ints y) = _
    rw [ints_len, call9, some1 hn]
    dsimp only [Option.bind_some]
    rw [rowIn_of hl hy]
    rfl
  by_cases h10 : p = 10
  · subst h10
    obtain ⟨a, s, xs, e, ha, hr, hc⟩ := call_parts (n := 1) (k := 0) rfl h
    obtain ⟨x, rfl⟩ := len1 ha
    obtain ⟨rfl, rfl⟩ := rows_nil hr
    subst e hc
    have hb' : (PyInside.within 0 4294967295 x && true && true) = true := hb
    simp only [Bool.and_true] at hb'
    obtain ⟨n, rfl, hn⟩ := within_nat hb'
    refine ⟨.missing n, .missing n _ hn, ?_⟩
    show Sy65Neutral.callOf (10 :: [(n : Int)]) = _
    rw [call10, some1 hn]
    rfl
  by_cases h11 : p = 11
  · subst h11
    obtain ⟨a, s, xs, e, ha, hr, hc⟩ := call_parts (n := 0) (k := 0) rfl h
    cases len0 ha
    obtain ⟨rfl, rfl⟩ := rows_nil hr
    subst e hc
    exact ⟨.state, .state _, rfl⟩
  · refine absurd h (no_shape ?_)
    unfold PySy65.shape
    rw [if_neg h0, if_neg h1, if_neg h2, if_neg h3, if_neg h4, if_neg h5, if_neg h6, if_neg h7, if_neg h8, if_neg h9, if_neg h10, if_neg h11]
/-- all calls of a list -/
theorem calls_are : ∀ (f : Nat) (l : List Int) (raw : List (List (List Int))), PyFlat.calls PySy65.shape f l = some raw → raw.all (PyInside.call PySy65.bound) = true →
    ∃ cs, Asks l cs ∧ raw.map (fun c => Sy65Neutral.callOf ((PySy65.whole c).headD [])) = cs.map some
  | f, [], raw, h, _ => by
    have : raw = [] := by
      unfold PyFlat.calls at h
      cases h
      rfl
    subst this
    exact ⟨[], .nil, rfl⟩
  | 0, _ :: _, _, h, _ => by cases h
  | f + 1, p :: r, raw, h, hb => by
    unfold PyFlat.calls at h
    cases e : PyFlat.call PySy65.shape (p :: r) with
    | none => rw [e] at h; cases h
    | some y =>
      obtain ⟨c, t⟩ := y
      rw [e] at h
      dsimp only at h
      cases e' : PyFlat.calls PySy65.shape f t with
      | none => rw [e'] at h; cases h
      | some cs =>
        rw [e'] at h
        cases h
        rw [List.all_cons, Bool.and_eq_true] at hb
        obtain ⟨C, n1, n2⟩ := call_is e hb.1
        obtain ⟨ds, q1, q2⟩ := calls_are f t cs e' hb.2
        exact ⟨C :: ds, .cons n1 q1, by rw [List.map_cons, List.map_cons, n2, q2]⟩
/-- the answers, told one behind another -/
def played : Sy65.St → List Sy65.Call → List Int
  | _, [] => []
  | s, c :: cs => ((Sy65Neutral.out (Sy65.step s c).2).length : Int) :: (Sy65Neutral.out (Sy65.step s c).2 ++ played (Sy65.step s c).1 cs)
theorem played_is : ∀ (cs : List (List (List Int))) (ds : List Sy65.Call) (s : Sy65.St), cs.map (fun c => Sy65Neutral.callOf ((PySy65.whole c).headD [])) = ds.map some →
    PyFlat.told (PyFlat.played (fun s c => Sy65Neutral.step s (c.headD [])) s (cs.map PySy65.whole)) = played s ds
  | [], [], _, _ => rfl
  | [], _ :: _, _, h => by cases h
  | _ :: _, [], _, h => by cases h
  | c :: cs, d :: ds, s, h => by
    rw [List.map_cons, List.map_cons] at h
    obtain ⟨h1, h2⟩ := List.cons.inj h
    have e : Sy65Neutral.step s ((PySy65.whole c).headD []) = ((Sy65.step s d).1, Sy65Neutral.out (Sy65.step s d).2) := by
      unfold Sy65Neutral.step
      rw [h1]
    have ih := played_is cs ds (Sy65.step s d).1 h2
    show PyFlat.told ((Sy65Neutral.step s ((PySy65.whole c).headD [])).2 :: PyFlat.played _ (Sy65Neutral.step s ((PySy65.whole c).headD [])).1 (cs.map PySy65.whole)) = _
    rw [e]
    show ((Sy65Neutral.out (Sy65.step s d).2).length : Int) :: Sy65Neutral.out (Sy65.step s d).2 ++ PyFlat.told _ = _
    rw [ih]
    rfl
/-- what is asked of a list that is handed in, and what is due -/
theorem asked_is {l : List Int} (h : PySy65.answers_asked l = true) :
    ∃ cs, Asks l cs ∧ cs.length ≤ 80 ∧ PySy65.answers l = played Sy65.init cs ∧ (played Sy65.init cs).length ≤ 10000000 := by
  unfold PySy65.answers_asked at h
  cases e : PyFlat.calls PySy65.shape l.length l with
  | none => rw [e] at h; cases h
  | some raw =>
    rw [e] at h
    dsimp only at h
    simp only [Bool.and_eq_true] at h
    obtain ⟨⟨⟨⟨_, h2⟩, h3⟩, _⟩, h5⟩ := h
    obtain ⟨cs, q1, q2⟩ := calls_are _ l raw e h3
    have hl : raw.length = cs.length := by
      have := congrArg List.length q2
      rwa [List.length_map, List.length_map] at this
    have ea : PySy65.answers l = played Sy65.init cs := by
      unfold PySy65.answers PySy65.calls
      rw [e]
      exact played_is raw cs Sy65.init q2
    refine ⟨cs, q1, ?_, ea, ?_⟩
    · unfold PyFlat.atMost at h2
      rw [decide_eq_true_iff] at h2
      omega
    · unfold PyFlat.short at h5
      rw [decide_eq_true_iff, ea] at h5
      exact h5
end HM
namespace HM
open Sy65 (Tree)
/-! ### rough bounds of the weights behind i rods -/
/-- all weights from 1 to B -/
def Rng (B : Nat) (w : List Nat) : Prop := ∀ x ∈ w, 1 ≤ x ∧ x ≤ B
theorem Rng.get {B : Nat} {w : List Nat} (h : Rng B w) {i x : Nat} (e : w[i]? = some x) : 1 ≤ x ∧ x ≤ B := h x (List.mem_of_getElem? e)
theorem mulR_mem {lo hi c : Nat} {w : List Nat} {x : Nat} (h : x ∈ mulR lo hi c w) : ∃ y ∈ w, x = y ∨ x = y * c := by
  obtain ⟨i, hi⟩ := List.mem_iff_getElem?.mp h
  rw [mulR_get] at hi
  cases e : w[i]? with
  | none => rw [e] at hi; cases hi
  | some y =>
    rw [e, Option.map_some] at hi
    refine ⟨y, List.mem_of_getElem? e, ?_⟩
    have := Option.some.inj hi
    split at this
    · exact .inr this.symm
    · exact .inl this.symm
theorem mulR_out {lo hi c : Nat} {w : List Nat} {i : Nat} (h : ¬ (lo ≤ i ∧ i < hi)) : (mulR lo hi c w)[i]? = w[i]? := by
  rw [mulR_get]
  simp only [h, if_false]
  cases w[i]? <;> rfl
theorem seg_mem {lo hi : Nat} {w : List Nat} {x : Nat} (h : x ∈ seg lo hi w) : x ∈ w := List.mem_of_mem_drop (List.mem_of_mem_take h)
theorem seg_length {lo hi : Nat} {w : List Nat} (h : hi ≤ w.length) : (seg lo hi w).length = hi - lo := by
  unfold seg
  rw [List.length_take, List.length_drop]
  omega
theorem seg_congr {lo hi : Nat} {w v : List Nat} (h : ∀ i, lo ≤ i → i < hi → w[i]? = v[i]?) : seg lo hi w = seg lo hi v := by
  unfold seg
  apply List.ext_getElem?
  intro i
  rw [List.getElem?_take, List.getElem?_take]
  by_cases q : i < hi - lo
  · rw [if_pos q, if_pos q, List.getElem?_drop, List.getElem?_drop]
    exact h _ (by omega) (by omega)
  · rw [if_neg q, if_neg q]
theorem sum_bound {B : Nat} : ∀ {w : List Nat}, Rng B w → w.length ≤ w.sum ∧ w.sum ≤ w.length * B
  | [], _ => ⟨Nat.le_refl _, by simp⟩
  | x :: w, h => by
    obtain ⟨h1, h2⟩ := sum_bound (w := w) fun y hy => h y (List.mem_cons_of_mem _ hy)
    obtain ⟨h3, h4⟩ := h x List.mem_cons_self
    rw [List.sum_cons, List.length_cons, Nat.add_mul]
    omega
theorem seg_sum {B : Nat} {w : List Nat} {lo hi : Nat} (h : Rng B w) (h1 : lo < hi) (h2 : hi ≤ w.length) (h3 : w.length ≤ 7) : 1 ≤ (seg lo hi w).sum ∧ (seg lo hi w).sum ≤ 7 * B := by
  obtain ⟨s1, s2⟩ := sum_bound (B := B) (w := seg lo hi w) fun x hx => h x (seg_mem hx)
  rw [seg_length h2] at s1 s2
  refine ⟨by omega, Nat.le_trans s2 (Nat.mul_le_mul_right B (by omega))⟩
theorem pull_bound {B : Nat} {w : List Nat} {p : Rd} (h : Rng B w) (ok : okArms p.l p.r = true) (hw : Within 0 w.length p) (h7 : w.length ≤ 7) :
    (1 ≤ pullL w p ∧ pullL w p ≤ 140 * B) ∧ (1 ≤ pullR w p ∧ pullR w p ≤ 140 * B) := by
  obtain ⟨a1, a2, a3, a4⟩ := okArms_iff.mp ok
  obtain ⟨w1, w2, w3, w4⟩ := hw
  obtain ⟨s1, s2⟩ := seg_sum h w2 (by omega) h7
  obtain ⟨t1, t2⟩ := seg_sum h w3 w4 h7
  unfold pullL pullR
  refine ⟨⟨Nat.mul_pos a1 s1, ?_⟩, Nat.mul_pos a3 t1, ?_⟩
  · exact Nat.le_trans (Nat.mul_le_mul a2 s2) (by omega)
  · exact Nat.le_trans (Nat.mul_le_mul a4 t2) (by omega)
/-- the factors of a rod -/
theorem factor_bound {B p q : Nat} (hp : 1 ≤ p ∧ p ≤ 140 * B) (hq : 1 ≤ q ∧ q ≤ 140 * B) : (1 ≤ q / Nat.gcd p q ∧ q / Nat.gcd p q ≤ 140 * B) ∧ (1 ≤ p / Nat.gcd p q ∧ p / Nat.gcd p q ≤ 140 * B) ∧ 1 ≤ Nat.gcd p q ∧ Nat.gcd p q ≤ 140 * B := by
  have hg := Nat.gcd_pos_of_pos_left q (show 0 < p from hp.1)
  have g1 := Nat.gcd_le_left q hp.1
  have g2 := Nat.gcd_le_right p hq.1
  refine ⟨⟨Nat.div_pos g2 hg, Nat.le_trans (Nat.div_le_self _ _) hq.2⟩, ⟨Nat.div_pos g1 hg, Nat.le_trans (Nat.div_le_self _ _) hp.2⟩, hg, Nat.le_trans g1 hp.2⟩
theorem mulR_rng {B c : Nat} {w : List Nat} {lo hi : Nat} (h : Rng B w) (h1 : 1 ≤ c) (h2 : c ≤ 140 * B) : Rng (140 * B * B) (mulR lo hi c w) := by
  intro x hx
  obtain ⟨y, hy, e⟩ := mulR_mem hx
  obtain ⟨y1, y2⟩ := h y hy
  rcases e with rfl | rfl
  · refine ⟨y1, Nat.le_trans y2 ?_⟩
    exact Nat.le_mul_of_pos_left B (by omega)
  · refine ⟨Nat.mul_pos y1 h1, ?_⟩
    rw [Nat.mul_comm y c]
    exact Nat.mul_le_mul h2 y2
theorem stepRod_rng {B : Nat} {w : List Nat} {p : Rd} (h : Rng B w) (ok : okArms p.l p.r = true) (hw : Within 0 w.length p) (h7 : w.length ≤ 7) : Rng (140 * B * B) (stepRod p w) := by
  obtain ⟨hp, hq⟩ := pull_bound h ok hw h7
  obtain ⟨c1, c2, _, _⟩ := factor_bound hp hq
  have m1 := mulR_rng (lo := p.f) (hi := p.m) h c1.1 c1.2
  have m2 := mulR_rng (lo := p.m) (hi := p.b) h c2.1 c2.2
  unfold stepRod
  intro x hx
  obtain ⟨i, hi⟩ := List.mem_iff_getElem?.mp hx
  by_cases q : p.m ≤ i ∧ i < p.b
  · rw [mulR_get] at hi
    have e := mulR_out (lo := p.f) (hi := p.m) (c := pullR w p / (pullL w p).gcd (pullR w p)) (w := w) (i := i) (by omega)
    rw [e, ← mulR_get] at hi
    exact m2 x (List.mem_of_getElem? hi)
  · rw [mulR_out q] at hi
    exact m1 x (List.mem_of_getElem? hi)
/-- the bound behind i rods -/
def Bd : Nat → Nat
  | 0 => 1
  | i + 1 => 140 * Bd i * Bd i
theorem Bd_pos : ∀ i, 1 ≤ Bd i
  | 0 => Nat.le_refl 1
  | i + 1 => Nat.mul_pos (Nat.mul_pos (by decide) (Bd_pos i)) (Bd_pos i)
theorem Bd_le : ∀ i, Bd i ≤ Bd (i + 1) := fun i => Nat.le_mul_of_pos_left _ (Nat.mul_pos (by decide) (Bd_pos i))
theorem Bd_mono {i j : Nat} (h : i ≤ j) : Bd i ≤ Bd j := by
  induction h with
  | refl => exact Nat.le_refl _
  | step _ ih => exact Nat.le_trans ih (Bd_le _)
theorem Bd_six : 140 * Bd 6 < 2 ^ 500 := by decide +kernel
theorem Rng.mono {B B' : Nat} {w : List Nat} (h : Rng B w) (hb : B ≤ B') : Rng B' w := fun x hx => ⟨(h x hx).1, Nat.le_trans (h x hx).2 hb⟩
/-- the weights behind the last i rods -/
def behind (ps : List Rd) (i n : Nat) : List Nat := (ps.drop (ps.length - i)).foldr stepRod (List.replicate n 1)
theorem behind_zero (ps : List Rd) (n : Nat) : behind ps 0 n = List.replicate n 1 := by
  unfold behind
  rw [Nat.sub_zero, List.drop_length]
  rfl
theorem behind_all (ps : List Rd) (n : Nat) : behind ps ps.length n = ps.foldr stepRod (List.replicate n 1) := by
  unfold behind
  rw [Nat.sub_self, List.drop_zero]
theorem behind_more {ps : List Rd} {i n : Nat} {p : Rd} (hi : i < ps.length) (h : ps[ps.length - 1 - i]? = some p) : behind ps (i + 1) n = stepRod p (behind ps i n) := by
  unfold behind
  obtain ⟨h1, h2⟩ := List.getElem?_eq_some_iff.mp h
  have e1 : ps.length - (i + 1) = ps.length - 1 - i := by omega
  have e2 : ps.length - i = ps.length - 1 - i + 1 := by omega
  rw [e1, List.drop_eq_getElem_cons h1, h2, List.foldr_cons, e2]
theorem foldr_length (n : Nat) : ∀ ps : List Rd, (ps.foldr stepRod (List.replicate n 1)).length = n
  | [] => by simp
  | p :: ps => by rw [List.foldr_cons, stepRod_length, foldr_length n ps]
theorem behind_length (ps : List Rd) (i n : Nat) : (behind ps i n).length = n := foldr_length n _
theorem behind_rng {ps : List Rd} {n : Nat} (ok : ∀ p ∈ ps, okArms p.l p.r = true) (hw : ∀ p ∈ ps, Within 0 n p) (h7 : n ≤ 7) : ∀ i, i ≤ ps.length → Rng (Bd i) (behind ps i n)
  | 0, _ => by
    rw [behind_zero]
    intro x hx
    have := List.eq_of_mem_replicate hx
    subst this
    exact ⟨Nat.le_refl _, Nat.le_refl _⟩
  | i + 1, hi => by
    have ih := behind_rng ok hw h7 i (by omega)
    have hlt : ps.length - 1 - i < ps.length := by omega
    have hx : ps[ps.length - 1 - i]? = some ps[ps.length - 1 - i] := List.getElem?_eq_getElem hlt
    have hm := List.mem_of_getElem? hx
    rw [behind_more (by omega) hx]
    exact stepRod_rng ih (ok _ hm) (by rw [behind_length]; exact hw _ hm) (by rw [behind_length]; exact h7)
end HM
namespace HM
/-! ### how many times its least weight each hook has: made up, and the nearest -/
def quo (x : Nat × Nat) : Nat := if x.1 % x.2 = 0 then x.1 / x.2 else 0
/-- of each hook at which something hangs, how many times its least weight; 0 if no whole number of times -/
def thung (z : List (Nat × Nat)) : List Nat := (z.filter fun (x : Nat × Nat) => x.1 != 0).map quo
def timesAll : List Nat → Nat
  | [] => 1
  | x :: l => if l.all (fun y => y == x) then x else 0
theorem quo_of {x : Nat × Nat} (_h0 : x.1 ≠ 0) (h1 : 1 ≤ x.2) {n : Nat} (hn : 1 ≤ n) : quo x = n ↔ x.1 = n * x.2 := by
  unfold quo
  constructor
  · intro h
    by_cases c : x.1 % x.2 = 0
    · rw [if_pos c] at h
      have := Nat.div_mul_cancel (Nat.dvd_of_mod_eq_zero c)
      rw [← h, this]
    · rw [if_neg c] at h
      omega
  · intro h
    have c : x.1 % x.2 = 0 := by rw [h, Nat.mul_mod_left]
    rw [if_pos c, h, Nat.mul_div_cancel _ (by omega)]
theorem quo_pos {x : Nat × Nat} (h0 : x.1 ≠ 0) (h1 : 1 ≤ x.2) : 1 ≤ quo x ↔ x.1 % x.2 = 0 := by
  unfold quo
  constructor
  · intro h
    by_cases c : x.1 % x.2 = 0
    · exact c
    · rw [if_neg c] at h
      omega
  · intro c
    rw [if_pos c]
    exact Nat.div_pos (Nat.le_of_dvd (by omega) (Nat.dvd_of_mod_eq_zero c)) (by omega)
theorem zip_snd {w L : List Nat} (hL : ∀ y ∈ L, 1 ≤ y) : ∀ p ∈ w.zip L, 1 ≤ p.2 := fun _ hp => hL _ (List.of_mem_zip hp).2
theorem madeUp_is (s : Sy65.St) (hL : ∀ y ∈ Sy65.least s.tree, 1 ≤ y) :
    Sy65.madeUp s = if timesAll (thung (s.hung.zip (Sy65.least s.tree))) = 0 then none else some (timesAll (thung (s.hung.zip (Sy65.least s.tree)))) := by
  have hz := zip_snd (w := s.hung) hL
  unfold Sy65.madeUp thung
  generalize s.hung.zip (Sy65.least s.tree) = z at hz
  have hf : ∀ p ∈ z.filter fun (x : Nat × Nat) => x.1 != 0, p.1 ≠ 0 ∧ 1 ≤ p.2 := fun p hp => by
    obtain ⟨h1, h2⟩ := List.mem_filter.mp hp
    exact ⟨by simpa using h2, hz p h1⟩
  generalize z.filter (fun (x : Nat × Nat) => x.1 != 0) = f at hf
  cases f with
  | nil => rfl
  | cons x l =>
    obtain ⟨x0, x1⟩ := hf x List.mem_cons_self
    have hl : ∀ p ∈ l, p.1 ≠ 0 ∧ 1 ≤ p.2 := fun p hp => hf p (List.mem_cons_of_mem _ hp)
    have unf : timesAll ((x :: l).map quo) = if (l.map quo).all (fun y => y == quo x) then quo x else 0 := rfl
    rw [unf]
    show (if x.1 % x.2 = 0 ∧ l.all (fun (y : Nat × Nat) => y.1 == x.1 / x.2 * y.2) = true then some (x.1 / x.2) else none) = _
    by_cases c : x.1 % x.2 = 0
    · have q : quo x = x.1 / x.2 := by unfold quo; rw [if_pos c]
      have qp : 1 ≤ quo x := (quo_pos x0 x1).mpr c
      have e : (l.map quo).all (fun y => y == quo x) = l.all (fun (y : Nat × Nat) => y.1 == x.1 / x.2 * y.2) := by
        rw [List.all_map, Bool.eq_iff_iff, List.all_eq_true, List.all_eq_true]
        constructor
        · intro h p hp
          have := h p hp
          have := (quo_of (hl p hp).1 (hl p hp).2 qp).mp (by simpa using this)
          rw [q] at this
          simpa using this
        · intro h p hp
          have := h p hp
          rw [← q] at this
          have := (quo_of (hl p hp).1 (hl p hp).2 qp).mpr (by simpa using this)
          simpa using this
      rw [e]
      by_cases b : l.all (fun (y : Nat × Nat) => y.1 == x.1 / x.2 * y.2) = true
      · rw [if_pos ⟨c, b⟩, if_pos b, if_neg (by omega), q]
      · rw [if_neg (fun h => b h.2), if_neg b, if_pos rfl]
    · have q : quo x = 0 := by unfold quo; rw [if_neg c]
      rw [if_neg (fun h => c h.1), q, if_pos (by split <;> rfl)]
/-! ### the nearest -/
theorem count_thung {n : Nat} (hn : 1 ≤ n) : ∀ z : List (Nat × Nat), (∀ p ∈ z, 1 ≤ p.2) → (thung z).count n = (z.filter fun (p : Nat × Nat) => p.1 == n * p.2).length
  | [], _ => rfl
  | p :: z, h => by
    have ih := count_thung hn z fun q hq => h q (List.mem_cons_of_mem _ hq)
    have p1 := h p List.mem_cons_self
    unfold thung at ih ⊢
    have np : 0 < n * p.2 := Nat.mul_pos hn p1
    rw [List.filter_cons, List.filter_cons]
    by_cases c : p.1 = 0
    · have c1 : (p.1 != 0) = false := by simpa using c
      have c2 : (p.1 == n * p.2) = false := by
        rw [beq_eq_false_iff_ne]
        omega
      rw [c1, c2]
      exact ih
    · have c1 : (p.1 != 0) = true := by simpa using c
      rw [c1, if_pos rfl, List.map_cons, List.count_cons, ih]
      by_cases d : p.1 = n * p.2
      · have e := (quo_of c p1 hn).mpr d
        have d1 : (p.1 == n * p.2) = true := by simpa using d
        rw [d1, if_pos rfl, List.length_cons, e]
        simp
      · have e : quo p ≠ n := fun q => d ((quo_of c p1 hn).mp q)
        have d1 : (p.1 == n * p.2) = false := by simpa using d
        have e1 : (quo p == n) = false := by simpa using e
        rw [d1, e1]
        simp
theorem right_is (s : Sy65.St) (hL : ∀ y ∈ Sy65.least s.tree, 1 ≤ y) {n : Nat} (hn : 1 ≤ n) : Sy65.right s n = (thung (s.hung.zip (Sy65.least s.tree))).count n := by
  rw [count_thung hn _ (zip_snd hL)]
  unfold Sy65.right Sy65.times
  rw [List.zip_map_right, List.filter_map, List.length_map]
  rfl
theorem scales_is (s : Sy65.St) (hL : ∀ y ∈ Sy65.least s.tree, 1 ≤ y) : Sy65.scales s = (thung (s.hung.zip (Sy65.least s.tree))).filter fun x => x != 0 := by
  have hz := zip_snd (w := s.hung) hL
  unfold Sy65.scales thung
  generalize s.hung.zip (Sy65.least s.tree) = z at hz
  induction z with
  | nil => rfl
  | cons p z ih =>
    have ih := ih fun q hq => hz q (List.mem_cons_of_mem _ hq)
    have p1 := hz p List.mem_cons_self
    rw [List.filter_cons, List.filter_cons]
    by_cases c : p.1 = 0
    · have c1 : (p.1 != 0) = false := by simpa using c
      rw [c1]
      exact ih
    · have c1 : (p.1 != 0) = true := by simpa using c
      by_cases d : p.1 % p.2 = 0
      · have d1 : (p.1 % p.2 == 0) = true := by simpa using d
        have q : quo p = p.1 / p.2 := by unfold quo; rw [if_pos d]
        have qp : 1 ≤ quo p := (quo_pos c p1).mpr d
        have q1 : (quo p != 0) = true := by
          rw [bne_iff_ne]
          omega
        rw [c1, d1, Bool.and_self, if_pos rfl, if_pos rfl, List.map_cons, List.map_cons, List.filter_cons, q1, if_pos rfl, ih, q]
      · have d1 : (p.1 % p.2 == 0) = false := by simpa using d
        have q : quo p = 0 := by unfold quo; rw [if_neg d]
        have q1 : (quo p != 0) = false := by rw [q]; rfl
        rw [c1, d1, Bool.and_false, if_pos rfl, List.map_cons, List.filter_cons, q1]
        exact ih
/-- r is it that counts most, of several the least; 1, where there's none -/
def Best (c : Nat → Nat) (S : List Nat) (r : Nat) : Prop := (S = [] ∧ r = 1) ∨ (r ∈ S ∧ ∀ x ∈ S, c x < c r ∨ (c x = c r ∧ r ≤ x))
theorem Best.one {c : Nat → Nat} {S : List Nat} {r q : Nat} (h : Best c S r) (k : Best c S q) : r = q := by
  rcases h with ⟨h1, h2⟩ | ⟨h1, h2⟩
  · rcases k with ⟨k1, k2⟩ | ⟨k1, k2⟩
    · omega
    · rw [h1] at k1
      cases k1
  · rcases k with ⟨k1, k2⟩ | ⟨k1, k2⟩
    · rw [k1] at h1
      cases h1
    · have := h2 q k1
      have := k2 r h1
      omega
theorem Best.congr {c d : Nat → Nat} {S : List Nat} {r : Nat} (h : Best c S r) (e : ∀ x ∈ S, c x = d x) : Best d S r := by
  rcases h with h | ⟨h1, h2⟩
  · exact .inl h
  · refine .inr ⟨h1, fun x hx => ?_⟩
    rw [← e x hx, ← e r h1]
    exact h2 x hx
theorem fold_best (c : Nat → Nat) : ∀ (l : List Nat) (m : Nat),
    (l.foldl (fun (m x : Nat) => if c m < c x ∨ (c m = c x ∧ x < m) then x else m) m = m ∨ l.foldl (fun (m x : Nat) => if c m < c x ∨ (c m = c x ∧ x < m) then x else m) m ∈ l) ∧
    ∀ x, x = m ∨ x ∈ l → c x < c (l.foldl (fun (m x : Nat) => if c m < c x ∨ (c m = c x ∧ x < m) then x else m) m) ∨ (c x = c (l.foldl (fun (m x : Nat) => if c m < c x ∨ (c m = c x ∧ x < m) then x else m) m) ∧ l.foldl (fun (m x : Nat) => if c m < c x ∨ (c m = c x ∧ x < m) then x else m) m ≤ x)
  | [], m => ⟨.inl rfl, fun x hx => by
    rcases hx with rfl | hx
    · exact .inr ⟨rfl, Nat.le_refl _⟩
    · cases hx⟩
  | y :: l, m => by
    rw [List.foldl_cons]
    by_cases q : c m < c y ∨ (c m = c y ∧ y < m)
    · rw [if_pos q]
      obtain ⟨h1, h2⟩ := fold_best c l y
      generalize l.foldl (fun (m x : Nat) => if c m < c x ∨ (c m = c x ∧ x < m) then x else m) y = r at h1 h2
      refine ⟨.inr ?_, fun x hx => ?_⟩
      · rcases h1 with rfl | h1
        · exact List.mem_cons_self
        · exact List.mem_cons_of_mem _ h1
      · rcases hx with rfl | hx
        · have := h2 y (.inl rfl)
          omega
        · rcases List.mem_cons.mp hx with rfl | hx
          · exact h2 _ (.inl rfl)
          · exact h2 _ (.inr hx)
    · rw [if_neg q]
      obtain ⟨h1, h2⟩ := fold_best c l m
      generalize l.foldl (fun (m x : Nat) => if c m < c x ∨ (c m = c x ∧ x < m) then x else m) m = r at h1 h2
      refine ⟨?_, fun x hx => ?_⟩
      · rcases h1 with h1 | h1
        · exact .inl h1
        · exact .inr (List.mem_cons_of_mem _ h1)
      · rcases hx with rfl | hx
        · exact h2 _ (.inl rfl)
        · rcases List.mem_cons.mp hx with rfl | hx
          · have := h2 m (.inl rfl)
            omega
          · exact h2 _ (.inr hx)
theorem nearest_best (s : Sy65.St) : Best (Sy65.right s) (Sy65.scales s) (Sy65.nearest s) := by
  unfold Sy65.nearest
  cases Sy65.scales s with
  | nil => exact .inl ⟨rfl, rfl⟩
  | cons n l =>
    obtain ⟨h1, h2⟩ := fold_best (Sy65.right s) l n
    refine .inr ⟨?_, fun x hx => h2 x (List.mem_cons.mp hx)⟩
    rcases h1 with h1 | h1
    · exact List.mem_cons.mpr (.inl h1)
    · exact List.mem_cons_of_mem _ h1
/-- the program's turn -/
def mostStep (c : Nat → Nat) (b t : Nat) : Nat := if 0 < t ∧ c b < c t then t else b
theorem most_inv (c : Nat → Nat) : ∀ (l P : List Nat) (b : Nat), l.Pairwise (· ≤ ·) → (∀ x ∈ P, ∀ y ∈ l, x ≤ y) → 1 ≤ b → (b = 1 ∨ b ∈ P) → (∀ x ∈ P, 1 ≤ x → c x < c b ∨ (c x = c b ∧ b ≤ x)) →
    1 ≤ l.foldl (mostStep c) b ∧ (l.foldl (mostStep c) b = 1 ∨ l.foldl (mostStep c) b ∈ P ++ l) ∧ ∀ x ∈ P ++ l, 1 ≤ x → c x < c (l.foldl (mostStep c) b) ∨ (c x = c (l.foldl (mostStep c) b) ∧ l.foldl (mostStep c) b ≤ x)
  | [], P, b, _, _, h1, h2, h3 => ⟨h1, by rw [List.append_nil]; exact h2, by rw [List.append_nil]; exact h3⟩
  | t :: l, P, b, hs, hp, h1, h2, h3 => by
    rw [List.pairwise_cons] at hs
    obtain ⟨hs1, hs2⟩ := hs
    have hp' : ∀ x ∈ P ++ [t], ∀ y ∈ l, x ≤ y := fun x hx y hy => by
      rcases List.mem_append.mp hx with hx | hx
      · exact hp x hx y (List.mem_cons_of_mem _ hy)
      · rw [List.mem_singleton.mp hx]
        exact hs1 y hy
    have e : P ++ t :: l = (P ++ [t]) ++ l := by rw [List.append_assoc]; rfl
    rw [List.foldl_cons, e]
    refine most_inv c l (P ++ [t]) (mostStep c b t) hs2 hp' ?_ ?_ ?_
    · unfold mostStep
      split
      · omega
      · exact h1
    · unfold mostStep
      split
      · right
        simp
      · rcases h2 with h2 | h2
        · exact .inl h2
        · exact .inr (List.mem_append_left _ h2)
    · intro x hx x1
      unfold mostStep
      rcases List.mem_append.mp hx with hx | hx
      · have := h3 x hx x1
        split
        · omega
        · exact this
      · have := List.mem_singleton.mp hx
        subst this
        by_cases q : 0 < x ∧ c b < c x
        · rw [if_pos q]
          omega
        · rw [if_neg q]
          have hb : b ≤ x := by
            rcases h2 with h2 | h2
            · omega
            · exact hp b h2 x List.mem_cons_self
          omega
theorem most_best {l T : List Nat} (hs : l.Pairwise (· ≤ ·)) (hp : l.Perm T) : Best (fun n => T.count n) (T.filter fun x => x != 0) (l.foldl (mostStep fun n => T.count n) 1) := by
  obtain ⟨h1, h2, h3⟩ := most_inv (fun n => T.count n) l [] 1 hs (fun x hx => by cases hx) (Nat.le_refl _) (.inl rfl) (fun x hx => by cases hx)
  rw [List.nil_append] at h2 h3
  generalize l.foldl (mostStep fun n => T.count n) 1 = r at h1 h2 h3
  have mem : ∀ x, x ∈ T.filter (fun x => x != 0) ↔ x ∈ l ∧ 1 ≤ x := fun x => by
    rw [List.mem_filter, hp.mem_iff, bne_iff_ne, Nat.one_le_iff_ne_zero]
  by_cases e : T.filter (fun x => x != 0) = []
  · refine .inl ⟨e, ?_⟩
    rcases h2 with h2 | h2
    · exact h2
    · have := (mem r).mpr ⟨h2, h1⟩
      rw [e] at this
      cases this
  · refine .inr ⟨?_, fun x hx => ?_⟩
    · obtain ⟨x, hx⟩ := List.exists_mem_of_ne_nil _ e
      obtain ⟨q1, q2⟩ := (mem x).mp hx
      have := h3 x q1 q2
      have hc : 0 < T.count x := List.count_pos_iff.mpr (hp.mem_iff.mp q1)
      have hr : 0 < T.count r := by
        omega
      exact (mem r).mpr ⟨hp.mem_iff.mpr (List.count_pos_iff.mp hr), h1⟩
    · obtain ⟨q1, q2⟩ := (mem x).mp hx
      exact h3 x q1 q2
/-- what the program's loop comes to -/
theorem nearest_is (s : Sy65.St) (hL : ∀ y ∈ Sy65.least s.tree, 1 ≤ y) {l : List Nat} (hs : l.Pairwise (· ≤ ·)) (hp : l.Perm (thung (s.hung.zip (Sy65.least s.tree)))) :
    l.foldl (mostStep fun n => (thung (s.hung.zip (Sy65.least s.tree))).count n) 1 = Sy65.nearest s := by
  have b1 := most_best hs hp
  rw [← scales_is s hL] at b1
  have b2 := nearest_best s
  refine (b1.congr fun x hx => ?_).one b2
  rw [scales_is s hL, List.mem_filter, bne_iff_ne] at hx
  exact (right_is s hL (by omega)).symm
theorem nearest_pos (s : Sy65.St) (hL : ∀ y ∈ Sy65.least s.tree, 1 ≤ y) : 1 ≤ Sy65.nearest s := by
  rcases nearest_best s with ⟨_, h⟩ | ⟨h, _⟩
  · omega
  · rw [scales_is s hL, List.mem_filter, bne_iff_ne] at h
    omega
/-- so many times is no more than what hangs -/
theorem thung_le {w L : List Nat} {B : Nat} (hw : ∀ x ∈ w, x ≤ B) : ∀ n ∈ thung (w.zip L), n ≤ B := by
  intro n hn
  unfold thung at hn
  obtain ⟨p, hp, e⟩ := List.mem_map.mp hn
  have h1 := hw _ (List.of_mem_zip (List.mem_filter.mp hp).1).1
  have h2 : quo p ≤ p.1 := by
    unfold quo
    split
    · exact Nat.div_le_self _ _
    · omega
  omega
theorem thung_len (w L : List Nat) : (thung (w.zip L)).length ≤ w.length := by
  unfold thung
  rw [List.length_map]
  refine Nat.le_trans (List.length_filter_le _ _) ?_
  rw [List.length_zip]
  omega
theorem nearest_le (s : Sy65.St) (hL : ∀ y ∈ Sy65.least s.tree, 1 ≤ y) (hw : ∀ x ∈ s.hung, x ≤ 1000000) : Sy65.nearest s ≤ 1000000 := by
  rcases nearest_best s with ⟨_, h⟩ | ⟨h, _⟩
  · omega
  · rw [scales_is s hL, List.mem_filter] at h
    exact thung_le hw _ h.1
theorem timesAll_le {T : List Nat} (h : ∀ n ∈ T, n ≤ 1000000) : timesAll T ≤ 1000000 := by
  cases T with
  | nil => show 1 ≤ 1000000; decide
  | cons x l =>
    show (if l.all (fun y => y == x) then x else 0) ≤ 1000000
    split
    · exact h x List.mem_cons_self
    · omega
/-- the least and the greatest are the same just where all are -/
theorem timesAll_is {x : Nat} {l : List Nat} {m M : Nat} (hm : m ∈ x :: l) (hM : M ∈ x :: l) (h1 : ∀ y ∈ x :: l, m ≤ y) (h2 : ∀ y ∈ x :: l, y ≤ M) : timesAll (x :: l) = if m = M then x else 0 := by
  show (if l.all (fun y => y == x) then x else 0) = _
  by_cases c : m = M
  · rw [if_pos c]
    have : l.all (fun y => y == x) = true := by
      rw [List.all_eq_true]
      intro y hy
      have a1 := h1 y (List.mem_cons_of_mem _ hy)
      have a2 := h2 y (List.mem_cons_of_mem _ hy)
      have b1 := h1 x List.mem_cons_self
      have b2 := h2 x List.mem_cons_self
      have : y = x := by omega
      simpa using this
    rw [if_pos this]
  · rw [if_neg c]
    by_cases q : l.all (fun y => y == x) = true
    · rw [List.all_eq_true] at q
      have all : ∀ y ∈ x :: l, y = x := fun y hy => by
        rcases List.mem_cons.mp hy with rfl | hy
        · rfl
        · simpa using q y hy
      have := all m hm
      have := all M hM
      omega
    · rw [if_neg q]
end HM
namespace HM
open Sy65 (Tree)
/-! ### all weights that balance are so many times the least ones -/
theorem balanced_rod (l r : Nat) (a b : Tree) (w : List Nat) : Sy65.balanced (.rod l r a b) w =
    ((l * (w.take (Sy65.hooks a)).sum == r * (w.drop (Sy65.hooks a)).sum) && (Sy65.balanced a (w.take (Sy65.hooks a)) && Sy65.balanced b (w.drop (Sy65.hooks a)))) := by
  unfold Sy65.balanced
  rw [← List.all_append]
  rfl
theorem times_times (n c : Nat) (x : List Nat) : Sy65.times n (Sy65.times c x) = Sy65.times (n * c) x := by
  unfold Sy65.times
  rw [List.map_map]
  apply List.map_congr_left
  intro a _
  show n * (c * a) = n * c * a
  rw [Nat.mul_assoc]
theorem times_length (n : Nat) (x : List Nat) : (Sy65.times n x).length = x.length := by
  unfold Sy65.times
  rw [List.length_map]
theorem least_rod (l r : Nat) (a b : Tree) : Sy65.least (.rod l r a b) =
    Sy65.times (r * (Sy65.least b).sum / Nat.gcd (l * (Sy65.least a).sum) (r * (Sy65.least b).sum)) (Sy65.least a) ++ Sy65.times (l * (Sy65.least a).sum / Nat.gcd (l * (Sy65.least a).sum) (r * (Sy65.least b).sum)) (Sy65.least b) := rfl
theorem times_append (n : Nat) (x y : List Nat) : Sy65.times n (x ++ y) = Sy65.times n x ++ Sy65.times n y := by
  unfold Sy65.times
  rw [List.map_append]
theorem cross (p q : Nat) : p * (q / Nat.gcd p q) = q * (p / Nat.gcd p q) := by
  rw [← Nat.mul_div_assoc _ (Nat.gcd_dvd_right p q), ← Nat.mul_div_assoc _ (Nat.gcd_dvd_left p q), Nat.mul_comm]
theorem balanced_times : ∀ (t : Tree) (n : Nat), Sy65.balanced t (Sy65.times n (Sy65.least t)) = true
  | .hook, _ => rfl
  | .rod l r a b, n => by
    rw [balanced_rod, least_rod, times_append, times_times, times_times]
    generalize hc : r * (Sy65.least b).sum / Nat.gcd (l * (Sy65.least a).sum) (r * (Sy65.least b).sum) = c
    generalize hd : l * (Sy65.least a).sum / Nat.gcd (l * (Sy65.least a).sum) (r * (Sy65.least b).sum) = d
    have e1 : (Sy65.times (n * c) (Sy65.least a) ++ Sy65.times (n * d) (Sy65.least b)).take (Sy65.hooks a) = Sy65.times (n * c) (Sy65.least a) := by
      rw [← least_length a, ← times_length (n * c) (Sy65.least a), List.take_left]
    have e2 : (Sy65.times (n * c) (Sy65.least a) ++ Sy65.times (n * d) (Sy65.least b)).drop (Sy65.hooks a) = Sy65.times (n * d) (Sy65.least b) := by
      rw [← least_length a, ← times_length (n * c) (Sy65.least a), List.drop_left]
    rw [e1, e2, balanced_times a, balanced_times b, sum_times, sum_times, Bool.and_self, Bool.and_true, beq_iff_eq]
    have := cross (l * (Sy65.least a).sum) (r * (Sy65.least b).sum)
    rw [hc, hd] at this
    calc l * (n * c * (Sy65.least a).sum) = n * (l * (Sy65.least a).sum * c) := by
          simp only [Nat.mul_assoc, Nat.mul_left_comm, Nat.mul_comm]
      _ = n * (r * (Sy65.least b).sum * d) := by rw [this]
      _ = r * (n * d * (Sy65.least b).sum) := by simp only [Nat.mul_assoc, Nat.mul_left_comm, Nat.mul_comm]
theorem share {n m p q : Nat} (hp : 0 < p) (hq : 0 < q) (h : n * p = m * q) : ∃ k, n = k * (q / Nat.gcd p q) ∧ m = k * (p / Nat.gcd p q) := by
  have hg : 0 < Nat.gcd p q := Nat.gcd_pos_of_pos_left q hp
  have co := Nat.coprime_div_gcd_div_gcd hg
  have ep : p / Nat.gcd p q * Nat.gcd p q = p := Nat.div_mul_cancel (Nat.gcd_dvd_left p q)
  have eq' : q / Nat.gcd p q * Nat.gcd p q = q := Nat.div_mul_cancel (Nat.gcd_dvd_right p q)
  have hqp : 0 < q / Nat.gcd p q := Nat.div_pos (Nat.gcd_le_right _ hq) hg
  generalize Nat.gcd p q = g at hg co ep eq' hqp
  generalize p / g = x at co ep
  generalize q / g = y at co eq' hqp
  have h2 : n * x = m * y := by
    have : n * x * g = m * y * g := by rw [Nat.mul_assoc, Nat.mul_assoc, ep, eq', h]
    exact Nat.eq_of_mul_eq_mul_right hg this
  have dv : y ∣ n := co.symm.dvd_of_dvd_mul_right ⟨m, by rw [h2, Nat.mul_comm]⟩
  obtain ⟨k, hk⟩ := dv
  refine ⟨k, by rw [hk, Nat.mul_comm], ?_⟩
  subst hk
  have : m * y = k * x * y := by rw [← h2, Nat.mul_comm y k, Nat.mul_assoc, Nat.mul_assoc, Nat.mul_comm y x]
  exact Nat.eq_of_mul_eq_mul_right hqp this
theorem balanced_is : ∀ (t : Tree) (w : List Nat), Good t → w.length = Sy65.hooks t → Sy65.balanced t w = true → ∃ n, w = Sy65.times n (Sy65.least t)
  | .hook, w, _, hw, _ => by
    match w, hw with
    | [x], _ => exact ⟨x, by show [x] = [x * 1]; rw [Nat.mul_one]⟩
  | .rod l r a b, w, g, hw, h => by
    obtain ⟨g1, g2, g3⟩ := g
    have hw' : w.length = Sy65.hooks a + Sy65.hooks b := hw
    rw [balanced_rod, Bool.and_eq_true, Bool.and_eq_true, beq_iff_eq] at h
    obtain ⟨h1, h2, h3⟩ := h
    obtain ⟨n, hn⟩ := balanced_is a _ g2 (by rw [List.length_take]; omega) h2
    obtain ⟨m, hm⟩ := balanced_is b _ g3 (by rw [List.length_drop]; omega) h3
    obtain ⟨o1, o2, o3, o4⟩ := okArms_iff.mp g1
    have e : w = w.take (Sy65.hooks a) ++ w.drop (Sy65.hooks a) := (List.take_append_drop _ _).symm
    rw [hn, hm, sum_times, sum_times] at h1
    have hp : 0 < l * (Sy65.least a).sum := Nat.mul_pos o1 (least_pos a g2).2
    have hq : 0 < r * (Sy65.least b).sum := Nat.mul_pos o3 (least_pos b g3).2
    obtain ⟨k, k1, k2⟩ := share (n := n) (m := m) hp hq (by
      calc n * (l * (Sy65.least a).sum) = l * (n * (Sy65.least a).sum) := by simp only [Nat.mul_left_comm]
        _ = r * (m * (Sy65.least b).sum) := h1
        _ = m * (r * (Sy65.least b).sum) := by simp only [Nat.mul_left_comm])
    refine ⟨k, ?_⟩
    rw [least_rod, times_append, times_times, times_times, ← k1, ← k2, ← hn, ← hm]
    exact e
/-! ### orders -/
theorem insert_perm (n : Nat) : ∀ l : List Nat, (Sy65.insert n l).Perm (n :: l)
  | [] => .refl _
  | m :: l => by
    unfold Sy65.insert
    split
    · exact .refl _
    · exact ((insert_perm n l).cons m).trans (.swap n m l)
theorem sorted_fold : ∀ (l acc : List Nat), (l.foldl (fun (m : List Nat) (n : Nat) => Sy65.insert n m) acc).Perm (acc ++ l)
  | [], acc => by rw [List.append_nil]; exact .refl _
  | x :: l, acc => by
    rw [List.foldl_cons]
    refine (sorted_fold l _).trans ?_
    exact ((insert_perm x acc).append_right l).trans List.perm_middle.symm
theorem sorted_perm (l : List Nat) : (Sy65.sorted l).Perm l := sorted_fold l []
theorem nodup_eraseDups : ∀ (k : Nat) (l : List Nat), l.length ≤ k → l.eraseDups.Nodup
  | _, [], _ => by simp
  | 0, _ :: _, h => by simp at h
  | k + 1, a :: l, h => by
    rw [List.eraseDups_cons, List.nodup_cons]
    refine ⟨fun q => ?_, nodup_eraseDups k _ ?_⟩
    · rw [List.mem_eraseDups, List.mem_filter] at q
      simp at q
    · have := List.length_filter_le (fun b => !b == a) l
      simp at h
      omega
theorem orders_mem (t : Tree) : ∀ (f : Nat) (l : List Nat), l.length = f → ∀ r, r ∈ Sy65.orders t f l ↔ r.Perm l
  | 0, l, h, r => by
    have : l = [] := List.eq_nil_of_length_eq_zero h
    subst this
    show r ∈ [[]] ↔ _
    rw [List.mem_singleton, List.perm_nil]
  | f + 1, l, h, r => by
    have hne : l ≠ [] := fun e => by rw [e] at h; cases h
    have he : ¬ l.isEmpty = true := by simpa using hne
    show r ∈ (if l.isEmpty = true then [[]] else (l.eraseDups).flatMap fun (w : Nat) => (Sy65.orders t f (l.erase w)).map fun (r : List Nat) => w :: r) ↔ _
    rw [if_neg he, List.mem_flatMap]
    constructor
    · rintro ⟨w, hw, hr⟩
      rw [List.mem_eraseDups] at hw
      obtain ⟨r', hr', rfl⟩ := List.mem_map.mp hr
      rw [orders_mem t f (l.erase w) (by rw [List.length_erase_of_mem hw, h]; rfl)] at hr'
      exact List.cons_perm_iff_perm_erase.mpr ⟨hw, hr'⟩
    · intro hr
      cases r with
      | nil => exact absurd (List.nil_perm.mp hr) hne
      | cons w r' =>
        obtain ⟨hw, hr'⟩ := List.cons_perm_iff_perm_erase.mp hr
        refine ⟨w, List.mem_eraseDups.mpr hw, List.mem_map.mpr ⟨r', ?_, rfl⟩⟩
        rw [orders_mem t f (l.erase w) (by rw [List.length_erase_of_mem hw, h]; rfl)]
        exact hr'
theorem orders_nodup (t : Tree) : ∀ (f : Nat) (l : List Nat), (Sy65.orders t f l).Nodup
  | 0, l => by
    show [([] : List Nat)].Nodup
    simp
  | f + 1, l => by
    show (if l.isEmpty = true then [[]] else (l.eraseDups).flatMap fun (w : Nat) => (Sy65.orders t f (l.erase w)).map fun (r : List Nat) => w :: r).Nodup
    split
    · simp
    · unfold List.Nodup
      rw [List.pairwise_flatMap]
      refine ⟨fun w _ => ?_, (nodup_eraseDups _ l (Nat.le_refl _)).imp fun {a b} hab x hx y hy e => ?_⟩
      · rw [List.pairwise_map]
        exact (orders_nodup t f _).imp fun h e => h (List.cons.inj e).2
      · obtain ⟨x', _, rfl⟩ := List.mem_map.mp hx
        obtain ⟨y', _, rfl⟩ := List.mem_map.mp hy
        exact hab (List.cons.inj e).1
theorem all_same {A : Type} {x : A} : ∀ {l : List A}, l.Nodup → (∀ y ∈ l, y = x) → (x ∈ l → l = [x]) ∧ (x ∉ l → l = [])
  | [], _, _ => ⟨fun h => (List.not_mem_nil h).elim, fun _ => rfl⟩
  | [y], _, h => by
    have := h y (by simp)
    subst this
    exact ⟨fun _ => rfl, fun q => absurd (by simp) q⟩
  | y :: z :: l, hn, h => by
    have h1 := h y (by simp)
    have h2 := h z (by simp)
    rw [List.nodup_cons] at hn
    exact absurd (by rw [h1, h2]; simp) hn.1
/-- the one way there can be -/
def theWay (t : Tree) (l : List Nat) : List Nat := Sy65.times (l.sum / (Sy65.least t).sum) (Sy65.least t)
theorem ways_is (s : Sy65.St) (l : List Nat) (g : Good s.tree) (hl : l.length = Sy65.hooks s.tree) :
    ((theWay s.tree l).Perm l → Sy65.ways s l = [theWay s.tree l]) ∧ (¬ (theWay s.tree l).Perm l → Sy65.ways s l = []) := by
  have hs := sorted_perm l
  have hm := orders_mem s.tree l.length (Sy65.sorted l) hs.length_eq
  have hn := orders_nodup s.tree l.length (Sy65.sorted l)
  have nd : (Sy65.ways s l).Nodup := List.Pairwise.filter _ hn
  have same : ∀ y ∈ Sy65.ways s l, y = theWay s.tree l := fun y hy => by
    obtain ⟨h1, h2⟩ := List.mem_filter.mp hy
    have p := ((hm y).mp h1).trans hs
    obtain ⟨n, e⟩ := balanced_is s.tree y g (by rw [p.length_eq, hl]) h2
    have hsum := p.sum_nat
    have pos := (least_pos s.tree g).2
    unfold theWay
    rw [← hsum, e, sum_times, Nat.mul_div_cancel _ pos]
  have mem : theWay s.tree l ∈ Sy65.ways s l ↔ (theWay s.tree l).Perm l := by
    show _ ∈ (Sy65.orders s.tree l.length (Sy65.sorted l)).filter _ ↔ _
    rw [List.mem_filter, hm]
    constructor
    · rintro ⟨h, _⟩
      exact h.trans hs
    · intro h
      exact ⟨h.trans hs.symm, balanced_times _ _⟩
  obtain ⟨a1, a2⟩ := all_same nd same
  exact ⟨fun h => a1 (mem.mpr h), fun h => a2 fun q => h (mem.mp q)⟩
end HM
namespace HM
open Sy65 (Tree)
/-! ### a mobile's numbers from its rods -/
def shapeStep (s : List Nat × Nat) (p : Rd) : List Nat × Nat := (s.1 ++ List.replicate (p.f - s.2) 0 ++ [p.l, p.r], p.f)
theorem shape_rods : ∀ (t : Tree) (f : Nat) (sh : List Nat) (d : Nat), d ≤ f →
    d ≤ ((rodsOf f t).foldl shapeStep (sh, d)).2 ∧ ((rodsOf f t).foldl shapeStep (sh, d)).2 ≤ f + Sy65.hooks t ∧
    ((rodsOf f t).foldl shapeStep (sh, d)).1 ++ List.replicate (f + Sy65.hooks t - ((rodsOf f t).foldl shapeStep (sh, d)).2) 0 = sh ++ List.replicate (f - d) 0 ++ Sy65.numbers t
  | .hook, f, sh, d, h => by
    refine ⟨Nat.le_refl _, by show d ≤ f + 1; omega, ?_⟩
    show sh ++ List.replicate (f + 1 - d) 0 = sh ++ List.replicate (f - d) 0 ++ [0]
    rw [show f + 1 - d = (f - d) + 1 by omega, List.replicate_succ', List.append_assoc]
  | .rod l r a b, f, sh, d, h => by
    have e : (rodsOf f (.rod l r a b)).foldl shapeStep (sh, d) = (rodsOf (f + Sy65.hooks a) b).foldl shapeStep ((rodsOf f a).foldl shapeStep (sh ++ List.replicate (f - d) 0 ++ [l, r], f)) := by
      show (rodsOf f a ++ rodsOf (f + Sy65.hooks a) b).foldl shapeStep _ = _
      rw [List.foldl_append]
      rfl
    rw [e]
    obtain ⟨a1, a2, a3⟩ := shape_rods a f (sh ++ List.replicate (f - d) 0 ++ [l, r]) f (Nat.le_refl _)
    generalize (rodsOf f a).foldl shapeStep (sh ++ List.replicate (f - d) 0 ++ [l, r], f) = x at a1 a2 a3
    obtain ⟨x1, x2⟩ := x
    dsimp only at a1 a2 a3
    obtain ⟨b1, b2, b3⟩ := shape_rods b (f + Sy65.hooks a) x1 x2 a2
    generalize (rodsOf (f + Sy65.hooks a) b).foldl shapeStep (x1, x2) = y at b1 b2 b3
    obtain ⟨y1, y2⟩ := y
    dsimp only at b1 b2 b3 ⊢
    have eh : f + Sy65.hooks (.rod l r a b) = f + Sy65.hooks a + Sy65.hooks b := by
      show f + (Sy65.hooks a + Sy65.hooks b) = _
      omega
    refine ⟨by omega, by omega, ?_⟩
    rw [eh, b3, a3]
    show _ = sh ++ List.replicate (f - d) 0 ++ (l :: r :: (Sy65.numbers a ++ Sy65.numbers b))
    rw [Nat.sub_self]
    simp
theorem shape_is (t : Tree) : ((rodsOf 0 t).foldl shapeStep ([], 0)).1 ++ List.replicate (Sy65.hooks t - ((rodsOf 0 t).foldl shapeStep ([], 0)).2) 0 = Sy65.numbers t := by
  have := (shape_rods t 0 [] 0 (Nat.le_refl _)).2.2
  rw [Nat.zero_add] at this
  exact this
theorem shape_len : ∀ (ps : List Rd) (s : List Nat × Nat), (∀ p ∈ ps, p.f ≤ 7) → (ps.foldl shapeStep s).1.length ≤ s.1.length + 9 * ps.length
  | [], s, _ => by simp
  | p :: ps, s, h => by
    have h1 := h p List.mem_cons_self
    have ih := shape_len ps (shapeStep s p) fun q hq => h q (List.mem_cons_of_mem _ hq)
    rw [List.foldl_cons, List.length_cons]
    have : (shapeStep s p).1.length = s.1.length + (p.f - s.2) + 2 := by
      unfold shapeStep
      simp
      omega
    omega
theorem numbers_length : ∀ t : Tree, (Sy65.numbers t).length = Sy65.hooks t + 2 * Sy65.rods t
  | .hook => rfl
  | .rod l r a b => by
    show (Sy65.numbers a ++ Sy65.numbers b).length + 1 + 1 = Sy65.hooks a + Sy65.hooks b + 2 * (Sy65.rods a + Sy65.rods b + 1)
    rw [List.length_append, numbers_length a, numbers_length b]
    omega
/-! ### mend: at how many hooks it is another -/
/-- the first hooks at which the weights differ -/
def chg (w W : List Nat) (i : Nat) : List Nat := (List.range i).filter fun j => W[j]? != w[j]?
theorem chg_succ (w W : List Nat) (i : Nat) : chg w W (i + 1) = if (W[i]? != w[i]?) = true then chg w W i ++ [i] else chg w W i := by
  unfold chg
  rw [List.range_succ, List.filter_append, List.filter_cons, List.filter_nil]
  split
  · rfl
  · rw [List.append_nil]
theorem chg_le (w W : List Nat) (i : Nat) : (chg w W i).length ≤ i := by
  unfold chg
  refine Nat.le_trans (List.length_filter_le _ _) ?_
  rw [List.length_range]
  exact Nat.le_refl _
theorem chg_len : ∀ w W : List Nat, w.length = W.length → (chg w W w.length).length + ((w.zip W).filter fun (x : Nat × Nat) => x.1 == x.2).length = w.length
  | [], _, _ => rfl
  | a :: w, [], h => by cases h
  | a :: w, b :: W, h => by
    have ih := chg_len w W (by simpa using h)
    have e : (chg (a :: w) (b :: W) (a :: w).length).length = (if (b != a) = true then 1 else 0) + (chg w W w.length).length := by
      unfold chg
      rw [List.length_cons, List.range_succ_eq_map, List.filter_cons, List.filter_map]
      have : ((fun j => (b :: W)[j]? != (a :: w)[j]?) ∘ Nat.succ) = fun j => W[j]? != w[j]? := rfl
      rw [this]
      have e0 : ((b :: W)[0]? != (a :: w)[0]?) = (b != a) := by
        show (some b != some a) = (b != a)
        by_cases q : b = a
        · subst q; simp
        · rw [bne_iff_ne.mpr q, bne_iff_ne]
          intro z
          exact q (Option.some.inj z)
      rw [e0]
      split
      · rw [List.length_cons, List.length_map]
        omega
      · rw [List.length_map]
        omega
    rw [e, List.zip_cons_cons, List.filter_cons, List.length_cons]
    by_cases q : a = b
    · subst q
      have q1 : (a == a) = true := by simp
      have q2 : (a != a) = false := by simp
      dsimp only
      rw [q1, q2, if_neg (by decide), if_pos rfl, List.length_cons]
      omega
    · have q1 : (a == b) = false := by simpa using q
      have q2 : (b != a) = true := bne_iff_ne.mpr (Ne.symm q)
      dsimp only
      rw [q1, q2, if_pos rfl, if_neg (by decide)]
      omega
theorem changed_is (s : Sy65.St) (n : Nat) (h : s.hung.length = (Sy65.least s.tree).length) :
    (chg s.hung (Sy65.times n (Sy65.least s.tree)) s.hung.length).length = s.hung.length - Sy65.right s n := by
  have := chg_len s.hung (Sy65.times n (Sy65.least s.tree)) (by rw [times_length]; exact h)
  unfold Sy65.right
  omega
/-! ### missing: at another one nothing hangs -/
theorem any_past {m : Nat} : ∀ (l : List Nat) (k : Nat), m < k → ((l.zipIdx k).any fun (x : Nat × Nat) => x.2 != m && x.1 == 0) = decide (0 < l.count 0)
  | [], _, _ => rfl
  | a :: l, k, h => by
    rw [List.zipIdx_cons, List.any_cons, any_past l (k + 1) (by omega), List.count_cons]
    have : (k != m) = true := by
      rw [bne_iff_ne]
      omega
    dsimp only
    rw [this, Bool.true_and, Bool.eq_iff_iff, Bool.or_eq_true, decide_eq_true_iff, decide_eq_true_iff]
    split
    · rename_i q
      rw [q]
      simp
    · rename_i q
      simp only [q]
      simp
theorem any_other : ∀ (l : List Nat) (h k : Nat), h < l.length → ((l.zipIdx k).any fun (x : Nat × Nat) => x.2 != h + k && x.1 == 0) = decide (1 < (l.set h 0).count 0)
  | [], h, _, q => by cases q
  | a :: l, 0, k, _ => by
    rw [List.zipIdx_cons, List.any_cons, Nat.zero_add, any_past l (k + 1) (by omega), List.set_cons_zero, List.count_cons_self]
    have : (k != k) = false := by simp
    dsimp only
    rw [this, Bool.false_and, Bool.false_or, Bool.eq_iff_iff, decide_eq_true_iff, decide_eq_true_iff]
    omega
  | a :: l, h + 1, k, q => by
    have q' : h < l.length := by simpa using q
    have ih := any_other l h (k + 1) q'
    have e : h + 1 + k = h + (k + 1) := by omega
    have pos : 0 < (l.set h 0).count 0 := List.count_pos_iff.mpr (List.mem_set q' 0)
    rw [List.zipIdx_cons, List.any_cons, e, ih, List.set_cons_succ, List.count_cons]
    have : (k != h + (k + 1)) = true := by
      rw [bne_iff_ne]
      omega
    dsimp only
    rw [this, Bool.true_and, Bool.eq_iff_iff, Bool.or_eq_true, decide_eq_true_iff, decide_eq_true_iff]
    split
    · rename_i z
      rw [z]
      constructor
      · intro _
        omega
      · intro _
        left
        rfl
    · rename_i z
      simp only [z]
      simp
theorem other_is (w : List Nat) {h : Nat} (q : h < w.length) : (w.zipIdx.any fun (x : Nat × Nat) => x.2 != h && x.1 == 0) = decide (1 < (w.set h 0).count 0) := any_other w h 0 q
/-! ### wants -/
theorem full_is (s : Sy65.St) : Sy65.full s = decide (0 ∉ s.hung) := by
  unfold Sy65.full
  rw [Bool.eq_iff_iff, List.all_eq_true, decide_eq_true_iff]
  constructor
  · intro h q
    have := h 0 q
    simp at this
  · intro h x hx
    rw [bne_iff_ne]
    intro e
    subst e
    exact h hx
end HM
/-! list(reversed(xs)), xs a list: a new list -/
namespace Own
open PySem PySem.Spec PyProof.Rows L2
section
variable {prog : Program} {w : World} {A : Around} {E : Value → Shared → Prop} {s : Shared}
theorem extend_rev {R : Result → Shared → Prop} {it l : Addr} {items : Array Value} (S : Addr) (c₀ : Nat) (res : Value) (hh : A.handled = none) (hit : s.heap.IsRevIter it l ((items.size : Int) - 1)) (hl : s.heap.IsList l items) (hne : l ≠ it) (hSi : S ≠ it) (hSl : S ≠ l) (hn : items.size ≤ sizeLine)
    (hS : s.heap.get? S = some { cls := .type "list", data := .seq #[] c₀ })
    (hR : ∀ (h' : Heap) (tk : Nat) (acc : Array Value) (c' : Nat), (∀ b o, b ≠ it → b ≠ S → s.heap.get? b = some o → h'.get? b = some o) → h'.get? S = some { cls := .type "list", dict := none, data := .seq acc c', slots := #[] } → ItemsOf (fun i v => items[items.size - 1 - i]? = some v) acc items.size →
      R (.ok (.ret res)) { s with heap := h', toks := tk }) :
    wpAny (model prog w) A.in1 (Builtin.List.listExtendWith (.ref S) (.ref it) res)
      (fun fin s' => match fin with | .done f => R (.ok f) s' | .again c' => c'.quiet = true ∧ codeAny (model prog w) A c' R s') (fun e s' => R (.error e) s') s := by
  have W := (Walks.listRev (prog := prog) (w := w) (A := A.in1) hh it l hne items).toS
  have hSf : S ∉ [it, l] := by simp only [List.mem_cons, List.not_mem_nil, or_false, not_or]; exact ⟨hSi, hSl⟩
  have hT : s.TypeIs (.ref it) "list_reverseiterator" := Heap.IsRevIter.typeIs hit
  have h1 : Builtin.List.listSameRef (.ref S) (.ref it) = false := by simp [Builtin.List.listSameRef, hSi]
  unfold Builtin.List.listExtendWith
  refine wpAny_bind (wpAny_typeOf hT ?_)
  rw [if_neg (by rw [h1]; decide)]
  refine wpAny_bind (wpAny_pyIter_revIter hit ?_)
  refine wpAny_bind (wpAny_holding ?_)
  unfold Builtin.List.listLengthHint
  refine wpAny_bind (wpAny_specialOf hT RT.nolen_lri ?_)
  show wpAny _ A.in1 (specialOf (Value.ref it) (Str.ofString "__length_hint__") >>= _) _ _ _
  refine wpAny_bind (wpAny_specialOf hT RT.hint_lri ?_)
  generalize hid : ("list_reverseiterator.__length_hint__" : String) = id0
  wp_delta
  rw [show splitId id0 = some ("list_reverseiterator", "__length_hint__") from by subst hid; decide +kernel]
  subst hid
  refine wpAny_bind (wpAny_isInstance (b := true) hT (by rw [isSubtype_type]; kernel_rfl) ?_)
  refine wpAny_pure ?_
  rw [if_neg (by decide)]
  have e0 : ((items.size : Nat) : Int) - 1 - ((0 : Nat) : Int) = (items.size : Int) - 1 := by omega
  refine wpAny_pure ⟨plainId_quiet F.plain_extend_loop _, codeAny_extend_loopS W hn _ hSf _ items.size 0 _ _ _ rfl (Nat.zero_le _) ⟨Nat.zero_le _, by rw [e0]; exact hit, hl⟩ hS (ItemsOf.nil _) fun s' acc' c' hm hS' hacc => ?_⟩
  rw [Moved.eq_with hm] at hS' ⊢
  refine hR s'.heap s'.toks acc' c' (fun b o hb hb' e => hm.heap b o (fun hmem => ?_) e) hS' hacc
  rcases List.mem_cons.mp hmem with e' | hmem
  · exact hb' e'
  · exact hb (List.mem_singleton.mp hmem)
theorem init_rev {R : Result → Shared → Prop} {it l : Addr} {items : Array Value} (S : Addr) (hh : A.handled = none) (hit : s.heap.IsRevIter it l ((items.size : Int) - 1)) (hl : s.heap.IsList l items) (hne : l ≠ it) (hSi : S ≠ it) (hSl : S ≠ l) (hn : items.size ≤ sizeLine)
    (hS : s.heap.get? S = some { cls := .type "list", data := .seq #[] })
    (hR : ∀ (h' : Heap) (tk : Nat) (acc : Array Value) (c' : Nat), (∀ b o, b ≠ it → b ≠ S → s.heap.get? b = some o → h'.get? b = some o) → h'.get? S = some { cls := .type "list", dict := none, data := .seq acc c', slots := #[] } → ItemsOf (fun i v => items[items.size - 1 - i]? = some v) acc items.size →
      R (.ok (.ret .none)) { s with heap := h', toks := tk }) :
    wpAny (model prog w) A.in1 (Builtin.«list.__init__» ⟨[.ref S, .ref it], []⟩)
      (fun fin s' => match fin with | .done f => R (.ok f) s' | .again c' => c'.quiet = true ∧ codeAny (model prog w) A c' R s') (fun e s' => R (.error e) s') s := by
  show wpAny _ A.in1 (do let old ← Builtin.List.listItems (.ref S); Builtin.List.listUpdate (.ref S) (fun _ => #[]); letGo old.toList.reverse; Builtin.List.listExtendWith (.ref S) (.ref it) .none) _ _ s
  refine wpAny_bind ?_
  unfold Builtin.List.listItems
  refine wpAny_bind (wpAny_seqItems hS rfl (wpAny_pure ?_))
  show wpAny _ A.in1 (updateSeq S (fun _ => #[]) >>= fun _ => letGo (#[] : Array Value).toList.reverse >>= fun _ => Builtin.List.listExtendWith (.ref S) (.ref it) .none) _ _ s
  refine wpAny_bind (wpAny_updateSeq hS rfl ?_)
  have hS₂ := Heap.get?_update_self (Obj.mapSeq (fun _ => (#[] : Array Value))) hS rfl
  have oth : ∀ b o, b ≠ S → s.heap.get? b = some o → (s.heap.update S (Obj.mapSeq (fun _ => (#[] : Array Value)))).get? b = some o :=
    fun b o hb e => (Heap.get?_update_other _ _ (Ne.symm hb)).trans e
  refine wpAny_bind (wpAny_letGo ?_)
  refine extend_rev (A := A) S _ .none hh (hit.at fun o e => oth it o (Ne.symm hSi) e) ?_ hne hSi hSl hn hS₂ fun h' tk acc c' k e hi => ?_
  · obtain ⟨o, ho, r⟩ := hl
    exact ⟨o, oth l o (Ne.symm hSl) ho, r⟩
  · exact hR h' tk acc c' (fun b o n1 n2 z => k b o n1 n2 (oth b o n2 z)) e hi
theorem call_list_rev {it l : Addr} {items : Array Value} {Q : Value → Shared → Prop} (hh : A.handled = none) (hit : s.heap.IsRevIter it l ((items.size : Int) - 1)) (hl : s.heap.IsList l items) (hne : l ≠ it) (hn : items.size ≤ sizeLine)
    (hQ : ∀ (h' : Heap) (tk : Nat) (acc : Array Value) (c' : Nat), (∀ b o, b ≠ it → s.heap.get? b = some o → h'.get? b = some o) → h'.get? s.heap.objs.size = some { cls := .type "list", dict := none, data := .seq acc c', slots := #[] } → ItemsOf (fun i v => items[items.size - 1 - i]? = some v) acc items.size →
      Q (.ref s.heap.objs.size) { s with heap := h', toks := tk }) :
    wpAny (model prog w) A (call (.type "list") [.ref it]) Q E s := by
  obtain ⟨oi, hoi, _⟩ := id hit
  obtain ⟨ol, hol, _⟩ := id hl
  have hSi : s.heap.objs.size ≠ it := Nat.ne_of_gt (Heap.lt_size hoi)
  have hSl : s.heap.objs.size ≠ l := Nat.ne_of_gt (Heap.lt_size hol)
  refine callType_codes (Q₁ := fun obj s₁ => obj = .ref s.heap.objs.size ∧ s₁ = { s with heap := s.heap.push { cls := .type "list", data := .seq #[] } }) F.called_list (F.typeCall_list_1 _) F.entry_list_init
    (code_list_new _ ⟨rfl, rfl⟩) fun obj s₁ h₁ => ?_
  obtain ⟨rfl, rfl⟩ := h₁
  have hS : (s.heap.push { cls := .type "list", data := .seq #[] }).get? s.heap.objs.size = some { cls := .type "list", data := .seq #[] } := Heap.get?_push_size _ rfl
  refine ⟨⟨_, hS, rfl⟩, F.args_list_init_2 _ _, init_rev (A := A.in1) (s := { s with heap := s.heap.push { cls := .type "list", data := .seq #[] } }) s.heap.objs.size hh (hit.at fun o e => Heap.get?_push_of_some _ e) (hl.push _) hne hSi hSl hn hS fun h' tk acc c' k e hi => ?_⟩
  exact ⟨rfl, hQ h' tk acc c' (fun b o n1 z => k b o n1 (Nat.ne_of_lt (Heap.lt_size z)) (Heap.get?_push_of_some _ z)) e hi⟩
end
/-- list(reversed(x)), x a list: a new list -/
def tLstRev (K : PySem.W.Frag) (te : TE) : TE := fun σ H Q => te σ H fun v H1 => ∃ (a : Addr) (xs : List V), v = .ref a ∧ SqL K H1 a xs ∧ ∀ q, H1 q = none → Q (.ref q) (upd H1 q (.lst xs.reverse))
section
variable {X : Cx}
theorem pe_lstRev {e : Expr} {te : TE} {p p2 pos pos2 : Pos} (hc : X.calm = true) (hg : Gl X "list") (hm : X.mg "list" = none) (hg2 : Gl X "reversed") (hm2 : X.mg "reversed" = none) (he : PE X e te)
    (hs : starEach [e] X.env = (false, eval e X.env) :: starEach [] X.env := by rfl)
    (hs2 : starEach [.Call (.Name "reversed" p2) [e] [] pos2] X.env = (false, eval (.Call (.Name "reversed" p2) [e] [] pos2) X.env) :: starEach [] X.env := by rfl) :
    PE X (.Call (.Name "list" p) [.Call (.Name "reversed" p2) [e] [] pos2] [] pos) (tLstRev X.K te) := by
  refine ⟨fun pins s σ H Q I h => ?_⟩
  refine Call_ (ld_blt I hg hm boot_list (PyProof.Rows.callWith_type1 (args_cons (Call_ (ld_blt I hg2 hm2 PyProof.Rows.boot_reversed (PyProof.Rows.callWith_type1 (args_cons (thn (he.run pins s σ H _ I h) fun u s1 ⟨v, H1, I1, r1, q1⟩ => args_nil ?_) hs) hs rfl))) hs2) hs2 rfl))
  obtain ⟨a, xs, ev, hq, q⟩ := q1
  subst ev
  obtain rfl : u = Value.ref a := r1
  obtain ⟨its, rv, p', hz⟩ := I1.list hq
  refine call_reversed_list p'.isList (args_nil ?_)
  have hl := p'.isList
  obtain ⟨ol, hol, _⟩ := id hl
  have hne : a ≠ s1.heap.objs.size := Nat.ne_of_lt (Heap.lt_size hol)
  have hn : its.toArray.size ≤ sizeLine := by rw [List.size_toArray, ← rv.length]; exact hz
  refine call_list_rev (s := { s1 with heap := s1.heap.push (revObj a ((its.toArray.size : Int) - 1)) }) (I1.ok.hd hc) ⟨_, Heap.get?_push_size _ rfl, rfl, rfl⟩ (hl.push _) hne hn fun h' tk acc c' hk e hi => ?_
  have hsz : s1.heap.objs.size ≤ (s1.heap.push (revObj a ((its.toArray.size : Int) - 1))).objs.size := by
    unfold Heap.push
    simp
  refine ⟨.ref (s1.heap.push (revObj a ((its.toArray.size : Int) - 1))).objs.size, _, I1.laid (t' := tk) (fun b o z => hk b o (Nat.ne_of_lt (Heap.lt_size z)) (Heap.get?_push_of_some _ z)) hsz
    (show ObjOk X.prog X.w _ _ _ (.lst xs.reverse) from ⟨by rw [List.length_reverse]; exact hz, acc.toList, c', RT.vals_rev rv hi, by rw [Array.toArray_toList]; exact e⟩), rfl, q _ (I1.hok.fresh hsz)⟩
end
end Own
namespace Own
open PySem PySem.Spec PyProof.Rows L2
section
variable {X : Cx}
/-- xs[i], 0 ≤ i, by values -/
def rGetL (K : PySem.W.Frag) : V → V → Hp → VK → Prop := fun o i H Q => ∃ p xs k z, o = .ref p ∧ i = .int k ∧ SqL K H p xs ∧ 0 ≤ k ∧ xs[k.toNat]? = some z ∧ Q z H
theorem get_list : PGet X (rGetL X.K) := by
  intro pins s σ H o i ov iv Q I ro ri h
  obtain ⟨p, xs, k, z, rfl, rfl, hq, h0, hz, q⟩ := h
  cases ro
  obtain ⟨t, rfl⟩ := ri
  obtain ⟨its, r, pl, hl⟩ := I.list hq
  obtain ⟨w, ew, rw'⟩ := r.get hz
  have hn := line63
  have hlt : k.toNat < xs.length := (List.getElem?_eq_some_iff.mp hz).1
  exact wpAny_getItem_list pl.isList h0 (by omega) (by simpa using ew) ⟨z, H, I, rw', q⟩
theorem ip_mul : PIp X .Mult (rI CMul fun i j => .int (i * j)) := iop_mul
theorem ip_mulW : PIp X .Mult (rI CMulW fun i j => .int (i * j)) := opI fun _ _ _ _ _ _ _ hc q => imul_int q hc.ok
/-- any(xs), xs a list of whole numbers -/
def rAnyI (K : PySem.W.Frag) : List V → Hp → VK → Prop := fun vs H Q => ∃ (a : Addr) (ns : List Int), vs = [V.ref a] ∧ SqL K H a (ns.map V.int) ∧ Q (.bl (ns.any fun n => n != 0)) H
theorem any_rangeI : ∀ ns : List Int, (List.range ns.length).any (fun i => ns.getD i 0 != 0) = ns.any fun n => n != 0
  | [] => rfl
  | b :: bs => by
    rw [List.length_cons, List.range_succ_eq_map, List.any_cons, List.any_map, List.any_cons, ← any_rangeI bs]
    all_goals rfl
theorem truth_ints {prog : Program} {w : World} {A : Around} {ns : List Int} {its : List Value} (e : IntsAre its ns) :
    TruthOf prog w A (fun i v => its.toArray[i]? = some v) (fun i => ns.getD i 0 != 0) := fun i v s Q E hv hq => by
  have hv' : its[i]? = some v := by simpa using hv
  obtain ⟨t, rfl⟩ := e.int_at i v hv'
  exact PyProof.Rows.truthy_int hq
theorem cr_anyI (hc : X.calm = true) : CallR X (.builtin "any") (rAnyI X.K) := by
  intro pins s σ H vs us Q I r h
  obtain ⟨a, ns, rfl, hs, q⟩ := h
  obtain ⟨its, rv, hl, _⟩ := I.list hs
  rw [Vals.ref1 r]
  have hb := rv.ints
  have hlen := rv.length
  refine call_any_walk (iter_any hl.isList fun s₂ e2 st hne => ?_)
  subst e2
  refine ⟨_, _, _, _, _, _, _, rfl, Walks.list (A := X.A.in1) (I.ok.hd hc) _ a hne its.toArray, st, truth_ints hb, fun h' tk hk => ?_⟩
  refine ⟨.bl _, H, I.kept fun b o eo => hk b o (fun hmem => ?_) (Heap.get?_push_of_some _ eo), ?_, q⟩
  · rcases List.mem_cons.mp hmem with e1 | hmem
    · exact absurd (e1 ▸ Heap.lt_size eo) (Nat.lt_irrefl _)
    · cases hmem
  · show Value.bool _ = Value.bool _
    rw [List.length_map] at hlen
    rw [← any_rangeI, List.size_toArray, ← hlen]
end
end Own
namespace HMP
open PySem PySem.Spec PyProof.Rows L2
/-! ### the text -/
def top (i : Nat) : Stmt := PySem.Challenge.pw_hungmobile_s01_answers.main.body.getD i (.Pass ⟨0, 0, 0, 0⟩)
abbrev sRodI : Stmt := inClass (top 4) 0
abbrev sAtL : Stmt := inClass (top 4) 1
abbrev sAtR : Stmt := inClass (top 4) 2
abbrev sRodL : Stmt := inClass (top 4) 3
abbrev sRodR : Stmt := inClass (top 4) 4
abbrev sMobI : Stmt := inClass (top 5) 0
abbrev sBegins : Stmt := inClass (top 5) 1
abbrev sHang : Stmt := inClass (top 5) 2
abbrev sArms : Stmt := inClass (top 5) 3
abbrev sPulls : Stmt := inClass (top 5) 4
abbrev sLeast : Stmt := inClass (top 5) 5
abbrev sScale : Stmt := inClass (top 5) 6
abbrev sUp : Stmt := inClass (top 5) 7
abbrev sMend : Stmt := inClass (top 5) 8
abbrev sWants : Stmt := inClass (top 5) 9
abbrev sWays : Stmt := inClass (top 5) 10
abbrev sMissing : Stmt := inClass (top 5) 11
abbrev sState : Stmt := inClass (top 5) 12
abbrev sBal : Stmt := inClass (top 5) 13
abbrev sWithRow : Stmt := top 6
abbrev sAsRow : Stmt := top 7
abbrev sMayBe : Stmt := top 8
abbrev sTells : Stmt := top 9
abbrev sRodsTold : Stmt := top 10
abbrev sShape : Stmt := top 11
abbrev sLeastW : Stmt := top 12
abbrev sHung : Stmt := top 13
abbrev sAll : Stmt := top 14
abbrev sMost : Stmt := top 15
abbrev sGcd : Stmt := top 16
abbrev sReadI : Stmt := inClass (top 18) 0
abbrev sHasMore : Stmt := inClass (top 18) 1
abbrev sTake : Stmt := inClass (top 18) 2
abbrev sTakeRow : Stmt := inClass (top 18) 3
abbrev sAnswers : Stmt := top 19
abbrev sNext : Stmt := top 20
abbrev sBare : Stmt := top 21
/-! ### values -/
/-- a list of whole numbers, none below 0 -/
def nV (w : List Nat) : List V := w.map fun (n : Nat) => V.int (n : Int)
theorem nV_ints (w : List Nat) : nV w = (w.map fun (n : Nat) => (n : Int)).map V.int := by
  unfold nV
  rw [List.map_map]
  rfl
theorem nV_length (w : List Nat) : (nV w).length = w.length := by
  unfold nV
  rw [List.length_map]
theorem nV_get {w : List Nat} {i n : Nat} (h : w[i]? = some n) : (nV w)[i]? = some (V.int (n : Int)) := by
  unfold nV
  rw [List.getElem?_map, h]
  rfl
theorem nV_set (w : List Nat) (i n : Nat) : (nV w).set i (V.int (n : Int)) = nV (w.set i n) := by
  unfold nV
  rw [List.map_set]
theorem nV_app (a b : List Nat) : nV a ++ nV b = nV (a ++ b) := by
  unfold nV
  rw [List.map_append]
theorem sum_int : ∀ w : List Nat, (w.map fun (n : Nat) => (n : Int)).sum = ((w.sum : Nat) : Int)
  | [] => rfl
  | x :: w => by
    rw [List.map_cons, List.sum_cons, List.sum_cons, sum_int w, Int.natCast_add]
theorem upd_get {H : Hp} {a : Addr} {o : HO} : upd H a o a = some o := upd_same
theorem keep_new {H : Hp} {p : Addr} {o : HO} (h : H p = none) : Same H (upd H p o) := fun b u e => by
  by_cases q : b = p
  · subst q
    rw [h] at e
    cases e
  · rw [upd_ne q]
    exact e
end HMP
namespace HMP
open PySem PySem.Spec PyProof.Rows L2
section
variable {P : Program} {w : World} {K : PySem.W.Frag} {mg : Str → Option Value} {base : Heap}
/-! ### greatest_divisor -/
def spGcd : Sp := fun vs H Q _ => ∃ a b : Nat, vs = [.int (a : Int), .int (b : Int)] ∧ Q (.int ((Nat.gcd a b : Nat) : Int)) H
theorem scGcd : FnScope ["one", "other", "rest"] ["one", "other"] (defScope sGcd) := ⟨rfl, rfl, rfl, by decide +kernel, rfl, by decide +kernel, by decide +kernel⟩
theorem ok_gcd {f : Addr} {fd : FuncData} (F : Fun K "greatest_divisor" "greatest_divisor" sGcd f fd) : FnOk P w K mg base CX0 1 f fd ["one", "other"] spGcd := by
  refine F.ok scGcd (fun vs H Q E h => ?_) (fun cdv A outer s H vs Q E hr h => ⟨_, pss_cons (ps_while PassesOwn.never (pt_cmpR op_gt (pv 1) pe_int (nomark _))
      (pss_cons (ps_set (i := 2) scGcd.nd rfl (Or.inl rfl) (pe_op op_mod (pv 0) (pv 1)))
      (pss_cons (ps_set (i := 0) scGcd.nd rfl (Or.inl rfl) (pv 1))
      (pss_one (ps_set (i := 1) scGcd.nd rfl (Or.inl rfl) (pv 2))))))
    (pss_one (ps_ret (pv 0))), ?_⟩)
  · obtain ⟨a, b, rfl, _⟩ := h
    rfl
  · obtain ⟨a, b, rfl, k⟩ := h
    refine ⟨fun m σ H' => H' = H ∧ ∃ (x y : Nat) (v : Option V), σ = [some (.int (x : Int)), some (.int (y : Int)), v] ∧ m = y ∧ Nat.gcd x y = Nat.gcd a b, ⟨b, rfl, a, b, none, rfl, rfl, rfl⟩, ?_⟩
    rintro m σ H' ⟨rfl, x, y, v, rfl, rfl, e⟩
    refine ⟨_, rfl, _, _, rfl, rfl, _, rfl, ?_⟩
    refine ite2 (fun c => ?_) (fun c => ?_)
    · have c' : (0 : Int) < (m : Int) := of_decide_eq_true c
      refine ⟨fun σ' H'' => H'' = H' ∧ ∃ (x' : Nat) (v : Option V), σ' = [some (.int (m : Int)), some (.int ((x % m : Nat) : Int)), v], ?_, ?_⟩
      · rintro σ' H'' ⟨rfl, x', v', rfl⟩
        refine ⟨x % m, Nat.mod_lt _ (by omega), rfl, m, x % m, v', rfl, rfl, ?_⟩
        rw [Nat.gcd_comm, ← Nat.gcd_rec, Nat.gcd_comm]
        exact e
      · refine ⟨_, rfl, _, rfl, _, _, rfl, rfl, c', ?_⟩
        refine ⟨_, rfl, _, rfl, ?_⟩
        exact ⟨rfl, x, some (.int ((x % m : Nat) : Int)), by rw [Int.natCast_emod]; rfl⟩
    · have c' : ¬ ((0 : Int) < (m : Int)) := fun h => c (decide_eq_true h)
      have : m = 0 := by omega
      subst this
      refine ⟨_, rfl, ?_⟩
      rw [Nat.gcd_zero_right] at e
      rw [e]
      exact k
end
end HMP
namespace HMP
open PySem PySem.Spec PyProof.Rows L2
section
variable {P : Program} {w : World} {K : PySem.W.Frag} {mg : Str → Option Value} {base : Heap}
/-! ### as_row -/
def spAsRow : Sp := fun vs H Q _ => ∃ (a : Addr) (xs : List V), vs = [.ref a] ∧ H a = some (.lst xs) ∧ xs.length ≤ 1000000 ∧
  ∀ (H' : Hp) (p : Addr), Same H H' → H p = none → H' p = some (.lst (.int (xs.length : Nat) :: xs)) → Q (.ref p) H'
theorem scAsRow : FnScope ["row"] ["row"] (defScope sAsRow) := ⟨rfl, rfl, rfl, by decide +kernel, rfl, by decide +kernel, by decide +kernel⟩
theorem ok_asRow {f : Addr} {fd : FuncData} (F : Fun K "as_row" "as_row" sAsRow f fd) (nLen : mg "len" = none) : FnOk P w K mg base CX0 1 f fd ["row"] spAsRow := by
  refine F.ok scAsRow (fun vs H Q E h => ?_) (fun cdv A outer s H vs Q E hr h => ⟨_, pss_one (ps_ret (pe_op op_cat
      (pe_lst (pa_cons (pe_callB call_len_seq (by rfl) nLen PySem.boot_len (pa_cons (pv 0) pa_nil)) pa_nil)) (pv 0))), ?_⟩)
  · obtain ⟨a, xs, rfl, _⟩ := h
    rfl
  · obtain ⟨a, xs, rfl, ha, hl, k⟩ := h
    refine ⟨_, rfl, _, _, rfl, .inl (SqL.of ha), (by show 1 ≤ sizeLine; decide), fun l nl => ?_⟩
    have n1 : a ≠ l := fun e => by rw [e, nl] at ha; cases ha
    refine ⟨_, rfl, l, a, _, xs, rfl, rfl, upd_same, (upd_ne n1).trans ha, ?_, fun p np => ?_⟩
    · show 1 + xs.length ≤ sizeLine
      rw [sizeLine_eq]
      omega
    · have n2 : H p = none := (keep_new nl).free np
      exact k _ p ((keep_new nl).trans (keep_new np)) n2 upd_same
/-! ### with_row -/
def spWithRow : Sp := fun vs H Q _ => ∃ (n : Int) (a : Addr) (xs : List V), vs = [.int n, .ref a] ∧ H a = some (.lst xs) ∧ xs.length ≤ 1000000 ∧
  ∀ (H' : Hp) (p : Addr), Same H H' → H p = none → H' p = some (.lst (.int n :: .int (xs.length : Nat) :: xs)) → Q (.ref p) H'
theorem scWithRow : FnScope ["number", "row"] ["number", "row"] (defScope sWithRow) := ⟨rfl, rfl, rfl, by decide +kernel, rfl, by decide +kernel, by decide +kernel⟩
theorem ok_withRow {f fA : Addr} {fd fdA : FuncData} (F : Fun K "with_row" "with_row" sWithRow f fd)
    (gA : mg "as_row" = some (.ref fA)) (kA : PySem.W.keepIn K (.ref fA) = true) (bA : Binds K fdA ["row"] []) (GA : FnOk P w K mg base CX0 1 fA fdA ["row"] spAsRow) :
    FnOk P w K mg base CX0 2 f fd ["number", "row"] spWithRow := by
  refine F.ok scWithRow (fun vs H Q E h => ?_) (fun cdv A outer s H vs Q E hr h => ⟨_, pss_one (ps_ret (pe_op op_cat
      (pe_lst (pa_cons (pv 0) pa_nil)) (pe_call GA hr rfl gA kA bA .nil pass0 (pa_cons (pv 1) pa_nil)))), ?_⟩)
  · obtain ⟨n, a, xs, rfl, _⟩ := h
    rfl
  · obtain ⟨n, a, xs, rfl, ha, hl, k⟩ := h
    refine ⟨_, rfl, (by show 1 ≤ sizeLine; decide), fun l nl => ?_⟩
    have n1 : a ≠ l := fun e => by rw [e, nl] at ha; cases ha
    refine ⟨_, rfl, a, xs, rfl, (upd_ne n1).trans ha, hl, fun H1 q s1 nq e1 => ?_⟩
    refine ⟨l, q, _, _, rfl, rfl, s1 _ _ upd_same, e1, ?_, fun p np => ?_⟩
    · show 1 + (xs.length + 1) ≤ sizeLine
      rw [sizeLine_eq]
      omega
    · have s2 := (keep_new nl).trans s1
      exact k _ p (s2.trans (keep_new np)) (s2.free np) upd_same
/-! ### may_be_arms -/
def spMayBe : Sp := fun vs H Q _ => ∃ l r : Nat, vs = [.int (l : Int), .int (r : Int)] ∧ Q (.bl (HM.okArms l r)) H
theorem scMayBe : FnScope ["left", "right"] ["left", "right"] (defScope sMayBe) := ⟨rfl, rfl, rfl, by decide +kernel, rfl, by decide +kernel, by decide +kernel⟩
theorem ok_mayBe {f : Addr} {fd : FuncData} (F : Fun K "may_be_arms" "may_be_arms" sMayBe f fd) {tL : Tok} (gL : mg "LONGEST_ARM" = some (.int 20 tL)) : FnOk P w K mg base CX0 1 f fd ["left", "right"] spMayBe := by
  refine F.ok scMayBe (fun vs H Q E h => ?_) (fun cdv A outer s H vs Q E hr h => ⟨_, pss_one (ps_ret (pe_and
      (pe_chain op_le op_le pe_int (pv 0) (pe_glob (v := .int 20) rfl gL ⟨_, rfl⟩)) (pe_one (pe_chain op_le op_le pe_int (pv 1) (pe_glob (v := .int 20) rfl gL ⟨_, rfl⟩))))), ?_⟩)
  · obtain ⟨l, r, rfl, _⟩ := h
    rfl
  · obtain ⟨l, r, rfl, k⟩ := h
    have go : ∀ b : Bool, (b = true ↔ (1 ≤ l ∧ l ≤ 20 ∧ 1 ≤ r ∧ r ≤ 20)) → HM.okArms l r = b := fun b hb => by
      cases e : HM.okArms l r with
      | true => exact (hb.mpr (HM.okArms_iff.mp e)).symm
      | false =>
        cases b with
        | false => rfl
        | true =>
          have := HM.okArms_iff.mpr (hb.mp rfl)
          rw [e] at this
          cases this
    refine ⟨_, rfl, _, _, rfl, rfl, _, rfl, ite2 (fun c => ?_) (fun c => ?_)⟩
    · have c1 : (1 : Int) ≤ (l : Int) := of_decide_eq_true c
      refine ⟨_, _, rfl, rfl, _, rfl, ite2 (fun c => ?_) (fun c => ?_)⟩
      · have c2 : (l : Int) ≤ 20 := of_decide_eq_true c
        refine ⟨_, rfl, _, _, rfl, rfl, _, rfl, ite2 (fun c => ?_) (fun c => ?_)⟩
        · have c3 : (1 : Int) ≤ (r : Int) := of_decide_eq_true c
          refine ⟨_, _, rfl, rfl, ?_⟩
          rw [go (decide ((r : Int) ≤ 20)) (by rw [decide_eq_true_iff]; omega)] at k
          exact k
        · have c3 : ¬ (1 : Int) ≤ (r : Int) := fun h => c (decide_eq_true h)
          rw [go false (by constructor; intro h; cases h; omega)] at k
          exact k
      · have c2 : ¬ (l : Int) ≤ 20 := fun h => c (decide_eq_true h)
        rw [go false (by constructor; intro h; cases h; omega)] at k
        exact k
    · have c1 : ¬ (1 : Int) ≤ (l : Int) := fun h => c (decide_eq_true h)
      rw [go false (by constructor; intro h; cases h; omega)] at k
      exact ⟨_, rfl, iteF k⟩
end
end HMP
namespace HMP
open PySem PySem.Spec PyProof.Rows L2
section
variable {P : Program} {w : World} {K : PySem.W.Frag} {mg : Str → Option Value} {base : Heap}
/-! ### tells_one_mobile -/
def spTells (K : PySem.W.Frag) : Sp := fun vs H Q _ => ∃ (a : Addr) (l : List Nat), vs = [.ref a] ∧ SqL K H a (nV l) ∧ l.length ≤ 60 ∧ Q (.bl (HM.tells 1 l)) H
theorem scTells : FnScope ["shape", "wanted", "place"] ["shape"] (defScope sTells) := ⟨rfl, rfl, rfl, by decide +kernel, rfl, by decide +kernel, by decide +kernel⟩
theorem get_nV {l : List Nat} {j x : Nat} {z : Int} (e : z = (j : Int)) (h : l[j]? = some x) : atI (nV l) z = some (V.int (x : Int)) := by
  rw [e]
  exact atI_nat (nV_get h)
theorem drop_at {l : List Nat} {i x : Nat} (h : l[i]? = some x) : l.drop i = x :: l.drop (i + 1) := by
  obtain ⟨h1, h2⟩ := List.getElem?_eq_some_iff.mp h
  rw [List.drop_eq_getElem_cons h1, h2]
theorem ok_tells {f fB : Addr} {fd fdB : FuncData} (F : Fun K "tells_one_mobile" "tells_one_mobile" sTells f fd) (nLen : mg "len" = none) (gB : mg "may_be_arms" = some (.ref fB)) (kB : PySem.W.keepIn K (.ref fB) = true) (bB : Binds K fdB ["left", "right"] [])
    (GB : FnOk P w K mg base CX0 1 fB fdB ["left", "right"] spMayBe) : FnOk P w K mg base CX0 2 f fd ["shape"] (spTells K) := by
  refine F.ok scTells (fun vs H Q E h => ?_) (fun cdv A outer s H vs Q E hr h => ⟨_, pss_cons (ps_set (i := 1) scTells.nd rfl (Or.inl rfl) pe_int)
      (pss_cons (ps_set (i := 2) scTells.nd rfl (Or.inl rfl) pe_int)
      (pss_cons (ps_while PassesOwn.never (pt_cmpR op_gt (pv 1) pe_int (nomark _))
        (pss_cons (ps_if (pt_cmpR op_ge (pv 2) (pe_callB call_len_seq (by rfl) nLen PySem.boot_len (pa_cons (pv 0) pa_nil)) (nomark _)) (pss_one (ps_ret pe_bl)) pss_nil)
        (pss_one (ps_if (pt_cmpR op_eq (pe_ix ix_list (pv 0) (pv 2) (fun _ _ => rfl)) pe_int (nomark _))
          (pss_cons (ps_aug (i := 1) scTells.nd rfl (Or.inl rfl) pe_int ip_sub) (pss_one (ps_aug (i := 2) scTells.nd rfl (Or.inl rfl) pe_int ip_add)))
          (pss_one (ps_if (PW.pt (pw_and (pt_cmpR op_lt (pe_op op_add (pv 2) pe_int) (pe_callB call_len_seq (by rfl) nLen PySem.boot_len (pa_cons (pv 0) pa_nil)) (nomark _))
              (pw_and1 (pt_val (pe_call GB hr rfl gB kB bB .nil pass0 (pa_cons (pe_ix ix_list (pv 0) (pv 2) (fun _ _ => rfl)) (pa_cons (pe_ix ix_list (pv 0) (pe_op op_add (pv 2) pe_int) (fun _ _ => rfl)) pa_nil)))))))
            (pss_cons (ps_aug (i := 1) scTells.nd rfl (Or.inl rfl) pe_int ip_add) (pss_one (ps_aug (i := 2) scTells.nd rfl (Or.inl rfl) pe_int ip_add)))
            (pss_one (ps_ret pe_bl))))))))
      (pss_one (ps_ret (pe_cmpR op_eq (pv 2) (pe_callB call_len_seq (by rfl) nLen PySem.boot_len (pa_cons (pv 0) pa_nil)) (nomark _)))))), ?_⟩)
  · obtain ⟨a, l, rfl, _⟩ := h
    rfl
  · obtain ⟨a, l, rfl, hS, hl, k⟩ := h
    refine ⟨fun m σ H' => H' = H ∧ ∃ (n i : Nat), σ = [some (.ref a), some (.int (n : Int)), some (.int (i : Int))] ∧ m = l.length - i ∧ i ≤ l.length ∧ HM.tells n (l.drop i) = HM.tells 1 l, ⟨l.length, rfl, 1, 0, rfl, rfl, Nat.zero_le _, rfl⟩, ?_⟩
    rintro m σ H' ⟨rfl, n, i, rfl, rfl, hi, e⟩
    refine ⟨_, rfl, _, _, rfl, rfl, _, rfl, ite2 (fun c => ?_) (fun c => ?_)⟩
    · have c1 : (0 : Int) < (n : Int) := of_decide_eq_true c
      obtain ⟨n, rfl⟩ : ∃ n', n = n' + 1 := ⟨n - 1, by omega⟩
      -- what a turn leaves
      refine ⟨fun σ' H'' => H'' = H' ∧ ∃ (n' i' : Nat), σ' = [some (.ref a), some (.int (n' : Int)), some (.int (i' : Int))] ∧ i < i' ∧ i' ≤ l.length ∧ i < l.length ∧ HM.tells n' (l.drop i') = HM.tells 1 l, ?_, ?_⟩
      · rintro σ' H'' ⟨rfl, n', i', rfl, h1, h2, h3, h4⟩
        exact ⟨l.length - i', by omega, rfl, n', i', rfl, rfl, h2, h4⟩
      refine ⟨_, rfl, _, rfl, a, _, rfl, .inl hS, _, _, rfl, rfl, _, rfl, ite2 (fun c => ?_) (fun c => ?_)⟩
      · -- no number is left
        have c2 : ((nV l).length : Int) ≤ (i : Int) := of_decide_eq_true c
        rw [nV_length] at c2
        have : i = l.length := by omega
        subst this
        rw [List.drop_length, HM.tells_nil] at e
        rw [← e] at k
        exact k
      · have c2 : ¬ ((nV l).length : Int) ≤ (i : Int) := fun h => c (decide_eq_true h)
        rw [nV_length] at c2
        have hlt : i < l.length := by omega
        have hx : l[i]? = some l[i] := List.getElem?_eq_getElem hlt
        generalize l[i] = x at hx
        rw [drop_at hx] at e
        refine ⟨_, rfl, _, rfl, a, _, _, _, rfl, rfl, hS, get_nV rfl hx, rfl, _, rfl, ite2 (fun c => ?_) (fun c => ?_)⟩
        · have c3 : V.int (x : Int) = V.int 0 := of_decide_eq_true c
          have : x = 0 := by
            have := V.int.inj c3
            omega
          subst this
          rw [HM.tells_hook] at e
          refine ⟨_, rfl, _, _, rfl, rfl, ?_⟩
          refine ⟨_, rfl, _, _, rfl, rfl, ?_⟩
          refine ⟨rfl, n, i + 1, ?_, by omega, by omega, hlt, e⟩
          show [some (V.ref a), some (V.int (((n + 1 : Nat) : Int) - 1)), some (V.int ((i : Int) + 1))] = _
          have e1 : ((n + 1 : Nat) : Int) - 1 = (n : Int) := by omega
          rw [e1]
          rfl
        · have c3 : x ≠ 0 := fun h => c (decide_eq_true (by rw [h]; rfl))
          refine ⟨_, rfl, _, _, rfl, rfl, _, rfl, a, _, rfl, .inl hS, _, _, rfl, rfl, _, rfl, ite2 (fun c => ?_) (fun c => ?_)⟩
          · have c4 : (i : Int) + 1 < ((nV l).length : Int) := of_decide_eq_true c
            rw [nV_length] at c4
            have hlt2 : i + 1 < l.length := by omega
            have hy : l[i + 1]? = some l[i + 1] := List.getElem?_eq_getElem hlt2
            generalize l[i + 1] = y at hy
            rw [drop_at hy, HM.tells_rod c3] at e
            refine ⟨_, rfl, _, rfl, a, _, _, _, rfl, rfl, hS, get_nV rfl hx, _, rfl, _, rfl, _, _, rfl, rfl, a, _, _, _, rfl, rfl, hS, get_nV rfl hy, x, y, rfl, _, rfl, ite2 (fun c => ?_) (fun c => ?_)⟩
            · rw [if_pos c] at e
              refine ⟨_, rfl, _, _, rfl, rfl, ?_⟩
              refine ⟨_, rfl, _, _, rfl, rfl, ?_⟩
              exact ⟨rfl, n + 2, i + 2, rfl, by omega, by omega, hlt, e⟩
            · rw [if_neg c] at e
              rw [← e] at k
              exact k
          · have c4 : ¬ (i : Int) + 1 < ((nV l).length : Int) := fun h => c (decide_eq_true h)
            rw [nV_length] at c4
            rw [List.drop_eq_nil_of_le (by omega), HM.tells_one c3] at e
            rw [← e] at k
            exact k
    · have c1 : ¬ (0 : Int) < (n : Int) := fun h => c (decide_eq_true h)
      have : n = 0 := by omega
      subst this
      rw [HM.tells_zero] at e
      refine ⟨_, rfl, _, rfl, a, _, rfl, .inl hS, rfl, ?_⟩
      have q : decide ((V.int (i : Int)) = V.int ((nV l).length : Int)) = HM.tells 1 l := by
        rw [← e, nV_length]
        by_cases q : i = l.length
        · subst q
          rw [List.drop_length, decide_eq_true rfl]
          rfl
        · rw [decide_eq_false (fun h => q (by have := V.int.inj h; omega))]
          have : l.drop i ≠ [] := fun h => q (by have := congrArg List.length h; rw [List.length_drop] at this; simp at this; omega)
          cases h : l.drop i with
          | nil => exact absurd h this
          | cons _ _ => rfl
      rw [← q] at k
      exact k
end
end HMP
namespace HMP
open PySem PySem.Spec PyProof.Rows L2
/-! ### fields -/
theorem lk_here {k : Str} {v : V} {r : List (Str × V)} : List.lookup k ((k, v) :: r) = some v := by
  have e : (k == k) = true := beq_self_eq_true k
  simp only [List.lookup, e]
theorem lk_past {k g : Str} {v : V} {r : List (Str × V)} (h : (k == g) = false) : List.lookup k ((g, v) :: r) = List.lookup k r := by
  simp only [List.lookup, h]
theorem put_here {f : Str} {v x : V} {r : List (Str × V)} : putF f v ((f, x) :: r) = (f, v) :: r := if_pos rfl
theorem put_past {f g : Str} {v x : V} {r : List (Str × V)} (h : ¬ g = f) : putF f v ((g, x) :: r) = (g, x) :: putF f v r := if_neg h
/-! ### a rod -/
def rodF (p : HM.Rd) : List (Str × V) := [("left", .int (p.l : Int)), ("right", .int (p.r : Int)), ("first", .int (p.f : Int)), ("middle", .int (p.m : Int)), ("behind", .int (p.b : Int))]
def RodAt (C : Addr) (H : Hp) (a : Addr) (p : HM.Rd) : Prop := ∃ dx, H a = some (.ins C dx (rodF p))
theorem rodF_l (p : HM.Rd) : (rodF p).lookup ("left" : Str) = some (.int (p.l : Int)) := lk_here
theorem rodF_r (p : HM.Rd) : (rodF p).lookup ("right" : Str) = some (.int (p.r : Int)) := (lk_past (by decide +kernel)).trans lk_here
theorem rodF_f (p : HM.Rd) : (rodF p).lookup ("first" : Str) = some (.int (p.f : Int)) := (lk_past (by decide +kernel)).trans ((lk_past (by decide +kernel)).trans lk_here)
theorem rodF_m (p : HM.Rd) : (rodF p).lookup ("middle" : Str) = some (.int (p.m : Int)) := (lk_past (by decide +kernel)).trans ((lk_past (by decide +kernel)).trans ((lk_past (by decide +kernel)).trans lk_here))
theorem rodF_b (p : HM.Rd) : (rodF p).lookup ("behind" : Str) = some (.int (p.b : Int)) := (lk_past (by decide +kernel)).trans ((lk_past (by decide +kernel)).trans ((lk_past (by decide +kernel)).trans ((lk_past (by decide +kernel)).trans lk_here)))
theorem rodF_pl (p : HM.Rd) : (rodF p).lookup ("left_pull" : Str) = none := (lk_past (by decide +kernel)).trans ((lk_past (by decide +kernel)).trans ((lk_past (by decide +kernel)).trans ((lk_past (by decide +kernel)).trans ((lk_past (by decide +kernel)).trans rfl))))
theorem rodF_pr (p : HM.Rd) : (rodF p).lookup ("right_pull" : Str) = none := (lk_past (by decide +kernel)).trans ((lk_past (by decide +kernel)).trans ((lk_past (by decide +kernel)).trans ((lk_past (by decide +kernel)).trans ((lk_past (by decide +kernel)).trans rfl))))
theorem rodF_new (l r f m b : Nat) : putF "behind" (.int (b : Int)) (putF "middle" (.int (m : Int)) (putF "first" (.int (f : Int)) (putF "right" (.int (r : Int)) (putF "left" (.int (l : Int)) [])))) = rodF ⟨l, r, f, m, b⟩ := by
  refine Eq.trans (congrArg _ (congrArg _ (congrArg _ (put_past (by decide +kernel))))) ?_
  refine Eq.trans (congrArg _ (congrArg _ ((put_past (by decide +kernel)).trans (congrArg _ (put_past (by decide +kernel)))))) ?_
  refine Eq.trans (congrArg _ ((put_past (by decide +kernel)).trans (congrArg _ ((put_past (by decide +kernel)).trans (congrArg _ (put_past (by decide +kernel))))))) ?_
  exact (put_past (by decide +kernel)).trans (congrArg _ ((put_past (by decide +kernel)).trans (congrArg _ ((put_past (by decide +kernel)).trans (congrArg _ (put_past (by decide +kernel)))))))
theorem rodF_arms (p : HM.Rd) (l r : Nat) : putF "right" (.int (r : Int)) (putF "left" (.int (l : Int)) (rodF p)) = rodF (HM.setArms l r p) := by
  have e1 : putF "left" (.int (l : Int)) (rodF p) = rodF { p with l := l } := put_here
  rw [e1]
  exact (put_past (by decide +kernel)).trans (congrArg _ put_here)
structure RodTxt (K : PySem.W.Frag) (C : Addr) : Prop where
  cl : Cls K C
  nl : NoAttr K C "left"
  nr : NoAttr K C "right"
  nf : NoAttr K C "first"
  nm : NoAttr K C "middle"
  nb : NoAttr K C "behind"
/-- a list's part -/
theorem cut_seg {w : List Nat} {lo hi : Nat} (h1 : lo ≤ hi) : cutV (nV w) (some (lo : Int)) (some (hi : Int)) = nV (HM.seg lo hi w) := by
  unfold cutV HM.seg nV
  rw [HT.sIx_nat, HT.sIx_nat, List.length_map, List.map_take, List.map_drop]
  by_cases q : lo ≤ w.length
  · have e1 : min lo w.length = lo := by omega
    rw [e1]
    by_cases q2 : hi ≤ w.length
    · have e2 : min hi w.length = hi := by omega
      rw [e2]
    · have e2 : min hi w.length = w.length := by omega
      rw [e2, List.take_of_length_le (by rw [List.length_drop, List.length_map]; omega), List.take_of_length_le (by rw [List.length_drop, List.length_map]; omega)]
  · have e1 : min lo w.length = w.length := by omega
    rw [e1, List.drop_eq_nil_of_le (by rw [List.length_map]; omega), List.drop_eq_nil_of_le (by rw [List.length_map]; omega), List.take_nil, List.take_nil]
section
variable {P : Program} {w : World} {K : PySem.W.Frag} {mg : Str → Option Value} {base : Heap} {C : Addr}
/-! ### Rod.__init__ -/
def spRodI (C : Addr) : Sp := fun vs H Q _ => ∃ (x dx : Addr) (l r f m b : Nat), vs = [.ref x, .int (l : Int), .int (r : Int), .int (f : Int), .int (m : Int), .int (b : Int)] ∧ H x = some (.ins C dx []) ∧
  ∀ H' : Hp, RodAt C H' x ⟨l, r, f, m, b⟩ → (∀ b o, H b = some o → b ≠ x → H' b = some o) → (∀ b, H b = none → H' b = none) → Q .non H'
theorem scRodI : FnScope ["self", "left", "right", "first", "middle", "behind"] ["self", "left", "right", "first", "middle", "behind"] (defScope sRodI) := ⟨rfl, rfl, rfl, by decide +kernel, rfl, by decide +kernel, by decide +kernel⟩
theorem ok_rodI {f : Addr} {fd : FuncData} (F : Fun K "__init__" "Rod.__init__" sRodI f fd) (T : RodTxt K C) : FnOk P w K mg base CX0 1 f fd ["self", "left", "right", "first", "middle", "behind"] (spRodI C) := by
  refine F.ok scRodI (fun vs H Q E h => ?_) (fun cdv A outer s H vs Q E hr h => ⟨_, pss_cons (ps_fld (pv 0) (pv 1) rfl) (pss_cons (ps_fld (pv 0) (pv 2) rfl)
      (pss_cons (ps_fld (pv 0) (pv 3) rfl) (pss_cons (ps_fld (pv 0) (pv 4) rfl) (pss_one (ps_fld (pv 0) (pv 5) rfl))))), ?_⟩)
  · obtain ⟨x, dx, l, r, f, m, b, rfl, _⟩ := h
    rfl
  · obtain ⟨x, dx, l, r, f, m, b, rfl, hx, k⟩ := h
    refine ⟨_, rfl, _, rfl, x, C, dx, [], rfl, hx, T.cl, T.nl, (by show 0 < 1000; decide), ?_⟩
    refine ⟨_, rfl, _, rfl, x, C, dx, _, rfl, upd_same, T.cl, T.nr, (by show 1 < 1000; decide), ?_⟩
    refine ⟨_, rfl, _, rfl, x, C, dx, _, rfl, upd_same, T.cl, T.nf, (by show 2 < 1000; decide), ?_⟩
    refine ⟨_, rfl, _, rfl, x, C, dx, _, rfl, upd_same, T.cl, T.nm, (by show 3 < 1000; decide), ?_⟩
    refine ⟨_, rfl, _, rfl, x, C, dx, _, rfl, upd_same, T.cl, T.nb, (by show 4 < 1000; decide), ?_⟩
    refine k _ ⟨dx, Eq.trans upd_same (congrArg (fun q => some (HO.ins C dx q)) (rodF_new l r f m b))⟩ (fun b o e hb => ?_) (fun b e => ?_)
    · rw [upd_ne hb, upd_ne hb, upd_ne hb, upd_ne hb, upd_ne hb]
      exact e
    · have hb : b ≠ x := fun q => by rw [q, hx] at e; cases e
      rw [upd_ne hb, upd_ne hb, upd_ne hb, upd_ne hb, upd_ne hb]
      exact e
/-! ### what hangs at either end -/
def spAtL (K : PySem.W.Frag) (C : Addr) : Sp := fun vs H Q _ => ∃ (a b : Addr) (p : HM.Rd) (w : List Nat), vs = [.ref a, .ref b] ∧ RodAt C H a p ∧ SqL K H b (nV w) ∧ p.f ≤ p.m ∧
  ∀ H' : Hp, Same H H' → Q (.int (((HM.seg p.f p.m w).sum : Nat) : Int)) H'
def spAtR (K : PySem.W.Frag) (C : Addr) : Sp := fun vs H Q _ => ∃ (a b : Addr) (p : HM.Rd) (w : List Nat), vs = [.ref a, .ref b] ∧ RodAt C H a p ∧ SqL K H b (nV w) ∧ p.m ≤ p.b ∧
  ∀ H' : Hp, Same H H' → Q (.int (((HM.seg p.m p.b w).sum : Nat) : Int)) H'
theorem scAtL : FnScope ["self", "weights"] ["self", "weights"] (defScope sAtL) := ⟨rfl, rfl, rfl, by decide +kernel, rfl, by decide +kernel, by decide +kernel⟩
theorem scAtR : FnScope ["self", "weights"] ["self", "weights"] (defScope sAtR) := ⟨rfl, rfl, rfl, by decide +kernel, rfl, by decide +kernel, by decide +kernel⟩
theorem ok_atL {f : Addr} {fd : FuncData} (F : Fun K "at_left" "Rod.at_left" sAtL f fd) (T : RodTxt K C) (nSum : mg "sum" = none) : FnOk P w K mg base CX0 1 f fd ["self", "weights"] (spAtL K C) := by
  refine F.ok scAtL (fun vs H Q E h => ?_) (fun cdv A outer s H vs Q E hr h => ⟨_, pss_one (ps_ret
      (pe_callB (cr_sum rfl) (by rfl) nSum (by decide +kernel) (pa_cons (pe_slice sl_list (pv 1) (po_some (pe_fld (pv 0) rfl)) (po_some (pe_fld (pv 0) rfl))) pa_nil))), ?_⟩)
  · obtain ⟨a, b, p, w, rfl, _⟩ := h
    rfl
  · obtain ⟨a, b, p, w, rfl, ⟨dx, ha⟩, hS, hfm, k⟩ := h
    refine ⟨_, rfl, _, rfl, a, C, dx, _, _, rfl, ha, T.cl, T.nf, rodF_f p, _, rfl, _, rfl, a, C, dx, _, _, rfl, ha, T.cl, T.nm, rodF_m p, _, rfl, b, _, rfl, hS, fun q nq => ?_⟩
    rw [cut_seg hfm, nV_ints]
    refine ⟨q, _, rfl, SqL.of upd_same, ?_⟩
    rw [sum_int]
    exact k _ (keep_new nq)
theorem ok_atR {f : Addr} {fd : FuncData} (F : Fun K "at_right" "Rod.at_right" sAtR f fd) (T : RodTxt K C) (nSum : mg "sum" = none) : FnOk P w K mg base CX0 1 f fd ["self", "weights"] (spAtR K C) := by
  refine F.ok scAtR (fun vs H Q E h => ?_) (fun cdv A outer s H vs Q E hr h => ⟨_, pss_one (ps_ret
      (pe_callB (cr_sum rfl) (by rfl) nSum (by decide +kernel) (pa_cons (pe_slice sl_list (pv 1) (po_some (pe_fld (pv 0) rfl)) (po_some (pe_fld (pv 0) rfl))) pa_nil))), ?_⟩)
  · obtain ⟨a, b, p, w, rfl, _⟩ := h
    rfl
  · obtain ⟨a, b, p, w, rfl, ⟨dx, ha⟩, hS, hfm, k⟩ := h
    refine ⟨_, rfl, _, rfl, a, C, dx, _, _, rfl, ha, T.cl, T.nm, rodF_m p, _, rfl, _, rfl, a, C, dx, _, _, rfl, ha, T.cl, T.nb, rodF_b p, _, rfl, b, _, rfl, hS, fun q nq => ?_⟩
    rw [cut_seg hfm, nV_ints]
    refine ⟨q, _, rfl, SqL.of upd_same, ?_⟩
    rw [sum_int]
    exact k _ (keep_new nq)
/-! ### the pulls -/
def spPullL (K : PySem.W.Frag) (C : Addr) : Sp := fun vs H Q _ => ∃ (a b : Addr) (p : HM.Rd) (w : List Nat), vs = [.ref a, .ref b] ∧ RodAt C H a p ∧ SqL K H b (nV w) ∧ p.l < 2 ^ 64 ∧ p.f ≤ p.m ∧
  ∀ H' : Hp, Same H H' → Q (.int ((HM.pullL w p : Nat) : Int)) H'
def spPullR (K : PySem.W.Frag) (C : Addr) : Sp := fun vs H Q _ => ∃ (a b : Addr) (p : HM.Rd) (w : List Nat), vs = [.ref a, .ref b] ∧ RodAt C H a p ∧ SqL K H b (nV w) ∧ p.r < 2 ^ 64 ∧ p.m ≤ p.b ∧
  ∀ H' : Hp, Same H H' → Q (.int ((HM.pullR w p : Nat) : Int)) H'
theorem scPullL : FnScope ["self", "weights"] ["self", "weights"] (defScope sRodL) := ⟨rfl, rfl, rfl, by decide +kernel, rfl, by decide +kernel, by decide +kernel⟩
theorem scPullR : FnScope ["self", "weights"] ["self", "weights"] (defScope sRodR) := ⟨rfl, rfl, rfl, by decide +kernel, rfl, by decide +kernel, by decide +kernel⟩
theorem rodF_al (p : HM.Rd) : (rodF p).lookup ("at_left" : Str) = none := (lk_past (by decide +kernel)).trans ((lk_past (by decide +kernel)).trans ((lk_past (by decide +kernel)).trans ((lk_past (by decide +kernel)).trans ((lk_past (by decide +kernel)).trans rfl))))
theorem rodF_ar (p : HM.Rd) : (rodF p).lookup ("at_right" : Str) = none := (lk_past (by decide +kernel)).trans ((lk_past (by decide +kernel)).trans ((lk_past (by decide +kernel)).trans ((lk_past (by decide +kernel)).trans ((lk_past (by decide +kernel)).trans rfl))))
theorem ok_pullL {f fA : Addr} {fd fdA : FuncData} (F : Fun K "left_pull" "Rod.left_pull" sRodL f fd) (T : RodTxt K C)
    (mA : Meth K C "at_left" fA) (bA : Binds K fdA ["self", "weights"] []) (GA : FnOk P w K mg base CX0 1 fA fdA ["self", "weights"] (spAtL K C)) : FnOk P w K mg base CX0 2 f fd ["self", "weights"] (spPullL K C) := by
  refine F.ok scPullL (fun vs H Q E h => ?_) (fun cdv A outer s H vs Q E hr h => ⟨_, pss_one (ps_ret (pe_op op_mul (pe_fld (pv 0) rfl)
      (pe_meth (pv 0) T.cl mA GA hr bA .nil pass0 (pa_cons (pv 1) pa_nil)))), ?_⟩)
  · obtain ⟨a, b, p, w, rfl, _⟩ := h
    rfl
  · obtain ⟨a, b, p, w, rfl, ⟨dx, ha⟩, hS, hl, hfm, k⟩ := h
    refine ⟨_, rfl, a, C, dx, _, _, rfl, ha, T.cl, T.nl, rodF_l p, ?_⟩
    refine ⟨_, rfl, a, dx, _, rfl, ha, rodF_al p, _, rfl, a, b, p, w, rfl, ⟨dx, ha⟩, hS, hfm, fun H1 s1 => ?_⟩
    refine ⟨_, _, rfl, rfl, .inl ⟨by omega, by omega⟩, ?_⟩
    show Q (.int ((p.l : Int) * (((HM.seg p.f p.m w).sum : Nat) : Int))) _
    rw [← Int.natCast_mul]
    exact k _ s1
theorem ok_pullR {f fA : Addr} {fd fdA : FuncData} (F : Fun K "right_pull" "Rod.right_pull" sRodR f fd) (T : RodTxt K C)
    (mA : Meth K C "at_right" fA) (bA : Binds K fdA ["self", "weights"] []) (GA : FnOk P w K mg base CX0 1 fA fdA ["self", "weights"] (spAtR K C)) : FnOk P w K mg base CX0 2 f fd ["self", "weights"] (spPullR K C) := by
  refine F.ok scPullR (fun vs H Q E h => ?_) (fun cdv A outer s H vs Q E hr h => ⟨_, pss_one (ps_ret (pe_op op_mul (pe_fld (pv 0) rfl)
      (pe_meth (pv 0) T.cl mA GA hr bA .nil pass0 (pa_cons (pv 1) pa_nil)))), ?_⟩)
  · obtain ⟨a, b, p, w, rfl, _⟩ := h
    rfl
  · obtain ⟨a, b, p, w, rfl, ⟨dx, ha⟩, hS, hl, hfm, k⟩ := h
    refine ⟨_, rfl, a, C, dx, _, _, rfl, ha, T.cl, T.nr, rodF_r p, ?_⟩
    refine ⟨_, rfl, a, dx, _, rfl, ha, rodF_ar p, _, rfl, a, b, p, w, rfl, ⟨dx, ha⟩, hS, hfm, fun H1 s1 => ?_⟩
    refine ⟨_, _, rfl, rfl, .inl ⟨by omega, by omega⟩, ?_⟩
    show Q (.int ((p.r : Int) * (((HM.seg p.m p.b w).sum : Nat) : Int))) _
    rw [← Int.natCast_mul]
    exact k _ s1
end
end HMP
namespace HMP
open PySem PySem.Spec PyProof.Rows L2
def RodsAt (C : Addr) (H : Hp) (as : List Addr) (ps : List HM.Rd) : Prop := as.length = ps.length ∧ ∀ (i : Nat) (a : Addr) (p : HM.Rd), as[i]? = some a → ps[i]? = some p → RodAt C H a p
theorem RodAt.same {C : Addr} {H H' : Hp} {a : Addr} {p : HM.Rd} (h : RodAt C H a p) (s : Same H H') : RodAt C H' a p := let ⟨dx, e⟩ := h; ⟨dx, s _ _ e⟩
theorem RodsAt.same {C : Addr} {H H' : Hp} {as : List Addr} {ps : List HM.Rd} (h : RodsAt C H as ps) (s : Same H H') : RodsAt C H' as ps := ⟨h.1, fun i a p e1 e2 => (h.2 i a p e1 e2).same s⟩
theorem rep_flat (n : Nat) : (List.replicate n [V.int 1]).flatten = nV (List.replicate n 1) := by
  unfold nV
  rw [List.map_replicate]
  induction n with
  | zero => rfl
  | succ n ih =>
    rw [List.replicate_succ, List.flatten_cons, ih]
    rfl
theorem same_upd {H H' : Hp} {a : Addr} {o : HO} (s : Same H H') (h : H a = none) : Same H (upd H' a o) := fun b u e => by
  by_cases q : b = a
  · subst q
    rw [h] at e
    cases e
  · rw [upd_ne q]
    exact s b u e
theorem ix_same {n : Nat} {j : Nat} (h : j < n) : ixN n (j : Int) = some j := by
  unfold ixN
  rw [if_pos (Int.natCast_nonneg j), if_pos (by omega), Int.toNat_natCast]
section
variable {P : Program} {w : World} {K : PySem.W.Frag} {mg : Str → Option Value} {base : Heap} {C : Addr}
/-! ### least_weights -/
def spLeastW (K : PySem.W.Frag) (C : Addr) : Sp := fun vs H Q _ => ∃ (rl : Addr) (as : List Addr) (t : Sy65.Tree), vs = [.ref rl, .int ((Sy65.hooks t : Nat) : Int)] ∧ SqL K H rl (as.map V.ref) ∧ RodsAt C H as (HM.rodsOf 0 t) ∧ HM.Good t ∧ Sy65.hooks t ≤ 7 ∧
  ∀ (H' : Hp) (p : Addr), Same H H' → H p = none → H' p = some (.lst (nV (Sy65.least t))) → Q (.ref p) H'
theorem scLeastW : FnScope ["rods", "hooks", "weights", "rod", "left", "right", "shared", "hook"] ["rods", "hooks"] (defScope sLeastW) := ⟨rfl, rfl, rfl, by decide +kernel, rfl, by decide +kernel, by decide +kernel⟩
theorem big {B : Nat} {i : Nat} (h : i ≤ 6) (hb : B ≤ 140 * HM.Bd i) : B < 2 ^ 500 := by
  have h1 := HM.Bd_mono h
  have h2 := HM.Bd_six
  exact Nat.lt_of_le_of_lt (Nat.le_trans hb (Nat.mul_le_mul_left 140 h1)) h2
/-- one of the two inner loops: hooks from lo to ahead of hi so many times -/
theorem mul_loop {K : PySem.W.Frag} {D : Ends} {σ : L2.St} {H H0 : Hp} {rl wl ra : Addr} {n c : Nat} {lo hi : Nat} {W : List Nat} {v4 v5 v6 : Option V} (tc : TE)
    (hlo : lo ≤ hi) (hhi : hi ≤ W.length) (h0 : H0 wl = none) (hs : Same H0 H) (hw : H wl = some (.lst (nV W))) (v7 : Option V)
    (hσ : σ = [some (.ref rl), some (.int (n : Int)), some (.ref wl), some (.ref ra), v4, v5, v6, v7])
    (htc : ∀ (v7' : Option V) (H1 : Hp) (Q : VK), Q (.int (c : Int)) H1 → tc [some (.ref rl), some (.int (n : Int)), some (.ref wl), some (.ref ra), v4, v5, v6, v7'] H1 Q)
    (hc : c < 2 ^ 500) (hW : ∀ y ∈ W, y < 2 ^ 500)
    (after : ∀ (v7' : Option V) (H1 : Hp), Same H0 H1 → H1 wl = some (.lst (nV (HM.mulR lo hi c W))) → D.nx [some (.ref rl), some (.int (n : Int)), some (.ref wl), some (.ref ra), v4, v5, v6, v7'] H1) :
    ∃ Wv : Nat → Nat → L2.St → Hp → Prop, (∃ m, Wv 0 m σ H) ∧ ∀ i m σ H, Wv i m σ H →
      ((Itr (lo : Int) ((hi : Int) - (lo : Int)).toNat).stop i H ∧ D.nx σ H) ∨ ((Itr (lo : Int) ((hi : Int) - (lo : Int)).toNat).go i H ∧ ∃ N : L2.St → Hp → Prop, (∀ σ' H', N σ' H' → ∃ m', m' < m ∧ Wv (i + 1) m' σ' H') ∧ ∀ v H', (Itr (lo : Int) ((hi : Int) - (lo : Int)).toNat).yld i H v H' → gName 7 v σ H' fun σ2 H2 =>
        tAugS (tVar 2) (tVar 7) tc (Own.rGetL K) (rI CMulW fun i j => .int (i * j)) rSetL { D with nx := N, ct := N, bk := D.nx } σ2 H2) := by
  subst hσ
  have hn : ((hi : Int) - (lo : Int)).toNat = hi - lo := by omega
  rw [hn]
  refine for_range (lo := (lo : Int)) (n := hi - lo) (fun j σ H1 => ∃ v7' : Option V, σ = [some (.ref rl), some (.int (n : Int)), some (.ref wl), some (.ref ra), v4, v5, v6, v7'] ∧ Same H0 H1 ∧ H1 wl = some (.lst (nV (HM.mulR lo (lo + j) c W))))
    ⟨v7, rfl, hs, by rw [Nat.add_zero, HM.mulR_none]; exact hw⟩ ?_ ?_
  · rintro j σ H1 hj ⟨v7', rfl, s1, e1⟩
    have hlt : lo + j < W.length := by omega
    have hx : W[lo + j]? = some W[lo + j] := List.getElem?_eq_getElem hlt
    have hm := List.mem_of_getElem? hx
    generalize W[lo + j] = y at hx hm
    obtain ⟨q1, q2⟩ := HM.mulR_step (c := c) hx
    have hz : ((lo : Int) + (j : Nat)) = ((lo + j : Nat) : Int) := by omega
    refine ⟨_, rfl, _, rfl, wl, _, _, V.int (y : Int), rfl, rfl, SqL.of e1, by omega, ?_, ?_⟩
    · rw [hz, Int.toNat_natCast]
      exact nV_get q1
    refine htc _ _ _ ?_
    refine ⟨_, _, rfl, rfl, wide_mul (a := 500) (b := 500) (by simpa using hW y hm) (by simpa using hc) (by decide) (by decide) (by decide), ?_⟩
    refine ⟨wl, _, _, lo + j, rfl, rfl, e1, ?_, ?_⟩
    · rw [nV_length, HM.mulR_length, hz]
      exact ix_same hlt
    · refine ⟨_, rfl, same_upd s1 h0, ?_⟩
      rw [upd_same]
      congr 2
      show (nV _).set (lo + j) (V.int ((y : Int) * (c : Int))) = _
      rw [← Int.natCast_mul, nV_set, q2]
      rfl
  · rintro σ H1 ⟨v7', rfl, s1, e1⟩
    have e : lo + (hi - lo) = hi := by omega
    rw [e] at e1
    exact after v7' H1 s1 e1
end
end HMP
namespace HMP
open PySem PySem.Spec PyProof.Rows L2
section
variable {P : Program} {w : World} {K : PySem.W.Frag} {mg : Str → Option Value} {base : Heap} {C : Addr}
theorem ok_leastW {f fL fR fG : Addr} {fd fdL fdR fdG : FuncData} (F : Fun K "least_weights" "least_weights" sLeastW f fd) (T : RodTxt K C)
    (nRev : mg "reversed" = none) (nRng : mg "range" = none)
    (mL : Meth K C "left_pull" fL) (bL : Binds K fdL ["self", "weights"] []) (GL : FnOk P w K mg base CX0 2 fL fdL ["self", "weights"] (spPullL K C))
    (mR : Meth K C "right_pull" fR) (bR : Binds K fdR ["self", "weights"] []) (GR : FnOk P w K mg base CX0 2 fR fdR ["self", "weights"] (spPullR K C))
    (gG : mg "greatest_divisor" = some (.ref fG)) (kG : PySem.W.keepIn K (.ref fG) = true) (bG : Binds K fdG ["one", "other"] []) (GG : FnOk P w K mg base CX0 1 fG fdG ["one", "other"] spGcd) :
    FnOk P w K mg base CX0 3 f fd ["rods", "hooks"] (spLeastW K C) := by
  refine F.ok scLeastW (fun vs H Q E h => ?_) (fun cdv A outer s H vs Q E hr h => ⟨_, pss_cons (ps_set (i := 2) scLeastW.nd rfl (Or.inl rfl) (pe_op op_rep (pe_lst (pa_cons pe_int pa_nil)) (pv 1)))
      (pss_cons (ps_for PassesOwn.never rfl (pi_reversed (by rfl) nRev (pa_cons (pv 0) pa_nil)) (pg_name (i := 3) scLeastW.nd rfl (Or.inl rfl))
        (pss_cons (ps_set (i := 4) scLeastW.nd rfl (Or.inl rfl) (pe_meth (pv 3) T.cl mL GL hr bL .nil pass0 (pa_cons (pv 2) pa_nil)))
        (pss_cons (ps_set (i := 5) scLeastW.nd rfl (Or.inl rfl) (pe_meth (pv 3) T.cl mR GR hr bR .nil pass0 (pa_cons (pv 2) pa_nil)))
        (pss_cons (ps_set (i := 6) scLeastW.nd rfl (Or.inl rfl) (pe_call GG (hr.mono (by decide)) rfl gG kG bG .nil pass0 (pa_cons (pv 4) (pa_cons (pv 5) pa_nil))))
        (pss_cons (ps_for PassesOwn.never rfl (pi_range2 (by rfl) nRng (pa_cons (pe_fld (pv 3) rfl) (pa_cons (pe_fld (pv 3) rfl) pa_nil))) (pg_name (i := 7) scLeastW.nd rfl (Or.inl rfl))
          (pss_one (ps_augS (pv 2) (pv 7) Own.get_list (pe_op op_fdivW (pv 5) (pv 6)) Own.ip_mulW set_list)))
        (pss_one (ps_for PassesOwn.never rfl (pi_range2 (by rfl) nRng (pa_cons (pe_fld (pv 3) rfl) (pa_cons (pe_fld (pv 3) rfl) pa_nil))) (pg_name (i := 7) scLeastW.nd rfl (Or.inl rfl))
          (pss_one (ps_augS (pv 2) (pv 7) Own.get_list (pe_op op_fdivW (pv 4) (pv 6)) Own.ip_mulW set_list)))))))))
      (pss_one (ps_ret (pv 2)))), ?_⟩)
  · obtain ⟨rl, as, t, rfl, _⟩ := h
    rfl
  · obtain ⟨rl, as, t, rfl, hS, hR, hG, h7, k⟩ := h
    have hlen : (HM.rodsOf 0 t).length = Sy65.rods t := HM.rodsOf_length t 0
    have h6 : Sy65.rods t ≤ 6 := by have := HM.hooks_rods t; omega
    have hok := HM.rodsOf_good t 0 hG
    have hin : ∀ p ∈ HM.rodsOf 0 t, HM.Within 0 (Sy65.hooks t) p := fun p hp => by
      have := HM.rodsOf_within t 0 p hp
      rwa [Nat.zero_add] at this
    -- weights = [1] * hooks
    refine ⟨by decide, fun l nl => ⟨_, rfl, l, _, _, rfl, rfl, upd_same, by omega, by omega, ?_, fun wl nw => ?_⟩⟩
    · show 1 * ((Sy65.hooks t : Nat) : Int).toNat ≤ sizeLine
      rw [sizeLine_eq, Int.toNat_natCast]
      omega
    have hwl : H wl = none := (keep_new nl).free nw
    have sH : Same H (upd (upd H l (HO.lst [V.int 1])) wl (HO.lst (List.replicate ((Sy65.hooks t : Nat) : Int).toNat [V.int 1]).flatten)) := (keep_new nl).trans (keep_new nw)
    refine ⟨_, rfl, rl, _, rfl, sH.seq hS, RT.for_Itv (K := K) (a := rl) (xs := as.map V.ref) (fun i σ H' => ∃ v3 v4 v5 v6 v7 : Option V, σ = [some (.ref rl), some (.int ((Sy65.hooks t : Nat) : Int)), some (.ref wl), v3, v4, v5, v6, v7] ∧ Same H H' ∧ H' wl = some (.lst (nV (HM.behind (HM.rodsOf 0 t) i (Sy65.hooks t)))))
      ⟨none, none, none, none, none, rfl, sH, ?_⟩ (fun i σ H' ⟨_, _, _, _, _, _, s1, _⟩ => s1.seq hS) ?_ ?_⟩
    · rw [upd_same, HM.behind_zero, Int.toNat_natCast, rep_flat]
    · -- a turn
      rintro i x σ H1 hi hx ⟨v3, v4, v5, v6, v7, rfl, s1, hw⟩
      rw [List.length_map] at hi hx
      rw [List.getElem?_map] at hx
      obtain ⟨ra, hra, rfl⟩ : ∃ ra, as[as.length - 1 - i]? = some ra ∧ x = V.ref ra := by
        cases e : as[as.length - 1 - i]? with
        | none => rw [e] at hx; cases hx
        | some ra =>
          rw [e] at hx
          exact ⟨ra, rfl, (Option.some.inj hx).symm⟩
      have hal := hR.1
      have hi' : i < (HM.rodsOf 0 t).length := by omega
      have hp : (HM.rodsOf 0 t)[(HM.rodsOf 0 t).length - 1 - i]? = some (HM.rodsOf 0 t)[(HM.rodsOf 0 t).length - 1 - i] := List.getElem?_eq_getElem (by omega)
      generalize (HM.rodsOf 0 t)[(HM.rodsOf 0 t).length - 1 - i] = p at hp
      have hm := List.mem_of_getElem? hp
      have hrod : RodAt C H ra p := hR.2 _ ra p hra (by rw [hal]; exact hp)
      have more := HM.behind_more (n := Sy65.hooks t) hi' hp
      have hW := HM.behind_rng hok hin h7 i (by omega)
      have hWl := HM.behind_length (HM.rodsOf 0 t) i (Sy65.hooks t)
      have hpw := hin p hm
      have hpo := hok p hm
      obtain ⟨a1, a2, a3, a4⟩ := HM.okArms_iff.mp hpo
      obtain ⟨w1, w2, w3, w4⟩ := id hpw
      obtain ⟨bL', bR'⟩ := HM.pull_bound hW hpo (by rw [hWl]; exact hpw) (by rw [hWl]; exact h7)
      obtain ⟨c1, c2, g1, g2⟩ := HM.factor_bound bL' bR'
      have hunf : HM.stepRod p (HM.behind (HM.rodsOf 0 t) i (Sy65.hooks t)) = HM.mulR p.m p.b (HM.pullL (HM.behind (HM.rodsOf 0 t) i (Sy65.hooks t)) p / Nat.gcd (HM.pullL (HM.behind (HM.rodsOf 0 t) i (Sy65.hooks t)) p) (HM.pullR (HM.behind (HM.rodsOf 0 t) i (Sy65.hooks t)) p)) (HM.mulR p.f p.m (HM.pullR (HM.behind (HM.rodsOf 0 t) i (Sy65.hooks t)) p / Nat.gcd (HM.pullL (HM.behind (HM.rodsOf 0 t) i (Sy65.hooks t)) p) (HM.pullR (HM.behind (HM.rodsOf 0 t) i (Sy65.hooks t)) p)) (HM.behind (HM.rodsOf 0 t) i (Sy65.hooks t))) := rfl
      rw [hunf] at more
      generalize HM.behind (HM.rodsOf 0 t) i (Sy65.hooks t) = W at hw hW hWl bL' bR' c1 c2 g1 g2 more
      have hW1 := HM.mulR_rng (lo := p.f) (hi := p.m) hW c1.1 c1.2
      -- left = rod.left_pull(weights); right = rod.right_pull(weights)
      obtain ⟨dx, hd⟩ := hrod
      refine ⟨_, rfl, ra, dx, _, rfl, s1 _ _ hd, rodF_pl p, _, rfl, ra, wl, p, W, rfl, ⟨dx, s1 _ _ hd⟩, SqL.of hw, by omega, by omega, fun H2 s2 => ?_⟩
      have s12 := s1.trans s2
      refine ⟨_, rfl, ra, dx, _, rfl, s12 _ _ hd, rodF_pr p, _, rfl, ra, wl, p, W, rfl, ⟨dx, s12 _ _ hd⟩, SqL.of (s2 _ _ hw), by omega, by omega, fun H3 s3 => ?_⟩
      have s13 := s12.trans s3
      have hw3 : H3 wl = some (.lst (nV W)) := s3 _ _ (s2 _ _ hw)
      generalize HM.pullL W p = pl at bL' c1 c2 g1 g2 more hW1
      generalize HM.pullR W p = pr at bR' c1 c2 g1 g2 more hW1
      refine ⟨_, rfl, _, rfl, pl, pr, rfl, ?_⟩
      generalize Nat.gcd pl pr = gg at c1 c2 g1 g2 more hW1
      -- for hook in range(rod.first, rod.middle)
      refine ⟨_, rfl, ra, C, dx, _, _, rfl, s13 _ _ hd, T.cl, T.nf, rodF_f p, _, rfl, ra, C, dx, _, _, rfl, s13 _ _ hd, T.cl, T.nm, rodF_m p, _, _, rfl, ⟨by omega, by omega, by omega, by omega⟩, ?_⟩
      have hgpos : (0 : Int) < (gg : Int) := by omega
      have hgb : (gg : Int).natAbs < 2 ^ 500 := by rw [Int.natAbs_natCast]; exact big (i := i) (by omega) g2
      refine mul_loop (K := K) (H0 := H) (n := Sy65.hooks t) (lo := p.f) (hi := p.m) (c := pr / gg) (W := W) (tOp (rI CDivW fun i j => .int (i / j)) (tVar 5) (tVar 6)) (by omega) (by omega) hwl s13 hw3 _ rfl
        (fun v7' H1 Q q => ⟨_, rfl, _, rfl, _, _, rfl, rfl, wide_div hgpos hgb (by decide) (by decide), by rw [Int.natCast_ediv] at q; exact q⟩) (big (i := i) (by omega) c1.2)
        (fun y hy => big (i := i) (by omega) (Nat.le_trans (hW y hy).2 (Nat.le_mul_of_pos_left _ (by decide)))) ?_
      intro v7' H4 s4 hw4
      -- for hook in range(rod.middle, rod.behind)
      refine ⟨_, rfl, ra, C, dx, _, _, rfl, s4 _ _ hd, T.cl, T.nm, rodF_m p, _, rfl, ra, C, dx, _, _, rfl, s4 _ _ hd, T.cl, T.nb, rodF_b p, _, _, rfl, ⟨by omega, by omega, by omega, by omega⟩, ?_⟩
      refine mul_loop (K := K) (H0 := H) (n := Sy65.hooks t) (lo := p.m) (hi := p.b) (c := pl / gg) (W := HM.mulR p.f p.m (pr / gg) W) (tOp (rI CDivW fun i j => .int (i / j)) (tVar 4) (tVar 6)) (by omega) (by rw [HM.mulR_length]; omega) hwl s4 hw4 _ rfl
        (fun v7' H1 Q q => ⟨_, rfl, _, rfl, _, _, rfl, rfl, wide_div hgpos hgb (by decide) (by decide), by rw [Int.natCast_ediv] at q; exact q⟩) (big (i := i) (by omega) c2.2)
        (fun y hy => big (i := i + 1) (by omega) (Nat.le_trans (hW1 y hy).2 (Nat.le_mul_of_pos_left _ (by decide)))) ?_
      intro v7'' H5 s5 hw5
      refine ⟨_, _, _, _, _, rfl, s5, ?_⟩
      rw [hw5, more]
    · rintro σ H1 ⟨v3, v4, v5, v6, v7, rfl, s1, hw⟩
      rw [List.length_map, hR.1, HM.behind_all, HM.least_is] at hw
      exact ⟨_, rfl, k _ wl s1 hwl hw⟩
end
end HMP
namespace HMP
open PySem PySem.Spec PyProof.Rows L2
theorem count_int : ∀ (l : List Nat) (k : Nat), (l.map fun (n : Nat) => (n : Int)).count ((k : Nat) : Int) = l.count k
  | [], _ => rfl
  | x :: l, k => by
    rw [List.map_cons, List.count_cons, List.count_cons, count_int l k]
    by_cases h : x = k
    · subst h
      simp
    · have : ¬ ((x : Int) = (k : Int)) := by omega
      simp [h, this]
theorem RodsAt.cons {C : Addr} {H : Hp} {as : List Addr} {ps : List HM.Rd} {a : Addr} {p : HM.Rd} (h1 : RodAt C H a p) (h : RodsAt C H as ps) : RodsAt C H (a :: as) (p :: ps) := by
  refine ⟨by rw [List.length_cons, List.length_cons, h.1], fun i b q e1 e2 => ?_⟩
  cases i with
  | zero =>
    have e1 := Option.some.inj e1
    have e2 := Option.some.inj e2
    subst e1
    subst e2
    exact h1
  | succ i => exact h.2 i b q (by simpa using e1) (by simpa using e2)
theorem RodsAt.mem {C : Addr} {H : Hp} {as : List Addr} {ps : List HM.Rd} (h : RodsAt C H as ps) {a : Addr} (ha : a ∈ as) : ∃ p, RodAt C H a p := by
  obtain ⟨i, hi⟩ := List.mem_iff_getElem?.mp ha
  have hlt : i < ps.length := by rw [← h.1]; exact (List.getElem?_eq_some_iff.mp hi).1
  exact ⟨ps[i], h.2 i a _ hi (List.getElem?_eq_getElem hlt)⟩
/-- another thing than a rod changes -/
theorem RodsAt.upd {C : Addr} {H : Hp} {as : List Addr} {ps : List HM.Rd} (h : RodsAt C H as ps) {b : Addr} {xs ys : List V} (hb : H b = some (.lst xs)) : RodsAt C (L2.upd H b (.lst ys)) as ps := by
  refine ⟨h.1, fun i a p e1 e2 => ?_⟩
  obtain ⟨dx, e⟩ := h.2 i a p e1 e2
  have : a ≠ b := fun z => by rw [z, hb] at e; cases e
  exact ⟨dx, (upd_ne this).trans e⟩
theorem take_last {l : List Nat} {i x : Nat} (h : l[i]? = some x) : (l.take (i + 1)).reverse = x :: (l.take i).reverse := by
  rw [List.take_add_one, h]
  simp
section
variable {P : Program} {w : World} {K : PySem.W.Frag} {mg : Str → Option Value} {base : Heap} {C : Addr}
/-! ### rods_told -/
def spRodsTold (K : PySem.W.Frag) (C : Addr) : Sp := fun vs H Q _ => ∃ (a : Addr) (t : Sy65.Tree), vs = [.ref a] ∧ SqL K H a (nV (Sy65.numbers t)) ∧ HM.Good t ∧ (Sy65.numbers t).length ≤ 60 ∧
  ∀ (H' : Hp) (p : Addr) (as : List Addr), Same H H' → H p = none → H' p = some (.lst (as.map V.ref)) → RodsAt C H' as (HM.rodsOf 0 t) → as.Nodup → (∀ a ∈ as, H a = none) → Q (.ref p) H'
theorem scRodsTold : FnScope ["shape", "rods", "ends", "first", "place", "middle", "behind"] ["shape"] (defScope sRodsTold) := ⟨rfl, rfl, rfl, by decide +kernel, rfl, by decide +kernel, by decide +kernel⟩
/-- what stands behind some turns -/
structure Told (C : Addr) (H H' : Hp) (l : List Nat) (z : HM.Bk) (rl el : Addr) (i : Nat) (s : HM.Bk) (as : List Addr) : Prop where
  same : Same H H'
  rods : H' rl = some (.lst (as.map V.ref))
  ends : H' el = some (.lst (nV s.ends.reverse))
  at_ : RodsAt C H' as.reverse s.rods
  nd : as.Nodup
  new : ∀ a ∈ as, H a = none
  le : i ≤ l.length
  few : s.ends.length + s.rods.length + i ≤ l.length
  eq : HM.back (l.take i).reverse s = some z
theorem ok_rodsTold {f fI : Addr} {fd fdI : FuncData} (F : Fun K "rods_told" "rods_told" sRodsTold f fd) (T : RodTxt K C)
    (nRev : mg "reversed" = none) (nLen : mg "len" = none) (nList : mg "list" = none) (gC : mg "Rod" = some (.ref C))
    (M : Mk K C fI) (bI : Binds K fdI ["self", "left", "right", "first", "middle", "behind"] []) (GI : FnOk P w K mg base CX0 1 fI fdI ["self", "left", "right", "first", "middle", "behind"] (spRodI C)) :
    FnOk P w K mg base CX0 3 f fd ["shape"] (spRodsTold K C) := by
  refine F.ok scRodsTold (fun vs H Q E h => ?_) (fun cdv A outer s H vs Q E hr h => ⟨_, pss_cons (ps_set (i := 1) scRodsTold.nd rfl (Or.inl rfl) (pe_lst pa_nil))
      (pss_cons (ps_set (i := 2) scRodsTold.nd rfl (Or.inl rfl) (pe_lst pa_nil))
      (pss_cons (ps_set (i := 3) scRodsTold.nd rfl (Or.inl rfl) (pe_bm PySem.F.plainAttrs_list PySem.F.slot_list_count PySem.F.type_list_count mt_lcount (pv 0) (pa_cons pe_int pa_nil)))
      (pss_cons (ps_set (i := 4) scRodsTold.nd rfl (Or.inl rfl) (pe_callB call_len_seq (by rfl) nLen PySem.boot_len (pa_cons (pv 0) pa_nil)))
      (pss_cons (ps_while PassesOwn.never (pt_cmpR op_gt (pv 4) pe_int (nomark _))
        (pss_one (ps_if (pt_cmpR op_eq (pe_ix ix_list (pv 0) (pe_op op_sub (pv 4) pe_int) (fun _ _ => rfl)) pe_int (nomark _))
          (pss_cons (ps_aug (i := 4) scRodsTold.nd rfl (Or.inl rfl) pe_int ip_sub)
          (pss_cons (ps_aug (i := 3) scRodsTold.nd rfl (Or.inl rfl) pe_int ip_sub)
          (pss_one (ps_expr (pe_bm PySem.F.plainAttrs_list PySem.F.slot_list_append PySem.F.type_list_append mt_append (pv 2) (pa_cons pe_int pa_nil))))))
          (pss_cons (ps_aug (i := 4) scRodsTold.nd rfl (Or.inl rfl) pe_int ip_sub)
          (pss_cons (ps_set (i := 5) scRodsTold.nd rfl (Or.inl rfl) (pe_op op_add (pv 3) (pe_bm0 PySem.F.plainAttrs_list PySem.F.slot_list_pop PySem.F.type_list_pop mt_pop (pv 2))))
          (pss_cons (ps_set (i := 6) scRodsTold.nd rfl (Or.inl rfl) (pe_op op_add (pv 5) (pe_bm0 PySem.F.plainAttrs_list PySem.F.slot_list_pop PySem.F.type_list_pop mt_pop (pv 2))))
          (pss_cons (ps_expr (pe_bm PySem.F.plainAttrs_list PySem.F.slot_list_append PySem.F.type_list_append mt_append (pv 2) (pa_cons (pe_op op_sub (pv 6) (pv 3)) pa_nil)))
          (pss_one (ps_expr (pe_bm PySem.F.plainAttrs_list PySem.F.slot_list_append PySem.F.type_list_append mt_append (pv 1)
            (pa_cons (pe_make M GI hr rfl gC bI .nil pass0 (pa_cons (pe_ix ix_list (pv 0) (pv 4) (fun _ _ => rfl)) (pa_cons (pe_ix ix_list (pv 0) (pe_op op_add (pv 4) pe_int) (fun _ _ => rfl)) (pa_cons (pv 3) (pa_cons (pv 5) (pa_cons (pv 6) pa_nil)))))) pa_nil)))))))))))
      (pss_one (ps_ret (Own.pe_lstRev rfl (by rfl) nList (by rfl) nRev (pv 1)))))))), ?_⟩)
  · obtain ⟨a, t, rfl, _⟩ := h
    rfl
  · obtain ⟨a, t, rfl, hS, hG, hl, k⟩ := h
    have hcount := HM.count_numbers t hG
    have htold := HM.back_told hG
    generalize hln : Sy65.numbers t = l at hS hl hcount htold
    generalize hz : (⟨[Sy65.hooks t], HM.rodsOf 0 t, 0⟩ : HM.Bk) = z at htold
    refine ⟨by decide, fun rl nrl => ⟨by decide, fun el nel => ?_⟩⟩
    have s1 : Same H (upd H rl (.lst [])) := keep_new nrl
    have s2 := s1.trans (keep_new (o := .lst []) nel)
    have hel : H el = none := s1.free nel
    have hne : rl ≠ el := fun e => by rw [← e, upd_same] at nel; cases nel
    refine ⟨_, rfl, .inl ⟨rfl, _, s2.seq hS⟩, a, _, _, rfl, rfl, by rw [← nV_ints]; exact s2.seq hS, ?_⟩
    refine ⟨_, rfl, a, _, rfl, .inl (s2.seq hS), ?_⟩
    refine ⟨fun m σ H' => ∃ (i : Nat) (s : HM.Bk) (as : List Addr) (v5 v6 : Option V), m = i ∧ σ = [some (.ref a), some (.ref rl), some (.ref el), some (.int (s.first : Int)), some (.int (i : Int)), v5, v6] ∧ Told C H H' l z rl el i s as, ?_, ?_⟩
    · refine ⟨l.length, l.length, ⟨[], [], Sy65.hooks t⟩, [], none, none, rfl, ?_, ⟨s2, (upd_ne hne).trans upd_same, upd_same, ⟨rfl, (fun i a p e => by simp at e)⟩, List.nodup_nil, (fun a ha => by cases ha), Nat.le_refl _, by show 0 + 0 + l.length ≤ l.length; omega, by rw [List.take_length]; exact htold⟩⟩
      show [some (V.ref a), some (V.ref rl), some (V.ref el), some (V.int (((l.map fun (n : Nat) => (n : Int)).count ((0 : Nat) : Int) : Nat) : Int)), some (V.int (((nV l).length : Nat) : Int)), none, none] = _
      rw [count_int, hcount, nV_length]
    · rintro m σ H' ⟨i, s, as, v5, v6, rfl, rfl, h⟩
      refine ⟨_, rfl, _, _, rfl, rfl, _, rfl, ite2 (fun c => ?_) (fun c => ?_)⟩
      · have c1 : (0 : Int) < (m : Int) := of_decide_eq_true c
        obtain ⟨j, rfl⟩ : ∃ j, m = j + 1 := ⟨m - 1, by omega⟩
        have hlt : j < l.length := by have := h.le; omega
        have hx : l[j]? = some l[j] := List.getElem?_eq_getElem hlt
        generalize l[j] = y at hx
        have heq := h.eq
        rw [take_last hx] at heq
        have hfew := h.few
        have hS' : SqL K H' a (nV l) := h.same.seq hS
        refine ⟨fun σ' H'' => ∃ (i' : Nat) (s' : HM.Bk) (as' : List Addr) (v5 v6 : Option V), i' ≤ j ∧ σ' = [some (.ref a), some (.ref rl), some (.ref el), some (.int (s'.first : Int)), some (.int (i' : Int)), v5, v6] ∧ Told C H H'' l z rl el i' s' as', ?_, ?_⟩
        · rintro σ' H'' ⟨i', s', as', v5', v6', q, rfl, h'⟩
          exact ⟨i', by omega, i', s', as', v5', v6', rfl, rfl, h'⟩
        have ej : ((j + 1 : Nat) : Int) - 1 = (j : Int) := by omega
        refine ⟨_, rfl, _, rfl, _, _, rfl, rfl, a, _, _, _, rfl, rfl, hS', get_nV ej hx, rfl, _, rfl, ite2 (fun c => ?_) (fun c => ?_)⟩
        · -- a hook
          have c3 : V.int (y : Int) = V.int 0 := of_decide_eq_true c
          have : y = 0 := by
            have := V.int.inj c3
            omega
          subst this
          obtain ⟨q1, q2⟩ := HM.back_zero heq
          refine ⟨_, rfl, _, _, rfl, rfl, ?_⟩
          refine ⟨_, rfl, _, _, rfl, rfl, ?_⟩
          refine ⟨_, rfl, .inl ⟨rfl, _, SqL.of h.ends⟩, el, _, _, rfl, rfl, h.ends, ?_, ?_⟩
          · rw [nV_length, List.length_reverse, sizeLine_eq]
            omega
          refine ⟨j, ⟨1 :: s.ends, s.rods, s.first - 1⟩, as, v5, v6, Nat.le_refl _, ?_, ⟨same_upd h.same hel, ?_, ?_, h.at_.upd h.ends, h.nd, h.new, by omega, ?_, q2⟩⟩
          · show [some (V.ref a), some (V.ref rl), some (V.ref el), some (V.int ((s.first : Int) - 1)), some (V.int (((j + 1 : Nat) : Int) - 1)), v5, v6] = _
            have e2 : (s.first : Int) - 1 = ((s.first - 1 : Nat) : Int) := by omega
            rw [ej, e2]
          · exact (upd_ne hne).trans h.rods
          · rw [upd_same]
            show some (HO.lst (nV s.ends.reverse ++ nV [1])) = _
            rw [nV_app]
            show _ = some (HO.lst (nV (1 :: s.ends).reverse))
            rw [List.reverse_cons]
          · show (1 :: s.ends).length + s.rods.length + j ≤ l.length
            rw [List.length_cons]
            omega
        · -- a rod
          have c3 : y ≠ 0 := fun h => c (decide_eq_true (by rw [h]; rfl))
          obtain ⟨x, p', ea, eb, er, e1, e2, e3⟩ := HM.back_some c3 heq
          obtain ⟨i, rfl⟩ : ∃ i, j = i + 1 := by
            cases j with
            | zero =>
              rw [List.take_zero, List.reverse_nil] at e1
              cases e1
            | succ i => exact ⟨i, rfl⟩
          have hlt2 : i < l.length := by omega
          have hx2 : l[i]? = some l[i] := List.getElem?_eq_getElem hlt2
          have e1' := e1
          rw [take_last hx2] at e1'
          obtain ⟨f1, f2⟩ := List.cons.inj e1'
          rw [f1] at hx2
          rw [← f2] at e3
          obtain ⟨se, sr, sf⟩ := s
          dsimp only at e2 e3 hfew
          subst e2
          have hends := h.ends
          have hrods := h.rods
          have hat := h.at_
          dsimp only at hends hat
          rw [List.reverse_cons, List.reverse_cons] at hends
          have ei : ((i + 1 + 1 : Nat) : Int) - 2 = (i : Int) := by omega
          -- place -= 2
          refine ⟨_, rfl, _, _, rfl, rfl, ?_⟩
          -- middle = first + ends.pop()
          refine ⟨_, rfl, _, rfl, .inl ⟨rfl, _, SqL.of h.ends⟩, el, _, V.int (ea : Int), rfl, rfl, hends, ?_, _, _, rfl, rfl, ?_⟩
          · rw [← nV_app, List.length_append]
            show (nV (er.reverse ++ [eb]) ++ [V.int (ea : Int)])[(nV (er.reverse ++ [eb])).length + 1 - 1]? = _
            rw [Nat.add_sub_cancel, List.getElem?_append_right (Nat.le_refl _), Nat.sub_self]
            rfl
          have d1 : (nV (er.reverse ++ [eb] ++ [ea])).dropLast = nV (er.reverse ++ [eb]) := by
            rw [← nV_app]
            exact List.dropLast_concat
          rw [d1]
          -- behind = middle + ends.pop()
          refine ⟨_, rfl, _, rfl, .inl ⟨rfl, _, SqL.of upd_same⟩, el, _, V.int (eb : Int), rfl, rfl, upd_same, ?_, _, _, rfl, rfl, ?_⟩
          · rw [← nV_app, List.length_append]
            show (nV er.reverse ++ [V.int (eb : Int)])[(nV er.reverse).length + 1 - 1]? = _
            rw [Nat.add_sub_cancel, List.getElem?_append_right (Nat.le_refl _), Nat.sub_self]
            rfl
          have d2 : (nV (er.reverse ++ [eb])).dropLast = nV er.reverse := by
            rw [← nV_app]
            exact List.dropLast_concat
          rw [d2]
          -- ends.append(behind - first)
          refine ⟨_, rfl, .inl ⟨rfl, _, SqL.of upd_same⟩, _, rfl, _, rfl, _, _, rfl, rfl, el, _, _, rfl, rfl, upd_same, ?_, ?_⟩
          · rw [nV_length, List.length_reverse, sizeLine_eq]
            simp only [List.length_cons] at hfew
            omega
          have s4 : Same H (upd (upd (upd H' el (HO.lst (nV (er.reverse ++ [eb])))) el (HO.lst (nV er.reverse))) el (HO.lst (nV er.reverse ++ [V.int ((sf : Int) + (ea : Int) + (eb : Int) - (sf : Int))]))) := same_upd (same_upd (same_upd h.same hel) hel) hel
          have a4 : RodsAt C (upd (upd (upd H' el (HO.lst (nV (er.reverse ++ [eb])))) el (HO.lst (nV er.reverse))) el (HO.lst (nV er.reverse ++ [V.int ((sf : Int) + (ea : Int) + (eb : Int) - (sf : Int))]))) as.reverse sr := ((hat.upd hends).upd upd_same).upd upd_same
          have r4 : (upd (upd (upd H' el (HO.lst (nV (er.reverse ++ [eb])))) el (HO.lst (nV er.reverse))) el (HO.lst (nV er.reverse ++ [V.int ((sf : Int) + (ea : Int) + (eb : Int) - (sf : Int))]))) rl = some (.lst (as.map V.ref)) := by
            rw [upd_ne hne, upd_ne hne, upd_ne hne]
            exact hrods
          have l4 : (upd (upd (upd H' el (HO.lst (nV (er.reverse ++ [eb])))) el (HO.lst (nV er.reverse))) el (HO.lst (nV er.reverse ++ [V.int ((sf : Int) + (ea : Int) + (eb : Int) - (sf : Int))]))) el = some (.lst (nV ((ea + eb) :: er).reverse)) := by
            rw [upd_same, List.reverse_cons, ← nV_app]
            have : (sf : Int) + (ea : Int) + (eb : Int) - (sf : Int) = ((ea + eb : Nat) : Int) := by omega
            rw [this]
            rfl
          -- rods.append(Rod(..))
          refine ⟨_, rfl, .inl ⟨rfl, _, SqL.of r4⟩, ?_⟩
          refine ⟨_, rfl, _, rfl, a, _, _, _, rfl, rfl, s4.seq hS, get_nV ei hx2, ?_⟩
          refine ⟨_, rfl, _, rfl, _, _, rfl, rfl, a, _, _, _, rfl, rfl, s4.seq hS, get_nV (show ((i + 1 + 1 : Nat) : Int) - 2 + 1 = ((i + 1 : Nat) : Int) by omega) hx, _, rfl, _, rfl, _, rfl, ?_⟩
          revert s4 a4 r4 l4
          generalize upd (upd (upd H' el (HO.lst (nV (er.reverse ++ [eb])))) el (HO.lst (nV er.reverse))) el (HO.lst (nV er.reverse ++ [V.int ((sf : Int) + (ea : Int) + (eb : Int) - (sf : Int))])) = H4
          intro s4 a4 r4 l4 nx ndx hx4 hdx4 hne4
          refine ⟨nx, ndx, x, y, sf, sf + ea, sf + ea + eb, rfl, upd_same, fun H5 h5 k5 _ => ⟨rfl, ?_⟩⟩
          have m5 : Same H4 H5 := Same.made hx4 hdx4 k5
          refine ⟨rl, _, _, rfl, rfl, m5 _ _ r4, ?_, ?_⟩
          · have := hat.1
            rw [List.length_reverse] at this
            rw [List.length_map, this, sizeLine_eq]
            omega
          have hrx : nx ≠ rl := fun e => by rw [e, r4] at hx4; cases hx4
          have hnew : nx ∉ as := fun hm => by
            obtain ⟨p, dx, e⟩ := a4.mem (List.mem_reverse.mpr hm)
            rw [hx4] at e
            cases e
          refine ⟨i, ⟨(ea + eb) :: er, ⟨x, y, sf, sf + ea, sf + ea + eb⟩ :: sr, sf⟩, as ++ [nx], some (V.int ((sf : Int) + (ea : Int))), some (V.int ((sf : Int) + (ea : Int) + (eb : Int))), by omega, ?_, ⟨same_upd (s4.trans m5) nrl, ?_, ?_, ?_, ?_, ?_, by omega, ?_, e3⟩⟩
          · show [some (V.ref a), some (V.ref rl), some (V.ref el), some (V.int (sf : Int)), some (V.int (((i + 1 + 1 : Nat) : Int) - 2)), some (V.int ((sf : Int) + (ea : Int))), some (V.int ((sf : Int) + (ea : Int) + (eb : Int)))] = _
            rw [ei]
          · rw [upd_same, List.map_append]
            rfl
          · exact (upd_ne (Ne.symm hne)).trans (m5 _ _ l4)
          · rw [List.reverse_append]
            obtain ⟨dx, e5⟩ := h5
            exact RodsAt.cons ⟨dx, (upd_ne hrx).trans e5⟩ ((a4.same m5).upd (m5 _ _ r4))
          · rw [List.nodup_append]
            refine ⟨h.nd, by simp, fun a ha b hb e => ?_⟩
            rw [List.mem_singleton.mp hb] at e
            subst e
            exact hnew ha
          · intro b hb
            rcases List.mem_append.mp hb with hb | hb
            · exact h.new b hb
            · rw [List.mem_singleton.mp hb]
              exact s4.free hx4
          · show ((ea + eb) :: er).length + (_ :: sr).length + i ≤ l.length
            simp only [List.length_cons] at hfew ⊢
            omega
      · have c1 : ¬ (0 : Int) < (m : Int) := fun h => c (decide_eq_true h)
        have : m = 0 := by omega
        subst this
        have heq := h.eq
        rw [List.take_zero, List.reverse_nil, HM.back_nil, ← hz] at heq
        have heq := Option.some.inj heq
        subst heq
        refine ⟨_, rfl, rl, _, rfl, SqL.of h.rods, fun q nq => ?_⟩
        refine k _ q as.reverse (h.same.trans (keep_new nq)) (h.same.free nq) ?_ (h.at_.same (keep_new nq)) (List.pairwise_reverse.mpr (h.nd.imp fun e => Ne.symm e)) fun b hb => h.new b (List.mem_reverse.mp hb)
        rw [upd_same, List.map_reverse]
end
end HMP
namespace HMP
open PySem PySem.Spec PyProof.Rows L2
/-! ### the mobile -/
def mobF (lr lw : Addr) : List (Str × V) := [("rods", .ref lr), ("weights", .ref lw)]
theorem mobF_r (lr lw : Addr) : (mobF lr lw).lookup ("rods" : Str) = some (.ref lr) := lk_here
theorem mobF_w (lr lw : Addr) : (mobF lr lw).lookup ("weights" : Str) = some (.ref lw) := (lk_past (by decide +kernel)).trans lk_here
/-- a method's name is none of the attributes -/
theorem mobF_no {m : Str} (lr lw : Addr) (h1 : (m == ("rods" : Str)) = false) (h2 : (m == ("weights" : Str)) = false) : (mobF lr lw).lookup m = none := (lk_past h1).trans ((lk_past h2).trans rfl)
theorem mobF_putR (lr lw l : Addr) : putF "rods" (.ref l) (mobF lr lw) = mobF l lw := put_here
theorem mobF_putW (lr lw l : Addr) : putF "weights" (.ref l) (mobF lr lw) = mobF lr l := (put_past (by decide +kernel)).trans (congrArg _ put_here)
structure MobTxt (K : PySem.W.Frag) (C : Addr) : Prop where
  cl : Cls K C
  nr : NoAttr K C "rods"
  nw : NoAttr K C "weights"
/-- the mobile's things lie at lr, lw, as -/
structure MobIs (CM C : Addr) (H : Hp) (m : Addr) (s : Sy65.St) (lr lw : Addr) (as : List Addr) : Prop where
  ins : ∃ dx, H m = some (.ins CM dx (mobF lr lw))
  rods : H lr = some (.lst (as.map V.ref))
  at_ : RodsAt C H as (HM.rodsOf 0 s.tree)
  nd : as.Nodup
  ws : H lw = some (.lst (nV s.hung))
  good : HM.Good s.tree
  few : Sy65.hooks s.tree ≤ 7
  len : s.hung.length = Sy65.hooks s.tree
  low : ∀ x ∈ s.hung, x ≤ 1000000
def MobAt (CM C : Addr) (H : Hp) (m : Addr) (s : Sy65.St) (F : List Addr) : Prop := ∃ lr lw as, F = m :: lr :: lw :: as ∧ MobIs CM C H m s lr lw as
/-- what a call may touch: what was the mobile's, and new things -/
def Fr (H : Hp) (F : List Addr) (H' : Hp) (F' : List Addr) : Prop := (∀ b ∈ F', b ∈ F ∨ H b = none) ∧ (∀ b o, H b = some o → b ∉ F → H' b = some o)
theorem MobIs.same {CM C : Addr} {H H' : Hp} {m : Addr} {s : Sy65.St} {lr lw : Addr} {as : List Addr} (h : MobIs CM C H m s lr lw as) (e : Same H H') : MobIs CM C H' m s lr lw as :=
  ⟨let ⟨dx, q⟩ := h.ins; ⟨dx, e _ _ q⟩, e _ _ h.rods, h.at_.same e, h.nd, e _ _ h.ws, h.good, h.few, h.len, h.low⟩
theorem MobIs.ne {CM C : Addr} {H : Hp} {m : Addr} {s : Sy65.St} {lr lw : Addr} {as : List Addr} (h : MobIs CM C H m s lr lw as) : m ≠ lr ∧ m ≠ lw ∧ lr ≠ lw ∧ m ∉ as ∧ lr ∉ as ∧ lw ∉ as := by
  obtain ⟨dx, hd⟩ := h.ins
  have rod : ∀ a ∈ as, ∃ p dx, H a = some (.ins C dx (rodF p)) := fun a ha => h.at_.mem ha
  refine ⟨fun e => ?_, fun e => ?_, fun e => ?_, fun e => ?_, fun e => ?_, fun e => ?_⟩
  · rw [e, h.rods] at hd; cases hd
  · rw [e, h.ws] at hd; cases hd
  · have q := h.rods
    rw [e, h.ws] at q
    have q := HO.lst.inj (Option.some.inj q)
    have hl := h.len
    have := HM.hooks_pos s.tree
    cases hh : s.hung with
    | nil => rw [hh] at hl; simp at hl; omega
    | cons y ys =>
      rw [hh] at q
      cases as with
      | nil => cases q
      | cons a as =>
        have := (List.cons.inj q).1
        cases this
  · obtain ⟨p, dx', q⟩ := rod _ e
    rw [hd] at q
    have := (HO.ins.inj (Option.some.inj q)).2.2
    have := congrArg List.length this
    cases this
  · obtain ⟨p, dx', q⟩ := rod _ e
    rw [h.rods] at q
    cases q
  · obtain ⟨p, dx', q⟩ := rod _ e
    rw [h.ws] at q
    cases q
/-- what hangs is another list's; w2 is that list -/
theorem MobIs.hang {CM C : Addr} {H : Hp} {m : Addr} {s : Sy65.St} {lr lw : Addr} {as : List Addr} (h : MobIs CM C H m s lr lw as) (w2 : List Nat) (hl : w2.length = Sy65.hooks s.tree) (hw : ∀ x ∈ w2, x ≤ 1000000) :
    MobIs CM C (upd H lw (.lst (nV w2))) m { s with hung := w2 } lr lw as := by
  obtain ⟨n1, n2, n3, n4, n5, n6⟩ := h.ne
  obtain ⟨dx, hd⟩ := h.ins
  exact ⟨⟨dx, (upd_ne n2).trans hd⟩, (upd_ne n3).trans h.rods, h.at_.upd h.ws, h.nd, upd_same, h.good, h.few, hl, hw⟩
theorem Fr.same {H H' : Hp} {F : List Addr} (e : Same H H') : Fr H F H' F := ⟨fun _ h => .inl h, fun b o q _ => e b o q⟩
/-- what is answered -/
def ansV (a : Sy65.Ans) : List V := (Sy65Neutral.out a).map V.int
theorem ans_ok (v : Int) : ansV (Sy65.ok v) = [.int v] := rfl
theorem ans_one (v : Int) (l : List Nat) : ansV ⟨v, [Sy65.ints l]⟩ = .int v :: .int ((l.length : Nat) : Int) :: nV l := by
  show (v :: ([Sy65.ints l].flatMap fun (w : List Int) => (w.length : Int) :: w)).map V.int = _
  rw [List.flatMap_cons, List.flatMap_nil, List.append_nil, List.map_cons, List.map_cons, HM.ints_len, nV_ints]
  rfl
/-- the call c was done -/
def Done (CM C : Addr) (H : Hp) (m : Addr) (s : Sy65.St) (F : List Addr) (c : Sy65.Call) (Q : VK) : Prop :=
  ∀ (H' : Hp) (p : Addr) (F' : List Addr), MobAt CM C H' m (Sy65.step s c).1 F' → Fr H F H' F' → H p = none → H' p = some (.lst (ansV (Sy65.step s c).2)) → Q (.ref p) H'
/-- nothing is changed -/
theorem Done.stay {CM C : Addr} {H H' : Hp} {m : Addr} {s : Sy65.St} {F : List Addr} {c : Sy65.Call} {Q : VK} {p : Addr} {a : Sy65.Ans} (k : Done CM C H m s F c Q) (hm : MobAt CM C H m s F) (hs : Sy65.step s c = (s, a)) (e : Same H H') (np : H p = none) (hp : H' p = some (.lst (ansV a))) : Q (.ref p) H' := by
  obtain ⟨lr, lw, as, rfl, h⟩ := hm
  refine k H' p _ ⟨lr, lw, as, rfl, ?_⟩ (Fr.same e) np ?_
  · rw [hs]
    exact h.same e
  · rw [hs]
    exact hp
/-- a refusal -/
theorem Done.no {CM C : Addr} {H : Hp} {m : Addr} {s : Sy65.St} {F : List Addr} {c : Sy65.Call} {Q : VK} {p : Addr} {v : Int} (k : Done CM C H m s F c Q) (hm : MobAt CM C H m s F) (hs : Sy65.step s c = (s, Sy65.ok v)) (np : H p = none) : Q (.ref p) (upd H p (.lst [.int v])) :=
  k.stay hm hs (keep_new np) np upd_same
section
variable {P : Program} {w : World} {K : PySem.W.Frag} {mg : Str → Option Value} {base : Heap} {CM C : Addr}
/-! ### Mobile.__init__ -/
def spMobI (CM C : Addr) : Sp := fun vs H Q _ => ∃ (x dx : Addr), vs = [.ref x] ∧ H x = some (.ins CM dx []) ∧
  ∀ (H' : Hp) (F : List Addr), MobAt CM C H' x Sy65.init F → (∀ b ∈ F, b = x ∨ H b = none) → (∀ b o, H b = some o → b ≠ x → H' b = some o) → Q .non H'
theorem scMobI : FnScope ["self"] ["self"] (defScope sMobI) := ⟨rfl, rfl, rfl, by decide +kernel, rfl, by decide +kernel, by decide +kernel⟩
theorem ok_mobI {f : Addr} {fd : FuncData} (F : Fun K "__init__" "Mobile.__init__" sMobI f fd) (T : MobTxt K CM) : FnOk P w K mg base CX0 1 f fd ["self"] (spMobI CM C) := by
  refine F.ok scMobI (fun vs H Q E h => ?_) (fun cdv A outer s H vs Q E hr h => ⟨_, pss_cons (ps_fld (pv 0) (pe_lst pa_nil) rfl) (pss_one (ps_fld (pv 0) (pe_lst (pa_cons pe_int pa_nil)) rfl)), ?_⟩)
  · obtain ⟨x, dx, rfl, _⟩ := h
    rfl
  · obtain ⟨x, dx, rfl, hx, k⟩ := h
    refine ⟨by decide, fun lr nr => ⟨_, rfl, x, CM, dx, [], rfl, ?_, T.cl, T.nr, (by show 0 < 1000; decide), ?_⟩⟩
    · exact keep_new nr _ _ hx
    have n1 : x ≠ lr := fun e => by rw [e, nr] at hx; cases hx
    refine ⟨by decide, fun lw nw => ⟨_, rfl, x, CM, dx, [("rods", .ref lr)], rfl, ?_, T.cl, T.nw, (by show 1 < 1000; decide), ?_⟩⟩
    · exact (keep_new nw _ _ upd_same)
    have n2 : x ≠ lw := fun e => by rw [e, upd_same] at nw; cases nw
    have n3 : lr ≠ lw := fun e => by rw [← e, upd_ne (Ne.symm n1), upd_same] at nw; cases nw
    have nw' : H lw = none := by
      rw [upd_ne (Ne.symm n2), upd_ne (Ne.symm n3)] at nw
      exact nw
    refine k _ (x :: lr :: lw :: []) ⟨lr, lw, [], rfl, ⟨⟨dx, ?_⟩, ?_, ⟨rfl, fun i a p e => by simp at e⟩, List.nodup_nil, ?_, trivial, by decide, rfl, fun y hy => ?_⟩⟩ ?_ (fun b o e hb => ?_)
    · rw [upd_same]
      refine congrArg (fun q => some (HO.ins CM dx q)) ?_
      exact (put_past (by decide +kernel)).trans rfl
    · rw [upd_ne (Ne.symm n1), upd_ne n3, upd_ne (Ne.symm n1), upd_same]
      rfl
    · rw [upd_ne (Ne.symm n2), upd_same]
      rfl
    · have : y = 0 := by simpa [Sy65.init] using hy
      omega
    · intro b hb
      simp only [List.mem_cons, List.not_mem_nil, or_false] at hb
      rcases hb with rfl | rfl | rfl
      · exact .inl rfl
      · exact .inr nr
      · exact .inr nw'
    · have hb1 : b ≠ lr := fun z => by rw [z, nr] at e; cases e
      have hb2 : b ≠ lw := fun z => by rw [z, nw'] at e; cases e
      rw [upd_ne hb, upd_ne hb2, upd_ne hb, upd_ne hb1]
      exact e
/-! ### hang -/
def spHang (CM C : Addr) : Sp := fun vs H Q _ => ∃ (m : Addr) (s : Sy65.St) (F : List Addr) (h x : Nat), vs = [.ref m, .int (h : Int), .int (x : Int)] ∧ MobAt CM C H m s F ∧ Done CM C H m s F (.hang h x) Q
theorem scHang : FnScope ["self", "hook", "weight"] ["self", "hook", "weight"] (defScope sHang) := ⟨rfl, rfl, rfl, by decide +kernel, rfl, by decide +kernel, by decide +kernel⟩
theorem ok_hang {f : Addr} {fd : FuncData} (F : Fun K "hang" "Mobile.hang" sHang f fd) (T : MobTxt K CM) (nLen : mg "len" = none) (nSum : mg "sum" = none) {tH : Tok} (gH : mg "HEAVIEST" = some (.int 1000000 tH)) :
    FnOk P w K mg base CX0 1 f fd ["self", "hook", "weight"] (spHang CM C) := by
  refine F.ok scHang (fun vs H Q E h => ?_) (fun cdv A outer s H vs Q E hr h => ⟨_, pss_cons (ps_if (pt_cmpR op_ge (pv 1) (pe_callB call_len_seq (by rfl) nLen PySem.boot_len (pa_cons (pe_fld (pv 0) rfl) pa_nil)) (nomark _)) (pss_one (ps_ret (pe_lst (pa_cons (pe_un un_neg pe_int) pa_nil)))) pss_nil)
      (pss_cons (ps_if (pt_cmpR op_gt (pv 2) (pe_glob (v := .int 1000000) rfl gH ⟨_, rfl⟩) (nomark _)) (pss_one (ps_ret (pe_lst (pa_cons (pe_un un_neg pe_int) pa_nil)))) pss_nil)
      (pss_cons (ps_asg (pv 2) (pg_sub (pe_fld (pv 0) rfl) (pv 1) set_list))
      (pss_one (ps_ret (pe_lst (pa_cons (pe_callB (cr_sum rfl) (by rfl) nSum (by decide +kernel) (pa_cons (pe_fld (pv 0) rfl) pa_nil)) pa_nil)))))), ?_⟩)
  · obtain ⟨m, s, F, h, x, rfl, _⟩ := h
    rfl
  · obtain ⟨m, s, F, h, x, rfl, hm, k⟩ := h
    obtain ⟨lr, lw, as, rfl, M⟩ := id hm
    obtain ⟨dx, hd⟩ := M.ins
    have hstep : Sy65.step s (.hang h x) = if s.hung.length ≤ h then (s, Sy65.ok (-2)) else if Sy65.MOST < x then (s, Sy65.ok (-1)) else ({ s with hung := s.hung.set h x }, Sy65.ok (Sy65.heavy (s.hung.set h x) : Nat)) := rfl
    refine ⟨_, rfl, _, rfl, m, CM, dx, _, _, rfl, hd, T.cl, T.nw, mobF_w lr lw, lw, _, rfl, .inl (SqL.of M.ws), _, _, rfl, rfl, _, rfl, ite2 (fun c => ?_) (fun c => ?_)⟩
    · have c1 : ((nV s.hung).length : Int) ≤ (h : Int) := of_decide_eq_true c
      rw [nV_length] at c1
      rw [if_pos (by omega)] at hstep
      exact ⟨_, rfl, (by decide), fun p np => k.no hm hstep np⟩
    · have c1 : ¬ ((nV s.hung).length : Int) ≤ (h : Int) := fun q => c (decide_eq_true q)
      rw [nV_length] at c1
      rw [if_neg (by omega)] at hstep
      refine ⟨_, rfl, _, _, rfl, rfl, _, rfl, ite2 (fun c => ?_) (fun c => ?_)⟩
      · have c2 : (1000000 : Int) < (x : Int) := of_decide_eq_true c
        rw [if_pos (by unfold Sy65.MOST; omega)] at hstep
        exact ⟨_, rfl, (by decide), fun p np => k.no hm hstep np⟩
      · have c2 : ¬ (1000000 : Int) < (x : Int) := fun q => c (decide_eq_true q)
        rw [if_neg (by unfold Sy65.MOST; omega)] at hstep
        refine ⟨_, rfl, _, rfl, m, CM, dx, _, _, rfl, hd, T.cl, T.nw, mobF_w lr lw, _, rfl, lw, _, _, h, rfl, rfl, M.ws, ?_, ?_⟩
        · rw [nV_length]
          exact ix_same (by omega)
        rw [nV_set]
        obtain ⟨n1, n2, n3, n4, n5, n6⟩ := M.ne
        have M2 := M.hang (s.hung.set h x) (by rw [List.length_set]; exact M.len) (fun y hy => by
          rcases List.mem_or_eq_of_mem_set hy with q | q
          · exact M.low y q
          · omega)
        obtain ⟨dx2, hd2⟩ := M2.ins
        refine ⟨_, rfl, m, CM, dx2, _, _, rfl, hd2, T.cl, T.nw, mobF_w lr lw, lw, (s.hung.set h x).map (fun (n : Nat) => (n : Int)), rfl, SqL.of ?_, (by show 1 ≤ sizeLine; decide), fun p np => ?_⟩
        · rw [← nV_ints]
          exact upd_same
        have np' : H p = none := by
          have : p ≠ lw := fun e => by rw [e, upd_same] at np; cases np
          rwa [upd_ne this] at np
        refine k _ p (m :: lr :: lw :: as) ⟨lr, lw, as, rfl, ?_⟩ ⟨fun b hb => .inl hb, fun b o e hb => ?_⟩ np' ?_
        · rw [hstep]
          exact M2.same (keep_new np)
        · have b1 : b ≠ lw := fun z => hb (by rw [z]; simp)
          have b2 : b ≠ p := fun z => by rw [z, np'] at e; cases e
          rw [upd_ne b2, upd_ne b1]
          exact e
        · rw [hstep, upd_same, sum_int]
          rfl
end
end HMP
namespace HMP
open PySem PySem.Spec PyProof.Rows L2
section
variable {P : Program} {w : World} {K : PySem.W.Frag} {mg : Str → Option Value} {base : Heap} {CM C : Addr}
theorem RodsAt.modify {H : Hp} {as : List Addr} {ps : List HM.Rd} (h : RodsAt C H as ps) (nd : as.Nodup) {k : Nat} {ra : Addr} {p : HM.Rd} {g : HM.Rd → HM.Rd} (ha : as[k]? = some ra) (hp : ps[k]? = some p) {H' : Hp} (h1 : RodAt C H' ra (g p)) (h2 : ∀ b o, H b = some o → b ≠ ra → H' b = some o) :
    RodsAt C H' as (ps.modify k g) := by
  refine ⟨by rw [List.length_modify, h.1], fun i b q e1 e2 => ?_⟩
  by_cases hi : k = i
  · subst hi
    rw [List.getElem?_modify_eq, hp] at e2
    rw [ha] at e1
    cases e1
    cases e2
    exact h1
  · rw [List.getElem?_modify_ne _ _ hi] at e2
    have e2' := e2
    obtain ⟨dx, e⟩ := h.2 i b q e1 e2'
    have : b ≠ ra := fun z => hi (nd_ix nd ha (by rw [← z]; exact e1))
    exact ⟨dx, h2 _ _ e this⟩
/-! ### arms -/
def spArms (CM C : Addr) : Sp := fun vs H Q _ => ∃ (m : Addr) (s : Sy65.St) (F : List Addr) (k l r : Nat), vs = [.ref m, .int (k : Int), .int (l : Int), .int (r : Int)] ∧ MobAt CM C H m s F ∧ Done CM C H m s F (.arms_ k l r) Q
theorem scArms : FnScope ["self", "rod", "left", "right", "changed"] ["self", "rod", "left", "right"] (defScope sArms) := ⟨rfl, rfl, rfl, by decide +kernel, rfl, by decide +kernel, by decide +kernel⟩
theorem ok_arms {f fB : Addr} {fd fdB : FuncData} (F : Fun K "arms" "Mobile.arms" sArms f fd) (T : MobTxt K CM) (TR : RodTxt K C) (nLen : mg "len" = none) (gB : mg "may_be_arms" = some (.ref fB)) (kB : PySem.W.keepIn K (.ref fB) = true) (bB : Binds K fdB ["left", "right"] [])
    (GB : FnOk P w K mg base CX0 1 fB fdB ["left", "right"] spMayBe) : FnOk P w K mg base CX0 2 f fd ["self", "rod", "left", "right"] (spArms CM C) := by
  refine F.ok scArms (fun vs H Q E h => ?_) (fun cdv A outer s H vs Q E hr h => ⟨_, pss_cons (ps_if (pt_cmpR op_ge (pv 1) (pe_callB call_len_seq (by rfl) nLen PySem.boot_len (pa_cons (pe_fld (pv 0) rfl) pa_nil)) (nomark _)) (pss_one (ps_ret (pe_lst (pa_cons (pe_un un_neg pe_int) pa_nil)))) pss_nil)
      (pss_cons (ps_if (pt_not (pt_val (pe_call GB hr rfl gB kB bB .nil pass0 (pa_cons (pv 2) (pa_cons (pv 3) pa_nil))))) (pss_one (ps_ret (pe_lst (pa_cons (pe_un un_neg pe_int) pa_nil)))) pss_nil)
      (pss_cons (ps_set (i := 4) scArms.nd rfl (Or.inl rfl) (pe_ix ix_list (pe_fld (pv 0) rfl) (pv 1) (fun _ _ => rfl)))
      (pss_cons (ps_fld (pv 4) (pv 2) rfl)
      (pss_cons (ps_fld (pv 4) (pv 3) rfl)
      (pss_one (ps_ret (pe_lst (pa_cons pe_int pa_nil)))))))), ?_⟩)
  · obtain ⟨m, s, F, h, x, y, rfl, _⟩ := h
    rfl
  · obtain ⟨m, s, F, h, x, y, rfl, hm, k⟩ := h
    obtain ⟨lr, lw, as, rfl, M⟩ := id hm
    obtain ⟨dx, hd⟩ := M.ins
    have hl := M.at_.1
    rw [HM.rodsOf_length] at hl
    have hstep : Sy65.step s (.arms_ h x y) = if Sy65.rods s.tree ≤ h then (s, Sy65.ok (-2)) else if x < 1 ∨ 20 < x ∨ y < 1 ∨ 20 < y then (s, Sy65.ok (-1)) else ({ s with tree := Sy65.withArms x y h s.tree }, Sy65.ok 0) := rfl
    refine ⟨_, rfl, _, rfl, m, CM, dx, _, _, rfl, hd, T.cl, T.nr, mobF_r lr lw, lr, _, rfl, .inl (SqL.of M.rods), _, _, rfl, rfl, _, rfl, ite2 (fun c => ?_) (fun c => ?_)⟩
    · have c1 : ((as.map V.ref).length : Int) ≤ (h : Int) := of_decide_eq_true c
      rw [List.length_map] at c1
      rw [if_pos (by omega)] at hstep
      exact ⟨_, rfl, (by decide), fun p np => k.no hm hstep np⟩
    · have c1 : ¬ ((as.map V.ref).length : Int) ≤ (h : Int) := fun q => c (decide_eq_true q)
      rw [List.length_map] at c1
      rw [if_neg (by omega)] at hstep
      refine ⟨_, rfl, _, rfl, x, y, rfl, _, rfl, ?_⟩
      cases hok : HM.okArms x y with
      | false =>
        have : ¬ (1 ≤ x ∧ x ≤ 20 ∧ 1 ≤ y ∧ y ≤ 20) := fun q => by
          rw [HM.okArms_iff.mpr q] at hok
          cases hok
        rw [if_pos (by omega)] at hstep
        exact iteT ⟨_, rfl, (by decide), fun p np => k.no hm hstep np⟩
      | true =>
        have hq := HM.okArms_iff.mp hok
        rw [if_neg (by omega)] at hstep
        have hlt : h < as.length := by omega
        have ha : as[h]? = some as[h] := List.getElem?_eq_getElem hlt
        generalize as[h] = ra at ha
        have hlt2 : h < (HM.rodsOf 0 s.tree).length := by rw [HM.rodsOf_length]; omega
        have hp : (HM.rodsOf 0 s.tree)[h]? = some (HM.rodsOf 0 s.tree)[h] := List.getElem?_eq_getElem hlt2
        generalize (HM.rodsOf 0 s.tree)[h] = pr at hp
        obtain ⟨dr, hr1⟩ := M.at_.2 h ra pr ha hp
        refine iteF ⟨_, rfl, m, CM, dx, _, _, rfl, hd, T.cl, T.nr, mobF_r lr lw, _, rfl, lr, _, _, V.ref ra, rfl, rfl, SqL.of M.rods, ?_, ?_⟩
        · refine atI_nat ?_
          rw [List.getElem?_map, ha]
          rfl
        refine ⟨_, rfl, _, rfl, ra, C, dr, _, rfl, hr1, TR.cl, TR.nl, (by show 5 < 1000; decide), ?_⟩
        refine ⟨_, rfl, _, rfl, ra, C, dr, putF "left" (.int (x : Int)) (rodF pr), rfl, upd_same, TR.cl, TR.nr, ?_, ?_⟩
        · rw [show putF "left" (.int (x : Int)) (rodF pr) = rodF { pr with l := x } from put_here]
          show 5 < 1000
          decide
        rw [rodF_arms]
        refine ⟨(by show 1 ≤ sizeLine; decide), fun p np => ?_⟩
        obtain ⟨n1, n2, n3, n4, n5, n6⟩ := M.ne
        have ham := List.mem_of_getElem? ha
        have m1 : m ≠ ra := fun e => n4 (by rw [e]; exact ham)
        have m2 : lr ≠ ra := fun e => n5 (by rw [e]; exact ham)
        have m3 : lw ≠ ra := fun e => n6 (by rw [e]; exact ham)
        have np' : H p = none := by
          have : p ≠ ra := fun e => by rw [e, upd_same] at np; cases np
          rwa [upd_ne this, upd_ne this] at np
        have other : ∀ b o, H b = some o → b ≠ ra → (upd (upd (upd H ra (.ins C dr (putF "left" (.int (x : Int)) (rodF pr)))) ra (.ins C dr (rodF (HM.setArms x y pr)))) p (.lst [V.int 0])) b = some o := fun b o e hb => by
          have b2 : b ≠ p := fun z => by rw [z, np'] at e; cases e
          rw [upd_ne b2, upd_ne hb, upd_ne hb]
          exact e
        refine k _ p (m :: lr :: lw :: as) ⟨lr, lw, as, rfl, ?_⟩ ⟨fun b hb => .inl hb, fun b o e hb => other b o e fun z => hb (by rw [z]; simp [ham])⟩ np' ?_
        · rw [hstep]
          refine ⟨⟨dx, other _ _ hd m1⟩, other _ _ M.rods m2, ?_, M.nd, other _ _ M.ws m3, HM.withArms_good hok _ _ M.good, ?_, ?_, M.low⟩
          · rw [HM.withArms_rods]
            refine M.at_.modify M.nd ha hp ⟨dr, ?_⟩ other
            have : ra ≠ p := fun z => by rw [z, np'] at hr1; cases hr1
            exact (upd_ne this).trans upd_same
          · show Sy65.hooks (Sy65.withArms x y h s.tree) ≤ 7
            rw [HM.withArms_hooks]
            exact M.few
          · show s.hung.length = Sy65.hooks (Sy65.withArms x y h s.tree)
            rw [HM.withArms_hooks]
            exact M.len
        · rw [hstep]
          exact upd_same
end
end HMP
namespace HMP
open PySem PySem.Spec PyProof.Rows L2
theorem foldl_max : ∀ (l : List Nat) (a : Nat), (l.foldl max a = a ∨ l.foldl max a ∈ l) ∧ a ≤ l.foldl max a ∧ ∀ y ∈ l, y ≤ l.foldl max a
  | [], a => ⟨.inl rfl, Nat.le_refl _, fun y h => by cases h⟩
  | x :: l, a => by
    obtain ⟨h1, h2, h3⟩ := foldl_max l (max a x)
    rw [List.foldl_cons]
    refine ⟨?_, by omega, fun y hy => ?_⟩
    · rcases h1 with h1 | h1
      · rw [h1]
        rcases Nat.le_total a x with q | q
        · right
          rw [Nat.max_eq_right q]
          simp
        · left
          exact Nat.max_eq_left q
      · right
        exact List.mem_cons_of_mem _ h1
    · rcases List.mem_cons.mp hy with rfl | hy
      · omega
      · exact h3 y hy
/-- the greatest of so many times some weights -/
theorem max_times {l : List Nat} {n m : Nat} (hm : m ∈ Sy65.times n l) (hle : ∀ y ∈ Sy65.times n l, y ≤ m) : n * l.foldl max 0 = m := by
  unfold Sy65.times at hm hle
  obtain ⟨x, hx, e⟩ := List.mem_map.mp hm
  obtain ⟨h1, h2, h3⟩ := foldl_max l 0
  have : l.foldl max 0 ∈ l := by
    rcases h1 with h1 | h1
    · have := h3 x hx
      have e : x = 0 := by omega
      rw [h1, ← e]
      exact hx
    · exact h1
  have q1 := hle _ (List.mem_map.mpr ⟨_, this, rfl⟩)
  have q2 := Nat.mul_le_mul_left n (h3 x hx)
  omega
section
variable {P : Program} {w : World} {K : PySem.W.Frag} {mg : Str → Option Value} {base : Heap} {CM C : Addr}
/-! ### balancing -/
def spBal (CM C : Addr) : Sp := fun vs H Q _ => ∃ (m : Addr) (s : Sy65.St) (F : List Addr) (n : Nat), vs = [.ref m, .int (n : Int)] ∧ n < 4294967296 ∧ MobAt CM C H m s F ∧
  ∀ (H' : Hp) (p : Addr), Same H H' → H p = none → H' p = some (.lst (nV (Sy65.times n (Sy65.least s.tree)))) → Q (.ref p) H'
theorem scBal : FnScope ["self", "times", "weight"] ["self", "times"] (defScope sBal) := ⟨rfl, rfl, rfl, by decide +kernel, rfl, by decide +kernel, by decide +kernel⟩
theorem ok_bal {f fL : Addr} {fd fdL : FuncData} (F : Fun K "balancing" "Mobile.balancing" sBal f fd) (T : MobTxt K CM) (nLen : mg "len" = none)
    (gL : mg "least_weights" = some (.ref fL)) (kL : PySem.W.keepIn K (.ref fL) = true) (bL : Binds K fdL ["rods", "hooks"] []) (GL : FnOk P w K mg base CX0 3 fL fdL ["rods", "hooks"] (spLeastW K C)) :
    FnOk P w K mg base CX0 4 f fd ["self", "times"] (spBal CM C) := by
  refine F.ok scBal (fun vs H Q E h => ?_) (fun cdv A outer s H vs Q E hr h => ⟨_, pss_one (ps_ret (pe_lc (own := [("weight", 2)]) (g := gName 2) (tt := tYes) rfl scBal.nd
        (pi_list (pe_call GL hr rfl gL kL bL .nil pass0 (pa_cons (pe_fld (pv 0) rfl) (pa_cons (pe_callB call_len_seq (by rfl) nLen PySem.boot_len (pa_cons (pe_fld (pv 0) rfl) pa_nil)) pa_nil))))
        (blkOk_by (own := [("weight", 2)]) (N := ["self", "times", "weight"]) (sc := defScope sBal) (by decide +kernel)) (fun _ _ _ _ _ => pg_name (i := 2) scBal.nd rfl (Or.inl rfl)) (fun _ _ _ _ _ => pts_nil) (fun _ _ _ _ _ => pe_op op_mul (pv 1) (pv 2)))), ?_⟩)
  · obtain ⟨m, s, F, n, rfl, _⟩ := h
    rfl
  · obtain ⟨m, s, F, n, rfl, hn, hm, k⟩ := h
    obtain ⟨lr, lw, as, rfl, M⟩ := id hm
    obtain ⟨dx, hd⟩ := M.ins
    refine ⟨_, rfl, m, CM, dx, _, _, rfl, hd, T.cl, T.nr, mobF_r lr lw, _, rfl, m, CM, dx, _, _, rfl, hd, T.cl, T.nw, mobF_w lr lw, lw, _, rfl, .inl (SqL.of M.ws), ?_⟩
    rw [nV_length, M.len]
    refine ⟨lr, as, s.tree, rfl, SqL.of M.rods, M.at_, M.good, M.few, fun H1 q s1 nq e1 => ⟨q, rfl, ⟨_, SqL.of e1⟩, fun D nD => ?_⟩⟩
    have hll := HM.least_length s.tree
    generalize hL : Sy65.least s.tree = L at e1 hll k
    have nD' : H D = none := s1.free nD
    refine lc_list (K := K) (a := q) (xs := nV L) (fun i H' => Same H1 H' ∧ H' D = some (.lst (nV (Sy65.times n (L.take i))))) ⟨keep_new nD, upd_same⟩ (fun i H' _ ⟨s2, _⟩ => SqL.of (s2 _ _ e1)) ?_ ?_
    · rintro i x H2 hx ⟨s2, eD⟩
      obtain ⟨y, hy, rfl⟩ : ∃ y, L[i]? = some y ∧ x = V.int (y : Int) := by
        unfold nV at hx
        rw [List.getElem?_map] at hx
        cases e : L[i]? with
        | none => rw [e] at hx; cases hx
        | some y =>
          rw [e] at hx
          exact ⟨y, rfl, (Option.some.inj hx).symm⟩
      refine ⟨rfl, ?_⟩
      show tOp (rI CMul fun i j => .int (i * j)) (tVar 1) (tVar 2) _ _ _
      refine ⟨_, rfl, _, rfl, _, _, rfl, rfl, .inl ⟨by omega, by omega⟩, _, eD, ?_, same_upd s2 nD, ?_⟩
      · unfold Sy65.times
        rw [nV_length, List.length_map, List.length_take, sizeLine_eq]
        have := M.few
        omega
      · rw [upd_same]
        show some (HO.lst (nV (Sy65.times n (L.take i)) ++ [V.int ((n : Int) * (y : Int))])) = _
        rw [← Int.natCast_mul]
        show some (HO.lst (nV (Sy65.times n (L.take i)) ++ nV [n * y])) = _
        rw [nV_app]
        unfold Sy65.times
        rw [List.take_add_one, hy]
        simp
    · rintro H2 ⟨s2, eD⟩
      rw [nV_length, List.take_length] at eD
      exact k H2 D (s1.trans s2) nD' eD
/-! ### least -/
def spLeast (CM C : Addr) : Sp := fun vs H Q _ => ∃ (m : Addr) (s : Sy65.St) (F : List Addr), vs = [.ref m] ∧ MobAt CM C H m s F ∧ Done CM C H m s F .least Q
theorem scLeast : FnScope ["self", "weights"] ["self"] (defScope sLeast) := ⟨rfl, rfl, rfl, by decide +kernel, rfl, by decide +kernel, by decide +kernel⟩
theorem times_one (L : List Nat) : Sy65.times 1 L = L := by
  unfold Sy65.times
  rw [show (fun (x : Nat) => 1 * x) = id from funext fun x => Nat.one_mul x, List.map_id]
theorem ok_least {f fB fR : Addr} {fd fdB fdR : FuncData} (F : Fun K "least" "Mobile.least" sLeast f fd) (T : MobTxt K CM) (nSum : mg "sum" = none)
    (mB : Meth K CM "balancing" fB) (bB : Binds K fdB ["self", "times"] []) (GB : FnOk P w K mg base CX0 4 fB fdB ["self", "times"] (spBal CM C))
    (gR : mg "with_row" = some (.ref fR)) (kR : PySem.W.keepIn K (.ref fR) = true) (bR : Binds K fdR ["number", "row"] []) (GR : FnOk P w K mg base CX0 2 fR fdR ["number", "row"] spWithRow) :
    FnOk P w K mg base CX0 5 f fd ["self"] (spLeast CM C) := by
  refine F.ok scLeast (fun vs H Q E h => ?_) (fun cdv A outer s H vs Q E hr h => ⟨_, pss_cons (ps_set (i := 1) scLeast.nd rfl (Or.inl rfl)
        (pe_meth (pv 0) T.cl mB GB hr bB .nil pass0 (pa_cons pe_int pa_nil)))
      (pss_one (ps_ret (pe_call GR (hr.mono (by decide)) rfl gR kR bR .nil pass0 (pa_cons (pe_callB (cr_sum rfl) (by rfl) nSum (by decide +kernel) (pa_cons (pv 1) pa_nil)) (pa_cons (pv 1) pa_nil))))), ?_⟩)
  · obtain ⟨m, s, F, rfl, _⟩ := h
    rfl
  · obtain ⟨m, s, F, rfl, hm, k⟩ := h
    obtain ⟨lr, lw, as, rfl, M⟩ := id hm
    obtain ⟨dx, hd⟩ := M.ins
    have hstep : Sy65.step s .least = (s, ⟨(Sy65.heavy (Sy65.least s.tree) : Nat), [Sy65.ints (Sy65.least s.tree)]⟩) := rfl
    refine ⟨_, rfl, m, dx, _, rfl, hd, mobF_no lr lw (by decide +kernel) (by decide +kernel), m, s, _, 1, rfl, by decide, hm, fun H1 q s1 nq e1 => ?_⟩
    rw [times_one] at e1
    refine ⟨_, rfl, q, (Sy65.least s.tree).map (fun (n : Nat) => (n : Int)), rfl, SqL.of (by rw [← nV_ints]; exact e1), _, rfl, _, q, _, rfl, e1, ?_, fun H2 p s2 np e2 => ?_⟩
    · rw [nV_length, HM.least_length]
      have := M.few
      omega
    · refine k.stay hm hstep (s1.trans s2) (s1.free np) ?_
      rw [e2, ans_one, sum_int, nV_length]
      rfl
/-! ### the weights are others, in a list of their own -/
theorem MobIs.put {H H2 : Hp} {m : Addr} {s : Sy65.St} {lr lw D : Addr} {as : List Addr} (M : MobIs CM C H m s lr lw as) {dx : Addr} (hd : H m = some (.ins CM dx (mobF lr lw))) (s12 : Same H H2) (nD : H D = none) {W : List Nat} (eD : H2 D = some (.lst (nV W)))
    (hWl : W.length = Sy65.hooks s.tree) (hW : ∀ y ∈ W, y ≤ 1000000) :
    MobIs CM C (upd H2 m (.ins CM dx (mobF lr D))) m { s with hung := W } lr D as ∧ Fr H (m :: lr :: lw :: as) (upd H2 m (.ins CM dx (mobF lr D))) (m :: lr :: D :: as) := by
  have nm : m ≠ D := fun e => by rw [e, nD] at hd; cases hd
  have M2 := M.same s12
  have keep : ∀ b o, H2 b = some o → b ≠ m → (upd H2 m (.ins CM dx (mobF lr D))) b = some o := fun b o e hb => by
    rw [upd_ne hb]
    exact e
  obtain ⟨n1, n2, n3, n4, n5, n6⟩ := M2.ne
  refine ⟨⟨⟨dx, upd_same⟩, keep _ _ M2.rods (Ne.symm n1), ⟨M2.at_.1, fun i a q e1 e2 => ?_⟩, M.nd, keep _ _ eD (Ne.symm nm), M.good, M.few, hWl, hW⟩, fun b hb => ?_, fun b o e hb => keep b o (s12 _ _ e) fun z => hb (by rw [z]; simp)⟩
  · obtain ⟨dr, e⟩ := M2.at_.2 i a q e1 e2
    exact ⟨dr, keep _ _ e fun z => n4 (by rw [← z]; exact List.mem_of_getElem? e1)⟩
  · simp only [List.mem_cons] at hb ⊢
    rcases hb with rfl | rfl | rfl | hb
    · exact .inl (.inl rfl)
    · exact .inl (.inr (.inl rfl))
    · exact .inr nD
    · exact .inl (.inr (.inr (.inr hb)))
theorem Fr.then {H H1 H2 : Hp} {F F' : List Addr} (h : Fr H F H1 F') (e : Same H1 H2) : Fr H F H2 F' := ⟨h.1, fun b o q hb => e _ _ (h.2 b o q hb)⟩
/-! ### scale -/
def spScale (CM C : Addr) : Sp := fun vs H Q _ => ∃ (m : Addr) (s : Sy65.St) (F : List Addr) (n : Nat), vs = [.ref m, .int (n : Int)] ∧ n < 4294967296 ∧ MobAt CM C H m s F ∧ Done CM C H m s F (.scale n) Q
theorem scScale : FnScope ["self", "times", "weights"] ["self", "times"] (defScope sScale) := ⟨rfl, rfl, rfl, by decide +kernel, rfl, by decide +kernel, by decide +kernel⟩
theorem ok_scale {f fB : Addr} {fd fdB : FuncData} (F : Fun K "scale" "Mobile.scale" sScale f fd) (T : MobTxt K CM) (nSum : mg "sum" = none) (nMax : mg "max" = none) {tH : Tok} (gH : mg "HEAVIEST" = some (.int 1000000 tH))
    (mB : Meth K CM "balancing" fB) (bB : Binds K fdB ["self", "times"] []) (GB : FnOk P w K mg base CX0 4 fB fdB ["self", "times"] (spBal CM C)) :
    FnOk P w K mg base CX0 5 f fd ["self", "times"] (spScale CM C) := by
  refine F.ok scScale (fun vs H Q E h => ?_) (fun cdv A outer s H vs Q E hr h => ⟨_, pss_cons (ps_set (i := 2) scScale.nd rfl (Or.inl rfl)
        (pe_meth (pv 0) T.cl mB GB hr bB .nil pass0 (pa_cons (pv 1) pa_nil)))
      (pss_cons (ps_if (PW.pt (pw_or (pt_cmpR op_eq (pv 1) pe_int (nomark _)) (pw_or1 (pt_cmpR op_gt (pe_callB (cr_max rfl) (by rfl) nMax (by decide +kernel) (pa_cons (pv 2) pa_nil)) (pe_glob (v := .int 1000000) rfl gH ⟨_, rfl⟩) (nomark _)))))
          (pss_one (ps_ret (pe_lst (pa_cons (pe_un un_neg pe_int) pa_nil)))) pss_nil)
      (pss_cons (ps_fld (pv 0) (pv 2) rfl)
      (pss_one (ps_ret (pe_lst (pa_cons (pe_callB (cr_sum rfl) (by rfl) nSum (by decide +kernel) (pa_cons (pv 2) pa_nil)) pa_nil)))))), ?_⟩)
  · obtain ⟨m, s, F, n, rfl, _⟩ := h
    rfl
  · obtain ⟨m, s, F, n, rfl, hn, hm, k⟩ := h
    obtain ⟨lr, lw, as, rfl, M⟩ := id hm
    obtain ⟨dx, hd⟩ := M.ins
    have hstep : Sy65.step s (.scale n) = if n < 1 ∨ Sy65.MOST < n * (Sy65.least s.tree).foldl max 0 then (s, Sy65.ok (-1)) else ({ s with hung := Sy65.times n (Sy65.least s.tree) }, Sy65.ok (n * Sy65.heavy (Sy65.least s.tree) : Nat)) := rfl
    refine ⟨_, rfl, m, dx, _, rfl, hd, mobF_no lr lw (by decide +kernel) (by decide +kernel), _, rfl, m, s, _, n, rfl, hn, hm, fun H2 D s12 nD' eD => ?_⟩
    have hll := HM.least_length s.tree
    generalize hL : Sy65.least s.tree = L at eD hstep hll
    generalize hW : Sy65.times n L = W at eD hstep
    have hWl : W.length = Sy65.hooks s.tree := by rw [← hW, HM.times_length, hll]
    have hWp : 0 < W.length := by
      have := HM.hooks_pos s.tree
      omega
    refine ⟨_, rfl, rfl, _, rfl, ite2 (fun c => ?_) (fun c => ?_)⟩
    · have c1 : V.int (n : Int) = V.int 0 := of_decide_eq_true c
      have : n = 0 := by
        have := V.int.inj c1
        omega
      rw [if_pos (by omega)] at hstep
      refine iteT ⟨_, rfl, (by decide), fun p np => ?_⟩
      exact k.stay hm hstep (s12.trans (keep_new np)) (s12.free np) upd_same
    · have c1 : n ≠ 0 := fun h => c (decide_eq_true (by rw [h]; rfl))
      refine ⟨_, rfl, D, W.map (fun (n : Nat) => (n : Int)), rfl, SqL.of (by rw [← nV_ints]; exact eD), by rw [List.length_map]; exact hWp, fun z hz hle => ?_⟩
      obtain ⟨g, hg, rfl⟩ := List.mem_map.mp hz
      have hgle : ∀ y ∈ W, y ≤ g := fun y hy => by
        have := hle _ (List.mem_map.mpr ⟨y, hy, rfl⟩)
        omega
      have hmax : n * L.foldl max 0 = g := by
        rw [← hW] at hg hgle
        exact max_times hg hgle
      rw [hmax] at hstep
      refine ⟨_, _, rfl, rfl, _, rfl, ite2 (fun c => ?_) (fun c => ?_)⟩
      · have c2 : (1000000 : Int) < (g : Int) := of_decide_eq_true c
        rw [if_pos (by unfold Sy65.MOST; omega)] at hstep
        refine ⟨_, rfl, (by decide), fun p np => ?_⟩
        exact k.stay hm hstep (s12.trans (keep_new np)) (s12.free np) upd_same
      · have c2 : ¬ (1000000 : Int) < (g : Int) := fun q => c (decide_eq_true q)
        rw [if_neg (by unfold Sy65.MOST; omega)] at hstep
        obtain ⟨M3, f3⟩ := M.put hd s12 nD' eD hWl fun y hy => by
          have := hgle y hy
          omega
        refine ⟨_, rfl, _, rfl, m, CM, dx, _, rfl, s12 _ _ hd, T.cl, T.nw, (by show 2 < 1000; decide), ?_⟩
        rw [mobF_putW]
        refine ⟨_, rfl, D, W.map (fun (n : Nat) => (n : Int)), rfl, SqL.of (by rw [← nV_ints]; exact M3.ws), (by show 1 ≤ sizeLine; decide), fun p np => ?_⟩
        have npm : p ≠ m := fun e => by rw [e, upd_same] at np; cases np
        have np2 : H2 p = none := by rwa [upd_ne npm] at np
        have np' : H p = none := s12.free np2
        refine k _ p (m :: lr :: D :: as) ⟨lr, D, as, rfl, ?_⟩ (f3.then (keep_new np)) np' ?_
        · rw [hstep]
          exact M3.same (keep_new np)
        · rw [hstep, upd_same, sum_int]
          have : W.sum = n * L.sum := by rw [← hW, HM.sum_times]
          rw [this]
          rfl
end
end HMP
namespace HMP
open PySem PySem.Spec PyProof.Rows L2
/-- what a rod's left end pulls more than its right one -/
def dif (w : List Nat) (p : HM.Rd) : Int := (HM.pullL w p : Int) - (HM.pullR w p : Int)
theorem level_any (w : List Nat) : ∀ ps : List HM.Rd, ((ps.map (dif w)).any fun n => n != 0) = !((ps.map fun p => (HM.pullL w p, HM.pullR w p)).all fun (p : Nat × Nat) => p.1 == p.2)
  | [] => rfl
  | p :: ps => by
    rw [List.map_cons, List.any_cons, List.map_cons, List.all_cons, level_any w ps, Bool.not_and]
    congr 1
    unfold dif
    by_cases h : HM.pullL w p = HM.pullR w p
    · rw [h]
      simp
    · have h2 : (HM.pullL w p : Int) - (HM.pullR w p : Int) ≠ 0 := by omega
      rw [bne_iff_ne.mpr h2, beq_eq_false_iff_ne.mpr h]
      rfl
theorem ans_ints (v : Int) (l : List Int) : ansV ⟨v, [l]⟩ = .int v :: .int ((l.length : Nat) : Int) :: l.map V.int := by
  show (v :: ([l].flatMap fun (w : List Int) => (w.length : Int) :: w)).map V.int = _
  rw [List.flatMap_cons, List.flatMap_nil, List.append_nil, List.map_cons, List.map_cons]
section
variable {P : Program} {w : World} {K : PySem.W.Frag} {mg : Str → Option Value} {base : Heap} {CM C : Addr}
/-! ### pulls -/
def spPulls (CM C : Addr) : Sp := fun vs H Q _ => ∃ (m : Addr) (s : Sy65.St) (F : List Addr), vs = [.ref m] ∧ MobAt CM C H m s F ∧ Done CM C H m s F .pulls Q
theorem scPulls : FnScope ["self", "rest", "rod"] ["self"] (defScope sPulls) := ⟨rfl, rfl, rfl, by decide +kernel, rfl, by decide +kernel, by decide +kernel⟩
theorem ok_pulls {f fL fR fW : Addr} {fd fdL fdR fdW : FuncData} (F : Fun K "pulls" "Mobile.pulls" sPulls f fd) (T : MobTxt K CM) (TR : RodTxt K C) (nAny : mg "any" = none)
    (mL : Meth K C "left_pull" fL) (bL : Binds K fdL ["self", "weights"] []) (GL : FnOk P w K mg base CX0 2 fL fdL ["self", "weights"] (spPullL K C))
    (mR : Meth K C "right_pull" fR) (bR : Binds K fdR ["self", "weights"] []) (GR : FnOk P w K mg base CX0 2 fR fdR ["self", "weights"] (spPullR K C))
    (gW : mg "with_row" = some (.ref fW)) (kW : PySem.W.keepIn K (.ref fW) = true) (bW : Binds K fdW ["number", "row"] []) (GW : FnOk P w K mg base CX0 2 fW fdW ["number", "row"] spWithRow) :
    FnOk P w K mg base CX0 3 f fd ["self"] (spPulls CM C) := by
  refine F.ok scPulls (fun vs H Q E h => ?_) (fun cdv A outer s H vs Q E hr h => ⟨_, pss_cons (ps_setLc (i := 1) (own := [("rod", 2)]) (g := gName 2) (tt := tYes) rfl scPulls.nd rfl rfl (sw_true rfl rfl rfl (by decide +kernel))
        (pi_list (pe_fld (pv 0) rfl)) (blkOk_by (N := ["self", "rest", "rod"]) (sc := defScope sPulls) (by decide +kernel)) (fun _ _ _ _ _ => pg_name (i := 2) scPulls.nd rfl (Or.inl rfl)) (fun _ _ _ _ _ => pts_nil)
        (by intro s0 H0 C0 cl0 fp0
            refine pe_op op_sub (pe_meth (t := tCons (tFld K (tVar 0) "weights") tNil) (pv 2) TR.cl mL GL hr bL .nil pass0 ?h1) (pe_meth (t := tCons (tFld K (tVar 0) "weights") tNil) (pv 2) TR.cl mR GR hr bR .nil pass0 ?h2)
            case h1 => exact pa_cons (pe_fld (pv 0) rfl) pa_nil
            case h2 => exact pa_cons (pe_fld (pv 0) rfl) pa_nil))
      (pss_one (ps_ret (pe_call GW hr rfl gW kW bW .nil pass0 (pa_cons (pe_ifExp (pt_val (pe_callB (Own.cr_anyI rfl) (by rfl) nAny (by decide +kernel) (pa_cons (pv 1) pa_nil))) pe_int pe_int) (pa_cons (pv 1) pa_nil))))), ?_⟩)
  · obtain ⟨m, s, F, rfl, _⟩ := h
    rfl
  · obtain ⟨m, s, F, rfl, hm, k⟩ := h
    obtain ⟨lr, lw, as, rfl, M⟩ := id hm
    obtain ⟨dx, hd⟩ := M.ins
    have hpl := HM.pulls_is s.tree s.hung M.len
    have hok := HM.rodsOf_good s.tree 0 M.good
    have hin := HM.rodsOf_within s.tree 0
    have hR := M.at_
    have hlen := HM.rodsOf_length s.tree 0
    have hrods := HM.hooks_rods s.tree
    have hfew := M.few
    have hstep : Sy65.step s .pulls = (s, ⟨if Sy65.balanced s.tree s.hung = true then 1 else 0, [(Sy65.pulls s.tree s.hung).map fun (p : Nat × Nat) => (p.1 : Int) - (p.2 : Int)]⟩) := rfl
    unfold Sy65.balanced at hstep
    rw [hpl] at hstep
    generalize HM.rodsOf 0 s.tree = ps at hok hin hR hlen hstep
    have hmap : (ps.map fun p => (HM.pullL s.hung p, HM.pullR s.hung p)).map (fun (p : Nat × Nat) => (p.1 : Int) - (p.2 : Int)) = ps.map (dif s.hung) := by
      rw [List.map_map]
      rfl
    rw [hmap] at hstep
    refine ⟨_, rfl, m, CM, dx, _, _, rfl, hd, T.cl, T.nr, mobF_r lr lw, lr, rfl, ⟨_, SqL.of M.rods⟩, fun D nD => ?_⟩
    refine lc_list (K := K) (a := lr) (xs := as.map V.ref) (fun i H' => Same H H' ∧ H' D = some (.lst (((ps.take i).map (dif s.hung)).map V.int))) ⟨keep_new nD, upd_same⟩ (fun i H' _ ⟨s1, _⟩ => SqL.of (s1 _ _ M.rods)) ?_ ?_
    · rintro i x H1 hx ⟨s1, eD⟩
      rw [List.getElem?_map] at hx
      obtain ⟨ra, hra, rfl⟩ : ∃ ra, as[i]? = some ra ∧ x = V.ref ra := by
        cases e : as[i]? with
        | none => rw [e] at hx; cases hx
        | some ra =>
          rw [e] at hx
          exact ⟨ra, rfl, (Option.some.inj hx).symm⟩
      have hi : i < ps.length := by rw [← hR.1]; exact (List.getElem?_eq_some_iff.mp hra).1
      have hp : ps[i]? = some ps[i] := List.getElem?_eq_getElem hi
      generalize ps[i] = p at hp
      obtain ⟨dr, er⟩ := hR.2 i ra p hra hp
      have hmem := List.mem_of_getElem? hp
      obtain ⟨a1, a2, a3, a4⟩ := HM.okArms_iff.mp (hok p hmem)
      obtain ⟨w1, w2, w3, w4⟩ := hin p hmem
      refine ⟨rfl, ?_⟩
      show tOp _ (tMeth C "left_pull" (spPullL K C) [] E0 (tVar 2) (tCons (tFld K (tVar 0) "weights") tNil)) (tMeth C "right_pull" (spPullR K C) [] E0 (tVar 2) (tCons (tFld K (tVar 0) "weights") tNil)) _ _ _
      refine ⟨_, rfl, ra, dr, _, rfl, s1 _ _ er, rodF_pl p, _, rfl, m, CM, dx, _, _, rfl, s1 _ _ hd, T.cl, T.nw, mobF_w lr lw, ra, lw, p, s.hung, rfl, ⟨dr, s1 _ _ er⟩, SqL.of (s1 _ _ M.ws), by omega, by omega, fun H2 s2 => ?_⟩
      have s12 := s1.trans s2
      refine ⟨_, rfl, ra, dr, _, rfl, s12 _ _ er, rodF_pr p, _, rfl, m, CM, dx, _, _, rfl, s12 _ _ hd, T.cl, T.nw, mobF_w lr lw, ra, lw, p, s.hung, rfl, ⟨dr, s12 _ _ er⟩, SqL.of (s12 _ _ M.ws), by omega, by omega, fun H3 s3 => ?_⟩
      refine ⟨_, _, rfl, rfl, _, s3 _ _ (s2 _ _ eD), ?_, same_upd (s12.trans s3) nD, ?_⟩
      · rw [List.length_map, List.length_map, List.length_take, sizeLine_eq]
        omega
      · rw [upd_same, List.take_add_one, hp]
        simp [dif]
    · rintro H1 ⟨s1, eD⟩
      rw [List.length_map, hR.1, List.take_length] at eD
      refine ⟨_, rfl, D, ps.map (dif s.hung), rfl, SqL.of eD, _, rfl, ?_⟩
      rw [level_any]
      have fin : ∀ (v : Int) (H2 : Hp) (p : Addr), v = (if (((ps.map fun p => (HM.pullL s.hung p, HM.pullR s.hung p)).all fun (p : Nat × Nat) => p.1 == p.2) = true) then 1 else 0) → Same H1 H2 → H1 p = none → H2 p = some (.lst (.int v :: .int (((ps.map (dif s.hung)).map V.int).length : Nat) :: (ps.map (dif s.hung)).map V.int)) → Q (.ref p) H2 := by
        intro v H2 p ev s2 np e2
        refine k.stay hm hstep (s1.trans s2) (s1.free np) ?_
        rw [e2, ans_ints, ← ev, List.length_map (f := V.int)]
      cases hb : ((ps.map fun p => (HM.pullL s.hung p, HM.pullR s.hung p)).all fun (p : Nat × Nat) => p.1 == p.2) with
      | true =>
        rw [hb] at fin
        refine iteF ⟨_, rfl, 1, D, _, rfl, eD, ?_, fun H2 p s2 np e2 => fin 1 H2 p rfl s2 np e2⟩
        rw [List.length_map, List.length_map]
        omega
      | false =>
        rw [hb] at fin
        refine iteT ⟨_, rfl, 0, D, _, rfl, eD, ?_, fun H2 p s2 np e2 => fin 0 H2 p rfl s2 np e2⟩
        rw [List.length_map, List.length_map]
        omega
end
end HMP
namespace HMP
open PySem PySem.Spec PyProof.Rows L2
theorem rep_flat0 (n : Nat) : (List.replicate n [V.int 0]).flatten = nV (List.replicate n 0) := by
  unfold nV
  rw [List.map_replicate]
  induction n with
  | zero => rfl
  | succ n ih =>
    rw [List.replicate_succ, List.flatten_cons, ih]
    rfl
theorem step_begins_no {s : Sy65.St} {l : List Nat} (h : HM.tells 1 l = false) : Sy65.step s (.begins l) = (s, Sy65.ok (-1)) := by
  show (match Sy65.read 60 l with
      | some (t, []) => if Sy65.HOOKS < Sy65.hooks t then (s, Sy65.ok (-5)) else ((⟨t, List.replicate (Sy65.hooks t) 0⟩ : Sy65.St), Sy65.ok (Sy65.hooks t : Nat))
      | _ => (s, Sy65.ok (-1))) = _
  split
  · rename_i t q
    exact absurd q (HM.read_tells h t)
  · rfl
theorem step_begins_yes {s : Sy65.St} {l : List Nat} {t : Sy65.Tree} (h : Sy65.read 60 l = some (t, [])) : Sy65.step s (.begins l) = if 7 < Sy65.hooks t then (s, Sy65.ok (-5)) else ((⟨t, List.replicate (Sy65.hooks t) 0⟩ : Sy65.St), Sy65.ok (Sy65.hooks t : Nat)) := by
  show (match Sy65.read 60 l with
      | some (t, []) => if Sy65.HOOKS < Sy65.hooks t then (s, Sy65.ok (-5)) else ((⟨t, List.replicate (Sy65.hooks t) 0⟩ : Sy65.St), Sy65.ok (Sy65.hooks t : Nat))
      | _ => (s, Sy65.ok (-1))) = _
  rw [h]
  rfl
section
variable {P : Program} {w : World} {K : PySem.W.Frag} {mg : Str → Option Value} {base : Heap} {CM C : Addr}
/-! ### begins -/
def spBegins (K : PySem.W.Frag) (CM C : Addr) : Sp := fun vs H Q _ => ∃ (m a : Addr) (s : Sy65.St) (F : List Addr) (l : List Nat), vs = [.ref m, .ref a] ∧ SqL K H a (nV l) ∧ l.length ≤ 60 ∧ MobAt CM C H m s F ∧ Done CM C H m s F (.begins l) Q
theorem scBegins : FnScope ["self", "shape", "hooks"] ["self", "shape"] (defScope sBegins) := ⟨rfl, rfl, rfl, by decide +kernel, rfl, by decide +kernel, by decide +kernel⟩
theorem ok_begins {f fT fR : Addr} {fd fdT fdR : FuncData} (F : Fun K "begins" "Mobile.begins" sBegins f fd) (T : MobTxt K CM) {tM : Tok} (gM : mg "MOST_HOOKS" = some (.int 7 tM))
    (gT : mg "tells_one_mobile" = some (.ref fT)) (kT : PySem.W.keepIn K (.ref fT) = true) (bT : Binds K fdT ["shape"] []) (GT : FnOk P w K mg base CX0 2 fT fdT ["shape"] (spTells K))
    (gR : mg "rods_told" = some (.ref fR)) (kR : PySem.W.keepIn K (.ref fR) = true) (bR : Binds K fdR ["shape"] []) (GR : FnOk P w K mg base CX0 3 fR fdR ["shape"] (spRodsTold K C)) :
    FnOk P w K mg base CX0 4 f fd ["self", "shape"] (spBegins K CM C) := by
  refine F.ok scBegins (fun vs H Q E h => ?_) (fun cdv A outer s H vs Q E hr h => ⟨_, pss_cons (ps_if (pt_not (pt_val (pe_call GT (hr.mono (by decide)) rfl gT kT bT .nil pass0 (pa_cons (pv 1) pa_nil)))) (pss_one (ps_ret (pe_lst (pa_cons (pe_un un_neg pe_int) pa_nil)))) pss_nil)
      (pss_cons (ps_set (i := 2) scBegins.nd rfl (Or.inl rfl) (pe_bm PySem.F.plainAttrs_list PySem.F.slot_list_count PySem.F.type_list_count mt_lcount (pv 1) (pa_cons pe_int pa_nil)))
      (pss_cons (ps_if (pt_cmpR op_gt (pv 2) (pe_glob (v := .int 7) rfl gM ⟨_, rfl⟩) (nomark _)) (pss_one (ps_ret (pe_lst (pa_cons (pe_un un_neg pe_int) pa_nil)))) pss_nil)
      (pss_cons (ps_fld (pv 0) (pe_call GR hr rfl gR kR bR .nil pass0 (pa_cons (pv 1) pa_nil)) rfl)
      (pss_cons (ps_fld (pv 0) (pe_op op_rep (pe_lst (pa_cons pe_int pa_nil)) (pv 2)) rfl)
      (pss_one (ps_ret (pe_lst (pa_cons (pv 2) pa_nil)))))))), ?_⟩)
  · obtain ⟨m, a, s, F, l, rfl, _⟩ := h
    rfl
  · obtain ⟨m, a, s, F, l, rfl, hS, hl, hm, k⟩ := h
    obtain ⟨lr, lw, as, rfl, M⟩ := id hm
    obtain ⟨dx, hd⟩ := M.ins
    refine ⟨_, rfl, a, l, rfl, hS, hl, _, rfl, ?_⟩
    cases ht : HM.tells 1 l with
    | false => exact iteT ⟨_, rfl, (by decide), fun p np => k.no hm (step_begins_no ht) np⟩
    | true =>
      obtain ⟨t, hG, el, hread⟩ := HM.read_told hl ht
      have hstep := step_begins_yes (s := s) hread
      have hcount : l.count 0 = Sy65.hooks t := by rw [el]; exact HM.count_numbers t hG
      refine iteF ⟨_, rfl, .inl ⟨rfl, _, hS⟩, a, l.map (fun (n : Nat) => (n : Int)), _, rfl, rfl, by rw [← nV_ints]; exact hS, ?_⟩
      have hc2 : ((l.map fun (n : Nat) => (n : Int)).count 0 : Nat) = Sy65.hooks t := (count_int l 0).trans hcount
      refine ⟨_, rfl, _, _, rfl, rfl, _, rfl, ite2 (fun c => ?_) (fun c => ?_)⟩
      · have c1 : (7 : Int) < ((((l.map fun (n : Nat) => (n : Int)).count 0 : Nat)) : Int) := of_decide_eq_true c
        rw [hc2] at c1
        rw [if_pos (by omega)] at hstep
        exact ⟨_, rfl, (by decide), fun p np => k.no hm hstep np⟩
      · have c1 : ¬ (7 : Int) < ((((l.map fun (n : Nat) => (n : Int)).count 0 : Nat)) : Int) := fun q => c (decide_eq_true q)
        rw [hc2] at c1
        rw [if_neg (by omega)] at hstep
        refine ⟨_, rfl, a, t, rfl, by rw [← el]; exact hS, hG, by rw [← el]; exact hl, fun H1 rl as1 s1 nrl e1 R1 nd1 new1 => ?_⟩
        refine ⟨_, rfl, m, CM, dx, _, rfl, s1 _ _ hd, T.cl, T.nr, (by show 2 < 1000; decide), ?_⟩
        rw [mobF_putR]
        have nm : m ≠ rl := fun e => by rw [e, nrl] at hd; cases hd
        -- self.weights = [0] * hooks
        have keep1 : ∀ b o, H1 b = some o → b ≠ m → (upd H1 m (.ins CM dx (mobF rl lw))) b = some o := fun b o e hb => (upd_ne hb).trans e
        refine ⟨by show 1 ≤ sizeLine; decide, fun l0 nl0 => ⟨_, rfl, l0, _, _, rfl, rfl, upd_same, by omega, by omega, ?_, fun w2 nw2 => ?_⟩⟩
        · show 1 * ((((l.map fun (n : Nat) => (n : Int)).count 0 : Nat)) : Int).toNat ≤ sizeLine
          rw [hc2, sizeLine_eq, Int.toNat_natCast]
          omega
        have s23 : Same (upd H1 m (.ins CM dx (mobF rl lw))) (upd (upd (upd H1 m (.ins CM dx (mobF rl lw))) l0 (HO.lst [V.int 0])) w2 (HO.lst (List.replicate ((((l.map fun (n : Nat) => (n : Int)).count 0 : Nat)) : Int).toNat [V.int 0]).flatten)) := (keep_new nl0).trans (keep_new nw2)
        have nw2' : (upd H1 m (.ins CM dx (mobF rl lw))) w2 = none := (keep_new nl0).free nw2
        have nwm : w2 ≠ m := fun e => by rw [e, upd_same] at nw2'; cases nw2'
        have nw1 : H1 w2 = none := by rwa [upd_ne nwm] at nw2'
        have nwH : H w2 = none := s1.free nw1
        have hw2 : (upd (upd (upd H1 m (.ins CM dx (mobF rl lw))) l0 (HO.lst [V.int 0])) w2 (HO.lst (List.replicate ((((l.map fun (n : Nat) => (n : Int)).count 0 : Nat)) : Int).toNat [V.int 0]).flatten)) w2 = some (.lst (nV (List.replicate (Sy65.hooks t) 0))) := by
          rw [upd_same, hc2, Int.toNat_natCast, rep_flat0]
        revert s23 hw2
        generalize (upd (upd (upd H1 m (.ins CM dx (mobF rl lw))) l0 (HO.lst [V.int 0])) w2 (HO.lst (List.replicate ((((l.map fun (n : Nat) => (n : Int)).count 0 : Nat)) : Int).toNat [V.int 0]).flatten)) = H3
        intro s23 hw2
        refine ⟨_, rfl, m, CM, dx, _, rfl, s23 _ _ upd_same, T.cl, T.nw, (by show 2 < 1000; decide), ?_⟩
        rw [mobF_putW]
        have keep3 : ∀ b o, H3 b = some o → b ≠ m → (upd H3 m (.ins CM dx (mobF rl w2))) b = some o := fun b o e hb => (upd_ne hb).trans e
        refine ⟨_, rfl, (by show 1 ≤ sizeLine; decide), fun p np => ?_⟩
        have npm : p ≠ m := fun e => by rw [e, upd_same] at np; cases np
        have np3 : H3 p = none := by rwa [upd_ne npm] at np
        have np1 : H1 p = none := by
          have := s23.free np3
          rwa [upd_ne npm] at this
        have np' : H p = none := s1.free np1
        have keep : ∀ b o, H1 b = some o → b ≠ m → (upd (upd H3 m (.ins CM dx (mobF rl w2))) p (.lst [V.int ((((l.map fun (n : Nat) => (n : Int)).count 0 : Nat)) : Int)])) b = some o := fun b o e hb =>
          keep_new np _ _ (keep3 _ _ (s23 _ _ (keep1 _ _ e hb)) hb)
        refine k _ p (m :: rl :: w2 :: as1) ⟨rl, w2, as1, rfl, ?_⟩ ⟨fun b hb => ?_, fun b o e hb => keep b o (s1 _ _ e) fun z => hb (by rw [z]; simp)⟩ np' ?_
        · rw [hstep]
          refine ⟨⟨dx, (upd_ne (Ne.symm npm)).trans upd_same⟩, keep _ _ e1 (Ne.symm nm), ⟨R1.1, fun i b q e2 e3 => ?_⟩, nd1, keep_new np _ _ (keep3 _ _ hw2 nwm), hG, (by show Sy65.hooks t ≤ 7; omega), ?_, fun y hy => ?_⟩
          · obtain ⟨dr, e⟩ := R1.2 i b q e2 e3
            exact ⟨dr, keep _ _ e fun z => by
              have := new1 b (List.mem_of_getElem? e2)
              rw [z, hd] at this
              cases this⟩
          · exact List.length_replicate
          · have := List.eq_of_mem_replicate hy
            omega
        · simp only [List.mem_cons] at hb ⊢
          rcases hb with rfl | rfl | rfl | hb
          · exact .inl (.inl rfl)
          · exact .inr nrl
          · exact .inr nwH
          · exact .inr (new1 b hb)
        · rw [hstep, upd_same, hc2]
          rfl
end
end HMP
namespace HMP
open PySem PySem.Spec PyProof.Rows L2
/-! ### the reader -/
def redF (a : Addr) (i : Nat) : List (Str × V) := [("calls", .ref a), ("place", .int (i : Int))]
theorem redF_c (a : Addr) (i : Nat) : (redF a i).lookup ("calls" : Str) = some (.ref a) := lk_here
theorem redF_p (a : Addr) (i : Nat) : (redF a i).lookup ("place" : Str) = some (.int (i : Int)) := (lk_past (by decide +kernel)).trans lk_here
theorem redF_no {m : Str} (a : Addr) (i : Nat) (h1 : (m == ("calls" : Str)) = false) (h2 : (m == ("place" : Str)) = false) : (redF a i).lookup m = none := (lk_past h1).trans ((lk_past h2).trans rfl)
theorem redF_put (a : Addr) (i j : Nat) : putF "place" (.int (j : Int)) (redF a i) = redF a j := (put_past (by decide +kernel)).trans (congrArg _ put_here)
def iV (l : List Int) : List V := l.map V.int
theorem iV_length (l : List Int) : (iV l).length = l.length := List.length_map _
theorem iV_get {l : List Int} {i : Nat} {z : Int} (h : l[i]? = some z) : (iV l)[i]? = some (V.int z) := by
  unfold iV
  rw [List.getElem?_map, h]
  rfl
structure RedAt (K : PySem.W.Frag) (CR : Addr) (H : Hp) (r a : Addr) (l : List Int) (i : Nat) : Prop where
  ins : ∃ dx, H r = some (.ins CR dx (redF a i))
  list : SqL K H a (iV l)
  le : i ≤ l.length
/-- all but what stands at r is kept -/
def But (r : Addr) (H H' : Hp) : Prop := ∀ b o, H b = some o → b ≠ r → H' b = some o
theorem SqL.but {K : PySem.W.Frag} {H H' : Hp} {a r : Addr} {xs : List V} {C dx : Addr} {fs : List (Str × V)} (h : L2.SqL K H a xs) (e : But r H H') (hr : H r = some (.ins C dx fs)) : L2.SqL K H' a xs := by
  rcases h with (h | ⟨o, h⟩) | h
  · exact .inl (.inl (e _ _ h fun z => by rw [z, hr] at h; cases h))
  · exact .inl (.inr ⟨o, e _ _ h fun z => by rw [z, hr] at h; cases h⟩)
  · exact .inr h
theorem But.upd {r : Addr} {H : Hp} {o : HO} : But r H (L2.upd H r o) := fun _ _ e n => (upd_ne n).trans e
theorem cut_iV {l : List Int} {i n : Nat} (h : i + n ≤ l.length) : cutV (iV l) (some (i : Int)) (some ((i + n : Nat) : Int)) = iV ((l.drop i).take n) := by
  unfold cutV iV
  rw [HT.sIx_nat, HT.sIx_nat, List.length_map, List.map_take, List.map_drop]
  have e1 : min i l.length = i := by omega
  have e2 : min (i + n) l.length = i + n := by omega
  rw [e1, e2, Nat.add_sub_cancel_left]
structure RedTxt (K : PySem.W.Frag) (C : Addr) : Prop where
  cl : Cls K C
  nc : NoAttr K C "calls"
  np : NoAttr K C "place"
section
variable {P : Program} {w : World} {K : PySem.W.Frag} {mg : Str → Option Value} {base : Heap} {CR : Addr}
/-! ### Reader.__init__ -/
def spRedI (K : PySem.W.Frag) (CR : Addr) : Sp := fun vs H Q _ => ∃ (x dx a : Addr) (l : List Int), vs = [.ref x, .ref a] ∧ H x = some (.ins CR dx []) ∧ SqL K H a (iV l) ∧
  ∀ H' : Hp, RedAt K CR H' x a l 0 → But x H H' → Q .non H'
theorem scRedI : FnScope ["self", "calls"] ["self", "calls"] (defScope sReadI) := ⟨rfl, rfl, rfl, by decide +kernel, rfl, by decide +kernel, by decide +kernel⟩
theorem ok_redI {f : Addr} {fd : FuncData} (F : Fun K "__init__" "Reader.__init__" sReadI f fd) (T : RedTxt K CR) : FnOk P w K mg base CX0 1 f fd ["self", "calls"] (spRedI K CR) := by
  refine F.ok scRedI (fun vs H Q E h => ?_) (fun cdv A outer s H vs Q E hr h => ⟨_, pss_cons (ps_fld (pv 0) (pv 1) rfl) (pss_one (ps_fld (pv 0) pe_int rfl)), ?_⟩)
  · obtain ⟨x, dx, a, l, rfl, _⟩ := h
    rfl
  · obtain ⟨x, dx, a, l, rfl, hx, hS, k⟩ := h
    refine ⟨_, rfl, _, rfl, x, CR, dx, [], rfl, hx, T.cl, T.nc, (by show 0 < 1000; decide), ?_⟩
    refine ⟨_, rfl, x, CR, dx, [("calls", .ref a)], rfl, upd_same, T.cl, T.np, (by show 1 < 1000; decide), ?_⟩
    have b1 : But x H (upd (upd H x (.ins CR dx (putF "calls" (.ref a) []))) x (.ins CR dx (putF "place" (.int 0) [("calls", .ref a)]))) := fun b o e hb => by
      rw [upd_ne hb, upd_ne hb]
      exact e
    refine k _ ⟨⟨dx, Eq.trans upd_same (congrArg (fun q => some (HO.ins CR dx q)) ((put_past (by decide +kernel)).trans rfl))⟩, SqL.but hS b1 hx, Nat.zero_le _⟩ b1
/-! ### has_more -/
def spHasMore (K : PySem.W.Frag) (CR : Addr) : Sp := fun vs H Q _ => ∃ (r a : Addr) (l : List Int) (i : Nat), vs = [.ref r] ∧ RedAt K CR H r a l i ∧ Q (.bl (decide (i < l.length))) H
theorem scHasMore : FnScope ["self"] ["self"] (defScope sHasMore) := ⟨rfl, rfl, rfl, by decide +kernel, rfl, by decide +kernel, by decide +kernel⟩
theorem ok_hasMore {f : Addr} {fd : FuncData} (F : Fun K "has_more" "Reader.has_more" sHasMore f fd) (T : RedTxt K CR) (nLen : mg "len" = none) : FnOk P w K mg base CX0 1 f fd ["self"] (spHasMore K CR) := by
  refine F.ok scHasMore (fun vs H Q E h => ?_) (fun cdv A outer s H vs Q E hr h => ⟨_, pss_one (ps_ret (pe_cmpR op_lt (pe_fld (pv 0) rfl) (pe_callB call_len_seq (by rfl) nLen PySem.boot_len (pa_cons (pe_fld (pv 0) rfl) pa_nil)) (nomark _))), ?_⟩)
  · obtain ⟨r, a, l, i, rfl, _⟩ := h
    rfl
  · obtain ⟨r, a, l, i, rfl, h, k⟩ := h
    obtain ⟨dx, hd⟩ := h.ins
    refine ⟨_, rfl, r, CR, dx, _, _, rfl, hd, T.cl, T.np, redF_p a i, _, rfl, r, CR, dx, _, _, rfl, hd, T.cl, T.nc, redF_c a i, a, _, rfl, .inl h.list, _, _, rfl, rfl, ?_⟩
    have e : decide ((i : Int) < ((iV l).length : Int)) = decide (i < l.length) := by
      rw [iV_length]
      by_cases q : i < l.length
      · rw [decide_eq_true q, decide_eq_true (by omega)]
      · rw [decide_eq_false q, decide_eq_false (by omega)]
    rw [← e] at k
    exact k
/-! ### take -/
def spTake (K : PySem.W.Frag) (CR : Addr) : Sp := fun vs H Q _ => ∃ (r a : Addr) (l : List Int) (i : Nat) (z : Int), vs = [.ref r] ∧ RedAt K CR H r a l i ∧ l[i]? = some z ∧
  ∀ H' : Hp, RedAt K CR H' r a l (i + 1) → But r H H' → (∀ b, H' b = none → H b = none) → Q (.int z) H'
theorem scTake : FnScope ["self", "number"] ["self"] (defScope sTake) := ⟨rfl, rfl, rfl, by decide +kernel, rfl, by decide +kernel, by decide +kernel⟩
theorem ok_take {f : Addr} {fd : FuncData} (F : Fun K "take" "Reader.take" sTake f fd) (T : RedTxt K CR) : FnOk P w K mg base CX0 1 f fd ["self"] (spTake K CR) := by
  refine F.ok scTake (fun vs H Q E h => ?_) (fun cdv A outer s H vs Q E hr h => ⟨_, pss_cons (ps_set (i := 1) scTake.nd rfl (Or.inl rfl) (pe_ix ix_list (pe_fld (pv 0) rfl) (pe_fld (pv 0) rfl) (fun _ _ => rfl)))
      (pss_cons (ps_fldaug (pv 0) pe_int in_add) (pss_one (ps_ret (pv 1)))), ?_⟩)
  · obtain ⟨r, a, l, i, z, rfl, _⟩ := h
    rfl
  · obtain ⟨r, a, l, i, z, rfl, h, hz, k⟩ := h
    obtain ⟨dx, hd⟩ := h.ins
    have hlt := (List.getElem?_eq_some_iff.mp hz).1
    refine ⟨_, rfl, r, CR, dx, _, _, rfl, hd, T.cl, T.nc, redF_c a i, _, rfl, r, CR, dx, _, _, rfl, hd, T.cl, T.np, redF_p a i, a, _, _, V.int z, rfl, rfl, h.list, atI_nat (iV_get hz), ?_⟩
    refine ⟨_, rfl, r, CR, dx, _, _, rfl, hd, T.cl, T.np, redF_p a i, _, _, rfl, rfl, dx, redF a i, hd, (by show 2 < 1000; decide), ?_⟩
    have e : putF "place" (V.int ((i : Int) + 1)) (redF a i) = redF a (i + 1) := redF_put a i (i + 1)
    rw [e]
    refine ⟨_, rfl, k _ ⟨⟨dx, upd_same⟩, SqL.but h.list But.upd hd, hlt⟩ But.upd fun b e => ?_⟩
    have : b ≠ r := fun z => by rw [z, upd_same] at e; cases e
    rwa [upd_ne this] at e
/-! ### take_row -/
def spTakeRow (K : PySem.W.Frag) (CR : Addr) : Sp := fun vs H Q _ => ∃ (r a : Addr) (l : List Int) (i n : Nat), vs = [.ref r] ∧ RedAt K CR H r a l i ∧ l[i]? = some (n : Int) ∧ i + 1 + n ≤ l.length ∧
  ∀ (H' : Hp) (p : Addr), RedAt K CR H' r a l (i + 1 + n) → But r H H' → (∀ b, H' b = none → H b = none) → H p = none → H' p = some (.lst (iV ((l.drop (i + 1)).take n))) → Q (.ref p) H'
theorem scTakeRow : FnScope ["self", "length", "row"] ["self"] (defScope sTakeRow) := ⟨rfl, rfl, rfl, by decide +kernel, rfl, by decide +kernel, by decide +kernel⟩
theorem ok_takeRow {f fT : Addr} {fd fdT : FuncData} (F : Fun K "take_row" "Reader.take_row" sTakeRow f fd) (T : RedTxt K CR) (mT : Meth K CR "take" fT) (bT : Binds K fdT ["self"] []) (GT : FnOk P w K mg base CX0 1 fT fdT ["self"] (spTake K CR)) :
    FnOk P w K mg base CX0 2 f fd ["self"] (spTakeRow K CR) := by
  refine F.ok scTakeRow (fun vs H Q E h => ?_) (fun cdv A outer s H vs Q E hr h => ⟨_, pss_cons (ps_set (i := 1) scTakeRow.nd rfl (Or.inl rfl) (pe_meth0 (pv 0) T.cl mT GT hr bT .nil pass0))
      (pss_cons (ps_set (i := 2) scTakeRow.nd rfl (Or.inl rfl) (pe_slice sl_list (pe_fld (pv 0) rfl) (po_some (pe_fld (pv 0) rfl)) (po_some (pe_op op_add (pe_fld (pv 0) rfl) (pv 1)))))
      (pss_cons (ps_fldaug (pv 0) (pv 1) in_add) (pss_one (ps_ret (pv 2))))), ?_⟩)
  · obtain ⟨r, a, l, i, n, rfl, _⟩ := h
    rfl
  · obtain ⟨r, a, l, i, n, rfl, h, hz, hle, k⟩ := h
    obtain ⟨dx, hd⟩ := h.ins
    refine ⟨_, rfl, r, dx, _, rfl, hd, redF_no a i (by decide +kernel) (by decide +kernel), r, a, l, i, _, rfl, h, hz, fun H1 h1 b1 n1 => ?_⟩
    obtain ⟨dx1, hd1⟩ := h1.ins
    refine ⟨_, rfl, r, CR, dx1, _, _, rfl, hd1, T.cl, T.nc, redF_c a (i + 1), _, rfl, r, CR, dx1, _, _, rfl, hd1, T.cl, T.np, redF_p a (i + 1), _, rfl, _, rfl, r, CR, dx1, _, _, rfl, hd1, T.cl, T.np, redF_p a (i + 1), _, rfl, _, _, rfl, rfl, _, rfl, a, _, rfl, h1.list, fun p np => ?_⟩
    have e1 : cutV (iV l) (some ((i + 1 : Nat) : Int)) (some (((i + 1 : Nat) : Int) + (n : Int))) = iV ((l.drop (i + 1)).take n) := by
      rw [← Int.natCast_add]
      exact cut_iV hle
    rw [e1]
    have npr : p ≠ r := fun z => by rw [z, hd1] at np; cases np
    have hd2 : (upd H1 p (.lst (iV ((l.drop (i + 1)).take n)))) r = some (.ins CR dx1 (redF a (i + 1))) := keep_new np _ _ hd1
    refine ⟨_, rfl, r, CR, dx1, _, _, rfl, hd2, T.cl, T.np, redF_p a (i + 1), _, rfl, _, _, rfl, rfl, dx1, redF a (i + 1), hd2, (by show 2 < 1000; decide), ?_⟩
    have e : putF "place" (V.int (((i + 1 : Nat) : Int) + (n : Int))) (redF a (i + 1)) = redF a (i + 1 + n) := redF_put a (i + 1) (i + 1 + n)
    rw [e]
    refine ⟨_, rfl, k _ p ⟨⟨dx1, upd_same⟩, SqL.but ((keep_new np).seq h1.list) But.upd hd2, hle⟩ (fun b o e hb => ?_) (fun b e => ?_) (n1 _ np) ((upd_ne npr).trans upd_same)⟩
    · exact But.upd _ _ (keep_new np _ _ (b1 _ _ e hb)) hb
    · have q1 : b ≠ r := fun z => by rw [z, upd_same] at e; cases e
      rw [upd_ne q1] at e
      have q2 : b ≠ p := fun z => by rw [z, upd_same] at e; cases e
      rw [upd_ne q2] at e
      exact n1 _ e
end
end HMP
namespace HMP
open PySem PySem.Spec PyProof.Rows L2
section
variable {P : Program} {w : World} {K : PySem.W.Frag} {mg : Str → Option Value} {base : Heap} {CM C CR : Addr}
/-! ### answer_next's promise -/
def spNext (K : PySem.W.Frag) (CM C CR : Addr) : Sp := fun vs H Q _ => ∃ (m r a : Addr) (s : Sy65.St) (F : List Addr) (l rest : List Int) (i : Nat) (c : Sy65.Call), vs = [.ref m, .ref r] ∧ MobAt CM C H m s F ∧ RedAt K CR H r a l i ∧ r ∉ F ∧ ((∀ H'' : Hp, SqL K H'' a (iV l)) ∨ a ∉ F) ∧ HM.Nxt (l.drop i) c rest ∧
  ∀ (H' : Hp) (p : Addr) (F' : List Addr) (j : Nat), MobAt CM C H' m (Sy65.step s c).1 F' → RedAt K CR H' r a l j → l.drop j = rest → i < j → (∀ b ∈ F', b ∈ F ∨ H b = none) → (∀ b o, H b = some o → b ∉ F → b ≠ r → H' b = some o) → H p = none → H' p = some (.lst (ansV (Sy65.step s c).2)) → Q (.ref p) H'
/-! ### answers -/
def spAns (K : PySem.W.Frag) : Sp := fun vs H Q _ => ∃ (a : Addr) (l : List Int), vs = [.ref a] ∧ SqL K H a (iV l) ∧ PySy65.answers_asked l = true ∧
  ∀ (H' : Hp) (p : Addr), H' p = some (.lst (iV (PySy65.answers l))) → Q (.ref p) H'
theorem scAns : FnScope ["calls", "reader", "mobile", "given", "answer"] ["calls"] (defScope sAnswers) := ⟨rfl, rfl, rfl, by decide +kernel, rfl, by decide +kernel, by decide +kernel⟩
theorem ok_ans {f fI fM fH fN : Addr} {fd fdI fdM fdH fdN : FuncData} {k : Nat} (F : Fun K "answers" "answers" sAnswers f fd) (T : RedTxt K CR) (hk : 2 ≤ k) (nLen : mg "len" = none)
    (gR : mg "Reader" = some (.ref CR)) (MR : Mk K CR fI) (bI : Binds K fdI ["self", "calls"] []) (GI : FnOk P w K mg base CX0 1 fI fdI ["self", "calls"] (spRedI K CR))
    (gM : mg "Mobile" = some (.ref CM)) (MM : Mk K CM fM) (bM : Binds K fdM ["self"] []) (GM : FnOk P w K mg base CX0 1 fM fdM ["self"] (spMobI CM C))
    (mH : Meth K CR "has_more" fH) (bH : Binds K fdH ["self"] []) (GH : FnOk P w K mg base CX0 1 fH fdH ["self"] (spHasMore K CR))
    (gN : mg "answer_next" = some (.ref fN)) (kN : PySem.W.keepIn K (.ref fN) = true) (bN : Binds K fdN ["mobile", "reader"] []) (GN : FnOk P w K mg base CX0 k fN fdN ["mobile", "reader"] (spNext K CM C CR)) :
    FnOk P w K mg base CX0 (k + 1) f fd ["calls"] (spAns K) := by
  refine F.ok scAns (fun vs H Q E h => ?_) (fun cdv A outer s H vs Q E hr h => ⟨_, pss_cons (ps_set (i := 1) scAns.nd rfl (Or.inl rfl) (pe_make MR GI (hr.mono hk) rfl gR bI .nil pass0 (pa_cons (pv 0) pa_nil)))
      (pss_cons (ps_set (i := 2) scAns.nd rfl (Or.inl rfl) (pe_make0 MM GM (hr.mono hk) rfl gM bM .nil pass0))
      (pss_cons (ps_set (i := 3) scAns.nd rfl (Or.inl rfl) (pe_lst pa_nil))
      (pss_cons (ps_while PassesOwn.never (pt_val (pe_meth0 (pv 1) T.cl mH GH (hr.mono (by omega)) bH .nil pass0))
        (pss_cons (ps_set (i := 4) scAns.nd rfl (Or.inl rfl) (pe_call GN hr rfl gN kN bN .nil pass0 (pa_cons (pv 2) (pa_cons (pv 1) pa_nil))))
        (pss_cons (ps_expr (pe_bm PySem.F.plainAttrs_list PySem.F.slot_list_append PySem.F.type_list_append mt_append (pv 3) (pa_cons (pe_callB call_len_seq (by rfl) nLen PySem.boot_len (pa_cons (pv 4) pa_nil)) pa_nil)))
        (pss_one (ps_expr (pe_bm PySem.F.plainAttrs_list PySem.F.slot_list_extend PySem.F.type_list_extend mt_extend (pv 3) (pa_cons (pv 4) pa_nil)))))))
      (pss_one (ps_ret (pv 3)))))), ?_⟩)
  · obtain ⟨a, l, rfl, _⟩ := h
    rfl
  · obtain ⟨a, l, rfl, hS, hask, k⟩ := h
    obtain ⟨cs, hcs, _, hans, hshort⟩ := HM.asked_is hask
    rw [hans] at k
    -- reader = Reader(calls)
    refine ⟨_, rfl, ?_⟩
    intro r dr nr ndr ner
    have sr : Same H (upd (upd H dr (.own r)) r (.ins CR dr [])) := Same.made nr ndr (fun b o e hb => e)
    refine ⟨r, dr, a, l, rfl, upd_same, sr.seq hS, fun H1 R1 b1 => ⟨rfl, ?_⟩⟩
    have s1 : Same H H1 := Same.made nr ndr b1
    -- mobile = Mobile()
    intro m dm nm ndm nem
    refine ⟨m, dm, rfl, upd_same, fun H2 F M2 f2 b2 => ⟨rfl, ?_⟩⟩
    have s2 : Same H1 H2 := Same.made nm ndm b2
    obtain ⟨dr1, hr1⟩ := R1.ins
    have tr2 : ∀ b, (∃ o, H1 b = some o) → b ∉ F := fun b ⟨o, e⟩ hb => by
      rcases f2 b hb with q | q
      · rw [q, nm] at e; cases e
      · have h1 : b ≠ m := fun z => by rw [z, nm] at e; cases e
        have h2 : b ≠ dm := fun z => by rw [z, ndm] at e; cases e
        rw [upd_ne h1, upd_ne h2, e] at q
        cases q
    -- given = []
    refine ⟨by decide, fun g ng => ?_⟩
    obtain ⟨lr, lw, as, rfl, MI⟩ := M2
    have s3 : Same H2 (upd H2 g (.lst [])) := keep_new ng
    have hgF : g ∉ (m :: lr :: lw :: as) := by
      intro hb
      simp only [List.mem_cons] at hb
      obtain ⟨dx, hd⟩ := MI.ins
      rcases hb with rfl | rfl | rfl | hb
      · rw [ng] at hd; cases hd
      · rw [MI.rods] at ng; cases ng
      · rw [MI.ws] at ng; cases ng
      · obtain ⟨p, dx', e⟩ := MI.at_.mem hb
        rw [ng] at e; cases e
    have hA0 : (∀ H'' : Hp, SqL K H'' a (iV l)) ∨ (a ≠ r ∧ a ≠ g ∧ a ∉ (m :: lr :: lw :: as) ∧ ∃ o, (upd H2 g (.lst [])) a = some o) := by
      have go : ∀ o, H a = some o → (a ≠ r ∧ a ≠ g ∧ a ∉ (m :: lr :: lw :: as) ∧ ∃ o, (upd H2 g (.lst [])) a = some o) := fun o q =>
        ⟨(fun z => by rw [z, nr] at q; cases q), (fun z => by have := s2 _ _ (s1 _ _ q); rw [z, ng] at this; cases this), tr2 a ⟨o, s1 _ _ q⟩, o, s3 _ _ (s2 _ _ (s1 _ _ q))⟩
      rcases hS with (q | ⟨o, q⟩) | q
      · exact .inr (go _ q)
      · exact .inr (go _ q)
      · exact .inl fun _ => .inr q
    refine ⟨fun μ σ H' => ∃ (i : Nat) (s : Sy65.St) (F : List Addr) (ds : List Sy65.Call) (acc : List Int) (v4 : Option V), μ = l.length - i ∧ σ = [some (.ref a), some (.ref r), some (.ref m), some (.ref g), v4] ∧ RedAt K CR H' r a l i ∧ MobAt CM C H' m s F ∧ r ∉ F ∧ g ∉ F ∧ ((∀ H'' : Hp, SqL K H'' a (iV l)) ∨ (a ≠ r ∧ a ≠ g ∧ a ∉ F ∧ ∃ o, H' a = some o)) ∧ H' g = some (.lst (iV acc)) ∧ HM.Asks (l.drop i) ds ∧ acc ++ HM.played s ds = HM.played Sy65.init cs,
      ⟨l.length, 0, Sy65.init, m :: lr :: lw :: as, cs, [], none, rfl, rfl, ?_, ⟨lr, lw, as, rfl, MI.same s3⟩, tr2 r ⟨_, hr1⟩, hgF, hA0, upd_same, hcs, rfl⟩, ?_⟩
    · have s23 := s2.trans s3
      exact ⟨⟨dr1, s23 _ _ hr1⟩, s23.seq R1.list, R1.le⟩
    · rintro μ σ H' ⟨i, s, F, ds, acc, v4, rfl, rfl, hR, hM, hrF, hgF, hAF, hg, hA, hacc⟩
      obtain ⟨dx, hd⟩ := hR.ins
      refine ⟨_, rfl, r, dx, _, rfl, hd, redF_no a i (by decide +kernel) (by decide +kernel), r, a, l, i, rfl, hR, _, rfl, ite2 (fun c => ?_) (fun c => ?_)⟩
      · have hlt : i < l.length := of_decide_eq_true c
        refine ⟨fun σ' H'' => ∃ (j : Nat) (s : Sy65.St) (F : List Addr) (ds : List Sy65.Call) (acc : List Int) (v4 : Option V), i < j ∧ σ' = [some (.ref a), some (.ref r), some (.ref m), some (.ref g), v4] ∧ RedAt K CR H'' r a l j ∧ MobAt CM C H'' m s F ∧ r ∉ F ∧ g ∉ F ∧ ((∀ H3 : Hp, SqL K H3 a (iV l)) ∨ (a ≠ r ∧ a ≠ g ∧ a ∉ F ∧ ∃ o, H'' a = some o)) ∧ H'' g = some (.lst (iV acc)) ∧ HM.Asks (l.drop j) ds ∧ acc ++ HM.played s ds = HM.played Sy65.init cs, ?_, ?_⟩
        · rintro σ' H'' ⟨j, s', F', ds', acc', v4', hj, rfl, h1, h2, h3, h4, h5, h6, h7, h8⟩
          have := h1.le
          exact ⟨l.length - j, by omega, j, s', F', ds', acc', v4', rfl, rfl, h1, h2, h3, h4, h5, h6, h7, h8⟩
        generalize hdrop : l.drop i = li at hA
        cases hA with
        | nil =>
          have := congrArg List.length hdrop
          rw [List.length_drop] at this
          simp at this
          omega
        | @cons _ rest c ds hN hA' =>
          refine ⟨_, rfl, _, rfl, m, r, a, s, F, l, rest, i, c, rfl, hM, hR, hrF, hAF.imp id fun q => q.2.2.1, by rw [hdrop]; exact hN, fun H3 p F' j M3 R3 hj hij f3 b3 np e3 => ?_⟩
          have ngr : g ≠ r := fun z => by rw [z, hd] at hg; cases hg
          have hg3 : H3 g = some (.lst (iV acc)) := b3 _ _ hg hgF ngr
          have npg : g ≠ p := fun z => by rw [z, np] at hg; cases hg
          have hrF' : r ∉ F' := fun hb => (f3 r hb).elim hrF fun z => by rw [hd] at z; cases z
          have hgF' : g ∉ F' := fun hb => (f3 g hb).elim hgF fun z => by rw [hg] at z; cases z
          have hlen : (ansV (Sy65.step s c).2).length = (Sy65Neutral.out (Sy65.step s c).2).length := List.length_map _
          have hpl : HM.played s (c :: ds) = ((Sy65Neutral.out (Sy65.step s c).2).length : Int) :: (Sy65Neutral.out (Sy65.step s c).2 ++ HM.played (Sy65.step s c).1 ds) := rfl
          rw [hpl] at hacc
          have hbound : acc.length + (1 + ((Sy65Neutral.out (Sy65.step s c).2).length + (HM.played (Sy65.step s c).1 ds).length)) ≤ 10000000 := by
            have := congrArg List.length hacc
            rw [List.length_append, List.length_cons, List.length_append] at this
            omega
          -- given.append(len(answer))
          refine ⟨_, rfl, .inl ⟨rfl, _, SqL.of hg3⟩, _, rfl, p, _, rfl, .inl (SqL.of e3), g, _, _, rfl, rfl, hg3, ?_, ?_⟩
          · rw [iV_length, sizeLine_eq]
            omega
          -- given.extend(answer)
          refine ⟨_, rfl, .inl ⟨rfl, _, SqL.of upd_same⟩, _, rfl, g, p, _, _, rfl, rfl, upd_same, (upd_ne (Ne.symm npg)).trans e3, ?_, ?_⟩
          · rw [List.length_append, iV_length, hlen, sizeLine_eq]
            show acc.length + 1 + _ ≤ _
            omega
          have hb : ∀ b o, H3 b = some o → b ≠ g → (upd (upd H3 g (.lst (iV acc ++ [V.int ((ansV (Sy65.step s c).2).length : Nat)]))) g (.lst (iV acc ++ [V.int ((ansV (Sy65.step s c).2).length : Nat)] ++ ansV (Sy65.step s c).2))) b = some o := fun b o e hb => by
            rw [upd_ne hb, upd_ne hb]
            exact e
          obtain ⟨lr3, lw3, as3, rfl, MI3⟩ := M3
          obtain ⟨dx3, hd3⟩ := R3.ins
          obtain ⟨dm3, hm3⟩ := MI3.ins
          simp only [List.mem_cons, not_or] at hgF'
          obtain ⟨q1, q2, q3, q4⟩ := hgF'
          refine ⟨j, _, m :: lr3 :: lw3 :: as3, ds, acc ++ (((Sy65Neutral.out (Sy65.step s c).2).length : Int) :: Sy65Neutral.out (Sy65.step s c).2), some (.ref p), hij, rfl, ⟨⟨dx3, hb _ _ hd3 (Ne.symm ngr)⟩, ?_, R3.le⟩, ⟨lr3, lw3, as3, rfl, ⟨⟨dm3, hb _ _ hm3 (Ne.symm q1)⟩, hb _ _ MI3.rods (Ne.symm q2), (MI3.at_.upd hg3).upd upd_same, MI3.nd, hb _ _ MI3.ws (Ne.symm q3), MI3.good, MI3.few, MI3.len, MI3.low⟩⟩, hrF', by simp only [List.mem_cons, not_or]; exact ⟨q1, q2, q3, q4⟩, ?_, ?_, by rw [hj]; exact hA', ?_⟩
          · rcases hAF with q | ⟨z1, z2, z3, o, z4⟩
            · exact q _
            · have e3a := b3 _ _ z4 z3 z1
              rcases R3.list with (z | ⟨o, z⟩) | z
              · exact .inl (.inl (hb _ _ z z2))
              · exact .inl (.inr ⟨o, hb _ _ z z2⟩)
              · exact .inr z
          · rcases hAF with q | ⟨z1, z2, z3, o, z4⟩
            · exact .inl q
            · have e3a := b3 _ _ z4 z3 z1
              exact .inr ⟨z1, z2, (fun q => (f3 _ q).elim z3 fun z => by rw [z4] at z; cases z), o, hb _ _ e3a z2⟩
          · rw [upd_same]
            refine congrArg (fun q => some (HO.lst q)) ?_
            unfold iV ansV
            simp [hlen]
          · rw [← hacc]
            simp
      · have hge : ¬ i < l.length := fun q => c (decide_eq_true q)
        have : l.drop i = [] := List.drop_eq_nil_of_le (by omega)
        rw [this] at hA
        cases hA with
        | nil =>
          rw [show HM.played s [] = [] from rfl, List.append_nil] at hacc
          rw [← hacc] at k
          exact ⟨_, rfl, k _ g hg⟩
        | cons hN _ => cases hN
end
end HMP
namespace HMP
open PySem PySem.Spec PyProof.Rows L2
theorem thung_next {z : List (Nat × Nat)} {i : Nat} {p : Nat × Nat} (h : z[i]? = some p) : HM.thung (z.take (i + 1)) = if p.1 ≠ 0 then HM.thung (z.take i) ++ [HM.quo p] else HM.thung (z.take i) := by
  rw [List.take_add_one, h]
  unfold HM.thung
  show ((z.take i ++ [p]).filter _).map _ = _
  rw [List.filter_append, List.map_append, List.filter_cons, List.filter_nil]
  by_cases c : p.1 = 0
  · have c1 : (p.1 != 0) = false := by simpa using c
    rw [c1, if_neg (by decide), if_neg (fun z => z c), List.map_nil, List.append_nil]
  · have c1 : (p.1 != 0) = true := by simpa using c
    rw [c1, if_pos rfl, if_pos c]
    rfl
theorem nV_get_inv {w : List Nat} {i : Nat} {x : V} (h : (nV w)[i]? = some x) : ∃ n, w[i]? = some n ∧ x = V.int (n : Int) := by
  unfold nV at h
  rw [List.getElem?_map] at h
  cases e : w[i]? with
  | none => rw [e] at h; cases h
  | some y =>
    rw [e] at h
    exact ⟨y, rfl, (Option.some.inj h).symm⟩
section
variable {P : Program} {w : World} {K : PySem.W.Frag} {mg : Str → Option Value} {base : Heap}
/-! ### times_hung -/
def spHung (K : PySem.W.Frag) : Sp := fun vs H Q _ => ∃ (a b : Addr) (w L : List Nat), vs = [.ref a, .ref b] ∧ SqL K H a (nV w) ∧ SqL K H b (nV L) ∧ w.length = L.length ∧ w.length ≤ 7 ∧ (∀ y ∈ L, 1 ≤ y) ∧ (∀ y ∈ L, y < 2 ^ 500) ∧
  ∀ (H' : Hp) (p : Addr), Same H H' → H p = none → H' p = some (.lst (nV (HM.thung (w.zip L)))) → Q (.ref p) H'
theorem scHung : FnScope ["weights", "least", "weight", "one"] ["weights", "least"] (defScope sHung) := ⟨rfl, rfl, rfl, by decide +kernel, rfl, by decide +kernel, by decide +kernel⟩
theorem ok_hung {f : Addr} {fd : FuncData} (F : Fun K "times_hung" "times_hung" sHung f fd) (nZip : mg "zip" = none) : FnOk P w K mg base CX0 1 f fd ["weights", "least"] (spHung K) := by
  refine F.ok scHung (fun vs H Q E h => ?_) (fun cdv A outer s H vs Q E hr h => ⟨_, pss_one (ps_ret (pe_lc (own := [("weight", 2), ("one", 3)]) (g := gTup K 2 (gCons (gName 2) (gCons (gName 3) gNil))) rfl scHung.nd
        (pi_zip (by rfl) nZip (pa_cons (pv 0) (pa_cons (pv 1) pa_nil)))
        (blkOk_by (own := [("weight", 2), ("one", 3)]) (N := ["weights", "least", "weight", "one"]) (sc := defScope sHung) (by decide +kernel))
        (fun _ _ _ _ _ => pg_tup rfl (pgs_cons (pg_name (i := 2) scHung.nd rfl (Or.inl rfl)) (pgs_cons (pg_name (i := 3) scHung.nd rfl (Or.inl rfl)) pgs_nil)))
        (fun _ _ _ _ _ => pts_one (pt_cmpR op_gt (pv 2) pe_int (nomark _)))
        (fun _ _ _ _ _ => pe_ifExp (pt_cmpR op_eq (pe_op op_mod (pv 2) (pv 3)) pe_int (nomark _)) (pe_op op_fdivW (pv 2) (pv 3)) pe_int))), ?_⟩)
  · obtain ⟨a, b, w, L, rfl, _⟩ := h
    rfl
  · obtain ⟨a, b, w, L, rfl, hA, hB, hl, h7, hL, hb, k⟩ := h
    refine ⟨_, rfl, _, rfl, a, b, _, _, rfl, hA, hB, fun D nD => ?_⟩
    have hzl : (w.zip L).length = w.length := by
      rw [List.length_zip]
      omega
    have sD : Same H (upd H D (.lst [])) := keep_new nD
    refine lc_it (walk_zip (K := K) (a := a) (b := b) (xs := nV w) (ys := nV L) (n := w.length) (by rw [nV_length, nV_length]; omega)) (fun i H' => Same H H' ∧ H' D = some (.lst (nV (HM.thung ((w.zip L).take i))))) ⟨sD, upd_same⟩ (fun i H' _ ⟨s1, _⟩ => ⟨s1.seq hA, s1.seq hB⟩) ?_ ?_
    · rintro i v H1 H2 hi ⟨s1, eD⟩ ⟨T, x, y, rfl, nT, rfl, hx, hy⟩
      obtain ⟨n, hn, rfl⟩ := nV_get_inv hx
      obtain ⟨o, ho, rfl⟩ := nV_get_inv hy
      have hz : (w.zip L)[i]? = some (n, o) := by
        rw [List.getElem?_zip_eq_some]
        exact ⟨hn, ho⟩
      have o1 := hL o (List.mem_of_getElem? ho)
      have o2 := hb o (List.mem_of_getElem? ho)
      have nx := thung_next hz
      have s2 : Same H (upd H1 T (.tup [V.int (n : Int), V.int (o : Int)])) := s1.trans (keep_new nT)
      have dT : D ≠ T := fun e => by rw [← e, eD] at nT; cases nT
      have eD2 : (upd H1 T (.tup [V.int (n : Int), V.int (o : Int)])) D = some (.lst (nV (HM.thung ((w.zip L).take i)))) := (upd_ne dT).trans eD
      refine ⟨T, _, rfl, SqT.of upd_same, rfl, _, _, rfl, _, _, rfl, rfl, rfl, ?_⟩
      have hlen : (HM.thung ((w.zip L).take i)).length ≤ 7 := by
        unfold HM.thung
        rw [List.length_map]
        refine Nat.le_trans (List.length_filter_le _ _) ?_
        rw [List.length_take]
        omega
      have fin : ∀ u : Int, n ≠ 0 → u = (HM.quo (n, o) : Nat) → ∃ acc, (upd H1 T (.tup [V.int (n : Int), V.int (o : Int)])) D = some (.lst acc) ∧ acc.length < sizeLine ∧ (Same H (upd (upd H1 T (.tup [V.int (n : Int), V.int (o : Int)])) D (.lst (acc ++ [V.int u]))) ∧ (upd (upd H1 T (.tup [V.int (n : Int), V.int (o : Int)])) D (.lst (acc ++ [V.int u]))) D = some (.lst (nV (HM.thung ((w.zip L).take (i + 1)))))) := by
        intro u n0 eu
        refine ⟨_, eD2, by rw [nV_length, sizeLine_eq]; omega, same_upd s2 nD, ?_⟩
        rw [upd_same, nx, if_pos n0, eu, ← nV_app]
        rfl
      refine ⟨_, rfl, _, _, rfl, rfl, _, rfl, ite2 (fun c => ?_) (fun c => ?_)⟩
      · have c1 : (0 : Int) < (n : Int) := of_decide_eq_true c
        have n0 : n ≠ 0 := by omega
        refine ⟨_, rfl, _, rfl, _, _, rfl, rfl, (by omega), rfl, _, rfl, ite2 (fun d => ?_) (fun d => ?_)⟩
        · have d1 : V.int ((n : Int) % (o : Int)) = V.int 0 := of_decide_eq_true d
          have d2 := V.int.inj d1
          have d3 : n % o = 0 := by omega
          refine ⟨_, rfl, _, rfl, _, _, rfl, rfl, wide_div (by omega) (by rw [Int.natAbs_natCast]; exact o2) (by decide) (by decide), ?_⟩
          refine fin _ n0 ?_
          unfold HM.quo
          rw [if_pos d3]
          show (n : Int) / (o : Int) = ((n / o : Nat) : Int)
          rw [Int.natCast_ediv]
        · have d1 : ¬ n % o = 0 := fun q => d (decide_eq_true (by
            have : (n : Int) % (o : Int) = 0 := by omega
            exact congrArg V.int this))
          refine fin _ n0 ?_
          unfold HM.quo
          rw [if_neg d1]
          rfl
      · have c1 : ¬ (0 : Int) < (n : Int) := fun q => c (decide_eq_true q)
        refine ⟨s2, ?_⟩
        rw [eD2, nx, if_neg (by omega)]
    · rintro H2 ⟨s2, eD⟩
      rw [← hzl, List.take_length] at eD
      exact k H2 D s2 nD eD
end
end HMP
namespace HMP
open PySem PySem.Spec PyProof.Rows L2
theorem nat_perm {ns : List Int} {T : List Nat} (h : ns.Perm (T.map fun (n : Nat) => (n : Int))) : ∃ l : List Nat, ns = l.map (fun (n : Nat) => (n : Int)) ∧ l.Perm T := by
  refine ⟨ns.map Int.toNat, ?_, ?_⟩
  · rw [List.map_map]
    have : ∀ x ∈ ns, ((fun (n : Nat) => (n : Int)) ∘ Int.toNat) x = id x := fun x hx => by
      obtain ⟨n, _, rfl⟩ := List.mem_map.mp (h.mem_iff.mp hx)
      rfl
    rw [List.map_congr_left this, List.map_id]
  · have := h.map Int.toNat
    rw [List.map_map] at this
    have e : (Int.toNat ∘ fun (n : Nat) => (n : Int)) = id := rfl
    rw [e, List.map_id] at this
    exact this
section
variable {P : Program} {w : World} {K : PySem.W.Frag} {mg : Str → Option Value} {base : Heap}
/-! ### times_of_all -/
def spAll (K : PySem.W.Frag) : Sp := fun vs H Q _ => ∃ (a b : Addr) (w L : List Nat), vs = [.ref a, .ref b] ∧ SqL K H a (nV w) ∧ SqL K H b (nV L) ∧ w.length = L.length ∧ w.length ≤ 7 ∧ (∀ y ∈ L, 1 ≤ y) ∧ (∀ y ∈ L, y < 2 ^ 500) ∧
  ∀ H' : Hp, Same H H' → Q (.int ((HM.timesAll (HM.thung (w.zip L)) : Nat) : Int)) H'
theorem scAll : FnScope ["weights", "least", "hung"] ["weights", "least"] (defScope sAll) := ⟨rfl, rfl, rfl, by decide +kernel, rfl, by decide +kernel, by decide +kernel⟩
theorem ok_all {f fH : Addr} {fd fdH : FuncData} (F : Fun K "times_of_all" "times_of_all" sAll f fd) (nLen : mg "len" = none) (nMin : mg "min" = none) (nMax : mg "max" = none)
    (gH : mg "times_hung" = some (.ref fH)) (kH : PySem.W.keepIn K (.ref fH) = true) (bH : Binds K fdH ["weights", "least"] []) (GH : FnOk P w K mg base CX0 1 fH fdH ["weights", "least"] (spHung K)) :
    FnOk P w K mg base CX0 2 f fd ["weights", "least"] (spAll K) := by
  refine F.ok scAll (fun vs H Q E h => ?_) (fun cdv A outer s H vs Q E hr h => ⟨_, pss_cons (ps_set (i := 2) scAll.nd rfl (Or.inl rfl) (pe_call GH hr rfl gH kH bH .nil pass0 (pa_cons (pv 0) (pa_cons (pv 1) pa_nil))))
      (pss_cons (ps_if (pt_cmpR op_eq (pe_callB call_len_seq (by rfl) nLen PySem.boot_len (pa_cons (pv 2) pa_nil)) pe_int (nomark _)) (pss_one (ps_ret pe_int)) pss_nil)
      (pss_one (ps_ret (pe_ifExp (pt_cmpR op_eq (pe_callB (cr_min rfl) (by rfl) nMin (by decide +kernel) (pa_cons (pv 2) pa_nil)) (pe_callB (cr_max rfl) (by rfl) nMax (by decide +kernel) (pa_cons (pv 2) pa_nil)) (nomark _))
        (pe_ix ix_list (pv 2) pe_int (fun _ _ => rfl)) pe_int)))), ?_⟩)
  · obtain ⟨a, b, w, L, rfl, _⟩ := h
    rfl
  · obtain ⟨a, b, w, L, rfl, hA, hB, hl, h7, hL, hb, k⟩ := h
    refine ⟨_, rfl, _, rfl, a, b, w, L, rfl, hA, hB, hl, h7, hL, hb, fun H1 q s1 nq e1 => ?_⟩
    generalize HM.thung (w.zip L) = T at e1 k
    refine ⟨_, rfl, q, _, rfl, .inl (SqL.of e1), rfl, _, rfl, ite2 (fun c => ?_) (fun c => ?_)⟩
    · have c1 := V.int.inj (of_decide_eq_true c)
      rw [nV_length] at c1
      have : T = [] := List.eq_nil_of_length_eq_zero (by omega)
      subst this
      exact k H1 s1
    · cases T with
      | nil => exact absurd (decide_eq_true rfl) c
      | cons x l =>
        refine ⟨_, rfl, q, (x :: l).map (fun (n : Nat) => (n : Int)), rfl, SqL.of (by rw [← nV_ints]; exact e1), by simp, fun m hm hle => ?_⟩
        refine ⟨_, rfl, q, (x :: l).map (fun (n : Nat) => (n : Int)), rfl, SqL.of (by rw [← nV_ints]; exact e1), by simp, fun M hM hge => ?_⟩
        obtain ⟨m', hm', rfl⟩ := List.mem_map.mp hm
        obtain ⟨M', hM', rfl⟩ := List.mem_map.mp hM
        have e := HM.timesAll_is hm' hM' (fun y hy => by
          have := hle _ (List.mem_map.mpr ⟨y, hy, rfl⟩)
          omega) (fun y hy => by
          have := hge _ (List.mem_map.mpr ⟨y, hy, rfl⟩)
          omega)
        have k := k H1 s1
        rw [e] at k
        refine ⟨rfl, _, rfl, ite2 (fun d => ?_) (fun d => ?_)⟩
        · have d1 := V.int.inj (of_decide_eq_true d)
          rw [if_pos (by omega)] at k
          exact ⟨_, rfl, q, _, _, _, rfl, rfl, SqL.of e1, get_nV (l := x :: l) (j := 0) (x := x) rfl rfl, k⟩
        · have d1 : ¬ m' = M' := fun z => d (decide_eq_true (by rw [z]))
          rw [if_neg d1] at k
          exact k
/-! ### times_of_most -/
def spMost (K : PySem.W.Frag) : Sp := fun vs H Q _ => ∃ (a b : Addr) (w L : List Nat), vs = [.ref a, .ref b] ∧ SqL K H a (nV w) ∧ SqL K H b (nV L) ∧ w.length = L.length ∧ w.length ≤ 7 ∧ (∀ y ∈ L, 1 ≤ y) ∧ (∀ y ∈ L, y < 2 ^ 500) ∧
  ∀ (H' : Hp) (l : List Nat), Same H H' → l.Pairwise (· ≤ ·) → l.Perm (HM.thung (w.zip L)) → Q (.int ((l.foldl (HM.mostStep fun n => (HM.thung (w.zip L)).count n) 1 : Nat) : Int)) H'
theorem scMost : FnScope ["weights", "least", "hung", "best", "times"] ["weights", "least"] (defScope sMost) := ⟨rfl, rfl, rfl, by decide +kernel, rfl, by decide +kernel, by decide +kernel⟩
theorem ok_most {f fH : Addr} {fd fdH : FuncData} (F : Fun K "times_of_most" "times_of_most" sMost f fd) (nSorted : mg "sorted" = none)
    (gH : mg "times_hung" = some (.ref fH)) (kH : PySem.W.keepIn K (.ref fH) = true) (bH : Binds K fdH ["weights", "least"] []) (GH : FnOk P w K mg base CX0 1 fH fdH ["weights", "least"] (spHung K)) :
    FnOk P w K mg base CX0 2 f fd ["weights", "least"] (spMost K) := by
  refine F.ok scMost (fun vs H Q E h => ?_) (fun cdv A outer s H vs Q E hr h => ⟨_, pss_cons (ps_set (i := 2) scMost.nd rfl (Or.inl rfl) (pe_call GH hr rfl gH kH bH .nil pass0 (pa_cons (pv 0) (pa_cons (pv 1) pa_nil))))
      (pss_cons (ps_set (i := 3) scMost.nd rfl (Or.inl rfl) pe_int)
      (pss_cons (ps_for PassesOwn.never rfl (pi_list (pe_callB cr_sorted (by rfl) nSorted (by decide +kernel) (pa_cons (pv 2) pa_nil))) (pg_name (i := 4) scMost.nd rfl (Or.inl rfl))
        (pss_one (ps_if (PW.pt (pw_and (pt_cmpR op_gt (pv 4) pe_int (nomark _)) (pw_and1 (pt_cmpR op_gt
            (pe_bm PySem.F.plainAttrs_list PySem.F.slot_list_count PySem.F.type_list_count mt_lcount (pv 2) (pa_cons (pv 4) pa_nil))
            (pe_bm PySem.F.plainAttrs_list PySem.F.slot_list_count PySem.F.type_list_count mt_lcount (pv 2) (pa_cons (pv 3) pa_nil)) (nomark _)))))
          (pss_one (ps_set (i := 3) scMost.nd rfl (Or.inl rfl) (pv 4))) pss_nil)))
      (pss_one (ps_ret (pv 3))))), ?_⟩)
  · obtain ⟨a, b, w, L, rfl, _⟩ := h
    rfl
  · obtain ⟨a, b, w, L, rfl, hA, hB, hl, h7, hL, hb, k⟩ := h
    refine ⟨_, rfl, _, rfl, a, b, w, L, rfl, hA, hB, hl, h7, hL, hb, fun H1 q s1 nq e1 => ?_⟩
    have hT7 := HM.thung_len w L
    generalize HM.thung (w.zip L) = T at e1 k hT7
    refine ⟨_, rfl, q, T.map (fun (n : Nat) => (n : Int)), rfl, SqL.of (by rw [← nV_ints]; exact e1), by rw [List.length_map]; omega, fun ns p hp hs np => ?_⟩
    obtain ⟨l, rfl, hperm⟩ := nat_perm hp
    rw [List.pairwise_map] at hs
    have hs' : l.Pairwise (· ≤ ·) := hs.imp fun h => by omega
    rw [← nV_ints]
    have s2 : Same H1 (upd H1 p (.lst (nV l))) := keep_new np
    refine ⟨p, rfl, ⟨_, SqL.of upd_same⟩, for_list (K := K) (a := p) (xs := nV l) (fun i σ H' => H' = upd H1 p (.lst (nV l)) ∧ ∃ v4 : Option V, σ = [some (.ref a), some (.ref b), some (.ref q), some (.int (((l.take i).foldl (HM.mostStep fun n => T.count n) 1 : Nat) : Int)), v4])
      ⟨rfl, none, rfl⟩ (fun i σ H' _ ⟨e, _⟩ => by rw [e]; exact SqL.of upd_same) ?_ ?_⟩
    · rintro i x σ H2 hx ⟨rfl, v4, rfl⟩
      obtain ⟨t, ht, rfl⟩ := nV_get_inv hx
      have enext : (l.take (i + 1)).foldl (HM.mostStep fun n => T.count n) 1 = HM.mostStep (fun n => T.count n) ((l.take i).foldl (HM.mostStep fun n => T.count n) 1) t := by
        rw [List.take_add_one, ht]
        show (l.take i ++ [t]).foldl _ _ = _
        rw [List.foldl_append]
        rfl
      generalize (l.take i).foldl (HM.mostStep fun n => T.count n) 1 = best at enext
      have ms : HM.mostStep (fun n => T.count n) best t = if 0 < t ∧ T.count best < T.count t then t else best := rfl
      rw [enext, ms]
      have sq : SqL K (upd H1 p (.lst (nV l))) q (T.map fun (n : Nat) => V.int (n : Int)) := SqL.of (s2 _ _ e1)
      have sq' : SqL K (upd H1 p (.lst (nV l))) q ((T.map fun (n : Nat) => (n : Int)).map V.int) := by rw [← nV_ints]; exact sq
      refine ⟨_, rfl, _, _, rfl, rfl, _, rfl, ite2 (fun c => ?_) (fun c => ?_)⟩
      · have c1 : (0 : Int) < (t : Int) := of_decide_eq_true c
        refine ⟨_, rfl, .inl ⟨rfl, _, sq⟩, _, rfl, q, _, _, rfl, rfl, sq', ?_⟩
        refine ⟨_, rfl, .inl ⟨rfl, _, sq⟩, _, rfl, q, _, _, rfl, rfl, sq', ?_⟩
        refine ⟨_, _, rfl, rfl, _, rfl, ?_⟩
        rw [count_int, count_int]
        refine ite2 (fun d => ?_) (fun d => ?_)
        · have d1 : ((T.count best : Nat) : Int) < ((T.count t : Nat) : Int) := of_decide_eq_true d
          refine ⟨_, rfl, rfl, some (.int (t : Int)), ?_⟩
          rw [if_pos ⟨by omega, by omega⟩]
          rfl
        · have d1 : ¬ ((T.count best : Nat) : Int) < ((T.count t : Nat) : Int) := fun z => d (decide_eq_true z)
          refine ⟨rfl, some (.int (t : Int)), ?_⟩
          rw [if_neg (fun z => d1 (by have := z.2; omega))]
          rfl
      · have c1 : ¬ (0 : Int) < (t : Int) := fun z => c (decide_eq_true z)
        refine ⟨rfl, some (.int (t : Int)), ?_⟩
        rw [if_neg (fun z => c1 (by have := z.1; omega))]
        rfl
    · rintro σ H2 ⟨rfl, v4, rfl⟩
      rw [nV_length, List.take_length]
      exact ⟨_, rfl, k _ l (s1.trans s2) hs' hperm⟩
end
end HMP
namespace HMP
open PySem PySem.Spec PyProof.Rows L2
theorem num_lt : 4096000000 < 2 ^ 500 := by decide +kernel
theorem MobIs.facts {CM C : Addr} {H : Hp} {m : Addr} {s : Sy65.St} {lr lw : Addr} {as : List Addr} (M : MobIs CM C H m s lr lw as) :
    (∀ y ∈ Sy65.least s.tree, 1 ≤ y) ∧ (∀ y ∈ Sy65.least s.tree, y ≤ 4096000000) ∧ (∀ y ∈ Sy65.least s.tree, y < 2 ^ 500) ∧ (Sy65.least s.tree).length = Sy65.hooks s.tree ∧ s.hung.length = (Sy65.least s.tree).length ∧ s.hung.length ≤ 7 := by
  have h1 := HM.least_bound M.good M.few
  have h2 := HM.least_length s.tree
  have h3 := M.len
  have h4 := M.few
  have b : ∀ y ∈ Sy65.least s.tree, y ≤ 4096000000 := fun y hy => Nat.le_trans (HM.le_sum hy) h1
  exact ⟨(HM.least_pos s.tree M.good).1, b, fun y hy => Nat.lt_of_le_of_lt (b y hy) num_lt, h2, by omega, by omega⟩
section
variable {P : Program} {w : World} {K : PySem.W.Frag} {mg : Str → Option Value} {base : Heap} {CM C : Addr}
/-! ### up -/
def spUp (CM C : Addr) : Sp := fun vs H Q _ => ∃ (m : Addr) (s : Sy65.St) (F : List Addr), vs = [.ref m] ∧ MobAt CM C H m s F ∧ Done CM C H m s F .madeUp Q
theorem scUp : FnScope ["self", "times"] ["self"] (defScope sUp) := ⟨rfl, rfl, rfl, by decide +kernel, rfl, by decide +kernel, by decide +kernel⟩
theorem ok_up {f fB fR fA : Addr} {fd fdB fdR fdA : FuncData} (F : Fun K "up" "Mobile.up" sUp f fd) (T : MobTxt K CM)
    (mB : Meth K CM "balancing" fB) (bB : Binds K fdB ["self", "times"] []) (GB : FnOk P w K mg base CX0 4 fB fdB ["self", "times"] (spBal CM C))
    (gA : mg "times_of_all" = some (.ref fA)) (kA : PySem.W.keepIn K (.ref fA) = true) (bA : Binds K fdA ["weights", "least"] []) (GA : FnOk P w K mg base CX0 2 fA fdA ["weights", "least"] (spAll K))
    (gR : mg "with_row" = some (.ref fR)) (kR : PySem.W.keepIn K (.ref fR) = true) (bR : Binds K fdR ["number", "row"] []) (GR : FnOk P w K mg base CX0 2 fR fdR ["number", "row"] spWithRow) :
    FnOk P w K mg base CX0 5 f fd ["self"] (spUp CM C) := by
  refine F.ok scUp (fun vs H Q E h => ?_) (fun cdv A outer s H vs Q E hr h => ⟨_, pss_cons (ps_set (i := 1) scUp.nd rfl (Or.inl rfl)
        (pe_call GA (hr.mono (by decide)) rfl gA kA bA .nil pass0 (pa_cons (pe_fld (pv 0) rfl) (pa_cons (pe_meth (pv 0) T.cl mB GB hr bB .nil pass0 (by exact (pa_cons pe_int pa_nil))) pa_nil))))
      (pss_cons (ps_if (pt_cmpR op_eq (pv 1) pe_int (nomark _)) (pss_one (ps_ret (pe_lst (pa_cons (pe_un un_neg pe_int) pa_nil)))) pss_nil)
      (pss_one (ps_ret (pe_call GR (hr.mono (by decide)) rfl gR kR bR .nil pass0 (pa_cons (pv 1) (pa_cons (pe_meth (pv 0) T.cl mB GB hr bB .nil pass0 (by exact (pa_cons (pv 1) pa_nil))) pa_nil)))))), ?_⟩)
  · obtain ⟨m, s, F, rfl, _⟩ := h
    rfl
  · obtain ⟨m, s, F, rfl, hm, k⟩ := h
    obtain ⟨lr, lw, as, rfl, M⟩ := id hm
    obtain ⟨dx, hd⟩ := M.ins
    obtain ⟨q1, q2, q3, q4, q5, q6⟩ := M.facts
    have hstep : Sy65.step s .madeUp = (s, match Sy65.madeUp s with
      | none => Sy65.ok (-6)
      | some n => ⟨(n : Nat), [Sy65.ints (Sy65.times n (Sy65.least s.tree))]⟩) := rfl
    rw [HM.madeUp_is s q1] at hstep
    have hle := HM.timesAll_le (HM.thung_le (L := Sy65.least s.tree) M.low)
    refine ⟨_, rfl, m, CM, dx, _, _, rfl, hd, T.cl, T.nw, mobF_w lr lw, _, rfl, m, dx, _, rfl, hd, mobF_no lr lw (by decide +kernel) (by decide +kernel), m, s, _, 1, rfl, by decide, hm, fun H1 q s1 nq e1 => ?_⟩
    rw [times_one] at e1
    refine ⟨lw, q, s.hung, Sy65.least s.tree, rfl, SqL.of (s1 _ _ M.ws), SqL.of e1, q5, q6, q1, q3, fun H2 s2 => ?_⟩
    generalize HM.timesAll (HM.thung (s.hung.zip (Sy65.least s.tree))) = n at hstep hle
    have s12 := s1.trans s2
    refine ⟨_, rfl, rfl, _, rfl, ite2 (fun c => ?_) (fun c => ?_)⟩
    · have c1 := V.int.inj (of_decide_eq_true c)
      rw [if_pos (by omega)] at hstep
      exact ⟨_, rfl, (by decide), fun p np => k.stay hm hstep (s12.trans (keep_new np)) (s12.free np) upd_same⟩
    · have c1 : ¬ n = 0 := fun z => c (decide_eq_true (by rw [z]; rfl))
      rw [if_neg c1] at hstep
      refine ⟨_, rfl, _, rfl, m, dx, _, rfl, s12 _ _ hd, mobF_no lr lw (by decide +kernel) (by decide +kernel), _, rfl, m, s, _, n, rfl, by omega, ⟨lr, lw, as, rfl, M.same s12⟩, fun H3 p s3 np e3 => ?_⟩
      refine ⟨_, p, _, rfl, e3, ?_, fun H4 r s4 nr e4 => ?_⟩
      · rw [nV_length, HM.times_length]
        omega
      · refine k.stay hm hstep ((s12.trans s3).trans s4) ((s12.trans s3).free nr) ?_
        rw [e4, ans_one, nV_length]
/-! ### mend -/
def spMend (CM C : Addr) : Sp := fun vs H Q _ => ∃ (m : Addr) (s : Sy65.St) (F : List Addr), vs = [.ref m] ∧ MobAt CM C H m s F ∧ Done CM C H m s F .mend Q
theorem scMend : FnScope ["self", "weights", "changed", "hook", "weight"] ["self"] (defScope sMend) := ⟨rfl, rfl, rfl, by decide +kernel, rfl, by decide +kernel, by decide +kernel⟩
theorem ok_mend {f fB fR fA : Addr} {fd fdB fdR fdA : FuncData} (F : Fun K "mend" "Mobile.mend" sMend f fd) (T : MobTxt K CM) (nLen : mg "len" = none) (nMax : mg "max" = none) (nEnum : mg "enumerate" = none) {tH : Tok} (gH : mg "HEAVIEST" = some (.int 1000000 tH))
    (mB : Meth K CM "balancing" fB) (bB : Binds K fdB ["self", "times"] []) (GB : FnOk P w K mg base CX0 4 fB fdB ["self", "times"] (spBal CM C))
    (gA : mg "times_of_most" = some (.ref fA)) (kA : PySem.W.keepIn K (.ref fA) = true) (bA : Binds K fdA ["weights", "least"] []) (GA : FnOk P w K mg base CX0 2 fA fdA ["weights", "least"] (spMost K))
    (gR : mg "with_row" = some (.ref fR)) (kR : PySem.W.keepIn K (.ref fR) = true) (bR : Binds K fdR ["number", "row"] []) (GR : FnOk P w K mg base CX0 2 fR fdR ["number", "row"] spWithRow) :
    FnOk P w K mg base CX0 5 f fd ["self"] (spMend CM C) := by
  refine F.ok scMend (fun vs H Q E h => ?_) (fun cdv A outer s H vs Q E hr h => ⟨_, pss_cons (ps_set (i := 1) scMend.nd rfl (Or.inl rfl)
        (pe_meth (pv 0) T.cl mB GB hr bB .nil pass0 (by exact (pa_cons (pe_call GA (hr.mono (by decide)) rfl gA kA bA .nil pass0 (pa_cons (pe_fld (pv 0) rfl) (pa_cons (pe_meth (pv 0) T.cl mB GB hr bB .nil pass0 (by exact (pa_cons pe_int pa_nil))) pa_nil))) pa_nil))))
      (pss_cons (ps_if (pt_cmpR op_gt (pe_callB (cr_max rfl) (by rfl) nMax (by decide +kernel) (pa_cons (pv 1) pa_nil)) (pe_glob (v := .int 1000000) rfl gH ⟨_, rfl⟩) (nomark _))
          (pss_one (ps_ret (pe_lst (pa_cons (pe_un un_neg pe_int) pa_nil)))) pss_nil)
      (pss_cons (ps_setLc (i := 2) (own := [("hook", 3), ("weight", 4)]) (g := gTup K 2 (gCons (gName 3) (gCons (gName 4) gNil))) (tt := tTest (tOp rNe (tVar 4) (tOp (rIxL K) (tFld K (tVar 0) "weights") (tVar 3)))) rfl scMend.nd rfl rfl (sw_true rfl rfl rfl (by decide +kernel))
        (pi_enum (by rfl) nEnum (pa_cons (pv 1) pa_nil))
        (blkOk_by (own := [("hook", 3), ("weight", 4)]) (N := ["self", "weights", "changed", "hook", "weight"]) (sc := defScope sMend) (by decide +kernel))
        (fun _ _ _ _ _ => pg_tup rfl (pgs_cons (pg_name (i := 3) scMend.nd rfl (Or.inl rfl)) (pgs_cons (pg_name (i := 4) scMend.nd rfl (Or.inl rfl)) pgs_nil)))
        (by intro s0 H0 C0 cl0 fp0
            refine pts_one (pt_cmpR op_ne (pv 4) (pe_ix (r := rIxL K) ix_list ?h1 (pv 3) (fun _ _ => rfl)) (nomark _))
            case h1 => exact pe_fld (pv 0) rfl)
        (fun _ _ _ _ _ => pv 3))
      (pss_cons (ps_fld (pv 0) (pv 1) rfl)
      (pss_one (ps_ret (pe_call GR (hr.mono (by decide)) rfl gR kR bR .nil pass0 (pa_cons (pe_callB call_len_seq (by rfl) nLen PySem.boot_len (pa_cons (pv 2) pa_nil)) (pa_cons (pv 1) pa_nil)))))))), ?_⟩)
  · obtain ⟨m, s, F, rfl, _⟩ := h
    rfl
  · obtain ⟨m, s, F, rfl, hm, k⟩ := h
    obtain ⟨lr, lw, as, rfl, M⟩ := id hm
    obtain ⟨dx, hd⟩ := M.ins
    obtain ⟨q1, q2, q3, q4, q5, q6⟩ := M.facts
    have hstep : Sy65.step s .mend = if Sy65.MOST < Sy65.nearest s * (Sy65.least s.tree).foldl max 0 then (s, Sy65.ok (-1)) else ({ s with hung := Sy65.times (Sy65.nearest s) (Sy65.least s.tree) }, ⟨((s.hung.length - Sy65.right s (Sy65.nearest s) : Nat) : Int), [Sy65.ints (Sy65.times (Sy65.nearest s) (Sy65.least s.tree))]⟩) := rfl
    have hle := HM.nearest_le s q1 M.low
    refine ⟨_, rfl, m, dx, _, rfl, hd, mobF_no lr lw (by decide +kernel) (by decide +kernel), _, rfl, m, CM, dx, _, _, rfl, hd, T.cl, T.nw, mobF_w lr lw, _, rfl, m, dx, _, rfl, hd, mobF_no lr lw (by decide +kernel) (by decide +kernel), m, s, _, 1, rfl, by decide, hm, fun H1 q s1 nq e1 => ?_⟩
    rw [times_one] at e1
    refine ⟨lw, q, s.hung, Sy65.least s.tree, rfl, SqL.of (s1 _ _ M.ws), SqL.of e1, q5, q6, q1, q3, fun H2 l s2 hs hp => ?_⟩
    rw [HM.nearest_is s q1 hs hp]
    have hch := HM.changed_is s (Sy65.nearest s) q5
    have s12 := s1.trans s2
    refine ⟨m, s, _, Sy65.nearest s, rfl, by omega, ⟨lr, lw, as, rfl, M.same s12⟩, fun H3 D s3 nD eD => ?_⟩
    generalize hn : Sy65.nearest s = n at hstep hle eD hch
    generalize hL : Sy65.least s.tree = L at hstep q1 q2 q3 q4 q5 eD hch
    generalize hW : Sy65.times n L = W at eD hstep hch
    have s13 := s12.trans s3
    have nD' : H D = none := s12.free nD
    have hWl : W.length = Sy65.hooks s.tree := by rw [← hW, HM.times_length, q4]
    have hWp : 0 < W.length := by
      have := HM.hooks_pos s.tree
      omega
    refine ⟨_, rfl, D, W.map (fun (n : Nat) => (n : Int)), rfl, SqL.of (by rw [← nV_ints]; exact eD), by rw [List.length_map]; exact hWp, fun z hz hge => ?_⟩
    obtain ⟨g, hg, rfl⟩ := List.mem_map.mp hz
    have hgle : ∀ y ∈ W, y ≤ g := fun y hy => by
      have := hge _ (List.mem_map.mpr ⟨y, hy, rfl⟩)
      omega
    have hmax : n * L.foldl max 0 = g := by
      rw [← hW] at hg hgle
      exact max_times hg hgle
    rw [hmax] at hstep
    refine ⟨_, _, rfl, rfl, _, rfl, ite2 (fun c => ?_) (fun c => ?_)⟩
    · have c2 : (1000000 : Int) < (g : Int) := of_decide_eq_true c
      rw [if_pos (by unfold Sy65.MOST; omega)] at hstep
      exact ⟨_, rfl, (by decide), fun p np => k.stay hm hstep (s13.trans (keep_new np)) (s13.free np) upd_same⟩
    · have c2 : ¬ (1000000 : Int) < (g : Int) := fun q => c (decide_eq_true q)
      rw [if_neg (by unfold Sy65.MOST; omega)] at hstep
      refine ⟨_, rfl, D, _, rfl, SqL.of eD, fun E nE => ?_⟩
      refine lc_it (walk_enum (K := K) (a := D) (xs := nV W)) (fun i H' => Same H3 H' ∧ H' E = some (.lst (nV (HM.chg s.hung W i)))) ⟨keep_new nE, upd_same⟩ (fun i H' _ ⟨s4, _⟩ => SqL.of (s4 _ _ eD)) ?_ ?_
      · rintro i v H4 H5 hi ⟨s4, eE⟩ ⟨t, x, y, rfl, nt, rfl, hx, hy⟩
        cases Option.some.inj hx
        obtain ⟨o, ho, rfl⟩ := nV_get_inv hy
        rw [nV_length] at hi
        have hx2 : s.hung[i]? = some s.hung[i] := List.getElem?_eq_getElem (by omega)
        generalize s.hung[i]'(by omega) = u at hx2
        have nx := HM.chg_succ s.hung W i
        rw [ho, hx2] at nx
        have s5 : Same H3 (upd H4 t (.tup [V.int (i : Nat), V.int (o : Int)])) := s4.trans (keep_new nt)
        have et : E ≠ t := fun e => by rw [← e, eE] at nt; cases nt
        have eE2 : (upd H4 t (.tup [V.int (i : Nat), V.int (o : Int)])) E = some (.lst (nV (HM.chg s.hung W i))) := (upd_ne et).trans eE
        have s15 := s13.trans s5
        have hcl := HM.chg_le s.hung W i
        refine ⟨t, _, rfl, SqT.of upd_same, rfl, _, _, rfl, _, _, rfl, rfl, rfl, ?_⟩
        refine ⟨_, rfl, _, rfl, m, CM, dx, _, _, rfl, s15 _ _ hd, T.cl, T.nw, mobF_w lr lw, _, rfl, lw, _, _, V.int (u : Int), rfl, rfl, SqL.of (s15 _ _ M.ws), get_nV rfl hx2, ?_⟩
        refine ⟨rfl, _, rfl, ite2 (fun d => ?_) (fun d => ?_)⟩
        · have d1 : ¬ o = u := fun z => by
            rw [z, decide_eq_true rfl] at d
            cases d
          refine ⟨_, rfl, _, eE2, by rw [nV_length, sizeLine_eq]; omega, same_upd s5 nE, ?_⟩
          rw [upd_same, nx, if_pos (by rw [bne_iff_ne]; intro z; exact d1 (Option.some.inj z)), ← nV_app]
          rfl
        · have d1 : o = u := by
            by_cases z : o = u
            · exact z
            · exact absurd (by rw [decide_eq_false (fun y => z (by have := V.int.inj y; omega))]; rfl) d
          refine ⟨s5, ?_⟩
          rw [eE2, nx, if_neg (by rw [d1]; simp)]
      · rintro H4 ⟨s4, eE⟩
        have s14 := s13.trans s4
        rw [nV_length, hWl, ← M.len] at eE
        obtain ⟨M3, f3⟩ := M.put hd s14 nD' (s4 _ _ eD) hWl fun y hy => by
          have := hgle y hy
          omega
        have nE' : H E = none := s13.free nE
        have mE : m ≠ E := fun e => by rw [e, nE'] at hd; cases hd
        refine ⟨_, rfl, _, rfl, m, CM, dx, _, rfl, s14 _ _ hd, T.cl, T.nw, (by show 2 < 1000; decide), ?_⟩
        rw [mobF_putW]
        refine ⟨_, rfl, E, _, rfl, .inl (SqL.of ((upd_ne (Ne.symm mE)).trans eE)), _, rfl, _, D, _, rfl, M3.ws, by rw [nV_length]; show W.length ≤ 1000000; have := M.few; omega, fun H5 p s5 np e5 => ?_⟩
        have npm : p ≠ m := fun e => by rw [e, upd_same] at np; cases np
        have np2 : H4 p = none := by rwa [upd_ne npm] at np
        have np' : H p = none := s14.free np2
        refine k _ p (m :: lr :: D :: as) ⟨lr, D, as, rfl, ?_⟩ (f3.then s5) np' ?_
        · rw [hstep]
          exact M3.same s5
        · rw [hstep, e5, ans_one, nV_length, nV_length, ← hch]
end
end HMP
namespace HMP
open PySem PySem.Spec PyProof.Rows L2
theorem inV_nat (k : Nat) : ∀ w : List Nat, inV (.int (k : Int)) (nV w) = decide (k ∈ w)
  | [] => rfl
  | x :: w => by
    show (eqV (.int (x : Int)) (.int (k : Int)) || inV (.int (k : Int)) (nV w)) = _
    rw [inV_nat k w]
    have e : eqV (.int (x : Int)) (.int (k : Int)) = decide (k = x) := by
      show ((x : Int) == (k : Int)) = _
      by_cases h : k = x
      · subst h
        simp
      · rw [decide_eq_false h, beq_eq_false_iff_ne]
        intro z
        exact h (by omega)
    rw [e, Bool.eq_iff_iff, Bool.or_eq_true, decide_eq_true_iff, decide_eq_true_iff, decide_eq_true_iff, List.mem_cons]
theorem flat_nV (w : List Nat) : (nV w).all flatV = true := by
  unfold nV
  rw [List.all_map, List.all_eq_true]
  intro x _
  rfl
theorem seg_sum {w : List Nat} {lo hi : Nat} (h1 : lo < hi) (h2 : hi ≤ w.length) (h7 : w.length ≤ 7) (hw : HM.Rng 1000000 w) : 1 ≤ (HM.seg lo hi w).sum ∧ (HM.seg lo hi w).sum ≤ 7000000 := by
  have r : HM.Rng 1000000 (HM.seg lo hi w) := fun x hx => hw x (HM.seg_mem hx)
  have hl := HM.seg_length (lo := lo) h2
  obtain ⟨a, b⟩ := HM.sum_bound r
  have : (HM.seg lo hi w).length * 1000000 ≤ 7 * 1000000 := Nat.mul_le_mul_right _ (by omega)
  omega
theorem num7_lt : 7000000 < 2 ^ 500 := by decide +kernel
section
variable {P : Program} {w : World} {K : PySem.W.Frag} {mg : Str → Option Value} {base : Heap} {CM C : Addr}
/-! ### wants -/
def spWants (CM C : Addr) : Sp := fun vs H Q _ => ∃ (m : Addr) (s : Sy65.St) (F : List Addr), vs = [.ref m] ∧ MobAt CM C H m s F ∧ Done CM C H m s F .wants Q
theorem scWants : FnScope ["self", "shortest", "rod", "left", "right", "shared"] ["self"] (defScope sWants) := ⟨rfl, rfl, rfl, by decide +kernel, rfl, by decide +kernel, by decide +kernel⟩
theorem ok_wants {f fL fR fG fW : Addr} {fd fdL fdR fdG fdW : FuncData} (F : Fun K "wants" "Mobile.wants" sWants f fd) (T : MobTxt K CM) (TR : RodTxt K C) (nLen : mg "len" = none)
    (mL : Meth K C "at_left" fL) (bL : Binds K fdL ["self", "weights"] []) (GL : FnOk P w K mg base CX0 1 fL fdL ["self", "weights"] (spAtL K C))
    (mR : Meth K C "at_right" fR) (bR : Binds K fdR ["self", "weights"] []) (GR : FnOk P w K mg base CX0 1 fR fdR ["self", "weights"] (spAtR K C))
    (gG : mg "greatest_divisor" = some (.ref fG)) (kG : PySem.W.keepIn K (.ref fG) = true) (bG : Binds K fdG ["one", "other"] []) (GG : FnOk P w K mg base CX0 1 fG fdG ["one", "other"] spGcd)
    (gW : mg "with_row" = some (.ref fW)) (kW : PySem.W.keepIn K (.ref fW) = true) (bW : Binds K fdW ["number", "row"] []) (GW : FnOk P w K mg base CX0 2 fW fdW ["number", "row"] spWithRow) :
    FnOk P w K mg base CX0 3 f fd ["self"] (spWants CM C) := by
  refine F.ok scWants (fun vs H Q E h => ?_) (fun cdv A outer s H vs Q E hr h => ⟨_, pss_cons (ps_if (pt_cmpR op_in_seq pe_int (pe_fld (pv 0) rfl) (by rfl)) (pss_one (ps_ret (pe_lst (pa_cons (pe_un un_neg pe_int) pa_nil)))) pss_nil)
      (pss_cons (ps_set (i := 1) scWants.nd rfl (Or.inl rfl) (pe_lst pa_nil))
      (pss_cons (ps_for PassesOwn.never rfl (pi_list (pe_fld (pv 0) rfl)) (pg_name (i := 2) scWants.nd rfl (Or.inl rfl))
        (pss_cons (ps_set (i := 3) scWants.nd rfl (Or.inl rfl) (pe_meth (pv 2) TR.cl mL GL (hr.mono (by decide)) bL .nil pass0 (by exact (pa_cons (pe_fld (pv 0) rfl) pa_nil))))
        (pss_cons (ps_set (i := 4) scWants.nd rfl (Or.inl rfl) (pe_meth (pv 2) TR.cl mR GR (hr.mono (by decide)) bR .nil pass0 (by exact (pa_cons (pe_fld (pv 0) rfl) pa_nil))))
        (pss_cons (ps_set (i := 5) scWants.nd rfl (Or.inl rfl) (pe_call GG (hr.mono (by decide)) rfl gG kG bG .nil pass0 (pa_cons (pv 3) (pa_cons (pv 4) pa_nil))))
        (pss_one (ps_expr (pe_bm PySem.F.plainAttrs_list PySem.F.slot_list_extend PySem.F.type_list_extend mt_extend (pv 1) (pa_cons (pe_lst (pa_cons (pe_op op_fdivW (pv 4) (pv 5)) (pa_cons (pe_op op_fdivW (pv 3) (pv 5)) pa_nil))) pa_nil))))))))
      (pss_one (ps_ret (pe_call GW hr rfl gW kW bW .nil pass0 (pa_cons (pe_callB call_len_seq (by rfl) nLen PySem.boot_len (pa_cons (pe_fld (pv 0) rfl) pa_nil)) (pa_cons (pv 1) pa_nil))))))), ?_⟩)
  · obtain ⟨m, s, F, rfl, _⟩ := h
    rfl
  · obtain ⟨m, s, F, rfl, hm, k⟩ := h
    obtain ⟨lr, lw, as, rfl, M⟩ := id hm
    obtain ⟨dx, hd⟩ := M.ins
    have hstep : Sy65.step s .wants = (s, if Sy65.full s = false then Sy65.ok (-6) else ⟨(Sy65.rods s.tree : Nat), [Sy65.ints ((Sy65.arms s.tree s.hung).flatMap fun (p : Nat × Nat) => [p.1, p.2])]⟩) := rfl
    rw [HM.full_is, HM.arms_is s.tree s.hung M.len, List.flatMap_map] at hstep
    refine ⟨_, rfl, m, CM, dx, _, _, rfl, hd, T.cl, T.nw, mobF_w lr lw, lw, _, rfl, .inl (SqL.of M.ws), rfl, flat_nV _, _, rfl, ?_⟩
    rw [show V.int 0 = V.int ((0 : Nat) : Int) from rfl, inV_nat]
    refine ite2 (fun c => ?_) (fun c => ?_)
    · have c1 : 0 ∈ s.hung := of_decide_eq_true c
      rw [decide_eq_false (fun z => z c1), if_pos rfl] at hstep
      exact ⟨_, rfl, (by decide), fun p np => k.no hm hstep np⟩
    · have c1 : 0 ∉ s.hung := fun z => c (decide_eq_true z)
      rw [decide_eq_true c1, if_neg (by decide)] at hstep
      have hrng : HM.Rng 1000000 s.hung := fun x hx => ⟨by
        rcases Nat.eq_zero_or_pos x with z | z
        · rw [z] at hx
          exact absurd hx c1
        · exact z, M.low x hx⟩
      have hin := HM.rodsOf_within s.tree 0
      have hR := M.at_
      have hlen := HM.rodsOf_length s.tree 0
      have hrods := HM.hooks_rods s.tree
      have hfew := M.few
      have hwl := M.len
      generalize HM.rodsOf 0 s.tree = ps at hin hR hlen hstep
      refine ⟨by decide, fun D nD => ?_⟩
      refine ⟨_, rfl, m, CM, dx, _, _, rfl, keep_new nD _ _ hd, T.cl, T.nr, mobF_r lr lw, lr, rfl, ⟨_, SqL.of (keep_new nD _ _ M.rods)⟩, for_list (K := K) (a := lr) (xs := as.map V.ref) (fun i σ H' => Same H H' ∧ H' D = some (.lst (nV ((ps.take i).flatMap fun p => [HM.armsL s.hung p, HM.armsR s.hung p]))) ∧ ∃ v2 v3 v4 v5 : Option V, σ = [some (.ref m), some (.ref D), v2, v3, v4, v5])
        ⟨keep_new nD, upd_same, none, none, none, none, rfl⟩ (fun i σ H' _ ⟨s1, _⟩ => SqL.of (s1 _ _ M.rods)) ?_ ?_⟩
      · rintro i x σ H1 hx ⟨s1, eD, v2, v3, v4, v5, rfl⟩
        rw [List.getElem?_map] at hx
        obtain ⟨ra, hra, rfl⟩ : ∃ ra, as[i]? = some ra ∧ x = V.ref ra := by
          cases e : as[i]? with
          | none => rw [e] at hx; cases hx
          | some ra =>
            rw [e] at hx
            exact ⟨ra, rfl, (Option.some.inj hx).symm⟩
        have hi : i < ps.length := by rw [← hR.1]; exact (List.getElem?_eq_some_iff.mp hra).1
        have hp : ps[i]? = some ps[i] := List.getElem?_eq_getElem hi
        generalize ps[i] = p at hp
        obtain ⟨dr, er⟩ := hR.2 i ra p hra hp
        obtain ⟨w1, w2, w3, w4⟩ := hin p (List.mem_of_getElem? hp)
        rw [Nat.zero_add] at w4
        obtain ⟨l1, l2⟩ := seg_sum w2 (by omega) (by omega) hrng
        obtain ⟨r1, r2⟩ := seg_sum w3 (by omega) (by omega) hrng
        have nx : (ps.take (i + 1)).flatMap (fun p => [HM.armsL s.hung p, HM.armsR s.hung p]) = (ps.take i).flatMap (fun p => [HM.armsL s.hung p, HM.armsR s.hung p]) ++ [HM.armsL s.hung p, HM.armsR s.hung p] := by
          rw [List.take_add_one, hp]
          show (ps.take i ++ [p]).flatMap _ = _
          rw [List.flatMap_append]
          rfl
        have hfl : ((ps.take i).flatMap fun p => [HM.armsL s.hung p, HM.armsR s.hung p]).length ≤ 12 := by
          rw [List.length_flatMap]
          have : (ps.take i).map (fun a => [HM.armsL s.hung a, HM.armsR s.hung a].length) = List.replicate (ps.take i).length 2 := by
            rw [List.eq_replicate_iff]
            refine ⟨by rw [List.length_map], fun b hb => ?_⟩
            obtain ⟨a, _, rfl⟩ := List.mem_map.mp hb
            rfl
          rw [this, List.sum_replicate_nat, List.length_take]
          omega
        refine ⟨_, rfl, ra, dr, _, rfl, s1 _ _ er, rodF_al p, _, rfl, m, CM, dx, _, _, rfl, s1 _ _ hd, T.cl, T.nw, mobF_w lr lw, ra, lw, p, s.hung, rfl, ⟨dr, s1 _ _ er⟩, SqL.of (s1 _ _ M.ws), by omega, fun H2 s2 => ?_⟩
        have s12 := s1.trans s2
        refine ⟨_, rfl, ra, dr, _, rfl, s12 _ _ er, rodF_ar p, _, rfl, m, CM, dx, _, _, rfl, s12 _ _ hd, T.cl, T.nw, mobF_w lr lw, ra, lw, p, s.hung, rfl, ⟨dr, s12 _ _ er⟩, SqL.of (s12 _ _ M.ws), by omega, fun H3 s3 => ?_⟩
        have s13 := s12.trans s3
        have e3 := s3 _ _ (s2 _ _ eD)
        have eL : HM.armsL s.hung p = (HM.seg p.m p.b s.hung).sum / Nat.gcd (HM.seg p.f p.m s.hung).sum (HM.seg p.m p.b s.hung).sum := rfl
        have eR : HM.armsR s.hung p = (HM.seg p.f p.m s.hung).sum / Nat.gcd (HM.seg p.f p.m s.hung).sum (HM.seg p.m p.b s.hung).sum := rfl
        rw [eL, eR] at nx
        generalize (HM.seg p.f p.m s.hung).sum = x at l1 l2 nx
        generalize (HM.seg p.m p.b s.hung).sum = y at r1 r2 nx
        refine ⟨_, rfl, _, rfl, x, y, rfl, ?_⟩
        have g1 : 0 < Nat.gcd x y := Nat.gcd_pos_of_pos_left y l1
        have g2 : Nat.gcd x y ≤ x := Nat.gcd_le_left y l1
        generalize Nat.gcd x y = g at g1 g2 nx
        have gp : (0 : Int) < (g : Int) := by omega
        have gb : (g : Int).natAbs < 2 ^ 500 := by
          rw [Int.natAbs_natCast]
          exact Nat.lt_of_le_of_lt (Nat.le_trans g2 l2) num7_lt
        refine ⟨_, rfl, .inl ⟨rfl, _, SqL.of e3⟩, _, rfl, _, rfl, _, _, rfl, rfl, wide_div gp gb (by decide) (by decide), _, rfl, _, rfl, _, _, rfl, rfl, wide_div gp gb (by decide) (by decide), (by show 2 ≤ sizeLine; decide), fun q nq => ?_⟩
        have nqD : D ≠ q := fun e => by rw [← e, e3] at nq; cases nq
        refine ⟨D, q, _, _, rfl, rfl, (upd_ne nqD).trans e3, upd_same, ?_, ?_⟩
        · rw [nV_length, sizeLine_eq]
          show _ + 2 ≤ _
          omega
        · refine ⟨same_upd (s13.trans (keep_new nq)) nD, ?_, _, _, _, _, rfl⟩
          rw [upd_same, nx, ← nV_app]
          show some (HO.lst (_ ++ [V.int ((y : Int) / (g : Int)), V.int ((x : Int) / (g : Int))])) = _
          rw [← Int.natCast_ediv, ← Int.natCast_ediv]
          rfl
      · rintro σ H1 ⟨s1, eD, v2, v3, v4, v5, rfl⟩
        rw [List.length_map, hR.1, List.take_length] at eD
        refine ⟨_, rfl, m, CM, dx, _, _, rfl, s1 _ _ hd, T.cl, T.nr, mobF_r lr lw, lr, _, rfl, .inl (SqL.of (s1 _ _ M.rods)), _, rfl, _, D, _, rfl, eD, ?_, fun H2 p s2 np e2 => ?_⟩
        · rw [nV_length, List.length_flatMap]
          have : ps.map (fun a => [HM.armsL s.hung a, HM.armsR s.hung a].length) = List.replicate ps.length 2 := by
            rw [List.eq_replicate_iff]
            refine ⟨by rw [List.length_map], fun b hb => ?_⟩
            obtain ⟨a, _, rfl⟩ := List.mem_map.mp hb
            rfl
          rw [this, List.sum_replicate_nat]
          omega
        · refine k.stay hm hstep (s1.trans s2) (s1.free np) ?_
          rw [e2, ans_one, nV_length, List.length_map, hR.1, hlen]
end
end HMP
namespace HMP
open PySem PySem.Spec PyProof.Rows L2
theorem eqvAll_ints : ∀ ns ms : List Int, PyData.eqvAll (ns.map PyData.int) (ms.map PyData.int) = decide (ns = ms)
  | [], [] => by simp only [List.map_nil, PyData.eqvAll, decide_true]
  | [], _ :: _ => by simp [PyData.eqvAll]
  | _ :: _, [] => by simp [PyData.eqvAll]
  | n :: ns, m :: ms => by
    rw [List.map_cons, List.map_cons, PyData.eqvAll, eqvAll_ints ns ms, Bool.eq_iff_iff, Bool.and_eq_true, decide_eq_true_iff, decide_eq_true_iff, List.cons.injEq]
    simp only [PyData.eqv, beq_iff_eq]
theorem eqv_intsL (ns ms : List Int) : PyData.eqv (.list (ns.map PyData.int)) (.list (ms.map PyData.int)) = decide (ns = ms) := by
  simp only [PyData.eqv]
  exact eqvAll_ints ns ms
theorem canAll_ints : ∀ ns : List Int, PyData.canLayAll0 (ns.map PyData.int) = true
  | [] => by simp only [List.map_nil, PyData.canLayAll0]
  | n :: ns => by simp only [List.map_cons, PyData.canLayAll0, PyData.canLay0, canAll_ints ns, Bool.and_self]
theorem depAll_ints : ∀ ns : List Int, PyData.depthAll (ns.map PyData.int) = 0
  | [] => by simp only [List.map_nil, PyData.depthAll]
  | n :: ns => by simp only [List.map_cons, PyData.depthAll, PyData.depth, depAll_ints ns, Nat.max_self]
theorem shaped_intsL (ns : List Int) : SeqAt.shaped (.list (ns.map PyData.int)) = true := by
  unfold SeqAt.shaped
  simp only [PyData.canLay0, canAll_ints, PyData.depth, depAll_ints]
  rfl
theorem dp_ints {K : PySem.W.Frag} {H : Hp} : ∀ ns : List Int, DpAll K H (ns.map V.int) (ns.map PyData.int)
  | [] => .nil
  | n :: ns => .cons (.int n) (dp_ints ns)
theorem perm_sorted {a b a' b' : List Nat} (ha : a'.Perm a) (hb : b'.Perm b) (sa : a'.Pairwise (· ≤ ·)) (sb : b'.Pairwise (· ≤ ·)) : a' = b' ↔ a.Perm b := by
  constructor
  · intro e
    subst e
    exact ha.symm.trans hb
  · intro p
    exact ((ha.trans p).trans hb.symm).eq_of_pairwise (fun _ _ _ _ h1 h2 => Nat.le_antisymm h1 h2) sa sb
theorem cast_inj {a b : List Nat} (h : a.map (fun (n : Nat) => (n : Int)) = b.map (fun (n : Nat) => (n : Int))) : a = b := by
  have := congrArg (List.map Int.toNat) h
  rw [List.map_map, List.map_map] at this
  have e : (Int.toNat ∘ fun (n : Nat) => (n : Int)) = id := rfl
  rw [e, List.map_id, List.map_id] at this
  exact this
theorem sum_le : ∀ {l : List Nat} {B : Nat}, (∀ x ∈ l, x ≤ B) → l.sum ≤ l.length * B
  | [], _, _ => by simp
  | x :: l, B, h => by
    have := sum_le fun y hy => h y (List.mem_cons_of_mem _ hy)
    have := h x List.mem_cons_self
    rw [List.sum_cons, List.length_cons, Nat.add_mul]
    omega
section
variable {P : Program} {w : World} {K : PySem.W.Frag} {mg : Str → Option Value} {base : Heap} {CM C : Addr}
/-! ### ways -/
def spWays (K : PySem.W.Frag) (CM C : Addr) : Sp := fun vs H Q _ => ∃ (m a : Addr) (s : Sy65.St) (F : List Addr) (i : Nat) (l : List Nat), vs = [.ref m, .int (i : Int), .ref a] ∧ SqL K H a (nV l) ∧ l.length ≤ 60 ∧ MobAt CM C H m s F ∧ Done CM C H m s F (.ways i l) Q
theorem scWays : FnScope ["self", "others", "weights", "way"] ["self", "others", "weights"] (defScope sWays) := ⟨rfl, rfl, rfl, by decide +kernel, rfl, by decide +kernel, by decide +kernel⟩
theorem ok_ways {f fB fR : Addr} {fd fdB fdR : FuncData} (F : Fun K "ways" "Mobile.ways" sWays f fd) (T : MobTxt K CM) (nLen : mg "len" = none) (nSum : mg "sum" = none) (nMin : mg "min" = none) (nMax : mg "max" = none) (nSorted : mg "sorted" = none) {tH : Tok} (gH : mg "HEAVIEST" = some (.int 1000000 tH))
    (mB : Meth K CM "balancing" fB) (bB : Binds K fdB ["self", "times"] []) (GB : FnOk P w K mg base CX0 4 fB fdB ["self", "times"] (spBal CM C))
    (gR : mg "with_row" = some (.ref fR)) (kR : PySem.W.keepIn K (.ref fR) = true) (bR : Binds K fdR ["number", "row"] []) (GR : FnOk P w K mg base CX0 2 fR fdR ["number", "row"] spWithRow) :
    FnOk P w K mg base CX0 5 f fd ["self", "others", "weights"] (spWays K CM C) := by
  refine F.ok scWays (fun vs H Q E h => ?_) (fun cdv A outer s H vs Q E hr h => ⟨_, pss_cons (ps_if (PW.pt (pw_or (pt_cmpR op_ne (pe_callB call_len_seq (by rfl) nLen PySem.boot_len (pa_cons (pv 2) pa_nil)) (pe_callB call_len_seq (by rfl) nLen PySem.boot_len (pa_cons (pe_fld (pv 0) rfl) pa_nil)) (nomark _))
          (pw_or (pt_cmpR op_lt (pe_callB (cr_min rfl) (by rfl) nMin (by decide +kernel) (pa_cons (pv 2) pa_nil)) pe_int (nomark _))
          (pw_or1 (pt_cmpR op_gt (pe_callB (cr_max rfl) (by rfl) nMax (by decide +kernel) (pa_cons (pv 2) pa_nil)) (pe_glob (v := .int 1000000) rfl gH ⟨_, rfl⟩) (nomark _))))))
          (pss_one (ps_ret (pe_lst (pa_cons (pe_un un_neg pe_int) pa_nil)))) pss_nil)
      (pss_cons (ps_set (i := 3) scWays.nd rfl (Or.inl rfl) (pe_meth (pv 0) T.cl mB GB hr bB .nil pass0 (by exact (pa_cons (pe_op op_fdivW (pe_callB (cr_sum rfl) (by rfl) nSum (by decide +kernel) (pa_cons (pv 2) pa_nil))
          (pe_callB (cr_sum rfl) (by rfl) nSum (by decide +kernel) (pa_cons (pe_meth (pv 0) T.cl mB GB hr bB .nil pass0 (by exact (pa_cons pe_int pa_nil))) pa_nil))) pa_nil))))
      (pss_cons (ps_if (pt_cmpR (op_neD hr.units) (pe_callB cr_sorted (by rfl) nSorted (by decide +kernel) (pa_cons (pv 3) pa_nil)) (pe_callB cr_sorted (by rfl) nSorted (by decide +kernel) (pa_cons (pv 2) pa_nil)) (nomark _))
          (pss_one (ps_ret (pe_call GR (hr.mono (by decide)) rfl gR kR bR .nil pass0 (pa_cons pe_int (pa_cons (pe_lst pa_nil) pa_nil))))) pss_nil)
      (pss_one (ps_ret (pe_call GR (hr.mono (by decide)) rfl gR kR bR .nil pass0 (pa_cons pe_int (pa_cons (pe_ifExp (pt_cmpR op_eq (pv 1) pe_int (nomark _)) (pv 3) (pe_lst pa_nil)) pa_nil))))))), ?_⟩)
  · obtain ⟨m, a, s, F, i, l, rfl, _⟩ := h
    rfl
  · obtain ⟨m, a, s, F, i, l, rfl, hA, h60, hm, k⟩ := h
    obtain ⟨lr, lw, as, rfl, M⟩ := id hm
    obtain ⟨dx, hd⟩ := M.ins
    obtain ⟨q1, q2, q3, q4, q5, q6⟩ := M.facts
    have hstep : Sy65.step s (.ways i l) = (s, if l.length ≠ s.hung.length ∨ l.any (fun (w : Nat) => decide (w < 1) || decide (Sy65.MOST < w)) = true then Sy65.ok (-1) else
      match (Sy65.ways s l)[i]? with
      | none => ⟨((Sy65.ways s l).length : Nat), [[]]⟩
      | some r => ⟨((Sy65.ways s l).length : Nat), [Sy65.ints r]⟩) := rfl
    have hA' : SqL K H a ((l.map fun (n : Nat) => (n : Int)).map V.int) := by rw [← nV_ints]; exact hA
    have no : (l.length ≠ s.hung.length ∨ l.any (fun (w : Nat) => decide (w < 1) || decide (Sy65.MOST < w)) = true) → ∀ p, H p = none → Q (.ref p) (upd H p (.lst [.int (-1)])) := fun h p np => by
      rw [if_pos h] at hstep
      exact k.no hm hstep np
    refine ⟨_, rfl, a, _, rfl, .inl hA, _, rfl, m, CM, dx, _, _, rfl, hd, T.cl, T.nw, mobF_w lr lw, lw, _, rfl, .inl (SqL.of M.ws), rfl, _, rfl, ite2 (fun c => ?_) (fun c => ?_)⟩
    · have c1 : ¬ l.length = s.hung.length := fun z => by
        rw [nV_length, nV_length, z, decide_eq_true rfl] at c
        cases c
      exact iteT ⟨_, rfl, (by decide), no (.inl c1)⟩
    have c1 : l.length = s.hung.length := by
      by_cases z : l.length = s.hung.length
      · exact z
      · exact absurd (by rw [nV_length, nV_length, decide_eq_false (fun y => z (by have := V.int.inj y; omega))]; rfl) c
    have hpos : 0 < l.length := by
      have := HM.hooks_pos s.tree
      omega
    refine ⟨_, rfl, a, _, rfl, hA', by rw [List.length_map]; exact hpos, fun z hz hle => ?_⟩
    obtain ⟨g, hg, rfl⟩ := List.mem_map.mp hz
    refine ⟨_, _, rfl, rfl, _, rfl, ite2 (fun c => ?_) (fun c => ?_)⟩
    · have c2 : (g : Int) < 1 := of_decide_eq_true c
      refine iteT ⟨_, rfl, (by decide), no (.inr ?_)⟩
      rw [List.any_eq_true]
      exact ⟨g, hg, by rw [decide_eq_true (by omega)]; rfl⟩
    have c2 : ¬ (g : Int) < 1 := fun z => c (decide_eq_true z)
    refine ⟨_, rfl, a, _, rfl, hA', by rw [List.length_map]; exact hpos, fun z hz hge => ?_⟩
    obtain ⟨G, hG, rfl⟩ := List.mem_map.mp hz
    refine ⟨_, _, rfl, rfl, _, rfl, ite2 (fun c => ?_) (fun c => ?_)⟩
    · have c3 : (1000000 : Int) < (G : Int) := of_decide_eq_true c
      refine ⟨_, rfl, (by decide), no (.inr ?_)⟩
      rw [List.any_eq_true]
      exact ⟨G, hG, by rw [decide_eq_true (p := Sy65.MOST < G) (by unfold Sy65.MOST; omega)]; simp⟩
    have c3 : ¬ (1000000 : Int) < (G : Int) := fun z => c (decide_eq_true z)
    have low : ∀ x ∈ l, 1 ≤ x := fun x hx => by
      have := hle _ (List.mem_map.mpr ⟨x, hx, rfl⟩)
      omega
    have high : ∀ x ∈ l, x ≤ 1000000 := fun x hx => by
      have := hge _ (List.mem_map.mpr ⟨x, hx, rfl⟩)
      omega
    have nany : ¬ (l.length ≠ s.hung.length ∨ l.any (fun (w : Nat) => decide (w < 1) || decide (Sy65.MOST < w)) = true) := by
      rintro (z | z)
      · exact z c1
      · rw [List.any_eq_true] at z
        obtain ⟨x, hx, z⟩ := z
        have a1 := low x hx
        have a2 := high x hx
        rw [decide_eq_false (by omega), decide_eq_false (by unfold Sy65.MOST; omega)] at z
        cases z
    rw [if_neg nany] at hstep
    have hsl := sum_le high
    have hml : l.length * 1000000 ≤ 60 * 1000000 := Nat.mul_le_mul_right _ h60
    have hLp := (HM.least_pos s.tree M.good).2
    have hLb := HM.least_bound M.good M.few
    have hway := HM.ways_is s l M.good (by rw [c1]; exact M.len)
    have ew : HM.theWay s.tree l = Sy65.times (l.sum / (Sy65.least s.tree).sum) (Sy65.least s.tree) := rfl
    have hdl := Nat.div_le_self l.sum (Sy65.least s.tree).sum
    -- way = self.balancing(..)
    refine ⟨_, rfl, m, dx, _, rfl, hd, mobF_no lr lw (by decide +kernel) (by decide +kernel), _, rfl, a, _, rfl, hA', _, rfl, m, dx, _, rfl, hd, mobF_no lr lw (by decide +kernel) (by decide +kernel), m, s, _, 1, rfl, by decide, hm, fun H1 q s1 nq e1 => ?_⟩
    rw [times_one] at e1
    have gp : (0 : Int) < (((Sy65.least s.tree).sum : Nat) : Int) := by omega
    have gb : ((((Sy65.least s.tree).sum : Nat) : Int)).natAbs < 2 ^ 500 := by
      rw [Int.natAbs_natCast]
      exact Nat.lt_of_le_of_lt hLb num_lt
    refine ⟨q, (Sy65.least s.tree).map (fun (n : Nat) => (n : Int)), rfl, SqL.of (by rw [← nV_ints]; exact e1), _, _, rfl, rfl, ?_, ?_⟩
    · rw [sum_int, sum_int]
      exact wide_div gp gb (by decide) (by decide)
    rw [sum_int, sum_int]
    refine ⟨m, s, _, l.sum / (Sy65.least s.tree).sum, rfl, by omega, ⟨lr, lw, as, rfl, M.same s1⟩, fun H2 D s2 nD eD => ?_⟩
    rw [← ew] at eD
    have hwl : (HM.theWay s.tree l).length = l.length := by rw [ew, HM.times_length, c1, q5]
    generalize HM.theWay s.tree l = W at eD hway hwl
    have s12 := s1.trans s2
    refine ⟨_, rfl, D, W.map (fun (n : Nat) => (n : Int)), rfl, SqL.of (by rw [← nV_ints]; exact eD), by rw [List.length_map]; omega, fun ns p hp hs np => ?_⟩
    obtain ⟨x, rfl, px⟩ := nat_perm hp
    have sp : Same H2 (upd H2 p (.lst ((x.map fun (n : Nat) => (n : Int)).map V.int))) := keep_new np
    refine ⟨_, rfl, a, _, rfl, (s12.trans sp).seq hA', by rw [List.length_map]; omega, fun ns r hr2 hs2 nr => ?_⟩
    obtain ⟨y, rfl, py⟩ := nat_perm hr2
    have sr := (s12.trans sp).trans (keep_new (o := .lst ((y.map fun (n : Nat) => (n : Int)).map V.int)) nr)
    rw [List.pairwise_map] at hs hs2
    have sx : x.Pairwise (· ≤ ·) := hs.imp fun h => by omega
    have sy : y.Pairwise (· ≤ ·) := hs2.imp fun h => by omega
    have key := perm_sorted px py sx sy
    have hpr : p ≠ r := fun e => by rw [← e, upd_same] at nr; cases nr
    have eD3 : (upd (upd H2 p (.lst ((x.map fun (n : Nat) => (n : Int)).map V.int))) r (.lst ((y.map fun (n : Nat) => (n : Int)).map V.int))) D = some (.lst (nV W)) := (keep_new nr) _ _ (sp _ _ eD)
    refine ⟨_, _, .lst (SqL.of ((upd_ne hpr).trans upd_same)) (dp_ints _), .lst (SqL.of upd_same) (dp_ints _), shaped_intsL _, shaped_intsL _, _, rfl, ?_⟩
    rw [eqv_intsL]
    revert sr eD3
    generalize upd (upd H2 p (.lst ((x.map fun (n : Nat) => (n : Int)).map V.int))) r (.lst ((y.map fun (n : Nat) => (n : Int)).map V.int)) = H3
    intro sr eD3
    by_cases b : x = y
    · -- the one way
      have b' := hway.1 (key.mp b)
      rw [b'] at hstep
      subst b
      rw [decide_eq_true (p := (x.map fun (n : Nat) => (n : Int)) = (x.map fun (n : Nat) => (n : Int))) rfl]
      refine iteF ?_
      refine ⟨_, rfl, rfl, _, rfl, ite2 (fun d => ?_) (fun d => ?_)⟩
      · have d1 := V.int.inj (of_decide_eq_true d)
        have i0 : i = 0 := by omega
        subst i0
        refine ⟨_, rfl, _, D, _, rfl, eD3, by rw [nV_length]; omega, fun H4 u s4 nu e4 => ?_⟩
        refine k.stay hm hstep (sr.trans s4) (sr.free nu) ?_
        rw [e4]
        show _ = some (HO.lst (ansV ⟨1, [Sy65.ints W]⟩))
        rw [ans_one, nV_length]
      · have d1 : ¬ i = 0 := fun z => d (decide_eq_true (by rw [z]; rfl))
        obtain ⟨j, rfl⟩ : ∃ j, i = j + 1 := ⟨i - 1, by omega⟩
        refine ⟨by decide, fun o no2 => ⟨_, o, _, rfl, upd_same, by decide, fun H4 u s4 nu e4 => ?_⟩⟩
        have so := sr.trans (keep_new (o := .lst []) no2)
        exact k.stay hm hstep (so.trans s4) (so.free nu) e4
    · have b' := hway.2 fun z => b (key.mpr z)
      rw [b'] at hstep
      rw [decide_eq_false (fun z => b (cast_inj z))]
      refine iteT ⟨by decide, fun o no2 => ⟨_, o, _, rfl, upd_same, by decide, fun H4 u s4 nu e4 => ?_⟩⟩
      have so := sr.trans (keep_new (o := .lst []) no2)
      exact k.stay hm hstep (so.trans s4) (so.free nu) e4
end
end HMP
namespace HMP
open PySem PySem.Spec PyProof.Rows L2
section
variable {P : Program} {w : World} {K : PySem.W.Frag} {mg : Str → Option Value} {base : Heap} {CM C : Addr}
/-! ### missing -/
def spMissing (CM C : Addr) : Sp := fun vs H Q _ => ∃ (m : Addr) (s : Sy65.St) (F : List Addr) (h : Nat), vs = [.ref m, .int (h : Int)] ∧ MobAt CM C H m s F ∧ Done CM C H m s F (.missing h) Q
theorem scMissing : FnScope ["self", "hook", "least", "rest", "times"] ["self", "hook"] (defScope sMissing) := ⟨rfl, rfl, rfl, by decide +kernel, rfl, by decide +kernel, by decide +kernel⟩
theorem ok_missing {f fB fA : Addr} {fd fdB fdA : FuncData} (F : Fun K "missing" "Mobile.missing" sMissing f fd) (T : MobTxt K CM) (nLen : mg "len" = none) (nList : mg "list" = none)
    (mB : Meth K CM "balancing" fB) (bB : Binds K fdB ["self", "times"] []) (GB : FnOk P w K mg base CX0 4 fB fdB ["self", "times"] (spBal CM C))
    (gA : mg "times_of_all" = some (.ref fA)) (kA : PySem.W.keepIn K (.ref fA) = true) (bA : Binds K fdA ["weights", "least"] []) (GA : FnOk P w K mg base CX0 2 fA fdA ["weights", "least"] (spAll K)) :
    FnOk P w K mg base CX0 5 f fd ["self", "hook"] (spMissing CM C) := by
  refine F.ok scMissing (fun vs H Q E h => ?_) (fun cdv A outer s H vs Q E hr h => ⟨_, pss_cons (ps_if (pt_cmpR op_ge (pv 1) (pe_callB call_len_seq (by rfl) nLen PySem.boot_len (pa_cons (pe_fld (pv 0) rfl) pa_nil)) (nomark _)) (pss_one (ps_ret (pe_lst (pa_cons (pe_un un_neg pe_int) pa_nil)))) pss_nil)
      (pss_cons (ps_set (i := 2) scMissing.nd rfl (Or.inl rfl) (pe_meth (pv 0) T.cl mB GB hr bB .nil pass0 (pa_cons pe_int pa_nil)))
      (pss_cons (ps_set (i := 3) scMissing.nd rfl (Or.inl rfl) (pe_callTy call_list_of (by rfl) nList (by decide +kernel) (pa_cons (pe_fld (pv 0) rfl) pa_nil)))
      (pss_cons (ps_asg pe_int (pg_sub (pv 3) (pv 1) set_list))
      (pss_cons (ps_set (i := 4) scMissing.nd rfl (Or.inl rfl) (pe_call GA (hr.mono (by decide)) rfl gA kA bA .nil pass0 (pa_cons (pv 3) (pa_cons (pv 2) pa_nil))))
      (pss_cons (ps_if (pt_cmpR op_eq (pv 4) pe_int (nomark _)) (pss_one (ps_ret (pe_lst (pa_cons (pe_un un_neg pe_int) pa_nil)))) pss_nil)
      (pss_cons (ps_if (pt_cmpR op_gt (pe_bm PySem.F.plainAttrs_list PySem.F.slot_list_count PySem.F.type_list_count mt_lcount (pv 3) (pa_cons pe_int pa_nil)) pe_int (nomark _)) (pss_one (ps_ret (pe_lst (pa_cons (pe_un un_neg pe_int) pa_nil)))) pss_nil)
      (pss_one (ps_ret (pe_lst (pa_cons (pe_op op_mul (pv 4) (pe_ix ix_list (pv 2) (pv 1) (fun _ _ => rfl))) pa_nil)))))))))), ?_⟩)
  · obtain ⟨m, s, F, h, rfl, _⟩ := h
    rfl
  · obtain ⟨m, s, F, h, rfl, hm, k⟩ := h
    obtain ⟨lr, lw, as, rfl, M⟩ := id hm
    obtain ⟨dx, hd⟩ := M.ins
    obtain ⟨q1, q2, q3, q4, q5, q6⟩ := M.facts
    have hstep : Sy65.step s (.missing h) = (s, match s.hung[h]? with
      | none => Sy65.ok (-2)
      | some _ => match Sy65.madeUp { s with hung := s.hung.set h 0 } with
        | none => Sy65.ok (-6)
        | some n => if (s.hung.zipIdx.any fun (x : Nat × Nat) => x.2 != h && x.1 == 0) = true then Sy65.ok (-4) else Sy65.ok (n * (Sy65.least s.tree).getD h 0 : Nat)) := rfl
    refine ⟨_, rfl, _, rfl, m, CM, dx, _, _, rfl, hd, T.cl, T.nw, mobF_w lr lw, lw, _, rfl, .inl (SqL.of M.ws), _, _, rfl, rfl, _, rfl, ite2 (fun c => ?_) (fun c => ?_)⟩
    · have c1 : ((nV s.hung).length : Int) ≤ (h : Int) := of_decide_eq_true c
      rw [nV_length] at c1
      rw [List.getElem?_eq_none (by omega)] at hstep
      exact ⟨_, rfl, (by decide), fun p np => k.no hm hstep np⟩
    · have c1 : ¬ ((nV s.hung).length : Int) ≤ (h : Int) := fun q => c (decide_eq_true q)
      rw [nV_length] at c1
      have hlt : h < s.hung.length := by omega
      have hmu := HM.madeUp_is { s with hung := s.hung.set h 0 } q1
      dsimp only at hmu
      rw [List.getElem?_eq_getElem hlt, hmu, HM.other_is s.hung hlt] at hstep
      have hw0 : ∀ x ∈ s.hung.set h 0, x ≤ 1000000 := fun y hy => by
        rcases List.mem_or_eq_of_mem_set hy with q | q
        · exact M.low y q
        · omega
      have hle := HM.timesAll_le (HM.thung_le (L := Sy65.least s.tree) hw0)
      have hlL : h < (Sy65.least s.tree).length := by omega
      have hgl : (Sy65.least s.tree)[h]? = some ((Sy65.least s.tree).getD h 0) := by
        rw [List.getD_eq_getElem?_getD, List.getElem?_eq_getElem hlL]
        rfl
      have hgle := q2 _ (List.mem_of_getElem? hgl)
      have hw0l : (s.hung.set h 0).length = s.hung.length := List.length_set
      generalize hw0e : s.hung.set h 0 = w0 at hstep hw0 hle hw0l
      -- least = self.balancing(1)
      refine ⟨_, rfl, m, dx, _, rfl, hd, mobF_no lr lw (by decide +kernel) (by decide +kernel), m, s, _, 1, rfl, by decide, hm, fun H1 q s1 nq e1 => ?_⟩
      rw [times_one] at e1
      -- rest = list(self.weights)
      refine ⟨_, rfl, m, CM, dx, _, _, rfl, s1 _ _ hd, T.cl, T.nw, mobF_w lr lw, lw, _, rfl, .inl (SqL.of (s1 _ _ M.ws)), fun r nr => ?_⟩
      have s2 := s1.trans (keep_new (o := .lst (nV s.hung)) nr)
      have nr' : H r = none := s1.free nr
      have qr : q ≠ r := fun e => by rw [← e, e1] at nr; cases nr
      -- rest[hook] = 0
      refine ⟨_, rfl, _, rfl, r, _, _, h, rfl, rfl, upd_same, ?_, ?_⟩
      · rw [nV_length]
        exact ix_same hlt
      rw [show V.int 0 = V.int ((0 : Nat) : Int) from rfl, nV_set, hw0e]
      have s3 : Same H (upd (upd H1 r (.lst (nV s.hung))) r (.lst (nV w0))) := same_upd s2 nr'
      have er : (upd (upd H1 r (.lst (nV s.hung))) r (.lst (nV w0))) r = some (.lst (nV w0)) := upd_same
      have eq3 : (upd (upd H1 r (.lst (nV s.hung))) r (.lst (nV w0))) q = some (.lst (nV (Sy65.least s.tree))) := (upd_ne qr).trans ((upd_ne qr).trans e1)
      revert s3 er eq3
      generalize upd (upd H1 r (.lst (nV s.hung))) r (.lst (nV w0)) = H3
      intro s3 er eq3
      -- times = times_of_all(rest, least)
      refine ⟨_, rfl, _, rfl, r, q, w0, Sy65.least s.tree, rfl, SqL.of er, SqL.of eq3, by omega, by omega, q1, q3, fun H4 s4 => ?_⟩
      generalize HM.timesAll (HM.thung (w0.zip (Sy65.least s.tree))) = n at hstep hle
      have s34 := s3.trans s4
      refine ⟨_, rfl, rfl, _, rfl, ite2 (fun c => ?_) (fun c => ?_)⟩
      · have c2 := V.int.inj (of_decide_eq_true c)
        rw [if_pos (by omega)] at hstep
        exact ⟨_, rfl, (by decide), fun p np => k.stay hm hstep (s34.trans (keep_new np)) (s34.free np) upd_same⟩
      · have c2 : ¬ n = 0 := fun z => c (decide_eq_true (by rw [z]))
        rw [if_neg c2] at hstep
        dsimp only at hstep
        refine ⟨_, rfl, .inl ⟨rfl, _, SqL.of (s4 _ _ er)⟩, r, w0.map (fun (n : Nat) => (n : Int)), _, rfl, rfl, SqL.of (by rw [← nV_ints]; exact s4 _ _ er), ?_⟩
        have hc0 := count_int w0 0
        refine ⟨_, _, rfl, rfl, _, rfl, ?_⟩
        rw [hc0]
        refine ite2 (fun d => ?_) (fun d => ?_)
        · have d1 : (1 : Int) < ((w0.count 0 : Nat) : Int) := of_decide_eq_true d
          rw [if_pos (decide_eq_true (by omega))] at hstep
          exact ⟨_, rfl, (by decide), fun p np => k.stay hm hstep (s34.trans (keep_new np)) (s34.free np) upd_same⟩
        · have d1 : ¬ (1 : Int) < ((w0.count 0 : Nat) : Int) := fun z => d (decide_eq_true z)
          rw [if_neg (by rw [decide_eq_true_iff]; omega)] at hstep
          refine ⟨_, rfl, _, rfl, _, rfl, q, _, _, _, rfl, rfl, SqL.of (s4 _ _ eq3), get_nV rfl hgl, ?_⟩
          refine ⟨_, _, rfl, rfl, .inl ⟨by omega, by omega⟩, (by show 1 ≤ sizeLine; decide), fun p np => k.stay hm hstep (s34.trans (keep_new np)) (s34.free np) ?_⟩
          rw [upd_same, ans_ok, Int.natCast_mul]
end
end HMP
namespace HMP
open PySem PySem.Spec PyProof.Rows L2
theorem ans_two (v : Int) (a b : List Nat) : ansV ⟨v, [Sy65.ints a, Sy65.ints b]⟩ = (.int v :: .int ((a.length : Nat) : Int) :: nV a) ++ (.int ((b.length : Nat) : Int) :: nV b) := by
  show (v :: ([Sy65.ints a, Sy65.ints b].flatMap fun (w : List Int) => (w.length : Int) :: w)).map V.int = _
  rw [List.flatMap_cons, List.flatMap_cons, List.flatMap_nil, List.append_nil, List.map_cons, List.map_append, List.map_cons, List.map_cons, HM.ints_len, HM.ints_len, nV_ints, nV_ints]
  rfl
section
variable {P : Program} {w : World} {K : PySem.W.Frag} {mg : Str → Option Value} {base : Heap} {CM C : Addr}
/-! ### shape_told -/
def spShape (K : PySem.W.Frag) (C : Addr) : Sp := fun vs H Q _ => ∃ (rl : Addr) (as : List Addr) (t : Sy65.Tree), vs = [.ref rl, .int ((Sy65.hooks t : Nat) : Int)] ∧ SqL K H rl (as.map V.ref) ∧ RodsAt C H as (HM.rodsOf 0 t) ∧ Sy65.hooks t ≤ 7 ∧
  ∀ (H' : Hp) (p : Addr), Same H H' → H p = none → H' p = some (.lst (nV (Sy65.numbers t))) → Q (.ref p) H'
theorem scShape : FnScope ["rods", "hooks", "shape", "told", "rod"] ["rods", "hooks"] (defScope sShape) := ⟨rfl, rfl, rfl, by decide +kernel, rfl, by decide +kernel, by decide +kernel⟩
theorem ok_shape {f : Addr} {fd : FuncData} (F : Fun K "shape_told" "shape_told" sShape f fd) (T : RodTxt K C) : FnOk P w K mg base CX0 1 f fd ["rods", "hooks"] (spShape K C) := by
  refine F.ok scShape (fun vs H Q E h => ?_) (fun cdv A outer s H vs Q E hr h => ⟨_, pss_cons (ps_set (i := 2) scShape.nd rfl (Or.inl rfl) (pe_lst pa_nil))
      (pss_cons (ps_set (i := 3) scShape.nd rfl (Or.inl rfl) pe_int)
      (pss_cons (ps_for PassesOwn.never rfl (pi_list (pv 0)) (pg_name (i := 4) scShape.nd rfl (Or.inl rfl))
        (pss_cons (ps_expr (pe_bm PySem.F.plainAttrs_list PySem.F.slot_list_extend PySem.F.type_list_extend mt_extend (pv 2) (pa_cons (pe_op op_rep (pe_lst (pa_cons pe_int pa_nil)) (pe_op op_sub (pe_fld (pv 4) rfl) (pv 3))) pa_nil)))
        (pss_cons (ps_set (i := 3) scShape.nd rfl (Or.inl rfl) (pe_fld (pv 4) rfl))
        (pss_one (ps_expr (pe_bm PySem.F.plainAttrs_list PySem.F.slot_list_extend PySem.F.type_list_extend mt_extend (pv 2) (pa_cons (pe_lst (pa_cons (pe_fld (pv 4) rfl) (pa_cons (pe_fld (pv 4) rfl) pa_nil))) pa_nil)))))))
      (pss_one (ps_ret (pe_op op_cat (pv 2) (pe_op op_rep (pe_lst (pa_cons pe_int pa_nil)) (pe_op op_sub (pv 1) (pv 3)))))))), ?_⟩)
  · obtain ⟨rl, as, t, rfl, _⟩ := h
    rfl
  · obtain ⟨rl, as, t, rfl, hS, hR, h7, k⟩ := h
    have hin := HM.rodsOf_within t 0
    have hshape := HM.shape_is t
    have hlen := HM.rodsOf_length t 0
    have hrods := HM.hooks_rods t
    have hlast := (HM.shape_rods t 0 [] 0 (Nat.le_refl _)).2.1
    rw [Nat.zero_add] at hlast
    generalize HM.rodsOf 0 t = ps at hR hin hshape hlen hlast
    have hf7 : ∀ p ∈ ps, p.f ≤ 7 := fun p hp => by
      obtain ⟨a1, a2, a3, a4⟩ := hin p hp
      omega
    have short : ∀ i, ((ps.take i).foldl HM.shapeStep ([], 0)).1.length ≤ 54 := fun i => by
      have := HM.shape_len (ps.take i) ([], 0) fun p hp => hf7 p (List.mem_of_mem_take hp)
      have : (ps.take i).length ≤ 6 := by
        rw [List.length_take]
        omega
      simp only [List.length_nil] at *
      omega
    refine ⟨by decide, fun D nD => ?_⟩
    refine ⟨_, rfl, rl, rfl, ⟨_, (keep_new nD).seq hS⟩, for_list (K := K) (a := rl) (xs := as.map V.ref) (fun i σ H' => Same H H' ∧ H' D = some (.lst (nV ((ps.take i).foldl HM.shapeStep ([], 0)).1)) ∧ ∃ v4 : Option V, σ = [some (.ref rl), some (.int ((Sy65.hooks t : Nat) : Int)), some (.ref D), some (.int ((((ps.take i).foldl HM.shapeStep ([], 0)).2 : Nat) : Int)), v4] ∧ ((ps.take i).foldl HM.shapeStep ([], 0)).2 ≤ 7)
      ⟨keep_new nD, upd_same, none, rfl, Nat.zero_le 7⟩ (fun i σ H' _ ⟨s1, _⟩ => s1.seq hS) ?_ ?_⟩
    · rintro i x σ H1 hx ⟨s1, eD, v4, rfl, ht7⟩
      rw [List.getElem?_map] at hx
      obtain ⟨ra, hra, rfl⟩ : ∃ ra, as[i]? = some ra ∧ x = V.ref ra := by
        cases e : as[i]? with
        | none => rw [e] at hx; cases hx
        | some ra =>
          rw [e] at hx
          exact ⟨ra, rfl, (Option.some.inj hx).symm⟩
      have hi : i < ps.length := by rw [← hR.1]; exact (List.getElem?_eq_some_iff.mp hra).1
      have hp : ps[i]? = some ps[i] := List.getElem?_eq_getElem hi
      generalize ps[i] = p at hp
      obtain ⟨dr, er⟩ := hR.2 i ra p hra hp
      have hp7 := hf7 p (List.mem_of_getElem? hp)
      have nx : (ps.take (i + 1)).foldl HM.shapeStep ([], 0) = HM.shapeStep ((ps.take i).foldl HM.shapeStep ([], 0)) p := by
        rw [List.take_add_one, hp]
        show (ps.take i ++ [p]).foldl _ _ = _
        rw [List.foldl_append]
        rfl
      have hsh := short i
      rw [nx]
      generalize (ps.take i).foldl HM.shapeStep ([], 0) = st at eD ht7 hsh
      obtain ⟨sh, d⟩ := st
      dsimp only at eD ht7 hsh
      -- shape.extend([0] * (rod.first - told))
      refine ⟨_, rfl, .inl ⟨rfl, _, SqL.of eD⟩, (by show 1 ≤ sizeLine; decide), fun l nl => ?_⟩
      have s2 := s1.trans (keep_new (o := .lst [V.int 0]) nl)
      refine ⟨_, rfl, ra, C, dr, _, _, rfl, s2 _ _ er, T.cl, T.nf, rodF_f p, _, rfl, _, _, rfl, rfl, ?_⟩
      refine ⟨l, _, _, rfl, rfl, upd_same, by omega, by omega, ?_, fun z nz => ?_⟩
      · show 1 * ((p.f : Int) - (d : Int)).toNat ≤ sizeLine
        rw [sizeLine_eq]
        omega
      have ez : ((p.f : Int) - (d : Int)).toNat = p.f - d := by omega
      rw [ez, rep_flat0]
      have s3 := s2.trans (keep_new (o := .lst (nV (List.replicate (p.f - d) 0))) nz)
      have nlD : D ≠ l := fun e => by rw [← e, eD] at nl; cases nl
      have nzD : D ≠ z := fun e => by rw [← e, upd_ne nlD, eD] at nz; cases nz
      refine ⟨D, z, _, _, rfl, rfl, (upd_ne nzD).trans ((upd_ne nlD).trans eD), upd_same, ?_, ?_⟩
      · rw [nV_length, nV_length, List.length_replicate, sizeLine_eq]
        omega
      rw [nV_app]
      have s4 := same_upd (o := .lst (nV (sh ++ List.replicate (p.f - d) 0))) s3 nD
      have eD4 : (upd (upd (upd H1 l (.lst [V.int 0])) z (.lst (nV (List.replicate (p.f - d) 0)))) D (.lst (nV (sh ++ List.replicate (p.f - d) 0)))) D = some (.lst (nV (sh ++ List.replicate (p.f - d) 0))) := upd_same
      revert s4 eD4
      generalize (upd (upd (upd H1 l (.lst [V.int 0])) z (.lst (nV (List.replicate (p.f - d) 0)))) D (.lst (nV (sh ++ List.replicate (p.f - d) 0)))) = H4
      intro s4 eD4
      -- told = rod.first
      refine ⟨_, rfl, ra, C, dr, _, _, rfl, s4 _ _ er, T.cl, T.nf, rodF_f p, ?_⟩
      -- shape.extend([rod.left, rod.right])
      refine ⟨_, rfl, .inl ⟨rfl, _, SqL.of eD4⟩, _, rfl, ra, C, dr, _, _, rfl, s4 _ _ er, T.cl, T.nl, rodF_l p, _, rfl, ra, C, dr, _, _, rfl, s4 _ _ er, T.cl, T.nr, rodF_r p, (by show 2 ≤ sizeLine; decide), fun y ny => ?_⟩
      have nyD : D ≠ y := fun e => by rw [← e, eD4] at ny; cases ny
      refine ⟨D, y, _, _, rfl, rfl, (upd_ne nyD).trans eD4, upd_same, ?_, ?_⟩
      · rw [nV_length, List.length_append, List.length_replicate, sizeLine_eq]
        show _ + 2 ≤ _
        omega
      · refine ⟨same_upd (s4.trans (keep_new ny)) nD, ?_, some (.ref ra), rfl, hp7⟩
        rw [upd_same]
        show some (HO.lst (_ ++ nV [p.l, p.r])) = _
        rw [nV_app]
        rfl
    · rintro σ H1 ⟨s1, eD, v4, rfl, ht7⟩
      rw [List.length_map, hR.1, List.take_length] at eD ht7 ⊢
      have hsh := short ps.length
      rw [List.take_length] at hsh
      generalize ps.foldl HM.shapeStep ([], 0) = st at eD ht7 hsh hshape hlast
      obtain ⟨sh, d⟩ := st
      dsimp only at eD ht7 hsh hshape hlast
      refine ⟨_, rfl, (by show 1 ≤ sizeLine; decide), fun l nl => ?_⟩
      have s2 := s1.trans (keep_new (o := .lst [V.int 0]) nl)
      refine ⟨_, rfl, _, rfl, _, _, rfl, rfl, ?_⟩
      refine ⟨l, _, _, rfl, rfl, upd_same, by omega, by omega, ?_, fun z nz => ?_⟩
      · show 1 * (((Sy65.hooks t : Nat) : Int) - (d : Int)).toNat ≤ sizeLine
        rw [sizeLine_eq]
        omega
      have ez : (((Sy65.hooks t : Nat) : Int) - (d : Int)).toNat = Sy65.hooks t - d := by omega
      rw [ez, rep_flat0]
      have s3 := s2.trans (keep_new (o := .lst (nV (List.replicate (Sy65.hooks t - d) 0))) nz)
      have nlD : D ≠ l := fun e => by rw [← e, eD] at nl; cases nl
      have nzD : D ≠ z := fun e => by rw [← e, upd_ne nlD, eD] at nz; cases nz
      refine ⟨D, z, _, _, rfl, rfl, (upd_ne nzD).trans ((upd_ne nlD).trans eD), upd_same, ?_, fun q nq => ?_⟩
      · rw [nV_length, nV_length, List.length_replicate, sizeLine_eq]
        omega
      rw [nV_app, hshape]
      exact k _ q (s3.trans (keep_new nq)) (s3.free nq) upd_same
/-! ### state -/
def spState (CM C : Addr) : Sp := fun vs H Q _ => ∃ (m : Addr) (s : Sy65.St) (F : List Addr), vs = [.ref m] ∧ MobAt CM C H m s F ∧ Done CM C H m s F .state Q
theorem scState : FnScope ["self", "shape"] ["self"] (defScope sState) := ⟨rfl, rfl, rfl, by decide +kernel, rfl, by decide +kernel, by decide +kernel⟩
theorem ok_state {f fS fA fR : Addr} {fd fdS fdA fdR : FuncData} (F : Fun K "state" "Mobile.state" sState f fd) (T : MobTxt K CM) (nLen : mg "len" = none)
    (gS : mg "shape_told" = some (.ref fS)) (kS : PySem.W.keepIn K (.ref fS) = true) (bS : Binds K fdS ["rods", "hooks"] []) (GS : FnOk P w K mg base CX0 1 fS fdS ["rods", "hooks"] (spShape K C))
    (gA : mg "as_row" = some (.ref fA)) (kA : PySem.W.keepIn K (.ref fA) = true) (bA : Binds K fdA ["row"] []) (GA : FnOk P w K mg base CX0 1 fA fdA ["row"] spAsRow)
    (gR : mg "with_row" = some (.ref fR)) (kR : PySem.W.keepIn K (.ref fR) = true) (bR : Binds K fdR ["number", "row"] []) (GR : FnOk P w K mg base CX0 2 fR fdR ["number", "row"] spWithRow) :
    FnOk P w K mg base CX0 3 f fd ["self"] (spState CM C) := by
  refine F.ok scState (fun vs H Q E h => ?_) (fun cdv A outer s H vs Q E hr h => ⟨_, pss_cons (ps_set (i := 1) scState.nd rfl (Or.inl rfl)
        (pe_call GS (hr.mono (by decide)) rfl gS kS bS .nil pass0 (pa_cons (pe_fld (pv 0) rfl) (pa_cons (pe_callB call_len_seq (by rfl) nLen PySem.boot_len (pa_cons (pe_fld (pv 0) rfl) pa_nil)) pa_nil))))
      (pss_one (ps_ret (pe_op op_cat (pe_call GR hr rfl gR kR bR .nil pass0 (pa_cons (pe_callB call_len_seq (by rfl) nLen PySem.boot_len (pa_cons (pe_fld (pv 0) rfl) pa_nil)) (pa_cons (pv 1) pa_nil)))
        (pe_call GA (hr.mono (by decide)) rfl gA kA bA .nil pass0 (pa_cons (pe_fld (pv 0) rfl) pa_nil))))), ?_⟩)
  · obtain ⟨m, s, F, rfl, _⟩ := h
    rfl
  · obtain ⟨m, s, F, rfl, hm, k⟩ := h
    obtain ⟨lr, lw, as, rfl, M⟩ := id hm
    obtain ⟨dx, hd⟩ := M.ins
    have hstep : Sy65.step s .state = (s, ⟨(Sy65.rods s.tree : Nat), [Sy65.ints (Sy65.numbers s.tree), Sy65.ints s.hung]⟩) := rfl
    have hnl := HM.numbers_length s.tree
    have hrods := HM.hooks_rods s.tree
    have hfew := M.few
    have hwl := M.len
    have hal : as.length = Sy65.rods s.tree := M.at_.1.trans (HM.rodsOf_length s.tree 0)
    refine ⟨_, rfl, m, CM, dx, _, _, rfl, hd, T.cl, T.nr, mobF_r lr lw, _, rfl, m, CM, dx, _, _, rfl, hd, T.cl, T.nw, mobF_w lr lw, lw, _, rfl, .inl (SqL.of M.ws), ?_⟩
    rw [nV_length, M.len]
    refine ⟨lr, as, s.tree, rfl, SqL.of M.rods, M.at_, M.few, fun H1 q s1 nq e1 => ?_⟩
    refine ⟨_, rfl, m, CM, dx, _, _, rfl, s1 _ _ hd, T.cl, T.nr, mobF_r lr lw, lr, _, rfl, .inl (SqL.of (s1 _ _ M.rods)), _, rfl, _, q, _, rfl, e1, by rw [nV_length]; omega, fun H2 r s2 nr e2 => ?_⟩
    have s12 := s1.trans s2
    refine ⟨_, rfl, m, CM, dx, _, _, rfl, s12 _ _ hd, T.cl, T.nw, mobF_w lr lw, lw, _, rfl, s12 _ _ M.ws, by rw [nV_length]; omega, fun H3 u s3 nu e3 => ?_⟩
    have s13 := s12.trans s3
    refine ⟨r, u, _, _, rfl, rfl, s3 _ _ e2, e3, ?_, fun p np => ?_⟩
    · rw [List.length_cons, List.length_cons, List.length_cons, nV_length, nV_length, sizeLine_eq]
      omega
    · refine k.stay hm hstep (s13.trans (keep_new np)) (s13.free np) ?_
      rw [upd_same, ans_two, List.length_map, hal, nV_length, nV_length]
end
end HMP
namespace HMP
open PySem PySem.Spec PyProof.Rows L2

/-- a call with which nothing is handed over -/
inductive Bare : Int → Sy65.Call → Prop
  | pulls : Bare 3 .pulls
  | least : Bare 4 .least
  | madeUp : Bare 6 .madeUp
  | mend : Bare 7 .mend
  | wants : Bare 8 .wants
  | state : Bare 11 .state
section
variable {P : Program} {w : World} {K : PySem.W.Frag} {mg : Str → Option Value} {base : Heap} {CM C : Addr}
/-! ### answer_bare -/
def spBare (CM C : Addr) : Sp := fun vs H Q _ => ∃ (m : Addr) (z : Int) (s : Sy65.St) (F : List Addr) (c : Sy65.Call), vs = [.ref m, .int z] ∧ Bare z c ∧ MobAt CM C H m s F ∧ Done CM C H m s F c Q
theorem scBare : FnScope ["mobile", "call"] ["mobile", "call"] (defScope sBare) := ⟨rfl, rfl, rfl, by decide +kernel, rfl, by decide +kernel, by decide +kernel⟩
theorem ok_bare {f fP fL fU fD fW fS : Addr} {fd fdP fdL fdU fdD fdW fdS : FuncData} (F : Fun K "answer_bare" "answer_bare" sBare f fd) (TM : MobTxt K CM)
    (mP : Meth K CM "pulls" fP) (bP : Binds K fdP ["self"] []) (GP : FnOk P w K mg base CX0 3 fP fdP ["self"] (spPulls CM C))
    (mL : Meth K CM "least" fL) (bL : Binds K fdL ["self"] []) (GL : FnOk P w K mg base CX0 5 fL fdL ["self"] (spLeast CM C))
    (mU : Meth K CM "up" fU) (bU : Binds K fdU ["self"] []) (GU : FnOk P w K mg base CX0 5 fU fdU ["self"] (spUp CM C))
    (mD : Meth K CM "mend" fD) (bD : Binds K fdD ["self"] []) (GD : FnOk P w K mg base CX0 5 fD fdD ["self"] (spMend CM C))
    (mW : Meth K CM "wants" fW) (bW : Binds K fdW ["self"] []) (GW : FnOk P w K mg base CX0 3 fW fdW ["self"] (spWants CM C))
    (mS : Meth K CM "state" fS) (bS : Binds K fdS ["self"] []) (GS : FnOk P w K mg base CX0 3 fS fdS ["self"] (spState CM C)) :
    FnOk P w K mg base CX0 6 f fd ["mobile", "call"] (spBare CM C) := by
  refine F.ok scBare (fun vs H Q E h => ?_) (fun cdv A outer s H vs Q E hr h => ⟨_, pss_cons (ps_if (pt_cmpR op_eq (pv 1) pe_int (nomark _)) (pss_one (ps_ret (pe_meth0 (pv 0) TM.cl mP GP (hr.mono (by decide)) bP .nil pass0))) pss_nil)
      (pss_cons (ps_if (pt_cmpR op_eq (pv 1) pe_int (nomark _)) (pss_one (ps_ret (pe_meth0 (pv 0) TM.cl mL GL (hr.mono (by decide)) bL .nil pass0))) pss_nil)
      (pss_cons (ps_if (pt_cmpR op_eq (pv 1) pe_int (nomark _)) (pss_one (ps_ret (pe_meth0 (pv 0) TM.cl mU GU (hr.mono (by decide)) bU .nil pass0))) pss_nil)
      (pss_cons (ps_if (pt_cmpR op_eq (pv 1) pe_int (nomark _)) (pss_one (ps_ret (pe_meth0 (pv 0) TM.cl mD GD (hr.mono (by decide)) bD .nil pass0))) pss_nil)
      (pss_cons (ps_if (pt_cmpR op_eq (pv 1) pe_int (nomark _)) (pss_one (ps_ret (pe_meth0 (pv 0) TM.cl mW GW (hr.mono (by decide)) bW .nil pass0))) pss_nil)
      (pss_cons (ps_if (pt_cmpR op_eq (pv 1) pe_int (nomark _)) (pss_one (ps_ret (pe_meth0 (pv 0) TM.cl mS GS (hr.mono (by decide)) bS .nil pass0))) pss_nil)
      (pss_one ps_never)))))), ?_⟩)
  · obtain ⟨m, z, s, F, c, rfl, _⟩ := h
    rfl
  · obtain ⟨m, z, s, F, c, rfl, hc, hm, k⟩ := h
    obtain ⟨lr, lw, as, eF, M⟩ := id hm
    obtain ⟨dx, hd⟩ := M.ins
    have no : ∀ {n : Str}, (n == ("rods" : Str)) = false → (n == ("weights" : Str)) = false → (mobF lr lw).lookup n = none := fun h1 h2 => mobF_no lr lw h1 h2
    cases hc with
    | pulls =>
      refine ⟨_, rfl, rfl, _, rfl, iteT ?_⟩
      exact ⟨_, rfl, m, dx, _, rfl, hd, no (by decide +kernel) (by decide +kernel), m, s, F, rfl, hm, k⟩
    | least =>
      refine ⟨_, rfl, rfl, _, rfl, iteF ?_⟩
      refine ⟨_, rfl, rfl, _, rfl, iteT ?_⟩
      exact ⟨_, rfl, m, dx, _, rfl, hd, no (by decide +kernel) (by decide +kernel), m, s, F, rfl, hm, k⟩
    | madeUp =>
      refine ⟨_, rfl, rfl, _, rfl, iteF ?_⟩
      refine ⟨_, rfl, rfl, _, rfl, iteF ?_⟩
      refine ⟨_, rfl, rfl, _, rfl, iteT ?_⟩
      exact ⟨_, rfl, m, dx, _, rfl, hd, no (by decide +kernel) (by decide +kernel), m, s, F, rfl, hm, k⟩
    | mend =>
      refine ⟨_, rfl, rfl, _, rfl, iteF ?_⟩
      refine ⟨_, rfl, rfl, _, rfl, iteF ?_⟩
      refine ⟨_, rfl, rfl, _, rfl, iteF ?_⟩
      refine ⟨_, rfl, rfl, _, rfl, iteT ?_⟩
      exact ⟨_, rfl, m, dx, _, rfl, hd, no (by decide +kernel) (by decide +kernel), m, s, F, rfl, hm, k⟩
    | wants =>
      refine ⟨_, rfl, rfl, _, rfl, iteF ?_⟩
      refine ⟨_, rfl, rfl, _, rfl, iteF ?_⟩
      refine ⟨_, rfl, rfl, _, rfl, iteF ?_⟩
      refine ⟨_, rfl, rfl, _, rfl, iteF ?_⟩
      refine ⟨_, rfl, rfl, _, rfl, iteT ?_⟩
      exact ⟨_, rfl, m, dx, _, rfl, hd, no (by decide +kernel) (by decide +kernel), m, s, F, rfl, hm, k⟩
    | state =>
      refine ⟨_, rfl, rfl, _, rfl, iteF ?_⟩
      refine ⟨_, rfl, rfl, _, rfl, iteF ?_⟩
      refine ⟨_, rfl, rfl, _, rfl, iteF ?_⟩
      refine ⟨_, rfl, rfl, _, rfl, iteF ?_⟩
      refine ⟨_, rfl, rfl, _, rfl, iteF ?_⟩
      refine ⟨_, rfl, rfl, _, rfl, iteT ?_⟩
      exact ⟨_, rfl, m, dx, _, rfl, hd, no (by decide +kernel) (by decide +kernel), m, s, F, rfl, hm, k⟩
end
end HMP
namespace HMP
open PySem PySem.Spec PyProof.Rows L2
theorem But.refl (r : Addr) (H : Hp) : But r H H := fun _ _ e _ => e
theorem But.trans {r : Addr} {H H1 H2 : Hp} (a : But r H H1) (b : But r H1 H2) : But r H H2 := fun c o e n => b c o (a c o e n) n
theorem MobAt.but {CM C : Addr} {H H' : Hp} {m r : Addr} {s : Sy65.St} {F : List Addr} (h : MobAt CM C H m s F) (hr : r ∉ F) (b : But r H H') : MobAt CM C H' m s F := by
  obtain ⟨lr, lw, as, rfl, M⟩ := h
  simp only [List.mem_cons, not_or] at hr
  obtain ⟨q1, q2, q3, q4⟩ := hr
  obtain ⟨dx, hd⟩ := M.ins
  refine ⟨lr, lw, as, rfl, ⟨⟨dx, b _ _ hd (Ne.symm q1)⟩, b _ _ M.rods (Ne.symm q2), ⟨M.at_.1, fun i x p e1 e2 => ?_⟩, M.nd, b _ _ M.ws (Ne.symm q3), M.good, M.few, M.len, M.low⟩⟩
  obtain ⟨dy, e⟩ := M.at_.2 i x p e1 e2
  exact ⟨dy, b _ _ e fun z => q4 (by rw [← z]; exact List.mem_of_getElem? e1)⟩
/-- what answer_next's caller wishes -/
def Wish (K : PySem.W.Frag) (CM C CR : Addr) (H : Hp) (m r a : Addr) (s : Sy65.St) (F : List Addr) (l rest : List Int) (i : Nat) (c : Sy65.Call) (Q : VK) : Prop :=
  ∀ (H' : Hp) (p : Addr) (F' : List Addr) (j : Nat), MobAt CM C H' m (Sy65.step s c).1 F' → RedAt K CR H' r a l j → l.drop j = rest → i < j → (∀ b ∈ F', b ∈ F ∨ H b = none) → (∀ b o, H b = some o → b ∉ F → b ≠ r → H' b = some o) → H p = none → H' p = some (.lst (ansV (Sy65.step s c).2)) → Q (.ref p) H'
/-- behind the call's numbers: the method's own end -/
theorem Wish.done {K : PySem.W.Frag} {CM C CR : Addr} {H H1 : Hp} {m r a : Addr} {s : Sy65.St} {F : List Addr} {l rest : List Int} {i j : Nat} {c : Sy65.Call} {Q : VK} (k : Wish K CM C CR H m r a s F l rest i c Q)
    (hR : RedAt K CR H1 r a l j) (hr : r ∉ F) (hA : (∀ H'' : Hp, SqL K H'' a (iV l)) ∨ a ∉ F) (hb : But r H H1) (hn : ∀ b, H1 b = none → H b = none) (hj : l.drop j = rest) (hij : i < j) : Done CM C H1 m s F c Q := by
  intro H' p F' M' fr np e
  obtain ⟨dx, hd⟩ := hR.ins
  refine k H' p F' j M' ⟨⟨dx, fr.2 _ _ hd hr⟩, ?_, hR.le⟩ hj hij (fun b h => (fr.1 b h).imp id (hn b)) (fun b o e n1 n2 => fr.2 _ _ (hb _ _ e n2) n1) (hn _ np) e
  rcases hA with q | q
  · exact q _
  · rcases hR.list with (z | ⟨o, z⟩) | z
    · exact .inl (.inl (fr.2 _ _ z q))
    · exact .inl (.inr ⟨o, fr.2 _ _ z q⟩)
    · exact .inr z
/-- a list's items by what is dropped -/
theorem drop_cons {l r : List Int} {i : Nat} {x : Int} (h : l.drop i = x :: r) : l[i]? = some x ∧ l.drop (i + 1) = r := by
  have h1 : l[i]? = (l.drop i)[0]? := by rw [List.getElem?_drop, Nat.add_zero]
  refine ⟨by rw [h1, h]; rfl, ?_⟩
  have : l.drop (i + 1) = (l.drop i).drop 1 := by rw [List.drop_drop]
  rw [this, h]
  rfl
theorem drop_app {l r : List Int} {i : Nat} {x : List Int} (h : l.drop i = x ++ r) (hx : 0 < x.length) : i + x.length ≤ l.length ∧ (l.drop i).take x.length = x ∧ l.drop (i + x.length) = r := by
  have hl := congrArg List.length h
  rw [List.length_drop, List.length_append] at hl
  refine ⟨by omega, by rw [h, List.take_left], ?_⟩
  have : l.drop (i + x.length) = (l.drop i).drop x.length := by rw [List.drop_drop]
  rw [this, h, List.drop_left]
theorem iV_ints (x : List Nat) : iV (Sy65.ints x) = nV x := (nV_ints x).symm
section
variable {P : Program} {w : World} {K : PySem.W.Frag} {mg : Str → Option Value} {base : Heap} {CM C CR : Addr}

theorem scNext : FnScope ["mobile", "reader", "call", "hook", "weight", "rod", "left", "right", "others"] ["mobile", "reader"] (defScope sNext) := ⟨rfl, rfl, rfl, by decide +kernel, rfl, by decide +kernel, by decide +kernel⟩
theorem ok_next {f fT fW fB fH fA fS fY fM fN : Addr} {fd fdT fdW fdB fdH fdA fdS fdY fdM fdN : FuncData} (F : Fun K "answer_next" "answer_next" sNext f fd) (TM : MobTxt K CM) (T : RedTxt K CR)
    (mT : Meth K CR "take" fT) (bT : Binds K fdT ["self"] []) (GT : FnOk P w K mg base CX0 1 fT fdT ["self"] (spTake K CR))
    (mW : Meth K CR "take_row" fW) (bW : Binds K fdW ["self"] []) (GW : FnOk P w K mg base CX0 2 fW fdW ["self"] (spTakeRow K CR))
    (mB : Meth K CM "begins" fB) (bB : Binds K fdB ["self", "shape"] []) (GB : FnOk P w K mg base CX0 4 fB fdB ["self", "shape"] (spBegins K CM C))
    (mH : Meth K CM "hang" fH) (bH : Binds K fdH ["self", "hook", "weight"] []) (GH : FnOk P w K mg base CX0 1 fH fdH ["self", "hook", "weight"] (spHang CM C))
    (mA : Meth K CM "arms" fA) (bA : Binds K fdA ["self", "rod", "left", "right"] []) (GA : FnOk P w K mg base CX0 2 fA fdA ["self", "rod", "left", "right"] (spArms CM C))
    (mS : Meth K CM "scale" fS) (bS : Binds K fdS ["self", "times"] []) (GS : FnOk P w K mg base CX0 5 fS fdS ["self", "times"] (spScale CM C))
    (mY : Meth K CM "ways" fY) (bY : Binds K fdY ["self", "others", "weights"] []) (GY : FnOk P w K mg base CX0 5 fY fdY ["self", "others", "weights"] (spWays K CM C))
    (mM : Meth K CM "missing" fM) (bM : Binds K fdM ["self", "hook"] []) (GM : FnOk P w K mg base CX0 5 fM fdM ["self", "hook"] (spMissing CM C))
    (gN : mg "answer_bare" = some (.ref fN)) (kN : PySem.W.keepIn K (.ref fN) = true) (bN : Binds K fdN ["mobile", "call"] []) (GN : FnOk P w K mg base CX0 6 fN fdN ["mobile", "call"] (spBare CM C)) :
    FnOk P w K mg base CX0 7 f fd ["mobile", "reader"] (spNext K CM C CR) := by
  refine F.ok scNext (fun vs H Q E h => ?_) (fun cdv A outer s H vs Q E hr h => ⟨_, pss_cons (ps_set (i := 2) scNext.nd rfl (Or.inl rfl) (pe_meth0 (pv 1) T.cl mT GT (hr.mono (by decide)) bT .nil pass0))
      (pss_cons (ps_if (pt_cmpR op_eq (pv 2) pe_int (nomark _)) (pss_one (ps_ret (pe_meth (pv 0) TM.cl mB GB (hr.mono (by decide)) bB .nil pass0 (by exact (pa_cons (pe_meth0 (pv 1) T.cl mW GW (hr.mono (by decide)) bW .nil pass0) pa_nil))))) pss_nil)
      (pss_cons (ps_if (pt_cmpR op_eq (pv 2) pe_int (nomark _)) (pss_cons (ps_set (i := 3) scNext.nd rfl (Or.inl rfl) (pe_meth0 (pv 1) T.cl mT GT (hr.mono (by decide)) bT .nil pass0)) (pss_cons (ps_set (i := 4) scNext.nd rfl (Or.inl rfl) (pe_meth0 (pv 1) T.cl mT GT (hr.mono (by decide)) bT .nil pass0))
        (pss_one (ps_ret (pe_meth (pv 0) TM.cl mH GH (hr.mono (by decide)) bH .nil pass0 (by exact (pa_cons (pv 3) (pa_cons (pv 4) pa_nil)))))))) pss_nil)
      (pss_cons (ps_if (pt_cmpR op_eq (pv 2) pe_int (nomark _)) (pss_cons (ps_set (i := 5) scNext.nd rfl (Or.inl rfl) (pe_meth0 (pv 1) T.cl mT GT (hr.mono (by decide)) bT .nil pass0)) (pss_cons (ps_set (i := 6) scNext.nd rfl (Or.inl rfl) (pe_meth0 (pv 1) T.cl mT GT (hr.mono (by decide)) bT .nil pass0)) (pss_cons (ps_set (i := 7) scNext.nd rfl (Or.inl rfl) (pe_meth0 (pv 1) T.cl mT GT (hr.mono (by decide)) bT .nil pass0))
        (pss_one (ps_ret (pe_meth (pv 0) TM.cl mA GA (hr.mono (by decide)) bA .nil pass0 (by exact (pa_cons (pv 5) (pa_cons (pv 6) (pa_cons (pv 7) pa_nil)))))))))) pss_nil)
      (pss_cons (ps_if (pt_cmpR op_eq (pv 2) pe_int (nomark _)) (pss_one (ps_ret (pe_meth (pv 0) TM.cl mS GS (hr.mono (by decide)) bS .nil pass0 (by exact (pa_cons (pe_meth0 (pv 1) T.cl mT GT (hr.mono (by decide)) bT .nil pass0) pa_nil))))) pss_nil)
      (pss_cons (ps_if (pt_cmpR op_eq (pv 2) pe_int (nomark _)) (pss_cons (ps_set (i := 8) scNext.nd rfl (Or.inl rfl) (pe_meth0 (pv 1) T.cl mT GT (hr.mono (by decide)) bT .nil pass0))
        (pss_one (ps_ret (pe_meth (pv 0) TM.cl mY GY (hr.mono (by decide)) bY .nil pass0 (by exact (pa_cons (pv 8) (pa_cons (pe_meth0 (pv 1) T.cl mW GW (hr.mono (by decide)) bW .nil pass0) pa_nil))))))) pss_nil)
      (pss_cons (ps_if (pt_cmpR op_eq (pv 2) pe_int (nomark _)) (pss_one (ps_ret (pe_meth (pv 0) TM.cl mM GM (hr.mono (by decide)) bM .nil pass0 (by exact (pa_cons (pe_meth0 (pv 1) T.cl mT GT (hr.mono (by decide)) bT .nil pass0) pa_nil))))) pss_nil)
      (pss_one (ps_ret (pe_call GN hr rfl gN kN bN .nil pass0 (pa_cons (pv 0) (pa_cons (pv 2) pa_nil))))))))))), ?_⟩)
  · obtain ⟨m, r, a, s, F, l, rest, i, c, rfl, _⟩ := h
    rfl
  · obtain ⟨m, r, a, s, F, l, rest, i, c, rfl, hM, hR, hrF, hA, hN, k0⟩ := h
    have k : Wish K CM C CR H m r a s F l rest i c Q := k0
    clear k0
    obtain ⟨dx, hd⟩ := hR.ins
    have no : ∀ {m : Str} (j : Nat), (m == ("calls" : Str)) = false → (m == ("place" : Str)) = false → (redF a j).lookup m = none := fun j h1 h2 => redF_no a j h1 h2
    generalize hd0 : l.drop i = li at hN
    cases hN with
    | begins x _ hx hx2 =>
      obtain ⟨z0, t0⟩ := drop_cons hd0
      obtain ⟨z1, t1⟩ := drop_cons t0
      refine ⟨_, rfl, r, dx, _, rfl, hd, no i (by decide +kernel) (by decide +kernel), r, a, l, i, _, rfl, hR, z0, fun H1 R1 b1 n1 => ?_⟩
      obtain ⟨dx1, hd1⟩ := R1.ins
      obtain ⟨lr, lw, as, rfl, M⟩ := id hM
      refine ⟨_, rfl, rfl, _, rfl, iteT ?_⟩
      obtain ⟨lr1, lw1, as1, eF, M1⟩ := hM.but hrF b1
      obtain ⟨dm, hm1⟩ := M1.ins
      have hlen : (Sy65.ints x).length = x.length := HM.ints_len x
      have hrow : i + 1 + 1 + x.length ≤ l.length ∧ (l.drop (i + 1 + 1)).take x.length = Sy65.ints x ∧ l.drop (i + 1 + 1 + x.length) = rest := by
        rw [← hlen]
        cases x with
        | nil =>
          have := (List.getElem?_eq_some_iff.mp z1).1
          refine ⟨by show i + 1 + 1 + 0 ≤ _; omega, rfl, t1⟩
        | cons y x => exact drop_app t1 (by rw [hlen]; simp)
      refine ⟨_, rfl, m, dm, _, rfl, hm1, mobF_no lr1 lw1 (by decide +kernel) (by decide +kernel), ?_⟩
      refine ⟨_, rfl, r, dx1, _, rfl, hd1, no (i + 1) (by decide +kernel) (by decide +kernel), r, a, l, i + 1, x.length, rfl, R1, z1, by omega, fun H2 p R2 b2 n2 np e2 => ?_⟩
      rw [hrow.2.1, iV_ints] at e2
      refine ⟨m, p, s, _, x, rfl, SqL.of e2, hx, hM.but hrF (b1.trans b2), ?_⟩
      exact k.done R2 hrF hA (b1.trans b2) (fun b e => n1 _ (n2 _ e)) hrow.2.2 (by omega)
    | hang x y _ hx hy =>
      obtain ⟨z0, t0⟩ := drop_cons hd0
      obtain ⟨z1, t1⟩ := drop_cons t0
      obtain ⟨z2, t2⟩ := drop_cons t1
      refine ⟨_, rfl, r, dx, _, rfl, hd, no i (by decide +kernel) (by decide +kernel), r, a, l, i, _, rfl, hR, z0, fun H1 R1 b1 n1 => ?_⟩
      refine ⟨_, rfl, rfl, _, rfl, iteF ?_⟩
      refine ⟨_, rfl, rfl, _, rfl, iteT ?_⟩
      obtain ⟨dx1, hd1⟩ := R1.ins
      refine ⟨_, rfl, r, dx1, _, rfl, hd1, no (i + 1) (by decide +kernel) (by decide +kernel), r, a, l, i + 1, _, rfl, R1, z1, fun H2 R2 b2 n2 => ?_⟩
      obtain ⟨dx2, hd2⟩ := R2.ins
      refine ⟨_, rfl, r, dx2, _, rfl, hd2, no (i + 1 + 1) (by decide +kernel) (by decide +kernel), r, a, l, i + 1 + 1, _, rfl, R2, z2, fun H3 R3 b3 n3 => ?_⟩
      have b13 := (b1.trans b2).trans b3
      have M3 := hM.but hrF b13
      obtain ⟨lr1, lw1, as1, eF, MI⟩ := id M3
      obtain ⟨dm, hm3⟩ := MI.ins
      refine ⟨_, rfl, m, dm, _, rfl, hm3, mobF_no lr1 lw1 (by decide +kernel) (by decide +kernel), _, rfl, _, rfl, m, s, F, x, y, rfl, M3, ?_⟩
      exact k.done R3 hrF hA b13 (fun b e => n1 _ (n2 _ (n3 _ e))) t2 (by omega)
    | arms x y z _ hx hy hz =>
      obtain ⟨z0, t0⟩ := drop_cons hd0
      obtain ⟨z1, t1⟩ := drop_cons t0
      obtain ⟨z2, t2⟩ := drop_cons t1
      obtain ⟨z3, t3⟩ := drop_cons t2
      refine ⟨_, rfl, r, dx, _, rfl, hd, no i (by decide +kernel) (by decide +kernel), r, a, l, i, _, rfl, hR, z0, fun H1 R1 b1 n1 => ?_⟩
      refine ⟨_, rfl, rfl, _, rfl, iteF ?_⟩
      refine ⟨_, rfl, rfl, _, rfl, iteF ?_⟩
      refine ⟨_, rfl, rfl, _, rfl, iteT ?_⟩
      obtain ⟨dx1, hd1⟩ := R1.ins
      refine ⟨_, rfl, r, dx1, _, rfl, hd1, no (i + 1) (by decide +kernel) (by decide +kernel), r, a, l, i + 1, _, rfl, R1, z1, fun H2 R2 b2 n2 => ?_⟩
      obtain ⟨dx2, hd2⟩ := R2.ins
      refine ⟨_, rfl, r, dx2, _, rfl, hd2, no (i + 1 + 1) (by decide +kernel) (by decide +kernel), r, a, l, i + 1 + 1, _, rfl, R2, z2, fun H3 R3 b3 n3 => ?_⟩
      obtain ⟨dx3, hd3⟩ := R3.ins
      refine ⟨_, rfl, r, dx3, _, rfl, hd3, no (i + 1 + 1 + 1) (by decide +kernel) (by decide +kernel), r, a, l, i + 1 + 1 + 1, _, rfl, R3, z3, fun H4 R4 b4 n4 => ?_⟩
      have b14 := ((b1.trans b2).trans b3).trans b4
      have M4 := hM.but hrF b14
      obtain ⟨lr1, lw1, as1, eF, MI⟩ := id M4
      obtain ⟨dm, hm4⟩ := MI.ins
      refine ⟨_, rfl, m, dm, _, rfl, hm4, mobF_no lr1 lw1 (by decide +kernel) (by decide +kernel), _, rfl, _, rfl, _, rfl, m, s, F, x, y, z, rfl, M4, ?_⟩
      exact k.done R4 hrF hA b14 (fun b e => n1 _ (n2 _ (n3 _ (n4 _ e)))) t3 (by omega)
    | scale x _ hx =>
      obtain ⟨z0, t0⟩ := drop_cons hd0
      obtain ⟨z1, t1⟩ := drop_cons t0
      refine ⟨_, rfl, r, dx, _, rfl, hd, no i (by decide +kernel) (by decide +kernel), r, a, l, i, _, rfl, hR, z0, fun H1 R1 b1 n1 => ?_⟩
      refine ⟨_, rfl, rfl, _, rfl, iteF ?_⟩
      refine ⟨_, rfl, rfl, _, rfl, iteF ?_⟩
      refine ⟨_, rfl, rfl, _, rfl, iteF ?_⟩
      refine ⟨_, rfl, rfl, _, rfl, iteT ?_⟩
      obtain ⟨lr0, lw0, as0, eF0, M0⟩ := hM.but hrF b1
      obtain ⟨dm, hm1⟩ := M0.ins
      obtain ⟨dx1, hd1⟩ := R1.ins
      refine ⟨_, rfl, m, dm, _, rfl, hm1, mobF_no lr0 lw0 (by decide +kernel) (by decide +kernel), ?_⟩
      refine ⟨_, rfl, r, dx1, _, rfl, hd1, no (i + 1) (by decide +kernel) (by decide +kernel), r, a, l, i + 1, _, rfl, R1, z1, fun H2 R2 b2 n2 => ?_⟩
      refine ⟨m, s, F, x, rfl, hx, hM.but hrF (b1.trans b2), ?_⟩
      exact k.done R2 hrF hA (b1.trans b2) (fun b e => n1 _ (n2 _ e)) t1 (by omega)
    | ways kk x _ hk hx hx2 =>
      obtain ⟨z0, t0⟩ := drop_cons hd0
      obtain ⟨z1, t1⟩ := drop_cons t0
      obtain ⟨z2, t2⟩ := drop_cons t1
      refine ⟨_, rfl, r, dx, _, rfl, hd, no i (by decide +kernel) (by decide +kernel), r, a, l, i, _, rfl, hR, z0, fun H1 R1 b1 n1 => ?_⟩
      refine ⟨_, rfl, rfl, _, rfl, iteF ?_⟩
      refine ⟨_, rfl, rfl, _, rfl, iteF ?_⟩
      refine ⟨_, rfl, rfl, _, rfl, iteF ?_⟩
      refine ⟨_, rfl, rfl, _, rfl, iteF ?_⟩
      refine ⟨_, rfl, rfl, _, rfl, iteT ?_⟩
      obtain ⟨dx1, hd1⟩ := R1.ins
      refine ⟨_, rfl, r, dx1, _, rfl, hd1, no (i + 1) (by decide +kernel) (by decide +kernel), r, a, l, i + 1, _, rfl, R1, z1, fun H2 R2 b2 n2 => ?_⟩
      obtain ⟨dx2, hd2⟩ := R2.ins
      obtain ⟨lr1, lw1, as1, eF, M1⟩ := hM.but hrF (b1.trans b2)
      obtain ⟨dm, hm1⟩ := M1.ins
      have hlen : (Sy65.ints x).length = x.length := HM.ints_len x
      have hrow : i + 1 + 1 + 1 + x.length ≤ l.length ∧ (l.drop (i + 1 + 1 + 1)).take x.length = Sy65.ints x ∧ l.drop (i + 1 + 1 + 1 + x.length) = rest := by
        rw [← hlen]
        cases x with
        | nil =>
          have := (List.getElem?_eq_some_iff.mp z2).1
          refine ⟨by show i + 1 + 1 + 1 + 0 ≤ _; omega, rfl, t2⟩
        | cons y x => exact drop_app t2 (by rw [hlen]; simp)
      refine ⟨_, rfl, m, dm, _, rfl, hm1, mobF_no lr1 lw1 (by decide +kernel) (by decide +kernel), ?_⟩
      refine ⟨_, rfl, _, rfl, r, dx2, _, rfl, hd2, no (i + 1 + 1) (by decide +kernel) (by decide +kernel), r, a, l, i + 1 + 1, x.length, rfl, R2, z2, by omega, fun H3 p R3 b3 n3 np e3 => ?_⟩
      rw [hrow.2.1, iV_ints] at e3
      have b13 := (b1.trans b2).trans b3
      refine ⟨m, p, s, _, kk, x, rfl, SqL.of e3, hx, hM.but hrF b13, ?_⟩
      exact k.done R3 hrF hA b13 (fun b e => n1 _ (n2 _ (n3 _ e))) hrow.2.2 (by omega)
    | missing x _ hx =>
      obtain ⟨z0, t0⟩ := drop_cons hd0
      obtain ⟨z1, t1⟩ := drop_cons t0
      refine ⟨_, rfl, r, dx, _, rfl, hd, no i (by decide +kernel) (by decide +kernel), r, a, l, i, _, rfl, hR, z0, fun H1 R1 b1 n1 => ?_⟩
      refine ⟨_, rfl, rfl, _, rfl, iteF ?_⟩
      refine ⟨_, rfl, rfl, _, rfl, iteF ?_⟩
      refine ⟨_, rfl, rfl, _, rfl, iteF ?_⟩
      refine ⟨_, rfl, rfl, _, rfl, iteF ?_⟩
      refine ⟨_, rfl, rfl, _, rfl, iteF ?_⟩
      refine ⟨_, rfl, rfl, _, rfl, iteT ?_⟩
      obtain ⟨lr0, lw0, as0, eF0, M0⟩ := hM.but hrF b1
      obtain ⟨dm, hm1⟩ := M0.ins
      obtain ⟨dx1, hd1⟩ := R1.ins
      refine ⟨_, rfl, m, dm, _, rfl, hm1, mobF_no lr0 lw0 (by decide +kernel) (by decide +kernel), ?_⟩
      refine ⟨_, rfl, r, dx1, _, rfl, hd1, no (i + 1) (by decide +kernel) (by decide +kernel), r, a, l, i + 1, _, rfl, R1, z1, fun H2 R2 b2 n2 => ?_⟩
      refine ⟨m, s, F, x, rfl, hM.but hrF (b1.trans b2), ?_⟩
      exact k.done R2 hrF hA (b1.trans b2) (fun b e => n1 _ (n2 _ e)) t1 (by omega)
    | pulls =>
      obtain ⟨z0, t0⟩ := drop_cons hd0
      refine ⟨_, rfl, r, dx, _, rfl, hd, no i (by decide +kernel) (by decide +kernel), r, a, l, i, _, rfl, hR, z0, fun H1 R1 b1 n1 => ?_⟩
      refine ⟨_, rfl, rfl, _, rfl, iteF ?_⟩
      refine ⟨_, rfl, rfl, _, rfl, iteF ?_⟩
      refine ⟨_, rfl, rfl, _, rfl, iteF ?_⟩
      refine ⟨_, rfl, rfl, _, rfl, iteF ?_⟩
      refine ⟨_, rfl, rfl, _, rfl, iteF ?_⟩
      refine ⟨_, rfl, rfl, _, rfl, iteF ?_⟩
      refine ⟨_, rfl, _, rfl, m, _, s, F, _, rfl, .pulls, hM.but hrF b1, ?_⟩
      exact k.done R1 hrF hA b1 n1 t0 (by omega)
    | least =>
      obtain ⟨z0, t0⟩ := drop_cons hd0
      refine ⟨_, rfl, r, dx, _, rfl, hd, no i (by decide +kernel) (by decide +kernel), r, a, l, i, _, rfl, hR, z0, fun H1 R1 b1 n1 => ?_⟩
      refine ⟨_, rfl, rfl, _, rfl, iteF ?_⟩
      refine ⟨_, rfl, rfl, _, rfl, iteF ?_⟩
      refine ⟨_, rfl, rfl, _, rfl, iteF ?_⟩
      refine ⟨_, rfl, rfl, _, rfl, iteF ?_⟩
      refine ⟨_, rfl, rfl, _, rfl, iteF ?_⟩
      refine ⟨_, rfl, rfl, _, rfl, iteF ?_⟩
      refine ⟨_, rfl, _, rfl, m, _, s, F, _, rfl, .least, hM.but hrF b1, ?_⟩
      exact k.done R1 hrF hA b1 n1 t0 (by omega)
    | up =>
      obtain ⟨z0, t0⟩ := drop_cons hd0
      refine ⟨_, rfl, r, dx, _, rfl, hd, no i (by decide +kernel) (by decide +kernel), r, a, l, i, _, rfl, hR, z0, fun H1 R1 b1 n1 => ?_⟩
      refine ⟨_, rfl, rfl, _, rfl, iteF ?_⟩
      refine ⟨_, rfl, rfl, _, rfl, iteF ?_⟩
      refine ⟨_, rfl, rfl, _, rfl, iteF ?_⟩
      refine ⟨_, rfl, rfl, _, rfl, iteF ?_⟩
      refine ⟨_, rfl, rfl, _, rfl, iteF ?_⟩
      refine ⟨_, rfl, rfl, _, rfl, iteF ?_⟩
      refine ⟨_, rfl, _, rfl, m, _, s, F, _, rfl, .madeUp, hM.but hrF b1, ?_⟩
      exact k.done R1 hrF hA b1 n1 t0 (by omega)
    | mend =>
      obtain ⟨z0, t0⟩ := drop_cons hd0
      refine ⟨_, rfl, r, dx, _, rfl, hd, no i (by decide +kernel) (by decide +kernel), r, a, l, i, _, rfl, hR, z0, fun H1 R1 b1 n1 => ?_⟩
      refine ⟨_, rfl, rfl, _, rfl, iteF ?_⟩
      refine ⟨_, rfl, rfl, _, rfl, iteF ?_⟩
      refine ⟨_, rfl, rfl, _, rfl, iteF ?_⟩
      refine ⟨_, rfl, rfl, _, rfl, iteF ?_⟩
      refine ⟨_, rfl, rfl, _, rfl, iteF ?_⟩
      refine ⟨_, rfl, rfl, _, rfl, iteF ?_⟩
      refine ⟨_, rfl, _, rfl, m, _, s, F, _, rfl, .mend, hM.but hrF b1, ?_⟩
      exact k.done R1 hrF hA b1 n1 t0 (by omega)
    | wants =>
      obtain ⟨z0, t0⟩ := drop_cons hd0
      refine ⟨_, rfl, r, dx, _, rfl, hd, no i (by decide +kernel) (by decide +kernel), r, a, l, i, _, rfl, hR, z0, fun H1 R1 b1 n1 => ?_⟩
      refine ⟨_, rfl, rfl, _, rfl, iteF ?_⟩
      refine ⟨_, rfl, rfl, _, rfl, iteF ?_⟩
      refine ⟨_, rfl, rfl, _, rfl, iteF ?_⟩
      refine ⟨_, rfl, rfl, _, rfl, iteF ?_⟩
      refine ⟨_, rfl, rfl, _, rfl, iteF ?_⟩
      refine ⟨_, rfl, rfl, _, rfl, iteF ?_⟩
      refine ⟨_, rfl, _, rfl, m, _, s, F, _, rfl, .wants, hM.but hrF b1, ?_⟩
      exact k.done R1 hrF hA b1 n1 t0 (by omega)
    | state =>
      obtain ⟨z0, t0⟩ := drop_cons hd0
      refine ⟨_, rfl, r, dx, _, rfl, hd, no i (by decide +kernel) (by decide +kernel), r, a, l, i, _, rfl, hR, z0, fun H1 R1 b1 n1 => ?_⟩
      refine ⟨_, rfl, rfl, _, rfl, iteF ?_⟩
      refine ⟨_, rfl, rfl, _, rfl, iteF ?_⟩
      refine ⟨_, rfl, rfl, _, rfl, iteF ?_⟩
      refine ⟨_, rfl, rfl, _, rfl, iteF ?_⟩
      refine ⟨_, rfl, rfl, _, rfl, iteF ?_⟩
      refine ⟨_, rfl, rfl, _, rfl, iteF ?_⟩
      refine ⟨_, rfl, _, rfl, m, _, s, F, _, rfl, .state, hM.but hrF b1, ?_⟩
      exact k.done R1 hrF hA b1 n1 t0 (by omega)
end
end HMP
namespace HMP
open PySem PySem.Spec PyProof.Rows L2
theorem all_mk {P : Program} {w : World} {K : PySem.W.Frag} {h : Heap} {mg : Str → Option Value} {fa CR CM CD fRodI fAtL fAtR fRodL fRodR fMobI fBegins fHang fArms fPulls fLeast fScale fUp fMend fWants fWays fMissing fState fBal fAsRow fWithRow fMayBe fTells fRodsTold fShape fHung fAll fMost fLeastW fGcd fRedI fHasMore fTake fTakeRow fAnswers fBare fNext : Addr} (X : K.In h) (G : h.Ns mainGlobals mg) (hfa : mg "answers" = some (.ref fa))
    {tMOST_HOOKS tLONGEST_ARM tHEAVIEST : Tok}
    {odRodI anRodI odAtL anAtL odAtR anAtR odRodL anRodL odRodR anRodR odMobI anMobI odBegins anBegins odHang anHang odArms anArms odPulls anPulls odLeast anLeast odScale anScale odUp anUp odMend anMend odWants anWants odWays anWays odMissing anMissing odState anState odBal anBal odAsRow anAsRow odWithRow anWithRow odMayBe anMayBe odTells anTells odRodsTold anRodsTold odShape anShape odHung anHung odAll anAll odMost anMost odLeastW anLeastW odGcd anGcd odRedI anRedI odHasMore anHasMore odTake anTake odTakeRow anTakeRow odAnswers anAnswers odBare anBare odNext anNext : Option Addr} {slRodI slAtL slAtR slRodL slRodR slMobI slBegins slHang slArms slPulls slLeast slScale slUp slMend slWants slWays slMissing slState slBal slAsRow slWithRow slMayBe slTells slRodsTold slShape slHung slAll slMost slLeastW slGcd slRedI slHasMore slTake slTakeRow slAnswers slBare slNext : Array (Option Value)} {ocRodI kVRodI dcRodI pmRodI cdRodI ctRodI ocAtL kVAtL dcAtL pmAtL cdAtL ctAtL ocAtR kVAtR dcAtR pmAtR cdAtR ctAtR ocRodL kVRodL dcRodL pmRodL cdRodL ctRodL ocRodR kVRodR dcRodR pmRodR cdRodR ctRodR ocMobI kVMobI dcMobI pmMobI cdMobI ctMobI ocBegins kVBegins dcBegins pmBegins cdBegins ctBegins ocHang kVHang dcHang pmHang cdHang ctHang ocArms kVArms dcArms pmArms cdArms ctArms ocPulls kVPulls dcPulls pmPulls cdPulls ctPulls ocLeast kVLeast dcLeast pmLeast cdLeast ctLeast ocScale kVScale dcScale pmScale cdScale ctScale ocUp kVUp dcUp pmUp cdUp ctUp ocMend kVMend dcMend pmMend cdMend ctMend ocWants kVWants dcWants pmWants cdWants ctWants ocWays kVWays dcWays pmWays cdWays ctWays ocMissing kVMissing dcMissing pmMissing cdMissing ctMissing ocState kVState dcState pmState cdState ctState ocBal kVBal dcBal pmBal cdBal ctBal ocAsRow kVAsRow dcAsRow pmAsRow cdAsRow ctAsRow ocWithRow kVWithRow dcWithRow pmWithRow cdWithRow ctWithRow ocMayBe kVMayBe dcMayBe pmMayBe cdMayBe ctMayBe ocTells kVTells dcTells pmTells cdTells ctTells ocRodsTold kVRodsTold dcRodsTold pmRodsTold cdRodsTold ctRodsTold ocShape kVShape dcShape pmShape cdShape ctShape ocHung kVHung dcHung pmHung cdHung ctHung ocAll kVAll dcAll pmAll cdAll ctAll ocMost kVMost dcMost pmMost cdMost ctMost ocLeastW kVLeastW dcLeastW pmLeastW cdLeastW ctLeastW ocGcd kVGcd dcGcd pmGcd cdGcd ctGcd ocRedI kVRedI dcRedI pmRedI cdRedI ctRedI ocHasMore kVHasMore dcHasMore pmHasMore cdHasMore ctHasMore ocTake kVTake dcTake pmTake cdTake ctTake ocTakeRow kVTakeRow dcTakeRow pmTakeRow cdTakeRow ctTakeRow ocAnswers kVAnswers dcAnswers pmAnswers cdAnswers ctAnswers ocBare kVBare dcBare pmBare cdBare ctBare ocNext kVNext dcNext pmNext cdNext ctNext : Value}
    (aR : PySem.W.nsIn K mainGlobals "Rod" = some (some (.ref CR)))
    (pgR : PySem.W.plainGet K CR Str.empty = true)
    (hdR : PySem.W.hasDictIn K CR = true)
    (poR : PySem.W.plainOver K CR = true)
    (saR : PySem.W.findIn K (.ref CR) "__setattr__" = some (some (.builtin "object.__setattr__")))
    (mkR : PySem.W.makesIn K CR = true)
    (kcR : PySem.W.keepIn K (.ref CR) = true)
    (nRleft : PySem.W.findIn K (.ref CR) "left" = some none)
    (nRright : PySem.W.findIn K (.ref CR) "right" = some none)
    (nRfirst : PySem.W.findIn K (.ref CR) "first" = some none)
    (nRmiddle : PySem.W.findIn K (.ref CR) "middle" = some none)
    (nRbehind : PySem.W.findIn K (.ref CR) "behind" = some none)
    (aM : PySem.W.nsIn K mainGlobals "Mobile" = some (some (.ref CM)))
    (pgM : PySem.W.plainGet K CM Str.empty = true)
    (hdM : PySem.W.hasDictIn K CM = true)
    (poM : PySem.W.plainOver K CM = true)
    (saM : PySem.W.findIn K (.ref CM) "__setattr__" = some (some (.builtin "object.__setattr__")))
    (mkM : PySem.W.makesIn K CM = true)
    (kcM : PySem.W.keepIn K (.ref CM) = true)
    (nMrods : PySem.W.findIn K (.ref CM) "rods" = some none)
    (nMweights : PySem.W.findIn K (.ref CM) "weights" = some none)
    (aD : PySem.W.nsIn K mainGlobals "Reader" = some (some (.ref CD)))
    (pgD : PySem.W.plainGet K CD Str.empty = true)
    (hdD : PySem.W.hasDictIn K CD = true)
    (poD : PySem.W.plainOver K CD = true)
    (saD : PySem.W.findIn K (.ref CD) "__setattr__" = some (some (.builtin "object.__setattr__")))
    (mkD : PySem.W.makesIn K CD = true)
    (kcD : PySem.W.keepIn K (.ref CD) = true)
    (nDcalls : PySem.W.findIn K (.ref CD) "calls" = some none)
    (nDplace : PySem.W.findIn K (.ref CD) "place" = some none)
    (gMOST_HOOKS : PySem.W.nsIn K mainGlobals "MOST_HOOKS" = some (some (.int 7 tMOST_HOOKS)))
    (gLONGEST_ARM : PySem.W.nsIn K mainGlobals "LONGEST_ARM" = some (some (.int 20 tLONGEST_ARM)))
    (gHEAVIEST : PySem.W.nsIn K mainGlobals "HEAVIEST" = some (some (.int 1000000 tHEAVIEST)))
    (blen : PySem.W.nsIn K mainGlobals "len" = some none)
    (bsum : PySem.W.nsIn K mainGlobals "sum" = some none)
    (bany : PySem.W.nsIn K mainGlobals "any" = some none)
    (bmax : PySem.W.nsIn K mainGlobals "max" = some none)
    (bmin : PySem.W.nsIn K mainGlobals "min" = some none)
    (breversed : PySem.W.nsIn K mainGlobals "reversed" = some none)
    (brange : PySem.W.nsIn K mainGlobals "range" = some none)
    (blist : PySem.W.nsIn K mainGlobals "list" = some none)
    (bsorted : PySem.W.nsIn K mainGlobals "sorted" = some none)
    (bzip : PySem.W.nsIn K mainGlobals "zip" = some none)
    (benumerate : PySem.W.nsIn K mainGlobals "enumerate" = some none)
    (aRodI : PySem.W.findIn K (.ref CR) "__init__" = some (some (.ref fRodI)))
    (iRodI : PySem.W.isFn K (.ref fRodI) = true)
    (lRodI : K.lookup fRodI = some ⟨ocRodI, odRodI, .func (PySem.W.fnOf "__init__" "Rod.__init__" (defArgs sRodI) (defBody sRodI) (defScope sRodI) .none kVRodI dcRodI pmRodI anRodI cdRodI ctRodI), slRodI⟩)
    (cRodI : PySem.W.codeIn K cdRodI "Rod.__init__" = true)
    (kRodI : PySem.W.keepIn K (.ref fRodI) = true)
    (aAtL : PySem.W.findIn K (.ref CR) "at_left" = some (some (.ref fAtL)))
    (iAtL : PySem.W.isFn K (.ref fAtL) = true)
    (lAtL : K.lookup fAtL = some ⟨ocAtL, odAtL, .func (PySem.W.fnOf "at_left" "Rod.at_left" (defArgs sAtL) (defBody sAtL) (defScope sAtL) .none kVAtL dcAtL pmAtL anAtL cdAtL ctAtL), slAtL⟩)
    (cAtL : PySem.W.codeIn K cdAtL "Rod.at_left" = true)
    (kAtL : PySem.W.keepIn K (.ref fAtL) = true)
    (aAtR : PySem.W.findIn K (.ref CR) "at_right" = some (some (.ref fAtR)))
    (iAtR : PySem.W.isFn K (.ref fAtR) = true)
    (lAtR : K.lookup fAtR = some ⟨ocAtR, odAtR, .func (PySem.W.fnOf "at_right" "Rod.at_right" (defArgs sAtR) (defBody sAtR) (defScope sAtR) .none kVAtR dcAtR pmAtR anAtR cdAtR ctAtR), slAtR⟩)
    (cAtR : PySem.W.codeIn K cdAtR "Rod.at_right" = true)
    (kAtR : PySem.W.keepIn K (.ref fAtR) = true)
    (aRodL : PySem.W.findIn K (.ref CR) "left_pull" = some (some (.ref fRodL)))
    (iRodL : PySem.W.isFn K (.ref fRodL) = true)
    (lRodL : K.lookup fRodL = some ⟨ocRodL, odRodL, .func (PySem.W.fnOf "left_pull" "Rod.left_pull" (defArgs sRodL) (defBody sRodL) (defScope sRodL) .none kVRodL dcRodL pmRodL anRodL cdRodL ctRodL), slRodL⟩)
    (cRodL : PySem.W.codeIn K cdRodL "Rod.left_pull" = true)
    (kRodL : PySem.W.keepIn K (.ref fRodL) = true)
    (aRodR : PySem.W.findIn K (.ref CR) "right_pull" = some (some (.ref fRodR)))
    (iRodR : PySem.W.isFn K (.ref fRodR) = true)
    (lRodR : K.lookup fRodR = some ⟨ocRodR, odRodR, .func (PySem.W.fnOf "right_pull" "Rod.right_pull" (defArgs sRodR) (defBody sRodR) (defScope sRodR) .none kVRodR dcRodR pmRodR anRodR cdRodR ctRodR), slRodR⟩)
    (cRodR : PySem.W.codeIn K cdRodR "Rod.right_pull" = true)
    (kRodR : PySem.W.keepIn K (.ref fRodR) = true)
    (aMobI : PySem.W.findIn K (.ref CM) "__init__" = some (some (.ref fMobI)))
    (iMobI : PySem.W.isFn K (.ref fMobI) = true)
    (lMobI : K.lookup fMobI = some ⟨ocMobI, odMobI, .func (PySem.W.fnOf "__init__" "Mobile.__init__" (defArgs sMobI) (defBody sMobI) (defScope sMobI) .none kVMobI dcMobI pmMobI anMobI cdMobI ctMobI), slMobI⟩)
    (cMobI : PySem.W.codeIn K cdMobI "Mobile.__init__" = true)
    (kMobI : PySem.W.keepIn K (.ref fMobI) = true)
    (aBegins : PySem.W.findIn K (.ref CM) "begins" = some (some (.ref fBegins)))
    (iBegins : PySem.W.isFn K (.ref fBegins) = true)
    (lBegins : K.lookup fBegins = some ⟨ocBegins, odBegins, .func (PySem.W.fnOf "begins" "Mobile.begins" (defArgs sBegins) (defBody sBegins) (defScope sBegins) .none kVBegins dcBegins pmBegins anBegins cdBegins ctBegins), slBegins⟩)
    (cBegins : PySem.W.codeIn K cdBegins "Mobile.begins" = true)
    (kBegins : PySem.W.keepIn K (.ref fBegins) = true)
    (aHang : PySem.W.findIn K (.ref CM) "hang" = some (some (.ref fHang)))
    (iHang : PySem.W.isFn K (.ref fHang) = true)
    (lHang : K.lookup fHang = some ⟨ocHang, odHang, .func (PySem.W.fnOf "hang" "Mobile.hang" (defArgs sHang) (defBody sHang) (defScope sHang) .none kVHang dcHang pmHang anHang cdHang ctHang), slHang⟩)
    (cHang : PySem.W.codeIn K cdHang "Mobile.hang" = true)
    (kHang : PySem.W.keepIn K (.ref fHang) = true)
    (aArms : PySem.W.findIn K (.ref CM) "arms" = some (some (.ref fArms)))
    (iArms : PySem.W.isFn K (.ref fArms) = true)
    (lArms : K.lookup fArms = some ⟨ocArms, odArms, .func (PySem.W.fnOf "arms" "Mobile.arms" (defArgs sArms) (defBody sArms) (defScope sArms) .none kVArms dcArms pmArms anArms cdArms ctArms), slArms⟩)
    (cArms : PySem.W.codeIn K cdArms "Mobile.arms" = true)
    (kArms : PySem.W.keepIn K (.ref fArms) = true)
    (aPulls : PySem.W.findIn K (.ref CM) "pulls" = some (some (.ref fPulls)))
    (iPulls : PySem.W.isFn K (.ref fPulls) = true)
    (lPulls : K.lookup fPulls = some ⟨ocPulls, odPulls, .func (PySem.W.fnOf "pulls" "Mobile.pulls" (defArgs sPulls) (defBody sPulls) (defScope sPulls) .none kVPulls dcPulls pmPulls anPulls cdPulls ctPulls), slPulls⟩)
    (cPulls : PySem.W.codeIn K cdPulls "Mobile.pulls" = true)
    (kPulls : PySem.W.keepIn K (.ref fPulls) = true)
    (aLeast : PySem.W.findIn K (.ref CM) "least" = some (some (.ref fLeast)))
    (iLeast : PySem.W.isFn K (.ref fLeast) = true)
    (lLeast : K.lookup fLeast = some ⟨ocLeast, odLeast, .func (PySem.W.fnOf "least" "Mobile.least" (defArgs sLeast) (defBody sLeast) (defScope sLeast) .none kVLeast dcLeast pmLeast anLeast cdLeast ctLeast), slLeast⟩)
    (cLeast : PySem.W.codeIn K cdLeast "Mobile.least" = true)
    (kLeast : PySem.W.keepIn K (.ref fLeast) = true)
    (aScale : PySem.W.findIn K (.ref CM) "scale" = some (some (.ref fScale)))
    (iScale : PySem.W.isFn K (.ref fScale) = true)
    (lScale : K.lookup fScale = some ⟨ocScale, odScale, .func (PySem.W.fnOf "scale" "Mobile.scale" (defArgs sScale) (defBody sScale) (defScope sScale) .none kVScale dcScale pmScale anScale cdScale ctScale), slScale⟩)
    (cScale : PySem.W.codeIn K cdScale "Mobile.scale" = true)
    (kScale : PySem.W.keepIn K (.ref fScale) = true)
    (aUp : PySem.W.findIn K (.ref CM) "up" = some (some (.ref fUp)))
    (iUp : PySem.W.isFn K (.ref fUp) = true)
    (lUp : K.lookup fUp = some ⟨ocUp, odUp, .func (PySem.W.fnOf "up" "Mobile.up" (defArgs sUp) (defBody sUp) (defScope sUp) .none kVUp dcUp pmUp anUp cdUp ctUp), slUp⟩)
    (cUp : PySem.W.codeIn K cdUp "Mobile.up" = true)
    (kUp : PySem.W.keepIn K (.ref fUp) = true)
    (aMend : PySem.W.findIn K (.ref CM) "mend" = some (some (.ref fMend)))
    (iMend : PySem.W.isFn K (.ref fMend) = true)
    (lMend : K.lookup fMend = some ⟨ocMend, odMend, .func (PySem.W.fnOf "mend" "Mobile.mend" (defArgs sMend) (defBody sMend) (defScope sMend) .none kVMend dcMend pmMend anMend cdMend ctMend), slMend⟩)
    (cMend : PySem.W.codeIn K cdMend "Mobile.mend" = true)
    (kMend : PySem.W.keepIn K (.ref fMend) = true)
    (aWants : PySem.W.findIn K (.ref CM) "wants" = some (some (.ref fWants)))
    (iWants : PySem.W.isFn K (.ref fWants) = true)
    (lWants : K.lookup fWants = some ⟨ocWants, odWants, .func (PySem.W.fnOf "wants" "Mobile.wants" (defArgs sWants) (defBody sWants) (defScope sWants) .none kVWants dcWants pmWants anWants cdWants ctWants), slWants⟩)
    (cWants : PySem.W.codeIn K cdWants "Mobile.wants" = true)
    (kWants : PySem.W.keepIn K (.ref fWants) = true)
    (aWays : PySem.W.findIn K (.ref CM) "ways" = some (some (.ref fWays)))
    (iWays : PySem.W.isFn K (.ref fWays) = true)
    (lWays : K.lookup fWays = some ⟨ocWays, odWays, .func (PySem.W.fnOf "ways" "Mobile.ways" (defArgs sWays) (defBody sWays) (defScope sWays) .none kVWays dcWays pmWays anWays cdWays ctWays), slWays⟩)
    (cWays : PySem.W.codeIn K cdWays "Mobile.ways" = true)
    (kWays : PySem.W.keepIn K (.ref fWays) = true)
    (aMissing : PySem.W.findIn K (.ref CM) "missing" = some (some (.ref fMissing)))
    (iMissing : PySem.W.isFn K (.ref fMissing) = true)
    (lMissing : K.lookup fMissing = some ⟨ocMissing, odMissing, .func (PySem.W.fnOf "missing" "Mobile.missing" (defArgs sMissing) (defBody sMissing) (defScope sMissing) .none kVMissing dcMissing pmMissing anMissing cdMissing ctMissing), slMissing⟩)
    (cMissing : PySem.W.codeIn K cdMissing "Mobile.missing" = true)
    (kMissing : PySem.W.keepIn K (.ref fMissing) = true)
    (aState : PySem.W.findIn K (.ref CM) "state" = some (some (.ref fState)))
    (iState : PySem.W.isFn K (.ref fState) = true)
    (lState : K.lookup fState = some ⟨ocState, odState, .func (PySem.W.fnOf "state" "Mobile.state" (defArgs sState) (defBody sState) (defScope sState) .none kVState dcState pmState anState cdState ctState), slState⟩)
    (cState : PySem.W.codeIn K cdState "Mobile.state" = true)
    (kState : PySem.W.keepIn K (.ref fState) = true)
    (aBal : PySem.W.findIn K (.ref CM) "balancing" = some (some (.ref fBal)))
    (iBal : PySem.W.isFn K (.ref fBal) = true)
    (lBal : K.lookup fBal = some ⟨ocBal, odBal, .func (PySem.W.fnOf "balancing" "Mobile.balancing" (defArgs sBal) (defBody sBal) (defScope sBal) .none kVBal dcBal pmBal anBal cdBal ctBal), slBal⟩)
    (cBal : PySem.W.codeIn K cdBal "Mobile.balancing" = true)
    (kBal : PySem.W.keepIn K (.ref fBal) = true)
    (aAsRow : PySem.W.nsIn K mainGlobals "as_row" = some (some (.ref fAsRow)))
    (lAsRow : K.lookup fAsRow = some ⟨ocAsRow, odAsRow, .func (PySem.W.fnOf "as_row" "as_row" (defArgs sAsRow) (defBody sAsRow) (defScope sAsRow) .none kVAsRow dcAsRow pmAsRow anAsRow cdAsRow ctAsRow), slAsRow⟩)
    (cAsRow : PySem.W.codeIn K cdAsRow "as_row" = true)
    (kAsRow : PySem.W.keepIn K (.ref fAsRow) = true)
    (aWithRow : PySem.W.nsIn K mainGlobals "with_row" = some (some (.ref fWithRow)))
    (lWithRow : K.lookup fWithRow = some ⟨ocWithRow, odWithRow, .func (PySem.W.fnOf "with_row" "with_row" (defArgs sWithRow) (defBody sWithRow) (defScope sWithRow) .none kVWithRow dcWithRow pmWithRow anWithRow cdWithRow ctWithRow), slWithRow⟩)
    (cWithRow : PySem.W.codeIn K cdWithRow "with_row" = true)
    (kWithRow : PySem.W.keepIn K (.ref fWithRow) = true)
    (aMayBe : PySem.W.nsIn K mainGlobals "may_be_arms" = some (some (.ref fMayBe)))
    (lMayBe : K.lookup fMayBe = some ⟨ocMayBe, odMayBe, .func (PySem.W.fnOf "may_be_arms" "may_be_arms" (defArgs sMayBe) (defBody sMayBe) (defScope sMayBe) .none kVMayBe dcMayBe pmMayBe anMayBe cdMayBe ctMayBe), slMayBe⟩)
    (cMayBe : PySem.W.codeIn K cdMayBe "may_be_arms" = true)
    (kMayBe : PySem.W.keepIn K (.ref fMayBe) = true)
    (aTells : PySem.W.nsIn K mainGlobals "tells_one_mobile" = some (some (.ref fTells)))
    (lTells : K.lookup fTells = some ⟨ocTells, odTells, .func (PySem.W.fnOf "tells_one_mobile" "tells_one_mobile" (defArgs sTells) (defBody sTells) (defScope sTells) .none kVTells dcTells pmTells anTells cdTells ctTells), slTells⟩)
    (cTells : PySem.W.codeIn K cdTells "tells_one_mobile" = true)
    (kTells : PySem.W.keepIn K (.ref fTells) = true)
    (aRodsTold : PySem.W.nsIn K mainGlobals "rods_told" = some (some (.ref fRodsTold)))
    (lRodsTold : K.lookup fRodsTold = some ⟨ocRodsTold, odRodsTold, .func (PySem.W.fnOf "rods_told" "rods_told" (defArgs sRodsTold) (defBody sRodsTold) (defScope sRodsTold) .none kVRodsTold dcRodsTold pmRodsTold anRodsTold cdRodsTold ctRodsTold), slRodsTold⟩)
    (cRodsTold : PySem.W.codeIn K cdRodsTold "rods_told" = true)
    (kRodsTold : PySem.W.keepIn K (.ref fRodsTold) = true)
    (aShape : PySem.W.nsIn K mainGlobals "shape_told" = some (some (.ref fShape)))
    (lShape : K.lookup fShape = some ⟨ocShape, odShape, .func (PySem.W.fnOf "shape_told" "shape_told" (defArgs sShape) (defBody sShape) (defScope sShape) .none kVShape dcShape pmShape anShape cdShape ctShape), slShape⟩)
    (cShape : PySem.W.codeIn K cdShape "shape_told" = true)
    (kShape : PySem.W.keepIn K (.ref fShape) = true)
    (aHung : PySem.W.nsIn K mainGlobals "times_hung" = some (some (.ref fHung)))
    (lHung : K.lookup fHung = some ⟨ocHung, odHung, .func (PySem.W.fnOf "times_hung" "times_hung" (defArgs sHung) (defBody sHung) (defScope sHung) .none kVHung dcHung pmHung anHung cdHung ctHung), slHung⟩)
    (cHung : PySem.W.codeIn K cdHung "times_hung" = true)
    (kHung : PySem.W.keepIn K (.ref fHung) = true)
    (aAll : PySem.W.nsIn K mainGlobals "times_of_all" = some (some (.ref fAll)))
    (lAll : K.lookup fAll = some ⟨ocAll, odAll, .func (PySem.W.fnOf "times_of_all" "times_of_all" (defArgs sAll) (defBody sAll) (defScope sAll) .none kVAll dcAll pmAll anAll cdAll ctAll), slAll⟩)
    (cAll : PySem.W.codeIn K cdAll "times_of_all" = true)
    (kAll : PySem.W.keepIn K (.ref fAll) = true)
    (aMost : PySem.W.nsIn K mainGlobals "times_of_most" = some (some (.ref fMost)))
    (lMost : K.lookup fMost = some ⟨ocMost, odMost, .func (PySem.W.fnOf "times_of_most" "times_of_most" (defArgs sMost) (defBody sMost) (defScope sMost) .none kVMost dcMost pmMost anMost cdMost ctMost), slMost⟩)
    (cMost : PySem.W.codeIn K cdMost "times_of_most" = true)
    (kMost : PySem.W.keepIn K (.ref fMost) = true)
    (aLeastW : PySem.W.nsIn K mainGlobals "least_weights" = some (some (.ref fLeastW)))
    (lLeastW : K.lookup fLeastW = some ⟨ocLeastW, odLeastW, .func (PySem.W.fnOf "least_weights" "least_weights" (defArgs sLeastW) (defBody sLeastW) (defScope sLeastW) .none kVLeastW dcLeastW pmLeastW anLeastW cdLeastW ctLeastW), slLeastW⟩)
    (cLeastW : PySem.W.codeIn K cdLeastW "least_weights" = true)
    (kLeastW : PySem.W.keepIn K (.ref fLeastW) = true)
    (aGcd : PySem.W.nsIn K mainGlobals "greatest_divisor" = some (some (.ref fGcd)))
    (lGcd : K.lookup fGcd = some ⟨ocGcd, odGcd, .func (PySem.W.fnOf "greatest_divisor" "greatest_divisor" (defArgs sGcd) (defBody sGcd) (defScope sGcd) .none kVGcd dcGcd pmGcd anGcd cdGcd ctGcd), slGcd⟩)
    (cGcd : PySem.W.codeIn K cdGcd "greatest_divisor" = true)
    (kGcd : PySem.W.keepIn K (.ref fGcd) = true)
    (aRedI : PySem.W.findIn K (.ref CD) "__init__" = some (some (.ref fRedI)))
    (iRedI : PySem.W.isFn K (.ref fRedI) = true)
    (lRedI : K.lookup fRedI = some ⟨ocRedI, odRedI, .func (PySem.W.fnOf "__init__" "Reader.__init__" (defArgs sReadI) (defBody sReadI) (defScope sReadI) .none kVRedI dcRedI pmRedI anRedI cdRedI ctRedI), slRedI⟩)
    (cRedI : PySem.W.codeIn K cdRedI "Reader.__init__" = true)
    (kRedI : PySem.W.keepIn K (.ref fRedI) = true)
    (aHasMore : PySem.W.findIn K (.ref CD) "has_more" = some (some (.ref fHasMore)))
    (iHasMore : PySem.W.isFn K (.ref fHasMore) = true)
    (lHasMore : K.lookup fHasMore = some ⟨ocHasMore, odHasMore, .func (PySem.W.fnOf "has_more" "Reader.has_more" (defArgs sHasMore) (defBody sHasMore) (defScope sHasMore) .none kVHasMore dcHasMore pmHasMore anHasMore cdHasMore ctHasMore), slHasMore⟩)
    (cHasMore : PySem.W.codeIn K cdHasMore "Reader.has_more" = true)
    (kHasMore : PySem.W.keepIn K (.ref fHasMore) = true)
    (aTake : PySem.W.findIn K (.ref CD) "take" = some (some (.ref fTake)))
    (iTake : PySem.W.isFn K (.ref fTake) = true)
    (lTake : K.lookup fTake = some ⟨ocTake, odTake, .func (PySem.W.fnOf "take" "Reader.take" (defArgs sTake) (defBody sTake) (defScope sTake) .none kVTake dcTake pmTake anTake cdTake ctTake), slTake⟩)
    (cTake : PySem.W.codeIn K cdTake "Reader.take" = true)
    (kTake : PySem.W.keepIn K (.ref fTake) = true)
    (aTakeRow : PySem.W.findIn K (.ref CD) "take_row" = some (some (.ref fTakeRow)))
    (iTakeRow : PySem.W.isFn K (.ref fTakeRow) = true)
    (lTakeRow : K.lookup fTakeRow = some ⟨ocTakeRow, odTakeRow, .func (PySem.W.fnOf "take_row" "Reader.take_row" (defArgs sTakeRow) (defBody sTakeRow) (defScope sTakeRow) .none kVTakeRow dcTakeRow pmTakeRow anTakeRow cdTakeRow ctTakeRow), slTakeRow⟩)
    (cTakeRow : PySem.W.codeIn K cdTakeRow "Reader.take_row" = true)
    (kTakeRow : PySem.W.keepIn K (.ref fTakeRow) = true)
    (aAnswers : PySem.W.nsIn K mainGlobals "answers" = some (some (.ref fAnswers)))
    (lAnswers : K.lookup fAnswers = some ⟨ocAnswers, odAnswers, .func (PySem.W.fnOf "answers" "answers" (defArgs sAnswers) (defBody sAnswers) (defScope sAnswers) .none kVAnswers dcAnswers pmAnswers anAnswers cdAnswers ctAnswers), slAnswers⟩)
    (cAnswers : PySem.W.codeIn K cdAnswers "answers" = true)
    (kAnswers : PySem.W.keepIn K (.ref fAnswers) = true)
    (aBare : PySem.W.nsIn K mainGlobals "answer_bare" = some (some (.ref fBare)))
    (lBare : K.lookup fBare = some ⟨ocBare, odBare, .func (PySem.W.fnOf "answer_bare" "answer_bare" (defArgs sBare) (defBody sBare) (defScope sBare) .none kVBare dcBare pmBare anBare cdBare ctBare), slBare⟩)
    (cBare : PySem.W.codeIn K cdBare "answer_bare" = true)
    (kBare : PySem.W.keepIn K (.ref fBare) = true)
    (aNext : PySem.W.nsIn K mainGlobals "answer_next" = some (some (.ref fNext)))
    (lNext : K.lookup fNext = some ⟨ocNext, odNext, .func (PySem.W.fnOf "answer_next" "answer_next" (defArgs sNext) (defBody sNext) (defScope sNext) .none kVNext dcNext pmNext anNext cdNext ctNext), slNext⟩)
    (cNext : PySem.W.codeIn K cdNext "answer_next" = true)
    (kNext : PySem.W.keepIn K (.ref fNext) = true)
    : ∃ fd : FuncData, (∀ (s : Shared) (us : List Value), us.length = (["calls"] : List Str).length → BindsTo s fd ⟨us, []⟩ ((["calls"] : List Str).zip us)) ∧ ∀ base : Heap, K.In base → base.Ns mainGlobals mg → FnOk P w K mg base CX0 8 fa fd ["calls"] (spAns K) := by
  have e := hfa.symm.trans (PySem.W.mg_of X G aAnswers)
  cases e
  have TR : RodTxt K CR := ⟨⟨pgR, hdR, poR, saR⟩, nRleft, nRright, nRfirst, nRmiddle, nRbehind⟩
  have gRod := PySem.W.mg_of X G aR
  have TM : MobTxt K CM := ⟨⟨pgM, hdM, poM, saM⟩, nMrods, nMweights⟩
  have gMobile := PySem.W.mg_of X G aM
  have TD : RedTxt K CD := ⟨⟨pgD, hdD, poD, saD⟩, nDcalls, nDplace⟩
  have gReader := PySem.W.mg_of X G aD
  have mMOST_HOOKS := PySem.W.mg_of X G gMOST_HOOKS
  have mLONGEST_ARM := PySem.W.mg_of X G gLONGEST_ARM
  have mHEAVIEST := PySem.W.mg_of X G gHEAVIEST
  have mlen := PySem.W.mg_none_of X G blen
  have msum := PySem.W.mg_none_of X G bsum
  have many := PySem.W.mg_none_of X G bany
  have mmax := PySem.W.mg_none_of X G bmax
  have mmin := PySem.W.mg_none_of X G bmin
  have mreversed := PySem.W.mg_none_of X G breversed
  have mrange := PySem.W.mg_none_of X G brange
  have mlist := PySem.W.mg_none_of X G blist
  have msorted := PySem.W.mg_none_of X G bsorted
  have mzip := PySem.W.mg_none_of X G bzip
  have menumerate := PySem.W.mg_none_of X G benumerate
  have FRodI := fun_mk (st := sRodI) lRodI cRodI kRodI
  have BRodI := FRodI.binds (ps := ["self", "left", "right", "first", "middle", "behind"]) fun _ _ _ _ _ _ us hl => match us, hl with | [_, _, _, _, _, _], _ => rfl
  have MRodI : Mk K CR fRodI := ⟨mkR, aRodI, iRodI, kcR⟩
  have FAtL := fun_mk (st := sAtL) lAtL cAtL kAtL
  have BAtL := FAtL.binds (ps := ["self", "weights"]) fun _ _ _ _ _ _ us hl => match us, hl with | [_, _], _ => rfl
  have MAtL : Meth K CR "at_left" fAtL := ⟨aAtL, iAtL, kAtL⟩
  have FAtR := fun_mk (st := sAtR) lAtR cAtR kAtR
  have BAtR := FAtR.binds (ps := ["self", "weights"]) fun _ _ _ _ _ _ us hl => match us, hl with | [_, _], _ => rfl
  have MAtR : Meth K CR "at_right" fAtR := ⟨aAtR, iAtR, kAtR⟩
  have FRodL := fun_mk (st := sRodL) lRodL cRodL kRodL
  have BRodL := FRodL.binds (ps := ["self", "weights"]) fun _ _ _ _ _ _ us hl => match us, hl with | [_, _], _ => rfl
  have MRodL : Meth K CR "left_pull" fRodL := ⟨aRodL, iRodL, kRodL⟩
  have FRodR := fun_mk (st := sRodR) lRodR cRodR kRodR
  have BRodR := FRodR.binds (ps := ["self", "weights"]) fun _ _ _ _ _ _ us hl => match us, hl with | [_, _], _ => rfl
  have MRodR : Meth K CR "right_pull" fRodR := ⟨aRodR, iRodR, kRodR⟩
  have FMobI := fun_mk (st := sMobI) lMobI cMobI kMobI
  have BMobI := FMobI.binds (ps := ["self"]) fun _ _ _ _ _ _ us hl => match us, hl with | [_], _ => rfl
  have MMobI : Mk K CM fMobI := ⟨mkM, aMobI, iMobI, kcM⟩
  have FBegins := fun_mk (st := sBegins) lBegins cBegins kBegins
  have BBegins := FBegins.binds (ps := ["self", "shape"]) fun _ _ _ _ _ _ us hl => match us, hl with | [_, _], _ => rfl
  have MBegins : Meth K CM "begins" fBegins := ⟨aBegins, iBegins, kBegins⟩
  have FHang := fun_mk (st := sHang) lHang cHang kHang
  have BHang := FHang.binds (ps := ["self", "hook", "weight"]) fun _ _ _ _ _ _ us hl => match us, hl with | [_, _, _], _ => rfl
  have MHang : Meth K CM "hang" fHang := ⟨aHang, iHang, kHang⟩
  have FArms := fun_mk (st := sArms) lArms cArms kArms
  have BArms := FArms.binds (ps := ["self", "rod", "left", "right"]) fun _ _ _ _ _ _ us hl => match us, hl with | [_, _, _, _], _ => rfl
  have MArms : Meth K CM "arms" fArms := ⟨aArms, iArms, kArms⟩
  have FPulls := fun_mk (st := sPulls) lPulls cPulls kPulls
  have BPulls := FPulls.binds (ps := ["self"]) fun _ _ _ _ _ _ us hl => match us, hl with | [_], _ => rfl
  have MPulls : Meth K CM "pulls" fPulls := ⟨aPulls, iPulls, kPulls⟩
  have FLeast := fun_mk (st := sLeast) lLeast cLeast kLeast
  have BLeast := FLeast.binds (ps := ["self"]) fun _ _ _ _ _ _ us hl => match us, hl with | [_], _ => rfl
  have MLeast : Meth K CM "least" fLeast := ⟨aLeast, iLeast, kLeast⟩
  have FScale := fun_mk (st := sScale) lScale cScale kScale
  have BScale := FScale.binds (ps := ["self", "times"]) fun _ _ _ _ _ _ us hl => match us, hl with | [_, _], _ => rfl
  have MScale : Meth K CM "scale" fScale := ⟨aScale, iScale, kScale⟩
  have FUp := fun_mk (st := sUp) lUp cUp kUp
  have BUp := FUp.binds (ps := ["self"]) fun _ _ _ _ _ _ us hl => match us, hl with | [_], _ => rfl
  have MUp : Meth K CM "up" fUp := ⟨aUp, iUp, kUp⟩
  have FMend := fun_mk (st := sMend) lMend cMend kMend
  have BMend := FMend.binds (ps := ["self"]) fun _ _ _ _ _ _ us hl => match us, hl with | [_], _ => rfl
  have MMend : Meth K CM "mend" fMend := ⟨aMend, iMend, kMend⟩
  have FWants := fun_mk (st := sWants) lWants cWants kWants
  have BWants := FWants.binds (ps := ["self"]) fun _ _ _ _ _ _ us hl => match us, hl with | [_], _ => rfl
  have MWants : Meth K CM "wants" fWants := ⟨aWants, iWants, kWants⟩
  have FWays := fun_mk (st := sWays) lWays cWays kWays
  have BWays := FWays.binds (ps := ["self", "others", "weights"]) fun _ _ _ _ _ _ us hl => match us, hl with | [_, _, _], _ => rfl
  have MWays : Meth K CM "ways" fWays := ⟨aWays, iWays, kWays⟩
  have FMissing := fun_mk (st := sMissing) lMissing cMissing kMissing
  have BMissing := FMissing.binds (ps := ["self", "hook"]) fun _ _ _ _ _ _ us hl => match us, hl with | [_, _], _ => rfl
  have MMissing : Meth K CM "missing" fMissing := ⟨aMissing, iMissing, kMissing⟩
  have FState := fun_mk (st := sState) lState cState kState
  have BState := FState.binds (ps := ["self"]) fun _ _ _ _ _ _ us hl => match us, hl with | [_], _ => rfl
  have MState : Meth K CM "state" fState := ⟨aState, iState, kState⟩
  have FBal := fun_mk (st := sBal) lBal cBal kBal
  have BBal := FBal.binds (ps := ["self", "times"]) fun _ _ _ _ _ _ us hl => match us, hl with | [_, _], _ => rfl
  have MBal : Meth K CM "balancing" fBal := ⟨aBal, iBal, kBal⟩
  have FAsRow := fun_mk (st := sAsRow) lAsRow cAsRow kAsRow
  have BAsRow := FAsRow.binds (ps := ["row"]) fun _ _ _ _ _ _ us hl => match us, hl with | [_], _ => rfl
  have gAsRow := PySem.W.mg_of X G aAsRow
  have FWithRow := fun_mk (st := sWithRow) lWithRow cWithRow kWithRow
  have BWithRow := FWithRow.binds (ps := ["number", "row"]) fun _ _ _ _ _ _ us hl => match us, hl with | [_, _], _ => rfl
  have gWithRow := PySem.W.mg_of X G aWithRow
  have FMayBe := fun_mk (st := sMayBe) lMayBe cMayBe kMayBe
  have BMayBe := FMayBe.binds (ps := ["left", "right"]) fun _ _ _ _ _ _ us hl => match us, hl with | [_, _], _ => rfl
  have gMayBe := PySem.W.mg_of X G aMayBe
  have FTells := fun_mk (st := sTells) lTells cTells kTells
  have BTells := FTells.binds (ps := ["shape"]) fun _ _ _ _ _ _ us hl => match us, hl with | [_], _ => rfl
  have gTells := PySem.W.mg_of X G aTells
  have FRodsTold := fun_mk (st := sRodsTold) lRodsTold cRodsTold kRodsTold
  have BRodsTold := FRodsTold.binds (ps := ["shape"]) fun _ _ _ _ _ _ us hl => match us, hl with | [_], _ => rfl
  have gRodsTold := PySem.W.mg_of X G aRodsTold
  have FShape := fun_mk (st := sShape) lShape cShape kShape
  have BShape := FShape.binds (ps := ["rods", "hooks"]) fun _ _ _ _ _ _ us hl => match us, hl with | [_, _], _ => rfl
  have gShape := PySem.W.mg_of X G aShape
  have FHung := fun_mk (st := sHung) lHung cHung kHung
  have BHung := FHung.binds (ps := ["weights", "least"]) fun _ _ _ _ _ _ us hl => match us, hl with | [_, _], _ => rfl
  have gHung := PySem.W.mg_of X G aHung
  have FAll := fun_mk (st := sAll) lAll cAll kAll
  have BAll := FAll.binds (ps := ["weights", "least"]) fun _ _ _ _ _ _ us hl => match us, hl with | [_, _], _ => rfl
  have gAll := PySem.W.mg_of X G aAll
  have FMost := fun_mk (st := sMost) lMost cMost kMost
  have BMost := FMost.binds (ps := ["weights", "least"]) fun _ _ _ _ _ _ us hl => match us, hl with | [_, _], _ => rfl
  have gMost := PySem.W.mg_of X G aMost
  have FLeastW := fun_mk (st := sLeastW) lLeastW cLeastW kLeastW
  have BLeastW := FLeastW.binds (ps := ["rods", "hooks"]) fun _ _ _ _ _ _ us hl => match us, hl with | [_, _], _ => rfl
  have gLeastW := PySem.W.mg_of X G aLeastW
  have FGcd := fun_mk (st := sGcd) lGcd cGcd kGcd
  have BGcd := FGcd.binds (ps := ["one", "other"]) fun _ _ _ _ _ _ us hl => match us, hl with | [_, _], _ => rfl
  have gGcd := PySem.W.mg_of X G aGcd
  have FRedI := fun_mk (st := sReadI) lRedI cRedI kRedI
  have BRedI := FRedI.binds (ps := ["self", "calls"]) fun _ _ _ _ _ _ us hl => match us, hl with | [_, _], _ => rfl
  have MRedI : Mk K CD fRedI := ⟨mkD, aRedI, iRedI, kcD⟩
  have FHasMore := fun_mk (st := sHasMore) lHasMore cHasMore kHasMore
  have BHasMore := FHasMore.binds (ps := ["self"]) fun _ _ _ _ _ _ us hl => match us, hl with | [_], _ => rfl
  have MHasMore : Meth K CD "has_more" fHasMore := ⟨aHasMore, iHasMore, kHasMore⟩
  have FTake := fun_mk (st := sTake) lTake cTake kTake
  have BTake := FTake.binds (ps := ["self"]) fun _ _ _ _ _ _ us hl => match us, hl with | [_], _ => rfl
  have MTake : Meth K CD "take" fTake := ⟨aTake, iTake, kTake⟩
  have FTakeRow := fun_mk (st := sTakeRow) lTakeRow cTakeRow kTakeRow
  have BTakeRow := FTakeRow.binds (ps := ["self"]) fun _ _ _ _ _ _ us hl => match us, hl with | [_], _ => rfl
  have MTakeRow : Meth K CD "take_row" fTakeRow := ⟨aTakeRow, iTakeRow, kTakeRow⟩
  have FAnswers := fun_mk (st := sAnswers) lAnswers cAnswers kAnswers
  have BAnswers := FAnswers.binds (ps := ["calls"]) fun _ _ _ _ _ _ us hl => match us, hl with | [_], _ => rfl
  have gAnswers := PySem.W.mg_of X G aAnswers
  have FBare := fun_mk (st := sBare) lBare cBare kBare
  have BBare := FBare.binds (ps := ["mobile", "call"]) fun _ _ _ _ _ _ us hl => match us, hl with | [_, _], _ => rfl
  have gBare := PySem.W.mg_of X G aBare
  have FNext := fun_mk (st := sNext) lNext cNext kNext
  have BNext := FNext.binds (ps := ["mobile", "reader"]) fun _ _ _ _ _ _ us hl => match us, hl with | [_, _], _ => rfl
  have gNext := PySem.W.mg_of X G aNext
  refine ⟨PySem.W.fnOf "answers" "answers" (defArgs sAnswers) (defBody sAnswers) (defScope sAnswers) .none kVAnswers dcAnswers pmAnswers anAnswers cdAnswers ctAnswers, fun s us hu => match us, hu with | [_], _ => .of_eq rfl, fun base _ _ => ?_⟩
  have GRodI := ok_rodI (P := P) (w := w) (mg := mg) (base := base) FRodI TR
  have GAtL := ok_atL (P := P) (w := w) (mg := mg) (base := base) FAtL TR msum
  have GAtR := ok_atR (P := P) (w := w) (mg := mg) (base := base) FAtR TR msum
  have GRodL := ok_pullL (P := P) (w := w) (mg := mg) (base := base) FRodL TR MAtL BAtL GAtL
  have GRodR := ok_pullR (P := P) (w := w) (mg := mg) (base := base) FRodR TR MAtR BAtR GAtR
  have GGcd := ok_gcd (P := P) (w := w) (mg := mg) (base := base) FGcd
  have GMayBe := ok_mayBe (P := P) (w := w) (mg := mg) (base := base) FMayBe mLONGEST_ARM
  have GAsRow := ok_asRow (P := P) (w := w) (mg := mg) (base := base) FAsRow mlen
  have GWithRow := ok_withRow (P := P) (w := w) (mg := mg) (base := base) FWithRow gAsRow kAsRow BAsRow GAsRow
  have GTells := ok_tells (P := P) (w := w) (mg := mg) (base := base) FTells mlen gMayBe kMayBe BMayBe GMayBe
  have GRodsTold := ok_rodsTold (P := P) (w := w) (mg := mg) (base := base) FRodsTold TR mreversed mlen mlist gRod MRodI BRodI GRodI
  have GLeastW := ok_leastW (P := P) (w := w) (mg := mg) (base := base) FLeastW TR mreversed mrange MRodL BRodL GRodL MRodR BRodR GRodR gGcd kGcd BGcd GGcd
  have GMobI := ok_mobI (P := P) (w := w) (mg := mg) (base := base) (C := CR) FMobI TM
  have GBegins := ok_begins (P := P) (w := w) (mg := mg) (base := base) FBegins TM mMOST_HOOKS gTells kTells BTells GTells gRodsTold kRodsTold BRodsTold GRodsTold
  have GHang := ok_hang (P := P) (w := w) (mg := mg) (base := base) (C := CR) FHang TM mlen msum mHEAVIEST
  have GArms := ok_arms (P := P) (w := w) (mg := mg) (base := base) FArms TM TR mlen gMayBe kMayBe BMayBe GMayBe
  have GPulls := ok_pulls (P := P) (w := w) (mg := mg) (base := base) FPulls TM TR many MRodL BRodL GRodL MRodR BRodR GRodR gWithRow kWithRow BWithRow GWithRow
  have GBal := ok_bal (P := P) (w := w) (mg := mg) (base := base) FBal TM mlen gLeastW kLeastW BLeastW GLeastW
  have GLeast := ok_least (P := P) (w := w) (mg := mg) (base := base) FLeast TM msum MBal BBal GBal gWithRow kWithRow BWithRow GWithRow
  have GScale := ok_scale (P := P) (w := w) (mg := mg) (base := base) FScale TM msum mmax mHEAVIEST MBal BBal GBal
  have GHung := ok_hung (P := P) (w := w) (mg := mg) (base := base) FHung mzip
  have GAll := ok_all (P := P) (w := w) (mg := mg) (base := base) FAll mlen mmin mmax gHung kHung BHung GHung
  have GMost := ok_most (P := P) (w := w) (mg := mg) (base := base) FMost msorted gHung kHung BHung GHung
  have GUp := ok_up (P := P) (w := w) (mg := mg) (base := base) FUp TM MBal BBal GBal gAll kAll BAll GAll gWithRow kWithRow BWithRow GWithRow
  have GMend := ok_mend (P := P) (w := w) (mg := mg) (base := base) FMend TM mlen mmax menumerate mHEAVIEST MBal BBal GBal gMost kMost BMost GMost gWithRow kWithRow BWithRow GWithRow
  have GWants := ok_wants (P := P) (w := w) (mg := mg) (base := base) FWants TM TR mlen MAtL BAtL GAtL MAtR BAtR GAtR gGcd kGcd BGcd GGcd gWithRow kWithRow BWithRow GWithRow
  have GWays := ok_ways (P := P) (w := w) (mg := mg) (base := base) FWays TM mlen msum mmin mmax msorted mHEAVIEST MBal BBal GBal gWithRow kWithRow BWithRow GWithRow
  have GMissing := ok_missing (P := P) (w := w) (mg := mg) (base := base) FMissing TM mlen mlist MBal BBal GBal gAll kAll BAll GAll
  have GShape := ok_shape (P := P) (w := w) (mg := mg) (base := base) FShape TR
  have GState := ok_state (P := P) (w := w) (mg := mg) (base := base) FState TM mlen gShape kShape BShape GShape gAsRow kAsRow BAsRow GAsRow gWithRow kWithRow BWithRow GWithRow
  have GRedI := ok_redI (P := P) (w := w) (mg := mg) (base := base) FRedI TD
  have GHasMore := ok_hasMore (P := P) (w := w) (mg := mg) (base := base) FHasMore TD mlen
  have GTake := ok_take (P := P) (w := w) (mg := mg) (base := base) FTake TD
  have GTakeRow := ok_takeRow (P := P) (w := w) (mg := mg) (base := base) FTakeRow TD MTake BTake GTake
  have GBare := ok_bare (P := P) (w := w) (mg := mg) (base := base) FBare TM MPulls BPulls GPulls MLeast BLeast GLeast MUp BUp GUp MMend BMend GMend MWants BWants GWants MState BState GState
  have GNext := ok_next (P := P) (w := w) (mg := mg) (base := base) FNext TM TD MTake BTake GTake MTakeRow BTakeRow GTakeRow MBegins BBegins GBegins MHang BHang GHang MArms BArms GArms MScale BScale GScale MWays BWays GWays MMissing BMissing GMissing gBare kBare BBare GBare
  exact ok_ans FAnswers TD (by decide) mlen gReader MRedI BRedI GRedI gMobile MMobI BMobI GMobI MHasMore BHasMore GHasMore gNext kNext BNext GNext
end HMP
open PySem PySem.W PyProof.Rows
set_option maxRecDepth 100000 in
set_option maxHeartbeats 8000000 in
theorem PySem.Challenge.cw_hungmobile_s01_answers_holds : PySem.Challenge.rw_hungmobile_s01_answers.Holds := by
  w_on; k_headS; (case hw => exact ⟨[.list [.int 3]], by decide +kernel, by decide +kernel⟩)
  k_fillS
  refine L2.walk_specK (r := PySem.Challenge.rw_hungmobile_s01_answers) (k := 8) (CX := L2.CX0) (ps := ["calls"]) (sp := HMP.spAns) (by decide +kernel) rfl rfl ⟨rfl, by decide, by decide⟩ (fun w h Y => PySem.W.kIn_of Y) ?F ?S (fun _ _ _ _ z => z)
  case F =>
    intro w mg fa h Y KX G hmg
    refine' HMP.all_mk KX G hmg ?aR ?pgR ?hdR ?poR ?saR ?mkR ?kcR ?nRleft ?nRright ?nRfirst ?nRmiddle ?nRbehind ?aM ?pgM ?hdM ?poM ?saM ?mkM ?kcM ?nMrods ?nMweights ?aD ?pgD ?hdD ?poD ?saD ?mkD ?kcD ?nDcalls ?nDplace ?gMOST_HOOKS ?gLONGEST_ARM ?gHEAVIEST ?blen ?bsum ?bany ?bmax ?bmin ?breversed ?brange ?blist ?bsorted ?bzip ?benumerate ?aRodI ?iRodI ?lRodI ?cRodI ?kRodI ?aAtL ?iAtL ?lAtL ?cAtL ?kAtL ?aAtR ?iAtR ?lAtR ?cAtR ?kAtR ?aRodL ?iRodL ?lRodL ?cRodL ?kRodL ?aRodR ?iRodR ?lRodR ?cRodR ?kRodR ?aMobI ?iMobI ?lMobI ?cMobI ?kMobI ?aBegins ?iBegins ?lBegins ?cBegins ?kBegins ?aHang ?iHang ?lHang ?cHang ?kHang ?aArms ?iArms ?lArms ?cArms ?kArms ?aPulls ?iPulls ?lPulls ?cPulls ?kPulls ?aLeast ?iLeast ?lLeast ?cLeast ?kLeast ?aScale ?iScale ?lScale ?cScale ?kScale ?aUp ?iUp ?lUp ?cUp ?kUp ?aMend ?iMend ?lMend ?cMend ?kMend ?aWants ?iWants ?lWants ?cWants ?kWants ?aWays ?iWays ?lWays ?cWays ?kWays ?aMissing ?iMissing ?lMissing ?cMissing ?kMissing ?aState ?iState ?lState ?cState ?kState ?aBal ?iBal ?lBal ?cBal ?kBal ?aAsRow ?lAsRow ?cAsRow ?kAsRow ?aWithRow ?lWithRow ?cWithRow ?kWithRow ?aMayBe ?lMayBe ?cMayBe ?kMayBe ?aTells ?lTells ?cTells ?kTells ?aRodsTold ?lRodsTold ?cRodsTold ?kRodsTold ?aShape ?lShape ?cShape ?kShape ?aHung ?lHung ?cHung ?kHung ?aAll ?lAll ?cAll ?kAll ?aMost ?lMost ?cMost ?kMost ?aLeastW ?lLeastW ?cLeastW ?kLeastW ?aGcd ?lGcd ?cGcd ?kGcd ?aRedI ?iRedI ?lRedI ?cRedI ?kRedI ?aHasMore ?iHasMore ?lHasMore ?cHasMore ?kHasMore ?aTake ?iTake ?lTake ?cTake ?kTake ?aTakeRow ?iTakeRow ?lTakeRow ?cTakeRow ?kTakeRow ?aAnswers ?lAnswers ?cAnswers ?kAnswers ?aBare ?lBare ?cBare ?kBare ?aNext ?lNext ?cNext ?kNext
    (case aR => k_is)
    (case pgR => k_is)
    (case hdR => k_is)
    (case poR => k_is)
    (case saR => k_is)
    (case mkR => k_is)
    (case kcR => k_is)
    (case nRleft => k_is)
    (case nRright => k_is)
    (case nRfirst => k_is)
    (case nRmiddle => k_is)
    (case nRbehind => k_is)
    (case aM => k_is)
    (case pgM => k_is)
    (case hdM => k_is)
    (case poM => k_is)
    (case saM => k_is)
    (case mkM => k_is)
    (case kcM => k_is)
    (case nMrods => k_is)
    (case nMweights => k_is)
    (case aD => k_is)
    (case pgD => k_is)
    (case hdD => k_is)
    (case poD => k_is)
    (case saD => k_is)
    (case mkD => k_is)
    (case kcD => k_is)
    (case nDcalls => k_is)
    (case nDplace => k_is)
    (case gMOST_HOOKS => k_is)
    (case gLONGEST_ARM => k_is)
    (case gHEAVIEST => k_is)
    (case blen => k_is)
    (case bsum => k_is)
    (case bany => k_is)
    (case bmax => k_is)
    (case bmin => k_is)
    (case breversed => k_is)
    (case brange => k_is)
    (case blist => k_is)
    (case bsorted => k_is)
    (case bzip => k_is)
    (case benumerate => k_is)
    (case aRodI => k_is)
    (case iRodI => k_is)
    (case lRodI => k_is)
    (case cRodI => k_is)
    (case kRodI => k_is)
    (case aAtL => k_is)
    (case iAtL => k_is)
    (case lAtL => k_is)
    (case cAtL => k_is)
    (case kAtL => k_is)
    (case aAtR => k_is)
    (case iAtR => k_is)
    (case lAtR => k_is)
    (case cAtR => k_is)
    (case kAtR => k_is)
    (case aRodL => k_is)
    (case iRodL => k_is)
    (case lRodL => k_is)
    (case cRodL => k_is)
    (case kRodL => k_is)
    (case aRodR => k_is)
    (case iRodR => k_is)
    (case lRodR => k_is)
    (case cRodR => k_is)
    (case kRodR => k_is)
    (case aMobI => k_is)
    (case iMobI => k_is)
    (case lMobI => k_is)
    (case cMobI => k_is)
    (case kMobI => k_is)
    (case aBegins => k_is)
    (case iBegins => k_is)
    (case lBegins => k_is)
    (case cBegins => k_is)
    (case kBegins => k_is)
    (case aHang => k_is)
    (case iHang => k_is)
    (case lHang => k_is)
    (case cHang => k_is)
    (case kHang => k_is)
    (case aArms => k_is)
    (case iArms => k_is)
    (case lArms => k_is)
    (case cArms => k_is)
    (case kArms => k_is)
    (case aPulls => k_is)
    (case iPulls => k_is)
    (case lPulls => k_is)
    (case cPulls => k_is)
    (case kPulls => k_is)
    (case aLeast => k_is)
    (case iLeast => k_is)
    (case lLeast => k_is)
    (case cLeast => k_is)
    (case kLeast => k_is)
    (case aScale => k_is)
    (case iScale => k_is)
    (case lScale => k_is)
    (case cScale => k_is)
    (case kScale => k_is)
    (case aUp => k_is)
    (case iUp => k_is)
    (case lUp => k_is)
    (case cUp => k_is)
    (case kUp => k_is)
    (case aMend => k_is)
    (case iMend => k_is)
    (case lMend => k_is)
    (case cMend => k_is)
    (case kMend => k_is)
    (case aWants => k_is)
    (case iWants => k_is)
    (case lWants => k_is)
    (case cWants => k_is)
    (case kWants => k_is)
    (case aWays => k_is)
    (case iWays => k_is)
    (case lWays => k_is)
    (case cWays => k_is)
    (case kWays => k_is)
    (case aMissing => k_is)
    (case iMissing => k_is)
    (case lMissing => k_is)
    (case cMissing => k_is)
    (case kMissing => k_is)
    (case aState => k_is)
    (case iState => k_is)
    (case lState => k_is)
    (case cState => k_is)
    (case kState => k_is)
    (case aBal => k_is)
    (case iBal => k_is)
    (case lBal => k_is)
    (case cBal => k_is)
    (case kBal => k_is)
    (case aAsRow => k_is)
    (case lAsRow => k_is)
    (case cAsRow => k_is)
    (case kAsRow => k_is)
    (case aWithRow => k_is)
    (case lWithRow => k_is)
    (case cWithRow => k_is)
    (case kWithRow => k_is)
    (case aMayBe => k_is)
    (case lMayBe => k_is)
    (case cMayBe => k_is)
    (case kMayBe => k_is)
    (case aTells => k_is)
    (case lTells => k_is)
    (case cTells => k_is)
    (case kTells => k_is)
    (case aRodsTold => k_is)
    (case lRodsTold => k_is)
    (case cRodsTold => k_is)
    (case kRodsTold => k_is)
    (case aShape => k_is)
    (case lShape => k_is)
    (case cShape => k_is)
    (case kShape => k_is)
    (case aHung => k_is)
    (case lHung => k_is)
    (case cHung => k_is)
    (case kHung => k_is)
    (case aAll => k_is)
    (case lAll => k_is)
    (case cAll => k_is)
    (case kAll => k_is)
    (case aMost => k_is)
    (case lMost => k_is)
    (case cMost => k_is)
    (case kMost => k_is)
    (case aLeastW => k_is)
    (case lLeastW => k_is)
    (case cLeastW => k_is)
    (case kLeastW => k_is)
    (case aGcd => k_is)
    (case lGcd => k_is)
    (case cGcd => k_is)
    (case kGcd => k_is)
    (case aRedI => k_is)
    (case iRedI => k_is)
    (case lRedI => k_is)
    (case cRedI => k_is)
    (case kRedI => k_is)
    (case aHasMore => k_is)
    (case iHasMore => k_is)
    (case lHasMore => k_is)
    (case cHasMore => k_is)
    (case kHasMore => k_is)
    (case aTake => k_is)
    (case iTake => k_is)
    (case lTake => k_is)
    (case cTake => k_is)
    (case kTake => k_is)
    (case aTakeRow => k_is)
    (case iTakeRow => k_is)
    (case lTakeRow => k_is)
    (case cTakeRow => k_is)
    (case kTakeRow => k_is)
    (case aAnswers => k_is)
    (case lAnswers => k_is)
    (case cAnswers => k_is)
    (case kAnswers => k_is)
    (case aBare => k_is)
    (case lBare => k_is)
    (case cBare => k_is)
    (case kBare => k_is)
    (case aNext => k_is)
    (case lNext => k_is)
    (case cNext => k_is)
    (case kNext => k_is)
  case S =>
    intro K H xs a hO hwi hask hx
    cases hx with
    | cons h1 h2 =>
      cases h2
      cases h1 with
      | lst hs ha =>
        have e := L2.ints_dw a.1 _ ha
        subst e
        exact ⟨_, a.1, rfl, hs, hask, fun H' p hp => .lst (L2.SqL.of hp) (L2.dw_ints _)⟩
#print axioms PySem.Challenge.cw_hungmobile_s01_answers_holds
