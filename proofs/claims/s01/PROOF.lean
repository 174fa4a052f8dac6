import PyProof.Rows.All
import Wide.All
import OpenK.AllK
import Wide.FinOn
import Open.SpecLaws
import KE.OsGo
import HandS.ForSpec
import HandS.ForMost
import HandS.Wide
import HandS.WideBits
import HandS.CallLocal
import PySem.Challenge.RW_whopays_s01_answers
set_option Elab.async false
set_option linter.all false
set_option maxRecDepth 100000
/-! Determinants by rows, as needed for an elimination that stays whole. -/
namespace Wp
abbrev Vec := Nat → Rat
abbrev Form := List Nat → Rat

def wedge (r : Vec) : List Nat → Form → Rat
  | [], _ => 0
  | c :: C, F => r c * F C - wedge r C (fun C' => F (c :: C'))

theorem wedge_lin (r : Vec) (a b : Rat) : ∀ (C : List Nat) (F G : Form),
    wedge r C (fun C' => a * F C' + b * G C') = a * wedge r C F + b * wedge r C G
  | [], _, _ => by simp only [wedge]; grind
  | c :: C, F, G => by
    have h := wedge_lin r a b C (fun C' => F (c :: C')) (fun C' => G (c :: C'))
    simp only [wedge]
    rw [h]
    grind

theorem wedge_zero (r : Vec) : ∀ (C : List Nat), wedge r C (fun _ => 0) = 0
  | [] => rfl
  | c :: C => by simp only [wedge]; rw [wedge_zero r C]; grind

theorem wedge_vec (r s : Vec) (a b : Rat) : ∀ (C : List Nat) (F : Form),
    wedge (fun c => a * r c + b * s c) C F = a * wedge r C F + b * wedge s C F
  | [], _ => by simp only [wedge]; grind
  | c :: C, F => by
    have h := wedge_vec r s a b C (fun C' => F (c :: C'))
    simp only [wedge]
    rw [h]
    grind

theorem wedge_anti (r s : Vec) : ∀ (C : List Nat) (F : Form),
    wedge r C (fun C' => wedge s C' F) = - wedge s C (fun C' => wedge r C' F)
  | [], _ => by simp [wedge]
  | c :: C, F => by
    have h := wedge_anti r s C (fun C' => F (c :: C'))
    simp only [wedge]
    have e1 := wedge_lin r (s c) (-1) C F (fun C' => wedge s C' (fun C'' => F (c :: C'')))
    have e2 := wedge_lin s (r c) (-1) C F (fun C' => wedge r C' (fun C'' => F (c :: C'')))
    have d1 : (fun C' => s c * F C' - wedge s C' (fun C'' => F (c :: C''))) = (fun C' => s c * F C' + (-1) * wedge s C' (fun C'' => F (c :: C''))) := by
      funext C'; grind
    have d2 : (fun C' => r c * F C' - wedge r C' (fun C'' => F (c :: C''))) = (fun C' => r c * F C' + (-1) * wedge r C' (fun C'' => F (c :: C''))) := by
      funext C'; grind
    rw [d1, d2, e1, e2, h]
    grind

theorem wedge_self (r : Vec) (C : List Nat) (F : Form) : wedge r C (fun C' => wedge r C' F) = 0 := by
  have h := wedge_anti r r C F
  grind

/-- The form that is 1 at no column. -/
def one : Form
  | [] => 1
  | _ => 0

def det : List Vec → Form
  | [] => one
  | r :: L => fun C => wedge r C (det L)

/-- A row that stands twice. -/
theorem det_twice_head (r : Vec) : ∀ (L M : List Vec) (C : List Nat), det (r :: (L ++ r :: M)) C = 0
  | [], M, C => by
    show wedge r C (fun C' => wedge r C' (det M)) = 0
    exact wedge_self r C _
  | s :: L, M, C => by
    show wedge r C (fun C' => wedge s C' (det (L ++ r :: M))) = 0
    rw [wedge_anti]
    have e : (fun C' => wedge r C' (det (L ++ r :: M))) = fun _ => 0 := by
      funext C'
      exact det_twice_head r L M C'
    rw [e, wedge_zero]
    grind

theorem det_twice (r : Vec) : ∀ (K L M : List Vec) (C : List Nat), det (K ++ r :: (L ++ r :: M)) C = 0
  | [], L, M, C => det_twice_head r L M C
  | s :: K, L, M, C => by
    show wedge s C (det (K ++ r :: (L ++ r :: M))) = 0
    have e : det (K ++ r :: (L ++ r :: M)) = fun _ => 0 := by
      funext C'
      exact det_twice r K L M C'
    rw [e, wedge_zero]

/-- Each row counts by itself. -/
theorem det_lin (r s : Vec) (a b : Rat) : ∀ (K M : List Vec) (C : List Nat),
    det (K ++ (fun c => a * r c + b * s c) :: M) C = a * det (K ++ r :: M) C + b * det (K ++ s :: M) C
  | [], M, C => wedge_vec r s a b C (det M)
  | t :: K, M, C => by
    show wedge t C (det (K ++ (fun c => a * r c + b * s c) :: M)) = a * wedge t C (det (K ++ r :: M)) + b * wedge t C (det (K ++ s :: M))
    rw [← wedge_lin]
    congr 1
    funext C'
    exact det_lin r s a b K M C'

/-- The last row may lose a multiple of one ahead. -/
theorem det_last (K : List Vec) (s : Vec) (hs : s ∈ K) (r : Vec) (b : Rat) (C : List Nat) :
    det (K ++ [fun c => r c - b * s c]) C = det (K ++ [r]) C := by
  have h := det_lin r s 1 (-b) K [] C
  obtain ⟨K1, K2, e⟩ := List.append_of_mem hs
  have z : det (K ++ [s]) C = 0 := by
    subst e
    have := det_twice s K1 K2 [] C
    simpa using this
  have e2 : (fun c => r c - b * s c) = (fun c => 1 * r c + -b * s c) := by
    funext c; grind
  rw [e2, h, z]
  grind

theorem wedge_snoc (s : Vec) (c : Nat) : ∀ (C : List Nat) (F : Form),
    ∃ k : Rat, wedge s (C ++ [c]) F = wedge s C (fun C' => F (C' ++ [c])) + k * F C
  | [], F => ⟨s c, by simp only [List.nil_append, wedge]; grind⟩
  | d :: C, F => by
    obtain ⟨k, h⟩ := wedge_snoc s c C (fun C' => F (d :: C'))
    refine ⟨-k, ?_⟩
    simp only [List.cons_append, wedge]
    rw [h]
    grind

/-- A form counts only at lists of fewer columns out of the list. -/
theorem wedge_congr (s : Vec) (Z : Nat → Prop) : ∀ (C : List Nat) (F G : Form), (∀ c ∈ C, Z c) →
    (∀ C', (∀ c ∈ C', Z c) → F C' = G C') → wedge s C F = wedge s C G
  | [], _, _, _, _ => rfl
  | c :: C, F, G, hz, h => by
    simp only [wedge]
    have hC : ∀ d ∈ C, Z d := fun d hd => hz d (List.mem_cons_of_mem _ hd)
    rw [h C hC, wedge_congr s Z C (fun C' => F (c :: C')) (fun C' => G (c :: C')) hC]
    intro C' h'
    apply h
    intro d hd
    rcases List.mem_cons.1 hd with e | e
    · rw [e]; exact hz c (List.mem_cons_self ..)
    · exact h' d e

theorem one_wedge_zero (r : Vec) : ∀ (C : List Nat), (∀ c ∈ C, r c = 0) → wedge r C one = 0
  | [], _ => rfl
  | c :: C, h => by
    simp only [wedge]
    rw [h c (List.mem_cons_self ..)]
    have e : (fun C' => one (c :: C')) = fun _ => 0 := by funext C'; rfl
    rw [e, wedge_zero]
    grind

/-- A last row that is nothing in all columns. -/
theorem det_last_zero (r : Vec) : ∀ (K : List Vec) (C : List Nat), (∀ c ∈ C, r c = 0) → det (K ++ [r]) C = 0
  | [], C, h => one_wedge_zero r C h
  | s :: K, C, h => by
    show wedge s C (det (K ++ [r])) = 0
    rw [wedge_congr s (fun c => r c = 0) C _ (fun _ => 0) h (fun C' h' => det_last_zero r K C' h'), wedge_zero]

theorem one_wedge_last (r : Vec) (c : Nat) : ∀ (C : List Nat), (∀ d ∈ C, r d = 0) → wedge r (C ++ [c]) one = one C * r c
  | [], _ => by simp [wedge, one]; grind
  | d :: C, h => by
    simp only [List.cons_append, wedge]
    rw [h d (List.mem_cons_self ..)]
    have e : (fun C' => one (d :: C')) = fun _ => 0 := by funext C'; rfl
    rw [e, wedge_zero]
    simp [one]; grind

/-- A last row that is nothing in all columns but the last. -/
theorem det_border (r : Vec) (c : Nat) : ∀ (K : List Vec) (C : List Nat), (∀ d ∈ C, r d = 0) →
    det (K ++ [r]) (C ++ [c]) = det K C * r c
  | [], C, h => one_wedge_last r c C h
  | s :: K, C, h => by
    show wedge s (C ++ [c]) (det (K ++ [r])) = wedge s C (det K) * r c
    obtain ⟨k, e⟩ := wedge_snoc s c C (det (K ++ [r]))
    rw [e, det_last_zero r K C h]
    have e2 := wedge_congr s (fun d => r d = 0) C (fun C' => det (K ++ [r]) (C' ++ [c])) (fun C' => r c * det K C' + 0 * det K C') h
      (fun C' h' => by
        have := det_border r c K C' h'
        grind)
    rw [e2, wedge_lin]
    grind

def IsInt (x : Rat) : Prop := ∃ z : Int, x = (z : Rat)
theorem IsInt.add {x y : Rat} : IsInt x → IsInt y → IsInt (x + y)
  | ⟨a, ha⟩, ⟨b, hb⟩ => ⟨a + b, by rw [ha, hb]; simp⟩
theorem IsInt.sub {x y : Rat} : IsInt x → IsInt y → IsInt (x - y)
  | ⟨a, ha⟩, ⟨b, hb⟩ => ⟨a - b, by rw [ha, hb]; simp⟩
theorem IsInt.mul {x y : Rat} : IsInt x → IsInt y → IsInt (x * y)
  | ⟨a, ha⟩, ⟨b, hb⟩ => ⟨a * b, by rw [ha, hb]; simp⟩

theorem wedge_int (r : Vec) (hr : ∀ c, IsInt (r c)) : ∀ (C : List Nat) (F : Form), (∀ C', IsInt (F C')) → IsInt (wedge r C F)
  | [], _, _ => ⟨0, by simp [wedge]⟩
  | c :: C, F, h => by
    simp only [wedge]
    exact ((hr c).mul (h C)).sub (wedge_int r hr C _ (fun C' => h (c :: C')))

theorem det_int : ∀ (K : List Vec), (∀ r ∈ K, ∀ c, IsInt (r c)) → ∀ C, IsInt (det K C)
  | [], _, C => by
    cases C with
    | nil => exact ⟨1, by simp [det, one]⟩
    | cons c C => exact ⟨0, by simp [det, one]⟩
  | r :: K, h, C => wedge_int r (h r (List.mem_cons_self ..)) C (det K) (fun C' => det_int K (fun s hs => h s (List.mem_cons_of_mem _ hs)) C')
end Wp

namespace Wp
/-- r' is r less multiples of rows of K. -/
inductive Comb (K : List Vec) (r : Vec) : Vec → Prop
  | refl : Comb K r r
  | step {r' : Vec} (b : Rat) {s : Vec} : Comb K r r' → s ∈ K → Comb K r (fun c => r' c - b * s c)

theorem Comb.mono {K K' : List Vec} {r r' : Vec} (hk : ∀ s ∈ K, s ∈ K') (h : Comb K r r') : Comb K' r r' := by
  induction h with
  | refl => exact .refl
  | step b _ hs ih => exact .step b ih (hk _ hs)

theorem Comb.sub {K : List Vec} {r r' s p : Vec} (h : Comb K r r') (hs : s ∈ K) (hp : Comb K s p) : ∀ t : Rat, Comb K r (fun c => r' c - t * p c) := by
  induction hp with
  | refl => intro t; exact .step t h hs
  | @step p' b u _ hu ih =>
    intro t
    have h1 := Comb.step (-(t * b)) (ih t) hu
    have e : (fun c => r' c - t * (p' c - b * u c)) = (fun c => (r' c - t * p' c) - (-(t * b)) * u c) := by
      funext c; grind
    rw [e]
    exact h1

theorem Comb.det {K : List Vec} {r r' : Vec} (h : Comb K r r') (C : List Nat) : det (K ++ [r']) C = det (K ++ [r]) C := by
  induction h with
  | refl => rfl
  | step b _ hs ih => rw [det_last K _ hs, ih]

def dot (r y : Vec) : Nat → Rat
  | 0 => 0
  | m + 1 => dot r y m + r m * y m

theorem dot_sub (r s y : Vec) (b : Rat) : ∀ m, dot (fun c => r c - b * s c) y m = dot r y m - b * dot s y m
  | 0 => by simp only [dot]; grind
  | m + 1 => by simp only [dot]; rw [dot_sub r s y b m]; grind

theorem Comb.dot {K : List Vec} {r r' : Vec} (h : Comb K r r') (y : Vec) (m : Nat) (hK : ∀ s ∈ K, dot s y m = 0) : dot r' y m = dot r y m := by
  induction h with
  | refl => rfl
  | step b _ hs ih => rw [dot_sub, ih, hK _ hs]; grind

theorem dot_zero {r y : Vec} : ∀ m, (∀ c, c < m → r c = 0) → dot r y m = 0
  | 0, _ => rfl
  | m + 1, h => by
    simp only [dot]
    rw [dot_zero m (fun c hc => h c (by omega)), h m (by omega)]
    grind

def unit (i : Nat) : Vec := fun c => if c = i then 1 else 0

theorem dot_unit {i : Nat} {y : Vec} : ∀ m, dot (unit i) y m = if i < m then y i else 0
  | 0 => by simp [dot]
  | m + 1 => by
    simp only [dot]
    rw [dot_unit m]
    unfold unit
    by_cases h : m = i
    · subst h; simp; grind
    · by_cases h2 : i < m
      · rw [if_pos h2, if_neg h, if_pos (by omega)]; grind
      · rw [if_neg h2, if_neg h, if_neg (by omega)]; grind

/-! The rows. -/
section
variable (a : Nat → Vec)
def heads (k : Nat) : List Vec := (List.range k).map a
def D (k : Nat) : Rat := det (heads a k) (List.range k)

theorem heads_succ (k : Nat) : heads a (k + 1) = heads a k ++ [a k] := by
  unfold heads; rw [List.range_succ, List.map_append]; rfl

theorem mem_heads {k : Nat} {s : Vec} : s ∈ heads a k ↔ ∃ j, j < k ∧ a j = s := by
  unfold heads; simp

/-- r' is what is left of row r when the first k unknowns are out. -/
def Red (k : Nat) (r r' : Vec) : Prop := Comb (heads a k) r r' ∧ ∀ c, c < k → r' c = 0

theorem Red.det {k : Nat} {r r' : Vec} (h : Red a k r r') (c : Nat) : Wp.det (heads a k ++ [r]) (List.range k ++ [c]) = D a k * r' c := by
  rw [← h.1.det, det_border]
  · rfl
  · intro d hd; exact h.2 d (List.mem_range.1 hd)

theorem Red.isInt (ha : ∀ i c, IsInt (a i c)) {k : Nat} {r r' : Vec} (hr : ∀ c, IsInt (r c)) (h : Red a k r r') (c : Nat) : IsInt (D a k * r' c) := by
  rw [← h.det]
  apply det_int
  intro s hs
  rcases List.mem_append.1 hs with h1 | h1
  · obtain ⟨j, _, e⟩ := (mem_heads a).1 h1
    rw [← e]; exact ha j
  · rw [List.mem_singleton.1 h1]; exact hr

theorem Red.D_succ {k : Nat} {p : Vec} (h : Red a k (a k) p) : D a (k + 1) = D a k * p k := by
  rw [← h.det, D, heads_succ, List.range_succ]

theorem Red.next {k : Nat} {r r' p : Vec} (h : Red a k r r') (hp : Red a k (a k) p) (h0 : p k ≠ 0) :
    Red a (k + 1) r (fun c => r' c - (r' k / p k) * p c) := by
  have sub : ∀ s ∈ heads a k, s ∈ heads a (k + 1) := by
    intro s hs; rw [heads_succ]; exact List.mem_append_left _ hs
  refine ⟨Comb.sub (h.1.mono sub) ?_ (hp.1.mono sub) _, ?_⟩
  · rw [heads_succ]; exact List.mem_append_right _ (List.mem_singleton.2 rfl)
  · intro c hc
    by_cases e : c = k
    · subst e
      show r' c - r' c / p c * p c = 0
      grind
    · show r' c - r' k / p k * p c = 0
      rw [h.2 c (by omega), hp.2 c (by omega)]
      grind

theorem Red.unit0 {k : Nat} : Red a k (unit k) (unit k) := ⟨.refl, fun c hc => by unfold unit; rw [if_neg (by omega)]⟩
theorem Red.zero {r : Vec} : Red a 0 r r := ⟨.refl, fun c hc => by omega⟩

/-- The state of the elimination ahead of unknown k: n rows, m columns; e: entries; b: the pivot before. -/
structure Stands (n : Nat) (k : Nat) (e : Nat → Vec) (b : Rat) : Prop where
  before : b = D a k
  low : ∀ i, i < n → k ≤ i → ∃ r', Red a k (a i) r' ∧ ∀ c, e i c = D a k * r' c
  high : ∀ i, i < k → ∃ q, Red a k (unit i) q ∧ ∀ c, e i c = D a k * (unit i c - q c)

theorem Stands.start (n : Nat) : Stands a n 0 a 1 := by
  have d : D a 0 = 1 := rfl
  refine ⟨d.symm, fun i _ _ => ⟨a i, Red.zero a, fun c => by rw [d]; grind⟩, fun i hi => by omega⟩

/-- One step; whole numbers stay whole. -/
theorem Stands.next {n k : Nat} {e : Nat → Vec} {b : Rat} (h : Stands a n k e b) (hk : k < n) (h0 : b ≠ 0)
    (hp : ∀ p, Red a k (a k) p → p k ≠ 0) :
    Stands a n (k + 1) (fun i c => if i = k then e k c else (e k k * e i c - e i k * e k c) / b) (e k k) := by
  obtain ⟨p, rp, ep⟩ := h.low k hk (Nat.le_refl k)
  have p0 := hp p rp
  have hb := h.before
  have hD : D a k ≠ 0 := by rw [← hb]; exact h0
  have hs := Red.D_succ a rp
  refine ⟨?_, ?_, ?_⟩
  · rw [ep k, hs]
  · intro i hi hki
    obtain ⟨r', rr, er⟩ := h.low i hi (by omega)
    refine ⟨_, Red.next a rr rp p0, ?_⟩
    intro c
    show (if i = k then e k c else (e k k * e i c - e i k * e k c) / b) = _
    rw [if_neg (by omega), ep k, ep c, er k, er c, hs, hb]
    grind
  · intro i hi
    by_cases e1 : i = k
    · subst e1
      refine ⟨_, Red.next a (Red.unit0 a) rp p0, ?_⟩
      intro c
      show (if i = i then e i c else (e i i * e i c - e i i * e i c) / b) = _
      rw [if_pos rfl, ep c, hs]
      have u : unit i i = 1 := by unfold unit; rw [if_pos rfl]
      rw [u]
      grind
    · obtain ⟨q, rq, eq⟩ := h.high i (by omega)
      refine ⟨_, Red.next a rq rp p0, ?_⟩
      intro c
      show (if i = k then e k c else (e k k * e i c - e i k * e k c) / b) = _
      have u : unit i k = 0 := by unfold unit; rw [if_neg (by omega)]
      rw [if_neg e1, ep k, ep c, eq k, eq c, hs, hb, u]
      grind

theorem Stands.isInt (ha : ∀ i c, IsInt (a i c)) {n k : Nat} {e : Nat → Vec} {b : Rat} (h : Stands a n k e b) {i : Nat} (hi : i < n) (hk : k ≤ n) (c : Nat) : IsInt (e i c) := by
  by_cases h1 : i < k
  · obtain ⟨q, rq, eq⟩ := h.high i h1
    rw [eq c]
    have u : ∀ c, IsInt (unit i c) := fun c => by
      unfold unit; split
      · exact ⟨1, by simp⟩
      · exact ⟨0, by simp⟩
    have d : IsInt (D a k) := det_int _ (fun r hr => by
      obtain ⟨j, _, e⟩ := (mem_heads a).1 hr
      rw [← e]; exact ha j) _
    have h2 := (d.mul (u c)).sub (rq.isInt a ha u c)
    have e2 : D a k * (unit i c - q c) = D a k * unit i c - D a k * q c := by grind
    rw [e2]; exact h2
  · obtain ⟨r', rr, er⟩ := h.low i hi (by omega)
    rw [er c]
    exact rr.isInt a ha (ha i) c

/-- **The end**: what the last column holds is the solution, as often as the last pivot says. -/
theorem Stands.solves {n : Nat} {e : Nat → Vec} {b : Rat} (h : Stands a n n e b) {y : Vec}
    (hy : ∀ i, i < n → dot (a i) y n = a i n) {i : Nat} (hi : i < n) : e i n = b * y i := by
  obtain ⟨q, rq, eq⟩ := h.high i hi
  have h1 := rq.1.dot (fun c => if c < n then y c else -1) (n + 1) (by
    intro s hs
    obtain ⟨j, hj, e⟩ := (mem_heads a).1 hs
    rw [← e]
    have h2 := hy j hj
    have h3 : ∀ m, m ≤ n → dot (a j) (fun c => if c < n then y c else -1) m = dot (a j) y m := by
      intro m
      induction m with
      | zero => intro _; rfl
      | succ m ih =>
        intro hm
        simp only [dot]
        rw [ih (by omega), if_pos (by omega)]
    simp only [dot]
    rw [h3 n (Nat.le_refl n), h2, if_neg (by omega)]
    grind)
  rw [dot_unit, if_pos (by omega), if_pos hi] at h1
  simp only [dot] at h1
  rw [dot_zero n (fun c hc => rq.2 c hc), if_neg (by omega)] at h1
  rw [eq n, h.before]
  have u : unit i n = 0 := by unfold unit; rw [if_neg (by omega)]
  rw [u]
  grind
end
end Wp

namespace Wp
/-- The sum of the first m. -/
def sm (f : Nat → Rat) : Nat → Rat
  | 0 => 0
  | m + 1 => sm f m + f m

theorem sm_congr {f g : Nat → Rat} : ∀ m, (∀ i, i < m → f i = g i) → sm f m = sm g m
  | 0, _ => rfl
  | m + 1, h => by simp only [sm]; rw [sm_congr m (fun i hi => h i (by omega)), h m (by omega)]

theorem sm_le {f g : Nat → Rat} : ∀ m, (∀ i, i < m → f i ≤ g i) → sm f m ≤ sm g m
  | 0, _ => by simp only [sm]; grind
  | m + 1, h => by
    simp only [sm]
    have h1 := sm_le m (fun i hi => h i (by omega))
    have h2 := h m (by omega)
    grind

theorem sm_lt {f g : Nat → Rat} : ∀ m, (∀ i, i < m → f i ≤ g i) → (∃ i, i < m ∧ f i < g i) → sm f m < sm g m
  | 0, _, ⟨i, hi, _⟩ => by omega
  | m + 1, h, ⟨i, hi, hl⟩ => by
    simp only [sm]
    by_cases e : i = m
    · subst e
      have h1 := sm_le i (fun j hj => h j (by omega))
      grind
    · have h1 := sm_lt m (fun j hj => h j (by omega)) ⟨i, by omega, hl⟩
      have h2 := h m (by omega)
      grind

theorem sm_zero : ∀ m, sm (fun _ => 0) m = 0
  | 0 => rfl
  | m + 1 => by simp only [sm]; rw [sm_zero m]; grind

theorem sm_nonneg {f : Nat → Rat} (m : Nat) (h : ∀ i, i < m → 0 ≤ f i) : 0 ≤ sm f m := by
  have := sm_le (f := fun _ => 0) (g := f) m h
  rw [sm_zero] at this; exact this

theorem sm_add (f g : Nat → Rat) : ∀ m, sm (fun i => f i + g i) m = sm f m + sm g m
  | 0 => by simp only [sm]; grind
  | m + 1 => by simp only [sm]; rw [sm_add f g m]; grind

theorem sm_sub (f g : Nat → Rat) : ∀ m, sm (fun i => f i - g i) m = sm f m - sm g m
  | 0 => by simp only [sm]; grind
  | m + 1 => by simp only [sm]; rw [sm_sub f g m]; grind

theorem sm_mul (a : Rat) (f : Nat → Rat) : ∀ m, sm (fun i => a * f i) m = a * sm f m
  | 0 => by simp only [sm]; grind
  | m + 1 => by simp only [sm]; rw [sm_mul a f m]; grind

theorem sm_swap (f : Nat → Nat → Rat) (m : Nat) : ∀ k, sm (fun i => sm (fun j => f i j) m) k = sm (fun j => sm (fun i => f i j) k) m
  | 0 => by simp only [sm]; rw [sm_zero]
  | k + 1 => by simp only [sm]; rw [sm_swap f m k, sm_add]

theorem sm_one {f : Nat → Rat} {i : Nat} : ∀ m, i < m → (∀ j, j < m → j ≠ i → f j = 0) → sm f m = f i
  | 0, h, _ => by omega
  | m + 1, h, hz => by
    simp only [sm]
    by_cases e : m = i
    · subst e
      rw [sm_congr m (g := fun _ => 0) (fun j hj => hz j (by omega) (by omega)), sm_zero]
      grind
    · rw [sm_one m (by omega) (fun j hj hne => hz j (by omega) hne), hz m (by omega) e]
      grind

theorem sm_single_le {f : Nat → Rat} (m : Nat) {i : Nat} (hi : i < m) (h : ∀ j, j < m → 0 ≤ f j) : f i ≤ sm f m := by
  have h1 := sm_le (f := fun j => if j = i then f i else 0) (g := f) m (fun j hj => by
    by_cases e : j = i
    · subst e; simp
    · simp [e]; exact h j hj)
  rw [sm_one (i := i) m hi (fun j _ hne => by simp [hne])] at h1
  simpa using h1

theorem dot_sm (r y : Vec) : ∀ m, dot r y m = sm (fun c => r c * y c) m
  | 0 => rfl
  | m + 1 => by simp only [dot, sm]; rw [dot_sm r y m]

theorem foldl_add (l : List Rat) : ∀ a : Rat, l.foldl (fun (a b : Rat) => a + b) a = a + l.foldl (fun (a b : Rat) => a + b) 0 := by
  induction l with
  | nil => intro a; simp only [List.foldl]; grind
  | cons x l ih =>
    intro a
    simp only [List.foldl]
    rw [ih (a + x), ih (0 + x)]
    grind

theorem sum_range (f : Nat → Rat) : ∀ m, Co08.sum ((List.range m).map f) = sm f m
  | 0 => rfl
  | m + 1 => by
    rw [List.range_succ, List.map_append]
    unfold Co08.sum
    rw [List.foldl_append]
    simp only [List.map, List.foldl, sm]
    have := sum_range f m
    unfold Co08.sum at this
    rw [this]
end Wp

namespace Wp
/-- An entry. -/
def ent (l : List (List Rat)) (i c : Nat) : Rat := (l.getD i []).getD c 0

/-- n rows of m numbers. -/
structure Shp (n m : Nat) (l : List (List Rat)) : Prop where
  len : l.length = n
  row : ∀ i, i < n → (l.getD i []).length = m

theorem getD_lt {α : Type} {l : List α} {i : Nat} {d : α} (h : i < l.length) : l.getD i d = l[i] := by
  simp [List.getD, List.getElem?_eq_getElem h]

theorem getD_out {α : Type} {l : List α} {i : Nat} {d : α} (h : l.length ≤ i) : l.getD i d = d := by
  simp [List.getD, List.getElem?_eq_none h]

theorem getD_set {α : Type} (l : List α) (i j : Nat) (x d : α) : (l.set i x).getD j d = if i = j ∧ j < l.length then x else l.getD j d := by
  simp only [List.getD, List.getElem?_set]
  by_cases h : i = j
  · subst h
    by_cases h2 : i < l.length
    · simp [h2]
    · simp [h2, List.getElem?_eq_none (Nat.le_of_not_lt h2)]
  · simp [h]

theorem getD_map_range {α : Type} (f : Nat → α) (d : α) (m i : Nat) : ((List.range m).map f).getD i d = if i < m then f i else d := by
  simp only [List.getD, List.getElem?_map]
  by_cases h : i < m
  · simp [List.getElem?_range h, h]
  · simp [h, List.getElem?_eq_none (show (List.range m).length ≤ i by simp; omega)]

theorem getD_map {α β : Type} (f : α → β) (l : List α) (i : Nat) (d : β) (e : α) (h : i < l.length) : (l.map f).getD i d = f (l.getD i e) := by
  simp [List.getD, List.getElem?_map, List.getElem?_eq_getElem h]

theorem getD_zipIdx_map {α β : Type} (f : α × Nat → β) (l : List α) (i : Nat) (d : β) (e : α) (h : i < l.length) :
    (l.zipIdx.map f).getD i d = f (l.getD i e, i) := by
  simp [List.getD, List.getElem?_map, List.getElem?_zipIdx, List.getElem?_eq_getElem h]

theorem ent_minus (x y : List Rat) (k : Rat) (h : x.length = y.length) (c : Nat) :
    (Co08.minus x y k).getD c 0 = x.getD c 0 - k * y.getD c 0 := by
  unfold Co08.minus
  simp only [List.getD, List.getElem?_map, List.zip, List.getElem?_zipWith]
  by_cases hc : c < x.length
  · simp [List.getElem?_eq_getElem hc, List.getElem?_eq_getElem (h ▸ hc)]
  · have h1 : x[c]? = none := List.getElem?_eq_none (by omega)
    have h2 : y[c]? = none := List.getElem?_eq_none (by omega)
    simp [h1, h2]; grind

theorem len_minus (x y : List Rat) (k : Rat) (h : x.length = y.length) : (Co08.minus x y k).length = x.length := by
  unfold Co08.minus; simp [h]

section
variable {n m : Nat} {l : List (List Rat)}

theorem swapped_row (h : Shp n m l) {i r c : Nat} (hr : r < n) (hc : c < n) :
    (Co08.swapped l c r).getD i [] = if i = r then l.getD c [] else if i = c then l.getD r [] else l.getD i [] := by
  unfold Co08.swapped
  rw [getD_set, getD_set]
  simp only [List.length_set, h.len]
  by_cases e1 : i = r
  · subst e1; simp [hr]
  · rw [if_neg (by omega), if_neg e1]
    by_cases e2 : i = c
    · subst e2; simp [hc]
    · rw [if_neg (by omega), if_neg e2]

theorem swapped_len : (Co08.swapped l i j).length = l.length := by
  unfold Co08.swapped; simp

/-- What a column's step makes, where it finds a pivot. -/
def made (l : List (List Rat)) (c r : Nat) : List (List Rat) :=
  let m := Co08.swapped l c r
  let p := (m.getD c []).map fun (x : Rat) => x / (m.getD c []).getD c 0
  (m.set c p).zipIdx.map fun (x : List Rat × Nat) => if x.2 = c then x.1 else Co08.minus x.1 p (x.1.getD c 0)

theorem made_c (h : Shp n m l) {c r : Nat} (hr : r < n) (hc : c < n) :
    ((made l c r).getD c []).length = m ∧ ∀ d, ent (made l c r) c d = ent l r d / ent l r c := by
  have e : (Co08.swapped l c r).getD c [] = l.getD r [] := by
    rw [swapped_row h hr hc]
    by_cases e1 : c = r
    · subst e1; simp
    · rw [if_neg e1, if_pos rfl]
  have e2 : (made l c r).getD c [] = (l.getD r []).map fun (x : Rat) => x / (l.getD r []).getD c 0 := by
    unfold made
    simp only
    rw [getD_zipIdx_map _ _ _ _ [] (by simp [swapped_len, h.len, hc])]
    simp only [if_true]
    rw [getD_set, if_pos (by simp [swapped_len, h.len, hc]), e]
  constructor
  · rw [e2, List.length_map, h.row r hr]
  · intro d
    unfold ent
    rw [e2]
    by_cases hd : d < (l.getD r []).length
    · rw [getD_map _ _ _ _ 0 hd]
    · rw [getD_out (by simpa using hd), getD_out (l := l.getD r []) (by simpa using hd)]
      grind

theorem made_i (h : Shp n m l) {i c r : Nat} (hr : r < n) (hc : c < n) (hi : i < n) (hne : i ≠ c) :
    ((made l c r).getD i []).length = m ∧ ∀ d, ent (made l c r) i d = (if i = r then ent l c d else ent l i d) - (if i = r then ent l c c else ent l i c) * (ent l r d / ent l r c) := by
  have hp := made_c h hr hc
  have e : (Co08.swapped l c r).getD i [] = if i = r then l.getD c [] else l.getD i [] := by
    rw [swapped_row h hr hc, if_neg hne]
  have ec : (Co08.swapped l c r).getD c [] = l.getD r [] := by
    rw [swapped_row h hr hc]
    by_cases e1 : c = r
    · subst e1; simp
    · rw [if_neg e1, if_pos rfl]
  have e2 : (made l c r).getD i [] = Co08.minus (if i = r then l.getD c [] else l.getD i []) ((l.getD r []).map fun (x : Rat) => x / (l.getD r []).getD c 0) ((if i = r then l.getD c [] else l.getD i []).getD c 0) := by
    unfold made
    simp only
    rw [getD_zipIdx_map _ _ _ _ [] (by simp [swapped_len, h.len, hi])]
    simp only [if_neg hne]
    rw [getD_set, if_neg (by omega), e, ec]
  have hl : (if i = r then l.getD c [] else l.getD i []).length = m := by
    split
    · exact h.row c hc
    · exact h.row i hi
  constructor
  · rw [e2, len_minus _ _ _ (by rw [hl, List.length_map, h.row r hr]), hl]
  · intro d
    have q : ∀ d, ((l.getD r []).map fun (x : Rat) => x / (l.getD r []).getD c 0).getD d 0 = ent l r d / ent l r c := by
      intro d
      unfold ent
      by_cases hd : d < (l.getD r []).length
      · rw [getD_map _ _ _ _ 0 hd]
      · rw [getD_out (by simpa using hd), getD_out (l := l.getD r []) (by simpa using hd)]
        grind
    unfold ent
    rw [e2, ent_minus _ _ _ (by rw [hl, List.length_map, h.row r hr]), q]
    unfold ent
    split <;> rfl

theorem made_shp (h : Shp n m l) {c r : Nat} (hr : r < n) (hc : c < n) : Shp n m (made l c r) := by
  constructor
  · unfold made; simp [swapped_len, h.len]
  · intro i hi
    by_cases e : i = c
    · subst e; exact (made_c h hr hc).1
    · exact (made_i h hr hc hi e).1

/-- w makes every row nothing. -/
def Kills (n m : Nat) (l : List (List Rat)) (w : Vec) : Prop := ∀ i, i < n → dot (ent l i) w m = 0

theorem made_back (h : Shp n m l) {c r : Nat} (hr : r < n) (hc : c < n) (h0 : ent l r c ≠ 0) {w : Vec} (hw : Kills n m (made l c r) w) : Kills n m l w := by
  have ep : (ent (made l c r) c) = fun d => ent l r d - (1 - 1 / ent l r c) * ent l r d := by
    funext d
    rw [(made_c h hr hc).2 d]
    grind
  have kr : dot (ent l r) w m = 0 := by
    have h1 := hw c hc
    rw [ep, dot_sub] at h1
    grind
  have other : ∀ i, i < n → i ≠ c → dot (fun d => if i = r then ent l c d else ent l i d) w m = 0 := by
    intro i hi hne
    have h1 := hw i hi
    have e : (ent (made l c r) i) = fun d => (fun d => if i = r then ent l c d else ent l i d) d - ((if i = r then ent l c c else ent l i c) / ent l r c) * ent l r d := by
      funext d
      rw [(made_i h hr hc hi hne).2 d]
      grind
    rw [e, dot_sub, kr] at h1
    grind
  intro i hi
  by_cases e1 : i = r
  · subst e1; exact kr
  · by_cases e2 : i = c
    · subst e2
      have h1 := other r hr (fun e => e1 e.symm)
      simpa using h1
    · have h1 := other i hi e2
      simpa [e1] using h1

/-- The first k columns are a unit matrix's. -/
def Unt (n k : Nat) (l : List (List Rat)) : Prop := ∀ i, i < n → ∀ c, c < k → ent l i c = if i = c then 1 else 0

theorem made_unt (h : Shp n m l) {k r : Nat} (hr : r < n) (hkr : k ≤ r) (h0 : ent l r k ≠ 0) (hu : Unt n k l) : Unt n (k + 1) (made l k r) := by
  have hk : k < n := by omega
  intro i hi c hc
  by_cases e : i = k
  · subst e
    rw [(made_c h hr hk).2 c]
    by_cases e2 : c = i
    · subst e2; rw [if_pos rfl]; grind
    · rw [hu r hr c (by omega), if_neg (by omega), if_neg (by omega)]; grind
  · rw [(made_i h hr hk hi e).2 c]
    by_cases e2 : c = k
    · subst e2
      rw [if_neg e]
      by_cases e3 : i = r
      · rw [if_pos e3]; grind
      · rw [if_neg e3]; grind
    · have hrc : ent l r c = 0 := by rw [hu r hr c (by omega), if_neg (by omega)]
      have hkc : ent l k c = 0 := by rw [hu k hk c (by omega), if_neg (by omega)]
      rw [hrc]
      by_cases e3 : i = r
      · subst e3; rw [if_neg (show ¬ i = c by omega)]; simp only [if_true, hkc]; grind
      · rw [if_neg e3, hu i hi c (by omega)]; grind

theorem column_some {l : List (List Rat)} {c r : Nat} (h : (List.range l.length).find? (fun (r : Nat) => decide (c ≤ r) && (l.getD r []).getD c 0 != 0) = some r) :
    Co08.column l c = made l c r := by
  unfold Co08.column
  rw [h]
  rfl

/-- One column, where nothing but 0 makes all rows nothing. -/
theorem column_next (h : Shp n (n + 1) l) {k : Nat} (hk : k < n) (hu : Unt n k l)
    (ht : ∀ w, w n = 0 → Kills n (n + 1) l w → ∀ c, c < n → w c = 0) :
    Shp n (n + 1) (Co08.column l k) ∧ Unt n (k + 1) (Co08.column l k) ∧ ∀ w, Kills n (n + 1) (Co08.column l k) w → Kills n (n + 1) l w := by
  cases hf : (List.range l.length).find? (fun (r : Nat) => decide (k ≤ r) && (l.getD r []).getD k 0 != 0) with
  | some r =>
    rw [column_some hf]
    have h1 := List.find?_some hf
    have h2 := List.mem_of_find?_eq_some hf
    rw [List.mem_range, h.len] at h2
    simp only [Bool.and_eq_true, decide_eq_true_eq, bne_iff_ne] at h1
    exact ⟨made_shp h h2 hk, made_unt h h2 h1.1 h1.2 hu, fun w hw => made_back h h2 hk h1.2 hw⟩
  | none =>
    exfalso
    rw [List.find?_eq_none] at hf
    have hz : ∀ r, k ≤ r → r < n → ent l r k = 0 := by
      intro r h1 h2
      have := hf r (by rw [List.mem_range, h.len]; exact h2)
      simp only [Bool.and_eq_true, decide_eq_true_eq, bne_iff_ne, not_and, Decidable.not_not] at this
      exact this h1
    have w1 := ht (fun c => if c < k then -(ent l c k) else if c = k then 1 else 0) (by rw [if_neg (by omega), if_neg (by omega)]) (by
      intro i hi
      rw [dot_sm]
      have e : ∀ t, t ≤ k → sm (fun c => ent l i c * (if c < k then -(ent l c k) else if c = k then 1 else 0)) t = if i < t then -(ent l i k) else 0 := by
        intro t
        induction t with
        | zero => intro _; simp [sm]
        | succ t ih =>
          intro ht
          simp only [sm]
          rw [ih (by omega), hu i hi t (by omega), if_pos (show t < k by omega)]
          by_cases e1 : i < t
          · rw [if_pos e1, if_neg (by omega), if_pos (by omega)]; grind
          · rw [if_neg e1]
            by_cases e2 : i = t
            · subst e2; rw [if_pos rfl, if_pos (by omega)]; grind
            · rw [if_neg e2, if_neg (by omega)]; grind
      have e3 : ∀ t, sm (fun c => ent l i c * (if c < k then -(ent l c k) else if c = k then 1 else 0)) (k + 1 + t) = (if i < k then -(ent l i k) else 0) + ent l i k := by
        intro t
        induction t with
        | zero => simp only [sm, Nat.add_zero]; rw [e k (Nat.le_refl k)]; simp
        | succ t ih =>
          show sm _ (k + 1 + t) + ent l i (k + 1 + t) * (if k + 1 + t < k then -(ent l (k + 1 + t) k) else if k + 1 + t = k then 1 else 0) = _
          rw [ih, if_neg (show ¬ (k + 1 + t < k) by omega), if_neg (show ¬ (k + 1 + t = k) by omega)]; grind
      have e4 := e3 (n - k)
      have e5 : k + 1 + (n - k) = n + 1 := by omega
      rw [e5] at e4
      rw [e4]
      by_cases e6 : i < k
      · rw [if_pos e6]; grind
      · rw [if_neg e6, hz i (by omega) hi]; grind) k hk
    simp at w1

theorem columns (h : Shp n (n + 1) l)
    (ht : ∀ w, w n = 0 → Kills n (n + 1) l w → ∀ c, c < n → w c = 0) : ∀ k, k ≤ n →
    Shp n (n + 1) ((List.range k).foldl Co08.column l) ∧ Unt n k ((List.range k).foldl Co08.column l) ∧
      ∀ w, Kills n (n + 1) ((List.range k).foldl Co08.column l) w → Kills n (n + 1) l w
  | 0, _ => ⟨h, fun i hi c hc => by omega, fun w hw => hw⟩
  | k + 1, hk => by
    obtain ⟨h1, h2, h3⟩ := columns h ht k (by omega)
    rw [List.range_succ, List.foldl_append]
    simp only [List.foldl]
    obtain ⟨g1, g2, g3⟩ := column_next h1 (by omega) h2 (fun w hw hk c hc => ht w hw (h3 w hk) c hc)
    exact ⟨g1, g2, fun w hw => h3 w (g3 w hw)⟩

/-- **What the specification's elimination gives solves the equations.** -/
theorem solved_ok (h : Shp n (n + 1) l)
    (ht : ∀ w, w n = 0 → Kills n (n + 1) l w → ∀ c, c < n → w c = 0) :
    (Co08.solved l).length = n ∧ ∀ i, i < n → dot (ent l i) (fun c => (Co08.solved l).getD c 0) n = ent l i n := by
  obtain ⟨h1, h2, h3⟩ := columns h ht n (Nat.le_refl n)
  have e : Co08.solved l = ((List.range n).foldl Co08.column l).map fun (r : List Rat) => r.getD (r.length - 1) 0 := by
    unfold Co08.solved; rw [h.len]
  have e2 : ∀ c, c < n → (Co08.solved l).getD c 0 = ent ((List.range n).foldl Co08.column l) c n := by
    intro c hc
    rw [e, getD_map _ _ _ _ [] (by rw [h1.len]; exact hc), h1.row c hc]
    rfl
  refine ⟨by rw [e]; simp [h1.len], ?_⟩
  have key := h3 (fun c => if c < n then (Co08.solved l).getD c 0 else -1) (by
    intro i hi
    rw [dot_sm]
    simp only [sm]
    have e3 : sm (fun c => ent ((List.range n).foldl Co08.column l) i c * (if c < n then (Co08.solved l).getD c 0 else -1)) n = (Co08.solved l).getD i 0 := by
      rw [sm_one (i := i) n hi]
      · rw [h2 i hi i hi, if_pos rfl, if_pos hi]; grind
      · intro j hj hne
        rw [h2 i hi j hj, if_neg (by omega)]; grind
    rw [e3, e2 i hi, if_neg (by omega)]
    grind)
  intro i hi
  have h4 := key i hi
  rw [dot_sm] at h4 ⊢
  simp only [sm] at h4
  rw [if_neg (by omega)] at h4
  rw [sm_congr n (g := fun c => ent l i c * (Co08.solved l).getD c 0) (fun c hc => by rw [if_pos hc])] at h4
  grind
end
end Wp

namespace Wp
open Co08 (System ownOf debt total share payOf paid means rest can paysWith)

/-- A house as the calls leave it. -/
structure Good (s : System) (n : Nat) : Prop where
  nOwn : s.own.length = n
  nOwes : s.owes.length = n
  rows : ∀ i, i < n → (s.owes.getD i []).length = n
  own0 : ∀ i, 0 ≤ ownOf s i
  debt0 : ∀ i j, 0 ≤ debt s i j
  diag : ∀ i, debt s i i = 0
  ko0 : 0 ≤ s.keptOwn
  ko1 : s.keptOwn ≤ 1
  kp0 : 0 ≤ s.keptPaid
  kp1 : s.keptPaid ≤ 1

section
variable {s : System} {n : Nat}

theorem Good.cnt (g : Good s n) : Co08.count s = n := g.nOwn

theorem Good.total_eq (g : Good s n) (i : Nat) : total s i = sm (debt s i) n := by
  unfold total; rw [sum_range, g.cnt]

theorem Good.total0 (g : Good s n) (i : Nat) : 0 ≤ total s i := by
  rw [g.total_eq]; exact sm_nonneg n (fun j _ => g.debt0 i j)

theorem Good.share0 (g : Good s n) (i j : Nat) : 0 ≤ share s i j := by
  unfold share
  split
  · grind
  · have h := g.total0 i
    have h2 := g.debt0 i j
    rw [Rat.div_def]
    have h3 : 0 < (total s i)⁻¹ := Rat.inv_pos.2 (by grind)
    exact Rat.mul_nonneg h2 (Rat.le_of_lt h3)

theorem Good.share_mul (g : Good s n) (i j : Nat) (hj : j < n) : share s i j * total s i = debt s i j := by
  unfold share
  split
  · rename_i h
    have h1 := sm_single_le (f := debt s i) n hj (fun k _ => g.debt0 i k)
    rw [← g.total_eq, h] at h1
    have h2 := g.debt0 i j
    grind
  · grind

theorem Good.share_sum (g : Good s n) {i : Nat} (h : 0 < total s i) : sm (share s i) n = 1 := by
  have e : sm (share s i) n = sm (fun j => (1 / total s i) * debt s i j) n := sm_congr n (fun j hj => by
    have := g.share_mul i j hj
    grind)
  rw [e, sm_mul, ← g.total_eq]
  grind

theorem Good.share_le (g : Good s n) (i : Nat) : sm (share s i) n ≤ 1 := by
  by_cases h : 0 < total s i
  · rw [g.share_sum h]; grind
  · have h0 : total s i = 0 := by have := g.total0 i; grind
    have e : sm (share s i) n = sm (fun _ => 0) n := sm_congr n (fun j _ => by unfold share; rw [if_pos h0])
    rw [e, sm_zero]; grind

theorem Good.paid_eq (g : Good s n) (p : List Rat) (j : Nat) : paid s p j = sm (fun i => share s i j * payOf p i) n := by
  unfold paid; rw [sum_range, g.cnt]

/-- **Nothing comes of nothing**: what is at most kept of what it's paid by such, is nothing. -/
theorem Good.cmp (g : Good s n) (d : Vec)
    (hN : s.keptPaid < 1 ∨ ((∃ i, i < n ∧ 0 < d i) → ∃ i j, i < n ∧ 0 < d i ∧ j < n ∧ ¬ 0 < d j ∧ 0 < debt s i j))
    (h : ∀ j, j < n → 0 < d j → d j ≤ s.keptPaid * sm (fun i => share s i j * d i) n) : ∀ j, j < n → d j ≤ 0 := by
  intro j0 hj0
  refine Rat.not_lt.1 ?_
  intro hpos
  let e : Vec := fun j => if 0 < d j then d j else 0
  let σ : Vec := fun i => sm (fun j => if 0 < d j then share s i j else 0) n
  have e0 : ∀ j, 0 ≤ e j := fun j => by
    show 0 ≤ if 0 < d j then d j else 0
    split <;> grind
  have de : ∀ j, d j ≤ e j := fun j => by
    show d j ≤ if 0 < d j then d j else 0
    split <;> grind
  have σ0 : ∀ i, 0 ≤ σ i := fun i => sm_nonneg n (fun j _ => by
    show 0 ≤ if 0 < d j then share s i j else 0
    split
    · exact g.share0 i j
    · grind)
  have σ1 : ∀ i, σ i ≤ 1 := fun i => by
    refine Rat.le_trans (sm_le (g := share s i) n (fun j _ => ?_)) (g.share_le i)
    have := g.share0 i j
    split <;> grind
  have S0 : 0 < sm e n := by
    have h1 := sm_single_le (f := e) n hj0 (fun j _ => e0 j)
    have h2 : e j0 = d j0 := if_pos hpos
    grind
  have A : sm e n ≤ s.keptPaid * sm (fun i => e i * σ i) n := by
    have h1 : sm e n ≤ sm (fun j => s.keptPaid * sm (fun i => (if 0 < d j then share s i j else 0) * e i) n) n := by
      refine sm_le n (fun j hj => ?_)
      show (if 0 < d j then d j else 0) ≤ _
      by_cases hd : 0 < d j
      · rw [if_pos hd]
        refine Rat.le_trans (h j hj hd) (Rat.mul_le_mul_of_nonneg_left (sm_le n (fun i _ => ?_)) g.kp0)
        rw [if_pos hd]
        exact Rat.mul_le_mul_of_nonneg_left (de i) (g.share0 i j)
      · rw [if_neg hd]
        have e3 : sm (fun i => (if 0 < d j then share s i j else 0) * e i) n = sm (fun _ => 0) n := sm_congr n (fun i _ => by rw [if_neg hd]; grind)
        rw [e3, sm_zero]; grind
    rw [sm_mul, sm_swap (fun j i => (if 0 < d j then share s i j else 0) * e i)] at h1
    have e4 : sm (fun i => sm (fun j => (if 0 < d j then share s i j else 0) * e i) n) n = sm (fun i => e i * σ i) n := sm_congr n (fun i _ => by
      show _ = e i * sm (fun j => if 0 < d j then share s i j else 0) n
      rw [← sm_mul]
      exact sm_congr n (fun j _ => by grind))
    rw [e4] at h1
    exact h1
  have B : sm (fun i => e i * σ i) n ≤ sm e n := sm_le n (fun i _ => by
    have := Rat.mul_le_mul_of_nonneg_left (σ1 i) (e0 i)
    grind)
  have B0 : 0 ≤ sm (fun i => e i * σ i) n := sm_nonneg n (fun i _ => Rat.mul_nonneg (e0 i) (σ0 i))
  rcases hN with hk | hN
  · have h1 := Rat.mul_le_mul_of_nonneg_left B g.kp0
    have h2 : 0 < (1 - s.keptPaid) * sm e n := Rat.mul_pos (by grind) S0
    grind
  · obtain ⟨i, j, hi, hdi, hj, hdj, hij⟩ := hN ⟨j0, hj0, hpos⟩
    have ti : 0 < total s i := by
      have h1 := sm_single_le (f := debt s i) n hj (fun k _ => g.debt0 i k)
      rw [← g.total_eq] at h1
      grind
    have sij : 0 < share s i j := by
      have h1 := g.share_mul i j hj
      have h2 := g.share0 i j
      rcases Rat.le_iff_lt_or_eq.1 h2 with h3 | h3
      · exact h3
      · rw [← h3] at h1; grind
    have si : σ i < 1 := by
      rw [← g.share_sum ti]
      refine sm_lt n (fun k _ => ?_) ⟨j, hj, ?_⟩
      · have := g.share0 i k
        split <;> grind
      · rw [if_neg hdj]; exact sij
    have C : sm (fun i => e i * σ i) n < sm e n := sm_lt n (fun k _ => by
        have := Rat.mul_le_mul_of_nonneg_left (σ1 k) (e0 k)
        grind) ⟨i, hi, by
        have ei : e i = d i := if_pos hdi
        have h3 : 0 < e i * (1 - σ i) := Rat.mul_pos (by rw [ei]; exact hdi) (by grind)
        grind⟩
    have h1 : s.keptPaid * sm (fun i => e i * σ i) n ≤ 1 * sm (fun i => e i * σ i) n := Rat.mul_le_mul_of_nonneg_right g.kp1 B0
    grind

/-- No parties among those told owe one another alone; or some of what's paid is lost. -/
def NC (s : System) (n : Nat) (F : Nat → Bool) : Prop :=
  s.keptPaid < 1 ∨ ∀ C : Nat → Bool, (∀ i, C i = true → i < n ∧ F i = true) → (∃ i, C i = true) →
    ∃ i j, C i = true ∧ j < n ∧ C j = false ∧ 0 < debt s i j

/-- Those that fall owe something. -/
def Owing (s : System) (n : Nat) (F : Nat → Bool) : Prop := ∀ j, j < n → F j = true → 0 < total s j

theorem NC.sub {F G : Nat → Bool} (h : NC s n F) (hs : ∀ i, i < n → G i = true → F i = true) : NC s n G := by
  rcases h with h | h
  · exact .inl h
  · exact .inr (fun C hC he => h C (fun i hi => ⟨(hC i hi).1, hs i (hC i hi).1 (hC i hi).2⟩) he)

/-- NC in the form that cmp asks. -/
theorem NC.pos {F : Nat → Bool} (h : NC s n F) (d : Vec) (hd : ∀ i, i < n → 0 < d i → F i = true) :
    s.keptPaid < 1 ∨ ((∃ i, i < n ∧ 0 < d i) → ∃ i j, i < n ∧ 0 < d i ∧ j < n ∧ ¬ 0 < d j ∧ 0 < debt s i j) := by
  rcases h with h | h
  · exact .inl h
  · refine .inr ?_
    rintro ⟨i, hi, hp⟩
    obtain ⟨a, b, h1, h2, h3, h4⟩ := h (fun k => decide (k < n) && decide (0 < d k)) (fun k hk => by
      simp only [Bool.and_eq_true, decide_eq_true_eq] at hk
      exact ⟨hk.1, hd k hk.1 hk.2⟩) ⟨i, by simp [hi, hp]⟩
    simp only [Bool.and_eq_true, decide_eq_true_eq] at h1
    refine ⟨a, b, h1.1, h1.2, h2, ?_, h4⟩
    intro hb
    simp [h2, hb] at h3

/-- The payments by which those told pay as the fallen do, and all others all they owe. -/
def Sol (s : System) (n : Nat) (F : Nat → Bool) (p : List Rat) : Prop :=
  ∀ j, j < n → payOf p j = if F j = true then rest s p j else total s j

theorem Good.rest_diff (g : Good s n) (p q : List Rat) (j : Nat) :
    rest s p j - rest s q j = s.keptPaid * sm (fun i => share s i j * (payOf p i - payOf q i)) n := by
  unfold rest
  rw [g.paid_eq, g.paid_eq]
  have e : sm (fun i => share s i j * (payOf p i - payOf q i)) n = sm (fun i => share s i j * payOf p i) n - sm (fun i => share s i j * payOf q i) n := by
    rw [← sm_sub]
    exact sm_congr n (fun i _ => by grind)
  rw [e]
  grind

theorem Good.unique (g : Good s n) {F : Nat → Bool} (hn : NC s n F) {p q : List Rat} (hp : Sol s n F p) (hq : Sol s n F q) :
    ∀ j, j < n → payOf p j = payOf q j := by
  have half : ∀ {p q : List Rat}, Sol s n F p → Sol s n F q → ∀ j, j < n → payOf p j - payOf q j ≤ 0 := by
    intro p q hp hq
    refine g.cmp (fun j => payOf p j - payOf q j) (hn.pos _ ?_) ?_
    · intro i hi h
      by_cases e : F i = true
      · exact e
      · rw [hp i hi, hq i hi, if_neg e, if_neg e] at h; grind
    · intro j hj h
      by_cases e : F j = true
      · rw [← g.rest_diff, hp j hj, hq j hj, if_pos e, if_pos e]; grind
      · rw [hp j hj, hq j hj, if_neg e, if_neg e] at h; grind
  intro j hj
  have h1 := half hp hq j hj
  have h2 := half hq hp j hj
  grind

theorem Good.nonneg (g : Good s n) {F : Nat → Bool} (hn : NC s n F) {p : List Rat} (hp : Sol s n F p) :
    ∀ j, j < n → 0 ≤ payOf p j := by
  intro j hj
  have h := g.cmp (fun j => - payOf p j) (hn.pos _ (fun i hi h => by
    by_cases e : F i = true
    · exact e
    · rw [hp i hi, if_neg e] at h
      have := g.total0 i
      grind)) (fun j hj h => by
    by_cases e : F j = true
    · have h1 : sm (fun i => share s i j * - payOf p i) n = - sm (fun i => share s i j * payOf p i) n := by
        have h2 := sm_mul (-1) (fun i => share s i j * payOf p i) n
        have h3 : sm (fun i => share s i j * - payOf p i) n = sm (fun i => -1 * (share s i j * payOf p i)) n := sm_congr n (fun i _ => by grind)
        rw [h3, h2]; grind
      rw [hp j hj, if_pos e, h1]
      unfold rest
      rw [g.paid_eq]
      have h4 := Rat.mul_nonneg g.ko0 (g.own0 j)
      grind
    · rw [hp j hj, if_neg e] at h
      have := g.total0 j
      grind) j hj
  grind

theorem Good.paid0 (g : Good s n) {p : List Rat} (hp : ∀ j, j < n → 0 ≤ payOf p j) (j : Nat) : 0 ≤ paid s p j := by
  rw [g.paid_eq]
  exact sm_nonneg n (fun i hi => Rat.mul_nonneg (g.share0 i j) (hp i hi))

theorem Good.rest_le_means (g : Good s n) {p : List Rat} (hp : ∀ j, j < n → 0 ≤ payOf p j) (j : Nat) : rest s p j ≤ means s p j := by
  unfold rest means
  have h1 := Rat.mul_le_mul_of_nonneg_right g.ko1 (g.own0 j)
  have h2 := Rat.mul_le_mul_of_nonneg_right g.kp1 (g.paid0 hp j)
  grind

/-- Payments only sink. -/
theorem Good.sinks (g : Good s n) {F G : Nat → Bool} (hG : NC s n G) {p q : List Rat} (hp : Sol s n F p) (hq : Sol s n G q)
    (hs : ∀ i, i < n → F i = true → G i = true) (hnew : ∀ i, i < n → G i = true → F i = false → rest s p i ≤ total s i) :
    ∀ j, j < n → payOf q j ≤ payOf p j := by
  intro j hj
  have h := g.cmp (fun j => payOf q j - payOf p j) (hG.pos _ (fun i hi h => by
    by_cases e : G i = true
    · exact e
    · have e2 : ¬ F i = true := fun h1 => e (hs i hi h1)
      rw [hp i hi, hq i hi, if_neg e, if_neg e2] at h; grind)) (fun j hj h => by
    by_cases e : G j = true
    · rw [← g.rest_diff, hq j hj, if_pos e]
      by_cases e2 : F j = true
      · rw [hp j hj, if_pos e2]; grind
      · have h1 := hnew j hj e (by simpa using e2)
        rw [hp j hj, if_neg e2]; grind
    · have e2 : ¬ F j = true := fun h1 => e (hs j hj h1)
      rw [hp j hj, hq j hj, if_neg e, if_neg e2] at h; grind) j hj
  grind

/-- A further wave: still no closed ring. -/
theorem Good.wave (g : Good s n) {F G : Nat → Bool} (hF : NC s n F) (hO : Owing s n G) {p : List Rat} (hp : Sol s n F p)
    (hs : ∀ i, i < n → F i = true → G i = true)
    (hnew : ∀ i, i < n → G i = true → F i = false → means s p i < total s i) : NC s n G := by
  rcases Rat.le_iff_lt_or_eq.1 g.kp1 with hk | hk
  · exact .inl hk
  refine .inr ?_
  intro C hC hne
  refine Classical.byContradiction ?_
  intro hcl
  have p0 := g.nonneg hF hp
  have closed : ∀ i j, C i = true → j < n → C j = false → debt s i j = 0 := by
    intro i j hi hj hcj
    have h1 := g.debt0 i j
    refine Classical.byContradiction ?_
    intro hz
    exact hcl ⟨i, j, hi, hj, hcj, by grind⟩
  -- someone of C is new
  have hnw : ∃ i, C i = true ∧ F i = false := by
    refine Classical.byContradiction ?_
    intro hno
    rcases hF with hF | hF
    · grind
    · obtain ⟨i, j, h1, h2, h3, h4⟩ := hF C (fun i hi => ⟨(hC i hi).1, by
        cases e : F i with
        | true => rfl
        | false => exact absurd ⟨i, hi, e⟩ hno⟩) hne
      have := closed i j h1 h2 h3
      grind
  obtain ⟨i0, hc0, hf0⟩ := hnw
  have hi0 := (hC i0 hc0).1
  -- what they pay is more than what they're paid
  have low : ∀ j, j < n → C j = true → paid s p j ≤ payOf p j ∧ (F j = false → paid s p j < payOf p j) := by
    intro j hj hc
    rw [hp j hj]
    cases e : F j with
    | true =>
      simp only [if_true]
      refine ⟨?_, fun h => by simp at h⟩
      unfold rest
      rw [hk]
      have := Rat.mul_nonneg g.ko0 (g.own0 j)
      grind
    | false =>
      have h1 := hnew j hj (hC j hc).2 e
      unfold means at h1
      have h2 := g.own0 j
      simp only [Bool.false_eq_true, if_false]
      grind
  have A : sm (fun j => if C j = true then paid s p j else 0) n < sm (fun j => if C j = true then payOf p j else 0) n := by
    refine sm_lt n (fun j hj => ?_) ⟨i0, hi0, ?_⟩
    · cases e : C j with
      | true => simp only [if_true]; exact (low j hj e).1
      | false => simp
    · rw [if_pos hc0, if_pos hc0]; exact (low i0 hi0 hc0).2 hf0
  -- yet they are paid all they pay
  have B : sm (fun j => if C j = true then payOf p j else 0) n ≤ sm (fun j => if C j = true then paid s p j else 0) n := by
    have e1 : sm (fun j => if C j = true then paid s p j else 0) n = sm (fun j => sm (fun i => (if C j = true then share s i j else 0) * payOf p i) n) n := sm_congr n (fun j hj => by
      cases e : C j with
      | true => simp only [if_true]; exact g.paid_eq p j
      | false =>
        simp only [Bool.false_eq_true, if_false]
        rw [sm_congr n (g := fun _ => 0) (fun i _ => by grind), sm_zero])
    rw [e1, sm_swap (fun j i => (if C j = true then share s i j else 0) * payOf p i)]
    refine sm_le n (fun i hi => ?_)
    have e2 : sm (fun j => (if C j = true then share s i j else 0) * payOf p i) n = payOf p i * sm (fun j => if C j = true then share s i j else 0) n := by
      rw [← sm_mul]; exact sm_congr n (fun j _ => by grind)
    rw [e2]
    have s0 : 0 ≤ sm (fun j => if C j = true then share s i j else 0) n := sm_nonneg n (fun j _ => by
      have := g.share0 i j
      split <;> grind)
    cases e : C i with
    | false =>
      simp only [Bool.false_eq_true, if_false]
      exact Rat.mul_nonneg (p0 i hi) s0
    | true =>
      simp only [if_true]
      have ti := hO i hi (hC i e).2
      have e3 : sm (fun j => if C j = true then share s i j else 0) n = 1 := by
        rw [← g.share_sum ti]
        refine sm_congr n (fun j hj => ?_)
        cases e4 : C j with
        | true => simp
        | false =>
          have h1 := closed i j e hj e4
          have h2 := g.share_mul i j hj
          rw [h1] at h2
          simp only [Bool.false_eq_true, if_false]
          grind
      rw [e3]; grind
  grind
end
end Wp

namespace Wp
open Co08 (System ownOf debt total share payOf paid means rest can paysWith)
section
variable {s : System} {n : Nat}

/-- The equations as the specification has them. -/
def eqs (s : System) (n : Nat) (f : List Bool) : List (List Rat) :=
  (List.range n).map fun (j : Nat) => if f.getD j false = true then
      ((List.range n).map fun (i : Nat) => (if i = j then (1 : Rat) else 0) - s.keptPaid * share s i j) ++ [s.keptOwn * ownOf s j]
    else ((List.range n).map fun (i : Nat) => if i = j then (1 : Rat) else 0) ++ [total s j]

theorem Good.paysWith_eq (g : Good s n) (f : List Bool) : paysWith s f = Co08.solved (eqs s n f) := by
  unfold paysWith eqs
  rw [g.cnt]

theorem eqs_row (f : List Bool) {j : Nat} (hj : j < n) : (eqs s n f).getD j [] = if f.getD j false = true then
      ((List.range n).map fun (i : Nat) => (if i = j then (1 : Rat) else 0) - s.keptPaid * share s i j) ++ [s.keptOwn * ownOf s j]
    else ((List.range n).map fun (i : Nat) => if i = j then (1 : Rat) else 0) ++ [total s j] := by
  unfold eqs
  rw [getD_map_range, if_pos hj]

theorem getD_snoc {α : Type} (l : List α) (x d : α) (i : Nat) : (l ++ [x]).getD i d = if i < l.length then l.getD i d else if i = l.length then x else d := by
  simp only [List.getD, List.getElem?_append]
  by_cases h : i < l.length
  · simp [h]
  · by_cases h2 : i = l.length
    · subst h2; simp
    · simp [h, h2]
      have : 0 < i - l.length := by omega
      obtain ⟨k, hk⟩ : ∃ k, i - l.length = k + 1 := ⟨i - l.length - 1, by omega⟩
      rw [hk]; simp

theorem eqs_shp (f : List Bool) : Shp n (n + 1) (eqs s n f) := by
  constructor
  · simp [eqs]
  · intro j hj
    rw [eqs_row f hj]
    split <;> simp

theorem eqs_ent (f : List Bool) {i j : Nat} (hj : j < n) (hi : i < n) : ent (eqs s n f) j i =
    if f.getD j false = true then (if i = j then (1 : Rat) else 0) - s.keptPaid * share s i j else if i = j then (1 : Rat) else 0 := by
  unfold ent
  rw [eqs_row f hj]
  split
  · rw [getD_snoc, if_pos (by simpa using hi), getD_map_range, if_pos hi]
  · rw [getD_snoc, if_pos (by simpa using hi), getD_map_range, if_pos hi]

theorem eqs_rhs (f : List Bool) {j : Nat} (hj : j < n) : ent (eqs s n f) j n =
    if f.getD j false = true then s.keptOwn * ownOf s j else total s j := by
  unfold ent
  rw [eqs_row f hj]
  split
  · rw [getD_snoc, if_neg (by simp), if_pos (by simp)]
  · rw [getD_snoc, if_neg (by simp), if_pos (by simp)]

theorem eqs_dot (f : List Bool) {j : Nat} (hj : j < n) (w : Vec) : dot (ent (eqs s n f) j) w n =
    if f.getD j false = true then w j - s.keptPaid * sm (fun i => share s i j * w i) n else w j := by
  rw [dot_sm]
  by_cases h : f.getD j false = true
  · rw [if_pos h]
    rw [sm_congr n (g := fun i => (if i = j then w j else 0) - s.keptPaid * (share s i j * w i)) (fun i hi => by
      rw [eqs_ent f hj hi, if_pos h]
      by_cases e : i = j
      · subst e; rw [if_pos rfl, if_pos rfl]; grind
      · rw [if_neg e, if_neg e]; grind)]
    rw [sm_sub, sm_mul, sm_one (i := j) n hj (fun i _ hne => by rw [if_neg hne]), if_pos rfl]
  · rw [if_neg h]
    rw [sm_congr n (g := fun i => (if i = j then w j else 0)) (fun i hi => by
      rw [eqs_ent f hj hi, if_neg h]
      by_cases e : i = j
      · subst e; rw [if_pos rfl, if_pos rfl]; grind
      · rw [if_neg e, if_neg e]; grind)]
    rw [sm_one (i := j) n hj (fun i _ hne => by rw [if_neg hne]), if_pos rfl]

/-- The fallen, by a list. -/
abbrev byL (f : List Bool) : Nat → Bool := fun j => f.getD j false

theorem Good.pays_ok (g : Good s n) (f : List Bool) (hn : NC s n (byL f)) :
    (paysWith s f).length = n ∧ Sol s n (byL f) (paysWith s f) := by
  rw [g.paysWith_eq]
  have half : ∀ w : Vec, (∀ j, j < n → dot (ent (eqs s n f) j) w n = 0) → ∀ c, c < n → w c ≤ 0 := by
    intro w hw
    refine g.cmp w (hn.pos _ (fun i hi h => ?_)) (fun j hj h => ?_)
    · have h1 := hw i hi
      rw [eqs_dot f hi] at h1
      by_cases e : f.getD i false = true
      · exact e
      · rw [if_neg e] at h1; grind
    · have h1 := hw j hj
      rw [eqs_dot f hj] at h1
      by_cases e : f.getD j false = true
      · rw [if_pos e] at h1; grind
      · rw [if_neg e] at h1; grind
  obtain ⟨h1, h2⟩ := solved_ok (eqs_shp (s := s) (n := n) f) (by
    intro w hwn hk c hc
    have k0 : ∀ j, j < n → dot (ent (eqs s n f) j) w n = 0 := by
      intro j hj
      have := hk j hj
      simp only [dot] at this
      rw [hwn] at this
      grind
    have a1 := half w k0 c hc
    have a2 := half (fun c => - w c) (fun j hj => by
      have h3 := k0 j hj
      rw [dot_sm] at h3 ⊢
      have h4 := sm_mul (-1) (fun c => ent (eqs s n f) j c * w c) n
      rw [sm_congr n (g := fun c => -1 * (ent (eqs s n f) j c * w c)) (fun i _ => by grind), h4, h3]
      grind) c hc
    grind)
  refine ⟨h1, ?_⟩
  intro j hj
  have h3 := h2 j hj
  rw [eqs_dot f hj, eqs_rhs f hj] at h3
  show (Co08.solved (eqs s n f)).getD j 0 = _
  by_cases e : f.getD j false = true
  · rw [if_pos e, if_pos e] at h3
    rw [if_pos e]
    unfold rest
    rw [g.paid_eq]
    unfold payOf
    grind
  · rw [if_neg e, if_neg e] at h3
    rw [if_neg e]
    exact h3
end
end Wp

namespace Wp
open Co08 (System ownOf debt total share payOf paid means rest can paysWith)

def rabs (x : Rat) : Rat := if 0 ≤ x then x else -x
theorem rabs0 (x : Rat) : 0 ≤ rabs x := by unfold rabs; split <;> grind
theorem rabs_le (x : Rat) : x ≤ rabs x ∧ -x ≤ rabs x := by unfold rabs; split <;> grind
theorem rabs_z (x : Rat) (h : rabs x = 0) : x = 0 := by unfold rabs at h; split at h <;> grind
theorem rabs_or (x : Rat) : rabs x = x ∨ rabs x = -x := by unfold rabs; split <;> simp
theorem lt_irr {x : Rat} (h : x = 0) (h2 : 0 < x) : False := by grind
theorem al3 {v w t k q : Rat} (hv : 0 < v) (h : 0 = w * (v * t) - v * k * q) : w * t = k * q := by
  have h3 : v * (w * t - k * q) = 0 := by grind
  rcases Rat.mul_eq_zero.1 h3 with h4 | h4 <;> grind
theorem al4 {x t k q r : Rat} (h : x * t = k * q) (h1 : k * q ≤ k * r) (h2 : k * -q ≤ k * r) : rabs x * t ≤ k * r := by
  rcases rabs_or x with e | e <;> rw [e] <;> grind
theorem al5 {v t k q p : Rat} (hv : 0 < v) (h : p = 1 * (v * t) - v * k * q) (hp : ¬ 0 < p) : t ≤ k * q := by
  refine Rat.not_lt.1 ?_
  intro h4
  have h5 : 0 < v * (t - k * q) := Rat.mul_pos hv (by grind)
  grind
theorem al6 (x y z : Rat) : (x - y) * z = x * z - y * z := by grind
theorem al7 (x y z : Rat) : (x + y) - z = x + (y - z) := by grind
theorem al1 (x y : Rat) : x * -y = -1 * (x * y) := by grind
theorem al2 (x : Rat) : -x = -1 * x := by grind

theorem argmax (x : Vec) : ∀ m, 0 < m → ∃ i, i < m ∧ ∀ j, j < m → x j ≤ x i
  | 0, h => by omega
  | 1, _ => ⟨0, by omega, fun j hj => by
    have : j = 0 := by omega
    subst this; exact Rat.le_refl⟩
  | m + 2, _ => by
    obtain ⟨i, hi, h⟩ := argmax x (m + 1) (by omega)
    by_cases e : x i ≤ x (m + 1)
    · refine ⟨m + 1, by omega, fun j hj => ?_⟩
      by_cases e2 : j = m + 1
      · subst e2; exact Rat.le_refl
      · exact Rat.le_trans (h j (by omega)) e
    · refine ⟨i, by omega, fun j hj => ?_⟩
      by_cases e2 : j = m + 1
      · subst e2; grind
      · exact h j (by omega)

theorem Comb.coeff {a : Nat → Vec} {k : Nat} {r r' : Vec} (h : Comb (heads a k) r r') : ∃ w : Vec, ∀ c, r' c = r c + sm (fun j => w j * a j c) k := by
  induction h with
  | refl => exact ⟨fun _ => 0, fun c => by rw [sm_congr k (g := fun _ => 0) (fun i _ => by grind), sm_zero]; grind⟩
  | @step r' b t _ ht ih =>
    obtain ⟨w, hw⟩ := ih
    obtain ⟨j, hj, e⟩ := (mem_heads a).1 ht
    refine ⟨fun i => w i - (if i = j then b else 0), fun c => ?_⟩
    show r' c - b * t c = _
    have e1 : sm (fun i => (w i - if i = j then b else 0) * a i c) k = sm (fun i => w i * a i c - (if i = j then b else 0) * a i c) k := sm_congr k (fun i _ => al6 ..)
    have e2 := sm_one (f := fun i => (if i = j then b else 0) * a i c) (i := j) k hj (fun i _ hne => by rw [if_neg hne, Rat.zero_mul])
    rw [if_pos rfl] at e2
    rw [hw c, ← e]
    show _ = r c + sm (fun i => (w i - if i = j then b else 0) * a i c) k
    rw [e1, sm_sub, e2]
    exact al7 ..

section
variable {s : System} {n : Nat}
/-- What's at most kept of the greatest beside it, is nothing. -/
theorem Good.maxp (g : Good s n) {F : Nat → Bool} (hn : NC s n F) (hO : Owing s n F) (x : Vec) (x0 : ∀ j, 0 ≤ x j)
    (xF : ∀ j, j < n → 0 < x j → F j = true)
    (h : ∀ c, c < n → 0 < x c → x c * total s c ≤ s.keptPaid * sm (fun j => debt s c j * x j) n) : ∀ c, c < n → x c = 0 := by
  intro c0 hc0
  obtain ⟨i0, hi0, hmax⟩ := argmax x n (by omega)
  have key : ¬ 0 < x i0 := by
    intro hpos
    have le1 : ∀ c, sm (fun j => debt s c j * x j) n ≤ x i0 * total s c := by
      intro c
      rw [g.total_eq, ← sm_mul]
      refine sm_le n (fun j hj => ?_)
      have := Rat.mul_le_mul_of_nonneg_left (hmax j hj) (g.debt0 c j)
      grind
    have ge0 : ∀ c, 0 ≤ sm (fun j => debt s c j * x j) n := fun c => sm_nonneg n (fun j _ => Rat.mul_nonneg (g.debt0 c j) (x0 j))
    rcases hn with hk | hn
    · have t0 := hO i0 hi0 (xF i0 hi0 hpos)
      have h1 := h i0 hi0 hpos
      have h2 := Rat.mul_le_mul_of_nonneg_left (le1 i0) g.kp0
      have h3 : 0 < (1 - s.keptPaid) * (x i0 * total s i0) := Rat.mul_pos (by grind) (Rat.mul_pos hpos t0)
      grind
    · obtain ⟨i, j, h1, h2, h3, h4⟩ := hn (fun j => decide (j < n) && decide (x j = x i0)) (fun j hj => by
        simp only [Bool.and_eq_true, decide_eq_true_eq] at hj
        exact ⟨hj.1, xF j hj.1 (by rw [hj.2]; exact hpos)⟩) ⟨i0, by simp [hi0]⟩
      simp only [Bool.and_eq_true, decide_eq_true_eq] at h1
      have hj : x j < x i0 := by
        have h5 := hmax j h2
        have h6 : x j ≠ x i0 := by
          intro e; simp [h2, e] at h3
        grind
      have lt : sm (fun k => debt s i k * x k) n < x i0 * total s i := by
        rw [g.total_eq, ← sm_mul]
        refine sm_lt n (fun k hk => ?_) ⟨j, h2, ?_⟩
        · have := Rat.mul_le_mul_of_nonneg_left (hmax k hk) (g.debt0 i k)
          grind
        · have : 0 < debt s i j * (x i0 - x j) := Rat.mul_pos h4 (by grind)
          grind
      have h5 := h i h1.1 (by rw [h1.2]; exact hpos)
      have h6 : s.keptPaid * sm (fun k => debt s i k * x k) n ≤ 1 * sm (fun k => debt s i k * x k) n := Rat.mul_le_mul_of_nonneg_right g.kp1 (ge0 i)
      rw [h1.2] at h5
      grind
  have h1 := hmax c0 hc0
  have h2 := x0 c0
  grind

/-- The equations as the program has them: the unknowns are the parts paid of all that's owed. -/
structure Matrix (s : System) (n : Nat) (F : Nat → Bool) (v : Rat) (a : Nat → Vec) : Prop where
  scale : 0 < v
  fell : ∀ j, j < n → F j = true → ∀ c, c < n → a j c = if c = j then v * total s j else -(v * s.keptPaid * debt s c j)
  fellR : ∀ j, j < n → F j = true → a j n = v * s.keptOwn * ownOf s j
  stay : ∀ j, j < n → F j = false → ∀ c, c < n → a j c = if c = j then 1 else 0
  stayR : ∀ j, j < n → F j = false → a j n = 1

theorem Good.pivot (g : Good s n) {F : Nat → Bool} (hn : NC s n F) (hO : Owing s n F) {v : Rat} {a : Nat → Vec} (ma : Matrix s n F v a)
    {k : Nat} (hk : k < n) {p : Vec} (hr : Red a k (a k) p) : 0 < p k := by
  obtain ⟨w, hw⟩ := hr.1.coeff
  obtain ⟨W, hW⟩ : ∃ W : Vec, ∀ j, W j = if j < k then w j else if j = k then 1 else 0 := ⟨_, fun _ => rfl⟩
  obtain ⟨G, hG⟩ : ∃ G : Vec, ∀ j, G j = if F j = true then W j else 0 := ⟨_, fun _ => rfl⟩
  have Wk : W k = 1 := by rw [hW]; simp
  have Wn : ∀ j, k < j → W j = 0 := fun j hj => by
    rw [hW, if_neg (by omega), if_neg (by omega)]
  -- a column of what is left
  have col : ∀ c, c < n → c ≤ k → p c = W c * (if F c = true then v * total s c else 1) - v * s.keptPaid * sm (fun j => debt s c j * G j) n := by
    intro c hc hck
    have e1 : p c = sm (fun j => W j * a j c) n := by
      have e2 : ∀ m, k + 1 ≤ m → sm (fun j => W j * a j c) m = a k c + sm (fun j => w j * a j c) k := by
        intro m
        induction m with
        | zero => intro h; omega
        | succ m ih =>
          intro h
          simp only [sm]
          by_cases e3 : m = k
          · subst e3
            rw [sm_congr m (g := fun j => w j * a j c) (fun j hj => by
              rw [hW, if_pos hj]), Wk]
            grind
          · rw [ih (by omega), Wn m (by omega)]; grind
      rw [e2 n (by omega)]; exact hw c
    rw [e1]
    have e4 : sm (fun j => W j * a j c) n = sm (fun j => (if j = c then W c * (if F c = true then v * total s c else 1) else 0) - v * s.keptPaid * (debt s c j * G j)) n := by
      refine sm_congr n (fun j hj => ?_)
      rw [hG]
      cases e : F j with
      | true =>
        rw [ma.fell j hj e c hc]
        simp only [if_true]
        by_cases e5 : c = j
        · subst e5
          rw [if_pos rfl, if_pos rfl, if_pos e, g.diag]
          grind
        · rw [if_neg e5, if_neg (fun h => e5 h.symm)]
          grind
      | false =>
        rw [ma.stay j hj e c hc]
        by_cases e5 : c = j
        · subst e5
          rw [if_pos rfl, if_pos rfl, e, if_neg (by simp), if_neg (by simp)]
          grind
        · rw [if_neg e5, if_neg (fun h => e5 h.symm), if_neg (by simp)]
          grind
    rw [e4, sm_sub, sm_mul, sm_one (f := fun j => if j = c then W c * (if F c = true then v * total s c else 1) else 0) (i := c) n hc (fun j _ hne => by rw [if_neg hne]), if_pos rfl]
  obtain ⟨x, hx⟩ : ∃ x : Vec, ∀ j, x j = rabs (G j) := ⟨_, fun _ => rfl⟩
  have x0 : ∀ j, 0 ≤ x j := fun j => by rw [hx]; exact rabs0 _
  have gx : ∀ j, G j ≤ x j ∧ - G j ≤ x j := fun j => by rw [hx]; exact rabs_le _
  have xG : ∀ j, x j = 0 → G j = 0 := fun j h => by rw [hx] at h; exact rabs_z _ h
  have Gn : ∀ j, F j = false → G j = 0 := fun j h => by
    rw [hG, h]; simp
  have xz : ∀ j, G j = 0 → x j = 0 := fun j h => by
    rw [hx, h]; rfl
  have xF : ∀ j, j < n → 0 < x j → F j = true := by
    intro j _ h
    cases e : F j with
    | true => rfl
    | false => exact (lt_irr (xz j (Gn j e)) h).elim
  have xk : ∀ j, 0 < x j → j ≤ k := by
    intro j h
    refine Classical.byContradiction ?_
    intro hj
    have : G j = 0 := by
      rw [hG, Wn j (by omega)]; split <;> rfl
    exact lt_irr (xz j this) h
  have up : ∀ c, sm (fun j => debt s c j * G j) n ≤ sm (fun j => debt s c j * x j) n := fun c =>
    sm_le n (fun j _ => Rat.mul_le_mul_of_nonneg_left (gx j).1 (g.debt0 c j))
  have dn : ∀ c, - sm (fun j => debt s c j * G j) n ≤ sm (fun j => debt s c j * x j) n := fun c => by
    have h1 : - sm (fun j => debt s c j * G j) n = sm (fun j => debt s c j * - G j) n := by
      have h2 := sm_mul (-1) (fun j => debt s c j * G j) n
      have h3 : sm (fun j => debt s c j * - G j) n = sm (fun j => -1 * (debt s c j * G j)) n := sm_congr n (fun j _ => al1 _ _)
      rw [h3, h2]; exact al2 _
    rw [h1]
    exact sm_le n (fun j _ => Rat.mul_le_mul_of_nonneg_left (gx j).2 (g.debt0 c j))
  have below : ∀ c, c < k → F c = true → x c * total s c ≤ s.keptPaid * sm (fun j => debt s c j * x j) n := by
    intro c hck hF
    have h1 := col c (by omega) (by omega)
    rw [hr.2 c hck, if_pos hF] at h1
    have gc : G c = W c := by rw [hG, if_pos hF]
    have h2 : G c * total s c = s.keptPaid * sm (fun j => debt s c j * G j) n := by
      rw [gc]; exact al3 ma.scale h1
    have u1 := Rat.mul_le_mul_of_nonneg_left (up c) g.kp0
    have u2 := Rat.mul_le_mul_of_nonneg_left (dn c) g.kp0
    rw [hx]
    exact al4 h2 u1 u2
  cases hF : F k with
  | false =>
    have z := g.maxp hn hO x x0 xF (fun c hc hx => by
      have h1 := xk c hx
      have h2 : c ≠ k := by
        intro e; subst e; exact lt_irr (xz c (Gn c hF)) hx
      exact below c (by omega) (xF c hc hx))
    have h1 := col k hk (Nat.le_refl k)
    have h3 : sm (fun j => debt s k j * G j) n = sm (fun _ => 0) n := sm_congr n (fun j hj => by rw [xG j (z j hj)]; exact Rat.mul_zero _)
    rw [h1, hF, Wk, h3, sm_zero, if_neg (by simp), Rat.mul_zero, Rat.mul_one]
    decide +kernel
  | true =>
    refine Classical.byContradiction ?_
    intro hneg
    have gk : G k = 1 := by rw [hG, if_pos hF, Wk]
    have xk1 : x k = 1 := by rw [hx, gk]; rfl
    have h1 := col k hk (Nat.le_refl k)
    rw [if_pos hF, Wk] at h1
    have h2 : x k * total s k ≤ s.keptPaid * sm (fun j => debt s k j * x j) n := by
      have u1 := Rat.mul_le_mul_of_nonneg_left (up k) g.kp0
      rw [xk1, Rat.one_mul]
      exact Rat.le_trans (al5 ma.scale h1 hneg) u1
    have z := g.maxp hn hO x x0 xF (fun c hc hx => by
      have h1 := xk c hx
      by_cases e : c = k
      · subst e; exact h2
      · exact below c (by omega) (xF c hc hx)) k hk
    rw [xk1] at z
    exact absurd z (by decide +kernel)
end
end Wp

namespace Wp
open Co08 (System ownOf debt total share payOf paid means rest can paysWith)

/-! The program's elimination over whole numbers. -/
def at2 (rows : List (List Int)) (i c : Nat) : Int := (rows.getD i []).getD c 0
def elimRow (row chosen : List Int) (k : Nat) (before : Int) : List Int :=
  (List.range row.length).map fun c => (chosen.getD k 0 * row.getD c 0 - row.getD k 0 * chosen.getD c 0) / before
def rowAt (rows : List (List Int)) (i k : Nat) (before : Int) : List Int :=
  if i = k then rows.getD k [] else elimRow (rows.getD i []) (rows.getD k []) k before
def elimStep (n : Nat) (st : List (List Int) × Int) (k : Nat) : List (List Int) × Int :=
  ((List.range n).map fun i => rowAt st.1 i k st.2, at2 st.1 k k)
def elimTo (rows : List (List Int)) (k : Nat) : List (List Int) × Int := (List.range k).foldl (elimStep rows.length) (rows, 1)
def solve (rows : List (List Int)) : List Int :=
  (elimTo rows rows.length).2 :: (elimTo rows rows.length).1.map fun r => r.getD rows.length 0

theorem elimTo_succ (rows : List (List Int)) (k : Nat) : elimTo rows (k + 1) = elimStep rows.length (elimTo rows k) k := by
  unfold elimTo; rw [List.range_succ, List.foldl_append]; rfl

theorem exact_div {x b : Int} (hb : 0 < b) (h : IsInt ((x : Rat) / (b : Rat))) : ((x / b : Int) : Rat) = (x : Rat) / (b : Rat) := by
  obtain ⟨z, hz⟩ := h
  have b0 : (b : Rat) ≠ 0 := by
    intro e
    have : b = 0 := by exact_mod_cast e
    omega
  have h1 : (x : Rat) = (z : Rat) * (b : Rat) := by grind
  have h2 : x = z * b := by
    have h3 : (x : Rat) = ((z * b : Int) : Rat) := by rw [h1]; simp
    exact_mod_cast h3
  rw [hz, h2, Int.mul_ediv_cancel _ (by omega)]

/-- The matrix of whole numbers as rows of fractions. -/
def vecs (rows : List (List Int)) : Nat → Vec := fun i c => ((at2 rows i c : Int) : Rat)

structure ShpI (n m : Nat) (l : List (List Int)) : Prop where
  len : l.length = n
  row : ∀ i, i < n → (l.getD i []).length = m

/-- The elimination's state, ahead of unknown k. -/
structure Elim (n : Nat) (rows : List (List Int)) (k : Nat) : Prop where
  shp : ShpI n (n + 1) (elimTo rows k).1
  pos : 0 < (elimTo rows k).2
  stands : Stands (vecs rows) n k (vecs (elimTo rows k).1) ((elimTo rows k).2 : Rat)

theorem elim_start {n : Nat} {rows : List (List Int)} (h : ShpI n (n + 1) rows) : Elim n rows 0 :=
  ⟨h, by show (0 : Int) < 1; decide, by
    have e : (((elimTo rows 0).2 : Int) : Rat) = 1 := rfl
    rw [e]
    exact Stands.start (vecs rows) n⟩

theorem Stands.ext {a : Nat → Vec} {n k : Nat} {e e' : Nat → Vec} {b : Rat} (h : Stands a n k e b) (hk : k ≤ n) (he : ∀ i, i < n → ∀ c, e' i c = e i c) : Stands a n k e' b := by
  refine ⟨h.before, ?_, ?_⟩
  · intro i hi hki
    obtain ⟨r, h1, h2⟩ := h.low i hi hki
    exact ⟨r, h1, fun c => by rw [he i hi, h2]⟩
  · intro i hi
    obtain ⟨r, h1, h2⟩ := h.high i hi
    exact ⟨r, h1, fun c => by rw [he i (by omega), h2]⟩

theorem elim_next {n : Nat} {rows : List (List Int)} (hr : ShpI n (n + 1) rows) {k : Nat} (hk : k < n)
    (hp : ∀ p, Red (vecs rows) k (vecs rows k) p → 0 < p k) (h : Elim n rows k) : Elim n rows (k + 1) := by
  have hlen : rows.length = n := hr.len
  have hb := h.pos
  have b0 : (((elimTo rows k).2 : Int) : Rat) ≠ 0 := by
    intro e
    have : (elimTo rows k).2 = 0 := by exact_mod_cast e
    omega
  have next := h.stands.next (vecs rows) hk b0 (fun p hpr => by have := hp p hpr; grind)
  have hint : ∀ i c, IsInt (vecs rows i c) := fun i c => ⟨_, rfl⟩
  have nint : ∀ i, i < n → ∀ c, IsInt _ := fun i hi c => next.isInt (vecs rows) hint hi hk c
  have rw1 : ∀ i, i < n → ((elimTo rows (k + 1)).1.getD i []) = rowAt (elimTo rows k).1 i k (elimTo rows k).2 := by
    intro i hi
    rw [elimTo_succ]
    show (((List.range rows.length).map fun i => rowAt (elimTo rows k).1 i k (elimTo rows k).2)).getD i [] = _
    rw [getD_map_range, if_pos (by omega)]
  have e2 : (elimTo rows (k + 1)).2 = at2 (elimTo rows k).1 k k := by rw [elimTo_succ]; rfl
  refine ⟨⟨?_, ?_⟩, ?_, ?_⟩
  · rw [elimTo_succ]; simp [elimStep, hlen]
  · intro i hi
    rw [rw1 i hi]
    unfold rowAt
    split
    · exact h.shp.row k hk
    · simp only [elimRow, List.length_map, List.length_range]; exact h.shp.row i hi
  · rw [e2]
    obtain ⟨p, rp, ep⟩ := h.stands.low k hk (Nat.le_refl k)
    have h1 := hp p rp
    have h2 := ep k
    rw [← h.stands.before] at h2
    have h3 : (0 : Rat) < ((elimTo rows k).2 : Rat) := by exact_mod_cast hb
    have h4 : (0 : Rat) < ((at2 (elimTo rows k).1 k k : Int) : Rat) := by
      show 0 < vecs (elimTo rows k).1 k k
      rw [h2]; exact Rat.mul_pos h3 h1
    exact_mod_cast h4
  · have e3 : (((elimTo rows (k + 1)).2 : Int) : Rat) = vecs (elimTo rows k).1 k k := by rw [e2]; rfl
    rw [e3]
    refine next.ext hk ?_
    intro i hi c
    show ((((elimTo rows (k + 1)).1.getD i []).getD c 0 : Int) : Rat) = _
    rw [rw1 i hi]
    unfold rowAt
    by_cases e : i = k
    · subst e; rw [if_pos rfl, if_pos rfl]; rfl
    · rw [if_neg e, if_neg e]
      have hv := nint i hi c
      rw [if_neg e] at hv
      have e4 : (vecs (elimTo rows k).1 k k * vecs (elimTo rows k).1 i c - vecs (elimTo rows k).1 i k * vecs (elimTo rows k).1 k c) =
          (((at2 (elimTo rows k).1 k k * at2 (elimTo rows k).1 i c - at2 (elimTo rows k).1 i k * at2 (elimTo rows k).1 k c : Int)) : Rat) := by
        unfold vecs; simp
      rw [e4] at hv ⊢
      rw [← exact_div hb hv]
      unfold elimRow
      rw [getD_map_range, h.shp.row i hi]
      by_cases hc : c < n + 1
      · rw [if_pos hc]; rfl
      · rw [if_neg hc]
        have z : ∀ j, j < n → at2 (elimTo rows k).1 j c = 0 := fun j hj => getD_out (by rw [h.shp.row j hj]; omega)
        rw [z i hi, z k hk]
        simp

theorem elim_all {n : Nat} {rows : List (List Int)} (hr : ShpI n (n + 1) rows)
    (hp : ∀ k, k < n → ∀ p, Red (vecs rows) k (vecs rows k) p → 0 < p k) : ∀ k, k ≤ n → Elim n rows k
  | 0, _ => elim_start hr
  | k + 1, hk => elim_next hr (by omega) (hp k (by omega)) (elim_all hr hp k (by omega))

section
variable {s : System} {n : Nat}
/-- **The program's elimination gives the specification's payments.** -/
theorem Good.solve_ok (g : Good s n) {F : Nat → Bool} (hn : NC s n F) (hO : Owing s n F) {v : Rat} {rows : List (List Int)}
    (hr : ShpI n (n + 1) rows) (ma : Matrix s n F v (vecs rows)) {p : List Rat} (hp : Sol s n F p) :
    ∃ (b : Int) (xs : List Int), solve rows = b :: xs ∧ xs.length = n ∧ 0 < b ∧
      ∀ i, i < n → (xs.getD i 0 : Rat) * total s i = (b : Rat) * payOf p i := by
  have el := elim_all hr (fun k hk p hpr => g.pivot hn hO ma hk hpr)
  have en := el n (Nat.le_refl n)
  have hlen : rows.length = n := hr.len
  refine ⟨(elimTo rows n).2, (elimTo rows n).1.map fun r => r.getD n 0, ?_, ?_, en.pos, ?_⟩
  · unfold solve; rw [hlen]
  · rw [List.length_map]; exact en.shp.len
  · intro i hi
    rw [getD_map _ _ _ _ [] (by rw [en.shp.len]; exact hi)]
    obtain ⟨y, hy⟩ : ∃ y : Vec, ∀ j, y j = if F j = true then payOf p j / total s j else 1 := ⟨_, fun _ => rfl⟩
    have hdy : ∀ c i, c < n → i < n → debt s c i * y c = share s c i * payOf p c := by
      intro c i hc hi
      have h1 := g.share_mul c i hi
      rw [hy c]
      have h3 := hp c hc
      cases e : F c with
      | true =>
        have h2 := hO c hc e
        simp only [if_true]
        rw [← h1]
        grind
      | false =>
        rw [e] at h3
        simp only [Bool.false_eq_true, if_false] at h3 ⊢
        rw [h3, h1, Rat.mul_one]
    have hty : ∀ j, j < n → y j * total s j = payOf p j := by
      intro j hj
      rw [hy j]
      have h3 := hp j hj
      cases e : F j with
      | true =>
        have h2 := hO j hj e
        simp only [if_true]
        grind
      | false =>
        rw [e] at h3
        simp only [Bool.false_eq_true, if_false] at h3 ⊢
        rw [h3, Rat.one_mul]
    have sol := en.stands.solves (vecs rows) (y := y) (fun j hj => by
      rw [dot_sm]
      cases e : F j with
      | true =>
        have e1 : sm (fun c => vecs rows j c * y c) n = sm (fun c => (if c = j then v * (y j * total s j) else 0) - v * s.keptPaid * (share s c j * payOf p c)) n := sm_congr n (fun c hc => by
          rw [ma.fell j hj e c hc, ← hdy c j hc hj]
          by_cases e2 : c = j
          · subst e2
            rw [if_pos rfl, if_pos rfl, g.diag]
            grind
          · rw [if_neg e2, if_neg e2]
            grind)
        rw [e1, sm_sub, sm_mul, ← g.paid_eq, sm_one (f := fun c => if c = j then v * (y j * total s j) else 0) (i := j) n hj (fun c _ hne => if_neg hne), if_pos rfl, hty j hj, ma.fellR j hj e]
        have h3 := hp j hj
        rw [e] at h3
        simp only [if_true] at h3
        rw [h3]
        unfold rest
        grind
      | false =>
        have e1 : sm (fun c => vecs rows j c * y c) n = sm (fun c => if c = j then 1 else 0) n := sm_congr n (fun c hc => by
          rw [ma.stay j hj e c hc]
          by_cases e2 : c = j
          · subst e2
            rw [if_pos rfl, hy c, e]
            simp
          · rw [if_neg e2, Rat.zero_mul])
        rw [e1, sm_one (f := fun c => if c = j then (1 : Rat) else 0) (i := j) n hj (fun c _ hne => if_neg hne), if_pos rfl, ma.stayR j hj e]) hi
    have sol2 : ((((elimTo rows n).1.getD i []).getD n 0 : Int) : Rat) = ((elimTo rows n).2 : Rat) * y i := sol
    rw [sol2, Rat.mul_assoc, hty i hi]
end
end Wp

namespace Wp
/-- How great the elimination's numbers may become. -/
def Bd (B : Rat) (x : Rat) : Prop := -B ≤ x ∧ x ≤ B

theorem Bd.mul {A B x y : Rat} (hA : 0 ≤ A) (hx : Bd A x) (hy : Bd B y) : Bd (A * B) (x * y) := by
  have hB : 0 ≤ B := by have := hy.1; have := hy.2; grind
  have hxy : rabs x ≤ A := by rcases rabs_or x with e | e <;> rw [e] <;> have := hx.1 <;> have := hx.2 <;> grind
  have hyy : rabs y ≤ B := by rcases rabs_or y with e | e <;> rw [e] <;> have := hy.1 <;> have := hy.2 <;> grind
  have h1 : rabs x * rabs y ≤ A * rabs y := Rat.mul_le_mul_of_nonneg_right hxy (rabs0 y)
  have h2 : A * rabs y ≤ A * B := Rat.mul_le_mul_of_nonneg_left hyy hA
  have h3 : rabs x * rabs y = x * y ∨ rabs x * rabs y = -(x * y) := by
    rcases rabs_or x with e | e <;> rcases rabs_or y with e2 | e2 <;> rw [e, e2] <;> grind
  have h4 : 0 ≤ rabs x * rabs y := Rat.mul_nonneg (rabs0 x) (rabs0 y)
  unfold Bd
  rcases h3 with e | e <;> rw [e] at h1 h4 <;> constructor <;> grind

theorem wedge_bd {r : Vec} {E : Rat} (hE : 0 ≤ E) (hr : ∀ c, Bd E (r c)) {B : Rat} (hB : 0 ≤ B) : ∀ (C : List Nat) (F : Form) (m : Nat),
    (∀ C', C'.length < m → Bd B (F C')) → C.length ≤ m → Bd ((C.length : Rat) * (E * B)) (wedge r C F)
  | [], F, m, _, _ => by simp only [wedge, Bd, List.length_nil]; constructor <;> grind
  | c :: C, F, m, h, hm => by
    simp only [wedge]
    have h1 := Bd.mul hE (hr c) (h C (by simp at hm; omega))
    have h2 := wedge_bd hE hr hB C (fun C' => F (c :: C')) (m - 1) (fun C' hC' => h (c :: C') (by simp; omega)) (by simp at hm; omega)
    have e : (((c :: C).length : Nat) : Rat) = (C.length : Rat) + 1 := by simp
    rw [e]
    unfold Bd at *
    constructor <;> grind

def pw (x : Rat) : Nat → Rat
  | 0 => 1
  | k + 1 => x * pw x k

theorem pw0 {x : Rat} (h : 0 ≤ x) : ∀ k, 0 ≤ pw x k
  | 0 => by simp only [pw]; grind
  | k + 1 => Rat.mul_nonneg h (pw0 h k)

theorem det_bd {E : Rat} (hE : 0 ≤ E) : ∀ (K : List Vec), (∀ r ∈ K, ∀ c, Bd E (r c)) → ∀ C : List Nat, C.length ≤ 9 → Bd (pw (9 * E) K.length) (det K C)
  | [], _, C, _ => by
    cases C with
    | nil => simp only [det, one, pw, Bd, List.length_nil]; constructor <;> grind
    | cons c C => simp only [det, one, pw, Bd, List.length_nil]; constructor <;> grind
  | r :: K, h, C, hC => by
    have hB := pw0 (x := 9 * E) (by grind) K.length
    have h1 := wedge_bd hE (h r (List.mem_cons_self ..)) hB C (det K) 10 (fun C' hC' => det_bd hE K (fun s hs => h s (List.mem_cons_of_mem _ hs)) C' (by omega)) (by omega)
    show Bd (9 * E * pw (9 * E) K.length) (wedge r C (det K))
    have h2 : (C.length : Rat) ≤ 9 := by
      have h3 : ((C.length : Nat) : Rat) ≤ ((9 : Nat) : Rat) := by exact_mod_cast hC
      simpa using h3
    have h3 := Rat.mul_le_mul_of_nonneg_right h2 (Rat.mul_nonneg hE hB)
    unfold Bd at *
    constructor <;> grind

section
variable {a : Nat → Vec} {E : Rat}
theorem heads_bd (ha : ∀ i c, Bd E (a i c)) (k : Nat) : ∀ r ∈ heads a k, ∀ c, Bd E (r c) := by
  intro r hr c
  obtain ⟨j, _, e⟩ := (mem_heads a).1 hr
  rw [← e]; exact ha j c

theorem D_bd (hE : 0 ≤ E) (ha : ∀ i c, Bd E (a i c)) {k : Nat} (hk : k ≤ 8) : Bd (pw (9 * E) k) (D a k) := by
  have h := det_bd hE (heads a k) (heads_bd ha k) (List.range k) (by simp; omega)
  have e : (heads a k).length = k := by simp [heads]
  rw [e] at h
  exact h

theorem Red_bd (hE : 0 ≤ E) (ha : ∀ i c, Bd E (a i c)) {k : Nat} (hk : k ≤ 8) {r r' : Vec} (hr : ∀ c, Bd E (r c)) (h : Red a k r r') (c : Nat) : Bd (pw (9 * E) (k + 1)) (D a k * r' c) := by
  rw [← h.det]
  have h1 := det_bd hE (heads a k ++ [r]) (fun s hs c => by
    rcases List.mem_append.1 hs with h1 | h1
    · exact heads_bd ha k s h1 c
    · rw [List.mem_singleton.1 h1]; exact hr c) (List.range k ++ [c]) (by simp; omega)
  have e : (heads a k ++ [r]).length = k + 1 := by simp [heads]
  rw [e] at h1
  exact h1

theorem Stands_bd (hE : 1 ≤ E) (ha : ∀ i c, Bd E (a i c)) {n k : Nat} {e : Nat → Vec} {b : Rat} (h : Stands a n k e b) (hk : k ≤ n) (hn : n ≤ 8) {i : Nat} (hi : i < n) (c : Nat) :
    Bd (2 * pw (9 * E) (k + 1)) (e i c) := by
  have E0 : 0 ≤ E := by grind
  have p0 := pw0 (x := 9 * E) (by grind) k
  have p1 := pw0 (x := 9 * E) (by grind) (k + 1)
  have pk : pw (9 * E) k ≤ pw (9 * E) (k + 1) := by
    show pw (9 * E) k ≤ 9 * E * pw (9 * E) k
    have h1 : (1 : Rat) ≤ 9 * E := by grind
    have := Rat.mul_le_mul_of_nonneg_right h1 p0
    grind
  by_cases h1 : i < k
  · obtain ⟨q, rq, eq⟩ := h.high i h1
    rw [eq c]
    have u : ∀ c, Bd E (unit i c) := fun c => by
      unfold unit Bd; split <;> constructor <;> grind
    have h2 := Red_bd E0 ha (by omega : k ≤ 8) u rq c
    have h3 := D_bd E0 ha (by omega : k ≤ 8)
    have h4 : D a k * (unit i c - q c) = (if c = i then D a k else 0) - D a k * q c := by
      unfold unit; split <;> grind
    rw [h4]
    unfold Bd at *
    split <;> constructor <;> grind
  · obtain ⟨r', rr, er⟩ := h.low i hi (by omega)
    rw [er c]
    have h2 := Red_bd E0 ha (by omega : k ≤ 8) (ha i) rr c
    unfold Bd at *
    constructor <;> grind
end

theorem pw_two (b : Nat) : ∀ k, pw ((2 ^ b : Nat) : Rat) k = ((2 ^ (b * k) : Nat) : Rat)
  | 0 => by simp [pw]
  | k + 1 => by
    show ((2 ^ b : Nat) : Rat) * pw ((2 ^ b : Nat) : Rat) k = _
    rw [pw_two b k, Nat.mul_succ, Nat.pow_add, Nat.mul_comm (2 ^ (b * k)), Rat.natCast_mul]

theorem pw_mono {x y : Rat} (h0 : 0 ≤ x) (h : x ≤ y) : ∀ k, pw x k ≤ pw y k
  | 0 => by simp only [pw]; grind
  | k + 1 => by
    show x * pw x k ≤ y * pw y k
    have h1 := Rat.mul_le_mul_of_nonneg_right h (pw0 h0 k)
    have h2 := Rat.mul_le_mul_of_nonneg_left (pw_mono h0 h k) (show 0 ≤ y by grind)
    grind

theorem castB (B : Nat) : (((B : Nat) : Int) : Rat) = (B : Rat) := rfl

theorem Bd_nat {z : Int} {B : Nat} (h : Bd (B : Rat) (z : Rat)) : z.natAbs ≤ B := by
  have h1 : z ≤ (B : Int) := by
    have h2 := h.2
    rw [← castB] at h2
    exact_mod_cast h2
  have h2 : -(B : Int) ≤ z := by
    have h2 := h.1
    rw [← castB, ← Rat.intCast_neg] at h2
    exact_mod_cast h2
  omega

theorem nat_Bd {z : Int} {B : Nat} (h : z.natAbs ≤ B) : Bd (B : Rat) (z : Rat) := by
  have h1 : z ≤ (B : Int) := by omega
  have h2 : -(B : Int) ≤ z := by omega
  constructor
  · rw [← castB, ← Rat.intCast_neg]
    exact_mod_cast h2
  · rw [← castB]
    exact_mod_cast h1

/-- **The sizes**: factors of b bits make states of (b + 4) (k + 1) + 1 bits. -/
theorem elim_bd {n : Nat} {rows : List (List Int)} {k : Nat} (h : Elim n rows k) (hk : k ≤ n) (hn : n ≤ 8) {b : Nat}
    (hb : ∀ i c, (at2 rows i c).natAbs ≤ 2 ^ b) {i : Nat} (hi : i < n) (c : Nat) :
    (at2 (elimTo rows k).1 i c).natAbs ≤ 2 ^ ((b + 4) * (k + 1) + 1) := by
  have ha : ∀ i c, Bd ((2 ^ b : Nat) : Rat) (vecs rows i c) := fun i c => nat_Bd (hb i c)
  have h1 : (1 : Rat) ≤ ((2 ^ b : Nat) : Rat) := by
    have : (1 : Nat) ≤ 2 ^ b := Nat.one_le_two_pow
    exact_mod_cast this
  have h2 := Stands_bd h1 ha h.stands hk hn hi c
  have h3 : pw (9 * ((2 ^ b : Nat) : Rat)) (k + 1) ≤ ((2 ^ ((b + 4) * (k + 1)) : Nat) : Rat) := by
    rw [← pw_two]
    refine pw_mono (by grind) ?_ _
    have e : ((2 ^ (b + 4) : Nat) : Rat) = 16 * ((2 ^ b : Nat) : Rat) := by
      rw [Nat.pow_add, Nat.mul_comm]; simp
    rw [e]; grind
  refine Bd_nat (z := at2 (elimTo rows k).1 i c) ?_
  have e2 : ((2 ^ ((b + 4) * (k + 1) + 1) : Nat) : Rat) = 2 * ((2 ^ ((b + 4) * (k + 1)) : Nat) : Rat) := by
    rw [Nat.pow_succ, Nat.mul_comm]; simp
  rw [e2]
  have h4 : Bd (2 * pw (9 * ((2 ^ b : Nat) : Rat)) (k + 1)) ((at2 (elimTo rows k).1 i c : Int) : Rat) := h2
  unfold Bd at *
  constructor <;> grind

theorem elim_before_bd {n : Nat} {rows : List (List Int)} {k : Nat} (h : Elim n rows k) (hk : k ≤ 8) {b : Nat}
    (hb : ∀ i c, (at2 rows i c).natAbs ≤ 2 ^ b) : ((elimTo rows k).2).natAbs ≤ 2 ^ ((b + 4) * k) := by
  have ha : ∀ i c, Bd ((2 ^ b : Nat) : Rat) (vecs rows i c) := fun i c => nat_Bd (hb i c)
  have h0 : (0 : Rat) ≤ ((2 ^ b : Nat) : Rat) := by
    have : (0 : Nat) ≤ 2 ^ b := Nat.zero_le _
    exact_mod_cast this
  have h2 := D_bd h0 ha hk
  rw [← h.stands.before] at h2
  have h3 : pw (9 * ((2 ^ b : Nat) : Rat)) k ≤ ((2 ^ ((b + 4) * k) : Nat) : Rat) := by
    rw [← pw_two]
    refine pw_mono (by grind) ?_ _
    have e : ((2 ^ (b + 4) : Nat) : Rat) = 16 * ((2 ^ b : Nat) : Rat) := by
      rw [Nat.pow_add, Nat.mul_comm]; simp
    rw [e]; grind
  refine Bd_nat (z := (elimTo rows k).2) ?_
  unfold Bd at *
  constructor <;> grind
end Wp

/-! The common unit. -/
namespace Wp
abbrev Fr := Nat × Nat
def lcm2 (u : Nat) (q : Fr) : Nat := u / Nat.gcd u q.2 * q.2
def unitOf (l : List Fr) : Nat := l.foldl lcm2 1
def prodDen (l : List Fr) : Nat := l.foldl (fun u q => u * q.2) 1
theorem unitOf_snoc (l : List Fr) (q : Fr) : unitOf (l ++ [q]) = lcm2 (unitOf l) q := by unfold unitOf; rw [List.foldl_append]; rfl
theorem prodDen_snoc (l : List Fr) (q : Fr) : prodDen (l ++ [q]) = prodDen l * q.2 := by unfold prodDen; rw [List.foldl_append]; rfl
theorem snoc_ind {α : Type} {motive : List α → Prop} (h0 : motive []) (hs : ∀ l x, motive l → motive (l ++ [x])) : ∀ l, motive l := by
  intro l
  have : ∀ n, ∀ l : List α, l.length = n → motive l := by
    intro n
    induction n with
    | zero => intro l hl; rw [List.length_eq_zero_iff.1 hl]; exact h0
    | succ n ih =>
      intro l hl
      have hne : l ≠ [] := by intro e; subst e; simp at hl
      rw [← List.dropLast_concat_getLast hne]
      exact hs _ _ (ih _ (by rw [List.length_dropLast, hl]; omega))
  exact this _ l rfl
theorem lcm2_eq (u : Nat) (q : Fr) : lcm2 u q = Nat.lcm u q.2 := by
  unfold lcm2 Nat.lcm
  rw [Nat.div_mul_right_comm (Nat.gcd_dvd_left u q.2)]
theorem unitOf_pos : ∀ l : List Fr, (∀ q ∈ l, 0 < q.2) → 0 < unitOf l := by
  refine snoc_ind ?_ ?_
  · intro _; decide
  · intro l q ih h
    rw [unitOf_snoc, lcm2_eq]
    exact Nat.lcm_pos (ih (fun x hx => h x (List.mem_append_left _ hx))) (h q (List.mem_append_right _ (List.mem_singleton.2 rfl)))
theorem unitOf_dvd : ∀ l : List Fr, ∀ q ∈ l, q.2 ∣ unitOf l := by
  refine snoc_ind ?_ ?_
  · intro q hq; simp at hq
  · intro l x ih q hq
    rw [unitOf_snoc, lcm2_eq]
    rcases List.mem_append.1 hq with h | h
    · exact Nat.dvd_trans (ih q h) (Nat.dvd_lcm_left _ _)
    · rw [List.mem_singleton.1 h]; exact Nat.dvd_lcm_right _ _
theorem unitOf_le : ∀ l : List Fr, unitOf l ≤ prodDen l := by
  refine snoc_ind ?_ ?_
  · decide
  · intro l q ih
    rw [unitOf_snoc, prodDen_snoc]
    unfold lcm2
    exact Nat.mul_le_mul_right _ (Nat.le_trans (Nat.div_le_self _ _) ih)
theorem prodDen_app (l m : List Fr) (h : ∀ q ∈ m, 0 < q.2) : prodDen l ≤ prodDen (l ++ m) := by
  revert h
  refine snoc_ind (motive := fun m => (∀ q ∈ m, 0 < q.2) → prodDen l ≤ prodDen (l ++ m)) ?_ ?_ m
  · intro _; simp
  · intro m q ih h
    rw [← List.append_assoc, prodDen_snoc]
    exact Nat.le_trans (ih (fun x hx => h x (List.mem_append_left _ hx))) (Nat.le_mul_of_pos_right _ (h q (List.mem_append_right _ (List.mem_singleton.2 rfl))))
/-- row in units -/
def inUnits (l : List Fr) (u : Nat) : List Int := l.map fun q => ((q.1 * (u / q.2) : Nat) : Int)
end Wp

namespace Wq
open PySem PySem.Spec PyProof.Rows L2
def top (i : Nat) : Stmt := PySem.Challenge.pw_whopays_s01_answers.main.body.getD i (.Pass ⟨0, 0, 0, 0⟩)
theorem same_upd {H : Hp} {p : Addr} {o : HO} (h : H p = none) : Same H (upd H p o) := fun b x e => by
  rw [upd_ne (ne_of_none e h)]
  exact e
/-- // of a dividend below 2 ^ 13500 by any positive divisor -/
theorem nopy {i j : Int} (h : i.natAbs < 2 ^ 13500) : Builtin.divisionGoesByPylong i j = false := by
  show (decide ((if j == 0 then 0 else j.natAbs.log2 / 30 + 1) > 300) && decide ((if i == 0 then 0 else i.natAbs.log2 / 30 + 1) > (if j == 0 then 0 else j.natAbs.log2 / 30 + 1) + 150)) = false
  have h1 : i.natAbs.log2 < 13500 := PySem.Flt.log2_lt_of (by decide) h
  have k : (if i == 0 then 0 else i.natAbs.log2 / 30 + 1) ≤ 450 := by
    split
    · omega
    · omega
  generalize (if j == 0 then 0 else j.natAbs.log2 / 30 + 1) = d at *
  generalize (if i == 0 then 0 else i.natAbs.log2 / 30 + 1) = e at *
  by_cases hd : d > 300
  · rw [decide_eq_false (show ¬ e > d + 150 by omega), Bool.and_false]
  · rw [decide_eq_false hd, Bool.false_and]
/-- a number that may be divided by any -/
def Small (x : Int) : Prop := x.natAbs < 2 ^ 13500
/-- a number by which any may be divided -/
def Small9 (x : Int) : Prop := x.natAbs < 2 ^ 9000
theorem Small.mono {x y : Int} (h : Small y) (hl : x.natAbs ≤ y.natAbs) : Small x := Nat.lt_of_le_of_lt hl h
theorem small_mul {i j : Int} (hi : Small i) (hj : Small j) : CMulW i j := wide_mul (a := 13500) (b := 13500) hi hj (by decide) (by decide) (by decide)
theorem small_bits {x : Int} {b : Nat} (h : x.natAbs < 2 ^ b) (hb : b ≤ 13500) : Small x := Nat.lt_of_lt_of_le h (Nat.pow_le_pow_right (by decide) hb)
theorem divp {i j : Int} (hj : 0 < j) (h : Small i) : CDivP i j := ⟨hj, nopy h⟩
theorem divp9 {i j : Int} (hj : 0 < j) (h : Small9 j) : CDivP i j := ⟨hj, PyProof.noPylong_of_log2 (PySem.Flt.log2_lt_of (by decide) h)⟩
theorem op_fdivP {X : Cx} : OpR X (binaryOp .FloorDiv) (rI CDivP fun i j => .int (i / j)) := opI fun i j _ _ _ _ _ hc q => by
  have h1 : (0 : Int) < j := hc.1
  exact floordiv_int (by omega) (by rw [Int.fdiv_eq_ediv_of_nonneg i (by omega)]; exact q) (.inl hc.2)
abbrev sDivisor : Stmt := top 5
abbrev sMultiple : Stmt := top 6
abbrev sLowest : Stmt := top 7
section
variable {P : Program} {w : World} {K : PySem.W.Frag} {mg : Str → Option Value} {base : Heap}
/-! shared_divisor -/
theorem scDivisor : FnScope ["a", "b", "rest"] ["a", "b"] (defScope sDivisor) := ⟨rfl, rfl, rfl, by decide +kernel, rfl, by decide +kernel, by decide +kernel⟩
def spDivisor : Sp := fun vs H Q _ => ∃ a b : Nat, vs = [.int a, .int b] ∧ Q (.int (Nat.gcd a b : Nat)) H
theorem ok_divisor {f : Addr} {fd : FuncData} (F : Fun K "shared_divisor" "shared_divisor" sDivisor f fd) : FnOk P w K mg base CX0 1 f fd ["a", "b"] spDivisor := by
  refine F.ok scDivisor (fun vs H Q E h => ?_) (fun cdv A outer s H vs Q E hr h => ?_)
  · obtain ⟨a, b, rfl, _⟩ := h
    rfl
  · obtain ⟨a, b, rfl, k⟩ := h
    refine ⟨_, pss_cons (ps_while PassesOwn.never (pt_cmpR op_gt (pv 1) pe_int (nomark _))
      (pss_cons (ps_set (i := 2) scDivisor.nd rfl (Or.inl rfl) (pe_op op_mod (pv 0) (pv 1)))
        (pss_cons (ps_set (i := 0) scDivisor.nd rfl (Or.inl rfl) (pv 1)) (pss_one (ps_set (i := 1) scDivisor.nd rfl (Or.inl rfl) (pv 2))))))
      (pss_one (ps_ret (pv 0))), ?_⟩
    refine ⟨fun m σ H' => ∃ (x y : Nat) (v : Option V), σ = [some (.int x), some (.int y), v] ∧ Nat.gcd x y = Nat.gcd a b ∧ H' = H ∧ m = y, ⟨b, a, b, none, rfl, rfl, rfl, rfl⟩, ?_⟩
    rintro m σ H' ⟨x, y, v, rfl, e, rfl, em⟩
    refine ⟨_, rfl, _, _, rfl, rfl, _, rfl, ?_⟩
    refine ite2 (fun c => ?_) (fun c => ?_)
    · have hy : 0 < y := by
        have := of_decide_eq_true c
        omega
      refine ⟨_, fun σ' H'' hN => hN, _, rfl, _, rfl, _, _, rfl, rfl, (by show (0 : Int) < (y : Int); omega), ?_⟩
      refine ⟨_, rfl, _, rfl, x % y, ?_, y, x % y, some (.int ((x % y : Nat) : Int)), rfl, ?_, rfl, rfl⟩
      · have := Nat.mod_lt x hy
        omega
      · rw [Nat.gcd_comm y, ← Nat.gcd_rec, Nat.gcd_comm y x]; exact e
    · have hy : y = 0 := by
        by_cases h0 : 0 < y
        · exact absurd (decide_eq_true (by omega)) c
        · omega
      subst hy
      rw [Nat.gcd_zero_right] at e
      refine ⟨_, rfl, ?_⟩
      rw [e]; exact k
end
end Wq

namespace Wq
open PySem PySem.Spec PyProof.Rows L2
/-- A def that keeps its promise, where it stands. -/
structure Def (P : Program) (w : World) (K : PySem.W.Frag) (mg : Str → Option Value) (base : Heap) (k : Nat) (x : Str) (ps : List Str) (sp : Sp) (f : Addr) (fd : FuncData) : Prop where
  ok : FnOk P w K mg base CX0 k f fd ps sp
  here : mg x = some (.ref f)
  kp : PySem.W.keepIn K (.ref f) = true
  b : Binds K fd ps []
section
variable {P : Program} {w : World} {K : PySem.W.Frag} {mg : Str → Option Value} {base : Heap}
/-! shared_multiple -/
theorem scMultiple : FnScope ["a", "b"] ["a", "b"] (defScope sMultiple) := ⟨rfl, rfl, rfl, by decide +kernel, rfl, by decide +kernel, by decide +kernel⟩
def spMultiple : Sp := fun vs H Q _ => ∃ a b : Nat, vs = [.int a, .int b] ∧ 0 < a ∧ 0 < b ∧ Small a ∧ Small b ∧ Q (.int (a / Nat.gcd a b * b : Nat)) H
theorem ok_multiple {f f1 : Addr} {fd fd1 : FuncData} (F : Fun K "shared_multiple" "shared_multiple" sMultiple f fd) (D1 : Def P w K mg base 1 "shared_divisor" ["a", "b"] spDivisor f1 fd1) :
    FnOk P w K mg base CX0 2 f fd ["a", "b"] spMultiple := by
  refine F.ok scMultiple (fun vs H Q E h => ?_) (fun cdv A outer s H vs Q E hr h => ?_)
  · obtain ⟨a, b, rfl, _⟩ := h
    rfl
  · obtain ⟨a, b, rfl, ha, hb, la, lb, k⟩ := h
    refine ⟨_, pss_one (ps_ret (pe_op op_mulW (pe_op op_fdivP (pv 0) (pe_call D1.ok hr rfl D1.here D1.kp D1.b .nil pass0 (pa_cons (pv 0) (pa_cons (pv 1) pa_nil)))) (pv 1))), ?_⟩
    have hg : 0 < Nat.gcd a b := Nat.gcd_pos_of_pos_left b ha
    refine ⟨_, rfl, _, rfl, _, rfl, a, b, rfl, _, _, rfl, rfl, divp (by omega) la, _, rfl, _, _, rfl, rfl, ?_, ?_⟩
    · refine small_mul (Small.mono la ?_) lb
      rw [show ((a : Int) / ((Nat.gcd a b : Nat) : Int)) = ((a / Nat.gcd a b : Nat) : Int) from (Int.natCast_ediv _ _).symm]
      exact Nat.div_le_self _ _
    · have e : ((a : Int) / ((Nat.gcd a b : Nat) : Int)) * (b : Int) = ((a / Nat.gcd a b * b : Nat) : Int) := by
        rw [Int.natCast_mul, Int.natCast_ediv]
      show Q (.int (((a : Int) / ((Nat.gcd a b : Nat) : Int)) * (b : Int))) H
      rw [e]; exact k
/-! lowest -/
theorem scLowest : FnScope ["above", "below", "divisor"] ["above", "below"] (defScope sLowest) := ⟨rfl, rfl, rfl, by decide +kernel, rfl, by decide +kernel, by decide +kernel⟩
def spLowest : Sp := fun vs H Q _ => ∃ a b : Nat, vs = [.int a, .int b] ∧ 0 < b ∧ Small a ∧ Small b ∧
  ∀ p, H p = none → Q (.ref p) (upd H p (.lst [.int (a / Nat.gcd a b : Nat), .int (b / Nat.gcd a b : Nat)]))
theorem ok_lowest {f f1 : Addr} {fd fd1 : FuncData} (F : Fun K "lowest" "lowest" sLowest f fd) (D1 : Def P w K mg base 1 "shared_divisor" ["a", "b"] spDivisor f1 fd1) :
    FnOk P w K mg base CX0 2 f fd ["above", "below"] spLowest := by
  refine F.ok scLowest (fun vs H Q E h => ?_) (fun cdv A outer s H vs Q E hr h => ?_)
  · obtain ⟨a, b, rfl, _⟩ := h
    rfl
  · obtain ⟨a, b, rfl, hb, la, lb, k⟩ := h
    refine ⟨_, pss_cons (ps_set (i := 2) scLowest.nd rfl (Or.inl rfl) (pe_call D1.ok hr rfl D1.here D1.kp D1.b .nil pass0 (pa_cons (pv 0) (pa_cons (pv 1) pa_nil))))
      (pss_one (ps_ret (pe_lst (pa_cons (pe_op op_fdivP (pv 0) (pv 2)) (pa_cons (pe_op op_fdivP (pv 1) (pv 2)) pa_nil))))), ?_⟩
    have hg : 0 < Nat.gcd a b := Nat.gcd_pos_of_pos_right a hb
    refine ⟨_, rfl, _, rfl, a, b, rfl, ?_⟩
    refine ⟨_, rfl, _, rfl, _, _, rfl, rfl, divp (by omega) la, _, rfl, _, rfl, _, _, rfl, rfl, divp (by omega) lb, (by show 2 ≤ sizeLine; decide), fun p hp => ?_⟩
    have e := k p hp
    rw [Int.natCast_ediv, Int.natCast_ediv] at e
    exact e
end
end Wq

/-! Comprehensions, in general. -/
namespace Wq
open PySem PySem.Spec PyProof.Rows L2 Wp
theorem upd_upd {H : Hp} {p : Addr} {o o' : HO} : upd (upd H p o) p o' = upd H p o' := by
  funext b
  by_cases e : b = p
  · subst e; rw [upd_same, upd_same]
  · rw [upd_ne e, upd_ne e, upd_ne e]
/-- all but D stands as it was -/
def But (D : Addr) (H H' : Hp) : Prop := ∀ b o, b ≠ D → H b = some o → H' b = some o
theorem Same.but {D : Addr} {H H' : Hp} (h : Same H H') : But D H H' := fun b o _ e => h b o e
theorem but_upd {D : Addr} {H : Hp} {o : HO} : But D H (upd H D o) := fun b x hb e => by rw [upd_ne hb]; exact e
theorem same_of_but {D : Addr} {H1 H H' : Hp} (hD : H1 D = none) (s : Same H1 H) (b : But D H H') : Same H1 H' := fun c o e => b c o (ne_of_none e hD) (s c o e)

section
variable {n j : Nat} {te : TE} {tt : TT} {vs : List Nat} {σ : L2.St} {H1 : Hp} {D : Addr} {Qd : Hp → Prop}
/-- what a comprehension's walk over range(n) comes to -/
abbrev LcR (n j : Nat) (tt : TT) (te : TE) (vs : List Nat) (σ : L2.St) (H1 : Hp) (D : Addr) (Qd : Hp → Prop) : Prop :=
    ∃ W : Nat → Nat → Hp → Prop, (∃ m, W 0 m (upd H1 D (.lst []))) ∧ ∀ i m H, W i m H →
      ((Itr 0 n).stop i H ∧ Qd H) ∨ ((Itr 0 n).go i H ∧ ∃ Nx : Hp → Prop, (∀ H', Nx H' → ∃ m', m' < m ∧ W (i + 1) m' H') ∧ ∀ x H', (Itr 0 n).yld i H x H' → gName j x (wipe σ vs) H' fun σ2 H2 => wipe σ2 vs = wipe σ vs ∧ tt σ2 H2 fun b H3 =>
        if b = true then te σ2 H3 fun y H4 => ∃ acc, H4 D = some (.lst acc) ∧ acc.length < sizeLine ∧ Nx (upd H4 D (.lst (acc ++ [y]))) else Nx H3)
abbrev LcL (K : PySem.W.Frag) (a : Addr) (j : Nat) (tt : TT) (te : TE) (vs : List Nat) (σ : L2.St) (H1 : Hp) (D : Addr) (Qd : Hp → Prop) : Prop :=
    ∃ W : Nat → Nat → Hp → Prop, (∃ m, W 0 m (upd H1 D (.lst []))) ∧ ∀ i m H, W i m H →
      ((Itl K a).stop i H ∧ Qd H) ∨ ((Itl K a).go i H ∧ ∃ Nx : Hp → Prop, (∀ H', Nx H' → ∃ m', m' < m ∧ W (i + 1) m' H') ∧ ∀ x H', (Itl K a).yld i H x H' → gName j x (wipe σ vs) H' fun σ2 H2 => wipe σ2 vs = wipe σ vs ∧ tt σ2 H2 fun b H3 =>
        if b = true then te σ2 H3 fun y H4 => ∃ acc, H4 D = some (.lst acc) ∧ acc.length < sizeLine ∧ Nx (upd H4 D (.lst (acc ++ [y]))) else Nx H3)
/-- [e for x in range(n)], e leaving the heap as it is -/
theorem lc_rng (f : Nat → V) (hn : n ≤ 1000)
    (hw : ∀ x, wipe ((wipe σ vs).set j x) vs = wipe σ vs)
    (he : ∀ i, i < n → ∀ R : VK, R (f i) (upd H1 D (.lst ((List.range i).map f))) → te ((wipe σ vs).set j (some (.int i))) (upd H1 D (.lst ((List.range i).map f))) R)
    (hd : Qd (upd H1 D (.lst ((List.range n).map f)))) : LcR n j tYes te vs σ H1 D Qd := by
  refine lc_range (lo := 0) (n := n) (fun i H' => H' = upd H1 D (.lst ((List.range i).map f))) rfl ?_ ?_
  · rintro i H' hi rfl
    refine ⟨hw _, ?_⟩
    have e0 : (0 : Int) + (i : Int) = (i : Int) := by omega
    rw [e0]
    unfold tYes
    dsimp only
    rw [if_pos rfl]
    refine he i hi _ ⟨_, upd_same, ?_, ?_⟩
    · rw [List.length_map, List.length_range]; exact small1000 (by omega)
    · rw [upd_upd, List.range_succ, List.map_append]; rfl
  · rintro H' rfl; exact hd
/-- [e for x in range(n)], e making things -/
theorem lc_rngG (Rel : Nat → V → Hp → Prop) (stable : ∀ i v H H', But D H H' → Rel i v H → Rel i v H') (hD : H1 D = none) (hn : n ≤ 1000)
    (hw : ∀ x, wipe ((wipe σ vs).set j x) vs = wipe σ vs)
    (he : ∀ i, i < n → ∀ H' acc, Same H1 H' → acc.length = i → H' D = some (.lst acc) → (∀ k, k < i → Rel k (acc.getD k .non) H') → ∀ R : VK, (∀ v H'', Same H' H'' → Rel i v H'' → R v H'') → te ((wipe σ vs).set j (some (.int i))) H' R)
    (hd : ∀ H' acc, Same H1 H' → acc.length = n → H' D = some (.lst acc) → (∀ k, k < n → Rel k (acc.getD k .non) H') → Qd H') : LcR n j tYes te vs σ H1 D Qd := by
  refine lc_range (lo := 0) (n := n) (fun i H' => Same H1 H' ∧ ∃ acc, acc.length = i ∧ H' D = some (.lst acc) ∧ ∀ k, k < i → Rel k (acc.getD k .non) H') ⟨same_upd hD, [], rfl, upd_same, fun k hk => by omega⟩ ?_ ?_
  · rintro i H' hi ⟨s1, acc, hl, hA, hR⟩
    refine ⟨hw _, ?_⟩
    have e0 : (0 : Int) + (i : Int) = (i : Int) := by omega
    rw [e0]
    unfold tYes
    dsimp only
    rw [if_pos rfl]
    refine he i hi H' acc s1 hl hA hR _ (fun v H'' s2 hv => ⟨acc, s2 _ _ hA, small1000 (by omega), ?_, acc ++ [v], by rw [List.length_append, hl]; rfl, upd_same, ?_⟩)
    · exact same_of_but hD (s1.trans s2) but_upd
    · intro k hk
      by_cases e : k = i
      · subst e
        have e2 : (acc ++ [v]).getD k .non = v := by simp [List.getD, hl]
        rw [e2]
        exact stable _ _ _ _ but_upd hv
      · have e2 : (acc ++ [v]).getD k .non = acc.getD k .non := by
          simp only [List.getD]
          rw [List.getElem?_append_left (by omega)]
        rw [e2]
        exact stable _ _ _ _ but_upd (stable _ _ _ _ (Same.but s2) (hR k (by omega)))
  · rintro H' ⟨s1, acc, hl, hA, hR⟩
    exact hd H' acc s1 hl hA hR
/-- [e for x in xs] -/
theorem lc_lstG {K : PySem.W.Frag} {a : Addr} {xs : List V} (Rel : Nat → V → Hp → Prop) (stable : ∀ i v H H', But D H H' → Rel i v H → Rel i v H') (hD : H1 D = none) (ha : SqL K H1 a xs) (hn : xs.length ≤ 1000)
    (hw : ∀ x, wipe ((wipe σ vs).set j x) vs = wipe σ vs)
    (he : ∀ i x, xs[i]? = some x → ∀ H' acc, Same H1 H' → acc.length = i → H' D = some (.lst acc) → (∀ k, k < i → Rel k (acc.getD k .non) H') → ∀ R : VK, (∀ v H'', Same H' H'' → Rel i v H'' → R v H'') → te ((wipe σ vs).set j (some x)) H' R)
    (hd : ∀ H' acc, Same H1 H' → acc.length = xs.length → H' D = some (.lst acc) → (∀ k, k < xs.length → Rel k (acc.getD k .non) H') → Qd H') : LcL K a j tYes te vs σ H1 D Qd := by
  refine lc_list (K := K) (a := a) (xs := xs) (fun i H' => Same H1 H' ∧ ∃ acc, acc.length = i ∧ H' D = some (.lst acc) ∧ ∀ k, k < i → Rel k (acc.getD k .non) H') ⟨same_upd hD, [], rfl, upd_same, fun k hk => by omega⟩ (fun i H' _ ⟨s1, _⟩ => s1.seq ha) ?_ ?_
  · rintro i x H' hx ⟨s1, acc, hl, hA, hR⟩
    have hi : i < xs.length := (List.getElem?_eq_some_iff.mp hx).1
    refine ⟨hw _, ?_⟩
    unfold tYes
    dsimp only
    rw [if_pos rfl]
    refine he i x hx H' acc s1 hl hA hR _ (fun v H'' s2 hv => ⟨acc, s2 _ _ hA, small1000 (by omega), ?_, acc ++ [v], by rw [List.length_append, hl]; rfl, upd_same, ?_⟩)
    · exact same_of_but hD (s1.trans s2) but_upd
    · intro k hk
      by_cases e : k = i
      · subst e
        have e2 : (acc ++ [v]).getD k .non = v := by simp [List.getD, hl]
        rw [e2]
        exact stable _ _ _ _ but_upd hv
      · have e2 : (acc ++ [v]).getD k .non = acc.getD k .non := by
          simp only [List.getD]
          rw [List.getElem?_append_left (by omega)]
        rw [e2]
        exact stable _ _ _ _ but_upd (stable _ _ _ _ (Same.but s2) (hR k (by omega)))
  · rintro H' ⟨s1, acc, hl, hA, hR⟩
    exact hd H' acc s1 hl hA hR
/-- [x for x in range(n) if t] -/
theorem lc_rngF (c : Nat → Bool) (hD : H1 D = none) (hn : n ≤ 1000)
    (hw : ∀ x, wipe ((wipe σ vs).set j x) vs = wipe σ vs)
    (ht : ∀ i, i < n → ∀ H', Same H1 H' → ∀ R : Bool → Hp → Prop, (∀ H'', Same H' H'' → R (c i) H'') → tt ((wipe σ vs).set j (some (.int i))) H' R)
    (he : ∀ i, i < n → ∀ H' (R : VK), R (.int i) H' → te ((wipe σ vs).set j (some (.int i))) H' R)
    (hd : ∀ H', Same H1 H' → H' D = some (.lst (((List.range n).filter c).map fun (i : Nat) => V.int i)) → Qd H') : LcR n j tt te vs σ H1 D Qd := by
  refine lc_range (lo := 0) (n := n) (fun i H' => Same H1 H' ∧ H' D = some (.lst (((List.range i).filter c).map fun (i : Nat) => V.int i))) ⟨same_upd hD, upd_same⟩ ?_ ?_
  · rintro i H' hi ⟨s1, hA⟩
    refine ⟨hw _, ?_⟩
    have e0 : (0 : Int) + (i : Int) = (i : Int) := by omega
    rw [e0]
    refine ht i hi H' s1 _ (fun H'' s2 => ?_)
    have hlen : (((List.range i).filter c).map fun (i : Nat) => V.int i).length ≤ i := by
      rw [List.length_map]
      exact Nat.le_trans (List.length_filter_le _ _) (by simp)
    by_cases hc : c i = true
    · rw [if_pos hc]
      refine he i hi H'' _ ⟨_, s2 _ _ hA, small1000 (by omega), same_of_but hD (s1.trans s2) but_upd, ?_⟩
      rw [upd_same, List.range_succ, List.filter_append]
      simp [hc]
    · rw [if_neg hc]
      refine ⟨s1.trans s2, ?_⟩
      rw [s2 _ _ hA, List.range_succ, List.filter_append]
      simp [hc]
  · rintro H' ⟨s1, hA⟩
    exact hd H' s1 hA
end
end Wq

namespace Wq
open PySem PySem.Spec PyProof.Rows L2 Wp
abbrev sSolve : Stmt := top 1
abbrev sRowAt : Stmt := top 2
abbrev sWithout : Stmt := top 3
abbrev lI (l : List Int) : List V := l.map V.int
theorem lI_at {l : List Int} {i : Nat} (h : i < l.length) : (lI l)[i]? = some (.int (l.getD i 0)) := by
  rw [List.getElem?_map, List.getElem?_eq_getElem h, getD_lt h]
  rfl
theorem ix_listK {X : Cx} {K : PySem.W.Frag} (h : X.K = K) : IxR X (rIxL K) := h ▸ ix_list
theorem ix_tupK {X : Cx} {K : PySem.W.Frag} (h : X.K = K) : IxR X (rIxT K) := h ▸ ix_tup
section
variable {P : Program} {w : World} {K : PySem.W.Frag} {mg : Str → Option Value} {base : Heap}
/-! without_unknown -/
theorem scWithout : FnScope ["row", "chosen", "k", "before", "pivot", "factor", "c"] ["row", "chosen", "k", "before"] (defScope sWithout) := ⟨rfl, rfl, rfl, by decide +kernel, rfl, by decide +kernel, by decide +kernel⟩
def spWithout (K : PySem.W.Frag) : Sp := fun vs H Q _ => ∃ (a b : Addr) (r ch : List Int) (k : Nat) (before : Int), vs = [.ref a, .ref b, .int k, .int before] ∧
  SqL K H a (lI r) ∧ SqL K H b (lI ch) ∧ r.length = ch.length ∧ r.length ≤ 9 ∧ k < r.length ∧ 0 < before ∧ Small9 before ∧
  (∀ c, Small (r.getD c 0)) ∧ (∀ c, Small (ch.getD c 0)) ∧
  ∀ p, H p = none → Q (.ref p) (upd H p (.lst (lI (elimRow r ch k before))))
theorem ok_without {f : Addr} {fd : FuncData} (F : Fun K "without_unknown" "without_unknown" sWithout f fd) (mr : mg "range" = none) (ml : mg "len" = none) :
    FnOk P w K mg base CX0 1 f fd ["row", "chosen", "k", "before"] (spWithout K) := by
  refine F.ok scWithout (fun vs H Q E h => ?_) (fun cdv A outer s H vs Q E hr h => ?_)
  · obtain ⟨a, b, r, ch, k, before, rfl, _⟩ := h
    rfl
  · obtain ⟨a, b, r, ch, k, before, rfl, ha, hb, hlen, h9, hk, b0, b9, hr1, hc1, q⟩ := h
    refine ⟨_, pss_cons (ps_set (i := 4) scWithout.nd rfl (Or.inr rfl) (pe_ix ix_list (pv 1) (pv 2) (fun _ _ => rfl)))
      (pss_cons (ps_set (i := 5) scWithout.nd rfl (Or.inr rfl) (pe_ix ix_list (pv 0) (pv 2) (fun _ _ => rfl)))
      (pss_one (ps_ret (pe_lc (own := [("c", 6)]) (g := gName 6) (tt := tYes) rfl scWithout.nd
        (pi_range1 (by rfl) mr (pa_cons (pe_callB call_len_seq (by rfl) ml PySem.boot_len (pa_cons (pv 0) pa_nil)) pa_nil))
        (blkOk_by (own := [("c", 6)]) (N := ["row", "chosen", "k", "before", "pivot", "factor", "c"]) (sc := defScope sWithout) (by decide +kernel))
        (fun _ _ _ _ _ => pg_name (i := 6) scWithout.nd rfl (Or.inl rfl)) (fun _ _ _ _ _ => pts_nil)
        (fun _ _ _ _ _ => pe_op op_fdivP (pe_op op_sub (pe_op op_mulW (pv 4) (pe_ix (ix_listK (K := K) rfl) (pv 0) (pv 6) (fun _ _ => rfl))) (pe_op op_mulW (pv 5) (pe_ix (ix_listK (K := K) rfl) (pv 1) (pv 6) (fun _ _ => rfl)))) (pv 3)))))), ?_⟩
    refine ⟨_, rfl, _, rfl, b, _, _, _, rfl, rfl, hb, atI_nat (lI_at (by omega)), ?_⟩
    refine ⟨_, rfl, _, rfl, a, _, _, _, rfl, rfl, ha, atI_nat (lI_at (by omega)), ?_⟩
    refine ⟨_, rfl, a, _, rfl, .inl ha, _, rfl, ?_, ?_, fun D hD => ?_⟩
    · show -(2 ^ 62 : Int) ≤ ((lI r).length : Int)
      rw [List.length_map]; omega
    · show ((lI r).length : Int) < 2 ^ 62
      rw [List.length_map]; omega
    · have el : (((lI r).length : Int)).toNat = r.length := by rw [List.length_map]; rfl
      rw [el]
      refine lc_rng (n := r.length) (fun c => V.int ((ch.getD k 0 * r.getD c 0 - r.getD k 0 * ch.getD c 0) / before)) (by omega) (fun _ => rfl) ?_ ?_
      · intro i hi R hR
        have sD := same_upd (o := .lst ((List.range i).map fun c => V.int ((ch.getD k 0 * r.getD c 0 - r.getD k 0 * ch.getD c 0) / before))) hD
        have m1 : CMulW (ch.getD k 0) (r.getD i 0) := small_mul (hc1 k) (hr1 i)
        have m2 : CMulW (r.getD k 0) (ch.getD i 0) := small_mul (hr1 k) (hc1 i)
        refine ⟨_, rfl, _, rfl, _, rfl, a, _, _, _, rfl, rfl, sD.seq ha, atI_nat (lI_at (by omega)), _, _, rfl, rfl, m1, ?_⟩
        refine ⟨_, rfl, _, rfl, _, rfl, b, _, _, _, rfl, rfl, sD.seq hb, atI_nat (lI_at (by omega)), _, _, rfl, rfl, m2, _, _, rfl, rfl, _, rfl, _, _, rfl, rfl, divp9 b0 b9, hR⟩
      · have e := q D hD
        have e2 : lI (elimRow r ch k before) = (List.range r.length).map fun c => V.int ((ch.getD k 0 * r.getD c 0 - r.getD k 0 * ch.getD c 0) / before) := by
          unfold elimRow lI; rw [List.map_map]; rfl
        rw [e2] at e
        exact e
/-! row_at -/
theorem scRowAt : FnScope ["rows", "i", "k", "before"] ["rows", "i", "k", "before"] (defScope sRowAt) := ⟨rfl, rfl, rfl, by decide +kernel, rfl, by decide +kernel, by decide +kernel⟩
/-- a list of lists of whole numbers -/
def RowsAt (H : Hp) (a : Addr) (R : List (List Int)) : Prop :=
  ∃ ps : List Addr, H a = some (.lst (ps.map V.ref)) ∧ ps.length = R.length ∧ ∀ i, i < R.length → H (ps.getD i 0) = some (.lst (lI (R.getD i [])))
theorem RowsAt.mono {H H' : Hp} {a : Addr} {R : List (List Int)} (h : RowsAt H a R) (s : Same H H') : RowsAt H' a R := by
  obtain ⟨ps, h1, h2, h3⟩ := h
  exact ⟨ps, s _ _ h1, h2, fun i hi => s _ _ (h3 i hi)⟩
theorem lI_refs {xs : List Int} {ps : List Addr} (h : lI xs = ps.map V.ref) : xs = [] := by
  cases xs with
  | nil => rfl
  | cons x xs =>
    cases ps with
    | nil => cases h
    | cons p ps => cases h
theorem refs_at {ps : List Addr} {i : Nat} (h : i < ps.length) : (ps.map V.ref)[i]? = some (.ref (ps.getD i 0)) := by
  rw [List.getElem?_map, List.getElem?_eq_getElem h, getD_lt h]
  rfl
def spRowAt (K : PySem.W.Frag) : Sp := fun vs H Q _ => ∃ (a : Addr) (R : List (List Int)) (i k : Nat) (before : Int), vs = [.ref a, .int i, .int k, .int before] ∧
  RowsAt H a R ∧ i < R.length ∧ k < R.length ∧ (∀ j, j < R.length → (R.getD j []).length = R.length + 1) ∧ R.length ≤ 8 ∧ 0 < before ∧ Small9 before ∧
  (∀ j c, j < R.length → Small (at2 R j c)) ∧
  ∀ p H', Same H H' → H' p = some (.lst (lI (rowAt R i k before))) → Q (.ref p) H'
theorem ok_rowAt {f f1 : Addr} {fd fd1 : FuncData} (F : Fun K "row_at" "row_at" sRowAt f fd) (D1 : Def P w K mg base 1 "without_unknown" ["row", "chosen", "k", "before"] (spWithout K) f1 fd1) :
    FnOk P w K mg base CX0 2 f fd ["rows", "i", "k", "before"] (spRowAt K) := by
  refine F.ok scRowAt (fun vs H Q E h => ?_) (fun cdv A outer s H vs Q E hr h => ?_)
  · obtain ⟨a, R, i, k, before, rfl, _⟩ := h
    rfl
  · obtain ⟨a, R, i, k, before, rfl, ⟨ps, h1, h2, h3⟩, hi, hk, hl, h8, b0, b9, sm, q⟩ := h
    refine ⟨_, pss_cons (ps_if (pt_cmpR op_eq (pv 1) (pv 2) (nomark _)) (pss_one (ps_ret (pe_ix ix_list (pv 0) (pv 2) (fun _ _ => rfl)))) pss_nil)
      (pss_one (ps_ret (pe_call D1.ok hr rfl D1.here D1.kp D1.b .nil pass0 (pa_cons (pe_ix ix_list (pv 0) (pv 1) (fun _ _ => rfl)) (pa_cons (pe_ix ix_list (pv 0) (pv 2) (fun _ _ => rfl)) (pa_cons (pv 2) (pa_cons (pv 3) pa_nil))))))), ?_⟩
    refine ⟨_, rfl, _, rfl, rfl, _, rfl, ite2 (fun c => ?_) (fun c => ?_)⟩
    · have e : i = k := by
        have := V.int.inj (of_decide_eq_true c)
        omega
      refine ⟨_, rfl, _, rfl, a, _, _, _, rfl, rfl, SqL.of h1, atI_nat (refs_at (by omega)), ?_⟩
      refine q _ H (Same.refl H) ?_
      unfold rowAt
      rw [if_pos e]
      exact h3 k hk
    · have e : ¬ i = k := fun e => c (decide_eq_true (by rw [e]))
      refine ⟨_, rfl, _, rfl, a, _, _, _, rfl, rfl, SqL.of h1, atI_nat (refs_at (by omega)), _, rfl, _, rfl, a, _, _, _, rfl, rfl, SqL.of h1, atI_nat (refs_at (by omega)), _, rfl, _, rfl, ?_⟩
      refine ⟨_, _, R.getD i [], R.getD k [], k, before, rfl, SqL.of (h3 i hi), SqL.of (h3 k hk), by rw [hl i hi, hl k hk], by rw [hl i hi]; omega, by rw [hl i hi]; omega, b0, b9, fun c => sm i c hi, fun c => sm k c hk, fun p hp => ?_⟩
      refine q p _ (same_upd hp) ?_
      unfold rowAt
      rw [if_neg e]
      exact upd_same
/-! solve -/
theorem scSolve : FnScope ["rows", "count", "reached", "before", "k", "chosen", "i", "row"] ["rows"] (defScope sSolve) := ⟨rfl, rfl, rfl, by decide +kernel, rfl, by decide +kernel, by decide +kernel⟩
def spSolve : Sp := fun vs H Q _ => ∃ (a : Addr) (R : List (List Int)), vs = [.ref a] ∧ RowsAt H a R ∧ ShpI R.length (R.length + 1) R ∧ R.length ≤ 8 ∧
  (∀ k, k ≤ R.length → Elim R.length R k) ∧ (∀ i c, (at2 R i c).natAbs ≤ 2 ^ 1259) ∧
  ∀ p H', Same H H' → H' p = some (.lst (lI (solve R))) → Q (.ref p) H'
theorem ok_solve {f f1 : Addr} {fd fd1 : FuncData} (F : Fun K "solve" "solve" sSolve f fd) (D1 : Def P w K mg base 2 "row_at" ["rows", "i", "k", "before"] (spRowAt K) f1 fd1) (mr : mg "range" = none) (ml : mg "len" = none) :
    FnOk P w K mg base CX0 3 f fd ["rows"] spSolve := by
  refine F.ok scSolve (fun vs H Q E h => ?_) (fun cdv A outer s H vs Q E hr h => ?_)
  · obtain ⟨a, R, rfl, _⟩ := h
    rfl
  · obtain ⟨a, R, rfl, hR, shp, h8, el, bd, q⟩ := h
    refine ⟨_, pss_cons (ps_set (i := 1) scSolve.nd rfl (Or.inr rfl) (pe_callB call_len_seq (by rfl) ml PySem.boot_len (pa_cons (pv 0) pa_nil)))
      (pss_cons (ps_set (i := 2) scSolve.nd rfl (Or.inr rfl) (pv 0))
      (pss_cons (ps_set (i := 3) scSolve.nd rfl (Or.inr rfl) pe_int)
      (pss_cons (ps_for PassesOwn.never rfl (pi_range1 rfl mr (pa_cons (pv 1) pa_nil)) (pg_name (i := 4) scSolve.nd rfl (Or.inr rfl))
        (pss_cons (ps_set (i := 5) scSolve.nd rfl (Or.inl rfl) (pe_ix ix_list (pv 2) (pv 4) (fun _ _ => rfl)))
        (pss_cons (ps_set (i := 2) scSolve.nd rfl (Or.inr rfl) (pe_lc (own := [("i", 6)]) (g := gName 6) (tt := tYes) rfl scSolve.nd
          (pi_range1 rfl mr (pa_cons (pv 1) pa_nil))
          (blkOk_by (own := [("i", 6)]) (N := ["rows", "count", "reached", "before", "k", "chosen", "i", "row"]) (sc := defScope sSolve) (by decide +kernel))
          (fun _ _ _ _ _ => pg_name (i := 6) scSolve.nd rfl (Or.inl rfl)) (fun _ _ _ _ _ => pts_nil)
          (fun _ _ _ _ _ => pe_call D1.ok hr rfl D1.here D1.kp D1.b .nil pass0 (pa_cons (pv 2) (pa_cons (pv 6) (pa_cons (pv 4) (pa_cons (pv 3) pa_nil)))))))
        (pss_one (ps_set (i := 3) scSolve.nd rfl (Or.inr rfl) (pe_ix ix_list (pv 5) (pv 4) (fun _ _ => rfl)))))))
      (pss_one (ps_ret (pe_op op_cat (pe_lst (pa_cons (pv 3) pa_nil)) (pe_lc (own := [("row", 7)]) (g := gName 7) (tt := tYes) rfl scSolve.nd
          (pi_list (pv 2))
          (blkOk_by (own := [("row", 7)]) (N := ["rows", "count", "reached", "before", "k", "chosen", "i", "row"]) (sc := defScope sSolve) (by decide +kernel))
          (fun _ _ _ _ _ => pg_name (i := 7) scSolve.nd rfl (Or.inl rfl)) (fun _ _ _ _ _ => pts_nil)
          (fun _ _ _ _ _ => pe_ix (ix_listK (K := K) rfl) (pv 7) (pv 1) (fun _ _ => rfl)))))))))
      , ?_⟩
    obtain ⟨ps, h1, h2, h3⟩ := hR
    have hl : (ps.map V.ref).length = R.length := by rw [List.length_map]; exact h2
    refine ⟨_, rfl, a, _, rfl, .inl (SqL.of h1), ?_⟩
    rw [hl]
    refine ⟨_, rfl, ?_⟩
    have small : ∀ k, k ≤ R.length → ∀ j c, j < R.length → Small (at2 (elimTo R k).1 j c) := fun k hk j c hj =>
      small_bits (Nat.lt_of_le_of_lt (elim_bd (el k hk) hk h8 bd hj c) (Nat.pow_lt_pow_right (by decide) (Nat.lt_succ_self _))) (by
        have : (1259 + 4) * (k + 1) ≤ (1259 + 4) * 9 := Nat.mul_le_mul_left _ (by omega)
        omega)
    have small9 : ∀ k, k < R.length → Small9 (elimTo R k).2 := fun k hk =>
      Nat.lt_of_le_of_lt (elim_before_bd (el k (by omega)) (by omega) bd) (Nat.pow_lt_pow_right (by decide) (by
        have : (1259 + 4) * k ≤ (1259 + 4) * 7 := Nat.mul_le_mul_left _ (by omega)
        omega))
    refine ⟨_, rfl, _, rfl, (by omega), (by omega), ?_⟩
    have en : ((R.length : Int)).toNat = R.length := by omega
    rw [en]
    refine for_range (lo := 0) (n := R.length) (fun k σ H' => ∃ (ra : Addr) (x4 x5 : Option V), σ = [some (.ref a), some (.int R.length), some (.ref ra), some (.int (elimTo R k).2), x4, x5, none, none] ∧ Same H H' ∧ RowsAt H' ra (elimTo R k).1)
      ⟨a, none, none, rfl, Same.refl H, ps, h1, h2, h3⟩ ?_ ?_
    · rintro k σ H' hk ⟨ra, x4, x5, rfl, s1, hRA⟩
      have e0 : (0 : Int) + (k : Int) = (k : Int) := by omega
      rw [e0]
      have elk := el k (by omega)
      have hlk : (elimTo R k).1.length = R.length := elk.shp.len
      obtain ⟨qs, g1, g2, g3⟩ := id hRA
      refine ⟨_, rfl, _, rfl, ra, _, _, _, rfl, rfl, SqL.of g1, atI_nat (refs_at (by omega)), ?_⟩
      refine ⟨_, rfl, _, rfl, (by omega), (by omega), fun D hD => ?_⟩
      rw [en]
      refine lc_rngG (n := R.length) (fun i v H2 => ∃ p, v = .ref p ∧ p ≠ D ∧ H2 p = some (.lst (lI (rowAt (elimTo R k).1 i k (elimTo R k).2)))) ?_ hD (by omega) (fun _ => rfl) ?_ ?_
      · rintro i v H2 H3 hb ⟨p, e1, e2, e3⟩
        exact ⟨p, e1, e2, hb _ _ e2 e3⟩
      · intro i hi H2 acc s2 hacc hA hRel R' hR'
        refine ⟨_, rfl, _, rfl, _, rfl, _, rfl, ra, (elimTo R k).1, i, k, (elimTo R k).2, rfl, hRA.mono s2, by omega, by omega, fun j hj => by rw [hlk] at hj ⊢; exact elk.shp.row j hj, by omega, elk.pos, small9 k hk, fun j c hj => small k (by omega) j c (by omega), ?_⟩
        intro p H3 s3 hp
        refine hR' _ H3 s3 ⟨p, rfl, ?_, hp⟩
        intro e
        subst e
        rw [s3 _ _ hA] at hp
        have e1 : lI (rowAt (elimTo R k).1 i k (elimTo R k).2) = acc := (HO.lst.inj (Option.some.inj hp)).symm
        have lr : (rowAt (elimTo R k).1 i k (elimTo R k).2).length = R.length + 1 := by
          unfold rowAt
          split
          · exact elk.shp.row k hk
          · unfold elimRow
            rw [List.length_map, List.length_range]; exact elk.shp.row i hi
        have e2 : (lI (rowAt (elimTo R k).1 i k (elimTo R k).2)).length = acc.length := by rw [e1]
        rw [List.length_map] at e2
        omega
      · intro H2 acc s2 hacc hA hRel
        have hq : H2 (qs.getD k 0) = some (.lst (lI ((elimTo R k).1.getD k []))) := s2 _ _ (g3 k (by omega))
        refine ⟨_, rfl, _, rfl, _, _, _, _, rfl, rfl, SqL.of hq, atI_nat (lI_at (by rw [elk.shp.row k hk]; omega)), ?_⟩
        refine ⟨D, some (.int k), some (.ref (qs.getD k 0)), ?_, s1.trans s2, ?_⟩
        · rw [elimTo_succ]; rfl
        · rw [elimTo_succ]
          obtain ⟨addr, haddr⟩ : ∃ addr : Nat → Addr, ∀ i, i < R.length → acc.getD i .non = .ref (addr i) ∧ H2 (addr i) = some (.lst (lI (rowAt (elimTo R k).1 i k (elimTo R k).2))) := by
            refine ⟨fun i => match acc.getD i .non with | .ref p => p | _ => 0, fun i hi => ?_⟩
            obtain ⟨p, e1, e2, e3⟩ := hRel i hi
            dsimp only
            rw [e1]
            exact ⟨rfl, e3⟩
          refine ⟨(List.range R.length).map addr, ?_, ?_, ?_⟩
          · rw [hA]
            congr 2
            refine List.ext_getElem? (fun i => ?_)
            by_cases hi : i < R.length
            · have e1 := (haddr i hi).1
              rw [getD_lt (by omega)] at e1
              rw [List.getElem?_eq_getElem (by omega), e1, List.map_map, List.getElem?_map, List.getElem?_range hi]
              rfl
            · rw [List.getElem?_eq_none (by omega), List.getElem?_eq_none (by simp; omega)]
          · simp [elimStep]
          · intro i hi
            have hi' : i < R.length := by simpa [elimStep] using hi
            rw [getD_map_range, if_pos hi']
            show _ = some (HO.lst (lI (((List.range R.length).map fun i => rowAt (elimTo R k).1 i k (elimTo R k).2).getD i [])))
            rw [getD_map_range, if_pos hi']
            exact (haddr i hi').2
    · rintro σ H' ⟨ra, x4, x5, rfl, s1, ⟨qs, g1, g2, g3⟩⟩
      have eln := el R.length (Nat.le_refl _)
      have hln : (elimTo R R.length).1.length = R.length := eln.shp.len
      refine ⟨_, rfl, (by show 1 ≤ sizeLine; decide), fun B hB => ?_⟩
      have sB := same_upd (o := .lst [V.int (elimTo R R.length).2]) hB
      refine ⟨_, rfl, ra, rfl, ⟨_, sB.seq (SqL.of g1)⟩, fun D hD => ?_⟩
      have nBD : B ≠ D := fun e => by
        rw [← e, upd_same] at hD
        cases hD
      refine lc_lstG (K := K) (a := ra) (xs := qs.map V.ref) (fun i v _ => v = .int (at2 (elimTo R R.length).1 i R.length)) (fun _ _ _ _ _ h => h) hD (sB.seq (SqL.of g1)) (by rw [List.length_map]; omega) (fun _ => rfl) ?_ ?_
      · intro i x hx H2 acc s2 hacc hA hRel R' hR'
        have hi : i < qs.length := by
          have := (List.getElem?_eq_some_iff.mp hx).1
          rwa [List.length_map] at this
        rw [refs_at hi] at hx
        obtain rfl := Option.some.inj hx
        refine ⟨_, rfl, _, rfl, _, _, _, _, rfl, rfl, SqL.of (s2 _ _ (sB _ _ (g3 i (by omega)))), atI_nat (lI_at (by rw [eln.shp.row i (by omega)]; omega)), ?_⟩
        exact hR' _ H2 (Same.refl _) rfl
      · intro H2 acc s2 hacc hA hRel
        have eacc : acc = lI ((elimTo R R.length).1.map fun r => r.getD R.length 0) := by
          rw [List.length_map] at hacc
          refine List.ext_getElem? (fun i => ?_)
          by_cases hi : i < R.length
          · have e1 := hRel i (by rw [List.length_map]; omega)
            rw [getD_lt (by omega)] at e1
            rw [List.getElem?_eq_getElem (by omega), e1]
            show _ = (lI _)[i]?
            rw [lI_at (by rw [List.length_map]; omega), getD_map _ _ _ _ [] (by omega)]
            rfl
          · rw [List.getElem?_eq_none (by omega), List.getElem?_eq_none (by simp; omega)]
        subst eacc
        refine ⟨B, D, _, _, rfl, rfl, s2 _ _ upd_same, hA, ?_, fun p hp => ?_⟩
        · rw [List.length_singleton, List.length_map, List.length_map, hln]
          exact Nat.le_of_lt (small1000 (by omega))
        · refine q p _ ((s1.trans sB).trans (s2.trans (same_upd hp))) ?_
          rw [upd_same]
          rfl
end
end Wq

namespace Wq
open PySem PySem.Spec PyProof.Rows L2 Wp
abbrev sSheetInit : Stmt := inClass (top 9) 0
abbrev sPayInit : Stmt := inClass (top 10) 0
abbrev sUnitOf : Stmt := top 13
abbrev sRowUnits : Stmt := top 14
abbrev sPaidTo : Stmt := top 15
abbrev sMeans : Stmt := top 16
abbrev sSurplus : Stmt := top 17
abbrev sCanPay : Stmt := top 21
abbrev sCanKept : Stmt := top 22
/-- the built-in names that nothing hides -/
structure Env (mg : Str → Option Value) : Prop where
  range : mg "range" = none
  len : mg "len" = none
  sum : mg "sum" = none
  max : mg "max" = none
  list : mg "list" = none
  tuple : mg "tuple" = none
theorem lk_here {k : Str} {v : V} {r : List (Str × V)} : List.lookup k ((k, v) :: r) = some v := by
  have e : (k == k) = true := beq_self_eq_true k
  simp only [List.lookup, e]
theorem lk_past {k g : Str} {v : V} {r : List (Str × V)} (h : (k == g) = false) : List.lookup k ((g, v) :: r) = List.lookup k r := by
  simp only [List.lookup, h]
/-! ### the house -/
structure HouseM where
  n : Nat
  ko : Fr
  kp : Fr
  own : List Fr
  owed : List (List Fr)
def FrAt (H : Hp) (t : Addr) (q : Fr) : Prop := H t = some (.tup [.int q.1, .int q.2])
def FrsAt (H : Hp) (l : Addr) (qs : List Fr) : Prop := ∃ ps : List Addr, H l = some (.lst (ps.map V.ref)) ∧ ps.length = qs.length ∧ ∀ i, i < qs.length → FrAt H (ps.getD i 0) (qs.getD i (0, 1))
theorem FrsAt.mono {H H' : Hp} {l : Addr} {qs : List Fr} (h : FrsAt H l qs) (s : Same H H') : FrsAt H' l qs := by
  obtain ⟨ps, h1, h2, h3⟩ := h
  exact ⟨ps, s _ _ h1, h2, fun i hi => s _ _ (h3 i hi)⟩
def houseF (m : HouseM) (t1 t2 lo lw : Addr) : List (Str × V) := [("parties", .int m.n), ("kept_own", .ref t1), ("kept_paid", .ref t2), ("own", .ref lo), ("owed", .ref lw)]
structure HouseIn (C : Addr) (H : Hp) (a dx t1 t2 lo lw : Addr) (ws : List Addr) (m : HouseM) : Prop where
  obj : H a = some (.ins C dx (houseF m t1 t2 lo lw))
  ko : FrAt H t1 m.ko
  kp : FrAt H t2 m.kp
  own : FrsAt H lo m.own
  owed : H lw = some (.lst (ws.map V.ref))
  rows : ws.length = m.owed.length
  row : ∀ i, i < m.owed.length → FrsAt H (ws.getD i 0) (m.owed.getD i [])
  lone : ws.Nodup ∧ lo ∉ ws
def HouseAt (C : Addr) (H : Hp) (a : Addr) (m : HouseM) : Prop := ∃ dx t1 t2 lo lw ws, HouseIn C H a dx t1 t2 lo lw ws m
theorem HouseIn.mono {C : Addr} {H H' : Hp} {a dx t1 t2 lo lw : Addr} {ws : List Addr} {m : HouseM} (h : HouseIn C H a dx t1 t2 lo lw ws m) (s : Same H H') : HouseIn C H' a dx t1 t2 lo lw ws m :=
  ⟨s _ _ h.obj, s _ _ h.ko, s _ _ h.kp, h.own.mono s, s _ _ h.owed, h.rows, fun i hi => (h.row i hi).mono s, h.lone⟩
theorem HouseAt.mono {C : Addr} {H H' : Hp} {a : Addr} {m : HouseM} (h : HouseAt C H a m) (s : Same H H') : HouseAt C H' a m := by
  obtain ⟨dx, t1, t2, lo, lw, ws, h⟩ := h
  exact ⟨dx, t1, t2, lo, lw, ws, h.mono s⟩
structure CHouse (K : PySem.W.Frag) (mg : Str → Option Value) (C : Addr) : Prop where
  cl : Cls K C
  here : mg "House" = some (.ref C)
  nParties : NoAttr K C "parties"
  nKo : NoAttr K C "kept_own"
  nKp : NoAttr K C "kept_paid"
  nOwn : NoAttr K C "own"
  nOwed : NoAttr K C "owed"
theorem hF_parties (m : HouseM) (t1 t2 lo lw : Addr) : (houseF m t1 t2 lo lw).lookup ("parties" : Str) = some (.int m.n) := lk_here
theorem hF_ko (m : HouseM) (t1 t2 lo lw : Addr) : (houseF m t1 t2 lo lw).lookup ("kept_own" : Str) = some (.ref t1) := (lk_past (by decide +kernel)).trans lk_here
theorem hF_kp (m : HouseM) (t1 t2 lo lw : Addr) : (houseF m t1 t2 lo lw).lookup ("kept_paid" : Str) = some (.ref t2) := (lk_past (by decide +kernel)).trans ((lk_past (by decide +kernel)).trans lk_here)
theorem hF_own (m : HouseM) (t1 t2 lo lw : Addr) : (houseF m t1 t2 lo lw).lookup ("own" : Str) = some (.ref lo) := (lk_past (by decide +kernel)).trans ((lk_past (by decide +kernel)).trans ((lk_past (by decide +kernel)).trans lk_here))
theorem hF_owed (m : HouseM) (t1 t2 lo lw : Addr) : (houseF m t1 t2 lo lw).lookup ("owed" : Str) = some (.ref lw) := (lk_past (by decide +kernel)).trans ((lk_past (by decide +kernel)).trans ((lk_past (by decide +kernel)).trans ((lk_past (by decide +kernel)).trans lk_here)))
def allFr (m : HouseM) : List Fr := (m.own :: m.owed).flatten
/-- what a house's numbers keep to -/
structure HouseOk (m : HouseM) : Prop where
  n1 : 1 ≤ m.n
  n8 : m.n ≤ 8
  nOwn : m.own.length = m.n
  nOwed : m.owed.length = m.n
  nRow : ∀ i, i < m.n → (m.owed.getD i []).length = m.n
  den : ∀ q ∈ allFr m, 0 < q.2 ∧ q.1 ≤ 1000000 ∧ q.2 ≤ 1000000
  prod : prodDen (allFr m) ≤ 10 ^ 360
  diag : ∀ i, i < m.n → ((m.owed.getD i []).getD i (0, 1)).1 = 0
  ko : 0 < m.ko.2 ∧ m.ko.1 ≤ m.ko.2 ∧ m.ko.2 ≤ 1000000
  kp : 0 < m.kp.2 ∧ m.kp.1 ≤ m.kp.2 ∧ m.kp.2 ≤ 1000000
theorem small_prod {x : Nat} (h : x ≤ 10 ^ 360) : Small (x : Int) := by
  refine small_bits (b := 1197) ?_ (by decide)
  exact Nat.lt_of_le_of_lt h (by decide +kernel)
theorem small_mil {x : Nat} (h : x ≤ 1000000) : Small (x : Int) := by
  refine small_bits (b := 20) ?_ (by decide)
  exact Nat.lt_of_le_of_lt h (by decide +kernel)
section
variable {P : Program} {w : World} {K : PySem.W.Frag} {mg : Str → Option Value} {base : Heap}
/-! unit_of -/
theorem scUnitOf : FnScope ["house", "unit", "row", "amount"] ["house"] (defScope sUnitOf) := ⟨rfl, rfl, rfl, by decide +kernel, rfl, by decide +kernel, by decide +kernel⟩
def spUnitOf (C : Addr) : Sp := fun vs H Q _ => ∃ (a : Addr) (m : HouseM), vs = [.ref a] ∧ HouseAt C H a m ∧ HouseOk m ∧ ∀ H', Same H H' → Q (.int (unitOf (allFr m))) H'
theorem ok_unitOf {f f1 C : Addr} {fd fd1 : FuncData} (F : Fun K "unit_of" "unit_of" sUnitOf f fd) (T : CHouse K mg C) (D1 : Def P w K mg base 2 "shared_multiple" ["a", "b"] spMultiple f1 fd1) :
    FnOk P w K mg base CX0 3 f fd ["house"] (spUnitOf C) := by
  refine F.ok scUnitOf (fun vs H Q E h => ?_) (fun cdv A outer s H vs Q E hr h => ?_)
  · obtain ⟨a, m, rfl, _⟩ := h
    rfl
  · obtain ⟨a, m, rfl, ⟨dx, t1, t2, lo, lw, ws, hh⟩, ok, q⟩ := h
    refine ⟨_, pss_cons (ps_set (i := 1) scUnitOf.nd rfl (Or.inl rfl) pe_int)
      (pss_cons (ps_for PassesOwn.never rfl (pi_list (pe_op op_cat (pe_lst (pa_cons (pe_fld (pv 0) rfl) pa_nil)) (pe_fld (pv 0) rfl))) (pg_name (i := 2) scUnitOf.nd rfl (Or.inl rfl))
        (pss_one (ps_for PassesOwn.never rfl (pi_list (pv 2)) (pg_name (i := 3) scUnitOf.nd rfl (Or.inl rfl))
          (pss_one (ps_set (i := 1) scUnitOf.nd rfl (Or.inl rfl) (pe_call D1.ok hr rfl D1.here D1.kp D1.b .nil pass0 (pa_cons (pv 1) (pa_cons (pe_ix ix_tup (pv 3) pe_int (fun _ _ => rfl)) pa_nil))))))))
      (pss_one (ps_ret (pv 1)))), ?_⟩
    refine ⟨_, rfl, a, C, dx, _, _, rfl, hh.obj, T.cl, T.nOwn, hF_own _ _ _ _ _, (by show 1 ≤ sizeLine; decide), fun B hB => ?_⟩
    have sB := same_upd (o := .lst [V.ref lo]) hB
    have hhB := hh.mono sB
    refine ⟨_, rfl, a, C, dx, _, _, rfl, hhB.obj, T.cl, T.nOwed, hF_owed _ _ _ _ _, B, lw, _, _, rfl, rfl, upd_same, hhB.owed, ?_, fun D hD => ?_⟩
    · rw [List.length_map, hh.rows, ok.nOwed]
      exact Nat.le_of_lt (small1000 (by have := ok.n8; simp; omega))
    have sD := same_upd (o := .lst ([V.ref lo] ++ ws.map V.ref)) hD
    have hhD := hhB.mono sD
    have hrows : ∀ i, i < (m.own :: m.owed).length → FrsAt (upd (upd H B (.lst [V.ref lo])) D (.lst ([V.ref lo] ++ ws.map V.ref))) ((lo :: ws).getD i 0) ((m.own :: m.owed).getD i []) := by
      intro i hi
      cases i with
      | zero => exact hhD.own
      | succ i => exact hhD.row i (by simpa using hi)
    have dpos : ∀ q ∈ allFr m, 0 < q.2 := fun q hq => (ok.den q hq).1
    refine ⟨D, rfl, ⟨_, SqL.of upd_same⟩, for_list (K := K) (a := D) (xs := (lo :: ws).map V.ref) (fun i σ H' => ∃ x2 x3, σ = [some (.ref a), some (.int (unitOf ((m.own :: m.owed).take i).flatten)), x2, x3] ∧ H' = upd (upd H B (.lst [V.ref lo])) D (.lst ([V.ref lo] ++ ws.map V.ref)))
      ⟨none, none, rfl, rfl⟩ (fun i σ H' _ ⟨_, _, _, e⟩ => by rw [e]; exact SqL.of upd_same) ?_ ?_⟩
    · rintro i x σ H' hx ⟨x2, x3, rfl, rfl⟩
      have hi : i < (lo :: ws).length := by
        have := (List.getElem?_eq_some_iff.mp hx).1
        rwa [List.length_map] at this
      have hi2 : i < (m.own :: m.owed).length := by
        have := hh.rows
        simp at hi ⊢; omega
      rw [refs_at hi] at hx
      obtain rfl := Option.some.inj hx
      obtain ⟨ps, g1, g2, g3⟩ := hrows i hi2
      have split : ∀ j, ((m.own :: m.owed).take i).flatten ++ ((m.own :: m.owed).getD i []).take j ++ (((m.own :: m.owed).getD i []).drop j ++ ((m.own :: m.owed).drop (i + 1)).flatten) = allFr m := by
        intro j
        unfold allFr
        have e1 : (m.own :: m.owed) = (m.own :: m.owed).take i ++ ((m.own :: m.owed).getD i [] :: (m.own :: m.owed).drop (i + 1)) := by
          rw [getD_lt hi2, List.getElem_cons_drop, List.take_append_drop]
        conv => rhs; rw [e1]
        rw [List.flatten_append, List.flatten_cons, List.append_assoc, ← List.append_assoc (List.take j _), List.take_append_drop]
      refine ⟨_, rfl, _, rfl, ⟨_, SqL.of g1⟩, for_list (K := K) (xs := ps.map V.ref) (fun j σ H' => ∃ x3, σ = [some (.ref a), some (.int (unitOf (((m.own :: m.owed).take i).flatten ++ ((m.own :: m.owed).getD i []).take j))), some (.ref ((lo :: ws).getD i 0)), x3] ∧ H' = upd (upd H B (.lst [V.ref lo])) D (.lst ([V.ref lo] ++ ws.map V.ref)))
        ⟨x3, by simp, rfl⟩ (fun j σ H' _ ⟨_, _, e⟩ => by rw [e]; exact SqL.of g1) ?_ ?_⟩
      · rintro j y σ H' hy ⟨x3, rfl, rfl⟩
        have hj : j < ps.length := by
          have := (List.getElem?_eq_some_iff.mp hy).1
          rwa [List.length_map] at this
        rw [refs_at hj] at hy
        obtain rfl := Option.some.inj hy
        have hj2 : j < ((m.own :: m.owed).getD i []).length := by omega
        have hmem : ((m.own :: m.owed).getD i []).getD j (0, 1) ∈ allFr m := by
          rw [← split j]
          refine List.mem_append_right _ (List.mem_append_left _ ?_)
          rw [getD_lt hj2]
          exact List.mem_drop_iff_getElem.2 ⟨0, by omega, by simp⟩
        have hd := ok.den _ hmem
        have e2 : ((m.own :: m.owed).getD i []).take (j + 1) = ((m.own :: m.owed).getD i []).take j ++ [((m.own :: m.owed).getD i []).getD j (0, 1)] := by
          rw [List.take_add_one, List.getElem?_eq_getElem hj2, getD_lt hj2]; rfl
        refine ⟨_, rfl, _, rfl, _, _, _, _, rfl, rfl, SqT.of (g3 j hj2), atI_nat (j := 1) rfl, ?_⟩
        refine ⟨unitOf (((m.own :: m.owed).take i).flatten ++ ((m.own :: m.owed).getD i []).take j), (((m.own :: m.owed).getD i []).getD j (0, 1)).2, rfl, ?_, hd.1, ?_, small_mil hd.2.2, ?_⟩
        · refine unitOf_pos _ (fun q hq => dpos q ?_)
          rw [← split j]; exact List.mem_append_left _ hq
        · refine small_prod (Nat.le_trans (unitOf_le _) (Nat.le_trans ?_ ok.prod))
          rw [← split j]
          refine prodDen_app _ _ (fun q hq => dpos q ?_)
          rw [← split j]; exact List.mem_append_right _ hq
        · refine ⟨some (.ref (ps.getD j 0)), ?_, rfl⟩
          rw [e2, ← List.append_assoc, unitOf_snoc]
          rfl
      · rintro σ H' ⟨x3, rfl, rfl⟩
        refine ⟨some (.ref ((lo :: ws).getD i 0)), x3, ?_, rfl⟩
        have e3 : ((m.own :: m.owed).getD i []).take (ps.map V.ref).length = (m.own :: m.owed).getD i [] := by
          rw [List.length_map, g2, List.take_length]
        have e4 : ((m.own :: m.owed).take (i + 1)).flatten = ((m.own :: m.owed).take i).flatten ++ (m.own :: m.owed).getD i [] := by
          rw [List.take_add_one, List.getElem?_eq_getElem hi2, getD_lt hi2, List.flatten_append]; simp
        rw [e3, e4]
    · rintro σ H' ⟨x2, x3, rfl, rfl⟩
      have e5 : (m.own :: m.owed).take ((lo :: ws).map V.ref).length = m.own :: m.owed := by
        rw [List.length_map]
        refine List.take_of_length_le ?_
        have := hh.rows
        simp; omega
      rw [e5]
      exact ⟨_, rfl, q _ (sB.trans sD)⟩
end
end Wq

namespace Wq
open PySem PySem.Spec PyProof.Rows L2 Wp
/-! ### the sheet and the payments -/
structure SheetM where
  unit : Int
  n : Nat
  own : List Int
  owed : List (List Int)
  debts : List Int
  kw : Int
  ko : Int
  kp : Int
def sheetOf (m : HouseM) : SheetM where
  unit := unitOf (allFr m)
  n := m.n
  own := inUnits m.own (unitOf (allFr m))
  owed := m.owed.map fun r => inUnits r (unitOf (allFr m))
  debts := m.owed.map fun r => (inUnits r (unitOf (allFr m))).sum
  kw := m.ko.2 * m.kp.2
  ko := m.ko.1 * m.kp.2
  kp := m.kp.1 * m.ko.2
def sheetF (s : SheetM) (lo lw ld : Addr) : List (Str × V) := [("unit", .int s.unit), ("parties", .int s.n), ("own", .ref lo), ("owed", .ref lw), ("debts", .ref ld), ("kept_whole", .int s.kw), ("kept_own", .int s.ko), ("kept_paid", .int s.kp)]
structure SheetIn (C : Addr) (H : Hp) (a dx lo lw ld : Addr) (s : SheetM) : Prop where
  obj : H a = some (.ins C dx (sheetF s lo lw ld))
  own : H lo = some (.lst (lI s.own))
  owed : RowsAt H lw s.owed
  debts : H ld = some (.lst (lI s.debts))
def SheetAt (C : Addr) (H : Hp) (a : Addr) (s : SheetM) : Prop := ∃ dx lo lw ld, SheetIn C H a dx lo lw ld s
theorem SheetIn.mono {C : Addr} {H H' : Hp} {a dx lo lw ld : Addr} {s : SheetM} (h : SheetIn C H a dx lo lw ld s) (e : Same H H') : SheetIn C H' a dx lo lw ld s :=
  ⟨e _ _ h.obj, e _ _ h.own, h.owed.mono e, e _ _ h.debts⟩
theorem SheetAt.mono {C : Addr} {H H' : Hp} {a : Addr} {s : SheetM} (h : SheetAt C H a s) (e : Same H H') : SheetAt C H' a s := by
  obtain ⟨dx, lo, lw, ld, h⟩ := h
  exact ⟨dx, lo, lw, ld, h.mono e⟩
structure CSheet (K : PySem.W.Frag) (mg : Str → Option Value) (C : Addr) : Prop where
  cl : Cls K C
  here : mg "Sheet" = some (.ref C)
  nUnit : NoAttr K C "unit"
  nParties : NoAttr K C "parties"
  nOwn : NoAttr K C "own"
  nOwed : NoAttr K C "owed"
  nDebts : NoAttr K C "debts"
  nKw : NoAttr K C "kept_whole"
  nKo : NoAttr K C "kept_own"
  nKp : NoAttr K C "kept_paid"
section
variable (s : SheetM) (lo lw ld : Addr)
theorem sF_unit : (sheetF s lo lw ld).lookup ("unit" : Str) = some (.int s.unit) := lk_here
theorem sF_parties : (sheetF s lo lw ld).lookup ("parties" : Str) = some (.int s.n) := (lk_past (by decide +kernel)).trans lk_here
theorem sF_own : (sheetF s lo lw ld).lookup ("own" : Str) = some (.ref lo) := (lk_past (by decide +kernel)).trans ((lk_past (by decide +kernel)).trans lk_here)
theorem sF_owed : (sheetF s lo lw ld).lookup ("owed" : Str) = some (.ref lw) := (lk_past (by decide +kernel)).trans ((lk_past (by decide +kernel)).trans ((lk_past (by decide +kernel)).trans lk_here))
theorem sF_debts : (sheetF s lo lw ld).lookup ("debts" : Str) = some (.ref ld) := (lk_past (by decide +kernel)).trans ((lk_past (by decide +kernel)).trans ((lk_past (by decide +kernel)).trans ((lk_past (by decide +kernel)).trans lk_here)))
theorem sF_kw : (sheetF s lo lw ld).lookup ("kept_whole" : Str) = some (.int s.kw) := (lk_past (by decide +kernel)).trans ((lk_past (by decide +kernel)).trans ((lk_past (by decide +kernel)).trans ((lk_past (by decide +kernel)).trans ((lk_past (by decide +kernel)).trans lk_here))))
theorem sF_ko : (sheetF s lo lw ld).lookup ("kept_own" : Str) = some (.int s.ko) := (lk_past (by decide +kernel)).trans ((lk_past (by decide +kernel)).trans ((lk_past (by decide +kernel)).trans ((lk_past (by decide +kernel)).trans ((lk_past (by decide +kernel)).trans ((lk_past (by decide +kernel)).trans lk_here)))))
theorem sF_kp : (sheetF s lo lw ld).lookup ("kept_paid" : Str) = some (.int s.kp) := (lk_past (by decide +kernel)).trans ((lk_past (by decide +kernel)).trans ((lk_past (by decide +kernel)).trans ((lk_past (by decide +kernel)).trans ((lk_past (by decide +kernel)).trans ((lk_past (by decide +kernel)).trans ((lk_past (by decide +kernel)).trans lk_here))))))
end
/-- what a sheet's numbers keep to -/
structure SheetOk (s : SheetM) : Prop where
  n8 : s.n ≤ 8
  nOwn : s.own.length = s.n
  nOwed : s.owed.length = s.n
  nRow : ∀ i, i < s.n → (s.owed.getD i []).length = s.n
  nDebts : s.debts.length = s.n
  unit0 : 0 < s.unit
  kw0 : 0 < s.kw
  bUnit : s.unit.natAbs < 2 ^ 1220
  bOwn : ∀ i, (s.own.getD i 0).natAbs < 2 ^ 1219
  bOwed : ∀ i j, (at2 s.owed i j).natAbs < 2 ^ 1219
  bDebts : ∀ i, (s.debts.getD i 0).natAbs < 2 ^ 1219
  bKw : s.kw.natAbs < 2 ^ 40
  bKo : s.ko.natAbs < 2 ^ 40
  bKp : s.kp.natAbs < 2 ^ 40
structure PayM where
  below : Int
  above : List Int
  fell : List Int
def payF (p : PayM) (la lf : Addr) : List (Str × V) := [("below", .int p.below), ("above", .ref la), ("fell", .ref lf)]
structure PayIn (C : Addr) (H : Hp) (a dx la lf : Addr) (p : PayM) : Prop where
  obj : H a = some (.ins C dx (payF p la lf))
  above : H la = some (.lst (lI p.above))
  fell : H lf = some (.lst (lI p.fell))
def PayAt (C : Addr) (H : Hp) (a : Addr) (p : PayM) : Prop := ∃ dx la lf, PayIn C H a dx la lf p
theorem PayIn.mono {C : Addr} {H H' : Hp} {a dx la lf : Addr} {p : PayM} (h : PayIn C H a dx la lf p) (e : Same H H') : PayIn C H' a dx la lf p := ⟨e _ _ h.obj, e _ _ h.above, e _ _ h.fell⟩
theorem PayAt.mono {C : Addr} {H H' : Hp} {a : Addr} {p : PayM} (h : PayAt C H a p) (e : Same H H') : PayAt C H' a p := by
  obtain ⟨dx, la, lf, h⟩ := h
  exact ⟨dx, la, lf, h.mono e⟩
structure CPay (K : PySem.W.Frag) (mg : Str → Option Value) (C : Addr) : Prop where
  cl : Cls K C
  here : mg "Payments" = some (.ref C)
  nBelow : NoAttr K C "below"
  nAbove : NoAttr K C "above"
  nFell : NoAttr K C "fell"
section
variable (p : PayM) (la lf : Addr)
theorem pF_below : (payF p la lf).lookup ("below" : Str) = some (.int p.below) := lk_here
theorem pF_above : (payF p la lf).lookup ("above" : Str) = some (.ref la) := (lk_past (by decide +kernel)).trans lk_here
theorem pF_fell : (payF p la lf).lookup ("fell" : Str) = some (.ref lf) := (lk_past (by decide +kernel)).trans ((lk_past (by decide +kernel)).trans lk_here)
end
structure PayOk (s : SheetM) (p : PayM) : Prop where
  below0 : 0 < p.below
  nAbove : p.above.length = s.n
  nFell : p.fell.length = s.n
  bBelow : p.below.natAbs < 2 ^ 11400
  bAbove : ∀ i, (p.above.getD i 0).natAbs < 2 ^ 11400
/-! what the program reckons of them -/
def paidTo (s : SheetM) (p : PayM) (i : Nat) : Int := ((List.range s.n).map fun j => at2 s.owed j i * p.above.getD j 0).sum
def meansM (s : SheetM) (p : PayM) (i : Nat) : Int := s.own.getD i 0 * p.below + paidTo s p i
def surplusM (s : SheetM) (p : PayM) (i : Nat) : Int := meansM s p i - s.debts.getD i 0 * p.below
def canM (s : SheetM) (p : PayM) (i : Nat) : Bool := decide (0 ≤ surplusM s p i)
def keptM (s : SheetM) (p : PayM) (i : Nat) : Bool := decide (s.kw * s.debts.getD i 0 * p.below ≤ s.ko * s.own.getD i 0 * p.below + s.kp * paidTo s p i)
theorem bits_mul {x y : Int} {a b : Nat} (hx : x.natAbs < 2 ^ a) (hy : y.natAbs < 2 ^ b) : (x * y).natAbs < 2 ^ (a + b) := wide_lt hx hy
theorem sum_bits {b : Nat} : ∀ (l : List Int), (∀ x ∈ l, x.natAbs < 2 ^ b) → l.sum.natAbs ≤ l.length * 2 ^ b
  | [], _ => by simp
  | x :: l, h => by
    have h1 := sum_bits l (fun y hy => h y (List.mem_cons_of_mem _ hy))
    have h2 := h x (List.mem_cons_self ..)
    rw [List.sum_cons, List.length_cons, Nat.add_mul, Nat.one_mul]
    have h3 := Int.natAbs_add_le x l.sum
    generalize l.length * 2 ^ b = y at *
    generalize 2 ^ b = z at *
    omega
theorem paidTo_bits {s : SheetM} {p : PayM} (so : SheetOk s) (po : PayOk s p) (i : Nat) : (paidTo s p i).natAbs < 2 ^ 12624 := by
  have h := sum_bits (b := 1219 + 11400) ((List.range s.n).map fun j => at2 s.owed j i * p.above.getD j 0) (fun x hx => by
    obtain ⟨j, _, e⟩ := List.mem_map.1 hx
    rw [← e]; exact bits_mul (so.bOwed j i) (po.bAbove j))
  rw [List.length_map, List.length_range] at h
  have h8 := so.n8
  have h2 : s.n * 2 ^ (1219 + 11400) ≤ 8 * 2 ^ (1219 + 11400) := Nat.mul_le_mul_right _ h8
  have e : 8 * 2 ^ (1219 + 11400) < 2 ^ 12624 := by
    have e1 : (2 : Nat) ^ 12624 = 2 ^ 5 * 2 ^ (1219 + 11400) := by rw [← Nat.pow_add]
    rw [e1]
    exact Nat.mul_lt_mul_of_pos_right (by decide) (Nat.two_pow_pos _)
  exact Nat.lt_of_le_of_lt (Nat.le_trans h h2) e
theorem small_lt {x : Int} {b : Nat} (h : x.natAbs < 2 ^ b) (hb : b ≤ 13500 := by decide) : Small x := small_bits h hb
section
variable {P : Program} {w : World} {K : PySem.W.Frag} {mg : Str → Option Value} {base : Heap}
/-! row_in_units -/
theorem scRowUnits : FnScope ["row", "unit", "amount"] ["row", "unit"] (defScope sRowUnits) := ⟨rfl, rfl, rfl, by decide +kernel, rfl, by decide +kernel, by decide +kernel⟩
def spRowUnits : Sp := fun vs H Q _ => ∃ (a : Addr) (qs : List Fr) (u : Nat), vs = [.ref a, .int u] ∧ FrsAt H a qs ∧ (∀ q ∈ qs, 0 < q.2 ∧ q.1 ≤ 1000000 ∧ q.2 ≤ 1000000) ∧ Small u ∧ qs.length ≤ 8 ∧
  ∀ p H', Same H H' → H p = none → H' p = some (.lst (lI (inUnits qs u))) → Q (.ref p) H'
theorem ok_rowUnits {f : Addr} {fd : FuncData} (F : Fun K "row_in_units" "row_in_units" sRowUnits f fd) :
    FnOk P w K mg base CX0 1 f fd ["row", "unit"] spRowUnits := by
  refine F.ok scRowUnits (fun vs H Q E h => ?_) (fun cdv A outer s H vs Q E hr h => ?_)
  · obtain ⟨a, qs, u, rfl, _⟩ := h
    rfl
  · obtain ⟨a, qs, u, rfl, ⟨ps, g1, g2, g3⟩, den, su, h8, q⟩ := h
    refine ⟨_, pss_one (ps_ret (pe_lc (own := [("amount", 2)]) (g := gName 2) (tt := tYes) rfl scRowUnits.nd (pi_list (pv 0))
        (blkOk_by (own := [("amount", 2)]) (N := ["row", "unit", "amount"]) (sc := defScope sRowUnits) (by decide +kernel))
        (fun _ _ _ _ _ => pg_name (i := 2) scRowUnits.nd rfl (Or.inl rfl)) (fun _ _ _ _ _ => pts_nil)
        (fun _ _ _ _ _ => pe_op op_mulW (pe_ix (ix_tupK (K := K) rfl) (pv 2) pe_int (fun _ _ => rfl)) (pe_op op_fdivP (pv 1) (pe_ix (ix_tupK (K := K) rfl) (pv 2) pe_int (fun _ _ => rfl)))))), ?_⟩
    refine ⟨_, rfl, a, rfl, ⟨_, SqL.of g1⟩, fun D hD => ?_⟩
    refine lc_lstG (K := K) (a := a) (xs := ps.map V.ref) (fun i v _ => v = .int (((qs.getD i (0, 1)).1 * (u / (qs.getD i (0, 1)).2) : Nat) : Int)) (fun _ _ _ _ _ h => h) hD (SqL.of g1) (by rw [List.length_map]; omega) (fun _ => rfl) ?_ ?_
    · intro i x hx H2 acc s2 hacc hA hRel R' hR'
      have hi : i < ps.length := by
        have := (List.getElem?_eq_some_iff.mp hx).1
        rwa [List.length_map] at this
      rw [refs_at hi] at hx
      obtain rfl := Option.some.inj hx
      have hi2 : i < qs.length := by omega
      have hd := den (qs.getD i (0, 1)) (by rw [getD_lt hi2]; exact List.getElem_mem _)
      have g := s2 _ _ (g3 i hi2)
      refine ⟨_, rfl, _, _, _, _, rfl, rfl, SqT.of g, atI_nat (j := 0) rfl, _, rfl, _, rfl, _, _, _, _, rfl, rfl, SqT.of g, atI_nat (j := 1) rfl, _, _, rfl, rfl, divp (by have := hd.1; omega) su, _, _, rfl, rfl, ?_, ?_⟩
      · refine small_mul (small_mil hd.2.1) (Small.mono su ?_)
        rw [show ((u : Int) / (((qs.getD i (0, 1)).2 : Nat) : Int)) = ((u / (qs.getD i (0, 1)).2 : Nat) : Int) from (Int.natCast_ediv _ _).symm]
        exact Nat.div_le_self _ _
      · refine hR' _ H2 (Same.refl _) ?_
        rw [Int.natCast_mul, Int.natCast_ediv]
    · intro H2 acc s2 hacc hA hRel
      have eacc : acc = lI (inUnits qs u) := by
        rw [List.length_map] at hacc
        refine List.ext_getElem? (fun i => ?_)
        by_cases hi : i < qs.length
        · have e1 := hRel i (by rw [List.length_map]; omega)
          rw [getD_lt (by omega)] at e1
          rw [List.getElem?_eq_getElem (by omega), e1]
          show _ = (lI _)[i]?
          unfold inUnits
          rw [lI_at (by rw [List.length_map]; omega), getD_map _ _ _ _ (0, 1) (by omega)]
        · rw [List.getElem?_eq_none (by omega), List.getElem?_eq_none (by simp [inUnits]; omega)]
      subst eacc
      exact q D H2 s2 hD hA
end
end Wq

namespace Wq
open PySem PySem.Spec PyProof.Rows L2 Wp
theorem put_here {f : Str} {v x : V} {r : List (Str × V)} : putF f v ((f, x) :: r) = (f, v) :: r := if_pos rfl
theorem put_past {f g : Str} {v x : V} {r : List (Str × V)} (h : ¬ g = f) : putF f v ((g, x) :: r) = (g, x) :: putF f v r := if_neg h
theorem put_end {f : Str} {v : V} : putF f v [] = [(f, v)] := rfl
theorem pe_fldK {X : Cx} {K : PySem.W.Frag} {e : Expr} {f : Str} {pos : Pos} {ta : TE} (hK : X.K = K) (he : PE X e ta) (hb : attributeBase e f X.env (eval e X.env) = eval e X.env) : PE X (.Attribute e f pos) (tFld K ta f) := hK ▸ pe_fld he hb
section
variable {P : Program} {w : World} {K : PySem.W.Frag} {mg : Str → Option Value} {base : Heap}
/-! Payments.__init__ -/
theorem scPayInit : FnScope ["self", "below", "above", "fell"] ["self", "below", "above", "fell"] (defScope sPayInit) := ⟨rfl, rfl, rfl, by decide +kernel, rfl, by decide +kernel, by decide +kernel⟩
def spPayInit (C : Addr) : Sp := fun vs H Q _ => ∃ (H0 : Hp) (p dx la lf : Addr) (m : PayM), vs = [.ref p, .int m.below, .ref la, .ref lf] ∧ Same H0 H ∧ H0 p = none ∧ H p = some (.ins C dx []) ∧
  H0 la = some (.lst (lI m.above)) ∧ H0 lf = some (.lst (lI m.fell)) ∧ ∀ H', Same H0 H' → PayAt C H' p m → Q .non H'
theorem payF_mk (m : PayM) (la lf : Addr) : putF "fell" (.ref lf) (putF "above" (.ref la) (putF "below" (.int m.below) [])) = payF m la lf := by
  unfold payF
  rw [put_end, put_past (by decide +kernel), put_end, put_past (by decide +kernel), put_past (by decide +kernel), put_end]
theorem ok_payInit {f C : Addr} {fd : FuncData} (F : Fun K "__init__" "Payments.__init__" sPayInit f fd) (T : CPay K mg C) : FnOk P w K mg base CX0 1 f fd ["self", "below", "above", "fell"] (spPayInit C) := by
  refine F.ok scPayInit (fun vs H Q E h => ?_) (fun cdv A outer s H vs Q E hr h => ?_)
  · obtain ⟨H0, p, dx, la, lf, m, rfl, _⟩ := h
    rfl
  · obtain ⟨H0, p, dx, la, lf, m, rfl, s0, p0, hp, ha, hf, q⟩ := h
    refine ⟨_, pss_cons (ps_fld (pv 0) (pv 1) rfl) (pss_cons (ps_fld (pv 0) (pv 2) rfl) (pss_one (ps_fld (pv 0) (pv 3) rfl))), ?_⟩
    refine ⟨_, rfl, _, rfl, p, C, dx, [], rfl, hp, T.cl, T.nBelow, (by show 0 < 1000; decide), ?_⟩
    refine ⟨_, rfl, _, rfl, p, C, dx, _, rfl, upd_same, T.cl, T.nAbove, (by show 1 < 1000; decide), ?_⟩
    refine ⟨_, rfl, _, rfl, p, C, dx, _, rfl, upd_same, T.cl, T.nFell, (by rw [put_end, put_past (by decide +kernel)]; show 2 < 1000; decide), ?_⟩
    have sH : ∀ o1 o2 : HO, Same H0 (upd (upd (upd H p o1) p o2) p (.ins C dx (putF "fell" (.ref lf) (putF "above" (.ref la) (putF "below" (.int m.below) []))))) := fun o1 o2 b o e => by
      have nb : b ≠ p := ne_of_none e p0
      rw [upd_ne nb, upd_ne nb, upd_ne nb]; exact s0 _ _ e
    exact q _ (sH _ _) ⟨dx, la, lf, by rw [upd_same, payF_mk], sH _ _ _ _ ha, sH _ _ _ _ hf⟩
/-! paid_to -/
theorem scPaidTo : FnScope ["sheet", "payments", "i", "j"] ["sheet", "payments", "i"] (defScope sPaidTo) := ⟨rfl, rfl, rfl, by decide +kernel, rfl, by decide +kernel, by decide +kernel⟩
/-- a def of sheet, payments and a party that only reads -/
def spRead (CS CP : Addr) (g : SheetM → PayM → Nat → V) : Sp := fun vs H Q _ => ∃ (a b : Addr) (i : Nat) (s : SheetM) (p : PayM), vs = [.ref a, .ref b, .int i] ∧ SheetAt CS H a s ∧ PayAt CP H b p ∧ SheetOk s ∧ PayOk s p ∧ i < s.n ∧
  ∀ H', Same H H' → Q (g s p i) H'
theorem spRead_len {CS CP : Addr} {g : SheetM → PayM → Nat → V} (vs : List V) (H : Hp) (Q : VK) (E : XK) (h : spRead CS CP g vs H Q E) : vs.length = 3 := by
  obtain ⟨a, b, i, s, p, rfl, _⟩ := h
  rfl
theorem ok_paidTo {f CS CP : Addr} {fd : FuncData} (F : Fun K "paid_to" "paid_to" sPaidTo f fd) (B : Env mg) (TS : CSheet K mg CS) (TP : CPay K mg CP) :
    FnOk P w K mg base CX0 1 f fd ["sheet", "payments", "i"] (spRead CS CP fun s p i => .int (paidTo s p i)) := by
  refine F.ok scPaidTo spRead_len (fun cdv A outer s H vs Q E hr h => ?_)
  obtain ⟨a, b, i, s, p, rfl, ⟨dx, lo, lw, ld, hs⟩, ⟨dy, la, lf, hp⟩, so, po, hi, q⟩ := h
  refine ⟨_, pss_one (ps_ret (pe_callB (cr_sum rfl) (by rfl) B.sum (by decide +kernel) (pa_cons (pe_lc (own := [("j", 3)]) (g := gName 3) (tt := tYes) rfl scPaidTo.nd
        (pi_range1 rfl B.range (pa_cons (pe_fld (pv 0) rfl) pa_nil))
        (blkOk_by (own := [("j", 3)]) (N := ["sheet", "payments", "i", "j"]) (sc := defScope sPaidTo) (by decide +kernel))
        (fun _ _ _ _ _ => pg_name (i := 3) scPaidTo.nd rfl (Or.inl rfl)) (fun _ _ _ _ _ => pts_nil)
        (fun _ _ _ _ _ => pe_op op_mulW (pe_ix (ix_listK (K := K) rfl) (pe_ix (ix_listK (K := K) rfl) (pe_fldK (K := K) rfl (pv 0) rfl) (pv 3) (fun _ _ => rfl)) (pv 2) (fun _ _ => rfl)) (pe_ix (ix_listK (K := K) rfl) (pe_fldK (K := K) rfl (pv 1) rfl) (pv 3) (fun _ _ => rfl)))) pa_nil))), ?_⟩
  refine ⟨_, rfl, a, CS, dx, _, _, rfl, hs.obj, TS.cl, TS.nParties, sF_parties _ _ _ _, _, rfl, ?_, ?_, fun D hD => ?_⟩
  · omega
  · have := so.n8; omega
  · have en : ((s.n : Int)).toNat = s.n := by omega
    rw [en]
    have n8 := so.n8
    refine lc_rng (n := s.n) (fun j => V.int (at2 s.owed j i * p.above.getD j 0)) (by omega) (fun _ => rfl) ?_ ?_
    · intro j hj R hR
      have sD := same_upd (o := .lst ((List.range j).map fun j => V.int (at2 s.owed j i * p.above.getD j 0))) hD
      have hs' := hs.mono sD
      have hp' := hp.mono sD
      obtain ⟨ps, g1, g2, g3⟩ := hs'.owed
      have lj : j < s.owed.length := by have := so.nOwed; omega
      refine ⟨_, rfl, a, CS, dx, _, _, rfl, hs'.obj, TS.cl, TS.nOwed, sF_owed _ _ _ _, _, rfl, lw, _, _, _, rfl, rfl, SqL.of g1, atI_nat (refs_at (by omega)), _, rfl, _, _, _, _, rfl, rfl, SqL.of (g3 j lj), atI_nat (lI_at (by rw [so.nRow j hj]; exact hi)), ?_⟩
      refine ⟨_, rfl, b, CP, dy, _, _, rfl, hp'.obj, TP.cl, TP.nAbove, pF_above _ _ _, _, rfl, la, _, _, _, rfl, rfl, SqL.of hp'.above, atI_nat (lI_at (by rw [po.nAbove]; exact hj)), _, _, rfl, rfl, small_mul (small_lt (so.bOwed j i)) (small_lt (po.bAbove j)), hR⟩
    · refine ⟨D, (List.range s.n).map fun j => at2 s.owed j i * p.above.getD j 0, rfl, SqL.of ?_, q _ (same_upd hD)⟩
      rw [upd_same, List.map_map]; rfl
/-! means, surplus, can_pay -/
theorem scMeans : FnScope ["sheet", "payments", "i"] ["sheet", "payments", "i"] (defScope sMeans) := ⟨rfl, rfl, rfl, by decide +kernel, rfl, by decide +kernel, by decide +kernel⟩
theorem ok_means {f f1 CS CP : Addr} {fd fd1 : FuncData} (F : Fun K "means" "means" sMeans f fd) (TS : CSheet K mg CS) (TP : CPay K mg CP)
    (D1 : Def P w K mg base 1 "paid_to" ["sheet", "payments", "i"] (spRead CS CP fun s p i => .int (paidTo s p i)) f1 fd1) :
    FnOk P w K mg base CX0 2 f fd ["sheet", "payments", "i"] (spRead CS CP fun s p i => .int (meansM s p i)) := by
  refine F.ok scMeans spRead_len (fun cdv A outer s H vs Q E hr h => ?_)
  obtain ⟨a, b, i, s, p, rfl, hS, hP, so, po, hi, q⟩ := h
  obtain ⟨dx, lo, lw, ld, hs⟩ := id hS
  obtain ⟨dy, la, lf, hp⟩ := id hP
  refine ⟨_, pss_one (ps_ret (pe_op op_add (pe_op op_mulW (pe_ix ix_list (pe_fld (pv 0) rfl) (pv 2) (fun _ _ => rfl)) (pe_fld (pv 1) rfl)) (pe_call D1.ok hr rfl D1.here D1.kp D1.b .nil pass0 (pa_cons (pv 0) (pa_cons (pv 1) (pa_cons (pv 2) pa_nil)))))), ?_⟩
  refine ⟨_, rfl, a, CS, dx, _, _, rfl, hs.obj, TS.cl, TS.nOwn, sF_own _ _ _ _, _, rfl, lo, _, _, _, rfl, rfl, SqL.of hs.own, atI_nat (lI_at (by rw [so.nOwn]; exact hi)), ?_⟩
  refine ⟨_, rfl, b, CP, dy, _, _, rfl, hp.obj, TP.cl, TP.nBelow, pF_below _ _ _, _, _, rfl, rfl, small_mul (small_lt (so.bOwn i)) (small_lt po.bBelow), ?_⟩
  refine ⟨_, rfl, _, rfl, _, rfl, a, b, i, s, p, rfl, hS, hP, so, po, hi, fun H' s' => ?_⟩
  exact ⟨_, _, rfl, rfl, q _ s'⟩
theorem scSurplus : FnScope ["sheet", "payments", "i"] ["sheet", "payments", "i"] (defScope sSurplus) := ⟨rfl, rfl, rfl, by decide +kernel, rfl, by decide +kernel, by decide +kernel⟩
theorem ok_surplus {f f1 CS CP : Addr} {fd fd1 : FuncData} (F : Fun K "surplus" "surplus" sSurplus f fd) (TS : CSheet K mg CS) (TP : CPay K mg CP)
    (D1 : Def P w K mg base 2 "means" ["sheet", "payments", "i"] (spRead CS CP fun s p i => .int (meansM s p i)) f1 fd1) :
    FnOk P w K mg base CX0 3 f fd ["sheet", "payments", "i"] (spRead CS CP fun s p i => .int (surplusM s p i)) := by
  refine F.ok scSurplus spRead_len (fun cdv A outer s H vs Q E hr h => ?_)
  obtain ⟨a, b, i, s, p, rfl, hS, hP, so, po, hi, q⟩ := h
  refine ⟨_, pss_one (ps_ret (pe_op op_sub (pe_call D1.ok hr rfl D1.here D1.kp D1.b .nil pass0 (pa_cons (pv 0) (pa_cons (pv 1) (pa_cons (pv 2) pa_nil)))) (pe_op op_mulW (pe_ix ix_list (pe_fld (pv 0) rfl) (pv 2) (fun _ _ => rfl)) (pe_fld (pv 1) rfl)))), ?_⟩
  refine ⟨_, rfl, _, rfl, _, rfl, a, b, i, s, p, rfl, hS, hP, so, po, hi, fun H' s' => ?_⟩
  obtain ⟨dx, lo, lw, ld, hs⟩ := hS.mono s'
  obtain ⟨dy, la, lf, hp⟩ := hP.mono s'
  refine ⟨_, rfl, a, CS, dx, _, _, rfl, hs.obj, TS.cl, TS.nDebts, sF_debts _ _ _ _, _, rfl, ld, _, _, _, rfl, rfl, SqL.of hs.debts, atI_nat (lI_at (by rw [so.nDebts]; exact hi)), ?_⟩
  exact ⟨_, rfl, b, CP, dy, _, _, rfl, hp.obj, TP.cl, TP.nBelow, pF_below _ _ _, _, _, rfl, rfl, small_mul (small_lt (so.bDebts i)) (small_lt po.bBelow), _, _, rfl, rfl, q _ s'⟩
theorem scCanPay : FnScope ["sheet", "payments", "i"] ["sheet", "payments", "i"] (defScope sCanPay) := ⟨rfl, rfl, rfl, by decide +kernel, rfl, by decide +kernel, by decide +kernel⟩
theorem ok_canPay {f f1 CS CP : Addr} {fd fd1 : FuncData} (F : Fun K "can_pay" "can_pay" sCanPay f fd)
    (D1 : Def P w K mg base 3 "surplus" ["sheet", "payments", "i"] (spRead CS CP fun s p i => .int (surplusM s p i)) f1 fd1) :
    FnOk P w K mg base CX0 4 f fd ["sheet", "payments", "i"] (spRead CS CP fun s p i => .bl (canM s p i)) := by
  refine F.ok scCanPay spRead_len (fun cdv A outer s H vs Q E hr h => ?_)
  obtain ⟨a, b, i, s, p, rfl, hS, hP, so, po, hi, q⟩ := h
  refine ⟨_, pss_one (ps_ret (pe_cmpR op_ge (pe_call D1.ok hr rfl D1.here D1.kp D1.b .nil pass0 (pa_cons (pv 0) (pa_cons (pv 1) (pa_cons (pv 2) pa_nil)))) pe_int (nomark _))), ?_⟩
  refine ⟨_, rfl, _, rfl, _, rfl, a, b, i, s, p, rfl, hS, hP, so, po, hi, fun H' s' => ?_⟩
  exact ⟨_, _, rfl, rfl, q _ s'⟩
theorem scCanKept : FnScope ["sheet", "payments", "i", "of_own", "of_paid"] ["sheet", "payments", "i"] (defScope sCanKept) := ⟨rfl, rfl, rfl, by decide +kernel, rfl, by decide +kernel, by decide +kernel⟩
theorem ok_canKept {f f1 CS CP : Addr} {fd fd1 : FuncData} (F : Fun K "can_pay_from_kept" "can_pay_from_kept" sCanKept f fd) (TS : CSheet K mg CS) (TP : CPay K mg CP)
    (D1 : Def P w K mg base 1 "paid_to" ["sheet", "payments", "i"] (spRead CS CP fun s p i => .int (paidTo s p i)) f1 fd1) :
    FnOk P w K mg base CX0 2 f fd ["sheet", "payments", "i"] (spRead CS CP fun s p i => .bl (keptM s p i)) := by
  refine F.ok scCanKept spRead_len (fun cdv A outer s H vs Q E hr h => ?_)
  obtain ⟨a, b, i, s, p, rfl, hS, hP, so, po, hi, q⟩ := h
  obtain ⟨dx, lo, lw, ld, hs⟩ := id hS
  obtain ⟨dy, la, lf, hp⟩ := id hP
  refine ⟨_, pss_cons (ps_set (i := 3) scCanKept.nd rfl (Or.inl rfl) (pe_op op_mulW (pe_op op_mulW (pe_fld (pv 0) rfl) (pe_ix ix_list (pe_fld (pv 0) rfl) (pv 2) (fun _ _ => rfl))) (pe_fld (pv 1) rfl)))
    (pss_cons (ps_set (i := 4) scCanKept.nd rfl (Or.inl rfl) (pe_op op_mulW (pe_fld (pv 0) rfl) (pe_call D1.ok hr rfl D1.here D1.kp D1.b .nil pass0 (pa_cons (pv 0) (pa_cons (pv 1) (pa_cons (pv 2) pa_nil))))))
    (pss_one (ps_ret (pe_cmpR op_ge (pe_op op_add (pv 3) (pv 4)) (pe_op op_mulW (pe_op op_mulW (pe_fld (pv 0) rfl) (pe_ix ix_list (pe_fld (pv 0) rfl) (pv 2) (fun _ _ => rfl))) (pe_fld (pv 1) rfl)) (nomark _))))), ?_⟩
  refine ⟨_, rfl, a, CS, dx, _, _, rfl, hs.obj, TS.cl, TS.nKo, sF_ko _ _ _ _, _, rfl, a, CS, dx, _, _, rfl, hs.obj, TS.cl, TS.nOwn, sF_own _ _ _ _, _, rfl, lo, _, _, _, rfl, rfl, SqL.of hs.own, atI_nat (lI_at (by rw [so.nOwn]; exact hi)), _, _, rfl, rfl, small_mul (small_lt so.bKo) (small_lt (so.bOwn i)), ?_⟩
  refine ⟨_, rfl, b, CP, dy, _, _, rfl, hp.obj, TP.cl, TP.nBelow, pF_below _ _ _, _, _, rfl, rfl, small_mul (small_lt (bits_mul so.bKo (so.bOwn i))) (small_lt po.bBelow), ?_⟩
  refine ⟨_, rfl, a, CS, dx, _, _, rfl, hs.obj, TS.cl, TS.nKp, sF_kp _ _ _ _, _, rfl, _, rfl, _, rfl, a, b, i, s, p, rfl, hS, hP, so, po, hi, fun H' s' => ?_⟩
  have hs := hs.mono s'
  have hp := hp.mono s'
  refine ⟨_, _, rfl, rfl, small_mul (small_lt so.bKp) (small_lt (paidTo_bits so po i)), ?_⟩
  refine ⟨_, rfl, _, rfl, _, _, rfl, rfl, _, rfl, a, CS, dx, _, _, rfl, hs.obj, TS.cl, TS.nKw, sF_kw _ _ _ _, _, rfl, a, CS, dx, _, _, rfl, hs.obj, TS.cl, TS.nDebts, sF_debts _ _ _ _, _, rfl, ld, _, _, _, rfl, rfl, SqL.of hs.debts, atI_nat (lI_at (by rw [so.nDebts]; exact hi)), _, _, rfl, rfl, small_mul (small_lt so.bKw) (small_lt (so.bDebts i)), ?_⟩
  exact ⟨_, rfl, b, CP, dy, _, _, rfl, hp.obj, TP.cl, TP.nBelow, pF_below _ _ _, _, _, rfl, rfl, small_mul (small_lt (bits_mul so.bKw (so.bDebts i))) (small_lt po.bBelow), _, _, rfl, rfl, q _ s'⟩
end
end Wq

namespace Wq
open PySem PySem.Spec PyProof.Rows L2 Wp
theorem keep {H : Hp} {p lo C dx : Addr} {fs fs' : List (Str × V)} {xs : List V} (h : H lo = some (.lst xs)) (pk : H p = some (.ins C dx fs)) : (upd H p (.ins C dx fs')) lo = some (.lst xs) := by
  rw [upd_ne (ne_of h pk (by intro z; cases z))]; exact h
theorem keepR {H : Hp} {p lw C dx : Addr} {fs fs' : List (Str × V)} {R : List (List Int)} (h : RowsAt H lw R) (pk : H p = some (.ins C dx fs)) : RowsAt (upd H p (.ins C dx fs')) lw R := by
  obtain ⟨ps, h1, h2, h3⟩ := h
  exact ⟨ps, keep h1 pk, h2, fun i hi => keep (h3 i hi) pk⟩
/-- a sheet made behind H0, none of its lists standing for another -/
structure SheetLone (C : Addr) (H0 H : Hp) (a dx lo lw ld : Addr) (ps : List Addr) (s : SheetM) : Prop where
  isIn : SheetIn C H a dx lo lw ld s
  nSelf : H0 a = none
  nOwn : H0 lo = none
  nOwed : H0 lw = none
  nDebts : H0 ld = none
  rows : H lw = some (.lst (ps.map V.ref))
  ownDebts : lo ≠ ld
  ownRows : lo ∉ ps
  debtsRows : ld ∉ ps
def SheetNew (C : Addr) (H0 H : Hp) (a : Addr) (s : SheetM) : Prop := ∃ dx lo lw ld ps, SheetLone C H0 H a dx lo lw ld ps s
theorem SheetNew.at {C : Addr} {H0 H : Hp} {a : Addr} {s : SheetM} (h : SheetNew C H0 H a s) : SheetAt C H a s := by
  obtain ⟨dx, lo, lw, ld, ps, h⟩ := h
  exact ⟨dx, lo, lw, ld, h.isIn⟩
theorem sheetF_mk (s : SheetM) (lo lw ld : Addr) : putF "kept_paid" (.int s.kp) [("unit", .int s.unit), ("parties", .int s.n), ("own", .ref lo), ("owed", .ref lw), ("debts", .ref ld), ("kept_whole", .int s.kw), ("kept_own", .int s.ko)] = sheetF s lo lw ld := by
  unfold sheetF
  rw [put_past (by decide +kernel), put_past (by decide +kernel), put_past (by decide +kernel), put_past (by decide +kernel), put_past (by decide +kernel), put_past (by decide +kernel), put_past (by decide +kernel), put_end]
theorem put1 {f1 f2 : Str} {v1 v2 : V} (h1 : ¬ f1 = f2) : putF f2 v2 [(f1, v1)] = [(f1, v1), (f2, v2)] := by rw [put_past h1, put_end]
section
variable {P : Program} {w : World} {K : PySem.W.Frag} {mg : Str → Option Value} {base : Heap}
theorem scSheetInit : FnScope ["self", "house", "row"] ["self", "house"] (defScope sSheetInit) := ⟨rfl, rfl, rfl, by decide +kernel, rfl, by decide +kernel, by decide +kernel⟩
def spSheetInit (C CH : Addr) : Sp := fun vs H Q _ => ∃ (H0 : Hp) (p dx a : Addr) (m : HouseM), vs = [.ref p, .ref a] ∧ Same H0 H ∧ H0 p = none ∧ H p = some (.ins C dx []) ∧ HouseAt CH H0 a m ∧ HouseOk m ∧
  ∀ H', Same H0 H' → SheetNew C H0 H' p (sheetOf m) → Q .non H'
theorem row_den {m : HouseM} (ok : HouseOk m) {i : Nat} (hi : i < m.owed.length) : ∀ q ∈ m.owed.getD i [], 0 < q.2 ∧ q.1 ≤ 1000000 ∧ q.2 ≤ 1000000 := by
  intro q hq
  refine ok.den q ?_
  unfold allFr
  rw [List.mem_flatten]
  exact ⟨m.owed.getD i [], List.mem_cons_of_mem _ (by rw [getD_lt hi]; exact List.getElem_mem _), hq⟩
theorem own_den {m : HouseM} (ok : HouseOk m) : ∀ q ∈ m.own, 0 < q.2 ∧ q.1 ≤ 1000000 ∧ q.2 ≤ 1000000 := by
  intro q hq
  refine ok.den q ?_
  unfold allFr
  rw [List.mem_flatten]
  exact ⟨m.own, List.mem_cons_self .., hq⟩
theorem rows_from {n : Nat} {acc : List V} {H2 : Hp} {D : Addr} {f : Nat → List Int} (hacc : acc.length = n) (hA : H2 D = some (.lst acc)) (hRel : ∀ i, i < n → ∃ p, acc.getD i .non = .ref p ∧ H2 p = some (.lst (lI (f i)))) :
    RowsAt H2 D ((List.range n).map f) := by
  obtain ⟨addr, haddr⟩ : ∃ addr : Nat → Addr, ∀ i, i < n → acc.getD i .non = .ref (addr i) ∧ H2 (addr i) = some (.lst (lI (f i))) := by
    refine ⟨fun i => match acc.getD i .non with | .ref p => p | _ => 0, fun i hi => ?_⟩
    obtain ⟨p, e1, e3⟩ := hRel i hi
    dsimp only
    rw [e1]
    exact ⟨rfl, e3⟩
  refine ⟨(List.range n).map addr, ?_, ?_, ?_⟩
  · rw [hA]
    congr 2
    refine List.ext_getElem? (fun i => ?_)
    by_cases hi : i < n
    · have e1 := (haddr i hi).1
      rw [getD_lt (by omega)] at e1
      rw [List.getElem?_eq_getElem (by omega), e1, List.map_map, List.getElem?_map, List.getElem?_range hi]
      rfl
    · rw [List.getElem?_eq_none (by omega), List.getElem?_eq_none (by simp; omega)]
  · simp
  · intro i hi
    have hi' : i < n := by simpa using hi
    rw [getD_map_range, if_pos hi', getD_map_range, if_pos hi']
    exact (haddr i hi').2
theorem range_map_getD {α β : Type} (l : List α) (d : α) (f : α → β) : (List.range l.length).map (fun i => f (l.getD i d)) = l.map f := by
  refine List.ext_getElem? (fun i => ?_)
  by_cases hi : i < l.length
  · rw [List.getElem?_map, List.getElem?_range hi, List.getElem?_map, List.getElem?_eq_getElem hi]
    show some (f (l.getD i d)) = _
    rw [getD_lt hi]; rfl
  · rw [List.getElem?_eq_none (by simp; omega), List.getElem?_eq_none (by simp; omega)]
theorem ints_from {n : Nat} {acc : List V} {f : Nat → Int} (hacc : acc.length = n) (hRel : ∀ i, i < n → acc.getD i .non = .int (f i)) : acc = lI ((List.range n).map f) := by
  refine List.ext_getElem? (fun i => ?_)
  by_cases hi : i < n
  · have e1 := hRel i hi
    rw [getD_lt (by omega)] at e1
    rw [List.getElem?_eq_getElem (by omega), e1]
    show _ = (lI _)[i]?
    rw [lI_at (by simp; omega), getD_map_range, if_pos hi]
  · rw [List.getElem?_eq_none (by omega), List.getElem?_eq_none (by simp; omega)]
theorem ok_sheetInit {f f1 f2 C CH : Addr} {fd fd1 fd2 : FuncData} (F : Fun K "__init__" "Sheet.__init__" sSheetInit f fd) (B : Env mg) (T : CSheet K mg C) (TH : CHouse K mg CH)
    (D1 : Def P w K mg base 3 "unit_of" ["house"] (spUnitOf CH) f1 fd1) (D2 : Def P w K mg base 1 "row_in_units" ["row", "unit"] spRowUnits f2 fd2) :
    FnOk P w K mg base CX0 4 f fd ["self", "house"] (spSheetInit C CH) := by
  refine F.ok scSheetInit (fun vs H Q E h => ?_) (fun cdv A outer s H vs Q E hr h => ?_)
  · obtain ⟨H0, p, dx, a, m, rfl, _⟩ := h
    rfl
  · obtain ⟨H0, p, dx, a, m, rfl, s0, p0, hp, hH, ok, q⟩ := h
    have hr1 : Room 1 _ := hr.mono (by decide)
    refine ⟨_, pss_cons (ps_fld (pv 0) (pe_call D1.ok hr rfl D1.here D1.kp D1.b .nil pass0 (pa_cons (pv 1) pa_nil)) rfl)
      (pss_cons (ps_fld (pv 0) (pe_fld (pv 1) rfl) rfl)
      (pss_cons (ps_fld (pv 0) (pe_call D2.ok hr1 rfl D2.here D2.kp D2.b .nil pass0 (pa_cons (pe_fld (pv 1) rfl) (pa_cons (pe_fld (pv 0) rfl) pa_nil))) rfl)
      (pss_cons (ps_fld (pv 0) (pe_lc (own := [("row", 2)]) (g := gName 2) (tt := tYes) rfl scSheetInit.nd (pi_list (pe_fld (pv 1) rfl))
        (blkOk_by (own := [("row", 2)]) (N := ["self", "house", "row"]) (sc := defScope sSheetInit) (by decide +kernel))
        (fun _ _ _ _ _ => pg_name (i := 2) scSheetInit.nd rfl (Or.inl rfl)) (fun _ _ _ _ _ => pts_nil)
        (fun _ _ _ _ _ => pe_call D2.ok hr1 rfl D2.here D2.kp D2.b .nil pass0 (pa_cons (pv 2) (pa_cons (pe_fldK (K := K) rfl (pv 0) rfl) pa_nil)))) rfl)
      (pss_cons (ps_fld (pv 0) (pe_lc (own := [("row", 2)]) (g := gName 2) (tt := tYes) rfl scSheetInit.nd (pi_list (pe_fld (pv 0) rfl))
        (blkOk_by (own := [("row", 2)]) (N := ["self", "house", "row"]) (sc := defScope sSheetInit) (by decide +kernel))
        (fun _ _ _ _ _ => pg_name (i := 2) scSheetInit.nd rfl (Or.inl rfl)) (fun _ _ _ _ _ => pts_nil)
        (fun _ _ _ _ _ => pe_callB (r := rSum K) (cr_sum rfl) (by rfl) B.sum (by decide +kernel) (pa_cons (pv 2) pa_nil))) rfl)
      (pss_cons (ps_fld (pv 0) (pe_op op_mulW (pe_ix ix_tup (pe_fld (pv 1) rfl) pe_int (fun _ _ => rfl)) (pe_ix ix_tup (pe_fld (pv 1) rfl) pe_int (fun _ _ => rfl))) rfl)
      (pss_cons (ps_fld (pv 0) (pe_op op_mulW (pe_ix ix_tup (pe_fld (pv 1) rfl) pe_int (fun _ _ => rfl)) (pe_ix ix_tup (pe_fld (pv 1) rfl) pe_int (fun _ _ => rfl))) rfl)
      (pss_one (ps_fld (pv 0) (pe_op op_mulW (pe_ix ix_tup (pe_fld (pv 1) rfl) pe_int (fun _ _ => rfl)) (pe_ix ix_tup (pe_fld (pv 1) rfl) pe_int (fun _ _ => rfl))) rfl)))))))), ?_⟩
    obtain ⟨hx, t1, t2, lo', lw', ws, hh⟩ := id hH
    have upd0 : ∀ {H' : Hp} {o : HO}, Same H0 H' → Same H0 (upd H' p o) := fun s1 b o e => by
      rw [upd_ne (ne_of_none e p0)]; exact s1 _ _ e
    -- unit
    refine ⟨_, rfl, a, m, rfl, hH.mono s0, ok, fun H1 s1 => ?_⟩
    refine ⟨_, rfl, p, C, dx, [], rfl, s1 _ _ hp, T.cl, T.nUnit, (by show 0 < 1000; decide), ?_⟩
    rw [put_end]
    have k1 := upd0 (o := .ins C dx [("unit", .int (unitOf (allFr m)))]) (s0.trans s1)
    have p1 : (upd H1 p (.ins C dx [("unit", .int (unitOf (allFr m)))])) p = some (.ins C dx [("unit", .int (unitOf (allFr m)))]) := upd_same
    generalize hH2 : upd H1 p (.ins C dx [("unit", .int (unitOf (allFr m)))]) = H2 at k1 p1 ⊢
    -- parties
    have h2 := hh.mono k1
    refine ⟨_, rfl, a, CH, hx, _, _, rfl, h2.obj, TH.cl, TH.nParties, hF_parties _ _ _ _ _, ?_⟩
    refine ⟨_, rfl, p, C, dx, _, rfl, p1, T.cl, T.nParties, (by show 1 < 1000; decide), ?_⟩
    rw [put1 (by decide +kernel)]
    have k3 := upd0 (o := .ins C dx [("unit", .int (unitOf (allFr m))), ("parties", .int m.n)]) k1
    have p3 : (upd H2 p (.ins C dx [("unit", .int (unitOf (allFr m))), ("parties", .int m.n)])) p = some (.ins C dx [("unit", .int (unitOf (allFr m))), ("parties", .int m.n)]) := upd_same
    generalize hH3 : upd H2 p (.ins C dx [("unit", .int (unitOf (allFr m))), ("parties", .int m.n)]) = H3 at k3 p3 ⊢
    -- own
    have h3 := hh.mono k3
    have su : Small (unitOf (allFr m) : Int) := small_prod (Nat.le_trans (unitOf_le _) ok.prod)
    have n8 := ok.n8
    refine ⟨_, rfl, a, CH, hx, _, _, rfl, h3.obj, TH.cl, TH.nOwn, hF_own _ _ _ _ _, _, rfl, p, C, dx, _, _, rfl, p3, T.cl, T.nUnit, lk_here, ?_⟩
    refine ⟨lo', m.own, unitOf (allFr m), rfl, h3.own, own_den ok, su, by rw [ok.nOwn]; omega, fun lo H4 s4 nlo hlo => ?_⟩
    refine ⟨_, rfl, p, C, dx, _, rfl, s4 _ _ p3, T.cl, T.nOwn, (by show 2 < 1000; decide), ?_⟩
    rw [put_past (by decide +kernel), put1 (by decide +kernel)]
    have k5 := upd0 (o := .ins C dx [("unit", .int (unitOf (allFr m))), ("parties", .int m.n), ("own", .ref lo)]) (k3.trans s4)
    have o5 := keep (fs' := [("unit", .int (unitOf (allFr m))), ("parties", .int m.n), ("own", .ref lo)]) hlo (s4 _ _ p3)
    have p5 : (upd H4 p (.ins C dx [("unit", .int (unitOf (allFr m))), ("parties", .int m.n), ("own", .ref lo)])) p = some (.ins C dx [("unit", .int (unitOf (allFr m))), ("parties", .int m.n), ("own", .ref lo)]) := upd_same
    generalize hH5 : upd H4 p (.ins C dx [("unit", .int (unitOf (allFr m))), ("parties", .int m.n), ("own", .ref lo)]) = H5 at k5 p5 o5 ⊢
    -- owed
    have h5 := hh.mono k5
    refine ⟨_, rfl, a, CH, hx, _, _, rfl, h5.obj, TH.cl, TH.nOwed, hF_owed _ _ _ _ _, lw', rfl, ⟨_, SqL.of h5.owed⟩, fun D hD => ?_⟩
    refine lc_lstG (K := K) (a := lw') (xs := ws.map V.ref) (fun i v H' => ∃ r, v = .ref r ∧ (r ≠ D ∧ r ≠ lo) ∧ H' r = some (.lst (lI (inUnits (m.owed.getD i []) (unitOf (allFr m)))))) ?_ hD (SqL.of h5.owed) (by rw [List.length_map, hh.rows, ok.nOwed]; omega) (fun _ => rfl) ?_ ?_
    · rintro i v H' H'' hb ⟨r, e1, e2, e3⟩
      exact ⟨r, e1, e2, hb _ _ e2.1 e3⟩
    · intro i x hx H' acc s6 hacc hA hRel R' hR'
      have hi : i < ws.length := by
        have := (List.getElem?_eq_some_iff.mp hx).1
        rwa [List.length_map] at this
      rw [refs_at hi] at hx
      obtain rfl := Option.some.inj hx
      have hi2 : i < m.owed.length := by have := hh.rows; omega
      refine ⟨_, rfl, _, rfl, p, C, dx, _, _, rfl, s6 _ _ p5, T.cl, T.nUnit, lk_here, ?_⟩
      refine ⟨_, m.owed.getD i [], unitOf (allFr m), rfl, (h5.mono s6).row i hi2, row_den ok hi2, su, by rw [ok.nRow i (by have := ok.nOwed; omega)]; omega, fun r H'' s7 nr hr2 => ?_⟩
      refine hR' _ H'' s7 ⟨r, rfl, ⟨fun e => ?_, fun e => ?_⟩, hr2⟩
      · rw [e, hA] at nr
        cases nr
      · rw [e, s6 _ _ o5] at nr
        cases nr
    · intro H6 acc s6 hacc hA hRel
      have k6 := k5.trans s6
      have p6 := s6 _ _ p5
      have o6 := s6 _ _ o5
      have w6 : RowsAt H6 D (m.owed.map fun r => inUnits r (unitOf (allFr m))) := by
        have := rows_from (n := ws.length) (by rw [List.length_map] at hacc; exact hacc) hA (fun i hi => by
          obtain ⟨r, e1, e2, e3⟩ := hRel i (by rw [List.length_map]; exact hi)
          exact ⟨r, e1, e3⟩)
        rw [hh.rows] at this
        rw [range_map_getD m.owed [] (fun r => inUnits r (unitOf (allFr m)))] at this
        exact this
      refine ⟨_, rfl, p, C, dx, _, rfl, p6, T.cl, T.nOwed, (by show 3 < 1000; decide), ?_⟩
      rw [put_past (by decide +kernel), put_past (by decide +kernel), put1 (by decide +kernel)]
      have k7 := upd0 (o := .ins C dx [("unit", .int (unitOf (allFr m))), ("parties", .int m.n), ("own", .ref lo), ("owed", .ref D)]) k6
      have o7 := keep (fs' := [("unit", .int (unitOf (allFr m))), ("parties", .int m.n), ("own", .ref lo), ("owed", .ref D)]) o6 p6
      have w7 := keepR (fs' := [("unit", .int (unitOf (allFr m))), ("parties", .int m.n), ("own", .ref lo), ("owed", .ref D)]) w6 p6
      have p7 : (upd H6 p (.ins C dx [("unit", .int (unitOf (allFr m))), ("parties", .int m.n), ("own", .ref lo), ("owed", .ref D)])) p = some (.ins C dx [("unit", .int (unitOf (allFr m))), ("parties", .int m.n), ("own", .ref lo), ("owed", .ref D)]) := upd_same
      generalize hH7 : upd H6 p (.ins C dx [("unit", .int (unitOf (allFr m))), ("parties", .int m.n), ("own", .ref lo), ("owed", .ref D)]) = H7 at k7 p7 o7 w7 ⊢
      -- debts
      obtain ⟨qs, g1, g2, g3⟩ := id w7
      have eacc : acc = qs.map V.ref := by
        have e1 := keep (fs' := [("unit", .int (unitOf (allFr m))), ("parties", .int m.n), ("own", .ref lo), ("owed", .ref D)]) hA p6
        rw [hH7, g1] at e1
        exact (HO.lst.inj (Option.some.inj e1)).symm
      have loq : lo ∉ qs := by
        intro hq
        obtain ⟨k, hk, e1⟩ := List.getElem_of_mem hq
        have hk2 : k < (ws.map V.ref).length := by rw [← hacc, eacc, List.length_map]; exact hk
        obtain ⟨r, e2, e3, _⟩ := hRel k hk2
        rw [eacc, getD_lt (by rw [List.length_map]; exact hk), List.getElem_map, e1] at e2
        exact e3.2 (V.ref.inj e2).symm
      refine ⟨_, rfl, p, C, dx, _, _, rfl, p7, T.cl, T.nOwed, (lk_past (by decide +kernel)).trans ((lk_past (by decide +kernel)).trans ((lk_past (by decide +kernel)).trans lk_here)), D, rfl, ⟨_, SqL.of g1⟩, fun G hG => ?_⟩
      refine lc_lstG (K := K) (a := D) (xs := qs.map V.ref) (fun i v _ => v = .int ((m.owed.map fun r => inUnits r (unitOf (allFr m))).getD i []).sum) (fun _ _ _ _ _ h => h) hG (SqL.of g1) (by rw [List.length_map, g2, List.length_map, ok.nOwed]; omega) (fun _ => rfl) ?_ ?_
      · intro i x hx H' acc s8 hacc hA hRel R' hR'
        have hi : i < qs.length := by
          have := (List.getElem?_eq_some_iff.mp hx).1
          rwa [List.length_map] at this
        rw [refs_at hi] at hx
        obtain rfl := Option.some.inj hx
        refine ⟨_, rfl, _, _, rfl, SqL.of (s8 _ _ (g3 i (by omega))), ?_⟩
        exact hR' _ H' (Same.refl _) rfl
      · intro H8 acc8 s8 hacc8 hA8 hRel8
        have k8 := k7.trans s8
        have p8 := s8 _ _ p7
        have o8 := s8 _ _ o7
        have w8 := w7.mono s8
        have e8 : acc8 = lI (sheetOf m).debts := by
          rw [List.length_map, g2] at hacc8
          have := ints_from (f := fun i => ((m.owed.map fun r => inUnits r (unitOf (allFr m))).getD i []).sum) hacc8 (fun i hi => hRel8 i (by rw [List.length_map, g2]; exact hi))
          rw [this, range_map_getD (m.owed.map fun r => inUnits r (unitOf (allFr m))) [] List.sum, List.map_map]
          rfl
        subst e8
        refine ⟨_, rfl, p, C, dx, _, rfl, p8, T.cl, T.nDebts, (by show 4 < 1000; decide), ?_⟩
        rw [put_past (by decide +kernel), put_past (by decide +kernel), put_past (by decide +kernel), put1 (by decide +kernel)]
        have k9 := upd0 (o := .ins C dx [("unit", .int (unitOf (allFr m))), ("parties", .int m.n), ("own", .ref lo), ("owed", .ref D), ("debts", .ref G)]) k8
        have o9 := keep (fs' := [("unit", .int (unitOf (allFr m))), ("parties", .int m.n), ("own", .ref lo), ("owed", .ref D), ("debts", .ref G)]) o8 p8
        have w9 := keepR (fs' := [("unit", .int (unitOf (allFr m))), ("parties", .int m.n), ("own", .ref lo), ("owed", .ref D), ("debts", .ref G)]) w8 p8
        have d9 := keep (fs' := [("unit", .int (unitOf (allFr m))), ("parties", .int m.n), ("own", .ref lo), ("owed", .ref D), ("debts", .ref G)]) hA8 p8
        have p9 : (upd H8 p (.ins C dx [("unit", .int (unitOf (allFr m))), ("parties", .int m.n), ("own", .ref lo), ("owed", .ref D), ("debts", .ref G)])) p = some (.ins C dx [("unit", .int (unitOf (allFr m))), ("parties", .int m.n), ("own", .ref lo), ("owed", .ref D), ("debts", .ref G)]) := upd_same
        generalize hH9 : upd H8 p (.ins C dx [("unit", .int (unitOf (allFr m))), ("parties", .int m.n), ("own", .ref lo), ("owed", .ref D), ("debts", .ref G)]) = H9 at k9 p9 o9 w9 d9 ⊢
        have h9 := hh.mono k9
        have ma : ∀ x y : Nat, x ≤ 1000000 → y ≤ 1000000 → CMulW (x : Int) (y : Int) := fun x y hx hy => small_mul (small_mil hx) (small_mil hy)
        have ko := ok.ko
        have kp := ok.kp
        -- kept_whole
        refine ⟨_, rfl, a, CH, hx, _, _, rfl, h9.obj, TH.cl, TH.nKo, hF_ko _ _ _ _ _, _, _, _, _, rfl, rfl, SqT.of h9.ko, atI_nat (j := 1) rfl, _, rfl, a, CH, hx, _, _, rfl, h9.obj, TH.cl, TH.nKp, hF_kp _ _ _ _ _, _, _, _, _, rfl, rfl, SqT.of h9.kp, atI_nat (j := 1) rfl, _, _, rfl, rfl, ma _ _ (by omega) (by omega), ?_⟩
        refine ⟨_, rfl, p, C, dx, _, rfl, p9, T.cl, T.nKw, (by show 5 < 1000; decide), ?_⟩
        rw [put_past (by decide +kernel), put_past (by decide +kernel), put_past (by decide +kernel), put_past (by decide +kernel), put1 (by decide +kernel)]
        have kA := upd0 (o := .ins C dx [("unit", .int (unitOf (allFr m))), ("parties", .int m.n), ("own", .ref lo), ("owed", .ref D), ("debts", .ref G), ("kept_whole", .int (m.ko.2 * m.kp.2))]) k9
        have oA := keep (fs' := [("unit", .int (unitOf (allFr m))), ("parties", .int m.n), ("own", .ref lo), ("owed", .ref D), ("debts", .ref G), ("kept_whole", .int (m.ko.2 * m.kp.2))]) o9 p9
        have wA := keepR (fs' := [("unit", .int (unitOf (allFr m))), ("parties", .int m.n), ("own", .ref lo), ("owed", .ref D), ("debts", .ref G), ("kept_whole", .int (m.ko.2 * m.kp.2))]) w9 p9
        have dA := keep (fs' := [("unit", .int (unitOf (allFr m))), ("parties", .int m.n), ("own", .ref lo), ("owed", .ref D), ("debts", .ref G), ("kept_whole", .int (m.ko.2 * m.kp.2))]) d9 p9
        have pA : (upd H9 p (.ins C dx [("unit", .int (unitOf (allFr m))), ("parties", .int m.n), ("own", .ref lo), ("owed", .ref D), ("debts", .ref G), ("kept_whole", .int (m.ko.2 * m.kp.2))])) p = some (.ins C dx [("unit", .int (unitOf (allFr m))), ("parties", .int m.n), ("own", .ref lo), ("owed", .ref D), ("debts", .ref G), ("kept_whole", .int (m.ko.2 * m.kp.2))]) := upd_same
        generalize hHA : upd H9 p (.ins C dx [("unit", .int (unitOf (allFr m))), ("parties", .int m.n), ("own", .ref lo), ("owed", .ref D), ("debts", .ref G), ("kept_whole", .int (m.ko.2 * m.kp.2))]) = HA at kA pA oA wA dA ⊢
        have hA' := hh.mono kA
        -- kept_own
        refine ⟨_, rfl, a, CH, hx, _, _, rfl, hA'.obj, TH.cl, TH.nKo, hF_ko _ _ _ _ _, _, _, _, _, rfl, rfl, SqT.of hA'.ko, atI_nat (j := 0) rfl, _, rfl, a, CH, hx, _, _, rfl, hA'.obj, TH.cl, TH.nKp, hF_kp _ _ _ _ _, _, _, _, _, rfl, rfl, SqT.of hA'.kp, atI_nat (j := 1) rfl, _, _, rfl, rfl, ma _ _ (by omega) (by omega), ?_⟩
        refine ⟨_, rfl, p, C, dx, _, rfl, pA, T.cl, T.nKo, (by show 6 < 1000; decide), ?_⟩
        rw [put_past (by decide +kernel), put_past (by decide +kernel), put_past (by decide +kernel), put_past (by decide +kernel), put_past (by decide +kernel), put1 (by decide +kernel)]
        have kB := upd0 (o := .ins C dx [("unit", .int (unitOf (allFr m))), ("parties", .int m.n), ("own", .ref lo), ("owed", .ref D), ("debts", .ref G), ("kept_whole", .int (m.ko.2 * m.kp.2)), ("kept_own", .int (m.ko.1 * m.kp.2))]) kA
        have oB := keep (fs' := [("unit", .int (unitOf (allFr m))), ("parties", .int m.n), ("own", .ref lo), ("owed", .ref D), ("debts", .ref G), ("kept_whole", .int (m.ko.2 * m.kp.2)), ("kept_own", .int (m.ko.1 * m.kp.2))]) oA pA
        have wB := keepR (fs' := [("unit", .int (unitOf (allFr m))), ("parties", .int m.n), ("own", .ref lo), ("owed", .ref D), ("debts", .ref G), ("kept_whole", .int (m.ko.2 * m.kp.2)), ("kept_own", .int (m.ko.1 * m.kp.2))]) wA pA
        have dB := keep (fs' := [("unit", .int (unitOf (allFr m))), ("parties", .int m.n), ("own", .ref lo), ("owed", .ref D), ("debts", .ref G), ("kept_whole", .int (m.ko.2 * m.kp.2)), ("kept_own", .int (m.ko.1 * m.kp.2))]) dA pA
        have pB : (upd HA p (.ins C dx [("unit", .int (unitOf (allFr m))), ("parties", .int m.n), ("own", .ref lo), ("owed", .ref D), ("debts", .ref G), ("kept_whole", .int (m.ko.2 * m.kp.2)), ("kept_own", .int (m.ko.1 * m.kp.2))])) p = some (.ins C dx [("unit", .int (unitOf (allFr m))), ("parties", .int m.n), ("own", .ref lo), ("owed", .ref D), ("debts", .ref G), ("kept_whole", .int (m.ko.2 * m.kp.2)), ("kept_own", .int (m.ko.1 * m.kp.2))]) := upd_same
        generalize hHB : upd HA p (.ins C dx [("unit", .int (unitOf (allFr m))), ("parties", .int m.n), ("own", .ref lo), ("owed", .ref D), ("debts", .ref G), ("kept_whole", .int (m.ko.2 * m.kp.2)), ("kept_own", .int (m.ko.1 * m.kp.2))]) = HB at kB pB oB wB dB ⊢
        have hB' := hh.mono kB
        -- kept_paid
        refine ⟨_, rfl, a, CH, hx, _, _, rfl, hB'.obj, TH.cl, TH.nKp, hF_kp _ _ _ _ _, _, _, _, _, rfl, rfl, SqT.of hB'.kp, atI_nat (j := 0) rfl, _, rfl, a, CH, hx, _, _, rfl, hB'.obj, TH.cl, TH.nKo, hF_ko _ _ _ _ _, _, _, _, _, rfl, rfl, SqT.of hB'.ko, atI_nat (j := 1) rfl, _, _, rfl, rfl, ma _ _ (by omega) (by omega), ?_⟩
        refine ⟨_, rfl, p, C, dx, _, rfl, pB, T.cl, T.nKp, (by show 7 < 1000; decide), ?_⟩
        have e := sheetF_mk (sheetOf m) lo D G
        have e' : putF "kept_paid" (.int ((m.kp.1 : Int) * (m.ko.2 : Int))) [("unit", V.int (unitOf (allFr m))), ("parties", .int m.n), ("own", .ref lo), ("owed", .ref D), ("debts", .ref G), ("kept_whole", .int (m.ko.2 * m.kp.2)), ("kept_own", .int (m.ko.1 * m.kp.2))] = sheetF (sheetOf m) lo D G := e
        rw [e']
        have gB : HB D = some (.lst (qs.map V.ref)) := by
          rw [← hHB, ← hHA, ← hH9]
          exact keep (keep (keep (s8 _ _ g1) p8) (hH9 ▸ p9)) (by rw [hH9, hHA]; exact pA)
        have nG : ∀ {b : Addr} {o : HO}, H7 b = some o → b ≠ G := fun e1 => ne_of_none e1 hG
        refine q _ (upd0 kB) ⟨dx, lo, D, G, qs, ⟨upd_same, keep oB pB, keepR wB pB, keep dB pB⟩, p0, k3.free nlo, k5.free hD, k7.free hG, keep gB pB, nG o7, loq, fun hq => ?_⟩
        obtain ⟨k, hk, e1⟩ := List.getElem_of_mem hq
        have e2 := g3 k (by omega)
        rw [getD_lt hk, e1] at e2
        exact nG e2 rfl
end
end Wq

/-! The house and its sheet against the specification's system. -/
namespace Wq
open Wp
open Co08 (System ownOf debt total share payOf paid means rest can paysWith ratio)
def rat (q : Fr) : Rat := (q.1 : Rat) / (q.2 : Rat)
def sysOf (m : HouseM) : System := ⟨m.own.map rat, m.owed.map (fun r => r.map rat), rat m.ko, rat m.kp⟩

theorem natR {a b : Nat} (h : a ≤ b) : (a : Rat) ≤ (b : Rat) := by exact_mod_cast h
theorem natR0 (a : Nat) : (0 : Rat) ≤ (a : Rat) := by exact_mod_cast Nat.zero_le a
theorem natRpos {a : Nat} (h : 0 < a) : (0 : Rat) < (a : Rat) := by exact_mod_cast h
theorem rat0 (q : Fr) : 0 ≤ rat q := by
  unfold rat
  rcases Nat.eq_zero_or_pos q.2 with h | h
  · rw [h]
    have : ((0 : Nat) : Rat) = 0 := rfl
    rw [this]; grind
  · rw [Rat.div_def]
    exact Rat.mul_nonneg (natR0 _) (Rat.le_of_lt (Rat.inv_pos.2 (natRpos h)))
theorem rat1 {q : Fr} (h0 : 0 < q.2) (h : q.1 ≤ q.2) : rat q ≤ 1 := by
  unfold rat
  have h1 := natRpos h0
  have h2 := natR h
  have h3 : (q.1 : Rat) / (q.2 : Rat) * (q.2 : Rat) = q.1 := by grind
  refine Rat.not_lt.1 (fun h4 => ?_)
  have h5 : 0 < ((q.1 : Rat) / (q.2 : Rat) - 1) * (q.2 : Rat) := Rat.mul_pos (by grind) h1
  grind
theorem rat_zero {q : Fr} (h : q.1 = 0) : rat q = 0 := by
  unfold rat; rw [h]
  have : ((0 : Nat) : Rat) = 0 := rfl
  rw [this]; grind
theorem castI (a : Nat) : (((a : Nat) : Int) : Rat) = (a : Rat) := rfl
/-- a fraction in units -/
theorem unit_rat {q : Fr} {u : Nat} (h0 : 0 < q.2) (h : q.2 ∣ u) : (((q.1 * (u / q.2) : Nat) : Int) : Rat) = (u : Rat) * rat q := by
  obtain ⟨k, rfl⟩ := h
  rw [castI, Nat.mul_div_cancel_left k h0, Rat.natCast_mul, Rat.natCast_mul]
  unfold rat
  have h1 : (q.2 : Rat) ≠ 0 := by have := natRpos h0; grind
  grind

section
variable {m : HouseM} (ok : HouseOk m)
include ok
theorem HouseOk.ownOf_eq {i : Nat} (hi : i < m.n) : ownOf (sysOf m) i = rat (m.own.getD i (0, 1)) := by
  show (m.own.map rat).getD i 0 = _
  rw [getD_map _ _ _ _ (0, 1) (by rw [ok.nOwn]; exact hi)]
theorem HouseOk.debt_eq {i j : Nat} (hi : i < m.n) (hj : j < m.n) : debt (sysOf m) i j = rat ((m.owed.getD i []).getD j (0, 1)) := by
  show ((m.owed.map (fun r => r.map rat)).getD i []).getD j 0 = _
  rw [getD_map _ _ _ _ [] (by rw [ok.nOwed]; exact hi), getD_map _ _ _ _ (0, 1) (by rw [ok.nRow i hi]; exact hj)]
theorem HouseOk.debt_out {i j : Nat} (h : ¬ (i < m.n ∧ j < m.n)) : debt (sysOf m) i j = 0 := by
  show ((m.owed.map (fun r => r.map rat)).getD i []).getD j 0 = 0
  by_cases hi : i < m.n
  · rw [getD_map _ _ _ _ [] (by rw [ok.nOwed]; exact hi)]
    exact getD_out (by rw [List.length_map, ok.nRow i hi]; omega)
  · rw [getD_out (l := m.owed.map (fun r => r.map rat)) (by rw [List.length_map, ok.nOwed]; omega)]
    rfl
theorem HouseOk.good : Good (sysOf m) m.n where
  nOwn := by show (m.own.map rat).length = m.n; rw [List.length_map, ok.nOwn]
  nOwes := by show (m.owed.map (fun r => r.map rat)).length = m.n; rw [List.length_map, ok.nOwed]
  rows := fun i hi => by
    show ((m.owed.map (fun r => r.map rat)).getD i []).length = m.n
    rw [getD_map _ _ _ _ [] (by rw [ok.nOwed]; exact hi), List.length_map, ok.nRow i hi]
  own0 := fun i => by
    by_cases hi : i < m.n
    · rw [ok.ownOf_eq hi]; exact rat0 _
    · have : ownOf (sysOf m) i = 0 := getD_out (by show (m.own.map rat).length ≤ i; rw [List.length_map, ok.nOwn]; omega)
      rw [this]; grind
  debt0 := fun i j => by
    by_cases h : i < m.n ∧ j < m.n
    · rw [ok.debt_eq h.1 h.2]; exact rat0 _
    · rw [ok.debt_out h]; grind
  diag := fun i => by
    by_cases h : i < m.n
    · rw [ok.debt_eq h h]; exact rat_zero (ok.diag i h)
    · exact ok.debt_out (fun c => h c.1)
  ko0 := rat0 _
  ko1 := rat1 ok.ko.1 ok.ko.2.1
  kp0 := rat0 _
  kp1 := rat1 ok.kp.1 ok.kp.2.1

theorem HouseOk.mem_own {i : Nat} (hi : i < m.n) : m.own.getD i (0, 1) ∈ allFr m := by
  unfold allFr
  rw [List.mem_flatten]
  refine ⟨m.own, List.mem_cons_self .., ?_⟩
  rw [getD_lt (by rw [ok.nOwn]; exact hi)]
  exact List.getElem_mem _
theorem HouseOk.mem_owed {i j : Nat} (hi : i < m.n) (hj : j < m.n) : (m.owed.getD i []).getD j (0, 1) ∈ allFr m := by
  unfold allFr
  rw [List.mem_flatten]
  refine ⟨m.owed.getD i [], List.mem_cons_of_mem _ ?_, ?_⟩
  · rw [getD_lt (by rw [ok.nOwed]; exact hi)]
    exact List.getElem_mem _
  · rw [getD_lt (l := m.owed.getD i []) (by rw [ok.nRow i hi]; exact hj)]
    exact List.getElem_mem _
/-- the unit as a fraction -/
theorem HouseOk.unit0 : 0 < unitOf (allFr m) := unitOf_pos _ (fun q hq => (ok.den q hq).1)
theorem HouseOk.own_unit {i : Nat} (hi : i < m.n) : (((sheetOf m).own.getD i 0 : Int) : Rat) = (unitOf (allFr m) : Rat) * ownOf (sysOf m) i := by
  show ((((inUnits m.own (unitOf (allFr m)))).getD i 0 : Int) : Rat) = _
  unfold inUnits
  rw [getD_map _ _ _ _ (0, 1) (by rw [ok.nOwn]; exact hi), ok.ownOf_eq hi]
  exact unit_rat (ok.den _ (ok.mem_own hi)).1 (unitOf_dvd _ _ (ok.mem_own hi))
theorem HouseOk.owed_unit {i j : Nat} (hi : i < m.n) (hj : j < m.n) : ((at2 (sheetOf m).owed i j : Int) : Rat) = (unitOf (allFr m) : Rat) * debt (sysOf m) i j := by
  show (((((m.owed.map fun r => inUnits r (unitOf (allFr m)))).getD i []).getD j 0 : Int) : Rat) = _
  rw [getD_map _ _ _ _ [] (by rw [ok.nOwed]; exact hi)]
  unfold inUnits
  rw [getD_map _ _ _ _ (0, 1) (by rw [ok.nRow i hi]; exact hj), ok.debt_eq hi hj]
  exact unit_rat (ok.den _ (ok.mem_owed hi hj)).1 (unitOf_dvd _ _ (ok.mem_owed hi hj))
end
theorem sum_cast (f : Nat → Int) : ∀ n, ((((List.range n).map f).sum : Int) : Rat) = sm (fun i => ((f i : Int) : Rat)) n
  | 0 => rfl
  | n + 1 => by
    rw [List.range_succ, List.map_append, List.sum_append]
    simp only [List.map, List.sum_cons, List.sum_nil, sm]
    rw [Rat.intCast_add, sum_cast f n]
    simp
theorem sum_getD (l : List Int) : l.sum = ((List.range l.length).map fun i => l.getD i 0).sum := by
  have e : (List.range l.length).map (fun i => l.getD i 0) = l.map id := range_map_getD l 0 id
  rw [e, List.map_id]
section
variable {m : HouseM} (ok : HouseOk m)
include ok
theorem HouseOk.debts_unit {i : Nat} (hi : i < m.n) : (((sheetOf m).debts.getD i 0 : Int) : Rat) = (unitOf (allFr m) : Rat) * total (sysOf m) i := by
  show ((((m.owed.map fun r => (inUnits r (unitOf (allFr m))).sum)).getD i 0 : Int) : Rat) = _
  rw [getD_map _ _ _ _ [] (by rw [ok.nOwed]; exact hi), sum_getD, sum_cast, ok.good.total_eq, ← sm_mul]
  have el : (inUnits (m.owed.getD i []) (unitOf (allFr m))).length = m.n := by unfold inUnits; rw [List.length_map, ok.nRow i hi]
  rw [el]
  refine sm_congr m.n (fun j hj => ?_)
  have := ok.owed_unit hi hj
  rw [← this]
  show _ = (((((m.owed.map fun r => inUnits r (unitOf (allFr m)))).getD i []).getD j 0 : Int) : Rat)
  rw [getD_map _ _ _ _ [] (by rw [ok.nOwed]; exact hi)]
theorem HouseOk.kw_ko : (((sheetOf m).ko : Int) : Rat) = ((sheetOf m).kw : Rat) * (sysOf m).keptOwn := by
  show (((m.ko.1 * m.kp.2 : Int)) : Rat) = ((m.ko.2 * m.kp.2 : Int) : Rat) * rat m.ko
  rw [Rat.intCast_mul, Rat.intCast_mul]
  simp only [castI]
  unfold rat
  have h1 : (m.ko.2 : Rat) ≠ 0 := by have := natRpos ok.ko.1; grind
  grind
theorem HouseOk.kw_kp : (((sheetOf m).kp : Int) : Rat) = ((sheetOf m).kw : Rat) * (sysOf m).keptPaid := by
  show (((m.kp.1 * m.ko.2 : Int)) : Rat) = ((m.ko.2 * m.kp.2 : Int) : Rat) * rat m.kp
  rw [Rat.intCast_mul, Rat.intCast_mul]
  simp only [castI]
  unfold rat
  have h1 : (m.kp.2 : Rat) ≠ 0 := by have := natRpos ok.kp.1; grind
  grind
theorem HouseOk.kw0 : 0 < (sheetOf m).kw := by
  show (0 : Int) < (m.ko.2 : Int) * (m.kp.2 : Int)
  exact Int.mul_pos (by have := ok.ko.1; omega) (by have := ok.kp.1; omega)
theorem unit_lt : unitOf (allFr m) < 2 ^ 1196 := Nat.lt_of_le_of_lt (Nat.le_trans (unitOf_le _) ok.prod) (by decide +kernel)
theorem units_le {q : Fr} (hq : q ∈ allFr m) : q.1 * (unitOf (allFr m) / q.2) < 2 ^ 1216 := by
  have h1 := (ok.den q hq).2.1
  have h2 : unitOf (allFr m) / q.2 < 2 ^ 1196 := Nat.lt_of_le_of_lt (Nat.div_le_self _ _) (unit_lt ok)
  have e : (2 : Nat) ^ 1216 = 2 ^ 20 * 2 ^ 1196 := by rw [← Nat.pow_add]
  rw [e]
  exact Nat.mul_lt_mul'' (Nat.lt_of_le_of_lt h1 (by decide)) h2
theorem HouseOk.sheetOk : SheetOk (sheetOf m) where
  n8 := ok.n8
  nOwn := by show (inUnits m.own _).length = m.n; unfold inUnits; rw [List.length_map, ok.nOwn]
  nOwed := by show (m.owed.map _).length = m.n; rw [List.length_map, ok.nOwed]
  nRow := fun i hi => by
    have hi : i < m.n := hi
    show ((m.owed.map fun r => inUnits r (unitOf (allFr m))).getD i []).length = m.n
    rw [getD_map _ _ _ _ [] (by rw [ok.nOwed]; exact hi)]
    unfold inUnits
    rw [List.length_map, ok.nRow i hi]
  nDebts := by show (m.owed.map _).length = m.n; rw [List.length_map, ok.nOwed]
  unit0 := by show (0 : Int) < (unitOf (allFr m) : Int); have := ok.unit0; omega
  kw0 := ok.kw0
  bUnit := by
    show ((unitOf (allFr m) : Int)).natAbs < 2 ^ 1220
    exact Nat.lt_of_lt_of_le (unit_lt ok) (Nat.pow_le_pow_right (by decide) (by decide))
  bOwn := fun i => by
    show ((inUnits m.own (unitOf (allFr m))).getD i 0).natAbs < 2 ^ 1219
    by_cases hi : i < m.n
    · unfold inUnits
      rw [getD_map _ _ _ _ (0, 1) (by rw [ok.nOwn]; exact hi)]
      exact Nat.lt_of_lt_of_le (units_le ok (ok.mem_own hi)) (Nat.pow_le_pow_right (by decide) (by decide))
    · rw [getD_out (by unfold inUnits; rw [List.length_map, ok.nOwn]; omega)]
      exact Nat.two_pow_pos _
  bOwed := fun i j => by
    show (((m.owed.map fun r => inUnits r (unitOf (allFr m))).getD i []).getD j 0).natAbs < 2 ^ 1219
    by_cases hi : i < m.n
    · rw [getD_map _ _ _ _ [] (by rw [ok.nOwed]; exact hi)]
      by_cases hj : j < m.n
      · unfold inUnits
        rw [getD_map _ _ _ _ (0, 1) (by rw [ok.nRow i hi]; exact hj)]
        exact Nat.lt_of_lt_of_le (units_le ok (ok.mem_owed hi hj)) (Nat.pow_le_pow_right (by decide) (by decide))
      · rw [getD_out (by unfold inUnits; rw [List.length_map, ok.nRow i hi]; omega)]
        exact Nat.two_pow_pos _
    · rw [getD_out (l := m.owed.map _) (by rw [List.length_map, ok.nOwed]; omega)]
      exact Nat.two_pow_pos _
  bDebts := fun i => by
    show ((m.owed.map fun r => (inUnits r (unitOf (allFr m))).sum).getD i 0).natAbs < 2 ^ 1219
    by_cases hi : i < m.n
    · rw [getD_map _ _ _ _ [] (by rw [ok.nOwed]; exact hi)]
      -- the party itself is owed nothing
      have hb : ∀ x ∈ inUnits (m.owed.getD i []) (unitOf (allFr m)), x.natAbs < 2 ^ 1216 := fun x hx => by
        unfold inUnits at hx
        obtain ⟨q, hq, e⟩ := List.mem_map.1 hx
        rw [← e]
        refine units_le ok ?_
        unfold allFr
        rw [List.mem_flatten]
        exact ⟨m.owed.getD i [], List.mem_cons_of_mem _ (by rw [getD_lt (by rw [ok.nOwed]; exact hi)]; exact List.getElem_mem _), hq⟩
      have hz : (inUnits (m.owed.getD i []) (unitOf (allFr m))).sum.natAbs < 8 * 2 ^ 1216 := by
        have el : (inUnits (m.owed.getD i []) (unitOf (allFr m))).length = m.n := by unfold inUnits; rw [List.length_map, ok.nRow i hi]
        have h1 : ∀ l : List Int, l ≠ [] → (∀ x ∈ l, x.natAbs < 2 ^ 1216) → l.sum.natAbs < l.length * 2 ^ 1216 := by
          intro l hne hl
          cases l with
          | nil => exact absurd rfl hne
          | cons x r =>
            have h2 := sum_bits r (fun y hy => hl y (List.mem_cons_of_mem _ hy))
            have h3 := hl x (List.mem_cons_self ..)
            have h4 := Int.natAbs_add_le x r.sum
            rw [List.sum_cons, List.length_cons, Nat.add_mul, Nat.one_mul]
            generalize r.length * 2 ^ 1216 = y at *
            generalize 2 ^ 1216 = z at *
            omega
        refine Nat.lt_of_lt_of_le (h1 _ (by intro e; rw [e] at el; have := ok.n1; simp at el; omega) hb) ?_
        rw [el]
        exact Nat.mul_le_mul_right _ ok.n8
      refine Nat.lt_of_lt_of_le hz (Nat.le_of_eq ?_)
      have e : (2 : Nat) ^ 1219 = 2 ^ 3 * 2 ^ 1216 := by rw [← Nat.pow_add]
      rw [e]
    · rw [getD_out (by rw [List.length_map, ok.nOwed]; omega)]
      exact Nat.two_pow_pos _
  bKw := by
    show ((m.ko.2 : Int) * (m.kp.2 : Int)).natAbs < 2 ^ 40
    exact bits_mul (a := 20) (b := 20) (Nat.lt_of_le_of_lt ok.ko.2.2 (by decide)) (Nat.lt_of_le_of_lt ok.kp.2.2 (by decide))
  bKo := by
    show ((m.ko.1 : Int) * (m.kp.2 : Int)).natAbs < 2 ^ 40
    exact bits_mul (a := 20) (b := 20) (Nat.lt_of_le_of_lt (Nat.le_trans ok.ko.2.1 ok.ko.2.2) (by decide)) (Nat.lt_of_le_of_lt ok.kp.2.2 (by decide))
  bKp := by
    show ((m.kp.1 : Int) * (m.ko.2 : Int)).natAbs < 2 ^ 40
    exact bits_mul (a := 20) (b := 20) (Nat.lt_of_le_of_lt (Nat.le_trans ok.kp.2.1 ok.kp.2.2) (by decide)) (Nat.lt_of_le_of_lt ok.ko.2.2 (by decide))
end
end Wq

/-! The program's equations and payments against the specification's. -/
namespace Wq
open Wp
open Co08 (System ownOf debt total share payOf paid means rest can paysWith ratio equity)
def eqRow (s : SheetM) (fell : List Int) (i : Nat) : List Int :=
  if fell.getD i 0 = 0 then ((List.range s.n).map fun j => if j = i then (1 : Int) else 0) ++ [1]
  else (((List.range s.n).map fun j => 0 - s.kp * at2 s.owed j i).set i (s.kw * s.debts.getD i 0)) ++ [s.ko * s.own.getD i 0]
def eqRows (s : SheetM) (fell : List Int) : List (List Int) := (List.range s.n).map (eqRow s fell)
def isF (fell : List Int) : List Bool := fell.map fun x => x != 0
abbrev fF (fell : List Int) : Nat → Bool := fun j => fell.getD j 0 != 0
theorem isF_getD (fell : List Int) (j : Nat) : (isF fell).getD j false = (fell.getD j 0 != 0) := by
  unfold isF
  by_cases h : j < fell.length
  · rw [getD_map _ _ _ _ 0 h]
  · rw [getD_out (by rw [List.length_map]; omega), getD_out (l := fell) (by omega)]; rfl
theorem byL_isF (fell : List Int) : byL (isF fell) = fF fell := by
  funext j; exact isF_getD fell j
theorem eqRow_len (s : SheetM) (fell : List Int) (i : Nat) : (eqRow s fell i).length = s.n + 1 := by
  unfold eqRow
  split <;> simp
theorem eqRows_shp (s : SheetM) (fell : List Int) : ShpI s.n (s.n + 1) (eqRows s fell) := by
  refine ⟨by simp [eqRows], fun i hi => ?_⟩
  unfold eqRows
  rw [getD_map_range, if_pos hi, eqRow_len]
theorem eqRows_at (s : SheetM) (fell : List Int) {i : Nat} (hi : i < s.n) (c : Nat) : at2 (eqRows s fell) i c = (eqRow s fell i).getD c 0 := by
  unfold at2 eqRows
  rw [getD_map_range, if_pos hi]
theorem eqRow_at (s : SheetM) (fell : List Int) {i c : Nat} (hi : i < s.n) (hc : c < s.n) : (eqRow s fell i).getD c 0 = if fell.getD i 0 = 0 then (if c = i then 1 else 0) else if c = i then s.kw * s.debts.getD i 0 else 0 - s.kp * at2 s.owed c i := by
  unfold eqRow
  split
  · rw [getD_snoc, if_pos (by simpa using hc), getD_map_range, if_pos hc]
  · rw [getD_snoc, if_pos (by simpa using hc), getD_set]
    by_cases e : c = i
    · subst e; rw [if_pos ⟨rfl, by simpa using hi⟩, if_pos rfl]
    · rw [if_neg (fun h => e h.1.symm), if_neg e, getD_map_range, if_pos hc]
theorem eqRow_last (s : SheetM) (fell : List Int) {i : Nat} : (eqRow s fell i).getD s.n 0 = if fell.getD i 0 = 0 then 1 else s.ko * s.own.getD i 0 := by
  unfold eqRow
  split
  · rw [getD_snoc, if_neg (by simp), if_pos (by simp)]
  · rw [getD_snoc, if_neg (by simp), if_pos (by simp)]
theorem eqRow_bits {s : SheetM} (so : SheetOk s) (fell : List Int) (i c : Nat) : (at2 (eqRows s fell) i c).natAbs ≤ 2 ^ 1259 := by
  have two : ∀ b, (1 : Nat) ≤ 2 ^ b := fun b => Nat.one_le_two_pow
  have up9 : ∀ {x : Int} {b : Nat}, x.natAbs < 2 ^ b → b ≤ 1259 → x.natAbs ≤ 2 ^ 1259 := fun h hb => Nat.le_of_lt (Nat.lt_of_lt_of_le h (Nat.pow_le_pow_right (by decide) hb))
  by_cases hi : i < s.n
  · rw [eqRows_at s fell hi]
    by_cases hc : c < s.n
    · rw [eqRow_at s fell hi hc]
      split
      · split
        · exact two _
        · exact Nat.zero_le _
      · split
        · exact up9 (bits_mul so.bKw (so.bDebts i)) (by decide)
        · rw [Int.zero_sub, Int.natAbs_neg]
          exact up9 (bits_mul so.bKp (so.bOwed c i)) (by decide)
    · by_cases e : c = s.n
      · subst e
        rw [eqRow_last]
        split
        · exact two _
        · exact up9 (bits_mul so.bKo (so.bOwn i)) (by decide)
      · rw [getD_out (by rw [eqRow_len]; omega)]
        exact Nat.zero_le _
  · unfold at2
    rw [getD_out (l := eqRows s fell) (by simp [eqRows]; omega)]
    exact Nat.zero_le _
section
variable {m : HouseM} (ok : HouseOk m)
include ok
theorem HouseOk.matrix (fell : List Int) : Matrix (sysOf m) m.n (fF fell) ((unitOf (allFr m) : Rat) * (((sheetOf m).kw : Int) : Rat)) (vecs (eqRows (sheetOf m) fell)) where
  scale := by
    have h1 := natRpos ok.unit0
    have h2 : (0 : Rat) < (((sheetOf m).kw : Int) : Rat) := by have := ok.kw0; exact_mod_cast this
    exact Rat.mul_pos h1 h2
  fell := fun j hj hF c hc => by
    have hF : (fell.getD j 0 != 0) = true := hF
    have h0 : ¬ fell.getD j 0 = 0 := by simpa using hF
    show ((at2 (eqRows (sheetOf m) fell) j c : Int) : Rat) = _
    rw [eqRows_at _ _ hj, eqRow_at _ _ hj hc, if_neg h0]
    by_cases e : c = j
    · subst e
      rw [if_pos rfl, if_pos rfl, Rat.intCast_mul, ok.debts_unit hc]
      grind
    · rw [if_neg e, if_neg e, Int.zero_sub, Rat.intCast_neg, Rat.intCast_mul, ok.kw_kp, ok.owed_unit hc hj]
      grind
  fellR := fun j hj hF => by
    have hF : (fell.getD j 0 != 0) = true := hF
    have h0 : ¬ fell.getD j 0 = 0 := by simpa using hF
    show ((at2 (eqRows (sheetOf m) fell) j (sheetOf m).n : Int) : Rat) = _
    rw [eqRows_at _ _ hj, eqRow_last, if_neg h0, Rat.intCast_mul, ok.kw_ko, ok.own_unit hj]
    grind
  stay := fun j hj hF c hc => by
    have hF : (fell.getD j 0 != 0) = false := hF
    have h0 : fell.getD j 0 = 0 := by simpa using hF
    show ((at2 (eqRows (sheetOf m) fell) j c : Int) : Rat) = _
    rw [eqRows_at _ _ hj, eqRow_at _ _ hj hc, if_pos h0]
    split <;> rfl
  stayR := fun j hj hF => by
    have hF : (fell.getD j 0 != 0) = false := hF
    have h0 : fell.getD j 0 = 0 := by simpa using hF
    show ((at2 (eqRows (sheetOf m) fell) j (sheetOf m).n : Int) : Rat) = _
    rw [eqRows_at _ _ hj, eqRow_last, if_pos h0]
    rfl
end
/-- the payments that the program makes after these fell -/
def payAfter (s : SheetM) (fell : List Int) : PayM where
  below := (solve (eqRows s fell)).getD 0 0
  above := (solve (eqRows s fell)).drop 1
  fell := fell
/-- the program's payments are those of the specification -/
structure PayRel (m : HouseM) (P : List Rat) (p : PayM) : Prop where
  ok : PayOk (sheetOf m) p
  rel : ∀ i, i < m.n → ((p.above.getD i 0 : Int) : Rat) * total (sysOf m) i = ((p.below : Int) : Rat) * payOf P i
section
variable {m : HouseM} (ok : HouseOk m)
include ok
theorem HouseOk.elim {fell : List Int} (hn : NC (sysOf m) m.n (fF fell)) (hO : Owing (sysOf m) m.n (fF fell)) : ∀ k, k ≤ m.n → Elim m.n (eqRows (sheetOf m) fell) k :=
  elim_all (eqRows_shp (sheetOf m) fell) (fun k hk p hpr => ok.good.pivot hn hO (ok.matrix fell) hk hpr)
theorem HouseOk.payRel {fell : List Int} (hl : fell.length = m.n) (hn : NC (sysOf m) m.n (fF fell)) (hO : Owing (sysOf m) m.n (fF fell)) :
    PayRel m (paysWith (sysOf m) (isF fell)) (payAfter (sheetOf m) fell) := by
  have sol := (ok.good.pays_ok (isF fell) (by rw [byL_isF]; exact hn)).2
  rw [byL_isF] at sol
  obtain ⟨b, xs, e, h1, h2, h3⟩ := ok.good.solve_ok hn hO (eqRows_shp (sheetOf m) fell) (ok.matrix fell) sol
  have el := ok.elim hn hO
  have en := el m.n (Nat.le_refl _)
  have hlen : (eqRows (sheetOf m) fell).length = m.n := (eqRows_shp (sheetOf m) fell).len
  have eb : b = (elimTo (eqRows (sheetOf m) fell) m.n).2 := by
    unfold solve at e; rw [hlen] at e; exact (List.cons.inj e).1.symm
  have ex : xs = (elimTo (eqRows (sheetOf m) fell) m.n).1.map fun r => r.getD m.n 0 := by
    unfold solve at e; rw [hlen] at e; exact (List.cons.inj e).2.symm
  have n8 := ok.n8
  have bd := eqRow_bits ok.sheetOk fell
  have pb : (payAfter (sheetOf m) fell).below = b := by unfold payAfter; rw [e]; rfl
  have pa : (payAfter (sheetOf m) fell).above = xs := by unfold payAfter; rw [e]; rfl
  refine ⟨⟨by rw [pb]; exact h2, by rw [pa]; exact h1, hl, ?_, ?_⟩, ?_⟩
  · rw [pb, eb]
    refine Nat.lt_of_le_of_lt (elim_before_bd en n8 bd) (Nat.pow_lt_pow_right (by decide) ?_)
    have : (1259 + 4) * m.n ≤ (1259 + 4) * 8 := Nat.mul_le_mul_left _ n8
    omega
  · intro i
    rw [pa]
    by_cases hi : i < m.n
    · rw [ex, getD_map _ _ _ _ [] (by rw [en.shp.len]; exact hi)]
      refine Nat.lt_of_le_of_lt (elim_bd en (Nat.le_refl _) n8 bd hi m.n) (Nat.pow_lt_pow_right (by decide) ?_)
      have : (1259 + 4) * (m.n + 1) ≤ (1259 + 4) * 9 := Nat.mul_le_mul_left _ (by omega)
      omega
    · rw [getD_out (by rw [h1]; omega)]
      exact Nat.two_pow_pos _
  · intro i hi
    rw [pa, pb]
    exact h3 i hi
/-! what is reckoned from them -/
theorem HouseOk.scale {P : List Rat} {p : PayM} (r : PayRel m P p) : (0 : Rat) < (unitOf (allFr m) : Rat) * ((p.below : Int) : Rat) := by
  have h1 := natRpos ok.unit0
  have h2 : (0 : Rat) < ((p.below : Int) : Rat) := by have := r.ok.below0; exact_mod_cast this
  exact Rat.mul_pos h1 h2
theorem HouseOk.paidTo_rel {P : List Rat} {p : PayM} (r : PayRel m P p) {i : Nat} (hi : i < m.n) : ((paidTo (sheetOf m) p i : Int) : Rat) = (unitOf (allFr m) : Rat) * ((p.below : Int) : Rat) * paid (sysOf m) P i := by
  unfold paidTo
  rw [sum_cast, ok.good.paid_eq, ← sm_mul]
  refine sm_congr m.n (fun j hj => ?_)
  rw [Rat.intCast_mul, ok.owed_unit hj hi]
  have h1 := r.rel j hj
  have h2 := ok.good.share_mul j i hi
  rw [← h2]
  grind
theorem HouseOk.means_rel {P : List Rat} {p : PayM} (r : PayRel m P p) {i : Nat} (hi : i < m.n) : ((meansM (sheetOf m) p i : Int) : Rat) = (unitOf (allFr m) : Rat) * ((p.below : Int) : Rat) * means (sysOf m) P i := by
  unfold meansM means
  rw [Rat.intCast_add, Rat.intCast_mul, ok.own_unit hi, ok.paidTo_rel r hi]
  grind
theorem HouseOk.surplus_rel {P : List Rat} {p : PayM} (r : PayRel m P p) {i : Nat} (hi : i < m.n) : ((surplusM (sheetOf m) p i : Int) : Rat) = (unitOf (allFr m) : Rat) * ((p.below : Int) : Rat) * (means (sysOf m) P i - total (sysOf m) i) := by
  unfold surplusM
  rw [Rat.intCast_sub, Rat.intCast_mul, ok.debts_unit hi, ok.means_rel r hi]
  grind
theorem pos_mul_nonneg {s x : Rat} (hs : 0 < s) : 0 ≤ s * x ↔ 0 ≤ x := by
  constructor
  · intro h
    refine Rat.not_lt.1 (fun h2 => ?_)
    have : 0 < s * (-x) := Rat.mul_pos hs (by grind)
    grind
  · intro h; exact Rat.mul_nonneg (Rat.le_of_lt hs) h
theorem HouseOk.can_rel {P : List Rat} {p : PayM} (r : PayRel m P p) {i : Nat} (hi : i < m.n) : canM (sheetOf m) p i = can (sysOf m) P i := by
  unfold canM can
  have h := ok.surplus_rel r hi
  have hs := ok.scale r
  have e1 : (0 ≤ surplusM (sheetOf m) p i) ↔ (0 : Rat) ≤ ((surplusM (sheetOf m) p i : Int) : Rat) := by
    constructor
    · intro h; exact_mod_cast h
    · intro h; exact_mod_cast h
  have e2 : (0 ≤ surplusM (sheetOf m) p i) ↔ (total (sysOf m) i ≤ means (sysOf m) P i) := by
    rw [e1, h, pos_mul_nonneg ok hs]
    constructor <;> intro h <;> grind
  exact decide_eq_decide.2 e2
theorem HouseOk.kept_rel {P : List Rat} {p : PayM} (r : PayRel m P p) {i : Nat} (hi : i < m.n) : keptM (sheetOf m) p i = decide (total (sysOf m) i ≤ rest (sysOf m) P i) := by
  unfold keptM
  have hs := ok.scale r
  have hk : (0 : Rat) < (((sheetOf m).kw : Int) : Rat) := by have := ok.kw0; exact_mod_cast this
  have e0 : (((sheetOf m).ko * (sheetOf m).own.getD i 0 * p.below + (sheetOf m).kp * paidTo (sheetOf m) p i - (sheetOf m).kw * (sheetOf m).debts.getD i 0 * p.below : Int) : Rat) =
      ((unitOf (allFr m) : Rat) * ((p.below : Int) : Rat) * (((sheetOf m).kw : Int) : Rat)) * (rest (sysOf m) P i - total (sysOf m) i) := by
    unfold rest
    rw [Rat.intCast_sub, Rat.intCast_add, Rat.intCast_mul, Rat.intCast_mul, Rat.intCast_mul, Rat.intCast_mul, Rat.intCast_mul, ok.paidTo_rel r hi, ok.kw_ko, ok.kw_kp, ok.own_unit hi, ok.debts_unit hi]
    grind
  refine decide_eq_decide.2 ?_
  have e1 : ((sheetOf m).kw * (sheetOf m).debts.getD i 0 * p.below ≤ (sheetOf m).ko * (sheetOf m).own.getD i 0 * p.below + (sheetOf m).kp * paidTo (sheetOf m) p i) ↔
      (0 : Rat) ≤ (((sheetOf m).ko * (sheetOf m).own.getD i 0 * p.below + (sheetOf m).kp * paidTo (sheetOf m) p i - (sheetOf m).kw * (sheetOf m).debts.getD i 0 * p.below : Int) : Rat) := by
    constructor
    · intro h
      have : 0 ≤ (sheetOf m).ko * (sheetOf m).own.getD i 0 * p.below + (sheetOf m).kp * paidTo (sheetOf m) p i - (sheetOf m).kw * (sheetOf m).debts.getD i 0 * p.below := by omega
      exact_mod_cast this
    · intro h
      have : 0 ≤ (sheetOf m).ko * (sheetOf m).own.getD i 0 * p.below + (sheetOf m).kp * paidTo (sheetOf m) p i - (sheetOf m).kw * (sheetOf m).debts.getD i 0 * p.below := by exact_mod_cast h
      omega
  rw [e1, e0, pos_mul_nonneg ok (Rat.mul_pos hs hk)]
  constructor <;> intro h <;> grind
end
end Wq

/-! Waves: the program's and the specification's. -/
namespace Wq
open Wp
open Co08 (System ownOf debt total share payOf paid means rest can paysWith ratio equity waves fallen capped rising)
abbrev Test := SheetM → PayM → Nat → Bool
def nextM (s : SheetM) (safe : Nat → Bool) (c : Test) (fell : List Int) (i : Nat) : Bool := (decide (fell.getD i 0 = 0) && !safe i) && !c s (payAfter s fell) i
def fallingM (s : SheetM) (safe : Nat → Bool) (c : Test) (fell : List Int) : List Nat := (List.range s.n).filter (nextM s safe c fell)
def fellNext (s : SheetM) (safe : Nat → Bool) (c : Test) (wave : Int) (fell : List Int) : List Int := (List.range s.n).map fun i => if nextM s safe c fell i = true then wave else fell.getD i 0
def sinkM (s : SheetM) (safe : Nat → Bool) (c : Test) : Nat → Int → List Int → List Int
  | 0, _, fell => fell
  | k + 1, wave, fell => if fallingM s safe c fell = [] then fell else sinkM s safe c k (wave + 1) (fellNext s safe c (wave + 1) fell)
def zeros (fell : List Int) : Nat := (fell.filter fun x => x == 0).length
def sinkAll (s : SheetM) (safe : Nat → Bool) (c : Test) : List Int := sinkM s safe c (s.n + 1) 0 (List.replicate s.n 0)

theorem falling_nil {s : SheetM} {safe : Nat → Bool} {c : Test} {fell : List Int} : fallingM s safe c fell = [] ↔ ∀ i, i < s.n → nextM s safe c fell i = false := by
  unfold fallingM
  rw [List.filter_eq_nil_iff]
  constructor
  · intro h i hi
    simpa using h i (List.mem_range.2 hi)
  · intro h i hi
    simpa using h i (List.mem_range.1 hi)
theorem fellNext_len (s : SheetM) (safe : Nat → Bool) (c : Test) (wave : Int) (fell : List Int) : (fellNext s safe c wave fell).length = s.n := by simp [fellNext]
theorem fellNext_at {s : SheetM} {safe : Nat → Bool} {c : Test} {wave : Int} {fell : List Int} {i : Nat} (hi : i < s.n) : (fellNext s safe c wave fell).getD i 0 = if nextM s safe c fell i = true then wave else fell.getD i 0 := by
  unfold fellNext; rw [getD_map_range, if_pos hi]
theorem nextM_zero {s : SheetM} {safe : Nat → Bool} {c : Test} {fell : List Int} {i : Nat} (h : nextM s safe c fell i = true) : fell.getD i 0 = 0 := by
  unfold nextM at h
  simp only [Bool.and_eq_true, decide_eq_true_eq] at h
  exact h.1.1

/-- counting over places -/
def cnt (f : Nat → Bool) : Nat → Nat
  | 0 => 0
  | n + 1 => cnt f n + (if f n = true then 1 else 0)
theorem cnt_le {f g : Nat → Bool} : ∀ n, (∀ i, i < n → f i = true → g i = true) → cnt f n ≤ cnt g n
  | 0, _ => Nat.le_refl _
  | n + 1, h => by
    have h1 := cnt_le n (fun i hi => h i (by omega))
    have h2 := h n (by omega)
    simp only [cnt]
    by_cases e : f n = true
    · rw [if_pos e, if_pos (h2 e)]; omega
    · rw [if_neg e]; omega
theorem cnt_lt {f g : Nat → Bool} : ∀ n, (∀ i, i < n → f i = true → g i = true) → (∃ i, i < n ∧ f i = false ∧ g i = true) → cnt f n < cnt g n
  | 0, _, ⟨i, hi, _⟩ => by omega
  | n + 1, h, ⟨i, hi, h1, h2⟩ => by
    simp only [cnt]
    by_cases e : i = n
    · subst e
      have h3 := cnt_le i (fun j hj => h j (by omega))
      rw [h1, h2]
      simp; omega
    · have h3 := cnt_lt n (fun j hj => h j (by omega)) ⟨i, by omega, h1, h2⟩
      have h4 := h n (by omega)
      by_cases e2 : f n = true
      · rw [if_pos e2, if_pos (h4 e2)]; omega
      · rw [if_neg e2]; omega
theorem cnt_bound (f : Nat → Bool) : ∀ n, cnt f n ≤ n
  | 0 => Nat.le_refl _
  | n + 1 => by
    have := cnt_bound f n
    simp only [cnt]
    split <;> omega
abbrev zer (fell : List Int) : Nat → Bool := fun i => decide (fell.getD i 0 = 0)
theorem zer_next {s : SheetM} {safe : Nat → Bool} {c : Test} {wave : Int} {fell : List Int} (hw : wave ≠ 0) (h : fallingM s safe c fell ≠ []) :
    cnt (zer (fellNext s safe c wave fell)) s.n < cnt (zer fell) s.n := by
  have h1 : ¬ ∀ i, i < s.n → nextM s safe c fell i = false := fun h2 => h (falling_nil.2 h2)
  have ⟨i, hi, hn⟩ : ∃ i, i < s.n ∧ nextM s safe c fell i = true := by
    refine Classical.byContradiction (fun h2 => h1 (fun i hi => ?_))
    cases e : nextM s safe c fell i with
    | false => rfl
    | true => exact absurd ⟨i, hi, e⟩ h2
  refine cnt_lt s.n (fun j hj e => ?_) ⟨i, hi, ?_, ?_⟩
  · simp only [decide_eq_true_eq] at e ⊢
    rw [fellNext_at hj] at e
    split at e
    · exact absurd e hw
    · exact e
  · simp only [decide_eq_false_iff_not]
    rw [fellNext_at hi, if_pos hn]; exact hw
  · simp only [decide_eq_true_eq]
    exact nextM_zero hn

/-- sinking under an invariant -/
theorem sink_inv {s : SheetM} {safe : Nat → Bool} {c : Test} (I : Int → List Int → Prop) (step : ∀ wave fell, I wave fell → fallingM s safe c fell ≠ [] → I (wave + 1) (fellNext s safe c (wave + 1) fell)) :
    ∀ k wave fell, I wave fell → 0 ≤ wave → cnt (zer fell) s.n < k → ∃ w', I w' (sinkM s safe c k wave fell) ∧ fallingM s safe c (sinkM s safe c k wave fell) = []
  | 0, _, _, _, _, h => by omega
  | k + 1, wave, fell, hI, hw, h => by
    unfold sinkM
    by_cases e : fallingM s safe c fell = []
    · rw [if_pos e]; exact ⟨wave, hI, e⟩
    · rw [if_neg e]
      have := zer_next (wave := wave + 1) (by omega) e
      exact sink_inv I step k (wave + 1) _ (step wave fell hI e) (by omega) (by omega)

/-- what must hold of those fallen so that the equations have one solution -/
structure Ready (m : HouseM) (fell : List Int) : Prop where
  len : fell.length = m.n
  nc : NC (sysOf m) m.n (fF fell)
  owing : Owing (sysOf m) m.n (fF fell)
abbrev paysOf (m : HouseM) (fell : List Int) : List Rat := paysWith (sysOf m) (isF fell)
section
variable {m : HouseM} (ok : HouseOk m)
include ok
theorem HouseOk.sol {fell : List Int} (r : Ready m fell) : Sol (sysOf m) m.n (fF fell) (paysOf m fell) := by
  have := (ok.good.pays_ok (isF fell) (by rw [byL_isF]; exact r.nc)).2
  rw [byL_isF] at this; exact this
theorem HouseOk.rel {fell : List Int} (r : Ready m fell) : PayRel m (paysOf m fell) (payAfter (sheetOf m) fell) := ok.payRel r.len r.nc r.owing
theorem HouseOk.nonneg {fell : List Int} (r : Ready m fell) : ∀ j, j < m.n → 0 ≤ payOf (paysOf m fell) j := ok.good.nonneg r.nc (ok.sol r)
omit ok in
theorem zeros_get (n i : Nat) : (List.replicate n (0 : Int)).getD i 0 = 0 := by
  by_cases h : i < n
  · rw [getD_lt (by simpa using h)]; simp
  · exact getD_out (by simp; omega)
omit ok in
theorem ready0 : Ready m (List.replicate m.n 0) where
  len := by simp
  nc := .inr (fun C hC ⟨i, hi⟩ => by
    have h := (hC i hi).2
    have h : ((List.replicate m.n (0 : Int)).getD i 0 != 0) = true := h
    rw [zeros_get] at h
    simp at h)
  owing := fun j hj h => by
    have h : ((List.replicate m.n (0 : Int)).getD j 0 != 0) = true := h
    rw [zeros_get] at h
    simp at h
/-- a wave more -/
theorem HouseOk.ready_next {safe : Nat → Bool} {c : Test} {wave : Int} {fell : List Int} (r : Ready m fell) (hw : wave ≠ 0)
    (hc : ∀ i, i < m.n → safe i = false → c (sheetOf m) (payAfter (sheetOf m) fell) i = false → rest (sysOf m) (paysOf m fell) i < total (sysOf m) i ∧ ((sysOf m).keptPaid < 1 ∨ means (sysOf m) (paysOf m fell) i < total (sysOf m) i)) :
    Ready m (fellNext (sheetOf m) safe c wave fell) := by
  have sol := ok.sol r
  have p0 := ok.nonneg r
  have hs : ∀ i, i < m.n → fF fell i = true → fF (fellNext (sheetOf m) safe c wave fell) i = true := by
    intro i hi h
    show (_ != _) = true
    rw [fellNext_at (s := sheetOf m) hi]
    split
    · simpa using hw
    · exact h
  have hnew : ∀ i, i < m.n → fF (fellNext (sheetOf m) safe c wave fell) i = true → fF fell i = false → rest (sysOf m) (paysOf m fell) i < total (sysOf m) i ∧ ((sysOf m).keptPaid < 1 ∨ means (sysOf m) (paysOf m fell) i < total (sysOf m) i) := by
    intro i hi h1 h2
    have h1 : ((fellNext (sheetOf m) safe c wave fell).getD i 0 != 0) = true := h1
    have h2 : (fell.getD i 0 != 0) = false := h2
    rw [fellNext_at (s := sheetOf m) hi] at h1
    split at h1
    · rename_i hn
      unfold nextM at hn
      simp only [Bool.and_eq_true, Bool.not_eq_true'] at hn
      exact hc i hi hn.1.2 hn.2
    · rw [h2] at h1; simp at h1
  have hO : Owing (sysOf m) m.n (fF (fellNext (sheetOf m) safe c wave fell)) := by
    intro j hj h
    cases e : fF fell j with
    | true => exact r.owing j hj e
    | false =>
      have h1 := (hnew j hj h e).1
      have h2 : 0 ≤ rest (sysOf m) (paysOf m fell) j := by
        unfold rest
        have h3 := Rat.mul_nonneg ok.good.ko0 (ok.good.own0 j)
        have h4 := Rat.mul_nonneg ok.good.kp0 (ok.good.paid0 p0 j)
        grind
      grind
  refine ⟨fellNext_len _ _ _ _ _, ?_, hO⟩
  rcases Rat.le_iff_lt_or_eq.1 ok.good.kp1 with hk | hk
  · exact .inl hk
  · exact ok.good.wave r.nc hO sol hs (fun i hi h1 h2 => by
      rcases (hnew i hi h1 h2).2 with h | h
      · rw [hk] at h; exact absurd h (by decide +kernel)
      · exact h)
theorem HouseOk.ready_can {safe : Nat → Bool} {wave : Int} {fell : List Int} (r : Ready m fell) (hw : wave ≠ 0) : Ready m (fellNext (sheetOf m) safe canM wave fell) :=
  ok.ready_next r hw (fun i hi _ h => by
    rw [ok.can_rel (ok.rel r) hi] at h
    unfold can at h
    have h1 : means (sysOf m) (paysOf m fell) i < total (sysOf m) i := Rat.not_le.1 (of_decide_eq_false h)
    have h2 := ok.good.rest_le_means (ok.nonneg r) i
    exact ⟨by grind, .inr h1⟩)
theorem HouseOk.ready_kept (hk : (sysOf m).keptPaid < 1) {safe : Nat → Bool} {wave : Int} {fell : List Int} (r : Ready m fell) (hw : wave ≠ 0) : Ready m (fellNext (sheetOf m) safe keptM wave fell) :=
  ok.ready_next r hw (fun i hi _ h => by
    rw [ok.kept_rel (ok.rel r) hi] at h
    exact ⟨Rat.not_le.1 (of_decide_eq_false h), .inl hk⟩)
end
end Wq

/-! The specification's waves are the program's. -/
namespace Wq
open Wp
open Co08 (System ownOf debt total share payOf paid means rest can paysWith ratio equity waves fallen capped rising)
abbrev cz (w : List Nat) : List Int := w.map fun (x : Nat) => (x : Int)
theorem cz_get (w : List Nat) (i : Nat) : (cz w).getD i 0 = ((w.getD i 0 : Nat) : Int) := by
  by_cases h : i < w.length
  · rw [getD_map _ _ _ _ 0 h]
  · rw [getD_out (by rw [List.length_map]; omega), getD_out (l := w) (by omega)]; rfl
theorem isF_cz (w : List Nat) : isF (cz w) = w.map fun (x : Nat) => x != 0 := by
  unfold isF
  rw [List.map_map]
  refine List.map_congr_left (fun x _ => ?_)
  show ((x : Int) != 0) = (x != 0)
  by_cases h : x = 0
  · subst h; rfl
  · have h1 : (x : Int) ≠ 0 := by omega
    rw [bne_iff_ne.2 h1, bne_iff_ne.2 h]
theorem cz_inj {v w : List Nat} (h : cz v = cz w) : v = w := by
  have h1 := congrArg (List.map Int.toNat) h
  rw [List.map_map, List.map_map] at h1
  have e : (Int.toNat ∘ fun (x : Nat) => (x : Int)) = id := by funext x; simp
  rw [e, List.map_id, List.map_id] at h1
  exact h1
theorem ext_getD {l l' : List Int} (h1 : l.length = l'.length) (h : ∀ i, i < l.length → l.getD i 0 = l'.getD i 0) : l = l' := by
  refine List.ext_getElem h1 (fun i h2 h3 => ?_)
  have := h i h2
  rw [getD_lt h2, getD_lt h3] at this
  exact this
abbrev heldS (held : Option Nat) : Nat → Bool := fun i => decide (held = some i)
section
variable {m : HouseM} (ok : HouseOk m)
include ok
theorem HouseOk.fallen_get (held : Option Nat) (p : List Rat) {j : Nat} (hj : j < m.n) : (fallen (sysOf m) held p).getD j false = (!can (sysOf m) p j && held != some j) := by
  unfold fallen
  rw [ok.good.cnt, getD_map_range, if_pos hj]
theorem HouseOk.waves_eq (held : Option Nat) : ∀ (k wave : Nat) (w : List Nat), Ready m (cz w) → cnt (zer (cz w)) m.n < k →
    waves (sysOf m) held k (wave + 1) w = (paysOf m (sinkM (sheetOf m) (heldS held) canM k wave (cz w)), (sinkM (sheetOf m) (heldS held) canM k wave (cz w)).map Int.toNat)
  | 0, _, _, _, h => by omega
  | k + 1, wave, w, r, h => by
    have hlen : w.length = m.n := by have := r.len; rwa [List.length_map] at this
    have hnext : ∀ i, i < m.n → nextM (sheetOf m) (heldS held) canM (cz w) i = (decide (w.getD i 0 = 0) && (!can (sysOf m) (paysOf m (cz w)) i && held != some i)) := by
      intro i hi
      unfold nextM
      rw [ok.can_rel (ok.rel r) hi, cz_get]
      have e1 : decide (((w.getD i 0 : Nat) : Int) = 0) = decide (w.getD i 0 = 0) := decide_eq_decide.2 (by omega)
      have e2 : (held != some i) = !decide (held = some i) := by
        by_cases e : held = some i
        · rw [e]; simp
        · rw [decide_eq_false e, bne_iff_ne.2 e]; rfl
      have e3 : heldS held i = decide (held = some i) := rfl
      rw [e1, e2, e3]
      cases decide (w.getD i 0 = 0) <;> cases decide (held = some i) <;> cases can (sysOf m) (paysOf m (cz w)) i <;> rfl
    have hv : cz (w.zipIdx.map fun (x : Nat × Nat) => if x.1 = 0 ∧ (fallen (sysOf m) held (paysOf m (cz w))).getD x.2 false = true then wave + 1 else x.1) = fellNext (sheetOf m) (heldS held) canM ((wave : Int) + 1) (cz w) := by
      refine ext_getD ?_ ?_
      · rw [List.length_map, List.length_map, List.length_zipIdx, fellNext_len]; exact hlen
      · intro i hi
        have hi : i < m.n := by simpa [hlen] using hi
        rw [cz_get, getD_zipIdx_map _ _ _ _ 0 (by omega), fellNext_at (s := sheetOf m) hi, hnext i hi, ok.fallen_get held _ hi, cz_get]
        by_cases c : w.getD i 0 = 0 ∧ (!can (sysOf m) (paysOf m (cz w)) i && held != some i) = true
        · rw [if_pos c, if_pos (by rw [decide_eq_true c.1, c.2]; rfl)]; rfl
        · rw [if_neg c]
          rw [if_neg (fun h2 => c (by
            rw [Bool.and_eq_true, decide_eq_true_eq] at h2
            exact h2))]
    have hp : paysWith (sysOf m) (w.map fun (x : Nat) => x != 0) = paysOf m (cz w) := by
      show _ = paysWith (sysOf m) (isF (cz w))
      rw [isF_cz]
    unfold waves sinkM
    simp only [hp]
    by_cases e : fallingM (sheetOf m) (heldS held) canM (cz w) = []
    · rw [if_pos e]
      have e2 : (w.zipIdx.map fun (x : Nat × Nat) => if x.1 = 0 ∧ (fallen (sysOf m) held (paysOf m (cz w))).getD x.2 false = true then wave + 1 else x.1) = w := by
        refine cz_inj (hv.trans (ext_getD ?_ ?_))
        · rw [fellNext_len, r.len]; rfl
        · intro i hi
          rw [fellNext_len] at hi
          rw [fellNext_at hi, falling_nil.1 e i hi]; simp
      rw [if_pos e2]
      have e3 : (cz w).map Int.toNat = w := by
        rw [List.map_map]
        have e : (Int.toNat ∘ fun (x : Nat) => (x : Int)) = id := by funext x; simp
        rw [e, List.map_id]
      rw [e3]
    · rw [if_neg e]
      have e2 : ¬ (w.zipIdx.map fun (x : Nat × Nat) => if x.1 = 0 ∧ (fallen (sysOf m) held (paysOf m (cz w))).getD x.2 false = true then wave + 1 else x.1) = w := by
        intro e2
        have h1 := zer_next (s := sheetOf m) (safe := heldS held) (c := canM) (wave := (wave : Int) + 1) (fell := cz w) (by omega) e
        rw [← hv, e2] at h1
        omega
      rw [if_neg e2]
      have h1 := zer_next (s := sheetOf m) (safe := heldS held) (c := canM) (wave := (wave : Int) + 1) (fell := cz w) (by omega) e
      rw [← hv] at h1
      have r2 : Ready m (cz (w.zipIdx.map fun (x : Nat × Nat) => if x.1 = 0 ∧ (fallen (sysOf m) held (paysOf m (cz w))).getD x.2 false = true then wave + 1 else x.1)) := by
        rw [hv]; exact ok.ready_can r (by omega)
      have ih := HouseOk.waves_eq held k (wave + 1) _ r2 (by
        have h2 : cnt (zer (cz (w.zipIdx.map fun (x : Nat × Nat) => if x.1 = 0 ∧ (fallen (sysOf m) held (paysOf m (cz w))).getD x.2 false = true then wave + 1 else x.1))) m.n < cnt (zer (cz w)) m.n := h1
        omega)
      rw [ih, hv]
      rfl
theorem HouseOk.waves0 (held : Option Nat) : waves (sysOf m) held (Co08.count (sysOf m) + 1) 1 (List.replicate (Co08.count (sysOf m)) 0) = (paysOf m (sinkAll (sheetOf m) (heldS held) canM), (sinkAll (sheetOf m) (heldS held) canM).map Int.toNat) := by
  rw [ok.good.cnt]
  have e : cz (List.replicate m.n 0) = List.replicate m.n 0 := by simp
  have h := ok.waves_eq held (m.n + 1) 0 (List.replicate m.n 0) (by rw [e]; exact ready0) (by have := cnt_bound (zer (cz (List.replicate m.n 0))) m.n; omega)
  rw [h, e]
  rfl
/-- behind all waves -/
theorem HouseOk.sinkAll_can (safe : Nat → Bool) : Ready m (sinkAll (sheetOf m) safe canM) ∧ (∀ i, i < m.n → 0 ≤ (sinkAll (sheetOf m) safe canM).getD i 0) ∧ fallingM (sheetOf m) safe canM (sinkAll (sheetOf m) safe canM) = [] := by
  obtain ⟨w, ⟨h1, h2, _⟩, h3⟩ := sink_inv (s := sheetOf m) (safe := safe) (c := canM) (fun wave fell => Ready m fell ∧ (∀ i, i < m.n → 0 ≤ fell.getD i 0) ∧ 0 ≤ wave) (fun wave fell ⟨r, h0, hw⟩ _ => ⟨ok.ready_can r (by omega), fun i hi => by
      rw [fellNext_at (s := sheetOf m) hi]
      split
      · omega
      · exact h0 i hi, by omega⟩) (m.n + 1) 0 (List.replicate m.n 0) ⟨ready0, fun i _ => by rw [zeros_get]; omega, by omega⟩ (by omega) (by have := cnt_bound (zer (List.replicate m.n 0)) m.n; show cnt _ m.n < _; omega)
  exact ⟨h1, h2, h3⟩
end
end Wq

/-! The least payments: the specification's are the program's. -/
namespace Wq
open Wp
open Co08 (System ownOf debt total share payOf paid means rest can paysWith ratio equity waves fallen capped rising)
theorem ext_getB {l l' : List Bool} (h1 : l.length = l'.length) (h : ∀ i, i < l.length → l.getD i false = l'.getD i false) : l = l' := by
  refine List.ext_getElem h1 (fun i h2 h3 => ?_)
  have := h i h2
  rw [getD_lt h2, getD_lt h3] at this
  exact this
theorem isF_len (fell : List Int) : (isF fell).length = fell.length := by simp [isF]
/-- who may fall, as a list -/
structure May (m : HouseM) (safe : Nat → Bool) (f : List Bool) : Prop where
  len : f.length = m.n
  get : ∀ i, i < m.n → f.getD i false = (!safe i && decide (0 < total (sysOf m) i))
def riseM (s : SheetM) (safe : Nat → Bool) (fell : List Int) (i : Nat) : Bool := !safe i && canM s (payAfter s fell) i
def risingM (s : SheetM) (safe : Nat → Bool) (fell : List Int) : List Nat := (List.range s.n).filter (riseM s safe fell)
def leastM (s : SheetM) : Nat → (Nat → Bool) → List Int
  | 0, safe => sinkAll s safe keptM
  | k + 1, safe => if risingM s safe (sinkAll s safe keptM) = [] then sinkAll s safe keptM else leastM s k (fun i => safe i || riseM s safe (sinkAll s safe keptM) i)
theorem rising_nil {s : SheetM} {safe : Nat → Bool} {fell : List Int} : risingM s safe fell = [] ↔ ∀ i, i < s.n → riseM s safe fell i = false := by
  unfold risingM
  rw [List.filter_eq_nil_iff]
  constructor
  · intro h i hi
    simpa using h i (List.mem_range.2 hi)
  · intro h i hi
    simpa using h i (List.mem_range.1 hi)
theorem nextM_congr {s : SheetM} {safe safe' : Nat → Bool} {c : Test} {fell : List Int} {i : Nat} (h : c s (payAfter s fell) i = true ∨ safe i = safe' i) : nextM s safe c fell i = nextM s safe' c fell i := by
  unfold nextM
  rcases h with h | h
  · rw [h]; simp
  · rw [h]
section
variable {m : HouseM} (ok : HouseOk m) (hk : (sysOf m).keptPaid < 1)
include ok
theorem HouseOk.rest0 {fell : List Int} (r : Ready m fell) (j : Nat) : 0 ≤ rest (sysOf m) (paysOf m fell) j := by
  unfold rest
  have h3 := Rat.mul_nonneg ok.good.ko0 (ok.good.own0 j)
  have h4 := Rat.mul_nonneg ok.good.kp0 (ok.good.paid0 (ok.nonneg r) j)
  grind
theorem HouseOk.next_kept {safe : Nat → Bool} {fell : List Int} (r : Ready m fell) {i : Nat} (hi : i < m.n) :
    nextM (sheetOf m) safe keptM fell i = ((decide (fell.getD i 0 = 0) && !safe i) && decide (rest (sysOf m) (paysOf m fell) i < total (sysOf m) i)) := by
  unfold nextM
  rw [ok.kept_rel (ok.rel r) hi]
  have e : (!decide (total (sysOf m) i ≤ rest (sysOf m) (paysOf m fell) i)) = decide (rest (sysOf m) (paysOf m fell) i < total (sysOf m) i) := by
    by_cases h : total (sysOf m) i ≤ rest (sysOf m) (paysOf m fell) i
    · rw [decide_eq_true h, decide_eq_false (Rat.not_lt.2 h)]; rfl
    · rw [decide_eq_false h, decide_eq_true (Rat.not_le.1 h)]; rfl
  rw [e]
include hk
theorem HouseOk.capped_eq {safe : Nat → Bool} {f : List Bool} (hf : May m safe f) : ∀ (k : Nat) (wave : Int) (fell : List Int), Ready m fell → 0 ≤ wave → cnt (zer fell) m.n < k →
    capped (sysOf m) f k (isF fell) = paysOf m (sinkM (sheetOf m) safe keptM k wave fell)
  | 0, _, _, _, _, h => by omega
  | k + 1, wave, fell, r, hw, h => by
    have hh : ((isF fell).zipIdx.map fun (x : Bool × Nat) => x.1 || (f.getD x.2 false && decide (rest (sysOf m) (paysOf m fell) x.2 < total (sysOf m) x.2))) = isF (fellNext (sheetOf m) safe keptM (wave + 1) fell) := by
      refine ext_getB ?_ ?_
      · rw [List.length_map, List.length_zipIdx, isF_len, isF_len, fellNext_len, r.len]; rfl
      · intro i hi
        have hi : i < m.n := by
          rw [List.length_map, List.length_zipIdx, isF_len, r.len] at hi; exact hi
        rw [getD_zipIdx_map _ _ _ _ false (by rw [isF_len, r.len]; exact hi), isF_getD, isF_getD, fellNext_at (s := sheetOf m) hi, ok.next_kept r hi, hf.get i hi]
        by_cases h0 : fell.getD i 0 = 0
        · rw [h0]
          by_cases h1 : rest (sysOf m) (paysOf m fell) i < total (sysOf m) i
          · have h2 : 0 < total (sysOf m) i := by have := ok.rest0 r i; grind
            rw [decide_eq_true h1, decide_eq_true h2]
            cases safe i with
            | true => simp
            | false => simp; omega
          · rw [decide_eq_false h1]; simp
        · rw [decide_eq_false h0]
          have : (fell.getD i 0 != 0) = true := by simpa using h0
          rw [this, Bool.true_or]
          simp only [Bool.false_and, Bool.false_eq_true, if_false]
          rw [this]
    unfold capped sinkM
    simp only
    by_cases e : fallingM (sheetOf m) safe keptM fell = []
    · rw [if_pos e]
      have e2 : ((isF fell).zipIdx.map fun (x : Bool × Nat) => x.1 || (f.getD x.2 false && decide (rest (sysOf m) (paysOf m fell) x.2 < total (sysOf m) x.2))) = isF fell := by
        rw [hh]
        congr 1
        refine ext_getD ?_ ?_
        · rw [fellNext_len, r.len]; rfl
        · intro i hi
          rw [fellNext_len] at hi
          rw [fellNext_at hi, falling_nil.1 e i hi]; simp
      rw [if_pos e2]
    · rw [if_neg e]
      have h1 := zer_next (s := sheetOf m) (safe := safe) (c := keptM) (wave := wave + 1) (fell := fell) (by omega) e
      have e2 : ¬ ((isF fell).zipIdx.map fun (x : Bool × Nat) => x.1 || (f.getD x.2 false && decide (rest (sysOf m) (paysOf m fell) x.2 < total (sysOf m) x.2))) = isF fell := by
        rw [hh]
        intro e3
        have h4 : ∀ i, i < m.n → zer (fellNext (sheetOf m) safe keptM (wave + 1) fell) i = zer fell i := by
          intro i hi
          have e4 := congrArg (fun l => l.getD i false) e3
          simp only [isF_getD] at e4
          show decide (_ = 0) = decide (_ = 0)
          have e5 : ((fellNext (sheetOf m) safe keptM (wave + 1) fell).getD i 0 = 0) ↔ (fell.getD i 0 = 0) := by
            by_cases a : (fellNext (sheetOf m) safe keptM (wave + 1) fell).getD i 0 = 0
            · have : (fell.getD i 0 != 0) = false := by rw [← e4, a]; rfl
              simp only [bne_eq_false_iff_eq] at this
              exact ⟨fun _ => this, fun _ => a⟩
            · have : (fell.getD i 0 != 0) = true := by rw [← e4]; simpa using a
              simp only [bne_iff_ne] at this
              exact ⟨fun h => absurd h a, fun h => absurd h this⟩
          exact decide_eq_decide.2 e5
        have h5 : cnt (zer fell) m.n ≤ cnt (zer (fellNext (sheetOf m) safe keptM (wave + 1) fell)) m.n := cnt_le m.n (fun i hi h => by rw [h4 i hi]; exact h)
        have h6 : cnt (zer (fellNext (sheetOf m) safe keptM (wave + 1) fell)) m.n < cnt (zer fell) m.n := h1
        omega
      rw [if_neg e2, hh]
      have h6 : cnt (zer (fellNext (sheetOf m) safe keptM (wave + 1) fell)) m.n < cnt (zer fell) m.n := h1
      exact HouseOk.capped_eq hf k (wave + 1) _ (ok.ready_kept hk r (by omega)) (by omega) (by omega)
theorem HouseOk.capped0 {safe : Nat → Bool} {f : List Bool} (hf : May m safe f) : capped (sysOf m) f (Co08.count (sysOf m) + 1) (f.map fun (_ : Bool) => false) = paysOf m (sinkAll (sheetOf m) safe keptM) := by
  have e : (f.map fun (_ : Bool) => false) = isF (List.replicate m.n 0) := by
    refine ext_getB ?_ ?_
    · rw [List.length_map, isF_len, hf.len]; simp
    · intro i hi
      rw [List.length_map] at hi
      rw [isF_getD, zeros_get, getD_map _ _ _ _ false hi]; rfl
  rw [e, ok.good.cnt]
  exact ok.capped_eq hk hf (m.n + 1) 0 _ ready0 (by omega) (by have := cnt_bound (zer (List.replicate m.n 0)) m.n; omega)
/-- behind such waves -/
structure Capd (m : HouseM) (safe : Nat → Bool) (S : List Int) : Prop where
  ready : Ready m S
  nn : ∀ i, i < m.n → 0 ≤ S.getD i 0
  may : ∀ i, i < m.n → S.getD i 0 ≠ 0 → safe i = false
  le : ∀ i, i < m.n → payOf (paysOf m S) i ≤ total (sysOf m) i
  fin : fallingM (sheetOf m) safe keptM S = []
theorem HouseOk.capd (safe : Nat → Bool) : Capd m safe (sinkAll (sheetOf m) safe keptM) := by
  obtain ⟨w, ⟨h1, h2, h3, h4, _⟩, h5⟩ := sink_inv (s := sheetOf m) (safe := safe) (c := keptM)
    (fun wave fell => Ready m fell ∧ (∀ i, i < m.n → 0 ≤ fell.getD i 0) ∧ (∀ i, i < m.n → fell.getD i 0 ≠ 0 → safe i = false) ∧ (∀ i, i < m.n → payOf (paysOf m fell) i ≤ total (sysOf m) i) ∧ 0 ≤ wave) (fun wave fell ⟨r, h0, hm, hl, hw⟩ _ => by
      have r2 : Ready m (fellNext (sheetOf m) safe keptM (wave + 1) fell) := ok.ready_kept hk r (by omega)
      refine ⟨r2, fun i hi => ?_, fun i hi h => ?_, fun i hi => ?_, by omega⟩
      · rw [fellNext_at (s := sheetOf m) hi]
        split
        · omega
        · exact h0 i hi
      · rw [fellNext_at (s := sheetOf m) hi] at h
        split at h
        · rename_i hn
          unfold nextM at hn
          simp only [Bool.and_eq_true, Bool.not_eq_true'] at hn
          exact hn.1.2
        · exact hm i hi h
      · refine Rat.le_trans (ok.good.sinks r2.nc (ok.sol r) (ok.sol r2) (fun j hj hF => ?_) (fun j hj h1 h2 => ?_) i hi) (hl i hi)
        · show (_ != _) = true
          rw [fellNext_at (s := sheetOf m) hj]
          split
          · simp; omega
          · exact hF
        · have h1 : ((fellNext (sheetOf m) safe keptM (wave + 1) fell).getD j 0 != 0) = true := h1
          have h2 : (fell.getD j 0 != 0) = false := h2
          rw [fellNext_at (s := sheetOf m) hj, ok.next_kept r hj] at h1
          split at h1
          · rename_i hn
            simp only [Bool.and_eq_true, decide_eq_true_eq] at hn
            exact Rat.le_of_lt hn.2
          · rw [h2] at h1; simp at h1) (m.n + 1) 0 (List.replicate m.n 0)
    ⟨ready0, fun i _ => by rw [zeros_get]; omega, fun i _ h => by rw [zeros_get] at h; exact absurd rfl h, fun i hi => by
      rw [ok.sol ready0 i hi]
      have : fF (List.replicate m.n 0) i = false := by show (_ != _) = false; rw [zeros_get]; rfl
      rw [this]; simp, by omega⟩ (by omega) (by have := cnt_bound (zer (List.replicate m.n 0)) m.n; show cnt _ m.n < _; omega)
  exact ⟨h1, h2, h3, h4, h5⟩
/-- the fewer may fall, the more is paid -/
theorem HouseOk.rises {safe safe' : Nat → Bool} {S S' : List Int} (h : Capd m safe S) (h' : Capd m safe' S') (hs : ∀ i, i < m.n → safe i = true → safe' i = true) :
    ∀ i, i < m.n → payOf (paysOf m S) i ≤ payOf (paysOf m S') i := by
  intro i hi
  have := ok.good.cmp (fun j => payOf (paysOf m S) j - payOf (paysOf m S') j) (.inl hk) (fun j hj hd => by
    have hj' := ok.sol h'.ready j hj
    have hle := h.le j hj
    by_cases e : fF S' j = true
    · rw [if_pos e] at hj'
      have hs' : safe' j = false := h'.may j hj (by simpa using e)
      have hsj : safe j = false := by
        cases e2 : safe j with
        | false => rfl
        | true => rw [hs j hj e2] at hs'; cases hs'
      have h1 : payOf (paysOf m S) j ≤ rest (sysOf m) (paysOf m S) j := by
        have hsol := ok.sol h.ready j hj
        by_cases e3 : fF S j = true
        · rw [if_pos e3] at hsol; rw [hsol]; exact Rat.le_refl
        · rw [if_neg e3] at hsol
          rw [hsol]
          have h2 := falling_nil.1 h.fin j hj
          rw [ok.next_kept h.ready hj, hsj] at h2
          have e4 : S.getD j 0 = 0 := by
            have : (S.getD j 0 != 0) = false := by simpa using e3
            simpa using this
          rw [decide_eq_true e4] at h2
          simp only [Bool.not_false, Bool.true_and, decide_eq_false_iff_not] at h2
          exact Rat.not_lt.1 h2
      rw [← ok.good.rest_diff]
      grind
    · rw [if_neg e] at hj'
      grind) i hi
  grind
theorem HouseOk.can_mono {p q : List Rat} (h : ∀ i, i < m.n → payOf p i ≤ payOf q i) {j : Nat} (hc : can (sysOf m) p j = true) : can (sysOf m) q j = true := by
  unfold can at hc ⊢
  have h1 := of_decide_eq_true hc
  refine decide_eq_true (Rat.le_trans h1 ?_)
  unfold means
  rw [ok.good.paid_eq, ok.good.paid_eq]
  have := sm_le (f := fun i => share (sysOf m) i j * payOf p i) (g := fun i => share (sysOf m) i j * payOf q i) m.n (fun i hi => Rat.mul_le_mul_of_nonneg_left (h i hi) (ok.good.share0 i j))
  grind
/-- **The least payments**, and who falls by them. -/
theorem HouseOk.least_eq : ∀ (k : Nat) (safe : Nat → Bool) (f : List Bool), May m safe f → cnt (fun i => !safe i) m.n < k → (∀ i, i < m.n → safe i = true → can (sysOf m) (paysOf m (sinkAll (sheetOf m) safe keptM)) i = true) →
    (∀ K, cnt (fun i => f.getD i false) m.n < K → rising (sysOf m) K f = paysOf m (leastM (sheetOf m) k safe)) ∧
    ∃ safe', Capd m safe' (leastM (sheetOf m) k safe) ∧ ∀ i, i < m.n → ((leastM (sheetOf m) k safe).getD i 0 ≠ 0 ↔ can (sysOf m) (paysOf m (leastM (sheetOf m) k safe)) i = false)
  | 0, _, _, _, h, _ => by omega
  | k + 1, safe, f, hf, h, hsafe => by
    have cp := ok.capd hk safe
    have c0 := ok.capped0 hk hf
    have crel : ∀ i, i < m.n → riseM (sheetOf m) safe (sinkAll (sheetOf m) safe keptM) i = (!safe i && can (sysOf m) (paysOf m (sinkAll (sheetOf m) safe keptM)) i) := by
      intro i hi
      unfold riseM
      rw [ok.can_rel (ok.rel cp.ready) hi]
    -- the specification's next
    have hg : ∀ i, i < m.n → (f.zipIdx.map fun (x : Bool × Nat) => x.1 && !can (sysOf m) (paysOf m (sinkAll (sheetOf m) safe keptM)) x.2).getD i false = (f.getD i false && !can (sysOf m) (paysOf m (sinkAll (sheetOf m) safe keptM)) i) := by
      intro i hi
      rw [getD_zipIdx_map _ _ _ _ false (by rw [hf.len]; exact hi)]
    unfold leastM
    by_cases e : risingM (sheetOf m) safe (sinkAll (sheetOf m) safe keptM) = []
    · rw [if_pos e]
      have e1 := rising_nil.1 e
      refine ⟨fun K hK => ?_, safe, cp, ?_⟩
      · have eg : (f.zipIdx.map fun (x : Bool × Nat) => x.1 && !can (sysOf m) (paysOf m (sinkAll (sheetOf m) safe keptM)) x.2) = f := by
          refine ext_getB (by simp) (fun i hi => ?_)
          have hi : i < m.n := by rw [List.length_map, List.length_zipIdx, hf.len] at hi; exact hi
          rw [hg i hi]
          have e2 := e1 i hi
          rw [crel i hi] at e2
          rw [hf.get i hi]
          cases e3 : safe i with
          | true => rfl
          | false =>
            rw [e3] at e2
            simp only [Bool.not_false, Bool.true_and] at e2
            rw [e2]; simp
        cases K with
        | zero => omega
        | succ K =>
          unfold rising
          simp only [c0]
          rw [if_pos eg]
      · intro i hi
        have e2 := e1 i hi
        rw [crel i hi] at e2
        constructor
        · intro h1
          rw [cp.may i hi h1] at e2
          simpa using e2
        · intro h1 h2
          have hs : safe i = false := by
            cases e3 : safe i with
            | false => rfl
            | true => rw [hsafe i hi e3] at h1; cases h1
          have h3 := falling_nil.1 cp.fin i hi
          rw [ok.next_kept cp.ready hi, hs, decide_eq_true h2] at h3
          simp only [Bool.not_false, Bool.true_and, decide_eq_false_iff_not] at h3
          unfold can at h1
          have h4 := of_decide_eq_false h1
          have h5 := ok.good.rest_le_means (ok.nonneg cp.ready) i
          grind
    · rw [if_neg e]
      -- the program's next
      have hf' : May m (fun i => safe i || riseM (sheetOf m) safe (sinkAll (sheetOf m) safe keptM) i) (f.zipIdx.map fun (x : Bool × Nat) => x.1 && !can (sysOf m) (paysOf m (sinkAll (sheetOf m) safe keptM)) x.2) := by
        refine ⟨by rw [List.length_map, List.length_zipIdx]; exact hf.len, fun i hi => ?_⟩
        rw [hg i hi, hf.get i hi, crel i hi]
        cases safe i <;> cases decide (0 < total (sysOf m) i) <;> cases can (sysOf m) (paysOf m (sinkAll (sheetOf m) safe keptM)) i <;> rfl
      have ⟨j, hj, hrj⟩ : ∃ j, j < m.n ∧ riseM (sheetOf m) safe (sinkAll (sheetOf m) safe keptM) j = true := by
        refine Classical.byContradiction (fun h2 => e (rising_nil.2 (fun i hi => ?_)))
        cases e4 : riseM (sheetOf m) safe (sinkAll (sheetOf m) safe keptM) i with
        | false => rfl
        | true => exact absurd ⟨i, hi, e4⟩ h2
      have hcnt : cnt (fun i => !(safe i || riseM (sheetOf m) safe (sinkAll (sheetOf m) safe keptM) i)) m.n < k := by
        have : cnt (fun i => !(safe i || riseM (sheetOf m) safe (sinkAll (sheetOf m) safe keptM) i)) m.n < cnt (fun i => !safe i) m.n := by
          refine cnt_lt m.n (fun i hi h1 => ?_) ⟨j, hj, ?_, ?_⟩
          · cases e5 : safe i with
            | false => rfl
            | true => rw [e5] at h1; simp at h1
          · rw [hrj]; simp
          · unfold riseM at hrj
            simp only [Bool.and_eq_true] at hrj
            exact hrj.1
        omega
      have hsafe' : ∀ i, i < m.n → (safe i || riseM (sheetOf m) safe (sinkAll (sheetOf m) safe keptM) i) = true → can (sysOf m) (paysOf m (sinkAll (sheetOf m) (fun i => safe i || riseM (sheetOf m) safe (sinkAll (sheetOf m) safe keptM) i) keptM)) i = true := by
        intro i hi h1
        refine ok.can_mono hk (ok.rises hk cp (ok.capd hk _) (fun i _ h => by simp only [h, Bool.true_or])) ?_
        rw [crel i hi] at h1
        cases e5 : safe i with
        | true => exact hsafe i hi e5
        | false => rw [e5] at h1; simpa using h1
      obtain ⟨ih1, ih2⟩ := HouseOk.least_eq k _ _ hf' hcnt hsafe'
      refine ⟨fun K hK => ?_, ih2⟩
      have hgle : cnt (fun i => (f.zipIdx.map fun (x : Bool × Nat) => x.1 && !can (sysOf m) (paysOf m (sinkAll (sheetOf m) safe keptM)) x.2).getD i false) m.n ≤ cnt (fun i => f.getD i false) m.n := cnt_le m.n (fun i hi h1 => by
        rw [hg i hi] at h1
        simp only [Bool.and_eq_true] at h1
        exact h1.1)
      cases K with
      | zero => omega
      | succ K =>
        by_cases eg : (f.zipIdx.map fun (x : Bool × Nat) => x.1 && !can (sysOf m) (paysOf m (sinkAll (sheetOf m) safe keptM)) x.2) = f
        · have h7 := ih1 (K + 1) (by omega)
          rw [eg] at h7
          exact h7
        · have h8 : rising (sysOf m) (K + 1) f = rising (sysOf m) K (f.zipIdx.map fun (x : Bool × Nat) => x.1 && !can (sysOf m) (paysOf m (sinkAll (sheetOf m) safe keptM)) x.2) := by
            conv => lhs; unfold rising
            simp only [c0]
            rw [if_neg eg]
          rw [h8]
          refine ih1 K ?_
          have : cnt (fun i => (f.zipIdx.map fun (x : Bool × Nat) => x.1 && !can (sysOf m) (paysOf m (sinkAll (sheetOf m) safe keptM)) x.2).getD i false) m.n < cnt (fun i => f.getD i false) m.n := by
            have ⟨i, hi, hne⟩ : ∃ i, i < m.n ∧ (f.zipIdx.map fun (x : Bool × Nat) => x.1 && !can (sysOf m) (paysOf m (sinkAll (sheetOf m) safe keptM)) x.2).getD i false ≠ f.getD i false := by
              refine Classical.byContradiction (fun h9 => eg (ext_getB (by simp) (fun i hi => ?_)))
              have hi : i < m.n := by rw [List.length_map, List.length_zipIdx, hf.len] at hi; exact hi
              refine Classical.byContradiction (fun h10 => h9 ⟨i, hi, h10⟩)
            refine cnt_lt m.n (fun i hi h1 => by
              rw [hg i hi] at h1
              simp only [Bool.and_eq_true] at h1
              exact h1.1) ⟨i, hi, ?_, ?_⟩
            · rw [hg i hi] at hne ⊢
              cases e6 : f.getD i false with
              | false => rfl
              | true =>
                rw [e6] at hne
                simpa using hne
            · rw [hg i hi] at hne
              cases e6 : f.getD i false with
              | false => rw [e6] at hne; simp at hne
              | true => rfl
          omega
theorem HouseOk.least0 : Co08.least (sysOf m) = paysOf m (leastM (sheetOf m) (m.n + 1) (fun _ => false)) ∧ ∃ safe', Capd m safe' (leastM (sheetOf m) (m.n + 1) (fun _ => false)) ∧
    ∀ i, i < m.n → ((leastM (sheetOf m) (m.n + 1) (fun _ => false)).getD i 0 ≠ 0 ↔ can (sysOf m) (paysOf m (leastM (sheetOf m) (m.n + 1) (fun _ => false))) i = false) := by
  have hf : May m (fun _ => false) ((List.range (Co08.count (sysOf m))).map fun (j : Nat) => decide (0 < total (sysOf m) j)) := by
    rw [ok.good.cnt]
    exact ⟨by simp, fun i hi => by rw [getD_map_range, if_pos hi]; rfl⟩
  obtain ⟨h1, h2⟩ := ok.least_eq hk (m.n + 1) (fun _ => false) _ hf (by have := cnt_bound (fun _ => !false) m.n; omega) (fun i hi h => by cases h)
  refine ⟨?_, h2⟩
  unfold Co08.least
  rw [ok.good.cnt] at h1 ⊢
  exact h1 (m.n + 1) (by have := cnt_bound (fun i => ((List.range m.n).map fun (j : Nat) => decide (0 < total (sysOf m) j)).getD i false) m.n; omega)
end
end Wq

namespace Wq
open PySem PySem.Spec PyProof.Rows L2 Wp
abbrev sGreatest : Stmt := top 24
abbrev sLeast : Stmt := top 26
abbrev sNewlySafe : Stmt := top 27
abbrev sSink : Stmt := top 28
abbrev sNewlyFalling : Stmt := top 29
abbrev sPayAfter : Stmt := top 30
abbrev sEquation : Stmt := top 31
theorem ixN_nat {n i : Nat} (h : i < n) : ixN n (i : Int) = some i := by
  unfold ixN
  rw [if_pos (by omega), if_pos (by omega)]; simp
theorem lI_set (l : List Int) (i : Nat) (x : Int) : (lI l).set i (.int x) = lI (l.set i x) := by
  show (List.map V.int l).set i (V.int x) = List.map V.int (l.set i x)
  rw [List.map_set]
theorem same_but {H H1 : Hp} {p : Addr} {o : HO} (hp : H p = none) (s : Same H H1) : Same H (upd H1 p o) := fun b x e => by
  rw [upd_ne (ne_of_none e hp)]; exact s _ _ e
section
variable {P : Program} {w : World} {K : PySem.W.Frag} {mg : Str → Option Value} {base : Heap}
/-! equation -/
theorem scEquation : FnScope ["sheet", "fell", "i", "row", "j"] ["sheet", "fell", "i"] (defScope sEquation) := ⟨rfl, rfl, rfl, by decide +kernel, rfl, by decide +kernel, by decide +kernel⟩
def spEquation (CS : Addr) : Sp := fun vs H Q _ => ∃ (a b : Addr) (i : Nat) (s : SheetM) (fell : List Int), vs = [.ref a, .ref b, .int i] ∧ SheetAt CS H a s ∧ SheetOk s ∧ H b = some (.lst (lI fell)) ∧ fell.length = s.n ∧ i < s.n ∧
  ∀ p H', Same H H' → H p = none → H' p = some (.lst (lI (eqRow s fell i))) → Q (.ref p) H'
theorem ok_equation {f CS : Addr} {fd : FuncData} (F : Fun K "equation" "equation" sEquation f fd) (B : Env mg) (TS : CSheet K mg CS) :
    FnOk P w K mg base CX0 1 f fd ["sheet", "fell", "i"] (spEquation CS) := by
  refine F.ok scEquation (fun vs H Q E h => ?_) (fun cdv A outer s H vs Q E hr h => ?_)
  · obtain ⟨a, b, i, s, fell, rfl, _⟩ := h
    rfl
  · obtain ⟨a, b, i, s, fell, rfl, hS, so, hb, hl, hi, q⟩ := h
    obtain ⟨dx, lo, lw, ld, hs⟩ := id hS
    refine ⟨_, pss_cons (ps_if (pt_cmpR op_eq (pe_ix ix_list (pv 1) (pv 2) (fun _ _ => rfl)) pe_int (nomark _))
        (pss_one (ps_ret (pe_op op_cat (pe_lc (own := [("j", 4)]) (g := gName 4) (tt := tYes) rfl scEquation.nd
          (pi_range1 rfl B.range (pa_cons (pe_fld (pv 0) rfl) pa_nil))
          (blkOk_by (own := [("j", 4)]) (N := ["sheet", "fell", "i", "row", "j"]) (sc := defScope sEquation) (by decide +kernel))
          (fun _ _ _ _ _ => pg_name (i := 4) scEquation.nd rfl (Or.inl rfl)) (fun _ _ _ _ _ => pts_nil)
          (fun _ _ _ _ _ => pe_ifExp (pt_cmpR op_eq (pv 4) (pv 2) (nomark _)) pe_int pe_int)) (pe_lst (pa_cons pe_int pa_nil))))) pss_nil)
      (pss_cons (ps_setLc (i := 3) (own := [("j", 4)]) (g := gName 4) (tt := tYes) rfl scEquation.nd rfl rfl (sw_true rfl rfl rfl (by decide +kernel))
          (pi_range1 rfl B.range (pa_cons (pe_fld (pv 0) rfl) pa_nil))
          (blkOk_by (own := [("j", 4)]) (N := ["sheet", "fell", "i", "row", "j"]) (sc := defScope sEquation) (by decide +kernel))
          (fun _ _ _ _ _ => pg_name (i := 4) scEquation.nd rfl (Or.inl rfl)) (fun _ _ _ _ _ => pts_nil)
          (fun _ _ _ _ _ => pe_op op_sub pe_int (pe_op op_mulW (pe_fldK (K := K) rfl (pv 0) rfl) (pe_ix (ix_listK (K := K) rfl) (pe_ix (ix_listK (K := K) rfl) (pe_fldK (K := K) rfl (pv 0) rfl) (pv 4) (fun _ _ => rfl)) (pv 2) (fun _ _ => rfl)))))
      (pss_cons (ps_asg (pe_op op_mulW (pe_fld (pv 0) rfl) (pe_ix ix_list (pe_fld (pv 0) rfl) (pv 2) (fun _ _ => rfl))) (pg_sub (pv 3) (pv 2) set_list))
      (pss_one (ps_ret (pe_op op_cat (pv 3) (pe_lst (pa_cons (pe_op op_mulW (pe_fld (pv 0) rfl) (pe_ix ix_list (pe_fld (pv 0) rfl) (pv 2) (fun _ _ => rfl))) pa_nil))))))), ?_⟩
    have n8 := so.n8
    have en : ((s.n : Int)).toNat = s.n := by omega
    refine ⟨_, rfl, _, rfl, b, _, _, _, rfl, rfl, SqL.of hb, atI_nat (lI_at (by omega)), rfl, _, rfl, ite2 (fun c => ?_) (fun c => ?_)⟩
    · have e0 : fell.getD i 0 = 0 := V.int.inj (of_decide_eq_true c)
      refine ⟨_, rfl, a, CS, dx, _, _, rfl, hs.obj, TS.cl, TS.nParties, sF_parties _ _ _ _, _, rfl, (by omega), (by omega), fun D hD => ?_⟩
      rw [en]
      refine lc_rng (n := s.n) (fun j => V.int (if j = i then (1 : Int) else 0)) (by omega) (fun _ => rfl) ?_ ?_
      · intro j hj R hR
        refine ⟨_, rfl, _, rfl, rfl, _, rfl, ite2 (fun c => ?_) (fun c => ?_)⟩
        · have e1 : j = i := by have := V.int.inj (of_decide_eq_true c); omega
          rw [if_pos e1] at hR
          exact hR
        · have e1 : ¬ j = i := fun e => c (decide_eq_true (by rw [e]))
          rw [if_neg e1] at hR
          exact hR
      · refine ⟨(by show 1 ≤ sizeLine; decide), fun G hG => ?_⟩
        have sD := same_upd (o := .lst ((List.range s.n).map fun j => V.int (if j = i then (1 : Int) else 0))) hD
        refine ⟨D, G, _, _, rfl, rfl, same_upd hG _ _ upd_same, upd_same, ?_, fun p hp => ?_⟩
        · rw [List.length_map, List.length_range]
          exact Nat.le_of_lt (small1000 (by simp; omega))
        · have sA := (sD.trans (same_upd (o := .lst [V.int 1]) hG)).trans (same_upd (o := .lst ((List.range s.n).map (fun j => V.int (if j = i then (1 : Int) else 0)) ++ [V.int 1])) hp)
          refine q p _ sA (sD.free ((same_upd hG).free hp)) ?_
          rw [upd_same]
          unfold eqRow
          rw [if_pos e0]
          show _ = some (HO.lst (List.map V.int _))
          rw [List.map_append, List.map_map]
          rfl
    · have e0 : ¬ fell.getD i 0 = 0 := fun e => c (decide_eq_true (by rw [e]))
      refine ⟨_, rfl, a, CS, dx, _, _, rfl, hs.obj, TS.cl, TS.nParties, sF_parties _ _ _ _, _, rfl, (by omega), (by omega), fun D hD => ?_⟩
      rw [en]
      refine lc_rng (n := s.n) (fun j => V.int (0 - s.kp * at2 s.owed j i)) (by omega) (fun _ => rfl) ?_ ?_
      · intro j hj R hR
        have sD := same_upd (o := .lst ((List.range j).map fun j => V.int (0 - s.kp * at2 s.owed j i))) hD
        have hs' := hs.mono sD
        obtain ⟨ps, g1, g2, g3⟩ := hs'.owed
        have lj : j < s.owed.length := by have := so.nOwed; omega
        refine ⟨_, rfl, a, CS, dx, _, _, rfl, hs'.obj, TS.cl, TS.nKp, sF_kp _ _ _ _, _, rfl, a, CS, dx, _, _, rfl, hs'.obj, TS.cl, TS.nOwed, sF_owed _ _ _ _, _, rfl, lw, _, _, _, rfl, rfl, SqL.of g1, atI_nat (refs_at (by omega)), _, rfl, _, _, _, _, rfl, rfl, SqL.of (g3 j lj), atI_nat (lI_at (by rw [so.nRow j hj]; exact hi)), _, _, rfl, rfl, small_mul (small_lt so.bKp) (small_lt (so.bOwed j i)), _, _, rfl, rfl, hR⟩
      · have sD := same_upd (o := .lst ((List.range s.n).map fun j => V.int (0 - s.kp * at2 s.owed j i))) hD
        have hs' := hs.mono sD
        refine ⟨_, rfl, a, CS, dx, _, _, rfl, hs'.obj, TS.cl, TS.nKw, sF_kw _ _ _ _, _, rfl, a, CS, dx, _, _, rfl, hs'.obj, TS.cl, TS.nDebts, sF_debts _ _ _ _, _, rfl, ld, _, _, _, rfl, rfl, SqL.of hs'.debts, atI_nat (lI_at (by rw [so.nDebts]; exact hi)), _, _, rfl, rfl, small_mul (small_lt so.bKw) (small_lt (so.bDebts i)), ?_⟩
        refine ⟨_, rfl, _, rfl, D, _, _, _, rfl, rfl, upd_same, ixN_nat (by simpa using hi), ?_⟩
        rw [upd_upd]
        have sE := same_upd (o := .lst (((List.range s.n).map fun j => V.int (0 - s.kp * at2 s.owed j i)).set i (.int (s.kw * s.debts.getD i 0)))) hD
        have hs'' := hs.mono sE
        refine ⟨_, rfl, _, rfl, a, CS, dx, _, _, rfl, hs''.obj, TS.cl, TS.nKo, sF_ko _ _ _ _, _, rfl, a, CS, dx, _, _, rfl, hs''.obj, TS.cl, TS.nOwn, sF_own _ _ _ _, _, rfl, lo, _, _, _, rfl, rfl, SqL.of hs''.own, atI_nat (lI_at (by rw [so.nOwn]; exact hi)), _, _, rfl, rfl, small_mul (small_lt so.bKo) (small_lt (so.bOwn i)), (by show 1 ≤ sizeLine; decide), fun G hG => ?_⟩
        refine ⟨D, G, _, _, rfl, rfl, same_upd hG _ _ upd_same, upd_same, ?_, fun p hp => ?_⟩
        · rw [List.length_set, List.length_map, List.length_range]
          exact Nat.le_of_lt (small1000 (by simp; omega))
        · refine q p _ ((sE.trans (same_upd hG)).trans (same_upd hp)) (sE.free ((same_upd hG).free hp)) ?_
          rw [upd_same]
          unfold eqRow
          rw [if_neg e0]
          show _ = some (HO.lst (List.map V.int _))
          rw [List.map_append, List.map_set, List.map_map]
          rfl
/-! payments_after -/
theorem scPayAfter : FnScope ["sheet", "fell", "solution", "i"] ["sheet", "fell"] (defScope sPayAfter) := ⟨rfl, rfl, rfl, by decide +kernel, rfl, by decide +kernel, by decide +kernel⟩
def spPayAfter (CS CP : Addr) : Sp := fun vs H Q _ => ∃ (a b : Addr) (s : SheetM) (fell : List Int), vs = [.ref a, .ref b] ∧ SheetAt CS H a s ∧ SheetOk s ∧ H b = some (.lst (lI fell)) ∧ fell.length = s.n ∧
  (∀ k, k ≤ s.n → Elim s.n (eqRows s fell) k) ∧ ∀ p H', Same H H' → PayAt CP H' p (payAfter s fell) → Q (.ref p) H'
theorem cut1 (xs : List V) : cutV xs (some 1) none = xs.drop 1 := by
  unfold cutV
  rw [show HT.sIx xs.length 0 (some 1) = min 1 xs.length from HT.sIx_nat xs.length 0 1, HT.sIx_none]
  cases xs with
  | nil => rfl
  | cons x r =>
    rw [show min 1 (x :: r).length = 1 by
      rw [List.length_cons]
      omega]
    show (List.take ((x :: r).length - 1) r) = r
    rw [List.length_cons, Nat.add_sub_cancel]
    exact List.take_length
theorem ok_payAfter {f f1 f2 f3 CS CP : Addr} {fd fd1 fd2 fd3 : FuncData} (F : Fun K "payments_after" "payments_after" sPayAfter f fd) (B : Env mg) (TS : CSheet K mg CS) (TP : CPay K mg CP)
    (D1 : Def P w K mg base 3 "solve" ["rows"] spSolve f1 fd1) (D2 : Def P w K mg base 1 "equation" ["sheet", "fell", "i"] (spEquation CS) f2 fd2)
    (M : Mk K CP f3) (G3 : FnOk P w K mg base CX0 1 f3 fd3 ["self", "below", "above", "fell"] (spPayInit CP)) (b3 : Binds K fd3 ["self", "below", "above", "fell"] []) :
    FnOk P w K mg base CX0 4 f fd ["sheet", "fell"] (spPayAfter CS CP) := by
  refine F.ok scPayAfter (fun vs H Q E h => ?_) (fun cdv A outer s H vs Q E hr h => ?_)
  · obtain ⟨a, b, s, fell, rfl, _⟩ := h
    rfl
  · obtain ⟨a, b, s, fell, rfl, hS, so, hb, hl, el, q⟩ := h
    obtain ⟨dx, lo, lw, ld, hs⟩ := id hS
    have hr1 : Room 1 _ := hr.mono (by decide)
    have hr2 : Room 2 _ := hr.mono (by decide)
    refine ⟨_, pss_cons (ps_set (i := 2) scPayAfter.nd rfl (Or.inl rfl) (pe_call D1.ok hr rfl D1.here D1.kp D1.b .nil pass0 (pa_cons (pe_lc (own := [("i", 3)]) (g := gName 3) (tt := tYes) rfl scPayAfter.nd
          (pi_range1 rfl B.range (pa_cons (pe_fld (pv 0) rfl) pa_nil))
          (blkOk_by (own := [("i", 3)]) (N := ["sheet", "fell", "solution", "i"]) (sc := defScope sPayAfter) (by decide +kernel))
          (fun _ _ _ _ _ => pg_name (i := 3) scPayAfter.nd rfl (Or.inl rfl)) (fun _ _ _ _ _ => pts_nil)
          (fun _ _ _ _ _ => pe_call D2.ok hr1 rfl D2.here D2.kp D2.b .nil pass0 (pa_cons (pv 0) (pa_cons (pv 1) (pa_cons (pv 3) pa_nil))))) pa_nil)))
      (pss_one (ps_ret (pe_make M G3 hr2 rfl TP.here b3 .nil pass0 (pa_cons (pe_ix ix_list (pv 2) pe_int (fun _ _ => rfl)) (pa_cons (pe_slice sl_list (pv 2) (po_some pe_int) po_none) (pa_cons (pe_callTy call_list_of (by rfl) B.list (by decide +kernel) (pa_cons (pv 1) pa_nil)) pa_nil)))))), ?_⟩
    have n8 := so.n8
    have en : ((s.n : Int)).toNat = s.n := by omega
    refine ⟨_, rfl, a, CS, dx, _, _, rfl, hs.obj, TS.cl, TS.nParties, sF_parties _ _ _ _, _, rfl, (by omega), (by omega), fun D hD => ?_⟩
    rw [en]
    refine lc_rngG (n := s.n) (fun i v H' => ∃ r, v = .ref r ∧ r ≠ D ∧ H' r = some (.lst (lI (eqRow s fell i)))) ?_ hD (by omega) (fun _ => rfl) ?_ ?_
    · rintro i v H' H'' hB ⟨r, e1, e2, e3⟩
      exact ⟨r, e1, e2, hB _ _ e2 e3⟩
    · intro i hi H' acc s1 hacc hA hRel R' hR'
      refine ⟨_, rfl, _, rfl, _, rfl, a, b, i, s, fell, rfl, hS.mono s1, so, s1 _ _ hb, hl, hi, fun p H2 s2 np hp => ?_⟩
      refine hR' _ H2 s2 ⟨p, rfl, ?_, hp⟩
      intro e
      rw [e, hA] at np
      cases np
    · intro H1 acc s1 hacc hA hRel
      have hR : RowsAt H1 D (eqRows s fell) := rows_from hacc hA (fun i hi => by
        obtain ⟨r, e1, e2, e3⟩ := hRel i hi
        exact ⟨r, e1, e3⟩)
      have hlen : (eqRows s fell).length = s.n := (eqRows_shp s fell).len
      refine ⟨D, eqRows s fell, rfl, hR, by rw [hlen]; exact eqRows_shp s fell, by omega, by rw [hlen]; exact el, eqRow_bits so fell, fun S H2 s2 hS2 => ?_⟩
      obtain ⟨x, xs, exs⟩ : ∃ x xs, solve (eqRows s fell) = x :: xs := ⟨_, _, rfl⟩
      refine ⟨_, rfl, S, _, _, _, rfl, rfl, SqL.of hS2, atI_nat (j := 0) (by rw [exs]; rfl), _, rfl, _, rfl, S, _, rfl, SqL.of hS2, fun L hL => ?_⟩
      have s3 := same_upd (o := .lst (cutV (lI (solve (eqRows s fell))) (some 1) none)) hL
      refine ⟨_, rfl, b, _, rfl, .inl (SqL.of (s3 _ _ (s2 _ _ (s1 _ _ hb)))), fun T hT => ?_⟩
      have s4 := same_upd (o := .lst (lI fell)) hT
      intro y dy ny ndy ney
      refine ⟨_, y, dy, L, T, payAfter s fell, ?_, ?_, ny, upd_same, s4 _ _ ?_, upd_same, fun H5 s5 hP => ⟨rfl, ?_⟩⟩
      · show [V.ref y, V.int x, V.ref L, V.ref T] = _
        have : (payAfter s fell).below = x := by unfold payAfter; rw [exs]; rfl
        rw [this]
      · exact (same_upd ndy).trans (fun c o e => by
          have e' : c ≠ y := by
            intro e2; subst e2
            rw [upd_ne (fun e3 => ney e3.symm)] at e
            rw [ny] at e; cases e
          rw [upd_ne e']; exact e)
      · rw [upd_same, cut1]
        show some (HO.lst (List.drop 1 (List.map V.int _))) = some (HO.lst (List.map V.int (List.drop 1 _)))
        rw [List.map_drop]
      · exact q y H5 ((s1.trans s2).trans ((s3.trans s4).trans s5)) hP
end
end Wq

namespace Wq
open PySem PySem.Spec PyProof.Rows L2 Wp
abbrev bL (l : List Bool) : List V := l.map V.bl
abbrev nL (l : List Nat) : List V := l.map fun (i : Nat) => V.int i
theorem bL_at {l : List Bool} {i : Nat} (h : i < l.length) : (bL l)[i]? = some (.bl (l.getD i false)) := by
  rw [List.getElem?_map, List.getElem?_eq_getElem h, getD_lt h]
  rfl
theorem nL_at {l : List Nat} {i : Nat} (h : i < l.length) : (nL l)[i]? = some (.int ((l.getD i 0 : Nat) : Int)) := by
  rw [List.getElem?_map, List.getElem?_eq_getElem h, getD_lt h]
  rfl
/-- [x for x in xs if t], xs a list of places -/
theorem lc_lstF {K : PySem.W.Frag} {a : Addr} {ws : List Nat} {j : Nat} {te : TE} {tt : TT} {vs : List Nat} {σ : L2.St} {H1 : Hp} {D : Addr} {Qd : Hp → Prop} (c : Nat → Bool) (hD : H1 D = none) (ha : SqL K H1 a (nL ws)) (hn : ws.length ≤ 1000)
    (hw : ∀ x, wipe ((wipe σ vs).set j x) vs = wipe σ vs)
    (ht : ∀ i, i ∈ ws → ∀ H', Same H1 H' → ∀ R : Bool → Hp → Prop, (∀ H'', Same H' H'' → R (c i) H'') → tt ((wipe σ vs).set j (some (.int (i : Nat)))) H' R)
    (he : ∀ i : Nat, i ∈ ws → ∀ H' (R : VK), R (.int i) H' → te ((wipe σ vs).set j (some (.int i))) H' R)
    (hd : ∀ H', Same H1 H' → H' D = some (.lst (nL (ws.filter c))) → Qd H') : LcL K a j tt te vs σ H1 D Qd := by
  refine lc_list (K := K) (a := a) (xs := nL ws) (fun i H' => Same H1 H' ∧ H' D = some (.lst (nL ((ws.take i).filter c)))) ⟨same_upd hD, upd_same⟩ (fun i H' _ ⟨s1, _⟩ => s1.seq ha) ?_ ?_
  · rintro i x H' hx ⟨s1, hA⟩
    have hi : i < ws.length := by
      have := (List.getElem?_eq_some_iff.mp hx).1
      rwa [List.length_map] at this
    rw [nL_at hi] at hx
    obtain rfl := Option.some.inj hx
    have hm : ws.getD i 0 ∈ ws := by rw [getD_lt hi]; exact List.getElem_mem _
    refine ⟨hw _, ?_⟩
    refine ht (ws.getD i 0) hm H' s1 _ (fun H'' s2 => ?_)
    have hlen : (nL ((ws.take i).filter c)).length ≤ i := by
      rw [List.length_map]
      exact Nat.le_trans (List.length_filter_le _ _) (by simp; omega)
    have et : ws.take (i + 1) = ws.take i ++ [ws.getD i 0] := by
      rw [List.take_add_one, List.getElem?_eq_getElem hi, getD_lt hi]; rfl
    generalize ws.getD i 0 = y at hm et hx ⊢
    by_cases hc : c y = true
    · rw [if_pos hc]
      refine he _ hm H'' _ ⟨_, s2 _ _ hA, small1000 (by omega), same_of_but hD (s1.trans s2) but_upd, ?_⟩
      rw [upd_same, et, List.filter_append]
      simp [hc]
    · rw [if_neg hc]
      refine ⟨s1.trans s2, ?_⟩
      rw [s2 _ _ hA, et, List.filter_append]
      simp [hc]
  · rintro H' ⟨s1, hA⟩
    rw [List.length_map, List.take_length] at hA
    exact hd H' s1 hA
section
variable {P : Program} {w : World} {K : PySem.W.Frag} {mg : Str → Option Value} {base : Heap}
/-- a test that may be handed over -/
structure Stands (P : Program) (w : World) (K : PySem.W.Frag) (mg : Str → Option Value) (base : Heap) (CS CP : Addr) (c : Test) (f : Addr) (fd : FuncData) : Prop where
  ok : FnOk P w K mg base CX0 4 f fd ["sheet", "payments", "i"] (spRead CS CP fun s p i => .bl (c s p i))
  kp : PySem.W.keepIn K (.ref f) = true
  b : Binds K fd ["sheet", "payments", "i"] []
def fallingP (s : SheetM) (p : PayM) (safe : Nat → Bool) (c : Test) : List Nat := (List.range s.n).filter fun i => (decide (p.fell.getD i 0 = 0) && !safe i) && !c s p i
/-! newly_falling -/
theorem scNewlyFalling : FnScope ["sheet", "payments", "safe", "stands", "waiting", "i"] ["sheet", "payments", "safe", "stands"] (defScope sNewlyFalling) := ⟨rfl, rfl, rfl, by decide +kernel, rfl, by decide +kernel, by decide +kernel⟩
def spNewlyFalling (P : Program) (w : World) (K : PySem.W.Frag) (mg : Str → Option Value) (base : Heap) (CS CP : Addr) : Sp := fun vs H Q _ => ∃ (a b l fs : Addr) (fd : FuncData) (c : Test) (s : SheetM) (p : PayM) (bs : List Bool), vs = [.ref a, .ref b, .ref l, .ref fs] ∧
  Stands P w K mg base CS CP c fs fd ∧ SheetAt CS H a s ∧ PayAt CP H b p ∧ SheetOk s ∧ PayOk s p ∧ H l = some (.lst (bL bs)) ∧ bs.length = s.n ∧
  ∀ r H', Same H H' → H r = none → H' r = some (.lst (nL (fallingP s p (fun i => bs.getD i false) c))) → Q (.ref r) H'
theorem ok_newlyFalling {f CS CP : Addr} {fd : FuncData} (F : Fun K "newly_falling" "newly_falling" sNewlyFalling f fd) (B : Env mg) (TS : CSheet K mg CS) (TP : CPay K mg CP) :
    FnOk P w K mg base CX0 5 f fd ["sheet", "payments", "safe", "stands"] (spNewlyFalling P w K mg base CS CP) := by
  refine F.ok scNewlyFalling (fun vs H Q E h => ?_) (fun cdv A outer s H vs Q E hr h => ?_)
  · obtain ⟨a, b, l, fs, fd, c, s, p, bs, rfl, _⟩ := h
    rfl
  · obtain ⟨a, b, l, fs, fd, c, s, p, bs, rfl, st, hS, hP, so, po, hb, hl, q⟩ := h
    obtain ⟨dx, lo, lw, ld, hs⟩ := id hS
    obtain ⟨dy, la, lf, hp⟩ := id hP
    refine ⟨_, pss_cons (ps_setLc (i := 4) (own := [("i", 5)]) (g := gName 5) rfl scNewlyFalling.nd rfl rfl (sw_true rfl rfl rfl (by decide +kernel))
          (pi_range1 rfl B.range (pa_cons (pe_fld (pv 0) rfl) pa_nil))
          (blkOk_by (own := [("i", 5)]) (N := ["sheet", "payments", "safe", "stands", "waiting", "i"]) (sc := defScope sNewlyFalling) (by decide +kernel))
          (fun _ _ _ _ _ => pg_name (i := 5) scNewlyFalling.nd rfl (Or.inl rfl))
          (fun _ _ _ _ _ => pts_one (PW.pt (pw_and (pt_cmpR op_eq (pe_ix (ix_listK (K := K) rfl) (pe_fldK (K := K) rfl (pv 1) rfl) (pv 5) (fun _ _ => rfl)) pe_int (nomark _)) (pw_and1 (pt_not (pt_val (pe_ix (ix_listK (K := K) rfl) (pv 2) (pv 5) (fun _ _ => rfl))))))))
          (fun _ _ _ _ _ => pv 5))
      (pss_one (ps_ret (pe_lc (own := [("i", 5)]) (g := gName 5) rfl scNewlyFalling.nd (pi_list (pv 4))
          (blkOk_by (own := [("i", 5)]) (N := ["sheet", "payments", "safe", "stands", "waiting", "i"]) (sc := defScope sNewlyFalling) (by decide +kernel))
          (fun _ _ _ _ _ => pg_name (i := 5) scNewlyFalling.nd rfl (Or.inl rfl))
          (fun _ _ _ _ _ => pts_one (pt_not (pt_val (pe_callL (i := 3) st.ok hr rfl (by first | exact Or.inl rfl | exact Or.inr (Or.inl rfl) | exact Or.inr (Or.inr rfl)) st.kp st.b .nil pass0 (pa_cons (pv 0) (pa_cons (pv 1) (pa_cons (pv 5) pa_nil)))))))
          (fun _ _ _ _ _ => pv 5)))), ?_⟩
    have n8 := so.n8
    have en : ((s.n : Int)).toNat = s.n := by omega
    refine ⟨_, rfl, a, CS, dx, _, _, rfl, hs.obj, TS.cl, TS.nParties, sF_parties _ _ _ _, _, rfl, (by omega), (by omega), fun D hD => ?_⟩
    rw [en]
    refine lc_rngF (n := s.n) (fun i => decide (p.fell.getD i 0 = 0) && !bs.getD i false) hD (by omega) (fun _ => rfl) ?_ ?_ ?_
    · intro i hi H' s1 R hR
      have hp' := hp.mono s1
      refine ⟨_, rfl, b, CP, dy, _, _, rfl, hp'.obj, TP.cl, TP.nFell, pF_fell _ _ _, _, rfl, lf, _, _, _, rfl, rfl, SqL.of hp'.fell, atI_nat (lI_at (by rw [po.nFell]; exact hi)), rfl, _, rfl, ite2 (fun c1 => ?_) (fun c1 => ?_)⟩
      · have e0 : p.fell.getD i 0 = 0 := V.int.inj (of_decide_eq_true c1)
        refine ⟨_, rfl, _, rfl, l, _, _, _, rfl, rfl, SqL.of (s1 _ _ hb), atI_nat (bL_at (by omega)), _, rfl, ?_⟩
        have := hR H' (Same.refl _)
        rw [decide_eq_true e0, Bool.true_and] at this
        exact this
      · have e0 : ¬ p.fell.getD i 0 = 0 := fun e => c1 (decide_eq_true (by rw [e]))
        have := hR H' (Same.refl _)
        rw [decide_eq_false e0, Bool.false_and] at this
        exact this
    · intro i hi H' R hR
      exact ⟨_, rfl, hR⟩
    · intro H1 s1 hA
      refine ⟨_, rfl, D, rfl, ⟨_, SqL.of hA⟩, fun G hG => ?_⟩
      refine lc_lstF (K := K) (a := D) (ws := (List.range s.n).filter fun i => decide (p.fell.getD i 0 = 0) && !bs.getD i false) (fun i => !c s p i) hG (SqL.of hA) (Nat.le_trans (List.length_filter_le _ _) (by simp; omega)) (fun _ => rfl) ?_ ?_ ?_
      · intro i hi H' s2 R hR
        have hi : i < s.n := List.mem_range.1 (List.mem_filter.1 hi).1
        refine ⟨rfl, _, rfl, _, rfl, _, rfl, a, b, i, s, p, rfl, (hS.mono s1).mono s2, (hP.mono s1).mono s2, so, po, hi, fun H'' s3 => ⟨_, rfl, ?_⟩⟩
        exact hR H'' s3
      · intro i hi H' R hR
        exact ⟨_, rfl, hR⟩
      · intro H2 s2 hG2
        refine q G H2 (s1.trans s2) (s1.free hG) ?_
        rw [hG2, List.filter_filter]
        unfold fallingP
        congr 3
        refine List.filter_congr (fun i _ => ?_)
        rw [Bool.and_comm]
end
end Wq

namespace Wq
open PySem PySem.Spec PyProof.Rows L2 Wp
def setAll (fl : List Nat) (x : Int) (l : List Int) : List Int := fl.foldl (fun l i => l.set i x) l
theorem setAll_snoc (fl : List Nat) (i : Nat) (x : Int) (l : List Int) : setAll (fl ++ [i]) x l = (setAll fl x l).set i x := by unfold setAll; rw [List.foldl_append]; rfl
theorem setAll_len (x : Int) (l : List Int) : ∀ fl : List Nat, (setAll fl x l).length = l.length := by
  refine snoc_ind rfl (fun fl i ih => ?_)
  rw [setAll_snoc, List.length_set, ih]
theorem setAll_get (x : Int) (l : List Int) (k : Nat) (hk : k < l.length) : ∀ fl : List Nat, (setAll fl x l).getD k 0 = if k ∈ fl then x else l.getD k 0 := by
  refine snoc_ind (by simp [setAll]) (fun fl i ih => ?_)
  rw [setAll_snoc, getD_set, setAll_len, ih]
  by_cases e : i = k
  · subst e; rw [if_pos ⟨rfl, hk⟩, if_pos (List.mem_append_right _ (List.mem_singleton.2 rfl))]
  · rw [if_neg (fun h => e h.1)]
    by_cases h : k ∈ fl
    · rw [if_pos h, if_pos (List.mem_append_left _ h)]
    · rw [if_neg h, if_neg (fun h2 => by
        rcases List.mem_append.1 h2 with h3 | h3
        · exact h h3
        · exact e (List.mem_singleton.1 h3).symm)]
theorem setAll_next {s : SheetM} {safe : Nat → Bool} {c : Test} {wave : Int} {fell : List Int} (hl : fell.length = s.n) : setAll (fallingM s safe c fell) wave fell = fellNext s safe c wave fell := by
  refine ext_getD (by rw [setAll_len, fellNext_len, hl]) (fun i hi => ?_)
  rw [setAll_len] at hi
  rw [setAll_get _ _ _ hi, fellNext_at (by omega)]
  have : i ∈ fallingM s safe c fell ↔ nextM s safe c fell i = true := by
    unfold fallingM
    rw [List.mem_filter, List.mem_range]
    exact ⟨fun h => h.2, fun h => ⟨by omega, h⟩⟩
  by_cases h : nextM s safe c fell i = true
  · rw [if_pos h, if_pos (this.2 h)]
  · rw [if_neg h, if_neg (fun h2 => h (this.1 h2))]
theorem rep_flat {α : Type} (x : α) : ∀ n, (List.replicate n [x]).flatten = List.replicate n x
  | 0 => rfl
  | n + 1 => by rw [List.replicate_succ, List.flatten_cons, rep_flat x n]; rfl
section
variable {P : Program} {w : World} {K : PySem.W.Frag} {mg : Str → Option Value} {base : Heap}
/-! sink -/
theorem scSink : FnScope ["sheet", "safe", "stands", "fell", "wave", "payments", "falling", "i"] ["sheet", "safe", "stands"] (defScope sSink) := ⟨rfl, rfl, rfl, by decide +kernel, rfl, by decide +kernel, by decide +kernel⟩
/-- what must hold on the way down -/
structure Way (s : SheetM) (safe : Nat → Bool) (c : Test) (I : Int → List Int → Prop) : Prop where
  fine : ∀ wave fell, I wave fell → fell.length = s.n ∧ (∀ k, k ≤ s.n → Elim s.n (eqRows s fell) k) ∧ PayOk s (payAfter s fell)
  step : ∀ wave fell, 0 ≤ wave → I wave fell → fallingM s safe c fell ≠ [] → I (wave + 1) (fellNext s safe c (wave + 1) fell)
  start : I 0 (List.replicate s.n 0)
def spSink (P : Program) (w : World) (K : PySem.W.Frag) (mg : Str → Option Value) (base : Heap) (CS CP : Addr) : Sp := fun vs H Q _ => ∃ (a l fs : Addr) (fd : FuncData) (c : Test) (s : SheetM) (bs : List Bool) (I : Int → List Int → Prop), vs = [.ref a, .ref l, .ref fs] ∧
  Stands P w K mg base CS CP c fs fd ∧ SheetAt CS H a s ∧ SheetOk s ∧ H l = some (.lst (bL bs)) ∧ bs.length = s.n ∧ Way s (fun i => bs.getD i false) c I ∧
  ∀ r H', Same H H' → PayAt CP H' r (payAfter s (sinkAll s (fun i => bs.getD i false) c)) → Q (.ref r) H'
theorem ok_sink {f f1 f2 CS CP : Addr} {fd fd1 fd2 : FuncData} (F : Fun K "sink" "sink" sSink f fd) (B : Env mg) (TS : CSheet K mg CS)
    (D1 : Def P w K mg base 4 "payments_after" ["sheet", "fell"] (spPayAfter CS CP) f1 fd1)
    (D2 : Def P w K mg base 5 "newly_falling" ["sheet", "payments", "safe", "stands"] (spNewlyFalling P w K mg base CS CP) f2 fd2) :
    FnOk P w K mg base CX0 6 f fd ["sheet", "safe", "stands"] (spSink P w K mg base CS CP) := by
  refine F.ok scSink (fun vs H Q E h => ?_) (fun cdv A outer s H vs Q E hr h => ?_)
  · obtain ⟨a, l, fs, fd, c, s, bs, I, rfl, _⟩ := h
    rfl
  · obtain ⟨a, l, fs, fd, c, s, bs, I, rfl, st, hS, so, hb, hl, way, q⟩ := h
    obtain ⟨dx, lo, lw, ld, hs⟩ := id hS
    have hr4 : Room 4 _ := hr.mono (by decide)
    refine ⟨_, pss_cons (ps_set (i := 3) scSink.nd rfl (Or.inl rfl) (pe_op op_rep (pe_lst (pa_cons pe_int pa_nil)) (pe_fld (pv 0) rfl)))
      (pss_cons (ps_set (i := 4) scSink.nd rfl (Or.inl rfl) pe_int)
      (pss_cons (ps_set (i := 5) scSink.nd rfl (Or.inl rfl) (pe_call D1.ok hr4 rfl D1.here D1.kp D1.b .nil pass0 (pa_cons (pv 0) (pa_cons (pv 3) pa_nil))))
      (pss_cons (ps_set (i := 6) scSink.nd rfl (Or.inl rfl) (pe_call D2.ok hr rfl D2.here D2.kp D2.b .nil pass0 (pa_cons (pv 0) (pa_cons (pv 5) (pa_cons (pv 1) (pa_cons (pv 2) pa_nil))))))
      (pss_cons (ps_while PassesOwn.never (pt_cmpR op_gt (pe_callB call_len_seq (by rfl) B.len PySem.boot_len (pa_cons (pv 6) pa_nil)) pe_int (nomark _))
        (pss_cons (ps_set (i := 4) scSink.nd rfl (Or.inl rfl) (pe_op op_add (pv 4) pe_int))
        (pss_cons (ps_for PassesOwn.never rfl (pi_list (pv 6)) (pg_name (i := 7) scSink.nd rfl (Or.inl rfl)) (pss_one (ps_asg (pv 4) (pg_sub (pv 3) (pv 7) set_list))))
        (pss_cons (ps_set (i := 5) scSink.nd rfl (Or.inl rfl) (pe_call D1.ok hr4 rfl D1.here D1.kp D1.b .nil pass0 (pa_cons (pv 0) (pa_cons (pv 3) pa_nil))))
        (pss_one (ps_set (i := 6) scSink.nd rfl (Or.inl rfl) (pe_call D2.ok hr rfl D2.here D2.kp D2.b .nil pass0 (pa_cons (pv 0) (pa_cons (pv 5) (pa_cons (pv 1) (pa_cons (pv 2) pa_nil)))))))))))
      (pss_one (ps_ret (pv 5))))))), ?_⟩
    have n8 := so.n8
    have en : ((s.n : Int)).toNat = s.n := by omega
    -- fell = [0] * sheet.parties
    refine ⟨(by show 1 ≤ sizeLine; decide), fun z hz => ?_⟩
    have sz := same_upd (o := .lst [V.int 0]) hz
    refine ⟨_, rfl, a, CS, dx, _, _, rfl, (hs.mono sz).obj, TS.cl, TS.nParties, sF_parties _ _ _ _, z, _, _, rfl, rfl, upd_same, (by omega), (by omega), ?_, fun lf hlf => ?_⟩
    · rw [en]
      exact Nat.le_of_lt (small1000 (by simp; omega))
    have efl : (List.replicate ((s.n : Int)).toNat [V.int 0]).flatten = lI (List.replicate s.n 0) := by
      rw [en, rep_flat]
      show _ = List.map V.int _
      rw [List.map_replicate]
    rw [efl]
    have slf := same_upd (o := .lst (lI (List.replicate s.n 0))) hlf
    have hlf0 : H lf = none := sz.free hlf
    -- the way's start
    have tell : ∀ {wave : Int} {fell : List Int}, I wave fell → fell.length = s.n ∧ (∀ k, k ≤ s.n → Elim s.n (eqRows s fell) k) ∧ PayOk s (payAfter s fell) := fun h => way.fine _ _ h
    have i0 := way.start
    have sH := sz.trans slf
    refine ⟨_, rfl, _, rfl, a, lf, s, List.replicate s.n 0, rfl, hS.mono sH, so, upd_same, (tell i0).1, (tell i0).2.1, fun b H1 s1 hP1 => ?_⟩
    refine ⟨_, rfl, _, rfl, _, rfl, _, rfl, a, b, l, fs, fd, c, s, payAfter s (List.replicate s.n 0), bs, rfl, st, (hS.mono sH).mono s1, hP1, so, (tell i0).2.2, s1 _ _ (sH _ _ hb), hl, fun r H2 s2 nr hr2 => ?_⟩
    have lf1 := s1 lf _ upd_same
    refine ⟨fun mm σ H' => ∃ (wave : Int) (fell : List Int) (b r : Addr) (x7 : Option V), σ = [some (.ref a), some (.ref l), some (.ref fs), some (.ref lf), some (.int wave), some (.ref b), some (.ref r), x7] ∧
        Same H H' ∧ H' lf = some (.lst (lI fell)) ∧ PayAt CP H' b (payAfter s fell) ∧ H' r = some (.lst (nL (fallingM s (fun i => bs.getD i false) c fell))) ∧ r ≠ lf ∧ I wave fell ∧ 0 ≤ wave ∧
        (∃ k, cnt (zer fell) s.n < k ∧ sinkM s (fun i => bs.getD i false) c k wave fell = sinkAll s (fun i => bs.getD i false) c) ∧ mm = cnt (zer fell) s.n,
      ⟨_, 0, List.replicate s.n 0, b, r, none, rfl, (sH.trans s1).trans s2, s2 _ _ lf1, hP1.mono s2, hr2, ?_, i0, by omega, ⟨s.n + 1, by have := cnt_bound (zer (List.replicate s.n 0)) s.n; omega, rfl⟩, rfl⟩, ?_⟩
    · intro e
      rw [e, lf1] at nr
      cases nr
    · rintro mm σ H' ⟨wave, fell, b, r, x7, rfl, sm, hf, hP, hfl, hne, hI, hw, ⟨k, hk, hsink⟩, em⟩
      obtain ⟨hlen, hel, hpo⟩ := tell hI
      refine ⟨_, rfl, r, _, rfl, .inl (SqL.of hfl), _, _, rfl, rfl, _, rfl, ite2 (fun c1 => ?_) (fun c1 => ?_)⟩
      · have hpos : fallingM s (fun i => bs.getD i false) c fell ≠ [] := by
          intro e
          have := of_decide_eq_true c1
          rw [e] at this
          simp at this
        have hI' := way.step wave fell hw hI hpos
        have hz := zer_next (wave := wave + 1) (by omega) hpos
        refine ⟨_, fun σ' H'' hN => hN, _, rfl, _, _, rfl, rfl, ?_⟩
        refine ⟨_, rfl, r, rfl, ⟨_, SqL.of hfl⟩, for_list (K := K) (a := r) (xs := nL (fallingM s (fun i => bs.getD i false) c fell)) (fun j σ H'' => ∃ x7, σ = [some (.ref a), some (.ref l), some (.ref fs), some (.ref lf), some (.int (wave + 1)), some (.ref b), some (.ref r), x7] ∧
            H'' = upd H' lf (.lst (lI (setAll ((fallingM s (fun i => bs.getD i false) c fell).take j) (wave + 1) fell))))
          ⟨x7, rfl, ?_⟩ (fun j σ H'' _ ⟨_, _, e⟩ => by rw [e]; exact SqL.of (by rw [upd_ne hne]; exact hfl)) ?_ ?_⟩
        · funext d
          by_cases e : d = lf
          · subst e; rw [upd_same, hf]; rfl
          · rw [upd_ne e]
        · rintro j x σ H'' hx ⟨x7, rfl, rfl⟩
          have hj : j < (fallingM s (fun i => bs.getD i false) c fell).length := by
            have := (List.getElem?_eq_some_iff.mp hx).1
            rwa [List.length_map] at this
          rw [nL_at hj] at hx
          obtain rfl := Option.some.inj hx
          have et : (fallingM s (fun i => bs.getD i false) c fell).take (j + 1) = (fallingM s (fun i => bs.getD i false) c fell).take j ++ [(fallingM s (fun i => bs.getD i false) c fell).getD j 0] := by
            rw [List.take_add_one, List.getElem?_eq_getElem hj, getD_lt hj]; rfl
          have hin : (fallingM s (fun i => bs.getD i false) c fell).getD j 0 < s.n := by
            rw [getD_lt hj]
            have := List.getElem_mem hj
            exact List.mem_range.1 (List.mem_filter.1 this).1
          refine ⟨_, rfl, _, rfl, _, rfl, lf, _, _, _, rfl, rfl, upd_same, ixN_nat (by rw [List.length_map, setAll_len, hlen]; exact hin), _, rfl, ?_⟩
          rw [upd_upd, lI_set, et, setAll_snoc]
        · rintro σ H'' ⟨x7, rfl, rfl⟩
          rw [List.length_map, List.take_length, setAll_next hlen]
          obtain ⟨hlen', hel', hpo'⟩ := tell hI'
          have sX : Same H (upd H' lf (.lst (lI (fellNext s (fun i => bs.getD i false) c (wave + 1) fell)))) := same_but hlf0 sm
          refine ⟨_, rfl, _, rfl, a, lf, s, fellNext s (fun i => bs.getD i false) c (wave + 1) fell, rfl, hS.mono sX, so, upd_same, hlen', hel', fun b' H3 s3 hP3 => ?_⟩
          refine ⟨_, rfl, _, rfl, _, rfl, _, rfl, a, b', l, fs, fd, c, s, payAfter s (fellNext s (fun i => bs.getD i false) c (wave + 1) fell), bs, rfl, st, (hS.mono sX).mono s3, hP3, so, hpo', s3 _ _ (sX _ _ hb), hl, fun r' H4 s4 nr' hr4' => ?_⟩
          have lf3 := s3 lf _ upd_same
          refine ⟨_, (by rw [em]; exact hz), wave + 1, fellNext s (fun i => bs.getD i false) c (wave + 1) fell, b', r', x7, rfl, (sX.trans s3).trans s4, s4 _ _ lf3, hP3.mono s4, hr4', ?_, hI', by omega, ?_, rfl⟩
          · intro e
            rw [e, lf3] at nr'
            cases nr'
          · cases k with
            | zero => omega
            | succ k =>
              refine ⟨k, by omega, ?_⟩
              rw [← hsink]
              conv => rhs; unfold sinkM
              rw [if_neg hpos]
      · have hnil : fallingM s (fun i => bs.getD i false) c fell = [] := by
          cases e : fallingM s (fun i => bs.getD i false) c fell with
          | nil => rfl
          | cons x xs =>
            exact absurd (decide_eq_true (by rw [e]; simp)) c1
        have e : sinkAll s (fun i => bs.getD i false) c = fell := by
          rw [← hsink]
          cases k with
          | zero => omega
          | succ k =>
            unfold sinkM
            rw [if_pos hnil]
        refine ⟨_, rfl, q b H' sm ?_⟩
        rw [e]; exact hP
end
end Wq

namespace Wq
open PySem PySem.Spec PyProof.Rows L2 Wp
section
variable {s : SheetM} {safe safe' : Nat → Bool} {c : Test}
theorem nextM_ext (h : ∀ i, i < s.n → safe i = safe' i) (fell : List Int) {i : Nat} (hi : i < s.n) : nextM s safe c fell i = nextM s safe' c fell i := by
  unfold nextM; rw [h i hi]
theorem falling_ext (h : ∀ i, i < s.n → safe i = safe' i) (fell : List Int) : fallingM s safe c fell = fallingM s safe' c fell := by
  unfold fallingM
  exact List.filter_congr (fun i hi => nextM_ext h fell (List.mem_range.1 hi))
theorem fellNext_ext (h : ∀ i, i < s.n → safe i = safe' i) (wave : Int) (fell : List Int) : fellNext s safe c wave fell = fellNext s safe' c wave fell := by
  unfold fellNext
  exact List.map_congr_left (fun i hi => by rw [nextM_ext h fell (List.mem_range.1 hi)])
theorem sinkM_ext (h : ∀ i, i < s.n → safe i = safe' i) : ∀ (k : Nat) (wave : Int) (fell : List Int), sinkM s safe c k wave fell = sinkM s safe' c k wave fell
  | 0, _, _ => rfl
  | k + 1, wave, fell => by
    unfold sinkM
    rw [falling_ext h, fellNext_ext h, sinkM_ext h k]
theorem sinkAll_ext (h : ∀ i, i < s.n → safe i = safe' i) : sinkAll s safe c = sinkAll s safe' c := sinkM_ext h _ _ _
theorem riseM_ext (h : ∀ i, i < s.n → safe i = safe' i) (fell : List Int) {i : Nat} (hi : i < s.n) : riseM s safe fell i = riseM s safe' fell i := by
  unfold riseM; rw [h i hi]
theorem rising_ext (h : ∀ i, i < s.n → safe i = safe' i) (fell : List Int) : risingM s safe fell = risingM s safe' fell := by
  unfold risingM
  exact List.filter_congr (fun i hi => riseM_ext h fell (List.mem_range.1 hi))
end
theorem leastM_ext {s : SheetM} : ∀ (k : Nat) {safe safe' : Nat → Bool}, (∀ i, i < s.n → safe i = safe' i) → leastM s k safe = leastM s k safe'
  | 0, _, _, h => sinkAll_ext h
  | k + 1, safe, safe', h => by
    unfold leastM
    rw [sinkAll_ext h, rising_ext h]
    rw [leastM_ext k (safe := fun i => safe i || riseM s safe (sinkAll s safe' keptM) i) (safe' := fun i => safe' i || riseM s safe' (sinkAll s safe' keptM) i) (fun i hi => by rw [h i hi, riseM_ext h _ hi])]
def setAllB (fl : List Nat) (l : List Bool) : List Bool := fl.foldl (fun l i => l.set i true) l
theorem setAllB_snoc (fl : List Nat) (i : Nat) (l : List Bool) : setAllB (fl ++ [i]) l = (setAllB fl l).set i true := by unfold setAllB; rw [List.foldl_append]; rfl
theorem setAllB_len (l : List Bool) : ∀ fl : List Nat, (setAllB fl l).length = l.length := by
  refine snoc_ind rfl (fun fl i ih => ?_)
  rw [setAllB_snoc, List.length_set, ih]
theorem setAllB_get (l : List Bool) (k : Nat) (hk : k < l.length) : ∀ fl : List Nat, (setAllB fl l).getD k false = if k ∈ fl then true else l.getD k false := by
  refine snoc_ind (by simp [setAllB]) (fun fl i ih => ?_)
  rw [setAllB_snoc, getD_set, setAllB_len, ih]
  by_cases e : i = k
  · subst e; rw [if_pos ⟨rfl, hk⟩, if_pos (List.mem_append_right _ (List.mem_singleton.2 rfl))]
  · rw [if_neg (fun h => e h.1)]
    by_cases h : k ∈ fl
    · rw [if_pos h, if_pos (List.mem_append_left _ h)]
    · rw [if_neg h, if_neg (fun h2 => by
        rcases List.mem_append.1 h2 with h3 | h3
        · exact h h3
        · exact e (List.mem_singleton.1 h3).symm)]
theorem setAllB_rise {s : SheetM} {bs : List Bool} {fell : List Int} (hl : bs.length = s.n) : ∀ i, i < s.n → (setAllB (risingM s (fun i => bs.getD i false) fell) bs).getD i false = (bs.getD i false || riseM s (fun i => bs.getD i false) fell i) := by
  intro i hi
  rw [setAllB_get _ _ (by omega)]
  have : i ∈ risingM s (fun i => bs.getD i false) fell ↔ riseM s (fun i => bs.getD i false) fell i = true := by
    unfold risingM
    rw [List.mem_filter, List.mem_range]
    exact ⟨fun h => h.2, fun h => ⟨hi, h⟩⟩
  by_cases h : riseM s (fun i => bs.getD i false) fell i = true
  · rw [if_pos (this.2 h), h, Bool.or_true]
  · rw [if_neg (fun h2 => h (this.1 h2))]
    have h : riseM s (fun i => bs.getD i false) fell i = false := by simpa using h
    rw [h, Bool.or_false]
theorem bL_set (l : List Bool) (i : Nat) (x : Bool) : (bL l).set i (.bl x) = bL (l.set i x) := by
  show (List.map V.bl l).set i (V.bl x) = List.map V.bl (l.set i x)
  rw [List.map_set]
theorem falses_get (n i : Nat) : (List.replicate n false).getD i false = false := by
  by_cases h : i < n
  · rw [getD_lt (by simpa using h)]; simp
  · exact getD_out (by simp; omega)
theorem falses_fun (n : Nat) : (fun i => (List.replicate n false).getD i false) = heldS none := by
  funext i; rw [falses_get]; rfl
section
variable {P : Program} {w : World} {K : PySem.W.Frag} {mg : Str → Option Value} {base : Heap}
theorem HouseOk.wayCan {m : HouseM} (ok : HouseOk m) (safe : Nat → Bool) : Way (sheetOf m) safe canM (fun _ fell => Ready m fell) where
  fine := fun _ fell r => ⟨r.len, ok.elim r.nc r.owing, (ok.rel r).ok⟩
  step := fun wave fell hw r _ => ok.ready_can r (by omega)
  start := ready0
theorem HouseOk.wayKept {m : HouseM} (ok : HouseOk m) (hk : (sysOf m).keptPaid < 1) (safe : Nat → Bool) : Way (sheetOf m) safe keptM (fun _ fell => Ready m fell) where
  fine := fun _ fell r => ⟨r.len, ok.elim r.nc r.owing, (ok.rel r).ok⟩
  step := fun wave fell hw r _ => ok.ready_kept hk r (by omega)
  start := ready0
/-! greatest_payments -/
theorem scGreatest : FnScope ["sheet"] ["sheet"] (defScope sGreatest) := ⟨rfl, rfl, rfl, by decide +kernel, rfl, by decide +kernel, by decide +kernel⟩
def spGreatest (CS CP : Addr) : Sp := fun vs H Q _ => ∃ (a : Addr) (m : HouseM), vs = [.ref a] ∧ SheetAt CS H a (sheetOf m) ∧ HouseOk m ∧
  ∀ r H', Same H H' → PayAt CP H' r (payAfter (sheetOf m) (sinkAll (sheetOf m) (heldS none) canM)) → Q (.ref r) H'
theorem ok_greatest {f f1 f2 CS CP : Addr} {fd fd1 fd2 : FuncData} (F : Fun K "greatest_payments" "greatest_payments" sGreatest f fd) (TS : CSheet K mg CS)
    (D1 : Def P w K mg base 6 "sink" ["sheet", "safe", "stands"] (spSink P w K mg base CS CP) f1 fd1) (S2 : Stands P w K mg base CS CP canM f2 fd2) (g2 : mg "can_pay" = some (.ref f2)) :
    FnOk P w K mg base CX0 7 f fd ["sheet"] (spGreatest CS CP) := by
  refine F.ok scGreatest (fun vs H Q E h => ?_) (fun cdv A outer s H vs Q E hr h => ?_)
  · obtain ⟨a, m, rfl, _⟩ := h
    rfl
  · obtain ⟨a, m, rfl, hS, ok, q⟩ := h
    obtain ⟨dx, lo, lw, ld, hs⟩ := id hS
    refine ⟨_, pss_one (ps_ret (pe_call D1.ok hr rfl D1.here D1.kp D1.b .nil pass0 (pa_cons (pv 0) (pa_cons (pe_op op_rep (pe_lst (pa_cons pe_bl pa_nil)) (pe_fld (pv 0) rfl)) (pa_cons (pe_glob (v := .ref f2) rfl g2 rfl) pa_nil))))), ?_⟩
    have n8 := ok.n8
    have en : ((m.n : Int)).toNat = m.n := by omega
    refine ⟨_, rfl, (by show 1 ≤ sizeLine; decide), fun z hz => ?_⟩
    have sz := same_upd (o := .lst [V.bl false]) hz
    refine ⟨_, rfl, a, CS, dx, _, _, rfl, (hs.mono sz).obj, TS.cl, TS.nParties, sF_parties _ _ _ _, z, _, _, rfl, rfl, upd_same, (by show -(2 ^ 63 : Int) ≤ (m.n : Int); omega), (by show (m.n : Int) < 2 ^ 63; omega), ?_, fun l hl => ?_⟩
    · show [V.bl false].length * ((m.n : Int)).toNat ≤ sizeLine
      rw [en]
      exact Nat.le_of_lt (small1000 (by simp; omega))
    have efl : (List.replicate (((sheetOf m).n : Int)).toNat [V.bl false]).flatten = bL (List.replicate m.n false) := by
      show (List.replicate ((m.n : Int)).toNat [V.bl false]).flatten = List.map V.bl _
      rw [en, rep_flat, List.map_replicate]
    rw [efl]
    have sH := sz.trans (same_upd (o := .lst (bL (List.replicate m.n false))) hl)
    refine ⟨a, l, f2, fd2, canM, sheetOf m, List.replicate m.n false, _, rfl, S2, hS.mono sH, ok.sheetOk, upd_same, by simp; rfl, ok.wayCan _, fun r H' s' hP => ?_⟩
    rw [falses_fun] at hP
    exact q r H' (sH.trans s') hP
/-! newly_safe -/
theorem scNewlySafe : FnScope ["sheet", "payments", "safe", "i"] ["sheet", "payments", "safe"] (defScope sNewlySafe) := ⟨rfl, rfl, rfl, by decide +kernel, rfl, by decide +kernel, by decide +kernel⟩
def spNewlySafe (CS CP : Addr) : Sp := fun vs H Q _ => ∃ (a b l : Addr) (s : SheetM) (p : PayM) (bs : List Bool), vs = [.ref a, .ref b, .ref l] ∧
  SheetAt CS H a s ∧ PayAt CP H b p ∧ SheetOk s ∧ PayOk s p ∧ H l = some (.lst (bL bs)) ∧ bs.length = s.n ∧
  ∀ r H', Same H H' → H r = none → H' r = some (.lst (nL ((List.range s.n).filter fun i => !bs.getD i false && canM s p i))) → Q (.ref r) H'
theorem ok_newlySafe {f f1 CS CP : Addr} {fd fd1 : FuncData} (F : Fun K "newly_safe" "newly_safe" sNewlySafe f fd) (B : Env mg) (TS : CSheet K mg CS)
    (D1 : Def P w K mg base 4 "can_pay" ["sheet", "payments", "i"] (spRead CS CP fun s p i => .bl (canM s p i)) f1 fd1) :
    FnOk P w K mg base CX0 5 f fd ["sheet", "payments", "safe"] (spNewlySafe CS CP) := by
  refine F.ok scNewlySafe (fun vs H Q E h => ?_) (fun cdv A outer s H vs Q E hr h => ?_)
  · obtain ⟨a, b, l, s, p, bs, rfl, _⟩ := h
    rfl
  · obtain ⟨a, b, l, s, p, bs, rfl, hS, hP, so, po, hb, hl, q⟩ := h
    obtain ⟨dx, lo, lw, ld, hs⟩ := id hS
    refine ⟨_, pss_one (ps_ret (pe_lc (own := [("i", 3)]) (g := gName 3) rfl scNewlySafe.nd
          (pi_range1 rfl B.range (pa_cons (pe_fld (pv 0) rfl) pa_nil))
          (blkOk_by (own := [("i", 3)]) (N := ["sheet", "payments", "safe", "i"]) (sc := defScope sNewlySafe) (by decide +kernel))
          (fun _ _ _ _ _ => pg_name (i := 3) scNewlySafe.nd rfl (Or.inl rfl))
          (fun _ _ _ _ _ => pts_one (PW.pt (pw_and (pt_not (pt_val (pe_ix (ix_listK (K := K) rfl) (pv 2) (pv 3) (fun _ _ => rfl)))) (pw_and1 (pt_val (pe_call D1.ok hr rfl D1.here D1.kp D1.b .nil pass0 (pa_cons (pv 0) (pa_cons (pv 1) (pa_cons (pv 3) pa_nil)))))))))
          (fun _ _ _ _ _ => pv 3))), ?_⟩
    have n8 := so.n8
    have en : ((s.n : Int)).toNat = s.n := by omega
    refine ⟨_, rfl, a, CS, dx, _, _, rfl, hs.obj, TS.cl, TS.nParties, sF_parties _ _ _ _, _, rfl, (by omega), (by omega), fun D hD => ?_⟩
    rw [en]
    refine lc_rngF (n := s.n) (fun i => !bs.getD i false && canM s p i) hD (by omega) (fun _ => rfl) ?_ ?_ ?_
    · intro i hi H' s1 R hR
      refine ⟨_, rfl, _, rfl, l, _, _, _, rfl, rfl, SqL.of (s1 _ _ hb), atI_nat (bL_at (by omega)), _, rfl, ite2 (fun c1 => ?_) (fun c1 => ?_)⟩
      · refine ⟨_, rfl, _, rfl, _, rfl, a, b, i, s, p, rfl, hS.mono s1, hP.mono s1, so, po, hi, fun H2 s2 => ⟨_, rfl, ?_⟩⟩
        have := hR H2 s2
        rw [c1, Bool.true_and] at this
        exact this
      · have := hR H' (Same.refl _)
        have c1 : (!bs.getD i false) = false := by simpa using c1
        rw [c1, Bool.false_and] at this
        exact this
    · intro i hi H' R hR
      exact ⟨_, rfl, hR⟩
    · intro H1 s1 hA
      exact q D H1 s1 hD hA
/-! least_payments -/
theorem scLeast : FnScope ["sheet", "safe", "payments", "rising", "i"] ["sheet"] (defScope sLeast) := ⟨rfl, rfl, rfl, by decide +kernel, rfl, by decide +kernel, by decide +kernel⟩
def spLeast (CS CP : Addr) : Sp := fun vs H Q _ => ∃ (a : Addr) (m : HouseM), vs = [.ref a] ∧ SheetAt CS H a (sheetOf m) ∧ HouseOk m ∧ (sysOf m).keptPaid < 1 ∧
  ∀ r H', Same H H' → PayAt CP H' r (payAfter (sheetOf m) (leastM (sheetOf m) (m.n + 1) fun _ => false)) → Q (.ref r) H'
theorem ok_least {f f1 f2 f3 CS CP : Addr} {fd fd1 fd2 fd3 : FuncData} (F : Fun K "least_payments" "least_payments" sLeast f fd) (B : Env mg) (TS : CSheet K mg CS)
    (D1 : Def P w K mg base 6 "sink" ["sheet", "safe", "stands"] (spSink P w K mg base CS CP) f1 fd1) (S2 : Stands P w K mg base CS CP keptM f2 fd2) (g2 : mg "can_pay_from_kept" = some (.ref f2))
    (D3 : Def P w K mg base 5 "newly_safe" ["sheet", "payments", "safe"] (spNewlySafe CS CP) f3 fd3) :
    FnOk P w K mg base CX0 7 f fd ["sheet"] (spLeast CS CP) := by
  refine F.ok scLeast (fun vs H Q E h => ?_) (fun cdv A outer s H vs Q E hr h => ?_)
  · obtain ⟨a, m, rfl, _⟩ := h
    rfl
  · obtain ⟨a, m, rfl, hS, ok, hk, q⟩ := h
    obtain ⟨dx, lo, lw, ld, hs⟩ := id hS
    have hr5 : Room 5 _ := hr.mono (by decide)
    refine ⟨_, pss_cons (ps_set (i := 1) scLeast.nd rfl (Or.inl rfl) (pe_op op_rep (pe_lst (pa_cons pe_bl pa_nil)) (pe_fld (pv 0) rfl)))
      (pss_cons (ps_set (i := 2) scLeast.nd rfl (Or.inl rfl) (pe_call D1.ok hr rfl D1.here D1.kp D1.b .nil pass0 (pa_cons (pv 0) (pa_cons (pv 1) (pa_cons (pe_glob (v := .ref f2) rfl g2 rfl) pa_nil)))))
      (pss_cons (ps_set (i := 3) scLeast.nd rfl (Or.inl rfl) (pe_call D3.ok hr5 rfl D3.here D3.kp D3.b .nil pass0 (pa_cons (pv 0) (pa_cons (pv 2) (pa_cons (pv 1) pa_nil)))))
      (pss_cons (ps_while PassesOwn.never (pt_cmpR op_gt (pe_callB call_len_seq (by rfl) B.len PySem.boot_len (pa_cons (pv 3) pa_nil)) pe_int (nomark _))
        (pss_cons (ps_for PassesOwn.never rfl (pi_list (pv 3)) (pg_name (i := 4) scLeast.nd rfl (Or.inl rfl)) (pss_one (ps_asg pe_bl (pg_sub (pv 1) (pv 4) set_list))))
        (pss_cons (ps_set (i := 2) scLeast.nd rfl (Or.inl rfl) (pe_call D1.ok hr rfl D1.here D1.kp D1.b .nil pass0 (pa_cons (pv 0) (pa_cons (pv 1) (pa_cons (pe_glob (v := .ref f2) rfl g2 rfl) pa_nil)))))
        (pss_one (ps_set (i := 3) scLeast.nd rfl (Or.inl rfl) (pe_call D3.ok hr5 rfl D3.here D3.kp D3.b .nil pass0 (pa_cons (pv 0) (pa_cons (pv 2) (pa_cons (pv 1) pa_nil)))))))))
      (pss_one (ps_ret (pv 2)))))), ?_⟩
    have n8 := ok.n8
    have so := ok.sheetOk
    have en : ((m.n : Int)).toNat = m.n := by omega
    refine ⟨(by show 1 ≤ sizeLine; decide), fun z hz => ?_⟩
    have sz := same_upd (o := .lst [V.bl false]) hz
    refine ⟨_, rfl, a, CS, dx, _, _, rfl, (hs.mono sz).obj, TS.cl, TS.nParties, sF_parties _ _ _ _, z, _, _, rfl, rfl, upd_same, (by show -(2 ^ 63 : Int) ≤ (m.n : Int); omega), (by show (m.n : Int) < 2 ^ 63; omega), ?_, fun l hl => ?_⟩
    · show [V.bl false].length * ((m.n : Int)).toNat ≤ sizeLine
      rw [en]
      exact Nat.le_of_lt (small1000 (by simp; omega))
    have efl : (List.replicate (((sheetOf m).n : Int)).toNat [V.bl false]).flatten = bL (List.replicate m.n false) := by
      show (List.replicate ((m.n : Int)).toNat [V.bl false]).flatten = List.map V.bl _
      rw [en, rep_flat, List.map_replicate]
    rw [efl]
    have sH := sz.trans (same_upd (o := .lst (bL (List.replicate m.n false))) hl)
    have hl0 : H l = none := sz.free hl
    refine ⟨_, rfl, _, rfl, a, l, f2, fd2, keptM, sheetOf m, List.replicate m.n false, _, rfl, S2, hS.mono sH, so, upd_same, by simp; rfl, ok.wayKept hk _, fun b H1 s1 hP1 => ?_⟩
    have l1 := s1 l _ upd_same
    refine ⟨_, rfl, _, rfl, _, rfl, a, b, l, sheetOf m, _, List.replicate m.n false, rfl, (hS.mono sH).mono s1, hP1, so, (ok.rel (ok.capd hk _).ready).ok, l1, by simp; rfl, fun r H2 s2 nr hr2 => ?_⟩
    refine ⟨fun mm σ H' => ∃ (bs : List Bool) (b r : Addr) (x4 : Option V), σ = [some (.ref a), some (.ref l), some (.ref b), some (.ref r), x4] ∧ Same H H' ∧ H' l = some (.lst (bL bs)) ∧ bs.length = m.n ∧
        PayAt CP H' b (payAfter (sheetOf m) (sinkAll (sheetOf m) (fun i => bs.getD i false) keptM)) ∧ H' r = some (.lst (nL (risingM (sheetOf m) (fun i => bs.getD i false) (sinkAll (sheetOf m) (fun i => bs.getD i false) keptM)))) ∧ r ≠ l ∧
        (∃ k, cnt (fun i => !bs.getD i false) m.n < k ∧ leastM (sheetOf m) k (fun i => bs.getD i false) = leastM (sheetOf m) (m.n + 1) fun _ => false) ∧ mm = cnt (fun i => !bs.getD i false) m.n,
      ⟨_, List.replicate m.n false, b, r, none, rfl, (sH.trans s1).trans s2, s2 _ _ l1, by simp, hP1.mono s2, hr2, ?_, ⟨m.n + 1, by have := cnt_bound (fun i => !(List.replicate m.n false).getD i false) m.n; omega, leastM_ext _ (fun i _ => falses_get _ _)⟩, rfl⟩, ?_⟩
    · intro e
      rw [e, l1] at nr
      cases nr
    · rintro mm σ H' ⟨bs, b, r, x4, rfl, sm, hb, hbl, hP, hri, hne, ⟨k, hkk, hleast⟩, em⟩
      refine ⟨_, rfl, r, _, rfl, .inl (SqL.of hri), _, _, rfl, rfl, _, rfl, ite2 (fun c1 => ?_) (fun c1 => ?_)⟩
      · have hpos : risingM (sheetOf m) (fun i => bs.getD i false) (sinkAll (sheetOf m) (fun i => bs.getD i false) keptM) ≠ [] := by
          intro e
          have := of_decide_eq_true c1
          rw [e] at this
          simp at this
        refine ⟨_, fun σ' H'' hN => hN, ?_⟩
        refine ⟨_, rfl, r, rfl, ⟨_, SqL.of hri⟩, for_list (K := K) (a := r) (xs := nL (risingM (sheetOf m) (fun i => bs.getD i false) (sinkAll (sheetOf m) (fun i => bs.getD i false) keptM))) (fun j σ H'' => ∃ x4, σ = [some (.ref a), some (.ref l), some (.ref b), some (.ref r), x4] ∧
            H'' = upd H' l (.lst (bL (setAllB ((risingM (sheetOf m) (fun i => bs.getD i false) (sinkAll (sheetOf m) (fun i => bs.getD i false) keptM)).take j) bs))))
          ⟨x4, rfl, ?_⟩ (fun j σ H'' _ ⟨_, _, e⟩ => by rw [e]; exact SqL.of (by rw [upd_ne hne]; exact hri)) ?_ ?_⟩
        · funext d
          by_cases e : d = l
          · subst e; rw [upd_same, hb]; rfl
          · rw [upd_ne e]
        · rintro j x σ H'' hx ⟨x4, rfl, rfl⟩
          generalize hfl : risingM (sheetOf m) (fun i => bs.getD i false) (sinkAll (sheetOf m) (fun i => bs.getD i false) keptM) = fl at *
          have hj : j < fl.length := by
            have := (List.getElem?_eq_some_iff.mp hx).1
            rwa [List.length_map] at this
          rw [nL_at hj] at hx
          obtain rfl := Option.some.inj hx
          have et : fl.take (j + 1) = fl.take j ++ [fl.getD j 0] := by
            rw [List.take_add_one, List.getElem?_eq_getElem hj, getD_lt hj]; rfl
          have hin : fl.getD j 0 < m.n := by
            rw [getD_lt hj]
            have := List.getElem_mem hj
            conv at this => lhs; rw [← hfl]
            exact List.mem_range.1 (List.mem_filter.1 this).1
          refine ⟨_, rfl, _, rfl, l, _, _, _, rfl, rfl, upd_same, ixN_nat (by rw [List.length_map, setAllB_len, hbl]; exact hin), _, rfl, ?_⟩
          rw [upd_upd, bL_set, et, setAllB_snoc]
        · rintro σ H'' ⟨x4, rfl, rfl⟩
          rw [List.length_map, List.take_length]
          have hset := setAllB_rise (s := sheetOf m) (bs := bs) (fell := sinkAll (sheetOf m) (fun i => bs.getD i false) keptM) hbl
          have hlen' := setAllB_len bs (risingM (sheetOf m) (fun i => bs.getD i false) (sinkAll (sheetOf m) (fun i => bs.getD i false) keptM))
          generalize hbs : setAllB (risingM (sheetOf m) (fun i => bs.getD i false) (sinkAll (sheetOf m) (fun i => bs.getD i false) keptM)) bs = bs' at *
          rw [hbl] at hlen'
          have sX : Same H (upd H' l (.lst (bL bs'))) := same_but hl0 sm
          refine ⟨_, rfl, _, rfl, a, l, f2, fd2, keptM, sheetOf m, bs', _, rfl, S2, hS.mono sX, so, upd_same, hlen', ok.wayKept hk _, fun b' H3 s3 hP3 => ?_⟩
          have l3 := s3 l _ upd_same
          refine ⟨_, rfl, _, rfl, _, rfl, a, b', l, sheetOf m, _, bs', rfl, (hS.mono sX).mono s3, hP3, so, (ok.rel (ok.capd hk _).ready).ok, l3, hlen', fun r' H4 s4 nr' hr4 => ?_⟩
          have hz : cnt (fun i => !bs'.getD i false) m.n < cnt (fun i => !bs.getD i false) m.n := by
            have ⟨j, hj, hrj⟩ : ∃ j, j < m.n ∧ riseM (sheetOf m) (fun i => bs.getD i false) (sinkAll (sheetOf m) (fun i => bs.getD i false) keptM) j = true := by
              refine Classical.byContradiction (fun h2 => hpos (rising_nil.2 (fun i hi => ?_)))
              cases e4 : riseM (sheetOf m) (fun i => bs.getD i false) (sinkAll (sheetOf m) (fun i => bs.getD i false) keptM) i with
              | false => rfl
              | true => exact absurd ⟨i, hi, e4⟩ h2
            refine cnt_lt m.n (fun i hi h1 => ?_) ⟨j, hj, ?_, ?_⟩
            · rw [hset i hi] at h1
              cases e5 : bs.getD i false with
              | false => rfl
              | true => rw [e5] at h1; simp at h1
            · rw [hset j hj, hrj]; simp
            · unfold riseM at hrj
              simp only [Bool.and_eq_true] at hrj
              exact hrj.1
          refine ⟨_, (by rw [em]; exact hz), bs', b', r', x4, rfl, (sX.trans s3).trans s4, s4 _ _ l3, hlen', hP3.mono s4, hr4, ?_, ?_, rfl⟩
          · intro e
            rw [e, l3] at nr'
            cases nr'
          · cases k with
            | zero => omega
            | succ k =>
              refine ⟨k, by omega, ?_⟩
              rw [← hleast]
              conv => rhs; unfold leastM
              rw [if_neg hpos]
              exact leastM_ext k hset
      · have hnil : risingM (sheetOf m) (fun i => bs.getD i false) (sinkAll (sheetOf m) (fun i => bs.getD i false) keptM) = [] := by
          cases e : risingM (sheetOf m) (fun i => bs.getD i false) (sinkAll (sheetOf m) (fun i => bs.getD i false) keptM) with
          | nil => rfl
          | cons x xs =>
            exact absurd (decide_eq_true (by rw [e]; simp)) c1
        have e : (leastM (sheetOf m) (m.n + 1) fun _ => false) = sinkAll (sheetOf m) (fun i => bs.getD i false) keptM := by
          rw [← hleast]
          cases k with
          | zero => omega
          | succ k =>
            unfold leastM
            rw [if_pos hnil]
        refine ⟨_, rfl, q b H' sm ?_⟩
        rw [e]; exact hP
end
end Wq

namespace Wq
open PySem PySem.Spec PyProof.Rows L2 Wp
abbrev sHouseInit : Stmt := inClass (top 47) 0
abbrev sSettle : Stmt := inClass (top 47) 1
abbrev sBegins : Stmt := top 51
abbrev sOwn : Stmt := top 52
abbrev sOwes : Stmt := top 53
abbrev sClear : Stmt := top 54
abbrev sLeastA : Stmt := top 55
abbrev sHowMany : Stmt := top 61
abbrev sPaidWorth : Stmt := top 62
abbrev sIsPart : Stmt := top 63
abbrev sFraction : Stmt := top 64
def lowFr (a b : Nat) : Fr := (a / Nat.gcd a b, b / Nat.gcd a b)
/-- a comprehension under an invariant of its list -/
theorem lc_rngI {n j : Nat} {te : TE} {vs : List Nat} {σ : L2.St} {H1 : Hp} {D : Addr} {Qd : Hp → Prop} (J : List V → Hp → Prop) (stable : ∀ acc H H', But D H H' → J acc H → J acc H') (hD : H1 D = none) (hn : n ≤ 1000)
    (hw : ∀ x, wipe ((wipe σ vs).set j x) vs = wipe σ vs) (h0 : J [] (upd H1 D (.lst [])))
    (he : ∀ i, i < n → ∀ H' acc, Same H1 H' → acc.length = i → H' D = some (.lst acc) → J acc H' → ∀ R : VK, (∀ v H'', Same H' H'' → J (acc ++ [v]) H'' → R v H'') → te ((wipe σ vs).set j (some (.int i))) H' R)
    (hd : ∀ H' acc, Same H1 H' → acc.length = n → H' D = some (.lst acc) → J acc H' → Qd H') : LcR n j tYes te vs σ H1 D Qd := by
  refine lc_range (lo := 0) (n := n) (fun i H' => Same H1 H' ∧ ∃ acc, acc.length = i ∧ H' D = some (.lst acc) ∧ J acc H') ⟨same_upd hD, [], rfl, upd_same, h0⟩ ?_ ?_
  · rintro i H' hi ⟨s1, acc, hl, hA, hJ⟩
    refine ⟨hw _, ?_⟩
    have e0 : (0 : Int) + (i : Int) = (i : Int) := by omega
    rw [e0]
    unfold tYes
    dsimp only
    rw [if_pos rfl]
    refine he i hi H' acc s1 hl hA hJ _ (fun v H'' s2 hv => ⟨acc, s2 _ _ hA, small1000 (by omega), ?_, acc ++ [v], by rw [List.length_append, hl]; rfl, upd_same, ?_⟩)
    · exact same_of_but hD (s1.trans s2) but_upd
    · exact stable _ _ _ but_upd hv
  · rintro H' ⟨s1, acc, hl, hA, hJ⟩
    exact hd H' acc s1 hl hA hJ
/-- all stands but objects and lists that hold such -/
def Keep (H H' : Hp) : Prop := ∀ b o, H b = some o → (∀ C dx fs, o ≠ .ins C dx fs) → (∀ p ps, o ≠ .lst (.ref p :: ps)) → H' b = some o
theorem Same.keep {H H' : Hp} (s : Same H H') : Keep H H' := fun b o e _ _ => s b o e
theorem Keep.trans {H H1 H2 : Hp} (a : Keep H H1) (b : Keep H1 H2) : Keep H H2 := fun c o e h1 h2 => b c o (a c o e h1 h2) h1 h2
theorem Keep.ins {H : Hp} {p C dx : Addr} {fs : List (Str × V)} {o : HO} (h : H p = some (.ins C dx fs)) : Keep H (upd H p o) := fun b x e h1 _ => by
  have nb : b ≠ p := by
    intro e2; subst e2
    rw [h] at e
    exact h1 _ _ _ (Option.some.inj e).symm
  rw [upd_ne nb]; exact e
theorem Keep.refs {H : Hp} {p : Addr} {ps : List Addr} {o : HO} (h : H p = some (.lst (ps.map V.ref))) (hne : ps ≠ []) : Keep H (upd H p o) := fun b x e _ h2 => by
  have nb : b ≠ p := by
    intro e2; subst e2
    rw [h] at e
    cases ps with
    | nil => exact hne rfl
    | cons q qs => exact h2 q (qs.map V.ref) (Option.some.inj e).symm
  rw [upd_ne nb]; exact e
theorem Keep.ints {H H' : Hp} (s : Keep H H') {b : Addr} {xs : List Int} (h : H b = some (.lst (lI xs))) : H' b = some (.lst (lI xs)) := by
  refine s b _ h (fun _ _ _ e => by cases e) (fun p ps e => ?_)
  cases xs with
  | nil => cases e
  | cons x xs => cases e
theorem Keep.seq {K : PySem.W.Frag} {H H' : Hp} (s : Keep H H') {b : Addr} {xs : List Int} (h : SqL K H b (lI xs)) : SqL K H' b (lI xs) := by
  rcases h with (h | ⟨o, h⟩) | h
  · exact .inl (.inl (s.ints h))
  · exact .inl (.inr ⟨o, s _ _ h (fun _ _ _ e => by cases e) (fun _ _ e => by cases e)⟩)
  · exact .inr h
def freshM (n : Nat) (ko kp : Fr) : HouseM := ⟨n, ko, kp, List.replicate n (0, 1), List.replicate n (List.replicate n (0, 1))⟩
def ownM (m : HouseM) (i : Nat) (q : Fr) : HouseM := { m with own := m.own.set i q }
def owesM (m : HouseM) (i j : Nat) (q : Fr) : HouseM := { m with owed := m.owed.set i ((m.owed.getD i []).set j q) }
section
variable {P : Program} {w : World} {K : PySem.W.Frag} {mg : Str → Option Value} {base : Heap}
/-! fraction -/
theorem scFraction : FnScope ["a", "b"] ["a", "b"] (defScope sFraction) := ⟨rfl, rfl, rfl, by decide +kernel, rfl, by decide +kernel, by decide +kernel⟩
def spFraction : Sp := fun vs H Q _ => ∃ a b : Nat, vs = [.int a, .int b] ∧ 0 < b ∧ a ≤ 1000000 ∧ b ≤ 1000000 ∧
  ∀ t H', Same H H' → H t = none → FrAt H' t (lowFr a b) → Q (.ref t) H'
theorem ok_fraction {f f1 : Addr} {fd fd1 : FuncData} (F : Fun K "fraction" "fraction" sFraction f fd) (B : Env mg) (D1 : Def P w K mg base 2 "lowest" ["above", "below"] spLowest f1 fd1) :
    FnOk P w K mg base CX0 3 f fd ["a", "b"] spFraction := by
  refine F.ok scFraction (fun vs H Q E h => ?_) (fun cdv A outer s H vs Q E hr h => ?_)
  · obtain ⟨a, b, rfl, _⟩ := h
    rfl
  · obtain ⟨a, b, rfl, hb, la, lb, k⟩ := h
    refine ⟨_, pss_one (ps_ret (pe_callTy call_tuple_of (by rfl) B.tuple (by decide +kernel) (pa_cons (pe_call D1.ok hr rfl D1.here D1.kp D1.b .nil pass0 (pa_cons (pv 0) (pa_cons (pv 1) pa_nil))) pa_nil))), ?_⟩
    refine ⟨_, rfl, _, rfl, a, b, rfl, hb, small_mil la, small_mil lb, fun p hp => ?_⟩
    refine ⟨p, _, rfl, .inl ⟨SqL.of upd_same, fun t ht => ?_⟩⟩
    exact k t _ ((same_upd hp).trans (same_upd ht)) ((same_upd hp).free ht) upd_same
/-! is_part -/
theorem scIsPart : FnScope ["a", "b"] ["a", "b"] (defScope sIsPart) := ⟨rfl, rfl, rfl, by decide +kernel, rfl, by decide +kernel, by decide +kernel⟩
def isPart (a b : Nat) : Bool := decide (0 < b) && decide (a ≤ b)
def spIsPart : Sp := fun vs H Q _ => ∃ a b : Nat, vs = [.int a, .int b] ∧ Q (.bl (isPart a b)) H
theorem ok_isPart {f : Addr} {fd : FuncData} (F : Fun K "is_part" "is_part" sIsPart f fd) : FnOk P w K mg base CX0 1 f fd ["a", "b"] spIsPart := by
  refine F.ok scIsPart (fun vs H Q E h => ?_) (fun cdv A outer s H vs Q E hr h => ?_)
  · obtain ⟨a, b, rfl, _⟩ := h
    rfl
  · obtain ⟨a, b, rfl, k⟩ := h
    refine ⟨_, pss_one (ps_ret (pe_and (pe_cmpR op_gt (pv 1) pe_int (nomark _)) (pe_one (pe_cmpR op_le (pv 0) (pv 1) (nomark _))))), ?_⟩
    refine ⟨_, rfl, _, _, rfl, rfl, _, rfl, ite2 (fun c => ?_) (fun c => ?_)⟩
    · refine ⟨_, rfl, _, rfl, _, _, rfl, rfl, ?_⟩
      have h0 : 0 < b := by have := of_decide_eq_true c; omega
      have e : decide ((a : Int) ≤ (b : Int)) = isPart a b := by
        unfold isPart
        rw [decide_eq_true h0, Bool.true_and]
        exact decide_eq_decide.2 (by omega)
      show Q (.bl (decide ((a : Int) ≤ (b : Int)))) H
      rw [e]; exact k
    · have h0 : ¬ 0 < b := fun h => c (decide_eq_true (by omega))
      have e : isPart a b = false := by
        unfold isPart
        rw [decide_eq_false h0, Bool.false_and]
      rw [e] at k
      exact k
/-! settle -/
theorem scSettle : FnScope ["self", "parties", "kept_own", "kept_paid", "i"] ["self", "parties", "kept_own", "kept_paid"] (defScope sSettle) := ⟨rfl, rfl, rfl, by decide +kernel, rfl, by decide +kernel, by decide +kernel⟩
/-- an object that isn't settled yet, or was -/
def Raw (fs : List (Str × V)) : Prop := fs = [] ∨ ∃ x1 x2 x3 x4 x5, fs = [(("parties" : Str), x1), (("kept_own" : Str), x2), (("kept_paid" : Str), x3), (("own" : Str), x4), (("owed" : Str), x5)]
theorem raw1 {fs : List (Str × V)} (h : Raw fs) (y1 : V) : ∃ r, putF "parties" y1 fs = (("parties" : Str), y1) :: r ∧ (r = [] ∨ ∃ x2 x3 x4 x5, r = [(("kept_own" : Str), x2), (("kept_paid" : Str), x3), (("own" : Str), x4), (("owed" : Str), x5)]) := by
  rcases h with rfl | ⟨x1, x2, x3, x4, x5, rfl⟩
  · exact ⟨[], rfl, .inl rfl⟩
  · exact ⟨_, put_here, .inr ⟨x2, x3, x4, x5, rfl⟩⟩
theorem raw2 {r : List (Str × V)} {y1 : V} (h : r = [] ∨ ∃ x2 x3 x4 x5, r = [(("kept_own" : Str), x2), (("kept_paid" : Str), x3), (("own" : Str), x4), (("owed" : Str), x5)]) (y2 : V) :
    ∃ r2, putF "kept_own" y2 ((("parties" : Str), y1) :: r) = (("parties" : Str), y1) :: (("kept_own" : Str), y2) :: r2 ∧ (r2 = [] ∨ ∃ x3 x4 x5, r2 = [(("kept_paid" : Str), x3), (("own" : Str), x4), (("owed" : Str), x5)]) := by
  rcases h with rfl | ⟨x2, x3, x4, x5, rfl⟩
  · exact ⟨[], put1 (by decide +kernel), .inl rfl⟩
  · exact ⟨_, by rw [put_past (by decide +kernel), put_here], .inr ⟨x3, x4, x5, rfl⟩⟩
theorem raw3 {r : List (Str × V)} {y1 y2 : V} (h : r = [] ∨ ∃ x3 x4 x5, r = [(("kept_paid" : Str), x3), (("own" : Str), x4), (("owed" : Str), x5)]) (y3 : V) :
    ∃ r2, putF "kept_paid" y3 ((("parties" : Str), y1) :: (("kept_own" : Str), y2) :: r) = (("parties" : Str), y1) :: (("kept_own" : Str), y2) :: (("kept_paid" : Str), y3) :: r2 ∧ (r2 = [] ∨ ∃ x4 x5, r2 = [(("own" : Str), x4), (("owed" : Str), x5)]) := by
  rcases h with rfl | ⟨x3, x4, x5, rfl⟩
  · exact ⟨[], by rw [put_past (by decide +kernel), put1 (by decide +kernel)], .inl rfl⟩
  · exact ⟨_, by rw [put_past (by decide +kernel), put_past (by decide +kernel), put_here], .inr ⟨x4, x5, rfl⟩⟩
theorem raw4 {r : List (Str × V)} {y1 y2 y3 : V} (h : r = [] ∨ ∃ x4 x5, r = [(("own" : Str), x4), (("owed" : Str), x5)]) (y4 : V) :
    ∃ r2, putF "own" y4 ((("parties" : Str), y1) :: (("kept_own" : Str), y2) :: (("kept_paid" : Str), y3) :: r) = (("parties" : Str), y1) :: (("kept_own" : Str), y2) :: (("kept_paid" : Str), y3) :: (("own" : Str), y4) :: r2 ∧ (r2 = [] ∨ ∃ x5, r2 = [(("owed" : Str), x5)]) := by
  rcases h with rfl | ⟨x4, x5, rfl⟩
  · exact ⟨[], by rw [put_past (by decide +kernel), put_past (by decide +kernel), put1 (by decide +kernel)], .inl rfl⟩
  · exact ⟨_, by rw [put_past (by decide +kernel), put_past (by decide +kernel), put_past (by decide +kernel), put_here], .inr ⟨x5, rfl⟩⟩
theorem raw5 {r : List (Str × V)} {y1 y2 y3 y4 : V} (h : r = [] ∨ ∃ x5, r = [(("owed" : Str), x5)]) (y5 : V) :
    putF "owed" y5 ((("parties" : Str), y1) :: (("kept_own" : Str), y2) :: (("kept_paid" : Str), y3) :: (("own" : Str), y4) :: r) = [(("parties" : Str), y1), (("kept_own" : Str), y2), (("kept_paid" : Str), y3), (("own" : Str), y4), (("owed" : Str), y5)] := by
  rcases h with rfl | ⟨x5, rfl⟩
  · rw [put_past (by decide +kernel), put_past (by decide +kernel), put_past (by decide +kernel), put1 (by decide +kernel)]
  · rw [put_past (by decide +kernel), put_past (by decide +kernel), put_past (by decide +kernel), put_past (by decide +kernel), put_here]
theorem raw_len {r : List (Str × V)} {l : List (Str × V)} (hl : l.length ≤ 4) (hr : r.length ≤ 5) : (l ++ r).length < 1000 := by
  rw [List.length_append]; omega
def spSettle (C : Addr) : Sp := fun vs H Q _ => ∃ (p dx t1 t2 : Addr) (n : Nat) (ko kp : Fr) (fs : List (Str × V)), vs = [.ref p, .int n, .ref t1, .ref t2] ∧ 1 ≤ n ∧ n ≤ 8 ∧ H p = some (.ins C dx fs) ∧ Raw fs ∧ FrAt H t1 ko ∧ FrAt H t2 kp ∧
  ∀ H', But p H H' → HouseAt C H' p (freshM n ko kp) → Q .non H'
/-- a list that repeats one fraction -/
theorem rep_frs {H : Hp} {l t : Addr} {n : Nat} {q : Fr} (hl : H l = some (.lst (List.replicate n (.ref t)))) (ht : FrAt H t q) : FrsAt H l (List.replicate n q) := by
  refine ⟨List.replicate n t, ?_, by simp, fun i hi => ?_⟩
  · rw [hl, List.map_replicate]
  · have hi : i < n := by simpa using hi
    rw [getD_lt (by simpa using hi), getD_lt (by simpa using hi)]
    simpa using ht
theorem ok_settle {f C : Addr} {fd : FuncData} (F : Fun K "settle" "House.settle" sSettle f fd) (B : Env mg) (T : CHouse K mg C) :
    FnOk P w K mg base CX0 1 f fd ["self", "parties", "kept_own", "kept_paid"] (spSettle C) := by
  refine F.ok scSettle (fun vs H Q E h => ?_) (fun cdv A outer s H vs Q E hr h => ?_)
  · obtain ⟨p, dx, t1, t2, n, ko, kp, fs, rfl, _⟩ := h
    rfl
  · obtain ⟨p, dx, t1, t2, n, ko, kp, fs, rfl, n1, n8, hp, raw, h1, h2, q⟩ := h
    refine ⟨_, pss_cons (ps_fld (pv 0) (pv 1) rfl) (pss_cons (ps_fld (pv 0) (pv 2) rfl) (pss_cons (ps_fld (pv 0) (pv 3) rfl)
      (pss_cons (ps_fld (pv 0) (pe_op op_rep (pe_lst (pa_cons (pe_tup (pa_cons pe_int (pa_cons pe_int pa_nil))) pa_nil)) (pv 1)) rfl)
      (pss_one (ps_fld (pv 0) (pe_lc (own := [("i", 4)]) (g := gName 4) (tt := tYes) rfl scSettle.nd (pi_range1 rfl B.range (pa_cons (pv 1) pa_nil))
        (blkOk_by (own := [("i", 4)]) (N := ["self", "parties", "kept_own", "kept_paid", "i"]) (sc := defScope sSettle) (by decide +kernel))
        (fun _ _ _ _ _ => pg_name (i := 4) scSettle.nd rfl (Or.inl rfl)) (fun _ _ _ _ _ => pts_nil)
        (fun _ _ _ _ _ => pe_op op_rep (pe_lst (pa_cons (pe_tup (pa_cons pe_int (pa_cons pe_int pa_nil))) pa_nil)) (pv 1))) rfl))))), ?_⟩
    have en : ((n : Int)).toNat = n := by omega
    obtain ⟨r1, e1, c1⟩ := raw1 raw (.int n)
    obtain ⟨r2, e2, c2⟩ := raw2 (y1 := .int n) c1 (.ref t1)
    obtain ⟨r3, e3, c3⟩ := raw3 (y1 := .int n) (y2 := .ref t1) c2 (.ref t2)
    have lfs : fs.length < 1000 := by rcases raw with rfl | ⟨_, _, _, _, _, rfl⟩ <;> simp
    have l1 : (((("parties" : Str), V.int n)) :: r1).length < 1000 := by rcases c1 with rfl | ⟨_, _, _, _, rfl⟩ <;> simp
    have l2 : ((("parties" : Str), V.int n) :: (("kept_own" : Str), V.ref t1) :: r2).length < 1000 := by rcases c2 with rfl | ⟨_, _, _, rfl⟩ <;> simp
    have l3 : ((("parties" : Str), V.int n) :: (("kept_own" : Str), V.ref t1) :: (("kept_paid" : Str), V.ref t2) :: r3).length < 1000 := by rcases c3 with rfl | ⟨_, _, rfl⟩ <;> simp
    refine ⟨_, rfl, _, rfl, p, C, dx, fs, rfl, hp, T.cl, T.nParties, lfs, ?_⟩
    rw [e1]
    refine ⟨_, rfl, _, rfl, p, C, dx, _, rfl, upd_same, T.cl, T.nKo, l1, ?_⟩
    rw [e2, upd_upd]
    refine ⟨_, rfl, _, rfl, p, C, dx, _, rfl, upd_same, T.cl, T.nKp, l2, ?_⟩
    rw [e3, upd_upd]
    have b3 : But p H (upd H p (.ins C dx ((("parties" : Str), V.int n) :: (("kept_own" : Str), V.ref t1) :: (("kept_paid" : Str), V.ref t2) :: r3))) := but_upd
    have p3 : (upd H p (.ins C dx ((("parties" : Str), V.int n) :: (("kept_own" : Str), V.ref t1) :: (("kept_paid" : Str), V.ref t2) :: r3))) p = some (.ins C dx ((("parties" : Str), V.int n) :: (("kept_own" : Str), V.ref t1) :: (("kept_paid" : Str), V.ref t2) :: r3)) := upd_same
    generalize upd H p (.ins C dx ((("parties" : Str), V.int n) :: (("kept_own" : Str), V.ref t1) :: (("kept_paid" : Str), V.ref t2) :: r3)) = H3 at b3 p3 ⊢
    -- own
    refine ⟨(by show 2 ≤ sizeLine; decide), fun t ht => ?_⟩
    have st := same_upd (o := .tup [.int 0, .int 1]) ht
    refine ⟨(by show 1 ≤ sizeLine; decide), fun z hz => ?_⟩
    have sz := same_upd (o := .lst [.ref t]) hz
    refine ⟨_, rfl, z, _, _, rfl, rfl, upd_same, (by omega), (by omega), ?_, fun lo hlo => ?_⟩
    · rw [en]
      exact Nat.le_of_lt (small1000 (by simp; omega))
    rw [en, rep_flat]
    have slo := same_upd (o := .lst (List.replicate n (V.ref t))) hlo
    have s4 := (st.trans sz).trans slo
    have tl : FrAt (upd (upd (upd H3 t (.tup [.int 0, .int 1])) z (.lst [.ref t])) lo (.lst (List.replicate n (V.ref t)))) t (0, 1) := slo _ _ (sz _ _ upd_same)
    have lol : (upd (upd (upd H3 t (.tup [.int 0, .int 1])) z (.lst [.ref t])) lo (.lst (List.replicate n (V.ref t)))) lo = some (.lst (List.replicate n (V.ref t))) := upd_same
    generalize upd (upd (upd H3 t (.tup [.int 0, .int 1])) z (.lst [.ref t])) lo (.lst (List.replicate n (V.ref t))) = H4 at s4 tl lol ⊢
    have p4 := s4 _ _ p3
    obtain ⟨r4, e4, c4⟩ := raw4 (y1 := .int n) (y2 := .ref t1) (y3 := .ref t2) c3 (.ref lo)
    have l4 : ((("parties" : Str), V.int n) :: (("kept_own" : Str), V.ref t1) :: (("kept_paid" : Str), V.ref t2) :: (("own" : Str), V.ref lo) :: r4).length < 1000 := by rcases c4 with rfl | ⟨_, rfl⟩ <;> simp
    refine ⟨_, rfl, p, C, dx, _, rfl, p4, T.cl, T.nOwn, l3, ?_⟩
    rw [e4]
    have b5 : But p H (upd H4 p (.ins C dx ((("parties" : Str), V.int n) :: (("kept_own" : Str), V.ref t1) :: (("kept_paid" : Str), V.ref t2) :: (("own" : Str), V.ref lo) :: r4))) := fun c o hc e => by
      rw [upd_ne hc]; exact s4 _ _ (b3 c o hc e)
    have tp : t ≠ p := ne_of tl p4 (by intro z; cases z)
    have lp : lo ≠ p := ne_of lol p4 (by intro z; cases z)
    have t5 : FrAt (upd H4 p (.ins C dx ((("parties" : Str), V.int n) :: (("kept_own" : Str), V.ref t1) :: (("kept_paid" : Str), V.ref t2) :: (("own" : Str), V.ref lo) :: r4))) t (0, 1) := by
      unfold FrAt; rw [upd_ne tp]; exact tl
    have lo5 : (upd H4 p (.ins C dx ((("parties" : Str), V.int n) :: (("kept_own" : Str), V.ref t1) :: (("kept_paid" : Str), V.ref t2) :: (("own" : Str), V.ref lo) :: r4))) lo = some (.lst (List.replicate n (V.ref t))) := by
      rw [upd_ne lp]; exact lol
    have p5 : (upd H4 p (.ins C dx ((("parties" : Str), V.int n) :: (("kept_own" : Str), V.ref t1) :: (("kept_paid" : Str), V.ref t2) :: (("own" : Str), V.ref lo) :: r4))) p = some (.ins C dx ((("parties" : Str), V.int n) :: (("kept_own" : Str), V.ref t1) :: (("kept_paid" : Str), V.ref t2) :: (("own" : Str), V.ref lo) :: r4)) := upd_same
    generalize upd H4 p (.ins C dx ((("parties" : Str), V.int n) :: (("kept_own" : Str), V.ref t1) :: (("kept_paid" : Str), V.ref t2) :: (("own" : Str), V.ref lo) :: r4)) = H5 at b5 t5 lo5 p5 ⊢
    -- owed
    refine ⟨_, rfl, _, rfl, (by omega), (by omega), fun D hD => ?_⟩
    rw [en]
    refine lc_rngI (n := n) (fun acc H' => ∃ rs : List Addr, acc = rs.map V.ref ∧ rs.Nodup ∧ lo ∉ rs ∧ ∀ r ∈ rs, r ≠ D ∧ ∃ u, u ≠ D ∧ H' r = some (.lst (List.replicate n (V.ref u))) ∧ H' u = some (.tup [.int 0, .int 1])) ?_ hD (by omega) (fun _ => rfl) ⟨[], rfl, List.nodup_nil, by simp, by simp⟩ ?_ ?_
    · rintro acc Ha Hb hB ⟨rs, ea, nd, nlo, hr⟩
      exact ⟨rs, ea, nd, nlo, fun r hr' => by
        obtain ⟨g1, u, g2, g3, g4⟩ := hr r hr'
        exact ⟨g1, u, g2, hB _ _ g1 g3, hB _ _ g2 g4⟩⟩
    · rintro i hi H' acc s6 hacc hA ⟨rs, ea, nd, nlo, hr⟩ R hR
      refine ⟨(by show 2 ≤ sizeLine; decide), fun u hu => ?_⟩
      have su := same_upd (o := .tup [.int 0, .int 1]) hu
      refine ⟨(by show 1 ≤ sizeLine; decide), fun y hy => ?_⟩
      have sy := same_upd (o := .lst [.ref u]) hy
      refine ⟨_, rfl, y, _, _, rfl, rfl, upd_same, (by omega), (by omega), ?_, fun r hrr => ?_⟩
      · rw [en]
        exact Nat.le_of_lt (small1000 (by simp; omega))
      rw [en, rep_flat]
      have sr := same_upd (o := .lst (List.replicate n (V.ref u))) hrr
      have s7 := (su.trans sy).trans sr
      have hr0 : H' r = none := su.free (sy.free hrr)
      refine hR _ _ s7 ⟨rs ++ [r], ?_, ?_, ?_, ?_⟩
      · rw [ea, List.map_append]; rfl
      · rw [List.nodup_append]
        refine ⟨nd, by simp, ?_⟩
        intro x hx y' hy' e
        rw [List.mem_singleton] at hy'
        subst hy'
        obtain ⟨_, _, _, g3, _⟩ := hr x hx
        rw [e, hr0] at g3
        cases g3
      · intro h
        rcases List.mem_append.1 h with h | h
        · exact nlo h
        · rw [List.mem_singleton] at h
          have := s6 _ _ lo5
          rw [h, hr0] at this
          cases this
      · intro x hx
        rcases List.mem_append.1 hx with h | h
        · obtain ⟨g1, u', g2, g3, g4⟩ := hr x h
          exact ⟨g1, u', g2, s7 _ _ g3, s7 _ _ g4⟩
        · rw [List.mem_singleton] at h
          subst h
          refine ⟨fun e => ?_, u, fun e => ?_, upd_same, sr _ _ (sy _ _ upd_same)⟩
          · rw [e, hA] at hr0; cases hr0
          · rw [e, hA] at hu; cases hu
    · rintro H6 acc s6 hacc hA ⟨rs, ea, nd, nlo, hr⟩
      have p6 := s6 _ _ p5
      refine ⟨_, rfl, p, C, dx, _, rfl, p6, T.cl, T.nOwed, l4, ?_⟩
      rw [raw5 c4]
      have b7 : But p H (upd H6 p (.ins C dx [(("parties" : Str), V.int n), (("kept_own" : Str), V.ref t1), (("kept_paid" : Str), V.ref t2), (("own" : Str), V.ref lo), (("owed" : Str), V.ref D)])) := fun c o hc e => by
        rw [upd_ne hc]; exact s6 _ _ (b5 c o hc e)
      have ne : ∀ {b : Addr} {o : HO}, H6 b = some o → (∀ C dx fs, o ≠ .ins C dx fs) → (upd H6 p (.ins C dx [(("parties" : Str), V.int n), (("kept_own" : Str), V.ref t1), (("kept_paid" : Str), V.ref t2), (("own" : Str), V.ref lo), (("owed" : Str), V.ref D)])) b = some o := fun {b o} e hno => by
        have : b ≠ p := ne_of e p6 (hno _ _ _)
        rw [upd_ne this]; exact e
      have tne : ∀ {xs : List V}, ∀ C dx fs, (HO.tup xs) ≠ .ins C dx fs := fun _ _ _ e => by cases e
      have lne : ∀ {xs : List V}, ∀ C dx fs, (HO.lst xs) ≠ .ins C dx fs := fun _ _ _ e => by cases e
      have hp1 : t1 ≠ p := ne_of h1 hp (by intro z; cases z)
      have hp2 : t2 ≠ p := ne_of h2 hp (by intro z; cases z)
      have lrs : rs.length = n := by rw [ea, List.length_map] at hacc; exact hacc
      refine q _ b7 ⟨dx, t1, t2, lo, D, rs, upd_same, b7 _ _ hp1 h1, b7 _ _ hp2 h2, rep_frs (ne (s6 _ _ lo5) lne) (ne (s6 _ _ t5) tne), ne (by rw [hA, ea]) lne, ?_, ?_, nd, nlo⟩
      · show rs.length = (List.replicate n (List.replicate n ((0, 1) : Fr))).length
        rw [List.length_replicate]; exact lrs
      · intro i hi
        have hi : i < n := by simpa [freshM] using hi
        have e : (freshM n ko kp).owed.getD i [] = List.replicate n (0, 1) := by
          show (List.replicate n (List.replicate n ((0, 1) : Fr))).getD i [] = _
          rw [getD_lt (by simpa using hi)]; simp
        rw [e]
        obtain ⟨g1, u, g2, g3, g4⟩ := hr (rs.getD i 0) (by rw [getD_lt (by omega)]; exact List.getElem_mem _)
        exact rep_frs (ne g3 lne) (ne g4 tne)
end
end Wq

namespace Wq
open PySem PySem.Spec PyProof.Rows L2 Wp
/-- the names of the top that hold numbers -/
structure Consts (mg : Str → Option Value) : Prop where
  most : ∃ t, mg "MOST_PARTIES" = some (.int 8 t)
  notAllowed : ∃ t, mg "NOT_ALLOWED" = some (.int (-1) t)
  noParty : ∃ t, mg "NO_SUCH_PARTY" = some (.int (-2) t)
  allKept : ∃ t, mg "ALL_PAID_IS_KEPT" = some (.int (-6) t)
theorem hF_settle (m : HouseM) (t1 t2 lo lw : Addr) : (houseF m t1 t2 lo lw).lookup ("settle" : Str) = none := (lk_past (by decide +kernel)).trans ((lk_past (by decide +kernel)).trans ((lk_past (by decide +kernel)).trans ((lk_past (by decide +kernel)).trans ((lk_past (by decide +kernel)).trans rfl))))
theorem nodup_ix {l : List Addr} (h : l.Nodup) {i j : Nat} (hi : i < l.length) (hj : j < l.length) (e : l[i] = l[j]) : i = j := by
  have h1 := List.pairwise_iff_getElem.1 h
  rcases Nat.lt_trichotomy i j with h2 | h2 | h2
  · exact absurd e (h1 i j hi hj h2)
  · exact h2
  · exact absurd e.symm (h1 j i hj hi h2)
section
variable {P : Program} {w : World} {K : PySem.W.Frag} {mg : Str → Option Value} {base : Heap}
/-! House.__init__ -/
theorem scHouseInit : FnScope ["self"] ["self"] (defScope sHouseInit) := ⟨rfl, rfl, rfl, by decide +kernel, rfl, by decide +kernel, by decide +kernel⟩
def spHouseInit (C : Addr) : Sp := fun vs H Q _ => ∃ (H0 : Hp) (p dx : Addr), vs = [.ref p] ∧ Same H0 H ∧ H0 p = none ∧ H p = some (.ins C dx []) ∧
  ∀ H', Same H0 H' → HouseAt C H' p (freshM 1 (1, 1) (1, 1)) → Q .non H'
theorem ok_houseInit {f f1 C : Addr} {fd fd1 : FuncData} (F : Fun K "__init__" "House.__init__" sHouseInit f fd) (T : CHouse K mg C) (mS : Meth K C "settle" f1)
    (G1 : FnOk P w K mg base CX0 1 f1 fd1 ["self", "parties", "kept_own", "kept_paid"] (spSettle C)) (b1 : Binds K fd1 ["self", "parties", "kept_own", "kept_paid"] []) :
    FnOk P w K mg base CX0 2 f fd ["self"] (spHouseInit C) := by
  refine F.ok scHouseInit (fun vs H Q E h => ?_) (fun cdv A outer s H vs Q E hr h => ?_)
  · obtain ⟨H0, p, dx, rfl, _⟩ := h
    rfl
  · obtain ⟨H0, p, dx, rfl, s0, p0, hp, q⟩ := h
    refine ⟨_, pss_one (ps_expr (pe_meth (pv 0) T.cl mS G1 hr b1 .nil pass0 (pa_cons pe_int (pa_cons (pe_tup (pa_cons pe_int (pa_cons pe_int pa_nil))) (pa_cons (pe_tup (pa_cons pe_int (pa_cons pe_int pa_nil))) pa_nil))))), ?_⟩
    refine ⟨_, rfl, p, dx, [], rfl, hp, rfl, (by show 2 ≤ sizeLine; decide), fun t1 h1 => ⟨(by show 2 ≤ sizeLine; decide), fun t2 h2 => ?_⟩⟩
    have s1 := same_upd (o := .tup [.int 1, .int 1]) h1
    have s2 := same_upd (o := .tup [.int 1, .int 1]) h2
    refine ⟨p, dx, t1, t2, 1, (1, 1), (1, 1), [], rfl, by omega, by omega, s2 _ _ (s1 _ _ hp), .inl rfl, s2 _ _ upd_same, upd_same, fun H' b hH => ?_⟩
    exact q H' (same_of_but p0 ((s0.trans s1).trans s2) b) hH
/-! answer_begins -/
def beginsM (m : HouseM) (n a b c d : Nat) : HouseM × List Int := if n < 1 ∨ 8 < n ∨ isPart a b = false ∨ isPart c d = false then (m, [-1]) else (freshM n (lowFr a b) (lowFr c d), [(n : Int)])
/-- what a call leaves -/
def Told (C : Addr) (H : Hp) (Q : VK) (h : Addr) (r : HouseM × List Int) : Prop := ∀ l H', Keep H H' → H l = none → HouseAt C H' h r.1 → H' l = some (.lst (lI r.2)) → Q (.ref l) H'
theorem scBegins : FnScope ["house", "n", "a", "b", "c", "d"] ["house", "n", "a", "b", "c", "d"] (defScope sBegins) := ⟨rfl, rfl, rfl, by decide +kernel, rfl, by decide +kernel, by decide +kernel⟩
def spBegins (C : Addr) : Sp := fun vs H Q _ => ∃ (h : Addr) (m : HouseM) (n a b c d : Nat), vs = [.ref h, .int n, .int a, .int b, .int c, .int d] ∧ HouseAt C H h m ∧ a ≤ 1000000 ∧ b ≤ 1000000 ∧ c ≤ 1000000 ∧ d ≤ 1000000 ∧ Told C H Q h (beginsM m n a b c d)
theorem ok_begins {f f1 f2 f3 C : Addr} {fd fd1 fd2 fd3 : FuncData} (F : Fun K "answer_begins" "answer_begins" sBegins f fd) (T : CHouse K mg C) (N : Consts mg) (mS : Meth K C "settle" f1)
    (G1 : FnOk P w K mg base CX0 1 f1 fd1 ["self", "parties", "kept_own", "kept_paid"] (spSettle C)) (b1 : Binds K fd1 ["self", "parties", "kept_own", "kept_paid"] [])
    (D2 : Def P w K mg base 1 "is_part" ["a", "b"] spIsPart f2 fd2) (D3 : Def P w K mg base 3 "fraction" ["a", "b"] spFraction f3 fd3) :
    FnOk P w K mg base CX0 4 f fd ["house", "n", "a", "b", "c", "d"] (spBegins C) := by
  refine F.ok scBegins (fun vs H Q E h => ?_) (fun cdv A outer s H vs Q E hr h => ?_)
  · obtain ⟨h, m, n, a, b, c, d, rfl, _⟩ := h
    rfl
  · obtain ⟨h, m, n, a, b, c, d, rfl, hH, la, lb, lc, ld, q⟩ := h
    have hr1 : Room 1 _ := hr.mono (by decide)
    obtain ⟨tm, gm⟩ := N.most
    obtain ⟨tn, gn⟩ := N.notAllowed
    refine ⟨_, pss_cons (ps_if (PW.pt (pw_or (pt_cmpR op_lt (pv 1) pe_int (nomark _)) (pw_or (pt_cmpR op_gt (pv 1) (pe_glob (v := .int 8) rfl gm ⟨_, rfl⟩) (nomark _))
        (pw_or (pt_not (pt_val (pe_call D2.ok hr1 rfl D2.here D2.kp D2.b .nil pass0 (pa_cons (pv 2) (pa_cons (pv 3) pa_nil))))) (pw_or1 (pt_not (pt_val (pe_call D2.ok hr1 rfl D2.here D2.kp D2.b .nil pass0 (pa_cons (pv 4) (pa_cons (pv 5) pa_nil))))))))))
        (pss_one (ps_ret (pe_lst (pa_cons (pe_glob (v := .int (-1)) rfl gn ⟨_, rfl⟩) pa_nil)))) pss_nil)
      (pss_cons (ps_expr (pe_meth (pv 0) T.cl mS G1 hr1 b1 .nil pass0 (pa_cons (pv 1) (pa_cons (pe_call D3.ok hr rfl D3.here D3.kp D3.b .nil pass0 (pa_cons (pv 2) (pa_cons (pv 3) pa_nil))) (pa_cons (pe_call D3.ok hr rfl D3.here D3.kp D3.b .nil pass0 (pa_cons (pv 4) (pa_cons (pv 5) pa_nil))) pa_nil)))))
      (pss_one (ps_ret (pe_lst (pa_cons (pv 1) pa_nil))))), ?_⟩
    have bad : (n < 1 ∨ 8 < n ∨ isPart a b = false ∨ isPart c d = false) → (tRet (tLst (tCons (tC (.int (-1))) tNil)) { nx := fun (_ : L2.St) H' => Q .non H', rt := Q } (L2.start ["house", "n", "a", "b", "c", "d"] [.ref h, .int n, .int a, .int b, .int c, .int d]) H) := by
      intro hc
      refine ⟨(by show 1 ≤ sizeLine; decide), fun p hp => ?_⟩
      have e : beginsM m n a b c d = (m, [-1]) := if_pos hc
      unfold Told at q
      rw [e] at q
      exact q p _ (Same.keep (same_upd hp)) hp (hH.mono (same_upd hp)) upd_same
    refine ⟨_, rfl, _, _, rfl, rfl, _, rfl, ite2 (fun c1 => bad (.inl (by have := of_decide_eq_true c1; omega))) (fun c1 => ?_)⟩
    refine ⟨_, rfl, _, _, rfl, rfl, _, rfl, ite2 (fun c2 => bad (.inr (.inl (by have := of_decide_eq_true c2; omega)))) (fun c2 => ?_)⟩
    refine ⟨_, rfl, _, rfl, a, b, rfl, _, rfl, ite2 (fun c3 => bad (.inr (.inr (.inl (by simpa using c3))))) (fun c3 => ?_)⟩
    refine ⟨_, rfl, _, rfl, c, d, rfl, _, rfl, ?_⟩
    refine ite2 (fun c4 => bad (.inr (.inr (.inr (by simpa using c4))))) (fun c4 => ?_)
    have n1 : 1 ≤ n := by
      by_cases h0 : 1 ≤ n
      · exact h0
      · exact absurd (decide_eq_true (by omega)) c1
    have n8 : n ≤ 8 := by
      by_cases h0 : n ≤ 8
      · exact h0
      · exact absurd (decide_eq_true (by omega)) c2
    have g3 : isPart a b = true := by simpa using c3
    have g4 : isPart c d = true := by simpa using c4
    have hb : 0 < b := by unfold isPart at g3; simp at g3; exact g3.1
    have hd : 0 < d := by unfold isPart at g4; simp at g4; exact g4.1
    have e : beginsM m n a b c d = (freshM n (lowFr a b) (lowFr c d), [(n : Int)]) := if_neg (by
      rintro (h0 | h0 | h0 | h0)
      · omega
      · omega
      · rw [g3] at h0; cases h0
      · rw [g4] at h0; cases h0)
    obtain ⟨dx, t1, t2, lo, lw, ws, hh⟩ := hH
    refine ⟨_, rfl, h, dx, _, rfl, hh.obj, hF_settle _ _ _ _ _, _, rfl, _, rfl, _, rfl, a, b, rfl, hb, la, lb, fun t3 H1 s1 n1' f1' => ?_⟩
    refine ⟨_, rfl, _, rfl, c, d, rfl, hd, lc, ld, fun t4 H2 s2 n2' f2' => ?_⟩
    have s12 := s1.trans s2
    refine ⟨h, dx, t3, t4, n, lowFr a b, lowFr c d, _, rfl, n1, n8, s12 _ _ hh.obj, .inr ⟨_, _, _, _, _, rfl⟩, s2 _ _ f1', f2', fun H3 b3 hH3 => ?_⟩
    refine ⟨_, rfl, (by show 1 ≤ sizeLine; decide), fun p hp => ?_⟩
    unfold Told at q
    rw [e] at q
    have k3 : Keep H H3 := fun c o e1 h1 h2 => by
      refine b3 c o ?_ (s12 _ _ e1)
      intro e2; subst e2
      rw [hh.obj] at e1
      exact h1 _ _ _ (Option.some.inj e1).symm
    have np : H p = none := by
      cases e5 : H p with
      | none => rfl
      | some o =>
        by_cases e6 : p = h
        · subst e6
          obtain ⟨_, _, _, _, _, _, hh3⟩ := hH3
          rw [hh3.obj] at hp
          cases hp
        · rw [b3 p o e6 (s12 _ _ e5)] at hp
          cases hp
    exact q p _ (k3.trans (Same.keep (same_upd hp))) np (hH3.mono (same_upd hp)) upd_same
/-! answer_own -/
theorem scOwn : FnScope ["house", "i", "a", "b"] ["house", "i", "a", "b"] (defScope sOwn) := ⟨rfl, rfl, rfl, by decide +kernel, rfl, by decide +kernel, by decide +kernel⟩
def ownA (m : HouseM) (i a b : Nat) : HouseM × List Int := if m.n ≤ i then (m, [-2]) else if b = 0 then (m, [-1]) else (ownM m i (lowFr a b), [0])
def spOwn (C : Addr) : Sp := fun vs H Q _ => ∃ (h : Addr) (m : HouseM) (i a b : Nat), vs = [.ref h, .int i, .int a, .int b] ∧ HouseAt C H h m ∧ HouseOk m ∧ a ≤ 1000000 ∧ b ≤ 1000000 ∧ Told C H Q h (ownA m i a b)
theorem HouseIn.lw_lo {C : Addr} {H : Hp} {a dx t1 t2 lo lw : Addr} {ws : List Addr} {m : HouseM} (h : HouseIn C H a dx t1 t2 lo lw ws m) (ok : HouseOk m) {l : Addr} {qs : List Fr} (hl : FrsAt H l qs) (hq : 0 < qs.length) : lw ≠ l := by
  intro e
  subst e
  obtain ⟨ps, g1, g2, g3⟩ := hl
  have e1 : ws.map V.ref = ps.map V.ref := HO.lst.inj (Option.some.inj (h.owed.symm.trans g1))
  have n1 := ok.n1
  have hw : 0 < ws.length := by rw [h.rows, ok.nOwed]; omega
  have e2 : ws.getD 0 0 = ps.getD 0 0 := by
    have e3 : (ws.map V.ref)[0]? = (ps.map V.ref)[0]? := by rw [e1]
    rw [refs_at hw, refs_at (by omega)] at e3
    exact V.ref.inj (Option.some.inj e3)
  obtain ⟨_, g4, _⟩ := h.row 0 (by rw [ok.nOwed]; omega)
  have g5 := g3 0 hq
  unfold FrAt at g5
  rw [← e2, g4] at g5
  cases g5
theorem FrsAt.other {H : Hp} {l r : Addr} {qs : List Fr} {xs ys : List V} (h : FrsAt H l qs) (hr : H r = some (.lst xs)) (hne : l ≠ r) : FrsAt (upd H r (.lst ys)) l qs := by
  obtain ⟨ps, g1, g2, g3⟩ := h
  refine ⟨ps, by rw [upd_ne hne]; exact g1, g2, fun i hi => ?_⟩
  have g := g3 i hi
  unfold FrAt at g ⊢
  rw [upd_ne (ne_of g hr (by intro z; cases z))]
  exact g
theorem FrsAt.set {H : Hp} {l t : Addr} {qs : List Fr} {ps : List Addr} {q : Fr} {i : Nat} (g1 : H l = some (.lst (ps.map V.ref))) (g2 : ps.length = qs.length) (g3 : ∀ i, i < qs.length → FrAt H (ps.getD i 0) (qs.getD i (0, 1))) (ht : FrAt H t q) (hi : i < qs.length) :
    FrsAt (upd H l (.lst ((ps.map V.ref).set i (.ref t)))) l (qs.set i q) := by
  refine ⟨ps.set i t, by rw [upd_same, List.map_set], by simp [g2], fun k hk => ?_⟩
  have hk : k < qs.length := by simpa using hk
  rw [getD_set, getD_set]
  by_cases e : i = k
  · subst e
    rw [if_pos ⟨rfl, by omega⟩, if_pos ⟨rfl, hk⟩]
    unfold FrAt at ht ⊢
    rw [upd_ne (ne_of ht g1 (by intro z; cases z))]
    exact ht
  · rw [if_neg (fun h => e h.1), if_neg (fun h => e h.1)]
    have g := g3 k hk
    unfold FrAt at g ⊢
    rw [upd_ne (ne_of g g1 (by intro z; cases z))]
    exact g
theorem ok_own {f f3 C : Addr} {fd fd3 : FuncData} (F : Fun K "answer_own" "answer_own" sOwn f fd) (T : CHouse K mg C) (N : Consts mg) (D3 : Def P w K mg base 3 "fraction" ["a", "b"] spFraction f3 fd3) :
    FnOk P w K mg base CX0 4 f fd ["house", "i", "a", "b"] (spOwn C) := by
  refine F.ok scOwn (fun vs H Q E h => ?_) (fun cdv A outer s H vs Q E hr h => ?_)
  · obtain ⟨h, m, i, a, b, rfl, _⟩ := h
    rfl
  · obtain ⟨h, m, i, a, b, rfl, hH, ok, la, lb, q⟩ := h
    obtain ⟨tn, gn⟩ := N.notAllowed
    obtain ⟨tp, gp⟩ := N.noParty
    obtain ⟨dx, t1, t2, lo, lw, ws, hh⟩ := id hH
    refine ⟨_, pss_cons (ps_if (pt_cmpR op_ge (pv 1) (pe_fld (pv 0) rfl) (nomark _)) (pss_one (ps_ret (pe_lst (pa_cons (pe_glob (v := .int (-2)) rfl gp ⟨_, rfl⟩) pa_nil)))) pss_nil)
      (pss_cons (ps_if (pt_cmpR op_eq (pv 3) pe_int (nomark _)) (pss_one (ps_ret (pe_lst (pa_cons (pe_glob (v := .int (-1)) rfl gn ⟨_, rfl⟩) pa_nil)))) pss_nil)
      (pss_cons (ps_asg (pe_call D3.ok hr rfl D3.here D3.kp D3.b .nil pass0 (pa_cons (pv 2) (pa_cons (pv 3) pa_nil))) (pg_sub (pe_fld (pv 0) rfl) (pv 1) set_list))
      (pss_one (ps_ret (pe_lst (pa_cons pe_int pa_nil)))))), ?_⟩
    unfold Told at q
    refine ⟨_, rfl, _, rfl, h, C, dx, _, _, rfl, hh.obj, T.cl, T.nParties, hF_parties _ _ _ _ _, _, _, rfl, rfl, _, rfl, ite2 (fun c1 => ?_) (fun c1 => ?_)⟩
    · have e1 : m.n ≤ i := by have := of_decide_eq_true c1; omega
      refine ⟨(by show 1 ≤ sizeLine; decide), fun p hp => ?_⟩
      have e : ownA m i a b = (m, [-2]) := if_pos e1
      rw [e] at q
      exact q p _ (Same.keep (same_upd hp)) hp (hH.mono (same_upd hp)) upd_same
    have e1 : i < m.n := by
      by_cases h0 : i < m.n
      · exact h0
      · exact absurd (decide_eq_true (by omega)) c1
    refine ⟨_, rfl, rfl, _, rfl, ite2 (fun c2 => ?_) (fun c2 => ?_)⟩
    · have e2 : b = 0 := by have := V.int.inj (of_decide_eq_true c2); omega
      refine ⟨(by show 1 ≤ sizeLine; decide), fun p hp => ?_⟩
      have e : ownA m i a b = (m, [-1]) := by unfold ownA; rw [if_neg (by omega), if_pos e2]
      rw [e] at q
      exact q p _ (Same.keep (same_upd hp)) hp (hH.mono (same_upd hp)) upd_same
    have e2 : 0 < b := by
      by_cases h0 : b = 0
      · exact absurd (decide_eq_true (by rw [h0]; rfl)) c2
      · omega
    have e : ownA m i a b = (ownM m i (lowFr a b), [0]) := by unfold ownA; rw [if_neg (by omega), if_neg (by omega)]
    rw [e] at q
    refine ⟨_, rfl, _, rfl, a, b, rfl, e2, la, lb, fun t H1 s1 nt ft => ?_⟩
    have h1 := hh.mono s1
    obtain ⟨ps, g1, g2, g3⟩ := h1.own
    have n1 := ok.n1
    have hi : i < m.own.length := by rw [ok.nOwn]; exact e1
    refine ⟨_, rfl, h, C, dx, _, _, rfl, h1.obj, T.cl, T.nOwn, hF_own _ _ _ _ _, _, rfl, lo, _, _, _, rfl, rfl, g1, ixN_nat (by rw [List.length_map]; omega), ?_⟩
    have hne : ps ≠ [] := by
      intro e
      have h0 : ps.length = 0 := by rw [e]; rfl
      omega
    have k2 : Keep H1 (upd H1 lo (.lst ((ps.map V.ref).set i (.ref t)))) := Keep.refs g1 hne
    have hH2 : HouseIn C (upd H1 lo (.lst ((ps.map V.ref).set i (.ref t)))) h dx t1 t2 lo lw ws (ownM m i (lowFr a b)) := by
      refine ⟨?_, ?_, ?_, FrsAt.set g1 g2 g3 ft hi, ?_, h1.rows, fun k hk => ?_, h1.lone⟩
      · rw [upd_ne (ne_of h1.obj g1 (by intro z; cases z))]; exact h1.obj
      · exact k2 _ _ h1.ko (fun _ _ _ e => by cases e) (fun _ _ e => by cases e)
      · exact k2 _ _ h1.kp (fun _ _ _ e => by cases e) (fun _ _ e => by cases e)
      · rw [upd_ne (h1.lw_lo ok ⟨ps, g1, g2, g3⟩ (by omega))]; exact h1.owed
      · have hk : k < m.owed.length := hk
        refine (h1.row k hk).other g1 ?_
        intro e3
        refine h1.lone.2 ?_
        rw [← e3, getD_lt (by rw [h1.rows]; exact hk)]
        exact List.getElem_mem _
    refine ⟨(by show 1 ≤ sizeLine; decide), fun p hp => ?_⟩
    have np : H p = none := by
      cases e5 : H p with
      | none => rfl
      | some o =>
        by_cases e6 : p = lo
        · subst e6; rw [upd_same] at hp; cases hp
        · rw [upd_ne e6, s1 _ _ e5] at hp; cases hp
    exact q p _ (((Same.keep s1).trans k2).trans (Same.keep (same_upd hp))) np ⟨dx, t1, t2, lo, lw, ws, hH2.mono (same_upd hp)⟩ upd_same
/-! answer_owes -/
theorem scOwes : FnScope ["house", "i", "j", "a", "b"] ["house", "i", "j", "a", "b"] (defScope sOwes) := ⟨rfl, rfl, rfl, by decide +kernel, rfl, by decide +kernel, by decide +kernel⟩
def owesA (m : HouseM) (i j a b : Nat) : HouseM × List Int := if m.n ≤ i ∨ m.n ≤ j then (m, [-2]) else if b = 0 ∨ i = j then (m, [-1]) else (owesM m i j (lowFr a b), [0])
def spOwes (C : Addr) : Sp := fun vs H Q _ => ∃ (h : Addr) (m : HouseM) (i j a b : Nat), vs = [.ref h, .int i, .int j, .int a, .int b] ∧ HouseAt C H h m ∧ HouseOk m ∧ a ≤ 1000000 ∧ b ≤ 1000000 ∧ Told C H Q h (owesA m i j a b)
theorem ok_owes {f f3 C : Addr} {fd fd3 : FuncData} (F : Fun K "answer_owes" "answer_owes" sOwes f fd) (T : CHouse K mg C) (N : Consts mg) (D3 : Def P w K mg base 3 "fraction" ["a", "b"] spFraction f3 fd3) :
    FnOk P w K mg base CX0 4 f fd ["house", "i", "j", "a", "b"] (spOwes C) := by
  refine F.ok scOwes (fun vs H Q E h => ?_) (fun cdv A outer s H vs Q E hr h => ?_)
  · obtain ⟨h, m, i, j, a, b, rfl, _⟩ := h
    rfl
  · obtain ⟨h, m, i, j, a, b, rfl, hH, ok, la, lb, q⟩ := h
    obtain ⟨tn, gn⟩ := N.notAllowed
    obtain ⟨tp, gp⟩ := N.noParty
    obtain ⟨dx, t1, t2, lo, lw, ws, hh⟩ := id hH
    refine ⟨_, pss_cons (ps_if (PW.pt (pw_or (pt_cmpR op_ge (pv 1) (pe_fld (pv 0) rfl) (nomark _)) (pw_or1 (pt_cmpR op_ge (pv 2) (pe_fld (pv 0) rfl) (nomark _))))) (pss_one (ps_ret (pe_lst (pa_cons (pe_glob (v := .int (-2)) rfl gp ⟨_, rfl⟩) pa_nil)))) pss_nil)
      (pss_cons (ps_if (PW.pt (pw_or (pt_cmpR op_eq (pv 4) pe_int (nomark _)) (pw_or1 (pt_cmpR op_eq (pv 1) (pv 2) (nomark _))))) (pss_one (ps_ret (pe_lst (pa_cons (pe_glob (v := .int (-1)) rfl gn ⟨_, rfl⟩) pa_nil)))) pss_nil)
      (pss_cons (ps_asg (pe_call D3.ok hr rfl D3.here D3.kp D3.b .nil pass0 (pa_cons (pv 3) (pa_cons (pv 4) pa_nil))) (pg_sub (pe_ix ix_list (pe_fld (pv 0) rfl) (pv 1) (fun _ _ => rfl)) (pv 2) set_list))
      (pss_one (ps_ret (pe_lst (pa_cons pe_int pa_nil)))))), ?_⟩
    unfold Told at q
    have out : ∀ ans : List Int, owesA m i j a b = (m, ans) → ∀ p, H p = none → Q (.ref p) (upd H p (.lst (lI ans))) := by
      intro ans e p hp
      rw [e] at q
      exact q p _ (Same.keep (same_upd hp)) hp (hH.mono (same_upd hp)) upd_same
    refine ⟨_, rfl, _, rfl, h, C, dx, _, _, rfl, hh.obj, T.cl, T.nParties, hF_parties _ _ _ _ _, _, _, rfl, rfl, _, rfl, ite2 (fun c1 => ?_) (fun c1 => ?_)⟩
    · have e1 : m.n ≤ i := by have := of_decide_eq_true c1; omega
      exact ⟨(by show 1 ≤ sizeLine; decide), out [-2] (if_pos (.inl e1))⟩
    have e1 : i < m.n := by
      by_cases h0 : i < m.n
      · exact h0
      · exact absurd (decide_eq_true (by omega)) c1
    refine ⟨_, rfl, _, rfl, h, C, dx, _, _, rfl, hh.obj, T.cl, T.nParties, hF_parties _ _ _ _ _, _, _, rfl, rfl, _, rfl, ite2 (fun c2 => ?_) (fun c2 => ?_)⟩
    · have e2 : m.n ≤ j := by have := of_decide_eq_true c2; omega
      exact ⟨(by show 1 ≤ sizeLine; decide), out [-2] (if_pos (.inr e2))⟩
    have e2 : j < m.n := by
      by_cases h0 : j < m.n
      · exact h0
      · exact absurd (decide_eq_true (by omega)) c2
    have n2 : ¬ (m.n ≤ i ∨ m.n ≤ j) := by omega
    refine ⟨_, rfl, rfl, _, rfl, ite2 (fun c3 => ?_) (fun c3 => ?_)⟩
    · have e3 : b = 0 := by have := V.int.inj (of_decide_eq_true c3); omega
      exact ⟨(by show 1 ≤ sizeLine; decide), out [-1] (by unfold owesA; rw [if_neg n2, if_pos (.inl e3)])⟩
    have e3 : 0 < b := by
      by_cases h0 : b = 0
      · exact absurd (decide_eq_true (by rw [h0]; rfl)) c3
      · omega
    refine ⟨_, rfl, _, rfl, rfl, _, rfl, ite2 (fun c4 => ?_) (fun c4 => ?_)⟩
    · have e4 : i = j := by have := V.int.inj (of_decide_eq_true c4); omega
      exact ⟨(by show 1 ≤ sizeLine; decide), out [-1] (by unfold owesA; rw [if_neg n2, if_pos (.inr e4)])⟩
    have e4 : ¬ i = j := fun h0 => c4 (decide_eq_true (by rw [h0]))
    have e : owesA m i j a b = (owesM m i j (lowFr a b), [0]) := by unfold owesA; rw [if_neg n2, if_neg (by omega)]
    rw [e] at q
    refine ⟨_, rfl, _, rfl, a, b, rfl, e3, la, lb, fun t H1 s1 nt ft => ?_⟩
    have h1 := hh.mono s1
    have hi : i < m.owed.length := by rw [ok.nOwed]; exact e1
    have hiw : i < ws.length := by rw [h1.rows]; exact hi
    obtain ⟨ps, g1, g2, g3⟩ := h1.row i hi
    have n1 := ok.n1
    have hj : j < (m.owed.getD i []).length := by rw [ok.nRow i e1]; exact e2
    refine ⟨_, rfl, h, C, dx, _, _, rfl, h1.obj, T.cl, T.nOwed, hF_owed _ _ _ _ _, _, rfl, lw, _, _, _, rfl, rfl, SqL.of h1.owed, atI_nat (refs_at hiw), _, rfl, _, _, _, _, rfl, rfl, g1, ixN_nat (by rw [List.length_map]; omega), ?_⟩
    have hne : ps ≠ [] := by
      intro e
      have h0 : ps.length = 0 := by rw [e]; rfl
      omega
    have k2 : Keep H1 (upd H1 (ws.getD i 0) (.lst ((ps.map V.ref).set j (.ref t)))) := Keep.refs g1 hne
    have hmem : ws.getD i 0 ∈ ws := by rw [getD_lt hiw]; exact List.getElem_mem _
    have hH2 : HouseIn C (upd H1 (ws.getD i 0) (.lst ((ps.map V.ref).set j (.ref t)))) h dx t1 t2 lo lw ws (owesM m i j (lowFr a b)) := by
      refine ⟨?_, ?_, ?_, ?_, ?_, ?_, fun k hk => ?_, h1.lone⟩
      · rw [upd_ne (ne_of h1.obj g1 (by intro z; cases z))]; exact h1.obj
      · exact k2 _ _ h1.ko (fun _ _ _ e => by cases e) (fun _ _ e => by cases e)
      · exact k2 _ _ h1.kp (fun _ _ _ e => by cases e) (fun _ _ e => by cases e)
      · exact h1.own.other g1 (fun e5 => h1.lone.2 (by rw [e5]; exact hmem))
      · rw [upd_ne (h1.lw_lo ok ⟨ps, g1, g2, g3⟩ (by omega))]; exact h1.owed
      · show ws.length = (m.owed.set i _).length
        rw [List.length_set]; exact h1.rows
      · have hk : k < m.owed.length := by simpa [owesM] using hk
        show FrsAt _ _ ((m.owed.set i ((m.owed.getD i []).set j (lowFr a b))).getD k [])
        rw [getD_set]
        by_cases e5 : i = k
        · subst e5
          rw [if_pos ⟨rfl, hi⟩]
          exact FrsAt.set g1 g2 g3 ft hj
        · rw [if_neg (fun h => e5 h.1)]
          refine (h1.row k hk).other g1 ?_
          intro e6
          have hkw : k < ws.length := by rw [h1.rows]; exact hk
          rw [getD_lt hkw, getD_lt hiw] at e6
          exact e5 (nodup_ix h1.lone.1 hkw hiw e6).symm
    refine ⟨(by show 1 ≤ sizeLine; decide), fun p hp => ?_⟩
    have np : H p = none := by
      cases e5 : H p with
      | none => rfl
      | some o =>
        by_cases e6 : p = ws.getD i 0
        · subst e6; rw [upd_same] at hp; cases hp
        · rw [upd_ne e6, s1 _ _ e5] at hp; cases hp
    exact q p _ (((Same.keep s1).trans k2).trans (Same.keep (same_upd hp))) np ⟨dx, t1, t2, lo, lw, ws, hH2.mono (same_upd hp)⟩ upd_same
end
end Wq

namespace Wq
open PySem PySem.Spec PyProof.Rows L2 Wp
/-- [x for x in xs if t], xs whole numbers -/
theorem lc_lstX {K : PySem.W.Frag} {a : Addr} {ws : List Int} {j : Nat} {te : TE} {tt : TT} {vs : List Nat} {σ : L2.St} {H1 : Hp} {D : Addr} {Qd : Hp → Prop} (c : Int → Bool) (hD : H1 D = none) (ha : SqL K H1 a (lI ws)) (hn : ws.length ≤ 1000)
    (hw : ∀ x, wipe ((wipe σ vs).set j x) vs = wipe σ vs)
    (ht : ∀ i, i ∈ ws → ∀ H' (R : Bool → Hp → Prop), R (c i) H' → tt ((wipe σ vs).set j (some (.int i))) H' R)
    (he : ∀ i, i ∈ ws → ∀ H' (R : VK), R (.int i) H' → te ((wipe σ vs).set j (some (.int i))) H' R)
    (hd : ∀ H', Same H1 H' → H' D = some (.lst (lI (ws.filter c))) → Qd H') : LcL K a j tt te vs σ H1 D Qd := by
  refine lc_list (K := K) (a := a) (xs := lI ws) (fun i H' => Same H1 H' ∧ H' D = some (.lst (lI ((ws.take i).filter c)))) ⟨same_upd hD, upd_same⟩ (fun i H' _ ⟨s1, _⟩ => s1.seq ha) ?_ ?_
  · rintro i x H' hx ⟨s1, hA⟩
    have hi : i < ws.length := by
      have := (List.getElem?_eq_some_iff.mp hx).1
      rwa [List.length_map] at this
    rw [lI_at hi] at hx
    obtain rfl := Option.some.inj hx
    have hm : ws.getD i 0 ∈ ws := by rw [getD_lt hi]; exact List.getElem_mem _
    refine ⟨hw _, ?_⟩
    have hlen : (lI ((ws.take i).filter c)).length ≤ i := by
      rw [List.length_map]
      exact Nat.le_trans (List.length_filter_le _ _) (by simp; omega)
    have et : ws.take (i + 1) = ws.take i ++ [ws.getD i 0] := by
      rw [List.take_add_one, List.getElem?_eq_getElem hi, getD_lt hi]; rfl
    generalize ws.getD i 0 = y at hm et hx ⊢
    refine ht y hm H' _ ?_
    by_cases hc : c y = true
    · rw [if_pos hc]
      refine he _ hm H' _ ⟨_, hA, small1000 (by omega), same_of_but hD s1 but_upd, ?_⟩
      rw [upd_same, et, List.filter_append]
      simp [hc]
    · rw [if_neg hc]
      refine ⟨s1, ?_⟩
      rw [hA, et, List.filter_append]
      simp [hc]
  · rintro H' ⟨s1, hA⟩
    rw [List.length_map, List.take_length] at hA
    exact hd H' s1 hA
def lowI (a b : Int) : List Int := [((a.toNat / Nat.gcd a.toNat b.toNat : Nat) : Int), ((b.toNat / Nat.gcd a.toNat b.toNat : Nat) : Int)]
def howMany (p : PayM) : Int := ((p.fell.filter fun x => decide (0 < x)).length : Int)
def paidWorth1 (s : SheetM) (p : PayM) (i : Nat) : List Int := lowI (s.debts.getD i 0 * p.above.getD i 0) (s.unit * p.below) ++ lowI (max (surplusM s p i) 0) (s.unit * p.below)
def paidWorth (s : SheetM) (p : PayM) : List Int := (List.range s.n).flatMap (paidWorth1 s p)
theorem paidWorth1_len (s : SheetM) (p : PayM) (i : Nat) : (paidWorth1 s p i).length = 4 := rfl
theorem surplus_bits {s : SheetM} {p : PayM} (so : SheetOk s) (po : PayOk s p) (i : Nat) : (surplusM s p i).natAbs < 2 ^ 12627 := by
  unfold surplusM meansM
  have h1 := bits_mul (so.bOwn i) po.bBelow
  have h2 := paidTo_bits so po i
  have h3 := bits_mul (so.bDebts i) po.bBelow
  have u : ∀ {x : Int} {b : Nat}, x.natAbs < 2 ^ b → b ≤ 12624 → x.natAbs < 2 ^ 12624 := fun h hb => Nat.lt_of_lt_of_le h (Nat.pow_le_pow_right (by decide) hb)
  have h1 := u h1 (by decide)
  have h3 := u h3 (by decide)
  have e : (2 : Nat) ^ 12627 = 8 * 2 ^ 12624 := by rw [show (12627 : Nat) = 3 + 12624 from rfl, Nat.pow_add]
  rw [e]
  generalize 2 ^ 12624 = z at *
  omega
section
variable {P : Program} {w : World} {K : PySem.W.Frag} {mg : Str → Option Value} {base : Heap}
/-! how_many_fall -/
theorem scHowMany : FnScope ["payments", "wave"] ["payments"] (defScope sHowMany) := ⟨rfl, rfl, rfl, by decide +kernel, rfl, by decide +kernel, by decide +kernel⟩
def spHowMany (CP : Addr) : Sp := fun vs H Q _ => ∃ (b : Addr) (p : PayM), vs = [.ref b] ∧ PayAt CP H b p ∧ p.fell.length ≤ 8 ∧ ∀ H', Same H H' → Q (.int (howMany p)) H'
theorem ok_howMany {f CP : Addr} {fd : FuncData} (F : Fun K "how_many_fall" "how_many_fall" sHowMany f fd) (B : Env mg) (TP : CPay K mg CP) : FnOk P w K mg base CX0 1 f fd ["payments"] (spHowMany CP) := by
  refine F.ok scHowMany (fun vs H Q E h => ?_) (fun cdv A outer s H vs Q E hr h => ?_)
  · obtain ⟨b, p, rfl, _⟩ := h
    rfl
  · obtain ⟨b, p, rfl, ⟨dy, la, lf, hp⟩, h8, q⟩ := h
    refine ⟨_, pss_one (ps_ret (pe_callB call_len_seq (by rfl) B.len PySem.boot_len (pa_cons (pe_lc (own := [("wave", 1)]) (g := gName 1) rfl scHowMany.nd (pi_list (pe_fld (pv 0) rfl))
          (blkOk_by (own := [("wave", 1)]) (N := ["payments", "wave"]) (sc := defScope sHowMany) (by decide +kernel))
          (fun _ _ _ _ _ => pg_name (i := 1) scHowMany.nd rfl (Or.inl rfl))
          (fun _ _ _ _ _ => pts_one (pt_cmpR op_gt (pv 1) pe_int (nomark _)))
          (fun _ _ _ _ _ => pv 1)) pa_nil))), ?_⟩
    refine ⟨_, rfl, b, CP, dy, _, _, rfl, hp.obj, TP.cl, TP.nFell, pF_fell _ _ _, lf, rfl, ⟨_, SqL.of hp.fell⟩, fun D hD => ?_⟩
    refine lc_lstX (K := K) (a := lf) (ws := p.fell) (fun x => decide (0 < x)) hD (SqL.of hp.fell) (by omega) (fun _ => rfl) ?_ ?_ ?_
    · intro x hx H' R hR
      exact ⟨_, rfl, _, _, rfl, rfl, _, rfl, hR⟩
    · intro x hx H' R hR
      exact ⟨_, rfl, hR⟩
    · intro H1 s1 hA
      refine ⟨D, _, rfl, .inl (SqL.of hA), ?_⟩
      have := q H1 s1
      unfold howMany at this
      rw [List.length_map]
      exact this
/-! paid_and_worth -/
theorem scPaidWorth : FnScope ["sheet", "payments", "below", "told", "i"] ["sheet", "payments"] (defScope sPaidWorth) := ⟨rfl, rfl, rfl, by decide +kernel, rfl, by decide +kernel, by decide +kernel⟩
def spPaidWorth (CS CP : Addr) : Sp := fun vs H Q _ => ∃ (a b : Addr) (s : SheetM) (p : PayM), vs = [.ref a, .ref b] ∧ SheetAt CS H a s ∧ PayAt CP H b p ∧ SheetOk s ∧ PayOk s p ∧ (∀ i, i < s.n → 0 ≤ s.debts.getD i 0 * p.above.getD i 0) ∧
  ∀ r H', Same H H' → H' r = some (.lst (lI (paidWorth s p))) → Q (.ref r) H'
theorem ok_paidWorth {f f1 f2 CS CP : Addr} {fd fd1 fd2 : FuncData} (F : Fun K "paid_and_worth" "paid_and_worth" sPaidWorth f fd) (B : Env mg) (TS : CSheet K mg CS) (TP : CPay K mg CP)
    (D1 : Def P w K mg base 2 "lowest" ["above", "below"] spLowest f1 fd1) (D2 : Def P w K mg base 3 "surplus" ["sheet", "payments", "i"] (spRead CS CP fun s p i => .int (surplusM s p i)) f2 fd2) :
    FnOk P w K mg base CX0 4 f fd ["sheet", "payments"] (spPaidWorth CS CP) := by
  refine F.ok scPaidWorth (fun vs H Q E h => ?_) (fun cdv A outer s H vs Q E hr h => ?_)
  · obtain ⟨a, b, s, p, rfl, _⟩ := h
    rfl
  · obtain ⟨a, b, s, p, rfl, hS, hP, so, po, nn, q⟩ := h
    obtain ⟨dx, lo, lw, ld, hs⟩ := id hS
    obtain ⟨dy, la, lf, hp⟩ := id hP
    have hr2 : Room 2 _ := hr.mono (by decide)
    refine ⟨_, pss_cons (ps_set (i := 2) scPaidWorth.nd rfl (Or.inl rfl) (pe_op op_mulW (pe_fld (pv 0) rfl) (pe_fld (pv 1) rfl)))
      (pss_cons (ps_set (i := 3) scPaidWorth.nd rfl (Or.inl rfl) (pe_lst pa_nil))
      (pss_cons (ps_for PassesOwn.never rfl (pi_range1 rfl B.range (pa_cons (pe_fld (pv 0) rfl) pa_nil)) (pg_name (i := 4) scPaidWorth.nd rfl (Or.inl rfl))
        (pss_cons (ps_expr (pe_bm PySem.F.plainAttrs_list PySem.F.slot_list_extend PySem.F.type_list_extend mt_extend (pv 3)
            (pa_cons (pe_call D1.ok hr2 rfl D1.here D1.kp D1.b .nil pass0 (pa_cons (pe_op op_mulW (pe_ix ix_list (pe_fld (pv 0) rfl) (pv 4) (fun _ _ => rfl)) (pe_ix ix_list (pe_fld (pv 1) rfl) (pv 4) (fun _ _ => rfl))) (pa_cons (pv 2) pa_nil))) pa_nil)))
        (pss_one (ps_expr (pe_bm PySem.F.plainAttrs_list PySem.F.slot_list_extend PySem.F.type_list_extend mt_extend (pv 3)
            (pa_cons (pe_call D1.ok hr2 rfl D1.here D1.kp D1.b .nil pass0 (pa_cons (pe_callB (call_max2 rfl) (by rfl) B.max (by decide +kernel) (pa_cons (pe_call D2.ok hr rfl D2.here D2.kp D2.b .nil pass0 (pa_cons (pv 0) (pa_cons (pv 1) (pa_cons (pv 4) pa_nil)))) (pa_cons pe_int pa_nil))) (pa_cons (pv 2) pa_nil))) pa_nil))))))
      (pss_one (ps_ret (pv 3))))), ?_⟩
    have n8 := so.n8
    have en : ((s.n : Int)).toNat = s.n := by omega
    have sb : Small (s.unit * p.below) := small_lt (bits_mul so.bUnit po.bBelow)
    have b0 : 0 < s.unit * p.below := Int.mul_pos so.unit0 po.below0
    refine ⟨_, rfl, a, CS, dx, _, _, rfl, hs.obj, TS.cl, TS.nUnit, sF_unit _ _ _ _, _, rfl, b, CP, dy, _, _, rfl, hp.obj, TP.cl, TP.nBelow, pF_below _ _ _, _, _, rfl, rfl, small_mul (small_lt so.bUnit) (small_lt po.bBelow), ?_⟩
    refine ⟨(Nat.zero_le _), fun T hT => ?_⟩
    have sT := same_upd (o := .lst []) hT
    refine ⟨_, rfl, a, CS, dx, _, _, rfl, (hs.mono sT).obj, TS.cl, TS.nParties, sF_parties _ _ _ _, _, rfl, (by omega), (by omega), ?_⟩
    rw [en]
    refine for_range (lo := 0) (n := s.n) (fun i σ H' => ∃ x4, σ = [some (.ref a), some (.ref b), some (.int (s.unit * p.below)), some (.ref T), x4] ∧ Same H H' ∧ H' T = some (.lst (lI ((List.range i).flatMap (paidWorth1 s p)))))
      ⟨none, rfl, sT, upd_same⟩ ?_ ?_
    · rintro i σ H' hi ⟨x4, rfl, s1, hA⟩
      have e0 : (0 : Int) + (i : Int) = (i : Int) := by omega
      rw [e0]
      have hs1 := hs.mono s1
      have hp1 := hp.mono s1
      have hlen : (lI ((List.range i).flatMap (paidWorth1 s p))).length = 4 * i := by
        rw [List.length_map, List.length_flatMap]
        have : (List.range i).map (fun x => (paidWorth1 s p x).length) = List.replicate i 4 := by
          refine List.ext_getElem? (fun k => ?_)
          by_cases hk : k < i
          · rw [List.getElem?_map, List.getElem?_range hk, List.getElem?_replicate, if_pos hk]; rfl
          · rw [List.getElem?_eq_none (by simp; omega), List.getElem?_eq_none (by simp; omega)]
        rw [this, List.sum_replicate_nat]; omega
      have m1 : CMulW (s.debts.getD i 0) (p.above.getD i 0) := small_mul (small_lt (so.bDebts i)) (small_lt (po.bAbove i))
      have sm1 : Small (s.debts.getD i 0 * p.above.getD i 0) := small_lt (bits_mul (so.bDebts i) (po.bAbove i))
      have e1 : ((s.debts.getD i 0 * p.above.getD i 0).toNat : Int) = s.debts.getD i 0 * p.above.getD i 0 := Int.toNat_of_nonneg (nn i hi)
      have e2 : ((s.unit * p.below).toNat : Int) = s.unit * p.below := Int.toNat_of_nonneg (Int.le_of_lt b0)
      have hb2 : 0 < (s.unit * p.below).toNat := by omega
      refine ⟨_, rfl, .inl ⟨rfl, _, SqL.of hA⟩, _, rfl, a, CS, dx, _, _, rfl, hs1.obj, TS.cl, TS.nDebts, sF_debts _ _ _ _, _, rfl, ld, _, _, _, rfl, rfl, SqL.of hs1.debts, atI_nat (lI_at (by rw [so.nDebts]; exact hi)), _, rfl, b, CP, dy, _, _, rfl, hp1.obj, TP.cl, TP.nAbove, pF_above _ _ _, _, rfl, la, _, _, _, rfl, rfl, SqL.of hp1.above, atI_nat (lI_at (by rw [po.nAbove]; exact hi)), _, _, rfl, rfl, m1, _, rfl, ?_⟩
      refine ⟨(s.debts.getD i 0 * p.above.getD i 0).toNat, (s.unit * p.below).toNat, by rw [e1, e2]; rfl, hb2, by rw [e1]; exact sm1, by rw [e2]; exact sb, fun L hL => ?_⟩
      have sL := same_upd (o := .lst [.int (((s.debts.getD i 0 * p.above.getD i 0).toNat / Nat.gcd (s.debts.getD i 0 * p.above.getD i 0).toNat (s.unit * p.below).toNat : Nat)), .int (((s.unit * p.below).toNat / Nat.gcd (s.debts.getD i 0 * p.above.getD i 0).toNat (s.unit * p.below).toNat : Nat))]) hL
      refine ⟨T, L, _, _, rfl, rfl, sL _ _ hA, upd_same, by rw [hlen]; exact Nat.le_of_lt (small1000 (by simp; omega)), ?_⟩
      have hT0 : H T = none := hT
      have eT : lI ((List.range i).flatMap (paidWorth1 s p)) ++ [V.int (((s.debts.getD i 0 * p.above.getD i 0).toNat / Nat.gcd (s.debts.getD i 0 * p.above.getD i 0).toNat (s.unit * p.below).toNat : Nat)), V.int (((s.unit * p.below).toNat / Nat.gcd (s.debts.getD i 0 * p.above.getD i 0).toNat (s.unit * p.below).toNat : Nat))] = lI ((List.range i).flatMap (paidWorth1 s p) ++ lowI (s.debts.getD i 0 * p.above.getD i 0) (s.unit * p.below)) := by
        show _ = List.map V.int _
        rw [List.map_append]; rfl
      rw [eT]
      have s2 : Same H (upd (upd H' L (.lst [.int (((s.debts.getD i 0 * p.above.getD i 0).toNat / Nat.gcd (s.debts.getD i 0 * p.above.getD i 0).toNat (s.unit * p.below).toNat : Nat)), .int (((s.unit * p.below).toNat / Nat.gcd (s.debts.getD i 0 * p.above.getD i 0).toNat (s.unit * p.below).toNat : Nat))])) T (.lst (lI ((List.range i).flatMap (paidWorth1 s p) ++ lowI (s.debts.getD i 0 * p.above.getD i 0) (s.unit * p.below))))) := same_but hT0 (s1.trans sL)
      have hA2 : (upd (upd H' L (.lst [.int (((s.debts.getD i 0 * p.above.getD i 0).toNat / Nat.gcd (s.debts.getD i 0 * p.above.getD i 0).toNat (s.unit * p.below).toNat : Nat)), .int (((s.unit * p.below).toNat / Nat.gcd (s.debts.getD i 0 * p.above.getD i 0).toNat (s.unit * p.below).toNat : Nat))])) T (.lst (lI ((List.range i).flatMap (paidWorth1 s p) ++ lowI (s.debts.getD i 0 * p.above.getD i 0) (s.unit * p.below))))) T = some (.lst (lI ((List.range i).flatMap (paidWorth1 s p) ++ lowI (s.debts.getD i 0 * p.above.getD i 0) (s.unit * p.below)))) := upd_same
      generalize upd (upd H' L (.lst [.int (((s.debts.getD i 0 * p.above.getD i 0).toNat / Nat.gcd (s.debts.getD i 0 * p.above.getD i 0).toNat (s.unit * p.below).toNat : Nat)), .int (((s.unit * p.below).toNat / Nat.gcd (s.debts.getD i 0 * p.above.getD i 0).toNat (s.unit * p.below).toNat : Nat))])) T (.lst (lI ((List.range i).flatMap (paidWorth1 s p) ++ lowI (s.debts.getD i 0 * p.above.getD i 0) (s.unit * p.below)))) = H2 at s2 hA2 ⊢
      refine ⟨_, rfl, .inl ⟨rfl, _, SqL.of hA2⟩, _, rfl, _, rfl, _, rfl, a, b, i, s, p, rfl, hS.mono s2, hP.mono s2, so, po, hi, fun H3 s3 => ?_⟩
      have hA3 := s3 _ _ hA2
      refine ⟨_, _, rfl, _, rfl, ?_⟩
      have emx : (if (0 : Int) > surplusM s p i then (0 : Int) else surplusM s p i) = max (surplusM s p i) 0 := by
        rw [Int.max_def]
        split <;> split <;> omega
      have e3 : ((max (surplusM s p i) 0).toNat : Int) = max (surplusM s p i) 0 := Int.toNat_of_nonneg (by omega)
      have sm3 : Small (max (surplusM s p i) 0) := Small.mono (small_lt (surplus_bits so po i)) (by omega)
      refine ⟨(max (surplusM s p i) 0).toNat, (s.unit * p.below).toNat, by rw [e3, e2, ← emx]; rfl, hb2, by rw [e3]; exact sm3, by rw [e2]; exact sb, fun L3 hL3 => ?_⟩
      have sL3 := same_upd (o := .lst [.int (((max (surplusM s p i) 0).toNat / Nat.gcd (max (surplusM s p i) 0).toNat (s.unit * p.below).toNat : Nat)), .int (((s.unit * p.below).toNat / Nat.gcd (max (surplusM s p i) 0).toNat (s.unit * p.below).toNat : Nat))]) hL3
      refine ⟨T, L3, _, _, rfl, rfl, sL3 _ _ hA3, upd_same, ?_, ?_⟩
      · rw [List.length_map, List.length_append, ← List.length_map (f := V.int), hlen]
        exact Nat.le_of_lt (small1000 (by simp [lowI]; omega))
      · refine ⟨_, rfl, same_but hT0 ((s2.trans s3).trans sL3), ?_⟩
        rw [upd_same]
        congr 2
        rw [List.range_succ, List.flatMap_append]
        show (List.map V.int _) ++ List.map V.int (lowI (max (surplusM s p i) 0) (s.unit * p.below)) = List.map V.int _
        rw [← List.map_append]
        congr 1
        rw [List.append_assoc]
        simp [paidWorth1]
    · rintro σ H' ⟨x4, rfl, s1, hA⟩
      exact ⟨_, rfl, q T H' s1 hA⟩
end
end Wq

namespace Wq
open PySem PySem.Spec PyProof.Rows L2 Wp
def greatestP (m : HouseM) : PayM := payAfter (sheetOf m) (sinkAll (sheetOf m) (heldS none) canM)
def leastP (m : HouseM) : PayM := payAfter (sheetOf m) (leastM (sheetOf m) (m.n + 1) fun _ => false)
def clearA (m : HouseM) : HouseM × List Int := (m, howMany (greatestP m) :: ((greatestP m).fell ++ paidWorth (sheetOf m) (greatestP m)))
def leastA (m : HouseM) : HouseM × List Int := (m, if m.kp.1 = m.kp.2 then [-6] else howMany (leastP m) :: paidWorth (sheetOf m) (leastP m))
theorem paidWorth_len (s : SheetM) (p : PayM) : (paidWorth s p).length = 4 * s.n := by
  unfold paidWorth
  rw [List.length_flatMap]
  have : (List.range s.n).map (fun x => (paidWorth1 s p x).length) = List.replicate s.n 4 := by
    refine List.ext_getElem? (fun k => ?_)
    by_cases hk : k < s.n
    · rw [List.getElem?_map, List.getElem?_range hk, List.getElem?_replicate, if_pos hk]; rfl
    · rw [List.getElem?_eq_none (by simp; omega), List.getElem?_eq_none (by simp; omega)]
  rw [this, List.sum_replicate_nat]; omega
/-- what is needed of payments that are told -/
structure Fine (m : HouseM) (p : PayM) : Prop where
  ok : PayOk (sheetOf m) p
  nn : ∀ i, i < m.n → 0 ≤ (sheetOf m).debts.getD i 0 * p.above.getD i 0
theorem HouseOk.fine {m : HouseM} (ok : HouseOk m) {fell : List Int} (r : Ready m fell) : Fine m (payAfter (sheetOf m) fell) := by
  have rel := ok.rel r
  refine ⟨rel.ok, fun i hi => ?_⟩
  have h1 := rel.rel i hi
  have h2 := ok.debts_unit hi
  have h3 := ok.nonneg r i hi
  have h4 : (0 : Rat) < (((payAfter (sheetOf m) fell).below : Int) : Rat) := by have := rel.ok.below0; exact_mod_cast this
  have h5 := natR0 (unitOf (allFr m))
  have h6 : (((sheetOf m).debts.getD i 0 * (payAfter (sheetOf m) fell).above.getD i 0 : Int) : Rat) = (unitOf (allFr m) : Rat) * ((((payAfter (sheetOf m) fell).below : Int) : Rat) * Co08.payOf (paysOf m fell) i) := by
    rw [Rat.intCast_mul, h2, ← h1]
    grind
  have h7 : (0 : Rat) ≤ (((sheetOf m).debts.getD i 0 * (payAfter (sheetOf m) fell).above.getD i 0 : Int) : Rat) := by
    rw [h6]
    exact Rat.mul_nonneg h5 (Rat.mul_nonneg (Rat.le_of_lt h4) h3)
  exact_mod_cast h7
theorem HouseOk.fineG {m : HouseM} (ok : HouseOk m) : Fine m (greatestP m) := ok.fine (ok.sinkAll_can _).1
theorem HouseOk.fineL {m : HouseM} (ok : HouseOk m) (hk : (sysOf m).keptPaid < 1) : Fine m (leastP m) := by
  obtain ⟨_, _, h, _⟩ := ok.least0 hk
  exact ok.fine h.ready
theorem rat_lt {q : Fr} (h0 : 0 < q.2) (h : q.1 < q.2) : rat q < 1 := by
  have h1 := rat1 h0 (by omega)
  refine Rat.not_le.1 (fun h2 => ?_)
  have h3 : rat q = 1 := by grind
  unfold rat at h3
  have h4 := natRpos h0
  have h5 : (q.1 : Rat) = (q.2 : Rat) := by grind
  have h6 : q.1 = q.2 := by exact_mod_cast h5
  omega
theorem rat_one {q : Fr} (h0 : 0 < q.2) (h : q.1 = q.2) : rat q = 1 := by
  unfold rat
  rw [h]
  have h4 := natRpos h0
  grind
section
variable {P : Program} {w : World} {K : PySem.W.Frag} {mg : Str → Option Value} {base : Heap}
/-- a call without numbers, which only tells -/
def spTell (C : Addr) (g : HouseM → HouseM × List Int) : Sp := fun vs H Q _ => ∃ (h : Addr) (m : HouseM), vs = [.ref h] ∧ HouseAt C H h m ∧ HouseOk m ∧ Told C H Q h (g m)
/-! answer_clear -/
theorem scClear : FnScope ["house", "sheet", "payments"] ["house"] (defScope sClear) := ⟨rfl, rfl, rfl, by decide +kernel, rfl, by decide +kernel, by decide +kernel⟩
theorem ok_clear {f f1 f2 f3 f4 C CS CP : Addr} {fd fd1 fd2 fd3 fd4 : FuncData} (F : Fun K "answer_clear" "answer_clear" sClear f fd) (TS : CSheet K mg CS) (TP : CPay K mg CP)
    (M : Mk K CS f1) (G1 : FnOk P w K mg base CX0 4 f1 fd1 ["self", "house"] (spSheetInit CS C)) (b1 : Binds K fd1 ["self", "house"] [])
    (D2 : Def P w K mg base 7 "greatest_payments" ["sheet"] (spGreatest CS CP) f2 fd2) (D3 : Def P w K mg base 1 "how_many_fall" ["payments"] (spHowMany CP) f3 fd3)
    (D4 : Def P w K mg base 4 "paid_and_worth" ["sheet", "payments"] (spPaidWorth CS CP) f4 fd4) :
    FnOk P w K mg base CX0 8 f fd ["house"] (spTell C clearA) := by
  refine F.ok scClear (fun vs H Q E h => ?_) (fun cdv A outer s H vs Q E hr h => ?_)
  · obtain ⟨h, m, rfl, _⟩ := h
    rfl
  · obtain ⟨h, m, rfl, hH, ok, q⟩ := h
    have hr1 : Room 1 _ := hr.mono (by decide)
    have hr4 : Room 4 _ := hr.mono (by decide)
    have hr5 : Room 5 _ := hr.mono (by decide)
    refine ⟨_, pss_cons (ps_set (i := 1) scClear.nd rfl (Or.inl rfl) (pe_make M G1 hr5 rfl TS.here b1 .nil pass0 (pa_cons (pv 0) pa_nil)))
      (pss_cons (ps_set (i := 2) scClear.nd rfl (Or.inl rfl) (pe_call D2.ok hr rfl D2.here D2.kp D2.b .nil pass0 (pa_cons (pv 1) pa_nil)))
      (pss_one (ps_ret (pe_op op_cat (pe_op op_cat (pe_lst (pa_cons (pe_call D3.ok hr1 rfl D3.here D3.kp D3.b .nil pass0 (pa_cons (pv 2) pa_nil)) pa_nil)) (pe_fld (pv 2) rfl)) (pe_call D4.ok hr4 rfl D4.here D4.kp D4.b .nil pass0 (pa_cons (pv 1) (pa_cons (pv 2) pa_nil))))))), ?_⟩
    have n8 := ok.n8
    have fine := ok.fineG
    refine ⟨_, rfl, ?_⟩
    intro x dx nx nd ne
    have s0 : Same H (upd (upd H dx (.own x)) x (.ins CS dx [])) := (same_upd nd).trans (fun b o e => by
      have e2 : b ≠ x := by
        intro e3; subst e3
        rw [upd_ne (fun e4 => ne e4.symm), nx] at e; cases e
      rw [upd_ne e2]; exact e)
    refine ⟨H, x, dx, h, m, rfl, s0, nx, upd_same, hH, ok, fun H1 s1 hS0 => ⟨rfl, ?_⟩⟩
    have hS := hS0.at
    refine ⟨_, rfl, x, m, rfl, hS, ok, fun b H2 s2 hP => ?_⟩
    have hP : PayAt CP H2 b (greatestP m) := hP
    have hf : (greatestP m).fell.length ≤ 8 := by rw [fine.ok.nFell]; exact n8
    refine ⟨_, rfl, b, greatestP m, rfl, hP, hf, fun H3 s3 => ⟨(by show 1 ≤ sizeLine; decide), fun l1 hl1 => ?_⟩⟩
    have s4 := same_upd (o := .lst [V.int (howMany (greatestP m))]) hl1
    obtain ⟨dy, la, lf, hp⟩ := (hP.mono s3).mono s4
    refine ⟨_, rfl, b, CP, dy, _, _, rfl, hp.obj, TP.cl, TP.nFell, pF_fell _ _ _, l1, lf, _, _, rfl, rfl, upd_same, hp.fell, ?_, fun l2 hl2 => ?_⟩
    · rw [List.length_map]
      exact Nat.le_of_lt (small1000 (by simp; omega))
    have s5 := same_upd (o := .lst ([V.int (howMany (greatestP m))] ++ lI (greatestP m).fell)) hl2
    refine ⟨_, rfl, _, rfl, x, b, sheetOf m, greatestP m, rfl, (((hS.mono s2).mono s3).mono s4).mono s5, ((hP.mono s3).mono s4).mono s5, ok.sheetOk, fine.ok, fine.nn, fun l3 H6 s6 hl3 => ?_⟩
    refine ⟨l2, l3, _, _, rfl, rfl, s6 _ _ upd_same, hl3, ?_, fun l4 hl4 => ?_⟩
    · have h1 : (paidWorth (sheetOf m) (greatestP m)).length = 4 * m.n := paidWorth_len _ _
      rw [List.length_append, List.length_map, List.length_map, h1]
      exact Nat.le_of_lt (small1000 (by simp; omega))
    have sAll := s1.trans (s2.trans (s3.trans (s4.trans (s5.trans s6))))
    have e : ([V.int (howMany (greatestP m))] ++ lI (greatestP m).fell) ++ lI (paidWorth (sheetOf m) (greatestP m)) = lI (clearA m).2 := by
      show (V.int _ :: List.map V.int _) ++ List.map V.int _ = List.map V.int (_ :: (_ ++ _))
      rw [List.map_cons, List.map_append]; rfl
    rw [e]
    exact q l4 _ (Same.keep (sAll.trans (same_upd hl4))) (sAll.free hl4) (hH.mono (sAll.trans (same_upd hl4))) upd_same
/-! answer_least -/
theorem scLeastA : FnScope ["house", "sheet", "payments"] ["house"] (defScope sLeastA) := ⟨rfl, rfl, rfl, by decide +kernel, rfl, by decide +kernel, by decide +kernel⟩
theorem ok_leastA {f f1 f2 f3 f4 C CS CP : Addr} {fd fd1 fd2 fd3 fd4 : FuncData} (F : Fun K "answer_least" "answer_least" sLeastA f fd) (T : CHouse K mg C) (N : Consts mg) (TS : CSheet K mg CS)
    (M : Mk K CS f1) (G1 : FnOk P w K mg base CX0 4 f1 fd1 ["self", "house"] (spSheetInit CS C)) (b1 : Binds K fd1 ["self", "house"] [])
    (D2 : Def P w K mg base 7 "least_payments" ["sheet"] (spLeast CS CP) f2 fd2) (D3 : Def P w K mg base 1 "how_many_fall" ["payments"] (spHowMany CP) f3 fd3)
    (D4 : Def P w K mg base 4 "paid_and_worth" ["sheet", "payments"] (spPaidWorth CS CP) f4 fd4) :
    FnOk P w K mg base CX0 8 f fd ["house"] (spTell C leastA) := by
  refine F.ok scLeastA (fun vs H Q E h => ?_) (fun cdv A outer s H vs Q E hr h => ?_)
  · obtain ⟨h, m, rfl, _⟩ := h
    rfl
  · obtain ⟨h, m, rfl, hH, ok, q⟩ := h
    obtain ⟨ta, ga⟩ := N.allKept
    have hr1 : Room 1 _ := hr.mono (by decide)
    have hr4 : Room 4 _ := hr.mono (by decide)
    have hr5 : Room 5 _ := hr.mono (by decide)
    refine ⟨_, pss_cons (ps_if (pt_cmpR op_eq (pe_ix ix_tup (pe_fld (pv 0) rfl) pe_int (fun _ _ => rfl)) (pe_ix ix_tup (pe_fld (pv 0) rfl) pe_int (fun _ _ => rfl)) (nomark _)) (pss_one (ps_ret (pe_lst (pa_cons (pe_glob (v := .int (-6)) rfl ga ⟨_, rfl⟩) pa_nil)))) pss_nil)
      (pss_cons (ps_set (i := 1) scLeastA.nd rfl (Or.inl rfl) (pe_make M G1 hr5 rfl TS.here b1 .nil pass0 (pa_cons (pv 0) pa_nil)))
      (pss_cons (ps_set (i := 2) scLeastA.nd rfl (Or.inl rfl) (pe_call D2.ok hr rfl D2.here D2.kp D2.b .nil pass0 (pa_cons (pv 1) pa_nil)))
      (pss_one (ps_ret (pe_op op_cat (pe_lst (pa_cons (pe_call D3.ok hr1 rfl D3.here D3.kp D3.b .nil pass0 (pa_cons (pv 2) pa_nil)) pa_nil)) (pe_call D4.ok hr4 rfl D4.here D4.kp D4.b .nil pass0 (pa_cons (pv 1) (pa_cons (pv 2) pa_nil)))))))), ?_⟩
    have n8 := ok.n8
    obtain ⟨hx, t1, t2, lo', lw', ws, hh⟩ := id hH
    unfold Told at q
    refine ⟨_, rfl, h, C, hx, _, _, rfl, hh.obj, T.cl, T.nKp, hF_kp _ _ _ _ _, _, _, _, _, rfl, rfl, SqT.of hh.kp, atI_nat (j := 0) rfl, _, rfl, h, C, hx, _, _, rfl, hh.obj, T.cl, T.nKp, hF_kp _ _ _ _ _, _, _, _, _, rfl, rfl, SqT.of hh.kp, atI_nat (j := 1) rfl, rfl, _, rfl, ite2 (fun c1 => ?_) (fun c1 => ?_)⟩
    · have e1 : m.kp.1 = m.kp.2 := by have := V.int.inj (of_decide_eq_true c1); omega
      refine ⟨(by show 1 ≤ sizeLine; decide), fun p hp => ?_⟩
      have e : leastA m = (m, [-6]) := by unfold leastA; rw [if_pos e1]
      rw [e] at q
      exact q p _ (Same.keep (same_upd hp)) hp (hH.mono (same_upd hp)) upd_same
    have e1 : ¬ m.kp.1 = m.kp.2 := fun h0 => c1 (decide_eq_true (by rw [h0]))
    have hk : (sysOf m).keptPaid < 1 := rat_lt ok.kp.1 (by have := ok.kp.2.1; omega)
    have e : leastA m = (m, howMany (leastP m) :: paidWorth (sheetOf m) (leastP m)) := by unfold leastA; rw [if_neg e1]
    rw [e] at q
    have fine := ok.fineL hk
    refine ⟨_, rfl, ?_⟩
    intro x dx nx nd ne
    have s0 : Same H (upd (upd H dx (.own x)) x (.ins CS dx [])) := (same_upd nd).trans (fun b o e => by
      have e2 : b ≠ x := by
        intro e3; subst e3
        rw [upd_ne (fun e4 => ne e4.symm), nx] at e; cases e
      rw [upd_ne e2]; exact e)
    refine ⟨H, x, dx, h, m, rfl, s0, nx, upd_same, hH, ok, fun H1 s1 hS0 => ⟨rfl, ?_⟩⟩
    have hS := hS0.at
    refine ⟨_, rfl, x, m, rfl, hS, ok, hk, fun b H2 s2 hP => ?_⟩
    have hP : PayAt CP H2 b (leastP m) := hP
    have hf : (leastP m).fell.length ≤ 8 := by rw [fine.ok.nFell]; exact n8
    refine ⟨_, rfl, b, leastP m, rfl, hP, hf, fun H3 s3 => ⟨(by show 1 ≤ sizeLine; decide), fun l1 hl1 => ?_⟩⟩
    have s4 := same_upd (o := .lst [V.int (howMany (leastP m))]) hl1
    refine ⟨_, rfl, _, rfl, x, b, sheetOf m, leastP m, rfl, ((hS.mono s2).mono s3).mono s4, (hP.mono s3).mono s4, ok.sheetOk, fine.ok, fine.nn, fun l3 H6 s6 hl3 => ?_⟩
    refine ⟨l1, l3, _, _, rfl, rfl, s6 _ _ upd_same, hl3, ?_, fun l4 hl4 => ?_⟩
    · have h1 : (paidWorth (sheetOf m) (leastP m)).length = 4 * m.n := paidWorth_len _ _
      rw [List.length_map, h1]
      exact Nat.le_of_lt (small1000 (by simp; omega))
    have sAll := s1.trans (s2.trans (s3.trans (s4.trans s6)))
    exact q l4 _ (Same.keep (sAll.trans (same_upd hl4))) (sAll.free hl4) (hH.mono (sAll.trans (same_upd hl4))) upd_same
end
end Wq

/-! What the calls answer, against the specification. -/
namespace Wq
open Wp
open Co08 (System ownOf debt total share payOf paid means rest can paysWith ratio equity waves fallen capped rising fraction told)
theorem lowI_eq {a b : Int} {x : Rat} (ha : 0 ≤ a) (hb : 0 < b) (h : ((a : Int) : Rat) = ((b : Int) : Rat) * x) : lowI a b = fraction x := by
  have hb2 : (b.toNat : Int) = b := Int.toNat_of_nonneg (Int.le_of_lt hb)
  have hbR : (0 : Rat) < ((b : Int) : Rat) := by exact_mod_cast hb
  have e : x = mkRat a b.toNat := by
    rw [Rat.mkRat_eq_div]
    have e1 : ((b.toNat : Nat) : Rat) = ((b : Int) : Rat) := by rw [← castI, hb2]
    rw [e1, h]
    grind
  have hn : b.toNat ≠ 0 := by omega
  have h2 : a.natAbs = a.toNat := by omega
  unfold fraction lowI
  rw [e, Rat.num_mkRat, Rat.den_mkRat, if_neg hn, if_neg hn, h2, Nat.gcd_comm b.toNat a.toNat]
  have e3 : a / ((a.toNat.gcd b.toNat : Nat) : Int) = ((a.toNat / a.toNat.gcd b.toNat : Nat) : Int) := by
    rw [Int.natCast_ediv, Int.toNat_of_nonneg ha]
  rw [e3]
theorem lowFr_rat {a b : Nat} (hb : 0 < b) : rat (lowFr a b) = ratio a b := by
  unfold rat lowFr ratio
  have hg : 0 < Nat.gcd a b := Nat.gcd_pos_of_pos_right a hb
  obtain ⟨x, hx⟩ := Nat.gcd_dvd_left a b
  obtain ⟨y, hy⟩ := Nat.gcd_dvd_right a b
  have e1 : a / Nat.gcd a b = x := by
    conv => lhs; lhs; rw [hx]
    exact Nat.mul_div_cancel_left x hg
  have e2 : b / Nat.gcd a b = y := by
    conv => lhs; lhs; rw [hy]
    exact Nat.mul_div_cancel_left y hg
  have hy0 : 0 < y := by
    rcases Nat.eq_zero_or_pos y with h | h
    · rw [h] at hy; omega
    · exact h
  show ((a / Nat.gcd a b : Nat) : Rat) / ((b / Nat.gcd a b : Nat) : Rat) = (a : Rat) / (b : Rat)
  rw [e1, e2]
  have h1 : (a : Rat) = (Nat.gcd a b : Rat) * (x : Rat) := by rw [← Rat.natCast_mul, ← hx]
  have h2 : (b : Rat) = (Nat.gcd a b : Rat) * (y : Rat) := by rw [← Rat.natCast_mul, ← hy]
  rw [h1, h2]
  have h3 := natRpos hg
  have h4 := natRpos hy0
  grind
theorem lowFr_den {a b : Nat} (hb : 0 < b) : 0 < (lowFr a b).2 ∧ (lowFr a b).1 ≤ a ∧ (lowFr a b).2 ≤ b := by
  have hg : 0 < Nat.gcd a b := Nat.gcd_pos_of_pos_right a hb
  exact ⟨Nat.div_pos (Nat.gcd_le_right a hb) hg, Nat.div_le_self _ _, Nat.div_le_self _ _⟩
theorem lowFr_le {a b : Nat} (h : a ≤ b) : (lowFr a b).1 ≤ (lowFr a b).2 := Nat.div_le_div_right h
section
variable {m : HouseM} (ok : HouseOk m)
include ok
/-- payments are told as the specification tells them -/
theorem HouseOk.told_eq {fell : List Int} (r : Ready m fell) : paidWorth (sheetOf m) (payAfter (sheetOf m) fell) = told (sysOf m) (paysOf m fell) := by
  unfold paidWorth told
  rw [ok.good.cnt]
  show (List.range m.n).flatMap _ = _
  have rel := ok.rel r
  have fine := ok.fine r
  have b0 : 0 < (sheetOf m).unit * (payAfter (sheetOf m) fell).below := Int.mul_pos ok.sheetOk.unit0 rel.ok.below0
  have eB : (((sheetOf m).unit * (payAfter (sheetOf m) fell).below : Int) : Rat) = (unitOf (allFr m) : Rat) * (((payAfter (sheetOf m) fell).below : Int) : Rat) := by
    rw [Rat.intCast_mul]; rfl
  have one : ∀ i, i < m.n → paidWorth1 (sheetOf m) (payAfter (sheetOf m) fell) i = fraction (payOf (paysOf m fell) i) ++ fraction (equity (sysOf m) (paysOf m fell) i) := by
    intro i hi
    unfold paidWorth1
    congr 1
    · refine lowI_eq (fine.nn i hi) b0 ?_
      rw [eB, Rat.intCast_mul, ok.debts_unit hi]
      have := rel.rel i hi
      grind
    · refine lowI_eq (by omega) b0 ?_
      rw [eB]
      have h1 := ok.surplus_rel rel hi
      have h2 := ok.can_rel rel hi
      unfold equity
      rw [← h2]
      unfold canM
      by_cases h3 : 0 ≤ surplusM (sheetOf m) (payAfter (sheetOf m) fell) i
      · rw [if_pos (decide_eq_true h3), Int.max_eq_left h3]
        exact h1
      · rw [decide_eq_false h3, if_neg (by simp), Int.max_eq_right (by omega)]
        show (0 : Rat) = _
        grind
  have : ∀ k, k ≤ m.n → (List.range k).flatMap (paidWorth1 (sheetOf m) (payAfter (sheetOf m) fell)) = (List.range k).flatMap (fun (j : Nat) => fraction (payOf (paysOf m fell) j) ++ fraction (equity (sysOf m) (paysOf m fell) j)) := by
    intro k
    induction k with
    | zero => intro _; rfl
    | succ k ih =>
      intro hk
      rw [List.range_succ, List.flatMap_append, List.flatMap_append, ih (by omega)]
      congr 1
      rw [List.flatMap_singleton, List.flatMap_singleton, one k (by omega)]
  exact this m.n (Nat.le_refl _)
omit ok in
theorem filter_pos : ∀ F : List Int, (∀ x ∈ F, 0 ≤ x) → ((F.map Int.toNat).filter fun (w : Nat) => w != 0).length = (F.filter fun x => decide (0 < x)).length
  | [], _ => rfl
  | x :: F, h => by
    have ih := filter_pos F (fun y hy => h y (List.mem_cons_of_mem _ hy))
    have h0 := h x (List.mem_cons_self ..)
    rw [List.map_cons, List.filter_cons, List.filter_cons]
    by_cases hx : 0 < x
    · rw [if_pos (by simp; omega), if_pos (decide_eq_true hx), List.length_cons, List.length_cons, ih]
    · rw [if_neg (by simp; omega), if_neg (by simp; omega), ih]
omit ok in
theorem ints_toNat : ∀ F : List Int, (∀ x ∈ F, 0 ≤ x) → Co08.ints (F.map Int.toNat) = F
  | [], _ => rfl
  | x :: F, h => by
    have ih := ints_toNat F (fun y hy => h y (List.mem_cons_of_mem _ hy))
    have h0 := h x (List.mem_cons_self ..)
    show ((x.toNat : Nat) : Int) :: Co08.ints (F.map Int.toNat) = x :: F
    rw [ih, Int.toNat_of_nonneg h0]
omit ok in
theorem all_of_get {F : List Int} {n : Nat} (hl : F.length = n) (h : ∀ i, i < n → 0 ≤ F.getD i 0) : ∀ x ∈ F, 0 ≤ x := by
  intro x hx
  obtain ⟨i, hi, e⟩ := List.getElem_of_mem hx
  have := h i (by omega)
  rw [getD_lt hi, e] at this
  exact this
theorem HouseOk.clear_eq : (sysOf m, (clearA m).2) = Co08.step (sysOf m) .clear := by
  obtain ⟨r, nn, _⟩ := ok.sinkAll_can (heldS none)
  have hw := ok.waves0 none
  have hc : Co08.cleared (sysOf m) = (paysOf m (sinkAll (sheetOf m) (heldS none) canM), (sinkAll (sheetOf m) (heldS none) canM).map Int.toNat) := hw
  have all := all_of_get r.len nn
  show (sysOf m, (clearA m).2) = (sysOf m, _)
  unfold Co08.greatest
  rw [hc]
  dsimp only
  rw [filter_pos _ all, ints_toNat _ all, ← ok.told_eq r]
  rfl
omit ok in
theorem filter_range (F : List Int) (c : Int → Bool) : (F.filter c).length = ((List.range F.length).filter fun i => c (F.getD i 0)).length := by
  have e : F = (List.range F.length).map fun i => F.getD i 0 := by
    have := range_map_getD F 0 id
    rw [List.map_id] at this
    exact this.symm
  conv => lhs; rw [e]
  rw [List.filter_map, List.length_map]
  rfl
theorem HouseOk.least_step : (sysOf m, (leastA m).2) = Co08.step (sysOf m) .least := by
  show _ = (sysOf m, if (sysOf m).keptPaid = 1 then [-6] else _)
  congr 1
  unfold leastA
  by_cases h : m.kp.1 = m.kp.2
  · have e : (sysOf m).keptPaid = 1 := rat_one ok.kp.1 h
    rw [if_pos h, if_pos e]
  · have hk : (sysOf m).keptPaid < 1 := rat_lt ok.kp.1 (by have := ok.kp.2.1; omega)
    have e : ¬ (sysOf m).keptPaid = 1 := by intro e; rw [e] at hk; exact absurd hk (by decide +kernel)
    rw [if_neg h, if_neg e]
    obtain ⟨h1, safe', cp, h2⟩ := ok.least0 hk
    rw [h1]
    dsimp only
    rw [← ok.told_eq cp.ready, ok.good.cnt]
    show howMany (leastP m) :: _ = _ :: paidWorth (sheetOf m) (leastP m)
    congr 1
    unfold howMany
    show ((((leastM (sheetOf m) (m.n + 1) fun _ => false).filter fun x => decide (0 < x)).length : Nat) : Int) = _
    rw [filter_range, cp.ready.len]
    congr 2
    refine List.filter_congr (fun i hi => ?_)
    have hi := List.mem_range.1 hi
    have h3 := h2 i hi
    have h4 := cp.nn i hi
    cases e5 : can (sysOf m) (paysOf m (leastM (sheetOf m) (m.n + 1) fun _ => false)) i with
    | false =>
      have := h3.2 e5
      rw [decide_eq_true (by omega)]; rfl
    | true =>
      have : ¬ (leastM (sheetOf m) (m.n + 1) fun _ => false).getD i 0 ≠ 0 := fun h => by rw [h3.1 h] at e5; cases e5
      rw [decide_eq_false (by omega)]; rfl
end
/-! begins, own, owes -/
theorem isPart_iff (a b : Nat) : isPart a b = false ↔ b = 0 ∨ b < a := by
  unfold isPart
  by_cases h1 : 0 < b <;> by_cases h2 : a ≤ b <;> simp [h1, h2] <;> omega
theorem begins_eq (m : HouseM) (n a b c d : Nat) : (sysOf (beginsM m n a b c d).1, (beginsM m n a b c d).2) = Co08.step (sysOf m) (.begins n a b c d) := by
  have e : (n < 1 ∨ 8 < n ∨ isPart a b = false ∨ isPart c d = false) ↔ (n < 1 ∨ Co08.PARTIES < n ∨ b = 0 ∨ d = 0 ∨ b < a ∨ d < c) := by
    rw [isPart_iff, isPart_iff]
    show (n < 1 ∨ 8 < n ∨ (b = 0 ∨ b < a) ∨ (d = 0 ∨ d < c)) ↔ (n < 1 ∨ 8 < n ∨ b = 0 ∨ d = 0 ∨ b < a ∨ d < c)
    constructor
    · rintro (h | h | (h | h) | (h | h)) <;> simp [h]
    · rintro (h | h | h | h | h | h) <;> simp [h]
  show _ = (if n < 1 ∨ Co08.PARTIES < n ∨ b = 0 ∨ d = 0 ∨ b < a ∨ d < c then (sysOf m, [-1]) else _)
  unfold beginsM
  by_cases h : n < 1 ∨ 8 < n ∨ isPart a b = false ∨ isPart c d = false
  · rw [if_pos h, if_pos (e.1 h)]
  · rw [if_neg h, if_neg (fun h2 => h (e.2 h2))]
    have hb : 0 < b := by
      rcases Nat.eq_zero_or_pos b with h0 | h0
      · exact absurd (.inr (.inr (.inl ((isPart_iff a b).2 (.inl h0))))) h
      · exact h0
    have hd : 0 < d := by
      rcases Nat.eq_zero_or_pos d with h0 | h0
      · exact absurd (.inr (.inr (.inr ((isPart_iff c d).2 (.inl h0))))) h
      · exact h0
    have z : rat (0, 1) = 0 := rat_zero rfl
    show (sysOf (freshM n (lowFr a b) (lowFr c d)), [(n : Int)]) = _
    unfold sysOf freshM
    dsimp only
    rw [lowFr_rat hb, lowFr_rat hd, List.map_replicate, List.map_replicate, List.map_replicate, z]
section
variable {m : HouseM} (ok : HouseOk m)
include ok
theorem HouseOk.own_step (i a b : Nat) : (sysOf (ownA m i a b).1, (ownA m i a b).2) = Co08.step (sysOf m) (.own i a b) := by
  show _ = (if Co08.count (sysOf m) ≤ i then (sysOf m, [-2]) else if b = 0 then (sysOf m, [-1]) else _)
  rw [ok.good.cnt]
  unfold ownA
  by_cases h1 : m.n ≤ i
  · rw [if_pos h1, if_pos h1]
  · rw [if_neg h1, if_neg h1]
    by_cases h2 : b = 0
    · rw [if_pos h2, if_pos h2]
    · rw [if_neg h2, if_neg h2]
      unfold sysOf ownM
      dsimp only
      rw [List.map_set, lowFr_rat (by omega)]
theorem HouseOk.owes_step (i j a b : Nat) : (sysOf (owesA m i j a b).1, (owesA m i j a b).2) = Co08.step (sysOf m) (.owes i j a b) := by
  show _ = (if Co08.count (sysOf m) ≤ i ∨ Co08.count (sysOf m) ≤ j then (sysOf m, [-2]) else if b = 0 ∨ i = j then (sysOf m, [-1]) else _)
  rw [ok.good.cnt]
  unfold owesA
  by_cases h1 : m.n ≤ i ∨ m.n ≤ j
  · rw [if_pos h1, if_pos h1]
  · rw [if_neg h1, if_neg h1]
    by_cases h2 : b = 0 ∨ i = j
    · rw [if_pos h2, if_pos h2]
    · rw [if_neg h2, if_neg h2]
      unfold sysOf owesM
      dsimp only
      rw [List.map_set, List.map_set, lowFr_rat (by omega), getD_map _ _ _ _ [] (by rw [ok.nOwed]; omega)]
end
/-! the house stays in form -/
theorem prodDen_cons (q : Fr) (l : List Fr) : prodDen (q :: l) = q.2 * prodDen l := by
  have : ∀ (l : List Fr) (u : Nat), l.foldl (fun u q => u * q.2) u = u * l.foldl (fun u q => u * q.2) 1 := by
    intro l
    induction l with
    | nil => intro u; simp
    | cons x l ih =>
      intro u
      simp only [List.foldl]
      rw [ih (u * x.2), ih (1 * x.2)]
      rw [Nat.one_mul, Nat.mul_assoc]
  unfold prodDen
  simp only [List.foldl]
  rw [this, Nat.one_mul]
theorem prodDen_append : ∀ (l k : List Fr), prodDen (l ++ k) = prodDen l * prodDen k
  | [], k => by simp [prodDen]
  | q :: l, k => by rw [List.cons_append, prodDen_cons, prodDen_cons, prodDen_append l k, Nat.mul_assoc]
theorem prodDen_set (q : Fr) (hq : 0 < q.2) : ∀ (l : List Fr) (i : Nat), (∀ x ∈ l, 0 < x.2) → prodDen (l.set i q) ≤ prodDen l * q.2
  | [], i, _ => by simp [prodDen]; exact hq
  | x :: l, 0, h => by
    have hx := h x (List.mem_cons_self ..)
    rw [List.set_cons_zero, prodDen_cons, prodDen_cons, Nat.mul_comm, Nat.mul_assoc]
    exact Nat.le_mul_of_pos_left _ hx
  | x :: l, i + 1, h => by
    have ih := prodDen_set q hq l i (fun y hy => h y (List.mem_cons_of_mem _ hy))
    rw [List.set_cons_succ, prodDen_cons, prodDen_cons, Nat.mul_assoc]
    exact Nat.mul_le_mul_left _ ih
theorem prodDen_flat (q : Fr) (hq : 0 < q.2) (j : Nat) : ∀ (L : List (List Fr)) (i : Nat), (∀ x ∈ L.flatten, 0 < x.2) → prodDen (L.set i ((L.getD i []).set j q)).flatten ≤ prodDen L.flatten * q.2
  | [], i, _ => by simp [prodDen]; exact hq
  | r :: L, 0, h => by
    show prodDen ((r.set j q) :: L).flatten ≤ _
    rw [List.flatten_cons, List.flatten_cons, prodDen_append, prodDen_append, Nat.mul_right_comm]
    exact Nat.mul_le_mul_right _ (prodDen_set q hq r j (fun x hx => h x (by rw [List.flatten_cons]; exact List.mem_append_left _ hx)))
  | r :: L, i + 1, h => by
    have ih := prodDen_flat q hq j L i (fun x hx => h x (by rw [List.flatten_cons]; exact List.mem_append_right _ hx))
    show prodDen (r :: L.set i ((L.getD i []).set j q)).flatten ≤ _
    rw [List.flatten_cons, List.flatten_cons, prodDen_append, prodDen_append, Nat.mul_assoc]
    exact Nat.mul_le_mul_left _ ih
theorem mem_set {α : Type} {l : List α} {i : Nat} {q x : α} (h : x ∈ l.set i q) : x ∈ l ∨ x = q := by
  rcases List.mem_or_eq_of_mem_set h with h | h
  · exact .inl h
  · exact .inr h
/-- a house behind k calls -/
structure House (m : HouseM) (k : Nat) : Prop where
  ok : HouseOk m
  wt : prodDen (allFr m) ≤ 10 ^ (6 * k)
theorem pow_ok {k : Nat} (hk : k ≤ 60) : 10 ^ (6 * k) ≤ 10 ^ 360 := Nat.pow_le_pow_right (by decide) (by omega)
theorem pow_next {x k : Nat} (h : x ≤ 10 ^ (6 * k)) {d : Nat} (hd : d ≤ 1000000) : x * d ≤ 10 ^ (6 * (k + 1)) := by
  have e : 10 ^ (6 * (k + 1)) = 10 ^ (6 * k) * 1000000 := by rw [Nat.mul_succ, Nat.pow_add]
  rw [e]
  exact Nat.mul_le_mul h hd
theorem House.next {m : HouseM} {k : Nat} (h : House m k) : House m (k + 1) := ⟨h.ok, Nat.le_trans h.wt (Nat.pow_le_pow_right (by decide) (by omega))⟩
theorem ownM_house {m : HouseM} {k : Nat} (h : House m k) (hk : k < 60) {i a b : Nat} (hi : i < m.n) (hb : 0 < b) (la : a ≤ 1000000) (lb : b ≤ 1000000) : House (ownM m i (lowFr a b)) (k + 1) := by
  have ok := h.ok
  have hd := lowFr_den (a := a) hb
  have wt : prodDen (allFr (ownM m i (lowFr a b))) ≤ 10 ^ (6 * (k + 1)) := by
    refine Nat.le_trans ?_ (pow_next h.wt (show (lowFr a b).2 ≤ 1000000 by omega))
    unfold allFr ownM
    rw [List.flatten_cons, List.flatten_cons, prodDen_append, prodDen_append, Nat.mul_right_comm]
    exact Nat.mul_le_mul_right _ (prodDen_set _ hd.1 _ _ (fun x hx => (own_den ok x hx).1))
  refine ⟨⟨ok.n1, ok.n8, ?_, ok.nOwed, ok.nRow, ?_, Nat.le_trans wt (pow_ok (by omega)), ok.diag, ok.ko, ok.kp⟩, wt⟩
  · show (m.own.set i _).length = m.n
    rw [List.length_set]; exact ok.nOwn
  · intro q hq
    unfold allFr ownM at hq
    rw [List.flatten_cons] at hq
    rcases List.mem_append.1 hq with h1 | h1
    · rcases mem_set h1 with h2 | h2
      · exact own_den ok q h2
      · rw [h2]; exact ⟨hd.1, by omega, by omega⟩
    · refine ok.den q ?_
      unfold allFr
      rw [List.flatten_cons]
      exact List.mem_append_right _ h1
theorem owesM_house {m : HouseM} {k : Nat} (h : House m k) (hk : k < 60) {i j a b : Nat} (hi : i < m.n) (hj : j < m.n) (hne : i ≠ j) (hb : 0 < b) (la : a ≤ 1000000) (lb : b ≤ 1000000) : House (owesM m i j (lowFr a b)) (k + 1) := by
  have ok := h.ok
  have hd := lowFr_den (a := a) hb
  have hio : i < m.owed.length := by rw [ok.nOwed]; exact hi
  have wt : prodDen (allFr (owesM m i j (lowFr a b))) ≤ 10 ^ (6 * (k + 1)) := by
    refine Nat.le_trans ?_ (pow_next h.wt (show (lowFr a b).2 ≤ 1000000 by omega))
    unfold allFr owesM
    rw [List.flatten_cons, List.flatten_cons, prodDen_append, prodDen_append, Nat.mul_assoc]
    refine Nat.mul_le_mul_left _ (prodDen_flat _ hd.1 _ _ _ (fun x hx => (ok.den x ?_).1))
    unfold allFr
    rw [List.flatten_cons]
    exact List.mem_append_right _ hx
  refine ⟨⟨ok.n1, ok.n8, ok.nOwn, ?_, ?_, ?_, Nat.le_trans wt (pow_ok (by omega)), ?_, ok.ko, ok.kp⟩, wt⟩
  · show (m.owed.set i _).length = m.n
    rw [List.length_set]; exact ok.nOwed
  · intro c hc
    have hc : c < m.n := hc
    show ((m.owed.set i _).getD c []).length = m.n
    rw [getD_set]
    by_cases e : i = c
    · subst e
      rw [if_pos ⟨rfl, hio⟩, List.length_set]; exact ok.nRow i hi
    · rw [if_neg (fun h => e h.1)]; exact ok.nRow c hc
  · intro q hq
    unfold allFr owesM at hq
    rw [List.flatten_cons] at hq
    rcases List.mem_append.1 hq with h1 | h1
    · exact own_den ok q h1
    · rw [List.mem_flatten] at h1
      obtain ⟨r, hr, hq2⟩ := h1
      rcases mem_set hr with h2 | h2
      · refine ok.den q ?_
        unfold allFr
        rw [List.flatten_cons]
        refine List.mem_append_right _ ?_
        rw [List.mem_flatten]
        exact ⟨r, h2, hq2⟩
      · subst h2
        rcases mem_set hq2 with h3 | h3
        · exact row_den ok hio q h3
        · rw [h3]; exact ⟨hd.1, by omega, by omega⟩
  · intro c hc
    have hc : c < m.n := hc
    show (((m.owed.set i _).getD c []).getD c (0, 1)).1 = 0
    rw [getD_set]
    by_cases e : i = c
    · subst e
      rw [if_pos ⟨rfl, hio⟩, getD_set, if_neg (fun h => hne h.1.symm)]
      exact ok.diag i hi
    · rw [if_neg (fun h => e h.1)]; exact ok.diag c hc
theorem freshM_house {n : Nat} (n1 : 1 ≤ n) (n8 : n ≤ 8) {ko kp : Fr} (hko : 0 < ko.2 ∧ ko.1 ≤ ko.2 ∧ ko.2 ≤ 1000000) (hkp : 0 < kp.2 ∧ kp.1 ≤ kp.2 ∧ kp.2 ≤ 1000000) (k : Nat) : House (freshM n ko kp) k := by
  have mem : ∀ q ∈ allFr (freshM n ko kp), q = (0, 1) := by
    intro q hq
    unfold allFr freshM at hq
    rw [List.mem_flatten] at hq
    obtain ⟨r, hr, hq2⟩ := hq
    rcases List.mem_cons.1 hr with h | h
    · subst h; exact (List.mem_replicate.1 hq2).2
    · rw [(List.mem_replicate.1 h).2] at hq2
      exact (List.mem_replicate.1 hq2).2
  have one : ∀ l : List Fr, (∀ q ∈ l, q = (0, 1)) → prodDen l = 1 := by
    intro l
    induction l with
    | nil => intro _; rfl
    | cons x l ih =>
      intro h
      rw [prodDen_cons, ih (fun q hq => h q (List.mem_cons_of_mem _ hq)), h x (List.mem_cons_self ..)]
      rfl
  have wt := one _ mem
  refine ⟨⟨n1, n8, by simp [freshM], by simp [freshM], ?_, ?_, by rw [wt]; exact Nat.one_le_pow _ _ (by decide), ?_, hko, hkp⟩, by rw [wt]; exact Nat.one_le_pow _ _ (by decide)⟩
  · intro i hi
    have hi : i < n := hi
    show ((List.replicate n (List.replicate n ((0, 1) : Fr))).getD i []).length = n
    rw [getD_lt (by simpa using hi)]; simp
  · intro q hq
    rw [mem q hq]; decide
  · intro i hi
    have hi : i < n := hi
    show (((List.replicate n (List.replicate n ((0, 1) : Fr))).getD i []).getD i (0, 1)).1 = 0
    rw [getD_lt (l := List.replicate n (List.replicate n ((0, 1) : Fr))) (by simpa using hi)]
    simp only [List.getElem_replicate]
    rw [getD_lt (by simpa using hi)]; simp
theorem begins_house {m : HouseM} {k : Nat} (h : House m k) {n a b c d : Nat} (lb : b ≤ 1000000) (ld : d ≤ 1000000) : House (beginsM m n a b c d).1 (k + 1) := by
  unfold beginsM
  by_cases e : n < 1 ∨ 8 < n ∨ isPart a b = false ∨ isPart c d = false
  · rw [if_pos e]; exact h.next
  · rw [if_neg e]
    have g1 : ¬ (b = 0 ∨ b < a) := fun g => e (.inr (.inr (.inl ((isPart_iff a b).2 g))))
    have g2 : ¬ (d = 0 ∨ d < c) := fun g => e (.inr (.inr (.inr ((isPart_iff c d).2 g))))
    have hb : 0 < b := by omega
    have hd : 0 < d := by omega
    have h1 := lowFr_den (a := a) hb
    have h2 := lowFr_den (a := c) hd
    exact freshM_house (by omega) (by omega) ⟨h1.1, lowFr_le (by omega), by omega⟩ ⟨h2.1, lowFr_le (by omega), by omega⟩ _
theorem own_house {m : HouseM} {k : Nat} (h : House m k) (hk : k < 60) {i a b : Nat} (la : a ≤ 1000000) (lb : b ≤ 1000000) : House (ownA m i a b).1 (k + 1) := by
  unfold ownA
  split
  · exact h.next
  · split
    · exact h.next
    · exact ownM_house h hk (by omega) (by omega) la lb
theorem owes_house {m : HouseM} {k : Nat} (h : House m k) (hk : k < 60) {i j a b : Nat} (la : a ≤ 1000000) (lb : b ≤ 1000000) : House (owesA m i j a b).1 (k + 1) := by
  unfold owesA
  split
  · exact h.next
  · split
    · exact h.next
    · exact owesM_house h hk (by omega) (by omega) (by omega) (by omega) la lb
theorem init_eq : sysOf (freshM 1 (1, 1) (1, 1)) = Co08.init := by
  have z : rat (0, 1) = 0 := rat_zero rfl
  have o : rat (1, 1) = 1 := rat_one (by decide) rfl
  unfold sysOf freshM Co08.init
  simp [z, o]
end Wq

/-! The list of calls, read call by call. -/
namespace Wq
open Wp
open PyCo08 (shape whole)
abbrev Raw1 := List (List Int)
def runs (s : Co08.St) (raw : List Raw1) : List Int := PyFlat.told (PyFlat.played (fun s c => Co08Neutral.step s (c.headD [])) s (raw.map whole))
theorem runs_nil (s : Co08.St) : runs s [] = [] := rfl
theorem runs_cons (s : Co08.St) (c : Raw1) (raw : List Raw1) : runs s (c :: raw) = (((Co08Neutral.step s ((whole c).headD [])).2.length : Nat) : Int) :: ((Co08Neutral.step s ((whole c).headD [])).2 ++ runs (Co08Neutral.step s ((whole c).headD [])).1 raw) := by
  unfold runs
  rw [List.map_cons]
  show PyFlat.told (_ :: _) = _
  unfold PyFlat.told
  rw [List.flatMap_cons]
  rfl
/-- the numbers that a call hands over -/
theorem shape_zero {p : Int} {n k : Nat} (h : shape p = some (n, k)) : k = 0 ∧ 0 ≤ p ∧ p < 10 := by
  unfold shape at h
  repeat' split at h
  all_goals first
    | (cases h; done)
    | (injection h with h; injection h with h1 h2; subst h2; refine ⟨rfl, ?_, ?_⟩ <;> omega)
theorem calls_cons {f : Nat} {p : Int} {r : List Int} {raw : List Raw1} (h : PyFlat.calls shape f (p :: r) = some raw) :
    ∃ (n f' : Nat) (raw' : List Raw1), shape p = some (n, 0) ∧ n ≤ r.length ∧ raw = [p :: r.take n] :: raw' ∧ PyFlat.calls shape f' (r.drop n) = some raw' := by
  cases f with
  | zero => unfold PyFlat.calls at h; cases h
  | succ f =>
    unfold PyFlat.calls at h
    cases hc : PyFlat.call shape (p :: r) with
    | none => rw [hc] at h; cases h
    | some ct =>
      obtain ⟨c, t⟩ := ct
      rw [hc] at h
      dsimp only at h
      cases hr : PyFlat.calls shape f t with
      | none => rw [hr] at h; cases h
      | some cs =>
        rw [hr] at h
        dsimp only at h
        have e : raw = c :: cs := (Option.some.inj h).symm
        unfold PyFlat.call at hc
        dsimp only at hc
        cases hs : shape p with
        | none => rw [hs] at hc; cases hc
        | some nk =>
          obtain ⟨n, k⟩ := nk
          obtain ⟨e0, _⟩ := shape_zero hs
          subst e0
          rw [hs] at hc
          dsimp only at hc
          by_cases hl : r.length < n
          · rw [if_pos hl] at hc; cases hc
          · rw [if_neg hl] at hc
            unfold PyFlat.rows at hc
            dsimp only at hc
            have e2 := Option.some.inj hc
            have e3 : c = [p :: r.take n] := (Prod.mk.inj e2).1.symm
            have e4 : t = r.drop n := (Prod.mk.inj e2).2.symm
            subst e3 e4
            exact ⟨n, f, cs, rfl, by omega, e, hr⟩
theorem calls_nil {f : Nat} {raw : List Raw1} (h : PyFlat.calls shape f [] = some raw) : raw = [] := by
  cases f <;> (unfold PyFlat.calls at h; exact (Option.some.inj h).symm)
/-- a call with its numbers, as it stands -/
theorem whole_eq {p : Int} {n : Nat} {args : List Int} (h : shape p = some (n, 0)) (hl : args.length = n) : (whole [p :: args]).headD [] = p :: args := by
  unfold shape at h
  split at h
  · rename_i e; injection h with h; injection h with h1 h2; subst e; subst h1
    match args, hl with
    | [_, _, _, _, _], _ => rfl
  split at h
  · rename_i e; injection h with h; injection h with h1 h2; subst e; subst h1
    match args, hl with
    | [_, _, _], _ => rfl
  split at h
  · rename_i e; injection h with h; injection h with h1 h2; subst e; subst h1
    match args, hl with
    | [_, _, _, _], _ => rfl
  split at h
  · rename_i e; injection h with h; injection h with h1 h2; subst e; subst h1
    match args, hl with
    | [], _ => rfl
  split at h
  · rename_i e; injection h with h; injection h with h1 h2; subst e; subst h1
    match args, hl with
    | [], _ => rfl
  split at h
  · rename_i e; injection h with h; injection h with h1 h2; subst e; subst h1
    match args, hl with
    | [_], _ => rfl
  split at h
  · rename_i e; injection h with h; injection h with h1 h2; subst e; subst h1
    match args, hl with
    | [_], _ => rfl
  split at h
  · rename_i e; injection h with h; injection h with h1 h2; subst e; subst h1
    match args, hl with
    | [], _ => rfl
  split at h
  · rename_i e; injection h with h; injection h with h1 h2; subst e; subst h1
    match args, hl with
    | [_], _ => rfl
  split at h
  · rename_i e; injection h with h; injection h with h1 h2; subst e; subst h1
    match args, hl with
    | [], _ => rfl
  · cases h
/-- what is asked of a line -/
theorem asked_raw {ns : List Int} (h : PyCo08.answers_asked ns = true) : ∃ raw, PyFlat.calls shape ns.length ns = some raw ∧ raw.length ≤ 60 ∧ (∀ c ∈ raw, (Co08Neutral.callOf ((whole c).headD [])).isSome = true) ∧ PyCo08.answers ns = runs Co08.init raw ∧ (PyCo08.answers ns).length ≤ 10000000 := by
  unfold PyCo08.answers_asked at h
  cases hr : PyFlat.calls shape ns.length ns with
  | none => rw [hr] at h; cases h
  | some raw =>
    rw [hr] at h
    simp only [Bool.and_eq_true] at h
    obtain ⟨⟨⟨⟨_, h1⟩, _⟩, h2⟩, h3⟩ := h
    refine ⟨raw, rfl, of_decide_eq_true h1, ?_, ?_, of_decide_eq_true h3⟩
    · unfold Co08Neutral.asked at h2
      simp only [Bool.and_eq_true] at h2
      have h4 := h2.2.2.1
      rw [List.map_map, List.all_map, List.all_eq_true] at h4
      intro c hc
      exact h4 c hc
    · unfold PyCo08.answers PyCo08.calls
      rw [hr]
      rfl
/-- a call that is asked: its numbers, and what it is -/
theorem asked_call {l : List Int} (h : (Co08Neutral.callOf l).isSome = true) : ∃ x, Co08Neutral.callOf l = some x ∧ (∀ z ∈ l, 0 ≤ z ∧ z ≤ 1000000) ∧ Co08Neutral.callIn (l.map Int.toNat) = some x ∧ ∀ s, Co08Neutral.step s l = Co08.step s x := by
  obtain ⟨x, hx⟩ := Option.isSome_iff_exists.1 h
  have hx' := hx
  unfold Co08Neutral.callOf at hx'
  by_cases hn : l.all Co08Neutral.number = true
  · rw [if_pos hn] at hx'
    refine ⟨x, hx, fun z hz => ?_, hx', fun s => ?_⟩
    · have := List.all_eq_true.1 hn z hz
      unfold Co08Neutral.number at this
      simp only [Bool.and_eq_true, decide_eq_true_eq] at this
      exact this
    · unfold Co08Neutral.step
      rw [hx]
  · rw [if_neg hn] at hx'; cases hx'
end Wq

namespace Wq
open PySem PySem.Spec PyProof.Rows L2 Wp
abbrev sAnswers : Stmt := top 48
/-- what the program does at a call -/
structure StepOk (stepH : HouseM → Co08.Call → HouseM × List Int) : Prop where
  eq : ∀ m x, HouseOk m → (sysOf (stepH m x).1, (stepH m x).2) = Co08.step (sysOf m) x
  house : ∀ (m : HouseM) (k : Nat) (l : List Int) (x : Co08.Call), House m k → k < 60 → (∀ z ∈ l, 0 ≤ z ∧ z ≤ 1000000) → Co08Neutral.callIn (l.map Int.toNat) = some x → House (stepH m x).1 (k + 1)
def spCall (C : Addr) (stepH : HouseM → Co08.Call → HouseM × List Int) : Sp := fun vs H Q _ => ∃ (h l : Addr) (m : HouseM) (p : Int) (args : List Int) (x : Co08.Call), vs = [.ref h, .int p, .ref l] ∧ HouseAt C H h m ∧ HouseOk m ∧ H l = some (.lst (lI args)) ∧
  (∀ z ∈ p :: args, 0 ≤ z ∧ z ≤ 1000000) ∧ Co08Neutral.callIn ((p :: args).map Int.toNat) = some x ∧ Told C H Q h (stepH m x)
theorem refs_not_ints {ps : List Addr} {xs : List Int} (hne : 0 < ps.length) : (HO.lst (ps.map V.ref)) ≠ .lst (lI xs) := by
  intro e
  have e := HO.lst.inj e
  cases ps with
  | nil => simp at hne
  | cons p ps =>
    cases xs with
    | nil => cases e
    | cons x xs => cases e
theorem FrsAt.ints {H : Hp} {l b : Addr} {qs : List Fr} {xs : List Int} {o : HO} (h : FrsAt H l qs) (hq : 0 < qs.length) (hb : H b = some (.lst (lI xs))) : FrsAt (upd H b o) l qs := by
  obtain ⟨ps, g1, g2, g3⟩ := h
  refine ⟨ps, by rw [upd_ne (ne_of g1 hb (refs_not_ints (by omega)))]; exact g1, g2, fun i hi => ?_⟩
  have g := g3 i hi
  unfold FrAt at g ⊢
  rw [upd_ne (ne_of g hb (by intro z; cases z))]
  exact g
theorem HouseAt.ints {C : Addr} {H : Hp} {a b : Addr} {m : HouseM} {xs : List Int} {o : HO} (h : HouseAt C H a m) (ok : HouseOk m) (hb : H b = some (.lst (lI xs))) : HouseAt C (upd H b o) a m := by
  obtain ⟨dx, t1, t2, lo, lw, ws, hh⟩ := h
  have n1 := ok.n1
  refine ⟨dx, t1, t2, lo, lw, ws, ?_, ?_, ?_, hh.own.ints (by rw [ok.nOwn]; omega) hb, ?_, hh.rows, fun i hi => (hh.row i hi).ints (by rw [ok.nRow i (by have := ok.nOwed; omega)]; omega) hb, hh.lone⟩
  · rw [upd_ne (ne_of hh.obj hb (by intro z; cases z))]; exact hh.obj
  · have g := hh.ko
    unfold FrAt at g ⊢
    rw [upd_ne (ne_of g hb (by intro z; cases z))]; exact g
  · have g := hh.kp
    unfold FrAt at g ⊢
    rw [upd_ne (ne_of g hb (by intro z; cases z))]; exact g
  · rw [upd_ne (ne_of hh.owed hb (refs_not_ints (by rw [hh.rows, ok.nOwed]; omega)))]; exact hh.owed
theorem cut_nat (ns : List Int) (i j : Nat) (hij : i ≤ j) (hj : j ≤ ns.length) : cutV (lI ns) (some (i : Int)) (some (j : Int)) = lI ((ns.drop i).take (j - i)) := by
  unfold cutV
  rw [HT.sIx_nat, HT.sIx_nat, List.length_map, Nat.min_eq_left (show i ≤ ns.length by omega), Nat.min_eq_left hj]
  show _ = List.map V.int _
  rw [List.map_take, List.map_drop]
section
variable {P : Program} {w : World} {K : PySem.W.Frag} {mg : Str → Option Value} {base : Heap}
theorem scAnswers : FnScope ["calls", "house", "told", "place", "call", "first", "answer"] ["calls"] (defScope sAnswers) := ⟨rfl, rfl, rfl, by decide +kernel, rfl, by decide +kernel, by decide +kernel⟩
def spAnswers (K : PySem.W.Frag) : Sp := fun vs H Q _ => ∃ (a : Addr) (ns : List Int), vs = [.ref a] ∧ SqL K H a (lI ns) ∧ ns.length ≤ 360 ∧ PyCo08.answers_asked ns = true ∧
  ∀ (H' : Hp) (p : Addr), H' p = some (.lst (lI (PyCo08.answers ns))) → Q (.ref p) H'
theorem ok_answers {f f1 f2 C ht : Addr} {fd fd1 fd2 : FuncData} {stepH : HouseM → Co08.Call → HouseM × List Int} {arity : List Nat} {k2 : Nat} (F : Fun K "answers" "answers" sAnswers f fd) (B : Env mg) (T : CHouse K mg C) (so : StepOk stepH)
    (M : Mk K C f1) (G1 : FnOk P w K mg base CX0 2 f1 fd1 ["self"] (spHouseInit C)) (b1 : Binds K fd1 ["self"] [])
    (D2 : Def P w K mg base (k2 + 3) "answer_call" ["house", "call", "handed"] (spCall C stepH) f2 fd2)
    (gT : mg "HANDED_OVER" = some (.ref ht)) (hT : ∀ H, SqT K H ht (nL arity)) (har : ∀ p n, PyCo08.shape p = some (n, 0) → arity[p.toNat]? = some n) :
    FnOk P w K mg base CX0 (k2 + 4) f fd ["calls"] (spAnswers K) := by
  refine F.ok scAnswers (fun vs H Q E h => ?_) (fun cdv A outer s H vs Q E hr h => ?_)
  · obtain ⟨a, ns, rfl, _⟩ := h
    rfl
  · obtain ⟨a, ns, rfl, ha, h360, asked, q⟩ := h
    have hr3 : Room 3 _ := hr.mono (by omega)
    obtain ⟨raw0, hraw0, h60, hall0, hans, hlen⟩ := asked_raw asked
    refine ⟨_, pss_cons (ps_set (i := 1) scAnswers.nd rfl (Or.inl rfl) (pe_make0 M G1 hr3 rfl T.here b1 .nil pass0))
      (pss_cons (ps_set (i := 2) scAnswers.nd rfl (Or.inl rfl) (pe_lst pa_nil))
      (pss_cons (ps_set (i := 3) scAnswers.nd rfl (Or.inl rfl) pe_int)
      (pss_cons (ps_while PassesOwn.never (pt_cmpR op_lt (pv 3) (pe_callB call_len_seq (by rfl) B.len PySem.boot_len (pa_cons (pv 0) pa_nil)) (nomark _))
        (pss_cons (ps_set (i := 4) scAnswers.nd rfl (Or.inl rfl) (pe_ix ix_list (pv 0) (pv 3) (fun _ _ => rfl)))
        (pss_cons (ps_set (i := 5) scAnswers.nd rfl (Or.inl rfl) (pe_op op_add (pv 3) pe_int))
        (pss_cons (ps_set (i := 3) scAnswers.nd rfl (Or.inl rfl) (pe_op op_add (pv 5) (pe_ix ix_tup (pe_glob (v := .ref ht) rfl gT rfl) (pv 4) (fun _ _ => rfl))))
        (pss_cons (ps_set (i := 6) scAnswers.nd rfl (Or.inl rfl) (pe_call D2.ok hr rfl D2.here D2.kp D2.b .nil pass0 (pa_cons (pv 1) (pa_cons (pv 4) (pa_cons (pe_slice sl_list (pv 0) (po_some (pv 5)) (po_some (pv 3))) pa_nil)))))
        (pss_cons (ps_expr (pe_bm PySem.F.plainAttrs_list PySem.F.slot_list_append PySem.F.type_list_append mt_append (pv 2) (pa_cons (pe_callB call_len_seq (by rfl) B.len PySem.boot_len (pa_cons (pv 6) pa_nil)) pa_nil)))
        (pss_one (ps_expr (pe_bm PySem.F.plainAttrs_list PySem.F.slot_list_extend PySem.F.type_list_extend mt_extend (pv 2) (pa_cons (pv 6) pa_nil))))))))))
      (pss_one (ps_ret (pv 2)))))), ?_⟩
    intro x dx nx nd ne
    have s0 : Same H (upd (upd H dx (.own x)) x (.ins C dx [])) := (same_upd nd).trans (fun b o e => by
      have e2 : b ≠ x := by
        intro e3; subst e3
        rw [upd_ne (fun e4 => ne e4.symm), nx] at e; cases e
      rw [upd_ne e2]; exact e)
    refine ⟨H, x, dx, rfl, s0, nx, upd_same, fun H1 s1 hH1 => ⟨rfl, ?_⟩⟩
    refine ⟨Nat.zero_le _, fun tl htl => ?_⟩
    have stl := same_upd (o := .lst []) htl
    have hinit : House (freshM 1 (1, 1) (1, 1)) 0 := freshM_house (by omega) (by omega) ⟨by decide, by decide, by decide⟩ ⟨by decide, by decide, by decide⟩ 0
    refine ⟨fun mm σ H' => ∃ (place k f : Nat) (m : HouseM) (Td : List Int) (raw : List Raw1) (x4 x5 x6 : Option V), σ = [some (.ref a), some (.ref x), some (.ref tl), some (.int place), x4, x5, x6] ∧ Keep H H' ∧ HouseAt C H' x m ∧ House m k ∧ H' tl = some (.lst (lI Td)) ∧
        PyFlat.calls PyCo08.shape f (ns.drop place) = some raw ∧ k + raw.length ≤ 60 ∧ (∀ c ∈ raw, (Co08Neutral.callOf ((PyCo08.whole c).headD [])).isSome = true) ∧ Td ++ runs (sysOf m) raw = PyCo08.answers ns ∧ place ≤ ns.length ∧ mm = ns.length - place,
      ⟨_, 0, 0, ns.length, _, [], raw0, none, none, none, rfl, Same.keep (s1.trans stl), hH1.mono stl, hinit, upd_same, by simpa using hraw0, by omega, hall0, by rw [init_eq, List.nil_append]; exact hans.symm, by omega, rfl⟩, ?_⟩
    rintro mm σ H' ⟨place, k, f, m, Td, raw, x4, x5, x6, rfl, kH, hH, hm, hT', hcalls, h60', hall, htold, hpl, emm⟩
    have hA := kH.seq ha
    refine ⟨_, rfl, _, rfl, a, _, rfl, .inl hA, _, _, rfl, rfl, _, rfl, ite2 (fun c1 => ?_) (fun c1 => ?_)⟩
    · have hlt : place < ns.length := by
        have := of_decide_eq_true c1
        rw [List.length_map] at this
        omega
      have hdrop : ns.drop place = ns.getD place 0 :: ns.drop (place + 1) := by
        rw [getD_lt hlt]; exact List.drop_eq_getElem_cons hlt
      rw [hdrop] at hcalls
      obtain ⟨n, f', raw', hshape, hn, eraw, hcalls'⟩ := calls_cons hcalls
      subst eraw
      have hn' : place + 1 + n ≤ ns.length := by rw [List.length_drop] at hn; omega
      have hargs : ((ns.drop (place + 1)).take n).length = n := by rw [List.length_take, List.length_drop]; omega
      have hw := whole_eq hshape hargs
      have hcall := hall _ (List.mem_cons_self ..)
      rw [hw] at hcall
      obtain ⟨cx, _, hnum, hin, hstep⟩ := asked_call hcall
      obtain ⟨_, hp0, hp10⟩ := shape_zero hshape
      have hk60 : k < 60 := by rw [List.length_cons] at h60'; omega
      have hrun := htold
      rw [runs_cons, hw, hstep, ← so.eq m cx hm.ok] at hrun
      dsimp only at hrun
      have hm' := so.house m k _ cx hm hk60 hnum hin
      -- call, first, place
      refine ⟨_, fun σ' H'' hN => hN, ?_⟩
      refine ⟨_, rfl, _, rfl, a, _, _, _, rfl, rfl, hA, atI_nat (lI_at hlt), ?_⟩
      refine ⟨_, rfl, _, _, rfl, rfl, ?_⟩
      have hat : atI (nL arity) (ns.getD place 0) = some (.int ((n : Nat) : Int)) := by
        have e1 : ns.getD place 0 = ((ns.getD place 0).toNat : Int) := (Int.toNat_of_nonneg hp0).symm
        rw [e1]
        refine atI_nat ?_
        rw [List.getElem?_map, har _ _ hshape]
        rfl
      refine ⟨_, rfl, _, rfl, ht, _, _, _, rfl, rfl, hT _, hat, _, _, rfl, rfl, ?_⟩
      -- answer
      refine ⟨_, rfl, _, rfl, _, rfl, _, rfl, _, rfl, _, rfl, _, rfl, a, _, rfl, hA, fun L hL => ?_⟩
      have ecut : cutV (lI ns) (some ((place : Int) + 1)) (some ((place : Int) + 1 + (n : Int))) = lI ((ns.drop (place + 1)).take n) := by
        have := cut_nat ns (place + 1) (place + 1 + n) (by omega) hn'
        rw [show place + 1 + n - (place + 1) = n by omega] at this
        exact this
      rw [ecut]
      have sL := same_upd (o := .lst (lI ((ns.drop (place + 1)).take n))) hL
      refine ⟨x, L, m, ns.getD place 0, (ns.drop (place + 1)).take n, cx, rfl, hH.mono sL, hm.ok, upd_same, hnum, hin, fun l H2 kp nl hH2 hl => ?_⟩
      have kAll := (Same.keep sL).trans kp
      have t2 : H2 tl = some (.lst (lI Td)) := kAll.ints hT'
      have ltl : l ≠ tl := by
        intro e
        rw [e, sL _ _ hT'] at nl
        cases nl
      have lenT : Td.length + 1 + (stepH m cx).2.length ≤ 10000000 := by
        have := congrArg List.length hrun
        rw [List.length_append, List.length_cons, List.length_append] at this
        omega
      have hsz : (10000000 : Nat) < sizeLine := by decide
      -- told.append(len(answer))
      refine ⟨_, rfl, .inl ⟨rfl, _, SqL.of t2⟩, _, rfl, l, _, rfl, .inl (SqL.of hl), tl, _, _, rfl, rfl, t2, by rw [List.length_map]; omega, ?_⟩
      have eA : lI Td ++ [V.int ((lI (stepH m cx).2).length : Int)] = lI (Td ++ [((stepH m cx).2.length : Int)]) := by
        have e : (lI (stepH m cx).2).length = (stepH m cx).2.length := List.length_map ..
        rw [e]
        show _ = List.map V.int _
        rw [List.map_append]
        rfl
      rw [eA]
      have hl3 : (upd H2 tl (.lst (lI (Td ++ [((stepH m cx).2.length : Int)])))) l = some (.lst (lI (stepH m cx).2)) := by rw [upd_ne ltl]; exact hl
      -- told.extend(answer)
      refine ⟨_, rfl, .inl ⟨rfl, _, SqL.of upd_same⟩, _, rfl, tl, l, _, _, rfl, rfl, upd_same, hl3, ?_, ?_⟩
      · rw [List.length_map, List.length_map, List.length_append, List.length_singleton]; omega
      rw [upd_upd]
      have eB : lI (Td ++ [((stepH m cx).2.length : Int)]) ++ lI (stepH m cx).2 = lI (Td ++ [((stepH m cx).2.length : Int)] ++ (stepH m cx).2) := by
        exact (List.map_append ..).symm
      rw [eB]
      have htl0 : H tl = none := s1.free htl
      have kA4 : Keep H (upd H2 tl (.lst (lI (Td ++ [((stepH m cx).2.length : Int)] ++ (stepH m cx).2)))) := fun b o e h1 h2 => by
        have nb : b ≠ tl := ne_of_none e htl0
        rw [upd_ne nb]
        exact (kH.trans kAll) b o e h1 h2
      refine ⟨ns.length - (place + 1 + n), by omega, place + 1 + n, k + 1, f', (stepH m cx).1, _, raw', _, _, _, rfl, kA4, hH2.ints hm'.ok t2, hm', upd_same, ?_, ?_, fun c hc => hall c (List.mem_cons_of_mem _ hc), ?_, hn', rfl⟩
      · have e : ns.drop (place + 1 + n) = (ns.drop (place + 1)).drop n := by rw [List.drop_drop]
        rw [e]; exact hcalls'
      · rw [List.length_cons] at h60'; omega
      · rw [← hrun]
        simp [List.append_assoc]
    · have hge : place = ns.length := by
        by_cases h0 : place < ns.length
        · exact absurd (decide_eq_true (by rw [List.length_map]; omega)) c1
        · omega
      have e0 : raw = [] := by
        rw [hge, List.drop_length] at hcalls
        exact calls_nil hcalls
      rw [e0, runs_nil, List.append_nil] at htold
      refine ⟨_, rfl, q H' tl ?_⟩
      rw [← htold]; exact hT'
end
end Wq

/-! What the calls 5 to 9 answer, against the specification. -/
namespace Wq
open Wp
open Co08 (System ownOf debt total share payOf paid means rest can paysWith ratio equity waves fallen capped rising fraction told)
def lackM (s : SheetM) (p : PayM) (i : Nat) : Int := max (0 - surplusM s p i) 0
def fallenM (s : SheetM) (p : PayM) : List Nat := (List.range s.n).filter fun i => decide (0 < p.fell.getD i 0)
def lostOne (s : SheetM) (p : PayM) (i : Nat) : Int := meansM s p i - s.debts.getD i 0 * p.above.getD i 0
def lostM (s : SheetM) (p : PayM) : Int := ((fallenM s p).map (lostOne s p)).sum
def unpaidOne (s : SheetM) (p : PayM) (i : Nat) : Int := s.debts.getD i 0 * (p.below - p.above.getD i 0)
def unpaidM (s : SheetM) (p : PayM) : Int := ((List.range s.n).map (unpaidOne s p)).sum
def payFull (s : SheetM) : PayM := ⟨1, List.replicate s.n 1, List.replicate s.n 0⟩
def heldP (m : HouseM) (i : Nat) : PayM := payAfter (sheetOf m) (sinkAll (sheetOf m) (heldS (some i)) canM)
def wipedM (m : HouseM) (i : Nat) : HouseM := { m with own := m.own.set i (0, (m.own.getD i (0, 1)).2), owed := m.owed.set i ((m.owed.getD i []).map fun q => (0, q.2)) }
def wipedS (s : SheetM) (i : Nat) : SheetM := { s with own := s.own.set i 0, owed := s.owed.set i (List.replicate s.n 0), debts := s.debts.set i 0 }
def paysOne (m : HouseM) (i j : Nat) : List Int := lowI (at2 (sheetOf m).owed i j * (greatestP m).above.getD i 0) ((sheetOf m).unit * (greatestP m).below)
def paysA (m : HouseM) (i : Nat) : HouseM × List Int := (m, (m.n : Int) :: (List.range m.n).flatMap (paysOne m i))
def needA (m : HouseM) (i : Nat) : HouseM × List Int := (m, lowI (lackM (sheetOf m) (heldP m i) i) ((sheetOf m).unit * (heldP m i).below))
def needsOne (m : HouseM) (i : Nat) : List Int := lowI (lackM (sheetOf m) (payFull (sheetOf m)) i) ((sheetOf m).unit * (payFull (sheetOf m)).below)
def needsA (m : HouseM) : HouseM × List Int := (m, (m.n : Int) :: (List.range m.n).flatMap (needsOne m))
def gone (m : HouseM) (i : Nat) : List Nat := (List.range m.n).filter fun j => decide ((greatestP m).fell.getD j 0 = 0) && decide (0 < (greatestP (wipedM m i)).fell.getD j 0)
def withoutA (m : HouseM) (i : Nat) : HouseM × List Int := (m, ((gone m i).length : Int) :: (gone m i).map fun (j : Nat) => (j : Int))
def lostA (m : HouseM) : HouseM × List Int := (m, lowI (lostM (sheetOf m) (greatestP m)) ((sheetOf m).unit * (greatestP m).below) ++ lowI (unpaidM (sheetOf m) (greatestP m)) ((sheetOf m).unit * (greatestP m).below))
/-! a house without one party -/
theorem set_self {α : Type} (l : List α) (i : Nat) (d : α) : l.set i (l.getD i d) = l := by
  refine List.ext_getElem (by simp) (fun k h1 h2 => ?_)
  rw [List.getElem_set]
  split
  · rename_i e; subst e; exact getD_lt h2
  · rfl
theorem unitOf_congr {l l' : List Fr} (h : l.map (fun q => q.2) = l'.map (fun q => q.2)) : unitOf l = unitOf l' := by
  have e : ∀ l : List Fr, unitOf l = (l.map (fun q => q.2)).foldl (fun u d => lcm2 u (0, d)) 1 := by
    intro l
    unfold unitOf
    rw [List.foldl_map]
    congr 1
  rw [e, e, h]
theorem prodDen_congr {l l' : List Fr} (h : l.map (fun q => q.2) = l'.map (fun q => q.2)) : prodDen l = prodDen l' := by
  have e : ∀ l : List Fr, prodDen l = (l.map (fun q => q.2)).foldl (fun u d => u * d) 1 := by
    intro l
    unfold prodDen
    rw [List.foldl_map]
  rw [e, e, h]
theorem wiped_dens (m : HouseM) (i : Nat) : (allFr (wipedM m i)).map (fun q => q.2) = (allFr m).map (fun q => q.2) := by
  unfold allFr wipedM
  dsimp only
  rw [List.flatten_cons, List.flatten_cons, List.map_append, List.map_append, List.map_flatten, List.map_flatten, List.map_set, List.map_set, List.map_map]
  congr 1
  · by_cases hi : i < m.own.length
    · have e : (m.own.getD i (0, 1)).2 = (m.own.map (fun q => q.2)).getD i 1 := by rw [getD_map _ _ _ _ (0, 1) hi]
      show (m.own.map (fun q => q.2)).set i (m.own.getD i (0, 1)).2 = _
      rw [e, set_self]
    · rw [List.set_eq_of_length_le (by rw [List.length_map]; omega)]
  · congr 1
    by_cases hi : i < m.owed.length
    · have e : (m.owed.getD i []).map ((fun q : Fr => q.2) ∘ fun q => (0, q.2)) = (m.owed.map (fun r => r.map (fun q : Fr => q.2))).getD i [] := by
        rw [getD_map _ _ _ _ [] hi]; rfl
      rw [e]
      exact set_self _ _ _
    · rw [List.set_eq_of_length_le (by rw [List.length_map]; omega)]
theorem wiped_unit (m : HouseM) (i : Nat) : unitOf (allFr (wipedM m i)) = unitOf (allFr m) := unitOf_congr (wiped_dens m i)
section
variable {m : HouseM} (ok : HouseOk m)
include ok
theorem HouseOk.wiped (i : Nat) : HouseOk (wipedM m i) where
  n1 := ok.n1
  n8 := ok.n8
  nOwn := by show (m.own.set i _).length = m.n; rw [List.length_set]; exact ok.nOwn
  nOwed := by show (m.owed.set i _).length = m.n; rw [List.length_set]; exact ok.nOwed
  nRow := fun c hc => by
    have hc : c < m.n := hc
    show ((m.owed.set i _).getD c []).length = m.n
    rw [getD_set]
    split
    · rename_i e; rw [List.length_map, e.1]; exact ok.nRow c hc
    · exact ok.nRow c hc
  den := fun q hq => by
    have h1 : q.2 ∈ (allFr m).map (fun q => q.2) := by rw [← wiped_dens m i]; exact List.mem_map_of_mem hq
    obtain ⟨q', hq', e⟩ := List.mem_map.1 h1
    have h2 := ok.den q' hq'
    have h3 : q.1 = 0 ∨ q ∈ allFr m := by
      unfold allFr wipedM at hq
      dsimp only at hq
      rw [List.flatten_cons] at hq
      rcases List.mem_append.1 hq with h | h
      · rcases mem_set h with h | h
        · right; unfold allFr; rw [List.flatten_cons]; exact List.mem_append_left _ h
        · left; rw [h]
      · rw [List.mem_flatten] at h
        obtain ⟨r, hr, hq2⟩ := h
        rcases mem_set hr with h | h
        · right; unfold allFr; rw [List.flatten_cons]; refine List.mem_append_right _ ?_
          rw [List.mem_flatten]; exact ⟨r, h, hq2⟩
        · left
          subst h
          obtain ⟨q2, _, e2⟩ := List.mem_map.1 hq2
          rw [← e2]
    rcases h3 with h3 | h3
    · have e : q'.2 = q.2 := e
      exact ⟨by omega, by omega, by omega⟩
    · exact ok.den q h3
  prod := by rw [prodDen_congr (wiped_dens m i)]; exact ok.prod
  diag := fun c hc => by
    have hc : c < m.n := hc
    show (((m.owed.set i _).getD c []).getD c (0, 1)).1 = 0
    rw [getD_set]
    split
    · rename_i e
      rw [getD_map _ _ _ _ (0, 1) (by rw [e.1, ok.nRow c hc]; exact hc)]
    · exact ok.diag c hc
  ko := ok.ko
  kp := ok.kp
theorem HouseOk.wiped_sys {i : Nat} (hi : i < m.n) : sysOf (wipedM m i) = Co08.wiped (sysOf m) i := by
  unfold sysOf wipedM Co08.wiped
  dsimp only
  rw [List.map_set, List.map_set, rat_zero (q := (0, (m.own.getD i (0, 1)).2)) rfl, getD_map _ _ _ _ [] (by rw [ok.nOwed]; exact hi), List.map_map, List.map_map]
  congr 2
  refine List.map_congr_left (fun q _ => ?_)
  exact rat_zero (q := (0, q.2)) rfl
theorem HouseOk.wiped_sheet {i : Nat} (hi : i < m.n) : sheetOf (wipedM m i) = wipedS (sheetOf m) i := by
  have e1 : inUnits (m.own.set i (0, (m.own.getD i (0, 1)).2)) (unitOf (allFr m)) = (inUnits m.own (unitOf (allFr m))).set i 0 := by
    unfold inUnits
    rw [List.map_set]
    simp
  have e2 : inUnits ((m.owed.getD i []).map fun q => (0, q.2)) (unitOf (allFr m)) = List.replicate m.n 0 := by
    unfold inUnits
    rw [List.map_map]
    refine List.ext_getElem (by rw [List.length_map, ok.nRow i hi, List.length_replicate]) (fun k h1 h2 => ?_)
    simp
  have e3 : (inUnits ((m.owed.getD i []).map fun q => (0, q.2)) (unitOf (allFr m))).sum = 0 := by
    rw [e2]
    have : ∀ n, (List.replicate n (0 : Int)).sum = 0 := by
      intro n
      induction n with
      | zero => rfl
      | succ n ih => rw [List.replicate_succ, List.sum_cons, ih]; rfl
    exact this m.n
  have eu := wiped_unit m i
  have eo : (wipedM m i).own = m.own.set i (0, (m.own.getD i (0, 1)).2) := rfl
  have ew : (wipedM m i).owed = m.owed.set i ((m.owed.getD i []).map fun q => (0, q.2)) := rfl
  unfold sheetOf
  rw [eu, eo, ew, e1]
  unfold wipedS
  dsimp only
  rw [List.map_set, List.map_set, e3, e2]
  rfl
/-! whoever fell can't pay -/
theorem HouseOk.can_less {p q : List Rat} (h : ∀ i, i < m.n → payOf p i ≤ payOf q i) {j : Nat} (hc : can (sysOf m) q j = false) : can (sysOf m) p j = false := by
  unfold can at hc ⊢
  have h1 := of_decide_eq_false hc
  refine decide_eq_false (fun h2 => h1 (Rat.le_trans h2 ?_))
  unfold means
  rw [ok.good.paid_eq, ok.good.paid_eq]
  have := sm_le (f := fun i => share (sysOf m) i j * payOf p i) (g := fun i => share (sysOf m) i j * payOf q i) m.n (fun i hi => Rat.mul_le_mul_of_nonneg_left (h i hi) (ok.good.share0 i j))
  grind
theorem HouseOk.fell_can (safe : Nat → Bool) : ∀ i, i < m.n → (sinkAll (sheetOf m) safe canM).getD i 0 ≠ 0 → can (sysOf m) (paysOf m (sinkAll (sheetOf m) safe canM)) i = false := by
  obtain ⟨w, ⟨_, h2, _⟩, _⟩ := sink_inv (s := sheetOf m) (safe := safe) (c := canM)
    (fun wave fell => Ready m fell ∧ (∀ i, i < m.n → fell.getD i 0 ≠ 0 → can (sysOf m) (paysOf m fell) i = false) ∧ 0 ≤ wave) (fun wave fell ⟨r, hc, hw⟩ _ => by
      have r2 : Ready m (fellNext (sheetOf m) safe canM (wave + 1) fell) := ok.ready_can r (by omega)
      have new : ∀ j, j < m.n → nextM (sheetOf m) safe canM fell j = true → can (sysOf m) (paysOf m fell) j = false := by
        intro j hj hn
        unfold nextM at hn
        simp only [Bool.and_eq_true, Bool.not_eq_true'] at hn
        rw [← ok.can_rel (ok.rel r) hj]
        exact hn.2
      have less := ok.good.sinks r2.nc (ok.sol r) (ok.sol r2) (fun j hj hF => by
          show (_ != _) = true
          rw [fellNext_at (s := sheetOf m) hj]
          split
          · simp; omega
          · exact hF) (fun j hj h1 h2 => by
          have h1 : ((fellNext (sheetOf m) safe canM (wave + 1) fell).getD j 0 != 0) = true := h1
          have h2 : (fell.getD j 0 != 0) = false := h2
          rw [fellNext_at (s := sheetOf m) hj] at h1
          split at h1
          · rename_i hn
            have h3 := new j hj hn
            unfold can at h3
            have h4 := of_decide_eq_false h3
            have h5 := ok.good.rest_le_means (ok.nonneg r) j
            grind
          · rw [h2] at h1; simp at h1)
      refine ⟨r2, fun i hi h => ?_, by omega⟩
      refine ok.can_less less ?_
      rw [fellNext_at (s := sheetOf m) hi] at h
      split at h
      · rename_i hn; exact new i hi hn
      · exact hc i hi h) (m.n + 1) 0 (List.replicate m.n 0)
    ⟨ready0, fun i _ h => by rw [zeros_get] at h; exact absurd rfl h, by omega⟩ (by omega) (by have := cnt_bound (zer (List.replicate m.n 0)) m.n; show cnt _ m.n < _; omega)
  exact h2
/-- the greatest payments, and who falls by them -/
structure Great (m : HouseM) : Prop where
  ready : Ready m (greatestP m).fell
  rel : PayRel m (paysOf m (greatestP m).fell) (greatestP m)
  nn : ∀ i, i < m.n → 0 ≤ (greatestP m).fell.getD i 0
  fell : ∀ i, i < m.n → (0 < (greatestP m).fell.getD i 0 ↔ can (sysOf m) (paysOf m (greatestP m).fell) i = false)
  le : ∀ i, i < m.n → payOf (paysOf m (greatestP m).fell) i ≤ total (sysOf m) i
  means : ∀ i, i < m.n → can (sysOf m) (paysOf m (greatestP m).fell) i = false → payOf (paysOf m (greatestP m).fell) i ≤ means (sysOf m) (paysOf m (greatestP m).fell) i
  cleared : Co08.cleared (sysOf m) = (paysOf m (greatestP m).fell, (greatestP m).fell.map Int.toNat)
theorem HouseOk.great : Great m := by
  obtain ⟨r, nn, nil⟩ := ok.sinkAll_can (heldS none)
  have fc := ok.fell_can (heldS none)
  have hw : Co08.cleared (sysOf m) = _ := ok.waves0 none
  have ef : (greatestP m).fell = sinkAll (sheetOf m) (heldS none) canM := rfl
  have rel : PayRel m _ (greatestP m) := ok.rel r
  have fell : ∀ i, i < m.n → (0 < (sinkAll (sheetOf m) (heldS none) canM).getD i 0 ↔ can (sysOf m) (paysOf m (sinkAll (sheetOf m) (heldS none) canM)) i = false) := by
    intro i hi
    have h0 := nn i hi
    constructor
    · intro h; exact fc i hi (by omega)
    · intro h
      have h1 := falling_nil.1 nil i hi
      unfold nextM at h1
      rw [ok.can_rel (ok.rel r) hi, h] at h1
      have e3 : heldS none i = false := rfl
      rw [e3] at h1
      by_cases h2 : (sinkAll (sheetOf m) (heldS none) canM).getD i 0 = 0
      · rw [decide_eq_true h2] at h1; cases h1
      · omega
  have sol := ok.sol r
  have low : ∀ i, i < m.n → can (sysOf m) (paysOf m (sinkAll (sheetOf m) (heldS none) canM)) i = false → payOf (paysOf m (sinkAll (sheetOf m) (heldS none) canM)) i ≤ Co08.means (sysOf m) (paysOf m (sinkAll (sheetOf m) (heldS none) canM)) i := by
    intro i hi h
    have h1 := (fell i hi).2 h
    have h2 : fF (sinkAll (sheetOf m) (heldS none) canM) i = true := by
      show (_ != _) = true
      exact bne_iff_ne.2 (by omega)
    rw [sol i hi, if_pos h2]
    exact ok.good.rest_le_means (ok.nonneg r) i
  refine ⟨r, rel, nn, fell, fun i hi => ?_, low, hw⟩
  rw [ef]
  cases e : can (sysOf m) (paysOf m (sinkAll (sheetOf m) (heldS none) canM)) i with
  | false =>
    have h1 := low i hi e
    unfold can at e
    have h2 := of_decide_eq_false e
    grind
  | true =>
    have h1 : ¬ 0 < (sinkAll (sheetOf m) (heldS none) canM).getD i 0 := fun h => by rw [(fell i hi).1 h] at e; cases e
    have h0 := nn i hi
    have h2 : fF (sinkAll (sheetOf m) (heldS none) canM) i = false := by
      show (_ != _) = false
      exact bne_eq_false_iff_eq.2 (by omega)
    rw [sol i hi, h2]
    simp
/-! what is told of payments -/
theorem HouseOk.scaleI {P : List Rat} {p : PayM} (r : PayRel m P p) : 0 < (sheetOf m).unit * p.below ∧ (((sheetOf m).unit * p.below : Int) : Rat) = (unitOf (allFr m) : Rat) * ((p.below : Int) : Rat) :=
  ⟨Int.mul_pos ok.sheetOk.unit0 r.ok.below0, by rw [Rat.intCast_mul]; rfl⟩
theorem HouseOk.lack_rel {P : List Rat} {p : PayM} (r : PayRel m P p) {i : Nat} (hi : i < m.n) : ((lackM (sheetOf m) p i : Int) : Rat) = (unitOf (allFr m) : Rat) * ((p.below : Int) : Rat) * max 0 (total (sysOf m) i - means (sysOf m) P i) := by
  have h1 := ok.surplus_rel r hi
  have hs := ok.scale r
  unfold lackM
  by_cases h3 : 0 ≤ surplusM (sheetOf m) p i
  · rw [Int.max_eq_right (by omega)]
    have h4 : (0 : Rat) ≤ ((surplusM (sheetOf m) p i : Int) : Rat) := by exact_mod_cast h3
    rw [h1, pos_mul_nonneg ok hs] at h4
    have h5 : max 0 (total (sysOf m) i - means (sysOf m) P i) = 0 := by grind
    rw [h5]
    show (0 : Rat) = _
    grind
  · rw [Int.max_eq_left (by omega), Rat.intCast_sub, h1]
    have h4 : ¬ (0 : Rat) ≤ ((surplusM (sheetOf m) p i : Int) : Rat) := fun h => h3 (by exact_mod_cast h)
    rw [h1, pos_mul_nonneg ok hs] at h4
    have h5 : max 0 (total (sysOf m) i - means (sysOf m) P i) = total (sysOf m) i - means (sysOf m) P i := by grind
    rw [h5]
    show (0 : Rat) - _ = _
    grind
theorem HouseOk.lack_low {P : List Rat} {p : PayM} (r : PayRel m P p) {i : Nat} (hi : i < m.n) : lowI (lackM (sheetOf m) p i) ((sheetOf m).unit * p.below) = fraction (max 0 (total (sysOf m) i - means (sysOf m) P i)) := by
  obtain ⟨b0, eB⟩ := ok.scaleI r
  refine lowI_eq (by unfold lackM; omega) b0 ?_
  rw [eB]
  exact ok.lack_rel r hi
theorem HouseOk.paid_rel {P : List Rat} {p : PayM} (r : PayRel m P p) {i : Nat} (hi : i < m.n) : (((sheetOf m).debts.getD i 0 * p.above.getD i 0 : Int) : Rat) = (unitOf (allFr m) : Rat) * ((p.below : Int) : Rat) * payOf P i := by
  rw [Rat.intCast_mul, ok.debts_unit hi]
  have := r.rel i hi
  grind
theorem HouseOk.lostOne_rel {P : List Rat} {p : PayM} (r : PayRel m P p) {i : Nat} (hi : i < m.n) : ((lostOne (sheetOf m) p i : Int) : Rat) = (unitOf (allFr m) : Rat) * ((p.below : Int) : Rat) * (means (sysOf m) P i - payOf P i) := by
  unfold lostOne
  rw [Rat.intCast_sub, ok.means_rel r hi, ok.paid_rel r hi]
  grind
theorem HouseOk.unpaidOne_rel {P : List Rat} {p : PayM} (r : PayRel m P p) {i : Nat} (hi : i < m.n) : ((unpaidOne (sheetOf m) p i : Int) : Rat) = (unitOf (allFr m) : Rat) * ((p.below : Int) : Rat) * (total (sysOf m) i - payOf P i) := by
  have h1 := ok.paid_rel r hi
  have h2 := ok.debts_unit hi
  unfold unpaidOne
  rw [Int.mul_sub, Rat.intCast_sub, h1, Rat.intCast_mul, h2]
  grind
omit ok in
theorem sum_filter (c : Nat → Bool) (f : Nat → Int) : ∀ n, (((List.range n).filter c).map f).sum = ((List.range n).map fun i => if c i = true then f i else 0).sum
  | 0 => rfl
  | n + 1 => by
    rw [List.range_succ, List.filter_append, List.map_append, List.map_append, List.sum_append, List.sum_append, sum_filter c f n]
    congr 1
    by_cases h : c n = true
    · simp [h]
    · simp [h]
theorem HouseOk.lost_rel : ((lostM (sheetOf m) (greatestP m) : Int) : Rat) = (unitOf (allFr m) : Rat) * (((greatestP m).below : Int) : Rat) * Co08.lost (sysOf m) (Co08.greatest (sysOf m)) := by
  have g := ok.great
  unfold Co08.greatest
  rw [g.cleared]
  unfold lostM fallenM Co08.lost
  rw [sum_filter, sum_cast, ok.good.cnt, sum_range, ← sm_mul]
  refine sm_congr m.n (fun i hi => ?_)
  have h1 := g.fell i hi
  have h2 := ok.lostOne_rel g.rel hi
  cases e : can (sysOf m) (paysOf m (greatestP m).fell) i with
  | true =>
    rw [if_neg (by
      intro h
      have := of_decide_eq_true h
      rw [h1.1 this] at e; cases e), if_pos rfl]
    show (0 : Rat) = _
    grind
  | false =>
    rw [if_pos (decide_eq_true (h1.2 e)), if_neg (by simp), h2]
theorem HouseOk.lost_nn : 0 ≤ lostM (sheetOf m) (greatestP m) := by
  have g := ok.great
  unfold lostM fallenM
  rw [sum_filter]
  have h : (0 : Rat) ≤ (((((List.range m.n).map fun i => if decide (0 < (greatestP m).fell.getD i 0) = true then lostOne (sheetOf m) (greatestP m) i else 0).sum) : Int) : Rat) := by
    rw [sum_cast]
    refine sm_nonneg m.n (fun i hi => ?_)
    by_cases h : decide (0 < (greatestP m).fell.getD i 0) = true
    · rw [if_pos h, ok.lostOne_rel g.rel hi]
      have h1 := g.means i hi ((g.fell i hi).1 (of_decide_eq_true h))
      exact Rat.mul_nonneg (Rat.le_of_lt (ok.scale g.rel)) (by grind)
    · rw [if_neg h]
      exact Rat.le_refl
  exact_mod_cast h
theorem HouseOk.unpaid_rel : ((unpaidM (sheetOf m) (greatestP m) : Int) : Rat) = (unitOf (allFr m) : Rat) * (((greatestP m).below : Int) : Rat) * Co08.unpaid (sysOf m) (Co08.greatest (sysOf m)) := by
  have g := ok.great
  unfold Co08.greatest
  rw [g.cleared]
  unfold unpaidM Co08.unpaid
  rw [sum_cast, ok.good.cnt, sum_range, ← sm_mul]
  exact sm_congr m.n (fun i hi => ok.unpaidOne_rel g.rel hi)
theorem HouseOk.unpaid_nn : 0 ≤ unpaidM (sheetOf m) (greatestP m) := by
  have g := ok.great
  unfold unpaidM
  have h : (0 : Rat) ≤ (((((List.range m.n).map (unpaidOne (sheetOf m) (greatestP m))).sum) : Int) : Rat) := by
    rw [sum_cast]
    refine sm_nonneg m.n (fun i hi => ?_)
    rw [ok.unpaidOne_rel g.rel hi]
    have h1 := g.le i hi
    exact Rat.mul_nonneg (Rat.le_of_lt (ok.scale g.rel)) (by grind)
  exact_mod_cast h
/-! the calls -/
theorem HouseOk.pays_rel {i j : Nat} (hi : i < m.n) (hj : j < m.n) : ((at2 (sheetOf m).owed i j * (greatestP m).above.getD i 0 : Int) : Rat) = (unitOf (allFr m) : Rat) * (((greatestP m).below : Int) : Rat) * (share (sysOf m) i j * payOf (paysOf m (greatestP m).fell) i) := by
  have g := ok.great
  have h1 := g.rel.rel i hi
  have h2 := ok.good.share_mul i j hj
  rw [Rat.intCast_mul, ok.owed_unit hi hj, ← h2]
  grind
theorem HouseOk.pays_nn {i j : Nat} (hi : i < m.n) (hj : j < m.n) : 0 ≤ at2 (sheetOf m).owed i j * (greatestP m).above.getD i 0 := by
  have g := ok.great
  have h : (0 : Rat) ≤ ((at2 (sheetOf m).owed i j * (greatestP m).above.getD i 0 : Int) : Rat) := by
    rw [ok.pays_rel hi hj]
    exact Rat.mul_nonneg (Rat.le_of_lt (ok.scale g.rel)) (Rat.mul_nonneg (ok.good.share0 i j) (ok.nonneg g.ready i hi))
  exact_mod_cast h
omit ok in
theorem flat_congr {f g : Nat → List Int} {n : Nat} (h : ∀ i, i < n → f i = g i) : (List.range n).flatMap f = (List.range n).flatMap g := by
  have : ∀ k, k ≤ n → (List.range k).flatMap f = (List.range k).flatMap g := by
    intro k
    induction k with
    | zero => intro _; rfl
    | succ k ih =>
      intro hk
      rw [List.range_succ, List.flatMap_append, List.flatMap_append, ih (by omega)]
      congr 1
      rw [List.flatMap_singleton, List.flatMap_singleton, h k (by omega)]
  exact this n (Nat.le_refl _)
theorem HouseOk.pays_step {i : Nat} (hi : i < m.n) : (sysOf m, (paysA m i).2) = Co08.step (sysOf m) (.pays i) := by
  have g := ok.great
  show _ = (sysOf m, if Co08.count (sysOf m) ≤ i then [-2] else _)
  rw [ok.good.cnt, if_neg (by omega)]
  unfold Co08.greatest
  rw [g.cleared]
  dsimp only
  congr 1
  show _ :: _ = _ :: _
  congr 1
  refine flat_congr (fun j hj => ?_)
  obtain ⟨b0, eB⟩ := ok.scaleI g.rel
  refine lowI_eq (ok.pays_nn hi hj) b0 ?_
  rw [eB, ok.pays_rel hi hj]
theorem HouseOk.heldRel (i : Nat) : PayRel m (paysOf m (sinkAll (sheetOf m) (heldS (some i)) canM)) (heldP m i) := ok.rel (ok.sinkAll_can (heldS (some i))).1
theorem HouseOk.need_step {i : Nat} (hi : i < m.n) : (sysOf m, (needA m i).2) = Co08.step (sysOf m) (.need i) := by
  show _ = (sysOf m, if Co08.count (sysOf m) ≤ i then [-2] else _)
  rw [ok.good.cnt, if_neg (by omega)]
  congr 1
  unfold Co08.need
  rw [ok.waves0 (some i)]
  exact ok.lack_low (ok.heldRel i) hi
theorem HouseOk.fullRel : PayRel m (Co08.full (sysOf m)) (payFull (sheetOf m)) where
  ok := {
    below0 := by show (0 : Int) < 1; decide
    nAbove := by show (List.replicate _ _).length = _; rw [List.length_replicate]
    nFell := by show (List.replicate _ _).length = _; rw [List.length_replicate]
    bBelow := by show (1 : Int).natAbs < 2 ^ 11400; exact Nat.one_lt_two_pow (by decide)
    bAbove := fun i => by
      show ((List.replicate (sheetOf m).n (1 : Int)).getD i 0).natAbs < 2 ^ 11400
      by_cases h : i < (sheetOf m).n
      · rw [getD_lt (by simpa using h), List.getElem_replicate]
        exact Nat.one_lt_two_pow (by decide)
      · rw [getD_out (by simp; omega)]
        exact Nat.two_pow_pos _ }
  rel := fun i hi => by
    show (((List.replicate m.n (1 : Int)).getD i 0 : Int) : Rat) * _ = ((1 : Int) : Rat) * _
    rw [getD_lt (by simpa using hi), List.getElem_replicate]
    have e : payOf (Co08.full (sysOf m)) i = total (sysOf m) i := by
      unfold payOf Co08.full
      rw [ok.good.cnt, getD_map_range, if_pos hi]
    rw [e]
theorem HouseOk.needs_step : (sysOf m, (needsA m).2) = Co08.step (sysOf m) .needs := by
  show _ = (sysOf m, (Co08.count (sysOf m) : Int) :: _)
  rw [ok.good.cnt]
  congr 1
  show _ :: _ = _ :: _
  congr 1
  exact flat_congr (fun j hj => ok.lack_low ok.fullRel hj)
theorem HouseOk.wave_rel {j : Nat} (hj : j < m.n) : ((Co08.waveOf (sysOf m) j : Nat) : Int) = (greatestP m).fell.getD j 0 := by
  have g := ok.great
  unfold Co08.waveOf
  rw [g.cleared]
  have hl : j < (greatestP m).fell.length := by rw [g.ready.len]; exact hj
  rw [getD_map _ _ _ _ 0 hl]
  exact Int.toNat_of_nonneg (g.nn j hj)
theorem HouseOk.without_step {i : Nat} (hi : i < m.n) : (sysOf m, (withoutA m i).2) = Co08.step (sysOf m) (.without i) := by
  show _ = (sysOf m, if Co08.count (sysOf m) ≤ i then [-2] else _)
  rw [ok.good.cnt, if_neg (by omega)]
  congr 1
  have e : gone m i = (List.range m.n).filter fun (j : Nat) => Co08.waveOf (sysOf m) j == 0 && Co08.waveOf (Co08.wiped (sysOf m) i) j != 0 := by
    unfold gone
    refine List.filter_congr (fun j hj => ?_)
    have hj := List.mem_range.1 hj
    have h1 := ok.wave_rel hj
    have h2 := (ok.wiped i).wave_rel (j := j) hj
    rw [ok.wiped_sys hi] at h2
    rw [← h1, ← h2]
    congr 1
    · by_cases h : Co08.waveOf (sysOf m) j = 0
      · rw [h]; rfl
      · rw [decide_eq_false (by omega)]
        exact (beq_false_of_ne h).symm
    · by_cases h : Co08.waveOf (Co08.wiped (sysOf m) i) j = 0
      · rw [h]; rfl
      · rw [decide_eq_true (by omega)]
        exact (bne_iff_ne.2 h).symm
  show ((gone m i).length : Int) :: (gone m i).map _ = _
  rw [e]
  rfl
theorem HouseOk.lost_step : (sysOf m, (lostA m).2) = Co08.step (sysOf m) .lost := by
  have g := ok.great
  obtain ⟨b0, eB⟩ := ok.scaleI g.rel
  show _ = (sysOf m, fraction _ ++ fraction _)
  congr 1
  show lowI _ _ ++ lowI _ _ = _
  congr 1
  · refine lowI_eq ok.lost_nn b0 ?_
    rw [eB, ok.lost_rel]
  · refine lowI_eq ok.unpaid_nn b0 ?_
    rw [eB, ok.unpaid_rel]
end
end Wq

namespace Wq
open PySem PySem.Spec PyProof.Rows L2 Wp
abbrev sSheetWithout : Stmt := top 11
abbrev sAllPaid : Stmt := top 12
abbrev sLack : Stmt := top 18
abbrev sLostIn : Stmt := top 19
abbrev sLeftUnpaid : Stmt := top 20
abbrev sIfSafe : Stmt := top 25
section
variable {P : Program} {w : World} {K : PySem.W.Frag} {mg : Str → Option Value} {base : Heap}
/-! lack -/
theorem scLack : FnScope ["sheet", "payments", "i"] ["sheet", "payments", "i"] (defScope sLack) := ⟨rfl, rfl, rfl, by decide +kernel, rfl, by decide +kernel, by decide +kernel⟩
theorem ok_lack {f f1 CS CP : Addr} {fd fd1 : FuncData} (F : Fun K "lack" "lack" sLack f fd) (B : Env mg)
    (D1 : Def P w K mg base 3 "surplus" ["sheet", "payments", "i"] (spRead CS CP fun s p i => .int (surplusM s p i)) f1 fd1) :
    FnOk P w K mg base CX0 4 f fd ["sheet", "payments", "i"] (spRead CS CP fun s p i => .int (lackM s p i)) := by
  refine F.ok scLack spRead_len (fun cdv A outer s H vs Q E hr h => ?_)
  obtain ⟨a, b, i, s, p, rfl, hS, hP, so, po, hi, q⟩ := h
  refine ⟨_, pss_one (ps_ret (pe_callB (call_max2 rfl) (by rfl) B.max (by decide +kernel) (pa_cons (pe_op op_sub pe_int (pe_call D1.ok hr rfl D1.here D1.kp D1.b .nil pass0 (pa_cons (pv 0) (pa_cons (pv 1) (pa_cons (pv 2) pa_nil))))) (pa_cons pe_int pa_nil)))), ?_⟩
  refine ⟨_, rfl, _, rfl, _, rfl, a, b, i, s, p, rfl, hS, hP, so, po, hi, fun H' s' => ?_⟩
  refine ⟨_, _, rfl, rfl, _, _, rfl, ?_⟩
  have emx : (if (0 : Int) > 0 - surplusM s p i then (0 : Int) else 0 - surplusM s p i) = lackM s p i := by
    unfold lackM
    rw [Int.max_def]
    split <;> split <;> omega
  show Q (.int (if (0 : Int) > 0 - surplusM s p i then (0 : Int) else 0 - surplusM s p i)) H'
  rw [emx]
  exact q _ s'
/-! lost_in_falling -/
theorem scLostIn : FnScope ["sheet", "payments", "fallen", "i"] ["sheet", "payments"] (defScope sLostIn) := ⟨rfl, rfl, rfl, by decide +kernel, rfl, by decide +kernel, by decide +kernel⟩
/-- a def of sheet and payments that only reads -/
def spSum (CS CP : Addr) (g : SheetM → PayM → V) : Sp := fun vs H Q _ => ∃ (a b : Addr) (s : SheetM) (p : PayM), vs = [.ref a, .ref b] ∧ SheetAt CS H a s ∧ PayAt CP H b p ∧ SheetOk s ∧ PayOk s p ∧
  ∀ H', Same H H' → Q (g s p) H'
theorem spSum_len {CS CP : Addr} {g : SheetM → PayM → V} (vs : List V) (H : Hp) (Q : VK) (E : XK) (h : spSum CS CP g vs H Q E) : vs.length = 2 := by
  obtain ⟨a, b, s, p, rfl, _⟩ := h
  rfl
theorem ok_lostIn {f f1 CS CP : Addr} {fd fd1 : FuncData} (F : Fun K "lost_in_falling" "lost_in_falling" sLostIn f fd) (B : Env mg) (TS : CSheet K mg CS) (TP : CPay K mg CP)
    (D1 : Def P w K mg base 2 "means" ["sheet", "payments", "i"] (spRead CS CP fun s p i => .int (meansM s p i)) f1 fd1) :
    FnOk P w K mg base CX0 3 f fd ["sheet", "payments"] (spSum CS CP fun s p => .int (lostM s p)) := by
  refine F.ok scLostIn spSum_len (fun cdv A outer s H vs Q E hr h => ?_)
  obtain ⟨a, b, s, p, rfl, hS, hP, so, po, q⟩ := h
  obtain ⟨dx, lo, lw, ld, hs⟩ := id hS
  obtain ⟨dy, la, lf, hp⟩ := id hP
  refine ⟨_, pss_cons (ps_setLc (i := 2) (own := [("i", 3)]) (g := gName 3) rfl scLostIn.nd rfl rfl (sw_true rfl rfl rfl (by decide +kernel))
        (pi_range1 rfl B.range (pa_cons (pe_fld (pv 0) rfl) pa_nil))
        (blkOk_by (own := [("i", 3)]) (N := ["sheet", "payments", "fallen", "i"]) (sc := defScope sLostIn) (by decide +kernel))
        (fun _ _ _ _ _ => pg_name (i := 3) scLostIn.nd rfl (Or.inl rfl))
        (fun _ _ _ _ _ => pts_one (pt_cmpR op_gt (pe_ix (ix_listK (K := K) rfl) (pe_fldK (K := K) rfl (pv 1) rfl) (pv 3) (fun _ _ => rfl)) pe_int (nomark _)))
        (fun _ _ _ _ _ => pv 3))
    (pss_one (ps_ret (pe_callB (cr_sum rfl) (by rfl) B.sum (by decide +kernel) (pa_cons (pe_lc (own := [("i", 3)]) (g := gName 3) (tt := tYes) rfl scLostIn.nd (pi_list (pv 2))
        (blkOk_by (own := [("i", 3)]) (N := ["sheet", "payments", "fallen", "i"]) (sc := defScope sLostIn) (by decide +kernel))
        (fun _ _ _ _ _ => pg_name (i := 3) scLostIn.nd rfl (Or.inl rfl)) (fun _ _ _ _ _ => pts_nil)
        (fun _ _ _ _ _ => pe_op op_sub (pe_call D1.ok hr rfl D1.here D1.kp D1.b .nil pass0 (pa_cons (pv 0) (pa_cons (pv 1) (pa_cons (pv 3) pa_nil))))
          (pe_op op_mulW (pe_ix (ix_listK (K := K) rfl) (pe_fldK (K := K) rfl (pv 0) rfl) (pv 3) (fun _ _ => rfl)) (pe_ix (ix_listK (K := K) rfl) (pe_fldK (K := K) rfl (pv 1) rfl) (pv 3) (fun _ _ => rfl))))) pa_nil)))), ?_⟩
  have n8 := so.n8
  have en : ((s.n : Int)).toNat = s.n := by omega
  refine ⟨_, rfl, a, CS, dx, _, _, rfl, hs.obj, TS.cl, TS.nParties, sF_parties _ _ _ _, _, rfl, (by omega), (by omega), fun D hD => ?_⟩
  rw [en]
  refine lc_rngF (n := s.n) (fun i => decide (0 < p.fell.getD i 0)) hD (by omega) (fun _ => rfl) ?_ ?_ ?_
  · intro i hi H' s1 R hR
    have hp' := hp.mono s1
    exact ⟨_, rfl, b, CP, dy, _, _, rfl, hp'.obj, TP.cl, TP.nFell, pF_fell _ _ _, _, rfl, lf, _, _, _, rfl, rfl, SqL.of hp'.fell, atI_nat (lI_at (by rw [po.nFell]; exact hi)), _, _, rfl, rfl, _, rfl, hR H' (Same.refl _)⟩
  · intro i hi H' R hR
    exact ⟨_, rfl, hR⟩
  · intro H1 s1 hA
    have hA : H1 D = some (.lst (nL (fallenM s p))) := hA
    have hlen : (fallenM s p).length ≤ s.n := by
      unfold fallenM
      exact Nat.le_trans (List.length_filter_le _ _) (by simp)
    refine ⟨_, rfl, D, rfl, ⟨_, SqL.of hA⟩, fun G hG => ?_⟩
    refine lc_lstG (K := K) (a := D) (xs := nL (fallenM s p)) (fun i v _ => v = .int (lostOne s p ((fallenM s p).getD i 0))) (fun _ _ _ _ _ h => h) hG (SqL.of hA) (by rw [List.length_map]; omega) (fun _ => rfl) ?_ ?_
    · intro k x hx H' acc s2 hacc hA2 hRel R' hR'
      have hk : k < (fallenM s p).length := by
        have := (List.getElem?_eq_some_iff.mp hx).1
        rwa [List.length_map] at this
      rw [nL_at hk] at hx
      obtain rfl := Option.some.inj hx
      have hi : (fallenM s p).getD k 0 < s.n := by
        rw [getD_lt hk]
        have := List.getElem_mem hk
        exact List.mem_range.1 (List.mem_filter.1 this).1
      refine ⟨_, rfl, _, rfl, _, rfl, a, b, (fallenM s p).getD k 0, s, p, rfl, (hS.mono s1).mono s2, (hP.mono s1).mono s2, so, po, hi, fun H3 s3 => ?_⟩
      have hs3 := ((hs.mono s1).mono s2).mono s3
      have hp3 := ((hp.mono s1).mono s2).mono s3
      refine ⟨_, rfl, a, CS, dx, _, _, rfl, hs3.obj, TS.cl, TS.nDebts, sF_debts _ _ _ _, _, rfl, ld, _, _, _, rfl, rfl, SqL.of hs3.debts, atI_nat (lI_at (by rw [so.nDebts]; exact hi)), _, rfl, b, CP, dy, _, _, rfl, hp3.obj, TP.cl, TP.nAbove, pF_above _ _ _, _, rfl, la, _, _, _, rfl, rfl, SqL.of hp3.above, atI_nat (lI_at (by rw [po.nAbove]; exact hi)), _, _, rfl, rfl, small_mul (small_lt (so.bDebts _)) (small_lt (po.bAbove _)), _, _, rfl, rfl, ?_⟩
      exact hR' _ H3 s3 rfl
    · intro H2 acc s2 hacc hA2 hRel
      rw [List.length_map] at hacc
      have e := ints_from (f := fun k => lostOne s p ((fallenM s p).getD k 0)) hacc (fun k hk => hRel k (by rw [List.length_map]; exact hk))
      rw [range_map_getD (fallenM s p) 0 (lostOne s p)] at e
      refine ⟨G, (fallenM s p).map (lostOne s p), rfl, SqL.of (by rw [hA2, e]), ?_⟩
      exact q _ (s1.trans s2)
/-! left_unpaid -/
theorem scLeftUnpaid : FnScope ["sheet", "payments", "i"] ["sheet", "payments"] (defScope sLeftUnpaid) := ⟨rfl, rfl, rfl, by decide +kernel, rfl, by decide +kernel, by decide +kernel⟩
theorem sub_bits {x y : Int} {b : Nat} (hx : x.natAbs < 2 ^ b) (hy : y.natAbs < 2 ^ b) : (x - y).natAbs < 2 ^ (b + 1) := by
  rw [Nat.pow_succ]
  generalize 2 ^ b = z at *
  omega
theorem ok_leftUnpaid {f CS CP : Addr} {fd : FuncData} (F : Fun K "left_unpaid" "left_unpaid" sLeftUnpaid f fd) (B : Env mg) (TS : CSheet K mg CS) (TP : CPay K mg CP) :
    FnOk P w K mg base CX0 1 f fd ["sheet", "payments"] (spSum CS CP fun s p => .int (unpaidM s p)) := by
  refine F.ok scLeftUnpaid spSum_len (fun cdv A outer s H vs Q E hr h => ?_)
  obtain ⟨a, b, s, p, rfl, ⟨dx, lo, lw, ld, hs⟩, ⟨dy, la, lf, hp⟩, so, po, q⟩ := h
  refine ⟨_, pss_one (ps_ret (pe_callB (cr_sum rfl) (by rfl) B.sum (by decide +kernel) (pa_cons (pe_lc (own := [("i", 2)]) (g := gName 2) (tt := tYes) rfl scLeftUnpaid.nd
        (pi_range1 rfl B.range (pa_cons (pe_fld (pv 0) rfl) pa_nil))
        (blkOk_by (own := [("i", 2)]) (N := ["sheet", "payments", "i"]) (sc := defScope sLeftUnpaid) (by decide +kernel))
        (fun _ _ _ _ _ => pg_name (i := 2) scLeftUnpaid.nd rfl (Or.inl rfl)) (fun _ _ _ _ _ => pts_nil)
        (fun _ _ _ _ _ => pe_op op_mulW (pe_ix (ix_listK (K := K) rfl) (pe_fldK (K := K) rfl (pv 0) rfl) (pv 2) (fun _ _ => rfl)) (pe_op op_sub (pe_fldK (K := K) rfl (pv 1) rfl) (pe_ix (ix_listK (K := K) rfl) (pe_fldK (K := K) rfl (pv 1) rfl) (pv 2) (fun _ _ => rfl))))) pa_nil))), ?_⟩
  refine ⟨_, rfl, a, CS, dx, _, _, rfl, hs.obj, TS.cl, TS.nParties, sF_parties _ _ _ _, _, rfl, ?_, ?_, fun D hD => ?_⟩
  · omega
  · have := so.n8; omega
  · have en : ((s.n : Int)).toNat = s.n := by omega
    rw [en]
    have n8 := so.n8
    refine lc_rng (n := s.n) (fun j => V.int (unpaidOne s p j)) (by omega) (fun _ => rfl) ?_ ?_
    · intro j hj R hR
      have sD := same_upd (o := .lst ((List.range j).map fun j => V.int (unpaidOne s p j))) hD
      have hs' := hs.mono sD
      have hp' := hp.mono sD
      refine ⟨_, rfl, a, CS, dx, _, _, rfl, hs'.obj, TS.cl, TS.nDebts, sF_debts _ _ _ _, _, rfl, ld, _, _, _, rfl, rfl, SqL.of hs'.debts, atI_nat (lI_at (by rw [so.nDebts]; exact hj)), ?_⟩
      refine ⟨_, rfl, b, CP, dy, _, _, rfl, hp'.obj, TP.cl, TP.nBelow, pF_below _ _ _, _, rfl, b, CP, dy, _, _, rfl, hp'.obj, TP.cl, TP.nAbove, pF_above _ _ _, _, rfl, la, _, _, _, rfl, rfl, SqL.of hp'.above, atI_nat (lI_at (by rw [po.nAbove]; exact hj)), _, _, rfl, rfl, _, _, rfl, rfl, small_mul (small_lt (so.bDebts j)) (small_lt (sub_bits po.bBelow (po.bAbove j))), hR⟩
    · refine ⟨D, (List.range s.n).map (unpaidOne s p), rfl, SqL.of ?_, q _ (same_upd hD)⟩
      rw [upd_same, List.map_map]; rfl
/-! all_paid -/
theorem scAllPaid : FnScope ["sheet"] ["sheet"] (defScope sAllPaid) := ⟨rfl, rfl, rfl, by decide +kernel, rfl, by decide +kernel, by decide +kernel⟩
def spAllPaid (CS CP : Addr) : Sp := fun vs H Q _ => ∃ (a : Addr) (s : SheetM), vs = [.ref a] ∧ SheetAt CS H a s ∧ SheetOk s ∧ ∀ r H', Same H H' → PayAt CP H' r (payFull s) → Q (.ref r) H'
theorem reps (n : Nat) (x : Int) : (List.replicate ((n : Int)).toNat [V.int x]).flatten = lI (List.replicate n x) := by
  have en : ((n : Int)).toNat = n := by omega
  rw [en, rep_flat]
  show _ = List.map V.int _
  rw [List.map_replicate]
theorem ok_allPaid {f f3 CS CP : Addr} {fd fd3 : FuncData} (F : Fun K "all_paid" "all_paid" sAllPaid f fd) (TS : CSheet K mg CS) (TP : CPay K mg CP)
    (M : Mk K CP f3) (G3 : FnOk P w K mg base CX0 1 f3 fd3 ["self", "below", "above", "fell"] (spPayInit CP)) (b3 : Binds K fd3 ["self", "below", "above", "fell"] []) :
    FnOk P w K mg base CX0 3 f fd ["sheet"] (spAllPaid CS CP) := by
  refine F.ok scAllPaid (fun vs H Q E h => ?_) (fun cdv A outer s H vs Q E hr h => ?_)
  · obtain ⟨a, s, rfl, _⟩ := h
    rfl
  · obtain ⟨a, s, rfl, hS, so, q⟩ := h
    obtain ⟨dx, lo, lw, ld, hs⟩ := id hS
    refine ⟨_, pss_one (ps_ret (pe_make M G3 hr rfl TP.here b3 .nil pass0 (pa_cons pe_int (pa_cons (pe_op op_rep (pe_lst (pa_cons pe_int pa_nil)) (pe_fld (pv 0) rfl)) (pa_cons (pe_op op_rep (pe_lst (pa_cons pe_int pa_nil)) (pe_fld (pv 0) rfl)) pa_nil))))), ?_⟩
    have n8 := so.n8
    have en : ((s.n : Int)).toNat = s.n := by omega
    refine ⟨(by show 1 ≤ sizeLine; decide), fun z hz => ?_⟩
    have sz := same_upd (o := .lst [V.int 1]) hz
    refine ⟨_, rfl, a, CS, dx, _, _, rfl, (hs.mono sz).obj, TS.cl, TS.nParties, sF_parties _ _ _ _, z, _, _, rfl, rfl, upd_same, (by omega), (by omega), ?_, fun l1 hl1 => ?_⟩
    · rw [en]
      exact Nat.le_of_lt (small1000 (by simp; omega))
    rw [reps]
    have s1 := sz.trans (same_upd (o := .lst (lI (List.replicate s.n 1))) hl1)
    have e1 : (upd (upd H z (.lst [V.int 1])) l1 (.lst (lI (List.replicate s.n 1)))) l1 = some (.lst (lI (List.replicate s.n 1))) := upd_same
    generalize upd (upd H z (.lst [V.int 1])) l1 (.lst (lI (List.replicate s.n 1))) = H1 at s1 e1 ⊢
    refine ⟨(by show 1 ≤ sizeLine; decide), fun y hy => ?_⟩
    have sy := same_upd (o := .lst [V.int 0]) hy
    refine ⟨_, rfl, a, CS, dx, _, _, rfl, ((hs.mono s1).mono sy).obj, TS.cl, TS.nParties, sF_parties _ _ _ _, y, _, _, rfl, rfl, upd_same, (by omega), (by omega), ?_, fun l2 hl2 => ?_⟩
    · rw [en]
      exact Nat.le_of_lt (small1000 (by simp; omega))
    rw [reps]
    have s2 := sy.trans (same_upd (o := .lst (lI (List.replicate s.n 0))) hl2)
    have e2 : (upd (upd H1 y (.lst [V.int 0])) l2 (.lst (lI (List.replicate s.n 0)))) l2 = some (.lst (lI (List.replicate s.n 0))) := upd_same
    generalize upd (upd H1 y (.lst [V.int 0])) l2 (.lst (lI (List.replicate s.n 0))) = H2 at s2 e2 ⊢
    intro v dv nv ndv nev
    refine ⟨H2, v, dv, l1, l2, payFull s, rfl, ?_, nv, upd_same, s2 _ _ e1, e2, fun H5 s5 hP => ⟨rfl, q v H5 ((s1.trans s2).trans s5) hP⟩⟩
    exact (same_upd ndv).trans (fun c o e => by
      have e' : c ≠ v := by
        intro e2; subst e2
        rw [upd_ne (fun e3 => nev e3.symm)] at e
        rw [nv] at e; cases e
      rw [upd_ne e']; exact e)
/-! greatest_payments_if_safe -/
theorem scIfSafe : FnScope ["sheet", "i", "j"] ["sheet", "i"] (defScope sIfSafe) := ⟨rfl, rfl, rfl, by decide +kernel, rfl, by decide +kernel, by decide +kernel⟩
def spIfSafe (CS CP : Addr) : Sp := fun vs H Q _ => ∃ (a : Addr) (i : Nat) (m : HouseM), vs = [.ref a, .int i] ∧ SheetAt CS H a (sheetOf m) ∧ HouseOk m ∧
  ∀ r H', Same H H' → PayAt CP H' r (heldP m i) → Q (.ref r) H'
theorem ok_ifSafe {f f1 f2 CS CP : Addr} {fd fd1 fd2 : FuncData} (F : Fun K "greatest_payments_if_safe" "greatest_payments_if_safe" sIfSafe f fd) (B : Env mg) (TS : CSheet K mg CS)
    (D1 : Def P w K mg base 6 "sink" ["sheet", "safe", "stands"] (spSink P w K mg base CS CP) f1 fd1) (S2 : Stands P w K mg base CS CP canM f2 fd2) (g2 : mg "can_pay" = some (.ref f2)) :
    FnOk P w K mg base CX0 7 f fd ["sheet", "i"] (spIfSafe CS CP) := by
  refine F.ok scIfSafe (fun vs H Q E h => ?_) (fun cdv A outer s H vs Q E hr h => ?_)
  · obtain ⟨a, i, m, rfl, _⟩ := h
    rfl
  · obtain ⟨a, i, m, rfl, hS, ok, q⟩ := h
    obtain ⟨dx, lo, lw, ld, hs⟩ := id hS
    refine ⟨_, pss_one (ps_ret (pe_call D1.ok hr rfl D1.here D1.kp D1.b .nil pass0 (pa_cons (pv 0) (pa_cons (pe_lc (own := [("j", 2)]) (g := gName 2) (tt := tYes) rfl scIfSafe.nd
        (pi_range1 rfl B.range (pa_cons (pe_fld (pv 0) rfl) pa_nil))
        (blkOk_by (own := [("j", 2)]) (N := ["sheet", "i", "j"]) (sc := defScope sIfSafe) (by decide +kernel))
        (fun _ _ _ _ _ => pg_name (i := 2) scIfSafe.nd rfl (Or.inl rfl)) (fun _ _ _ _ _ => pts_nil)
        (fun _ _ _ _ _ => pe_cmpR op_eq (pv 2) (pv 1) (nomark _))) (pa_cons (pe_glob (v := .ref f2) rfl g2 rfl) pa_nil))))), ?_⟩
    have n8 := ok.n8
    have en : ((m.n : Int)).toNat = m.n := by omega
    refine ⟨_, rfl, _, rfl, a, CS, dx, _, _, rfl, hs.obj, TS.cl, TS.nParties, sF_parties _ _ _ _, _, rfl, (by show -(2 ^ 62 : Int) ≤ (m.n : Int); omega), (by show (m.n : Int) < 2 ^ 62; omega), fun D hD => ?_⟩
    have en2 : (((sheetOf m).n : Int)).toNat = m.n := en
    rw [en2]
    refine lc_rng (n := m.n) (fun j => V.bl (decide (j = i))) (by omega) (fun _ => rfl) ?_ ?_
    · intro j hj R hR
      refine ⟨_, rfl, _, rfl, rfl, ?_⟩
      have e : decide ((V.int (j : Int)) = V.int (i : Int)) = decide (j = i) := decide_eq_decide.2 ⟨fun h => by have := V.int.inj h; omega, fun h => by rw [h]⟩
      show R (.bl (decide ((V.int (j : Int)) = V.int (i : Int)))) _
      rw [e]
      exact hR
    · have eb : (List.range m.n).map (fun j => V.bl (decide (j = i))) = bL ((List.range m.n).map fun j => decide (j = i)) := by
        show _ = List.map V.bl _
        rw [List.map_map]; rfl
      rw [eb]
      have sD := same_upd (o := .lst (bL ((List.range m.n).map fun j => decide (j = i)))) hD
      refine ⟨a, D, f2, fd2, canM, sheetOf m, (List.range m.n).map fun j => decide (j = i), _, rfl, S2, hS.mono sD, ok.sheetOk, upd_same, by simp; rfl, ok.wayCan _, fun r H' s' hP => ?_⟩
      have e2 : sinkAll (sheetOf m) (fun k => ((List.range m.n).map fun j => decide (j = i)).getD k false) canM = sinkAll (sheetOf m) (heldS (some i)) canM := sinkAll_ext (fun k hk => by
        have hk : k < m.n := hk
        rw [getD_map_range, if_pos hk]
        exact decide_eq_decide.2 ⟨fun h => by rw [h], fun h => (Option.some.inj h).symm⟩)
      rw [e2] at hP
      exact q r H' (sD.trans s') hP
end
end Wq

namespace Wq
open PySem PySem.Spec PyProof.Rows L2 Wp
theorem made {H : Hp} {x dx C : Addr} (nx : H x = none) (nd : H dx = none) (ne : dx ≠ x) : Same H (upd (upd H dx (.own x)) x (.ins C dx [])) := (same_upd nd).trans (fun b o e => by
  have e2 : b ≠ x := by
    intro e3; subst e3
    rw [upd_ne (fun e4 => ne e4.symm), nx] at e; cases e
  rw [upd_ne e2]; exact e)
section
variable {P : Program} {w : World} {K : PySem.W.Frag} {mg : Str → Option Value} {base : Heap}
/-! sheet_without -/
theorem scSheetWithout : FnScope ["house", "i", "sheet"] ["house", "i"] (defScope sSheetWithout) := ⟨rfl, rfl, rfl, by decide +kernel, rfl, by decide +kernel, by decide +kernel⟩
def spSheetWithout (CH CS : Addr) : Sp := fun vs H Q _ => ∃ (h : Addr) (i : Nat) (m : HouseM), vs = [.ref h, .int i] ∧ HouseAt CH H h m ∧ HouseOk m ∧ i < m.n ∧
  ∀ r H', Same H H' → SheetAt CS H' r (sheetOf (wipedM m i)) → Q (.ref r) H'
theorem ok_sheetWithout {f f1 CH CS : Addr} {fd fd1 : FuncData} (F : Fun K "sheet_without" "sheet_without" sSheetWithout f fd) (TS : CSheet K mg CS)
    (M : Mk K CS f1) (G1 : FnOk P w K mg base CX0 4 f1 fd1 ["self", "house"] (spSheetInit CS CH)) (b1 : Binds K fd1 ["self", "house"] []) :
    FnOk P w K mg base CX0 6 f fd ["house", "i"] (spSheetWithout CH CS) := by
  refine F.ok scSheetWithout (fun vs H Q E h => ?_) (fun cdv A outer s H vs Q E hr h => ?_)
  · obtain ⟨h, i, m, rfl, _⟩ := h
    rfl
  · obtain ⟨h, i, m, rfl, hH, ok, hi, q⟩ := h
    refine ⟨_, pss_cons (ps_set (i := 2) scSheetWithout.nd rfl (Or.inl rfl) (pe_make M G1 hr rfl TS.here b1 .nil pass0 (pa_cons (pv 0) pa_nil)))
      (pss_cons (ps_asg pe_int (pg_sub (pe_fld (pv 2) rfl) (pv 1) set_list))
      (pss_cons (ps_asg (pe_op op_rep (pe_lst (pa_cons pe_int pa_nil)) (pe_fld (pv 2) rfl)) (pg_sub (pe_fld (pv 2) rfl) (pv 1) set_list))
      (pss_cons (ps_asg pe_int (pg_sub (pe_fld (pv 2) rfl) (pv 1) set_list))
      (pss_one (ps_ret (pv 2)))))), ?_⟩
    have n1 := ok.n1
    have n8 := ok.n8
    have so := ok.sheetOk
    have en : ((m.n : Int)).toNat = m.n := by omega
    refine ⟨_, rfl, ?_⟩
    intro x dx nx nd ne
    refine ⟨H, x, dx, h, m, rfl, made nx nd ne, nx, upd_same, hH, ok, fun H1 s1 hS => ⟨rfl, ?_⟩⟩
    obtain ⟨dz, lo, lw, ld, ps, hl⟩ := hS
    have hs := hl.isIn
    obtain ⟨ps', g1, g2, g3⟩ := hs.owed
    have eps : ps' = ps := by
      have e1 := g1.symm.trans hl.rows
      have e2 : ps'.map V.ref = ps.map V.ref := HO.lst.inj (Option.some.inj e1)
      refine List.ext_getElem ?_ (fun k h1 h2 => ?_)
      · have := congrArg List.length e2
        simpa using this
      · have e3 : (ps'.map V.ref)[k]? = (ps.map V.ref)[k]? := by rw [e2]
        rw [refs_at h1, refs_at h2, getD_lt h1, getD_lt h2] at e3
        exact V.ref.inj (Option.some.inj e3)
    subst eps
    have hpl : ps'.length = m.n := by rw [g2]; exact so.nOwed
    have lwlo : lw ≠ lo := ne_of g1 hs.own (refs_not_ints (by omega))
    have lwld : lw ≠ ld := ne_of g1 hs.debts (refs_not_ints (by omega))
    have xlo : x ≠ lo := ne_of hs.obj hs.own (by intro z; cases z)
    have xlw : x ≠ lw := ne_of hs.obj g1 (by intro z; cases z)
    have xld : x ≠ ld := ne_of hs.obj hs.debts (by intro z; cases z)
    -- sheet.own[i] = 0
    refine ⟨_, rfl, x, CS, dz, _, _, rfl, hs.obj, TS.cl, TS.nOwn, sF_own _ _ _ _, _, rfl, lo, _, _, _, rfl, rfl, hs.own, ixN_nat (by rw [List.length_map, so.nOwn]; exact hi), ?_⟩
    rw [lI_set]
    have a2 : (upd H1 lo (.lst (lI ((sheetOf m).own.set i 0)))) x = some (.ins CS dz (sheetF (sheetOf m) lo lw ld)) := by rw [upd_ne xlo]; exact hs.obj
    have b2 : (upd H1 lo (.lst (lI ((sheetOf m).own.set i 0)))) lo = some (.lst (lI ((sheetOf m).own.set i 0))) := upd_same
    have c2 : (upd H1 lo (.lst (lI ((sheetOf m).own.set i 0)))) lw = some (.lst (ps'.map V.ref)) := by rw [upd_ne lwlo]; exact g1
    have d2 : (upd H1 lo (.lst (lI ((sheetOf m).own.set i 0)))) ld = some (.lst (lI (sheetOf m).debts)) := by rw [upd_ne (fun e => hl.ownDebts e.symm)]; exact hs.debts
    have r2 : ∀ k, k < m.n → (upd H1 lo (.lst (lI ((sheetOf m).own.set i 0)))) (ps'.getD k 0) = some (.lst (lI ((sheetOf m).owed.getD k []))) := fun k hk => by
      rw [upd_ne (fun e => hl.ownRows (by rw [← e, getD_lt (by omega)]; exact List.getElem_mem _))]
      exact g3 k (by rw [so.nOwed]; exact hk)
    have s2 : Same H (upd H1 lo (.lst (lI ((sheetOf m).own.set i 0)))) := same_but hl.nOwn s1
    generalize upd H1 lo (.lst (lI ((sheetOf m).own.set i 0))) = H2 at a2 b2 c2 d2 r2 s2 ⊢
    -- sheet.owed[i] = [0] * sheet.parties
    refine ⟨(by show 1 ≤ sizeLine; decide), fun z hz => ?_⟩
    have sz := same_upd (o := .lst [V.int 0]) hz
    refine ⟨_, rfl, x, CS, dz, _, _, rfl, sz _ _ a2, TS.cl, TS.nParties, sF_parties _ _ _ _, z, _, _, rfl, rfl, upd_same, (by show -(2 ^ 63 : Int) ≤ (m.n : Int); omega), (by show (m.n : Int) < 2 ^ 63; omega), ?_, fun l hl2 => ?_⟩
    · show [V.int 0].length * ((m.n : Int)).toNat ≤ sizeLine
      rw [en]
      exact Nat.le_of_lt (small1000 (by simp; omega))
    rw [reps]
    have s3 := sz.trans (same_upd (o := .lst (lI (List.replicate (sheetOf m).n 0))) hl2)
    have e3 : (upd (upd H2 z (.lst [V.int 0])) l (.lst (lI (List.replicate (sheetOf m).n 0)))) l = some (.lst (lI (List.replicate (sheetOf m).n 0))) := upd_same
    have nl : H2 l = none := sz.free hl2
    generalize upd (upd H2 z (.lst [V.int 0])) l (.lst (lI (List.replicate (sheetOf m).n 0))) = H3 at s3 e3 ⊢
    have llw : l ≠ lw := fun e => by rw [e, c2] at nl; cases nl
    have lld : l ≠ ld := fun e => by rw [e, d2] at nl; cases nl
    refine ⟨_, rfl, x, CS, dz, _, _, rfl, s3 _ _ a2, TS.cl, TS.nOwed, sF_owed _ _ _ _, _, rfl, lw, _, _, _, rfl, rfl, s3 _ _ c2, ixN_nat (by rw [List.length_map]; omega), ?_⟩
    have a4 : (upd H3 lw (.lst ((ps'.map V.ref).set i (.ref l)))) x = some (.ins CS dz (sheetF (sheetOf m) lo lw ld)) := by rw [upd_ne xlw]; exact s3 _ _ a2
    have b4 : (upd H3 lw (.lst ((ps'.map V.ref).set i (.ref l)))) lo = some (.lst (lI ((sheetOf m).own.set i 0))) := by rw [upd_ne (fun e => lwlo e.symm)]; exact s3 _ _ b2
    have c4 : (upd H3 lw (.lst ((ps'.map V.ref).set i (.ref l)))) lw = some (.lst ((ps'.set i l).map V.ref)) := by rw [upd_same, List.map_set]
    have d4 : (upd H3 lw (.lst ((ps'.map V.ref).set i (.ref l)))) ld = some (.lst (lI (sheetOf m).debts)) := by rw [upd_ne (fun e => lwld e.symm)]; exact s3 _ _ d2
    have r4 : ∀ k, k < m.n → (upd H3 lw (.lst ((ps'.map V.ref).set i (.ref l)))) ((ps'.set i l).getD k 0) = some (.lst (lI (((sheetOf m).owed.set i (List.replicate (sheetOf m).n 0)).getD k []))) := fun k hk => by
      rw [getD_set, getD_set]
      by_cases e : i = k
      · subst e
        rw [if_pos ⟨rfl, by omega⟩, if_pos ⟨rfl, by rw [so.nOwed]; exact hi⟩, upd_ne llw]
        exact e3
      · rw [if_neg (fun h => e h.1), if_neg (fun h => e h.1)]
        have g := s3 _ _ (r2 k hk)
        rw [upd_ne (fun e5 => ne_of (s3 _ _ c2) g (refs_not_ints (by omega)) e5.symm)]
        exact g
    have n4 : ld ∉ ps'.set i l := fun hm => by
      rcases mem_set hm with h | h
      · exact hl.debtsRows h
      · exact lld h.symm
    have s4 : Same H (upd H3 lw (.lst ((ps'.map V.ref).set i (.ref l)))) := same_but hl.nOwed (s2.trans s3)
    generalize upd H3 lw (.lst ((ps'.map V.ref).set i (.ref l))) = H4 at a4 b4 c4 d4 r4 s4 ⊢
    -- sheet.debts[i] = 0
    refine ⟨_, rfl, x, CS, dz, _, _, rfl, a4, TS.cl, TS.nDebts, sF_debts _ _ _ _, _, rfl, ld, _, _, _, rfl, rfl, d4, ixN_nat (by rw [List.length_map, so.nDebts]; exact hi), ?_⟩
    rw [lI_set]
    refine ⟨_, rfl, q x _ (same_but hl.nDebts s4) ?_⟩
    rw [ok.wiped_sheet hi]
    refine ⟨dz, lo, lw, ld, ?_, ?_, ⟨ps'.set i l, ?_, ?_, fun k hk => ?_⟩, ?_⟩
    · rw [upd_ne xld]; exact a4
    · rw [upd_ne hl.ownDebts]; exact b4
    · rw [upd_ne lwld]; exact c4
    · show (ps'.set i l).length = ((sheetOf m).owed.set i _).length
      rw [List.length_set, List.length_set]; exact g2
    · have hk : k < m.n := by
        have hk : k < ((sheetOf m).owed.set i (List.replicate (sheetOf m).n 0)).length := hk
        rw [List.length_set, so.nOwed] at hk
        exact hk
      rw [upd_ne (fun e => n4 (by rw [← e, getD_lt (by rw [List.length_set]; omega)]; exact List.getElem_mem _))]
      exact r4 k hk
    · exact upd_same
end
end Wq

namespace Wq
open PySem PySem.Spec PyProof.Rows L2 Wp
abbrev sAbout : Stmt := top 50
abbrev sPays : Stmt := top 56
abbrev sNeed : Stmt := top 57
abbrev sNeeds : Stmt := top 58
abbrev sGone : Stmt := top 59
abbrev sLost : Stmt := top 60
theorem low_call {a b : Int} {H : Hp} {Q : VK} (ha : 0 ≤ a) (hb : 0 < b) (sa : Small a) (sb : Small b) (k : ∀ L, H L = none → Q (.ref L) (upd H L (.lst (lI (lowI a b))))) : spLowest [.int a, .int b] H Q E0 := by
  have e1 : (a.toNat : Int) = a := Int.toNat_of_nonneg ha
  have e2 : (b.toNat : Int) = b := Int.toNat_of_nonneg (Int.le_of_lt hb)
  exact ⟨a.toNat, b.toNat, by rw [e1, e2], by omega, by rw [e1]; exact sa, by rw [e2]; exact sb, k⟩
theorem lowI_len (a b : Int) : (lowI a b).length = 2 := rfl
theorem flat2_len {f : Nat → List Int} (h : ∀ i, (f i).length = 2) : ∀ n, ((List.range n).flatMap f).length = 2 * n
  | 0 => rfl
  | n + 1 => by
    rw [List.range_succ, List.flatMap_append, List.length_append, flat2_len h n, List.flatMap_singleton, h]
    omega
theorem lI_app (a b : List Int) : lI a ++ lI b = lI (a ++ b) := (List.map_append ..).symm
theorem lack_bits {s : SheetM} {p : PayM} (so : SheetOk s) (po : PayOk s p) (i : Nat) : (lackM s p i).natAbs < 2 ^ 12627 := by
  have h := surplus_bits so po i
  unfold lackM
  generalize 2 ^ 12627 = z at *
  omega
theorem up_bits {x : Int} {b c : Nat} (h : x.natAbs < 2 ^ b) (hb : b ≤ c) : x.natAbs < 2 ^ c := Nat.lt_of_lt_of_le h (Nat.pow_le_pow_right (by decide) hb)
theorem sum_small {l : List Int} (hl : l.length ≤ 8) (h : ∀ x ∈ l, x.natAbs < 2 ^ 12630) : Small l.sum := by
  have h1 := sum_bits l h
  refine small_bits (b := 12634) (Nat.lt_of_le_of_lt h1 ?_) (by decide)
  have e1 : (2 : Nat) ^ 12634 = 2 ^ 4 * 2 ^ 12630 := by rw [← Nat.pow_add]
  rw [e1]
  refine Nat.mul_lt_mul_of_pos_right ?_ (Nat.two_pow_pos _)
  exact Nat.lt_of_le_of_lt hl (by decide)
theorem lost_small {s : SheetM} {p : PayM} (so : SheetOk s) (po : PayOk s p) : Small (lostM s p) := by
  have n8 := so.n8
  refine sum_small ?_ (fun x hx => ?_)
  · rw [List.length_map]
    unfold fallenM
    exact Nat.le_trans (List.length_filter_le _ _) (by simpa using n8)
  · obtain ⟨i, _, e⟩ := List.mem_map.1 hx
    rw [← e]
    unfold lostOne meansM
    have h1 := up_bits (c := 12627) (bits_mul (so.bOwn i) po.bBelow) (by decide)
    have h2 := up_bits (c := 12627) (paidTo_bits so po i) (by decide)
    have h3 := up_bits (c := 12627) (bits_mul (so.bDebts i) (po.bAbove i)) (by decide)
    have e1 : (2 : Nat) ^ 12630 = 2 ^ 3 * 2 ^ 12627 := by rw [← Nat.pow_add]
    rw [e1]
    generalize 2 ^ 12627 = z at *
    omega
theorem unpaid_small {s : SheetM} {p : PayM} (so : SheetOk s) (po : PayOk s p) : Small (unpaidM s p) := by
  have n8 := so.n8
  refine sum_small (by simpa using n8) (fun x hx => ?_)
  obtain ⟨i, _, e⟩ := List.mem_map.1 hx
  rw [← e]
  exact up_bits (bits_mul (so.bDebts i) (sub_bits po.bBelow (po.bAbove i))) (by decide)
theorem Told.mono {C : Addr} {H H1 : Hp} {Q : VK} {h : Addr} {r : HouseM × List Int} (t : Told C H Q h r) (s : Same H H1) : Told C H1 Q h r := fun l H' k n hH hl => t l H' ((Same.keep s).trans k) (s.free n) hH hl
section
variable {P : Program} {w : World} {K : PySem.W.Frag} {mg : Str → Option Value} {base : Heap}
/-- a call about one party that is there, which only tells -/
def spAsk (C : Addr) (g : HouseM → Nat → HouseM × List Int) : Sp := fun vs H Q _ => ∃ (h : Addr) (i : Nat) (m : HouseM), vs = [.ref h, .int i] ∧ HouseAt C H h m ∧ HouseOk m ∧ i < m.n ∧ Told C H Q h (g m i)
theorem spAsk_len {C : Addr} {g : HouseM → Nat → HouseM × List Int} (vs : List V) (H : Hp) (Q : VK) (E : XK) (h : spAsk C g vs H Q E) : vs.length = 2 := by
  obtain ⟨h, i, m, rfl, _⟩ := h
  rfl
theorem spTell_len {C : Addr} {g : HouseM → HouseM × List Int} (vs : List V) (H : Hp) (Q : VK) (E : XK) (h : spTell C g vs H Q E) : vs.length = 1 := by
  obtain ⟨h, m, rfl, _⟩ := h
  rfl
/-! answer_pays -/
theorem scPays : FnScope ["house", "i", "sheet", "payments", "told", "owed"] ["house", "i"] (defScope sPays) := ⟨rfl, rfl, rfl, by decide +kernel, rfl, by decide +kernel, by decide +kernel⟩
theorem ok_pays {f f1 f2 f3 C CS CP : Addr} {fd fd1 fd2 fd3 : FuncData} (F : Fun K "answer_pays" "answer_pays" sPays f fd) (TS : CSheet K mg CS) (TP : CPay K mg CP)
    (M : Mk K CS f1) (G1 : FnOk P w K mg base CX0 4 f1 fd1 ["self", "house"] (spSheetInit CS C)) (b1 : Binds K fd1 ["self", "house"] [])
    (D2 : Def P w K mg base 7 "greatest_payments" ["sheet"] (spGreatest CS CP) f2 fd2) (D3 : Def P w K mg base 2 "lowest" ["above", "below"] spLowest f3 fd3) :
    FnOk P w K mg base CX0 8 f fd ["house", "i"] (spAsk C paysA) := by
  refine F.ok scPays spAsk_len (fun cdv A outer s H vs Q E hr h => ?_)
  obtain ⟨h, i, m, rfl, hH, ok, hi, q⟩ := h
  have hr2 : Room 2 _ := hr.mono (by decide)
  have hr5 : Room 5 _ := hr.mono (by decide)
  refine ⟨_, pss_cons (ps_set (i := 2) scPays.nd rfl (Or.inl rfl) (pe_make M G1 hr5 rfl TS.here b1 .nil pass0 (pa_cons (pv 0) pa_nil)))
    (pss_cons (ps_set (i := 3) scPays.nd rfl (Or.inl rfl) (pe_call D2.ok hr rfl D2.here D2.kp D2.b .nil pass0 (pa_cons (pv 2) pa_nil)))
    (pss_cons (ps_set (i := 4) scPays.nd rfl (Or.inl rfl) (pe_lst (pa_cons (pe_fld (pv 2) rfl) pa_nil)))
    (pss_cons (ps_for PassesOwn.never rfl (pi_list (pe_ix ix_list (pe_fld (pv 2) rfl) (pv 1) (fun _ _ => rfl))) (pg_name (i := 5) scPays.nd rfl (Or.inl rfl))
      (pss_one (ps_expr (pe_bm PySem.F.plainAttrs_list PySem.F.slot_list_extend PySem.F.type_list_extend mt_extend (pv 4)
        (pa_cons (pe_call D3.ok hr2 rfl D3.here D3.kp D3.b .nil pass0 (pa_cons (pe_op op_mulW (pv 5) (pe_ix ix_list (pe_fld (pv 3) rfl) (pv 1) (fun _ _ => rfl))) (pa_cons (pe_op op_mulW (pe_fld (pv 2) rfl) (pe_fld (pv 3) rfl)) pa_nil))) pa_nil)))))
    (pss_one (ps_ret (pv 4)))))), ?_⟩
  have n8 := ok.n8
  have so := ok.sheetOk
  have g := ok.great
  have po := g.rel.ok
  refine ⟨_, rfl, ?_⟩
  intro x dx nx nd ne
  refine ⟨H, x, dx, h, m, rfl, made nx nd ne, nx, upd_same, hH, ok, fun H1 s1 hS0 => ⟨rfl, ?_⟩⟩
  have hS := hS0.at
  refine ⟨_, rfl, x, m, rfl, hS, ok, fun b H2 s2 hP => ?_⟩
  have hP : PayAt CP H2 b (greatestP m) := hP
  obtain ⟨dz, lo, lw, ld, hs⟩ := hS.mono s2
  obtain ⟨dy, la, lf, hp⟩ := id hP
  refine ⟨_, rfl, x, CS, dz, _, _, rfl, hs.obj, TS.cl, TS.nParties, sF_parties _ _ _ _, (by show 1 ≤ sizeLine; decide), fun T hT => ?_⟩
  have sT := same_upd (o := .lst [V.int (sheetOf m).n]) hT
  obtain ⟨ps, g1, g2, g3⟩ := hs.owed
  have hio : i < (sheetOf m).owed.length := by rw [so.nOwed]; exact hi
  have hrow : ((sheetOf m).owed.getD i []).length = m.n := so.nRow i hi
  have b0 : 0 < (sheetOf m).unit * (greatestP m).below := Int.mul_pos so.unit0 po.below0
  have sb : Small ((sheetOf m).unit * (greatestP m).below) := small_lt (bits_mul so.bUnit po.bBelow)
  refine ⟨_, rfl, x, CS, dz, _, _, rfl, (hs.mono sT).obj, TS.cl, TS.nOwed, sF_owed _ _ _ _, _, rfl, lw, _, _, _, rfl, rfl, SqL.of (sT _ _ g1), atI_nat (refs_at (by omega)), _, rfl, ⟨_, SqL.of (sT _ _ (g3 i hio))⟩, ?_⟩
  refine for_list (K := K) (a := ps.getD i 0) (xs := lI ((sheetOf m).owed.getD i [])) (fun j σ H' => ∃ x5, σ = [some (.ref h), some (.int i), some (.ref x), some (.ref b), some (.ref T), x5] ∧ Same H2 H' ∧ H' T = some (.lst (lI ((m.n : Int) :: (List.range j).flatMap (paysOne m i)))))
    ⟨none, rfl, sT, upd_same⟩ (fun j σ H' _ ⟨_, _, k, _⟩ => SqL.of (k _ _ (g3 i hio))) ?_ ?_
  · rintro j y σ H' hy ⟨x5, rfl, s3, hA⟩
    have hj : j < ((sheetOf m).owed.getD i []).length := by
      have := (List.getElem?_eq_some_iff.mp hy).1
      rwa [List.length_map] at this
    rw [lI_at hj] at hy
    obtain rfl := Option.some.inj hy
    have hj : j < m.n := by omega
    have hs3 := hs.mono s3
    have hp3 := hp.mono s3
    have hlen : (lI ((m.n : Int) :: (List.range j).flatMap (paysOne m i))).length = 1 + 2 * j := by
      rw [List.length_map, List.length_cons, flat2_len (fun _ => rfl)]; omega
    refine ⟨_, rfl, .inl ⟨rfl, _, SqL.of hA⟩, _, rfl, _, rfl, b, CP, dy, _, _, rfl, hp3.obj, TP.cl, TP.nAbove, pF_above _ _ _, _, rfl, la, _, _, _, rfl, rfl, SqL.of hp3.above, atI_nat (lI_at (by rw [po.nAbove]; exact hi)), _, _, rfl, rfl, small_mul (small_lt (so.bOwed i j)) (small_lt (po.bAbove i)), ?_⟩
    refine ⟨_, rfl, x, CS, dz, _, _, rfl, hs3.obj, TS.cl, TS.nUnit, sF_unit _ _ _ _, _, rfl, b, CP, dy, _, _, rfl, hp3.obj, TP.cl, TP.nBelow, pF_below _ _ _, _, _, rfl, rfl, small_mul (small_lt so.bUnit) (small_lt po.bBelow), ?_⟩
    unfold tNil
    refine low_call (a := ((sheetOf m).owed.getD i []).getD j 0 * (greatestP m).above.getD i 0) (ok.pays_nn hi hj) b0 (small_lt (bits_mul (so.bOwed i j) (po.bAbove i))) sb (fun L hL => ?_)
    have sL := same_upd (o := .lst (lI (paysOne m i j))) hL
    refine ⟨T, L, _, _, rfl, rfl, sL _ _ hA, upd_same, ?_, _, rfl, same_but hT (s3.trans sL), ?_⟩
    · rw [hlen]
      exact Nat.le_of_lt (small1000 (by simp [lowI]; omega))
    · rw [upd_same]
      show some (HO.lst (lI _ ++ lI (paysOne m i j))) = _
      rw [lI_app, List.range_succ, List.flatMap_append, List.flatMap_singleton, List.cons_append]
  · rintro σ H' ⟨x5, rfl, s3, hA⟩
    rw [List.length_map, hrow] at hA
    have sA := (s1.trans s2).trans s3
    exact ⟨_, rfl, q T H' (Same.keep sA) ((s1.trans s2).free hT) (hH.mono sA) hA⟩
/-! answer_need -/
theorem scNeed : FnScope ["house", "i", "sheet", "payments"] ["house", "i"] (defScope sNeed) := ⟨rfl, rfl, rfl, by decide +kernel, rfl, by decide +kernel, by decide +kernel⟩
theorem ok_need {f f1 f2 f3 f4 C CS CP : Addr} {fd fd1 fd2 fd3 fd4 : FuncData} (F : Fun K "answer_need" "answer_need" sNeed f fd) (TS : CSheet K mg CS) (TP : CPay K mg CP)
    (M : Mk K CS f1) (G1 : FnOk P w K mg base CX0 4 f1 fd1 ["self", "house"] (spSheetInit CS C)) (b1 : Binds K fd1 ["self", "house"] [])
    (D2 : Def P w K mg base 7 "greatest_payments_if_safe" ["sheet", "i"] (spIfSafe CS CP) f2 fd2) (D3 : Def P w K mg base 2 "lowest" ["above", "below"] spLowest f3 fd3)
    (D4 : Def P w K mg base 4 "lack" ["sheet", "payments", "i"] (spRead CS CP fun s p i => .int (lackM s p i)) f4 fd4) :
    FnOk P w K mg base CX0 8 f fd ["house", "i"] (spAsk C needA) := by
  refine F.ok scNeed spAsk_len (fun cdv A outer s H vs Q E hr h => ?_)
  obtain ⟨h, i, m, rfl, hH, ok, hi, q⟩ := h
  have hr2 : Room 2 _ := hr.mono (by decide)
  have hr4 : Room 4 _ := hr.mono (by decide)
  have hr5 : Room 5 _ := hr.mono (by decide)
  refine ⟨_, pss_cons (ps_set (i := 2) scNeed.nd rfl (Or.inl rfl) (pe_make M G1 hr5 rfl TS.here b1 .nil pass0 (pa_cons (pv 0) pa_nil)))
    (pss_cons (ps_set (i := 3) scNeed.nd rfl (Or.inl rfl) (pe_call D2.ok hr rfl D2.here D2.kp D2.b .nil pass0 (pa_cons (pv 2) (pa_cons (pv 1) pa_nil))))
    (pss_one (ps_ret (pe_call D3.ok hr2 rfl D3.here D3.kp D3.b .nil pass0 (pa_cons (pe_call D4.ok hr4 rfl D4.here D4.kp D4.b .nil pass0 (pa_cons (pv 2) (pa_cons (pv 3) (pa_cons (pv 1) pa_nil)))) (pa_cons (pe_op op_mulW (pe_fld (pv 2) rfl) (pe_fld (pv 3) rfl)) pa_nil)))))), ?_⟩
  have so := ok.sheetOk
  have po := (ok.heldRel i).ok
  refine ⟨_, rfl, ?_⟩
  intro x dx nx nd ne
  refine ⟨H, x, dx, h, m, rfl, made nx nd ne, nx, upd_same, hH, ok, fun H1 s1 hS0 => ⟨rfl, ?_⟩⟩
  have hS := hS0.at
  refine ⟨_, rfl, _, rfl, x, i, m, rfl, hS, ok, fun b H2 s2 hP => ?_⟩
  refine ⟨_, rfl, _, rfl, _, rfl, x, b, i, sheetOf m, heldP m i, rfl, hS.mono s2, hP, so, po, hi, fun H3 s3 => ?_⟩
  obtain ⟨dz, lo, lw, ld, hs⟩ := (hS.mono s2).mono s3
  obtain ⟨dy, la, lf, hp⟩ := hP.mono s3
  refine ⟨_, rfl, x, CS, dz, _, _, rfl, hs.obj, TS.cl, TS.nUnit, sF_unit _ _ _ _, _, rfl, b, CP, dy, _, _, rfl, hp.obj, TP.cl, TP.nBelow, pF_below _ _ _, _, _, rfl, rfl, small_mul (small_lt so.bUnit) (small_lt po.bBelow), ?_⟩
  refine low_call (by unfold lackM; omega) (Int.mul_pos so.unit0 po.below0) (small_lt (lack_bits so po i)) (small_lt (bits_mul so.bUnit po.bBelow)) (fun L hL => ?_)
  have sA := (s1.trans s2).trans s3
  exact q L _ (Same.keep (sA.trans (same_upd hL))) (sA.free hL) (hH.mono (sA.trans (same_upd hL))) upd_same
/-! answer_needs -/
theorem scNeeds : FnScope ["house", "sheet", "payments", "told", "i"] ["house"] (defScope sNeeds) := ⟨rfl, rfl, rfl, by decide +kernel, rfl, by decide +kernel, by decide +kernel⟩
theorem ok_needs {f f1 f2 f3 f4 C CS CP : Addr} {fd fd1 fd2 fd3 fd4 : FuncData} (F : Fun K "answer_needs" "answer_needs" sNeeds f fd) (B : Env mg) (TS : CSheet K mg CS) (TP : CPay K mg CP)
    (M : Mk K CS f1) (G1 : FnOk P w K mg base CX0 4 f1 fd1 ["self", "house"] (spSheetInit CS C)) (b1 : Binds K fd1 ["self", "house"] [])
    (D2 : Def P w K mg base 3 "all_paid" ["sheet"] (spAllPaid CS CP) f2 fd2) (D3 : Def P w K mg base 2 "lowest" ["above", "below"] spLowest f3 fd3)
    (D4 : Def P w K mg base 4 "lack" ["sheet", "payments", "i"] (spRead CS CP fun s p i => .int (lackM s p i)) f4 fd4) :
    FnOk P w K mg base CX0 8 f fd ["house"] (spTell C needsA) := by
  refine F.ok scNeeds spTell_len (fun cdv A outer s H vs Q E hr h => ?_)
  obtain ⟨h, m, rfl, hH, ok, q⟩ := h
  have hr2 : Room 2 _ := hr.mono (by decide)
  have hr3 : Room 3 _ := hr.mono (by decide)
  have hr4 : Room 4 _ := hr.mono (by decide)
  have hr5 : Room 5 _ := hr.mono (by decide)
  refine ⟨_, pss_cons (ps_set (i := 1) scNeeds.nd rfl (Or.inl rfl) (pe_make M G1 hr5 rfl TS.here b1 .nil pass0 (pa_cons (pv 0) pa_nil)))
    (pss_cons (ps_set (i := 2) scNeeds.nd rfl (Or.inl rfl) (pe_call D2.ok hr3 rfl D2.here D2.kp D2.b .nil pass0 (pa_cons (pv 1) pa_nil)))
    (pss_cons (ps_set (i := 3) scNeeds.nd rfl (Or.inl rfl) (pe_lst (pa_cons (pe_fld (pv 1) rfl) pa_nil)))
    (pss_cons (ps_for PassesOwn.never rfl (pi_range1 rfl B.range (pa_cons (pe_fld (pv 1) rfl) pa_nil)) (pg_name (i := 4) scNeeds.nd rfl (Or.inl rfl))
      (pss_one (ps_expr (pe_bm PySem.F.plainAttrs_list PySem.F.slot_list_extend PySem.F.type_list_extend mt_extend (pv 3)
        (pa_cons (pe_call D3.ok hr2 rfl D3.here D3.kp D3.b .nil pass0 (pa_cons (pe_call D4.ok hr4 rfl D4.here D4.kp D4.b .nil pass0 (pa_cons (pv 1) (pa_cons (pv 2) (pa_cons (pv 4) pa_nil)))) (pa_cons (pe_op op_mulW (pe_fld (pv 1) rfl) (pe_fld (pv 2) rfl)) pa_nil))) pa_nil)))))
    (pss_one (ps_ret (pv 3)))))), ?_⟩
  have n8 := ok.n8
  have so := ok.sheetOk
  have po := ok.fullRel.ok
  have en : (((sheetOf m).n : Int)).toNat = m.n := by show ((m.n : Int)).toNat = m.n; omega
  refine ⟨_, rfl, ?_⟩
  intro x dx nx nd ne
  refine ⟨H, x, dx, h, m, rfl, made nx nd ne, nx, upd_same, hH, ok, fun H1 s1 hS0 => ⟨rfl, ?_⟩⟩
  have hS := hS0.at
  refine ⟨_, rfl, x, sheetOf m, rfl, hS, so, fun b H2 s2 hP => ?_⟩
  obtain ⟨dz, lo, lw, ld, hs⟩ := hS.mono s2
  obtain ⟨dy, la, lf, hp⟩ := id hP
  refine ⟨_, rfl, x, CS, dz, _, _, rfl, hs.obj, TS.cl, TS.nParties, sF_parties _ _ _ _, (by show 1 ≤ sizeLine; decide), fun T hT => ?_⟩
  have sT := same_upd (o := .lst [V.int (sheetOf m).n]) hT
  refine ⟨_, rfl, x, CS, dz, _, _, rfl, (hs.mono sT).obj, TS.cl, TS.nParties, sF_parties _ _ _ _, _, rfl, (by show -(2 ^ 62 : Int) ≤ (m.n : Int); omega), (by show (m.n : Int) < 2 ^ 62; omega), ?_⟩
  rw [en]
  have b0 : 0 < (sheetOf m).unit * (payFull (sheetOf m)).below := Int.mul_pos so.unit0 po.below0
  have sb : Small ((sheetOf m).unit * (payFull (sheetOf m)).below) := small_lt (bits_mul so.bUnit po.bBelow)
  refine for_range (lo := 0) (n := m.n) (fun j σ H' => ∃ x4, σ = [some (.ref h), some (.ref x), some (.ref b), some (.ref T), x4] ∧ Same H2 H' ∧ H' T = some (.lst (lI ((m.n : Int) :: (List.range j).flatMap (needsOne m)))))
    ⟨none, rfl, sT, upd_same⟩ ?_ ?_
  · rintro j σ H' hj ⟨x4, rfl, s3, hA⟩
    have e0 : (0 : Int) + (j : Int) = (j : Int) := by omega
    rw [e0]
    have hlen : (lI ((m.n : Int) :: (List.range j).flatMap (needsOne m))).length = 1 + 2 * j := by
      rw [List.length_map, List.length_cons, flat2_len (fun _ => rfl)]; omega
    refine ⟨_, rfl, .inl ⟨rfl, _, SqL.of hA⟩, _, rfl, _, rfl, _, rfl, x, b, j, sheetOf m, payFull (sheetOf m), rfl, (hS.mono s2).mono s3, hP.mono s3, so, po, hj, fun H4 s4 => ?_⟩
    have hs4 := (hs.mono s3).mono s4
    have hp4 := (hp.mono s3).mono s4
    refine ⟨_, rfl, x, CS, dz, _, _, rfl, hs4.obj, TS.cl, TS.nUnit, sF_unit _ _ _ _, _, rfl, b, CP, dy, _, _, rfl, hp4.obj, TP.cl, TP.nBelow, pF_below _ _ _, _, _, rfl, rfl, small_mul (small_lt so.bUnit) (small_lt po.bBelow), ?_⟩
    unfold tNil
    refine low_call (by unfold lackM; omega) b0 (small_lt (lack_bits so po j)) sb (fun L hL => ?_)
    have sL := same_upd (o := .lst (lI (needsOne m j))) hL
    refine ⟨T, L, _, _, rfl, rfl, sL _ _ (s4 _ _ hA), upd_same, ?_, _, rfl, same_but hT ((s3.trans s4).trans sL), ?_⟩
    · rw [hlen]
      exact Nat.le_of_lt (small1000 (by simp [lowI]; omega))
    · rw [upd_same]
      show some (HO.lst (lI _ ++ lI (needsOne m j))) = _
      rw [lI_app, List.range_succ, List.flatMap_append, List.flatMap_singleton, List.cons_append]
  · rintro σ H' ⟨x4, rfl, s3, hA⟩
    have sA := (s1.trans s2).trans s3
    exact ⟨_, rfl, q T H' (Same.keep sA) ((s1.trans s2).free hT) (hH.mono sA) hA⟩
/-! answer_without -/
theorem scGone : FnScope ["house", "i", "now", "then", "falling", "j"] ["house", "i"] (defScope sGone) := ⟨rfl, rfl, rfl, by decide +kernel, rfl, by decide +kernel, by decide +kernel⟩
theorem ok_gone {f f1 f2 f3 C CS CP : Addr} {fd fd1 fd2 fd3 : FuncData} (F : Fun K "answer_without" "answer_without" sGone f fd) (B : Env mg) (T : CHouse K mg C) (TS : CSheet K mg CS) (TP : CPay K mg CP)
    (M : Mk K CS f1) (G1 : FnOk P w K mg base CX0 4 f1 fd1 ["self", "house"] (spSheetInit CS C)) (b1 : Binds K fd1 ["self", "house"] [])
    (D2 : Def P w K mg base 7 "greatest_payments" ["sheet"] (spGreatest CS CP) f2 fd2) (D3 : Def P w K mg base 6 "sheet_without" ["house", "i"] (spSheetWithout C CS) f3 fd3) :
    FnOk P w K mg base CX0 8 f fd ["house", "i"] (spAsk C withoutA) := by
  refine F.ok scGone spAsk_len (fun cdv A outer s H vs Q E hr h => ?_)
  obtain ⟨h, i, m, rfl, hH, ok, hi, q⟩ := h
  have hr5 : Room 5 _ := hr.mono (by decide)
  have hr6 : Room 6 _ := hr.mono (by decide)
  refine ⟨_, pss_cons (ps_set (i := 2) scGone.nd rfl (Or.inr rfl) (pe_fld (pe_call D2.ok hr rfl D2.here D2.kp D2.b .nil pass0 (pa_cons (pe_make M G1 hr5 rfl TS.here b1 .nil pass0 (pa_cons (pv 0) pa_nil)) pa_nil)) rfl))
    (pss_cons (ps_set (i := 3) scGone.nd rfl (Or.inr rfl) (pe_fld (pe_call D2.ok hr rfl D2.here D2.kp D2.b .nil pass0 (pa_cons (pe_call D3.ok hr6 rfl D3.here D3.kp D3.b .nil pass0 (pa_cons (pv 0) (pa_cons (pv 1) pa_nil))) pa_nil)) rfl))
    (pss_cons (ps_setLc (i := 4) (own := [("j", 5)]) (g := gName 5) rfl scGone.nd rfl rfl (sw_true rfl rfl rfl (by decide +kernel))
        (pi_range1 rfl B.range (pa_cons (pe_fld (pv 0) rfl) pa_nil))
        (blkOk_by (own := [("j", 5)]) (N := ["house", "i", "now", "then", "falling", "j"]) (sc := defScope sGone) (by decide +kernel))
        (fun _ _ _ _ _ => pg_name (i := 5) scGone.nd rfl (Or.inl rfl))
        (fun _ _ _ _ _ => pts_one (PW.pt (pw_and (pt_cmpR op_eq (pe_ix (ix_listK (K := K) rfl) (pv 2) (pv 5) (fun _ _ => rfl)) pe_int (nomark _)) (pw_and1 (pt_cmpR op_gt (pe_ix (ix_listK (K := K) rfl) (pv 3) (pv 5) (fun _ _ => rfl)) pe_int (nomark _))))))
        (fun _ _ _ _ _ => pv 5))
    (pss_one (ps_ret (pe_op op_cat (pe_lst (pa_cons (pe_callB call_len_seq (by rfl) B.len PySem.boot_len (pa_cons (pv 4) pa_nil)) pa_nil)) (pv 4)))))), ?_⟩
  have n8 := ok.n8
  have okW := ok.wiped i
  have g := ok.great
  have gW := okW.great
  have en : ((m.n : Int)).toNat = m.n := by omega
  refine ⟨_, rfl, ?_⟩
  intro x dx nx nd ne
  refine ⟨H, x, dx, h, m, rfl, made nx nd ne, nx, upd_same, hH, ok, fun H1 s1 hS0 => ⟨rfl, ?_⟩⟩
  refine ⟨x, m, rfl, hS0.at, ok, fun b H2 s2 hP => ?_⟩
  obtain ⟨dy, la, lf, hp⟩ := (show PayAt CP H2 b (greatestP m) from hP)
  refine ⟨b, CP, dy, _, _, rfl, hp.obj, TP.cl, TP.nFell, pF_fell _ _ _, ?_⟩
  have s12 := s1.trans s2
  refine ⟨_, rfl, _, rfl, h, i, m, rfl, hH.mono s12, ok, hi, fun y H3 s3 hS3 => ?_⟩
  refine ⟨y, wipedM m i, rfl, hS3, okW, fun c H4 s4 hP4 => ?_⟩
  obtain ⟨dy2, la2, lf2, hp2⟩ := (show PayAt CP H4 c (greatestP (wipedM m i)) from hP4)
  refine ⟨c, CP, dy2, _, _, rfl, hp2.obj, TP.cl, TP.nFell, pF_fell _ _ _, ?_⟩
  have s14 := s12.trans (s3.trans s4)
  have hf1 := (s3.trans s4) _ _ hp.fell
  have hf2 := hp2.fell
  obtain ⟨hx, t1, t2, lo', lw', ws, hh⟩ := hH.mono s14
  refine ⟨_, rfl, h, C, hx, _, _, rfl, hh.obj, T.cl, T.nParties, hF_parties _ _ _ _ _, _, rfl, (by omega), (by omega), fun D hD => ?_⟩
  rw [en]
  refine lc_rngF (n := m.n) (fun j => decide ((greatestP m).fell.getD j 0 = 0) && decide (0 < (greatestP (wipedM m i)).fell.getD j 0)) hD (by omega) (fun _ => rfl) ?_ ?_ ?_
  · intro j hj H' s5 R hR
    have hR := hR H' (Same.refl _)
    refine ⟨_, rfl, _, rfl, lf, _, _, _, rfl, rfl, SqL.of (s5 _ _ hf1), atI_nat (lI_at (by rw [g.ready.len]; exact hj)), rfl, _, rfl, ite2 (fun c1 => ?_) (fun c1 => ?_)⟩
    · have e0 : (greatestP m).fell.getD j 0 = 0 := V.int.inj (of_decide_eq_true c1)
      rw [decide_eq_true e0, Bool.true_and] at hR
      exact ⟨_, rfl, _, rfl, lf2, _, _, _, rfl, rfl, SqL.of (s5 _ _ hf2), atI_nat (lI_at (by rw [gW.ready.len]; exact hj)), _, _, rfl, rfl, _, rfl, hR⟩
    · have e0 : ¬ (greatestP m).fell.getD j 0 = 0 := fun e => c1 (decide_eq_true (by rw [e]))
      rw [decide_eq_false e0, Bool.false_and] at hR
      exact hR
  · intro j hj H' R hR
    exact ⟨_, rfl, hR⟩
  · intro H5 s5 hA
    have hA : H5 D = some (.lst (nL (gone m i))) := hA
    have hlen : (gone m i).length ≤ m.n := by
      unfold gone
      exact Nat.le_trans (List.length_filter_le _ _) (by simp)
    refine ⟨_, rfl, D, _, rfl, .inl (SqL.of hA), (by show 1 ≤ sizeLine; decide), fun l1 hl1 => ?_⟩
    have s6 := same_upd (o := .lst [V.int ((nL (gone m i)).length : Int)]) hl1
    refine ⟨_, rfl, l1, D, _, _, rfl, rfl, upd_same, s6 _ _ hA, ?_, fun l2 hl2 => ?_⟩
    · rw [List.length_map]
      exact Nat.le_of_lt (small1000 (by simp; omega))
    have sA := s14.trans (s5.trans s6)
    have e : [V.int ((nL (gone m i)).length : Int)] ++ nL (gone m i) = lI (withoutA m i).2 := by
      show _ = lI (((gone m i).length : Int) :: (gone m i).map fun (j : Nat) => (j : Int))
      rw [List.length_map]
      show V.int _ :: List.map _ _ = V.int _ :: List.map _ (List.map _ _)
      rw [List.map_map]
      rfl
    rw [e]
    exact q l2 _ (Same.keep (sA.trans (same_upd hl2))) (sA.free hl2) (hH.mono (sA.trans (same_upd hl2))) upd_same
/-! answer_lost -/
theorem scLost : FnScope ["house", "sheet", "payments", "below"] ["house"] (defScope sLost) := ⟨rfl, rfl, rfl, by decide +kernel, rfl, by decide +kernel, by decide +kernel⟩
theorem ok_lost {f f1 f2 f3 f4 f5 C CS CP : Addr} {fd fd1 fd2 fd3 fd4 fd5 : FuncData} (F : Fun K "answer_lost" "answer_lost" sLost f fd) (TS : CSheet K mg CS) (TP : CPay K mg CP)
    (M : Mk K CS f1) (G1 : FnOk P w K mg base CX0 4 f1 fd1 ["self", "house"] (spSheetInit CS C)) (b1 : Binds K fd1 ["self", "house"] [])
    (D2 : Def P w K mg base 7 "greatest_payments" ["sheet"] (spGreatest CS CP) f2 fd2) (D3 : Def P w K mg base 2 "lowest" ["above", "below"] spLowest f3 fd3)
    (D4 : Def P w K mg base 3 "lost_in_falling" ["sheet", "payments"] (spSum CS CP fun s p => .int (lostM s p)) f4 fd4)
    (D5 : Def P w K mg base 1 "left_unpaid" ["sheet", "payments"] (spSum CS CP fun s p => .int (unpaidM s p)) f5 fd5) :
    FnOk P w K mg base CX0 8 f fd ["house"] (spTell C lostA) := by
  refine F.ok scLost spTell_len (fun cdv A outer s H vs Q E hr h => ?_)
  obtain ⟨h, m, rfl, hH, ok, q⟩ := h
  have hr1 : Room 1 _ := hr.mono (by decide)
  have hr2 : Room 2 _ := hr.mono (by decide)
  have hr3 : Room 3 _ := hr.mono (by decide)
  have hr5 : Room 5 _ := hr.mono (by decide)
  refine ⟨_, pss_cons (ps_set (i := 1) scLost.nd rfl (Or.inl rfl) (pe_make M G1 hr5 rfl TS.here b1 .nil pass0 (pa_cons (pv 0) pa_nil)))
    (pss_cons (ps_set (i := 2) scLost.nd rfl (Or.inl rfl) (pe_call D2.ok hr rfl D2.here D2.kp D2.b .nil pass0 (pa_cons (pv 1) pa_nil)))
    (pss_cons (ps_set (i := 3) scLost.nd rfl (Or.inl rfl) (pe_op op_mulW (pe_fld (pv 1) rfl) (pe_fld (pv 2) rfl)))
    (pss_one (ps_ret (pe_op op_cat (pe_call D3.ok hr2 rfl D3.here D3.kp D3.b .nil pass0 (pa_cons (pe_call D4.ok hr3 rfl D4.here D4.kp D4.b .nil pass0 (pa_cons (pv 1) (pa_cons (pv 2) pa_nil))) (pa_cons (pv 3) pa_nil)))
      (pe_call D3.ok hr2 rfl D3.here D3.kp D3.b .nil pass0 (pa_cons (pe_call D5.ok hr1 rfl D5.here D5.kp D5.b .nil pass0 (pa_cons (pv 1) (pa_cons (pv 2) pa_nil))) (pa_cons (pv 3) pa_nil)))))))), ?_⟩
  have so := ok.sheetOk
  have g := ok.great
  have po := g.rel.ok
  have b0 : 0 < (sheetOf m).unit * (greatestP m).below := Int.mul_pos so.unit0 po.below0
  have sb : Small ((sheetOf m).unit * (greatestP m).below) := small_lt (bits_mul so.bUnit po.bBelow)
  refine ⟨_, rfl, ?_⟩
  intro x dx nx nd ne
  refine ⟨H, x, dx, h, m, rfl, made nx nd ne, nx, upd_same, hH, ok, fun H1 s1 hS0 => ⟨rfl, ?_⟩⟩
  have hS := hS0.at
  refine ⟨_, rfl, x, m, rfl, hS, ok, fun b H2 s2 hP => ?_⟩
  have hP : PayAt CP H2 b (greatestP m) := hP
  obtain ⟨dz, lo, lw, ld, hs⟩ := hS.mono s2
  obtain ⟨dy, la, lf, hp⟩ := id hP
  refine ⟨_, rfl, x, CS, dz, _, _, rfl, hs.obj, TS.cl, TS.nUnit, sF_unit _ _ _ _, _, rfl, b, CP, dy, _, _, rfl, hp.obj, TP.cl, TP.nBelow, pF_below _ _ _, _, _, rfl, rfl, small_mul (small_lt so.bUnit) (small_lt po.bBelow), ?_⟩
  refine ⟨_, rfl, _, rfl, x, b, sheetOf m, greatestP m, rfl, hS.mono s2, hP, so, po, fun H3 s3 => ?_⟩
  refine ⟨_, rfl, ?_⟩
  unfold tNil
  refine low_call ok.lost_nn b0 (lost_small so po) sb (fun L1 hL1 => ?_)
  have s4 := same_upd (o := .lst (lI (lowI (lostM (sheetOf m) (greatestP m)) ((sheetOf m).unit * (greatestP m).below)))) hL1
  refine ⟨_, rfl, _, rfl, x, b, sheetOf m, greatestP m, rfl, ((hS.mono s2).mono s3).mono s4, (hP.mono s3).mono s4, so, po, fun H5 s5 => ?_⟩
  refine ⟨_, rfl, ?_⟩
  refine low_call ok.unpaid_nn b0 (unpaid_small so po) sb (fun L2 hL2 => ?_)
  have s6 := same_upd (o := .lst (lI (lowI (unpaidM (sheetOf m) (greatestP m)) ((sheetOf m).unit * (greatestP m).below)))) hL2
  refine ⟨L1, L2, _, _, rfl, rfl, s6 _ _ (s5 _ _ upd_same), upd_same, (by show 2 + 2 ≤ sizeLine; decide), fun L hL => ?_⟩
  have sA := s1.trans (s2.trans (s3.trans (s4.trans (s5.trans s6))))
  rw [lI_app]
  exact q L _ (Same.keep (sA.trans (same_upd hL))) (sA.free hL) (hH.mono (sA.trans (same_upd hL))) upd_same
end
end Wq

namespace Wq
open PySem PySem.Spec PyProof.Rows L2 Wp
abbrev sAnswerCall : Stmt := top 49
/-- the names of the top that hold the calls' numbers -/
structure Calls (mg : Str → Option Value) : Prop where
  begins : ∃ t, mg "BEGINS" = some (.int 0 t)
  own : ∃ t, mg "OWN" = some (.int 1 t)
  owes : ∃ t, mg "OWES" = some (.int 2 t)
  clear : ∃ t, mg "CLEAR" = some (.int 3 t)
  least : ∃ t, mg "LEAST" = some (.int 4 t)
  pays : ∃ t, mg "PAYS" = some (.int 5 t)
  need : ∃ t, mg "NEED" = some (.int 6 t)
  needs : ∃ t, mg "NEEDS" = some (.int 7 t)
  without : ∃ t, mg "WITHOUT" = some (.int 8 t)
def aboutA (m : HouseM) (c : Int) (i : Nat) : HouseM × List Int := if m.n ≤ i then (m, [-2]) else if c = 5 then paysA m i else if c = 6 then needA m i else withoutA m i
section
variable {P : Program} {w : World} {K : PySem.W.Frag} {mg : Str → Option Value} {base : Heap}
/-! answer_about -/
theorem scAbout : FnScope ["house", "call", "i"] ["house", "call", "i"] (defScope sAbout) := ⟨rfl, rfl, rfl, by decide +kernel, rfl, by decide +kernel, by decide +kernel⟩
def spAbout (C : Addr) : Sp := fun vs H Q _ => ∃ (h : Addr) (c : Int) (i : Nat) (m : HouseM), vs = [.ref h, .int c, .int i] ∧ HouseAt C H h m ∧ HouseOk m ∧ Told C H Q h (aboutA m c i)
theorem ok_about {f f1 f2 f3 C : Addr} {fd fd1 fd2 fd3 : FuncData} (F : Fun K "answer_about" "answer_about" sAbout f fd) (T : CHouse K mg C) (N : Consts mg) (W : Calls mg)
    (D1 : Def P w K mg base 8 "answer_pays" ["house", "i"] (spAsk C paysA) f1 fd1) (D2 : Def P w K mg base 8 "answer_need" ["house", "i"] (spAsk C needA) f2 fd2)
    (D3 : Def P w K mg base 8 "answer_without" ["house", "i"] (spAsk C withoutA) f3 fd3) :
    FnOk P w K mg base CX0 9 f fd ["house", "call", "i"] (spAbout C) := by
  refine F.ok scAbout (fun vs H Q E h => ?_) (fun cdv A outer s H vs Q E hr h => ?_)
  · obtain ⟨h, c, i, m, rfl, _⟩ := h
    rfl
  · obtain ⟨h, c, i, m, rfl, hH, ok, q⟩ := h
    obtain ⟨tp, gp⟩ := N.noParty
    obtain ⟨t5, g5⟩ := W.pays
    obtain ⟨t6, g6⟩ := W.need
    obtain ⟨dx, t1, t2, lo, lw, ws, hh⟩ := id hH
    refine ⟨_, pss_cons (ps_if (pt_cmpR op_ge (pv 2) (pe_fld (pv 0) rfl) (nomark _)) (pss_one (ps_ret (pe_lst (pa_cons (pe_glob (v := .int (-2)) rfl gp ⟨_, rfl⟩) pa_nil)))) pss_nil)
      (pss_cons (ps_if (pt_cmpR op_eq (pv 1) (pe_glob (v := .int 5) rfl g5 ⟨_, rfl⟩) (nomark _)) (pss_one (ps_ret (pe_call D1.ok hr rfl D1.here D1.kp D1.b .nil pass0 (pa_cons (pv 0) (pa_cons (pv 2) pa_nil))))) pss_nil)
      (pss_cons (ps_if (pt_cmpR op_eq (pv 1) (pe_glob (v := .int 6) rfl g6 ⟨_, rfl⟩) (nomark _)) (pss_one (ps_ret (pe_call D2.ok hr rfl D2.here D2.kp D2.b .nil pass0 (pa_cons (pv 0) (pa_cons (pv 2) pa_nil))))) pss_nil)
      (pss_one (ps_ret (pe_call D3.ok hr rfl D3.here D3.kp D3.b .nil pass0 (pa_cons (pv 0) (pa_cons (pv 2) pa_nil))))))), ?_⟩
    refine ⟨_, rfl, _, rfl, h, C, dx, _, _, rfl, hh.obj, T.cl, T.nParties, hF_parties _ _ _ _ _, _, _, rfl, rfl, _, rfl, ite2 (fun c1 => ?_) (fun c1 => ?_)⟩
    · have e1 : m.n ≤ i := by have := of_decide_eq_true c1; omega
      refine ⟨(by show 1 ≤ sizeLine; decide), fun p hp => ?_⟩
      have e : aboutA m c i = (m, [-2]) := if_pos e1
      unfold Told at q
      rw [e] at q
      exact q p _ (Same.keep (same_upd hp)) hp (hH.mono (same_upd hp)) upd_same
    have e1 : i < m.n := by
      by_cases h0 : i < m.n
      · exact h0
      · exact absurd (decide_eq_true (by omega)) c1
    refine ⟨_, rfl, rfl, _, rfl, ite2 (fun c2 => ?_) (fun c2 => ?_)⟩
    · have e2 : c = 5 := V.int.inj (of_decide_eq_true c2)
      have e : aboutA m c i = paysA m i := by unfold aboutA; rw [if_neg (by omega), if_pos e2]
      rw [e] at q
      exact ⟨_, rfl, _, rfl, h, i, m, rfl, hH, ok, e1, q⟩
    have e2 : ¬ c = 5 := fun e => c2 (decide_eq_true (by rw [e]))
    refine ⟨_, rfl, rfl, _, rfl, ite2 (fun c3 => ?_) (fun c3 => ?_)⟩
    · have e3 : c = 6 := V.int.inj (of_decide_eq_true c3)
      have e : aboutA m c i = needA m i := by unfold aboutA; rw [if_neg (by omega), if_neg e2, if_pos e3]
      rw [e] at q
      exact ⟨_, rfl, _, rfl, h, i, m, rfl, hH, ok, e1, q⟩
    have e3 : ¬ c = 6 := fun e => c3 (decide_eq_true (by rw [e]))
    have e : aboutA m c i = withoutA m i := by unfold aboutA; rw [if_neg (by omega), if_neg e2, if_neg e3]
    rw [e] at q
    exact ⟨_, rfl, _, rfl, h, i, m, rfl, hH, ok, e1, q⟩
end
def stepH (m : HouseM) : Co08.Call → HouseM × List Int
  | .begins n a b c d => beginsM m n a b c d
  | .own i a b => ownA m i a b
  | .owes i j a b => owesA m i j a b
  | .clear => clearA m
  | .least => leastA m
  | .pays i => aboutA m 5 i
  | .need i => aboutA m 6 i
  | .needs => needsA m
  | .without i => aboutA m 8 i
  | .lost => lostA m
theorem about_fst (m : HouseM) (c : Int) (i : Nat) : (aboutA m c i).1 = m := by
  unfold aboutA
  split
  · rfl
  · split
    · rfl
    · split <;> rfl
/-- a call's numbers -/
theorem call_in {l : List Int} {x : Co08.Call} (hn : ∀ z ∈ l, 0 ≤ z ∧ z ≤ 1000000) (h : Co08Neutral.callIn (l.map Int.toNat) = some x) :
    ∃ ns : List Nat, l = ns.map (fun (n : Nat) => (n : Int)) ∧ (∀ z ∈ ns, z ≤ 1000000) ∧ Co08Neutral.callIn ns = some x := by
  refine ⟨l.map Int.toNat, ?_, ?_, h⟩
  · rw [List.map_map]
    have : ∀ l : List Int, (∀ z ∈ l, 0 ≤ z ∧ z ≤ 1000000) → l = l.map ((fun (n : Nat) => (n : Int)) ∘ Int.toNat) := by
      intro l
      induction l with
      | nil => intro _; rfl
      | cons y l ih =>
        intro h
        rw [List.map_cons, ← ih (fun z hz => h z (List.mem_cons_of_mem _ hz))]
        congr 1
        exact (Int.toNat_of_nonneg (h y (List.mem_cons_self ..)).1).symm
    exact this l hn
  · intro z hz
    obtain ⟨y, hy, e⟩ := List.mem_map.1 hz
    have := hn y hy
    omega
theorem call_inv {ns : List Nat} {x : Co08.Call} (h : Co08Neutral.callIn ns = some x) :
    (∃ n a b c d, ns = [0, n, a, b, c, d] ∧ x = .begins n a b c d) ∨ (∃ i a b, ns = [1, i, a, b] ∧ x = .own i a b) ∨ (∃ i j a b, ns = [2, i, j, a, b] ∧ x = .owes i j a b) ∨
    (ns = [3] ∧ x = .clear) ∨ (ns = [4] ∧ x = .least) ∨ (∃ i, ns = [5, i] ∧ x = .pays i) ∨ (∃ i, ns = [6, i] ∧ x = .need i) ∨ (ns = [7] ∧ x = .needs) ∨ (∃ i, ns = [8, i] ∧ x = .without i) ∨ (ns = [9] ∧ x = .lost) := by
  unfold Co08Neutral.callIn at h
  split at h
  all_goals first
    | (have h := Option.some.inj h; subst h; simp; done)
    | (cases h; done)
theorem about_step {m : HouseM} (ok : HouseOk m) (c : Int) (i : Nat) {x : Co08.Call} (hx : Co08.step (sysOf m) x = if m.n ≤ i then (sysOf m, [-2]) else Co08.step (sysOf m) x) (hs : i < m.n → (sysOf m, (aboutA m c i).2) = Co08.step (sysOf m) x) :
    (sysOf (aboutA m c i).1, (aboutA m c i).2) = Co08.step (sysOf m) x := by
  rw [about_fst]
  by_cases h : m.n ≤ i
  · rw [hx, if_pos h]
    unfold aboutA
    rw [if_pos h]
  · exact hs (by omega)
theorem stepOk : StepOk stepH where
  eq := fun m x ok => by
    cases x with
    | begins n a b c d => exact begins_eq m n a b c d
    | own i a b => exact ok.own_step i a b
    | owes i j a b => exact ok.owes_step i j a b
    | clear => exact ok.clear_eq
    | least => exact ok.least_step
    | pays i =>
      refine about_step ok 5 i ?_ (fun hi => ?_)
      · show (sysOf m, if Co08.count (sysOf m) ≤ i then [-2] else _) = if m.n ≤ i then (sysOf m, [-2]) else (sysOf m, if Co08.count (sysOf m) ≤ i then [-2] else _)
        rw [ok.good.cnt]
        by_cases h : m.n ≤ i
        · rw [if_pos h, if_pos h]
        · rw [if_neg h, if_neg h]
      · unfold aboutA
        rw [if_neg (by omega), if_pos rfl]
        exact ok.pays_step hi
    | need i =>
      refine about_step ok 6 i ?_ (fun hi => ?_)
      · show (sysOf m, if Co08.count (sysOf m) ≤ i then [-2] else _) = if m.n ≤ i then (sysOf m, [-2]) else (sysOf m, if Co08.count (sysOf m) ≤ i then [-2] else _)
        rw [ok.good.cnt]
        by_cases h : m.n ≤ i
        · rw [if_pos h, if_pos h]
        · rw [if_neg h, if_neg h]
      · unfold aboutA
        rw [if_neg (by omega), if_neg (by decide), if_pos rfl]
        exact ok.need_step hi
    | needs => exact ok.needs_step
    | without i =>
      refine about_step ok 8 i ?_ (fun hi => ?_)
      · show (sysOf m, if Co08.count (sysOf m) ≤ i then [-2] else _) = if m.n ≤ i then (sysOf m, [-2]) else (sysOf m, if Co08.count (sysOf m) ≤ i then [-2] else _)
        rw [ok.good.cnt]
        by_cases h : m.n ≤ i
        · rw [if_pos h, if_pos h]
        · rw [if_neg h, if_neg h]
      · unfold aboutA
        rw [if_neg (by omega), if_neg (by decide), if_neg (by decide)]
        exact ok.without_step hi
    | lost => exact ok.lost_step
  house := fun m k l x hm hk hn hin => by
    obtain ⟨ns, _, hle, hin⟩ := call_in hn hin
    rcases call_inv hin with ⟨n, a, b, c, d, e, rfl⟩ | ⟨i, a, b, e, rfl⟩ | ⟨i, j, a, b, e, rfl⟩ | ⟨e, rfl⟩ | ⟨e, rfl⟩ | ⟨i, e, rfl⟩ | ⟨i, e, rfl⟩ | ⟨e, rfl⟩ | ⟨i, e, rfl⟩ | ⟨e, rfl⟩
    · subst e
      exact begins_house hm (hle b (by simp)) (hle d (by simp))
    · subst e
      exact own_house hm hk (hle a (by simp)) (hle b (by simp))
    · subst e
      exact owes_house hm hk (hle a (by simp)) (hle b (by simp))
    · exact hm.next
    · exact hm.next
    · show House (aboutA m 5 i).1 _
      rw [about_fst]; exact hm.next
    · show House (aboutA m 6 i).1 _
      rw [about_fst]; exact hm.next
    · exact hm.next
    · show House (aboutA m 8 i).1 _
      rw [about_fst]; exact hm.next
    · exact hm.next
theorem arity_ok : ∀ p n, PyCo08.shape p = some (n, 0) → ([5, 3, 4, 0, 0, 1, 1, 0, 1, 0] : List Nat)[p.toNat]? = some n := by
  intro p n h
  unfold PyCo08.shape at h
  repeat' split at h
  all_goals first
    | (cases h; done)
    | (rename_i e; injection h with h; injection h with h1 h2; subst e; subst h1; rfl)
end Wq

namespace Wq
open PySem PySem.Spec PyProof.Rows L2 Wp
section
variable {P : Program} {w : World} {K : PySem.W.Frag} {mg : Str → Option Value} {base : Heap}
/-! answer_call -/
theorem scAnswerCall : FnScope ["house", "call", "handed"] ["house", "call", "handed"] (defScope sAnswerCall) := ⟨rfl, rfl, rfl, by decide +kernel, rfl, by decide +kernel, by decide +kernel⟩
theorem ok_answerCall {f f0 f1 f2 f3 f4 f5 f7 f9 C : Addr} {fd fd0 fd1 fd2 fd3 fd4 fd5 fd7 fd9 : FuncData} (F : Fun K "answer_call" "answer_call" sAnswerCall f fd) (W : Calls mg)
    (D0 : Def P w K mg base 4 "answer_begins" ["house", "n", "a", "b", "c", "d"] (spBegins C) f0 fd0)
    (D1 : Def P w K mg base 4 "answer_own" ["house", "i", "a", "b"] (spOwn C) f1 fd1)
    (D2 : Def P w K mg base 4 "answer_owes" ["house", "i", "j", "a", "b"] (spOwes C) f2 fd2)
    (D3 : Def P w K mg base 8 "answer_clear" ["house"] (spTell C clearA) f3 fd3)
    (D4 : Def P w K mg base 8 "answer_least" ["house"] (spTell C leastA) f4 fd4)
    (D5 : Def P w K mg base 9 "answer_about" ["house", "call", "i"] (spAbout C) f5 fd5)
    (D7 : Def P w K mg base 8 "answer_needs" ["house"] (spTell C needsA) f7 fd7)
    (D9 : Def P w K mg base 8 "answer_lost" ["house"] (spTell C lostA) f9 fd9) :
    FnOk P w K mg base CX0 10 f fd ["house", "call", "handed"] (spCall C stepH) := by
  refine F.ok scAnswerCall (fun vs H Q E h => ?_) (fun cdv A outer s H vs Q E hr h => ?_)
  · obtain ⟨h, l, m, p, args, x, rfl, _⟩ := h
    rfl
  · obtain ⟨h, l, m, p, args, x, rfl, hH, ok, hl, hn, hin, q⟩ := h
    have hr4 : Room 4 _ := hr.mono (by decide)
    have hr8 : Room 8 _ := hr.mono (by decide)
    obtain ⟨t0, g0⟩ := W.begins
    obtain ⟨t1, g1⟩ := W.own
    obtain ⟨t2, g2⟩ := W.owes
    obtain ⟨t3, g3⟩ := W.clear
    obtain ⟨t4, g4⟩ := W.least
    obtain ⟨t5, g5⟩ := W.pays
    obtain ⟨t6, g6⟩ := W.need
    obtain ⟨t7, g7⟩ := W.needs
    obtain ⟨t8, g8⟩ := W.without
    refine ⟨_, pss_cons (ps_if (pt_cmpR op_eq (pv 1) (pe_glob (v := .int 0) rfl g0 ⟨_, rfl⟩) (nomark _)) (pss_one (ps_ret (pe_call D0.ok hr4 rfl D0.here D0.kp D0.b .nil pass0
          (pa_cons (pv 0) (pa_cons (pe_ix ix_list (pv 2) pe_int (fun _ _ => rfl)) (pa_cons (pe_ix ix_list (pv 2) pe_int (fun _ _ => rfl)) (pa_cons (pe_ix ix_list (pv 2) pe_int (fun _ _ => rfl)) (pa_cons (pe_ix ix_list (pv 2) pe_int (fun _ _ => rfl)) (pa_cons (pe_ix ix_list (pv 2) pe_int (fun _ _ => rfl)) pa_nil))))))))) pss_nil)
      (pss_cons (ps_if (pt_cmpR op_eq (pv 1) (pe_glob (v := .int 1) rfl g1 ⟨_, rfl⟩) (nomark _)) (pss_one (ps_ret (pe_call D1.ok hr4 rfl D1.here D1.kp D1.b .nil pass0
          (pa_cons (pv 0) (pa_cons (pe_ix ix_list (pv 2) pe_int (fun _ _ => rfl)) (pa_cons (pe_ix ix_list (pv 2) pe_int (fun _ _ => rfl)) (pa_cons (pe_ix ix_list (pv 2) pe_int (fun _ _ => rfl)) pa_nil))))))) pss_nil)
      (pss_cons (ps_if (pt_cmpR op_eq (pv 1) (pe_glob (v := .int 2) rfl g2 ⟨_, rfl⟩) (nomark _)) (pss_one (ps_ret (pe_call D2.ok hr4 rfl D2.here D2.kp D2.b .nil pass0
          (pa_cons (pv 0) (pa_cons (pe_ix ix_list (pv 2) pe_int (fun _ _ => rfl)) (pa_cons (pe_ix ix_list (pv 2) pe_int (fun _ _ => rfl)) (pa_cons (pe_ix ix_list (pv 2) pe_int (fun _ _ => rfl)) (pa_cons (pe_ix ix_list (pv 2) pe_int (fun _ _ => rfl)) pa_nil)))))))) pss_nil)
      (pss_cons (ps_if (pt_cmpR op_in_seq (pv 1) (pe_tup (pa_cons (pe_glob (v := .int 5) rfl g5 ⟨_, rfl⟩) (pa_cons (pe_glob (v := .int 6) rfl g6 ⟨_, rfl⟩) (pa_cons (pe_glob (v := .int 8) rfl g8 ⟨_, rfl⟩) pa_nil)))) (by rfl))
          (pss_one (ps_ret (pe_call D5.ok hr rfl D5.here D5.kp D5.b .nil pass0 (pa_cons (pv 0) (pa_cons (pv 1) (pa_cons (pe_ix ix_list (pv 2) pe_int (fun _ _ => rfl)) pa_nil)))))) pss_nil)
      (pss_cons (ps_if (pt_cmpR op_eq (pv 1) (pe_glob (v := .int 3) rfl g3 ⟨_, rfl⟩) (nomark _)) (pss_one (ps_ret (pe_call D3.ok hr8 rfl D3.here D3.kp D3.b .nil pass0 (pa_cons (pv 0) pa_nil)))) pss_nil)
      (pss_cons (ps_if (pt_cmpR op_eq (pv 1) (pe_glob (v := .int 4) rfl g4 ⟨_, rfl⟩) (nomark _)) (pss_one (ps_ret (pe_call D4.ok hr8 rfl D4.here D4.kp D4.b .nil pass0 (pa_cons (pv 0) pa_nil)))) pss_nil)
      (pss_cons (ps_if (pt_cmpR op_eq (pv 1) (pe_glob (v := .int 7) rfl g7 ⟨_, rfl⟩) (nomark _)) (pss_one (ps_ret (pe_call D7.ok hr8 rfl D7.here D7.kp D7.b .nil pass0 (pa_cons (pv 0) pa_nil)))) pss_nil)
      (pss_one (ps_ret (pe_call D9.ok hr8 rfl D9.here D9.kp D9.b .nil pass0 (pa_cons (pv 0) pa_nil)))))))))), ?_⟩
    obtain ⟨ns, ens, hle, hin⟩ := call_in hn hin
    have two : ∀ {c : Int} {d : Int}, ¬ c = d → ¬ decide (V.int c = V.int d) = true := fun hne h2 => hne (V.int.inj (of_decide_eq_true h2))
    rcases call_inv hin with ⟨n, a, b, c, d, e, rfl⟩ | ⟨i, a, b, e, rfl⟩ | ⟨i, j, a, b, e, rfl⟩ | ⟨e, rfl⟩ | ⟨e, rfl⟩ | ⟨i, e, rfl⟩ | ⟨i, e, rfl⟩ | ⟨e, rfl⟩ | ⟨i, e, rfl⟩ | ⟨e, rfl⟩ <;> subst e <;> obtain ⟨rfl, rfl⟩ := List.cons.inj ens
    · refine ⟨_, rfl, rfl, _, rfl, ite2 (fun _ => ?_) (fun c1 => absurd rfl c1)⟩
      refine ⟨_, rfl, _, rfl, l, _, _, _, rfl, rfl, SqL.of hl, atI_nat (j := 0) rfl, _, rfl, l, _, _, _, rfl, rfl, SqL.of hl, atI_nat (j := 1) rfl, _, rfl, l, _, _, _, rfl, rfl, SqL.of hl, atI_nat (j := 2) rfl, _, rfl, l, _, _, _, rfl, rfl, SqL.of hl, atI_nat (j := 3) rfl, _, rfl, l, _, _, _, rfl, rfl, SqL.of hl, atI_nat (j := 4) rfl, ?_⟩
      exact ⟨h, m, n, a, b, c, d, rfl, hH, hle a (by simp), hle b (by simp), hle c (by simp), hle d (by simp), q⟩
    · refine ⟨_, rfl, rfl, _, rfl, ite2 (fun c1 => absurd c1 (two (by decide))) (fun _ => ?_)⟩
      refine ⟨_, rfl, rfl, _, rfl, ite2 (fun _ => ?_) (fun c1 => absurd rfl c1)⟩
      refine ⟨_, rfl, _, rfl, l, _, _, _, rfl, rfl, SqL.of hl, atI_nat (j := 0) rfl, _, rfl, l, _, _, _, rfl, rfl, SqL.of hl, atI_nat (j := 1) rfl, _, rfl, l, _, _, _, rfl, rfl, SqL.of hl, atI_nat (j := 2) rfl, ?_⟩
      exact ⟨h, m, i, a, b, rfl, hH, ok, hle a (by simp), hle b (by simp), q⟩
    · refine ⟨_, rfl, rfl, _, rfl, ite2 (fun c1 => absurd c1 (two (by decide))) (fun _ => ?_)⟩
      refine ⟨_, rfl, rfl, _, rfl, ite2 (fun c1 => absurd c1 (two (by decide))) (fun _ => ?_)⟩
      refine ⟨_, rfl, rfl, _, rfl, ite2 (fun _ => ?_) (fun c1 => absurd rfl c1)⟩
      refine ⟨_, rfl, _, rfl, l, _, _, _, rfl, rfl, SqL.of hl, atI_nat (j := 0) rfl, _, rfl, l, _, _, _, rfl, rfl, SqL.of hl, atI_nat (j := 1) rfl, _, rfl, l, _, _, _, rfl, rfl, SqL.of hl, atI_nat (j := 2) rfl, _, rfl, l, _, _, _, rfl, rfl, SqL.of hl, atI_nat (j := 3) rfl, ?_⟩
      exact ⟨h, m, i, j, a, b, rfl, hH, ok, hle a (by simp), hle b (by simp), q⟩
    · refine ⟨_, rfl, rfl, _, rfl, ite2 (fun c1 => absurd c1 (two (by decide))) (fun _ => ?_)⟩
      refine ⟨_, rfl, rfl, _, rfl, ite2 (fun c1 => absurd c1 (two (by decide))) (fun _ => ?_)⟩
      refine ⟨_, rfl, rfl, _, rfl, ite2 (fun c1 => absurd c1 (two (by decide))) (fun _ => ?_)⟩
      refine ⟨_, rfl, (by show 3 ≤ sizeLine; decide), fun t ht => ?_⟩
      have st := same_upd (o := .tup [V.int 5, V.int 6, V.int 8]) ht
      refine ⟨t, _, rfl, .inr (SqT.of upd_same), rfl, rfl, _, rfl, ite2 (fun c1 => absurd c1 (by decide)) (fun _ => ?_)⟩
      refine ⟨_, rfl, rfl, _, rfl, ite2 (fun _ => ?_) (fun c1 => absurd rfl c1)⟩
      exact ⟨_, rfl, h, m, rfl, hH.mono st, ok, Told.mono q st⟩
    · refine ⟨_, rfl, rfl, _, rfl, ite2 (fun c1 => absurd c1 (two (by decide))) (fun _ => ?_)⟩
      refine ⟨_, rfl, rfl, _, rfl, ite2 (fun c1 => absurd c1 (two (by decide))) (fun _ => ?_)⟩
      refine ⟨_, rfl, rfl, _, rfl, ite2 (fun c1 => absurd c1 (two (by decide))) (fun _ => ?_)⟩
      refine ⟨_, rfl, (by show 3 ≤ sizeLine; decide), fun t ht => ?_⟩
      have st := same_upd (o := .tup [V.int 5, V.int 6, V.int 8]) ht
      refine ⟨t, _, rfl, .inr (SqT.of upd_same), rfl, rfl, _, rfl, ite2 (fun c1 => absurd c1 (by decide)) (fun _ => ?_)⟩
      refine ⟨_, rfl, rfl, _, rfl, ite2 (fun c1 => absurd c1 (two (by decide))) (fun _ => ?_)⟩
      refine ⟨_, rfl, rfl, _, rfl, ite2 (fun _ => ?_) (fun c1 => absurd rfl c1)⟩
      exact ⟨_, rfl, h, m, rfl, hH.mono st, ok, Told.mono q st⟩
    · refine ⟨_, rfl, rfl, _, rfl, ite2 (fun c1 => absurd c1 (two (by decide))) (fun _ => ?_)⟩
      refine ⟨_, rfl, rfl, _, rfl, ite2 (fun c1 => absurd c1 (two (by decide))) (fun _ => ?_)⟩
      refine ⟨_, rfl, rfl, _, rfl, ite2 (fun c1 => absurd c1 (two (by decide))) (fun _ => ?_)⟩
      refine ⟨_, rfl, (by show 3 ≤ sizeLine; decide), fun t ht => ?_⟩
      have st := same_upd (o := .tup [V.int 5, V.int 6, V.int 8]) ht
      refine ⟨t, _, rfl, .inr (SqT.of upd_same), rfl, rfl, _, rfl, ite2 (fun _ => ?_) (fun c1 => absurd rfl c1)⟩
      exact ⟨_, rfl, _, rfl, _, rfl, l, _, _, _, rfl, rfl, SqL.of (st _ _ hl), atI_nat (j := 0) rfl, h, 5, i, m, rfl, hH.mono st, ok, Told.mono q st⟩
    · refine ⟨_, rfl, rfl, _, rfl, ite2 (fun c1 => absurd c1 (two (by decide))) (fun _ => ?_)⟩
      refine ⟨_, rfl, rfl, _, rfl, ite2 (fun c1 => absurd c1 (two (by decide))) (fun _ => ?_)⟩
      refine ⟨_, rfl, rfl, _, rfl, ite2 (fun c1 => absurd c1 (two (by decide))) (fun _ => ?_)⟩
      refine ⟨_, rfl, (by show 3 ≤ sizeLine; decide), fun t ht => ?_⟩
      have st := same_upd (o := .tup [V.int 5, V.int 6, V.int 8]) ht
      refine ⟨t, _, rfl, .inr (SqT.of upd_same), rfl, rfl, _, rfl, ite2 (fun _ => ?_) (fun c1 => absurd rfl c1)⟩
      exact ⟨_, rfl, _, rfl, _, rfl, l, _, _, _, rfl, rfl, SqL.of (st _ _ hl), atI_nat (j := 0) rfl, h, 6, i, m, rfl, hH.mono st, ok, Told.mono q st⟩
    · refine ⟨_, rfl, rfl, _, rfl, ite2 (fun c1 => absurd c1 (two (by decide))) (fun _ => ?_)⟩
      refine ⟨_, rfl, rfl, _, rfl, ite2 (fun c1 => absurd c1 (two (by decide))) (fun _ => ?_)⟩
      refine ⟨_, rfl, rfl, _, rfl, ite2 (fun c1 => absurd c1 (two (by decide))) (fun _ => ?_)⟩
      refine ⟨_, rfl, (by show 3 ≤ sizeLine; decide), fun t ht => ?_⟩
      have st := same_upd (o := .tup [V.int 5, V.int 6, V.int 8]) ht
      refine ⟨t, _, rfl, .inr (SqT.of upd_same), rfl, rfl, _, rfl, ite2 (fun c1 => absurd c1 (by decide)) (fun _ => ?_)⟩
      refine ⟨_, rfl, rfl, _, rfl, ite2 (fun c1 => absurd c1 (two (by decide))) (fun _ => ?_)⟩
      refine ⟨_, rfl, rfl, _, rfl, ite2 (fun c1 => absurd c1 (two (by decide))) (fun _ => ?_)⟩
      refine ⟨_, rfl, rfl, _, rfl, ite2 (fun _ => ?_) (fun c1 => absurd rfl c1)⟩
      exact ⟨_, rfl, h, m, rfl, hH.mono st, ok, Told.mono q st⟩
    · refine ⟨_, rfl, rfl, _, rfl, ite2 (fun c1 => absurd c1 (two (by decide))) (fun _ => ?_)⟩
      refine ⟨_, rfl, rfl, _, rfl, ite2 (fun c1 => absurd c1 (two (by decide))) (fun _ => ?_)⟩
      refine ⟨_, rfl, rfl, _, rfl, ite2 (fun c1 => absurd c1 (two (by decide))) (fun _ => ?_)⟩
      refine ⟨_, rfl, (by show 3 ≤ sizeLine; decide), fun t ht => ?_⟩
      have st := same_upd (o := .tup [V.int 5, V.int 6, V.int 8]) ht
      refine ⟨t, _, rfl, .inr (SqT.of upd_same), rfl, rfl, _, rfl, ite2 (fun _ => ?_) (fun c1 => absurd rfl c1)⟩
      exact ⟨_, rfl, _, rfl, _, rfl, l, _, _, _, rfl, rfl, SqL.of (st _ _ hl), atI_nat (j := 0) rfl, h, 8, i, m, rfl, hH.mono st, ok, Told.mono q st⟩
    · refine ⟨_, rfl, rfl, _, rfl, ite2 (fun c1 => absurd c1 (two (by decide))) (fun _ => ?_)⟩
      refine ⟨_, rfl, rfl, _, rfl, ite2 (fun c1 => absurd c1 (two (by decide))) (fun _ => ?_)⟩
      refine ⟨_, rfl, rfl, _, rfl, ite2 (fun c1 => absurd c1 (two (by decide))) (fun _ => ?_)⟩
      refine ⟨_, rfl, (by show 3 ≤ sizeLine; decide), fun t ht => ?_⟩
      have st := same_upd (o := .tup [V.int 5, V.int 6, V.int 8]) ht
      refine ⟨t, _, rfl, .inr (SqT.of upd_same), rfl, rfl, _, rfl, ite2 (fun c1 => absurd c1 (by decide)) (fun _ => ?_)⟩
      refine ⟨_, rfl, rfl, _, rfl, ite2 (fun c1 => absurd c1 (two (by decide))) (fun _ => ?_)⟩
      refine ⟨_, rfl, rfl, _, rfl, ite2 (fun c1 => absurd c1 (two (by decide))) (fun _ => ?_)⟩
      refine ⟨_, rfl, rfl, _, rfl, ite2 (fun c1 => absurd c1 (two (by decide))) (fun _ => ?_)⟩
      exact ⟨_, rfl, h, m, rfl, hH.mono st, ok, Told.mono q st⟩
end
end Wq

namespace Wq
open PySem PySem.Spec PyProof.Rows L2 Wp
/-- a def as the top has left it -/
def DefIn (K : PySem.W.Frag) (x qual : Str) (st : Stmt) (f : Addr) : Prop := ∃ (oc : Value) (od an : Option Addr) (sl : Array (Option Value)) (kV dc pm cd ct : Value),
  K.lookup f = some ⟨oc, od, .func (PySem.W.fnOf x qual (defArgs st) (defBody st) (defScope st) .none kV dc pm an cd ct), sl⟩ ∧ PySem.W.codeIn K cd qual = true ∧ PySem.W.keepIn K (.ref f) = true
theorem DefIn.mk {K : PySem.W.Frag} {x qual : Str} {st : Stmt} {f : Addr} {oc : Value} {od an : Option Addr} {sl : Array (Option Value)} {kV dc pm cd ct : Value}
    (l : K.lookup f = some ⟨oc, od, .func (PySem.W.fnOf x qual (defArgs st) (defBody st) (defScope st) .none kV dc pm an cd ct), sl⟩) (c : PySem.W.codeIn K cd qual = true) (k : PySem.W.keepIn K (.ref f) = true) : DefIn K x qual st f :=
  ⟨_, _, _, _, _, _, _, _, _, l, c, k⟩
theorem DefIn.fun {K : PySem.W.Frag} {x qual : Str} {st : Stmt} {f : Addr} (d : DefIn K x qual st f) : ∃ fd, Fun K x qual st f fd := by
  obtain ⟨_, _, _, _, _, _, _, _, _, l, c, k⟩ := d
  exact ⟨_, fun_mk (st := st) l c k⟩
def arity : List Nat := [5, 3, 4, 0, 0, 1, 1, 0, 1, 0]
set_option maxHeartbeats 8000000 in
theorem all_mk {P : Program} {w : World} {K : PySem.W.Frag} {h : Heap} {mg : Str → Option Value} {fa f_shared_divisor f_shared_multiple f_lowest f_without_unknown f_row_at f_solve f_unit_of f_row_in_units f_paid_to f_means f_surplus f_can_pay f_can_pay_from_kept f_equation f_payments_after f_newly_falling f_sink f_greatest_payments f_newly_safe f_least_payments f_is_part f_fraction f_how_many_fall f_paid_and_worth f_answer_begins f_answer_own f_answer_owes f_answer_clear f_answer_least f_lack f_lost_in_falling f_left_unpaid f_all_paid f_greatest_payments_if_safe f_sheet_without f_answer_pays f_answer_need f_answer_needs f_answer_without f_answer_lost f_answer_about f_answer_call f_answers g_House_settle g_House_init g_Payments_init g_Sheet_init CH CS CP ht : Addr} {t_MOST_PARTIES t_NOT_ALLOWED t_NO_SUCH_PARTY t_ALL_PAID_IS_KEPT t_BEGINS t_OWN t_OWES t_CLEAR t_LEAST t_PAYS t_NEED t_NEEDS t_WITHOUT : Nat} {od : Option Addr} {its : Array Value} {nn : Nat} {sl : Array (Option Value)} (X : K.In h) (G : h.Ns mainGlobals mg) (hfa : mg "answers" = some (.ref fa))
    (a_shared_divisor : PySem.W.nsIn K mainGlobals "shared_divisor" = some (some (.ref f_shared_divisor))) (d_shared_divisor : DefIn K "shared_divisor" "shared_divisor" sDivisor f_shared_divisor)
    (a_shared_multiple : PySem.W.nsIn K mainGlobals "shared_multiple" = some (some (.ref f_shared_multiple))) (d_shared_multiple : DefIn K "shared_multiple" "shared_multiple" sMultiple f_shared_multiple)
    (a_lowest : PySem.W.nsIn K mainGlobals "lowest" = some (some (.ref f_lowest))) (d_lowest : DefIn K "lowest" "lowest" sLowest f_lowest)
    (a_without_unknown : PySem.W.nsIn K mainGlobals "without_unknown" = some (some (.ref f_without_unknown))) (d_without_unknown : DefIn K "without_unknown" "without_unknown" sWithout f_without_unknown)
    (a_row_at : PySem.W.nsIn K mainGlobals "row_at" = some (some (.ref f_row_at))) (d_row_at : DefIn K "row_at" "row_at" sRowAt f_row_at)
    (a_solve : PySem.W.nsIn K mainGlobals "solve" = some (some (.ref f_solve))) (d_solve : DefIn K "solve" "solve" sSolve f_solve)
    (a_unit_of : PySem.W.nsIn K mainGlobals "unit_of" = some (some (.ref f_unit_of))) (d_unit_of : DefIn K "unit_of" "unit_of" sUnitOf f_unit_of)
    (a_row_in_units : PySem.W.nsIn K mainGlobals "row_in_units" = some (some (.ref f_row_in_units))) (d_row_in_units : DefIn K "row_in_units" "row_in_units" sRowUnits f_row_in_units)
    (a_paid_to : PySem.W.nsIn K mainGlobals "paid_to" = some (some (.ref f_paid_to))) (d_paid_to : DefIn K "paid_to" "paid_to" sPaidTo f_paid_to)
    (a_means : PySem.W.nsIn K mainGlobals "means" = some (some (.ref f_means))) (d_means : DefIn K "means" "means" sMeans f_means)
    (a_surplus : PySem.W.nsIn K mainGlobals "surplus" = some (some (.ref f_surplus))) (d_surplus : DefIn K "surplus" "surplus" sSurplus f_surplus)
    (a_can_pay : PySem.W.nsIn K mainGlobals "can_pay" = some (some (.ref f_can_pay))) (d_can_pay : DefIn K "can_pay" "can_pay" sCanPay f_can_pay)
    (a_can_pay_from_kept : PySem.W.nsIn K mainGlobals "can_pay_from_kept" = some (some (.ref f_can_pay_from_kept))) (d_can_pay_from_kept : DefIn K "can_pay_from_kept" "can_pay_from_kept" sCanKept f_can_pay_from_kept)
    (a_equation : PySem.W.nsIn K mainGlobals "equation" = some (some (.ref f_equation))) (d_equation : DefIn K "equation" "equation" sEquation f_equation)
    (a_payments_after : PySem.W.nsIn K mainGlobals "payments_after" = some (some (.ref f_payments_after))) (d_payments_after : DefIn K "payments_after" "payments_after" sPayAfter f_payments_after)
    (a_newly_falling : PySem.W.nsIn K mainGlobals "newly_falling" = some (some (.ref f_newly_falling))) (d_newly_falling : DefIn K "newly_falling" "newly_falling" sNewlyFalling f_newly_falling)
    (a_sink : PySem.W.nsIn K mainGlobals "sink" = some (some (.ref f_sink))) (d_sink : DefIn K "sink" "sink" sSink f_sink)
    (a_greatest_payments : PySem.W.nsIn K mainGlobals "greatest_payments" = some (some (.ref f_greatest_payments))) (d_greatest_payments : DefIn K "greatest_payments" "greatest_payments" sGreatest f_greatest_payments)
    (a_newly_safe : PySem.W.nsIn K mainGlobals "newly_safe" = some (some (.ref f_newly_safe))) (d_newly_safe : DefIn K "newly_safe" "newly_safe" sNewlySafe f_newly_safe)
    (a_least_payments : PySem.W.nsIn K mainGlobals "least_payments" = some (some (.ref f_least_payments))) (d_least_payments : DefIn K "least_payments" "least_payments" sLeast f_least_payments)
    (a_is_part : PySem.W.nsIn K mainGlobals "is_part" = some (some (.ref f_is_part))) (d_is_part : DefIn K "is_part" "is_part" sIsPart f_is_part)
    (a_fraction : PySem.W.nsIn K mainGlobals "fraction" = some (some (.ref f_fraction))) (d_fraction : DefIn K "fraction" "fraction" sFraction f_fraction)
    (a_how_many_fall : PySem.W.nsIn K mainGlobals "how_many_fall" = some (some (.ref f_how_many_fall))) (d_how_many_fall : DefIn K "how_many_fall" "how_many_fall" sHowMany f_how_many_fall)
    (a_paid_and_worth : PySem.W.nsIn K mainGlobals "paid_and_worth" = some (some (.ref f_paid_and_worth))) (d_paid_and_worth : DefIn K "paid_and_worth" "paid_and_worth" sPaidWorth f_paid_and_worth)
    (a_answer_begins : PySem.W.nsIn K mainGlobals "answer_begins" = some (some (.ref f_answer_begins))) (d_answer_begins : DefIn K "answer_begins" "answer_begins" sBegins f_answer_begins)
    (a_answer_own : PySem.W.nsIn K mainGlobals "answer_own" = some (some (.ref f_answer_own))) (d_answer_own : DefIn K "answer_own" "answer_own" sOwn f_answer_own)
    (a_answer_owes : PySem.W.nsIn K mainGlobals "answer_owes" = some (some (.ref f_answer_owes))) (d_answer_owes : DefIn K "answer_owes" "answer_owes" sOwes f_answer_owes)
    (a_answer_clear : PySem.W.nsIn K mainGlobals "answer_clear" = some (some (.ref f_answer_clear))) (d_answer_clear : DefIn K "answer_clear" "answer_clear" sClear f_answer_clear)
    (a_answer_least : PySem.W.nsIn K mainGlobals "answer_least" = some (some (.ref f_answer_least))) (d_answer_least : DefIn K "answer_least" "answer_least" sLeastA f_answer_least)
    (a_lack : PySem.W.nsIn K mainGlobals "lack" = some (some (.ref f_lack))) (d_lack : DefIn K "lack" "lack" sLack f_lack)
    (a_lost_in_falling : PySem.W.nsIn K mainGlobals "lost_in_falling" = some (some (.ref f_lost_in_falling))) (d_lost_in_falling : DefIn K "lost_in_falling" "lost_in_falling" sLostIn f_lost_in_falling)
    (a_left_unpaid : PySem.W.nsIn K mainGlobals "left_unpaid" = some (some (.ref f_left_unpaid))) (d_left_unpaid : DefIn K "left_unpaid" "left_unpaid" sLeftUnpaid f_left_unpaid)
    (a_all_paid : PySem.W.nsIn K mainGlobals "all_paid" = some (some (.ref f_all_paid))) (d_all_paid : DefIn K "all_paid" "all_paid" sAllPaid f_all_paid)
    (a_greatest_payments_if_safe : PySem.W.nsIn K mainGlobals "greatest_payments_if_safe" = some (some (.ref f_greatest_payments_if_safe))) (d_greatest_payments_if_safe : DefIn K "greatest_payments_if_safe" "greatest_payments_if_safe" sIfSafe f_greatest_payments_if_safe)
    (a_sheet_without : PySem.W.nsIn K mainGlobals "sheet_without" = some (some (.ref f_sheet_without))) (d_sheet_without : DefIn K "sheet_without" "sheet_without" sSheetWithout f_sheet_without)
    (a_answer_pays : PySem.W.nsIn K mainGlobals "answer_pays" = some (some (.ref f_answer_pays))) (d_answer_pays : DefIn K "answer_pays" "answer_pays" sPays f_answer_pays)
    (a_answer_need : PySem.W.nsIn K mainGlobals "answer_need" = some (some (.ref f_answer_need))) (d_answer_need : DefIn K "answer_need" "answer_need" sNeed f_answer_need)
    (a_answer_needs : PySem.W.nsIn K mainGlobals "answer_needs" = some (some (.ref f_answer_needs))) (d_answer_needs : DefIn K "answer_needs" "answer_needs" sNeeds f_answer_needs)
    (a_answer_without : PySem.W.nsIn K mainGlobals "answer_without" = some (some (.ref f_answer_without))) (d_answer_without : DefIn K "answer_without" "answer_without" sGone f_answer_without)
    (a_answer_lost : PySem.W.nsIn K mainGlobals "answer_lost" = some (some (.ref f_answer_lost))) (d_answer_lost : DefIn K "answer_lost" "answer_lost" sLost f_answer_lost)
    (a_answer_about : PySem.W.nsIn K mainGlobals "answer_about" = some (some (.ref f_answer_about))) (d_answer_about : DefIn K "answer_about" "answer_about" sAbout f_answer_about)
    (a_answer_call : PySem.W.nsIn K mainGlobals "answer_call" = some (some (.ref f_answer_call))) (d_answer_call : DefIn K "answer_call" "answer_call" sAnswerCall f_answer_call)
    (a_answers : PySem.W.nsIn K mainGlobals "answers" = some (some (.ref f_answers))) (d_answers : DefIn K "answers" "answers" sAnswers f_answers)
    (a_House_settle : PySem.W.findIn K (.ref CH) "settle" = some (some (.ref g_House_settle))) (i_House_settle : PySem.W.isFn K (.ref g_House_settle) = true) (d_House_settle : DefIn K "settle" "House.settle" sSettle g_House_settle)
    (a_House_init : PySem.W.findIn K (.ref CH) "__init__" = some (some (.ref g_House_init))) (i_House_init : PySem.W.isFn K (.ref g_House_init) = true) (d_House_init : DefIn K "__init__" "House.__init__" sHouseInit g_House_init)
    (a_Payments_init : PySem.W.findIn K (.ref CP) "__init__" = some (some (.ref g_Payments_init))) (i_Payments_init : PySem.W.isFn K (.ref g_Payments_init) = true) (d_Payments_init : DefIn K "__init__" "Payments.__init__" sPayInit g_Payments_init)
    (a_Sheet_init : PySem.W.findIn K (.ref CS) "__init__" = some (some (.ref g_Sheet_init))) (i_Sheet_init : PySem.W.isFn K (.ref g_Sheet_init) = true) (d_Sheet_init : DefIn K "__init__" "Sheet.__init__" sSheetInit g_Sheet_init)
    (c_House : PySem.W.nsIn K mainGlobals "House" = some (some (.ref CH))) (pg_House : PySem.W.plainGet K CH Str.empty = true) (hd_House : PySem.W.hasDictIn K CH = true) (po_House : PySem.W.plainOver K CH = true) (sa_House : PySem.W.findIn K (.ref CH) "__setattr__" = some (some (.builtin "object.__setattr__"))) (mk_House : PySem.W.makesIn K CH = true) (kc_House : PySem.W.keepIn K (.ref CH) = true)
    (n_House_parties : PySem.W.findIn K (.ref CH) "parties" = some none)
    (n_House_kept_own : PySem.W.findIn K (.ref CH) "kept_own" = some none)
    (n_House_kept_paid : PySem.W.findIn K (.ref CH) "kept_paid" = some none)
    (n_House_own : PySem.W.findIn K (.ref CH) "own" = some none)
    (n_House_owed : PySem.W.findIn K (.ref CH) "owed" = some none)
    (c_Sheet : PySem.W.nsIn K mainGlobals "Sheet" = some (some (.ref CS))) (pg_Sheet : PySem.W.plainGet K CS Str.empty = true) (hd_Sheet : PySem.W.hasDictIn K CS = true) (po_Sheet : PySem.W.plainOver K CS = true) (sa_Sheet : PySem.W.findIn K (.ref CS) "__setattr__" = some (some (.builtin "object.__setattr__"))) (mk_Sheet : PySem.W.makesIn K CS = true) (kc_Sheet : PySem.W.keepIn K (.ref CS) = true)
    (n_Sheet_unit : PySem.W.findIn K (.ref CS) "unit" = some none)
    (n_Sheet_parties : PySem.W.findIn K (.ref CS) "parties" = some none)
    (n_Sheet_own : PySem.W.findIn K (.ref CS) "own" = some none)
    (n_Sheet_owed : PySem.W.findIn K (.ref CS) "owed" = some none)
    (n_Sheet_debts : PySem.W.findIn K (.ref CS) "debts" = some none)
    (n_Sheet_kept_whole : PySem.W.findIn K (.ref CS) "kept_whole" = some none)
    (n_Sheet_kept_own : PySem.W.findIn K (.ref CS) "kept_own" = some none)
    (n_Sheet_kept_paid : PySem.W.findIn K (.ref CS) "kept_paid" = some none)
    (c_Payments : PySem.W.nsIn K mainGlobals "Payments" = some (some (.ref CP))) (pg_Payments : PySem.W.plainGet K CP Str.empty = true) (hd_Payments : PySem.W.hasDictIn K CP = true) (po_Payments : PySem.W.plainOver K CP = true) (sa_Payments : PySem.W.findIn K (.ref CP) "__setattr__" = some (some (.builtin "object.__setattr__"))) (mk_Payments : PySem.W.makesIn K CP = true) (kc_Payments : PySem.W.keepIn K (.ref CP) = true)
    (n_Payments_below : PySem.W.findIn K (.ref CP) "below" = some none)
    (n_Payments_above : PySem.W.findIn K (.ref CP) "above" = some none)
    (n_Payments_fell : PySem.W.findIn K (.ref CP) "fell" = some none)
    (k_MOST_PARTIES : PySem.W.nsIn K mainGlobals "MOST_PARTIES" = some (some (.int (8) t_MOST_PARTIES)))
    (k_NOT_ALLOWED : PySem.W.nsIn K mainGlobals "NOT_ALLOWED" = some (some (.int (-1) t_NOT_ALLOWED)))
    (k_NO_SUCH_PARTY : PySem.W.nsIn K mainGlobals "NO_SUCH_PARTY" = some (some (.int (-2) t_NO_SUCH_PARTY)))
    (k_ALL_PAID_IS_KEPT : PySem.W.nsIn K mainGlobals "ALL_PAID_IS_KEPT" = some (some (.int (-6) t_ALL_PAID_IS_KEPT)))
    (k_BEGINS : PySem.W.nsIn K mainGlobals "BEGINS" = some (some (.int (0) t_BEGINS)))
    (k_OWN : PySem.W.nsIn K mainGlobals "OWN" = some (some (.int (1) t_OWN)))
    (k_OWES : PySem.W.nsIn K mainGlobals "OWES" = some (some (.int (2) t_OWES)))
    (k_CLEAR : PySem.W.nsIn K mainGlobals "CLEAR" = some (some (.int (3) t_CLEAR)))
    (k_LEAST : PySem.W.nsIn K mainGlobals "LEAST" = some (some (.int (4) t_LEAST)))
    (k_PAYS : PySem.W.nsIn K mainGlobals "PAYS" = some (some (.int (5) t_PAYS)))
    (k_NEED : PySem.W.nsIn K mainGlobals "NEED" = some (some (.int (6) t_NEED)))
    (k_NEEDS : PySem.W.nsIn K mainGlobals "NEEDS" = some (some (.int (7) t_NEEDS)))
    (k_WITHOUT : PySem.W.nsIn K mainGlobals "WITHOUT" = some (some (.int (8) t_WITHOUT)))
    (k_HANDED : PySem.W.nsIn K mainGlobals "HANDED_OVER" = some (some (.ref ht))) (l_HANDED : K.lookup ht = some ⟨.type "tuple", od, .seq its nn, sl⟩) (v_HANDED : Vals (nL arity) its.toList) (z_HANDED : its.size ≤ sizeLine)
    (z_range : PySem.W.nsIn K mainGlobals "range" = some none)
    (z_len : PySem.W.nsIn K mainGlobals "len" = some none)
    (z_sum : PySem.W.nsIn K mainGlobals "sum" = some none)
    (z_max : PySem.W.nsIn K mainGlobals "max" = some none)
    (z_list : PySem.W.nsIn K mainGlobals "list" = some none)
    (z_tuple : PySem.W.nsIn K mainGlobals "tuple" = some none) :
    ∃ fd : FuncData, (∀ (s : Shared) (us : List Value), us.length = (["calls"] : List Str).length → BindsTo s fd ⟨us, []⟩ ((["calls"] : List Str).zip us)) ∧ ∀ base : Heap, K.In base → base.Ns mainGlobals mg → FnOk P w K mg base CX0 11 fa fd ["calls"] (spAnswers K) := by
  have e := hfa.symm.trans (PySem.W.mg_of X G a_answers)
  cases e
  have B : Env mg := ⟨PySem.W.mg_none_of X G z_range, PySem.W.mg_none_of X G z_len, PySem.W.mg_none_of X G z_sum, PySem.W.mg_none_of X G z_max, PySem.W.mg_none_of X G z_list, PySem.W.mg_none_of X G z_tuple⟩
  have N : Consts mg := ⟨⟨_, PySem.W.mg_of X G k_MOST_PARTIES⟩, ⟨_, PySem.W.mg_of X G k_NOT_ALLOWED⟩, ⟨_, PySem.W.mg_of X G k_NO_SUCH_PARTY⟩, ⟨_, PySem.W.mg_of X G k_ALL_PAID_IS_KEPT⟩⟩
  have W : Calls mg := ⟨⟨_, PySem.W.mg_of X G k_BEGINS⟩, ⟨_, PySem.W.mg_of X G k_OWN⟩, ⟨_, PySem.W.mg_of X G k_OWES⟩, ⟨_, PySem.W.mg_of X G k_CLEAR⟩, ⟨_, PySem.W.mg_of X G k_LEAST⟩, ⟨_, PySem.W.mg_of X G k_PAYS⟩, ⟨_, PySem.W.mg_of X G k_NEED⟩, ⟨_, PySem.W.mg_of X G k_NEEDS⟩, ⟨_, PySem.W.mg_of X G k_WITHOUT⟩⟩
  have TH : CHouse K mg CH := ⟨⟨pg_House, hd_House, po_House, sa_House⟩, PySem.W.mg_of X G c_House, n_House_parties, n_House_kept_own, n_House_kept_paid, n_House_own, n_House_owed⟩
  have TS : CSheet K mg CS := ⟨⟨pg_Sheet, hd_Sheet, po_Sheet, sa_Sheet⟩, PySem.W.mg_of X G c_Sheet, n_Sheet_unit, n_Sheet_parties, n_Sheet_own, n_Sheet_owed, n_Sheet_debts, n_Sheet_kept_whole, n_Sheet_kept_own, n_Sheet_kept_paid⟩
  have TP : CPay K mg CP := ⟨⟨pg_Payments, hd_Payments, po_Payments, sa_Payments⟩, PySem.W.mg_of X G c_Payments, n_Payments_below, n_Payments_above, n_Payments_fell⟩
  obtain ⟨oc, od2, an, sl2, kV, dc, pm, cd, ct, l, c, k⟩ := d_answers
  refine ⟨PySem.W.fnOf "answers" "answers" (defArgs sAnswers) (defBody sAnswers) (defScope sAnswers) .none kV dc pm an cd ct, fun s us hu => match us, hu with | [_], _ => .of_eq rfl, fun base _ _ => ?_⟩
  have FA := fun_mk (st := sAnswers) l c k
  obtain ⟨fd_House_settle, F⟩ := d_House_settle.fun
  have b_House_settle : Binds K fd_House_settle ["self", "parties", "kept_own", "kept_paid"] [] := F.binds (ps := ["self", "parties", "kept_own", "kept_paid"]) fun _ _ _ _ _ _ us hl => match us, hl with | [_, _, _, _], _ => rfl
  have m_House_settle : Meth K CH "settle" g_House_settle := ⟨a_House_settle, i_House_settle, F.kp⟩
  have G_House_settle : FnOk P w K mg base CX0 1 g_House_settle fd_House_settle ["self", "parties", "kept_own", "kept_paid"] (spSettle CH) := ok_settle F B TH
  clear F
  obtain ⟨fd_House_init, F⟩ := d_House_init.fun
  have b_House_init : Binds K fd_House_init ["self"] [] := F.binds (ps := ["self"]) fun _ _ _ _ _ _ us hl => match us, hl with | [_], _ => rfl
  have M_House : Mk K CH g_House_init := ⟨mk_House, a_House_init, i_House_init, kc_House⟩
  have G_House_init : FnOk P w K mg base CX0 2 g_House_init fd_House_init ["self"] (spHouseInit CH) := ok_houseInit F TH m_House_settle G_House_settle b_House_settle
  clear F
  obtain ⟨fd_Payments_init, F⟩ := d_Payments_init.fun
  have b_Payments_init : Binds K fd_Payments_init ["self", "below", "above", "fell"] [] := F.binds (ps := ["self", "below", "above", "fell"]) fun _ _ _ _ _ _ us hl => match us, hl with | [_, _, _, _], _ => rfl
  have M_Payments : Mk K CP g_Payments_init := ⟨mk_Payments, a_Payments_init, i_Payments_init, kc_Payments⟩
  have G_Payments_init : FnOk P w K mg base CX0 1 g_Payments_init fd_Payments_init ["self", "below", "above", "fell"] (spPayInit CP) := ok_payInit F TP
  clear F
  obtain ⟨fd_shared_divisor, F⟩ := d_shared_divisor.fun
  have D_shared_divisor : Def P w K mg base 1 "shared_divisor" ["a", "b"] spDivisor f_shared_divisor fd_shared_divisor := ⟨ok_divisor F, PySem.W.mg_of X G a_shared_divisor, F.kp, F.binds (ps := ["a", "b"]) fun _ _ _ _ _ _ us hl => match us, hl with | [_, _], _ => rfl⟩
  clear F
  obtain ⟨fd_shared_multiple, F⟩ := d_shared_multiple.fun
  have D_shared_multiple : Def P w K mg base 2 "shared_multiple" ["a", "b"] spMultiple f_shared_multiple fd_shared_multiple := ⟨ok_multiple F D_shared_divisor, PySem.W.mg_of X G a_shared_multiple, F.kp, F.binds (ps := ["a", "b"]) fun _ _ _ _ _ _ us hl => match us, hl with | [_, _], _ => rfl⟩
  clear F
  obtain ⟨fd_lowest, F⟩ := d_lowest.fun
  have D_lowest : Def P w K mg base 2 "lowest" ["above", "below"] spLowest f_lowest fd_lowest := ⟨ok_lowest F D_shared_divisor, PySem.W.mg_of X G a_lowest, F.kp, F.binds (ps := ["above", "below"]) fun _ _ _ _ _ _ us hl => match us, hl with | [_, _], _ => rfl⟩
  clear F
  obtain ⟨fd_without_unknown, F⟩ := d_without_unknown.fun
  have D_without_unknown : Def P w K mg base 1 "without_unknown" ["row", "chosen", "k", "before"] (spWithout K) f_without_unknown fd_without_unknown := ⟨ok_without F B.range B.len, PySem.W.mg_of X G a_without_unknown, F.kp, F.binds (ps := ["row", "chosen", "k", "before"]) fun _ _ _ _ _ _ us hl => match us, hl with | [_, _, _, _], _ => rfl⟩
  clear F
  obtain ⟨fd_row_at, F⟩ := d_row_at.fun
  have D_row_at : Def P w K mg base 2 "row_at" ["rows", "i", "k", "before"] (spRowAt K) f_row_at fd_row_at := ⟨ok_rowAt F D_without_unknown, PySem.W.mg_of X G a_row_at, F.kp, F.binds (ps := ["rows", "i", "k", "before"]) fun _ _ _ _ _ _ us hl => match us, hl with | [_, _, _, _], _ => rfl⟩
  clear F
  obtain ⟨fd_solve, F⟩ := d_solve.fun
  have D_solve : Def P w K mg base 3 "solve" ["rows"] spSolve f_solve fd_solve := ⟨ok_solve F D_row_at B.range B.len, PySem.W.mg_of X G a_solve, F.kp, F.binds (ps := ["rows"]) fun _ _ _ _ _ _ us hl => match us, hl with | [_], _ => rfl⟩
  clear F
  obtain ⟨fd_unit_of, F⟩ := d_unit_of.fun
  have D_unit_of : Def P w K mg base 3 "unit_of" ["house"] (spUnitOf CH) f_unit_of fd_unit_of := ⟨ok_unitOf F TH D_shared_multiple, PySem.W.mg_of X G a_unit_of, F.kp, F.binds (ps := ["house"]) fun _ _ _ _ _ _ us hl => match us, hl with | [_], _ => rfl⟩
  clear F
  obtain ⟨fd_row_in_units, F⟩ := d_row_in_units.fun
  have D_row_in_units : Def P w K mg base 1 "row_in_units" ["row", "unit"] spRowUnits f_row_in_units fd_row_in_units := ⟨ok_rowUnits F, PySem.W.mg_of X G a_row_in_units, F.kp, F.binds (ps := ["row", "unit"]) fun _ _ _ _ _ _ us hl => match us, hl with | [_, _], _ => rfl⟩
  clear F
  obtain ⟨fd_Sheet_init, F⟩ := d_Sheet_init.fun
  have b_Sheet_init : Binds K fd_Sheet_init ["self", "house"] [] := F.binds (ps := ["self", "house"]) fun _ _ _ _ _ _ us hl => match us, hl with | [_, _], _ => rfl
  have M_Sheet : Mk K CS g_Sheet_init := ⟨mk_Sheet, a_Sheet_init, i_Sheet_init, kc_Sheet⟩
  have G_Sheet_init : FnOk P w K mg base CX0 4 g_Sheet_init fd_Sheet_init ["self", "house"] (spSheetInit CS CH) := ok_sheetInit F B TS TH D_unit_of D_row_in_units
  clear F
  obtain ⟨fd_paid_to, F⟩ := d_paid_to.fun
  have D_paid_to : Def P w K mg base 1 "paid_to" ["sheet", "payments", "i"] (spRead CS CP fun s p i => .int (paidTo s p i)) f_paid_to fd_paid_to := ⟨ok_paidTo F B TS TP, PySem.W.mg_of X G a_paid_to, F.kp, F.binds (ps := ["sheet", "payments", "i"]) fun _ _ _ _ _ _ us hl => match us, hl with | [_, _, _], _ => rfl⟩
  clear F
  obtain ⟨fd_means, F⟩ := d_means.fun
  have D_means : Def P w K mg base 2 "means" ["sheet", "payments", "i"] (spRead CS CP fun s p i => .int (meansM s p i)) f_means fd_means := ⟨ok_means F TS TP D_paid_to, PySem.W.mg_of X G a_means, F.kp, F.binds (ps := ["sheet", "payments", "i"]) fun _ _ _ _ _ _ us hl => match us, hl with | [_, _, _], _ => rfl⟩
  clear F
  obtain ⟨fd_surplus, F⟩ := d_surplus.fun
  have D_surplus : Def P w K mg base 3 "surplus" ["sheet", "payments", "i"] (spRead CS CP fun s p i => .int (surplusM s p i)) f_surplus fd_surplus := ⟨ok_surplus F TS TP D_means, PySem.W.mg_of X G a_surplus, F.kp, F.binds (ps := ["sheet", "payments", "i"]) fun _ _ _ _ _ _ us hl => match us, hl with | [_, _, _], _ => rfl⟩
  clear F
  obtain ⟨fd_can_pay, F⟩ := d_can_pay.fun
  have D_can_pay : Def P w K mg base 4 "can_pay" ["sheet", "payments", "i"] (spRead CS CP fun s p i => .bl (canM s p i)) f_can_pay fd_can_pay := ⟨ok_canPay F D_surplus, PySem.W.mg_of X G a_can_pay, F.kp, F.binds (ps := ["sheet", "payments", "i"]) fun _ _ _ _ _ _ us hl => match us, hl with | [_, _, _], _ => rfl⟩
  clear F
  obtain ⟨fd_can_pay_from_kept, F⟩ := d_can_pay_from_kept.fun
  have D_can_pay_from_kept : Def P w K mg base 2 "can_pay_from_kept" ["sheet", "payments", "i"] (spRead CS CP fun s p i => .bl (keptM s p i)) f_can_pay_from_kept fd_can_pay_from_kept := ⟨ok_canKept F TS TP D_paid_to, PySem.W.mg_of X G a_can_pay_from_kept, F.kp, F.binds (ps := ["sheet", "payments", "i"]) fun _ _ _ _ _ _ us hl => match us, hl with | [_, _, _], _ => rfl⟩
  clear F
  obtain ⟨fd_equation, F⟩ := d_equation.fun
  have D_equation : Def P w K mg base 1 "equation" ["sheet", "fell", "i"] (spEquation CS) f_equation fd_equation := ⟨ok_equation F B TS, PySem.W.mg_of X G a_equation, F.kp, F.binds (ps := ["sheet", "fell", "i"]) fun _ _ _ _ _ _ us hl => match us, hl with | [_, _, _], _ => rfl⟩
  clear F
  obtain ⟨fd_payments_after, F⟩ := d_payments_after.fun
  have D_payments_after : Def P w K mg base 4 "payments_after" ["sheet", "fell"] (spPayAfter CS CP) f_payments_after fd_payments_after := ⟨ok_payAfter F B TS TP D_solve D_equation M_Payments G_Payments_init b_Payments_init, PySem.W.mg_of X G a_payments_after, F.kp, F.binds (ps := ["sheet", "fell"]) fun _ _ _ _ _ _ us hl => match us, hl with | [_, _], _ => rfl⟩
  clear F
  obtain ⟨fd_newly_falling, F⟩ := d_newly_falling.fun
  have D_newly_falling : Def P w K mg base 5 "newly_falling" ["sheet", "payments", "safe", "stands"] (spNewlyFalling P w K mg base CS CP) f_newly_falling fd_newly_falling := ⟨ok_newlyFalling F B TS TP, PySem.W.mg_of X G a_newly_falling, F.kp, F.binds (ps := ["sheet", "payments", "safe", "stands"]) fun _ _ _ _ _ _ us hl => match us, hl with | [_, _, _, _], _ => rfl⟩
  clear F
  obtain ⟨fd_sink, F⟩ := d_sink.fun
  have D_sink : Def P w K mg base 6 "sink" ["sheet", "safe", "stands"] (spSink P w K mg base CS CP) f_sink fd_sink := ⟨ok_sink F B TS D_payments_after D_newly_falling, PySem.W.mg_of X G a_sink, F.kp, F.binds (ps := ["sheet", "safe", "stands"]) fun _ _ _ _ _ _ us hl => match us, hl with | [_, _, _], _ => rfl⟩
  clear F
  obtain ⟨fd_greatest_payments, F⟩ := d_greatest_payments.fun
  have D_greatest_payments : Def P w K mg base 7 "greatest_payments" ["sheet"] (spGreatest CS CP) f_greatest_payments fd_greatest_payments := ⟨ok_greatest F TS D_sink ⟨D_can_pay.ok, D_can_pay.kp, D_can_pay.b⟩ D_can_pay.here, PySem.W.mg_of X G a_greatest_payments, F.kp, F.binds (ps := ["sheet"]) fun _ _ _ _ _ _ us hl => match us, hl with | [_], _ => rfl⟩
  clear F
  obtain ⟨fd_newly_safe, F⟩ := d_newly_safe.fun
  have D_newly_safe : Def P w K mg base 5 "newly_safe" ["sheet", "payments", "safe"] (spNewlySafe CS CP) f_newly_safe fd_newly_safe := ⟨ok_newlySafe F B TS D_can_pay, PySem.W.mg_of X G a_newly_safe, F.kp, F.binds (ps := ["sheet", "payments", "safe"]) fun _ _ _ _ _ _ us hl => match us, hl with | [_, _, _], _ => rfl⟩
  clear F
  obtain ⟨fd_least_payments, F⟩ := d_least_payments.fun
  have D_least_payments : Def P w K mg base 7 "least_payments" ["sheet"] (spLeast CS CP) f_least_payments fd_least_payments := ⟨ok_least F B TS D_sink ⟨D_can_pay_from_kept.ok.mono (by decide), D_can_pay_from_kept.kp, D_can_pay_from_kept.b⟩ D_can_pay_from_kept.here D_newly_safe, PySem.W.mg_of X G a_least_payments, F.kp, F.binds (ps := ["sheet"]) fun _ _ _ _ _ _ us hl => match us, hl with | [_], _ => rfl⟩
  clear F
  obtain ⟨fd_is_part, F⟩ := d_is_part.fun
  have D_is_part : Def P w K mg base 1 "is_part" ["a", "b"] spIsPart f_is_part fd_is_part := ⟨ok_isPart F, PySem.W.mg_of X G a_is_part, F.kp, F.binds (ps := ["a", "b"]) fun _ _ _ _ _ _ us hl => match us, hl with | [_, _], _ => rfl⟩
  clear F
  obtain ⟨fd_fraction, F⟩ := d_fraction.fun
  have D_fraction : Def P w K mg base 3 "fraction" ["a", "b"] spFraction f_fraction fd_fraction := ⟨ok_fraction F B D_lowest, PySem.W.mg_of X G a_fraction, F.kp, F.binds (ps := ["a", "b"]) fun _ _ _ _ _ _ us hl => match us, hl with | [_, _], _ => rfl⟩
  clear F
  obtain ⟨fd_how_many_fall, F⟩ := d_how_many_fall.fun
  have D_how_many_fall : Def P w K mg base 1 "how_many_fall" ["payments"] (spHowMany CP) f_how_many_fall fd_how_many_fall := ⟨ok_howMany F B TP, PySem.W.mg_of X G a_how_many_fall, F.kp, F.binds (ps := ["payments"]) fun _ _ _ _ _ _ us hl => match us, hl with | [_], _ => rfl⟩
  clear F
  obtain ⟨fd_paid_and_worth, F⟩ := d_paid_and_worth.fun
  have D_paid_and_worth : Def P w K mg base 4 "paid_and_worth" ["sheet", "payments"] (spPaidWorth CS CP) f_paid_and_worth fd_paid_and_worth := ⟨ok_paidWorth F B TS TP D_lowest D_surplus, PySem.W.mg_of X G a_paid_and_worth, F.kp, F.binds (ps := ["sheet", "payments"]) fun _ _ _ _ _ _ us hl => match us, hl with | [_, _], _ => rfl⟩
  clear F
  obtain ⟨fd_answer_begins, F⟩ := d_answer_begins.fun
  have D_answer_begins : Def P w K mg base 4 "answer_begins" ["house", "n", "a", "b", "c", "d"] (spBegins CH) f_answer_begins fd_answer_begins := ⟨ok_begins F TH N m_House_settle G_House_settle b_House_settle D_is_part D_fraction, PySem.W.mg_of X G a_answer_begins, F.kp, F.binds (ps := ["house", "n", "a", "b", "c", "d"]) fun _ _ _ _ _ _ us hl => match us, hl with | [_, _, _, _, _, _], _ => rfl⟩
  clear F
  obtain ⟨fd_answer_own, F⟩ := d_answer_own.fun
  have D_answer_own : Def P w K mg base 4 "answer_own" ["house", "i", "a", "b"] (spOwn CH) f_answer_own fd_answer_own := ⟨ok_own F TH N D_fraction, PySem.W.mg_of X G a_answer_own, F.kp, F.binds (ps := ["house", "i", "a", "b"]) fun _ _ _ _ _ _ us hl => match us, hl with | [_, _, _, _], _ => rfl⟩
  clear F
  obtain ⟨fd_answer_owes, F⟩ := d_answer_owes.fun
  have D_answer_owes : Def P w K mg base 4 "answer_owes" ["house", "i", "j", "a", "b"] (spOwes CH) f_answer_owes fd_answer_owes := ⟨ok_owes F TH N D_fraction, PySem.W.mg_of X G a_answer_owes, F.kp, F.binds (ps := ["house", "i", "j", "a", "b"]) fun _ _ _ _ _ _ us hl => match us, hl with | [_, _, _, _, _], _ => rfl⟩
  clear F
  obtain ⟨fd_answer_clear, F⟩ := d_answer_clear.fun
  have D_answer_clear : Def P w K mg base 8 "answer_clear" ["house"] (spTell CH clearA) f_answer_clear fd_answer_clear := ⟨ok_clear F TS TP M_Sheet G_Sheet_init b_Sheet_init D_greatest_payments D_how_many_fall D_paid_and_worth, PySem.W.mg_of X G a_answer_clear, F.kp, F.binds (ps := ["house"]) fun _ _ _ _ _ _ us hl => match us, hl with | [_], _ => rfl⟩
  clear F
  obtain ⟨fd_answer_least, F⟩ := d_answer_least.fun
  have D_answer_least : Def P w K mg base 8 "answer_least" ["house"] (spTell CH leastA) f_answer_least fd_answer_least := ⟨ok_leastA F TH N TS M_Sheet G_Sheet_init b_Sheet_init D_least_payments D_how_many_fall D_paid_and_worth, PySem.W.mg_of X G a_answer_least, F.kp, F.binds (ps := ["house"]) fun _ _ _ _ _ _ us hl => match us, hl with | [_], _ => rfl⟩
  clear F
  obtain ⟨fd_lack, F⟩ := d_lack.fun
  have D_lack : Def P w K mg base 4 "lack" ["sheet", "payments", "i"] (spRead CS CP fun s p i => .int (lackM s p i)) f_lack fd_lack := ⟨ok_lack F B D_surplus, PySem.W.mg_of X G a_lack, F.kp, F.binds (ps := ["sheet", "payments", "i"]) fun _ _ _ _ _ _ us hl => match us, hl with | [_, _, _], _ => rfl⟩
  clear F
  obtain ⟨fd_lost_in_falling, F⟩ := d_lost_in_falling.fun
  have D_lost_in_falling : Def P w K mg base 3 "lost_in_falling" ["sheet", "payments"] (spSum CS CP fun s p => .int (lostM s p)) f_lost_in_falling fd_lost_in_falling := ⟨ok_lostIn F B TS TP D_means, PySem.W.mg_of X G a_lost_in_falling, F.kp, F.binds (ps := ["sheet", "payments"]) fun _ _ _ _ _ _ us hl => match us, hl with | [_, _], _ => rfl⟩
  clear F
  obtain ⟨fd_left_unpaid, F⟩ := d_left_unpaid.fun
  have D_left_unpaid : Def P w K mg base 1 "left_unpaid" ["sheet", "payments"] (spSum CS CP fun s p => .int (unpaidM s p)) f_left_unpaid fd_left_unpaid := ⟨ok_leftUnpaid F B TS TP, PySem.W.mg_of X G a_left_unpaid, F.kp, F.binds (ps := ["sheet", "payments"]) fun _ _ _ _ _ _ us hl => match us, hl with | [_, _], _ => rfl⟩
  clear F
  obtain ⟨fd_all_paid, F⟩ := d_all_paid.fun
  have D_all_paid : Def P w K mg base 3 "all_paid" ["sheet"] (spAllPaid CS CP) f_all_paid fd_all_paid := ⟨ok_allPaid F TS TP M_Payments G_Payments_init b_Payments_init, PySem.W.mg_of X G a_all_paid, F.kp, F.binds (ps := ["sheet"]) fun _ _ _ _ _ _ us hl => match us, hl with | [_], _ => rfl⟩
  clear F
  obtain ⟨fd_greatest_payments_if_safe, F⟩ := d_greatest_payments_if_safe.fun
  have D_greatest_payments_if_safe : Def P w K mg base 7 "greatest_payments_if_safe" ["sheet", "i"] (spIfSafe CS CP) f_greatest_payments_if_safe fd_greatest_payments_if_safe := ⟨ok_ifSafe F B TS D_sink ⟨D_can_pay.ok, D_can_pay.kp, D_can_pay.b⟩ D_can_pay.here, PySem.W.mg_of X G a_greatest_payments_if_safe, F.kp, F.binds (ps := ["sheet", "i"]) fun _ _ _ _ _ _ us hl => match us, hl with | [_, _], _ => rfl⟩
  clear F
  obtain ⟨fd_sheet_without, F⟩ := d_sheet_without.fun
  have D_sheet_without : Def P w K mg base 6 "sheet_without" ["house", "i"] (spSheetWithout CH CS) f_sheet_without fd_sheet_without := ⟨ok_sheetWithout F TS M_Sheet G_Sheet_init b_Sheet_init, PySem.W.mg_of X G a_sheet_without, F.kp, F.binds (ps := ["house", "i"]) fun _ _ _ _ _ _ us hl => match us, hl with | [_, _], _ => rfl⟩
  clear F
  obtain ⟨fd_answer_pays, F⟩ := d_answer_pays.fun
  have D_answer_pays : Def P w K mg base 8 "answer_pays" ["house", "i"] (spAsk CH paysA) f_answer_pays fd_answer_pays := ⟨ok_pays F TS TP M_Sheet G_Sheet_init b_Sheet_init D_greatest_payments D_lowest, PySem.W.mg_of X G a_answer_pays, F.kp, F.binds (ps := ["house", "i"]) fun _ _ _ _ _ _ us hl => match us, hl with | [_, _], _ => rfl⟩
  clear F
  obtain ⟨fd_answer_need, F⟩ := d_answer_need.fun
  have D_answer_need : Def P w K mg base 8 "answer_need" ["house", "i"] (spAsk CH needA) f_answer_need fd_answer_need := ⟨ok_need F TS TP M_Sheet G_Sheet_init b_Sheet_init D_greatest_payments_if_safe D_lowest D_lack, PySem.W.mg_of X G a_answer_need, F.kp, F.binds (ps := ["house", "i"]) fun _ _ _ _ _ _ us hl => match us, hl with | [_, _], _ => rfl⟩
  clear F
  obtain ⟨fd_answer_needs, F⟩ := d_answer_needs.fun
  have D_answer_needs : Def P w K mg base 8 "answer_needs" ["house"] (spTell CH needsA) f_answer_needs fd_answer_needs := ⟨ok_needs F B TS TP M_Sheet G_Sheet_init b_Sheet_init D_all_paid D_lowest D_lack, PySem.W.mg_of X G a_answer_needs, F.kp, F.binds (ps := ["house"]) fun _ _ _ _ _ _ us hl => match us, hl with | [_], _ => rfl⟩
  clear F
  obtain ⟨fd_answer_without, F⟩ := d_answer_without.fun
  have D_answer_without : Def P w K mg base 8 "answer_without" ["house", "i"] (spAsk CH withoutA) f_answer_without fd_answer_without := ⟨ok_gone F B TH TS TP M_Sheet G_Sheet_init b_Sheet_init D_greatest_payments D_sheet_without, PySem.W.mg_of X G a_answer_without, F.kp, F.binds (ps := ["house", "i"]) fun _ _ _ _ _ _ us hl => match us, hl with | [_, _], _ => rfl⟩
  clear F
  obtain ⟨fd_answer_lost, F⟩ := d_answer_lost.fun
  have D_answer_lost : Def P w K mg base 8 "answer_lost" ["house"] (spTell CH lostA) f_answer_lost fd_answer_lost := ⟨ok_lost F TS TP M_Sheet G_Sheet_init b_Sheet_init D_greatest_payments D_lowest D_lost_in_falling D_left_unpaid, PySem.W.mg_of X G a_answer_lost, F.kp, F.binds (ps := ["house"]) fun _ _ _ _ _ _ us hl => match us, hl with | [_], _ => rfl⟩
  clear F
  obtain ⟨fd_answer_about, F⟩ := d_answer_about.fun
  have D_answer_about : Def P w K mg base 9 "answer_about" ["house", "call", "i"] (spAbout CH) f_answer_about fd_answer_about := ⟨ok_about F TH N W D_answer_pays D_answer_need D_answer_without, PySem.W.mg_of X G a_answer_about, F.kp, F.binds (ps := ["house", "call", "i"]) fun _ _ _ _ _ _ us hl => match us, hl with | [_, _, _], _ => rfl⟩
  clear F
  obtain ⟨fd_answer_call, F⟩ := d_answer_call.fun
  have D_answer_call : Def P w K mg base 10 "answer_call" ["house", "call", "handed"] (spCall CH stepH) f_answer_call fd_answer_call := ⟨ok_answerCall F W D_answer_begins D_answer_own D_answer_owes D_answer_clear D_answer_least D_answer_about D_answer_needs D_answer_lost, PySem.W.mg_of X G a_answer_call, F.kp, F.binds (ps := ["house", "call", "handed"]) fun _ _ _ _ _ _ us hl => match us, hl with | [_, _, _], _ => rfl⟩
  clear F
  exact ok_answers (k2 := 7) FA B TH stepOk M_House G_House_init b_House_init D_answer_call (PySem.W.mg_of X G k_HANDED) (fun H => .inr ⟨_, _, _, l_HANDED, rfl, rfl, z_HANDED, v_HANDED⟩) arity_ok
end Wq

open PySem PySem.W PyProof.Rows
set_option maxRecDepth 100000 in
set_option maxHeartbeats 8000000 in
theorem PySem.Challenge.cw_whopays_s01_answers_holds : PySem.Challenge.rw_whopays_s01_answers.Holds := by
  w_on; k_headS; (case hw => exact ⟨[.list [.int 3]], by decide +kernel, by decide +kernel⟩)
  k_fillS
  refine L2.walk_specK (r := PySem.Challenge.rw_whopays_s01_answers) (k := 11) (CX := L2.CX0) (ps := ["calls"]) (sp := Wq.spAnswers) (by decide +kernel) rfl rfl ⟨rfl, by decide, by decide⟩ (fun w h Y => PySem.W.kIn_of Y) ?F ?S (fun _ _ _ _ z => z)
  case F =>
    intro w mg fa h Y KX G hmg
    refine' Wq.all_mk KX G hmg ?a_shared_divisor ?d_shared_divisor ?a_shared_multiple ?d_shared_multiple ?a_lowest ?d_lowest ?a_without_unknown ?d_without_unknown ?a_row_at ?d_row_at ?a_solve ?d_solve ?a_unit_of ?d_unit_of ?a_row_in_units ?d_row_in_units ?a_paid_to ?d_paid_to ?a_means ?d_means ?a_surplus ?d_surplus ?a_can_pay ?d_can_pay ?a_can_pay_from_kept ?d_can_pay_from_kept ?a_equation ?d_equation ?a_payments_after ?d_payments_after ?a_newly_falling ?d_newly_falling ?a_sink ?d_sink ?a_greatest_payments ?d_greatest_payments ?a_newly_safe ?d_newly_safe ?a_least_payments ?d_least_payments ?a_is_part ?d_is_part ?a_fraction ?d_fraction ?a_how_many_fall ?d_how_many_fall ?a_paid_and_worth ?d_paid_and_worth ?a_answer_begins ?d_answer_begins ?a_answer_own ?d_answer_own ?a_answer_owes ?d_answer_owes ?a_answer_clear ?d_answer_clear ?a_answer_least ?d_answer_least ?a_lack ?d_lack ?a_lost_in_falling ?d_lost_in_falling ?a_left_unpaid ?d_left_unpaid ?a_all_paid ?d_all_paid ?a_greatest_payments_if_safe ?d_greatest_payments_if_safe ?a_sheet_without ?d_sheet_without ?a_answer_pays ?d_answer_pays ?a_answer_need ?d_answer_need ?a_answer_needs ?d_answer_needs ?a_answer_without ?d_answer_without ?a_answer_lost ?d_answer_lost ?a_answer_about ?d_answer_about ?a_answer_call ?d_answer_call ?a_answers ?d_answers ?a_House_settle ?i_House_settle ?d_House_settle ?a_House_init ?i_House_init ?d_House_init ?a_Payments_init ?i_Payments_init ?d_Payments_init ?a_Sheet_init ?i_Sheet_init ?d_Sheet_init ?c_House ?pg_House ?hd_House ?po_House ?sa_House ?mk_House ?kc_House ?n_House_parties ?n_House_kept_own ?n_House_kept_paid ?n_House_own ?n_House_owed ?c_Sheet ?pg_Sheet ?hd_Sheet ?po_Sheet ?sa_Sheet ?mk_Sheet ?kc_Sheet ?n_Sheet_unit ?n_Sheet_parties ?n_Sheet_own ?n_Sheet_owed ?n_Sheet_debts ?n_Sheet_kept_whole ?n_Sheet_kept_own ?n_Sheet_kept_paid ?c_Payments ?pg_Payments ?hd_Payments ?po_Payments ?sa_Payments ?mk_Payments ?kc_Payments ?n_Payments_below ?n_Payments_above ?n_Payments_fell ?k_MOST_PARTIES ?k_NOT_ALLOWED ?k_NO_SUCH_PARTY ?k_ALL_PAID_IS_KEPT ?k_BEGINS ?k_OWN ?k_OWES ?k_CLEAR ?k_LEAST ?k_PAYS ?k_NEED ?k_NEEDS ?k_WITHOUT ?k_HANDED ?l_HANDED ?v_HANDED ?z_HANDED ?z_range ?z_len ?z_sum ?z_max ?z_list ?z_tuple
    (case c_House => k_is)
    (case c_Sheet => k_is)
    (case c_Payments => k_is)
    (case a_shared_divisor => k_is)
    (case d_shared_divisor => refine' Wq.DefIn.mk ?l ?c ?k; (case l => k_is); (case c => k_is); (case k => k_is))
    (case a_shared_multiple => k_is)
    (case d_shared_multiple => refine' Wq.DefIn.mk ?l ?c ?k; (case l => k_is); (case c => k_is); (case k => k_is))
    (case a_lowest => k_is)
    (case d_lowest => refine' Wq.DefIn.mk ?l ?c ?k; (case l => k_is); (case c => k_is); (case k => k_is))
    (case a_without_unknown => k_is)
    (case d_without_unknown => refine' Wq.DefIn.mk ?l ?c ?k; (case l => k_is); (case c => k_is); (case k => k_is))
    (case a_row_at => k_is)
    (case d_row_at => refine' Wq.DefIn.mk ?l ?c ?k; (case l => k_is); (case c => k_is); (case k => k_is))
    (case a_solve => k_is)
    (case d_solve => refine' Wq.DefIn.mk ?l ?c ?k; (case l => k_is); (case c => k_is); (case k => k_is))
    (case a_unit_of => k_is)
    (case d_unit_of => refine' Wq.DefIn.mk ?l ?c ?k; (case l => k_is); (case c => k_is); (case k => k_is))
    (case a_row_in_units => k_is)
    (case d_row_in_units => refine' Wq.DefIn.mk ?l ?c ?k; (case l => k_is); (case c => k_is); (case k => k_is))
    (case a_paid_to => k_is)
    (case d_paid_to => refine' Wq.DefIn.mk ?l ?c ?k; (case l => k_is); (case c => k_is); (case k => k_is))
    (case a_means => k_is)
    (case d_means => refine' Wq.DefIn.mk ?l ?c ?k; (case l => k_is); (case c => k_is); (case k => k_is))
    (case a_surplus => k_is)
    (case d_surplus => refine' Wq.DefIn.mk ?l ?c ?k; (case l => k_is); (case c => k_is); (case k => k_is))
    (case a_can_pay => k_is)
    (case d_can_pay => refine' Wq.DefIn.mk ?l ?c ?k; (case l => k_is); (case c => k_is); (case k => k_is))
    (case a_can_pay_from_kept => k_is)
    (case d_can_pay_from_kept => refine' Wq.DefIn.mk ?l ?c ?k; (case l => k_is); (case c => k_is); (case k => k_is))
    (case a_equation => k_is)
    (case d_equation => refine' Wq.DefIn.mk ?l ?c ?k; (case l => k_is); (case c => k_is); (case k => k_is))
    (case a_payments_after => k_is)
    (case d_payments_after => refine' Wq.DefIn.mk ?l ?c ?k; (case l => k_is); (case c => k_is); (case k => k_is))
    (case a_newly_falling => k_is)
    (case d_newly_falling => refine' Wq.DefIn.mk ?l ?c ?k; (case l => k_is); (case c => k_is); (case k => k_is))
    (case a_sink => k_is)
    (case d_sink => refine' Wq.DefIn.mk ?l ?c ?k; (case l => k_is); (case c => k_is); (case k => k_is))
    (case a_greatest_payments => k_is)
    (case d_greatest_payments => refine' Wq.DefIn.mk ?l ?c ?k; (case l => k_is); (case c => k_is); (case k => k_is))
    (case a_newly_safe => k_is)
    (case d_newly_safe => refine' Wq.DefIn.mk ?l ?c ?k; (case l => k_is); (case c => k_is); (case k => k_is))
    (case a_least_payments => k_is)
    (case d_least_payments => refine' Wq.DefIn.mk ?l ?c ?k; (case l => k_is); (case c => k_is); (case k => k_is))
    (case a_is_part => k_is)
    (case d_is_part => refine' Wq.DefIn.mk ?l ?c ?k; (case l => k_is); (case c => k_is); (case k => k_is))
    (case a_fraction => k_is)
    (case d_fraction => refine' Wq.DefIn.mk ?l ?c ?k; (case l => k_is); (case c => k_is); (case k => k_is))
    (case a_how_many_fall => k_is)
    (case d_how_many_fall => refine' Wq.DefIn.mk ?l ?c ?k; (case l => k_is); (case c => k_is); (case k => k_is))
    (case a_paid_and_worth => k_is)
    (case d_paid_and_worth => refine' Wq.DefIn.mk ?l ?c ?k; (case l => k_is); (case c => k_is); (case k => k_is))
    (case a_answer_begins => k_is)
    (case d_answer_begins => refine' Wq.DefIn.mk ?l ?c ?k; (case l => k_is); (case c => k_is); (case k => k_is))
    (case a_answer_own => k_is)
    (case d_answer_own => refine' Wq.DefIn.mk ?l ?c ?k; (case l => k_is); (case c => k_is); (case k => k_is))
    (case a_answer_owes => k_is)
    (case d_answer_owes => refine' Wq.DefIn.mk ?l ?c ?k; (case l => k_is); (case c => k_is); (case k => k_is))
    (case a_answer_clear => k_is)
    (case d_answer_clear => refine' Wq.DefIn.mk ?l ?c ?k; (case l => k_is); (case c => k_is); (case k => k_is))
    (case a_answer_least => k_is)
    (case d_answer_least => refine' Wq.DefIn.mk ?l ?c ?k; (case l => k_is); (case c => k_is); (case k => k_is))
    (case a_lack => k_is)
    (case d_lack => refine' Wq.DefIn.mk ?l ?c ?k; (case l => k_is); (case c => k_is); (case k => k_is))
    (case a_lost_in_falling => k_is)
    (case d_lost_in_falling => refine' Wq.DefIn.mk ?l ?c ?k; (case l => k_is); (case c => k_is); (case k => k_is))
    (case a_left_unpaid => k_is)
    (case d_left_unpaid => refine' Wq.DefIn.mk ?l ?c ?k; (case l => k_is); (case c => k_is); (case k => k_is))
    (case a_all_paid => k_is)
    (case d_all_paid => refine' Wq.DefIn.mk ?l ?c ?k; (case l => k_is); (case c => k_is); (case k => k_is))
    (case a_greatest_payments_if_safe => k_is)
    (case d_greatest_payments_if_safe => refine' Wq.DefIn.mk ?l ?c ?k; (case l => k_is); (case c => k_is); (case k => k_is))
    (case a_sheet_without => k_is)
    (case d_sheet_without => refine' Wq.DefIn.mk ?l ?c ?k; (case l => k_is); (case c => k_is); (case k => k_is))
    (case a_answer_pays => k_is)
    (case d_answer_pays => refine' Wq.DefIn.mk ?l ?c ?k; (case l => k_is); (case c => k_is); (case k => k_is))
    (case a_answer_need => k_is)
    (case d_answer_need => refine' Wq.DefIn.mk ?l ?c ?k; (case l => k_is); (case c => k_is); (case k => k_is))
    (case a_answer_needs => k_is)
    (case d_answer_needs => refine' Wq.DefIn.mk ?l ?c ?k; (case l => k_is); (case c => k_is); (case k => k_is))
    (case a_answer_without => k_is)
    (case d_answer_without => refine' Wq.DefIn.mk ?l ?c ?k; (case l => k_is); (case c => k_is); (case k => k_is))
    (case a_answer_lost => k_is)
    (case d_answer_lost => refine' Wq.DefIn.mk ?l ?c ?k; (case l => k_is); (case c => k_is); (case k => k_is))
    (case a_answer_about => k_is)
    (case d_answer_about => refine' Wq.DefIn.mk ?l ?c ?k; (case l => k_is); (case c => k_is); (case k => k_is))
    (case a_answer_call => k_is)
    (case d_answer_call => refine' Wq.DefIn.mk ?l ?c ?k; (case l => k_is); (case c => k_is); (case k => k_is))
    (case a_answers => k_is)
    (case d_answers => refine' Wq.DefIn.mk ?l ?c ?k; (case l => k_is); (case c => k_is); (case k => k_is))
    (case a_House_settle => k_is)
    (case i_House_settle => k_is)
    (case d_House_settle => refine' Wq.DefIn.mk ?l ?c ?k; (case l => k_is); (case c => k_is); (case k => k_is))
    (case a_House_init => k_is)
    (case i_House_init => k_is)
    (case d_House_init => refine' Wq.DefIn.mk ?l ?c ?k; (case l => k_is); (case c => k_is); (case k => k_is))
    (case a_Payments_init => k_is)
    (case i_Payments_init => k_is)
    (case d_Payments_init => refine' Wq.DefIn.mk ?l ?c ?k; (case l => k_is); (case c => k_is); (case k => k_is))
    (case a_Sheet_init => k_is)
    (case i_Sheet_init => k_is)
    (case d_Sheet_init => refine' Wq.DefIn.mk ?l ?c ?k; (case l => k_is); (case c => k_is); (case k => k_is))
    (case pg_House => k_is)
    (case hd_House => k_is)
    (case po_House => k_is)
    (case sa_House => k_is)
    (case mk_House => k_is)
    (case kc_House => k_is)
    (case n_House_parties => k_is)
    (case n_House_kept_own => k_is)
    (case n_House_kept_paid => k_is)
    (case n_House_own => k_is)
    (case n_House_owed => k_is)
    (case pg_Sheet => k_is)
    (case hd_Sheet => k_is)
    (case po_Sheet => k_is)
    (case sa_Sheet => k_is)
    (case mk_Sheet => k_is)
    (case kc_Sheet => k_is)
    (case n_Sheet_unit => k_is)
    (case n_Sheet_parties => k_is)
    (case n_Sheet_own => k_is)
    (case n_Sheet_owed => k_is)
    (case n_Sheet_debts => k_is)
    (case n_Sheet_kept_whole => k_is)
    (case n_Sheet_kept_own => k_is)
    (case n_Sheet_kept_paid => k_is)
    (case pg_Payments => k_is)
    (case hd_Payments => k_is)
    (case po_Payments => k_is)
    (case sa_Payments => k_is)
    (case mk_Payments => k_is)
    (case kc_Payments => k_is)
    (case n_Payments_below => k_is)
    (case n_Payments_above => k_is)
    (case n_Payments_fell => k_is)
    (case k_MOST_PARTIES => k_is)
    (case k_NOT_ALLOWED => k_is)
    (case k_NO_SUCH_PARTY => k_is)
    (case k_ALL_PAID_IS_KEPT => k_is)
    (case k_BEGINS => k_is)
    (case k_OWN => k_is)
    (case k_OWES => k_is)
    (case k_CLEAR => k_is)
    (case k_LEAST => k_is)
    (case k_PAYS => k_is)
    (case k_NEED => k_is)
    (case k_NEEDS => k_is)
    (case k_WITHOUT => k_is)
    (case k_HANDED => k_is)
    (case l_HANDED => k_is)
    (case v_HANDED => exact .cons ⟨_, rfl⟩ (.cons ⟨_, rfl⟩ (.cons ⟨_, rfl⟩ (.cons ⟨_, rfl⟩ (.cons ⟨_, rfl⟩ (.cons ⟨_, rfl⟩ (.cons ⟨_, rfl⟩ (.cons ⟨_, rfl⟩ (.cons ⟨_, rfl⟩ (.cons ⟨_, rfl⟩ (.nil)))))))))))
    (case z_HANDED => decide)
    (case z_range => k_is)
    (case z_len => k_is)
    (case z_sum => k_is)
    (case z_max => k_is)
    (case z_list => k_is)
    (case z_tuple => k_is)
  case S =>
    intro K H xs a hO hwi hask hx
    cases hx with
    | cons h1 h2 =>
      cases h2
      cases h1 with
      | lst hs ha =>
        have e := L2.ints_dw a.1 _ ha
        subst e
        have q : ((Codec.inLen 0 360 a.1 && a.1.all (Codec.inInt 0 1000000)) && true) = true := hwi
        rw [Bool.and_eq_true, Bool.and_eq_true] at q
        exact ⟨_, a.1, rfl, hs, (Codec.inNat_iff.mp q.1.1).2, hask, fun H' p hp => .lst (L2.SqL.of hp) (L2.dw_ints _)⟩

