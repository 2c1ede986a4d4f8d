import PyProof.Rows.All
import Wide.All
import OpenK.AllK
import Wide.FinOn
import Open.SpecLaws
import KE.OsHead
import KE.OsGo
import HandS.ForSpec
import HandS.Comp
import HandS.Iter
import HandS.Zip
import HandS.Conv
import HandS.Deep
import HandS.More
import HandS.SetFor
import HandS.SortInts
import HandS.Wide
import PySem.Challenge.RW_snowploughsdesk_s01_answers
set_option Elab.async false
set_option linter.all false
set_option maxRecDepth 100000
set_option maxHeartbeats 4000000
/-! ## part MathA -/
namespace SnowM
open Si79
abbrev Time := Si75.Time
/-! ### fractions -/
theorem low_eq {n d : Nat} (h : 0 < d) : Si75.lowest n d = ⟨n / Nat.gcd n d, d / Nat.gcd n d⟩ := by
  have g : 0 < Nat.gcd n d := Nat.gcd_pos_of_pos_right _ h
  unfold Si75.lowest
  simp only
  rw [if_neg (by omega)]
theorem low_split (n : Nat) {d : Nat} (h : 0 < d) : ∃ g, 0 < g ∧ n = g * (Si75.lowest n d).n ∧ d = g * (Si75.lowest n d).d := by
  have g : 0 < Nat.gcd n d := Nat.gcd_pos_of_pos_right _ h
  rw [low_eq h]
  exact ⟨Nat.gcd n d, g, (Nat.mul_div_cancel' (Nat.gcd_dvd_left n d)).symm, (Nat.mul_div_cancel' (Nat.gcd_dvd_right n d)).symm⟩
theorem low_pos (n : Nat) {d : Nat} (h : 0 < d) : 0 < (Si75.lowest n d).d := by
  obtain ⟨g, hg, _, e⟩ := low_split n h
  rcases Nat.eq_zero_or_pos (Si75.lowest n d).d with z | z
  · rw [z] at e; omega
  · exact z
theorem low_mul (k n d : Nat) (hk : 0 < k) (hd : 0 < d) : Si75.lowest (k * n) (k * d) = Si75.lowest n d := by
  rw [low_eq (Nat.mul_pos hk hd), low_eq hd, Nat.gcd_mul_left, Nat.mul_div_mul_left _ _ hk, Nat.mul_div_mul_left _ _ hk]
theorem low_zero {d : Nat} (h : 0 < d) (hz : (Si75.lowest n d).n = 0) : (Si75.lowest n d).d = 1 := by
  obtain ⟨g, hg, e1, e2⟩ := low_split n h
  rw [hz, Nat.mul_zero] at e1
  subst e1
  rw [low_eq h]
  simp only [Nat.gcd_zero_left]
  exact Nat.div_self h
theorem low_le (n : Nat) {d : Nat} (h : 0 < d) : (Si75.lowest n d).n ≤ n ∧ (Si75.lowest n d).d ≤ d := by
  rw [low_eq h]
  exact ⟨Nat.div_le_self _ _, Nat.div_le_self _ _⟩
/-- a time that is told in lowest terms -/
def Tm (t : Time) : Prop := 0 < t.d ∧ (t.n = 0 → t.d = 1)
theorem low_tm (n : Nat) {d : Nat} (h : 0 < d) : Tm (Si75.lowest n d) := ⟨low_pos n h, low_zero h⟩
/-- n by d no more than e -/
theorem low_by (n : Nat) {d : Nat} (h : 0 < d) (e : Nat) : (Si75.lowest n d).n ≤ e * (Si75.lowest n d).d ↔ n ≤ e * d := by
  obtain ⟨g, hg, e1, e2⟩ := low_split n h
  generalize Si75.lowest n d = x at *
  subst e1 e2
  constructor
  · intro q
    rw [Nat.mul_left_comm e g]
    exact Nat.mul_le_mul_left g q
  · intro q
    rw [Nat.mul_left_comm e g] at q
    exact Nat.le_of_mul_le_mul_left q hg
/-! ### when a plough is done, not in lowest terms -/
def raw1 (v : Nat) (p : Nat × Nat) (s : Street) : Nat × Nat := (p.1 * (100 * v + s.grows) + p.2 * (100 * s.metres), p.2 * (100 * v))
def rawF (v : Nat) (p : Nat × Nat) (ss : List Street) : Nat × Nat := ss.foldl (raw1 v) p
theorem rawF_cons (v : Nat) (p : Nat × Nat) (s : Street) (ss : List Street) : rawF v p (s :: ss) = rawF v (raw1 v p s) ss := rfl
theorem raw1_pos {v : Nat} (hv : 0 < v) {p : Nat × Nat} (hp : 0 < p.2) (s : Street) : 0 < (raw1 v p s).2 := Nat.mul_pos hp (by omega)
theorem rawF_pos {v : Nat} (hv : 0 < v) : ∀ (ss : List Street) {p : Nat × Nat}, 0 < p.2 → 0 < (rawF v p ss).2
  | [], _, h => h
  | s :: ss, p, h => rawF_pos hv ss (raw1_pos hv h s)
theorem after_low {v : Nat} (hv : 0 < v) (s : Street) {p : Nat × Nat} (hp : 0 < p.2) : after v s (Si75.lowest p.1 p.2) = Si75.lowest (raw1 v p s).1 (raw1 v p s).2 := by
  obtain ⟨g, hg, e1, e2⟩ := low_split p.1 hp
  have hd := low_pos p.1 hp
  unfold after raw1
  simp only
  generalize hx : Si75.lowest p.1 p.2 = x at *
  rw [e1, e2]
  have q1 : g * x.n * (100 * v + s.grows) + g * x.d * (100 * s.metres) = g * ((100 * v + s.grows) * x.n + 100 * s.metres * x.d) := by
    rw [Nat.mul_add g, Nat.mul_assoc g, Nat.mul_assoc g, Nat.mul_comm x.n, Nat.mul_comm x.d (100 * s.metres)]
  have q2 : g * x.d * (100 * v) = g * (100 * v * x.d) := by
    rw [Nat.mul_assoc, Nat.mul_comm x.d]
  rw [q1, q2, low_mul _ _ _ hg (Nat.mul_pos (by omega) hd)]
theorem done_go (n : Night) {v : Nat} (hv : 0 < v) : ∀ (l : List Nat) {p : Nat × Nat}, 0 < p.2 → l.foldl (fun x i => after v (n.street i) x) (Si75.lowest p.1 p.2) = Si75.lowest (rawF v p (l.map n.street)).1 (rawF v p (l.map n.street)).2
  | [], _, _ => rfl
  | i :: l, p, hp => by
    rw [List.foldl_cons, after_low hv _ hp, done_go n hv l (raw1_pos hv hp _)]
    rfl
theorem done_raw (n : Night) {v : Nat} (hv : 0 < v) (l : List Nat) : n.done v l = Si75.lowest (rawF v (0, 1) (l.map n.street)).1 (rawF v (0, 1) (l.map n.street)).2 := done_go n hv l (p := (0, 1)) (by decide)
theorem done_tm (n : Night) {v : Nat} (hv : 0 < v) (l : List Nat) : Tm (n.done v l) := by
  rw [done_raw n hv]
  exact low_tm _ (rawF_pos hv _ (by decide))
theorem done_by (n : Night) {v : Nat} (hv : 0 < v) (l : List Nat) (e : Nat) : (n.done v l).n ≤ e * (n.done v l).d ↔ (rawF v (0, 1) (l.map n.street)).1 ≤ e * (rawF v (0, 1) (l.map n.street)).2 := by
  rw [done_raw n hv]
  exact low_by _ (rawF_pos hv _ (by decide)) e
/-- how great the numbers can get -/
theorem rawF_bound {v : Nat} (hv : v ≤ 1000) : ∀ (ss : List Street), (∀ s ∈ ss, s.metres ≤ 1000 ∧ s.grows ≤ 100) → ∀ (p : Nat × Nat) (b : Nat), p.1 < 2 ^ b → p.2 < 2 ^ b → (rawF v p ss).1 < 2 ^ (b + 18 * ss.length) ∧ (rawF v p ss).2 < 2 ^ (b + 18 * ss.length)
  | [], _, p, b, h1, h2 => ⟨h1, h2⟩
  | s :: ss, h, p, b, h1, h2 => by
    have hs := h s List.mem_cons_self
    have g : (raw1 v p s).1 < 2 ^ (b + 18) ∧ (raw1 v p s).2 < 2 ^ (b + 18) := by
      unfold raw1
      simp only
      rw [Nat.pow_add]
      have a1 : p.1 * (100 * v + s.grows) ≤ p.1 * 100100 := Nat.mul_le_mul_left _ (by omega)
      have a2 : p.2 * (100 * s.metres) ≤ p.2 * 100000 := Nat.mul_le_mul_left _ (by omega)
      have a3 : p.2 * (100 * v) ≤ p.2 * 100000 := Nat.mul_le_mul_left _ (by omega)
      have e : (2 : Nat) ^ 18 = 262144 := by decide
      rw [e]
      omega
    have r := rawF_bound hv ss (fun x hx => h x (List.mem_cons_of_mem _ hx)) (raw1 v p s) (b + 18) g.1 g.2
    rw [List.length_cons, show b + 18 * (ss.length + 1) = b + 18 + 18 * ss.length by omega]
    exact r
/-! ### the latest -/
def pick (m x : Time) : Time := if Si75.less m x = true then x else m
theorem latest_eq (l : List Time) : latest l = l.foldl pick (Si75.whole 0) := rfl
theorem less_iff (x y : Time) : Si75.less x y = true ↔ x.n * y.d < y.n * x.d := by
  unfold Si75.less
  exact decide_eq_true_iff
theorem pick_self (x : Time) : pick x x = x := by
  unfold pick
  split <;> rfl
theorem pick_zero {x : Time} (h : Tm x) : pick (Si75.whole 0) x = x := by
  unfold pick
  split
  · rfl
  · rename_i q
    rw [less_iff] at q
    have e : x.n = 0 := by
      have : (Si75.whole 0).n * x.d = 0 := by show 0 * x.d = 0; omega
      have : x.n * (Si75.whole 0).d = x.n := by show x.n * 1 = x.n; omega
      omega
    have e2 := h.2 e
    cases x
    simp only at e e2
    rw [e, e2]
    rfl
theorem latest_head {t : Time} {l : List Time} (h : Tm t) : latest (t :: l) = (t :: l).foldl pick t := by
  rw [latest_eq, List.foldl_cons, List.foldl_cons, pick_zero h, pick_self]
theorem pick_mem (m x : Time) : pick m x = m ∨ pick m x = x := by
  unfold pick
  split
  · exact .inr rfl
  · exact .inl rfl
theorem pick_by {m x : Time} (hm : 0 < m.d) (hx : 0 < x.d) (e : Nat) : (pick m x).n ≤ e * (pick m x).d ↔ m.n ≤ e * m.d ∧ x.n ≤ e * x.d := by
  unfold pick
  split
  · rename_i q
    rw [less_iff] at q
    refine ⟨fun h => ⟨?_, h⟩, fun h => h.2⟩
    have h2 : x.n * m.d ≤ e * x.d * m.d := Nat.mul_le_mul_right _ h
    have h3 : m.n * x.d < e * m.d * x.d := by
      rw [Nat.mul_right_comm]
      omega
    exact Nat.le_of_lt (Nat.lt_of_mul_lt_mul_right h3)
  · rename_i q
    rw [less_iff] at q
    refine ⟨fun h => ⟨h, ?_⟩, fun h => h.1⟩
    have h2 : m.n * x.d ≤ e * m.d * x.d := Nat.mul_le_mul_right _ h
    have h3 : x.n * m.d ≤ e * x.d * m.d := by
      rw [Nat.mul_right_comm]
      omega
    exact Nat.le_of_mul_le_mul_right h3 hm
theorem fold_by (e : Nat) : ∀ (l : List Time) {m : Time}, 0 < m.d → (∀ t ∈ l, 0 < t.d) → 0 < (l.foldl pick m).d ∧ ((l.foldl pick m).n ≤ e * (l.foldl pick m).d ↔ m.n ≤ e * m.d ∧ ∀ t ∈ l, t.n ≤ e * t.d)
  | [], m, hm, _ => ⟨hm, by simp⟩
  | x :: l, m, hm, h => by
    have hx := h x List.mem_cons_self
    have hp : 0 < (pick m x).d := by rcases pick_mem m x with q | q <;> rw [q] <;> assumption
    obtain ⟨r1, r2⟩ := fold_by e l hp fun t ht => h t (List.mem_cons_of_mem _ ht)
    refine ⟨r1, ?_⟩
    rw [List.foldl_cons, r2, pick_by hm hx]
    simp only [List.mem_cons, forall_eq_or_imp, and_assoc]
theorem latest_by (e : Nat) {l : List Time} (h : ∀ t ∈ l, 0 < t.d) : (!Si75.less (Si75.whole e) (latest l)) = true ↔ ∀ t ∈ l, t.n ≤ e * t.d := by
  obtain ⟨r1, r2⟩ := fold_by e l (m := Si75.whole 0) (by decide) h
  rw [latest_eq]
  have q : (!Si75.less (Si75.whole e) (l.foldl pick (Si75.whole 0))) = true ↔ (l.foldl pick (Si75.whole 0)).n ≤ e * (l.foldl pick (Si75.whole 0)).d := by
    rw [Bool.not_eq_true', ← Bool.not_eq_true, less_iff]
    show ¬ (e * (l.foldl pick (Si75.whole 0)).d < (l.foldl pick (Si75.whole 0)).n * 1) ↔ _
    omega
  rw [q, r2]
  refine ⟨fun h => h.2, fun h => ⟨?_, h⟩⟩
  show 0 ≤ _
  omega
theorem fold_tm : ∀ (l : List Time) {m : Time}, Tm m → (∀ t ∈ l, Tm t) → Tm (l.foldl pick m)
  | [], _, h, _ => h
  | x :: l, m, h, hl => fold_tm l (by rcases pick_mem m x with q | q <;> rw [q]; exact h; exact hl x List.mem_cons_self) fun t ht => hl t (List.mem_cons_of_mem _ ht)
theorem fold_mem : ∀ (l : List Time) (m : Time), l.foldl pick m = m ∨ l.foldl pick m ∈ l
  | [], _ => .inl rfl
  | x :: l, m => by
    rw [List.foldl_cons]
    rcases fold_mem l (pick m x) with q | q
    · rw [q]
      rcases pick_mem m x with z | z <;> rw [z]
      · exact .inl rfl
      · exact .inr List.mem_cons_self
    · exact .inr (List.mem_cons_of_mem _ q)
/-! ### a plough's order -/
theorem rawF_two (v : Nat) : ∀ (ss : List Street) (p : Nat × Nat), (rawF v p ss).2 = p.2 * (100 * v) ^ ss.length
  | [], p => by show p.2 = p.2 * 1; omega
  | s :: ss, p => by
    rw [rawF_cons, rawF_two v ss, List.length_cons, Nat.pow_succ]
    show p.2 * (100 * v) * (100 * v) ^ ss.length = _
    rw [Nat.mul_assoc, Nat.mul_comm (100 * v)]
theorem rawF_mono (v : Nat) : ∀ (ss : List Street) {A B D : Nat}, A ≤ B → (rawF v (A, D) ss).1 ≤ (rawF v (B, D) ss).1
  | [], _, _, _, h => h
  | s :: ss, A, B, D, h => rawF_mono v ss (A := A * (100 * v + s.grows) + D * (100 * s.metres)) (B := B * (100 * v + s.grows) + D * (100 * s.metres)) (D := D * (100 * v)) (Nat.add_le_add_right (Nat.mul_le_mul_right _ h) _)
theorem sooner_iff (a b : Street) : sooner a b = true ↔ a.metres * b.grows ≤ b.metres * a.grows := by
  unfold sooner
  exact decide_eq_true_iff
theorem swap_le (v : Nat) {a b : Street} (h : sooner a b = true) (A D : Nat) (r : List Street) : (rawF v (A, D) (a :: b :: r)).1 ≤ (rawF v (A, D) (b :: a :: r)).1 := by
  rw [sooner_iff] at h
  have e : raw1 v (raw1 v (A, D) a) b = ((A * (100 * v + a.grows) + D * (100 * a.metres)) * (100 * v + b.grows) + D * (100 * v) * (100 * b.metres), D * (100 * v) * (100 * v)) := rfl
  have e' : raw1 v (raw1 v (A, D) b) a = ((A * (100 * v + b.grows) + D * (100 * b.metres)) * (100 * v + a.grows) + D * (100 * v) * (100 * a.metres), D * (100 * v) * (100 * v)) := rfl
  rw [rawF_cons, rawF_cons, rawF_cons, rawF_cons, e, e']
  refine rawF_mono v r ?_
  generalize 100 * v = V
  have h2 : D * 100 * (a.metres * b.grows) ≤ D * 100 * (b.metres * a.grows) := Nat.mul_le_mul_left _ h
  have x1 : (A * (V + a.grows) + D * (100 * a.metres)) * (V + b.grows) + D * V * (100 * b.metres) = A * (V + a.grows) * (V + b.grows) + (D * 100 * (a.metres * b.grows) + D * 100 * (a.metres * V) + D * 100 * (b.metres * V)) := by
    simp only [Nat.add_mul, Nat.mul_add, Nat.mul_assoc, Nat.mul_comm, Nat.mul_left_comm]
    omega
  have x2 : (A * (V + b.grows) + D * (100 * b.metres)) * (V + a.grows) + D * V * (100 * a.metres) = A * (V + a.grows) * (V + b.grows) + (D * 100 * (b.metres * a.grows) + D * 100 * (a.metres * V) + D * 100 * (b.metres * V)) := by
    simp only [Nat.add_mul, Nat.mul_add, Nat.mul_assoc, Nat.mul_comm, Nat.mul_left_comm]
    omega
  rw [x1, x2]
  omega
theorem bubble (v : Nat) (a : Street) (r : List Street) : ∀ (l : List Street), (∀ x ∈ l, sooner a x = true) → ∀ A D : Nat, (rawF v (A, D) (a :: (l ++ r))).1 ≤ (rawF v (A, D) (l ++ a :: r)).1
  | [], _, _, _ => Nat.le_refl _
  | x :: l, h, A, D => by
    refine Nat.le_trans (swap_le v (h x List.mem_cons_self) A D (l ++ r)) ?_
    exact bubble v a r l (fun y hy => h y (List.mem_cons_of_mem _ hy)) (A * (100 * v + x.grows) + D * (100 * x.metres)) (D * (100 * v))
/-- in order of ratio is the soonest -/
theorem order_best (v : Nat) : ∀ (s : List Street), s.Pairwise (fun a b => sooner a b = true) → ∀ (l : List Street), l.Perm s → ∀ A D : Nat, (rawF v (A, D) s).1 ≤ (rawF v (A, D) l).1
  | [], _, l, h, A, D => by
    rw [h.eq_nil]
    exact Nat.le_refl _
  | a :: s, hs, l, h, A, D => by
    obtain ⟨p, q, rfl⟩ := List.append_of_mem (h.mem_iff.mpr List.mem_cons_self)
    have h2 : (p ++ q).Perm s := by
      have := (List.perm_middle (a := a) (l₁ := p) (l₂ := q)).symm.trans h
      exact this.cons_inv
    obtain ⟨h3, h4⟩ := List.pairwise_cons.mp hs
    refine Nat.le_trans ?_ (bubble v a q p (fun x hx => h3 x (h2.mem_iff.mp (List.mem_append_left _ hx))) A D)
    exact order_best v s h4 (p ++ q) h2 (A * (100 * v + a.grows) + D * (100 * a.metres)) (D * (100 * v))
/-- faster is no later -/
theorem fast_le {v w : Nat} (h : v ≤ w) : ∀ (ss : List Street) (p q : Nat × Nat), q.1 * p.2 ≤ p.1 * q.2 → (rawF w q ss).1 * (rawF v p ss).2 ≤ (rawF v p ss).1 * (rawF w q ss).2
  | [], _, _, h => h
  | s :: ss, p, q, i => by
    rw [rawF_cons, rawF_cons]
    refine fast_le h ss _ _ ?_
    show (q.1 * (100 * w + s.grows) + q.2 * (100 * s.metres)) * (p.2 * (100 * v)) ≤ (p.1 * (100 * v + s.grows) + p.2 * (100 * s.metres)) * (q.2 * (100 * w))
    have hV : 100 * v ≤ 100 * w := by omega
    generalize 100 * v = V at *
    generalize 100 * w = W at *
    generalize s.grows = g
    generalize 100 * s.metres = m
    have a1 : q.1 * p.2 * ((W + g) * V) ≤ p.1 * q.2 * ((V + g) * W) := by
      refine Nat.mul_le_mul i ?_
      rw [Nat.add_mul, Nat.add_mul, Nat.mul_comm W V]
      exact Nat.add_le_add_left (Nat.mul_le_mul_left _ hV) _
    have a2 : q.2 * p.2 * m * V ≤ q.2 * p.2 * m * W := Nat.mul_le_mul_left _ hV
    have e1 : (q.1 * (W + g) + q.2 * m) * (p.2 * V) = q.1 * p.2 * ((W + g) * V) + q.2 * p.2 * m * V := by
      rw [Nat.add_mul]
      congr 1
      · rw [Nat.mul_assoc, Nat.mul_assoc, Nat.mul_left_comm (W + g)]
      · rw [Nat.mul_assoc, Nat.mul_assoc, Nat.mul_assoc, Nat.mul_left_comm m]
    have e2 : (p.1 * (V + g) + p.2 * m) * (q.2 * W) = p.1 * q.2 * ((V + g) * W) + q.2 * p.2 * m * W := by
      rw [Nat.add_mul]
      congr 1
      · rw [Nat.mul_assoc, Nat.mul_assoc, Nat.mul_left_comm (V + g)]
      · rw [Nat.mul_comm q.2 p.2, Nat.mul_assoc, Nat.mul_assoc, Nat.mul_assoc, Nat.mul_left_comm m]
    rw [e1, e2]
    omega
end SnowM
/-! ## part MathB -/
namespace SnowM
open Si79
/-! ### plans, as the program makes them -/
def numbersOf (n p : Nat) : List Nat := List.range n ++ List.replicate (p - 1) n
def more (n : Nat) (numbers plan : List Nat) : List (List Nat) := ((List.range (n + 1)).filter fun x => decide (plan.count x < numbers.count x)).map fun x => plan ++ [x]
def turnP (n : Nat) (numbers : List Nat) (plans : List (List Nat)) : List (List Nat) := plans.flatMap (more n numbers)
def iterP (n : Nat) (numbers : List Nat) : Nat → List (List Nat)
  | 0 => [[]]
  | k + 1 => turnP n numbers (iterP n numbers k)
def allPlans (n p : Nat) : List (List Nat) := iterP n (numbersOf n p) (numbersOf n p).length
def joinP (m : Nat) : List (List Nat) → List Nat
  | [] => []
  | l :: r => l ++ r.flatMap fun x => m :: x
def whoM (m : Nat) (l : List Nat) (i : Nat) : Nat := ((l.takeWhile fun j => j != i).filter fun j => j == m).length
def oneP (sh : List (List Nat)) (i j : Nat) : Bool := sh.any fun s => s.contains i && s.contains j
/-- all that is to be known of a plan, by looking -/
def okPlan (n p : Nat) (l : List Nat) : Bool :=
  decide ((parts n l).length = p) && (decide (joinP n (parts n l) = l) && (decide (l.length ≤ 6) &&
  (((parts n l).all fun sh => decide (sh.length ≤ 4) && sh.all fun i => decide (i < n)) &&
  (((List.range n).all fun i => decide (whoM n l i < p) && (List.range n).all fun j => (whoM n l i == whoM n l j) == oneP (parts n l) i j) &&
  ((List.range p).all fun k => ((parts n l).getD k []).isPerm ((List.range n).filter fun i => whoM n l i == k))))))
def chk (n p : Nat) : Bool := decide (allPlans n p = rows (n + p - 1) (numbersOf n p)) && ((rows (n + p - 1) (numbersOf n p)).all (okPlan n p) &&
  ((sharings p n).all fun s => ((List.range p).flatMap fun k => (List.range n).filter fun i => s.getD i 0 == k).isPerm (List.range n)))
theorem chk_all : ((List.range 5).all fun n => [1, 2, 3].all fun p => chk n p) = true := by decide +kernel
theorem chk_of {n p : Nat} (h : n ≤ 4) (h1 : 1 ≤ p) (h3 : p ≤ 3) : chk n p = true := by
  have q := List.all_eq_true.mp chk_all n (List.mem_range.mpr (by omega))
  refine List.all_eq_true.mp q p ?_
  have : p = 1 ∨ p = 2 ∨ p = 3 := by omega
  rcases this with e | e | e <;> subst e <;> simp
end SnowM
/-! ## part MathC -/
namespace SnowM
open Si79
theorem num_len {n p : Nat} (h : 1 ≤ p) : (numbersOf n p).length = n + p - 1 := by
  unfold numbersOf
  rw [List.length_append, List.length_range, List.length_replicate]
  omega
theorem mem_rows : ∀ (f : Nat) (l x : List Nat), l.length = f → x.Perm l → x ∈ rows f l
  | 0, l, x, h, p => by
    have e : l = [] := List.length_eq_zero_iff.mp h
    subst e
    rw [p.eq_nil]
    exact List.mem_singleton.mpr rfl
  | f + 1, l, [], h, p => by
    have e := p.length_eq
    rw [h] at e
    cases e
  | f + 1, l, a :: x, h, p => by
    have ha : a ∈ l := p.mem_iff.mp List.mem_cons_self
    unfold rows
    refine List.mem_flatMap.mpr ⟨a, List.mem_eraseDups.mpr ha, List.mem_map.mpr ⟨x, mem_rows f _ x ?_ ?_, rfl⟩⟩
    · rw [List.length_erase_of_mem ha, h]
      rfl
    · exact (List.cons_perm_iff_perm_erase.mp p).2
theorem rows_perm : ∀ (f : Nat) (l x : List Nat), l.length = f → x ∈ rows f l → x.Perm l
  | 0, l, x, h, q => by
    have e : l = [] := List.length_eq_zero_iff.mp h
    subst e
    rw [List.mem_singleton.mp q]
  | f + 1, l, x, h, q => by
    unfold rows at q
    obtain ⟨a, ha, q⟩ := List.mem_flatMap.mp q
    obtain ⟨y, hy, rfl⟩ := List.mem_map.mp q
    have ha := List.mem_eraseDups.mp ha
    have ih := rows_perm f (l.erase a) y (by rw [List.length_erase_of_mem ha, h]; rfl) hy
    exact List.cons_perm_iff_perm_erase.mpr ⟨ha, ih⟩
theorem getD_lt {α : Type} {l : List α} {k : Nat} (d : α) (h : k < l.length) : l.getD k d = l[k] := by
  rw [List.getD_eq_getElem?_getD, List.getElem?_eq_getElem h]
  rfl
theorem getD_ge {α : Type} {l : List α} {k : Nat} (d : α) (h : l.length ≤ k) : l.getD k d = d := by
  rw [List.getD_eq_getElem?_getD, List.getElem?_eq_none h]
  rfl
theorem count_range (n a : Nat) : (List.range n).count a = if a < n then 1 else 0 := by
  induction n with
  | zero => rfl
  | succ n ih =>
    rw [List.range_succ, List.count_append, ih, List.count_singleton]
    simp only [beq_iff_eq]
    split <;> split <;> split <;> omega
theorem count_num (n p a : Nat) : (numbersOf n p).count a = if a < n then 1 else if a = n then p - 1 else 0 := by
  unfold numbersOf
  rw [List.count_append, count_range, List.count_replicate]
  by_cases h : a < n
  · rw [if_pos h, if_pos h, if_neg (by simp; omega)]
  · rw [if_neg h, if_neg h, Nat.zero_add]
    by_cases e : a = n
    · rw [if_pos (by simp [e]), if_pos e]
    · rw [if_neg (by simp; omega), if_neg e]
theorem formed_iff (n : Night) (l : List Nat) (h : 1 ≤ n.speeds.length) : n.formed l = true ↔ l.Perm (numbersOf n.count n.speeds.length) := by
  unfold Night.formed Night.told
  rw [Bool.and_eq_true, Bool.and_eq_true, List.all_eq_true, List.all_eq_true, beq_iff_eq]
  constructor
  · rintro ⟨h1, h2, h3⟩
    refine List.perm_iff_count.mpr fun a => ?_
    rw [count_num]
    by_cases ha : a < n.count
    · rw [if_pos ha]
      exact beq_iff_eq.mp (h2 a (List.mem_range.mpr ha))
    · rw [if_neg ha]
      by_cases e : a = n.count
      · rw [if_pos e, e]
        omega
      · rw [if_neg e]
        exact List.count_eq_zero.mpr fun q => by
          have := of_decide_eq_true (h1 a q)
          omega
  · intro q
    have c : ∀ a, l.count a = _ := fun a => (List.perm_iff_count.mp q a).trans (count_num _ _ a)
    refine ⟨fun a ha => ?_, fun a ha => ?_, ?_⟩
    · refine decide_eq_true ?_
      have h0 : 0 < l.count a := List.count_pos_iff.mpr ha
      rw [c a] at h0
      by_cases h1 : a < n.count
      · omega
      · rw [if_neg h1] at h0
        by_cases e : a = n.count
        · omega
        · rw [if_neg e] at h0
          omega
    · rw [c a, if_pos (List.mem_range.mp ha)]
      rfl
    · rw [c n.count, if_neg (by omega), if_pos rfl]
      omega
/-- a night as the calls leave it; b: so many calls at most were of apart, of together -/
structure Good (n : Night) (b : Nat) : Prop where
  p1 : 1 ≤ n.speeds.length
  p3 : n.speeds.length ≤ 3
  sv : ∀ v ∈ n.speeds, 1 ≤ v ∧ v ≤ 1000
  s4 : n.streets.length ≤ 4
  st : ∀ s ∈ n.streets, 1 ≤ s.metres ∧ s.metres ≤ 1000 ∧ s.grows ≤ 100
  ap : ∀ x ∈ n.apart, x.1 < n.count ∧ x.2 < n.count
  tg : ∀ x ∈ n.together, x.1 < n.count ∧ x.2 < n.count
  al : n.apart.length ≤ b
  tl : n.together.length ≤ b
def Night.all_ (n : Night) : List (List Nat) := rows (n.count + n.speeds.length - 1) (numbersOf n.count n.speeds.length)
theorem plans_eq (n : Night) : n.plans = (Night.all_ n).filter n.right := rfl
section
variable {n : Night} {b : Nat}
theorem Good.chk (g : Good n b) : chk n.count n.speeds.length = true := chk_of g.s4 g.p1 g.p3
theorem Good.all (g : Good n b) : allPlans n.count n.speeds.length = Night.all_ n := by
  have q := g.chk
  unfold SnowM.chk at q
  rw [Bool.and_eq_true] at q
  exact of_decide_eq_true q.1
theorem Good.mem (g : Good n b) {l : List Nat} : l ∈ Night.all_ n ↔ n.formed l = true := by
  rw [formed_iff n l g.p1]
  exact ⟨rows_perm _ _ _ (num_len g.p1), mem_rows _ _ _ (num_len g.p1)⟩
theorem Good.ok (g : Good n b) {l : List Nat} (h : n.formed l = true) : okPlan n.count n.speeds.length l = true := by
  have q := g.chk
  unfold SnowM.chk at q
  rw [Bool.and_eq_true, Bool.and_eq_true] at q
  exact List.all_eq_true.mp q.2.1 l (g.mem.mpr h)
/-- what looking tells of a plan -/
structure Pl (n : Night) (l : List Nat) : Prop where
  len : (parts n.count l).length = n.speeds.length
  join : joinP n.count (parts n.count l) = l
  six : l.length ≤ 6
  four : ∀ sh ∈ parts n.count l, sh.length ≤ 4
  lt : ∀ sh ∈ parts n.count l, ∀ i ∈ sh, i < n.count
  who : ∀ i, i < n.count → whoM n.count l i < n.speeds.length
  one : ∀ i j, i < n.count → j < n.count → (n.whose l i == n.whose l j) = oneP (parts n.count l) i j
  perm : ∀ k, k < n.speeds.length → ((parts n.count l).getD k []).Perm ((List.range n.count).filter fun i => whoM n.count l i == k)
theorem Good.pl (g : Good n b) {l : List Nat} (h : n.formed l = true) : Pl n l := by
  have q := g.ok h
  unfold okPlan at q
  simp only [Bool.and_eq_true, decide_eq_true_eq, List.all_eq_true, List.mem_range, beq_iff_eq, List.isPerm_iff] at q
  obtain ⟨q1, q2, q3, q4, q5, q6⟩ := q
  exact ⟨q1, q2, q3, fun sh hs => (q4 sh hs).1, fun sh hs => (q4 sh hs).2, fun i hi => (q5 i hi).1, fun i j hi hj => (q5 i hi).2 j hj, q6⟩
/-! ### why a plan can't be -/
def firstP (l : List (Nat × Nat)) (sh : List (List Nat)) (w : Bool) : List Nat := match l.find? fun x => oneP sh x.1 x.2 == w with
  | some x => [x.1, x.2]
  | none => []
def whyNot (n : Night) (sh : List (List Nat)) : List Int :=
  if firstP n.apart sh true ≠ [] then -6 :: Si79.ints (firstP n.apart sh true) else if firstP n.together sh false ≠ [] then -7 :: Si79.ints (firstP n.together sh false) else []
theorem find_congr {α : Type} {f g : α → Bool} : ∀ (l : List α), (∀ x ∈ l, f x = g x) → l.find? f = l.find? g
  | [], _ => rfl
  | x :: l, h => by
    rw [List.find?_cons, List.find?_cons, h x List.mem_cons_self, find_congr l fun y hy => h y (List.mem_cons_of_mem _ hy)]
theorem near_eq (g : Good n b) {l : List Nat} (h : n.formed l = true) : n.near l = n.apart.find? fun x => oneP (parts n.count l) x.1 x.2 == true := by
  unfold Night.near
  refine find_congr _ fun x hx => ?_
  rw [(g.pl h).one _ _ (g.ap x hx).1 (g.ap x hx).2]
  cases oneP (parts n.count l) x.1 x.2 <;> rfl
theorem far_eq (g : Good n b) {l : List Nat} (h : n.formed l = true) : n.far l = n.together.find? fun x => oneP (parts n.count l) x.1 x.2 == false := by
  unfold Night.far
  refine find_congr _ fun x hx => ?_
  have q := (g.pl h).one _ _ (g.tg x hx).1 (g.tg x hx).2
  rw [bne, q]
  cases oneP (parts n.count l) x.1 x.2 <;> rfl
theorem toldPlan_eq (g : Good n b) {l : List Nat} (h : n.formed l = true) : (n.toldPlan l).v :: (n.toldPlan l).l = if whyNot n (parts n.count l) ≠ [] then whyNot n (parts n.count l) else 0 :: Si79.ints (both (n.clear l) ++ (n.ends l).flatMap both) := by
  unfold Night.toldPlan whyNot firstP
  rw [near_eq g h, far_eq g h]
  cases n.apart.find? fun x => oneP (parts n.count l) x.1 x.2 == true with
  | some x => rfl
  | none =>
    cases n.together.find? fun x => oneP (parts n.count l) x.1 x.2 == false with
    | some x => rfl
    | none => rfl
theorem right_eq (g : Good n b) {l : List Nat} (h : n.formed l = true) : n.right l = (whyNot n (parts n.count l)).isEmpty := by
  unfold Night.right whyNot firstP
  rw [near_eq g h, far_eq g h, h, Bool.true_and]
  cases n.apart.find? fun x => oneP (parts n.count l) x.1 x.2 == true with
  | some x => rfl
  | none =>
    cases n.together.find? fun x => oneP (parts n.count l) x.1 x.2 == false with
    | some x => rfl
    | none => rfl
def possible (n : Night) : List (List (List Nat)) := ((allPlans n.count n.speeds.length).map (parts n.count)).filter fun sh => (whyNot n sh).isEmpty
theorem possible_eq (g : Good n b) : possible n = n.plans.map (parts n.count) := by
  unfold possible
  rw [g.all, plans_eq, List.filter_map]
  refine congrArg (List.map _) (List.filter_congr fun l hl => ?_)
  exact (right_eq g (g.mem.mp hl)).symm
theorem plans_formed (g : Good n b) {l : List Nat} (h : l ∈ n.plans) : n.formed l = true := g.mem.mp (List.mem_filter.mp h).1
/-! ### when it ends -/
def timesV (n : Night) (sh : List (List Nat)) (vs : List Nat) : List Time := (sh.zip vs).map fun x => n.done x.2 x.1
theorem ends_get (n : Night) (l : List Nat) (k : Nat) : (n.ends l)[k]? = ((parts n.count l)[k]?).map fun sh => n.done (n.speed k) sh := by
  unfold Night.ends
  rw [List.getElem?_map, List.getElem?_zipIdx]
  cases (parts n.count l)[k]? with
  | none => rfl
  | some sh => simp
theorem times_eq (g : Good n b) {l : List Nat} (h : n.formed l = true) : timesV n (parts n.count l) n.speeds = n.ends l := by
  have e := (g.pl h).len
  refine List.ext_getElem? fun k => ?_
  rw [ends_get]
  unfold timesV
  rw [List.getElem?_map]
  by_cases hk : k < n.speeds.length
  · have h1 : k < (parts n.count l).length := by omega
    rw [List.getElem?_eq_getElem (by rw [List.length_zip]; omega), List.getElem_zip, List.getElem?_eq_getElem h1]
    show some _ = some _
    unfold Night.speed
    rw [getD_lt _ hk]
  · rw [List.getElem?_eq_none (by rw [List.length_zip]; omega), List.getElem?_eq_none (l := parts n.count l) (by omega)]
    rfl
theorem speed_pos (g : Good n b) (k : Nat) : 0 < n.speed k := by
  unfold Night.speed
  by_cases h : k < n.speeds.length
  · rw [getD_lt _ h]
    exact (g.sv _ (List.getElem_mem h)).1
  · rw [getD_ge _ (by omega)]
    decide
theorem ends_tm (g : Good n b) (l : List Nat) : ∀ t ∈ n.ends l, Tm t := fun t ht => by
  obtain ⟨k, hk⟩ := List.mem_iff_getElem?.mp ht
  rw [ends_get] at hk
  cases e : (parts n.count l)[k]? with
  | none => rw [e] at hk; cases hk
  | some sh =>
    rw [e] at hk
    cases hk
    exact done_tm n (speed_pos g k) sh
theorem clear_by (g : Good n b) {l : List Nat} (h : n.formed l = true) (e : Nat) : (!Si75.less (Si75.whole e) (n.clear l)) = true ↔ ∀ k, k < n.speeds.length → (n.done (n.speed k) ((parts n.count l).getD k [])).n ≤ e * (n.done (n.speed k) ((parts n.count l).getD k [])).d := by
  unfold Night.clear
  rw [latest_by e fun t ht => (ends_tm g l t ht).1]
  have el := (g.pl h).len
  constructor
  · intro q k hk
    refine q _ (List.mem_iff_getElem?.mpr ⟨k, ?_⟩)
    rw [ends_get, List.getElem?_eq_getElem (by omega), getD_lt _ (by omega)]
    rfl
  · intro q t ht
    obtain ⟨k, hk⟩ := List.mem_iff_getElem?.mp ht
    rw [ends_get] at hk
    by_cases h2 : k < n.speeds.length
    · rw [List.getElem?_eq_getElem (by omega)] at hk
      cases hk
      have := q k h2
      rw [getD_lt _ (by omega)] at this
      exact this
    · rw [List.getElem?_eq_none (by omega)] at hk
      cases hk
theorem parts_ne (m : Nat) : ∀ l : List Nat, parts m l ≠ []
  | [] => by unfold parts; simp
  | i :: l => by
    unfold parts
    split
    · simp
    · split <;> simp
end
end SnowM
/-! ## part MathD -/
namespace SnowM
open Si79
/-! ### parts of joined rows -/
theorem parts_m (m : Nat) (l : List Nat) : parts m (m :: l) = [] :: parts m l := by
  rw [parts, if_pos rfl]
theorem parts_app (m : Nat) : ∀ (l x : List Nat), (∀ i ∈ l, i ≠ m) → ∃ r s, parts m x = r :: s ∧ parts m (l ++ x) = (l ++ r) :: s
  | [], x, _ => by
    cases h : parts m x with
    | nil => exact absurd h (parts_ne m x)
    | cons r s => exact ⟨r, s, rfl, h⟩
  | i :: l, x, h => by
    obtain ⟨r, s, e1, e2⟩ := parts_app m l x fun j hj => h j (List.mem_cons_of_mem _ hj)
    refine ⟨r, s, e1, ?_⟩
    show parts m (i :: (l ++ x)) = _
    rw [parts, if_neg (h i List.mem_cons_self), e2]
    rfl
theorem joinP_cons (m : Nat) (l l2 : List Nat) (r : List (List Nat)) : joinP m (l :: l2 :: r) = l ++ m :: joinP m (l2 :: r) := by
  show l ++ ((l2 :: r).flatMap fun x => m :: x) = l ++ m :: (l2 ++ r.flatMap fun x => m :: x)
  rw [List.flatMap_cons]
  rfl
theorem parts_join (m : Nat) : ∀ (r : List (List Nat)), r ≠ [] → (∀ sh ∈ r, ∀ i ∈ sh, i ≠ m) → parts m (joinP m r) = r
  | [], h, _ => absurd rfl h
  | [l], _, h => by
    obtain ⟨r, s, e1, e2⟩ := parts_app m l [] (h l List.mem_cons_self)
    have e3 : parts m [] = [[]] := by rw [parts]
    rw [e3] at e1
    cases e1
    show parts m (l ++ []) = _
    rw [e2, List.append_nil]
  | l :: l2 :: r, _, h => by
    have ih := parts_join m (l2 :: r) (by simp) fun sh hs => h sh (List.mem_cons_of_mem _ hs)
    obtain ⟨q, s, e1, e2⟩ := parts_app m l (m :: joinP m (l2 :: r)) (h l List.mem_cons_self)
    rw [parts_m, ih] at e1
    cases e1
    rw [joinP_cons, e2, List.append_nil]
theorem joinP_perm (m : Nat) : ∀ (r : List (List Nat)), r ≠ [] → (joinP m r).Perm (r.flatten ++ List.replicate (r.length - 1) m)
  | [], h => absurd rfl h
  | [l], _ => by
    show (l ++ []).Perm ([l].flatten ++ [])
    simp
  | l :: l2 :: r, _ => by
    have ih := joinP_perm m (l2 :: r) (by simp)
    rw [joinP_cons]
    refine (List.Perm.append_left l (ih.cons m)).trans ?_
    have e : List.replicate ((l :: l2 :: r).length - 1) m = m :: List.replicate ((l2 :: r).length - 1) m := rfl
    have e2 : (l :: l2 :: r).flatten = l ++ (l2 :: r).flatten := rfl
    rw [e, e2, List.append_assoc]
    exact List.Perm.append_left l List.perm_middle.symm
/-! ### put -/
theorem soo_trans {a b c : Street} (hb : 0 < b.metres) (h1 : sooner a b = true) (h2 : sooner b c = true) : sooner a c = true := by
  rw [sooner_iff] at *
  have q1 : c.metres * (a.metres * b.grows) ≤ c.metres * (b.metres * a.grows) := Nat.mul_le_mul_left _ h1
  have q2 : a.metres * (b.metres * c.grows) ≤ a.metres * (c.metres * b.grows) := Nat.mul_le_mul_left _ h2
  have e1 : c.metres * (a.metres * b.grows) = a.metres * (c.metres * b.grows) := by rw [Nat.mul_left_comm]
  have q3 : b.metres * (a.metres * c.grows) ≤ b.metres * (c.metres * a.grows) := by
    rw [Nat.mul_left_comm b.metres a.metres, Nat.mul_left_comm b.metres c.metres]
    omega
  exact Nat.le_of_mul_le_mul_left q3 hb
theorem soo_total (a b : Street) : sooner a b = true ∨ sooner b a = true := by
  rw [sooner_iff, sooner_iff]
  exact Nat.le_total _ _
def So (n : Night) (i j : Nat) : Prop := sooner (n.street i) (n.street j) = true
def sortP (n : Night) (S : List Nat) : List Nat := S.foldl (fun l i => put n i l) []
theorem put_perm (n : Night) (i : Nat) : ∀ l : List Nat, (put n i l).Perm (i :: l)
  | [] => by unfold put; exact List.Perm.refl _
  | k :: l => by
    unfold put
    split
    · exact ((put_perm n i l).cons k).trans (List.Perm.swap i k l)
    · exact List.Perm.refl _
theorem put_pair (n : Night) {i : Nat} : ∀ {l : List Nat}, (∀ k ∈ l, 0 < (n.street k).metres) → l.Pairwise (So n) → (put n i l).Pairwise (So n)
  | [], _, _ => by unfold put; exact List.pairwise_singleton _ _
  | k :: l, hp, h => by
    obtain ⟨h1, h2⟩ := List.pairwise_cons.mp h
    unfold put
    split
    · rename_i q
      refine List.pairwise_cons.mpr ⟨fun x hx => ?_, put_pair n (fun y hy => hp y (List.mem_cons_of_mem _ hy)) h2⟩
      rcases List.mem_cons.mp ((put_perm n i l).mem_iff.mp hx) with e | e
      · rw [e]; exact q
      · exact h1 x e
    · rename_i q
      have q2 : So n i k := (soo_total (n.street i) (n.street k)).resolve_right q
      refine List.pairwise_cons.mpr ⟨fun x hx => ?_, h⟩
      rcases List.mem_cons.mp hx with e | e
      · rw [e]; exact q2
      · exact soo_trans (hp k List.mem_cons_self) q2 (h1 x e)
def ahead (n : Night) (i : Nat) (l : List Nat) : List Nat := l.filter fun k => sooner (n.street k) (n.street i)
theorem ahead_none (n : Night) {i k : Nat} (hk : 0 < (n.street k).metres) (hn : ¬ sooner (n.street k) (n.street i) = true) {l : List Nat} (h : ∀ x ∈ l, So n k x) (hp : ∀ k ∈ l, 0 < (n.street k).metres) : ahead n i l = [] := by
  refine List.filter_eq_nil_iff.mpr fun x hx q => hn ?_
  exact soo_trans (hp x hx) (h x hx) q
theorem put_at (n : Night) {i : Nat} : ∀ {l : List Nat}, (∀ k ∈ l, 0 < (n.street k).metres) → l.Pairwise (So n) → put n i l = l.take (ahead n i l).length ++ [i] ++ l.drop (ahead n i l).length
  | [], _, _ => by unfold put; rfl
  | k :: l, hp, h => by
    obtain ⟨h1, h2⟩ := List.pairwise_cons.mp h
    unfold put
    split
    · rename_i q
      rw [put_at n (fun y hy => hp y (List.mem_cons_of_mem _ hy)) h2]
      have e : ahead n i (k :: l) = k :: ahead n i l := List.filter_cons_of_pos q
      rw [e]
      rfl
    · rename_i q
      have e : ahead n i (k :: l) = [] := by
        unfold ahead
        rw [List.filter_cons, if_neg q]
        exact ahead_none n (hp k List.mem_cons_self) q h1 fun y hy => hp y (List.mem_cons_of_mem _ hy)
      rw [e]
      rfl
theorem sort_go (n : Night) : ∀ (S l : List Nat), (∀ k ∈ S, 0 < (n.street k).metres) → (∀ k ∈ l, 0 < (n.street k).metres) → l.Pairwise (So n) → (S.foldl (fun l i => put n i l) l).Perm (l ++ S) ∧ (S.foldl (fun l i => put n i l) l).Pairwise (So n)
  | [], l, _, _, h => ⟨by rw [List.append_nil]; exact List.Perm.refl _, h⟩
  | i :: S, l, hS, hl, h => by
    have hp := put_perm n i l
    obtain ⟨r1, r2⟩ := sort_go n S (put n i l) (fun k hk => hS k (List.mem_cons_of_mem _ hk)) (fun k hk => by
      rcases List.mem_cons.mp (hp.mem_iff.mp hk) with e | e
      · rw [e]; exact hS i List.mem_cons_self
      · exact hl k e) (put_pair n hl h)
    refine ⟨r1.trans ?_, r2⟩
    exact (List.Perm.append_right S hp).trans List.perm_middle.symm
/-! ### by ratio -/
def rowsOf (n : Night) (s : List Nat) : List (List Nat) := (List.range n.speeds.length).map fun k => sortP n ((List.range n.count).filter fun i => s.getD i 0 == k)
theorem byRatio_eq (n : Night) (s : List Nat) : n.byRatio s = joinP n.count (rowsOf n s) := by
  unfold Night.byRatio rowsOf sortP
  simp only
  cases (List.range n.speeds.length).map fun k => ((List.range n.count).filter fun i => s.getD i 0 == k).foldl (fun l i => put n i l) [] with
  | nil => rfl
  | cons l m => rfl
/-- for each street a plough -/
structure Shr (n : Night) (s : List Nat) : Prop where
  len : s.length = n.count
  lt : ∀ k ∈ s, k < n.speeds.length
theorem mem_sharings : ∀ (m k : Nat) (s : List Nat), s.length = m → (∀ x ∈ s, x < k) → s ∈ sharings k m
  | 0, k, s, h, _ => by
    rw [List.length_eq_zero_iff.mp h]
    exact List.mem_singleton.mpr rfl
  | m + 1, k, [], h, _ => by cases h
  | m + 1, k, t :: s, h, hl => by
    unfold sharings
    refine List.mem_flatMap.mpr ⟨t, List.mem_range.mpr (hl t List.mem_cons_self), List.mem_map.mpr ⟨s, mem_sharings m k s (Nat.succ.inj h) fun x hx => hl x (List.mem_cons_of_mem _ hx), rfl⟩⟩
theorem sharings_mem : ∀ (m k : Nat) (s : List Nat), s ∈ sharings k m → s.length = m ∧ ∀ x ∈ s, x < k
  | 0, k, s, h => by
    rw [List.mem_singleton.mp h]
    exact ⟨rfl, fun x hx => absurd hx (by simp)⟩
  | m + 1, k, s, h => by
    unfold sharings at h
    obtain ⟨t, ht, h⟩ := List.mem_flatMap.mp h
    obtain ⟨r, hr, rfl⟩ := List.mem_map.mp h
    obtain ⟨r1, r2⟩ := sharings_mem m k r hr
    refine ⟨by rw [List.length_cons, r1], fun x hx => ?_⟩
    rcases List.mem_cons.mp hx with e | e
    · rw [e]; exact List.mem_range.mp ht
    · exact r2 x e
theorem flatMap_perm {α β : Type} {f g : α → List β} : ∀ (l : List α), (∀ a ∈ l, (f a).Perm (g a)) → (l.flatMap f).Perm (l.flatMap g)
  | [], _ => List.Perm.refl _
  | a :: l, h => by
    rw [List.flatMap_cons, List.flatMap_cons]
    exact (h a List.mem_cons_self).append (flatMap_perm l fun x hx => h x (List.mem_cons_of_mem _ hx))
section
variable {n : Night} {b : Nat}
theorem street_get (n : Night) {i : Nat} (h : i < n.count) : n.street i = n.streets[i]'h := getD_lt _ h
theorem street_ok (g : Good n b) {i : Nat} (h : i < n.count) : 1 ≤ (n.street i).metres ∧ (n.street i).metres ≤ 1000 ∧ (n.street i).grows ≤ 100 := by
  rw [street_get n h]
  exact g.st _ (List.getElem_mem h)
theorem sort_ok (g : Good n b) {S : List Nat} (h : ∀ k ∈ S, k < n.count) : (sortP n S).Perm S ∧ (sortP n S).Pairwise (So n) := sort_go n S [] (fun k hk => (street_ok g (h k hk)).1) (fun k hk => absurd hk (by simp)) List.Pairwise.nil
theorem filt_lt {f : Nat → Bool} {m k : Nat} (h : k ∈ (List.range m).filter f) : k < m := List.mem_range.mp (List.mem_filter.mp h).1
theorem rowsOf_lt (g : Good n b) (s : List Nat) : ∀ sh ∈ rowsOf n s, ∀ i ∈ sh, i < n.count := fun sh hs i hi => by
  obtain ⟨k, hk, rfl⟩ := List.mem_map.mp hs
  exact filt_lt (((sort_ok g fun k hk => filt_lt hk).1).mem_iff.mp hi)
theorem rowsOf_ne (g : Good n b) (s : List Nat) : rowsOf n s ≠ [] := fun e => by
  have := congrArg List.length e
  unfold rowsOf at this
  rw [List.length_map, List.length_range] at this
  have p := g.p1
  rw [this] at p
  exact absurd p (by decide)
theorem byRatio_parts (g : Good n b) (s : List Nat) : parts n.count (n.byRatio s) = rowsOf n s := by
  rw [byRatio_eq]
  exact parts_join _ _ (rowsOf_ne g s) fun sh hs i hi => Nat.ne_of_lt (rowsOf_lt g s sh hs i hi)
theorem byRatio_formed (g : Good n b) {s : List Nat} (h : Shr n s) : n.formed (n.byRatio s) = true := by
  rw [formed_iff n _ g.p1, byRatio_eq]
  refine (joinP_perm _ _ (rowsOf_ne g s)).trans ?_
  have e : (rowsOf n s).length = n.speeds.length := by unfold rowsOf; rw [List.length_map, List.length_range]
  unfold numbersOf
  rw [e]
  refine List.Perm.append_right _ ?_
  have q := g.chk
  unfold SnowM.chk at q
  rw [Bool.and_eq_true, Bool.and_eq_true] at q
  have q := List.isPerm_iff.mp (List.all_eq_true.mp q.2.2 s (mem_sharings _ _ s h.len h.lt))
  refine List.Perm.trans ?_ q
  unfold rowsOf
  rw [← List.flatMap_def]
  exact flatMap_perm _ fun k hk => (sort_ok g fun k hk => filt_lt hk).1
/-- whose each street is, of a plan -/
def owners (n : Night) (l : List Nat) : List Nat := (List.range n.count).map (whoM n.count l)
theorem owners_shr (g : Good n b) {l : List Nat} (h : n.formed l = true) : Shr n (owners n l) := by
  refine ⟨by unfold owners; rw [List.length_map, List.length_range], fun k hk => ?_⟩
  obtain ⟨i, hi, rfl⟩ := List.mem_map.mp hk
  exact (g.pl h).who i (List.mem_range.mp hi)
theorem owners_get {l : List Nat} {i : Nat} (h : i < n.count) : (owners n l).getD i 0 = whoM n.count l i := by
  rw [getD_lt _ (by unfold owners; rw [List.length_map, List.length_range]; exact h)]
  unfold owners
  rw [List.getElem_map, List.getElem_range]
theorem filter_owners (l : List Nat) (k : Nat) : ((List.range n.count).filter fun i => (owners n l).getD i 0 == k) = (List.range n.count).filter fun i => whoM n.count l i == k := by
  refine List.filter_congr fun i hi => ?_
  rw [owners_get (List.mem_range.mp hi)]
theorem rowsOf_get (n : Night) (s : List Nat) {k : Nat} (h : k < n.speeds.length) : (rowsOf n s).getD k [] = sortP n ((List.range n.count).filter fun i => s.getD i 0 == k) := by
  rw [getD_lt _ (by unfold rowsOf; rw [List.length_map, List.length_range]; exact h)]
  unfold rowsOf
  rw [List.getElem_map, List.getElem_range]
theorem who_same (g : Good n b) {l : List Nat} (h : n.formed l = true) {i : Nat} (hi : i < n.count) : whoM n.count (n.byRatio (owners n l)) i = whoM n.count l i := by
  have hs := owners_shr g h
  have hf := byRatio_formed g hs
  have hk := (g.pl h).who i hi
  have p := (g.pl hf).perm _ hk
  rw [byRatio_parts g, rowsOf_get n _ hk] at p
  have p2 := (sort_ok g (n := n) (S := (List.range n.count).filter fun j => (owners n l).getD j 0 == whoM n.count l i) fun k hk => filt_lt hk).1
  have m : i ∈ (List.range n.count).filter fun j => (owners n l).getD j 0 == whoM n.count l i := List.mem_filter.mpr ⟨List.mem_range.mpr hi, by rw [owners_get hi]; exact beq_self_eq_true _⟩
  have m2 := p.mem_iff.mp (p2.mem_iff.mpr m)
  exact beq_iff_eq.mp (List.mem_filter.mp m2).2
theorem right_same (g : Good n b) {l : List Nat} (h : n.formed l = true) : n.right (n.byRatio (owners n l)) = n.right l := by
  have hf := byRatio_formed g (owners_shr g h)
  have e1 : n.near (n.byRatio (owners n l)) = n.near l := find_congr _ fun x hx => by
    show (whoM _ _ _ == whoM _ _ _) = (whoM _ _ _ == whoM _ _ _)
    rw [who_same g h (g.ap x hx).1, who_same g h (g.ap x hx).2]
  have e2 : n.far (n.byRatio (owners n l)) = n.far l := find_congr _ fun x hx => by
    show (whoM _ _ _ != whoM _ _ _) = (whoM _ _ _ != whoM _ _ _)
    rw [who_same g h (g.tg x hx).1, who_same g h (g.tg x hx).2]
  unfold Night.right
  rw [hf, h, e1, e2]
theorem done_sort (g : Good n b) {S T : List Nat} (hp : T.Perm S) (hS : ∀ k ∈ S, k < n.count) {v : Nat} (hv : 0 < v) {e : Nat} (h : (n.done v T).n ≤ e * (n.done v T).d) : (n.done v (sortP n S)).n ≤ e * (n.done v (sortP n S)).d := by
  obtain ⟨p1, p2⟩ := sort_ok g hS
  rw [done_by n hv] at *
  have q1 := order_best v ((sortP n S).map n.street) (List.pairwise_map.mpr p2) (T.map n.street) ((hp.trans p1.symm).map _) 0 1
  have q2 : (rawF v (0, 1) ((sortP n S).map n.street)).2 = (rawF v (0, 1) (T.map n.street)).2 := by
    rw [rawF_two, rawF_two, List.length_map, List.length_map, (hp.trans p1.symm).length_eq]
  rw [q2]
  exact Nat.le_trans q1 h
theorem clear_sort (g : Good n b) {l : List Nat} (h : n.formed l = true) {e : Nat} (hc : (!Si75.less (Si75.whole e) (n.clear l)) = true) : (!Si75.less (Si75.whole e) (n.clear (n.byRatio (owners n l)))) = true := by
  rw [clear_by g h] at hc
  rw [clear_by g (byRatio_formed g (owners_shr g h))]
  intro k hk
  rw [byRatio_parts g, rowsOf_get n _ hk, filter_owners]
  exact done_sort g ((g.pl h).perm k hk) (fun k hk => filt_lt hk) (speed_pos g k) (hc k hk)
/-- all can be clear by a minute: gone through plan by plan -/
theorem can_eq (g : Good n b) (e : Nat) : n.can e = n.plans.any fun l => !Si75.less (Si75.whole e) (n.clear l) := by
  rw [Bool.eq_iff_iff]
  unfold Night.can
  rw [List.any_eq_true, List.any_eq_true]
  constructor
  · rintro ⟨l, hl, q⟩
    obtain ⟨s, hs, rfl⟩ := List.mem_map.mp hl
    rw [Bool.and_eq_true] at q
    obtain ⟨r1, r2⟩ := sharings_mem _ _ s hs
    exact ⟨_, List.mem_filter.mpr ⟨g.mem.mpr (byRatio_formed g ⟨r1, r2⟩), q.1⟩, q.2⟩
  · rintro ⟨l, hl, q⟩
    have hf := plans_formed g hl
    have hr : n.right l = true := (List.mem_filter.mp hl).2
    have hs := owners_shr g hf
    refine ⟨n.byRatio (owners n l), List.mem_map.mpr ⟨_, mem_sharings _ _ _ hs.len hs.lt, rfl⟩, ?_⟩
    rw [Bool.and_eq_true]
    exact ⟨by rw [right_same g hf]; exact hr, clear_sort g hf q⟩
/-! ### faster -/
theorem with_good (g : Good n b) (k : Nat) {v : Nat} (h : 1 ≤ v ∧ v ≤ 1000) : Good (n.with_ k v) b := by
  refine ⟨?_, ?_, fun x hx => ?_, g.s4, g.st, g.ap, g.tg, g.al, g.tl⟩
  · show 1 ≤ (n.speeds.set k v).length
    rw [List.length_set]; exact g.p1
  · show (n.speeds.set k v).length ≤ 3
    rw [List.length_set]; exact g.p3
  · rcases List.mem_or_eq_of_mem_set hx with q | q
    · exact g.sv x q
    · rw [q]; exact h
theorem with_formed (n : Night) (k v : Nat) (l : List Nat) : (n.with_ k v).formed l = n.formed l := by
  unfold Night.formed
  show (_ && (_ && (_ == (n.speeds.set k v).length))) = _
  rw [List.length_set]
  rfl
theorem with_right (n : Night) (k v : Nat) (l : List Nat) : (n.with_ k v).right l = n.right l := by
  unfold Night.right
  rw [with_formed]
  rfl
theorem with_plans (n : Night) (k v : Nat) : (n.with_ k v).plans = n.plans := by
  rw [plans_eq, plans_eq]
  have e : Night.all_ (n.with_ k v) = Night.all_ n := by
    unfold Night.all_
    show rows (n.count + (n.speeds.set k v).length - 1) (numbersOf n.count (n.speeds.set k v).length) = _
    rw [List.length_set]
  rw [e]
  exact List.filter_congr fun l _ => with_right n k v l
def enough (n : Night) (k e v : Nat) : Bool := n.plans.any fun l => !Si75.less (Si75.whole e) ((n.with_ k v).clear l)
theorem enough_can (g : Good n b) (k e : Nat) {v : Nat} (h : 1 ≤ v ∧ v ≤ 1000) : (n.with_ k v).can e = enough n k e v := by
  rw [can_eq (with_good g k h), with_plans]
  rfl
theorem speed_with (n : Night) {k v : Nat} (j : Nat) : (n.with_ k v).speed j = if k = j ∧ j < n.speeds.length then v else n.speed j := by
  unfold Night.speed
  show (n.speeds.set k v).getD j 1 = _
  rw [List.getD_eq_getElem?_getD, List.getD_eq_getElem?_getD, List.getElem?_set]
  by_cases hk : k = j
  · subst hk
    by_cases hj : k < n.speeds.length
    · simp [hj]
    · rw [if_pos rfl, if_neg hj, if_neg (fun q => hj q.2), List.getElem?_eq_none (by omega)]
  · rw [if_neg hk, if_neg (fun q => hk q.1)]
theorem done_fast (n : Night) {v w : Nat} (hv : 0 < v) (h : v ≤ w) (l : List Nat) {e : Nat} (q : (n.done v l).n ≤ e * (n.done v l).d) : (n.done w l).n ≤ e * (n.done w l).d := by
  rw [done_by n hv] at q
  rw [done_by n (by omega)]
  have f := fast_le h (l.map n.street) (0, 1) (0, 1) (by decide)
  have pv := rawF_pos hv (l.map n.street) (p := (0, 1)) (by decide)
  generalize rawF v (0, 1) (l.map n.street) = x at *
  generalize rawF w (0, 1) (l.map n.street) = y at *
  have q2 : x.1 * y.2 ≤ e * x.2 * y.2 := Nat.mul_le_mul_right _ q
  have q3 : y.1 * x.2 ≤ e * y.2 * x.2 := by
    rw [Nat.mul_right_comm]
    omega
  exact Nat.le_of_mul_le_mul_right q3 pv
theorem enough_mono (g : Good n b) (k e : Nat) {v w : Nat} (hv : 1 ≤ v) (hw : w ≤ 1000) (h : v ≤ w) (q : enough n k e v = true) : enough n k e w = true := by
  unfold enough at *
  rw [List.any_eq_true] at *
  obtain ⟨l, hl, q⟩ := q
  refine ⟨l, hl, ?_⟩
  have hf := plans_formed g hl
  have fv : (n.with_ k v).formed l = true := by rw [with_formed]; exact hf
  have fw : (n.with_ k w).formed l = true := by rw [with_formed]; exact hf
  rw [clear_by (with_good g k ⟨hv, by omega⟩) fv] at q
  rw [clear_by (with_good g k ⟨by omega, hw⟩) fw]
  intro j hj
  have e1 : (n.with_ k v).speeds.length = (n.with_ k w).speeds.length := by
    show (n.speeds.set k v).length = (n.speeds.set k w).length
    rw [List.length_set, List.length_set]
  have q := q j (by rw [e1]; exact hj)
  have d1 : ∀ v x sh, (n.with_ k v).done x sh = n.done x sh := fun _ _ _ => rfl
  have c1 : ∀ v, (n.with_ k v).count = n.count := fun _ => rfl
  rw [d1, c1] at q ⊢
  have hlt : (n.with_ k v).speed j ≤ (n.with_ k w).speed j := by
    rw [speed_with, speed_with]
    split
    · exact h
    · exact Nat.le_refl _
  exact done_fast n (speed_pos (with_good g k ⟨hv, by omega⟩) j) hlt _ q
/-! ### halving -/
theorem halved_ok (f : Nat → Bool) : ∀ (k lo hi : Nat), lo < hi → hi ≤ lo + 1 + k → lo < halved f k lo hi ∧ halved f k lo hi ≤ hi ∧ (halved f k lo hi = hi ∨ f (halved f k lo hi) = true) ∧ (halved f k lo hi = lo + 1 ∨ f (halved f k lo hi - 1) = false)
  | 0, lo, hi, h1, h2 => by
    unfold halved
    refine ⟨h1, Nat.le_refl _, .inl rfl, .inl (by omega)⟩
  | k + 1, lo, hi, h1, h2 => by
    unfold halved
    by_cases hs : hi ≤ lo + 1
    · rw [if_pos hs]
      exact ⟨h1, Nat.le_refl _, .inl rfl, .inl (by omega)⟩
    · rw [if_neg hs]
      simp only
      have m1 : lo < (lo + hi) / 2 := by omega
      have m2 : (lo + hi) / 2 < hi := by omega
      cases hf : f ((lo + hi) / 2) with
      | true =>
        rw [if_pos rfl]
        obtain ⟨r1, r2, r3, r4⟩ := halved_ok f k lo ((lo + hi) / 2) m1 (by omega)
        refine ⟨r1, by omega, .inr ?_, r4⟩
        rcases r3 with e | e
        · rw [e]; exact hf
        · exact e
      | false =>
        rw [if_neg (by simp)]
        obtain ⟨r1, r2, r3, r4⟩ := halved_ok f k ((lo + hi) / 2) hi m2 (by omega)
        refine ⟨by omega, r2, r3, .inr ?_⟩
        rcases r4 with e | e
        · rw [e]
          exact hf
        · exact e
def progNeeds (n : Night) (k e : Nat) : Nat := halved (enough n k e) 1001 0 1001
theorem halved_congr {f g : Nat → Bool} (H : Nat) (h : ∀ v, 1 ≤ v → v < H → f v = g v) : ∀ (k lo hi : Nat), hi ≤ H → halved f k lo hi = halved g k lo hi
  | 0, _, _, _ => rfl
  | k + 1, lo, hi, hh => by
    unfold halved
    split
    · rfl
    · simp only
      rw [h ((lo + hi) / 2) (by omega) (by omega)]
      split
      · exact halved_congr H h k lo _ (by omega)
      · exact halved_congr H h k _ hi hh
theorem needs_eq (g : Good n b) (k e : Nat) : n.needs k e = if progNeeds n k e > 1000 then none else some (progNeeds n k e) := by
  unfold Night.needs
  rw [enough_can g k e (v := FAST) ⟨by decide, by decide⟩]
  rw [halved_congr (f := fun v => (n.with_ k v).can e) (g := enough n k e) 1000 (fun v h1 h2 => enough_can g k e ⟨h1, by omega⟩) FAST 0 FAST (Nat.le_refl _)]
  have r := halved_ok (enough n k e) 1001 0 1001 (by decide) (by decide)
  have s := halved_ok (enough n k e) 1000 0 1000 (by decide) (by decide)
  unfold progNeeds
  show (if enough n k e 1000 = false then none else some (halved (enough n k e) 1000 0 1000)) = _
  generalize halved (enough n k e) 1001 0 1001 = x at *
  generalize halved (enough n k e) 1000 0 1000 = y at *
  obtain ⟨r1, r2, r3, r4⟩ := r
  obtain ⟨s1, s2, s3, s4⟩ := s
  cases hf : enough n k e 1000 with
  | false =>
    rw [if_pos rfl]
    by_cases hx : x > 1000
    · rw [if_pos hx]
    · exfalso
      rcases r3 with z | z
      · omega
      · rw [enough_mono g k e (v := x) (w := 1000) (by omega) (by omega) (by omega) z] at hf
        cases hf
  | true =>
    rw [if_neg (by simp)]
    have hx : ¬ x > 1000 := fun q => by
      have e1 : x = 1001 := by omega
      rcases r4 with z | z
      · omega
      · rw [e1] at z
        rw [show (1001 - 1 : Nat) = 1000 from rfl, hf] at z
        cases z
    rw [if_neg hx]
    have fx : enough n k e x = true := by
      rcases r3 with z | z
      · omega
      · exact z
    have fy : enough n k e y = true := by
      rcases s3 with z | z
      · rw [z]; exact hf
      · exact z
    refine congrArg some ?_
    rcases Nat.lt_trichotomy x y with h | h | h
    · exfalso
      rcases s4 with z | z
      · omega
      · rw [enough_mono g k e (v := x) (w := y - 1) (by omega) (by omega) (by omega) fx] at z
        cases z
    · exact h.symm
    · exfalso
      rcases r4 with z | z
      · omega
      · rw [enough_mono g k e (v := y) (w := x - 1) (by omega) (by omega) (by omega) fy] at z
        cases z
end
end SnowM
/-! ## part MathE -/
namespace SnowM
open Si79
/-! ### the best plan, as the program looks for it -/
abbrev BSt := Option Time × List (List (List Nat))
def bstep (n : Night) (st : BSt) (sh : List (List Nat)) : BSt :=
  let c := latest (timesV n sh n.speeds)
  let s1 : BSt := match st.1 with
    | none => (some c, [])
    | some s => if Si75.less c s = true then (some c, []) else st
  if s1.1 = some c then (s1.1, s1.2 ++ [sh]) else s1
def BRel (n : Night) (ls : List (List Nat)) (st : BSt) : Option Si75.Best → Prop
  | none => st = (none, [])
  | some x => ∃ rest, st = (some x.time, parts n.count x.row :: rest) ∧ rest.length + 1 = x.many ∧ x.row ∈ ls
def bspec (n : Night) (r : Option Si75.Best) (l : List Nat) : Option Si75.Best :=
  match r with
  | none => some ⟨n.clear l, 1, l⟩
  | some x => if Si75.less (n.clear l) x.time = true then some ⟨n.clear l, 1, l⟩ else if n.clear l = x.time then some ⟨x.time, x.many + 1, x.row⟩ else some x
theorem bestOf_eq (n : Night) (p : List (List Nat)) : Si75.bestOf n.clear p = p.foldl (bspec n) none := rfl
theorem brel_step {n : Night} {b : Nat} (g : Good n b) {ls : List (List Nat)} {st : BSt} {r : Option Si75.Best} {l : List Nat} (hf : n.formed l = true) (hl : l ∈ ls) (h : BRel n ls st r) : BRel n ls (bstep n st (parts n.count l)) (bspec n r l) := by
  have e : latest (timesV n (parts n.count l) n.speeds) = n.clear l := by rw [times_eq g hf]; rfl
  unfold bstep bspec
  simp only
  rw [e]
  cases r with
  | none =>
    have h : st = (none, []) := h
    subst h
    simp only [if_true]
    exact ⟨[], rfl, rfl, hl⟩
  | some x =>
    obtain ⟨rest, rfl, e2, e3⟩ := h
    simp only
    by_cases c1 : Si75.less (n.clear l) x.time = true
    · rw [if_pos c1, if_pos c1]
      simp only [if_true]
      exact ⟨[], rfl, rfl, hl⟩
    · rw [if_neg c1, if_neg c1]
      simp only
      by_cases c2 : n.clear l = x.time
      · rw [if_pos (congrArg some c2.symm), if_pos c2]
        exact ⟨rest ++ [parts n.count l], rfl, by rw [List.length_append, List.length_singleton, e2], e3⟩
      · rw [if_neg (fun q => c2 (Option.some.inj q).symm), if_neg c2]
        exact ⟨rest, rfl, e2, e3⟩
theorem brel_fold {n : Night} {b : Nat} (g : Good n b) {ls : List (List Nat)} : ∀ (p : List (List Nat)) (st : BSt) (r : Option Si75.Best), (∀ l ∈ p, n.formed l = true ∧ l ∈ ls) → BRel n ls st r → BRel n ls ((p.map (parts n.count)).foldl (bstep n) st) (p.foldl (bspec n) r)
  | [], _, _, _, h => h
  | l :: p, st, r, hp, h => by
    have q := hp l List.mem_cons_self
    exact brel_fold g p _ _ (fun x hx => hp x (List.mem_cons_of_mem _ hx)) (brel_step g q.1 q.2 h)
theorem best_rel {n : Night} {b : Nat} (g : Good n b) : BRel n n.plans ((possible n).foldl (bstep n) (none, [])) n.best := by
  rw [possible_eq g]
  exact brel_fold g n.plans (none, []) none (fun l hl => ⟨plans_formed g hl, hl⟩) rfl
/-! ### the calls -/
def num : Si79.Call → Nat × List Nat
  | .begins l => (0, l)
  | .street s => (1, [s.metres, s.grows])
  | .apart i j => (2, [i, j])
  | .together i j => (3, [i, j])
  | .check l => (4, l)
  | .best => (5, [])
  | .ratio s => (6, s)
  | .needs k e => (7, [k, e])
def enc (q : Si79.Call) : List Nat := match q with
  | .begins l => 0 :: l.length :: l
  | .street s => [1, s.metres, s.grows]
  | .apart i j => [2, i, j]
  | .together i j => [3, i, j]
  | .check l => 4 :: l.length :: l
  | .best => [5]
  | .ratio s => 6 :: s.length :: s
  | .needs k e => [7, k, e]
def cast (l : List Nat) : List Int := l.map fun (x : Nat) => (x : Int)
/-- a call of the line, as the specification has it -/
def asCall (q : Si79.Call) : List (List Int) := [((num q).1 : Int) :: cast (num q).2]
structure QOk (q : Si79.Call) : Prop where
  lt : ∀ x ∈ (num q).2, x < 4294967296
  len : (num q).2.length ≤ 8
def playQ : Night → List Si79.Call → List (List Int)
  | _, [] => []
  | s, q :: r => ((Si79.step s q).2.v :: (Si79.step s q).2.l) :: playQ (Si79.step s q).1 r
def shortQ : Night → Nat → List Si79.Call → Prop
  | _, _, [] => True
  | s, k, q :: r => (Si79.step s q).2.l.length + 1 ≤ k ∧ shortQ (Si79.step s q).1 (k - ((Si79.step s q).2.l.length + 1)) r
theorem toNat_cast : ∀ l : List Nat, (cast l).map Int.toNat = l
  | [] => rfl
  | x :: l => by
    show Int.toNat (x : Int) :: (cast l).map Int.toNat = _
    rw [toNat_cast l, Int.toNat_natCast]
theorem cast_toNat : ∀ l : List Int, (∀ z ∈ l, 0 ≤ z) → cast (l.map Int.toNat) = l
  | [], _ => rfl
  | z :: l, h => by
    show ((z.toNat : Nat) : Int) :: cast (l.map Int.toNat) = _
    rw [cast_toNat l fun x hx => h x (List.mem_cons_of_mem _ hx), Int.toNat_of_nonneg (h z List.mem_cons_self)]
theorem row_some {r x t : List Int} (h : PyFlat.row r = some (x, t)) : r = (x.length : Int) :: (x ++ t) := by
  unfold PyFlat.row at h
  split at h
  · cases h
  · rename_i n r'
    split at h
    · rename_i hn
      cases h
      rw [List.take_append_drop, List.length_take, Nat.min_eq_left hn.2, Int.toNat_of_nonneg hn.1]
    · cases h
theorem rows1_some {r t : List Int} {xs : List (List Int)} (h : PyFlat.rows 1 r = some (xs, t)) : ∃ x, xs = [x] ∧ r = (x.length : Int) :: (x ++ t) := by
  unfold PyFlat.rows at h
  split at h
  · cases h
  · rename_i x s e
    simp only [PyFlat.rows] at h
    cases h
    exact ⟨x, rfl, row_some e⟩
/-- one call read -/
theorem call_some {p : Int} {r t : List Int} {c : List (List Int)} (h : PyFlat.call PySi79.shape (p :: r) = some (c, t)) :
    ((p = 0 ∨ p = 4 ∨ p = 6) ∧ ∃ x, c = [[p], x] ∧ r = (x.length : Int) :: (x ++ t)) ∨ (p = 5 ∧ c = [[p]] ∧ r = t) ∨ ((p = 1 ∨ p = 2 ∨ p = 3 ∨ p = 7) ∧ ∃ x y, c = [[p, x, y]] ∧ r = x :: y :: t) := by
  have one : PySi79.shape p = some (0, 1) → ∃ x, c = [[p], x] ∧ r = (x.length : Int) :: (x ++ t) := fun hs => by
    unfold PyFlat.call at h
    simp only at h
    rw [hs] at h
    simp only [Nat.not_lt_zero, if_false, List.drop_zero, List.take_zero] at h
    split at h
    · cases h
    · rename_i xs s e
      cases h
      obtain ⟨x, rfl, er⟩ := rows1_some e
      exact ⟨x, rfl, er⟩
  have two : PySi79.shape p = some (2, 0) → ∃ x y, c = [[p, x, y]] ∧ r = x :: y :: t := fun hs => by
    unfold PyFlat.call at h
    simp only at h
    rw [hs] at h
    simp only [PyFlat.rows] at h
    split at h
    · cases h
    · rename_i hl
      cases h
      match r, hl with
      | [], hl => exact absurd (show (0 : Nat) < 2 by decide) hl
      | [_], hl => exact absurd (show (1 : Nat) < 2 by decide) hl
      | x :: y :: r, _ => exact ⟨x, y, rfl, rfl⟩
  by_cases h0 : p = 0
  · exact .inl ⟨.inl h0, one (by rw [h0]; rfl)⟩
  by_cases h1 : p = 1
  · exact .inr (.inr ⟨.inl h1, two (by rw [h1]; rfl)⟩)
  by_cases h2 : p = 2
  · exact .inr (.inr ⟨.inr (.inl h2), two (by rw [h2]; rfl)⟩)
  by_cases h3 : p = 3
  · exact .inr (.inr ⟨.inr (.inr (.inl h3)), two (by rw [h3]; rfl)⟩)
  by_cases h4 : p = 4
  · exact .inl ⟨.inr (.inl h4), one (by rw [h4]; rfl)⟩
  by_cases h5 : p = 5
  · refine .inr (.inl ⟨h5, ?_⟩)
    subst h5
    unfold PyFlat.call at h
    simp only at h
    rw [show PySi79.shape 5 = some (0, 0) from rfl] at h
    simp only [PyFlat.rows, Nat.not_lt_zero, if_false, List.drop_zero, List.take_zero] at h
    cases h
    exact ⟨rfl, rfl⟩
  by_cases h6 : p = 6
  · exact .inl ⟨.inr (.inr h6), one (by rw [h6]; rfl)⟩
  by_cases h7 : p = 7
  · exact .inr (.inr ⟨.inr (.inr (.inr h7)), two (by rw [h7]; rfl)⟩)
  exfalso
  unfold PyFlat.call at h
  simp only at h
  rw [show PySi79.shape p = none by unfold PySi79.shape; simp only [h0, h1, h2, h3, h4, h5, h6, h7, if_false]] at h
  cases h
/-- one call, allowed -/
theorem call_asked {p : Int} {r t : List Int} {c : List (List Int)} (h : PyFlat.call PySi79.shape (p :: r) = some (c, t)) (ha : Si79Neutral.asked1 (PySi79.whole c) = true) :
    ∃ q, QOk q ∧ p :: r = cast (enc q) ++ t ∧ PySi79.whole c = asCall q ∧ Si79Neutral.callOf ((asCall q).headD []) = some q := by
  have nat : ∀ xs : List Int, xs.all (fun (z : Int) => Si79Neutral.natural z 32) = true → (∀ z ∈ xs, 0 ≤ z) ∧ ∀ x ∈ xs.map Int.toNat, x < 4294967296 := fun xs hx => by
    have hh : ∀ z ∈ xs, 0 ≤ z ∧ z < 4294967296 := fun z hz => by
      have := List.all_eq_true.mp hx z hz
      unfold Si79Neutral.natural at this
      rw [Bool.and_eq_true, decide_eq_true_eq, decide_eq_true_eq] at this
      exact ⟨this.1, by have e : (2 : Int) ^ 32 = 4294967296 := by decide
                        omega⟩
    refine ⟨fun z hz => (hh z hz).1, fun x hx => ?_⟩
    obtain ⟨z, hz, rfl⟩ := List.mem_map.mp hx
    have := hh z hz
    omega
  unfold Si79Neutral.asked1 at ha
  rw [Bool.and_eq_true, Bool.and_eq_true] at ha
  obtain ⟨_, a1, a2⟩ := ha
  rcases call_some h with ⟨hp, x, rfl, rfl⟩ | ⟨rfl, rfl, rfl⟩ | ⟨hp, x, y, rfl, rfl⟩
  · have key : ∀ (k : Nat) (mk : List Nat → Si79.Call), PySi79.whole [[(k : Int)], x] = [(k : Int) :: x] → (∀ l, num (mk l) = (k, l)) → (∀ l, enc (mk l) = k :: l.length :: l) → (∀ l q, Si79Neutral.callOf ((k : Int) :: l) = some q → q = mk (l.map Int.toNat) ∧ l.length ≤ 8) → p = (k : Int) →
        ∃ q, QOk q ∧ p :: (x.length : Int) :: (x ++ t) = cast (enc q) ++ t ∧ PySi79.whole [[p], x] = asCall q ∧ Si79Neutral.callOf ((asCall q).headD []) = some q := fun k mk w1 w2 w3 w4 hpk => by
      subst hpk
      rw [w1] at a1 a2
      have a1' : ((k : Int) :: x).all (fun (z : Int) => Si79Neutral.natural z 32) = true := a1
      rw [List.all_cons, Bool.and_eq_true] at a1'
      obtain ⟨n1, n2⟩ := nat x a1'.2
      obtain ⟨q, hq⟩ := Option.isSome_iff_exists.mp (show (Si79Neutral.callOf ((k : Int) :: x)).isSome = true from a2)
      obtain ⟨e, hl⟩ := w4 x q hq
      have c1 := cast_toNat x n1
      have ea : asCall (mk (x.map Int.toNat)) = [(k : Int) :: x] := by
        unfold asCall
        rw [w2, c1]
      refine ⟨mk (x.map Int.toNat), ⟨by rw [w2]; exact n2, by rw [w2, List.length_map]; exact hl⟩, ?_, ?_, ?_⟩
      · rw [w3]
        show _ = (k : Int) :: ((x.map Int.toNat).length : Int) :: cast (x.map Int.toNat) ++ t
        rw [c1, List.length_map]
        rfl
      · rw [w1, ea]
      · rw [ea]
        show Si79Neutral.callOf ((k : Int) :: x) = _
        rw [hq, e]
    rcases hp with e | e | e
    · refine key 0 .begins rfl (fun _ => rfl) (fun _ => rfl) (fun l q hq => ?_) e
      unfold Si79Neutral.callOf at hq
      simp only [List.map_cons] at hq
      rw [show Int.toNat ((0 : Nat) : Int) = 0 from rfl] at hq
      simp only [List.length_map] at hq
      split at hq
      · cases hq; exact ⟨rfl, by omega⟩
      · cases hq
    · refine key 4 .check rfl (fun _ => rfl) (fun _ => rfl) (fun l q hq => ?_) e
      unfold Si79Neutral.callOf at hq
      simp only [List.map_cons] at hq
      rw [show Int.toNat ((4 : Nat) : Int) = 4 from rfl] at hq
      simp only [List.length_map] at hq
      split at hq
      · cases hq; exact ⟨rfl, by omega⟩
      · cases hq
    · refine key 6 .ratio rfl (fun _ => rfl) (fun _ => rfl) (fun l q hq => ?_) e
      unfold Si79Neutral.callOf at hq
      simp only [List.map_cons] at hq
      rw [show Int.toNat ((6 : Nat) : Int) = 6 from rfl] at hq
      simp only [List.length_map] at hq
      split at hq
      · cases hq; exact ⟨rfl, by omega⟩
      · cases hq
  · exact ⟨.best, ⟨fun x hx => absurd hx (by simp [num]), by decide⟩, rfl, rfl, rfl⟩
  · have key : ∀ (k : Nat) (mk : Nat → Nat → Si79.Call), PySi79.whole [[(k : Int), x, y]] = [[(k : Int), x, y]] → (∀ i j, num (mk i j) = (k, [i, j])) → (∀ i j, enc (mk i j) = [k, i, j]) → (∀ i j : Nat, Si79Neutral.callOf [(k : Int), (i : Int), (j : Int)] = some (mk i j)) → p = (k : Int) →
        ∃ q, QOk q ∧ p :: x :: y :: t = cast (enc q) ++ t ∧ PySi79.whole [[p, x, y]] = asCall q ∧ Si79Neutral.callOf ((asCall q).headD []) = some q := fun k mk w1 w2 w3 w4 hpk => by
      subst hpk
      rw [w1] at a1
      have a1' : ((k : Int) :: [x, y]).all (fun (z : Int) => Si79Neutral.natural z 32) = true := a1
      rw [List.all_cons, Bool.and_eq_true] at a1'
      obtain ⟨n1, n2⟩ := nat [x, y] a1'.2
      have ex : ((x.toNat : Nat) : Int) = x := Int.toNat_of_nonneg (n1 x (by simp))
      have ey : ((y.toNat : Nat) : Int) = y := Int.toNat_of_nonneg (n1 y (by simp))
      have ea : asCall (mk x.toNat y.toNat) = [[(k : Int), x, y]] := by
        unfold asCall
        rw [w2]
        show [[(k : Int), ((x.toNat : Nat) : Int), ((y.toNat : Nat) : Int)]] = _
        rw [ex, ey]
      refine ⟨mk x.toNat y.toNat, ⟨by rw [w2]; exact n2, by rw [w2]; show 2 ≤ 8; decide⟩, ?_, by rw [w1, ea], ?_⟩
      · rw [w3]
        show _ = (k : Int) :: ((x.toNat : Nat) : Int) :: ((y.toNat : Nat) : Int) :: t
        rw [ex, ey]
      · rw [ea]
        have := w4 x.toNat y.toNat
        rw [ex, ey] at this
        exact this
    rcases hp with e | e | e | e
    · exact key 1 (fun i j => .street ⟨i, j⟩) rfl (fun _ _ => rfl) (fun _ _ => rfl) (fun _ _ => rfl) e
    · exact key 2 .apart rfl (fun _ _ => rfl) (fun _ _ => rfl) (fun _ _ => rfl) e
    · exact key 3 .together rfl (fun _ _ => rfl) (fun _ _ => rfl) (fun _ _ => rfl) e
    · exact key 7 .needs rfl (fun _ _ => rfl) (fun _ _ => rfl) (fun _ _ => rfl) e
theorem calls_asked : ∀ (f : Nat) (l : List Int) (raw : List (List (List Int))), PyFlat.calls PySi79.shape f l = some raw → (raw.map PySi79.whole).all Si79Neutral.asked1 = true →
    ∃ qs : List Si79.Call, (∀ q ∈ qs, QOk q ∧ Si79Neutral.callOf ((asCall q).headD []) = some q) ∧ l = cast (qs.flatMap enc) ∧ raw.map PySi79.whole = qs.map asCall
  | f, [], raw, h, _ => by
    have e : raw = [] := by
      cases f <;> (unfold PyFlat.calls at h; cases h; rfl)
    subst e
    exact ⟨[], fun q hq => absurd hq (by simp), rfl, rfl⟩
  | 0, p :: r, raw, h, _ => by
    unfold PyFlat.calls at h
    cases h
  | f + 1, p :: r, raw, h, ha => by
    unfold PyFlat.calls at h
    split at h
    · cases h
    · rename_i c t hc
      split at h
      · cases h
      · rename_i cs hcs
        cases h
        rw [List.map_cons, List.all_cons, Bool.and_eq_true] at ha
        obtain ⟨q, q1, q2, q3, q4⟩ := call_asked hc ha.1
        obtain ⟨qs, r1, r2, r3⟩ := calls_asked f t cs hcs ha.2
        refine ⟨q :: qs, fun x hx => ?_, ?_, ?_⟩
        · rcases List.mem_cons.mp hx with e | e
          · rw [e]; exact ⟨q1, q4⟩
          · exact r1 x e
        · rw [q2, r2, List.flatMap_cons]
          exact (List.map_append).symm
        · rw [List.map_cons, List.map_cons, q3, r3]
theorem played_eq : ∀ (qs : List Si79.Call) (s : Night), (∀ q ∈ qs, Si79Neutral.callOf ((asCall q).headD []) = some q) → PyFlat.played Si79Neutral.step s (qs.map asCall) = playQ s qs
  | [], _, _ => rfl
  | q :: qs, s, h => by
    have e : Si79Neutral.step s (asCall q) = ((Si79.step s q).1, (Si79.step s q).2.v :: (Si79.step s q).2.l) := by
      unfold Si79Neutral.step
      rw [h q List.mem_cons_self]
    rw [List.map_cons]
    unfold PyFlat.played playQ
    rw [e, played_eq qs _ fun x hx => h x (List.mem_cons_of_mem _ hx)]
theorem short_eq : ∀ (qs : List Si79.Call) (s : Night) (k : Nat), (∀ q ∈ qs, Si79Neutral.callOf ((asCall q).headD []) = some q) → Si79Neutral.short s k (qs.map asCall) = true → shortQ s k qs
  | [], _, _, _, _ => trivial
  | q :: qs, s, k, h, hs => by
    have e : Si79Neutral.step s (asCall q) = ((Si79.step s q).1, (Si79.step s q).2.v :: (Si79.step s q).2.l) := by
      unfold Si79Neutral.step
      rw [h q List.mem_cons_self]
    rw [List.map_cons] at hs
    unfold Si79Neutral.short at hs
    simp only at hs
    rw [e, Bool.and_eq_true, decide_eq_true_eq] at hs
    exact ⟨hs.1, short_eq qs _ _ (fun x hx => h x (List.mem_cons_of_mem _ hx)) hs.2⟩
/-- what is handed in, call by call, and what is due -/
theorem decode {l : List Int} (h : PySi79.answers_asked l = true) : ∃ qs : List Si79.Call, l = cast (qs.flatMap enc) ∧ qs.length ≤ 60 ∧ (∀ q ∈ qs, QOk q) ∧ shortQ Si79.init 999999 qs ∧ PySi79.answers l = PyFlat.told (playQ Si79.init qs) := by
  unfold PySi79.answers_asked at h
  split at h
  · cases h
  · rename_i raw hraw
    simp only [Bool.and_eq_true] at h
    obtain ⟨⟨h1, _⟩, h2⟩ := h
    unfold Si79Neutral.asked at h2
    simp only [Bool.and_eq_true] at h2
    obtain ⟨h3, _, h4, _, h5⟩ := h2
    obtain ⟨qs, r1, r2, r3⟩ := calls_asked _ l raw hraw h3
    refine ⟨qs, r2, ?_, fun q hq => (r1 q hq).1, ?_, ?_⟩
    · have := of_decide_eq_true h4
      rw [r3, List.length_map] at this
      exact this
    · rw [r3] at h5
      exact short_eq qs _ _ (fun q hq => (r1 q hq).2) h5
    · unfold PySi79.answers PySi79.calls
      rw [hraw]
      simp only
      rw [r3, ← played_eq qs _ fun q hq => (r1 q hq).2]
      rfl
end SnowM
/-! ## part BDefs -/
namespace SnowB
open PySem PySem.Spec PyProof.Rows L2
open SnowM (Time)
/-! ### the text by places -/
def top (i : Nat) : Stmt := PySem.Challenge.pw_snowploughsdesk_s01_answers.main.body.getD i (.Pass ⟨0, 0, 0, 0⟩)
abbrev sMetres : Stmt := top 14
abbrev sLow : Stmt := top 15
abbrev sLess : Stmt := top 16
abbrev sLatest : Stmt := top 17
abbrev sDone : Stmt := top 18
abbrev sNums : Stmt := top 19
abbrev sPlans : Stmt := top 20
abbrev sShares : Stmt := top 21
abbrev sPlanOf : Stmt := top 22
abbrev sStreetsOf : Stmt := top 23
abbrev sOne : Stmt := top 24
abbrev sFirst : Stmt := top 25
abbrev sInit : Stmt := inClass (top 26) 0
abbrev sBegin : Stmt := inClass (top 26) 1
abbrev sAdd : Stmt := inClass (top 26) 2
abbrev sApart : Stmt := inClass (top 26) 3
abbrev sTog : Stmt := inClass (top 26) 4
abbrev sTell : Stmt := inClass (top 26) 5
abbrev sWhy : Stmt := inClass (top 26) 6
abbrev sTimes : Stmt := inClass (top 26) 7
abbrev sCheck : Stmt := inClass (top 26) 8
abbrev sPoss : Stmt := inClass (top 26) 9
abbrev sBest : Stmt := inClass (top 26) 10
abbrev sOrder : Stmt := inClass (top 26) 11
abbrev sRatio : Stmt := inClass (top 26) 12
abbrev sEnough : Stmt := inClass (top 26) 13
abbrev sNeeds : Stmt := inClass (top 26) 14
abbrev sRead : Stmt := top 27
abbrev sAnswer : Stmt := top 28
abbrev sAnswers : Stmt := top 29
/-! ### heaps -/
def mns (H' H : Hp) : Hp := fun b => if (H b).isSome then none else H' b
def rmv (H : Hp) (D : Addr) : Hp := fun b => if b = D then none else H b
theorem same_upd {H : Hp} {p : Addr} {o : HO} (h : H p = none) : Same H (upd H p o) := fun b x e => by
  rw [upd_ne (ne_of_none e h)]
  exact e
theorem same_upd2 {H H1 : Hp} {p : Addr} {o : HO} (s : Same H H1) (h : H p = none) : Same H (upd H1 p o) := fun b x e => by
  rw [upd_ne (ne_of_none e h)]
  exact s b x e
theorem mns_eq {H' H : Hp} {b : Addr} (h : H b = none) : mns H' H b = H' b := by
  unfold mns
  rw [h]
  rfl
theorem mns_of {H' H : Hp} {b : Addr} {o : HO} (h : mns H' H b = some o) : H b = none ∧ H' b = some o := by
  unfold mns at h
  cases e : H b with
  | none => rw [e] at h; exact ⟨rfl, h⟩
  | some x => rw [e] at h; cases h
theorem mns_same (H' H : Hp) : Same (mns H' H) H' := fun b o h => (mns_of h).2
theorem mns_left {H' H H1 : Hp} (s : Same H H1) : Same (mns H' H1) (mns H' H) := fun b o h => by
  obtain ⟨h1, h2⟩ := mns_of h
  rw [mns_eq (s.free h1)]
  exact h2
theorem mns_right {H' H H1 : Hp} (s : Same H1 H') : Same (mns H1 H) (mns H' H) := fun b o h => by
  obtain ⟨h1, h2⟩ := mns_of h
  rw [mns_eq h1]
  exact s b o h2
theorem rmv_ne {H : Hp} {D b : Addr} (h : b ≠ D) : rmv H D b = H b := by
  unfold rmv
  rw [if_neg h]
theorem rmv_of {H : Hp} {D b : Addr} {o : HO} (h : rmv H D b = some o) : b ≠ D ∧ H b = some o := by
  unfold rmv at h
  split at h
  · cases h
  · exact ⟨by assumption, h⟩
theorem rmv_upd (H : Hp) (D : Addr) (o : HO) : Same (rmv H D) (upd H D o) := fun b x h => by
  obtain ⟨h1, h2⟩ := rmv_of h
  rw [upd_ne h1]
  exact h2
theorem rmv_upd2 (H : Hp) (D : Addr) (o : HO) : Same (rmv H D) (rmv (upd H D o) D) := fun b x h => by
  obtain ⟨h1, h2⟩ := rmv_of h
  rw [rmv_ne h1, upd_ne h1]
  exact h2
theorem rmv_same (H : Hp) (D : Addr) : Same (rmv H D) H := fun b o h => (rmv_of h).2
theorem same_rmv {H H' : Hp} {D : Addr} (s : Same H H') (h : H D = none) : Same H (rmv H' D) := fun b o e => by
  rw [rmv_ne (ne_of_none e h)]
  exact s b o e
theorem rmv_mono {H H' : Hp} {D : Addr} (s : Same H H') : Same (rmv H D) (rmv H' D) := fun b o e => by
  obtain ⟨h1, h2⟩ := rmv_of e
  rw [rmv_ne h1]
  exact s b o h2
theorem mns_rmv {H H' : Hp} {D : Addr} {o : HO} (h : H D = some o) : Same (mns H' H) (rmv H' D) := fun b x e => by
  obtain ⟨h1, h2⟩ := mns_of e
  rw [rmv_ne (fun q => by rw [q, h] at h1; cases h1)]
  exact h2
/-! ### what is kept how -/
abbrev ci (n : Nat) : V := V.int (n : Int)
def vi (ns : List Nat) : List V := ns.map ci
theorem vi_len (ns : List Nat) : (vi ns).length = ns.length := List.length_map ..
theorem vi_get {ns : List Nat} {i : Nat} {x : V} (h : (vi ns)[i]? = some x) : ∃ n, ns[i]? = some n ∧ x = ci n := by
  unfold vi at h
  rw [List.getElem?_map] at h
  cases e : ns[i]? with
  | none => rw [e] at h; cases h
  | some n => rw [e] at h; exact ⟨n, rfl, (Option.some.inj h).symm⟩
theorem vi_at {ns : List Nat} {i n : Nat} (h : ns[i]? = some n) : (vi ns)[i]? = some (ci n) := by
  unfold vi
  rw [List.getElem?_map, h]
  rfl
theorem vi_snoc (ns : List Nat) (n : Nat) : vi (ns ++ [n]) = vi ns ++ [ci n] := List.map_append ..
theorem vi_ints (ns : List Nat) : vi ns = (SnowM.cast ns).map V.int := by
  unfold vi SnowM.cast
  rw [List.map_map]
  rfl
theorem take_more {α : Type} {l : List α} {i : Nat} {x : α} (h : l[i]? = some x) : l.take (i + 1) = l.take i ++ [x] := by
  rw [List.take_add_one, h]
  rfl
/-- xs at the addresses as, one by one -/
def Al {α : Type} (R : Addr → α → Prop) (as : List Addr) (xs : List α) : Prop := as.length = xs.length ∧ ∀ (i : Nat) (a : Addr) (x : α), as[i]? = some a → xs[i]? = some x → R a x
theorem Al.nil {α : Type} {R : Addr → α → Prop} : Al R [] [] := ⟨rfl, fun i a x h => by simp at h⟩
theorem Al.mono {α : Type} {R R' : Addr → α → Prop} {as : List Addr} {xs : List α} (h : Al R as xs) (m : ∀ a x, R a x → R' a x) : Al R' as xs := ⟨h.1, fun i a x h1 h2 => m a x (h.2 i a x h1 h2)⟩
theorem Al.snoc {α : Type} {R : Addr → α → Prop} {as : List Addr} {xs : List α} {a : Addr} {x : α} (h : Al R as xs) (r : R a x) : Al R (as ++ [a]) (xs ++ [x]) := by
  refine ⟨by rw [List.length_append, List.length_append, h.1]; rfl, fun i b y h1 h2 => ?_⟩
  by_cases hi : i < as.length
  · rw [List.getElem?_append_left hi] at h1
    rw [List.getElem?_append_left (by rw [← h.1]; exact hi)] at h2
    exact h.2 i b y h1 h2
  · rw [List.getElem?_append_right (by omega)] at h1
    rw [List.getElem?_append_right (by rw [← h.1]; omega), ← h.1] at h2
    have e : i - as.length = 0 := by
      rcases Nat.eq_zero_or_pos (i - as.length) with z | z
      · exact z
      · rw [List.getElem?_eq_none (by show 1 ≤ _; omega)] at h1
        cases h1
    rw [e] at h1 h2
    cases h1
    cases h2
    exact r
theorem Al.get {α : Type} {R : Addr → α → Prop} {as : List Addr} {xs : List α} (h : Al R as xs) {i : Nat} {a : Addr} (e : as[i]? = some a) : ∃ x, xs[i]? = some x ∧ R a x := by
  obtain ⟨hi, _⟩ := List.getElem?_eq_some_iff.mp e
  have hx : i < xs.length := by rw [← h.1]; exact hi
  exact ⟨xs[i], List.getElem?_eq_getElem hx, h.2 i a _ e (List.getElem?_eq_getElem hx)⟩
theorem Al.get2 {α : Type} {R : Addr → α → Prop} {as : List Addr} {xs : List α} (h : Al R as xs) {i : Nat} {x : α} (e : xs[i]? = some x) : ∃ a, as[i]? = some a ∧ R a x := by
  obtain ⟨hi, _⟩ := List.getElem?_eq_some_iff.mp e
  have hx : i < as.length := by rw [h.1]; exact hi
  exact ⟨as[i], List.getElem?_eq_getElem hx, h.2 i _ x (List.getElem?_eq_getElem hx) e⟩
theorem refs_get {as : List Addr} {i : Nat} {x : V} (h : (as.map V.ref)[i]? = some x) : ∃ a, as[i]? = some a ∧ x = .ref a := by
  rw [List.getElem?_map] at h
  cases e : as[i]? with
  | none => rw [e] at h; cases h
  | some n => rw [e] at h; exact ⟨n, rfl, (Option.some.inj h).symm⟩
theorem refs_at {as : List Addr} {i : Nat} {a : Addr} (h : as[i]? = some a) : (as.map V.ref)[i]? = some (.ref a) := by
  rw [List.getElem?_map, h]
  rfl
theorem ifT {c : Bool} {A B : Prop} (hc : c = true) (h : A) : if c = true then A else B := by
  rw [if_pos hc]
  exact h
theorem ifF {c : Bool} {A B : Prop} (hc : c = false) (h : B) : if c = true then A else B := by
  rw [hc, if_neg Bool.false_ne_true]
  exact h
theorem ifD {c : Prop} [Decidable c] {A B : Prop} (h1 : c → A) (h2 : ¬ c → B) : if decide c = true then A else B := by
  by_cases h : c
  · exact ifT (decide_eq_true h) (h1 h)
  · exact ifF (decide_eq_false h) (h2 h)
/-- the number in a slot -/
def iAt (σ : L2.St) (i : Nat) : Int := match σ[i]? with
  | some (some (V.int z)) => z
  | _ => 0
/-- a list of numbers -/
def RN (H : Hp) (a : Addr) (ns : List Nat) : Prop := H a = some (.lst (vi ns))
/-- a pair of numbers -/
def R2n (H : Hp) (a : Addr) (x : Nat × Nat) : Prop := H a = some (.tup [ci x.1, ci x.2])
def tmO (t : Time) : HO := .tup [ci t.n, ci t.d]
/-- a time -/
def RTm (H : Hp) (a : Addr) (t : Time) : Prop := H a = some (tmO t)
/-- a street -/
def RSt (H : Hp) (a : Addr) (s : Si79.Street) : Prop := H a = some (.tup [ci s.metres, ci s.grows])
/-- a list of such -/
def RL {α : Type} (R : Hp → Addr → α → Prop) (H : Hp) (a : Addr) (xs : List α) : Prop := ∃ as : List Addr, H a = some (.lst (as.map V.ref)) ∧ Al (R H) as xs
abbrev RSh : Hp → Addr → List (List Nat) → Prop := RL RN
abbrev RShs : Hp → Addr → List (List (List Nat)) → Prop := RL RSh
section
variable {H H' : Hp} {a : Addr}
theorem RN.mono {ns : List Nat} (e : Same H H') (h : RN H a ns) : RN H' a ns := e _ _ h
theorem R2n.mono {x : Nat × Nat} (e : Same H H') (h : R2n H a x) : R2n H' a x := e _ _ h
theorem RTm.mono {x : Time} (e : Same H H') (h : RTm H a x) : RTm H' a x := e _ _ h
theorem RSt.mono {x : Si79.Street} (e : Same H H') (h : RSt H a x) : RSt H' a x := e _ _ h
theorem RL.mono {α : Type} {R : Hp → Addr → α → Prop} {xs : List α} (m : ∀ a x, R H a x → R H' a x) (e : Same H H') (h : RL R H a xs) : RL R H' a xs := by
  obtain ⟨as, h1, h2⟩ := h
  exact ⟨as, e _ _ h1, h2.mono m⟩
theorem RSh.mono {x : List (List Nat)} (e : Same H H') (h : RSh H a x) : RSh H' a x := RL.mono (fun _ _ => RN.mono e) e h
theorem RShs.mono {x : List (List (List Nat))} (e : Same H H') (h : RShs H a x) : RShs H' a x := RL.mono (fun _ _ => RSh.mono e) e h
theorem vi_app (xs ys : List Nat) : vi (xs ++ ys) = vi xs ++ vi ys := List.map_append ..
theorem line_le {n : Nat} (h : n ≤ 1000000) : n ≤ sizeLine := by rw [sizeLine_eq]; omega
theorem line_lt {n : Nat} (h : n ≤ 1000000) : n < sizeLine := by rw [sizeLine_eq]; omega
/-- a tuple stands when a list changes -/
theorem upd_tup {D p : Addr} {xs ys zs : List V} (hD : H D = some (.lst xs)) (hp : H p = some (.tup ys)) : upd H D (.lst zs) p = some (.tup ys) := by
  rw [upd_ne (ne_of hp hD (fun z => by cases z))]
  exact hp
end
/-! ### what the top has written -/
structure Txt (K : PySem.W.Frag) (mg : Str → Option Value) (C : Addr) : Prop where
  cl : Cls K C
  nP : NoAttr K C "ploughs"
  nS : NoAttr K C "streets"
  nA : NoAttr K C "apart"
  nT : NoAttr K C "together"
  gC : mg "Night" = some (.ref C)
  c0 : ∃ t, mg "BEGINS" = some (.int 0 t)
  c1 : ∃ t, mg "STREET" = some (.int 1 t)
  c2 : ∃ t, mg "APART" = some (.int 2 t)
  c3 : ∃ t, mg "TOGETHER" = some (.int 3 t)
  c4 : ∃ t, mg "CHECK" = some (.int 4 t)
  c5 : ∃ t, mg "BEST" = some (.int 5 t)
  c6 : ∃ t, mg "RATIO" = some (.int 6 t)
  mP : ∃ t, mg "MOST_PLOUGHS" = some (.int 3 t)
  mS : ∃ t, mg "MOST_STREETS" = some (.int 4 t)
  mM : ∃ t, mg "MOST_METRES" = some (.int 1000 t)
  mH : ∃ t, mg "MOST_HUNDREDTHS" = some (.int 100 t)
  mE : ∃ t, mg "MOST_MINUTES" = some (.int 5000 t)
  mC : ∃ t, mg "HUNDREDTHS_OF_A_METRE" = some (.int 100 t)
  len : mg "len" = none
  range : mg "range" = none
  list : mg "list" = none
  enumerate : mg "enumerate" = none
  any : mg "any" = none
  all : mg "all" = none
  sorted : mg "sorted" = none
  zip : mg "zip" = none
section
variable (P : Program) (w : World) (K : PySem.W.Frag) (mg : Str → Option Value) (base : Heap)
/-- a def of the top that keeps its promise; a method -/
def CalF (x : Str) (k : Nat) (ps : List Str) (sp : Sp) : Prop := ∃ (f : Addr) (fd : FuncData), FnOk P w K mg base CX0 k f fd ps sp ∧ mg x = some (.ref f) ∧ PySem.W.keepIn K (.ref f) = true ∧ Binds K fd ps []
def CalM (C : Addr) (m : Str) (k : Nat) (ps : List Str) (sp : Sp) : Prop := ∃ (f : Addr) (fd : FuncData), FnOk P w K mg base CX0 k f fd ps sp ∧ Meth K C m f ∧ Binds K fd ps []
end
/-! ### the promises of the small defs -/
def spMetres : Sp := fun vs H Q _ => ∃ n : Nat, vs = [ci n] ∧ Q (.bl (decide (1 ≤ n ∧ n ≤ 1000))) H
def Bnd (n : Nat) : Prop := n < 2 ^ 200
def spLess : Sp := fun vs H Q _ => ∃ (a b : Addr) (x y : Nat × Nat), vs = [.ref a, .ref b] ∧ R2n H a x ∧ R2n H b y ∧ (Bnd x.1 ∧ Bnd x.2 ∧ Bnd y.1 ∧ Bnd y.2) ∧ Q (.bl (decide (x.1 * y.2 < y.1 * x.2))) H
def spLow : Sp := fun vs H Q _ => ∃ n d : Nat, vs = [ci n, ci d] ∧ 0 < d ∧ Bnd n ∧ Bnd d ∧ ∀ p, H p = none → Q (.ref p) (upd H p (tmO (Si75.lowest n d)))
theorem ci_lt (a b c d : Nat) : decide (((a : Int) * (b : Int)) < (c : Int) * (d : Int)) = decide (a * b < c * d) := by
  refine decide_eq_decide.mpr ?_
  rw [← Int.natCast_mul, ← Int.natCast_mul]
  exact Int.ofNat_lt
theorem Bnd.abs {n : Nat} (h : Bnd n) : (n : Int).natAbs < 2 ^ 200 := by rw [Int.natAbs_natCast]; exact h
section
variable {P : Program} {w : World} {K : PySem.W.Frag} {mg : Str → Option Value} {base : Heap} {C : Addr}
theorem scMetres : FnScope ["number"] ["number"] (defScope sMetres) := ⟨rfl, rfl, rfl, by decide +kernel, rfl, by decide +kernel, by decide +kernel⟩
theorem ok_metres {f : Addr} {fd : FuncData} (F : Fun K "is_metres" "is_metres" sMetres f fd) (T : Txt K mg C) : FnOk P w K mg base CX0 1 f fd ["number"] spMetres := by
  refine F.ok scMetres (fun vs H Q E h => ?_) (fun cdv A outer s H vs Q E hr h => ?_)
  · obtain ⟨n, rfl, _⟩ := h
    rfl
  · obtain ⟨n, rfl, k⟩ := h
    obtain ⟨t, ht⟩ := T.mM
    refine ⟨_, pss_one (ps_ret (pe_chain op_le op_le pe_int (pv 0) (pe_glob (v := V.int 1000) rfl ht ⟨_, rfl⟩))), ?_⟩
    refine ⟨_, rfl, _, _, rfl, rfl, _, rfl, ?_⟩
    by_cases h1 : 1 ≤ n
    · refine ifT (decide_eq_true (by omega)) ?_
      refine ⟨_, _, rfl, rfl, ?_⟩
      have e : decide (1 ≤ n ∧ n ≤ 1000) = decide ((n : Int) ≤ 1000) := decide_eq_decide.mpr (by omega)
      rw [e] at k
      exact k
    · refine ifF (decide_eq_false (by omega)) ?_
      have e : decide (1 ≤ n ∧ n ≤ 1000) = false := decide_eq_false (by omega)
      rw [e] at k
      exact k
theorem scLess : FnScope ["fraction", "other"] ["fraction", "other"] (defScope sLess) := ⟨rfl, rfl, rfl, by decide +kernel, rfl, by decide +kernel, by decide +kernel⟩
theorem ok_less {f : Addr} {fd : FuncData} (F : Fun K "is_less" "is_less" sLess f fd) : FnOk P w K mg base CX0 1 f fd ["fraction", "other"] spLess := by
  refine F.ok scLess (fun vs H Q E h => ?_) (fun cdv A outer s H vs Q E hr h => ?_)
  · obtain ⟨a, b, x, y, rfl, _⟩ := h
    rfl
  · obtain ⟨a, b, x, y, rfl, hx, hy, ⟨b1, b2, b3, b4⟩, k⟩ := h
    refine ⟨_, pss_one (ps_ret (pe_cmpR op_lt (pe_op op_mulW (pe_ix ix_tup (pv 0) pe_int (fun _ _ => rfl)) (pe_ix ix_tup (pv 1) pe_int (fun _ _ => rfl))) (pe_op op_mulW (pe_ix ix_tup (pv 1) pe_int (fun _ _ => rfl)) (pe_ix ix_tup (pv 0) pe_int (fun _ _ => rfl))) (nomark _))), ?_⟩
    refine ⟨_, rfl, a, _, _, _, rfl, rfl, SqT.of hx, atI_nat (j := 0) rfl, _, rfl, b, _, _, _, rfl, rfl, SqT.of hy, atI_nat (j := 1) rfl, _, _, rfl, rfl, wide_mul b1.abs b4.abs (by decide) (by decide) (by decide), ?_⟩
    refine ⟨_, rfl, b, _, _, _, rfl, rfl, SqT.of hy, atI_nat (j := 0) rfl, _, rfl, a, _, _, _, rfl, rfl, SqT.of hx, atI_nat (j := 1) rfl, _, _, rfl, rfl, wide_mul b3.abs b2.abs (by decide) (by decide) (by decide), ?_⟩
    refine ⟨_, _, rfl, rfl, ?_⟩
    show Q (V.bl (decide ((x.1 : Int) * (y.2 : Int) < (y.1 : Int) * (x.2 : Int)))) H
    rw [ci_lt]
    exact k
theorem gcd_step (a b : Nat) : Nat.gcd b (a % b) = Nat.gcd a b := by
  rw [Nat.gcd_comm b, ← Nat.gcd_rec, Nat.gcd_comm]
theorem scLow : FnScope ["above", "below", "divisor", "rest", "next_rest"] ["above", "below"] (defScope sLow) := ⟨rfl, rfl, rfl, by decide +kernel, rfl, by decide +kernel, by decide +kernel⟩
theorem ok_low {f : Addr} {fd : FuncData} (F : Fun K "in_lowest_terms" "in_lowest_terms" sLow f fd) : FnOk P w K mg base CX0 1 f fd ["above", "below"] spLow := by
  refine F.ok scLow (fun vs H Q E h => ?_) (fun cdv A outer s H vs Q E hr h => ?_)
  · obtain ⟨n, d, rfl, _⟩ := h
    rfl
  · obtain ⟨n, d, rfl, hd, bn, bd, k⟩ := h
    refine ⟨_, pss_cons (ps_set (i := 2) scLow.nd rfl (Or.inl rfl) (pv 0)) (pss_cons (ps_set (i := 3) scLow.nd rfl (Or.inl rfl) (pv 1))
      (pss_cons (ps_while PassesOwn.never (pt_cmpR op_gt (pv 3) pe_int (nomark _))
        (pss_cons (ps_set (i := 4) scLow.nd rfl (Or.inl rfl) (pe_op op_modN (pv 2) (pv 3))) (pss_cons (ps_set (i := 2) scLow.nd rfl (Or.inl rfl) (pv 3)) (pss_one (ps_set (i := 3) scLow.nd rfl (Or.inl rfl) (pv 4))))))
      (pss_one (ps_ret (pe_tup (pa_cons (pe_op op_fdivW (pv 0) (pv 2)) (pa_cons (pe_op op_fdivW (pv 1) (pv 2)) pa_nil))))))), ?_⟩
    refine ⟨_, rfl, _, rfl, ?_⟩
    refine while_by (fun σ H' => ∃ (a r : Nat) (v : Option V), σ = [some (ci n), some (ci d), some (ci a), some (ci r), v] ∧ H' = H ∧ Nat.gcd a r = Nat.gcd n d ∧ (0 < r ∨ 0 < a)) (fun σ _ => (iAt σ 3).toNat) ⟨n, d, none, rfl, rfl, rfl, .inl hd⟩ ?_ ?_
    · rintro σ H' ⟨a, r, v, rfl, rfl, hg, hp⟩
      refine ⟨_, rfl, _, _, rfl, rfl, _, rfl, ?_⟩
      by_cases hr0 : 0 < r
      · refine ifT (decide_eq_true (by omega)) ?_
        refine ⟨_, rfl, _, rfl, _, _, rfl, rfl, (by omega), _, rfl, _, rfl, ?_⟩
        have e : Int.fmod (a : Int) (r : Int) = ((a % r : Nat) : Int) := by
          rw [Int.fmod_eq_emod_of_nonneg _ (by omega), Int.natCast_emod]
        have key : ∀ z : Int, z = ((a % r : Nat) : Int) → (∃ (a' r' : Nat) (v' : Option V), [some (ci n), some (ci d), some (ci r), some (V.int z), some (V.int z)] = [some (ci n), some (ci d), some (ci a'), some (ci r'), v'] ∧ H' = H' ∧ Nat.gcd a' r' = Nat.gcd n d ∧ (0 < r' ∨ 0 < a')) ∧ z.toNat < r := fun z hz => by
          subst hz
          refine ⟨⟨r, a % r, _, rfl, rfl, by rw [gcd_step, hg], .inr hr0⟩, ?_⟩
          rw [Int.toNat_natCast]
          exact Nat.mod_lt _ hr0
        exact key _ e
      · refine ifF (decide_eq_false (by omega)) ?_
        have er : r = 0 := by omega
        subst er
        have ea : a = Nat.gcd n d := by rw [← hg, Nat.gcd_zero_right]
        have pa : 0 < a := by omega
        have ba : Bnd a := Nat.lt_of_le_of_lt (by rw [ea]; exact Nat.gcd_le_right _ hd) bd
        refine ⟨_, rfl, _, rfl, _, _, rfl, rfl, wide_div (by omega) ba.abs (by decide) (by decide), _, rfl, _, rfl, _, _, rfl, rfl, wide_div (by omega) ba.abs (by decide) (by decide), (by show 2 ≤ sizeLine; decide), fun p hp => ?_⟩
        have q := k p hp
        rw [SnowM.low_eq hd, ← ea] at q
        simp only [tmO, Int.natCast_ediv] at q
        exact q
    · rintro σ H' Q Q' hq ⟨v, hv, i, j, h1, h2, b, hb, h3⟩
      exact ⟨v, hv, i, j, h1, h2, b, hb, hq _ _ h3⟩
end
end SnowB
/-! ## part B1 -/
namespace SnowB
open PySem PySem.Spec PyProof.Rows L2
open SnowM (Time)
/-- a time as it's told, its numbers not too great -/
def TmOk (t : Time) : Prop := SnowM.Tm t ∧ Bnd t.n ∧ Bnd t.d
def spLatest : Sp := fun vs H Q _ => ∃ (a : Addr) (ts : List Time), vs = [.ref a] ∧ ts ≠ [] ∧ RL RTm H a ts ∧ (∀ t ∈ ts, TmOk t) ∧ ∀ p, RTm H p (Si79.latest ts) → Q (.ref p) H
def spDone : Sp := fun vs H Q _ => ∃ (a : Addr) (ss : List Si79.Street) (v : Nat), vs = [.ref a, ci v] ∧ RL RSt H a ss ∧ (1 ≤ v ∧ v ≤ 1000) ∧ (∀ s ∈ ss, s.metres ≤ 1000 ∧ s.grows ≤ 100) ∧ ss.length ≤ 8 ∧
  ∀ p, H p = none → Q (.ref p) (upd H p (tmO (Si75.lowest (SnowM.rawF v (0, 1) ss).1 (SnowM.rawF v (0, 1) ss).2)))
theorem raw_bnd {v : Nat} (hv : v ≤ 1000) {ss : List Si79.Street} (h : ∀ s ∈ ss, s.metres ≤ 1000 ∧ s.grows ≤ 100) (hl : ss.length ≤ 8) : (SnowM.rawF v (0, 1) ss).1 < 2 ^ 180 ∧ (SnowM.rawF v (0, 1) ss).2 < 2 ^ 180 := by
  obtain ⟨h1, h2⟩ := SnowM.rawF_bound hv ss h (0, 1) 1 (by decide) (by decide)
  have e : (2 : Nat) ^ (1 + 18 * ss.length) ≤ 2 ^ 180 := Nat.pow_le_pow_right (by decide) (by omega)
  omega
theorem take_bnd {α : Type} {ss : List α} {P : α → Prop} (h : ∀ s ∈ ss, P s) (i : Nat) : ∀ s ∈ ss.take i, P s := fun s hs => h s (List.mem_of_mem_take hs)
section
variable {P : Program} {w : World} {K : PySem.W.Frag} {mg : Str → Option Value} {base : Heap} {C : Addr}
theorem scLatest : FnScope ["times", "found", "one"] ["times"] (defScope sLatest) := ⟨rfl, rfl, rfl, by decide +kernel, rfl, by decide +kernel, by decide +kernel⟩
theorem ok_latest {f : Addr} {fd : FuncData} (F : Fun K "latest" "latest" sLatest f fd) (cL : CalF P w K mg base "is_less" 1 ["fraction", "other"] spLess) : FnOk P w K mg base CX0 2 f fd ["times"] spLatest := by
  obtain ⟨fL, fdL, GL, mL, kL, bL⟩ := cL
  refine F.ok scLatest (fun vs H Q E h => ?_) (fun cdv A outer s H vs Q E hr h => ?_)
  · obtain ⟨a, ts, rfl, _⟩ := h
    rfl
  · obtain ⟨a, ts, rfl, hne, ⟨as, ha, al⟩, hb, k⟩ := h
    refine ⟨_, pss_cons (ps_set (i := 1) scLatest.nd rfl (Or.inl rfl) (pe_ix ix_list (pv 0) pe_int (fun _ _ => rfl)))
      (pss_cons (ps_for PassesOwn.never rfl (pi_list (pv 0)) (pg_name (i := 2) scLatest.nd rfl (Or.inl rfl))
        (pss_one (ps_if (pt_val (pe_call GL hr rfl mL kL bL .nil pass0 (pa_cons (pv 1) (pa_cons (pv 2) pa_nil)))) (pss_one (ps_set (i := 1) scLatest.nd rfl (Or.inl rfl) (pv 2))) pss_nil)))
      (pss_one (ps_ret (pv 1)))), ?_⟩
    obtain ⟨t0, r, rfl⟩ : ∃ t0 r, ts = t0 :: r := by
      cases ts with
      | nil => exact absurd rfl hne
      | cons t0 r => exact ⟨t0, r, rfl⟩
    obtain ⟨a0, e0, h0⟩ := al.get2 (i := 0) rfl
    have g0 : TmOk t0 := hb t0 List.mem_cons_self
    refine ⟨_, rfl, a, _, _, _, rfl, rfl, SqL.of ha, atI_nat (j := 0) (refs_at e0), ?_⟩
    refine ⟨_, rfl, a, rfl, ⟨_, SqL.of ha⟩, for_list (K := K) (a := a) (xs := as.map V.ref) (fun i σ H' => ∃ (p : Addr) (v : Option V), σ = [some (.ref a), some (.ref p), v] ∧ H' = H ∧ RTm H p (((t0 :: r).take i).foldl SnowM.pick t0) ∧ TmOk (((t0 :: r).take i).foldl SnowM.pick t0))
      ⟨a0, none, rfl, rfl, h0, g0⟩ (fun i σ H' _ ⟨_, _, _, e, _⟩ => by rw [e]; exact SqL.of ha) ?_ ?_⟩
    · rintro i x σ H' hi ⟨p, v, rfl, rfl, hp, gp⟩
      obtain ⟨b, hb', rfl⟩ := refs_get hi
      obtain ⟨t, ht, rt⟩ := al.get hb'
      have gt : TmOk t := hb t (List.mem_of_getElem? ht)
      generalize hm : ((t0 :: r).take i).foldl SnowM.pick t0 = m at *
      refine ⟨_, rfl, _, rfl, p, b, (m.n, m.d), (t.n, t.d), rfl, hp, rt, ⟨gp.2.1, gp.2.2, gt.2.1, gt.2.2⟩, _, rfl, ?_⟩
      have st : ((t0 :: r).take (i + 1)).foldl SnowM.pick t0 = SnowM.pick m t := by
        rw [take_more ht, List.foldl_append, hm]
        rfl
      refine ifD (fun c => ?_) (fun c => ?_)
      · refine ⟨_, rfl, b, _, rfl, rfl, ?_⟩
        have e : SnowM.pick m t = t := if_pos ((SnowM.less_iff _ _).mpr c)
        rw [st, e]
        exact ⟨rt, gt⟩
      · refine ⟨p, _, rfl, rfl, ?_⟩
        have e : SnowM.pick m t = m := if_neg (fun q => c ((SnowM.less_iff _ _).mp q))
        rw [st, e]
        exact ⟨hp, gp⟩
    · rintro σ H' ⟨p, v, rfl, rfl, hp, gp⟩
      rw [List.length_map, al.1, List.take_length, ← SnowM.latest_head g0.1] at hp
      exact ⟨_, rfl, k p hp⟩
theorem scDone : FnScope ["streets", "speed", "above", "below", "full_speed", "metres", "hundredths", "full_metres"] ["streets", "speed"] (defScope sDone) := ⟨rfl, rfl, rfl, by decide +kernel, rfl, by decide +kernel, by decide +kernel⟩
theorem ok_done {f : Addr} {fd : FuncData} (F : Fun K "when_done" "when_done" sDone f fd) (T : Txt K mg C) (cL : CalF P w K mg base "in_lowest_terms" 1 ["above", "below"] spLow) : FnOk P w K mg base CX0 2 f fd ["streets", "speed"] spDone := by
  obtain ⟨fL, fdL, GL, mL, kL, bL⟩ := cL
  refine F.ok scDone (fun vs H Q E h => ?_) (fun cdv A outer s H vs Q E hr h => ?_)
  · obtain ⟨a, ss, v, rfl, _⟩ := h
    rfl
  · obtain ⟨a, ss, v, rfl, ⟨as, ha, al⟩, hv, hs, hl, k⟩ := h
    obtain ⟨tc, htc⟩ := T.mC
    refine ⟨_, pss_cons (ps_set (i := 2) scDone.nd rfl (Or.inl rfl) pe_int) (pss_cons (ps_set (i := 3) scDone.nd rfl (Or.inl rfl) pe_int)
      (pss_cons (ps_set (i := 4) scDone.nd rfl (Or.inl rfl) (pe_op op_mul (pe_glob (v := V.int 100) rfl htc ⟨_, rfl⟩) (pv 1)))
      (pss_cons (ps_for PassesOwn.never rfl (pi_list (pv 0)) (pg_tup rfl (pgs_cons (pg_name (i := 5) scDone.nd rfl (Or.inl rfl)) (pgs_cons (pg_name (i := 6) scDone.nd rfl (Or.inl rfl)) pgs_nil)))
        (pss_cons (ps_set (i := 7) scDone.nd rfl (Or.inl rfl) (pe_op op_mul (pe_glob (v := V.int 100) rfl htc ⟨_, rfl⟩) (pv 5)))
        (pss_cons (ps_set (i := 2) scDone.nd rfl (Or.inl rfl) (pe_op op_add (pe_op op_mulW (pv 2) (pe_op op_add (pv 4) (pv 6))) (pe_op op_mulW (pv 3) (pv 7))))
        (pss_one (ps_set (i := 3) scDone.nd rfl (Or.inl rfl) (pe_op op_mulW (pv 3) (pv 4)))))))
      (pss_one (ps_ret (pe_call GL hr rfl mL kL bL .nil pass0 (pa_cons (pv 2) (pa_cons (pv 3) pa_nil)))))))), ?_⟩
    refine ⟨_, rfl, _, _, rfl, rfl, .inl ⟨by decide, by decide⟩, ?_⟩
    refine ⟨_, rfl, a, rfl, ⟨_, SqL.of ha⟩, for_list (K := K) (a := a) (xs := as.map V.ref) (fun i σ H' => ∃ (v5 v6 v7 : Option V), σ = [some (.ref a), some (ci v), some (ci (SnowM.rawF v (0, 1) (ss.take i)).1), some (ci (SnowM.rawF v (0, 1) (ss.take i)).2), some (V.int (100 * (v : Int))), v5, v6, v7] ∧ H' = H)
      ⟨none, none, none, rfl, rfl⟩ (fun i σ H' _ ⟨_, _, _, _, e⟩ => by rw [e]; exact SqL.of ha) ?_ ?_⟩
    · rintro i x σ H' hi ⟨v5, v6, v7, rfl, rfl⟩
      obtain ⟨b, hb', rfl⟩ := refs_get hi
      obtain ⟨st, ht, rt⟩ := al.get hb'
      have hst := hs st (List.mem_of_getElem? ht)
      obtain ⟨b1, b2⟩ := raw_bnd hv.2 (take_bnd hs i) (by rw [List.length_take]; omega)
      have step : SnowM.rawF v (0, 1) (ss.take (i + 1)) = SnowM.raw1 v (SnowM.rawF v (0, 1) (ss.take i)) st := by
        rw [take_more ht]
        unfold SnowM.rawF
        rw [List.foldl_append]
        rfl
      generalize SnowM.rawF v (0, 1) (ss.take i) = m at *
      have n1 : (m.1 : Int).natAbs < 2 ^ 180 := by rw [Int.natAbs_natCast]; exact b1
      have n2 : (m.2 : Int).natAbs < 2 ^ 180 := by rw [Int.natAbs_natCast]; exact b2
      refine ⟨b, _, rfl, SqT.of rt, rfl, _, _, rfl, _, _, rfl, rfl, ?_⟩
      refine ⟨_, rfl, _, _, rfl, rfl, .inl ⟨by decide, by decide⟩, ?_⟩
      refine ⟨_, rfl, _, rfl, _, rfl, _, _, rfl, rfl, _, _, rfl, rfl, wide_mul (b := 40) n1 (by omega) (by decide) (by decide) (by decide), ?_⟩
      refine ⟨_, rfl, _, rfl, _, _, rfl, rfl, wide_mul (b := 40) n2 (by omega) (by decide) (by decide) (by decide), _, _, rfl, rfl, ?_⟩
      refine ⟨_, rfl, _, rfl, _, _, rfl, rfl, wide_mul (b := 40) n2 (by omega) (by decide) (by decide) (by decide), ?_⟩
      have e1 : (m.1 : Int) * (100 * (v : Int) + (st.grows : Int)) + (m.2 : Int) * (100 * (st.metres : Int)) = ((SnowM.raw1 v m st).1 : Int) := by
        unfold SnowM.raw1
        push_cast
        rfl
      have e2 : (m.2 : Int) * (100 * (v : Int)) = ((SnowM.raw1 v m st).2 : Int) := by
        unfold SnowM.raw1
        push_cast
        rfl
      rw [step]
      refine ⟨some (ci st.metres), some (ci st.grows), some (V.int (100 * (st.metres : Int))), ?_, rfl⟩
      show [some (V.ref a), some (ci v), some (V.int ((m.1 : Int) * (100 * (v : Int) + (st.grows : Int)) + (m.2 : Int) * (100 * (st.metres : Int)))), some (V.int ((m.2 : Int) * (100 * (v : Int)))), some (V.int (100 * (v : Int))), _, _, _] = _
      rw [e1, e2]
    · rintro σ H' ⟨v5, v6, v7, rfl, rfl⟩
      rw [List.length_map, al.1, List.take_length]
      obtain ⟨b1, b2⟩ := raw_bnd hv.2 hs hl
      have le : (2 : Nat) ^ 180 ≤ 2 ^ 200 := Nat.pow_le_pow_right (by decide) (by decide)
      exact ⟨_, rfl, _, rfl, _, _, rfl, SnowM.rawF_pos hv.1 ss (by decide), Nat.lt_of_lt_of_le b1 le, Nat.lt_of_lt_of_le b2 le, k⟩
end
end SnowB
/-! ## part B2 -/
namespace SnowB
open PySem PySem.Spec PyProof.Rows L2
open SnowM (Time numbersOf iterP allPlans)
theorem rmv_mns_upd {H H1 : Hp} {L : Addr} {o : HO} : Same (rmv (mns H1 H) L) (rmv (mns (upd H1 L o) H) L) := fun b x h => by
  obtain ⟨h1, h2⟩ := rmv_of h
  obtain ⟨h3, h4⟩ := mns_of h2
  rw [rmv_ne h1, mns_eq h3, upd_ne h1]
  exact h4
theorem zero_ci (l : Nat) : V.int ((0 : Int) + (l : Int)) = ci l := by rw [Int.zero_add]
theorem count_cast (l : Nat) : ∀ ns : List Nat, (SnowM.cast ns).count ((0 : Int) + (l : Int)) = ns.count l
  | [] => rfl
  | n :: ns => by
    show ((n : Int) :: SnowM.cast ns).count _ = _
    rw [List.count_cons, List.count_cons, count_cast l ns, Int.zero_add]
    congr 1
    by_cases h : n = l
    · subst h; simp
    · rw [if_neg (by simp; omega), if_neg (by simp; omega)]
theorem more_len (n : Nat) (nums plan : List Nat) : (SnowM.more n nums plan).length ≤ n + 1 := by
  unfold SnowM.more
  rw [List.length_map]
  exact Nat.le_trans (List.length_filter_le _ _) (by rw [List.length_range]; omega)
theorem flat_len (n : Nat) (nums : List Nat) : ∀ ps : List (List Nat), (ps.flatMap (SnowM.more n nums)).length ≤ ps.length * (n + 1)
  | [] => by simp
  | p :: ps => by
    rw [List.flatMap_cons, List.length_append, List.length_cons, Nat.succ_mul]
    have := more_len n nums p
    have := flat_len n nums ps
    omega
theorem iter_len (n : Nat) (nums : List Nat) : ∀ k, (iterP n nums k).length ≤ (n + 1) ^ k
  | 0 => Nat.le_refl 1
  | k + 1 => by
    rw [Nat.pow_succ]
    exact Nat.le_trans (flat_len n nums _) (Nat.mul_le_mul_right _ (iter_len n nums k))
theorem iter_each (n : Nat) (nums : List Nat) : ∀ k, ∀ p ∈ iterP n nums k, p.length = k
  | 0, p, h => by
    rw [List.mem_singleton.mp h]
    rfl
  | k + 1, p, h => by
    obtain ⟨q, hq, h⟩ := List.mem_flatMap.mp h
    obtain ⟨x, _, rfl⟩ := List.mem_map.mp h
    rw [List.length_append, iter_each n nums k q hq]
    rfl
theorem iter_small {n k : Nat} (nums : List Nat) (hn : n ≤ 4) (hk : k ≤ 6) : (iterP n nums k).length ≤ 15625 := by
  refine Nat.le_trans (iter_len n nums k) ?_
  refine Nat.le_trans (Nat.pow_le_pow_left (show n + 1 ≤ 5 by omega) k) ?_
  exact Nat.le_trans (Nat.pow_le_pow_right (by decide) hk) (by decide)
def spNums : Sp := fun vs H Q _ => ∃ n p : Nat, vs = [ci n, ci p] ∧ n ≤ 4 ∧ (1 ≤ p ∧ p ≤ 3) ∧ ∀ (H' : Hp) (q : Addr), Same H H' → H q = none → RN H' q (numbersOf n p) → Q (.ref q) H'
def spPlans : Sp := fun vs H Q _ => ∃ n p : Nat, vs = [ci n, ci p] ∧ n ≤ 4 ∧ (1 ≤ p ∧ p ≤ 3) ∧ ∀ (H' : Hp) (q : Addr), Same H H' → H q = none → RSh (mns H' H) q (allPlans n p) → Q (.ref q) H'
section
variable {P : Program} {w : World} {K : PySem.W.Frag} {mg : Str → Option Value} {base : Heap} {C : Addr}
theorem scNums : FnScope ["street_count", "plough_count"] ["street_count", "plough_count"] (defScope sNums) := ⟨rfl, rfl, rfl, by decide +kernel, rfl, by decide +kernel, by decide +kernel⟩
theorem ok_nums {f : Addr} {fd : FuncData} (F : Fun K "numbers_of_plans" "numbers_of_plans" sNums f fd) (T : Txt K mg C) : FnOk P w K mg base CX0 1 f fd ["street_count", "plough_count"] spNums := by
  refine F.ok scNums (fun vs H Q E h => ?_) (fun cdv A outer s H vs Q E hr h => ?_)
  · obtain ⟨n, p, rfl, _⟩ := h
    rfl
  · obtain ⟨n, p, rfl, hn, hp, k⟩ := h
    refine ⟨_, pss_one (ps_ret (pe_op op_cat (pe_listRg rfl rfl T.list (prg_1 rfl T.range (pv 0))) (pe_op op_rep (pe_lst (pa_cons (pv 0) pa_nil)) (pe_op op_sub (pv 1) pe_int)))), ?_⟩
    refine ⟨_, rfl, _, rfl, RgOk.of_le (by decide) (by omega) (by decide) (by omega), fun a na => ?_⟩
    refine ⟨_, rfl, by show 1 ≤ sizeLine; decide, fun b nb => ?_⟩
    have eb : (([ci n] : List V).length * (((p : Int) - 1)).toNat) ≤ sizeLine := by
      show 1 * _ ≤ _
      rw [sizeLine_eq]
      omega
    refine ⟨_, rfl, _, _, rfl, rfl, b, _, _, rfl, rfl, upd_same, by omega, by omega, eb, fun c nc => ?_⟩
    have nab : a ≠ b := ne_of_none upd_same nb
    have nac : a ≠ c := ne_of_none (show (upd (upd H a (.lst (rgV 0 n))) b (.lst [ci n])) a = some (.lst (rgV 0 n)) by rw [upd_ne nab, upd_same]) nc
    refine ⟨a, c, _, _, rfl, rfl, by rw [upd_ne nac, upd_ne nab, upd_same], upd_same, ?_, fun d nd => ?_⟩
    · rw [rgV_length]
      refine line_le ?_
      simp only [List.length_flatten, List.map_replicate, List.sum_replicate_nat]
      show ((n : Int) - 0).toNat + _ * 1 ≤ _
      omega
    · have s1 : Same H (upd H a (.lst (rgV 0 n))) := same_upd na
      have s2 := s1.trans (same_upd nb (o := .lst [ci n]))
      have s3 := s2.trans (same_upd nc (o := .lst (List.replicate ((p : Int) - 1).toNat [ci n]).flatten))
      refine k _ d (s3.trans (same_upd nd)) (s3.free nd) ?_
      unfold RN
      rw [upd_same]
      unfold numbersOf
      rw [vi_app]
      have e1 : rgV 0 (n : Int) = vi (List.range n) := by
        unfold rgV vi
        rw [show ((n : Int) - 0).toNat = n by omega]
        exact List.map_congr_left fun i _ => zero_ci i
      have e2 : (List.replicate ((p : Int) - 1).toNat [ci n]).flatten = vi (List.replicate (p - 1) n) := by
        rw [show ((p : Int) - 1).toNat = p - 1 by omega]
        generalize p - 1 = m
        unfold vi
        rw [List.map_replicate]
        induction m with
        | zero => rfl
        | succ m ih =>
          rw [List.replicate_succ, List.flatten_cons, ih, List.replicate_succ]
          rfl
      rw [e1, e2]
theorem scPlans : FnScope ["street_count", "plough_count", "numbers", "plans", "place", "longer", "plan", "number"] ["street_count", "plough_count"] (defScope sPlans) := ⟨rfl, rfl, rfl, by decide +kernel, rfl, by decide +kernel, by decide +kernel⟩
theorem ok_plans {f : Addr} {fd : FuncData} (F : Fun K "all_plans" "all_plans" sPlans f fd) (T : Txt K mg C) (cN : CalF P w K mg base "numbers_of_plans" 1 ["street_count", "plough_count"] spNums) : FnOk P w K mg base CX0 2 f fd ["street_count", "plough_count"] spPlans := by
  obtain ⟨fN, fdN, GN, mN, kN, bN⟩ := cN
  refine F.ok scPlans (fun vs H Q E h => ?_) (fun cdv A outer s H vs Q E hr h => ?_)
  · obtain ⟨n, p, rfl, _⟩ := h
    rfl
  · obtain ⟨n, p, rfl, hn, hp, k⟩ := h
    refine ⟨_, pss_cons (ps_set (i := 2) scPlans.nd rfl (Or.inl rfl) (pe_call GN hr rfl mN kN bN .nil pass0 (pa_cons (pv 0) (pa_cons (pv 1) pa_nil))))
      (pss_cons (ps_set (i := 3) scPlans.nd rfl (Or.inl rfl) (pe_lst (pa_cons (pe_lst pa_nil) pa_nil)))
      (pss_cons (ps_for PassesOwn.never rfl (pi_range1 rfl T.range (pa_cons (pe_callB call_len_seq (by rfl) T.len PySem.boot_len (pa_cons (pv 2) pa_nil)) pa_nil)) (pg_name (i := 4) scPlans.nd rfl (Or.inl rfl))
        (pss_cons (ps_set (i := 5) scPlans.nd rfl (Or.inl rfl) (pe_lst pa_nil))
        (pss_cons (ps_for PassesOwn.never rfl (pi_list (pv 3)) (pg_name (i := 6) scPlans.nd rfl (Or.inl rfl))
          (pss_one (ps_for PassesOwn.never rfl (pi_range1 rfl T.range (pa_cons (pe_op op_add (pv 0) pe_int) pa_nil)) (pg_name (i := 7) scPlans.nd rfl (Or.inl rfl))
            (pss_one (ps_if (pt_cmpR op_lt (pe_bm PySem.F.plainAttrs_list PySem.F.slot_list_count PySem.F.type_list_count mt_lcount (pv 6) (pa_cons (pv 7) pa_nil)) (pe_bm PySem.F.plainAttrs_list PySem.F.slot_list_count PySem.F.type_list_count mt_lcount (pv 2) (pa_cons (pv 7) pa_nil)) (nomark _))
              (pss_one (ps_expr (pe_bm PySem.F.plainAttrs_list PySem.F.slot_list_append PySem.F.type_list_append mt_append (pv 5) (pa_cons (pe_op op_cat (pv 6) (pe_lst (pa_cons (pv 7) pa_nil))) pa_nil)))) pss_nil)))))
        (pss_one (ps_set (i := 3) scPlans.nd rfl (Or.inl rfl) (pv 5))))))
      (pss_one (ps_ret (pv 3))))), ?_⟩
    refine ⟨_, rfl, _, rfl, n, p, rfl, hn, hp, fun H1 q s1 nq hq => ?_⟩
    generalize hN : numbersOf n p = nums at *
    have nl : nums.length ≤ 6 := by rw [← hN, SnowM.num_len hp.1]; omega
    refine ⟨Nat.zero_le _, fun e ne => ⟨by show 1 ≤ sizeLine; decide, fun a0 na0 => ?_⟩⟩
    have s2 : Same H1 (upd (upd H1 e (.lst [])) a0 (.lst [.ref e])) := (same_upd ne).trans (same_upd na0)
    have nea : e ≠ a0 := ne_of_none upd_same na0
    have fe : H e = none := s1.free ne
    have fa : H a0 = none := (s1.trans (same_upd ne)).free na0
    refine ⟨_, rfl, q, _, rfl, .inl (SqL.of (s2 _ _ hq)), _, rfl, by omega, by rw [vi_len]; omega, for_range (lo := 0) (fun j σ H' => ∃ (qa : Addr) (v4 v5 v6 v7 : Option V), σ = [some (ci n), some (ci p), some (.ref q), some (.ref qa), v4, v5, v6, v7] ∧ Same H H' ∧ RN H' q nums ∧ RSh (mns H' H) qa (iterP n nums j))
      ⟨a0, none, none, none, none, rfl, s1.trans s2, s2 _ _ hq, [e], by rw [mns_eq fa, upd_same]; rfl, Al.snoc Al.nil (by unfold RN; rw [mns_eq fe, upd_ne nea, upd_same]; rfl)⟩ ?_ ?_⟩
    · rintro j σ H2 hj ⟨qa, v4, v5, v6, v7, rfl, s3, hq2, as, ha, al⟩
      have hj : j < nums.length := by rw [vi_len, Int.toNat_natCast] at hj; exact hj
      have sz := iter_small nums hn (show j ≤ 6 by omega)
      refine ⟨Nat.zero_le _, fun L nL => ?_⟩
      have nLH : H L = none := s3.free nL
      obtain ⟨fq, ha'⟩ := mns_of ha
      have sL : Same H2 (upd H2 L (.lst [])) := same_upd nL
      refine ⟨_, rfl, qa, rfl, ⟨_, SqL.of (sL _ _ ha')⟩, for_list (K := K) (a := qa) (xs := as.map V.ref) (fun i σ H' => ∃ (bs : List Addr) (v6 v7 : Option V), σ = [some (ci n), some (ci p), some (.ref q), some (.ref qa), some (V.int (0 + (j : Int))), some (.ref L), v6, v7] ∧ Same H2 H' ∧ H' L = some (.lst (bs.map V.ref)) ∧ Al (RN (rmv (mns H' H) L)) bs (((iterP n nums j).take i).flatMap (SnowM.more n nums)))
        ⟨[], v6, v7, rfl, sL, upd_same, Al.nil⟩ (fun i σ H' _ ⟨_, _, _, _, s4, _⟩ => SqL.of (s4 _ _ ha')) ?_ ?_⟩
      · rintro i x σ H3 hi ⟨bs, v6, v7, rfl, s4, hL, bl⟩
        obtain ⟨c, hc, rfl⟩ := refs_get hi
        obtain ⟨plan, hpl, rc⟩ := al.get hc
        have lpl : plan.length = j := iter_each n nums j plan (List.mem_of_getElem? hpl)
        have hi' : i < (iterP n nums j).length := (List.getElem?_eq_some_iff.mp hpl).1
        have rc2 : H2 c = some (.lst (vi plan)) := (mns_of rc).2
        refine ⟨_, rfl, _, _, rfl, rfl, _, rfl, by omega, by omega, for_range (lo := 0) (fun l σ H' => ∃ (bs : List Addr) (v7 : Option V), σ = [some (ci n), some (ci p), some (.ref q), some (.ref qa), some (V.int (0 + (j : Int))), some (.ref L), some (.ref c), v7] ∧ Same H2 H' ∧ H' L = some (.lst (bs.map V.ref)) ∧
            Al (RN (rmv (mns H' H) L)) bs (((iterP n nums j).take i).flatMap (SnowM.more n nums) ++ ((List.range l).filter fun x => decide (plan.count x < nums.count x)).map fun x => plan ++ [x]))
          ⟨bs, v7, rfl, s4, hL, by rw [List.range_zero, List.filter_nil, List.map_nil, List.append_nil]; exact bl⟩ ?_ ?_⟩
        · rintro l σ H4 hl ⟨bs, v7, rfl, s5, hL4, bl⟩
          have hl : l < n + 1 := by omega
          have hc4 : H4 c = some (.lst (vi plan)) := s5 _ _ rc2
          have hq4 : H4 q = some (.lst (vi nums)) := s5 _ _ hq2
          have hcI : SqL K H4 c ((SnowM.cast plan).map V.int) := by rw [← vi_ints]; exact SqL.of hc4
          have hqI : SqL K H4 q ((SnowM.cast nums).map V.int) := by rw [← vi_ints]; exact SqL.of hq4
          refine ⟨_, rfl, .inl ⟨rfl, _, hcI⟩, _, rfl, c, _, _, rfl, rfl, hcI, _, rfl, .inl ⟨rfl, _, hqI⟩, _, rfl, q, _, _, rfl, rfl, hqI, _, _, rfl, rfl, _, rfl, ?_⟩
          rw [count_cast, count_cast]
          refine ifD (fun hlt => ?_) (fun hlt => ?_)
          · have hlt : plan.count l < nums.count l := by omega
            refine ⟨_, rfl, .inl ⟨rfl, _, SqL.of hL4⟩, _, rfl, _, rfl, by show 1 ≤ sizeLine; decide, fun t nt => ?_⟩
            have hct : (upd H4 t (.lst [V.int (0 + (l : Int))])) c = some (.lst (vi plan)) := by rw [upd_ne (ne_of_none hc4 nt)]; exact hc4
            refine ⟨c, t, _, _, rfl, rfl, hct, upd_same, by rw [vi_len, lpl]; show j + 1 ≤ _; exact line_le (by omega), fun b nb => ?_⟩
            have sT : Same H4 (upd (upd H4 t (.lst [V.int (0 + (l : Int))])) b (.lst (vi plan ++ [V.int (0 + (l : Int))]))) := (same_upd nt).trans (same_upd nb)
            have nbL : b ≠ L := fun z => by
              have := ne_of_none hL4 nt
              rw [z, upd_ne this, hL4] at nb
              cases nb
            have lb := bl.1
            rw [List.length_append, List.length_map] at lb
            have l1 := flat_len n nums ((iterP n nums j).take i)
            rw [List.length_take] at l1
            have l2 := List.length_filter_le (fun x => decide (plan.count x < nums.count x)) (List.range l)
            rw [List.length_range] at l2
            have l3 : min i (iterP n nums j).length * (n + 1) ≤ 15625 * 5 := Nat.mul_le_mul (by omega) (by omega)
            refine ⟨L, _, _, rfl, rfl, sT _ _ hL4, by rw [List.length_map]; exact line_lt (by omega), ?_⟩
            refine ⟨bs ++ [b], _, rfl, same_upd2 (s5.trans sT) nL, by rw [upd_same, List.map_append]; rfl, ?_⟩
            rw [List.range_succ, List.filter_append, List.map_append, ← List.append_assoc]
            have ef : ([l].filter fun x => decide (plan.count x < nums.count x)).map (fun x => plan ++ [x]) = [plan ++ [l]] := by
              rw [List.filter_cons, if_pos (decide_eq_true hlt)]
              rfl
            rw [ef]
            refine Al.snoc (bl.mono fun a x r => RN.mono ((rmv_mono (mns_right sT)).trans rmv_mns_upd) r) ?_
            unfold RN
            rw [rmv_ne nbL, mns_eq (((s3.trans s5).trans (same_upd nt)).free nb), upd_ne nbL, upd_same, vi_snoc, zero_ci]
          · have hlt : ¬ plan.count l < nums.count l := by omega
            refine ⟨bs, _, rfl, s5, hL4, ?_⟩
            rw [List.range_succ, List.filter_append, List.map_append]
            have ef : ([l].filter fun x => decide (plan.count x < nums.count x)).map (fun x => plan ++ [x]) = [] := by
              rw [List.filter_cons, if_neg (by rw [decide_eq_true_eq]; exact hlt)]
              rfl
            rw [ef, List.append_nil]
            exact bl
        · rintro σ H4 ⟨bs, v7, rfl, s5, hL4, bl⟩
          refine ⟨bs, _, _, rfl, s5, hL4, ?_⟩
          rw [take_more hpl, List.flatMap_append, List.flatMap_cons, List.flatMap_nil, List.append_nil]
          have en : ((n : Int) + 1).toNat = n + 1 := by omega
          rw [en] at bl
          exact bl
      · rintro σ H4 ⟨bs, v6, v7, rfl, s5, hL4, bl⟩
        rw [List.length_map, al.1, List.take_length] at bl
        refine ⟨_, rfl, L, _, _, _, _, rfl, s3.trans s5, s5 _ _ hq2, bs, by rw [mns_eq nLH]; exact hL4, bl.mono fun a x r => RN.mono (rmv_same _ _) r⟩
    · rintro σ H2 ⟨qa, v4, v5, v6, v7, rfl, s3, hq2, r⟩
      rw [vi_len, Int.toNat_natCast] at r
      have hx : H qa = none := by
        obtain ⟨as, h1, _⟩ := r
        exact (mns_of h1).1
      refine ⟨_, rfl, k H2 qa s3 hx ?_⟩
      unfold allPlans
      rw [hN]
      exact r
end
end SnowB
/-! ## part B3 -/
namespace SnowB
open PySem PySem.Spec PyProof.Rows L2
open SnowM (Time numbersOf iterP allPlans joinP oneP firstP)
open Si79 (parts)
/-! ### a plan's rows, one number behind another -/
def pst (n : Nat) (s : List (List Nat) × List Nat) (x : Nat) : List (List Nat) × List Nat := if x = n then (s.1 ++ [s.2], []) else (s.1, s.2 ++ [x])
theorem pst_parts (n : Nat) : ∀ (l : List Nat) (d : List (List Nat)) (c : List Nat), ∃ r s, parts n l = r :: s ∧ (l.foldl (pst n) (d, c)).1 ++ [(l.foldl (pst n) (d, c)).2] = d ++ (c ++ r) :: s
  | [], d, c => ⟨[], [], by rw [parts], by rw [List.append_nil]; rfl⟩
  | x :: l, d, c => by
    rw [List.foldl_cons]
    by_cases h : x = n
    · obtain ⟨r, s, e1, e2⟩ := pst_parts n l (d ++ [c]) []
      have e : pst n (d, c) x = (d ++ [c], []) := if_pos h
      rw [e]
      refine ⟨[], r :: s, by rw [parts, if_pos h, e1], ?_⟩
      rw [e2, List.append_nil, List.append_assoc]
      rfl
    · obtain ⟨r, s, e1, e2⟩ := pst_parts n l d (c ++ [x])
      have e : pst n (d, c) x = (d, c ++ [x]) := if_neg h
      rw [e]
      refine ⟨x :: r, s, by rw [parts, if_neg h, e1], ?_⟩
      rw [e2, List.append_assoc]
      rfl
theorem pst_is (n : Nat) (l : List Nat) : parts n l = (l.foldl (pst n) ([], [])).1 ++ [(l.foldl (pst n) ([], [])).2] := by
  obtain ⟨r, s, e1, e2⟩ := pst_parts n l [] []
  rw [e1, e2]
  rfl
theorem pst_len (n : Nat) : ∀ (l : List Nat) (t : List (List Nat) × List Nat), (l.foldl (pst n) t).1.length + (l.foldl (pst n) t).2.length ≤ t.1.length + t.2.length + l.length
  | [], _ => Nat.le_refl _
  | x :: l, t => by
    rw [List.foldl_cons]
    refine Nat.le_trans (pst_len n l _) ?_
    unfold pst
    split
    · simp only [List.length_append, List.length_cons, List.length_nil]
      omega
    · simp only [List.length_append, List.length_cons, List.length_nil]
      omega
theorem fold_more {α β : Type} (f : β → α → β) (b : β) {l : List α} {i : Nat} {x : α} (h : l[i]? = some x) : (l.take (i + 1)).foldl f b = f ((l.take i).foldl f b) x := by
  rw [take_more h, List.foldl_append]
  rfl
def spShares : Sp := fun vs H Q _ => ∃ (a : Addr) (plan : List Nat) (n : Nat), vs = [.ref a, ci n] ∧ RN H a plan ∧ plan.length ≤ 8 ∧ ∀ (H' : Hp) (q : Addr), Same H H' → H q = none → RSh (mns H' H) q (parts n plan) → Q (.ref q) H'
def spPlanOf : Sp := fun vs H Q _ => ∃ (a : Addr) (sh : List (List Nat)) (n : Nat), vs = [.ref a, ci n] ∧ RSh H a sh ∧ sh ≠ [] ∧ (joinP n sh).length ≤ 1000 ∧ ∀ (H' : Hp) (q : Addr), Same H H' → H q = none → RN H' q (joinP n sh) → Q (.ref q) H'
def spStreets : Sp := fun vs H Q _ => ∃ (a : Addr) (os : List Nat) (k : Nat), vs = [ci k, .ref a] ∧ RN H a os ∧ os.length ≤ 1000 ∧ ∀ (H' : Hp) (q : Addr), Same H H' → H q = none → RN H' q ((List.range os.length).filter fun i => os.getD i 0 == k) → Q (.ref q) H'
def spOne : Sp := fun vs H Q _ => ∃ (a : Addr) (sh : List (List Nat)) (i j : Nat), vs = [.ref a, ci i, ci j] ∧ RSh H a sh ∧ sh.length ≤ 1000 ∧ ∀ H' : Hp, Same H H' → Q (.bl (oneP sh i j)) H'
def spFirst : Sp := fun vs H Q _ => ∃ (a b : Addr) (ps : List (Nat × Nat)) (sh : List (List Nat)) (u : Bool), vs = [.ref a, .ref b, .bl u] ∧ RL R2n H a ps ∧ RSh H b sh ∧ sh.length ≤ 1000 ∧ ∀ (H' : Hp) (q : Addr), Same H H' → H q = none → RN H' q (firstP ps sh u) → Q (.ref q) H'
section
variable {P : Program} {w : World} {K : PySem.W.Frag} {mg : Str → Option Value} {base : Heap} {C : Addr}
theorem scShares : FnScope ["plan", "street_count", "shares", "number"] ["plan", "street_count"] (defScope sShares) := ⟨rfl, rfl, rfl, by decide +kernel, rfl, by decide +kernel, by decide +kernel⟩
theorem ok_shares {f : Addr} {fd : FuncData} (F : Fun K "shares_of" "shares_of" sShares f fd) : FnOk P w K mg base CX0 1 f fd ["plan", "street_count"] spShares := by
  refine F.ok scShares (fun vs H Q E h => ?_) (fun cdv A outer s H vs Q E hr h => ?_)
  · obtain ⟨a, plan, n, rfl, _⟩ := h
    rfl
  · obtain ⟨a, plan, n, rfl, ha, hl, k⟩ := h
    refine ⟨_, pss_cons (ps_set (i := 2) scShares.nd rfl (Or.inl rfl) (pe_lst (pa_cons (pe_lst pa_nil) pa_nil)))
      (pss_cons (ps_for PassesOwn.never rfl (pi_list (pv 0)) (pg_name (i := 3) scShares.nd rfl (Or.inl rfl))
        (pss_one (ps_if (pt_cmpR op_eq (pv 3) (pv 1) (nomark _))
          (pss_one (ps_expr (pe_bm PySem.F.plainAttrs_list PySem.F.slot_list_append PySem.F.type_list_append mt_append (pv 2) (pa_cons (pe_lst pa_nil) pa_nil))))
          (pss_one (ps_expr (pe_bm PySem.F.plainAttrs_list PySem.F.slot_list_append PySem.F.type_list_append mt_append (pe_ix ix_list (pv 2) (pe_un un_neg pe_int) (fun _ _ => rfl)) (pa_cons (pv 3) pa_nil)))))))
      (pss_one (ps_ret (pv 2)))), ?_⟩
    refine ⟨Nat.zero_le _, fun e0 ne0 => ⟨by show 1 ≤ sizeLine; decide, fun q nq => ?_⟩⟩
    have s0 : Same H (upd (upd H e0 (.lst [])) q (.lst [.ref e0])) := (same_upd ne0).trans (same_upd nq)
    have n0q : e0 ≠ q := ne_of_none upd_same nq
    have fq : H q = none := (same_upd ne0).free nq
    refine ⟨_, rfl, a, rfl, ⟨_, SqL.of (s0 _ _ ha)⟩, for_list (K := K) (a := a) (xs := vi plan) (fun i σ H' => ∃ (ds : List Addr) (e : Addr) (v : Option V), σ = [some (.ref a), some (ci n), some (.ref q), v] ∧ Same H H' ∧ H' q = some (.lst (ds.map V.ref ++ [.ref e])) ∧ e ≠ q ∧
        RN (mns H' H) e ((plan.take i).foldl (pst n) ([], [])).2 ∧ Al (RN (rmv (rmv (mns H' H) q) e)) ds ((plan.take i).foldl (pst n) ([], [])).1)
      ⟨[], e0, none, rfl, s0, upd_same, n0q, by unfold RN; rw [mns_eq ne0, upd_ne n0q, upd_same]; rfl, Al.nil⟩ (fun i σ H' _ ⟨_, _, _, _, s1, _⟩ => SqL.of (s1 _ _ ha)) ?_ ?_⟩
    · rintro i x σ H1 hi ⟨ds, e, v, rfl, s1, hq, neq, he, al⟩
      obtain ⟨x, hx, rfl⟩ := vi_get hi
      have st := fold_more (pst n) ([], []) hx
      have bl := pst_len n (plan.take i) ([], [])
      have bt : (plan.take i).length ≤ 8 := by rw [List.length_take]; omega
      have bl : ((plan.take i).foldl (pst n) ([], [])).1.length + ((plan.take i).foldl (pst n) ([], [])).2.length ≤ 8 := Nat.le_trans bl (by show 0 + 0 + _ ≤ 8; omega)
      generalize (plan.take i).foldl (pst n) ([], []) = t at *
      obtain ⟨fe, he1⟩ := mns_of he
      refine ⟨_, rfl, _, rfl, rfl, _, rfl, ifD (fun c => ?_) (fun c => ?_)⟩
      · have c : x = n := by
          have := V.int.inj c
          omega
        have ep : pst n t x = (t.1 ++ [t.2], []) := if_pos c
        refine ⟨_, rfl, .inl ⟨rfl, _, SqL.of hq⟩, Nat.zero_le _, fun b nb => ?_⟩
        have nbq : q ≠ b := ne_of_none hq nb
        have fb : H b = none := s1.free nb
        have hq2 : (upd H1 b (.lst [])) q = some (.lst (ds.map V.ref ++ [.ref e])) := by rw [upd_ne nbq]; exact hq
        refine ⟨q, _, _, rfl, rfl, hq2, ?_, ?_⟩
        · rw [List.length_append, List.length_map, al.1]
          exact line_lt (by show t.1.length + 1 ≤ _; omega)
        · have sm : Same (rmv (mns H1 H) q) (rmv (rmv (mns (upd (upd H1 b (.lst [])) q (.lst (ds.map V.ref ++ [.ref e] ++ [.ref b]))) H) q) b) := fun y o hy => by
            obtain ⟨h1, h2⟩ := rmv_of hy
            obtain ⟨h3, h4⟩ := mns_of h2
            have h5 : y ≠ b := ne_of_none h4 nb
            rw [rmv_ne h5, rmv_ne h1, mns_eq h3, upd_ne h1, upd_ne h5]
            exact h4
          refine ⟨ds ++ [e], b, some (ci x), rfl, same_upd2 (s1.trans (same_upd nb)) fq, ?_, nbq.symm, ?_, ?_⟩
          · rw [upd_same, List.map_append]
            rfl
          · rw [st, ep]
            unfold RN
            rw [mns_eq fb, upd_ne nbq.symm, upd_same]
            rfl
          · rw [st, ep]
            refine Al.snoc (al.mono fun y z r => RN.mono sm (RN.mono (rmv_same _ _) r)) (RN.mono sm ?_)
            unfold RN
            rw [rmv_ne neq]
            exact he
      · have c : ¬ x = n := fun z => c (by rw [z])
        have ep : pst n t x = (t.1, t.2 ++ [x]) := if_neg c
        refine ⟨_, rfl, _, rfl, q, _, _, _, rfl, rfl, SqL.of hq, atI_last _ _, .inl ⟨rfl, _, SqL.of he1⟩, _, rfl, e, _, _, rfl, rfl, he1, by rw [vi_len]; exact line_lt (by omega), ?_⟩
        have sm : Same (rmv (rmv (mns H1 H) q) e) (rmv (rmv (mns (upd H1 e (.lst (vi t.2 ++ [ci x]))) H) q) e) := fun y o hy => by
          obtain ⟨h0, hy⟩ := rmv_of hy
          obtain ⟨h1, h2⟩ := rmv_of hy
          obtain ⟨h3, h4⟩ := mns_of h2
          rw [rmv_ne h0, rmv_ne h1, mns_eq h3, upd_ne h0]
          exact h4
        refine ⟨ds, e, some (ci x), rfl, same_upd2 s1 fe, by rw [upd_ne neq.symm]; exact hq, neq, ?_, ?_⟩
        · rw [st, ep]
          unfold RN
          rw [mns_eq fe, upd_same, vi_snoc]
        · rw [st, ep]
          exact al.mono fun y z r => RN.mono sm r
    · rintro σ H1 ⟨ds, e, v, rfl, s1, hq, neq, he, al⟩
      rw [vi_len, List.take_length] at he al
      refine ⟨_, rfl, k H1 q s1 fq ⟨ds ++ [e], by rw [mns_eq fq, hq, List.map_append]; rfl, ?_⟩⟩
      rw [pst_is]
      exact Al.snoc (al.mono fun y z r => RN.mono (rmv_same _ _) (RN.mono (rmv_same _ _) r)) he
theorem cut_one (xs : List V) : cutV xs (some 1) none = xs.drop 1 := by
  unfold cutV
  have e : HT.sIx xs.length 0 (some 1) = min 1 xs.length := HT.sIx_nat xs.length 0 1
  rw [e, HT.sIx_none]
  cases xs with
  | nil => rfl
  | cons x r =>
    have e2 : min 1 (x :: r).length = 1 := by rw [List.length_cons]; omega
    rw [e2]
    show List.take ((x :: r).length - 1) r = r
    rw [List.length_cons, Nat.add_sub_cancel]
    exact List.take_length
theorem scPlanOf : FnScope ["shares", "street_count", "plan", "share"] ["shares", "street_count"] (defScope sPlanOf) := ⟨rfl, rfl, rfl, by decide +kernel, rfl, by decide +kernel, by decide +kernel⟩
theorem flat_take_len {n : Nat} (l : List (List Nat)) (i : Nat) : ((l.take i).flatMap fun x => n :: x).length ≤ (l.flatMap fun x => n :: x).length := by
  have e : l.flatMap (fun x => n :: x) = (l.take i).flatMap (fun x => n :: x) ++ (l.drop i).flatMap (fun x => n :: x) := by
    rw [← List.flatMap_append, List.take_append_drop]
  rw [e, List.length_append]
  omega
theorem ok_planOf {f : Addr} {fd : FuncData} (F : Fun K "plan_of" "plan_of" sPlanOf f fd) (T : Txt K mg C) : FnOk P w K mg base CX0 1 f fd ["shares", "street_count"] spPlanOf := by
  refine F.ok scPlanOf (fun vs H Q E h => ?_) (fun cdv A outer s H vs Q E hr h => ?_)
  · obtain ⟨a, sh, n, rfl, _⟩ := h
    rfl
  · obtain ⟨a, sh, n, rfl, ⟨as, ha, al⟩, hne, hl, k⟩ := h
    refine ⟨_, pss_cons (ps_set (i := 2) scPlanOf.nd rfl (Or.inl rfl) (pe_callTy call_list_of (by rfl) T.list (by decide +kernel) (pa_cons (pe_ix ix_list (pv 0) pe_int (fun _ _ => rfl)) pa_nil)))
      (pss_cons (ps_for PassesOwn.never rfl (pi_list (pe_slice sl_list (pv 0) (po_some pe_int) po_none)) (pg_name (i := 3) scPlanOf.nd rfl (Or.inl rfl))
        (pss_one (ps_set (i := 2) scPlanOf.nd rfl (Or.inl rfl) (pe_op op_cat (pe_op op_cat (pv 2) (pe_lst (pa_cons (pv 1) pa_nil))) (pv 3)))))
      (pss_one (ps_ret (pv 2)))), ?_⟩
    obtain ⟨s0, rs, rfl⟩ : ∃ s0 rs, sh = s0 :: rs := by
      cases sh with
      | nil => exact absurd rfl hne
      | cons t0 r => exact ⟨t0, r, rfl⟩
    obtain ⟨a0, as', rfl⟩ : ∃ a0 as', as = a0 :: as' := by
      cases as with
      | nil => exact absurd al.1 (by simp)
      | cons t0 r => exact ⟨t0, r, rfl⟩
    have h0 : RN H a0 s0 := al.2 0 a0 s0 rfl rfl
    refine ⟨_, rfl, a, _, _, _, rfl, rfl, SqL.of ha, atI_nat (j := 0) rfl, a0, _, rfl, .inl (SqL.of h0), fun qa nqa => ?_⟩
    have s1 : Same H (upd H qa (.lst (vi s0))) := same_upd nqa
    refine ⟨_, rfl, 1, rfl, a, _, rfl, SqL.of (s1 _ _ ha), fun c nc => ?_⟩
    rw [cut_one]
    have s2 := s1.trans (same_upd nc (o := .lst (((a0 :: as').map V.ref).drop 1)))
    have fc : H c = none := s1.free nc
    have nqc : qa ≠ c := ne_of_none upd_same nc
    have hl' : s0.length + (rs.flatMap fun x => n :: x).length ≤ 1000 := by
      have e : joinP n (s0 :: rs) = s0 ++ rs.flatMap fun x => n :: x := rfl
      rw [e, List.length_append] at hl
      exact hl
    refine ⟨c, rfl, ⟨_, SqL.of upd_same⟩, for_list (K := K) (a := c) (xs := as'.map V.ref) (fun i σ H' => ∃ (b : Addr) (v : Option V), σ = [some (.ref a), some (ci n), some (.ref b), v] ∧ Same H H' ∧ H b = none ∧ H' c = some (.lst (as'.map V.ref)) ∧ RN H' b (s0 ++ (rs.take i).flatMap fun x => n :: x))
      ⟨qa, none, rfl, s2, nqa, upd_same, by unfold RN; rw [upd_ne nqc, upd_same, List.take_zero, List.flatMap_nil, List.append_nil]⟩ (fun i σ H' _ ⟨_, _, _, _, _, h, _⟩ => SqL.of h) ?_ ?_⟩
    · rintro i x σ H1 hi ⟨b, v, rfl, s3, fb, hc, hb⟩
      obtain ⟨d, hd, rfl⟩ := refs_get hi
      have hd1 : (a0 :: as')[i + 1]? = some d := hd
      obtain ⟨share, hs, rd⟩ := al.get hd1
      have hs : rs[i]? = some share := hs
      have rd1 : H1 d = some (.lst (vi share)) := s3 _ _ rd
      have tl := flat_take_len (n := n) rs (i + 1)
      rw [take_more hs, List.flatMap_append, List.length_append, List.flatMap_cons, List.flatMap_nil, List.append_nil, List.length_cons] at tl
      refine ⟨_, rfl, _, rfl, by show 1 ≤ sizeLine; decide, fun t nt => ?_⟩
      have hb1 : (upd H1 t (.lst [ci n])) b = some (.lst (vi (s0 ++ (rs.take i).flatMap fun x => n :: x))) := by rw [upd_ne (ne_of_none hb nt)]; exact hb
      refine ⟨b, t, _, _, rfl, rfl, hb1, upd_same, ?_, fun u nu => ?_⟩
      · rw [vi_len, List.length_append]
        refine line_le ?_
        show _ + 1 ≤ _
        omega
      · have s4 : Same H1 (upd (upd H1 t (.lst [ci n])) u (.lst (vi (s0 ++ (rs.take i).flatMap fun x => n :: x) ++ [ci n]))) := (same_upd nt).trans (same_upd nu)
        refine ⟨_, rfl, u, d, _, _, rfl, rfl, upd_same, s4 _ _ rd1, ?_, fun z nz => ?_⟩
        · rw [List.length_append, vi_len, List.length_append, vi_len]
          refine line_le ?_
          show _ + 1 + _ ≤ _
          omega
        · refine ⟨z, some (.ref d), rfl, (s3.trans s4).trans (same_upd nz), (s3.trans s4).free nz, ?_, ?_⟩
          · rw [upd_ne (ne_of_none (s4 _ _ hc) nz)]
            exact s4 _ _ hc
          · unfold RN
            rw [upd_same, take_more hs, List.flatMap_append, List.flatMap_cons, List.flatMap_nil, List.append_nil, ← List.append_assoc, vi_app (s0 ++ _), List.append_assoc]
            rfl
    · rintro σ H1 ⟨b, v, rfl, s3, fb, hc, hb⟩
      have el : as'.length = rs.length := Nat.succ.inj al.1
      rw [List.length_map, el, List.take_length] at hb
      exact ⟨_, rfl, k H1 b s3 fb hb⟩
end
end SnowB
/-! ## part B4 -/
namespace SnowB
open PySem PySem.Spec PyProof.Rows L2
open SnowM (Time numbersOf iterP allPlans joinP oneP firstP)
open Si79 (parts)
/-- a comprehension over the pairs of place and item -/
theorem lc_en {K : PySem.W.Frag} {a D : Addr} {xs : List V} {g : TG} {tt : TT} {te : TE} {vs : List Nat} {σ : L2.St} {H1 : Hp} {Qd : Hp → Prop}
    (Pv : Nat → Hp → Prop) (start : Pv 0 (upd H1 D (.lst []))) (still : ∀ i H, Pv i H → SqL K H a xs)
    (turn : ∀ (i : Nat) (x : V) (T : Addr) (H : Hp), xs[i]? = some x → Pv i H → H T = none →
      g (.ref T) (wipe σ vs) (upd H T (.tup [.int (i : Nat), x])) fun σ2 H2 =>
        wipe σ2 vs = wipe σ vs ∧ tt σ2 H2 fun b H3 =>
          if b = true then te σ2 H3 fun y H4 => ∃ acc, H4 D = some (.lst acc) ∧ acc.length < sizeLine ∧
            Pv (i + 1) (upd H4 D (.lst (acc ++ [y])))
          else Pv (i + 1) H3)
    (done : ∀ H, Pv xs.length H → Qd H) :
    ∃ W : Nat → Nat → Hp → Prop, (∃ m, W 0 m (upd H1 D (.lst []))) ∧ ∀ i m H, W i m H → ((Ite K a).stop i H ∧ Qd H) ∨
      ((Ite K a).go i H ∧ ∃ Nx : Hp → Prop, (∀ H', Nx H' → ∃ m', m' < m ∧ W (i + 1) m' H') ∧
        ∀ x H', (Ite K a).yld i H x H' → g x (wipe σ vs) H' fun σ2 H2 =>
          wipe σ2 vs = wipe σ vs ∧ tt σ2 H2 fun b H3 =>
            if b = true then te σ2 H3 fun y H4 => ∃ acc, H4 D = some (.lst acc) ∧ acc.length < sizeLine ∧ Nx (upd H4 D (.lst (acc ++ [y]))) else Nx H3) := by
  refine ⟨fun i m H => i + m = xs.length ∧ Pv i H, ⟨xs.length, Nat.zero_add _, start⟩, fun i m H hW => ?_⟩
  obtain ⟨e, p⟩ := hW
  have q := still i H p
  by_cases c : i < xs.length
  · refine .inr ⟨⟨xs, xs[i], q, List.getElem?_eq_getElem c⟩, Pv (i + 1), fun H' p' => ⟨m - 1, by omega, by omega, p'⟩, fun x H' hy => ?_⟩
    obtain ⟨T, y, rfl, nT, rfl, f⟩ := hy
    exact turn i y T H (f xs q) p nT
  · have ei : i = xs.length := by omega
    rw [ei] at p
    exact .inl ⟨⟨xs, q, by omega⟩, done H p⟩
theorem ci_eq (i j : Nat) : decide (ci i = ci j) = (i == j) := by
  rw [dec_int]
  by_cases h : i = j
  · subst h; simp
  · have h2 : ¬ ((i : Int) = (j : Int)) := by omega
    rw [beq_eq_false_iff_ne.mpr h2, beq_eq_false_iff_ne.mpr h]
theorem range_filter_succ (f : Nat → Bool) (i : Nat) : (List.range (i + 1)).filter f = (List.range i).filter f ++ (if f i = true then [i] else []) := by
  rw [List.range_succ, List.filter_append, List.filter_cons, List.filter_nil]
theorem inV_vi (i : Nat) : ∀ l : List Nat, inV (ci i) (vi l) = l.contains i
  | [] => rfl
  | x :: l => by
    have ih := inV_vi i l
    show (((x : Int) == (i : Int)) || inV (ci i) (vi l)) = _
    rw [ih, List.contains_cons]
    congr 1
    by_cases h : x = i
    · subst h; simp
    · rw [beq_eq_false_iff_ne.mpr (show ¬ ((x : Int) = (i : Int)) by omega), beq_eq_false_iff_ne.mpr (fun z => h z.symm)]
theorem vi_flat : ∀ l : List Nat, (vi l).all flatV = true
  | [] => rfl
  | x :: l => by
    show (true && (vi l).all flatV) = true
    rw [vi_flat l]
    rfl
theorem find_take {α : Type} {p : α → Bool} {l : List α} {i : Nat} {x : α} (h : (l.take i).find? p = none) (hx : l[i]? = some x) (hp : p x = true) : l.find? p = some x := by
  obtain ⟨hi, ex⟩ := List.getElem?_eq_some_iff.mp hx
  have e : l = l.take i ++ x :: l.drop (i + 1) := by
    rw [← ex, List.getElem_cons_drop, List.take_append_drop]
  rw [e, List.find?_append, h, List.find?_cons, hp]
  rfl
theorem find_take_no {α : Type} {p : α → Bool} {l : List α} {i : Nat} {x : α} (h : (l.take i).find? p = none) (hx : l[i]? = some x) (hp : p x = false) : (l.take (i + 1)).find? p = none := by
  rw [take_more hx, List.find?_append, h, List.find?_cons, hp]
  rfl
section
variable {P : Program} {w : World} {K : PySem.W.Frag} {mg : Str → Option Value} {base : Heap} {C : Addr}
theorem scStreetsOf : FnScope ["plough", "owners", "street", "owner"] ["plough", "owners"] (defScope sStreetsOf) := ⟨rfl, rfl, rfl, by decide +kernel, rfl, by decide +kernel, by decide +kernel⟩
theorem ok_streetsOf {f : Addr} {fd : FuncData} (F : Fun K "streets_of" "streets_of" sStreetsOf f fd) (T : Txt K mg C) : FnOk P w K mg base CX0 1 f fd ["plough", "owners"] spStreets := by
  refine F.ok scStreetsOf (fun vs H Q E h => ?_) (fun cdv A outer s H vs Q E hr h => ?_)
  · obtain ⟨a, os, n, rfl, _⟩ := h
    rfl
  · obtain ⟨a, os, n, rfl, ha, hl, k⟩ := h
    refine ⟨_, pss_one (ps_ret (pe_lc (own := [("street", 2), ("owner", 3)]) (g := gTup K 2 (gCons (gName 2) (gCons (gName 3) gNil))) rfl scStreetsOf.nd (pi_enum (by rfl) T.enumerate (pa_cons (pv 1) pa_nil))
      (blkOk_by (own := [("street", 2), ("owner", 3)]) (N := ["plough", "owners", "street", "owner"]) (sc := defScope sStreetsOf) (by decide +kernel))
      (fun _ _ _ _ _ => pg_tup rfl (pgs_cons (pg_name (i := 2) scStreetsOf.nd rfl (Or.inl rfl)) (pgs_cons (pg_name (i := 3) scStreetsOf.nd rfl (Or.inl rfl)) pgs_nil)))
      (fun _ _ _ _ _ => pts_one (pt_cmpR op_eq (pv 3) (pv 0) (nomark _))) (fun _ _ _ _ _ => pv 2))), ?_⟩
    refine ⟨_, rfl, a, _, rfl, SqL.of ha, fun D nD => ?_⟩
    have s0 : Same H (upd H D (.lst [])) := same_upd nD
    refine lc_en (K := K) (a := a) (D := D) (xs := vi os) (fun i H' => Same H H' ∧ RN H' D ((List.range i).filter fun j => os.getD j 0 == n)) ⟨s0, upd_same⟩ (fun i H' h => SqL.of (h.1 _ _ ha)) ?_ ?_
    · rintro i x T H1 hx ⟨s1, hD⟩ nT
      obtain ⟨o, ho, rfl⟩ := vi_get hx
      have sT : Same H1 (upd H1 T (.tup [.int (i : Nat), ci o])) := same_upd nT
      have hD2 := sT _ _ hD
      have ho2 : os.getD i 0 = o := by rw [List.getD_eq_getElem?_getD, ho]; rfl
      have hi : i < 1000 := by
        have := (List.getElem?_eq_some_iff.mp ho).1
        omega
      have lf := List.length_filter_le (fun j => os.getD j 0 == n) (List.range i)
      rw [List.length_range] at lf
      refine ⟨T, _, rfl, SqT.of upd_same, rfl, _, _, rfl, _, _, rfl, rfl, rfl, ?_⟩
      refine ⟨_, rfl, _, rfl, rfl, _, rfl, ?_⟩
      rw [ci_eq]
      rw [range_filter_succ, ho2]
      cases hc : (o == n) with
      | true =>
        refine ifT rfl ⟨_, rfl, _, hD2, by rw [vi_len]; exact line_lt (by omega), same_upd2 (s1.trans sT) nD, ?_⟩
        unfold RN
        rw [upd_same, if_pos rfl, vi_snoc]
      | false =>
        refine ifF rfl ⟨s1.trans sT, ?_⟩
        rw [if_neg (by simp), List.append_nil]
        exact hD2
    · rintro H1 ⟨s1, hD⟩
      rw [vi_len] at hD
      exact k H1 D s1 nD hD
theorem scOne : FnScope ["shares", "street", "other", "share"] ["shares", "street", "other"] (defScope sOne) := ⟨rfl, rfl, rfl, by decide +kernel, rfl, by decide +kernel, by decide +kernel⟩
theorem ok_one {f : Addr} {fd : FuncData} (F : Fun K "is_one_ploughs" "is_one_ploughs" sOne f fd) (T : Txt K mg C) : FnOk P w K mg base CX0 1 f fd ["shares", "street", "other"] spOne := by
  refine F.ok scOne (fun vs H Q E h => ?_) (fun cdv A outer s H vs Q E hr h => ?_)
  · obtain ⟨a, sh, i, j, rfl, _⟩ := h
    rfl
  · obtain ⟨a, sh, i, j, rfl, ⟨as, ha, al⟩, hl, k⟩ := h
    refine ⟨_, pss_one (ps_ret (pe_callB (cr_any rfl) (by rfl) T.any (by decide +kernel) (pa_cons (pe_lc (own := [("share", 3)]) (g := gName 3) (te := tAndV (tOp (rIn K false) (tVar 1) (tVar 3)) (tOp (rIn K false) (tVar 2) (tVar 3))) rfl scOne.nd (pi_list (pv 0))
      (blkOk_by (own := [("share", 3)]) (N := ["shares", "street", "other", "share"]) (sc := defScope sOne) (by decide +kernel))
      (fun _ _ _ _ _ => pg_name (i := 3) scOne.nd rfl (Or.inl rfl)) (fun _ _ _ _ _ => pts_nil)
      (fun _ _ _ _ _ => pe_and (pe_cmpR op_in_seq (pv 1) (pv 3) (by rfl)) (pe_one (pe_cmpR op_in_seq (pv 2) (pv 3) (by rfl))))) pa_nil))), ?_⟩
    refine ⟨_, rfl, a, rfl, ⟨_, SqL.of ha⟩, fun D nD => ?_⟩
    have s0 : Same H (upd H D (.lst [])) := same_upd nD
    refine lc_list (K := K) (a := a) (xs := as.map V.ref) (fun m H' => Same H H' ∧ H' D = some (.lst (((sh.take m).map fun s => s.contains i && s.contains j).map V.bl))) ⟨s0, upd_same⟩ (fun m H' _ h => SqL.of (h.1 _ _ ha)) ?_ ?_
    · rintro m x H1 hx ⟨s1, hD⟩
      obtain ⟨b, hb, rfl⟩ := refs_get hx
      obtain ⟨share, hs, rs⟩ := al.get hb
      have rs1 : H1 b = some (.lst (vi share)) := s1 _ _ rs
      have fin : ∀ c : Bool, c = (share.contains i && share.contains j) → ∃ acc, H1 D = some (.lst acc) ∧ acc.length < sizeLine ∧ (Same H (upd H1 D (.lst (acc ++ [V.bl c]))) ∧ (upd H1 D (.lst (acc ++ [V.bl c]))) D = some (.lst (((sh.take (m + 1)).map fun s => s.contains i && s.contains j).map V.bl))) := fun c hc => by
        refine ⟨_, hD, ?_, same_upd2 s1 nD, ?_⟩
        · rw [List.length_map, List.length_map, List.length_take]
          exact line_lt (by omega)
        · rw [upd_same, take_more hs, List.map_append, List.map_append, hc]
          rfl
      refine ⟨rfl, ?_⟩
      refine ⟨_, rfl, _, rfl, b, _, rfl, .inl (SqL.of rs1), rfl, vi_flat _, _, rfl, ?_⟩
      rw [show (if false = true then !inV (ci i) (vi share) else inV (ci i) (vi share)) = share.contains i from inV_vi i share]
      cases hc : share.contains i with
      | true =>
        refine ifT rfl ⟨_, rfl, _, rfl, b, _, rfl, .inl (SqL.of rs1), rfl, vi_flat _, ?_⟩
        rw [show (if false = true then !inV (ci j) (vi share) else inV (ci j) (vi share)) = share.contains j from inV_vi j share]
        exact fin _ (by rw [hc, Bool.true_and])
      | false =>
        exact ifF rfl (fin _ (by rw [hc, Bool.false_and]))
    · rintro H1 ⟨s1, hD⟩
      rw [List.length_map, al.1, List.take_length] at hD
      refine ⟨D, _, rfl, SqL.of hD, ?_⟩
      have e : ((sh.map fun s => s.contains i && s.contains j).any id) = oneP sh i j := by
        unfold oneP
        rw [List.any_map]
        rfl
      rw [e]
      exact k H1 s1
theorem scFirst : FnScope ["pairs", "shares", "wanted", "street", "other"] ["pairs", "shares", "wanted"] (defScope sFirst) := ⟨rfl, rfl, rfl, by decide +kernel, rfl, by decide +kernel, by decide +kernel⟩
theorem ok_first {f : Addr} {fd : FuncData} (F : Fun K "first_pair" "first_pair" sFirst f fd) (cO : CalF P w K mg base "is_one_ploughs" 1 ["shares", "street", "other"] spOne) : FnOk P w K mg base CX0 2 f fd ["pairs", "shares", "wanted"] spFirst := by
  obtain ⟨fO, fdO, GO, mO, kO, bO⟩ := cO
  refine F.ok scFirst (fun vs H Q E h => ?_) (fun cdv A outer s H vs Q E hr h => ?_)
  · obtain ⟨a, b, ps, sh, u, rfl, _⟩ := h
    rfl
  · obtain ⟨a, b, ps, sh, u, rfl, ⟨as, ha, al⟩, hsh, hl, k⟩ := h
    refine ⟨_, pss_cons (ps_for PassesOwn.never rfl (pi_list (pv 0)) (pg_tup rfl (pgs_cons (pg_name (i := 3) scFirst.nd rfl (Or.inl rfl)) (pgs_cons (pg_name (i := 4) scFirst.nd rfl (Or.inl rfl)) pgs_nil)))
        (pss_one (ps_if (pt_cmpR op_eq (pe_call GO hr rfl mO kO bO .nil pass0 (pa_cons (pv 1) (pa_cons (pv 3) (pa_cons (pv 4) pa_nil)))) (pv 2) (nomark _))
          (pss_one (ps_ret (pe_lst (pa_cons (pv 3) (pa_cons (pv 4) pa_nil))))) pss_nil)))
      (pss_one (ps_ret (pe_lst pa_nil))), ?_⟩
    refine ⟨_, rfl, a, rfl, ⟨_, SqL.of ha⟩, for_list (K := K) (a := a) (xs := as.map V.ref) (fun i σ H' => ∃ (v3 v4 : Option V), σ = [some (.ref a), some (.ref b), some (.bl u), v3, v4] ∧ Same H H' ∧ (ps.take i).find? (fun x => oneP sh x.1 x.2 == u) = none)
      ⟨none, none, rfl, Same.refl _, rfl⟩ (fun i σ H' _ ⟨_, _, _, s1, _⟩ => SqL.of (s1 _ _ ha)) ?_ ?_⟩
    · rintro i x σ H1 hi ⟨v3, v4, rfl, s1, hf⟩
      obtain ⟨t, ht, rfl⟩ := refs_get hi
      obtain ⟨pr, hp, rp⟩ := al.get ht
      have rp1 : H1 t = some (.tup [ci pr.1, ci pr.2]) := s1 _ _ rp
      refine ⟨t, _, rfl, SqT.of rp1, rfl, _, _, rfl, _, _, rfl, rfl, ?_⟩
      refine ⟨_, rfl, _, rfl, _, rfl, b, sh, pr.1, pr.2, rfl, RSh.mono s1 hsh, hl, fun H2 s2 => ?_⟩
      refine ⟨_, rfl, rfl, _, rfl, ?_⟩
      rw [dec_bl]
      cases hc : (oneP sh pr.1 pr.2 == u) with
      | true =>
        refine ifT rfl ⟨_, rfl, _, rfl, by show 2 ≤ sizeLine; decide, fun q nq => ?_⟩
        refine k _ q ((s1.trans s2).trans (same_upd nq)) ((s1.trans s2).free nq) ?_
        have e := find_take (p := fun (x : Nat × Nat) => oneP sh x.1 x.2 == u) hf hp hc
        unfold RN firstP
        rw [upd_same, e]
        rfl
      | false =>
        refine ifF rfl ?_
        exact ⟨_, _, rfl, s1.trans s2, find_take_no hf hp hc⟩
    · rintro σ H1 ⟨v3, v4, rfl, s1, hf⟩
      rw [List.length_map, al.1, List.take_length] at hf
      refine ⟨Nat.zero_le _, fun q nq => k _ q (s1.trans (same_upd nq)) (s1.free nq) ?_⟩
      unfold RN firstP
      rw [upd_same, hf]
      rfl
end
end SnowB
/-! ## part B5 -/
namespace SnowB
open PySem PySem.Spec PyProof.Rows L2
open SnowM (Time numbersOf iterP allPlans joinP oneP firstP Good)
open Si79 (parts Night)
/-! ### the night as it lies -/
def nF (pl st ap tg : Addr) : List (Str × V) := [("ploughs", .ref pl), ("streets", .ref st), ("apart", .ref ap), ("together", .ref tg)]
theorem lk_here {k : Str} {v : V} {r : List (Str × V)} : List.lookup k ((k, v) :: r) = some v := by
  have e : (k == k) = true := beq_self_eq_true k
  simp only [List.lookup, e]
theorem lk_past {k g : Str} {v : V} {r : List (Str × V)} (h : (k == g) = false) : List.lookup k ((g, v) :: r) = List.lookup k r := by
  simp only [List.lookup, h]
theorem put_here {f : Str} {v x : V} {r : List (Str × V)} : putF f v ((f, x) :: r) = (f, v) :: r := if_pos rfl
theorem put_past {f g : Str} {v x : V} {r : List (Str × V)} (h : ¬ g = f) : putF f v ((g, x) :: r) = (g, x) :: putF f v r := if_neg h
section
variable {pl st ap tg : Addr}
theorem nF_p : (nF pl st ap tg).lookup ("ploughs" : Str) = some (.ref pl) := lk_here
theorem nF_s : (nF pl st ap tg).lookup ("streets" : Str) = some (.ref st) := (lk_past (by decide +kernel)).trans lk_here
theorem nF_a : (nF pl st ap tg).lookup ("apart" : Str) = some (.ref ap) := (lk_past (by decide +kernel)).trans ((lk_past (by decide +kernel)).trans lk_here)
theorem nF_t : (nF pl st ap tg).lookup ("together" : Str) = some (.ref tg) := (lk_past (by decide +kernel)).trans ((lk_past (by decide +kernel)).trans ((lk_past (by decide +kernel)).trans lk_here))
theorem nF_no {m : Str} (h1 : (m == "ploughs") = false) (h2 : (m == "streets") = false) (h3 : (m == "apart") = false) (h4 : (m == "together") = false) : (nF pl st ap tg).lookup m = none :=
  (lk_past h1).trans ((lk_past h2).trans ((lk_past h3).trans ((lk_past h4).trans rfl)))
def fP (a : V) (r : List (Str × V)) : List (Str × V) := ("ploughs", a) :: r
def fS (a : V) (r : List (Str × V)) : List (Str × V) := ("streets", a) :: r
def fA (a : V) (r : List (Str × V)) : List (Str × V) := ("apart", a) :: r
def fT (a : V) (r : List (Str × V)) : List (Str × V) := ("together", a) :: r
section
variable {a x y : V} {r : List (Str × V)}
theorem pS_P : putF "streets" y (fP x r) = fP x (putF "streets" y r) := put_past (by decide +kernel)
theorem pA_P : putF "apart" y (fP x r) = fP x (putF "apart" y r) := put_past (by decide +kernel)
theorem pT_P : putF "together" y (fP x r) = fP x (putF "together" y r) := put_past (by decide +kernel)
theorem pA_S : putF "apart" y (fS x r) = fS x (putF "apart" y r) := put_past (by decide +kernel)
theorem pT_S : putF "together" y (fS x r) = fS x (putF "together" y r) := put_past (by decide +kernel)
theorem pT_A : putF "together" y (fA x r) = fA x (putF "together" y r) := put_past (by decide +kernel)
theorem pP_P : putF "ploughs" y (fP x r) = fP y r := put_here
theorem pS_S : putF "streets" y (fS x r) = fS y r := put_here
theorem pA_A : putF "apart" y (fA x r) = fA y r := put_here
theorem pT_T : putF "together" y (fT x r) = fT y r := put_here
theorem pP_0 : putF "ploughs" y [] = fP y [] := rfl
theorem pS_0 : putF "streets" y [] = fS y [] := rfl
theorem pA_0 : putF "apart" y [] = fA y [] := rfl
theorem pT_0 : putF "together" y [] = fT y [] := rfl
end
theorem nF_new {a b c d : V} : putF "together" d (putF "apart" c (putF "streets" b (putF "ploughs" a []))) = fP a (fS b (fA c (fT d []))) := by
  rw [pP_0, pS_P, pS_0, pA_P, pA_S, pA_0, pT_P, pT_S, pT_A, pT_0]
theorem nF_put {a b c d : V} : putF "together" d (putF "apart" c (putF "streets" b (putF "ploughs" a (nF pl st ap tg)))) = fP a (fS b (fA c (fT d []))) := by
  have e : nF pl st ap tg = fP (.ref pl) (fS (.ref st) (fA (.ref ap) (fT (.ref tg) []))) := rfl
  rw [e, pP_P, pS_P, pS_S, pA_P, pA_S, pA_A, pT_P, pT_S, pT_A, pT_T]
theorem nF_len : (nF pl st ap tg).length = 4 := rfl
end
def sP (s : Nat × Nat) : Si79.Street := ⟨s.1, s.2⟩
/-- the night n at a -/
structure NightAt (C : Addr) (H : Hp) (a : Addr) (n : Night) (pl st ap tg : Addr) : Prop where
  ins : ∃ dx, H a = some (.ins C dx (nF pl st ap tg))
  p : RN H pl n.speeds
  s : RL RSt H st n.streets
  x : RL R2n H ap n.apart
  y : RL R2n H tg n.together
  ps : pl ≠ st
  pa : pl ≠ ap
  pt : pl ≠ tg
  sa : st ≠ ap
  sg : st ≠ tg
  ag : ap ≠ tg
theorem NightAt.mono {C : Addr} {H H' : Hp} {a : Addr} {n : Night} {pl st ap tg : Addr} (e : Same H H') (h : NightAt C H a n pl st ap tg) : NightAt C H' a n pl st ap tg := by
  obtain ⟨dx, hi⟩ := h.ins
  exact ⟨⟨dx, e _ _ hi⟩, RN.mono e h.p, RL.mono (fun _ _ => RSt.mono e) e h.s, RL.mono (fun _ _ => R2n.mono e) e h.x, RL.mono (fun _ _ => R2n.mono e) e h.y, h.ps, h.pa, h.pt, h.sa, h.sg, h.ag⟩
def RI (H : Hp) (a : Addr) (zs : List Int) : Prop := H a = some (.lst (zs.map V.int))
theorem RI_cast {H : Hp} {a : Addr} {ns : List Nat} (h : RN H a ns) : RI H a (SnowM.cast ns) := by
  unfold RI
  rw [← vi_ints]
  exact h
/-- all but the night's own stands -/
def Fr (a st ap tg : Addr) (H H' : Hp) : Prop := ∀ b o, H b = some o → b ≠ a → b ≠ st → b ≠ ap → b ≠ tg → H' b = some o
def Nw (H : Hp) (x x' : Addr) : Prop := x' = x ∨ H x' = none
/-- a call's end -/
def Post (C : Addr) (n : Night) (q : Si79.Call) (H : Hp) (a pl st ap tg : Addr) (Q : VK) : Prop :=
  ∀ (H' : Hp) (r pl' st' ap' tg' : Addr), NightAt C H' a (Si79.step n q).1 pl' st' ap' tg' → Fr a st ap tg H H' → (Nw H pl pl' ∧ Nw H st st' ∧ Nw H ap ap' ∧ Nw H tg tg') →
    H r = none → RI H' r ((Si79.step n q).2.v :: (Si79.step n q).2.l) → Q (.ref r) H'
theorem post_same {C : Addr} {n : Night} {q : Si79.Call} {H : Hp} {a pl st ap tg : Addr} {Q : VK} (k : Post C n q H a pl st ap tg Q) (N : NightAt C H a n pl st ap tg) (e : (Si79.step n q).1 = n) {H' : Hp} {r : Addr} (s : Same H H') (hr : H r = none)
    {zs : List Int} (h : RI H' r zs) (hz : zs = (Si79.step n q).2.v :: (Si79.step n q).2.l) : Q (.ref r) H' := by
  rw [hz] at h
  refine k H' r pl st ap tg ?_ (fun b o hb _ _ _ _ => s b o hb) ⟨.inl rfl, .inl rfl, .inl rfl, .inl rfl⟩ hr h
  rw [e]
  exact N.mono s
def spInit (C : Addr) : Sp := fun vs H Q _ => ∃ (x dx : Addr), vs = [.ref x] ∧ H x = some (.ins C dx []) ∧ ∀ (H' : Hp) (pl st ap tg : Addr), NightAt C H' x Si79.init pl st ap tg → (∀ b o, H b = some o → b ≠ x → H' b = some o) → (H pl = none ∧ H st = none ∧ H ap = none ∧ H tg = none) → Q .non H'
def spBegin (C : Addr) : Sp := fun vs H Q _ => ∃ (a l pl st ap tg : Addr) (n : Night) (ns : List Nat), vs = [.ref a, .ref l] ∧ NightAt C H a n pl st ap tg ∧ RN H l ns ∧ ns.length ≤ 8 ∧ Post C n (.begins ns) H a pl st ap tg Q
def spAdd (C : Addr) : Sp := fun vs H Q _ => ∃ (a pl st ap tg : Addr) (n : Night) (b m h : Nat), vs = [.ref a, ci m, ci h] ∧ NightAt C H a n pl st ap tg ∧ Good n b ∧ Post C n (.street ⟨m, h⟩) H a pl st ap tg Q
def spTell (C : Addr) : Sp := fun vs H Q _ => ∃ (a pl st ap tg pr : Addr) (n : Night) (ps : List (Nat × Nat)) (i j : Nat), vs = [.ref a, .ref pr, ci i, ci j] ∧ NightAt C H a n pl st ap tg ∧ RL R2n H pr ps ∧ ps.length ≤ 1000 ∧
  (n.two ps i j < 0 → ∀ (H' : Hp) (r : Addr), Same H H' → H r = none → RI H' r [n.two ps i j] → Q (.ref r) H') ∧
  (¬ n.two ps i j < 0 → ∀ (H' : Hp) (r : Addr), RL R2n H' pr (ps ++ [(i, j)]) → (∀ b o, H b = some o → b ≠ pr → H' b = some o) → H r = none → RI H' r [0] → Q (.ref r) H')
def spApart (C : Addr) : Sp := fun vs H Q _ => ∃ (a pl st ap tg : Addr) (n : Night) (b i j : Nat), vs = [.ref a, ci i, ci j] ∧ NightAt C H a n pl st ap tg ∧ Good n b ∧ b ≤ 1000 ∧ Post C n (.apart i j) H a pl st ap tg Q
def spTog (C : Addr) : Sp := fun vs H Q _ => ∃ (a pl st ap tg : Addr) (n : Night) (b i j : Nat), vs = [.ref a, ci i, ci j] ∧ NightAt C H a n pl st ap tg ∧ Good n b ∧ b ≤ 1000 ∧ Post C n (.together i j) H a pl st ap tg Q
theorem al_nil {α : Type} {R : Hp → Addr → α → Prop} {H : Hp} {a : Addr} (h : H a = some (.lst [])) : RL R H a ([] : List α) := ⟨[], h, Al.nil⟩
section
variable {P : Program} {w : World} {K : PySem.W.Frag} {mg : Str → Option Value} {base : Heap} {C : Addr}
theorem scInit : FnScope ["self"] ["self"] (defScope sInit) := ⟨rfl, rfl, rfl, by decide +kernel, rfl, by decide +kernel, by decide +kernel⟩
theorem ok_init {f : Addr} {fd : FuncData} (F : Fun K "__init__" "Night.__init__" sInit f fd) (T : Txt K mg C) : FnOk P w K mg base CX0 1 f fd ["self"] (spInit C) := by
  refine F.ok scInit (fun vs H Q E h => ?_) (fun cdv A outer s H vs Q E hr h => ?_)
  · obtain ⟨x, dx, rfl, _⟩ := h
    rfl
  · obtain ⟨x, dx, rfl, hx, k⟩ := h
    refine ⟨_, pss_cons (ps_fld (pv 0) (pe_lst (pa_cons pe_int pa_nil)) rfl) (pss_cons (ps_fld (pv 0) (pe_lst pa_nil) rfl) (pss_cons (ps_fld (pv 0) (pe_lst pa_nil) rfl) (pss_one (ps_fld (pv 0) (pe_lst pa_nil) rfl)))), ?_⟩
    refine ⟨by show 1 ≤ sizeLine; decide, fun p1 n1 => ?_⟩
    have x1 : x ≠ p1 := ne_of_none hx n1
    refine ⟨_, rfl, x, C, dx, _, rfl, by rw [upd_ne x1]; exact hx, T.cl, T.nP, by show 0 < 1000; decide, ?_⟩
    refine ⟨Nat.zero_le _, fun p2 n2 => ?_⟩
    have x2 : x ≠ p2 := ne_of_none upd_same n2
    rw [upd_ne x2.symm] at n2
    have p12 : p1 ≠ p2 := ne_of_none upd_same n2
    rw [upd_ne p12.symm] at n2
    refine ⟨_, rfl, x, C, dx, _, rfl, by rw [upd_ne x2, upd_same], T.cl, T.nS, by show 1 < 1000; decide, ?_⟩
    refine ⟨Nat.zero_le _, fun p3 n3 => ?_⟩
    have x3 : x ≠ p3 := ne_of_none upd_same n3
    rw [upd_ne x3.symm] at n3
    have p23 : p2 ≠ p3 := ne_of_none upd_same n3
    rw [upd_ne p23.symm, upd_ne x3.symm] at n3
    have p13 : p1 ≠ p3 := ne_of_none upd_same n3
    rw [upd_ne p13.symm] at n3
    refine ⟨_, rfl, x, C, dx, _, rfl, by rw [upd_ne x3, upd_same], T.cl, T.nA, by show 2 < 1000; decide, ?_⟩
    refine ⟨Nat.zero_le _, fun p4 n4 => ?_⟩
    have x4 : x ≠ p4 := ne_of_none upd_same n4
    rw [upd_ne x4.symm] at n4
    have p34 : p3 ≠ p4 := ne_of_none upd_same n4
    rw [upd_ne p34.symm, upd_ne x4.symm] at n4
    have p24 : p2 ≠ p4 := ne_of_none upd_same n4
    rw [upd_ne p24.symm, upd_ne x4.symm] at n4
    have p14 : p1 ≠ p4 := ne_of_none upd_same n4
    rw [upd_ne p14.symm] at n4
    refine ⟨_, rfl, x, C, dx, _, rfl, by rw [upd_ne x4, upd_same], T.cl, T.nT, by show 3 < 1000; decide, ?_⟩
    refine k _ p1 p2 p3 p4 ⟨⟨dx, ?_⟩, ?_, al_nil ?_, al_nil ?_, al_nil ?_, p12, p13, p14, p23, p24, p34⟩ (fun b o hb hbx => ?_) ⟨n1, n2, n3, n4⟩
    · rw [upd_same, nF_new]
      rfl
    · unfold RN
      rw [upd_ne x1.symm, upd_ne p14, upd_ne x1.symm, upd_ne p13, upd_ne x1.symm, upd_ne p12, upd_ne x1.symm, upd_same]
      rfl
    · rw [upd_ne x2.symm, upd_ne p24, upd_ne x2.symm, upd_ne p23, upd_ne x2.symm, upd_same]
    · rw [upd_ne x3.symm, upd_ne p34, upd_ne x3.symm, upd_same]
    · rw [upd_ne x4.symm, upd_same]
    · have b1 := ne_of_none hb n1
      have b2 := ne_of_none hb n2
      have b3 := ne_of_none hb n3
      have b4 := ne_of_none hb n4
      rw [upd_ne hbx, upd_ne b4, upd_ne hbx, upd_ne b3, upd_ne hbx, upd_ne b2, upd_ne hbx, upd_ne b1]
      exact hb
end
end SnowB
/-! ## part B6 -/
namespace SnowB
open PySem PySem.Spec PyProof.Rows L2
open SnowM (Time numbersOf iterP allPlans joinP oneP firstP Good)
open Si79 (parts Night)
/-! ### one of the night's lists changes -/
section
variable {C : Addr} {H H' : Hp} {a : Addr} {n : Night} {pl st ap tg : Addr}
theorem RL.keep {α : Type} {D L : Addr} {xs : List α} {zs : List V} (f : α → List V) (hD : H D = some (.lst zs)) (k : ∀ b o, H b = some o → b ≠ D → H' b = some o) (ne : L ≠ D)
    (h : RL (fun H b x => H b = some (.tup (f x))) H L xs) : RL (fun H b x => H b = some (.tup (f x))) H' L xs := by
  obtain ⟨as, h1, h2⟩ := h
  exact ⟨as, k _ _ h1 ne, h2.mono fun b x r => k _ _ r (ne_of r hD (fun z => by cases z))⟩
theorem NightAt.set_st {ss : List Si79.Street} (N : NightAt C H a n pl st ap tg) (k : ∀ b o, H b = some o → b ≠ st → H' b = some o) (h : RL RSt H' st ss) : NightAt C H' a { n with streets := ss } pl st ap tg := by
  obtain ⟨dx, hi⟩ := N.ins
  obtain ⟨as, hs, _⟩ := N.s
  exact ⟨⟨dx, k _ _ hi (ne_of hi hs (fun z => by cases z))⟩, k _ _ N.p N.ps, h, RL.keep (fun x : Nat × Nat => [ci x.1, ci x.2]) hs k N.sa.symm N.x, RL.keep (fun x : Nat × Nat => [ci x.1, ci x.2]) hs k N.sg.symm N.y, N.ps, N.pa, N.pt, N.sa, N.sg, N.ag⟩
theorem NightAt.set_ap {ps : List (Nat × Nat)} (N : NightAt C H a n pl st ap tg) (k : ∀ b o, H b = some o → b ≠ ap → H' b = some o) (h : RL R2n H' ap ps) : NightAt C H' a { n with apart := ps } pl st ap tg := by
  obtain ⟨dx, hi⟩ := N.ins
  obtain ⟨as, hs, _⟩ := N.x
  exact ⟨⟨dx, k _ _ hi (ne_of hi hs (fun z => by cases z))⟩, k _ _ N.p N.pa, RL.keep (fun x : Si79.Street => [ci x.metres, ci x.grows]) hs k N.sa N.s, h, RL.keep (fun x : Nat × Nat => [ci x.1, ci x.2]) hs k N.ag.symm N.y, N.ps, N.pa, N.pt, N.sa, N.sg, N.ag⟩
theorem NightAt.set_tg {ps : List (Nat × Nat)} (N : NightAt C H a n pl st ap tg) (k : ∀ b o, H b = some o → b ≠ tg → H' b = some o) (h : RL R2n H' tg ps) : NightAt C H' a { n with together := ps } pl st ap tg := by
  obtain ⟨dx, hi⟩ := N.ins
  obtain ⟨as, hs, _⟩ := N.y
  exact ⟨⟨dx, k _ _ hi (ne_of hi hs (fun z => by cases z))⟩, k _ _ N.p N.pt, RL.keep (fun x : Si79.Street => [ci x.metres, ci x.grows]) hs k N.sg N.s, RL.keep (fun x : Nat × Nat => [ci x.1, ci x.2]) hs k N.ag N.x, h, N.ps, N.pa, N.pt, N.sa, N.sg, N.ag⟩
end
/-! ### pairs as data -/
def prd (z : Nat × Nat) : PyData := .tuple [.int z.1, .int z.2]
theorem prd_eqv (z u : Nat × Nat) : PyData.eqv (prd z) (prd u) = decide (z = u) := by
  obtain ⟨a, b⟩ := z
  obtain ⟨c, d⟩ := u
  have e : PyData.eqv (prd (a, b)) (prd (c, d)) = (((a : Int) == (c : Int)) && (((b : Int) == (d : Int)) && true)) := by simp only [prd, PyData.eqv, PyData.eqvAll]
  rw [e]
  by_cases h1 : a = c
  · subst h1
    by_cases h2 : b = d
    · subst h2
      simp
    · rw [beq_eq_false_iff_ne.mpr (show ¬ (b : Int) = (d : Int) by omega), decide_eq_false (fun q => h2 (congrArg Prod.snd q))]
      simp
  · rw [beq_eq_false_iff_ne.mpr (show ¬ (a : Int) = (c : Int) by omega), decide_eq_false (fun q => h1 (congrArg Prod.fst q))]
    rfl
theorem prd_lay (z : Nat × Nat) : (prd z).canLay0 = true := by simp [prd, PyData.canLay0, PyData.canLayAll0]
theorem prd_depth (z : Nat × Nat) : (prd z).depth = 1 := by simp [prd, PyData.depth, PyData.depthAll]
theorem prds_lay : ∀ zs : List (Nat × Nat), PyData.canLayAll0 (zs.map prd) = true
  | [] => by simp [PyData.canLayAll0]
  | z :: zs => by simp [PyData.canLayAll0, prd_lay z, prds_lay zs]
theorem prds_depth : ∀ zs : List (Nat × Nat), PyData.depthAll (zs.map prd) ≤ 1
  | [] => by simp [PyData.depthAll]
  | z :: zs => by
    have h1 := prds_depth zs
    have h2 := prd_depth z
    simp only [List.map_cons, PyData.depthAll]
    omega
theorem prd_shaped (z : Nat × Nat) : SeqAt.shaped (prd z) = true := by
  have h := prd_depth z
  show ((prd z).canLay0 && decide ((prd z).depth ≤ 64)) = true
  rw [prd_lay z, decide_eq_true (by omega)]
  rfl
theorem prds_shaped (zs : List (Nat × Nat)) : SeqAt.shaped (.list (zs.map prd)) = true := by
  have h1 := prds_depth zs
  have h2 : PyData.depth (.list (zs.map prd)) ≤ 64 := by
    simp only [PyData.depth]
    omega
  have h3 : PyData.canLay0 (.list (zs.map prd)) = true := by
    simp only [PyData.canLay0]
    exact prds_lay zs
  show (PyData.canLay0 (.list (zs.map prd)) && decide (PyData.depth (.list (zs.map prd)) ≤ 64)) = true
  rw [h3, decide_eq_true h2]
  rfl
theorem prd_any (l : List (Nat × Nat)) (u : Nat × Nat) : ((l.map prd).any fun z => PyData.eqv z (prd u)) = l.contains u := by
  rw [List.any_map]
  induction l with
  | nil => rfl
  | cons z l ih =>
    rw [List.any_cons, List.contains_cons, ih]
    show (PyData.eqv (prd z) (prd u) || _) = _
    rw [prd_eqv]
    congr 1
    by_cases h : z = u
    · subst h; simp
    · rw [decide_eq_false h, beq_eq_false_iff_ne.mpr (fun q => h q.symm)]
theorem dp_pair {K : PySem.W.Frag} {H : Hp} {t : Addr} {x : Nat × Nat} (h : R2n H t x) : Dp K H (.ref t) (prd x) := .tup (SqT.of h) (.cons (.int _) (.cons (.int _) .nil))
theorem dp_all {K : PySem.W.Frag} {H : Hp} : ∀ {as : List Addr} {xs : List (Nat × Nat)}, Al (R2n H) as xs → DpAll K H (as.map V.ref) (xs.map prd)
  | [], [], _ => .nil
  | [], _ :: _, h => absurd h.1 (by simp)
  | _ :: _, [], h => absurd h.1 (by simp)
  | a :: as, x :: xs, h => .cons (dp_pair (h.2 0 a x rfl rfl)) (dp_all ⟨Nat.succ.inj h.1, fun i b y h1 h2 => h.2 (i + 1) b y h1 h2⟩)
theorem dp_pairs {K : PySem.W.Frag} {H : Hp} {l : Addr} {xs : List (Nat × Nat)} (h : RL R2n H l xs) : Dp K H (.ref l) (.list (xs.map prd)) := by
  obtain ⟨as, h1, h2⟩ := h
  exact .lst (SqL.of h1) (dp_all h2)
theorem hu65 {A : Around} {k : Nat} (r : Room k A) : A.units + 65 < cLine := by
  have := r.un
  omega
section
variable {P : Program} {w : World} {K : PySem.W.Frag} {mg : Str → Option Value} {base : Heap} {C : Addr}
theorem scTell : FnScope ["self", "pairs", "street", "other"] ["self", "pairs", "street", "other"] (defScope sTell) := ⟨rfl, rfl, rfl, by decide +kernel, rfl, by decide +kernel, by decide +kernel⟩
theorem ok_tell {f : Addr} {fd : FuncData} (F : Fun K "tell" "Night.tell" sTell f fd) (T : Txt K mg C) : FnOk P w K mg base CX0 1 f fd ["self", "pairs", "street", "other"] (spTell C) := by
  refine F.ok scTell (fun vs H Q E h => ?_) (fun cdv A outer s H vs Q E hr h => ?_)
  · obtain ⟨a, pl, st, ap, tg, pr, n, ps, i, j, rfl, _⟩ := h
    rfl
  · obtain ⟨a, pl, st, ap, tg, pr, n, ps, i, j, rfl, N, hp, hl, k1, k2⟩ := h
    have hu := hu65 hr
    obtain ⟨dx, hi⟩ := N.ins
    obtain ⟨ss, hs, als⟩ := N.s
    have cnt : (ss.map V.ref).length = n.count := by rw [List.length_map]; exact als.1
    refine ⟨_, pss_cons (ps_if (PW.pt (pw_or (pt_cmpR op_ge (pv 2) (pe_callB call_len_seq (by rfl) T.len PySem.boot_len (pa_cons (pe_fld (pv 0) rfl) pa_nil)) (nomark _)) (pw_or1 (pt_cmpR op_ge (pv 3) (pe_callB call_len_seq (by rfl) T.len PySem.boot_len (pa_cons (pe_fld (pv 0) rfl) pa_nil)) (nomark _)))))
        (pss_one (ps_ret (pe_lst (pa_cons (pe_un un_neg pe_int) pa_nil)))) pss_nil)
      (pss_cons (ps_if (PW.pt (pw_or (pt_cmpR op_eq (pv 2) (pv 3) (nomark _)) (pw_or (pt_cmpR (op_inD hu) (pe_tup (pa_cons (pv 2) (pa_cons (pv 3) pa_nil))) (pv 1) (by rfl)) (pw_or1 (pt_cmpR (op_inD hu) (pe_tup (pa_cons (pv 3) (pa_cons (pv 2) pa_nil))) (pv 1) (by rfl))))))
        (pss_one (ps_ret (pe_lst (pa_cons (pe_un un_neg pe_int) pa_nil)))) pss_nil)
      (pss_cons (ps_expr (pe_bm PySem.F.plainAttrs_list PySem.F.slot_list_append PySem.F.type_list_append mt_append (pv 1) (pa_cons (pe_tup (pa_cons (pv 2) (pa_cons (pv 3) pa_nil))) pa_nil)))
      (pss_one (ps_ret (pe_lst (pa_cons pe_int pa_nil)))))), ?_⟩
    have neg : ∀ (H1 : Hp), Same H H1 → ∀ z : Int, n.two ps i j = z → z < 0 → ∀ r, H1 r = none → Q (.ref r) (upd H1 r (.lst [V.int z])) := fun H1 s1 z hz hz0 r nr => by
      refine k1 (by omega) _ r (s1.trans (same_upd nr)) (s1.free nr) ?_
      unfold RI
      rw [upd_same, hz]
      rfl
    refine ⟨_, rfl, _, rfl, a, C, dx, _, _, rfl, hi, T.cl, T.nS, nF_s, st, _, rfl, .inl (SqL.of hs), _, _, rfl, rfl, _, rfl, ifD (fun c1 => ?_) (fun c1 => ?_)⟩
    · have c1 : n.count ≤ i := by omega
      refine ⟨_, rfl, by show 1 ≤ sizeLine; decide, fun r nr => neg H (Same.refl H) (-2) ?_ (by decide) r nr⟩
      unfold Night.two
      rw [if_pos (.inl c1)]
    · have c1 : ¬ n.count ≤ i := by omega
      refine ⟨_, rfl, _, rfl, a, C, dx, _, _, rfl, hi, T.cl, T.nS, nF_s, st, _, rfl, .inl (SqL.of hs), _, _, rfl, rfl, _, rfl, ifD (fun c2 => ?_) (fun c2 => ?_)⟩
      · have c2 : n.count ≤ j := by omega
        refine ⟨_, rfl, by show 1 ≤ sizeLine; decide, fun r nr => neg H (Same.refl H) (-2) ?_ (by decide) r nr⟩
        unfold Night.two
        rw [if_pos (.inr c2)]
      · have c2 : ¬ n.count ≤ j := by omega
        have e0 : n.two ps i j = if i = j ∨ ps.contains (i, j) = true ∨ ps.contains (j, i) = true then -4 else 0 := by
          unfold Night.two
          rw [if_neg (fun q => q.elim c1 c2)]
        refine ⟨_, rfl, _, rfl, rfl, _, rfl, ?_⟩
        rw [ci_eq]
        cases c3 : (i == j) with
        | true =>
          refine ifT rfl ⟨_, rfl, by show 1 ≤ sizeLine; decide, fun r nr => neg H (Same.refl H) (-4) ?_ (by decide) r nr⟩
          rw [e0, if_pos (.inl (beq_iff_eq.mp c3))]
        | false =>
          have n3 : ¬ i = j := beq_eq_false_iff_ne.mp c3
          refine ifF rfl ?_
          refine ⟨_, rfl, _, rfl, by show 2 ≤ sizeLine; decide, fun t nt => ?_⟩
          have s1 : Same H (upd H t (.tup [ci i, ci j])) := same_upd nt
          refine ⟨_, rfl, prd (i, j), ps.map prd, dp_pair (x := (i, j)) upd_same, dp_pairs (RL.mono (fun _ _ => R2n.mono s1) s1 hp), prd_shaped _, prds_shaped _, _, rfl, ?_⟩
          rw [prd_any]
          cases c4 : ps.contains (i, j) with
          | true =>
            refine ifT rfl ⟨_, rfl, by show 1 ≤ sizeLine; decide, fun r nr => neg _ s1 (-4) ?_ (by decide) r nr⟩
            rw [e0, if_pos (.inr (.inl c4))]
          | false =>
            refine ifF rfl ?_
            refine ⟨_, rfl, _, rfl, by show 2 ≤ sizeLine; decide, fun t2 nt2 => ?_⟩
            have s2 := s1.trans (same_upd nt2 (o := .tup [ci j, ci i]))
            refine ⟨_, rfl, prd (j, i), ps.map prd, dp_pair (x := (j, i)) upd_same, dp_pairs (RL.mono (fun _ _ => R2n.mono s2) s2 hp), prd_shaped _, prds_shaped _, _, rfl, ?_⟩
            rw [prd_any]
            cases c5 : ps.contains (j, i) with
            | true =>
              refine ifT rfl ⟨_, rfl, by show 1 ≤ sizeLine; decide, fun r nr => neg _ s2 (-4) ?_ (by decide) r nr⟩
              rw [e0, if_pos (.inr (.inr c5))]
            | false =>
              refine ifF rfl ?_
              have e1 : n.two ps i j = 0 := by
                rw [e0, if_neg (fun q => q.elim n3 (fun q => q.elim (fun q => by rw [c4] at q; cases q) (fun q => by rw [c5] at q; cases q)))]
              obtain ⟨as, ha, al⟩ := hp
              refine ⟨_, rfl, .inl ⟨rfl, _, SqL.of (s2 _ _ ha)⟩, _, rfl, _, rfl, by show 2 ≤ sizeLine; decide, fun t3 nt3 => ?_⟩
              have s3 := s2.trans (same_upd nt3 (o := .tup [ci i, ci j]))
              refine ⟨pr, _, _, rfl, rfl, s3 _ _ ha, by rw [List.length_map, al.1]; exact line_lt (by omega), ?_⟩
              refine ⟨by show 1 ≤ sizeLine; decide, fun r nr => ?_⟩
              have t3p : t3 ≠ pr := fun q => by rw [q, s2 _ _ ha] at nt3; cases nt3
              have prr : pr ≠ r := ne_of_none upd_same nr
              have nr2 := nr
              rw [upd_ne prr.symm] at nr2
              refine k2 (by rw [e1]; decide) _ r ⟨as ++ [t3], ?_, Al.snoc (al.mono fun b x q => ?_) ?_⟩ (fun b o hb hbp => ?_) (s3.free nr2) ?_
              · rw [upd_ne prr, upd_same, List.map_append]
                rfl
              · unfold R2n
                have q3 := s3 _ _ q
                rw [upd_ne (ne_of_none q3 nr2), upd_ne (ne_of q (show H pr = some (.lst (as.map V.ref)) from ha) (fun z => by cases z))]
                exact q3
              · unfold R2n
                rw [upd_ne (ne_of_none upd_same nr2), upd_ne t3p, upd_same]
              · have q3 := s3 _ _ hb
                rw [upd_ne (ne_of_none q3 nr2), upd_ne hbp]
                exact q3
              · unfold RI
                rw [upd_same]
                rfl
end
end SnowB
/-! ## part B7 -/
namespace SnowB
open PySem PySem.Spec PyProof.Rows L2
open SnowM (Time numbersOf iterP allPlans joinP oneP firstP Good)
open Si79 (parts Night)
theorem step_apart_no {n : Night} {i j : Nat} (h : n.two n.apart i j < 0) : Si79.step n (.apart i j) = (n, Si79.ok (n.two n.apart i j)) := if_pos h
theorem step_apart_yes {n : Night} {i j : Nat} (h : ¬ n.two n.apart i j < 0) : Si79.step n (.apart i j) = ({ n with apart := n.apart ++ [(i, j)] }, Si79.ok 0) := if_neg h
theorem step_tog_no {n : Night} {i j : Nat} (h : n.two n.together i j < 0) : Si79.step n (.together i j) = (n, Si79.ok (n.two n.together i j)) := if_pos h
theorem step_tog_yes {n : Night} {i j : Nat} (h : ¬ n.two n.together i j < 0) : Si79.step n (.together i j) = ({ n with together := n.together ++ [(i, j)] }, Si79.ok 0) := if_neg h
theorem metres_all (ns : List Nat) : (ns.map fun v => decide (1 ≤ v ∧ v ≤ 1000)).all id = ns.all fun v => decide (1 ≤ v) && decide (v ≤ Si79.FAST) := by
  rw [List.all_map]
  refine congrFun (congrArg List.all rfl) _ |>.trans ?_
  congr 1
  funext v
  show decide (1 ≤ v ∧ v ≤ 1000) = _
  rw [Bool.decide_and]
  rfl
section
variable {P : Program} {w : World} {K : PySem.W.Frag} {mg : Str → Option Value} {base : Heap} {C : Addr}
theorem scApart : FnScope ["self", "street", "other"] ["self", "street", "other"] (defScope sApart) := ⟨rfl, rfl, rfl, by decide +kernel, rfl, by decide +kernel, by decide +kernel⟩
theorem ok_apart {f : Addr} {fd : FuncData} (F : Fun K "tell_apart" "Night.tell_apart" sApart f fd) (T : Txt K mg C) (cT : CalM P w K mg base C "tell" 1 ["self", "pairs", "street", "other"] (spTell C)) : FnOk P w K mg base CX0 2 f fd ["self", "street", "other"] (spApart C) := by
  obtain ⟨fT, fdT, GT, mT, bT⟩ := cT
  refine F.ok scApart (fun vs H Q E h => ?_) (fun cdv A outer s H vs Q E hr h => ?_)
  · obtain ⟨a, pl, st, ap, tg, n, b, i, j, rfl, _⟩ := h
    rfl
  · obtain ⟨a, pl, st, ap, tg, n, b, i, j, rfl, N, g, hb, k⟩ := h
    refine ⟨_, pss_one (ps_ret (pe_meth (pv 0) T.cl mT GT hr bT .nil pass0 (pa_cons (pe_fld (pv 0) rfl) (pa_cons (pv 1) (pa_cons (pv 2) pa_nil))))), ?_⟩
    obtain ⟨dx, hi⟩ := N.ins
    refine ⟨_, rfl, a, dx, _, rfl, hi, nF_no (by decide +kernel) (by decide +kernel) (by decide +kernel) (by decide +kernel), _, rfl, a, C, dx, _, _, rfl, hi, T.cl, T.nA, nF_a, _, rfl, _, rfl, ?_⟩
    refine ⟨a, pl, st, ap, tg, ap, n, n.apart, i, j, rfl, N, N.x, Nat.le_trans g.al hb, fun h H' r s1 hr' hri => ?_, fun h H' r hl hk hr' hri => ?_⟩
    · exact post_same k N (by rw [step_apart_no h]) s1 hr' hri (by rw [step_apart_no h]; rfl)
    · refine k H' r pl st ap tg ?_ (fun b o hb _ _ h3 _ => hk b o hb h3) ⟨.inl rfl, .inl rfl, .inl rfl, .inl rfl⟩ hr' ?_
      · rw [step_apart_yes h]
        exact N.set_ap hk hl
      · rw [step_apart_yes h]
        exact hri
theorem scTog : FnScope ["self", "street", "other"] ["self", "street", "other"] (defScope sTog) := ⟨rfl, rfl, rfl, by decide +kernel, rfl, by decide +kernel, by decide +kernel⟩
theorem ok_tog {f : Addr} {fd : FuncData} (F : Fun K "tell_together" "Night.tell_together" sTog f fd) (T : Txt K mg C) (cT : CalM P w K mg base C "tell" 1 ["self", "pairs", "street", "other"] (spTell C)) : FnOk P w K mg base CX0 2 f fd ["self", "street", "other"] (spTog C) := by
  obtain ⟨fT, fdT, GT, mT, bT⟩ := cT
  refine F.ok scTog (fun vs H Q E h => ?_) (fun cdv A outer s H vs Q E hr h => ?_)
  · obtain ⟨a, pl, st, ap, tg, n, b, i, j, rfl, _⟩ := h
    rfl
  · obtain ⟨a, pl, st, ap, tg, n, b, i, j, rfl, N, g, hb, k⟩ := h
    refine ⟨_, pss_one (ps_ret (pe_meth (pv 0) T.cl mT GT hr bT .nil pass0 (pa_cons (pe_fld (pv 0) rfl) (pa_cons (pv 1) (pa_cons (pv 2) pa_nil))))), ?_⟩
    obtain ⟨dx, hi⟩ := N.ins
    refine ⟨_, rfl, a, dx, _, rfl, hi, nF_no (by decide +kernel) (by decide +kernel) (by decide +kernel) (by decide +kernel), _, rfl, a, C, dx, _, _, rfl, hi, T.cl, T.nT, nF_t, _, rfl, _, rfl, ?_⟩
    refine ⟨a, pl, st, ap, tg, tg, n, n.together, i, j, rfl, N, N.y, Nat.le_trans g.tl hb, fun h H' r s1 hr' hri => ?_, fun h H' r hl hk hr' hri => ?_⟩
    · exact post_same k N (by rw [step_tog_no h]) s1 hr' hri (by rw [step_tog_no h]; rfl)
    · refine k H' r pl st ap tg ?_ (fun b o hb _ _ _ h4 => hk b o hb h4) ⟨.inl rfl, .inl rfl, .inl rfl, .inl rfl⟩ hr' ?_
      · rw [step_tog_yes h]
        exact N.set_tg hk hl
      · rw [step_tog_yes h]
        exact hri
theorem scAdd : FnScope ["self", "metres", "hundredths", "number"] ["self", "metres", "hundredths"] (defScope sAdd) := ⟨rfl, rfl, rfl, by decide +kernel, rfl, by decide +kernel, by decide +kernel⟩
theorem ok_add {f : Addr} {fd : FuncData} (F : Fun K "add_street" "Night.add_street" sAdd f fd) (T : Txt K mg C) (cM : CalF P w K mg base "is_metres" 1 ["number"] spMetres) : FnOk P w K mg base CX0 2 f fd ["self", "metres", "hundredths"] (spAdd C) := by
  obtain ⟨fM, fdM, GM, mM, kM, bM⟩ := cM
  refine F.ok scAdd (fun vs H Q E h => ?_) (fun cdv A outer s H vs Q E hr h => ?_)
  · obtain ⟨a, pl, st, ap, tg, n, b, m, h, rfl, _⟩ := h
    rfl
  · obtain ⟨a, pl, st, ap, tg, n, b, m, h, rfl, N, g, k⟩ := h
    obtain ⟨tH, hH⟩ := T.mH
    obtain ⟨tS, hS⟩ := T.mS
    obtain ⟨dx, hi⟩ := N.ins
    obtain ⟨ss, hs, als⟩ := N.s
    have cnt : (ss.map V.ref).length = n.count := by rw [List.length_map]; exact als.1
    refine ⟨_, pss_cons (ps_if (PW.pt (pw_or (pt_not (pt_val (pe_call GM hr rfl mM kM bM .nil pass0 (pa_cons (pv 1) pa_nil)))) (pw_or1 (pt_cmpR op_gt (pv 2) (pe_glob (v := V.int 100) rfl hH ⟨_, rfl⟩) (nomark _)))))
        (pss_one (ps_ret (pe_lst (pa_cons (pe_un un_neg pe_int) pa_nil)))) pss_nil)
      (pss_cons (ps_if (pt_cmpR op_eq (pe_callB call_len_seq (by rfl) T.len PySem.boot_len (pa_cons (pe_fld (pv 0) rfl) pa_nil)) (pe_glob (v := V.int 4) rfl hS ⟨_, rfl⟩) (nomark _))
        (pss_one (ps_ret (pe_lst (pa_cons (pe_un un_neg pe_int) pa_nil)))) pss_nil)
      (pss_cons (ps_set (i := 3) scAdd.nd rfl (Or.inl rfl) (pe_callB call_len_seq (by rfl) T.len PySem.boot_len (pa_cons (pe_fld (pv 0) rfl) pa_nil)))
      (pss_cons (ps_expr (pe_bm PySem.F.plainAttrs_list PySem.F.slot_list_append PySem.F.type_list_append mt_append (pe_fld (pv 0) rfl) (pa_cons (pe_tup (pa_cons (pv 1) (pa_cons (pv 2) pa_nil))) pa_nil)))
      (pss_one (ps_ret (pe_lst (pa_cons (pv 3) pa_nil))))))), ?_⟩
    have bad : (m < 1 ∨ Si79.LONG < m ∨ 100 < h) → ∀ r, H r = none → Q (.ref r) (upd H r (.lst [V.int (-1)])) := fun c r nr => by
      have e : Si79.step n (.street ⟨m, h⟩) = (n, Si79.ok (-1)) := if_pos c
      exact post_same k N (by rw [e]) (same_upd nr) nr (zs := [-1]) (by unfold RI; rw [upd_same]; rfl) (by rw [e]; rfl)
    refine ⟨_, rfl, m, rfl, _, rfl, ?_⟩
    by_cases c1 : 1 ≤ m ∧ m ≤ 1000
    · rw [decide_eq_true c1]
      refine ifF rfl ?_
      refine ⟨_, rfl, _, _, rfl, rfl, _, rfl, ifD (fun c2 => ?_) (fun c2 => ?_)⟩
      · exact ⟨_, rfl, by show 1 ≤ sizeLine; decide, fun r nr => bad (.inr (.inr (by omega))) r nr⟩
      · have nb : ¬ (m < 1 ∨ Si79.LONG < m ∨ 100 < h) := by
          have e : Si79.LONG = 1000 := rfl
          omega
        refine ⟨_, rfl, a, C, dx, _, _, rfl, hi, T.cl, T.nS, nF_s, st, _, rfl, .inl (SqL.of hs), rfl, _, rfl, ifD (fun c3 => ?_) (fun c3 => ?_)⟩
        · have c3 := V.int.inj c3
          rw [cnt] at c3
          have e : Si79.step n (.street ⟨m, h⟩) = (n, Si79.ok (-5)) := by
            show (if _ then _ else if _ then _ else _) = _
            rw [if_neg nb, if_pos (show Si79.STREETS ≤ n.count from (show 4 ≤ n.count by omega))]
          exact ⟨_, rfl, by show 1 ≤ sizeLine; decide, fun r nr => post_same k N (by rw [e]) (same_upd nr) nr (zs := [-5]) (by unfold RI; rw [upd_same]; rfl) (by rw [e]; rfl)⟩
        · have c3 : ¬ (n.count = 4) := fun q => c3 (by rw [cnt, q]; rfl)
          have s4 : n.count ≤ 4 := g.s4
          have e : Si79.step n (.street ⟨m, h⟩) = ({ n with streets := n.streets ++ [⟨m, h⟩] }, Si79.ok ((n.count : Nat) : Int)) := by
            show (if _ then _ else if _ then _ else _) = _
            rw [if_neg nb, if_neg (show ¬ Si79.STREETS ≤ n.count from (show ¬ 4 ≤ n.count by omega))]
          refine ⟨_, rfl, a, C, dx, _, _, rfl, hi, T.cl, T.nS, nF_s, st, _, rfl, .inl (SqL.of hs), ?_⟩
          refine ⟨_, rfl, a, C, dx, _, _, rfl, hi, T.cl, T.nS, nF_s, .inl ⟨rfl, _, SqL.of hs⟩, _, rfl, _, rfl, by show 2 ≤ sizeLine; decide, fun t nt => ?_⟩
          have s1 : Same H (upd H t (.tup [ci m, ci h])) := same_upd nt
          refine ⟨st, _, _, rfl, rfl, s1 _ _ hs, by rw [cnt]; exact line_lt (by omega), ?_⟩
          refine ⟨_, rfl, by show 1 ≤ sizeLine; decide, fun r nr => ?_⟩
          have tst : t ≠ st := fun q => by rw [q, hs] at nt; cases nt
          have str : st ≠ r := ne_of_none upd_same nr
          have nr2 := nr
          rw [upd_ne str.symm] at nr2
          have kp : ∀ b o, H b = some o → b ≠ st → (upd (upd (upd H t (.tup [ci m, ci h])) st (.lst (ss.map V.ref ++ [.ref t]))) r (.lst [V.int ((ss.map V.ref).length : Int)])) b = some o := fun b o hb hbs => by
            have q := s1 _ _ hb
            rw [upd_ne (ne_of_none q nr2), upd_ne hbs]
            exact q
          refine k _ r pl st ap tg ?_ (fun b o hb _ h2 _ _ => kp b o hb h2) ⟨.inl rfl, .inl rfl, .inl rfl, .inl rfl⟩ (s1.free nr2) ?_
          · rw [e]
            refine N.set_st kp ⟨ss ++ [t], ?_, Al.snoc (als.mono fun b x q => kp _ _ q (ne_of q hs (fun z => by cases z))) ?_⟩
            · rw [upd_ne str, upd_same, List.map_append]
              rfl
            · unfold RSt
              rw [upd_ne (ne_of_none upd_same nr2), upd_ne tst, upd_same]
          · rw [e]
            unfold RI
            rw [upd_same, cnt]
            rfl
    · rw [decide_eq_false c1]
      refine ifT rfl ⟨_, rfl, by show 1 ≤ sizeLine; decide, fun r nr => bad ?_ r nr⟩
      have e : Si79.LONG = 1000 := rfl
      omega
theorem scBegin : FnScope ["self", "ploughs", "metres"] ["self", "ploughs"] (defScope sBegin) := ⟨rfl, rfl, rfl, by decide +kernel, rfl, by decide +kernel, by decide +kernel⟩
theorem ok_begin {f : Addr} {fd : FuncData} (F : Fun K "begin" "Night.begin" sBegin f fd) (T : Txt K mg C) (cM : CalF P w K mg base "is_metres" 1 ["number"] spMetres) : FnOk P w K mg base CX0 2 f fd ["self", "ploughs"] (spBegin C) := by
  obtain ⟨fM, fdM, GM, mM, kM, bM⟩ := cM
  refine F.ok scBegin (fun vs H Q E h => ?_) (fun cdv A outer s H vs Q E hr h => ?_)
  · obtain ⟨a, l, pl, st, ap, tg, n, ns, rfl, _⟩ := h
    rfl
  · obtain ⟨a, l, pl, st, ap, tg, n, ns, rfl, N, hl, hlen, k⟩ := h
    obtain ⟨tP, hP⟩ := T.mP
    obtain ⟨dx, hi⟩ := N.ins
    refine ⟨_, pss_cons (ps_if (pt_not (pt_chain op_le op_le pe_int (pe_callB call_len_seq (by rfl) T.len PySem.boot_len (pa_cons (pv 1) pa_nil)) (pe_glob (v := V.int 3) rfl hP ⟨_, rfl⟩)))
        (pss_one (ps_ret (pe_lst (pa_cons (pe_un un_neg pe_int) pa_nil)))) pss_nil)
      (pss_cons (ps_if (pt_not (pt_val (pe_callB (cr_all rfl) (by rfl) T.all (by decide +kernel) (pa_cons (pe_lc (own := [("metres", 2)]) (g := gName 2) (te := tCall spMetres [] E0 (tCons (tVar 2) tNil)) rfl scBegin.nd (pi_list (pv 1))
          (blkOk_by (own := [("metres", 2)]) (N := ["self", "ploughs", "metres"]) (sc := defScope sBegin) (by decide +kernel))
          (fun _ _ _ _ _ => pg_name (i := 2) scBegin.nd rfl (Or.inl rfl)) (fun _ _ _ _ _ => pts_nil)
          (fun _ _ _ _ _ => pe_call GM hr rfl mM kM bM .nil pass0 (pa_cons (pv 2) pa_nil))) pa_nil))))
        (pss_one (ps_ret (pe_lst (pa_cons (pe_un un_neg pe_int) pa_nil)))) pss_nil)
      (pss_cons (ps_fld (pv 0) (pe_callTy call_list_of (by rfl) T.list (by decide +kernel) (pa_cons (pv 1) pa_nil)) rfl)
      (pss_cons (ps_fld (pv 0) (pe_lst pa_nil) rfl) (pss_cons (ps_fld (pv 0) (pe_lst pa_nil) rfl) (pss_cons (ps_fld (pv 0) (pe_lst pa_nil) rfl)
      (pss_one (ps_ret (pe_lst (pa_cons pe_int pa_nil))))))))), ?_⟩
    have bad : (ns.length < 1 ∨ Si79.PLOUGHS < ns.length ∨ (ns.all fun v => decide (1 ≤ v) && decide (v ≤ Si79.FAST)) = false) → ∀ (H1 : Hp), Same H H1 → ∀ r, H1 r = none → Q (.ref r) (upd H1 r (.lst [V.int (-1)])) := fun c H1 s1 r nr => by
      have e : Si79.step n (.begins ns) = (n, Si79.ok (-1)) := if_pos c
      exact post_same k N (by rw [e]) (s1.trans (same_upd nr)) (s1.free nr) (zs := [-1]) (by unfold RI; rw [upd_same]; rfl) (by rw [e]; rfl)
    have eP : Si79.PLOUGHS = 3 := rfl
    refine ⟨_, rfl, l, _, rfl, .inl (SqL.of hl), _, _, rfl, rfl, _, rfl, ?_⟩
    rw [vi_len]
    refine ifD (fun c1 => ?_) (fun c1 => ?_)
    rotate_left
    · refine ⟨_, rfl, ifT rfl ⟨_, rfl, by show 1 ≤ sizeLine; decide, fun r nr => bad (.inl (by omega)) H (Same.refl H) r nr⟩⟩
    refine ⟨_, _, rfl, rfl, _, rfl, ?_⟩
    by_cases c2 : ns.length ≤ 3
    rotate_left
    · rw [decide_eq_false (show ¬ ((ns.length : Nat) : Int) ≤ 3 by omega)]
      exact ifT rfl ⟨_, rfl, by show 1 ≤ sizeLine; decide, fun r nr => bad (.inr (.inl (by omega))) H (Same.refl H) r nr⟩
    rw [decide_eq_true (show ((ns.length : Nat) : Int) ≤ 3 by omega)]
    refine ifF rfl ?_
    refine ⟨_, rfl, l, rfl, ⟨_, SqL.of hl⟩, fun D nD => ?_⟩
    have s0 : Same H (upd H D (.lst [])) := same_upd nD
    refine lc_list (K := K) (a := l) (xs := vi ns) (fun m H' => Same H H' ∧ H' D = some (.lst (((ns.take m).map fun v => decide (1 ≤ v ∧ v ≤ 1000)).map V.bl))) ⟨s0, upd_same⟩ (fun m H' _ h => SqL.of (h.1 _ _ hl)) ?_ ?_
    · rintro m x H1 hx ⟨s1, hD⟩
      obtain ⟨v, hv, rfl⟩ := vi_get hx
      refine ⟨rfl, ?_⟩
      refine ⟨_, rfl, v, rfl, _, hD, ?_, same_upd2 s1 nD, ?_⟩
      · rw [List.length_map, List.length_map, List.length_take]
        exact line_lt (by omega)
      · rw [upd_same, take_more hv, List.map_append, List.map_append]
        rfl
    · rintro H1 ⟨s1, hD⟩
      rw [vi_len, List.take_length] at hD
      refine ⟨D, _, rfl, SqL.of hD, _, rfl, ?_⟩
      rw [metres_all]
      cases c3 : (ns.all fun v => decide (1 ≤ v) && decide (v ≤ Si79.FAST)) with
      | false => exact ifT rfl ⟨_, rfl, by show 1 ≤ sizeLine; decide, fun r nr => bad (.inr (.inr c3)) H1 s1 r nr⟩
      | true =>
        refine ifF rfl ?_
        have e : Si79.step n (.begins ns) = (⟨ns, [], [], []⟩, Si79.ok 0) := if_neg (fun q => q.elim (fun q => by omega) (fun q => q.elim (fun q => by omega) (fun q => by rw [c3] at q; cases q)))
        have hi1 := s1 _ _ hi
        refine ⟨_, rfl, l, _, rfl, .inl (SqL.of (s1 _ _ hl)), fun p1 n1 => ?_⟩
        have f1 : H p1 = none := s1.free n1
        have x1 : a ≠ p1 := ne_of_none hi1 n1
        refine ⟨_, rfl, a, C, dx, _, rfl, by rw [upd_ne x1]; exact hi1, T.cl, T.nP, by show 4 < 1000; decide, ?_⟩
        refine ⟨Nat.zero_le _, fun p2 n2 => ?_⟩
        have x2 : a ≠ p2 := ne_of_none upd_same n2
        rw [upd_ne x2.symm] at n2
        have p12 : p1 ≠ p2 := ne_of_none upd_same n2
        rw [upd_ne p12.symm] at n2
        refine ⟨_, rfl, a, C, dx, _, rfl, by rw [upd_ne x2, upd_same], T.cl, T.nS, by show 4 < 1000; decide, ?_⟩
        refine ⟨Nat.zero_le _, fun p3 n3 => ?_⟩
        have x3 : a ≠ p3 := ne_of_none upd_same n3
        rw [upd_ne x3.symm] at n3
        have p23 : p2 ≠ p3 := ne_of_none upd_same n3
        rw [upd_ne p23.symm, upd_ne x3.symm] at n3
        have p13 : p1 ≠ p3 := ne_of_none upd_same n3
        rw [upd_ne p13.symm] at n3
        refine ⟨_, rfl, a, C, dx, _, rfl, by rw [upd_ne x3, upd_same], T.cl, T.nA, by show 4 < 1000; decide, ?_⟩
        refine ⟨Nat.zero_le _, fun p4 n4 => ?_⟩
        have x4 : a ≠ p4 := ne_of_none upd_same n4
        rw [upd_ne x4.symm] at n4
        have p34 : p3 ≠ p4 := ne_of_none upd_same n4
        rw [upd_ne p34.symm, upd_ne x4.symm] at n4
        have p24 : p2 ≠ p4 := ne_of_none upd_same n4
        rw [upd_ne p24.symm, upd_ne x4.symm] at n4
        have p14 : p1 ≠ p4 := ne_of_none upd_same n4
        rw [upd_ne p14.symm] at n4
        refine ⟨_, rfl, a, C, dx, _, rfl, by rw [upd_ne x4, upd_same], T.cl, T.nT, by show 4 < 1000; decide, ?_⟩
        refine ⟨by show 1 ≤ sizeLine; decide, fun r nr => ?_⟩
        have xr : a ≠ r := ne_of_none upd_same nr
        rw [upd_ne xr.symm] at nr
        have p4r : p4 ≠ r := ne_of_none upd_same nr
        rw [upd_ne p4r.symm, upd_ne xr.symm] at nr
        have p3r : p3 ≠ r := ne_of_none upd_same nr
        rw [upd_ne p3r.symm, upd_ne xr.symm] at nr
        have p2r : p2 ≠ r := ne_of_none upd_same nr
        rw [upd_ne p2r.symm, upd_ne xr.symm] at nr
        have p1r : p1 ≠ r := ne_of_none upd_same nr
        rw [upd_ne p1r.symm] at nr
        refine k _ r p1 p2 p3 p4 ?_ (fun b o hb hba _ _ _ => ?_) ⟨.inr f1, .inr (s1.free n2), .inr (s1.free n3), .inr (s1.free n4)⟩ (s1.free nr) ?_
        · rw [e]
          refine ⟨⟨dx, ?_⟩, ?_, al_nil ?_, al_nil ?_, al_nil ?_, p12, p13, p14, p23, p24, p34⟩
          · rw [upd_ne xr, upd_same, nF_put]
            rfl
          · unfold RN
            rw [upd_ne p1r, upd_ne x1.symm, upd_ne p14, upd_ne x1.symm, upd_ne p13, upd_ne x1.symm, upd_ne p12, upd_ne x1.symm, upd_same]
          · rw [upd_ne p2r, upd_ne x2.symm, upd_ne p24, upd_ne x2.symm, upd_ne p23, upd_ne x2.symm, upd_same]
          · rw [upd_ne p3r, upd_ne x3.symm, upd_ne p34, upd_ne x3.symm, upd_same]
          · rw [upd_ne p4r, upd_ne x4.symm, upd_same]
        · have q := s1 _ _ hb
          rw [upd_ne (ne_of_none q nr), upd_ne hba, upd_ne (ne_of_none q n4), upd_ne hba, upd_ne (ne_of_none q n3), upd_ne hba, upd_ne (ne_of_none q n2), upd_ne hba, upd_ne (ne_of_none q n1)]
          exact q
        · rw [e]
          unfold RI
          rw [upd_same]
          rfl
end
end SnowB
/-! ## part B8 -/
namespace SnowB
open PySem PySem.Spec PyProof.Rows L2
open SnowM (Time numbersOf iterP allPlans joinP oneP firstP Good whyNot timesV possible)
open Si79 (parts Night)
def spWhy (C : Addr) : Sp := fun vs H Q _ => ∃ (a b pl st ap tg : Addr) (n : Night) (sh : List (List Nat)), vs = [.ref a, .ref b] ∧ NightAt C H a n pl st ap tg ∧ RSh H b sh ∧ sh.length ≤ 1000 ∧ ∀ (H' : Hp) (q : Addr), Same H H' → H q = none → RI H' q (whyNot n sh) → Q (.ref q) H'
/-- rows that can be driven: the ploughs' speeds, the streets' numbers -/
structure ShOk (n : Night) (sh : List (List Nat)) (vs : List Nat) : Prop where
  len : sh.length = vs.length
  few : vs.length ≤ 1000
  sp : ∀ v ∈ vs, 1 ≤ v ∧ v ≤ 1000
  each : ∀ s ∈ sh, s.length ≤ 8 ∧ ∀ i ∈ s, i < n.count
def spTimes (C : Addr) : Sp := fun vs H Q _ => ∃ (a b c pl st ap tg : Addr) (n : Night) (k : Nat) (sh : List (List Nat)) (us : List Nat), vs = [.ref a, .ref b, .ref c] ∧ NightAt C H a n pl st ap tg ∧ Good n k ∧ RSh H b sh ∧ RN H c us ∧ ShOk n sh us ∧
  ∀ (H' : Hp) (q : Addr), Same H H' → H q = none → RL RTm H' q (timesV n sh us) → Q (.ref q) H'
theorem done_ok {n : Night} {k : Nat} (g : Good n k) {v : Nat} (hv : 1 ≤ v ∧ v ≤ 1000) {s : List Nat} (hs : s.length ≤ 8 ∧ ∀ i ∈ s, i < n.count) : TmOk (n.done v s) := by
  have b : ∀ x ∈ s.map n.street, x.metres ≤ 1000 ∧ x.grows ≤ 100 := fun x hx => by
    obtain ⟨i, hi, rfl⟩ := List.mem_map.mp hx
    exact ⟨(SnowM.street_ok g (hs.2 i hi)).2.1, (SnowM.street_ok g (hs.2 i hi)).2.2⟩
  obtain ⟨r1, r2⟩ := raw_bnd hv.2 b (by rw [List.length_map]; exact hs.1)
  have le : (2 : Nat) ^ 180 ≤ 2 ^ 200 := Nat.pow_le_pow_right (by decide) (by decide)
  refine ⟨SnowM.done_tm n hv.1 s, ?_, ?_⟩
  · rw [SnowM.done_raw n hv.1]
    unfold Bnd
    have := (SnowM.low_le (SnowM.rawF v (0, 1) (s.map n.street)).1 (SnowM.rawF_pos hv.1 (s.map n.street) (p := (0, 1)) (by decide))).1
    omega
  · rw [SnowM.done_raw n hv.1]
    unfold Bnd
    have := (SnowM.low_le (SnowM.rawF v (0, 1) (s.map n.street)).1 (SnowM.rawF_pos hv.1 (s.map n.street) (p := (0, 1)) (by decide))).2
    omega
theorem zip_get {α β : Type} {xs : List α} {ys : List β} {i : Nat} {x : α} {y : β} (hx : xs[i]? = some x) (hy : ys[i]? = some y) : (xs.zip ys)[i]? = some (x, y) := by
  obtain ⟨h1, e1⟩ := List.getElem?_eq_some_iff.mp hx
  obtain ⟨h2, e2⟩ := List.getElem?_eq_some_iff.mp hy
  rw [List.getElem?_eq_getElem (by rw [List.length_zip]; omega), List.getElem_zip, e1, e2]
theorem times_get {n : Night} {sh : List (List Nat)} {us : List Nat} {i : Nat} {s : List Nat} {v : Nat} (hs : sh[i]? = some s) (hv : us[i]? = some v) : (timesV n sh us)[i]? = some (n.done v s) := by
  unfold timesV
  rw [List.getElem?_map, zip_get hs hv]
  rfl
theorem times_len {n : Night} {sh : List (List Nat)} {us : List Nat} (h : sh.length = us.length) : (timesV n sh us).length = us.length := by
  unfold timesV
  rw [List.length_map, List.length_zip]
  omega
theorem times_ok {n : Night} {k : Nat} (g : Good n k) {sh : List (List Nat)} {us : List Nat} (h : ShOk n sh us) : ∀ t ∈ timesV n sh us, TmOk t := fun t ht => by
  obtain ⟨⟨s, v⟩, hx, rfl⟩ := List.mem_map.mp ht
  have m := List.of_mem_zip hx
  exact done_ok g (h.sp v m.2) (h.each s m.1)
section
variable {P : Program} {w : World} {K : PySem.W.Frag} {mg : Str → Option Value} {base : Heap} {C : Addr}
theorem scWhy : FnScope ["self", "shares", "found"] ["self", "shares"] (defScope sWhy) := ⟨rfl, rfl, rfl, by decide +kernel, rfl, by decide +kernel, by decide +kernel⟩
theorem ok_why {f : Addr} {fd : FuncData} (F : Fun K "why_not" "Night.why_not" sWhy f fd) (T : Txt K mg C) (cF : CalF P w K mg base "first_pair" 2 ["pairs", "shares", "wanted"] spFirst) : FnOk P w K mg base CX0 3 f fd ["self", "shares"] (spWhy C) := by
  obtain ⟨fF, fdF, GF, mF, kF, bF⟩ := cF
  refine F.ok scWhy (fun vs H Q E h => ?_) (fun cdv A outer s H vs Q E hr h => ?_)
  · obtain ⟨a, b, pl, st, ap, tg, n, sh, rfl, _⟩ := h
    rfl
  · obtain ⟨a, b, pl, st, ap, tg, n, sh, rfl, N, hsh, hl, k⟩ := h
    obtain ⟨dx, hi⟩ := N.ins
    refine ⟨_, pss_cons (ps_set (i := 2) scWhy.nd rfl (Or.inl rfl) (pe_call GF hr rfl mF kF bF .nil pass0 (pa_cons (pe_fld (pv 0) rfl) (pa_cons (pv 1) (pa_cons pe_bl pa_nil)))))
      (pss_cons (ps_if (pt_truth (pv 2) (by intro _; rfl)) (pss_one (ps_ret (pe_op op_cat (pe_lst (pa_cons (pe_un un_neg pe_int) pa_nil)) (pv 2)))) pss_nil)
      (pss_cons (ps_set (i := 2) scWhy.nd rfl (Or.inl rfl) (pe_call GF hr rfl mF kF bF .nil pass0 (pa_cons (pe_fld (pv 0) rfl) (pa_cons (pv 1) (pa_cons pe_bl pa_nil)))))
      (pss_cons (ps_if (pt_truth (pv 2) (by intro _; rfl)) (pss_one (ps_ret (pe_op op_cat (pe_lst (pa_cons (pe_un un_neg pe_int) pa_nil)) (pv 2)))) pss_nil)
      (pss_one (ps_ret (pe_lst pa_nil)))))), ?_⟩
    have fin : ∀ (H1 : Hp) (q : Addr) (z : Int) (x : Nat) (r : List Nat), Same H H1 → H1 q = some (.lst (vi (x :: r))) → r.length ≤ 1000 → whyNot n sh = z :: Si79.ints (x :: r) → ∀ d, H1 d = none →
        ∃ l b xs zs, V.ref d = .ref l ∧ V.ref q = .ref b ∧ (upd H1 d (.lst [V.int z])) l = some (.lst xs) ∧ (upd H1 d (.lst [V.int z])) b = some (.lst zs) ∧ xs.length + zs.length ≤ sizeLine ∧ ∀ p, (upd H1 d (.lst [V.int z])) p = none → Q (.ref p) (upd (upd H1 d (.lst [V.int z])) p (.lst (xs ++ zs))) :=
      fun H1 q z x r s1 hq hr1 e d nd => by
        refine ⟨d, q, _, _, rfl, rfl, upd_same, by rw [upd_ne (ne_of_none hq nd)]; exact hq, ?_, fun p np => ?_⟩
        · rw [vi_len]
          refine line_le ?_
          show 1 + (r.length + 1) ≤ _
          omega
        · have s2 := (s1.trans (same_upd nd (o := .lst [V.int z])))
          refine k _ p (s2.trans (same_upd np)) (s2.free np) ?_
          unfold RI
          rw [upd_same, e, List.map_cons]
          rw [vi_ints]
          rfl
    have two : ∀ ps u, (firstP ps sh u).length ≤ 2 := fun ps u => by
      unfold firstP
      split <;> simp
    refine ⟨_, rfl, a, C, dx, _, _, rfl, hi, T.cl, T.nA, nF_a, _, rfl, ?_⟩
    refine ⟨ap, b, n.apart, sh, true, rfl, N.x, hsh, hl, fun H1 q s1 nq hq => ?_⟩
    refine ⟨_, rfl, _, .inl ⟨_, SqL.of hq, rfl⟩, ?_⟩
    have t1 := two n.apart true
    cases c1 : firstP n.apart sh true with
    | cons x r =>
      rw [c1] at hq t1
      refine ifT rfl ⟨_, rfl, by show 1 ≤ sizeLine; decide, fun d nd => ⟨_, rfl, fin H1 q (-6) x r s1 hq (by simp at t1; omega) ?_ d nd⟩⟩
      unfold whyNot
      rw [if_pos (by rw [c1]; simp), c1]
    | nil =>
      refine ifF rfl ?_
      refine ⟨_, rfl, a, C, dx, _, _, rfl, s1 _ _ hi, T.cl, T.nT, nF_t, _, rfl, ?_⟩
      refine ⟨tg, b, n.together, sh, false, rfl, (N.mono s1).y, RSh.mono s1 hsh, hl, fun H2 q2 s2 nq2 hq2 => ?_⟩
      refine ⟨_, rfl, _, .inl ⟨_, SqL.of hq2, rfl⟩, ?_⟩
      have t2 := two n.together false
      cases c2 : firstP n.together sh false with
      | cons x r =>
        rw [c2] at hq2 t2
        refine ifT rfl ⟨_, rfl, by show 1 ≤ sizeLine; decide, fun d nd => ⟨_, rfl, fin H2 q2 (-7) x r (s1.trans s2) hq2 (by simp at t2; omega) ?_ d nd⟩⟩
        unfold whyNot
        rw [if_neg (by rw [c1]; simp), if_pos (by rw [c2]; simp), c2]
      | nil =>
        refine ifF rfl ⟨Nat.zero_le _, fun d nd => ?_⟩
        refine k _ d ((s1.trans s2).trans (same_upd nd)) ((s1.trans s2).free nd) ?_
        unfold RI whyNot
        rw [upd_same, if_neg (by rw [c1]; simp), if_neg (by rw [c2]; simp)]
        rfl
theorem scTimes : FnScope ["self", "shares", "ploughs", "found", "share", "speed", "street"] ["self", "shares", "ploughs"] (defScope sTimes) := ⟨rfl, rfl, rfl, by decide +kernel, rfl, by decide +kernel, by decide +kernel⟩
theorem ok_times {f : Addr} {fd : FuncData} (F : Fun K "times" "Night.times" sTimes f fd) (T : Txt K mg C) (cD : CalF P w K mg base "when_done" 2 ["streets", "speed"] spDone) : FnOk P w K mg base CX0 3 f fd ["self", "shares", "ploughs"] (spTimes C) := by
  obtain ⟨fD, fdD, GD, mD, kD, bD⟩ := cD
  refine F.ok scTimes (fun vs H Q E h => ?_) (fun cdv A outer s H vs Q E hr h => ?_)
  · obtain ⟨a, b, c, pl, st, ap, tg, n, k, sh, us, rfl, _⟩ := h
    rfl
  · obtain ⟨a, b, c, pl, st, ap, tg, n, kk, sh, us, rfl, N, g, ⟨as, hb, al⟩, hc, ok, k⟩ := h
    obtain ⟨dx, hi⟩ := N.ins
    obtain ⟨ss, hss, als⟩ := N.s
    refine ⟨_, pss_cons (ps_set (i := 3) scTimes.nd rfl (Or.inl rfl) (pe_lst pa_nil))
      (pss_cons (ps_for PassesOwn.never rfl (pi_zip (by rfl) T.zip (pa_cons (pv 1) (pa_cons (pv 2) pa_nil))) (pg_tup rfl (pgs_cons (pg_name (i := 4) scTimes.nd rfl (Or.inl rfl)) (pgs_cons (pg_name (i := 5) scTimes.nd rfl (Or.inl rfl)) pgs_nil)))
        (pss_one (ps_expr (pe_bm PySem.F.plainAttrs_list PySem.F.slot_list_append PySem.F.type_list_append mt_append (pv 3) (pa_cons (pe_call GD hr rfl mD kD bD .nil pass0 (pa_cons
          (pe_lc (own := [("street", 6)]) (g := gName 6) (te := tOp (rIxL K) (tFld K (tVar 0) "streets") (tVar 6)) rfl scTimes.nd (pi_list (pv 4))
            (blkOk_by (own := [("street", 6)]) (N := ["self", "shares", "ploughs", "found", "share", "speed", "street"]) (sc := defScope sTimes) (by decide +kernel))
            (fun _ _ _ _ _ => pg_name (i := 6) scTimes.nd rfl (Or.inl rfl)) (fun _ _ _ _ _ => pts_nil)
            (fun _ _ _ _ _ => pe_ix ix_list (pe_fld (pv 0) rfl) (pv 6) (fun _ _ => rfl))) (pa_cons (pv 5) pa_nil))) pa_nil)))))
      (pss_one (ps_ret (pv 3)))), ?_⟩
    refine ⟨Nat.zero_le _, fun D nD => ?_⟩
    have s0 : Same H (upd H D (.lst [])) := same_upd nD
    have hbl : (as.map V.ref).length = (vi us).length := by rw [List.length_map, vi_len, al.1, ok.len]
    refine ⟨.ref b, rfl, .ref c, rfl, b, c, _, _, rfl, SqL.of (s0 _ _ hb), SqL.of (s0 _ _ hc), RZ.for_zipL (K := K) (a := b) (b := c) (xs := as.map V.ref) (ys := vi us) hbl (fun i σ H' => ∃ (ts : List Addr) (v4 v5 v6 : Option V), σ = [some (.ref a), some (.ref b), some (.ref c), some (.ref D), v4, v5, v6] ∧ Same H H' ∧ H' D = some (.lst (ts.map V.ref)) ∧ Al (RTm H') ts ((timesV n sh us).take i))
      ⟨[], none, none, none, rfl, s0, upd_same, Al.nil⟩ (fun i σ H' ⟨_, _, _, _, _, s1, _⟩ => ⟨SqL.of (s1 _ _ hb), SqL.of (s1 _ _ hc)⟩) ?_ ?_⟩
    · rintro i x y Tp σ H1 hx hy ⟨ts, v4, v5, v6, rfl, s1, hD, alt⟩ nT
      obtain ⟨e, he, rfl⟩ := refs_get hx
      obtain ⟨share, hs, rs⟩ := al.get he
      obtain ⟨v, hv, rfl⟩ := vi_get hy
      have hv2 := ok.sp v (List.mem_of_getElem? hv)
      have hs2 := ok.each share (List.mem_of_getElem? hs)
      have sT : Same H1 (upd H1 Tp (.tup [.ref e, ci v])) := same_upd nT
      have s2 := s1.trans sT
      generalize hH2 : upd H1 Tp (.tup [.ref e, ci v]) = H2 at *
      have hT2 : H2 Tp = some (.tup [.ref e, ci v]) := by rw [← hH2, upd_same]
      refine ⟨Tp, _, rfl, SqT.of hT2, rfl, _, _, rfl, _, _, rfl, rfl, ?_⟩
      refine ⟨_, rfl, .inl ⟨rfl, _, SqL.of (sT _ _ hD)⟩, ?_⟩
      refine ⟨_, rfl, e, rfl, ⟨_, SqL.of (s2 _ _ rs)⟩, fun E2 nE => ?_⟩
      have sE : Same H2 (upd H2 E2 (.lst [])) := same_upd nE
      refine lc_list (K := K) (a := e) (xs := vi share) (fun m H' => Same H2 H' ∧ ∃ ws : List Addr, H' E2 = some (.lst (ws.map V.ref)) ∧ Al (RSt H2) ws ((share.take m).map n.street)) ⟨sE, [], upd_same, Al.nil⟩ (fun m H' _ h => SqL.of (h.1 _ _ (s2 _ _ rs))) ?_ ?_
      · rintro m x H3 hx ⟨s3, ws, hE, alw⟩
        obtain ⟨j, hj, rfl⟩ := vi_get hx
        have hjc : j < n.count := hs2.2 j (List.mem_of_getElem? hj)
        have hst : n.streets[j]? = some (n.street j) := by
          rw [SnowM.street_get n hjc]
          exact List.getElem?_eq_getElem hjc
        obtain ⟨u, hu, ru⟩ := als.get2 hst
        have hm : m < 8 := by
          have := (List.getElem?_eq_some_iff.mp hj).1
          omega
        refine ⟨rfl, ?_⟩
        refine ⟨_, rfl, a, C, dx, _, _, rfl, s3 _ _ (s2 _ _ hi), T.cl, T.nS, nF_s, _, rfl, st, _, _, _, rfl, rfl, SqL.of (s3 _ _ (s2 _ _ hss)), atI_nat (refs_at hu), _, hE, ?_, same_upd2 s3 nE, ws ++ [u], ?_, ?_⟩
        · rw [List.length_map, alw.1, List.length_map, List.length_take]
          exact line_lt (by omega)
        · rw [upd_same, List.map_append]
          rfl
        · rw [take_more hj, List.map_append]
          exact Al.snoc alw (s2 _ _ ru)
      · rintro H3 ⟨s3, ws, hE, alw⟩
        rw [vi_len, List.take_length] at alw
        refine ⟨_, rfl, E2, share.map n.street, v, rfl, ⟨ws, hE, alw.mono fun b x r => RSt.mono s3 r⟩, hv2, fun x hx => ?_, by rw [List.length_map]; exact hs2.1, fun p np => ?_⟩
        · obtain ⟨i, hi, rfl⟩ := List.mem_map.mp hx
          exact ⟨(SnowM.street_ok g (hs2.2 i hi)).2.1, (SnowM.street_ok g (hs2.2 i hi)).2.2⟩
        · have s4 : Same H1 H3 := sT.trans s3
          have hD3 := s4 _ _ hD
          have npD : D ≠ p := ne_of_none hD3 np
          have lt : ts.length = min i (timesV n sh us).length := by rw [alt.1, List.length_take]
          have hi1000 : i < 1000 := by
            have := (List.getElem?_eq_some_iff.mp hv).1
            have := ok.few
            omega
          have sp : Same H3 (upd H3 p (tmO (Si75.lowest (SnowM.rawF v (0, 1) (share.map n.street)).1 (SnowM.rawF v (0, 1) (share.map n.street)).2))) := same_upd np
          refine ⟨D, _, _, rfl, rfl, sp _ _ hD3, by rw [List.length_map]; exact line_lt (by omega), ?_⟩
          refine ⟨ts ++ [p], some (.ref e), some (ci v), _, rfl, same_upd2 ((s1.trans s4).trans sp) nD, ?_, ?_⟩
          · rw [upd_same, List.map_append]
            rfl
          · rw [take_more (times_get hs hv)]
            refine Al.snoc (alt.mono fun b x r => ?_) ?_
            · unfold RTm tmO at *
              exact upd_tup (sp _ _ hD3) (sp _ _ (s4 _ _ r))
            · unfold RTm tmO
              rw [upd_ne npD.symm, upd_same, SnowM.done_raw n hv2.1]
    · rintro σ H1 ⟨ts, v4, v5, v6, rfl, s1, hD, alt⟩
      rw [List.take_of_length_le (by rw [times_len ok.len, List.length_map, al.1, ok.len]; exact Nat.le_refl _)] at alt
      exact ⟨_, rfl, k H1 D s1 nD ⟨ts, hD, alt⟩⟩
end
end SnowB
/-! ## part B9t -/
namespace SnowB
open PySem PySem.Spec PyProof.Rows L2
section
open PySem.AutoSeq1
/-- a list is made longer by a tuple, whatever else the tuple's object holds -/
theorem extend_tuple (l t : Addr) (xs ys : Array Value) (nx ny : Nat) (own : Option Addr) (sl : Array (Option Value)) (h0 : ¬ (!xs.isEmpty && Builtin.List.listTooLong (xs.size + ys.size)) = true) (h1 : xs.size ≤ sizeLine)
    (h2 : xs.size + ys.size ≤ sizeLine + 1) :
    Meets (Builtin.«list.extend» ⟨[.ref l, .ref t], []⟩) fun _ R s =>
      s.heap.get? l = some { cls := .type "list", dict := none, data := .seq xs nx, slots := #[] } ∧
      s.heap.get? t = some { cls := .type "tuple", dict := own, data := .seq ys ny, slots := sl } ∧
      R (.ok (.ret Value.none)) { s with heap := s.heap.update l (Obj.mapSeq fun z => z ++ ys), toks := s.toks } :=
  .of_wp fun prog w A R s h => by
    obtain ⟨hp, g, d, tk, os⟩ := s
    obtain ⟨hl, ht, h⟩ := h
    have f1 := idx_int
    have f2 := AutoSeq1.sub_tuple_tuple
    have f3 := AutoSeq1.sub_list_list
    have f4 := AutoSeq1.sub_tuple_list
    have f5 := AutoSeq1.sub_list_tuple
    have hz' : (xs ++ ys).size ≤ sizeLine + 1 := by
      rw [Array.size_append]
      exact h2
    wp_walk using (wpAny_updateSeq hl rfl (hz := h1) (_hz' := hz')), wpAny_loadPart' hl, wpAny_loadPart' ht
    exact ⟨_, rfl, h⟩
end
def rExtT : V → List V → Hp → VK → Prop := fun x vs H Q => ∃ (l b : Addr) (xs zs : List V), x = .ref l ∧ vs = [.ref b] ∧ H l = some (.lst xs) ∧ H b = some (.tup zs) ∧ xs.length + zs.length ≤ sizeLine ∧ Q .non (upd H l (.lst (xs ++ zs)))
theorem mt_extT {X : Cx} : MtM X "list.extend" rExtT := fun pins s σ H x vs v us Q I rx rv h => by
  obtain ⟨l, b, xs, zs, rfl, rfl, hH, hB, hz, q⟩ := h
  cases rx
  obtain ⟨u, rfl, ru⟩ := rv.one
  cases ru
  obtain ⟨_, its, n, r, hl, e⟩ := I.lstM hH
  obtain ⟨its2, r2, pt, _⟩ := I.tuple (SqT.of hB)
  obtain ⟨⟨cls, own, data, sl⟩, ho, hc, n2, hd⟩ := pt
  simp only at hc hd
  subst hc hd
  have l2 := r2.length
  have hs : its.toArray.size + its2.toArray.size ≤ sizeLine := by
    rw [List.size_toArray, List.size_toArray]
    omega
  have long : ¬ (!its.toArray.isEmpty && Builtin.List.listTooLong (its.toArray.size + its2.toArray.size)) = true := by
    rw [notLongL hs, Bool.and_false]
    simp
  refine call_meets F.slot_list_extend ⟨_, e, rfl⟩ F.entry_list_extend (F.args_list_extend_2 _ _) (extend_tuple l b its.toArray its2.toArray n n2 own sl long (by omega) (by omega)) ⟨e, ho, ?_⟩
  exact ⟨.non, _, I.lset (its' := its ++ its2) hH e (by simp) (r.append r2) (by rw [List.length_append]; exact hz), rfl, q⟩
end SnowB
/-! ## part B9 -/
namespace SnowB
open PySem PySem.Spec PyProof.Rows L2
open SnowM (Time numbersOf iterP allPlans joinP oneP firstP Good whyNot timesV possible Pl)
open Si79 (parts Night)
/-! ### rows of numbers as data -/
def idd (zs : List Int) : PyData := .list (zs.map PyData.int)
theorem idd_all : ∀ zs us : List Int, PyData.eqvAll (zs.map PyData.int) (us.map PyData.int) = decide (zs = us)
  | [], [] => by simp [PyData.eqvAll]
  | [], _ :: _ => by simp [PyData.eqvAll]
  | _ :: _, [] => by simp [PyData.eqvAll]
  | z :: zs, u :: us => by
    have ih := idd_all zs us
    simp only [List.map_cons, PyData.eqvAll, PyData.eqv]
    rw [ih]
    by_cases h1 : z = u
    · subst h1
      simp
    · rw [beq_eq_false_iff_ne.mpr h1, decide_eq_false (fun q => h1 (List.cons.inj q).1)]
      rfl
theorem idd_eqv (zs us : List Int) : PyData.eqv (idd zs) (idd us) = decide (zs = us) := by
  unfold idd
  simp only [PyData.eqv]
  exact idd_all zs us
theorem idd_lays : ∀ zs : List Int, PyData.canLayAll0 (zs.map PyData.int) = true
  | [] => by simp [PyData.canLayAll0]
  | z :: zs => by simp [PyData.canLayAll0, PyData.canLay0, idd_lays zs]
theorem idd_depths : ∀ zs : List Int, PyData.depthAll (zs.map PyData.int) = 0
  | [] => by simp [PyData.depthAll]
  | z :: zs => by simp [PyData.depthAll, PyData.depth, idd_depths zs]
theorem idd_shaped (zs : List Int) : SeqAt.shaped (idd zs) = true := by
  have h2 : PyData.depth (idd zs) ≤ 64 := by
    unfold idd
    simp only [PyData.depth]
    rw [idd_depths]
    omega
  have h3 : PyData.canLay0 (idd zs) = true := by
    unfold idd
    simp only [PyData.canLay0]
    exact idd_lays zs
  show (PyData.canLay0 (idd zs) && decide (PyData.depth (idd zs) ≤ 64)) = true
  rw [h3, decide_eq_true h2]
  rfl
theorem dp_ints {K : PySem.W.Frag} {H : Hp} : ∀ zs : List Int, DpAll K H (zs.map V.int) (zs.map PyData.int)
  | [] => .nil
  | z :: zs => .cons (.int z) (dp_ints zs)
theorem dp_idd {K : PySem.W.Frag} {H : Hp} {a : Addr} {zs : List Int} (h : H a = some (.lst (zs.map V.int))) : Dp K H (.ref a) (idd zs) := .lst (SqL.of h) (dp_ints zs)
/-- sorted, it's the row of the numbers just when the plan is formed -/
theorem num_sorted (n p : Nat) : (SnowM.cast (numbersOf n p)).Pairwise (· ≤ ·) := by
  unfold SnowM.cast
  refine List.pairwise_map.mpr ?_
  unfold numbersOf
  refine List.pairwise_append.mpr ⟨?_, ?_, fun a ha b hb => ?_⟩
  · exact (List.pairwise_lt_range (n := n)).imp fun h => Int.ofNat_le.mpr (Nat.le_of_lt h)
  · refine List.pairwise_replicate.mpr (.inr (Int.le_refl _))
  · have h1 := List.mem_range.mp ha
    have h2 := (List.mem_replicate.mp hb).2
    omega
theorem sorted_is {plan nums : List Nat} {zs : List Int} (h1 : zs.Perm (SnowM.cast plan)) (h2 : zs.Pairwise (· ≤ ·)) (h3 : (SnowM.cast nums).Pairwise (· ≤ ·)) : zs = SnowM.cast nums ↔ plan.Perm nums := by
  constructor
  · intro e
    rw [e] at h1
    have := (h1.map Int.toNat).symm
    rw [SnowM.toNat_cast, SnowM.toNat_cast] at this
    exact this
  · intro hp
    exact List.Perm.eq_of_pairwise (le := fun a b => a ≤ b) (fun a b _ _ x y => Int.le_antisymm x y) h2 h3 (h1.trans (hp.map _))
theorem ShOk.of {n : Night} {b : Nat} (g : Good n b) {l : List Nat} (h : n.formed l = true) : ShOk n (parts n.count l) n.speeds := by
  have p := g.pl h
  exact ⟨p.len, Nat.le_trans g.p3 (by decide), g.sv, fun s hs => ⟨Nat.le_trans (p.four s hs) (by decide), p.lt s hs⟩⟩
def spCheck (C : Addr) : Sp := fun vs H Q _ => ∃ (a l pl st ap tg : Addr) (n : Night) (b : Nat) (plan : List Nat), vs = [.ref a, .ref l] ∧ NightAt C H a n pl st ap tg ∧ Good n b ∧ RN H l plan ∧ plan.length ≤ 8 ∧ Post C n (.check plan) H a pl st ap tg Q
section
variable {P : Program} {w : World} {K : PySem.W.Frag} {mg : Str → Option Value} {base : Heap} {C : Addr}
theorem scCheck : FnScope ["self", "plan", "street_count", "shares", "refusal", "times", "answered", "done", "number"] ["self", "plan"] (defScope sCheck) := ⟨rfl, rfl, rfl, by decide +kernel, rfl, by decide +kernel, by decide +kernel⟩
theorem ok_check {f : Addr} {fd : FuncData} (F : Fun K "check" "Night.check" sCheck f fd) (T : Txt K mg C) (cN : CalF P w K mg base "numbers_of_plans" 1 ["street_count", "plough_count"] spNums)
    (cS : CalF P w K mg base "shares_of" 1 ["plan", "street_count"] spShares) (cW : CalM P w K mg base C "why_not" 3 ["self", "shares"] (spWhy C)) (cT : CalM P w K mg base C "times" 3 ["self", "shares", "ploughs"] (spTimes C))
    (cL : CalF P w K mg base "latest" 2 ["times"] spLatest) : FnOk P w K mg base CX0 4 f fd ["self", "plan"] (spCheck C) := by
  obtain ⟨fN, fdN, GN, mN, kN, bN⟩ := cN
  obtain ⟨fS, fdS, GS, mS, kS, bS⟩ := cS
  obtain ⟨fW, fdW, GW, mW, bW⟩ := cW
  obtain ⟨fT, fdT, GT, mT, bT⟩ := cT
  obtain ⟨fL, fdL, GL, mL, kL, bL⟩ := cL
  refine F.ok scCheck (fun vs H Q E h => ?_) (fun cdv A outer s H vs Q E hr h => ?_)
  · obtain ⟨a, l, pl, st, ap, tg, n, b, plan, rfl, _⟩ := h
    rfl
  · obtain ⟨a, l, pl, st, ap, tg, n, b, plan, rfl, N, g, hl, hlen, k⟩ := h
    obtain ⟨dx, hi⟩ := N.ins
    obtain ⟨ss, hs, als⟩ := N.s
    have cnt : (ss.map V.ref).length = n.count := by rw [List.length_map]; exact als.1
    refine ⟨_, pss_cons (ps_set (i := 2) scCheck.nd rfl (Or.inr rfl) (pe_callB call_len_seq (by rfl) T.len PySem.boot_len (pa_cons (pe_fld (pv 0) rfl) pa_nil)))
      (pss_cons (ps_if (pt_val (pe_callB (cr_any rfl) (by rfl) T.any (by decide +kernel) (pa_cons (pe_lc (own := [("number", 8)]) (g := gName 8) (te := tOp (rI0 fun i j => .bl (decide (j < i))) (tVar 8) (tVar 2)) rfl scCheck.nd (pi_list (pv 1))
          (blkOk_by (own := [("number", 8)]) (N := ["self", "plan", "street_count", "shares", "refusal", "times", "answered", "done", "number"]) (sc := defScope sCheck) (by decide +kernel))
          (fun _ _ _ _ _ => pg_name (i := 8) scCheck.nd rfl (Or.inl rfl)) (fun _ _ _ _ _ => pts_nil)
          (fun _ _ _ _ _ => pe_cmpR op_gt (pv 8) (pv 2) (nomark _))) pa_nil)))
        (pss_one (ps_ret (pe_lst (pa_cons (pe_un un_neg pe_int) pa_nil)))) pss_nil)
      (pss_cons (ps_if (pt_cmpR (op_neD hr.units) (pe_callB cr_sortedI (by rfl) T.sorted (by decide +kernel) (pa_cons (pv 1) pa_nil))
          (pe_call GN (hr.mono (by decide)) rfl mN kN bN .nil pass0 (pa_cons (pv 2) (pa_cons (pe_callB call_len_seq (by rfl) T.len PySem.boot_len (pa_cons (pe_fld (pv 0) rfl) pa_nil)) pa_nil))) (nomark _))
        (pss_one (ps_ret (pe_lst (pa_cons (pe_un un_neg pe_int) pa_nil)))) pss_nil)
      (pss_cons (ps_set (i := 3) scCheck.nd rfl (Or.inl rfl) (pe_call GS (hr.mono (by decide)) rfl mS kS bS .nil pass0 (pa_cons (pv 1) (pa_cons (pv 2) pa_nil))))
      (pss_cons (ps_set (i := 4) scCheck.nd rfl (Or.inl rfl) (pe_meth (pv 0) T.cl mW GW (hr.mono (by decide)) bW .nil pass0 (pa_cons (pv 3) pa_nil)))
      (pss_cons (ps_if (pt_truth (pv 4) (by intro _; rfl)) (pss_one (ps_ret (pv 4))) pss_nil)
      (pss_cons (ps_set (i := 5) scCheck.nd rfl (Or.inl rfl) (pe_meth (pv 0) T.cl mT GT (hr.mono (by decide)) bT .nil pass0 (pa_cons (pv 3) (pa_cons (pe_fld (pv 0) rfl) pa_nil))))
      (pss_cons (ps_set (i := 6) scCheck.nd rfl (Or.inl rfl) (pe_op op_cat (pe_lst (pa_cons pe_int pa_nil)) (pe_callTy call_list_of (by rfl) T.list (by decide +kernel) (pa_cons (pe_call GL (hr.mono (by decide)) rfl mL kL bL .nil pass0 (pa_cons (pv 5) pa_nil)) pa_nil))))
      (pss_cons (ps_for PassesOwn.never rfl (pi_list (pv 5)) (pg_name (i := 7) scCheck.nd rfl (Or.inl rfl))
        (pss_one (ps_expr (pe_bm PySem.F.plainAttrs_list PySem.F.slot_list_extend PySem.F.type_list_extend mt_extT (pv 6) (pa_cons (pv 7) pa_nil)))))
      (pss_one (ps_ret (pv 6))))))))))), ?_⟩
    have e1 : n.told plan = false → Si79.step n (.check plan) = (n, Si79.ok (-1)) := fun c => if_pos c
    have e2 : n.told plan = true → n.formed plan = false → Si79.step n (.check plan) = (n, Si79.ok (-4)) := fun c d => (if_neg (by rw [c]; simp)).trans (if_pos d)
    have e3 : n.told plan = true → n.formed plan = true → Si79.step n (.check plan) = (n, n.toldPlan plan) := fun c d => (if_neg (by rw [c]; simp)).trans (if_neg (by rw [d]; simp))
    have eq1 : (Si79.step n (.check plan)).1 = n := by
      cases c : n.told plan with
      | false => rw [e1 c]
      | true =>
        cases d : n.formed plan with
        | false => rw [e2 c d]
        | true => rw [e3 c d]
    refine ⟨_, rfl, a, C, dx, _, _, rfl, hi, T.cl, T.nS, nF_s, st, _, rfl, .inl (SqL.of hs), ?_⟩
    rw [cnt]
    refine ⟨_, rfl, l, rfl, ⟨_, SqL.of hl⟩, fun D nD => ?_⟩
    have s0 : Same H (upd H D (.lst [])) := same_upd nD
    refine lc_list (K := K) (a := l) (xs := vi plan) (fun m H' => Same H H' ∧ H' D = some (.lst (((plan.take m).map fun v => decide (n.count < v)).map V.bl))) ⟨s0, upd_same⟩ (fun m H' _ h => SqL.of (h.1 _ _ hl)) ?_ ?_
    · rintro m x H1 hx ⟨s1, hD⟩
      obtain ⟨v, hv, rfl⟩ := vi_get hx
      refine ⟨rfl, ?_⟩
      refine ⟨_, rfl, _, rfl, _, _, rfl, rfl, _, hD, ?_, same_upd2 s1 nD, ?_⟩
      · rw [List.length_map, List.length_map, List.length_take]
        exact line_lt (by omega)
      · rw [upd_same, take_more hv, List.map_append, List.map_append]
        have e : decide ((n.count : Int) < (v : Int)) = decide (n.count < v) := decide_eq_decide.mpr (by omega)
        show some (HO.lst (_ ++ [V.bl (decide ((n.count : Int) < (v : Int)))])) = _
        rw [e]
        rfl
    · rintro H1 ⟨s1, hD⟩
      rw [vi_len, List.take_length] at hD
      refine ⟨D, _, rfl, SqL.of hD, _, rfl, ?_⟩
      have et : ((plan.map fun v => decide (n.count < v)).any id) = !(n.told plan) := by
        unfold Night.told
        rw [List.any_map, List.not_all_eq_any_not]
        congr 1
        funext v
        show decide (n.count < v) = !decide (v ≤ n.count)
        rw [← decide_not]
        exact decide_eq_decide.mpr (by omega)
      rw [et]
      cases c1 : n.told plan with
      | false => exact ifT rfl ⟨_, rfl, by show 1 ≤ sizeLine; decide, fun r nr => post_same k N (by rw [e1 c1]) (s1.trans (same_upd nr)) (s1.free nr) (zs := [-1]) (by unfold RI; rw [upd_same]; rfl) (by rw [e1 c1]; rfl)⟩
      | true =>
        refine ifF rfl ?_
        have hl1 : H1 l = some (.lst ((SnowM.cast plan).map V.int)) := by rw [← vi_ints]; exact s1 _ _ hl
        refine ⟨_, rfl, l, SnowM.cast plan, rfl, SqL.of hl1, fun zs p hp hpw np => ?_⟩
        have s2 := s1.trans (same_upd np (o := .lst (zs.map V.int)))
        refine ⟨_, rfl, _, rfl, a, C, dx, _, _, rfl, s2 _ _ hi, T.cl, T.nP, nF_p, pl, _, rfl, .inl (SqL.of (s2 _ _ N.p)), ?_⟩
        rw [vi_len]
        refine ⟨n.count, n.speeds.length, rfl, g.s4, ⟨g.p1, g.p3⟩, fun H2 q s3 nq hq => ?_⟩
        have hq' : H2 q = some (.lst ((SnowM.cast (numbersOf n.count n.speeds.length)).map V.int)) := by rw [← vi_ints]; exact hq
        refine ⟨_, _, dp_idd (s3 _ _ upd_same), dp_idd hq', idd_shaped _, idd_shaped _, _, rfl, ?_⟩
        rw [idd_eqv]
        have fi : n.formed plan = decide (zs = SnowM.cast (numbersOf n.count n.speeds.length)) := by
          by_cases c : zs = SnowM.cast (numbersOf n.count n.speeds.length)
          · rw [decide_eq_true c]
            exact (SnowM.formed_iff n plan g.p1).mpr ((sorted_is hp hpw (num_sorted _ _)).mp c)
          · rw [decide_eq_false c]
            cases d : n.formed plan with
            | false => rfl
            | true => exact absurd ((sorted_is hp hpw (num_sorted _ _)).mpr ((SnowM.formed_iff n plan g.p1).mp d)) c
        rw [← fi]
        have s4 := s2.trans s3
        cases c2 : n.formed plan with
        | false => exact ifT rfl ⟨_, rfl, by show 1 ≤ sizeLine; decide, fun r nr => post_same k N (by rw [e2 c1 c2]) (s4.trans (same_upd nr)) (s4.free nr) (zs := [-4]) (by unfold RI; rw [upd_same]; rfl) (by rw [e2 c1 c2]; rfl)⟩
        | true =>
          refine ifF rfl ?_
          have est := e3 c1 c2
          have pp := g.pl c2
          refine ⟨_, rfl, _, rfl, l, plan, n.count, rfl, s4 _ _ hl, hlen, fun H3 q3 s5 nq3 hq3 => ?_⟩
          have s6 := s4.trans s5
          have N3 := N.mono s6
          obtain ⟨dx3, hi3⟩ := N3.ins
          have hsh : RSh H3 q3 (parts n.count plan) := RSh.mono (mns_same _ _) hq3
          refine ⟨_, rfl, a, dx3, _, rfl, hi3, nF_no (by decide +kernel) (by decide +kernel) (by decide +kernel) (by decide +kernel), _, rfl, ?_⟩
          refine ⟨a, q3, pl, st, ap, tg, n, _, rfl, N3, hsh, by rw [pp.len]; exact Nat.le_trans g.p3 (by decide), fun H4 q4 s7 nq4 hq4 => ?_⟩
          have s8 := s6.trans s7
          refine ⟨_, rfl, _, .inl ⟨_, SqL.of hq4, rfl⟩, ?_⟩
          have te := SnowM.toldPlan_eq g c2
          cases c3 : whyNot n (parts n.count plan) with
          | cons z zr =>
            rw [c3] at hq4 te
            rw [if_pos (by simp)] at te
            refine ifT rfl ⟨_, rfl, post_same k N eq1 s8 (s6.free nq4) hq4 ?_⟩
            rw [est]
            exact te.symm
          | nil =>
            rw [c3] at te
            rw [if_neg (by simp)] at te
            refine ifF rfl ?_
            have N4 := N.mono s8
            obtain ⟨dx4, hi4⟩ := N4.ins
            refine ⟨_, rfl, a, dx4, _, rfl, hi4, nF_no (by decide +kernel) (by decide +kernel) (by decide +kernel) (by decide +kernel), _, rfl, _, rfl, a, C, dx4, _, _, rfl, hi4, T.cl, T.nP, nF_p, ?_⟩
            have ok := ShOk.of g c2
            refine ⟨a, q3, pl, pl, st, ap, tg, n, b, parts n.count plan, n.speeds, rfl, N4, g, RSh.mono s7 hsh, N4.p, ok, fun H5 q5 s9 nq5 hq5 => ?_⟩
            have s10 := s8.trans s9
            have tok := times_ok g ok
            rw [SnowM.times_eq g c2] at hq5 tok
            have el : (n.ends plan).length = n.speeds.length := by
              rw [← SnowM.times_eq g c2]
              exact times_len pp.len
            have ene : n.ends plan ≠ [] := fun q => by
              rw [q] at el
              have := g.p1
              simp at el
              omega
            refine ⟨by show 1 ≤ sizeLine; decide, fun d nd => ?_⟩
            have s11 : Same H5 (upd H5 d (.lst [V.int 0])) := same_upd nd
            refine ⟨_, rfl, q5, n.ends plan, rfl, ene, RL.mono (fun _ _ => RTm.mono s11) s11 hq5, tok, fun p6 hp6 => ?_⟩
            refine ⟨p6, _, rfl, .inr (SqT.of hp6), fun e ne => ?_⟩
            have hd : (upd H5 d (.lst [V.int 0])) d = some (.lst [V.int 0]) := upd_same
            refine ⟨d, e, _, _, rfl, rfl, by rw [upd_ne (ne_of_none hd ne)]; exact hd, upd_same, by show 1 + 2 ≤ sizeLine; decide, fun D2 nD2 => ?_⟩
            have s12 := s11.trans (same_upd ne (o := .lst [ci (Si79.latest (n.ends plan)).n, ci (Si79.latest (n.ends plan)).d]))
            have s13 := s10.trans s12
            have fD : H D2 = none := s13.free nD2
            have s14 := s12.trans (same_upd nD2 (o := .lst ([V.int 0] ++ [ci (Si79.latest (n.ends plan)).n, ci (Si79.latest (n.ends plan)).d])))
            obtain ⟨as, ha, al⟩ := hq5
            have f5 : H5 D2 = none := s12.free nD2
            refine ⟨_, rfl, q5, rfl, ⟨_, SqL.of (s14 _ _ ha)⟩, for_list (K := K) (a := q5) (xs := as.map V.ref) (fun i σ H' => ∃ (v7 v8 : Option V), σ = [some (.ref a), some (.ref l), some (ci n.count), some (.ref q3), some (.ref q4), some (.ref q5), some (.ref D2), v7, v8] ∧ Same H5 H' ∧ H' D2 = some (.lst (V.int 0 :: vi (Si79.both (n.clear plan) ++ ((n.ends plan).take i).flatMap Si79.both))))
              ⟨none, none, rfl, s14, ?_⟩ (fun i σ H' _ ⟨_, _, _, q, _⟩ => SqL.of (q _ _ ha)) ?_ ?_⟩
            · rw [upd_same, List.take_zero, List.flatMap_nil, List.append_nil]
              rfl
            · rintro i x σ H6 hx ⟨v7, v8, rfl, s15, hD6⟩
              obtain ⟨t, ht, rfl⟩ := refs_get hx
              obtain ⟨tm, htm, rt⟩ := al.get ht
              have rt6 : H6 t = some (.tup [ci tm.n, ci tm.d]) := s15 _ _ rt
              have hi6 : i < n.speeds.length := by
                have := (List.getElem?_eq_some_iff.mp htm).1
                omega
              have fl : ∀ (z : List Time), (z.flatMap Si79.both).length = 2 * z.length := fun z => by
                induction z with
                | nil => rfl
                | cons y z ih =>
                  rw [List.flatMap_cons, List.length_append, ih, List.length_cons]
                  show 2 + _ = _
                  omega
              refine ⟨_, rfl, .inl ⟨rfl, _, SqL.of hD6⟩, _, rfl, D2, t, _, _, rfl, rfl, hD6, rt6, ?_, ?_⟩
              · rw [List.length_cons, vi_len, List.length_append, fl, List.length_take]
                refine line_le ?_
                have := g.p3
                show 2 + _ + 1 + 2 ≤ _
                omega
              · refine ⟨_, _, rfl, same_upd2 s15 f5, ?_⟩
                rw [upd_same, take_more htm, List.flatMap_append, ← List.append_assoc, vi_app (Si79.both (n.clear plan) ++ _)]
                rfl
            · rintro σ H6 ⟨v7, v8, rfl, s15, hD6⟩
              rw [List.length_map, al.1, List.take_length] at hD6
              refine ⟨_, rfl, post_same k N eq1 (s10.trans s15) fD (zs := 0 :: SnowM.cast (Si79.both (n.clear plan) ++ (n.ends plan).flatMap Si79.both)) ?_ ?_⟩
              · unfold RI
                rw [hD6, List.map_cons, ← vi_ints]
              · rw [est]
                exact te.symm
end
end SnowB
/-! ## part B10 -/
namespace SnowB
open PySem PySem.Spec PyProof.Rows L2
open SnowM (Time numbersOf iterP allPlans joinP oneP firstP Good whyNot timesV possible Pl)
open Si79 (parts Night)
theorem mns_rmv2 {H H2 H3 : Hp} {D : Addr} {o : HO} (s : Same H H2) (h : H2 D = some o) : Same (mns H3 H2) (rmv (mns H3 H) D) := fun b x e => by
  obtain ⟨h1, h2⟩ := mns_of e
  rw [rmv_ne (fun q => by rw [q, h] at h1; cases h1), mns_eq (s.free h1)]
  exact h2
def spPoss (C : Addr) : Sp := fun vs H Q _ => ∃ (a pl st ap tg : Addr) (n : Night) (b : Nat), vs = [.ref a] ∧ NightAt C H a n pl st ap tg ∧ Good n b ∧ ∀ (H' : Hp) (q : Addr), Same H H' → H q = none → RShs (mns H' H) q (possible n) → Q (.ref q) H'
section
variable {P : Program} {w : World} {K : PySem.W.Frag} {mg : Str → Option Value} {base : Heap} {C : Addr}
theorem scPoss : FnScope ["self", "street_count", "plans", "found", "plan", "shares"] ["self"] (defScope sPoss) := ⟨rfl, rfl, rfl, by decide +kernel, rfl, by decide +kernel, by decide +kernel⟩
theorem ok_poss {f : Addr} {fd : FuncData} (F : Fun K "possible_shares" "Night.possible_shares" sPoss f fd) (T : Txt K mg C) (cP : CalF P w K mg base "all_plans" 2 ["street_count", "plough_count"] spPlans)
    (cS : CalF P w K mg base "shares_of" 1 ["plan", "street_count"] spShares) (cW : CalM P w K mg base C "why_not" 3 ["self", "shares"] (spWhy C)) : FnOk P w K mg base CX0 4 f fd ["self"] (spPoss C) := by
  obtain ⟨fP, fdP, GP, mP, kP, bP⟩ := cP
  obtain ⟨fS, fdS, GS, mS, kS, bS⟩ := cS
  obtain ⟨fW, fdW, GW, mW, bW⟩ := cW
  refine F.ok scPoss (fun vs H Q E h => ?_) (fun cdv A outer s H vs Q E hr h => ?_)
  · obtain ⟨a, pl, st, ap, tg, n, b, rfl, _⟩ := h
    rfl
  · obtain ⟨a, pl, st, ap, tg, n, b, rfl, N, g, k⟩ := h
    obtain ⟨dx, hi⟩ := N.ins
    obtain ⟨ss, hs, als⟩ := N.s
    have cnt : (ss.map V.ref).length = n.count := by rw [List.length_map]; exact als.1
    refine ⟨_, pss_cons (ps_set (i := 1) scPoss.nd rfl (Or.inr rfl) (pe_callB call_len_seq (by rfl) T.len PySem.boot_len (pa_cons (pe_fld (pv 0) rfl) pa_nil)))
      (pss_cons (ps_set (i := 2) scPoss.nd rfl (Or.inl rfl) (pe_call GP (hr.mono (by decide)) rfl mP kP bP .nil pass0 (pa_cons (pv 1) (pa_cons (pe_callB call_len_seq (by rfl) T.len PySem.boot_len (pa_cons (pe_fld (pv 0) rfl) pa_nil)) pa_nil))))
      (pss_cons (ps_setLc (i := 3) (own := [("plan", 4)]) (g := gName 4) (te := tCall spShares [] E0 (tCons (tVar 4) (tCons (tVar 1) tNil))) rfl scPoss.nd rfl rfl (sw_true rfl rfl rfl (by decide +kernel)) (pi_list (pv 2))
        (blkOk_by (own := [("plan", 4)]) (N := ["self", "street_count", "plans", "found", "plan", "shares"]) (sc := defScope sPoss) (by decide +kernel))
        (fun _ _ _ _ _ => pg_name (i := 4) scPoss.nd rfl (Or.inl rfl)) (fun _ _ _ _ _ => pts_nil)
        (fun _ _ _ _ _ => pe_call GS (hr.mono (by decide)) rfl mS kS bS .nil pass0 (pa_cons (pv 4) (pa_cons (pv 1) pa_nil))))
      (pss_one (ps_ret (pe_lc (own := [("shares", 5)]) (g := gName 5) (te := tVar 5)
        (tt := tNot (fun σ H Q => tMeth C "why_not" (spWhy C) [] E0 (tVar 0) (tCons (tVar 5) tNil) σ H fun x H' => ∃ k, TruV K x H' k ∧ Q k H')) rfl scPoss.nd (pi_list (pv 3))
        (blkOk_by (own := [("shares", 5)]) (N := ["self", "street_count", "plans", "found", "plan", "shares"]) (sc := defScope sPoss) (by decide +kernel))
        (fun _ _ _ _ _ => pg_name (i := 5) scPoss.nd rfl (Or.inl rfl))
        (fun _ _ _ _ _ => pts_one (pt_not (pt_truth (pe_meth (pv 0) T.cl mW GW (hr.mono (by decide)) bW .nil pass0 (pa_cons (pv 5) pa_nil)) (by intro _; rfl))))
        (fun _ _ _ _ _ => pv 5)))))), ?_⟩
    refine ⟨_, rfl, a, C, dx, _, _, rfl, hi, T.cl, T.nS, nF_s, st, _, rfl, .inl (SqL.of hs), ?_⟩
    rw [cnt]
    refine ⟨_, rfl, _, rfl, a, C, dx, _, _, rfl, hi, T.cl, T.nP, nF_p, pl, _, rfl, .inl (SqL.of N.p), ?_⟩
    rw [vi_len]
    refine ⟨n.count, n.speeds.length, rfl, g.s4, ⟨g.p1, g.p3⟩, fun H1 q s1 nq ⟨as, hq, al⟩ => ?_⟩
    have hq1 := (mns_of hq).2
    have six : (numbersOf n.count n.speeds.length).length ≤ 6 := by
      rw [SnowM.num_len g.p1]
      have h4 : n.count ≤ 4 := g.s4
      have := g.p3
      omega
    have few : (allPlans n.count n.speeds.length).length ≤ 15625 := iter_small _ g.s4 six
    have each : ∀ p ∈ allPlans n.count n.speeds.length, p.length ≤ 8 := fun p hp => by
      have := iter_each _ _ _ p hp
      omega
    generalize hA : allPlans n.count n.speeds.length = plans at *
    refine ⟨_, rfl, q, rfl, ⟨_, SqL.of hq1⟩, fun D nD => ?_⟩
    refine lc_list (K := K) (a := q) (xs := as.map V.ref) (fun m H' => Same H1 H' ∧ ∃ es : List Addr, H' D = some (.lst (es.map V.ref)) ∧ Al (RSh (rmv (mns H' H) D)) es ((plans.take m).map (parts n.count))) ⟨same_upd nD, [], upd_same, Al.nil⟩ (fun m H' _ h => SqL.of (h.1 _ _ hq1)) ?_ ?_
    · rintro m x H2 hx ⟨s2, es, hD, ale⟩
      obtain ⟨c, hc, rfl⟩ := refs_get hx
      obtain ⟨plan, hp, rp⟩ := al.get hc
      have mp := List.mem_of_getElem? hp
      refine ⟨rfl, ?_⟩
      refine ⟨_, rfl, _, rfl, c, plan, n.count, rfl, s2 _ _ (mns_of rp).2, each plan mp, fun H3 q3 s3 nq3 hq3 => ?_⟩
      have hD3 := s3 _ _ hD
      have hm : m < plans.length := (List.getElem?_eq_some_iff.mp hp).1
      refine ⟨_, hD3, ?_, same_upd2 (s2.trans s3) nD, es ++ [q3], ?_, ?_⟩
      · rw [List.length_map, ale.1, List.length_map, List.length_take]
        exact line_lt (by omega)
      · rw [upd_same, List.map_append]
        rfl
      · rw [take_more hp, List.map_append]
        exact Al.snoc (ale.mono fun y z r => RSh.mono ((rmv_mono (mns_right s3)).trans rmv_mns_upd) r) (RSh.mono ((mns_rmv2 (s1.trans s2) hD).trans rmv_mns_upd) hq3)
    · rintro H2 ⟨s2, es, hD, ale⟩
      rw [List.length_map, al.1, List.take_length] at ale
      have s12 := s1.trans s2
      refine ⟨_, rfl, D, rfl, ⟨_, SqL.of hD⟩, fun D2 nD2 => ?_⟩
      have fD2 : H D2 = none := s12.free nD2
      have N2 := N.mono s12
      have eP : possible n = (plans.map (parts n.count)).filter fun sh => (whyNot n sh).isEmpty := by
        unfold possible
        rw [hA]
      have ale2 : Al (RSh (mns H2 H)) es (plans.map (parts n.count)) := ale.mono fun y z r => RSh.mono (rmv_same _ _) r
      refine lc_list (K := K) (a := D) (xs := es.map V.ref) (fun m H' => Same H2 H' ∧ ∃ fs : List Addr, H' D2 = some (.lst (fs.map V.ref)) ∧ Al (RSh (mns H2 H)) fs (((plans.map (parts n.count)).take m).filter fun sh => (whyNot n sh).isEmpty)) ⟨same_upd nD2, [], upd_same, Al.nil⟩ (fun m H' _ h => SqL.of (h.1 _ _ hD)) ?_ ?_
      · rintro m x H3 hx ⟨s3, fs, hD3, alf⟩
        obtain ⟨c, hc, rfl⟩ := refs_get hx
        obtain ⟨sh, hsh, rc⟩ := ale2.get hc
        have N3 := N2.mono s3
        obtain ⟨dx3, hi3⟩ := N3.ins
        have rc3 := RSh.mono ((mns_same _ _).trans s3) rc
        have hm : m < plans.length := by
          have := (List.getElem?_eq_some_iff.mp hsh).1
          rw [List.length_map] at this
          exact this
        have pl3 : sh.length ≤ 1000 := by
          rw [List.getElem?_map] at hsh
          cases e : plans[m]? with
          | none => rw [e] at hsh; cases hsh
          | some p =>
            rw [e] at hsh
            have hsh := Option.some.inj hsh
            rw [← hsh]
            have mem : p ∈ SnowM.Night.all_ n := by
              rw [← g.all, hA]
              exact List.mem_of_getElem? e
            rw [(g.pl (g.mem.mp mem)).len]
            exact Nat.le_trans g.p3 (by decide)
        have tk : ((plans.map (parts n.count)).take (m + 1)).filter (fun sh => (whyNot n sh).isEmpty) = ((plans.map (parts n.count)).take m).filter (fun sh => (whyNot n sh).isEmpty) ++ (if (whyNot n sh).isEmpty = true then [sh] else []) := by
          rw [take_more hsh, List.filter_append, List.filter_cons, List.filter_nil]
        have lf := List.length_filter_le (fun sh => (whyNot n sh).isEmpty) ((plans.map (parts n.count)).take m)
        rw [List.length_take, List.length_map] at lf
        refine ⟨rfl, ?_⟩
        refine ⟨_, rfl, a, dx3, _, rfl, hi3, nF_no (by decide +kernel) (by decide +kernel) (by decide +kernel) (by decide +kernel), _, rfl, ?_⟩
        refine ⟨a, c, pl, st, ap, tg, n, sh, rfl, N3, rc3, pl3, fun H4 q4 s4 nq4 hq4 => ?_⟩
        refine ⟨_, .inl ⟨_, SqL.of hq4, rfl⟩, ?_⟩
        cases hw : whyNot n sh with
        | cons z zr =>
          refine ifF rfl ⟨s3.trans s4, fs, s4 _ _ hD3, ?_⟩
          rw [tk, hw, if_neg (by simp), List.append_nil]
          exact alf
        | nil =>
          refine ifT rfl ⟨_, rfl, _, s4 _ _ hD3, ?_, same_upd2 (s3.trans s4) nD2, fs ++ [c], ?_, ?_⟩
          · rw [List.length_map, alf.1]
            exact line_lt (by omega)
          · rw [upd_same, List.map_append]
            rfl
          · rw [tk, hw, if_pos (by simp)]
            exact Al.snoc alf rc
      · rintro H3 ⟨s3, fs, hD3, alf⟩
        rw [List.length_map, ale.1, List.take_length, ← eP] at alf
        exact k H3 D2 (s12.trans s3) fD2 ⟨fs, by rw [mns_eq fD2]; exact hD3, alf.mono fun y z r => RSh.mono (mns_right s3) r⟩
end
end SnowB
/-! ## part B11 -/
namespace SnowB
open PySem PySem.Spec PyProof.Rows L2
open SnowM (Time numbersOf iterP allPlans joinP oneP firstP Good whyNot timesV possible Pl bstep BSt)
open Si79 (parts Night)
def spBest (C : Addr) : Sp := fun vs H Q _ => ∃ (a pl st ap tg : Addr) (n : Night) (b : Nat), vs = [.ref a] ∧ NightAt C H a n pl st ap tg ∧ Good n b ∧ Post C n .best H a pl st ap tg Q
theorem bstep_len (n : Night) (st : BSt) (sh : List (List Nat)) : (bstep n st sh).2.length ≤ st.2.length + 1 := by
  have h : ∀ x : BSt, x.2.length ≤ st.2.length → ∀ c : Time, (if x.1 = some c then (x.1, x.2 ++ [sh]) else x).2.length ≤ st.2.length + 1 := fun x hx c => by
    split
    · rw [List.length_append]
      show _ + 1 ≤ _
      omega
    · omega
  unfold bstep
  refine h _ ?_ _
  split
  · exact Nat.zero_le _
  · split
    · exact Nat.zero_le _
    · exact Nat.le_refl _
theorem bfold_len (n : Night) : ∀ (l : List (List (List Nat))) (st : BSt), (l.foldl (bstep n) st).2.length ≤ st.2.length + l.length
  | [], _ => Nat.le_refl _
  | x :: l, st => by
    rw [List.foldl_cons, List.length_cons]
    have h1 := bfold_len n l (bstep n st x)
    have h2 := bstep_len n st x
    omega
/-- the time kept so far -/
def SV (H : Hp) (s : V) : Option Time → Prop
  | none => s = .non
  | some t => ∃ p, s = .ref p ∧ RTm H p t ∧ TmOk t
/-- what the search keeps -/
def BI (H M : Hp) (a : Addr) (st : BSt) (σ : L2.St) (H' : Hp) : Prop := ∃ (D : Addr) (es : List Addr) (s1 : V) (v3 v4 v5 : Option V), σ = [some (.ref a), some s1, some (.ref D), v3, v4, v5] ∧ Same H H' ∧ Same M H' ∧ M D = none ∧ H D = none ∧ H' D = some (.lst (es.map V.ref)) ∧ Al (RSh M) es st.2 ∧ SV H' s1 st.1
theorem BI.app {H M H' : Hp} {a D e p : Addr} {es : List Addr} {l : List (List (List Nat))} {sh : List (List Nat)} {t : Time} {v3 v4 v5 : Option V} (s : Same H H') (m : Same M H') (mD : M D = none) (hD : H D = none) (hl : H' D = some (.lst (es.map V.ref))) (al : Al (RSh M) es l) (r : RSh M e sh)
    (hp : RTm H' p t) (ok : TmOk t) : BI H M a (some t, l ++ [sh]) [some (.ref a), some (.ref p), some (.ref D), v3, v4, v5] (upd H' D (.lst (es.map V.ref ++ [.ref e]))) := by
  refine ⟨D, es ++ [e], _, _, _, _, rfl, same_upd2 s hD, same_upd2 m mD, mD, hD, ?_, Al.snoc al r, p, rfl, ?_, ok⟩
  · rw [upd_same, List.map_append]
    rfl
  · unfold RTm tmO at *
    exact upd_tup hl hp
theorem shok_of {n : Night} {b : Nat} (g : Good n b) {sh : List (List Nat)} (h : sh ∈ possible n) : ShOk n sh n.speeds ∧ sh.length = n.speeds.length := by
  rw [SnowM.possible_eq g] at h
  obtain ⟨l, hl, rfl⟩ := List.mem_map.mp h
  have hf := SnowM.plans_formed g hl
  exact ⟨ShOk.of g hf, (g.pl hf).len⟩
theorem lat_ok {n : Night} {b : Nat} (g : Good n b) {sh : List (List Nat)} {us : List Nat} (ok : ShOk n sh us) (h1 : 1 ≤ us.length) : timesV n sh us ≠ [] ∧ TmOk (Si79.latest (timesV n sh us)) := by
  have el := times_len (n := n) ok.len
  have tok := times_ok g ok
  cases e : timesV n sh us with
  | nil =>
    rw [e] at el
    simp at el
    omega
  | cons t r =>
    refine ⟨by simp, ?_⟩
    rw [e] at tok
    rw [SnowM.latest_head (tok t List.mem_cons_self).1]
    rcases SnowM.fold_mem (t :: r) t with q | q
    · rw [q]
      exact tok t List.mem_cons_self
    · exact tok _ q
theorem poss_len {n : Night} {b : Nat} (g : Good n b) : (possible n).length ≤ 15625 := by
  unfold possible
  have h1 := List.length_filter_le (fun sh => (whyNot n sh).isEmpty) ((allPlans n.count n.speeds.length).map (parts n.count))
  rw [List.length_map] at h1
  have six : (numbersOf n.count n.speeds.length).length ≤ 6 := by
    rw [SnowM.num_len g.p1]
    have h4 : n.count ≤ 4 := g.s4
    have := g.p3
    omega
  have few : (allPlans n.count n.speeds.length).length ≤ 15625 := iter_small _ g.s4 six
  omega
section
variable {P : Program} {w : World} {K : PySem.W.Frag} {mg : Str → Option Value} {base : Heap} {C : Addr}
theorem scBest : FnScope ["self", "soonest", "as_good", "shares", "clear", "earliest"] ["self"] (defScope sBest) := ⟨rfl, rfl, rfl, by decide +kernel, rfl, by decide +kernel, by decide +kernel⟩
theorem ok_best {f : Addr} {fd : FuncData} (F : Fun K "best" "Night.best" sBest f fd) (T : Txt K mg C) (cPo : CalM P w K mg base C "possible_shares" 4 ["self"] (spPoss C)) (cT : CalM P w K mg base C "times" 3 ["self", "shares", "ploughs"] (spTimes C))
    (cL : CalF P w K mg base "latest" 2 ["times"] spLatest) (cI : CalF P w K mg base "is_less" 1 ["fraction", "other"] spLess) (cJ : CalF P w K mg base "plan_of" 1 ["shares", "street_count"] spPlanOf) : FnOk P w K mg base CX0 5 f fd ["self"] (spBest C) := by
  obtain ⟨fP, fdP, GP, mP, bP⟩ := cPo
  obtain ⟨fT, fdT, GT, mT, bT⟩ := cT
  obtain ⟨fL, fdL, GL, mL, kL, bL⟩ := cL
  obtain ⟨fI, fdI, GI, mI, kI, bI⟩ := cI
  obtain ⟨fJ, fdJ, GJ, mJ, kJ, bJ⟩ := cJ
  refine F.ok scBest (fun vs H Q E h => ?_) (fun cdv A outer s H vs Q E hr h => ?_)
  · obtain ⟨a, pl, st, ap, tg, n, b, rfl, _⟩ := h
    rfl
  · obtain ⟨a, pl, st, ap, tg, n, b, rfl, N, g, k⟩ := h
    obtain ⟨dx, hi⟩ := N.ins
    obtain ⟨ss, hs, als⟩ := N.s
    have cnt : (ss.map V.ref).length = n.count := by rw [List.length_map]; exact als.1
    refine ⟨_, pss_cons (ps_set (i := 1) scBest.nd rfl (Or.inl rfl) pe_non)
      (pss_cons (ps_set (i := 2) scBest.nd rfl (Or.inl rfl) (pe_lst pa_nil))
      (pss_cons (ps_for PassesOwn.never rfl (pi_list (pe_meth0 (pv 0) T.cl mP GP (hr.mono (by decide)) bP .nil pass0)) (pg_name (i := 3) scBest.nd rfl (Or.inl rfl))
        (pss_cons (ps_set (i := 4) scBest.nd rfl (Or.inl rfl) (pe_call GL (hr.mono (by decide)) rfl mL kL bL .nil pass0 (pa_cons (pe_meth (pv 0) T.cl mT GT (hr.mono (by decide)) bT .nil pass0 (pa_cons (pv 3) (pa_cons (pe_fld (pv 0) rfl) pa_nil))) pa_nil)))
        (pss_cons (ps_if (PW.pt (pw_or (pt_cmpR op_isN (pv 1) pe_non (nomark _)) (pw_or1 (pt_val (pe_call GI (hr.mono (by decide)) rfl mI kI bI .nil pass0 (pa_cons (pv 4) (pa_cons (pv 1) pa_nil)))))))
          (pss_cons (ps_set (i := 1) scBest.nd rfl (Or.inl rfl) (pv 4)) (pss_one (ps_set (i := 2) scBest.nd rfl (Or.inl rfl) (pe_lst pa_nil)))) pss_nil)
        (pss_one (ps_if (pt_cmpR (op_eqD hr.units) (pv 4) (pv 1) (nomark _))
          (pss_one (ps_expr (pe_bm PySem.F.plainAttrs_list PySem.F.slot_list_append PySem.F.type_list_append mt_append (pv 2) (pa_cons (pv 3) pa_nil)))) pss_nil)))))
      (pss_cons (ps_if (pt_cmpR op_isN (pv 1) pe_non (nomark _)) (pss_one (ps_ret (pe_lst (pa_cons (pe_un un_neg pe_int) pa_nil)))) pss_nil)
      (pss_cons (ps_set (i := 5) scBest.nd rfl (Or.inl rfl) (pe_call GJ (hr.mono (by decide)) rfl mJ kJ bJ .nil pass0 (pa_cons (pe_ix ix_list (pv 2) pe_int (fun _ _ => rfl)) (pa_cons (pe_callB call_len_seq (by rfl) T.len PySem.boot_len (pa_cons (pe_fld (pv 0) rfl) pa_nil)) pa_nil))))
      (pss_one (ps_ret (pe_op op_cat (pe_lst (pa_cons pe_int (pa_cons (pe_ix ix_tup (pv 1) pe_int (fun _ _ => rfl)) (pa_cons (pe_ix ix_tup (pv 1) pe_int (fun _ _ => rfl)) (pa_cons (pe_callB call_len_seq (by rfl) T.len PySem.boot_len (pa_cons (pv 2) pa_nil)) pa_nil))))) (pv 5)))))))), ?_⟩
    refine ⟨Nat.zero_le _, fun D0 nD0 => ?_⟩
    have s0 : Same H (upd H D0 (.lst [])) := same_upd nD0
    have N0 := N.mono s0
    obtain ⟨dx0, hi0⟩ := N0.ins
    refine ⟨_, rfl, a, dx0, _, rfl, hi0, nF_no (by decide +kernel) (by decide +kernel) (by decide +kernel) (by decide +kernel), ?_⟩
    refine ⟨a, pl, st, ap, tg, n, b, rfl, N0, g, fun H1 q s1 nq ⟨as, hq, al⟩ => ?_⟩
    have s01 := s0.trans s1
    have hq1 := (mns_of hq).2
    have mD0 : mns H1 (upd H D0 (.lst [])) D0 = none := by
      unfold mns
      rw [upd_same]
      rfl
    have sM : Same (mns H1 (upd H D0 (.lst []))) H1 := mns_same _ _
    have fM : ∀ D, H1 D = none → mns H1 (upd H D0 (.lst [])) D = none := fun D hD => by
      unfold mns
      rw [hD]
      split <;> rfl
    have hDs := s1 _ _ (show (upd H D0 (.lst [])) D0 = some (.lst []) from upd_same)
    generalize mns H1 (upd H D0 (.lst [])) = M at *
    have hqM : M q = some (.lst (as.map V.ref)) := hq
    refine ⟨q, rfl, ⟨_, SqL.of hq1⟩, for_list (K := K) (a := q) (xs := as.map V.ref) (fun i σ H' => BI H M a (((possible n).take i).foldl (bstep n) (none, [])) σ H')
      ⟨D0, [], .non, none, none, none, rfl, s01, sM, mD0, nD0, hDs, Al.nil, rfl⟩ (fun i σ H' _ ⟨_, _, _, _, _, _, _, _, m, _⟩ => SqL.of (m _ _ hqM)) ?_ ?_⟩
    · rintro i x σ H2 hx ⟨D, es, sv, v3, v4, v5, rfl, s2, m2, mD, hD, hl, ale, hsv⟩
      obtain ⟨c, hc, rfl⟩ := refs_get hx
      obtain ⟨sh, hsh, rc⟩ := al.get hc
      obtain ⟨ok, lsh⟩ := shok_of g (List.mem_of_getElem? hsh)
      obtain ⟨tne, tlat⟩ := lat_ok g ok g.p1
      have bl := bfold_len n ((possible n).take i) (none, [])
      have fs := fold_more (bstep n) (none, []) hsh
      have bl : (((possible n).take i).foldl (bstep n) (none, [])).2.length ≤ 15625 := by
        refine Nat.le_trans bl ?_
        rw [List.length_take]
        have := poss_len g
        show 0 + _ ≤ _
        omega
      generalize ((possible n).take i).foldl (bstep n) (none, []) = stt at *
      have N2 := N.mono s2
      obtain ⟨dx2, hi2⟩ := N2.ins
      refine ⟨_, rfl, a, dx2, _, rfl, hi2, nF_no (by decide +kernel) (by decide +kernel) (by decide +kernel) (by decide +kernel), _, rfl, _, rfl, a, C, dx2, _, _, rfl, hi2, T.cl, T.nP, nF_p, ?_⟩
      refine ⟨a, c, pl, pl, st, ap, tg, n, b, sh, n.speeds, rfl, N2, g, RSh.mono m2 rc, N2.p, ok, fun H3 q3 s3 nq3 hq3 => ?_⟩
      have s4 := s2.trans s3
      have m4 := m2.trans s3
      have tok := times_ok g ok
      refine ⟨q3, _, rfl, tne, hq3, tok, fun p6 hp6 => ?_⟩
      generalize hc4 : Si79.latest (timesV n sh n.speeds) = cl at *
      have hl3 := s3 _ _ hl
      have app : ∀ (t : Time) (D : Addr) (es : List Addr) (l : List (List (List Nat))) (H' : Hp) (p : Addr), Same H H' → Same M H' → M D = none → H D = none → H' D = some (.lst (es.map V.ref)) → Al (RSh M) es l → l.length ≤ 15625 → RTm H' p t → TmOk t → bstep n stt sh = (some t, l ++ [sh]) →
          ∃ l' xs y, V.ref D = .ref l' ∧ [V.ref c] = [y] ∧ H' l' = some (.lst xs) ∧ xs.length < sizeLine ∧ BI H M a (((possible n).take (i + 1)).foldl (bstep n) (none, [])) [some (.ref a), some (.ref p), some (.ref D), some (.ref c), some (.ref p6), v5] (upd H' l' (.lst (xs ++ [y]))) := fun t D es l H' p a1 a2 a3 a4 a5 a6 a7 a8 a9 a10 => by
        refine ⟨D, _, _, rfl, rfl, a5, by rw [List.length_map, a6.1]; exact line_lt (by omega), ?_⟩
        rw [fs, a10]
        exact BI.app a1 a2 a3 a4 a5 a6 rc a8 a9
      refine ⟨_, rfl, rfl, _, rfl, ?_⟩
      cases hst : stt.1 with
      | none =>
        rw [hst] at hsv
        have hsv : sv = .non := hsv
        subst hsv
        refine ifT (decide_eq_true rfl) ?_
        refine ⟨_, rfl, Nat.zero_le _, fun D7 nD7 => ?_⟩
        have s7 : Same H3 (upd H3 D7 (.lst [])) := same_upd nD7
        have hp7 := RTm.mono s7 hp6
        refine ⟨_, rfl, _, rfl, _, _, dp_pair (x := (cl.n, cl.d)) hp7, dp_pair (x := (cl.n, cl.d)) hp7, prd_shaped _, prd_shaped _, _, rfl, ?_⟩
        rw [prd_eqv]
        refine ifT (decide_eq_true rfl) ⟨_, rfl, .inl ⟨rfl, _, SqL.of (show (upd H3 D7 (.lst [])) D7 = some (.lst ([].map V.ref)) from upd_same)⟩, _, rfl, ?_⟩
        refine app cl D7 [] [] _ p6 (s4.trans s7) (m4.trans s7) (m4.free nD7) (s4.free nD7) upd_same Al.nil (Nat.zero_le _) hp7 tlat ?_
        unfold bstep
        simp only
        rw [hst, hc4]
        simp only [if_true]
      | some t =>
        rw [hst] at hsv
        obtain ⟨p, rfl, hp, tk⟩ := hsv
        refine ifF (decide_eq_false (by intro h; cases h)) ?_
        have hp3 := RTm.mono s3 hp
        refine ⟨_, rfl, _, rfl, p6, p, (cl.n, cl.d), (t.n, t.d), rfl, hp6, hp3, ⟨tlat.2.1, tlat.2.2, tk.2.1, tk.2.2⟩, _, rfl, ?_⟩
        refine ifD (fun c1 => ?_) (fun c1 => ?_)
        · have lt : Si75.less cl t = true := decide_eq_true c1
          refine ⟨_, rfl, Nat.zero_le _, fun D7 nD7 => ?_⟩
          have s7 : Same H3 (upd H3 D7 (.lst [])) := same_upd nD7
          have hp7 := RTm.mono s7 hp6
          refine ⟨_, rfl, _, rfl, _, _, dp_pair (x := (cl.n, cl.d)) hp7, dp_pair (x := (cl.n, cl.d)) hp7, prd_shaped _, prd_shaped _, _, rfl, ?_⟩
          rw [prd_eqv]
          refine ifT (decide_eq_true rfl) ⟨_, rfl, .inl ⟨rfl, _, SqL.of (show (upd H3 D7 (.lst [])) D7 = some (.lst ([].map V.ref)) from upd_same)⟩, _, rfl, ?_⟩
          refine app cl D7 [] [] _ p6 (s4.trans s7) (m4.trans s7) (m4.free nD7) (s4.free nD7) upd_same Al.nil (Nat.zero_le _) hp7 tlat ?_
          unfold bstep
          simp only
          rw [hst, hc4]
          simp only [lt, if_true]
        · have lt : ¬ Si75.less cl t = true := fun q => c1 (of_decide_eq_true q)
          have eb : bstep n stt sh = if stt.1 = some cl then (stt.1, stt.2 ++ [sh]) else stt := by
            unfold bstep
            simp only
            rw [hst, hc4]
            simp only [lt, Bool.false_eq_true, if_false, hst]
          refine ⟨_, rfl, _, rfl, _, _, dp_pair (x := (cl.n, cl.d)) hp6, dp_pair (x := (t.n, t.d)) hp3, prd_shaped _, prd_shaped _, _, rfl, ?_⟩
          rw [prd_eqv]
          refine ifD (fun c2 => ?_) (fun c2 => ?_)
          · have c2 : cl = t := by
              cases cl
              cases t
              cases c2
              rfl
            subst c2
            refine ⟨_, rfl, .inl ⟨rfl, _, SqL.of hl3⟩, _, rfl, ?_⟩
            refine app cl D es stt.2 _ p s4 m4 mD hD hl3 ale bl hp3 tk ?_
            rw [eb, if_pos hst, hst]
          · have c2 : ¬ stt.1 = some cl := fun q => c2 (by
              rw [hst] at q
              have := Option.some.inj q
              rw [this])
            rw [fs, eb, if_neg c2]
            exact ⟨D, es, _, _, _, _, rfl, s4, m4, mD, hD, hl3, ale, by rw [hst]; exact ⟨p, rfl, hp3, tk⟩⟩
    · rintro σ H2 ⟨D, es, sv, v3, v4, v5, rfl, s2, m2, mD, hD, hl, ale, hsv⟩
      rw [List.length_map, al.1, List.take_length] at ale hsv
      have br := SnowM.best_rel g
      have bl := bfold_len n (possible n) (none, [])
      have bl : ((possible n).foldl (bstep n) (none, [])).2.length ≤ 15625 := by
        refine Nat.le_trans bl ?_
        have := poss_len g
        show 0 + _ ≤ _
        omega
      generalize (possible n).foldl (bstep n) (none, []) = stt at *
      have N2 := N.mono s2
      obtain ⟨dx2, hi2⟩ := N2.ins
      obtain ⟨ss2, hs2, als2⟩ := N2.s
      have cnt2 : (ss2.map V.ref).length = n.count := by rw [List.length_map]; exact als2.1
      refine ⟨_, rfl, rfl, _, rfl, ?_⟩
      cases hb : n.best with
      | none =>
        rw [hb] at br
        have br : stt = (none, []) := br
        subst br
        have hsv : sv = .non := hsv
        subst hsv
        have e : Si79.step n .best = (n, Si79.ok (-6)) := by
          unfold Si79.step
          rw [hb]
        exact ifT (decide_eq_true rfl) ⟨_, rfl, by show 1 ≤ sizeLine; decide, fun r nr => post_same k N (by rw [e]) (s2.trans (same_upd nr)) (s2.free nr) (zs := [-6]) (by unfold RI; rw [upd_same]; rfl) (by rw [e]; rfl)⟩
      | some x =>
        rw [hb] at br
        obtain ⟨rest, rfl, hmany, hrow⟩ := br
        obtain ⟨p, rfl, hp, tk⟩ := hsv
        refine ifF (decide_eq_false (by intro h; cases h)) ?_
        have hf := SnowM.plans_formed g hrow
        have pp := g.pl hf
        obtain ⟨e0, he0, r0⟩ := ale.get2 (i := 0) rfl
        have e : Si79.step n .best = (n, ⟨0, Si79.ints (Si79.both x.time ++ (x.many :: x.row))⟩) := by
          unfold Si79.step
          rw [hb]
        refine ⟨_, rfl, D, _, _, _, rfl, rfl, SqL.of hl, atI_nat (j := 0) (refs_at he0), _, rfl, a, C, dx2, _, _, rfl, hi2, T.cl, T.nS, nF_s, st, _, rfl, .inl (SqL.of hs2), ?_⟩
        rw [cnt2]
        refine ⟨e0, parts n.count x.row, n.count, rfl, RSh.mono m2 r0, SnowM.parts_ne _ _, by rw [pp.join]; exact Nat.le_trans pp.six (by decide), fun H3 q3 s3 nq3 hq3 => ?_⟩
        rw [pp.join] at hq3
        have s4 := s2.trans s3
        have hp3 : H3 p = some (.tup [ci x.time.n, ci x.time.d]) := s3 _ _ hp
        refine ⟨_, rfl, p, _, _, _, rfl, rfl, SqT.of hp3, atI_nat (j := 0) rfl, _, rfl, p, _, _, _, rfl, rfl, SqT.of hp3, atI_nat (j := 1) rfl, _, rfl, D, _, rfl, .inl (SqL.of (s3 _ _ hl)), by show 4 ≤ sizeLine; decide, fun d nd => ?_⟩
        have hd : ∀ z : V, (upd H3 d (.lst [V.int 0, ci x.time.n, ci x.time.d, z])) d = some (.lst [V.int 0, ci x.time.n, ci x.time.d, z]) := fun z => upd_same
        refine ⟨_, rfl, d, q3, _, _, rfl, rfl, hd _, by rw [upd_ne (ne_of_none hq3 nd)]; exact hq3, ?_, fun r nr => ?_⟩
        · rw [vi_len]
          refine line_le ?_
          have := pp.six
          show 4 + _ ≤ _
          omega
        · refine post_same k N (by rw [e]) ((s4.trans (same_upd nd)).trans (same_upd nr)) ((s4.trans (same_upd nd)).free nr) (zs := 0 :: SnowM.cast (Si79.both x.time ++ (x.many :: x.row))) ?_ (by rw [e]; rfl)
          have el : (es.map V.ref).length = x.many := by
            rw [List.length_map, ale.1, ← hmany]
            rfl
          unfold RI
          rw [upd_same, el, List.map_cons, ← vi_ints, vi_app]
          rfl
end
end SnowB
/-! ## part B12 -/
namespace SnowB
open PySem PySem.Spec PyProof.Rows L2
open SnowM (Time numbersOf iterP allPlans joinP oneP firstP Good whyNot timesV possible Pl sortP rowsOf Shr ahead)
open Si79 (parts Night)
def spOrder (C : Addr) : Sp := fun vs H Q _ => ∃ (a l pl st ap tg : Addr) (n : Night) (b : Nat) (S : List Nat), vs = [.ref a, .ref l] ∧ NightAt C H a n pl st ap tg ∧ Good n b ∧ RN H l S ∧ S.length ≤ 8 ∧ (∀ k ∈ S, k < n.count) ∧
  ∀ (H' : Hp) (q : Addr), Same H H' → H q = none → RN (mns H' H) q (sortP n S) → Q (.ref q) H'
theorem sort_len (n : Night) : ∀ S l : List Nat, (S.foldl (fun l i => Si79.put n i l) l).length = l.length + S.length
  | [], l => rfl
  | i :: S, l => by
    rw [List.foldl_cons, sort_len n S, (SnowM.put_perm n i l).length_eq, List.length_cons, List.length_cons]
    omega
theorem not_less_sooner (a b : Si79.Street) : (!decide (b.metres * a.grows < a.metres * b.grows)) = Si79.sooner a b := by
  unfold Si79.sooner
  rw [← decide_not]
  exact decide_eq_decide.mpr (by omega)
section
variable {P : Program} {w : World} {K : PySem.W.Frag} {mg : Str → Option Value} {base : Heap} {C : Addr}
theorem scOrder : FnScope ["self", "streets", "share", "street", "own", "ahead", "other"] ["self", "streets"] (defScope sOrder) := ⟨rfl, rfl, rfl, by decide +kernel, rfl, by decide +kernel, by decide +kernel⟩
theorem ok_order {f : Addr} {fd : FuncData} (F : Fun K "in_order_of_ratio" "Night.in_order_of_ratio" sOrder f fd) (T : Txt K mg C) (cI : CalF P w K mg base "is_less" 1 ["fraction", "other"] spLess) : FnOk P w K mg base CX0 2 f fd ["self", "streets"] (spOrder C) := by
  obtain ⟨fI, fdI, GI, mI, kI, bI⟩ := cI
  refine F.ok scOrder (fun vs H Q E h => ?_) (fun cdv A outer s H vs Q E hr h => ?_)
  · obtain ⟨a, l, pl, st, ap, tg, n, b, S, rfl, _⟩ := h
    rfl
  · obtain ⟨a, l, pl, st, ap, tg, n, b, S, rfl, N, g, hl, hlen, hS, k⟩ := h
    obtain ⟨dx, hi⟩ := N.ins
    obtain ⟨ss, hs, als⟩ := N.s
    refine ⟨_, pss_cons (ps_set (i := 2) scOrder.nd rfl (Or.inl rfl) (pe_lst pa_nil))
      (pss_cons (ps_for PassesOwn.never rfl (pi_list (pv 1)) (pg_name (i := 3) scOrder.nd rfl (Or.inl rfl))
        (pss_cons (ps_set (i := 4) scOrder.nd rfl (Or.inr rfl) (pe_ix ix_list (pe_fld (pv 0) rfl) (pv 3) (fun _ _ => rfl)))
        (pss_cons (ps_setLc (i := 5) (own := [("other", 6)]) (g := gName 6) (te := tVar 6) (tt := tNot (tB (tCall spLess [] E0 (tCons (tVar 4) (tCons (tOp (rIxL K) (tFld K (tVar 0) "streets") (tVar 6)) tNil))))) rfl scOrder.nd rfl rfl (sw_true rfl rfl rfl (by decide +kernel)) (pi_list (pv 2))
          (blkOk_by (own := [("other", 6)]) (N := ["self", "streets", "share", "street", "own", "ahead", "other"]) (sc := defScope sOrder) (by decide +kernel))
          (fun _ _ _ _ _ => pg_name (i := 6) scOrder.nd rfl (Or.inl rfl))
          (fun _ _ _ _ _ => pts_one (pt_not (pt_val (pe_call GI (hr.mono (by decide)) rfl mI kI bI .nil pass0 (pa_cons (pv 4) (pa_cons (pe_ix ix_list (pe_fld (pv 0) rfl) (pv 6) (fun _ _ => rfl)) pa_nil))))))
          (fun _ _ _ _ _ => pv 6))
        (pss_one (ps_expr (pe_bm PySem.F.plainAttrs_list PySem.F.slot_list_insert PySem.F.type_list_insert mt_insert (pv 2) (pa_cons (pe_callB call_len_seq (by rfl) T.len PySem.boot_len (pa_cons (pv 5) pa_nil)) (pa_cons (pv 3) pa_nil))))))))
      (pss_one (ps_ret (pv 2)))), ?_⟩
    refine ⟨Nat.zero_le _, fun D nD => ?_⟩
    have s0 : Same H (upd H D (.lst [])) := same_upd nD
    refine ⟨_, rfl, l, rfl, ⟨_, SqL.of (s0 _ _ hl)⟩, for_list (K := K) (a := l) (xs := vi S) (fun i σ H' => ∃ v3 v4 v5 v6 : Option V, σ = [some (.ref a), some (.ref l), some (.ref D), v3, v4, v5, v6] ∧ Same H H' ∧ RN H' D (sortP n (S.take i)))
      ⟨none, none, none, none, rfl, s0, by unfold RN; rw [upd_same]; rfl⟩ (fun i σ H' _ ⟨_, _, _, _, _, q, _⟩ => SqL.of (q _ _ hl)) ?_ ?_⟩
    · rintro i x σ H1 hx ⟨v3, v4, v5, v6, rfl, s1, hD⟩
      obtain ⟨j, hj, rfl⟩ := vi_get hx
      have hjc := hS j (List.mem_of_getElem? hj)
      have N1 := N.mono s1
      obtain ⟨dx1, hi1⟩ := N1.ins
      have hST : ∀ k ∈ S.take i, k < n.count := fun k hk => hS k (List.mem_of_mem_take hk)
      obtain ⟨so1, so2⟩ := SnowM.sort_ok g hST
      have fs : sortP n (S.take (i + 1)) = Si79.put n j (sortP n (S.take i)) := by
        unfold sortP
        exact fold_more _ _ hj
      have sl : (sortP n (S.take i)).length ≤ 8 := by
        unfold sortP
        rw [sort_len, List.length_take]
        show 0 + _ ≤ _
        omega
      have so3 : ∀ k ∈ sortP n (S.take i), k < n.count := fun k hk => hST k (so1.mem_iff.mp hk)
      generalize sortP n (S.take i) = so at *
      have street : ∀ k, k < n.count → ∃ u, (ss.map V.ref)[k]? = some (.ref u) ∧ RSt H u (n.street k) := fun k hk => by
        have hst : n.streets[k]? = some (n.street k) := by
          rw [SnowM.street_get n hk]
          exact List.getElem?_eq_getElem hk
        obtain ⟨u, hu, ru⟩ := als.get2 hst
        exact ⟨u, refs_at hu, ru⟩
      obtain ⟨u, hu, ru⟩ := street j hjc
      refine ⟨_, rfl, a, C, dx1, _, _, rfl, hi1, T.cl, T.nS, nF_s, _, rfl, st, _, _, _, rfl, rfl, SqL.of (s1 _ _ hs), atI_nat hu, ?_⟩
      refine ⟨_, rfl, D, rfl, ⟨_, SqL.of hD⟩, fun D2 nD2 => ?_⟩
      refine lc_list (K := K) (a := D) (xs := vi so) (fun m H' => Same H1 H' ∧ RN H' D2 (ahead n j (so.take m))) ⟨same_upd nD2, upd_same⟩ (fun m H' _ h => SqL.of (h.1 _ _ hD)) ?_ ?_
      · rintro m x H2 hx ⟨s2, hD2⟩
        obtain ⟨o, ho, rfl⟩ := vi_get hx
        have hoc := so3 o (List.mem_of_getElem? ho)
        obtain ⟨u2, hu2, ru2⟩ := street o hoc
        have s3 := s1.trans s2
        have b1 := SnowM.street_ok g hjc
        have b2 := SnowM.street_ok g hoc
        have le : (1000 : Nat) < 2 ^ 200 := by decide
        have lf := List.length_filter_le (fun k => Si79.sooner (n.street k) (n.street j)) (so.take m)
        rw [List.length_take] at lf
        refine ⟨rfl, ?_⟩
        refine ⟨_, rfl, _, rfl, a, C, dx1, _, _, rfl, s2 _ _ hi1, T.cl, T.nS, nF_s, _, rfl, st, _, _, _, rfl, rfl, SqL.of (s3 _ _ hs), atI_nat hu2, ?_⟩
        refine ⟨u, u2, ((n.street j).metres, (n.street j).grows), ((n.street o).metres, (n.street o).grows), rfl, s3 _ _ ru, s3 _ _ ru2, ⟨by unfold Bnd; show (n.street j).metres < _; omega, by unfold Bnd; show (n.street j).grows < _; omega, by unfold Bnd; show (n.street o).metres < _; omega, by unfold Bnd; show (n.street o).grows < _; omega⟩, _, rfl, ?_⟩
        have en := not_less_sooner (n.street o) (n.street j)
        have tk : ahead n j (so.take (m + 1)) = ahead n j (so.take m) ++ (if Si79.sooner (n.street o) (n.street j) = true then [o] else []) := by
          unfold ahead
          rw [take_more ho, List.filter_append, List.filter_cons, List.filter_nil]
        cases hw : Si79.sooner (n.street o) (n.street j) with
        | true =>
          refine ifT (en.trans hw) ⟨_, rfl, _, hD2, ?_, same_upd2 s2 nD2, ?_⟩
          · rw [vi_len]
            exact line_lt (by unfold ahead; omega)
          · unfold RN
            rw [upd_same, tk, hw, if_pos rfl, vi_snoc]
        | false =>
          refine ifF (en.trans hw) ⟨s2, ?_⟩
          rw [tk, hw, if_neg (by simp), List.append_nil]
          exact hD2
      · rintro H2 ⟨s2, hD2⟩
        rw [vi_len, List.take_length] at hD2
        have la : (ahead n j so).length ≤ 8 := Nat.le_trans (List.length_filter_le _ _) sl
        have hD3 := s2 _ _ hD
        refine ⟨_, rfl, .inl ⟨rfl, _, SqL.of hD3⟩, _, rfl, D2, _, rfl, .inl (SqL.of hD2), ?_⟩
        rw [vi_len]
        refine ⟨_, rfl, D, _, _, _, rfl, rfl, hD3, by rw [vi_len]; exact line_lt (by omega), by omega, by omega, ?_⟩
        refine ⟨_, _, _, _, rfl, same_upd2 (s1.trans s2) nD, ?_⟩
        unfold RN
        rw [upd_same, fs, SnowM.put_at n (fun y hy => (SnowM.street_ok g (so3 y hy)).1) so2, Int.toNat_natCast, vi_app, vi_app]
        unfold vi
        rw [List.map_take, List.map_drop]
        rfl
    · rintro σ H1 ⟨v3, v4, v5, v6, rfl, s1, hD⟩
      rw [vi_len, List.take_length] at hD
      exact ⟨_, rfl, k H1 D s1 nD (by unfold RN; rw [mns_eq nD]; exact hD)⟩
end
end SnowB
/-! ## part B13 -/
namespace SnowB
open PySem PySem.Spec PyProof.Rows L2
open SnowM (Time numbersOf iterP allPlans joinP oneP firstP Good whyNot timesV possible Pl sortP rowsOf Shr)
open Si79 (parts Night)
def spRatio (C : Addr) : Sp := fun vs H Q _ => ∃ (a l pl st ap tg : Addr) (n : Night) (b : Nat) (s : List Nat), vs = [.ref a, .ref l] ∧ NightAt C H a n pl st ap tg ∧ Good n b ∧ RN H l s ∧ s.length ≤ 8 ∧ Post C n (.ratio s) H a pl st ap tg Q
theorem rows_get (n : Night) (s : List Nat) {k : Nat} (h : k < n.speeds.length) : (rowsOf n s)[k]? = some (sortP n ((List.range n.count).filter fun i => s.getD i 0 == k)) := by
  unfold rowsOf
  rw [List.getElem?_map, List.getElem?_range h]
  rfl
section
variable {P : Program} {w : World} {K : PySem.W.Frag} {mg : Str → Option Value} {base : Heap} {C : Addr}
theorem scRatio : FnScope ["self", "owners", "shares", "plough", "can_be", "clear", "owner"] ["self", "owners"] (defScope sRatio) := ⟨rfl, rfl, rfl, by decide +kernel, rfl, by decide +kernel, by decide +kernel⟩
theorem ok_ratio {f : Addr} {fd : FuncData} (F : Fun K "ratio" "Night.ratio" sRatio f fd) (T : Txt K mg C) (cO : CalM P w K mg base C "in_order_of_ratio" 2 ["self", "streets"] (spOrder C)) (cS : CalF P w K mg base "streets_of" 1 ["plough", "owners"] spStreets)
    (cW : CalM P w K mg base C "why_not" 3 ["self", "shares"] (spWhy C)) (cT : CalM P w K mg base C "times" 3 ["self", "shares", "ploughs"] (spTimes C))
    (cL : CalF P w K mg base "latest" 2 ["times"] spLatest) (cJ : CalF P w K mg base "plan_of" 1 ["shares", "street_count"] spPlanOf) : FnOk P w K mg base CX0 4 f fd ["self", "owners"] (spRatio C) := by
  obtain ⟨fO, fdO, GO, mO, bO⟩ := cO
  obtain ⟨fS, fdS, GS, mS, kS, bS⟩ := cS
  obtain ⟨fW, fdW, GW, mW, bW⟩ := cW
  obtain ⟨fT, fdT, GT, mT, bT⟩ := cT
  obtain ⟨fL, fdL, GL, mL, kL, bL⟩ := cL
  obtain ⟨fJ, fdJ, GJ, mJ, kJ, bJ⟩ := cJ
  refine F.ok scRatio (fun vs H Q E h => ?_) (fun cdv A outer s H vs Q E hr h => ?_)
  · obtain ⟨a, l, pl, st, ap, tg, n, b, S, rfl, _⟩ := h
    rfl
  · obtain ⟨a, l, pl, st, ap, tg, n, b, S, rfl, N, g, hl, hlen, k⟩ := h
    obtain ⟨dx, hi⟩ := N.ins
    obtain ⟨ss, hs, als⟩ := N.s
    have cnt : (ss.map V.ref).length = n.count := by rw [List.length_map]; exact als.1
    refine ⟨_, pss_cons (ps_if (pt_cmpR op_ne (pe_callB call_len_seq (by rfl) T.len PySem.boot_len (pa_cons (pv 1) pa_nil)) (pe_callB call_len_seq (by rfl) T.len PySem.boot_len (pa_cons (pe_fld (pv 0) rfl) pa_nil)) (nomark _))
        (pss_one (ps_ret (pe_lst (pa_cons (pe_un un_neg pe_int) pa_nil)))) pss_nil)
      (pss_cons (ps_if (pt_val (pe_callB (cr_any rfl) (by rfl) T.any (by decide +kernel) (pa_cons (pe_lc (own := [("owner", 6)]) (g := gName 6)
          (te := tOp (rI0 fun i j => .bl (decide (j ≤ i))) (tVar 6) (tCB (fun xs H Q => ∃ p ys, xs = [.ref p] ∧ (SqL K H p ys ∨ SqT K H p ys) ∧ Q (.int ys.length) H) (tCons (tFld K (tVar 0) "ploughs") tNil))) rfl scRatio.nd (pi_list (pv 1))
          (blkOk_by (own := [("owner", 6)]) (N := ["self", "owners", "shares", "plough", "can_be", "clear", "owner"]) (sc := defScope sRatio) (by decide +kernel))
          (fun _ _ _ _ _ => pg_name (i := 6) scRatio.nd rfl (Or.inl rfl)) (fun _ _ _ _ _ => pts_nil)
          (fun _ _ _ _ _ => pe_cmpR op_ge (pv 6) (pe_callB call_len_seq (by rfl) T.len PySem.boot_len (pa_cons (pe_fld (pv 0) rfl) pa_nil)) (nomark _))) pa_nil)))
        (pss_one (ps_ret (pe_lst (pa_cons (pe_un un_neg pe_int) pa_nil)))) pss_nil)
      (pss_cons (ps_set (i := 2) scRatio.nd rfl (Or.inl rfl) (pe_lst pa_nil))
      (pss_cons (ps_for PassesOwn.never rfl (pi_range1 rfl T.range (pa_cons (pe_callB call_len_seq (by rfl) T.len PySem.boot_len (pa_cons (pe_fld (pv 0) rfl) pa_nil)) pa_nil)) (pg_name (i := 3) scRatio.nd rfl (Or.inl rfl))
        (pss_one (ps_expr (pe_bm PySem.F.plainAttrs_list PySem.F.slot_list_append PySem.F.type_list_append mt_append (pv 2) (pa_cons
          (pe_meth (pv 0) T.cl mO GO (hr.mono (by decide)) bO .nil pass0 (pa_cons (pe_call GS (hr.mono (by decide)) rfl mS kS bS .nil pass0 (pa_cons (pv 3) (pa_cons (pv 1) pa_nil))) pa_nil)) pa_nil)))))
      (pss_cons (ps_set (i := 4) scRatio.nd rfl (Or.inl rfl) (pe_ifExp (pt_truth (pe_meth (pv 0) T.cl mW GW (hr.mono (by decide)) bW .nil pass0 (pa_cons (pv 2) pa_nil)) (by intro _; rfl)) pe_int pe_int))
      (pss_cons (ps_set (i := 5) scRatio.nd rfl (Or.inl rfl) (pe_call GL (hr.mono (by decide)) rfl mL kL bL .nil pass0 (pa_cons (pe_meth (pv 0) T.cl mT GT (hr.mono (by decide)) bT .nil pass0 (pa_cons (pv 2) (pa_cons (pe_fld (pv 0) rfl) pa_nil))) pa_nil)))
      (pss_one (ps_ret (pe_op op_cat (pe_lst (pa_cons (pv 4) (pa_cons (pe_ix ix_tup (pv 5) pe_int (fun _ _ => rfl)) (pa_cons (pe_ix ix_tup (pv 5) pe_int (fun _ _ => rfl)) pa_nil))))
        (pe_call GJ (hr.mono (by decide)) rfl mJ kJ bJ .nil pass0 (pa_cons (pv 2) (pa_cons (pe_callB call_len_seq (by rfl) T.len PySem.boot_len (pa_cons (pe_fld (pv 0) rfl) pa_nil)) pa_nil))))))))))), ?_⟩
    have bad : (S.length ≠ n.count ∨ (S.all fun k => decide (k < n.speeds.length)) = false) → ∀ (H1 : Hp), Same H H1 → ∀ r, H1 r = none → Q (.ref r) (upd H1 r (.lst [V.int (-1)])) := fun c H1 s1 r nr => by
      have e : Si79.step n (.ratio S) = (n, Si79.ok (-1)) := if_pos c
      exact post_same k N (by rw [e]) (s1.trans (same_upd nr)) (s1.free nr) (zs := [-1]) (by unfold RI; rw [upd_same]; rfl) (by rw [e]; rfl)
    refine ⟨_, rfl, l, _, rfl, .inl (SqL.of hl), _, rfl, a, C, dx, _, _, rfl, hi, T.cl, T.nS, nF_s, st, _, rfl, .inl (SqL.of hs), rfl, _, rfl, ?_⟩
    rw [cnt, vi_len, ci_eq]
    cases c1 : (S.length == n.count) with
    | false => exact ifT rfl ⟨_, rfl, by show 1 ≤ sizeLine; decide, fun r nr => bad (.inl (beq_eq_false_iff_ne.mp c1)) H (Same.refl H) r nr⟩
    | true =>
      have c1 : S.length = n.count := beq_iff_eq.mp c1
      refine ifF rfl ?_
      refine ⟨_, rfl, l, rfl, ⟨_, SqL.of hl⟩, fun D nD => ?_⟩
      have s0 : Same H (upd H D (.lst [])) := same_upd nD
      refine lc_list (K := K) (a := l) (xs := vi S) (fun m H' => Same H H' ∧ H' D = some (.lst (((S.take m).map fun v => decide (n.speeds.length ≤ v)).map V.bl))) ⟨s0, upd_same⟩ (fun m H' _ h => SqL.of (h.1 _ _ hl)) ?_ ?_
      · rintro m x H1 hx ⟨s1, hD⟩
        obtain ⟨v, hv, rfl⟩ := vi_get hx
        refine ⟨rfl, ?_⟩
        refine ⟨_, rfl, _, rfl, a, C, dx, _, _, rfl, s1 _ _ hi, T.cl, T.nP, nF_p, pl, _, rfl, .inl (SqL.of (s1 _ _ N.p)), _, _, rfl, rfl, _, hD, ?_, same_upd2 s1 nD, ?_⟩
        · rw [List.length_map, List.length_map, List.length_take]
          exact line_lt (by omega)
        · rw [upd_same, take_more hv, List.map_append, List.map_append, vi_len]
          have e : decide ((n.speeds.length : Int) ≤ (v : Int)) = decide (n.speeds.length ≤ v) := decide_eq_decide.mpr (by omega)
          show some (HO.lst (_ ++ [V.bl (decide ((n.speeds.length : Int) ≤ (v : Int)))])) = _
          rw [e]
          rfl
      · rintro H1 ⟨s1, hD⟩
        rw [vi_len, List.take_length] at hD
        refine ⟨D, _, rfl, SqL.of hD, _, rfl, ?_⟩
        have et : ((S.map fun v => decide (n.speeds.length ≤ v)).any id) = !(S.all fun k => decide (k < n.speeds.length)) := by
          rw [List.any_map, List.not_all_eq_any_not]
          congr 1
          funext v
          show decide (n.speeds.length ≤ v) = !decide (v < n.speeds.length)
          rw [← decide_not]
          exact decide_eq_decide.mpr (by omega)
        rw [et]
        cases c2 : (S.all fun k => decide (k < n.speeds.length)) with
        | false => exact ifT rfl ⟨_, rfl, by show 1 ≤ sizeLine; decide, fun r nr => bad (.inr c2) H1 s1 r nr⟩
        | true =>
          refine ifF rfl ?_
          have sh : Shr n S := ⟨c1, fun x hx => of_decide_eq_true (List.all_eq_true.mp c2 x hx)⟩
          have hf := SnowM.byRatio_formed g sh
          have pp := g.pl hf
          have ep := SnowM.byRatio_parts g S
          have e : Si79.step n (.ratio S) = (n, ⟨(if n.right (n.byRatio S) = true then 1 else 0), Si79.ints (Si79.both (n.clear (n.byRatio S)) ++ n.byRatio S)⟩) := if_neg (fun q => q.elim (fun q => q c1) (fun q => by rw [c2] at q; cases q))
          refine ⟨Nat.zero_le _, fun D2 nD2 => ?_⟩
          have s2 : Same H (upd H1 D2 (.lst [])) := s1.trans (same_upd nD2)
          have fD2 : H D2 = none := s1.free nD2
          refine ⟨_, rfl, a, C, dx, _, _, rfl, s2 _ _ hi, T.cl, T.nP, nF_p, pl, _, rfl, .inl (SqL.of (s2 _ _ N.p)), _, rfl, by omega, by rw [vi_len]; have := g.p3; omega,
            for_range (lo := 0) (fun j σ H' => ∃ (es : List Addr) (v3 v4 v5 v6 : Option V), σ = [some (.ref a), some (.ref l), some (.ref D2), v3, v4, v5, v6] ∧ Same H H' ∧ H' D2 = some (.lst (es.map V.ref)) ∧ Al (RN (rmv H' D2)) es ((rowsOf n S).take j))
            ⟨[], none, none, none, none, rfl, s2, upd_same, Al.nil⟩ ?_ ?_⟩
          · rintro j σ H2 hj ⟨es, v3, v4, v5, v6, rfl, s3, hD2, ale⟩
            have hj : j < n.speeds.length := by rw [vi_len, Int.toNat_natCast] at hj; exact hj
            have N2 := N.mono s3
            obtain ⟨dx2, hi2⟩ := N2.ins
            refine ⟨_, rfl, .inl ⟨rfl, _, SqL.of hD2⟩, _, rfl, a, dx2, _, rfl, hi2, nF_no (by decide +kernel) (by decide +kernel) (by decide +kernel) (by decide +kernel), _, rfl, _, rfl, ?_⟩
            refine ⟨l, S, j, by rw [zero_ci]; rfl, s3 _ _ hl, by omega, fun H3 q3 s4 nq3 hq3 => ?_⟩
            rw [c1] at hq3
            have s5 := s3.trans s4
            refine ⟨a, q3, pl, st, ap, tg, n, b, _, rfl, N.mono s5, g, hq3, ?_, fun k hk => SnowM.filt_lt hk, fun H4 q4 s6 nq4 hq4 => ?_⟩
            · refine Nat.le_trans (List.length_filter_le _ _) ?_
              rw [List.length_range]
              exact Nat.le_trans g.s4 (by decide)
            · have s7 := s4.trans s6
              have hD4 := s7 _ _ hD2
              have l4 : es.length ≤ 3 := by
                rw [ale.1, List.length_take]
                have := g.p3
                omega
              refine ⟨D2, _, _, rfl, rfl, hD4, by rw [List.length_map]; exact line_lt (by omega), ?_⟩
              refine ⟨es ++ [q4], _, _, _, _, rfl, same_upd2 (s3.trans s7) fD2, by rw [upd_same, List.map_append]; rfl, ?_⟩
              rw [take_more (rows_get n S hj)]
              exact Al.snoc (ale.mono fun y z r => RN.mono ((rmv_mono s7).trans (rmv_upd2 _ _ _)) r) (RN.mono ((mns_rmv (s4 _ _ hD2)).trans (rmv_upd2 _ _ _)) hq4)
          · rintro σ H2 ⟨es, v3, v4, v5, v6, rfl, s3, hD2, ale⟩
            have lr : (rowsOf n S).length = n.speeds.length := by rw [← ep, pp.len]
            rw [vi_len, Int.toNat_natCast, ← lr, List.take_length, ← ep] at ale
            have N2 := N.mono s3
            obtain ⟨dx2, hi2⟩ := N2.ins
            have hsh : RSh H2 D2 (parts n.count (n.byRatio S)) := ⟨es, hD2, ale.mono fun y z r => RN.mono (rmv_same _ _) r⟩
            refine ⟨_, rfl, a, dx2, _, rfl, hi2, nF_no (by decide +kernel) (by decide +kernel) (by decide +kernel) (by decide +kernel), _, rfl, ?_⟩
            refine ⟨a, D2, pl, st, ap, tg, n, _, rfl, N2, hsh, by rw [pp.len]; exact Nat.le_trans g.p3 (by decide), fun H4 q4 s7 nq4 hq4 => ?_⟩
            have s8 := s3.trans s7
            refine ⟨_, .inl ⟨_, SqL.of hq4, rfl⟩, ?_⟩
            have er := SnowM.right_eq g hf
            have ok := ShOk.of g hf
            obtain ⟨tne, tlat⟩ := lat_ok g ok g.p1
            have tok := times_ok g ok
            have N4 := N.mono s8
            obtain ⟨dx4, hi4⟩ := N4.ins
            obtain ⟨ss4, hs4, als4⟩ := N4.s
            have cnt4 : (ss4.map V.ref).length = n.count := by rw [List.length_map]; exact als4.1
            cases c3 : whyNot n (parts n.count (n.byRatio S))
            case' cons z zr =>
              have hz : (if n.right (n.byRatio S) = true then (1 : Int) else 0) = 0 := by rw [er, c3]; rfl
              refine ifT rfl ?_
            case' nil =>
              have hz : (if n.right (n.byRatio S) = true then (1 : Int) else 0) = 1 := by rw [er, c3]; rfl
              refine ifF rfl ?_
            all_goals
              refine ⟨_, rfl, a, dx4, _, rfl, hi4, nF_no (by decide +kernel) (by decide +kernel) (by decide +kernel) (by decide +kernel), _, rfl, _, rfl, a, C, dx4, _, _, rfl, hi4, T.cl, T.nP, nF_p, ?_⟩
              refine ⟨a, D2, pl, pl, st, ap, tg, n, b, _, n.speeds, rfl, N4, g, RSh.mono s7 hsh, N4.p, ok, fun H5 q5 s9 nq5 hq5 => ?_⟩
              refine ⟨q5, _, rfl, tne, hq5, tok, fun p6 hp6 => ?_⟩
              rw [SnowM.times_eq g hf] at hp6
              have s10 := s8.trans s9
              have hp5 : H5 p6 = some (.tup [ci (n.clear (n.byRatio S)).n, ci (n.clear (n.byRatio S)).d]) := hp6
              refine ⟨_, rfl, _, rfl, p6, _, _, _, rfl, rfl, SqT.of hp5, atI_nat (j := 0) rfl, _, rfl, p6, _, _, _, rfl, rfl, SqT.of hp5, atI_nat (j := 1) rfl, by show 3 ≤ sizeLine; decide, fun d nd => ?_⟩
              have hd : ∀ zs : List V, (upd H5 d (.lst zs)) d = some (.lst zs) := fun zs => upd_same
              have sd : ∀ zs : List V, Same H5 (upd H5 d (.lst zs)) := fun zs => same_upd nd
              refine ⟨_, rfl, _, rfl, a, C, dx4, _, _, rfl, sd _ _ _ (s9 _ _ hi4), T.cl, T.nS, nF_s, st, _, rfl, .inl (SqL.of (sd _ _ _ (s9 _ _ hs4))), ?_⟩
              rw [cnt4]
              refine ⟨D2, parts n.count (n.byRatio S), n.count, rfl, RSh.mono ((s7.trans s9).trans (sd _)) hsh, SnowM.parts_ne _ _, by rw [pp.join]; exact Nat.le_trans pp.six (by decide), fun H6 q6 s11 nq6 hq6 => ?_⟩
              rw [pp.join] at hq6
              refine ⟨d, q6, _, _, rfl, rfl, s11 _ _ (hd _), hq6, ?_, fun r nr => ?_⟩
              · rw [vi_len]
                refine line_le ?_
                have := pp.six
                show 3 + _ ≤ _
                omega
              · have s12 := (s10.trans (sd _)).trans s11
                refine post_same k N (by rw [e]) (s12.trans (same_upd nr)) (s12.free nr) (zs := (if n.right (n.byRatio S) = true then (1 : Int) else 0) :: SnowM.cast (Si79.both (n.clear (n.byRatio S)) ++ n.byRatio S)) ?_ (by rw [e]; rfl)
                unfold RI
                rw [upd_same, hz, List.map_cons, ← vi_ints, vi_app]
                rfl
end
end SnowB
/-! ## part B14 -/
namespace SnowB
open PySem PySem.Spec PyProof.Rows L2
open SnowM (Time numbersOf iterP allPlans joinP oneP firstP Good whyNot timesV possible Pl)
open Si79 (parts Night)
def inTime (n : Night) (us : List Nat) (e : Nat) (sh : List (List Nat)) : Bool := !Si75.less (Si75.whole e) (Si79.latest (timesV n sh us))
def spEnough (C : Addr) : Sp := fun vs H Q _ => ∃ (a p u pl st ap tg : Addr) (n : Night) (b e : Nat) (shs : List (List (List Nat))) (us : List Nat), vs = [.ref a, .ref p, .ref u, ci e] ∧ NightAt C H a n pl st ap tg ∧ Good n b ∧ RShs H p shs ∧ RN H u us ∧ (∀ sh ∈ shs, ShOk n sh us) ∧ 1 ≤ us.length ∧ Bnd e ∧
  ∀ H' : Hp, Same H H' → Q (.bl (shs.any (inTime n us e))) H'
theorem any_take {α : Type} {p : α → Bool} {l : List α} {i : Nat} {x : α} (h : (l.take i).any p = false) (hx : l[i]? = some x) (hp : p x = false) : (l.take (i + 1)).any p = false := by
  rw [take_more hx, List.any_append, h, List.any_cons, hp]
  rfl
section
variable {P : Program} {w : World} {K : PySem.W.Frag} {mg : Str → Option Value} {base : Heap} {C : Addr}
theorem scEnough : FnScope ["self", "possible", "ploughs", "minute", "shares"] ["self", "possible", "ploughs", "minute"] (defScope sEnough) := ⟨rfl, rfl, rfl, by decide +kernel, rfl, by decide +kernel, by decide +kernel⟩
theorem ok_enough {f : Addr} {fd : FuncData} (F : Fun K "is_enough" "Night.is_enough" sEnough f fd) (T : Txt K mg C) (cT : CalM P w K mg base C "times" 3 ["self", "shares", "ploughs"] (spTimes C))
    (cL : CalF P w K mg base "latest" 2 ["times"] spLatest) (cI : CalF P w K mg base "is_less" 1 ["fraction", "other"] spLess) : FnOk P w K mg base CX0 4 f fd ["self", "possible", "ploughs", "minute"] (spEnough C) := by
  obtain ⟨fT, fdT, GT, mT, bT⟩ := cT
  obtain ⟨fL, fdL, GL, mL, kL, bL⟩ := cL
  obtain ⟨fI, fdI, GI, mI, kI, bI⟩ := cI
  refine F.ok scEnough (fun vs H Q E h => ?_) (fun cdv A outer s H vs Q E hr h => ?_)
  · obtain ⟨a, p, u, pl, st, ap, tg, n, b, e, shs, us, rfl, _⟩ := h
    rfl
  · obtain ⟨a, p, u, pl, st, ap, tg, n, b, e, shs, us, rfl, N, g, ⟨as, hp, al⟩, hu, hok, h1, be, k⟩ := h
    refine ⟨_, pss_cons (ps_for PassesOwn.never rfl (pi_list (pv 1)) (pg_name (i := 4) scEnough.nd rfl (Or.inl rfl))
        (pss_one (ps_if (pt_not (pt_val (pe_call GI (hr.mono (by decide)) rfl mI kI bI .nil pass0 (pa_cons (pe_tup (pa_cons (pv 3) (pa_cons pe_int pa_nil)))
            (pa_cons (pe_call GL (hr.mono (by decide)) rfl mL kL bL .nil pass0 (pa_cons (pe_meth (pv 0) T.cl mT GT (hr.mono (by decide)) bT .nil pass0 (pa_cons (pv 4) (pa_cons (pv 2) pa_nil))) pa_nil)) pa_nil)))))
          (pss_one (ps_ret pe_bl)) pss_nil)))
      (pss_one (ps_ret pe_bl)), ?_⟩
    refine ⟨_, rfl, p, rfl, ⟨_, SqL.of hp⟩, for_list (K := K) (a := p) (xs := as.map V.ref) (fun i σ H' => ∃ v4 : Option V, σ = [some (.ref a), some (.ref p), some (.ref u), some (ci e), v4] ∧ Same H H' ∧ (shs.take i).any (inTime n us e) = false)
      ⟨none, rfl, Same.refl H, rfl⟩ (fun i σ H' _ ⟨_, _, q, _⟩ => SqL.of (q _ _ hp)) ?_ ?_⟩
    · rintro i x σ H1 hx ⟨v4, rfl, s1, hf⟩
      obtain ⟨c, hc, rfl⟩ := refs_get hx
      obtain ⟨sh, hsh, rc⟩ := al.get hc
      have ok := hok sh (List.mem_of_getElem? hsh)
      obtain ⟨tne, tlat⟩ := lat_ok g ok h1
      have tok := times_ok g ok
      refine ⟨_, rfl, by show 2 ≤ sizeLine; decide, fun t nt => ?_⟩
      have s2 : Same H1 (upd H1 t (.tup [ci e, V.int 1])) := same_upd nt
      have s3 := s1.trans s2
      have N3 := N.mono s3
      obtain ⟨dx3, hi3⟩ := N3.ins
      refine ⟨_, rfl, a, dx3, _, rfl, hi3, nF_no (by decide +kernel) (by decide +kernel) (by decide +kernel) (by decide +kernel), _, rfl, _, rfl, ?_⟩
      refine ⟨a, c, u, pl, st, ap, tg, n, b, sh, us, rfl, N3, g, RSh.mono s3 rc, RN.mono s3 hu, ok, fun H4 q4 s4 nq4 hq4 => ?_⟩
      refine ⟨q4, _, rfl, tne, hq4, tok, fun p6 hp6 => ?_⟩
      have ht : R2n H4 t (e, 1) := s4 _ _ (show (upd H1 t (.tup [ci e, V.int 1])) t = _ from upd_same)
      refine ⟨t, p6, (e, 1), ((Si79.latest (timesV n sh us)).n, (Si79.latest (timesV n sh us)).d), rfl, ht, hp6, ⟨be, by unfold Bnd; show 1 < _; decide, tlat.2.1, tlat.2.2⟩, _, rfl, ?_⟩
      have ei : (!decide (e * (Si79.latest (timesV n sh us)).d < (Si79.latest (timesV n sh us)).n * 1)) = inTime n us e sh := rfl
      cases hi : inTime n us e sh with
      | true =>
        refine ifT (ei.trans hi) ?_
        have ea : shs.any (inTime n us e) = true := List.any_eq_true.mpr ⟨sh, List.mem_of_getElem? hsh, hi⟩
        have := k H4 (s3.trans s4)
        rw [ea] at this
        exact this
      | false =>
        exact ifF (ei.trans hi) ⟨_, rfl, s3.trans s4, any_take hf hsh hi⟩
    · rintro σ H1 ⟨v4, rfl, s1, hf⟩
      rw [List.length_map, al.1, List.take_length] at hf
      have := k H1 s1
      rw [hf] at this
      exact this
end
end SnowB
/-! ## part B15 -/
namespace SnowB
open PySem PySem.Spec PyProof.Rows L2
open SnowM (Time numbersOf iterP allPlans joinP oneP firstP Good whyNot timesV possible Pl progNeeds)
open Si79 (parts Night halved)
def spNeeds (C : Addr) : Sp := fun vs H Q _ => ∃ (a pl st ap tg : Addr) (n : Night) (b k e : Nat), vs = [.ref a, ci k, ci e] ∧ NightAt C H a n pl st ap tg ∧ Good n b ∧ Post C n (.needs k e) H a pl st ap tg Q
theorem any_same {α : Type} {f g : α → Bool} : ∀ (l : List α), (∀ x ∈ l, f x = g x) → l.any f = l.any g
  | [], _ => rfl
  | x :: l, h => by
    rw [List.any_cons, List.any_cons, h x List.mem_cons_self, any_same l fun y hy => h y (List.mem_cons_of_mem _ hy)]
theorem enough_any {n : Night} {b : Nat} (g : Good n b) (k e : Nat) {v : Nat} (h : 1 ≤ v ∧ v ≤ 1000) : (possible n).any (inTime n (n.speeds.set k v) e) = SnowM.enough n k e v := by
  rw [SnowM.possible_eq g, List.any_map]
  unfold SnowM.enough
  refine any_same _ fun l hl => ?_
  have hf := SnowM.plans_formed g hl
  have q := SnowM.times_eq (SnowM.with_good g k h) (l := l) (by rw [SnowM.with_formed]; exact hf)
  unfold Night.clear
  rw [← q]
  rfl
theorem shok_set {n : Night} {b : Nat} (g : Good n b) {sh : List (List Nat)} (h : sh ∈ possible n) (k : Nat) {v : Nat} (hv : 1 ≤ v ∧ v ≤ 1000) : ShOk n sh (n.speeds.set k v) := by
  obtain ⟨ok, _⟩ := shok_of g h
  refine ⟨by rw [List.length_set]; exact ok.len, by rw [List.length_set]; exact ok.few, fun x hx => ?_, ok.each⟩
  rcases List.mem_or_eq_of_mem_set hx with q | q
  · exact ok.sp x q
  · rw [q]
    exact hv
theorem ixN_nat {n k : Nat} (h : k < n) : ixN n (k : Int) = some k := by
  unfold ixN
  rw [if_pos (by omega), if_pos (by omega), Int.toNat_natCast]
theorem vi_set (us : List Nat) (k m : Nat) : (vi us).set k (ci m) = vi (us.set k m) := by
  unfold vi
  rw [List.map_set]
section
variable {P : Program} {w : World} {K : PySem.W.Frag} {mg : Str → Option Value} {base : Heap} {C : Addr}
theorem scNeeds : FnScope ["self", "plough", "minute", "possible", "ploughs", "too_few", "enough"] ["self", "plough", "minute"] (defScope sNeeds) := ⟨rfl, rfl, rfl, by decide +kernel, rfl, by decide +kernel, by decide +kernel⟩
theorem ok_needs {f : Addr} {fd : FuncData} (F : Fun K "needs" "Night.needs" sNeeds f fd) (T : Txt K mg C) (cP : CalM P w K mg base C "possible_shares" 4 ["self"] (spPoss C))
    (cE : CalM P w K mg base C "is_enough" 4 ["self", "possible", "ploughs", "minute"] (spEnough C)) : FnOk P w K mg base CX0 5 f fd ["self", "plough", "minute"] (spNeeds C) := by
  obtain ⟨fP, fdP, GP, mP, bP⟩ := cP
  obtain ⟨fE, fdE, GE, mE, bE⟩ := cE
  refine F.ok scNeeds (fun vs H Q E h => ?_) (fun cdv A outer s H vs Q E hr h => ?_)
  · obtain ⟨a, pl, st, ap, tg, n, b, k, e, rfl, _⟩ := h
    rfl
  · obtain ⟨a, pl, st, ap, tg, n, b, kk, e, rfl, N, g, k⟩ := h
    obtain ⟨dx, hi⟩ := N.ins
    obtain ⟨tM, hM⟩ := T.mM
    obtain ⟨tE, hE⟩ := T.mE
    refine ⟨_, pss_cons (ps_if (pt_cmpR op_ge (pv 1) (pe_callB call_len_seq (by rfl) T.len PySem.boot_len (pa_cons (pe_fld (pv 0) rfl) pa_nil)) (nomark _))
        (pss_one (ps_ret (pe_lst (pa_cons (pe_un un_neg pe_int) pa_nil)))) pss_nil)
      (pss_cons (ps_if (pt_cmpR op_gt (pv 2) (pe_glob (v := V.int 5000) rfl hE ⟨_, rfl⟩) (nomark _))
        (pss_one (ps_ret (pe_lst (pa_cons (pe_un un_neg pe_int) pa_nil)))) pss_nil)
      (pss_cons (ps_set (i := 3) scNeeds.nd rfl (Or.inl rfl) (pe_meth0 (pv 0) T.cl mP GP (hr.mono (by decide)) bP .nil pass0))
      (pss_cons (ps_set (i := 4) scNeeds.nd rfl (Or.inl rfl) (pe_callTy call_list_of (by rfl) T.list (by decide +kernel) (pa_cons (pe_fld (pv 0) rfl) pa_nil)))
      (pss_cons (ps_set (i := 5) scNeeds.nd rfl (Or.inl rfl) pe_int)
      (pss_cons (ps_set (i := 6) scNeeds.nd rfl (Or.inl rfl) (pe_op op_add (pe_glob (v := V.int 1000) rfl hM ⟨_, rfl⟩) pe_int))
      (pss_cons (ps_while PassesOwn.never (pt_cmpR op_gt (pe_op op_sub (pv 6) (pv 5)) pe_int (nomark _))
        (pss_cons (ps_asg (pe_op op_fdiv (pe_op op_add (pv 5) (pv 6)) pe_int) (pg_sub (pv 4) (pv 1) set_list))
        (pss_one (ps_if (pt_val (pe_meth (pv 0) T.cl mE GE (hr.mono (by decide)) bE .nil pass0 (pa_cons (pv 3) (pa_cons (pv 4) (pa_cons (pv 2) pa_nil)))))
          (pss_one (ps_set (i := 6) scNeeds.nd rfl (Or.inl rfl) (pe_ix ix_list (pv 4) (pv 1) (fun _ _ => rfl))))
          (pss_one (ps_set (i := 5) scNeeds.nd rfl (Or.inl rfl) (pe_ix ix_list (pv 4) (pv 1) (fun _ _ => rfl))))))))
      (pss_cons (ps_if (pt_cmpR op_gt (pv 6) (pe_glob (v := V.int 1000) rfl hM ⟨_, rfl⟩) (nomark _))
        (pss_one (ps_ret (pe_lst (pa_cons (pe_un un_neg pe_int) pa_nil)))) pss_nil)
      (pss_one (ps_ret (pe_lst (pa_cons (pv 6) pa_nil))))))))))), ?_⟩
    refine ⟨_, rfl, _, rfl, a, C, dx, _, _, rfl, hi, T.cl, T.nP, nF_p, pl, _, rfl, .inl (SqL.of N.p), _, _, rfl, rfl, _, rfl, ?_⟩
    rw [vi_len]
    refine ifD (fun c1 => ?_) (fun c1 => ?_)
    · have c1 : n.speeds.length ≤ kk := by omega
      have ee : Si79.step n (.needs kk e) = (n, Si79.ok (-2)) := if_pos c1
      exact ⟨_, rfl, by show 1 ≤ sizeLine; decide, fun r nr => post_same k N (by rw [ee]) (same_upd nr) nr (zs := [-2]) (by unfold RI; rw [upd_same]; rfl) (by rw [ee]; rfl)⟩
    · have c1 : ¬ n.speeds.length ≤ kk := by omega
      refine ⟨_, rfl, _, _, rfl, rfl, _, rfl, ifD (fun c2 => ?_) (fun c2 => ?_)⟩
      · have c2 : Si79.END < e := by show 5000 < e; omega
        have ee : Si79.step n (.needs kk e) = (n, Si79.ok (-1)) := (if_neg c1).trans (if_pos c2)
        exact ⟨_, rfl, by show 1 ≤ sizeLine; decide, fun r nr => post_same k N (by rw [ee]) (same_upd nr) nr (zs := [-1]) (by unfold RI; rw [upd_same]; rfl) (by rw [ee]; rfl)⟩
      · have c2' : ¬ Si79.END < e := by show ¬ 5000 < e; omega
        have ee : Si79.step n (.needs kk e) = (n, match n.needs kk e with
          | none => Si79.ok (-6)
          | some v => Si79.ok ((v : Nat) : Int)) := (if_neg c1).trans (if_neg c2')
        have be : Bnd e := by
          unfold Bnd
          have : (5001 : Nat) < 2 ^ 200 := by decide
          omega
        refine ⟨_, rfl, a, dx, _, rfl, hi, nF_no (by decide +kernel) (by decide +kernel) (by decide +kernel) (by decide +kernel), ?_⟩
        refine ⟨a, pl, st, ap, tg, n, b, rfl, N, g, fun H1 q s1 nq hq => ?_⟩
        have hq1 := RShs.mono (mns_same _ _) hq
        have N1 := N.mono s1
        obtain ⟨dx1, hi1⟩ := N1.ins
        refine ⟨_, rfl, a, C, dx1, _, _, rfl, hi1, T.cl, T.nP, nF_p, pl, _, rfl, .inl (SqL.of N1.p), fun D nD => ?_⟩
        have sD : Same H1 (upd H1 D (.lst (vi n.speeds))) := same_upd nD
        refine ⟨_, _, rfl, rfl, ?_⟩
        refine while_by (fun σ H' => ∃ (lo hi fu : Nat) (us : List Nat), σ = [some (.ref a), some (ci kk), some (ci e), some (.ref q), some (.ref D), some (ci lo), some (ci hi)] ∧ Same H1 H' ∧ RN H' D us ∧ us.length = n.speeds.length ∧ (∀ v, us.set kk v = n.speeds.set kk v) ∧
            lo < hi ∧ hi ≤ 1001 ∧ hi ≤ lo + 1 + fu ∧ progNeeds n kk e = halved (SnowM.enough n kk e) fu lo hi) (fun σ _ => (iAt σ 6 - iAt σ 5).toNat) ⟨0, 1001, 1001, n.speeds, rfl, sD, upd_same, rfl, fun _ => rfl, by decide, by decide, by decide, rfl⟩ ?_ ?_
        · rintro σ H2 ⟨lo, hi', fu, us, rfl, s2, hD, lus, hset, hlt, h1001, hfu, hp⟩
          refine ⟨_, rfl, _, rfl, _, _, rfl, rfl, _, _, rfl, rfl, _, rfl, ?_⟩
          by_cases c3 : hi' - lo > 1
          · refine ifT (decide_eq_true (by omega)) ?_
            refine ⟨_, rfl, _, rfl, _, _, rfl, rfl, _, _, rfl, rfl, ⟨by decide, by decide⟩, ?_⟩
            have em : (((lo : Int) + (hi' : Int)) / 2) = (((lo + hi') / 2 : Nat) : Int) := by omega
            generalize hm : (lo + hi') / 2 = m at *
            have m1 : lo < m := by omega
            have m2 : m < hi' := by omega
            have hk : kk < us.length := by omega
            refine ⟨_, rfl, _, rfl, D, _, _, kk, rfl, rfl, hD, ixN_nat (by rw [vi_len]; exact hk), ?_⟩
            generalize hH3 : upd H2 D _ = H3
            have s3 : Same H1 H3 := by rw [← hH3]; exact same_upd2 s2 nD
            have hD3 : RN H3 D (us.set kk m) := by
              rw [← hH3]
              unfold RN
              rw [upd_same]
              show some (HO.lst ((vi us).set kk (V.int (((lo : Int) + (hi' : Int)) / 2)))) = _
              rw [em, vi_set]
            have N3 := N1.mono s3
            obtain ⟨dx3, hi3⟩ := N3.ins
            refine ⟨_, rfl, a, dx3, _, rfl, hi3, nF_no (by decide +kernel) (by decide +kernel) (by decide +kernel) (by decide +kernel), _, rfl, _, rfl, _, rfl, ?_⟩
            refine ⟨a, q, D, pl, st, ap, tg, n, b, e, possible n, n.speeds.set kk m, rfl, N3, g, RShs.mono s3 hq1, by rw [← hset]; exact hD3, fun sh hsh => shok_set g hsh kk ⟨by omega, by omega⟩, by rw [List.length_set]; exact g.p1, be, fun H4 s4 => ?_⟩
            rw [enough_any g kk e ⟨by omega, by omega⟩]
            have hD4 := s4 _ _ hD3
            have hD4' : H4 D = some (.lst (vi (us.set kk m))) := hD4
            have at4 : (vi (us.set kk m))[kk]? = some (ci m) := vi_at (by rw [List.getElem?_set, if_pos rfl, if_pos hk])
            have lus' : (us.set kk m).length = n.speeds.length := by rw [List.length_set]; exact lus
            have hset' : ∀ v, (us.set kk m).set kk v = n.speeds.set kk v := fun v => by rw [List.set_set]; exact hset v
            obtain ⟨f', rfl⟩ : ∃ f', fu = f' + 1 := ⟨fu - 1, by omega⟩
            have hh : halved (SnowM.enough n kk e) (f' + 1) lo hi' = if SnowM.enough n kk e m = true then halved (SnowM.enough n kk e) f' lo m else halved (SnowM.enough n kk e) f' m hi' := by
              have q0 : halved (SnowM.enough n kk e) (f' + 1) lo hi' = if hi' ≤ lo + 1 then hi' else if SnowM.enough n kk e ((lo + hi') / 2) = true then halved (SnowM.enough n kk e) f' lo ((lo + hi') / 2) else halved (SnowM.enough n kk e) f' ((lo + hi') / 2) hi' := rfl
              rw [q0, if_neg (by omega), hm]
            rw [hh] at hp
            refine ⟨_, rfl, ?_⟩
            cases he : SnowM.enough n kk e m with
            | true =>
              rw [he, if_pos rfl] at hp
              refine ifT rfl ⟨_, rfl, _, rfl, D, _, _, _, rfl, rfl, SqL.of hD4', atI_nat at4, ?_, ?_⟩
              · exact ⟨lo, m, f', _, rfl, s3.trans s4, hD4, lus', hset', m1, by omega, by omega, hp⟩
              · show ((m : Int) - (lo : Int)).toNat < ((hi' : Int) - (lo : Int)).toNat
                omega
            | false =>
              rw [he, if_neg (by simp)] at hp
              refine ifF rfl ⟨_, rfl, _, rfl, D, _, _, _, rfl, rfl, SqL.of hD4', atI_nat at4, ?_, ?_⟩
              · exact ⟨m, hi', f', _, rfl, s3.trans s4, hD4, lus', hset', m2, by omega, by omega, hp⟩
              · show ((hi' : Int) - (m : Int)).toNat < ((hi' : Int) - (lo : Int)).toNat
                omega
          · refine ifF (decide_eq_false (by omega)) ?_
            have hpe : progNeeds n kk e = hi' := by
              rw [hp]
              cases fu with
              | zero => rfl
              | succ f' =>
                show (if hi' ≤ lo + 1 then hi' else _) = _
                rw [if_pos (by omega)]
            have ne := SnowM.needs_eq g kk e
            rw [hpe] at ne
            have s3 := s1.trans s2
            refine ⟨_, rfl, _, _, rfl, rfl, _, rfl, ifD (fun c4 => ?_) (fun c4 => ?_)⟩
            · rw [if_pos (by omega)] at ne
              rw [ne] at ee
              exact ⟨_, rfl, by show 1 ≤ sizeLine; decide, fun r nr => post_same k N (by rw [ee]) (s3.trans (same_upd nr)) (s3.free nr) (zs := [-6]) (by unfold RI; rw [upd_same]; rfl) (by rw [ee]; rfl)⟩
            · rw [if_neg (by omega)] at ne
              rw [ne] at ee
              exact ⟨_, rfl, by show 1 ≤ sizeLine; decide, fun r nr => post_same k N (by rw [ee]) (s3.trans (same_upd nr)) (s3.free nr) (zs := [(hi' : Int)]) (by unfold RI; rw [upd_same]; rfl) (by rw [ee]; rfl)⟩
        · rintro σ H' Q Q' hq ⟨v6, hv6, v5, hv5, i, j, h1, h2, i2, j2, h3, h4, b, hb, h5⟩
          exact ⟨v6, hv6, v5, hv5, i, j, h1, h2, i2, j2, h3, h4, b, hb, hq _ _ h5⟩
end
end SnowB
/-! ## part B16 -/
namespace SnowB
open PySem PySem.Spec PyProof.Rows L2
open SnowM (Time Good num enc QOk)
open Si79 (parts Night)
/-- a call as read -/
def RQ (H : Hp) (a : Addr) (q : Si79.Call) : Prop := ∃ L : Addr, H a = some (.tup [ci (num q).1, .ref L]) ∧ RN H L (num q).2
theorem RQ.mono {H H' : Hp} {a : Addr} {q : Si79.Call} (e : Same H H') (h : RQ H a q) : RQ H' a q := by
  obtain ⟨L, h1, h2⟩ := h
  exact ⟨L, e _ _ h1, RN.mono e h2⟩
def spRead (K : PySem.W.Frag) : Sp := fun vs H Q _ => ∃ (c : Addr) (qs : List Si79.Call), vs = [.ref c] ∧ SqL K H c (vi (qs.flatMap enc)) ∧ qs.length ≤ 60 ∧
  ∀ (H' : Hp) (r : Addr), Same H H' → H r = none → RL RQ (mns H' H) r qs → Q (.ref r) H'
theorem enc_kinds (q : Si79.Call) : (∃ k args, (k = 0 ∨ k = 4 ∨ k = 6) ∧ num q = (k, args) ∧ enc q = k :: args.length :: args) ∨ (num q = (5, []) ∧ enc q = [5]) ∨ ∃ k x y, (k = 1 ∨ k = 2 ∨ k = 3 ∨ k = 7) ∧ num q = (k, [x, y]) ∧ enc q = [k, x, y] := by
  cases q with
  | begins l => exact .inl ⟨0, l, .inl rfl, rfl, rfl⟩
  | street s => exact .inr (.inr ⟨1, _, _, .inl rfl, rfl, rfl⟩)
  | apart i j => exact .inr (.inr ⟨2, _, _, .inr (.inl rfl), rfl, rfl⟩)
  | together i j => exact .inr (.inr ⟨3, _, _, .inr (.inr (.inl rfl)), rfl, rfl⟩)
  | check l => exact .inl ⟨4, l, .inr (.inl rfl), rfl, rfl⟩
  | best => exact .inr (.inl ⟨rfl, rfl⟩)
  | ratio s => exact .inl ⟨6, s, .inr (.inr rfl), rfl, rfl⟩
  | needs k e => exact .inr (.inr ⟨7, _, _, .inr (.inr (.inr rfl)), rfl, rfl⟩)
theorem enc_hd (q : Si79.Call) : ∃ k hd args, num q = (k, args) ∧ enc q = hd ++ args ∧ hd[0]? = some k ∧ (((k = 0 ∨ k = 4 ∨ k = 6) ∧ hd = [k, args.length]) ∨ (k = 5 ∧ hd = [k] ∧ args.length = 0) ∨ ((k = 1 ∨ k = 2 ∨ k = 3 ∨ k = 7) ∧ hd = [k] ∧ args.length = 2)) := by
  rcases enc_kinds q with ⟨k, args, hk, e1, e2⟩ | ⟨e1, e2⟩ | ⟨k, x, y, hk, e1, e2⟩
  · exact ⟨k, [k, args.length], args, e1, e2, rfl, .inl ⟨hk, rfl⟩⟩
  · exact ⟨5, [5], [], e1, e2, rfl, .inr (.inl ⟨rfl, rfl, rfl⟩)⟩
  · exact ⟨k, [k], [x, y], e1, e2, rfl, .inr (.inr ⟨hk, rfl, rfl⟩)⟩
theorem cut_at {xs pre args post : List Nat} {z1 z2 : Int} (h : xs = pre ++ (args ++ post)) (h1 : z1 = (pre.length : Int)) (h2 : z2 = ((pre.length + args.length : Nat) : Int)) : cutV (vi xs) (some z1) (some z2) = vi args := by
  unfold cutV
  have e1 : HT.sIx (vi xs).length 0 (some z1) = min pre.length (vi xs).length := by rw [h1]; exact HT.sIx_nat _ _ _
  have e2 : HT.sIx (vi xs).length (vi xs).length (some z2) = min (pre.length + args.length) (vi xs).length := by rw [h2]; exact HT.sIx_nat _ _ _
  have el : (vi xs).length = pre.length + (args.length + post.length) := by rw [vi_len, h, List.length_append, List.length_append]
  have m1 : min pre.length (vi xs).length = pre.length := by omega
  have m2 : min (pre.length + args.length) (vi xs).length = pre.length + args.length := by omega
  rw [e1, e2, m1, m2, h, vi_app, vi_app]
  have lp : pre.length = (vi pre).length := (vi_len pre).symm
  have la : pre.length + args.length - pre.length = (vi args).length := by rw [vi_len]; omega
  rw [la, lp, List.drop_left, List.take_left]
theorem split_at {qs : List Si79.Call} {i : Nat} {q : Si79.Call} (h : qs[i]? = some q) : qs.flatMap enc = (qs.take i).flatMap enc ++ (enc q ++ (qs.drop (i + 1)).flatMap enc) := by
  obtain ⟨hi, e⟩ := List.getElem?_eq_some_iff.mp h
  have e1 : qs = qs.take i ++ q :: qs.drop (i + 1) := by
    rw [← e, List.getElem_cons_drop, List.take_append_drop]
  calc qs.flatMap enc = (qs.take i ++ q :: qs.drop (i + 1)).flatMap enc := by rw [← e1]
    _ = _ := by rw [List.flatMap_append, List.flatMap_cons]
theorem at_mid {xs pre post : List Nat} {mid : List Nat} {j x : Nat} (h : xs = pre ++ (mid ++ post)) (hx : mid[j]? = some x) : xs[pre.length + j]? = some x := by
  obtain ⟨hj, e⟩ := List.getElem?_eq_some_iff.mp hx
  rw [h, List.getElem?_append_right (by omega), show pre.length + j - pre.length = j by omega, List.getElem?_append_left hj, hx]
section
variable {P : Program} {w : World} {K : PySem.W.Frag} {mg : Str → Option Value} {base : Heap} {C : Addr}
theorem scRead : FnScope ["calls", "found", "at", "number", "length"] ["calls"] (defScope sRead) := ⟨rfl, rfl, rfl, by decide +kernel, rfl, by decide +kernel, by decide +kernel⟩
theorem ok_read {f : Addr} {fd : FuncData} (F : Fun K "read_calls" "read_calls" sRead f fd) (T : Txt K mg C) : FnOk P w K mg base CX0 1 f fd ["calls"] (spRead K) := by
  refine F.ok scRead (fun vs H Q E h => ?_) (fun cdv A outer s H vs Q E hr h => ?_)
  · obtain ⟨c, qs, rfl, _⟩ := h
    rfl
  · obtain ⟨c, qs, rfl, hS, hq60, k⟩ := h
    obtain ⟨t0, h0⟩ := T.c0
    obtain ⟨t4, h4⟩ := T.c4
    obtain ⟨t6, h6⟩ := T.c6
    obtain ⟨t5, h5⟩ := T.c5
    refine ⟨_, pss_cons (ps_set (i := 1) scRead.nd rfl (Or.inl rfl) (pe_lst pa_nil))
      (pss_cons (ps_set (i := 2) scRead.nd rfl (Or.inl rfl) pe_int)
      (pss_cons (ps_while PassesOwn.never (pt_cmpR op_lt (pv 2) (pe_callB call_len_seq (by rfl) T.len PySem.boot_len (pa_cons (pv 0) pa_nil)) (nomark _))
        (pss_cons (ps_set (i := 3) scRead.nd rfl (Or.inl rfl) (pe_ix ix_list (pv 0) (pv 2) (fun _ _ => rfl)))
        (pss_cons (ps_aug (i := 2) scRead.nd rfl (Or.inl rfl) pe_int ip_add)
        (pss_cons (ps_if (pt_cmpR op_in_seq (pv 3) (pe_tup (pa_cons (pe_glob (v := V.int 0) rfl h0 ⟨_, rfl⟩) (pa_cons (pe_glob (v := V.int 4) rfl h4 ⟨_, rfl⟩) (pa_cons (pe_glob (v := V.int 6) rfl h6 ⟨_, rfl⟩) pa_nil)))) (by rfl))
          (pss_cons (ps_set (i := 4) scRead.nd rfl (Or.inl rfl) (pe_ix ix_list (pv 0) (pv 2) (fun _ _ => rfl))) (pss_one (ps_aug (i := 2) scRead.nd rfl (Or.inl rfl) pe_int ip_add)))
          (pss_one (ps_if (pt_cmpR op_eq (pv 3) (pe_glob (v := V.int 5) rfl h5 ⟨_, rfl⟩) (nomark _)) (pss_one (ps_set (i := 4) scRead.nd rfl (Or.inl rfl) pe_int)) (pss_one (ps_set (i := 4) scRead.nd rfl (Or.inl rfl) pe_int)))))
        (pss_cons (ps_expr (pe_bm PySem.F.plainAttrs_list PySem.F.slot_list_append PySem.F.type_list_append mt_append (pv 1) (pa_cons (pe_tup (pa_cons (pv 3) (pa_cons (pe_slice sl_list (pv 0) (po_some (pv 2)) (po_some (pe_op op_add (pv 2) (pv 4)))) pa_nil))) pa_nil)))
        (pss_one (ps_aug (i := 2) scRead.nd rfl (Or.inl rfl) (pv 4) ip_add)))))))
      (pss_one (ps_ret (pv 1))))), ?_⟩
    refine ⟨Nat.zero_le _, fun D nD => ?_⟩
    have s0 : Same H (upd H D (.lst [])) := same_upd nD
    refine while_by (fun σ H' => ∃ (i : Nat) (z : Int) (ts : List Addr) (v3 v4 : Option V), σ = [some (.ref c), some (.ref D), some (V.int z), v3, v4] ∧ z = (((qs.take i).flatMap enc).length : Int) ∧ i ≤ qs.length ∧ Same H H' ∧ H' D = some (.lst (ts.map V.ref)) ∧ Al (RQ (rmv (mns H' H) D)) ts (qs.take i))
      (fun σ _ => (((qs.flatMap enc).length : Int) - iAt σ 2).toNat) ⟨0, 0, [], none, none, rfl, by rw [List.take_zero]; rfl, Nat.zero_le _, s0, upd_same, Al.nil⟩ ?_ ?_
    · rintro σ H1 ⟨i, z, ts, v3, v4, rfl, hz, hi, s1, hD, al⟩
      refine ⟨_, rfl, _, rfl, c, _, rfl, .inl (s1.seq hS), _, _, rfl, rfl, _, rfl, ?_⟩
      rw [vi_len]
      by_cases hlt : i < qs.length
      · obtain ⟨q, hq⟩ : ∃ q, qs[i]? = some q := ⟨_, List.getElem?_eq_getElem hlt⟩
        have sp := split_at hq
        obtain ⟨ky, hd, args, en, ee, hd0, kinds⟩ := enc_hd q
        have tk : (qs.take (i + 1)).flatMap enc = (qs.take i).flatMap enc ++ enc q := by rw [take_more hq, List.flatMap_append, List.flatMap_cons, List.flatMap_nil, List.append_nil]
        have ltk : ((qs.take (i + 1)).flatMap enc).length = ((qs.take i).flatMap enc).length + hd.length + args.length := by rw [tk, List.length_append, ee, List.length_append]; omega
        generalize (qs.take i).flatMap enc = pre at *
        generalize (qs.drop (i + 1)).flatMap enc = post at *
        rw [ee] at sp
        have sp2 : qs.flatMap enc = (pre ++ hd) ++ (args ++ post) := by rw [sp, List.append_assoc, List.append_assoc]
        have sp3 : qs.flatMap enc = pre ++ (hd ++ (args ++ post)) := by rw [sp, List.append_assoc]
        have ll : (qs.flatMap enc).length = pre.length + hd.length + args.length + post.length := by
          rw [sp2, List.length_append, List.length_append, List.length_append]
          omega
        have hd1 : 1 ≤ hd.length := by
          have := (List.getElem?_eq_some_iff.mp hd0).1
          omega
        refine ifT (decide_eq_true (by omega)) ?_
        refine ⟨_, rfl, _, rfl, c, _, _, _, rfl, rfl, s1.seq hS, at_of (j := pre.length) hz (vi_at (at_mid (j := 0) sp3 hd0)), ?_⟩
        refine ⟨_, rfl, _, _, rfl, rfl, ?_⟩
        refine ⟨_, rfl, by show 3 ≤ sizeLine; decide, fun t nt => ⟨t, _, rfl, .inr (SqT.of upd_same), rfl, rfl, _, rfl, ?_⟩⟩
        have s2 := s1.trans (same_upd nt (o := .tup [V.int 0, V.int 4, V.int 6]))
        have hD2 : (upd H1 t (.tup [V.int 0, V.int 4, V.int 6])) D = some (.lst (ts.map V.ref)) := same_upd nt _ _ hD
        have al2 : Al (RQ (rmv (mns (upd H1 t (.tup [V.int 0, V.int 4, V.int 6])) H) D)) ts (qs.take i) := al.mono fun y x r => RQ.mono (rmv_mono (mns_right (same_upd nt))) r
        generalize upd H1 t (.tup [V.int 0, V.int 4, V.int 6]) = H2 at *
        rcases kinds with ⟨hk, eh⟩ | ⟨hk, eh, ea⟩ | ⟨hk, eh, ea⟩
        case' inl =>
          have lh : hd.length = 2 := by rw [eh]; rfl
          have h1 : hd[1]? = some args.length := by rw [eh]; rfl
          refine ifT (by rcases hk with e | e | e <;> (rw [e]; rfl)) ?_
          refine ⟨_, rfl, _, rfl, c, _, _, _, rfl, rfl, s2.seq hS, at_of (j := pre.length + 1) (by show z + 1 = _; omega) (vi_at (at_mid (j := 1) sp3 h1)), ?_⟩
          refine ⟨_, rfl, _, _, rfl, rfl, ?_⟩
        case' inr.inl =>
          have lh : hd.length = 1 := by rw [eh]; rfl
          refine ifF (by rw [hk]; rfl) ?_
          refine ⟨_, rfl, rfl, _, rfl, ifT (by rw [hk]; rfl) ?_⟩
        case' inr.inr =>
          have lh : hd.length = 1 := by rw [eh]; rfl
          refine ifF (by rcases hk with e | e | e | e <;> (rw [e]; rfl)) ?_
          refine ⟨_, rfl, rfl, _, rfl, ifF (by rcases hk with e | e | e | e <;> (rw [e]; rfl)) ?_⟩
        all_goals
          refine ⟨_, rfl, .inl ⟨rfl, _, SqL.of hD2⟩, _, rfl, _, rfl, _, rfl, _, rfl, _, rfl, _, rfl, _, _, rfl, rfl, _, rfl, c, _, rfl, s2.seq hS, fun L nL => ?_⟩
          generalize hX : upd H2 L _ = H3
          have sL : Same H2 H3 := by rw [← hX]; exact same_upd nL
          have hL : H3 L = some (.lst (vi args)) := by
            rw [← hX, upd_same]
            exact congrArg (fun l => some (HO.lst l)) (cut_at sp2 (by dsimp only; rw [List.length_append]; omega) (by dsimp only; rw [List.length_append]; omega))
          refine ⟨by show 2 ≤ sizeLine; decide, fun X nX => ?_⟩
          have sX : Same H3 (upd H3 X (.tup [ci ky, .ref L])) := same_upd nX
          have hD4 := sX _ _ (sL _ _ hD2)
          have nDX : D ≠ X := ne_of_none (sL _ _ hD2) nX
          have nDL : D ≠ L := ne_of_none hD2 nL
          have nLX : L ≠ X := ne_of_none hL nX
          have fL : H L = none := s2.free nL
          have fX : H X = none := (s2.trans sL).free nX
          have lts : ts.length = i := by rw [al2.1, List.length_take]; omega
          refine ⟨D, _, _, rfl, rfl, hD4, by rw [List.length_map]; exact line_lt (by omega), ?_⟩
          refine ⟨_, rfl, _, rfl, _, _, rfl, rfl, ?_⟩
          refine ⟨⟨i + 1, _, ts ++ [X], _, _, rfl, by rw [ltk]; dsimp only; omega, by omega, same_upd2 ((s2.trans sL).trans sX) nD, by rw [upd_same, List.map_append]; rfl, ?_⟩, ?_⟩
          · rw [take_more hq]
            refine Al.snoc (al2.mono fun y x r => RQ.mono ((rmv_mono (mns_right (sL.trans sX))).trans rmv_mns_upd) r) ⟨L, ?_, ?_⟩
            · rw [rmv_ne nDX.symm, mns_eq fX, upd_ne nDX.symm, upd_same, en]
            · unfold RN
              rw [rmv_ne nDL.symm, mns_eq fL, upd_ne nDL.symm, upd_ne nLX, hL, en]
          · first
            | (show (((qs.flatMap enc).length : Int) - (z + 1 + 1 + (args.length : Int))).toNat < (((qs.flatMap enc).length : Int) - z).toNat; omega)
            | (show (((qs.flatMap enc).length : Int) - (z + 1 + 0)).toNat < (((qs.flatMap enc).length : Int) - z).toNat; omega)
            | (show (((qs.flatMap enc).length : Int) - (z + 1 + 2)).toNat < (((qs.flatMap enc).length : Int) - z).toNat; omega)
      · have e : qs.take i = qs := List.take_of_length_le (by omega)
        rw [e] at hz al
        refine ifF (decide_eq_false (by omega)) ?_
        exact ⟨_, rfl, k H1 D s1 nD ⟨ts, by rw [mns_eq nD]; exact hD, al.mono fun y x r => RQ.mono (rmv_same _ _) r⟩⟩
    · rintro σ H' Q Q' hq ⟨v2, hv2, v0, hv0, p, ys, e1, e2, i, j, h1, h2, b, hb, h3⟩
      exact ⟨v2, hv2, v0, hv0, p, ys, e1, e2, i, j, h1, h2, b, hb, hq _ _ h3⟩
end
end SnowB
/-! ## part B17 -/
namespace SnowB
open PySem PySem.Spec PyProof.Rows L2
open SnowM (Time Good num enc QOk)
open Si79 (parts Night)
def spAns1 (C : Addr) : Sp := fun vs H Q _ => ∃ (a L pl st ap tg : Addr) (n : Night) (b : Nat) (q : Si79.Call), vs = [.ref a, ci (num q).1, .ref L] ∧ NightAt C H a n pl st ap tg ∧ Good n b ∧ b ≤ 1000 ∧ QOk q ∧ RN H L (num q).2 ∧ Post C n q H a pl st ap tg Q
section
variable {P : Program} {w : World} {K : PySem.W.Frag} {mg : Str → Option Value} {base : Heap} {C : Addr}
theorem scAnswer : FnScope ["night", "number", "numbers"] ["night", "number", "numbers"] (defScope sAnswer) := ⟨rfl, rfl, rfl, by decide +kernel, rfl, by decide +kernel, by decide +kernel⟩
theorem ok_answer {f : Addr} {fd : FuncData} (F : Fun K "answer" "answer" sAnswer f fd) (T : Txt K mg C) (c0 : CalM P w K mg base C "begin" 2 ["self", "ploughs"] (spBegin C)) (c1 : CalM P w K mg base C "add_street" 2 ["self", "metres", "hundredths"] (spAdd C))
    (c2 : CalM P w K mg base C "tell_apart" 2 ["self", "street", "other"] (spApart C)) (c3 : CalM P w K mg base C "tell_together" 2 ["self", "street", "other"] (spTog C)) (c4 : CalM P w K mg base C "check" 4 ["self", "plan"] (spCheck C))
    (c5 : CalM P w K mg base C "best" 5 ["self"] (spBest C)) (c6 : CalM P w K mg base C "ratio" 4 ["self", "owners"] (spRatio C)) (c7 : CalM P w K mg base C "needs" 5 ["self", "plough", "minute"] (spNeeds C)) : FnOk P w K mg base CX0 6 f fd ["night", "number", "numbers"] (spAns1 C) := by
  obtain ⟨f0, fd0, G0, m0, b0⟩ := c0
  obtain ⟨f1, fd1, G1, m1, b1⟩ := c1
  obtain ⟨f2, fd2, G2, m2, b2⟩ := c2
  obtain ⟨f3, fd3, G3, m3, b3⟩ := c3
  obtain ⟨f4, fd4, G4, m4, b4⟩ := c4
  obtain ⟨f5, fd5, G5, m5, b5⟩ := c5
  obtain ⟨f6, fd6, G6, m6, b6⟩ := c6
  obtain ⟨f7, fd7, G7, m7, b7⟩ := c7
  refine F.ok scAnswer (fun vs H Q E h => ?_) (fun cdv A outer s H vs Q E hr h => ?_)
  · obtain ⟨a, L, pl, st, ap, tg, n, b, q, rfl, _⟩ := h
    rfl
  · obtain ⟨a, L, pl, st, ap, tg, n, b, q, rfl, N, g, hb, ok, hL, k⟩ := h
    obtain ⟨dx, hi⟩ := N.ins
    obtain ⟨t0, h0⟩ := T.c0
    obtain ⟨t1, h1⟩ := T.c1
    obtain ⟨t2, h2⟩ := T.c2
    obtain ⟨t3, h3⟩ := T.c3
    obtain ⟨t4, h4⟩ := T.c4
    obtain ⟨t5, h5⟩ := T.c5
    obtain ⟨t6, h6⟩ := T.c6
    refine ⟨_, pss_cons (ps_if (pt_cmpR op_eq (pv 1) (pe_glob (v := V.int 0) rfl h0 ⟨_, rfl⟩) (nomark _)) (pss_one (ps_ret (pe_meth (pv 0) T.cl m0 G0 (hr.mono (by decide)) b0 .nil pass0 (pa_cons (pv 2) pa_nil)))) pss_nil)
      (pss_cons (ps_if (pt_cmpR op_eq (pv 1) (pe_glob (v := V.int 1) rfl h1 ⟨_, rfl⟩) (nomark _)) (pss_one (ps_ret (pe_meth (pv 0) T.cl m1 G1 (hr.mono (by decide)) b1 .nil pass0 (pa_cons (pe_ix ix_list (pv 2) pe_int (fun _ _ => rfl)) (pa_cons (pe_ix ix_list (pv 2) pe_int (fun _ _ => rfl)) pa_nil))))) pss_nil)
      (pss_cons (ps_if (pt_cmpR op_eq (pv 1) (pe_glob (v := V.int 2) rfl h2 ⟨_, rfl⟩) (nomark _)) (pss_one (ps_ret (pe_meth (pv 0) T.cl m2 G2 (hr.mono (by decide)) b2 .nil pass0 (pa_cons (pe_ix ix_list (pv 2) pe_int (fun _ _ => rfl)) (pa_cons (pe_ix ix_list (pv 2) pe_int (fun _ _ => rfl)) pa_nil))))) pss_nil)
      (pss_cons (ps_if (pt_cmpR op_eq (pv 1) (pe_glob (v := V.int 3) rfl h3 ⟨_, rfl⟩) (nomark _)) (pss_one (ps_ret (pe_meth (pv 0) T.cl m3 G3 (hr.mono (by decide)) b3 .nil pass0 (pa_cons (pe_ix ix_list (pv 2) pe_int (fun _ _ => rfl)) (pa_cons (pe_ix ix_list (pv 2) pe_int (fun _ _ => rfl)) pa_nil))))) pss_nil)
      (pss_cons (ps_if (pt_cmpR op_eq (pv 1) (pe_glob (v := V.int 4) rfl h4 ⟨_, rfl⟩) (nomark _)) (pss_one (ps_ret (pe_meth (pv 0) T.cl m4 G4 (hr.mono (by decide)) b4 .nil pass0 (pa_cons (pv 2) pa_nil)))) pss_nil)
      (pss_cons (ps_if (pt_cmpR op_eq (pv 1) (pe_glob (v := V.int 5) rfl h5 ⟨_, rfl⟩) (nomark _)) (pss_one (ps_ret (pe_meth0 (pv 0) T.cl m5 G5 (hr.mono (by decide)) b5 .nil pass0))) pss_nil)
      (pss_cons (ps_if (pt_cmpR op_eq (pv 1) (pe_glob (v := V.int 6) rfl h6 ⟨_, rfl⟩) (nomark _)) (pss_one (ps_ret (pe_meth (pv 0) T.cl m6 G6 (hr.mono (by decide)) b6 .nil pass0 (pa_cons (pv 2) pa_nil)))) pss_nil)
      (pss_one (ps_ret (pe_meth (pv 0) T.cl m7 G7 (hr.mono (by decide)) b7 .nil pass0 (pa_cons (pe_ix ix_list (pv 2) pe_int (fun _ _ => rfl)) (pa_cons (pe_ix ix_list (pv 2) pe_int (fun _ _ => rfl)) pa_nil))))))))))), ?_⟩
    have l8 := ok.len
    cases q with
    | begins l =>
      refine ⟨_, rfl, rfl, _, rfl, ifT rfl ?_⟩
      exact ⟨_, rfl, a, dx, _, rfl, hi, nF_no (by decide +kernel) (by decide +kernel) (by decide +kernel) (by decide +kernel), _, rfl, a, L, pl, st, ap, tg, n, l, rfl, N, hL, l8, k⟩
    | street s =>
      have hL : H L = some (.lst (vi [s.metres, s.grows])) := hL
      refine ⟨_, rfl, rfl, _, rfl, ifF rfl ⟨_, rfl, rfl, _, rfl, ifT rfl ?_⟩⟩
      exact ⟨_, rfl, a, dx, _, rfl, hi, nF_no (by decide +kernel) (by decide +kernel) (by decide +kernel) (by decide +kernel), _, rfl, L, _, _, _, rfl, rfl, SqL.of hL, atI_nat (j := 0) rfl, _, rfl, L, _, _, _, rfl, rfl, SqL.of hL, atI_nat (j := 1) rfl,
        a, pl, st, ap, tg, n, b, s.metres, s.grows, rfl, N, g, k⟩
    | apart i j =>
      have hL : H L = some (.lst (vi [i, j])) := hL
      refine ⟨_, rfl, rfl, _, rfl, ifF rfl ⟨_, rfl, rfl, _, rfl, ifF rfl ⟨_, rfl, rfl, _, rfl, ifT rfl ?_⟩⟩⟩
      exact ⟨_, rfl, a, dx, _, rfl, hi, nF_no (by decide +kernel) (by decide +kernel) (by decide +kernel) (by decide +kernel), _, rfl, L, _, _, _, rfl, rfl, SqL.of hL, atI_nat (j := 0) rfl, _, rfl, L, _, _, _, rfl, rfl, SqL.of hL, atI_nat (j := 1) rfl,
        a, pl, st, ap, tg, n, b, i, j, rfl, N, g, hb, k⟩
    | together i j =>
      have hL : H L = some (.lst (vi [i, j])) := hL
      refine ⟨_, rfl, rfl, _, rfl, ifF rfl ⟨_, rfl, rfl, _, rfl, ifF rfl ⟨_, rfl, rfl, _, rfl, ifF rfl ⟨_, rfl, rfl, _, rfl, ifT rfl ?_⟩⟩⟩⟩
      exact ⟨_, rfl, a, dx, _, rfl, hi, nF_no (by decide +kernel) (by decide +kernel) (by decide +kernel) (by decide +kernel), _, rfl, L, _, _, _, rfl, rfl, SqL.of hL, atI_nat (j := 0) rfl, _, rfl, L, _, _, _, rfl, rfl, SqL.of hL, atI_nat (j := 1) rfl,
        a, pl, st, ap, tg, n, b, i, j, rfl, N, g, hb, k⟩
    | check l =>
      refine ⟨_, rfl, rfl, _, rfl, ifF rfl ⟨_, rfl, rfl, _, rfl, ifF rfl ⟨_, rfl, rfl, _, rfl, ifF rfl ⟨_, rfl, rfl, _, rfl, ifF rfl ⟨_, rfl, rfl, _, rfl, ifT rfl ?_⟩⟩⟩⟩⟩
      exact ⟨_, rfl, a, dx, _, rfl, hi, nF_no (by decide +kernel) (by decide +kernel) (by decide +kernel) (by decide +kernel), _, rfl, a, L, pl, st, ap, tg, n, b, l, rfl, N, g, hL, l8, k⟩
    | best =>
      refine ⟨_, rfl, rfl, _, rfl, ifF rfl ⟨_, rfl, rfl, _, rfl, ifF rfl ⟨_, rfl, rfl, _, rfl, ifF rfl ⟨_, rfl, rfl, _, rfl, ifF rfl ⟨_, rfl, rfl, _, rfl, ifF rfl ⟨_, rfl, rfl, _, rfl, ifT rfl ?_⟩⟩⟩⟩⟩⟩
      exact ⟨_, rfl, a, dx, _, rfl, hi, nF_no (by decide +kernel) (by decide +kernel) (by decide +kernel) (by decide +kernel), a, pl, st, ap, tg, n, b, rfl, N, g, k⟩
    | ratio s =>
      refine ⟨_, rfl, rfl, _, rfl, ifF rfl ⟨_, rfl, rfl, _, rfl, ifF rfl ⟨_, rfl, rfl, _, rfl, ifF rfl ⟨_, rfl, rfl, _, rfl, ifF rfl ⟨_, rfl, rfl, _, rfl, ifF rfl ⟨_, rfl, rfl, _, rfl, ifF rfl ⟨_, rfl, rfl, _, rfl, ifT rfl ?_⟩⟩⟩⟩⟩⟩⟩
      exact ⟨_, rfl, a, dx, _, rfl, hi, nF_no (by decide +kernel) (by decide +kernel) (by decide +kernel) (by decide +kernel), _, rfl, a, L, pl, st, ap, tg, n, b, s, rfl, N, g, hL, l8, k⟩
    | needs i e =>
      have hL : H L = some (.lst (vi [i, e])) := hL
      refine ⟨_, rfl, rfl, _, rfl, ifF rfl ⟨_, rfl, rfl, _, rfl, ifF rfl ⟨_, rfl, rfl, _, rfl, ifF rfl ⟨_, rfl, rfl, _, rfl, ifF rfl ⟨_, rfl, rfl, _, rfl, ifF rfl ⟨_, rfl, rfl, _, rfl, ifF rfl ⟨_, rfl, rfl, _, rfl, ifF rfl ?_⟩⟩⟩⟩⟩⟩⟩
      exact ⟨_, rfl, a, dx, _, rfl, hi, nF_no (by decide +kernel) (by decide +kernel) (by decide +kernel) (by decide +kernel), _, rfl, L, _, _, _, rfl, rfl, SqL.of hL, atI_nat (j := 0) rfl, _, rfl, L, _, _, _, rfl, rfl, SqL.of hL, atI_nat (j := 1) rfl,
        a, pl, st, ap, tg, n, b, i, e, rfl, N, g, k⟩
end
end SnowB
/-! ## part B18 -/
namespace SnowB
open PySem PySem.Spec PyProof.Rows L2
open SnowM (Time Good num enc QOk playQ shortQ)
open Si79 (parts Night)
/-! ### calls one behind another -/
theorem step_good {n : Night} {b : Nat} (g : Good n b) (q : Si79.Call) : Good (Si79.step n q).1 (b + 1) := by
  have up : Good n (b + 1) := ⟨g.p1, g.p3, g.sv, g.s4, g.st, g.ap, g.tg, by have := g.al; omega, by have := g.tl; omega⟩
  cases q with
  | begins l =>
    show Good (if _ then _ else _ : Night × Si79.Ans).1 (b + 1)
    split
    · exact up
    · rename_i h
      have h1 : ¬ l.length < 1 := fun q => h (.inl q)
      have h2 : ¬ Si79.PLOUGHS < l.length := fun q => h (.inr (.inl q))
      have h3 : (l.all fun v => decide (1 ≤ v) && decide (v ≤ Si79.FAST)) = true := by
        cases e : (l.all fun v => decide (1 ≤ v) && decide (v ≤ Si79.FAST)) with
        | true => rfl
        | false => exact absurd (.inr (.inr e)) h
      have e1 : Si79.PLOUGHS = 3 := rfl
      have e2 : Si79.FAST = 1000 := rfl
      refine ⟨by show 1 ≤ l.length; omega, by show l.length ≤ 3; omega, fun v hv => ?_, Nat.zero_le _, fun s hs => absurd hs (by simp), fun s hs => absurd hs (by simp), fun s hs => absurd hs (by simp), Nat.zero_le _, Nat.zero_le _⟩
      have := List.all_eq_true.mp h3 v hv
      rw [Bool.and_eq_true, decide_eq_true_eq, decide_eq_true_eq] at this
      omega
  | street s =>
    show Good (if _ then _ else if _ then _ else _ : Night × Si79.Ans).1 (b + 1)
    split
    · exact up
    · rename_i h
      split
      · exact up
      · rename_i h2
        have e1 : Si79.LONG = 1000 := rfl
        have e2 : Si79.STREETS = 4 := rfl
        have e3 : n.count = n.streets.length := rfl
        have lc : (n.streets ++ [s]).length = n.streets.length + 1 := by rw [List.length_append]; rfl
        refine ⟨g.p1, g.p3, g.sv, ?_, fun x hx => ?_, fun x hx => ?_, fun x hx => ?_, up.al, up.tl⟩
        · show (n.streets ++ [s]).length ≤ 4
          omega
        · rcases List.mem_append.mp hx with q | q
          · exact g.st x q
          · rw [List.mem_singleton.mp q]
            omega
        · have := g.ap x hx
          show x.1 < (n.streets ++ [s]).length ∧ x.2 < (n.streets ++ [s]).length
          omega
        · have := g.tg x hx
          show x.1 < (n.streets ++ [s]).length ∧ x.2 < (n.streets ++ [s]).length
          omega
  | apart i j =>
    by_cases h : n.two n.apart i j < 0
    · rw [step_apart_no h]
      exact up
    · rw [step_apart_yes h]
      have hb : ¬ (n.count ≤ i ∨ n.count ≤ j) := fun q => h (by unfold Night.two; rw [if_pos q]; decide)
      refine ⟨g.p1, g.p3, g.sv, g.s4, g.st, fun x hx => ?_, g.tg, ?_, up.tl⟩
      · rcases List.mem_append.mp hx with q | q
        · exact g.ap x q
        · rw [List.mem_singleton.mp q]
          show i < n.count ∧ j < n.count
          omega
      · show (n.apart ++ [(i, j)]).length ≤ b + 1
        rw [List.length_append]
        have := g.al
        show _ + 1 ≤ _
        omega
  | together i j =>
    by_cases h : n.two n.together i j < 0
    · rw [step_tog_no h]
      exact up
    · rw [step_tog_yes h]
      have hb : ¬ (n.count ≤ i ∨ n.count ≤ j) := fun q => h (by unfold Night.two; rw [if_pos q]; decide)
      refine ⟨g.p1, g.p3, g.sv, g.s4, g.st, g.ap, fun x hx => ?_, up.al, ?_⟩
      · rcases List.mem_append.mp hx with q | q
        · exact g.tg x q
        · rw [List.mem_singleton.mp q]
          show i < n.count ∧ j < n.count
          omega
      · show (n.together ++ [(i, j)]).length ≤ b + 1
        rw [List.length_append]
        have := g.tl
        show _ + 1 ≤ _
        omega
  | check l =>
    show Good (if _ then _ else if _ then _ else _ : Night × Si79.Ans).1 (b + 1)
    split
    · exact up
    · split <;> exact up
  | best => exact up
  | ratio s =>
    show Good (if _ then _ else _ : Night × Si79.Ans).1 (b + 1)
    split <;> exact up
  | needs k e =>
    show Good (if _ then _ else if _ then _ else _ : Night × Si79.Ans).1 (b + 1)
    split
    · exact up
    · split <;> exact up
theorem good_init : Good Si79.init 0 := ⟨by decide, by decide, fun v hv => by rw [List.mem_singleton.mp (show v ∈ [1] from hv)]; decide, by decide, fun s hs => absurd hs (by simp [Si79.init]), fun s hs => absurd hs (by simp [Si79.init]), fun s hs => absurd hs (by simp [Si79.init]), by decide, by decide⟩
def stN (qs : List Si79.Call) : Night := qs.foldl (fun n q => (Si79.step n q).1) Si79.init
theorem good_fold : ∀ (qs : List Si79.Call) (n : Night) (b : Nat), Good n b → Good (qs.foldl (fun n q => (Si79.step n q).1) n) (b + qs.length)
  | [], n, b, g => g
  | q :: qs, n, b, g => by
    have := good_fold qs _ _ (step_good g q)
    rw [List.foldl_cons, List.length_cons, show b + (qs.length + 1) = b + 1 + qs.length by omega]
    exact this
def ansOf (n : Night) (q : Si79.Call) : List Int := (Si79.step n q).2.v :: (Si79.step n q).2.l
theorem play_snoc : ∀ (qs : List Si79.Call) (s : Night) (q : Si79.Call), playQ s (qs ++ [q]) = playQ s qs ++ [ansOf (qs.foldl (fun n q => (Si79.step n q).1) s) q]
  | [], s, q => rfl
  | x :: qs, s, q => by
    show _ :: playQ _ (qs ++ [q]) = _ :: (playQ _ qs ++ _)
    rw [play_snoc qs _ q]
    rfl
def toldN (qs : List Si79.Call) : List Int := PyFlat.told (playQ Si79.init qs)
theorem told_snoc (qs : List Si79.Call) (q : Si79.Call) : toldN (qs ++ [q]) = toldN qs ++ [((ansOf (stN qs) q).length : Int)] ++ ansOf (stN qs) q := by
  unfold toldN PyFlat.told
  rw [play_snoc, List.flatMap_append, List.flatMap_cons, List.flatMap_nil, List.append_nil, List.append_assoc]
  rfl
theorem told_len : ∀ (qs : List Si79.Call) (s : Night) (k i : Nat), shortQ s k qs → (PyFlat.told (playQ s (qs.take i))).length ≤ k + i
  | [], s, k, i, h => by
    rw [List.take_nil]
    exact Nat.zero_le _
  | q :: qs, s, k, 0, h => Nat.zero_le _
  | q :: qs, s, k, i + 1, h => by
    obtain ⟨h1, h2⟩ := h
    have ih := told_len qs _ _ i h2
    rw [List.take_succ_cons]
    have e : (PyFlat.told (playQ s (q :: qs.take i))).length = ((Si79.step s q).2.l.length + 1) + 1 + (PyFlat.told (playQ (Si79.step s q).1 (qs.take i))).length := by
      show (List.flatMap _ (_ :: _)).length = _
      rw [List.flatMap_cons, List.length_append]
      rfl
    omega
/-- the night stands when another list changes -/
theorem NightAt.other {C : Addr} {H : Hp} {a : Addr} {n : Night} {pl st ap tg D : Addr} {xs ys : List V} (N : NightAt C H a n pl st ap tg) (hD : H D = some (.lst xs)) (h1 : D ≠ pl) (h2 : D ≠ st) (h3 : D ≠ ap) (h4 : D ≠ tg) : NightAt C (upd H D (.lst ys)) a n pl st ap tg := by
  obtain ⟨dx, hi⟩ := N.ins
  have k : ∀ b o, H b = some o → b ≠ D → upd H D (.lst ys) b = some o := fun b o hb hne => by
    rw [upd_ne hne]
    exact hb
  exact ⟨⟨dx, k _ _ hi (ne_of hi hD (fun z => by cases z))⟩, k _ _ N.p h1.symm, RL.keep (fun x : Si79.Street => [ci x.metres, ci x.grows]) hD k h2.symm N.s, RL.keep (fun x : Nat × Nat => [ci x.1, ci x.2]) hD k h3.symm N.x, RL.keep (fun x : Nat × Nat => [ci x.1, ci x.2]) hD k h4.symm N.y, N.ps, N.pa, N.pt, N.sa, N.sg, N.ag⟩
def spAnswers (K : PySem.W.Frag) : Sp := fun vs H Q _ => ∃ (c : Addr) (zs : List Int), vs = [.ref c] ∧ SqL K H c (zs.map V.int) ∧ PySi79.answers_asked zs = true ∧ ∀ (H' : Hp) (p : Addr), H' p = some (.lst ((PySi79.answers zs).map V.int)) → Q (.ref p) H'
section
variable {P : Program} {w : World} {K : PySem.W.Frag} {mg : Str → Option Value} {base : Heap} {C : Addr}
theorem scAnswers : FnScope ["calls", "night", "told", "number", "numbers", "answered"] ["calls"] (defScope sAnswers) := ⟨rfl, rfl, rfl, by decide +kernel, rfl, by decide +kernel, by decide +kernel⟩
theorem ok_answers {f fI : Addr} {fd fdI : FuncData} (F : Fun K "answers" "answers" sAnswers f fd) (T : Txt K mg C) (M : Mk K C fI) (GI : FnOk P w K mg base CX0 1 fI fdI ["self"] (spInit C)) (bI : Binds K fdI ["self"] [])
    (cR : CalF P w K mg base "read_calls" 1 ["calls"] (spRead K)) (cA : CalF P w K mg base "answer" 6 ["night", "number", "numbers"] (spAns1 C)) : FnOk P w K mg base CX0 7 f fd ["calls"] (spAnswers K) := by
  obtain ⟨fR, fdR, GR, mR, kR, bR⟩ := cR
  obtain ⟨fA, fdA, GA, mA, kA, bA⟩ := cA
  refine F.ok scAnswers (fun vs H Q E h => ?_) (fun cdv A outer s H vs Q E hr h => ?_)
  · obtain ⟨c, zs, rfl, _⟩ := h
    rfl
  · obtain ⟨c, zs, rfl, hS, hask, k⟩ := h
    obtain ⟨qs, rfl, h60, hok, hsh, hans⟩ := SnowM.decode hask
    rw [← vi_ints] at hS
    rw [hans] at k
    refine ⟨_, pss_cons (ps_set (i := 1) scAnswers.nd rfl (Or.inl rfl) (pe_make0 M GI (hr.mono (by decide)) rfl T.gC bI .nil pass0))
      (pss_cons (ps_set (i := 2) scAnswers.nd rfl (Or.inl rfl) (pe_lst pa_nil))
      (pss_cons (ps_for PassesOwn.never rfl (pi_list (pe_call GR (hr.mono (by decide)) rfl mR kR bR .nil pass0 (pa_cons (pv 0) pa_nil))) (pg_tup rfl (pgs_cons (pg_name (i := 3) scAnswers.nd rfl (Or.inl rfl)) (pgs_cons (pg_name (i := 4) scAnswers.nd rfl (Or.inl rfl)) pgs_nil)))
        (pss_cons (ps_set (i := 5) scAnswers.nd rfl (Or.inl rfl) (pe_call GA (hr.mono (by decide)) rfl mA kA bA .nil pass0 (pa_cons (pv 1) (pa_cons (pv 3) (pa_cons (pv 4) pa_nil)))))
        (pss_cons (ps_expr (pe_bm PySem.F.plainAttrs_list PySem.F.slot_list_append PySem.F.type_list_append mt_append (pv 2) (pa_cons (pe_callB call_len_seq (by rfl) T.len PySem.boot_len (pa_cons (pv 5) pa_nil)) pa_nil)))
        (pss_one (ps_expr (pe_bm PySem.F.plainAttrs_list PySem.F.slot_list_extend PySem.F.type_list_extend mt_extend (pv 2) (pa_cons (pv 5) pa_nil)))))))
      (pss_one (ps_ret (pv 2))))), ?_⟩
    intro a d0 n0 m0 e0
    refine ⟨a, d0, rfl, upd_same, fun H1 pl st ap tg N1 kp ⟨f1, f2, f3, f4⟩ => ⟨rfl, ?_⟩⟩
    have s1 : Same H H1 := Same.made n0 m0 kp
    refine ⟨Nat.zero_le _, fun D nD => ?_⟩
    have s2 : Same H1 (upd H1 D (.lst [])) := same_upd nD
    have hD0 : (upd H1 D (.lst [])) D = some (.lst []) := upd_same
    have N2 := N1.mono s2
    generalize upd H1 D (.lst []) = H2 at *
    have fD : H D = none := s1.free nD
    refine ⟨_, rfl, c, qs, rfl, (s1.trans s2).seq hS, h60, fun H3 r s3 nr ⟨as, hr3, al⟩ => ?_⟩
    have N3 := N2.mono s3
    have hD3 := s3 _ _ hD0
    have mM : ∀ b o, H2 b = some o → mns H3 H2 b = none := fun b o hb => by
      unfold mns
      rw [hb]
      rfl
    obtain ⟨dx2, hi2⟩ := N2.ins
    obtain ⟨ss2, hs2, _⟩ := N2.s
    obtain ⟨xs2, hx2, _⟩ := N2.x
    obtain ⟨ys2, hy2, _⟩ := N2.y
    have sM : Same (mns H3 H2) H3 := mns_same _ _
    have Ma := mM _ _ hi2
    have Ms := mM _ _ hs2
    have Mx := mM _ _ hx2
    have My := mM _ _ hy2
    have MD := mM _ _ hD0
    have hD1 : ∀ b o, H1 b = some o → D ≠ b := fun b o hb q => by rw [← q, nD] at hb; cases hb
    have dp : D ≠ pl := hD1 _ _ N1.p
    have ds : D ≠ st := by
      obtain ⟨_, h, _⟩ := N1.s
      exact hD1 _ _ h
    have dy : D ≠ tg := by
      obtain ⟨_, h, _⟩ := N1.y
      exact hD1 _ _ h
    have dxx : D ≠ ap := by
      obtain ⟨_, h, _⟩ := N1.x
      exact hD1 _ _ h
    generalize mns H3 H2 = M at *
    refine ⟨r, rfl, ⟨_, SqL.of (sM _ _ hr3)⟩, for_list (K := K) (a := r) (xs := as.map V.ref) (fun i σ H' => ∃ (pl st ap tg : Addr) (v3 v4 v5 : Option V), σ = [some (.ref c), some (.ref a), some (.ref D), v3, v4, v5] ∧ NightAt C H' a (stN (qs.take i)) pl st ap tg ∧ Same M H' ∧ (M a = none ∧ M st = none ∧ M ap = none ∧ M tg = none) ∧
        (D ≠ pl ∧ D ≠ st ∧ D ≠ ap ∧ D ≠ tg) ∧ H' D = some (.lst ((toldN (qs.take i)).map V.int)))
      ⟨pl, st, ap, tg, none, none, none, rfl, N3, sM, ⟨Ma, Ms, Mx, My⟩, ⟨dp, ds, dxx, dy⟩, hD3⟩ (fun i σ H' _ ⟨_, _, _, _, _, _, _, _, _, m, _⟩ => SqL.of (m _ _ hr3)) ?_ ?_⟩
    · rintro i x σ H4 hx ⟨pl, st, ap, tg, v3, v4, v5, rfl, N4, m4, ⟨Ma, Ms, Mx, My⟩, ⟨dp, ds, dxx, dy⟩, hD4⟩
      obtain ⟨t, ht, rfl⟩ := refs_get hx
      obtain ⟨q, hq, L, hT, hL⟩ := al.get ht
      have hi60 : i < 60 := by
        have := (List.getElem?_eq_some_iff.mp hq).1
        omega
      have g4 : Good (stN (qs.take i)) i := by
        have := good_fold (qs.take i) Si79.init 0 good_init
        rw [List.length_take, show 0 + min i qs.length = i by have := (List.getElem?_eq_some_iff.mp hq).1; omega] at this
        exact this
      have tl := told_len qs Si79.init 999999 (i + 1) hsh
      have ts : toldN (qs.take (i + 1)) = toldN (qs.take i) ++ [((ansOf (stN (qs.take i)) q).length : Int)] ++ ansOf (stN (qs.take i)) q := by rw [take_more hq, told_snoc]
      have tl : (toldN (qs.take (i + 1))).length ≤ 1000059 := by
        unfold toldN
        omega
      rw [ts, List.length_append, List.length_append] at tl
      have tl : (toldN (qs.take i)).length + 1 + (ansOf (stN (qs.take i)) q).length ≤ 1000059 := tl
      have sn : stN (qs.take (i + 1)) = (Si79.step (stN (qs.take i)) q).1 := by
        rw [take_more hq]
        unfold stN
        rw [List.foldl_append]
        rfl
      obtain ⟨dx4, hi4⟩ := N4.ins
      obtain ⟨ss4, hs4, _⟩ := N4.s
      obtain ⟨xs4, hx4, _⟩ := N4.x
      obtain ⟨ys4, hy4, _⟩ := N4.y
      have hT4 : H4 t = some (.tup [ci (num q).1, .ref L]) := m4 _ _ hT
      have hL4 : RN H4 L (num q).2 := m4 _ _ hL
      refine ⟨t, _, rfl, SqT.of hT4, rfl, _, _, rfl, _, _, rfl, rfl, ?_⟩
      refine ⟨_, rfl, _, rfl, _, rfl, a, L, pl, st, ap, tg, _, i, q, rfl, N4, g4, by omega, hok q (List.mem_of_getElem? hq), hL4, ?_⟩
      intro H5 r5 pl' st' ap' tg' N5 fr nw nr5 ri5
      have Da : D ≠ a := ne_of hD4 hi4 (fun z => by cases z)
      have hD5 : H5 D = some (.lst ((toldN (qs.take i)).map V.int)) := fr _ _ hD4 Da ds dxx dy
      have nwD : ∀ x x', Nw H4 x x' → D ≠ x → D ≠ x' := fun x x' h hx => by
        rcases h with e | e
        · rw [e]; exact hx
        · intro q
          rw [← q, hD4] at e
          cases e
      have m5 : Same M H5 := fun b o hb => fr _ _ (m4 _ _ hb) (fun q => by rw [q, Ma] at hb; cases hb) (fun q => by rw [q, Ms] at hb; cases hb) (fun q => by rw [q, Mx] at hb; cases hb) (fun q => by rw [q, My] at hb; cases hb)
      have nwM : ∀ x x', Nw H4 x x' → M x = none → M x' = none := fun x x' h hx => by
        rcases h with e | e
        · rw [e]; exact hx
        · exact m4.free e
      have dr : D ≠ r5 := ne_of_none hD4 nr5
      have MD5 : M D = none := MD
      refine ⟨_, rfl, .inl ⟨rfl, _, SqL.of hD5⟩, _, rfl, r5, _, rfl, .inl (SqL.of ri5), D, _, _, rfl, rfl, hD5, by rw [List.length_map, sizeLine_eq]; omega, ?_⟩
      generalize hX : upd H5 D _ = H6
      have hD6 : H6 D = some (.lst ((toldN (qs.take i) ++ [((ansOf (stN (qs.take i)) q).length : Int)]).map V.int)) := by
        rw [← hX, upd_same, List.map_append, List.length_map]
        rfl
      have hr6 : H6 r5 = some (.lst ((ansOf (stN (qs.take i)) q).map V.int)) := by
        rw [← hX, upd_ne dr.symm]
        exact ri5
      have N6 : NightAt C H6 a (Si79.step (stN (qs.take i)) q).1 pl' st' ap' tg' := by
        rw [← hX]
        exact N5.other hD5 (nwD _ _ nw.1 dp) (nwD _ _ nw.2.1 ds) (nwD _ _ nw.2.2.1 dxx) (nwD _ _ nw.2.2.2 dy)
      have m6 : Same M H6 := by
        rw [← hX]
        exact same_upd2 m5 MD5
      refine ⟨_, rfl, .inl ⟨rfl, _, SqL.of hD6⟩, _, rfl, D, r5, _, _, rfl, rfl, hD6, hr6, ?_, ?_⟩
      · rw [List.length_map, List.length_map, List.length_append, sizeLine_eq]
        show _ + 1 + _ ≤ _
        omega
      · refine ⟨pl', st', ap', tg', _, _, _, rfl, ?_, same_upd2 m6 MD5, ⟨Ma, nwM _ _ nw.2.1 Ms, nwM _ _ nw.2.2.1 Mx, nwM _ _ nw.2.2.2 My⟩, ⟨nwD _ _ nw.1 dp, nwD _ _ nw.2.1 ds, nwD _ _ nw.2.2.1 dxx, nwD _ _ nw.2.2.2 dy⟩, ?_⟩
        · rw [sn]
          exact N6.other hD6 (nwD _ _ nw.1 dp) (nwD _ _ nw.2.1 ds) (nwD _ _ nw.2.2.1 dxx) (nwD _ _ nw.2.2.2 dy)
        · rw [upd_same, ts, List.map_append (l₁ := toldN (qs.take i) ++ _)]
    · rintro σ H4 ⟨pl, st, ap, tg, v3, v4, v5, rfl, N4, m4, _, _, hD4⟩
      rw [List.length_map, al.1, List.take_length] at hD4
      exact ⟨_, rfl, k H4 D hD4⟩
end
end SnowB
/-! ## part C1 -/
namespace SnowB
open PySem PySem.Spec PyProof.Rows L2
open PySem.W (Codec)
/-- a def of the top -/
structure GlbF (K : PySem.W.Frag) (x : Str) (st : Stmt) (f : Addr) (fd : FuncData) : Prop where
  at_ : PySem.W.nsIn K mainGlobals x = some (some (.ref f))
  fn : Fun K x x st f fd
  kp : PySem.W.keepIn K (.ref f) = true
  nod : ∃ kV doc pm an cdv ct, fd = PySem.W.fnOf x x (defArgs st) (defBody st) (defScope st) .none kV doc pm an cdv ct
structure MthF (K : PySem.W.Frag) (C : Addr) (x qual : Str) (st : Stmt) (f : Addr) (fd : FuncData) : Prop where
  m : Meth K C x f
  fn : Fun K x qual st f fd
theorem glb_mk {K : PySem.W.Frag} {x : Str} {st : Stmt} {f : Addr} {od an : Option Addr} {sl : Array (Option Value)} {oc kV dc pm cd ct : Value} (a : PySem.W.nsIn K mainGlobals x = some (some (.ref f)))
    (l : K.lookup f = some ⟨oc, od, .func (PySem.W.fnOf x x (defArgs st) (defBody st) (defScope st) .none kV dc pm an cd ct), sl⟩) (c : PySem.W.codeIn K cd x = true) (k : PySem.W.keepIn K (.ref f) = true) :
    GlbF K x st f (PySem.W.fnOf x x (defArgs st) (defBody st) (defScope st) .none kV dc pm an cd ct) := ⟨a, fun_mk l c k, k, _, _, _, _, _, _, rfl⟩
theorem mth_mk {K : PySem.W.Frag} {C : Addr} {x qual : Str} {st : Stmt} {f : Addr} {od an : Option Addr} {sl : Array (Option Value)} {oc kV dc pm cd ct : Value} (a : PySem.W.findIn K (.ref C) x = some (some (.ref f))) (i : PySem.W.isFn K (.ref f) = true)
    (l : K.lookup f = some ⟨oc, od, .func (PySem.W.fnOf x qual (defArgs st) (defBody st) (defScope st) .none kV dc pm an cd ct), sl⟩) (c : PySem.W.codeIn K cd qual = true) (k : PySem.W.keepIn K (.ref f) = true) :
    MthF K C x qual st f (PySem.W.fnOf x qual (defArgs st) (defBody st) (defScope st) .none kV dc pm an cd ct) := ⟨⟨a, i, k⟩, fun_mk l c k⟩
theorem all_mk {P : Program} {w : World} {K : PySem.W.Frag} {h : Heap} {mg : Str → Option Value} {fa C : Addr} {FM FLo FI FLa FD FN FP FS FJ FSo FO FF FR FA FZ Gi Gb Ga Gp Gg Gt Gw Gm Gc Go Ge Gr Gq Gh Gn : Addr} {dM dLo dI dLa dD dN dP dS dJ dSo dO dF dR dA dZ ei eb ea ep eg et ew em ec eo ee er eq eh en : FuncData} {tc0 tc1 tc2 tc3 tc4 tc5 tc6 tmP tmS tmM tmH tmE tmC : Tok} (X : K.In h) (G : h.Ns mainGlobals mg) (hfa : mg "answers" = some (.ref fa))
    (aC : PySem.W.nsIn K mainGlobals "Night" = some (some (.ref C)))
    (gM : GlbF K "is_metres" sMetres FM dM)
    (gLo : GlbF K "in_lowest_terms" sLow FLo dLo)
    (gI : GlbF K "is_less" sLess FI dI)
    (gLa : GlbF K "latest" sLatest FLa dLa)
    (gD : GlbF K "when_done" sDone FD dD)
    (gN : GlbF K "numbers_of_plans" sNums FN dN)
    (gP : GlbF K "all_plans" sPlans FP dP)
    (gS : GlbF K "shares_of" sShares FS dS)
    (gJ : GlbF K "plan_of" sPlanOf FJ dJ)
    (gSo : GlbF K "streets_of" sStreetsOf FSo dSo)
    (gO : GlbF K "is_one_ploughs" sOne FO dO)
    (gF : GlbF K "first_pair" sFirst FF dF)
    (gR : GlbF K "read_calls" sRead FR dR)
    (gA : GlbF K "answer" sAnswer FA dA)
    (gZ : GlbF K "answers" sAnswers FZ dZ)
    (mi : MthF K C "__init__" "Night.__init__" sInit Gi ei)
    (mb : MthF K C "begin" "Night.begin" sBegin Gb eb)
    (ma : MthF K C "add_street" "Night.add_street" sAdd Ga ea)
    (mp : MthF K C "tell_apart" "Night.tell_apart" sApart Gp ep)
    (mg_ : MthF K C "tell_together" "Night.tell_together" sTog Gg eg)
    (mt : MthF K C "tell" "Night.tell" sTell Gt et)
    (mw : MthF K C "why_not" "Night.why_not" sWhy Gw ew)
    (mm : MthF K C "times" "Night.times" sTimes Gm em)
    (mc : MthF K C "check" "Night.check" sCheck Gc ec)
    (mo : MthF K C "possible_shares" "Night.possible_shares" sPoss Go eo)
    (me : MthF K C "best" "Night.best" sBest Ge ee)
    (mr : MthF K C "in_order_of_ratio" "Night.in_order_of_ratio" sOrder Gr er)
    (mq : MthF K C "ratio" "Night.ratio" sRatio Gq eq)
    (mh : MthF K C "is_enough" "Night.is_enough" sEnough Gh eh)
    (mn : MthF K C "needs" "Night.needs" sNeeds Gn en)
    (kc0 : PySem.W.nsIn K mainGlobals "BEGINS" = some (some (.int 0 tc0)))
    (kc1 : PySem.W.nsIn K mainGlobals "STREET" = some (some (.int 1 tc1)))
    (kc2 : PySem.W.nsIn K mainGlobals "APART" = some (some (.int 2 tc2)))
    (kc3 : PySem.W.nsIn K mainGlobals "TOGETHER" = some (some (.int 3 tc3)))
    (kc4 : PySem.W.nsIn K mainGlobals "CHECK" = some (some (.int 4 tc4)))
    (kc5 : PySem.W.nsIn K mainGlobals "BEST" = some (some (.int 5 tc5)))
    (kc6 : PySem.W.nsIn K mainGlobals "RATIO" = some (some (.int 6 tc6)))
    (kmP : PySem.W.nsIn K mainGlobals "MOST_PLOUGHS" = some (some (.int 3 tmP)))
    (kmS : PySem.W.nsIn K mainGlobals "MOST_STREETS" = some (some (.int 4 tmS)))
    (kmM : PySem.W.nsIn K mainGlobals "MOST_METRES" = some (some (.int 1000 tmM)))
    (kmH : PySem.W.nsIn K mainGlobals "MOST_HUNDREDTHS" = some (some (.int 100 tmH)))
    (kmE : PySem.W.nsIn K mainGlobals "MOST_MINUTES" = some (some (.int 5000 tmE)))
    (kmC : PySem.W.nsIn K mainGlobals "HUNDREDTHS_OF_A_METRE" = some (some (.int 100 tmC)))
    (zlen : PySem.W.nsIn K mainGlobals "len" = some none)
    (zrange : PySem.W.nsIn K mainGlobals "range" = some none)
    (zlist : PySem.W.nsIn K mainGlobals "list" = some none)
    (zenumerate : PySem.W.nsIn K mainGlobals "enumerate" = some none)
    (zany : PySem.W.nsIn K mainGlobals "any" = some none)
    (zall : PySem.W.nsIn K mainGlobals "all" = some none)
    (zsorted : PySem.W.nsIn K mainGlobals "sorted" = some none)
    (zzip : PySem.W.nsIn K mainGlobals "zip" = some none)
    (nP : PySem.W.findIn K (.ref C) "ploughs" = some none)
    (nS : PySem.W.findIn K (.ref C) "streets" = some none)
    (nA : PySem.W.findIn K (.ref C) "apart" = some none)
    (nT : PySem.W.findIn K (.ref C) "together" = some none)
    (pg : PySem.W.plainGet K C Str.empty = true) (hd : PySem.W.hasDictIn K C = true) (po : PySem.W.plainOver K C = true) (sa : PySem.W.findIn K (.ref C) "__setattr__" = some (some (.builtin "object.__setattr__"))) (mk : PySem.W.makesIn K C = true) (kc : PySem.W.keepIn K (.ref C) = true) :
    ∃ fd : FuncData, (∀ (s : Shared) (us : List Value), us.length = (["calls"] : List Str).length → BindsTo s fd ⟨us, []⟩ ((["calls"] : List Str).zip us)) ∧ ∀ base : Heap, K.In base → base.Ns mainGlobals mg → FnOk P w K mg base CX0 7 fa fd ["calls"] (spAnswers K) := by
  have e := hfa.symm.trans (PySem.W.mg_of X G gZ.at_)
  cases e
  have T : Txt K mg C := ⟨⟨pg, hd, po, sa⟩, nP, nS, nA, nT, PySem.W.mg_of X G aC, ⟨_, PySem.W.mg_of X G kc0⟩, ⟨_, PySem.W.mg_of X G kc1⟩, ⟨_, PySem.W.mg_of X G kc2⟩, ⟨_, PySem.W.mg_of X G kc3⟩, ⟨_, PySem.W.mg_of X G kc4⟩, ⟨_, PySem.W.mg_of X G kc5⟩, ⟨_, PySem.W.mg_of X G kc6⟩, ⟨_, PySem.W.mg_of X G kmP⟩, ⟨_, PySem.W.mg_of X G kmS⟩, ⟨_, PySem.W.mg_of X G kmM⟩, ⟨_, PySem.W.mg_of X G kmH⟩, ⟨_, PySem.W.mg_of X G kmE⟩, ⟨_, PySem.W.mg_of X G kmC⟩, PySem.W.mg_none_of X G zlen, PySem.W.mg_none_of X G zrange, PySem.W.mg_none_of X G zlist, PySem.W.mg_none_of X G zenumerate, PySem.W.mg_none_of X G zany, PySem.W.mg_none_of X G zall, PySem.W.mg_none_of X G zsorted, PySem.W.mg_none_of X G zzip⟩
  have bM := gM.fn.binds (ps := ["number"]) fun _ _ _ _ _ _ us hl => match us, hl with | [_], _ => rfl
  have bLo := gLo.fn.binds (ps := ["above", "below"]) fun _ _ _ _ _ _ us hl => match us, hl with | [_, _], _ => rfl
  have bI := gI.fn.binds (ps := ["fraction", "other"]) fun _ _ _ _ _ _ us hl => match us, hl with | [_, _], _ => rfl
  have bLa := gLa.fn.binds (ps := ["times"]) fun _ _ _ _ _ _ us hl => match us, hl with | [_], _ => rfl
  have bD := gD.fn.binds (ps := ["streets", "speed"]) fun _ _ _ _ _ _ us hl => match us, hl with | [_, _], _ => rfl
  have bN := gN.fn.binds (ps := ["street_count", "plough_count"]) fun _ _ _ _ _ _ us hl => match us, hl with | [_, _], _ => rfl
  have bP := gP.fn.binds (ps := ["street_count", "plough_count"]) fun _ _ _ _ _ _ us hl => match us, hl with | [_, _], _ => rfl
  have bS := gS.fn.binds (ps := ["plan", "street_count"]) fun _ _ _ _ _ _ us hl => match us, hl with | [_, _], _ => rfl
  have bJ := gJ.fn.binds (ps := ["shares", "street_count"]) fun _ _ _ _ _ _ us hl => match us, hl with | [_, _], _ => rfl
  have bSo := gSo.fn.binds (ps := ["plough", "owners"]) fun _ _ _ _ _ _ us hl => match us, hl with | [_, _], _ => rfl
  have bO := gO.fn.binds (ps := ["shares", "street", "other"]) fun _ _ _ _ _ _ us hl => match us, hl with | [_, _, _], _ => rfl
  have bF := gF.fn.binds (ps := ["pairs", "shares", "wanted"]) fun _ _ _ _ _ _ us hl => match us, hl with | [_, _, _], _ => rfl
  have bR := gR.fn.binds (ps := ["calls"]) fun _ _ _ _ _ _ us hl => match us, hl with | [_], _ => rfl
  have bA := gA.fn.binds (ps := ["night", "number", "numbers"]) fun _ _ _ _ _ _ us hl => match us, hl with | [_, _, _], _ => rfl
  have bZ := gZ.fn.binds (ps := ["calls"]) fun _ _ _ _ _ _ us hl => match us, hl with | [_], _ => rfl
  have qi := mi.fn.binds (ps := ["self"]) fun _ _ _ _ _ _ us hl => match us, hl with | [_], _ => rfl
  have qb := mb.fn.binds (ps := ["self", "ploughs"]) fun _ _ _ _ _ _ us hl => match us, hl with | [_, _], _ => rfl
  have qa := ma.fn.binds (ps := ["self", "metres", "hundredths"]) fun _ _ _ _ _ _ us hl => match us, hl with | [_, _, _], _ => rfl
  have qp := mp.fn.binds (ps := ["self", "street", "other"]) fun _ _ _ _ _ _ us hl => match us, hl with | [_, _, _], _ => rfl
  have qg := mg_.fn.binds (ps := ["self", "street", "other"]) fun _ _ _ _ _ _ us hl => match us, hl with | [_, _, _], _ => rfl
  have qt := mt.fn.binds (ps := ["self", "pairs", "street", "other"]) fun _ _ _ _ _ _ us hl => match us, hl with | [_, _, _, _], _ => rfl
  have qw := mw.fn.binds (ps := ["self", "shares"]) fun _ _ _ _ _ _ us hl => match us, hl with | [_, _], _ => rfl
  have qm := mm.fn.binds (ps := ["self", "shares", "ploughs"]) fun _ _ _ _ _ _ us hl => match us, hl with | [_, _, _], _ => rfl
  have qc := mc.fn.binds (ps := ["self", "plan"]) fun _ _ _ _ _ _ us hl => match us, hl with | [_, _], _ => rfl
  have qo := mo.fn.binds (ps := ["self"]) fun _ _ _ _ _ _ us hl => match us, hl with | [_], _ => rfl
  have qe := me.fn.binds (ps := ["self"]) fun _ _ _ _ _ _ us hl => match us, hl with | [_], _ => rfl
  have qr := mr.fn.binds (ps := ["self", "streets"]) fun _ _ _ _ _ _ us hl => match us, hl with | [_, _], _ => rfl
  have qq := mq.fn.binds (ps := ["self", "owners"]) fun _ _ _ _ _ _ us hl => match us, hl with | [_, _], _ => rfl
  have qh := mh.fn.binds (ps := ["self", "possible", "ploughs", "minute"]) fun _ _ _ _ _ _ us hl => match us, hl with | [_, _, _, _], _ => rfl
  have qn := mn.fn.binds (ps := ["self", "plough", "minute"]) fun _ _ _ _ _ _ us hl => match us, hl with | [_, _, _], _ => rfl
  refine ⟨dZ, fun s us hu => ?_, fun base _ _ => ?_⟩
  · obtain ⟨_, _, _, _, _, _, rfl⟩ := gZ.nod
    exact match us, hu with | [_], _ => .of_eq rfl
  · have xM : CalF P w K mg base "is_metres" 1 ["number"] spMetres := ⟨_, _, ok_metres gM.fn T, PySem.W.mg_of X G gM.at_, gM.kp, bM⟩
    have xLo : CalF P w K mg base "in_lowest_terms" 1 ["above", "below"] spLow := ⟨_, _, ok_low gLo.fn, PySem.W.mg_of X G gLo.at_, gLo.kp, bLo⟩
    have xI : CalF P w K mg base "is_less" 1 ["fraction", "other"] spLess := ⟨_, _, ok_less gI.fn, PySem.W.mg_of X G gI.at_, gI.kp, bI⟩
    have xLa : CalF P w K mg base "latest" 2 ["times"] spLatest := ⟨_, _, ok_latest gLa.fn xI, PySem.W.mg_of X G gLa.at_, gLa.kp, bLa⟩
    have xD : CalF P w K mg base "when_done" 2 ["streets", "speed"] spDone := ⟨_, _, ok_done gD.fn T xLo, PySem.W.mg_of X G gD.at_, gD.kp, bD⟩
    have xN : CalF P w K mg base "numbers_of_plans" 1 ["street_count", "plough_count"] spNums := ⟨_, _, ok_nums gN.fn T, PySem.W.mg_of X G gN.at_, gN.kp, bN⟩
    have xP : CalF P w K mg base "all_plans" 2 ["street_count", "plough_count"] spPlans := ⟨_, _, ok_plans gP.fn T xN, PySem.W.mg_of X G gP.at_, gP.kp, bP⟩
    have xS : CalF P w K mg base "shares_of" 1 ["plan", "street_count"] spShares := ⟨_, _, ok_shares gS.fn, PySem.W.mg_of X G gS.at_, gS.kp, bS⟩
    have xJ : CalF P w K mg base "plan_of" 1 ["shares", "street_count"] spPlanOf := ⟨_, _, ok_planOf gJ.fn T, PySem.W.mg_of X G gJ.at_, gJ.kp, bJ⟩
    have xSo : CalF P w K mg base "streets_of" 1 ["plough", "owners"] spStreets := ⟨_, _, ok_streetsOf gSo.fn T, PySem.W.mg_of X G gSo.at_, gSo.kp, bSo⟩
    have xO : CalF P w K mg base "is_one_ploughs" 1 ["shares", "street", "other"] spOne := ⟨_, _, ok_one gO.fn T, PySem.W.mg_of X G gO.at_, gO.kp, bO⟩
    have xF : CalF P w K mg base "first_pair" 2 ["pairs", "shares", "wanted"] spFirst := ⟨_, _, ok_first gF.fn xO, PySem.W.mg_of X G gF.at_, gF.kp, bF⟩
    have xR : CalF P w K mg base "read_calls" 1 ["calls"] (spRead K) := ⟨_, _, ok_read gR.fn T, PySem.W.mg_of X G gR.at_, gR.kp, bR⟩
    have yt : CalM P w K mg base C "tell" 1 ["self", "pairs", "street", "other"] (spTell C) := ⟨_, _, ok_tell mt.fn T, mt.m, qt⟩
    have yp : CalM P w K mg base C "tell_apart" 2 ["self", "street", "other"] (spApart C) := ⟨_, _, ok_apart mp.fn T yt, mp.m, qp⟩
    have yg : CalM P w K mg base C "tell_together" 2 ["self", "street", "other"] (spTog C) := ⟨_, _, ok_tog mg_.fn T yt, mg_.m, qg⟩
    have yb : CalM P w K mg base C "begin" 2 ["self", "ploughs"] (spBegin C) := ⟨_, _, ok_begin mb.fn T xM, mb.m, qb⟩
    have ya : CalM P w K mg base C "add_street" 2 ["self", "metres", "hundredths"] (spAdd C) := ⟨_, _, ok_add ma.fn T xM, ma.m, qa⟩
    have yw : CalM P w K mg base C "why_not" 3 ["self", "shares"] (spWhy C) := ⟨_, _, ok_why mw.fn T xF, mw.m, qw⟩
    have ym : CalM P w K mg base C "times" 3 ["self", "shares", "ploughs"] (spTimes C) := ⟨_, _, ok_times mm.fn T xD, mm.m, qm⟩
    have yc : CalM P w K mg base C "check" 4 ["self", "plan"] (spCheck C) := ⟨_, _, ok_check mc.fn T xN xS yw ym xLa, mc.m, qc⟩
    have yo : CalM P w K mg base C "possible_shares" 4 ["self"] (spPoss C) := ⟨_, _, ok_poss mo.fn T xP xS yw, mo.m, qo⟩
    have ye : CalM P w K mg base C "best" 5 ["self"] (spBest C) := ⟨_, _, ok_best me.fn T yo ym xLa xI xJ, me.m, qe⟩
    have yr : CalM P w K mg base C "in_order_of_ratio" 2 ["self", "streets"] (spOrder C) := ⟨_, _, ok_order mr.fn T xI, mr.m, qr⟩
    have yq : CalM P w K mg base C "ratio" 4 ["self", "owners"] (spRatio C) := ⟨_, _, ok_ratio mq.fn T yr xSo yw ym xLa xJ, mq.m, qq⟩
    have yh : CalM P w K mg base C "is_enough" 4 ["self", "possible", "ploughs", "minute"] (spEnough C) := ⟨_, _, ok_enough mh.fn T ym xLa xI, mh.m, qh⟩
    have yn : CalM P w K mg base C "needs" 5 ["self", "plough", "minute"] (spNeeds C) := ⟨_, _, ok_needs mn.fn T yo yh, mn.m, qn⟩
    have xA : CalF P w K mg base "answer" 6 ["night", "number", "numbers"] (spAns1 C) := ⟨_, _, ok_answer gA.fn T yb ya yp yg yc ye yq yn, PySem.W.mg_of X G gA.at_, gA.kp, bA⟩
    exact ok_answers gZ.fn T ⟨mk, mi.m.at_, mi.m.fn, kc⟩ (ok_init mi.fn T) qi xR xA

end SnowB
/-! ## part C2 -/
open PySem PySem.W PyProof.Rows
set_option maxRecDepth 100000 in
set_option maxHeartbeats 0 in
theorem PySem.Challenge.cw_snowploughsdesk_s01_answers_holds : PySem.Challenge.rw_snowploughsdesk_s01_answers.Holds := by
  w_on; k_headS; (case hw => exact ⟨[.list [.int 5]], by decide +kernel, by decide +kernel⟩)
  k_fillS
  refine L2.walk_specK (r := PySem.Challenge.rw_snowploughsdesk_s01_answers) (k := 7) (CX := L2.CX0) (ps := ["calls"]) (sp := SnowB.spAnswers) (by decide +kernel) rfl rfl ⟨rfl, by decide, by decide⟩ (fun w h Y => PySem.W.kIn_of Y) ?F ?S (fun _ _ _ _ z => z)
  case F =>
    intro w mg fa h Y KX G hmg
    refine' SnowB.all_mk KX G hmg ?aC (SnowB.glb_mk ?aM ?lM ?cM ?kM) (SnowB.glb_mk ?aLo ?lLo ?cLo ?kLo) (SnowB.glb_mk ?aI ?lI ?cI ?kI) (SnowB.glb_mk ?aLa ?lLa ?cLa ?kLa) (SnowB.glb_mk ?aD ?lD ?cD ?kD) (SnowB.glb_mk ?aN ?lN ?cN ?kN) (SnowB.glb_mk ?aP ?lP ?cP ?kP) (SnowB.glb_mk ?aS ?lS ?cS ?kS) (SnowB.glb_mk ?aJ ?lJ ?cJ ?kJ) (SnowB.glb_mk ?aSo ?lSo ?cSo ?kSo) (SnowB.glb_mk ?aO ?lO ?cO ?kO) (SnowB.glb_mk ?aF ?lF ?cF ?kF) (SnowB.glb_mk ?aR ?lR ?cR ?kR) (SnowB.glb_mk ?aA ?lA ?cA ?kA) (SnowB.glb_mk ?aZ ?lZ ?cZ ?kZ) (SnowB.mth_mk ?n1i ?n2i ?n3i ?n4i ?n5i) (SnowB.mth_mk ?n1b ?n2b ?n3b ?n4b ?n5b) (SnowB.mth_mk ?n1a ?n2a ?n3a ?n4a ?n5a) (SnowB.mth_mk ?n1p ?n2p ?n3p ?n4p ?n5p) (SnowB.mth_mk ?n1g ?n2g ?n3g ?n4g ?n5g) (SnowB.mth_mk ?n1t ?n2t ?n3t ?n4t ?n5t) (SnowB.mth_mk ?n1w ?n2w ?n3w ?n4w ?n5w) (SnowB.mth_mk ?n1m ?n2m ?n3m ?n4m ?n5m) (SnowB.mth_mk ?n1c ?n2c ?n3c ?n4c ?n5c) (SnowB.mth_mk ?n1o ?n2o ?n3o ?n4o ?n5o) (SnowB.mth_mk ?n1e ?n2e ?n3e ?n4e ?n5e) (SnowB.mth_mk ?n1r ?n2r ?n3r ?n4r ?n5r) (SnowB.mth_mk ?n1q ?n2q ?n3q ?n4q ?n5q) (SnowB.mth_mk ?n1h ?n2h ?n3h ?n4h ?n5h) (SnowB.mth_mk ?n1n ?n2n ?n3n ?n4n ?n5n) ?vc0 ?vc1 ?vc2 ?vc3 ?vc4 ?vc5 ?vc6 ?vmP ?vmS ?vmM ?vmH ?vmE ?vmC ?zlen ?zrange ?zlist ?zenumerate ?zany ?zall ?zsorted ?zzip ?wnP ?wnS ?wnA ?wnT ?xpg ?xhd ?xpo ?xsa ?xmk ?xkc
    (case aC => k_is)
    (case aM => k_is)
    (case lM => k_is)
    (case cM => k_is)
    (case kM => k_is)
    (case aLo => k_is)
    (case lLo => k_is)
    (case cLo => k_is)
    (case kLo => k_is)
    (case aI => k_is)
    (case lI => k_is)
    (case cI => k_is)
    (case kI => k_is)
    (case aLa => k_is)
    (case lLa => k_is)
    (case cLa => k_is)
    (case kLa => k_is)
    (case aD => k_is)
    (case lD => k_is)
    (case cD => k_is)
    (case kD => k_is)
    (case aN => k_is)
    (case lN => k_is)
    (case cN => k_is)
    (case kN => k_is)
    (case aP => k_is)
    (case lP => k_is)
    (case cP => k_is)
    (case kP => k_is)
    (case aS => k_is)
    (case lS => k_is)
    (case cS => k_is)
    (case kS => k_is)
    (case aJ => k_is)
    (case lJ => k_is)
    (case cJ => k_is)
    (case kJ => k_is)
    (case aSo => k_is)
    (case lSo => k_is)
    (case cSo => k_is)
    (case kSo => k_is)
    (case aO => k_is)
    (case lO => k_is)
    (case cO => k_is)
    (case kO => k_is)
    (case aF => k_is)
    (case lF => k_is)
    (case cF => k_is)
    (case kF => k_is)
    (case aR => k_is)
    (case lR => k_is)
    (case cR => k_is)
    (case kR => k_is)
    (case aA => k_is)
    (case lA => k_is)
    (case cA => k_is)
    (case kA => k_is)
    (case aZ => k_is)
    (case lZ => k_is)
    (case cZ => k_is)
    (case kZ => k_is)
    (case n1i => k_is)
    (case n2i => k_is)
    (case n3i => k_is)
    (case n4i => k_is)
    (case n5i => k_is)
    (case n1b => k_is)
    (case n2b => k_is)
    (case n3b => k_is)
    (case n4b => k_is)
    (case n5b => k_is)
    (case n1a => k_is)
    (case n2a => k_is)
    (case n3a => k_is)
    (case n4a => k_is)
    (case n5a => k_is)
    (case n1p => k_is)
    (case n2p => k_is)
    (case n3p => k_is)
    (case n4p => k_is)
    (case n5p => k_is)
    (case n1g => k_is)
    (case n2g => k_is)
    (case n3g => k_is)
    (case n4g => k_is)
    (case n5g => k_is)
    (case n1t => k_is)
    (case n2t => k_is)
    (case n3t => k_is)
    (case n4t => k_is)
    (case n5t => k_is)
    (case n1w => k_is)
    (case n2w => k_is)
    (case n3w => k_is)
    (case n4w => k_is)
    (case n5w => k_is)
    (case n1m => k_is)
    (case n2m => k_is)
    (case n3m => k_is)
    (case n4m => k_is)
    (case n5m => k_is)
    (case n1c => k_is)
    (case n2c => k_is)
    (case n3c => k_is)
    (case n4c => k_is)
    (case n5c => k_is)
    (case n1o => k_is)
    (case n2o => k_is)
    (case n3o => k_is)
    (case n4o => k_is)
    (case n5o => k_is)
    (case n1e => k_is)
    (case n2e => k_is)
    (case n3e => k_is)
    (case n4e => k_is)
    (case n5e => k_is)
    (case n1r => k_is)
    (case n2r => k_is)
    (case n3r => k_is)
    (case n4r => k_is)
    (case n5r => k_is)
    (case n1q => k_is)
    (case n2q => k_is)
    (case n3q => k_is)
    (case n4q => k_is)
    (case n5q => k_is)
    (case n1h => k_is)
    (case n2h => k_is)
    (case n3h => k_is)
    (case n4h => k_is)
    (case n5h => k_is)
    (case n1n => k_is)
    (case n2n => k_is)
    (case n3n => k_is)
    (case n4n => k_is)
    (case n5n => k_is)
    (case vc0 => k_is)
    (case vc1 => k_is)
    (case vc2 => k_is)
    (case vc3 => k_is)
    (case vc4 => k_is)
    (case vc5 => k_is)
    (case vc6 => k_is)
    (case vmP => k_is)
    (case vmS => k_is)
    (case vmM => k_is)
    (case vmH => k_is)
    (case vmE => k_is)
    (case vmC => k_is)
    (case zlen => k_is)
    (case zrange => k_is)
    (case zlist => k_is)
    (case zenumerate => k_is)
    (case zany => k_is)
    (case zall => k_is)
    (case zsorted => k_is)
    (case zzip => k_is)
    (case wnP => k_is)
    (case wnS => k_is)
    (case wnA => k_is)
    (case wnT => k_is)
    (case xpg => k_is)
    (case xhd => k_is)
    (case xpo => k_is)
    (case xsa => k_is)
    (case xmk => k_is)
    (case xkc => k_is)
  case S =>
    intro K H xs a hO hwi hask hx
    cases hx with
    | cons h1 h2 =>
      cases h2
      cases h1 with
      | lst hs ha =>
        have e := L2.ints_dw a.1 _ ha
        subst e
        exact ⟨_, a.1, rfl, hs, hask, fun H' p hp => .lst (L2.SqL.of hp) (L2.dw_ints _)⟩
#print axioms PySem.Challenge.cw_snowploughsdesk_s01_answers_holds
