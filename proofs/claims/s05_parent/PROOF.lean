import PyProof.Rows.All
import Wide.All
import OpenK.AllK
import Wide.FinOn
import Open.SpecLaws
import KE.OsGo
import HandS.ForSpec
import HandS.ForMost
import HandS.Rev
import PySem.Challenge.RW_madelarger_s05_parent
set_option Elab.async false
set_option maxRecDepth 100000
namespace Ml
open Kzv1 (Z sign lt le sub)

theorem irr_p {p : Int} (hp : 1 < p) (P : ∀ x : Int, (x * x) % p = 0 → x % p = 0) :
    ∀ (n : Nat) (s b : Int), b.natAbs ≤ n → s * s = p * (b * b) → b = 0 := by
  intro n
  induction n with
  | zero => intro s b h _; omega
  | succ n ih =>
    intro s b hb h
    have h1 : s % p = 0 := P s (by rw [h]; exact Int.mul_emod_right p (b * b))
    obtain ⟨t, rfl⟩ := Int.dvd_of_emod_eq_zero h1
    have h2 : p * (t * t) = b * b := by
      have : p * (p * (t * t)) = p * (b * b) := by rw [← h]; simp only [Int.mul_assoc, Int.mul_left_comm]
      exact Int.eq_of_mul_eq_mul_left (by omega) this
    have h3 : b % p = 0 := P b (by rw [← h2]; exact Int.mul_emod_right p (t * t))
    obtain ⟨c, rfl⟩ := Int.dvd_of_emod_eq_zero h3
    have h4 : t * t = p * (c * c) := by
      have : p * (t * t) = p * (p * (c * c)) := by rw [h2]; simp only [Int.mul_assoc, Int.mul_left_comm]
      exact Int.eq_of_mul_eq_mul_left (by omega) this
    by_cases hc : c = 0
    · rw [hc, Int.mul_zero]
    · have : c.natAbs < (p * c).natAbs := by
        rw [Int.natAbs_mul]
        have h5 : 0 < c.natAbs := by omega
        have h6 : 2 ≤ p.natAbs := by omega
        calc c.natAbs < 2 * c.natAbs := by omega
          _ ≤ p.natAbs * c.natAbs := Nat.mul_le_mul_right _ h6
      exact absurd (ih t c (by omega) h4) hc

theorem sq_mod2 (x : Int) (h : (x * x) % 2 = 0) : x % 2 = 0 := by
  rw [Int.mul_emod] at h
  have h1 : x % 2 = 0 ∨ x % 2 = 1 := by omega
  rcases h1 with e | e
  · exact e
  · rw [e] at h; exact absurd h (by decide)
theorem sq_mod5 (x : Int) (h : (x * x) % 5 = 0) : x % 5 = 0 := by
  rw [Int.mul_emod] at h
  have h1 : x % 5 = 0 ∨ x % 5 = 1 ∨ x % 5 = 2 ∨ x % 5 = 3 ∨ x % 5 = 4 := by omega
  rcases h1 with e | e | e | e | e
  · exact e
  all_goals (rw [e] at h; exact absurd h (by decide))
theorem sq_mod13 (x : Int) (h : (x * x) % 13 = 0) : x % 13 = 0 := by
  rw [Int.mul_emod] at h
  have h1 : x % 13 = 0 ∨ x % 13 = 1 ∨ x % 13 = 2 ∨ x % 13 = 3 ∨ x % 13 = 4 ∨ x % 13 = 5 ∨ x % 13 = 6 ∨ x % 13 = 7 ∨ x % 13 = 8 ∨ x % 13 = 9 ∨ x % 13 = 10 ∨ x % 13 = 11 ∨ x % 13 = 12 := by omega
  rcases h1 with e | e | e | e | e | e | e | e | e | e | e | e | e
  · exact e
  all_goals (rw [e] at h; exact absurd h (by decide))

/-- the root of m m + 4 is no fraction -/
theorem irr {m s b : Int} (h1 : 1 ≤ m) (h4 : m ≤ 4) (h : s * s = (m * m + 4) * (b * b)) : b = 0 := by
  have hm : m = 1 ∨ m = 2 ∨ m = 3 ∨ m = 4 := by omega
  rcases hm with rfl | rfl | rfl | rfl
  · exact irr_p (p := 5) (by decide) sq_mod5 _ s b (Nat.le_refl _) h
  · have e : s % 2 = 0 := sq_mod2 s (by rw [h]; omega)
    obtain ⟨t, rfl⟩ := Int.dvd_of_emod_eq_zero e
    have e2 : (2 * t) * (2 * t) = 4 * (t * t) := by grind
    exact irr_p (p := 2) (by decide) sq_mod2 _ t b (Nat.le_refl _) (by omega)
  · exact irr_p (p := 13) (by decide) sq_mod13 _ s b (Nat.le_refl _) h
  · have e : s % 2 = 0 := sq_mod2 s (by rw [h]; omega)
    obtain ⟨t, rfl⟩ := Int.dvd_of_emod_eq_zero e
    have e2 : (2 * t) * (2 * t) = 4 * (t * t) := by grind
    exact irr_p (p := 5) (by decide) sq_mod5 _ t b (Nat.le_refl _) (by omega)

def ab (i : Int) : Int := if i < 0 then -i else i
/-- squares that keep their sign, together: what the program reckons -/
def form (m s b : Int) : Int := s * ab s + (m * m + 4) * b * ab b
theorem ab_pos {i : Int} (h : 0 ≤ i) : i * ab i = i * i := by unfold ab; rw [if_neg (by omega)]
theorem ab_neg {i : Int} (h : i ≤ 0) : i * ab i = -(i * i) := by
  unfold ab
  by_cases c : i < 0
  · rw [if_pos c, Int.mul_neg]
  · have : i = 0 := by omega
    subst this; rfl
theorem form_eq (m s b : Int) : form m s b = s * ab s + (m * m + 4) * (b * ab b) := by unfold form; rw [Int.mul_assoc]
theorem sq_nonneg (i : Int) : 0 ≤ i * i := by
  by_cases h : 0 ≤ i
  · exact Int.mul_nonneg h h
  · have := Int.mul_nonneg (a := -i) (b := -i) (by omega) (by omega)
    rw [Int.neg_mul_neg] at this; exact this
theorem sq_pos {i : Int} (h : i ≠ 0) : 0 < i * i := by
  have h1 := sq_nonneg i
  have h2 : i * i ≠ 0 := fun e => by
    rcases Int.mul_eq_zero.mp e with e | e <;> exact h e
  omega
/-- the specification's sign by the program's form -/
theorem sign_form {m : Nat} (h1 : 1 ≤ m) (h4 : m ≤ 4) (z : Z) :
    sign m z = if 0 < form m (2 * z.a + z.b * (m : Int)) z.b then 1 else if form m (2 * z.a + z.b * (m : Int)) z.b < 0 then -1 else 0 := by
  unfold sign
  dsimp only
  generalize hs : 2 * z.a + z.b * (m : Int) = s
  generalize z.b = b
  have hd : ((m * m + 4 : Nat) : Int) = (m : Int) * m + 4 := by push_cast; rfl
  rw [hd, form_eq]
  have d0 : (0 : Int) < (m : Int) * m + 4 := by have := sq_nonneg (m : Int); omega
  have hirr : s * s = ((m : Int) * m + 4) * (b * b) → b = 0 := fun e => irr (by omega) (by omega) e
  have hcomm : b * b * ((m : Int) * m + 4) = ((m : Int) * m + 4) * (b * b) := Int.mul_comm _ _
  rw [hcomm]
  generalize (m : Int) * m + 4 = d at *
  have sb := sq_nonneg b
  have ss := sq_nonneg s
  have sb1 : b ≠ 0 → 0 < d * (b * b) := fun e => Int.mul_pos d0 (sq_pos e)
  have sb0 : 0 ≤ d * (b * b) := Int.mul_nonneg (by omega) sb
  have ss1 : s ≠ 0 → 0 < s * s := fun e => sq_pos e
  by_cases hs0 : 0 ≤ s <;> by_cases hb0 : 0 ≤ b
  · rw [ab_pos hs0, ab_pos hb0, if_pos ⟨hs0, hb0⟩]
    by_cases z0 : s = 0 ∧ b = 0
    · rw [if_pos z0, z0.1, z0.2]; simp
    · rw [if_neg z0, if_pos]
      by_cases e : s = 0
      · have := sb1 (fun e2 => z0 ⟨e, e2⟩); omega
      · have := ss1 e; omega
  · have hb1 := sb1 (by omega)
    rw [ab_pos hs0, ab_neg (by omega), if_neg (by omega), Int.mul_neg]
    by_cases e : s ≤ 0
    · have : s = 0 := by omega
      subst this
      rw [if_pos ⟨by omega, by omega⟩, if_neg (by omega), if_pos (by omega)]
    · rw [if_neg (by omega), if_pos (by omega)]
      by_cases c : d * (b * b) < s * s
      · rw [if_pos c, if_pos (by omega)]
      · have : s * s ≠ d * (b * b) := fun q => by have := hirr q; omega
        rw [if_neg c, if_neg (by omega), if_pos (by omega)]
  · have hs1 := ss1 (by omega)
    rw [ab_neg (by omega), ab_pos hb0, if_neg (by omega)]
    by_cases e : b ≤ 0
    · have : b = 0 := by omega
      subst this
      rw [if_pos ⟨by omega, by omega⟩, if_neg (by omega), if_pos (by omega)]
    · rw [if_neg (by omega), if_neg (by omega)]
      by_cases c : s * s < d * (b * b)
      · rw [if_pos c, if_pos (by omega)]
      · have : s * s ≠ d * (b * b) := fun q => by have := hirr q; omega
        rw [if_neg c, if_neg (by omega), if_pos (by omega)]
  · have hs1 := ss1 (by omega)
    have hb1 := sb1 (by omega)
    rw [ab_neg (by omega), ab_neg (by omega), if_neg (by omega), if_pos ⟨by omega, by omega⟩, Int.mul_neg, if_neg (by omega), if_pos (by omega)]

/-- what is_below answers -/
def below (m a b c d : Int) : Bool := decide (form m (2 * (a - c) + m * (b - d)) (b - d) < 0)
theorem form_neg (m s b : Int) : form m (-s) (-b) = -form m s b := by
  have hab : ∀ i : Int, (-i) * ab (-i) = -(i * ab i) := fun i => by
    by_cases h : 0 ≤ i
    · rw [ab_neg (i := -i) (by omega), ab_pos h, Int.neg_mul_neg]
    · rw [ab_pos (i := -i) (by omega), ab_neg (i := i) (by omega), Int.neg_mul_neg, Int.neg_neg]
  rw [form_eq, form_eq, hab, hab, Int.mul_neg]; omega
theorem lt_below {m : Nat} (h1 : 1 ≤ m) (h4 : m ≤ 4) (a b c d : Int) : lt m ⟨a, b⟩ ⟨c, d⟩ = below m a b c d := by
  unfold lt below
  rw [sign_form h1 h4]
  have e : form m (2 * (sub ⟨c, d⟩ ⟨a, b⟩).a + (sub ⟨c, d⟩ ⟨a, b⟩).b * (m : Int)) (sub ⟨c, d⟩ ⟨a, b⟩).b = -form m (2 * (a - c) + m * (b - d)) (b - d) := by
    rw [← form_neg]
    show form m (2 * (c - a) + (d - b) * (m : Int)) (d - b) = _
    have e1 : (d - b) * (m : Int) = -((m : Int) * (b - d)) := by rw [← Int.mul_neg, Int.mul_comm]; congr 1; omega
    congr 1 <;> omega
  rw [e]
  generalize form m (2 * (a - c) + m * (b - d)) (b - d) = f
  by_cases c1 : f < 0
  · rw [if_pos (by omega)]; simp [c1]
  · rw [if_neg (by omega)]
    by_cases c2 : -f < 0
    · rw [if_pos c2]; simp [c1]
    · rw [if_neg c2]; simp [c1]
theorem le_below {m : Nat} (h1 : 1 ≤ m) (h4 : m ≤ 4) (a b c d : Int) : le m ⟨a, b⟩ ⟨c, d⟩ = !below m c d a b := by
  unfold le below
  rw [sign_form h1 h4]
  have e : form m (2 * (sub ⟨c, d⟩ ⟨a, b⟩).a + (sub ⟨c, d⟩ ⟨a, b⟩).b * (m : Int)) (sub ⟨c, d⟩ ⟨a, b⟩).b = form m (2 * (c - a) + m * (d - b)) (d - b) := by
    show form m (2 * (c - a) + (d - b) * (m : Int)) (d - b) = _
    rw [Int.mul_comm (d - b)]
  rw [e]
  generalize form m (2 * (c - a) + m * (d - b)) (d - b) = f
  by_cases c1 : f < 0
  · rw [if_neg (by omega), if_pos c1]; simp [c1]
  · by_cases c2 : 0 < f
    · rw [if_pos c2]; simp [c1]
    · rw [if_neg c2, if_neg c1]; simp [c1]
end Ml
namespace Ml
open Kzv1 (Z sign lt le sub)
/-! ### what the program's defs answer, as plain functions -/
def told (xs : List Int) (n : Int) : Bool := decide ((xs.length : Int) = n) && xs.all (fun i => decide (ab i ≤ 1000000))
def largeA (m a b : Int) : Int := a + m * b
def largeB (m a b : Int) : Int := m * a + (m * m + 1) * b
def smallA (m a b : Int) : Int := (m * m + 1) * a - m * b
def smallB (m a b : Int) : Int := b - m * a
def winB (m a b c d : Int) : Bool := (!below m (c - a) (d - b) 1 0) && below m (c - a) (d - b) (largeA m 1 0) (largeB m 1 0)
def isWin (m : Int) (xs : List Int) : Bool := decide (1 ≤ m) && decide (m ≤ 4) && told xs 4 && (match xs with
  | [a, b, c, d] => winB m a b c d
  | _ => false)
def keepsB (m a b c d : Int) : Bool := (!below m (smallA m a b) (smallB m a b) a b) && (!below m c d (smallA m c d) (smallB m c d))
def keepsL (m : Int) : List Int → Bool
  | [a, b, c, d] => keepsB m a b c d
  | _ => false
def keeps (m : Int) (xs : List Int) : List Int := if isWin m xs then (if keepsL m xs then [1] else [0]) else [-22]
def pointB (m : Int) (xs zs : List Int) : Bool := match xs, zs with
  | [a, b, c, d], [e, f] => (!below m (e + m * f) (-f) a b) && below m (e + m * f) (-f) c d
  | _, _ => false
def refusal (m : Int) (xs zs : List Int) : Int := if isWin m xs && told zs 2 then (if keepsL m xs then (if pointB m xs zs then 0 else -2) else -33) else -22
def large (m : Int) (xs zs : List Int) : List Int := if refusal m xs zs = 0 then (match zs with
  | [e, f] => [0, largeA m e f, largeB m e f]
  | _ => []) else [refusal m xs zs]

theorem keeps_1 {m a b c d : Int} (hw : isWin m [a, b, c, d] = true) (hk : keepsB m a b c d = true) : keeps m [a, b, c, d] = [1] := by
  unfold keeps
  rw [hw, if_pos rfl]
  show (if keepsB m a b c d = true then [1] else [0]) = [1]
  rw [hk, if_pos rfl]
theorem keeps_0 {m a b c d : Int} (hw : isWin m [a, b, c, d] = true) (hk : keepsB m a b c d = false) : keeps m [a, b, c, d] = [0] := by
  unfold keeps
  rw [hw, if_pos rfl]
  show (if keepsB m a b c d = true then [1] else [0]) = [0]
  rw [hk, if_neg (by decide)]
theorem told_len {xs : List Int} {n : Int} (h : told xs n = true) : (xs.length : Int) = n := by
  unfold told at h; simp only [Bool.and_eq_true, decide_eq_true_eq] at h; exact h.1
theorem told_all {xs : List Int} {n : Int} (h : told xs n = true) : ∀ x ∈ xs, -1000000 ≤ x ∧ x ≤ 1000000 := by
  unfold told at h; simp only [Bool.and_eq_true, decide_eq_true_eq, List.all_eq_true] at h
  intro x hx
  have := h.2 x hx
  unfold ab at this; split at this <;> omega
theorem ab_le (x : Int) : decide (ab x ≤ 1000000) = decide (x.natAbs ≤ Kzv1.mostN) := by
  unfold ab Kzv1.mostN; split <;> (apply decide_eq_decide.mpr; omega)
theorem list4 {xs : List Int} (h : (xs.length : Int) = 4) : ∃ a b c d, xs = [a, b, c, d] := by
  match xs, h with
  | [a, b, c, d], _ => exact ⟨a, b, c, d, rfl⟩
  | [], h => simp at h
  | [_], h => simp at h
  | [_, _], h => simp at h
  | [_, _, _], h => simp at h
  | _ :: _ :: _ :: _ :: _ :: _, h => simp only [List.length_cons] at h; omega
theorem list2 {xs : List Int} (h : (xs.length : Int) = 2) : ∃ a b, xs = [a, b] := by
  match xs, h with
  | [a, b], _ => exact ⟨a, b, rfl⟩
  | [], h => simp at h
  | [_], h => simp at h
  | _ :: _ :: _ :: _, h => simp only [List.length_cons] at h; omega

/-! ### the specification by these functions -/
theorem okM_iff {m : Nat} : Kzv1.okM m = true ↔ 1 ≤ m ∧ m ≤ 4 := by unfold Kzv1.okM; simp
theorem told4 (a b c d : Int) : told [a, b, c, d] 4 = (Kzv1.okZ ⟨a, b⟩ && Kzv1.okZ ⟨c, d⟩) := by
  unfold told Kzv1.okZ
  simp only [List.all_cons, List.all_nil, ab_le, List.length_cons, List.length_nil, Bool.and_true, Bool.and_assoc]
  rfl
theorem told2 (a b : Int) : told [a, b] 2 = Kzv1.okZ ⟨a, b⟩ := by
  unfold told Kzv1.okZ
  simp only [List.all_cons, List.all_nil, ab_le, List.length_cons, List.length_nil, Bool.and_true, Bool.and_assoc]
  rfl
theorem okWin_eq {m : Nat} (h1 : 1 ≤ m) (h4 : m ≤ 4) (a b c d : Int) : Kzv2.okWin m ⟨⟨a, b⟩, ⟨c, d⟩⟩ = winB m a b c d := by
  unfold Kzv2.okWin winB Kzv2.long Kzv1.one Kzv1.sub
  rw [le_below h1 h4]
  have e : Kzv1.mul m Kzv1.w Kzv1.w = ⟨largeA m 1 0, largeB m 1 0⟩ := by
    unfold Kzv1.mul Kzv1.w largeA largeB; simp
  rw [e, lt_below h1 h4]
theorem readWin_eq {m : Nat} (h1 : 1 ≤ m) (h4 : m ≤ 4) (a b c d : Int) : Kzv2.readWin m [a, b, c, d] = if isWin m [a, b, c, d] then some ⟨⟨a, b⟩, ⟨c, d⟩⟩ else none := by
  unfold Kzv2.readWin isWin
  dsimp only
  rw [okWin_eq h1 h4, told4]
  have e1 : decide (1 ≤ (m : Int)) = true := decide_eq_true (by omega)
  have e2 : decide ((m : Int) ≤ 4) = true := decide_eq_true (by omega)
  rw [e1, e2]; simp only [Bool.true_and]
theorem readWin_no {m : Nat} {xs : List Int} (h : ¬ (xs.length : Int) = 4) : Kzv2.readWin m xs = none := by
  unfold Kzv2.readWin
  split
  · exact absurd rfl h
  · rfl
theorem isWin_no {m : Int} {xs : List Int} (h : ¬ (xs.length : Int) = 4) : isWin m xs = false := by
  unfold isWin told
  rw [decide_eq_false h]; simp
theorem isWin_m {m : Int} {xs : List Int} (h : isWin m xs = true) : 1 ≤ m ∧ m ≤ 4 := by
  unfold isWin at h; simp only [Bool.and_eq_true, decide_eq_true_eq] at h; exact h.1.1
theorem isWin_told {m : Int} {xs : List Int} (h : isWin m xs = true) : told xs 4 = true := by
  unfold isWin at h; simp only [Bool.and_eq_true, decide_eq_true_eq] at h; exact h.1.2
theorem isWin_4 {m : Int} {xs : List Int} (h : isWin m xs = true) : ∃ a b c d, xs = [a, b, c, d] := list4 (told_len (isWin_told h))
theorem small_eq (m : Nat) (a b : Int) : Kzv4.small m ⟨a, b⟩ = ⟨smallA m a b, smallB m a b⟩ := by
  show Kzv1.mul m (Kzv1.mul m (Kzv1.mul m Kzv1.one ⟨-(m : Int), 1⟩) ⟨-(m : Int), 1⟩) ⟨a, b⟩ = _
  unfold Kzv1.mul Kzv1.one smallA smallB
  dsimp only
  congr 1 <;> grind
theorem large_eq (m : Nat) (a b : Int) : Kzv4.large m ⟨a, b⟩ = ⟨largeA m a b, largeB m a b⟩ := by
  show Kzv1.mul m (Kzv1.mul m (Kzv1.mul m Kzv1.one Kzv1.w) Kzv1.w) ⟨a, b⟩ = _
  unfold Kzv1.mul Kzv1.one Kzv1.w largeA largeB
  dsimp only
  congr 1 <;> grind
theorem keeps_eq {m : Nat} (h1 : 1 ≤ m) (h4 : m ≤ 4) (a b c d : Int) : Kzv4.keeps m ⟨⟨a, b⟩, ⟨c, d⟩⟩ = keepsB m a b c d := by
  unfold Kzv4.keeps Kzv4.shrunk keepsB
  dsimp only
  rw [small_eq, small_eq, le_below h1 h4, le_below h1 h4]
theorem isPoint_eq {m : Nat} (h1 : 1 ≤ m) (h4 : m ≤ 4) (a b c d e f : Int) : Kzv2.isPoint m ⟨⟨a, b⟩, ⟨c, d⟩⟩ ⟨e, f⟩ = pointB m [a, b, c, d] [e, f] := by
  unfold Kzv2.isPoint Kzv2.inside pointB Kzv1.partner
  dsimp only
  rw [lt_below h1 h4, le_below h1 h4]
/-- the specification's reading of a window, by the program's -/
theorem withX_no {m : Int} {xs : List Int} (h0 : 0 ≤ m) (hw : isWin m xs = false) (k : Kzv2.Win → Kzv1.Ans) : Kzv3.withX m.toNat xs k = ⟨-22, []⟩ := by
  obtain ⟨n, rfl⟩ : ∃ n : Nat, m = n := ⟨m.toNat, by omega⟩
  rw [Int.toNat_natCast]
  unfold Kzv3.withX
  by_cases ok : Kzv1.okM n = true
  · obtain ⟨h1, h4⟩ := okM_iff.mp ok
    rw [if_neg (by rw [ok]; decide)]
    by_cases l4 : (xs.length : Int) = 4
    · obtain ⟨a, b, c, d, rfl⟩ := list4 l4
      rw [readWin_eq h1 h4, hw]; rfl
    · rw [readWin_no l4]; rfl
  · rw [if_pos (by simpa using ok)]; rfl
theorem withX_yes {m : Int} {a b c d : Int} (hw : isWin m [a, b, c, d] = true) (k : Kzv2.Win → Kzv1.Ans) : Kzv3.withX m.toNat [a, b, c, d] k = k ⟨⟨a, b⟩, ⟨c, d⟩⟩ := by
  obtain ⟨h1, h4⟩ := isWin_m hw
  obtain ⟨n, rfl⟩ : ∃ n : Nat, m = n := ⟨m.toNat, by omega⟩
  rw [Int.toNat_natCast]
  unfold Kzv3.withX
  rw [if_neg (by rw [okM_iff.mpr ⟨by omega, by omega⟩]; decide), readWin_eq (by omega) (by omega), hw]; rfl
theorem keeps_is {m : Int} (h0 : 0 ≤ m) (xs : List Int) : PyKzv4.keeps m xs = keeps m xs := by
  show (Kzv4.answer (.keeps m.toNat xs)).value :: (Kzv4.answer (.keeps m.toNat xs)).nums = _
  unfold Kzv4.answer keeps
  dsimp only
  cases hw : isWin m xs with
  | false => rw [withX_no h0 hw]; rfl
  | true =>
    obtain ⟨a, b, c, d, rfl⟩ := isWin_4 hw
    obtain ⟨h1, h4⟩ := isWin_m hw
    rw [withX_yes hw]
    obtain ⟨n, rfl⟩ : ∃ n : Nat, m = n := ⟨m.toNat, by omega⟩
    rw [Int.toNat_natCast]
    rw [keeps_eq (by omega) (by omega)]
    show _ = if true = true then (if keepsB n a b c d = true then [1] else [0]) else [-22]
    cases keepsB n a b c d <;> rfl
theorem readZ_no {zs : List Int} (h : told zs 2 = false) : Kzv1.readZ zs = none := by
  unfold Kzv1.readZ
  split
  · rw [told2] at h; rw [h]; rfl
  · rfl
theorem readZ_yes {e f : Int} (h : told [e, f] 2 = true) : Kzv1.readZ [e, f] = some ⟨e, f⟩ := by
  unfold Kzv1.readZ
  rw [told2] at h
  dsimp only
  rw [h]; rfl
/-- the specification's reading of a window and a point, by the program's -/
theorem withK_no {m : Int} {xs zs : List Int} (h0 : 0 ≤ m) (hr : refusal m xs zs ≠ 0) (k : Kzv2.Win → Z → Kzv1.Ans) : Kzv4.withK m.toNat xs zs k = ⟨refusal m xs zs, []⟩ := by
  unfold Kzv4.withK
  unfold refusal at hr ⊢
  cases hw : isWin m xs with
  | false => rw [withX_no h0 hw]; rfl
  | true =>
    obtain ⟨a, b, c, d, rfl⟩ := isWin_4 hw
    obtain ⟨h1, h4⟩ := isWin_m hw
    rw [withX_yes hw]
    rw [hw] at hr
    obtain ⟨n, rfl⟩ : ∃ n : Nat, m = n := ⟨m.toNat, by omega⟩
    rw [Int.toNat_natCast]
    cases ht : told zs 2 with
    | false => rw [readZ_no ht]; rfl
    | true =>
      obtain ⟨e, f, rfl⟩ := list2 (told_len ht)
      rw [readZ_yes ht]
      rw [ht] at hr
      dsimp only
      rw [keeps_eq (by omega) (by omega), isPoint_eq (by omega) (by omega)]
      have hr' : (if keepsB n a b c d = true then (if pointB n [a, b, c, d] [e, f] = true then 0 else -2) else (-33 : Int)) ≠ 0 := hr
      show _ = Kzv1.Ans.mk (if keepsB n a b c d = true then (if pointB n [a, b, c, d] [e, f] = true then 0 else -2) else (-33 : Int)) []
      by_cases hk : keepsB n a b c d = true
      · rw [if_neg (by rw [hk]; decide), if_pos hk]
        rw [if_pos hk] at hr'
        by_cases hp : pointB n [a, b, c, d] [e, f] = true
        · rw [if_pos hp] at hr'; exact absurd rfl hr'
        · rw [if_pos (by simpa using hp), if_neg hp]; rfl
      · rw [if_pos (by simpa using hk), if_neg hk]; rfl
theorem refusal_0 {m : Int} {xs zs : List Int} (hr : refusal m xs zs = 0) : isWin m xs = true ∧ told zs 2 = true ∧ keepsL m xs = true ∧ pointB m xs zs = true := by
  unfold refusal at hr
  cases hw : isWin m xs <;> cases ht : told zs 2 <;> cases hk : keepsL m xs <;> cases hp : pointB m xs zs <;> simp [hw, ht, hk, hp] at hr ⊢
theorem withK_yes {m : Int} {a b c d e f : Int} (hr : refusal m [a, b, c, d] [e, f] = 0) (k : Kzv2.Win → Z → Kzv1.Ans) : Kzv4.withK m.toNat [a, b, c, d] [e, f] k = k ⟨⟨a, b⟩, ⟨c, d⟩⟩ ⟨e, f⟩ := by
  obtain ⟨hw, ht, hk, hp⟩ := refusal_0 hr
  obtain ⟨h1, h4⟩ := isWin_m hw
  unfold Kzv4.withK
  rw [withX_yes hw, readZ_yes ht]
  obtain ⟨n, rfl⟩ : ∃ n : Nat, m = n := ⟨m.toNat, by omega⟩
  rw [Int.toNat_natCast]
  dsimp only
  rw [keeps_eq (by omega) (by omega), isPoint_eq (by omega) (by omega), if_neg (by rw [show keepsB n a b c d = true from hk]; decide), if_neg (by rw [hp]; decide)]
theorem refusal_lists {m : Int} {xs zs : List Int} (hr : refusal m xs zs = 0) : ∃ a b c d e f, xs = [a, b, c, d] ∧ zs = [e, f] := by
  obtain ⟨hw, ht, _, _⟩ := refusal_0 hr
  obtain ⟨a, b, c, d, rfl⟩ := isWin_4 hw
  obtain ⟨e, f, rfl⟩ := list2 (told_len ht)
  exact ⟨a, b, c, d, e, f, rfl, rfl⟩
theorem refusal_33 {m : Int} {a b c d : Int} {zs : List Int} (hw : isWin m [a, b, c, d] = true) (ht : told zs 2 = true) (hk : keepsB m a b c d = false) : refusal m [a, b, c, d] zs = -33 := by
  unfold refusal
  rw [hw, ht, show keepsL m [a, b, c, d] = false from hk]
  rfl
theorem refusal_2 {m : Int} {a b c d : Int} {zs : List Int} (hw : isWin m [a, b, c, d] = true) (ht : told zs 2 = true) (hk : keepsB m a b c d = true) (hp : pointB m [a, b, c, d] zs = false) : refusal m [a, b, c, d] zs = -2 := by
  unfold refusal
  rw [hw, ht, show keepsL m [a, b, c, d] = true from hk, hp]
  rfl
theorem refusal_00 {m : Int} {a b c d : Int} {zs : List Int} (hw : isWin m [a, b, c, d] = true) (ht : told zs 2 = true) (hk : keepsB m a b c d = true) (hp : pointB m [a, b, c, d] zs = true) : refusal m [a, b, c, d] zs = 0 := by
  unfold refusal
  rw [hw, ht, show keepsL m [a, b, c, d] = true from hk, hp]
  rfl
theorem large_0 {m : Int} {xs : List Int} {e f : Int} (hr : refusal m xs [e, f] = 0) : large m xs [e, f] = [0, largeA m e f, largeB m e f] := by
  unfold large
  rw [if_pos hr]
theorem large_is {m : Int} (h0 : 0 ≤ m) (xs zs : List Int) : PyKzv4.large m xs zs = large m xs zs := by
  show (Kzv4.answer (.large m.toNat xs zs)).value :: (Kzv4.answer (.large m.toNat xs zs)).nums = _
  unfold Kzv4.answer large
  dsimp only
  by_cases hr : refusal m xs zs = 0
  · obtain ⟨a, b, c, d, e, f, rfl, rfl⟩ := refusal_lists hr
    rw [withK_yes hr, if_pos hr]
    obtain ⟨h1, h4⟩ := isWin_m (refusal_0 hr).1
    obtain ⟨n, rfl⟩ : ∃ n : Nat, m = n := ⟨m.toNat, by omega⟩
    rw [Int.toNat_natCast]
    rw [large_eq]; rfl
  · rw [withK_no h0 hr, if_neg hr]
end Ml
namespace Ml
open Kzv1 (Z sign lt le sub add neg mul partner)
/-! ### the order of the numbers a and b w: closed under sums and products -/
theorem sq_lt {a b : Int} (hb : 0 ≤ b) (h : a * a < b * b) : a < b := by
  by_cases c : a < b
  · exact c
  · have : b * b ≤ a * a := Int.mul_le_mul (by omega) (by omega) hb (by omega)
    omega
theorem lt_sq {a b : Int} (ha : 0 ≤ a) (h : a < b) : a * a < b * b := by
  have h1 : a * a ≤ a * b := Int.mul_le_mul_of_nonneg_left (by omega) ha
  have h2 : a * b < b * b := Int.mul_lt_mul_of_pos_right h (by omega)
  omega
/-- s and b roots of d, above 0 because of s -/
def Sd (d s b : Int) : Prop := 0 < s ∧ d * (b * b) < s * s
/-- above 0 because of b -/
def Bdm (d s b : Int) : Prop := 0 < b ∧ s * s < d * (b * b)
def Ps (d s b : Int) : Prop := Sd d s b ∨ Bdm d s b
theorem mul_lt2 {a b c e : Int} (h1 : 0 ≤ a) (h2 : a < b) (h3 : 0 ≤ c) (h4 : c < e) : a * c < b * e := by
  have h5 : a * c ≤ b * c := Int.mul_le_mul_of_nonneg_right (by omega) h3
  have h6 : b * c < b * e := Int.mul_lt_mul_of_pos_left h4 (by omega)
  omega
theorem Sd.prod {d s1 b1 s2 b2 : Int} (hd : 0 < d) (h1 : Sd d s1 b1) (h2 : Sd d s2 b2) : d * (b1 * b2) < s1 * s2 ∧ -(d * (b1 * b2)) < s1 * s2 := by
  obtain ⟨p1, q1⟩ := h1
  obtain ⟨p2, q2⟩ := h2
  have hp : 0 < s1 * s2 := Int.mul_pos p1 p2
  have n1 : 0 ≤ d * (b1 * b1) := Int.mul_nonneg (by omega) (sq_nonneg b1)
  have n2 : 0 ≤ d * (b2 * b2) := Int.mul_nonneg (by omega) (sq_nonneg b2)
  have h := mul_lt2 n1 q1 n2 q2
  have e1 : (d * (b1 * b2)) * (d * (b1 * b2)) < (s1 * s2) * (s1 * s2) := by
    have e : (d * (b1 * b2)) * (d * (b1 * b2)) = d * (b1 * b1) * (d * (b2 * b2)) := by grind
    have e' : (s1 * s2) * (s1 * s2) = s1 * s1 * (s2 * s2) := by grind
    rw [e, e']; exact h
  refine ⟨sq_lt (by omega) e1, sq_lt (by omega) ?_⟩
  rw [Int.neg_mul_neg]; exact e1
theorem Bdm.prod {d s1 b1 s2 b2 : Int} (hd : 0 < d) (h1 : Bdm d s1 b1) (h2 : Bdm d s2 b2) : s1 * s2 < d * (b1 * b2) ∧ -(s1 * s2) < d * (b1 * b2) := by
  obtain ⟨p1, q1⟩ := h1
  obtain ⟨p2, q2⟩ := h2
  have hp : 0 < d * (b1 * b2) := Int.mul_pos hd (Int.mul_pos p1 p2)
  have h := mul_lt2 (sq_nonneg s1) q1 (sq_nonneg s2) q2
  have e1 : (s1 * s2) * (s1 * s2) < (d * (b1 * b2)) * (d * (b1 * b2)) := by
    have e : (d * (b1 * b2)) * (d * (b1 * b2)) = d * (b1 * b1) * (d * (b2 * b2)) := by grind
    have e' : (s1 * s2) * (s1 * s2) = s1 * s1 * (s2 * s2) := by grind
    rw [e, e']; exact h
  refine ⟨sq_lt (by omega) e1, sq_lt (by omega) ?_⟩
  rw [Int.neg_mul_neg]; exact e1
theorem mix_prod {d s1 b1 s2 b2 : Int} (hd : 0 < d) (h1 : Sd d s1 b1) (h2 : Bdm d s2 b2) : s2 * b1 < s1 * b2 ∧ -(s2 * b1) < s1 * b2 := by
  obtain ⟨p1, q1⟩ := h1
  obtain ⟨p2, q2⟩ := h2
  have hp : 0 < s1 * b2 := Int.mul_pos p1 p2
  have n1 : 0 ≤ d * (b1 * b1) := Int.mul_nonneg (by omega) (sq_nonneg b1)
  have h := mul_lt2 (sq_nonneg s2) q2 n1 q1
  have e1 : (s2 * b1) * (s2 * b1) < (s1 * b2) * (s1 * b2) := by
    have e : d * ((s2 * b1) * (s2 * b1)) = s2 * s2 * (d * (b1 * b1)) := by grind
    have e' : d * ((s1 * b2) * (s1 * b2)) = d * (b2 * b2) * (s1 * s1) := by grind
    have : d * ((s2 * b1) * (s2 * b1)) < d * ((s1 * b2) * (s1 * b2)) := by rw [e, e']; exact h
    exact Int.lt_of_mul_lt_mul_left this (by omega)
  refine ⟨sq_lt (by omega) e1, sq_lt (by omega) ?_⟩
  rw [Int.neg_mul_neg]; exact e1
theorem Sd.add {d s1 b1 s2 b2 : Int} (hd : 0 < d) (h1 : Sd d s1 b1) (h2 : Sd d s2 b2) : Sd d (s1 + s2) (b1 + b2) := by
  have hp := Sd.prod hd h1 h2
  obtain ⟨p1, q1⟩ := h1
  obtain ⟨p2, q2⟩ := h2
  refine ⟨by omega, ?_⟩
  have e : d * ((b1 + b2) * (b1 + b2)) = d * (b1 * b1) + d * (b2 * b2) + 2 * (d * (b1 * b2)) := by grind
  have e' : (s1 + s2) * (s1 + s2) = s1 * s1 + s2 * s2 + 2 * (s1 * s2) := by grind
  rw [e, e']; omega
theorem Bdm.add {d s1 b1 s2 b2 : Int} (hd : 0 < d) (h1 : Bdm d s1 b1) (h2 : Bdm d s2 b2) : Bdm d (s1 + s2) (b1 + b2) := by
  have hp := Bdm.prod hd h1 h2
  obtain ⟨p1, q1⟩ := h1
  obtain ⟨p2, q2⟩ := h2
  refine ⟨by omega, ?_⟩
  have e : d * ((b1 + b2) * (b1 + b2)) = d * (b1 * b1) + d * (b2 * b2) + 2 * (d * (b1 * b2)) := by grind
  have e' : (s1 + s2) * (s1 + s2) = s1 * s1 + s2 * s2 + 2 * (s1 * s2) := by grind
  rw [e, e']; omega
/-- d is no square: s s = d b b only of 0 -/
def Irr (d : Int) : Prop := 0 < d ∧ ∀ s b : Int, s * s = d * (b * b) → b = 0
theorem Ps.tri {d : Int} (hd : Irr d) (s b : Int) : Ps d s b ∨ (s = 0 ∧ b = 0) ∨ Ps d (-s) (-b) := by
  obtain ⟨d0, di⟩ := hd
  unfold Ps Sd Bdm
  rw [Int.neg_mul_neg, Int.neg_mul_neg]
  by_cases e : s * s = d * (b * b)
  · have hb := di s b e
    subst hb
    rw [Int.mul_zero, Int.mul_zero] at e
    rcases Int.mul_eq_zero.mp e with h | h <;> exact .inr (.inl ⟨h, rfl⟩)
  · by_cases hs : s = 0 ∧ b = 0
    · exact .inr (.inl hs)
    · have n1 := sq_nonneg s
      have n2 : 0 ≤ d * (b * b) := Int.mul_nonneg (by omega) (sq_nonneg b)
      by_cases c : d * (b * b) < s * s
      · have : s ≠ 0 := fun z => by subst z; simp at c; omega
        by_cases c2 : 0 < s
        · exact .inl (.inl ⟨c2, c⟩)
        · exact .inr (.inr (.inl ⟨by omega, c⟩))
      · have : b ≠ 0 := fun z => by subst z; simp at c e; have := sq_pos (i := s) (fun q => hs ⟨q, rfl⟩); omega
        by_cases c2 : 0 < b
        · exact .inl (.inr ⟨c2, by omega⟩)
        · exact .inr (.inr (.inr ⟨by omega, by omega⟩))
theorem Ps.not_neg {d s b : Int} (h : Ps d s b) : ¬ Ps d (-s) (-b) := by
  unfold Ps Sd Bdm at *
  rw [Int.neg_mul_neg, Int.neg_mul_neg]
  omega
theorem Ps.ne {d s b : Int} (h : Ps d s b) : ¬ (s = 0 ∧ b = 0) := by
  rintro ⟨rfl, rfl⟩
  unfold Ps Sd Bdm at h
  omega
theorem Ps.add {d s1 b1 s2 b2 : Int} (hd : Irr d) (h1 : Ps d s1 b1) (h2 : Ps d s2 b2) : Ps d (s1 + s2) (b1 + b2) := by
  have d0 := hd.1
  -- one of s, one of b: were the sum not above 0, one of the two would be
  have mix : ∀ {s1 b1 s2 b2 : Int}, Sd d s1 b1 → Bdm d s2 b2 → Ps d (s1 + s2) (b1 + b2) := fun {s1 b1 s2 b2} h1 h2 => by
    rcases Ps.tri hd (s1 + s2) (b1 + b2) with h | h | h | h
    · exact h
    · have e1 : s2 = -s1 := by omega
      have e2 : b2 = -b1 := by omega
      subst e1 e2
      unfold Sd at h1; unfold Bdm at h2
      rw [Int.neg_mul_neg, Int.neg_mul_neg] at h2
      omega
    · have h3 := Sd.add d0 h1 h
      rw [show s1 + -(s1 + s2) = -s2 by omega, show b1 + -(b1 + b2) = -b2 by omega] at h3
      unfold Bdm at h2; unfold Sd at h3
      rw [Int.neg_mul_neg, Int.neg_mul_neg] at h3
      omega
    · have h3 := Bdm.add d0 h2 h
      rw [show s2 + -(s1 + s2) = -s1 by omega, show b2 + -(b1 + b2) = -b1 by omega] at h3
      unfold Sd at h1; unfold Bdm at h3
      rw [Int.neg_mul_neg, Int.neg_mul_neg] at h3
      omega
  rcases h1 with h1 | h1 <;> rcases h2 with h2 | h2
  · exact .inl (Sd.add d0 h1 h2)
  · exact mix h1 h2
  · have := mix h2 h1
    rw [Int.add_comm s1, Int.add_comm b1]; exact this
  · exact .inr (Bdm.add d0 h1 h2)
theorem Ps.mul {d s1 b1 s2 b2 : Int} (hd : Irr d) (h1 : Ps d s1 b1) (h2 : Ps d s2 b2) : Ps d (s1 * s2 + d * (b1 * b2)) (s1 * b2 + s2 * b1) := by
  have d0 := hd.1
  have nm : (s1 * s2 + d * (b1 * b2)) * (s1 * s2 + d * (b1 * b2)) - d * ((s1 * b2 + s2 * b1) * (s1 * b2 + s2 * b1)) = (s1 * s1 - d * (b1 * b1)) * (s2 * s2 - d * (b2 * b2)) := by grind
  rcases h1 with h1 | h1 <;> rcases h2 with h2 | h2
  · have := Sd.prod d0 h1 h2
    have := Int.mul_pos (a := s1 * s1 - d * (b1 * b1)) (b := s2 * s2 - d * (b2 * b2)) (by have := h1.2; omega) (by have := h2.2; omega)
    exact .inl ⟨by omega, by omega⟩
  · have := mix_prod d0 h1 h2
    have := Int.mul_neg_of_pos_of_neg (a := s1 * s1 - d * (b1 * b1)) (b := s2 * s2 - d * (b2 * b2)) (by have := h1.2; omega) (by have := h2.2; omega)
    exact .inr ⟨by omega, by omega⟩
  · have := mix_prod d0 h2 h1
    have := Int.mul_neg_of_neg_of_pos (a := s1 * s1 - d * (b1 * b1)) (b := s2 * s2 - d * (b2 * b2)) (by have := h1.2; omega) (by have := h2.2; omega)
    exact .inr ⟨by omega, by omega⟩
  · have := Bdm.prod d0 h1 h2
    have := Int.mul_pos_of_neg_of_neg (a := s1 * s1 - d * (b1 * b1)) (b := s2 * s2 - d * (b2 * b2)) (by have := h1.2; omega) (by have := h2.2; omega)
    exact .inl ⟨by omega, by omega⟩
theorem Ps.half {d s b : Int} (h : Ps d (2 * s) (2 * b)) : Ps d s b := by
  unfold Ps Sd Bdm at *
  have e1 : 2 * s * (2 * s) = 4 * (s * s) := by grind
  have e2 : d * (2 * b * (2 * b)) = 4 * (d * (b * b)) := by grind
  rw [e1, e2] at h
  omega
theorem irr_m {m : Nat} (h1 : 1 ≤ m) (h4 : m ≤ 4) : Irr ((m : Int) * m + 4) :=
  ⟨by have := sq_nonneg (m : Int); omega, fun _ _ e => irr (by omega) (by omega) e⟩

/-! ### numbers -/
/-- above 0 -/
def pos (m : Nat) (z : Z) : Prop := Ps ((m : Int) * m + 4) (2 * z.a + z.b * (m : Int)) z.b
theorem form_pos {m : Nat} (h1 : 1 ≤ m) (h4 : m ≤ 4) (s b : Int) : 0 < form m s b ↔ Ps ((m : Int) * m + 4) s b := by
  have hd := irr_m h1 h4
  rw [form_eq]
  generalize (m : Int) * m + 4 = d at *
  have n1 := sq_nonneg s
  have n2 : 0 ≤ d * (b * b) := Int.mul_nonneg (by have := hd.1; omega) (sq_nonneg b)
  have z1 : s = 0 → s * s = 0 := fun e => by subst e; rfl
  have z2 : b = 0 → d * (b * b) = 0 := fun e => by subst e; simp
  have ss := fun h : s ≠ 0 => sq_pos h
  have bb := fun h : b ≠ 0 => Int.mul_pos hd.1 (sq_pos h)
  have ii := hd.2 s b
  unfold Ps Sd Bdm
  by_cases hs : 0 ≤ s <;> by_cases hb : 0 ≤ b
  · rw [ab_pos hs, ab_pos hb]
    by_cases e1 : s = 0 <;> by_cases e2 : b = 0
    · have := z1 e1; have := z2 e2; omega
    · have := z1 e1; have := bb e2; omega
    · have := z2 e2; have := ss e1; omega
    · have := ss e1; have := bb e2; omega
  · rw [ab_pos hs, ab_neg (by omega), Int.mul_neg]
    have := bb (by omega)
    by_cases e1 : s = 0
    · have := z1 e1; omega
    · have := ss e1; omega
  · rw [ab_neg (by omega), ab_pos hb]
    have := ss (by omega)
    by_cases e2 : b = 0
    · have := z2 e2; omega
    · have := bb e2; omega
  · rw [ab_neg (by omega), ab_neg (by omega), Int.mul_neg]
    omega
theorem sign_pos {m : Nat} (h1 : 1 ≤ m) (h4 : m ≤ 4) (z : Z) : sign m z = 1 ↔ pos m z := by
  rw [sign_form h1 h4]
  unfold pos
  rw [← form_pos h1 h4]
  generalize form m (2 * z.a + z.b * (m : Int)) z.b = f
  by_cases c : 0 < f
  · rw [if_pos c]; simp [c]
  · rw [if_neg c]
    by_cases c2 : f < 0
    · rw [if_pos c2]; simp [c]
    · rw [if_neg c2]; simp [c]
theorem pos_add {m : Nat} (h1 : 1 ≤ m) (h4 : m ≤ 4) {x y : Z} (hx : pos m x) (hy : pos m y) : pos m (add x y) := by
  have := Ps.add (irr_m h1 h4) hx hy
  unfold pos add
  dsimp only
  rw [show 2 * (x.a + y.a) + (x.b + y.b) * (m : Int) = (2 * x.a + x.b * m) + (2 * y.a + y.b * m) by grind]
  exact this
theorem pos_mul {m : Nat} (h1 : 1 ≤ m) (h4 : m ≤ 4) {x y : Z} (hx : pos m x) (hy : pos m y) : pos m (mul m x y) := by
  have := Ps.mul (irr_m h1 h4) hx hy
  unfold pos Kzv1.mul
  dsimp only
  refine Ps.half ?_
  rw [show 2 * (2 * (x.a * y.a + x.b * y.b) + (x.a * y.b + x.b * y.a + (m : Int) * (x.b * y.b)) * (m : Int)) = (2 * x.a + x.b * m) * (2 * y.a + y.b * m) + ((m : Int) * m + 4) * (x.b * y.b) by grind,
    show 2 * (x.a * y.b + x.b * y.a + (m : Int) * (x.b * y.b)) = (2 * x.a + x.b * (m : Int)) * y.b + (2 * y.a + y.b * (m : Int)) * x.b by grind]
  exact this
theorem pos_tri {m : Nat} (h1 : 1 ≤ m) (h4 : m ≤ 4) (z : Z) : pos m z ∨ z = ⟨0, 0⟩ ∨ pos m (neg z) := by
  have := Ps.tri (irr_m h1 h4) (2 * z.a + z.b * (m : Int)) z.b
  rcases this with h | ⟨h, hb⟩ | h
  · exact .inl h
  · refine .inr (.inl ?_)
    rw [hb] at h
    cases z with
    | mk a b => simp at hb h; subst hb; congr 1; omega
  · refine .inr (.inr ?_)
    unfold pos neg
    dsimp only
    rw [show 2 * -z.a + -z.b * (m : Int) = -(2 * z.a + z.b * m) by grind]
    exact h
theorem pos_neg {m : Nat} {z : Z} (h : pos m z) : ¬ pos m (neg z) := by
  have := Ps.not_neg h
  unfold pos neg
  dsimp only
  rw [show 2 * -z.a + -z.b * (m : Int) = -(2 * z.a + z.b * m) by grind]
  exact this
theorem pos_ne {m : Nat} {z : Z} (h : pos m z) : z ≠ ⟨0, 0⟩ := fun e => by
  subst e
  exact Ps.ne h ⟨by simp, rfl⟩
end Ml
namespace Ml
open Kzv1 (Z)
/-! ### the numbers as an ordered ring, for the tactics -/
class OkM (m : Nat) : Prop where
  h1 : 1 ≤ m
  h4 : m ≤ 4
/-- the numbers a and b w -/
def R (_ : Nat) : Type := Z
variable {m : Nat}
theorem R.ext {x y : R m} (h1 : Z.a x = Z.a y) (h2 : Z.b x = Z.b y) : x = y := by
  cases x; cases y; cases h1; cases h2; rfl
instance : Add (R m) := ⟨fun x y => Kzv1.add x y⟩
instance : Sub (R m) := ⟨fun x y => Kzv1.sub x y⟩
instance : Neg (R m) := ⟨fun x => Kzv1.neg x⟩
instance : Mul (R m) := ⟨fun x y => Kzv1.mul m x y⟩
instance : NatCast (R m) := ⟨fun n => (⟨(n : Int), 0⟩ : Z)⟩
instance : IntCast (R m) := ⟨fun n => (⟨n, 0⟩ : Z)⟩
instance (n : Nat) : OfNat (R m) n := ⟨(⟨(n : Int), 0⟩ : Z)⟩
instance : SMul Nat (R m) := ⟨fun n x => (⟨(n : Int) * Z.a x, (n : Int) * Z.b x⟩ : Z)⟩
instance : SMul Int (R m) := ⟨fun n x => (⟨n * Z.a x, n * Z.b x⟩ : Z)⟩
def R.npow (x : R m) : Nat → R m
  | 0 => 1
  | n + 1 => R.npow x n * x
instance : HPow (R m) Nat (R m) := ⟨R.npow⟩
theorem add_a (x y : R m) : Z.a (x + y) = Z.a x + Z.a y := rfl
theorem add_b (x y : R m) : Z.b (x + y) = Z.b x + Z.b y := rfl
theorem sub_a (x y : R m) : Z.a (x - y) = Z.a x - Z.a y := rfl
theorem sub_b (x y : R m) : Z.b (x - y) = Z.b x - Z.b y := rfl
theorem neg_a (x : R m) : Z.a (-x) = -Z.a x := rfl
theorem neg_b (x : R m) : Z.b (-x) = -Z.b x := rfl
theorem mul_a (x y : R m) : Z.a (x * y) = Z.a x * Z.a y + Z.b x * Z.b y := rfl
theorem mul_b (x y : R m) : Z.b (x * y) = Z.a x * Z.b y + Z.b x * Z.a y + (m : Int) * (Z.b x * Z.b y) := rfl
theorem nat_a (n : Nat) : Z.a (OfNat.ofNat n : R m) = (n : Int) := rfl
theorem nat_b (n : Nat) : Z.b (OfNat.ofNat n : R m) = 0 := rfl
theorem smul_a (n : Nat) (x : R m) : Z.a (n • x) = (n : Int) * Z.a x := rfl
theorem smul_b (n : Nat) (x : R m) : Z.b (n • x) = (n : Int) * Z.b x := rfl
theorem zsmul_a (n : Int) (x : R m) : Z.a (n • x) = n * Z.a x := rfl
theorem zsmul_b (n : Int) (x : R m) : Z.b (n • x) = n * Z.b x := rfl
theorem cast_a (n : Nat) : Z.a ((n : R m)) = (n : Int) := rfl
theorem cast_b (n : Nat) : Z.b ((n : R m)) = 0 := rfl
theorem zero_a : Z.a (0 : R m) = 0 := rfl
theorem zero_b : Z.b (0 : R m) = 0 := rfl
theorem one_a : Z.a (1 : R m) = 1 := rfl
theorem one_b : Z.b (1 : R m) = 0 := rfl
instance : Lean.Grind.Semiring (R m) where
  nsmul := inferInstance
  npow := inferInstance
  add_zero x := R.ext (by rw [add_a, zero_a]; omega) (by rw [add_b, zero_b]; omega)
  add_comm x y := R.ext (by rw [add_a, add_a]; omega) (by rw [add_b, add_b]; omega)
  add_assoc x y z := R.ext (by simp only [add_a]; omega) (by simp only [add_b]; omega)
  mul_assoc x y z := R.ext (by simp only [mul_a, mul_b]; grind) (by simp only [mul_a, mul_b]; grind)
  mul_one x := R.ext (by simp only [mul_a, one_a, one_b]; omega) (by simp only [mul_b, one_a, one_b]; grind)
  one_mul x := R.ext (by simp only [mul_a, one_a, one_b]; omega) (by simp only [mul_b, one_a, one_b]; grind)
  left_distrib x y z := R.ext (by simp only [mul_a, mul_b, add_a, add_b]; grind) (by simp only [mul_a, mul_b, add_a, add_b]; grind)
  right_distrib x y z := R.ext (by simp only [mul_a, mul_b, add_a, add_b]; grind) (by simp only [mul_a, mul_b, add_a, add_b]; grind)
  zero_mul x := R.ext (by simp only [mul_a, zero_a, zero_b]; omega) (by simp only [mul_b, zero_a, zero_b]; grind)
  mul_zero x := R.ext (by simp only [mul_a, zero_a, zero_b]; omega) (by simp only [mul_b, zero_a, zero_b]; grind)
  pow_zero x := rfl
  pow_succ x n := rfl
  ofNat_succ n := R.ext (by show ((n + 1 : Nat) : Int) = (n : Int) + 1; omega) rfl
  ofNat_eq_natCast n := rfl
  nsmul_eq_natCast_mul n x := R.ext (by rw [smul_a, mul_a, cast_a, cast_b]; omega) (by rw [smul_b, mul_b, cast_a, cast_b]; grind)
instance : Lean.Grind.Ring (R m) where
  zsmul := inferInstance
  neg_add_cancel x := R.ext (by rw [add_a, neg_a, zero_a]; omega) (by rw [add_b, neg_b, zero_b]; omega)
  sub_eq_add_neg x y := R.ext (by rw [sub_a, add_a, neg_a]; omega) (by rw [sub_b, add_b, neg_b]; omega)
  neg_zsmul i x := R.ext (by rw [zsmul_a, neg_a, zsmul_a, Int.neg_mul]) (by rw [zsmul_b, neg_b, zsmul_b, Int.neg_mul])
  zsmul_natCast_eq_nsmul n x := rfl
  intCast_ofNat n := rfl
  intCast_neg i := rfl
instance : Lean.Grind.CommRing (R m) where
  mul_comm x y := R.ext (by rw [mul_a, mul_a]; grind) (by rw [mul_b, mul_b]; grind)
instance : LT (R m) := ⟨fun x y => pos m (y - x)⟩
instance : LE (R m) := ⟨fun x y => ¬ pos m (x - y)⟩
theorem R.lt_def (x y : R m) : x < y ↔ pos m (y - x) := Iff.rfl
theorem R.le_def (x y : R m) : x ≤ y ↔ ¬ pos m (x - y) := Iff.rfl
theorem lt_iff (k : OkM m) (x y : Z) : Kzv1.lt m x y = true ↔ (show R m from x) < (show R m from y) := by
  rw [R.lt_def, Kzv1.lt, beq_iff_eq, sign_pos k.h1 k.h4]; rfl
theorem le_not_lt (k : OkM m) (x y : Z) : Kzv1.le m x y = !Kzv1.lt m y x := by
  cases x; cases y
  rw [le_below k.h1 k.h4, lt_below k.h1 k.h4]
theorem le_iff (k : OkM m) (x y : Z) : Kzv1.le m x y = true ↔ (show R m from x) ≤ (show R m from y) := by
  rw [le_not_lt k, Bool.not_eq_true', R.le_def, ← Bool.not_eq_true, lt_iff k]; rfl
theorem pos_0 (k : OkM m) : ¬ pos m (0 : R m) := fun h => pos_ne h rfl
instance instPre [k : OkM m] : Std.IsPreorder (R m) where
  le_refl x := by
    rw [R.le_def, show x - x = 0 by grind]; exact pos_0 k
  le_trans x y z h1 h2 := by
    rw [R.le_def] at *
    intro h
    rcases pos_tri k.h1 k.h4 (x - y) with h3 | h3 | h3
    · exact h1 h3
    · have e : x = y := by
        have : x - y = (0 : R m) := h3
        grind
      subst e; exact h2 h
    · have h3 : pos m (y - x : R m) := by
        have e : (Kzv1.neg (x - y : R m) : R m) = y - x := by show -(x - y) = y - x; grind
        rw [← e]; exact h3
      have := pos_add k.h1 k.h4 h3 h
      have e : (Kzv1.add (y - x : R m) (x - z : R m) : R m) = y - z := by show (y - x) + (x - z) = y - z; grind
      rw [e] at this
      exact h2 this
theorem R.not_both [k : OkM m] {x y : R m} (h : x < y) : ¬ y < x := by
  rw [R.lt_def] at *
  have := pos_neg h
  have e : (Kzv1.neg (y - x : R m) : R m) = x - y := by show -(y - x) = x - y; grind
  rw [e] at this; exact this
theorem R.tri [k : OkM m] (x y : R m) : x < y ∨ x = y ∨ y < x := by
  rw [R.lt_def, R.lt_def]
  rcases pos_tri k.h1 k.h4 (y - x) with h | h | h
  · exact .inl h
  · refine .inr (.inl ?_)
    have : y - x = (0 : R m) := h
    grind
  · refine .inr (.inr ?_)
    have e : (Kzv1.neg (y - x : R m) : R m) = x - y := by show -(y - x) = x - y; grind
    rw [e] at h; exact h
instance [OkM m] : Std.IsPartialOrder (R m) where
  le_antisymm x y h1 h2 := by
    rcases R.tri x y with h | h | h
    · exact absurd h h2
    · exact h
    · exact absurd h h1
instance [OkM m] : Std.IsLinearOrder (R m) where
  le_total x y := by
    rcases R.tri x y with h | h | h
    · exact .inl (R.not_both h)
    · subst h; exact .inl (Std.IsPreorder.le_refl x)
    · exact .inr (R.not_both h)
instance [OkM m] : Std.LawfulOrderLT (R m) where
  lt_iff x y := by
    refine ⟨fun h => ⟨R.not_both h, fun h2 => h2 h⟩, fun h => ?_⟩
    rcases R.tri x y with h3 | h3 | h3
    · exact h3
    · subst h3; exact absurd (Std.IsPreorder.le_refl x) h.2
    · exact absurd h3 h.1
instance [k : OkM m] : Lean.Grind.OrderedRing (R m) where
  add_le_left_iff {x y} z := by
    rw [R.le_def, R.le_def, show x + z - (y + z) = x - y by grind]
  zero_lt_one := by
    rw [R.lt_def]
    show Ps _ _ _
    left
    exact ⟨by show (0 : Int) < 2 * (1 - 0) + (0 - 0) * m; simp, by show ((m : Int) * m + 4) * ((0 - 0) * (0 - 0)) < (2 * (1 - 0) + (0 - 0) * m) * (2 * (1 - 0) + (0 - 0) * m); simp⟩
  mul_lt_mul_of_pos_left {x y z} h h2 := by
    rw [R.lt_def] at *
    have := pos_mul k.h1 k.h4 h2 h
    have e : (Kzv1.mul m (z - 0 : R m) (y - x : R m) : R m) = z * y - z * x := by show (z - 0) * (y - x) = _; grind
    rw [e] at this; exact this
  mul_lt_mul_of_pos_right {x y z} h h2 := by
    rw [R.lt_def] at *
    have := pos_mul k.h1 k.h4 h2 h
    have e : (Kzv1.mul m (z - 0 : R m) (y - x : R m) : R m) = y * z - x * z := by show (z - 0) * (y - x) = _; grind
    rw [e] at this; exact this
example [OkM m] (u v y g : R m) (h2 : y + g < v) (h3 : 0 < g) : y < v := by grind
example [OkM m] (u v y g : R m) (h2 : y + g ≤ v) (h3 : 0 < g) (h4 : u + v < y - g) : u < -2 * g := by grind
end Ml
namespace Ml
open Kzv1 (Z)
open Kzv2 (Win steps step stepBack mayStep insertZ)
variable {m : Nat}
/-! ### windows and points in the ordered ring -/
def ww : R m := (⟨0, 1⟩ : Z)
/-- the partner -/
def pt (x : R m) : R m := Kzv1.partner m x
theorem pt_add (x y : R m) : pt (x + y) = pt x + pt y := R.ext (by show _ + _ + (m : Int) * (_ + _) = (_ + (m : Int) * _) + (_ + (m : Int) * _); grind) (by show -(_ + _) = -_ + -_; omega)
theorem pt_sub (x y : R m) : pt (x - y) = pt x - pt y := R.ext (by show _ - _ + (m : Int) * (_ - _) = (_ + (m : Int) * _) - (_ + (m : Int) * _); grind) (by show -(_ - _) = -_ - -_; omega)
theorem pt_neg (x : R m) : pt (-x) = -pt x := R.ext (by show -_ + (m : Int) * -_ = -(_ + (m : Int) * _); grind) rfl
theorem pt_mul (x y : R m) : pt (x * y) = pt x * pt y := R.ext
  (by show Z.a (x * y) + (m : Int) * Z.b (x * y) = (Z.a x + (m : Int) * Z.b x) * (Z.a y + (m : Int) * Z.b y) + (-Z.b x) * (-Z.b y); rw [mul_a, mul_b]; grind)
  (by show -Z.b (x * y) = (Z.a x + (m : Int) * Z.b x) * (-Z.b y) + (-Z.b x) * (Z.a y + (m : Int) * Z.b y) + (m : Int) * ((-Z.b x) * (-Z.b y)); rw [mul_b]; grind)
theorem pt_pt (x : R m) : pt (pt x) = x := R.ext (by show (_ + (m : Int) * _) + (m : Int) * -_ = _; grind) (by show - -_ = _; omega)
theorem pt_w : pt (ww : R m) = (m : R m) - ww := R.ext (by show 0 + (m : Int) * 1 = m - 0; omega) (by show -1 = 0 - (1 : Int); rfl)
theorem pt_nat (n : Nat) : pt (OfNat.ofNat n : R m) = OfNat.ofNat n := R.ext (by show (n : Int) + (m : Int) * 0 = n; omega) rfl
theorem pt_one : pt (1 : R m) = 1 := pt_nat 1
theorem pt_zero : pt (0 : R m) = 0 := pt_nat 0
theorem w_sq : (ww : R m) * ww = (m : R m) * ww + 1 := R.ext (by show (0 * 0 + 1 * 1 : Int) = ((m : Int) * 0 + 0 * 1) + 1; omega) (by show (0 * 1 + 1 * 0 + (m : Int) * (1 * 1)) = ((m : Int) * 1 + 0 * 0 + (m : Int) * (0 * 1)) + 0; omega)
/-- w lies above m and 0, below m and 1 -/
theorem w_lo [k : OkM m] : (m : R m) < ww := by
  rw [R.lt_def]
  show Ps _ (2 * (0 - (m : Int)) + (1 - 0) * m) (1 - 0)
  right
  refine ⟨by omega, ?_⟩
  have : (2 * (0 - (m : Int)) + (1 - 0) * m) = -m := by omega
  rw [this, Int.neg_mul_neg]
  omega
theorem w_hi [k : OkM m] : (ww : R m) < (m : R m) + 1 := by
  have h1 := k.h1
  rw [R.lt_def]
  show Ps _ (2 * ((m : Int) + 1 - 0) + (0 + 0 - 1) * m) (0 + 0 - 1)
  left
  refine ⟨by omega, ?_⟩
  have : 2 * ((m : Int) + 1 - 0) + (0 + 0 - 1) * m = m + 2 := by omega
  rw [this]
  grind
theorem m_pos [k : OkM m] : (1 : R m) ≤ (m : R m) := by
  have h1 := k.h1
  rw [R.le_def]
  show ¬ Ps _ (2 * (1 - (m : Int)) + (0 - 0) * m) (0 - 0)
  intro h
  rcases h with h | h
  · have := h.1; omega
  · have := h.1; omega
theorem int_le [k : OkM m] {i j : Int} (h : i ≤ j) : (i : R m) ≤ (j : R m) := by
  rw [R.le_def]
  show ¬ Ps _ (2 * (i - j) + (0 - 0) * m) (0 - 0)
  intro h
  rcases h with h | h
  · have := h.1; omega
  · have := h.1; omega
theorem le_int [k : OkM m] {i j : Int} (h : (i : R m) ≤ (j : R m)) : i ≤ j := by
  by_cases c : i ≤ j
  · exact c
  · exfalso
    rw [R.le_def] at h
    refine h ?_
    show Ps _ (2 * (i - j) + (0 - 0) * m) (0 - 0)
    left
    refine ⟨by omega, ?_⟩
    have := sq_pos (i := 2 * (i - j) + (0 - 0) * m) (by omega)
    omega
/-- a number by its parts -/
theorem R.parts (x : R m) : x = (Z.a x : R m) + (Z.b x : R m) * ww := R.ext (by show Z.a x = Z.a x + (Z.b x * 0 + 0 * 1); omega) (by show Z.b x = 0 + (Z.b x * 1 + 0 * 0 + (m : Int) * (0 * 1)); omega)
theorem pt_parts (x : R m) : pt x = (Z.a x : R m) + (Z.b x : R m) * ((m : R m) - ww) := R.ext (by show Z.a x + (m : Int) * Z.b x = Z.a x + (Z.b x * ((m : Int) - 0) + 0 * (0 - 1)); grind) (by show -Z.b x = 0 + (Z.b x * (0 - 1) + 0 * ((m : Int) - 0) + (m : Int) * (0 * (0 - 1))); omega)
theorem inside_iff (k : OkM m) (x : Win) (y : Z) : Kzv2.inside m x y = true ↔ (show R m from x.u) ≤ (show R m from y) ∧ (show R m from y) < (show R m from x.v) := by
  unfold Kzv2.inside
  rw [Bool.and_eq_true, le_iff k, lt_iff k]
theorem isPoint_iff (k : OkM m) (x : Win) (z : Z) : Kzv2.isPoint m x z = true ↔ (show R m from x.u) ≤ pt (show R m from z) ∧ pt (show R m from z) < (show R m from x.v) := inside_iff k x _
theorem okWin_iff (k : OkM m) (x : Win) : Kzv2.okWin m x = true ↔ 1 ≤ (show R m from x.v) - (show R m from x.u) ∧ (show R m from x.v) - (show R m from x.u) < (ww : R m) * ww := by
  unfold Kzv2.okWin Kzv2.long
  rw [Bool.and_eq_true, le_iff k, lt_iff k]
  rfl
/-! ### the steps that may be -/
theorem mem_insertZ (g x : Z) : ∀ l : List Z, g ∈ insertZ m x l ↔ g = x ∨ g ∈ l
  | [] => by simp [insertZ]
  | y :: l => by
    unfold insertZ
    split
    · simp
    · rw [List.mem_cons, mem_insertZ g x l, List.mem_cons]
      constructor
      · rintro (h | h | h)
        · exact .inr (.inl h)
        · exact .inl h
        · exact .inr (.inr h)
      · rintro (h | h | h)
        · exact .inr (.inl h)
        · exact .inl h
        · exact .inr (.inr h)
theorem mem_fold (g : Z) : ∀ (l acc : List Z), g ∈ l.foldl (fun l g => if mayStep m g then insertZ m g l else l) acc ↔ g ∈ acc ∨ (g ∈ l ∧ mayStep m g = true)
  | [], acc => by simp
  | x :: l, acc => by
    rw [List.foldl_cons, mem_fold g l]
    by_cases h : mayStep m x = true
    · rw [if_pos h, mem_insertZ]
      constructor
      · rintro ((h1 | h1) | h1)
        · subst h1; exact .inr ⟨by simp, h⟩
        · exact .inl h1
        · exact .inr ⟨by simp [h1.1], h1.2⟩
      · rintro (h1 | ⟨h1, h2⟩)
        · exact .inl (.inr h1)
        · rcases List.mem_cons.mp h1 with h1 | h1
          · exact .inl (.inl h1)
          · exact .inr ⟨h1, h2⟩
    · rw [if_neg h]
      constructor
      · rintro (h1 | h1)
        · exact .inl h1
        · exact .inr ⟨by simp [h1.1], h1.2⟩
      · rintro (h1 | ⟨h1, h2⟩)
        · exact .inl h1
        · rcases List.mem_cons.mp h1 with h1 | h1
          · subst h1; exact absurd h2 h
          · exact .inr ⟨h1, h2⟩
theorem mem_box (g : Z) : g ∈ ((List.range 21).flatMap fun (j : Nat) => (List.range 121).map fun (i : Nat) => (⟨(i : Int) - 60, (j : Int) - 10⟩ : Z)) ↔ (-60 ≤ g.a ∧ g.a ≤ 60) ∧ (-10 ≤ g.b ∧ g.b ≤ 10) := by
  rw [List.mem_flatMap]
  constructor
  · rintro ⟨j, hj, h⟩
    rw [List.mem_map] at h
    obtain ⟨i, hi, rfl⟩ := h
    rw [List.mem_range] at hi hj
    dsimp only
    omega
  · rintro ⟨h1, h2⟩
    refine ⟨(g.b + 10).toNat, List.mem_range.mpr (by omega), List.mem_map.mpr ⟨(g.a + 60).toNat, List.mem_range.mpr (by omega), ?_⟩⟩
    cases g with
    | mk a b => dsimp only at *; congr 1 <;> omega
theorem mem_steps (g : Z) : g ∈ steps m ↔ ((-60 ≤ g.a ∧ g.a ≤ 60) ∧ (-10 ≤ g.b ∧ g.b ≤ 10)) ∧ mayStep m g = true := by
  unfold steps
  rw [mem_fold, mem_box]
  simp
theorem mayStep_iff (k : OkM m) (g : Z) : mayStep m g = true ↔ 0 < (show R m from g) ∧ (show R m from g) ≤ ww + 1 ∧ pt (show R m from g) < (ww : R m) * ww ∧ -pt (show R m from g) < (ww : R m) * ww := by
  unfold mayStep
  simp only [Bool.and_eq_true, beq_iff_eq]
  rw [sign_pos k.h1 k.h4, le_iff k, lt_iff k, lt_iff k]
  have e : pos m g ↔ 0 < (show R m from g) := by
    rw [R.lt_def, show (show R m from g) - 0 = (show R m from g) by grind]
  rw [e, and_assoc, and_assoc]
  rfl
/-- whatever may be a step is in the list -/
theorem step_in (k : OkM m) (g : R m) (h0 : 0 < g) (h1 : g ≤ ww + 1) (h2 : pt g < (ww : R m) * ww) (h3 : -pt g < (ww : R m) * ww) : (show Z from g) ∈ steps m := by
  rw [mem_steps]
  refine ⟨?_, (mayStep_iff k g).mpr ⟨h0, h1, h2, h3⟩⟩
  have hlo := w_lo (m := m)
  have hhi := w_hi (m := m)
  have hm := m_pos (m := m)
  have hsq := w_sq (m := m)
  have e1 := R.parts g
  have e2 := pt_parts g
  have m4 : (m : R m) ≤ 4 := int_le (m := m) (i := m) (j := 4) (by have := k.h4; omega)
  generalize Z.a g = a at *
  generalize Z.b g = b at *
  have key : (b : R m) * (2 * ww - (m : R m)) = g - pt g := by rw [e2]; grind
  have sp : 0 < 2 * (ww : R m) - (m : R m) := by grind
  have mw : (m : R m) * ww ≤ 4 * ww := by
    have := Lean.Grind.OrderedRing.mul_le_mul_of_nonneg_right (R := R m) m4 (c := ww) (by grind)
    exact this
  have mm : (m : R m) * (m : R m) ≤ (m : R m) * ww := by
    have := Lean.Grind.OrderedRing.mul_le_mul_of_nonneg_left (R := R m) (a := (m : R m)) (b := ww) (c := (m : R m)) (by grind) (by grind)
    exact this
  have b1 : b ≤ 10 := by
    by_cases c : b ≤ 10
    · exact c
    · exfalso
      have c1 : ((11 : Int) : R m) ≤ (b : R m) := int_le (by omega)
      have c2 := Lean.Grind.OrderedRing.mul_le_mul_of_nonneg_right (R := R m) c1 (c := 2 * ww - (m : R m)) (by grind)
      have c3 : ((11 : Int) : R m) = 11 := rfl
      rw [c3, key] at c2
      grind
  have b2 : -10 ≤ b := by
    by_cases c : -10 ≤ b
    · exact c
    · exfalso
      have c1 : (b : R m) ≤ ((-11 : Int) : R m) := int_le (by omega)
      have c2 := Lean.Grind.OrderedRing.mul_le_mul_of_nonneg_right (R := R m) c1 (c := 2 * ww - (m : R m)) (by grind)
      have c3 : ((-11 : Int) : R m) = -11 := rfl
      rw [c3, key] at c2
      grind
  have b1' : (b : R m) ≤ 10 := int_le (m := m) (i := b) (j := 10) b1
  have b2' : (-10 : R m) ≤ (b : R m) := int_le (m := m) (i := -10) (j := b) b2
  have wp : 0 ≤ (ww : R m) := by grind
  have c1 := Lean.Grind.OrderedRing.mul_le_mul_of_nonneg_right (R := R m) b1' (c := ww) wp
  have c2 := Lean.Grind.OrderedRing.mul_le_mul_of_nonneg_right (R := R m) b2' (c := ww) wp
  refine ⟨⟨?_, ?_⟩, b2, b1⟩
  · refine le_int (m := m) ?_
    show (-60 : R m) ≤ (a : R m)
    grind
  · refine le_int (m := m) ?_
    show (a : R m) ≤ 60
    grind
end Ml
namespace Ml
open Kzv1 (Z)
open Kzv2 (Win steps step stepBack mayStep insertZ)
variable {m : Nat}
/-- in order -/
def Srt (m : Nat) (l : List Z) : Prop := l.Pairwise fun x y => Kzv1.le m x y = true
theorem srt_insert (k : OkM m) (x : Z) : ∀ l : List Z, Srt m l → Srt m (insertZ m x l)
  | [], _ => by
    unfold insertZ Srt
    exact List.pairwise_singleton _ _
  | y :: l, h => by
    unfold Srt at h
    rw [List.pairwise_cons] at h
    unfold insertZ
    by_cases c : Kzv1.lt m x y = true
    · rw [if_pos c]
      unfold Srt
      rw [List.pairwise_cons, List.pairwise_cons]
      refine ⟨fun z hz => ?_, h.1, h.2⟩
      have c' := (lt_iff k x y).mp c
      rw [le_iff k]
      rcases List.mem_cons.mp hz with e | e
      · subst e; grind
      · have := (le_iff k y z).mp (h.1 z e)
        grind
    · rw [if_neg c]
      unfold Srt
      rw [List.pairwise_cons]
      refine ⟨fun z hz => ?_, srt_insert k x l h.2⟩
      rcases (mem_insertZ z x l).mp hz with e | e
      · subst e
        rw [le_iff k]
        have c' : ¬ (show R m from z) < (show R m from y) := fun q => c ((lt_iff k _ _).mpr q)
        grind
      · exact h.1 z e
theorem srt_fold (k : OkM m) : ∀ (l acc : List Z), Srt m acc → Srt m (l.foldl (fun l g => if mayStep m g then insertZ m g l else l) acc)
  | [], acc, h => h
  | x :: l, acc, h => by
    rw [List.foldl_cons]
    refine srt_fold k l _ ?_
    split
    · exact srt_insert k x acc h
    · exact h
theorem srt_steps (k : OkM m) : Srt m (steps m) := srt_fold k _ [] List.Pairwise.nil
/-- the first one in order that is such a one is the least -/
theorem find_least (k : OkM m) (p : Z → Bool) : ∀ l : List Z, Srt m l → (∃ g ∈ l, p g = true) → ∃ g, l.find? p = some g ∧ g ∈ l ∧ p g = true ∧ ∀ h ∈ l, p h = true → (show R m from g) ≤ (show R m from h)
  | [], _, h => by obtain ⟨g, hg, _⟩ := h; cases hg
  | y :: l, s, h => by
    unfold Srt at s
    rw [List.pairwise_cons] at s
    by_cases c : p y = true
    · refine ⟨y, by rw [List.find?_cons_of_pos c], by simp, c, fun z hz _ => ?_⟩
      rcases List.mem_cons.mp hz with e | e
      · subst e; grind
      · exact (le_iff k y z).mp (s.1 z e)
    · obtain ⟨g, hg, pg⟩ := h
      have hg' : g ∈ l := by
        rcases List.mem_cons.mp hg with e | e
        · subst e; exact absurd pg c
        · exact e
      obtain ⟨g', f1, f2, f3, f4⟩ := find_least k p l s.2 ⟨g, hg', pg⟩
      refine ⟨g', by rw [List.find?_cons_of_neg c]; exact f1, by simp [f2], f3, fun z hz pz => ?_⟩
      rcases List.mem_cons.mp hz with e | e
      · subst e; exact absurd pz c
      · exact f4 z e pz
/-- a window: u from on, below v; as long as 1 at least, less than w w -/
structure Wn (m : Nat) (u v : R m) : Prop where
  lo : 1 ≤ v - u
  hi : v - u < (ww : R m) * ww
/-- a point -/
def Pt (u v z : R m) : Prop := u ≤ pt z ∧ pt z < v
/-- g leads from z to the next point -/
structure Nx (m : Nat) (u v z g : R m) : Prop where
  pos : 0 < g
  pt : Pt u v (z + g)
  least : ∀ h : R m, 0 < h → Pt u v (z + h) → g ≤ h
theorem Nx.uniq [OkM m] {u v z g h : R m} (a : Nx m u v z g) (b : Nx m u v z h) : g = h := by
  have := a.least h b.pos b.pt
  have := b.least g a.pos a.pt
  grind
/-- w, or w and 1, leads on -/
theorem some_step [k : OkM m] {u v z : R m} (W : Wn m u v) (hz : Pt u v z) : Pt u v (z + ww) ∨ Pt u v (z + (ww + 1)) := by
  unfold Pt at *
  rw [pt_add, pt_add, pt_add, pt_one, pt_w]
  have := w_lo (m := m)
  have := w_hi (m := m)
  have := W.lo
  by_cases c : u ≤ pt z + ((m : R m) - ww)
  · left; grind
  · right; grind
theorem Nx.le [k : OkM m] {u v z g : R m} (W : Wn m u v) (hz : Pt u v z) (a : Nx m u v z g) : g ≤ ww + 1 := by
  have h1 := w_lo (m := m)
  have h2 := m_pos (m := m)
  rcases some_step W hz with h | h
  · have := a.least _ (by grind) h
    grind
  · exact a.least _ (by grind) h
theorem Pt.diff [OkM m] {u v z g : R m} (W : Wn m u v) (hz : Pt u v z) (h : Pt u v (z + g)) : pt g < (ww : R m) * ww ∧ -pt g < (ww : R m) * ww := by
  unfold Pt at *
  rw [pt_add] at h
  have := W.hi
  grind
theorem wn_iff (k : OkM m) (x : Win) : Kzv2.okWin m x = true ↔ Wn m (show R m from x.u) (show R m from x.v) := by
  rw [okWin_iff k]
  exact ⟨fun h => ⟨h.1, h.2⟩, fun h => ⟨h.1, h.2⟩⟩
theorem pt_iff (k : OkM m) (x : Win) (z : Z) : Kzv2.isPoint m x z = true ↔ Pt (show R m from x.u) (show R m from x.v) (show R m from z) := isPoint_iff k x z
/-- the specification's step is the step to the next point -/
theorem step_spec (k : OkM m) {x : Win} {z : Z} (hw : Kzv2.okWin m x = true) (hz : Kzv2.isPoint m x z = true) :
    ∃ g : Z, step m x z = some g ∧ g ∈ steps m ∧ Nx m (show R m from x.u) (show R m from x.v) (show R m from z) (show R m from g) := by
  have W := (wn_iff k x).mp hw
  have P := (pt_iff k x z).mp hz
  have hlo := w_lo (m := m)
  have hm := m_pos (m := m)
  have ex : ∃ g ∈ steps m, Kzv2.isPoint m x (Kzv1.add z g) = true := by
    rcases some_step W P with h | h
    · have := Pt.diff W P h
      exact ⟨_, step_in k ww (by grind) (by grind) this.1 this.2, (pt_iff k x _).mpr h⟩
    · have := Pt.diff W P h
      exact ⟨_, step_in k (ww + 1) (by grind) (by grind) this.1 this.2, (pt_iff k x _).mpr h⟩
  obtain ⟨g, f1, f2, f3, f4⟩ := find_least k (fun g => Kzv2.isPoint m x (Kzv1.add z g)) (steps m) (srt_steps k) ex
  have mg := (mayStep_iff k g).mp ((mem_steps g).mp f2).2
  refine ⟨g, f1, f2, mg.1, (pt_iff k x _).mp f3, fun h h0 hp => ?_⟩
  by_cases c : h ≤ ww + 1
  · have d := Pt.diff W P hp
    exact f4 h (step_in k h h0 c d.1 d.2) ((pt_iff k x _).mpr hp)
  · have := mg.2.1
    grind
/-- backwards -/
structure Bk (m : Nat) (u v z g : R m) : Prop where
  pos : 0 < g
  pt : Pt u v (z - g)
  least : ∀ h : R m, 0 < h → Pt u v (z - h) → g ≤ h
theorem some_back [k : OkM m] {u v z : R m} (W : Wn m u v) (hz : Pt u v z) : Pt u v (z - ww) ∨ Pt u v (z - (ww + 1)) := by
  unfold Pt at *
  rw [pt_sub, pt_sub, pt_add, pt_one, pt_w]
  have := w_lo (m := m)
  have := w_hi (m := m)
  have := W.lo
  by_cases c : pt z - ((m : R m) - ww) < v
  · left; grind
  · right; grind
theorem Pt.diffB [OkM m] {u v z g : R m} (W : Wn m u v) (hz : Pt u v z) (h : Pt u v (z - g)) : pt g < (ww : R m) * ww ∧ -pt g < (ww : R m) * ww := by
  unfold Pt at *
  rw [pt_sub] at h
  have := W.hi
  grind
theorem stepBack_spec (k : OkM m) {x : Win} {z : Z} (hw : Kzv2.okWin m x = true) (hz : Kzv2.isPoint m x z = true) :
    ∃ g : Z, stepBack m x z = some g ∧ g ∈ steps m ∧ Bk m (show R m from x.u) (show R m from x.v) (show R m from z) (show R m from g) := by
  have W := (wn_iff k x).mp hw
  have P := (pt_iff k x z).mp hz
  have hlo := w_lo (m := m)
  have hm := m_pos (m := m)
  have ex : ∃ g ∈ steps m, Kzv2.isPoint m x (Kzv1.sub z g) = true := by
    rcases some_back W P with h | h
    · have := Pt.diffB W P h
      exact ⟨_, step_in k ww (by grind) (by grind) this.1 this.2, (pt_iff k x _).mpr h⟩
    · have := Pt.diffB W P h
      exact ⟨_, step_in k (ww + 1) (by grind) (by grind) this.1 this.2, (pt_iff k x _).mpr h⟩
  obtain ⟨g, f1, f2, f3, f4⟩ := find_least k (fun g => Kzv2.isPoint m x (Kzv1.sub z g)) (steps m) (srt_steps k) ex
  have mg := (mayStep_iff k g).mp ((mem_steps g).mp f2).2
  refine ⟨g, f1, f2, mg.1, (pt_iff k x _).mp f3, fun h h0 hp => ?_⟩
  by_cases c : h ≤ ww + 1
  · have d := Pt.diffB W P hp
    exact f4 h (step_in k h h0 c d.1 d.2) ((pt_iff k x _).mpr hp)
  · have := mg.2.1
    grind
end Ml
namespace Ml
open Kzv1 (Z)
open Kzv2 (Win steps step stepBack mayStep insertZ)
variable {m : Nat}
/-! ### how many steps there are on the way -/
/-- the norm is a whole number -/
theorem norm_int (x : R m) : ∃ i : Int, x * pt x = (i : R m) := by
  refine ⟨Z.a x * Z.a x + (m : Int) * (Z.a x * Z.b x) - Z.b x * Z.b x, R.ext ?_ ?_⟩
  · show Z.a x * (Z.a x + (m : Int) * Z.b x) + Z.b x * (-Z.b x) = _
    show _ = Z.a x * Z.a x + (m : Int) * (Z.a x * Z.b x) - Z.b x * Z.b x
    grind
  · show Z.a x * (-Z.b x) + Z.b x * (Z.a x + (m : Int) * Z.b x) + (m : Int) * (Z.b x * (-Z.b x)) = 0
    grind
/-- two numbers span a whole number of roots -/
theorem det_int (x y : R m) : ∃ i : Int, x * pt y - pt x * y = (i : R m) * (2 * ww - (m : R m)) := by
  refine ⟨Z.b x * Z.a y - Z.a x * Z.b y, R.ext ?_ ?_⟩
  · show (Z.a x * (Z.a y + (m : Int) * Z.b y) + Z.b x * (-Z.b y)) - ((Z.a x + (m : Int) * Z.b x) * Z.a y + (-Z.b x) * Z.b y) = (Z.b x * Z.a y - Z.a x * Z.b y) * (2 * 0 + 0 * 1 - (m : Int)) + 0 * (2 * 1 + 0 * 0 + (m : Int) * (0 * 1) - 0)
    grind
  · show (Z.a x * (-Z.b y) + Z.b x * (Z.a y + (m : Int) * Z.b y) + (m : Int) * (Z.b x * (-Z.b y))) - ((Z.a x + (m : Int) * Z.b x) * Z.b y + (-Z.b x) * Z.a y + (m : Int) * ((-Z.b x) * Z.b y)) = (Z.b x * Z.a y - Z.a x * Z.b y) * (2 * 1 + 0 * 0 + (m : Int) * (0 * 1) - 0) + 0 * (2 * 0 + 0 * 1 - (m : Int)) + (m : Int) * (0 * (2 * 1 + 0 * 0 + (m : Int) * (0 * 1) - 0))
    grind
theorem mul_pos' [OkM m] {x y : R m} (hx : 0 < x) (hy : 0 < y) : 0 < x * y := by
  have := Lean.Grind.OrderedRing.mul_lt_mul_of_pos_right (R := R m) hx hy
  rw [show (0 : R m) * y = 0 by grind] at this
  exact this
theorem mul_nn [OkM m] {x y : R m} (hx : 0 ≤ x) (hy : 0 ≤ y) : 0 ≤ x * y := by
  have := Lean.Grind.OrderedRing.mul_le_mul_of_nonneg_right (R := R m) hx hy
  rw [show (0 : R m) * y = 0 by grind] at this
  exact this
theorem pt_ne [OkM m] {x : R m} (h : x ≠ 0) : pt x ≠ 0 := fun e => h (by
  have := congrArg pt e
  rw [pt_pt, pt_zero] at this
  exact this)
theorem mul_ne [OkM m] {x y : R m} (hx : x ≠ 0) (hy : y ≠ 0) : x * y ≠ 0 := fun e => by
  rcases R.tri x 0 with h | h | h
  · rcases R.tri y 0 with h2 | h2 | h2
    · have := mul_pos' (x := -x) (y := -y) (by grind) (by grind)
      grind
    · exact hy h2
    · have := mul_pos' (x := -x) (y := y) (by grind) (by grind)
      grind
  · exact hx h
  · rcases R.tri y 0 with h2 | h2 | h2
    · have := mul_pos' (x := x) (y := -y) (by grind) (by grind)
      grind
    · exact hy h2
    · have := mul_pos' (x := x) (y := y) (by grind) (by grind)
      grind
theorem int_ne [OkM m] {i : Int} (h : (i : R m) ≠ 0) : 1 ≤ i ∨ i ≤ -1 := by
  have : i ≠ 0 := fun e => h (by subst e; rfl)
  omega
/-- a half-open row of length L holds three numbers only if they span enough: -/
theorem span [k : OkM m] {x y L : R m} (hx : 0 < x) (hy : 0 < y) (x1 : pt x < L) (x2 : -L < pt x) (y1 : pt y < L) (y2 : -L < pt y) (s1 : pt x + pt y < L) (s2 : -L < pt x + pt y) :
    2 * ww - (m : R m) < (x + y) * L ∨ 4 < (x + y) * L := by
  obtain ⟨i, hi⟩ := det_int x y
  have hlo := w_lo (m := m)
  have hm := m_pos (m := m)
  have rt : 0 < 2 * (ww : R m) - (m : R m) := by grind
  have L0 : 0 < L := by grind
  -- the span is less than the box
  have up : x * pt y - pt x * y < (x + y) * L ∧ -(x * pt y - pt x * y) < (x + y) * L := by
    have a1 := mul_pos' hx (y := L - pt y) (by grind)
    have a2 := mul_pos' hx (y := L + pt y) (by grind)
    have b1 := mul_pos' hy (y := L - pt x) (by grind)
    have b2 := mul_pos' hy (y := L + pt x) (by grind)
    constructor <;> grind
  by_cases c : (i : R m) = 0
  · -- on one line: the norm of the sum is 4 at least
    right
    have e : x * pt y = pt x * y := by
      rw [c] at hi
      grind
    obtain ⟨j, hj⟩ := norm_int x
    obtain ⟨l, hl⟩ := norm_int y
    have tp : pt (x * pt y) = x * pt y := by rw [pt_mul, pt_pt, e]
    -- x times y's partner is a whole number
    have hb : Z.b (x * pt y) = 0 := by
      have : -Z.b (x * pt y) = Z.b (x * pt y) := congrArg Z.b tp
      omega
    have ht : x * pt y = ((Z.a (x * pt y) : Int) : R m) := R.ext rfl hb
    generalize Z.a (x * pt y) = t at ht
    have xn : x ≠ 0 := fun q => by grind
    have yn : y ≠ 0 := fun q => by grind
    have jn := int_ne (m := m) (i := j) (by rw [← hj]; exact mul_ne xn (pt_ne xn))
    have ln := int_ne (m := m) (i := l) (by rw [← hl]; exact mul_ne yn (pt_ne yn))
    have tn := int_ne (m := m) (i := t) (by rw [← ht]; exact mul_ne xn (pt_ne yn))
    have sm : (x + y) * (pt x + pt y) = (j : R m) + (l : R m) + 2 * (t : R m) := by rw [← hj, ← hl, ← ht]; grind
    rcases R.tri (pt x) 0 with h | h | h
    · -- below 0
      have h2 : pt y < 0 := by
        rcases R.tri (pt y) 0 with q | q | q
        · exact q
        · exact absurd q (pt_ne yn)
        · have := mul_pos' hx q
          have := mul_pos' (x := -pt x) (y := y) (by grind) hy
          grind
      have j0 : j ≤ -1 := by
        rcases jn with q | q
        · have := mul_pos' hx (y := -pt x) (by grind)
          have : ((1 : Int) : R m) ≤ (j : R m) := int_le q
          have e1 : ((1 : Int) : R m) = 1 := rfl
          grind
        · exact q
      have l0 : l ≤ -1 := by
        rcases ln with q | q
        · have := mul_pos' hy (y := -pt y) (by grind)
          have : ((1 : Int) : R m) ≤ (l : R m) := int_le q
          have e1 : ((1 : Int) : R m) = 1 := rfl
          grind
        · exact q
      have t0 : t ≤ -1 := by
        rcases tn with q | q
        · have := mul_pos' hx (y := -pt y) (by grind)
          have : ((1 : Int) : R m) ≤ (t : R m) := int_le q
          have e1 : ((1 : Int) : R m) = 1 := rfl
          grind
        · exact q
      have j1 : (j : R m) ≤ ((-1 : Int) : R m) := int_le j0
      have l1 : (l : R m) ≤ ((-1 : Int) : R m) := int_le l0
      have t1 : (t : R m) ≤ ((-1 : Int) : R m) := int_le t0
      have e1 : ((-1 : Int) : R m) = -1 := rfl
      have := mul_pos' (x := x + y) (y := L + (pt x + pt y)) (by grind) (by grind)
      grind
    · exact absurd h (pt_ne xn)
    · have h2 : 0 < pt y := by
        rcases R.tri (pt y) 0 with q | q | q
        · have := mul_pos' hx (y := -pt y) (by grind)
          have := mul_pos' (x := pt x) (y := y) (by grind) hy
          grind
        · exact absurd q (pt_ne yn)
        · exact q
      have j0 : 1 ≤ j := by
        rcases jn with q | q
        · exact q
        · have := mul_pos' hx (y := pt x) (by grind)
          have : (j : R m) ≤ ((-1 : Int) : R m) := int_le q
          have e1 : ((-1 : Int) : R m) = -1 := rfl
          grind
      have l0 : 1 ≤ l := by
        rcases ln with q | q
        · exact q
        · have := mul_pos' hy (y := pt y) (by grind)
          have : (l : R m) ≤ ((-1 : Int) : R m) := int_le q
          have e1 : ((-1 : Int) : R m) = -1 := rfl
          grind
      have t0 : 1 ≤ t := by
        rcases tn with q | q
        · exact q
        · have := mul_pos' hx (y := pt y) (by grind)
          have : (t : R m) ≤ ((-1 : Int) : R m) := int_le q
          have e1 : ((-1 : Int) : R m) = -1 := rfl
          grind
      have j1 : ((1 : Int) : R m) ≤ (j : R m) := int_le j0
      have l1 : ((1 : Int) : R m) ≤ (l : R m) := int_le l0
      have t1 : ((1 : Int) : R m) ≤ (t : R m) := int_le t0
      have e1 : ((1 : Int) : R m) = 1 := rfl
      have := mul_pos' (x := x + y) (y := L - (pt x + pt y)) (by grind) (by grind)
      grind
  · left
    rcases int_ne c with q | q
    · have : ((1 : Int) : R m) ≤ (i : R m) := int_le q
      have e1 : ((1 : Int) : R m) = 1 := rfl
      have := mul_nn (x := (i : R m) - 1) (y := 2 * ww - (m : R m)) (by grind) (by grind)
      grind
    · have : (i : R m) ≤ ((-1 : Int) : R m) := int_le q
      have e1 : ((-1 : Int) : R m) = -1 := rfl
      have := mul_nn (x := -1 - (i : R m)) (y := 2 * ww - (m : R m)) (by grind) (by grind)
      grind
end Ml
namespace Ml
open Kzv1 (Z)
open Kzv2 (Win steps step stepBack mayStep insertZ)
variable {m : Nat}
def cm (m : Nat) : R m := if m = 4 then 4 else 2 * ww - (m : R m)
theorem four (k : OkM m) : m = 1 ∨ m = 2 ∨ m = 3 ∨ m = 4 := by
  have := k.h1
  have := k.h4
  omega
theorem cm_le [k : OkM m] : cm m ≤ 4 ∧ cm m ≤ 2 * ww - (m : R m) := by
  have hlo := w_lo (m := m)
  have hhi := w_hi (m := m)
  unfold cm
  rcases four k with rfl | rfl | rfl | rfl
  · rw [if_neg (by decide)]
    have e : ((1 : Nat) : R 1) = 1 := rfl
    constructor <;> grind
  · rw [if_neg (by decide)]
    have e : ((2 : Nat) : R 2) = 2 := rfl
    constructor <;> grind
  · rw [if_neg (by decide)]
    have e : ((3 : Nat) : R 3) = 3 := rfl
    have h : (2 : R 3) * ww < 7 := by
      rw [R.lt_def]
      show Ps _ _ _
      left
      exact ⟨by decide, by decide⟩
    constructor <;> grind
  · rw [if_pos rfl]
    have e : ((4 : Nat) : R 4) = 4 := rfl
    constructor <;> grind
/-- w w w w and w w w, by hundreds -/
theorem cm_100 [k : OkM m] : (ww : R m) * ww * (ww * ww + ww) < 100 * cm m := by
  have hlo := w_lo (m := m)
  have hhi := w_hi (m := m)
  have sq := w_sq (m := m)
  unfold cm
  rcases four k with rfl | rfl | rfl | rfl
  · rw [if_neg (by decide)]
    have e : ((1 : Nat) : R 1) = 1 := rfl
    have : (ww : R 1) * ww * (ww * ww + ww) = 5 * ww + 3 := by grind
    grind
  · rw [if_neg (by decide)]
    have e : ((2 : Nat) : R 2) = 2 := rfl
    have : (ww : R 2) * ww * (ww * ww + ww) = 17 * ww + 7 := by grind
    grind
  · rw [if_neg (by decide)]
    have e : ((3 : Nat) : R 3) = 3 := rfl
    have : (ww : R 3) * ww * (ww * ww + ww) = 43 * ww + 13 := by grind
    grind
  · rw [if_pos rfl]
    have e : ((4 : Nat) : R 4) = 4 := rfl
    have : (ww : R 4) * ww * (ww * ww + ww) = 89 * ww + 21 := by grind
    have h : (4 : R 4) * ww < 17 := by
      rw [R.lt_def]
      show Ps _ _ _
      left
      exact ⟨by decide, by decide⟩
    grind
theorem two_steps [k : OkM m] {u v z g h : R m} (W : Wn m u v) (hz : Pt u v z) (a : Nx m u v z g) (b : Nx m u v (z + g) h) : cm m < (g + h) * (v - u) := by
  have p1 := a.pt
  have p2 := b.pt
  unfold Pt at hz p1 p2
  rw [pt_add] at p1
  rw [pt_add, pt_add] at p2
  have := span (x := g) (y := h) (L := v - u) a.pos b.pos (by grind) (by grind) (by grind) (by grind) (by grind) (by grind)
  have := cm_le (m := m)
  grind
/-- a step by the window's length -/
theorem step_long [k : OkM m] {u v z g : R m} (W : Wn m u v) (hz : Pt u v z) (a : Nx m u v z g) : g * (v - u) ≤ ww * ww + ww := by
  have hlo := w_lo (m := m)
  have hhi := w_hi (m := m)
  have hm := m_pos (m := m)
  have sq := w_sq (m := m)
  have lo := W.lo
  have hi := W.hi
  by_cases c : v - u ≤ ww
  · have h1 := a.le W hz
    have h2 := mul_nn (x := ww + 1 - g) (y := v - u) (by grind) (by grind)
    have h3 := mul_nn (x := ww + 1) (y := ww - (v - u)) (by grind) (by grind)
    grind
  · have h1 : g ≤ 1 + ww - (m : R m) := by
      unfold Pt at hz
      by_cases d : pt z + 1 < v
      · have := a.least 1 (by grind) (by unfold Pt; rw [pt_add, pt_one]; grind)
        grind
      · refine a.least _ (by grind) ?_
        unfold Pt
        have : pt (1 + ww - (m : R m)) = 1 - ww := by
          rw [pt_sub, pt_add, pt_one, pt_w, show pt ((m : R m)) = (m : R m) from pt_nat m]
          grind
        rw [pt_add, this]
        grind
    have h2 := mul_nn (x := 1 + ww - (m : R m) - g) (y := v - u) (by grind) (by grind)
    have h3 := mul_nn (x := 1 + ww - (m : R m)) (y := ww * ww - (v - u)) (by grind) (by grind)
    have e : (1 + ww - (m : R m)) * (ww * ww) = ww * ww + ww := by
      have : (ww - (m : R m)) * ww = 1 := by grind
      grind
    grind
/-- steps, one behind another -/
inductive Path (u v : R m) : R m → List (R m) → R m → Prop
  | nil (z : R m) : Path u v z [] z
  | cons {z g y : R m} {l : List (R m)} : Nx m u v z g → Path u v (z + g) l y → Path u v z (g :: l) y
theorem Path.pt [OkM m] {u v z y : R m} {l : List (R m)} (h : Path u v z l y) (hz : Pt u v z) : Pt u v y := by
  induction h with
  | nil => exact hz
  | cons a _ ih => exact ih a.pt
theorem Path.le [OkM m] {u v z y : R m} {l : List (R m)} (h : Path u v z l y) : z ≤ y := by
  induction h with
  | nil => grind
  | cons a _ ih =>
    have := a.pos
    grind
theorem Path.long [k : OkM m] {u v : R m} (W : Wn m u v) : ∀ (n : Nat) {z y : R m} {l : List (R m)}, Path u v z l y → Pt u v z → 2 * n ≤ l.length → (n : R m) * cm m ≤ (y - z) * (v - u)
  | 0, z, y, l, h, hz, _ => by
    have h1 := h.le
    have h2 := W.lo
    have h3 := mul_nn (x := y - z) (y := v - u) (by grind) (by grind)
    have e : ((0 : Nat) : R m) = 0 := rfl
    rw [e]
    grind
  | n + 1, z, y, l, h, hz, hl => by
    cases h with
    | nil => simp at hl
    | cons a h =>
      cases h with
      | nil =>
        simp at hl
        omega
      | cons b h =>
        have h1 := Path.long W n h b.pt (by simp only [List.length_cons] at hl; omega)
        have h2 := two_steps W hz a b
        have e : ((n + 1 : Nat) : R m) = (n : R m) + 1 := R.ext (by show ((n + 1 : Nat) : Int) = (n : Int) + 1; omega) rfl
        rw [e]
        grind
/-- fewer than 200 steps from a point made larger to the next one, made larger -/
theorem Path.short [k : OkM m] {u v z g a b c : R m} {l : List (R m)} (W : Wn m u v) (hz : Pt u v z) (hg : Nx m u v z g) (h : Path u v a l c) (ha : Pt u v a) (hb : b = a + ww * ww * g) (hc : c ≤ b) : l.length < 200 := by
  by_cases q : l.length < 200
  · exact q
  · exfalso
    have h1 := Path.long W 100 h ha (by omega)
    have h2 := step_long W hz hg
    have h3 := cm_100 (m := m)
    have lo := W.lo
    have hlo := w_lo (m := m)
    have hm := m_pos (m := m)
    have e : ((100 : Nat) : R m) = 100 := rfl
    rw [e] at h1
    subst hb
    have h4 := mul_nn (x := a + ww * ww * g - c) (y := v - u) (by grind) (by grind)
    have h5 := mul_nn (x := ww * ww) (y := ww * ww + ww - g * (v - u)) (mul_nn (by grind) (by grind)) (by grind)
    have h6 : (a + ww * ww * g - c) * (v - u) = ww * ww * (g * (v - u)) - (c - a) * (v - u) := by grind
    have h7 : ww * ww * (ww * ww + ww - g * (v - u)) = ww * ww * (ww * ww + ww) - ww * ww * (g * (v - u)) := by grind
    rw [h6] at h4
    rw [h7] at h5
    grind
end Ml
namespace Ml
open Kzv1 (Z)
open Kzv2 (Win steps step stepBack mayStep insertZ)
variable {m : Nat}
theorem Path.uniq [OkM m] {u v z y : R m} {l l' : List (R m)} (h : Path u v z l y) (h' : Path u v z l' y) : l = l' := by
  induction h generalizing l' with
  | nil z =>
    cases h' with
    | nil => rfl
    | cons a h2 =>
      have := a.pos
      have := h2.le
      exfalso; grind
  | cons a h ih =>
    cases h' with
    | nil =>
      have := a.pos
      have := h.le
      exfalso; grind
    | cons b h2 =>
      have e := a.uniq b
      subst e
      rw [ih h2]
theorem next_spec (k : OkM m) {x : Win} {z : Z} (hw : Kzv2.okWin m x = true) (hz : Kzv2.isPoint m x z = true) :
    ∃ g : Z, Kzv2.next m x z = Kzv1.add z g ∧ Kzv1.sub (Kzv2.next m x z) z = g ∧ Nx m (show R m from x.u) (show R m from x.v) (show R m from z) (show R m from g) := by
  obtain ⟨g, h1, _, h3⟩ := step_spec k hw hz
  have e : Kzv2.next m x z = Kzv1.add z g := by
    unfold Kzv2.next
    rw [h1]
  refine ⟨g, e, ?_, h3⟩
  rw [e]
  show ((show R m from z) + (show R m from g)) - (show R m from z) = (show R m from g)
  grind
/-- the specification's row of steps is the way from point to point -/
theorem stepsTo_path (k : OkM m) {x : Win} (hw : Kzv2.okWin m x = true) {b : Z} (hb : Kzv2.isPoint m x b = true) : ∀ (n : Nat) (a : Z), Kzv2.isPoint m x a = true → (show R m from a) ≤ (show R m from b) →
    (∀ (l : List (R m)) (c : R m), Path (m := m) x.u x.v a l c → c ≤ b → l.length < n) → Path (m := m) x.u x.v a (Kzv4.stepsTo m x n a b) b
  | 0, a, ha, hab, hl => absurd (hl [] a (Path.nil _) hab) (Nat.lt_irrefl 0)
  | n + 1, a, ha, hab, hl => by
    unfold Kzv4.stepsTo
    by_cases c : Kzv1.lt m a b = true
    · rw [if_pos c]
      obtain ⟨g, e1, e2, N⟩ := next_spec k hw ha
      rw [e2, e1]
      have c' := (lt_iff k a b).mp c
      have hag : (show R m from a) + (show R m from g) ≤ (show R m from b) := by
        have pb := (pt_iff k x b).mp hb
        have := N.least ((show R m from b) - (show R m from a)) (by grind) (by
          rw [show (show R m from a) + ((show R m from b) - (show R m from a)) = (show R m from b) by grind]
          exact pb)
        grind
      refine Path.cons N ?_
      refine stepsTo_path k hw hb n (Kzv1.add a g) ((pt_iff k x _).mpr N.pt) hag ?_
      intro l c hp hc
      have : l.length + 1 < n + 1 := hl (g :: l) c (Path.cons N hp) hc
      omega
    · rw [if_neg c]
      have c' : ¬ (show R m from a) < (show R m from b) := fun q => c ((lt_iff k a b).mpr q)
      have e : (show R m from a) = (show R m from b) := by grind
      have e' : a = b := e
      subst e'
      exact Path.nil _
/-- made larger, in the ring -/
theorem large_ring (z : Z) : (Kzv4.large m z : Z) = (show Z from ((ww : R m) * ww * (show R m from z))) := by
  show Kzv1.mul m (Kzv1.mul m (Kzv1.mul m Kzv1.one Kzv1.w) Kzv1.w) z = _
  show (((1 : R m) * ww) * ww) * (show R m from z) = (ww : R m) * ww * (show R m from z)
  grind
/-- 1 by w w -/
def wi : R m := ((m : R m) - ww) * ((m : R m) - ww)
theorem wi_mul : (wi : R m) * (ww * ww) = 1 := by
  have sq := w_sq (m := m)
  unfold wi
  have : ((m : R m) - ww) * ww = -1 := by grind
  grind
theorem small_ring (z : Z) : (Kzv4.small m z : Z) = (show Z from ((wi : R m) * (show R m from z))) := by
  show Kzv1.mul m (Kzv1.mul m (Kzv1.mul m Kzv1.one ⟨-(m : Int), 1⟩) ⟨-(m : Int), 1⟩) z = _
  have e : (⟨-(m : Int), 1⟩ : Z) = (show Z from (ww - (m : R m))) := by
    refine R.ext (m := m) ?_ ?_
    · show -(m : Int) = 0 - m
      omega
    · rfl
  rw [e]
  show (((1 : R m) * (ww - (m : R m))) * (ww - (m : R m))) * (show R m from z) = (wi : R m) * (show R m from z)
  unfold wi
  grind
theorem pt_ww2 : pt ((ww : R m) * ww) = wi := by rw [pt_mul, pt_w]; rfl
theorem wi_pos [k : OkM m] : 0 < (wi : R m) := by
  have := w_lo (m := m)
  have := mul_pos' (x := ww - (m : R m)) (y := ww - (m : R m)) (by grind) (by grind)
  unfold wi
  grind
/-- the window keeps its points -/
def Kp (u v : R m) : Prop := u ≤ wi * u ∧ wi * v ≤ v
theorem kp_iff (k : OkM m) (x : Win) : Kzv4.keeps m x = true ↔ Kp (show R m from x.u) (show R m from x.v) := by
  unfold Kzv4.keeps Kzv4.shrunk Kp
  dsimp only
  rw [Bool.and_eq_true, le_iff k, le_iff k, small_ring, small_ring]
theorem Kp.pt [k : OkM m] {u v z : R m} (K : Kp u v) (h : Pt u v z) : Pt u v (ww * ww * z) := by
  unfold Pt at *
  unfold Kp at K
  rw [pt_mul, pt_ww2]
  have w0 := wi_pos (m := m)
  have h1 := mul_nn (x := wi) (y := Ml.pt z - u) (by grind) (by grind)
  have h2 := mul_pos' (x := wi) (y := v - Ml.pt z) (by grind) (by grind)
  grind
/-- the specification's piece -/
theorem piece_path (k : OkM m) {x : Win} {z : Z} (hw : Kzv2.okWin m x = true) (hz : Kzv2.isPoint m x z = true) (hk : Kzv4.keeps m x = true) :
    ∃ g : R m, Nx m (show R m from x.u) (show R m from x.v) (show R m from z) g ∧ Path (m := m) x.u x.v (ww * ww * (show R m from z)) (Kzv4.piece m x z) (ww * ww * ((show R m from z) + g)) := by
  obtain ⟨g, e1, e2, N⟩ := next_spec k hw hz
  have W := (wn_iff k x).mp hw
  have P := (pt_iff k x z).mp hz
  have K := (kp_iff k x).mp hk
  refine ⟨g, N, ?_⟩
  unfold Kzv4.piece
  rw [e1, large_ring, large_ring]
  have w0 := w_lo (m := m)
  have m0 := m_pos (m := m)
  have g0 := N.pos
  have hww := mul_pos' (x := (ww : R m)) (y := ww) (by grind) (by grind)
  have h1 := mul_pos' hww g0
  refine stepsTo_path k hw ((pt_iff k x _).mpr (K.pt N.pt)) 200 _ ((pt_iff k x _).mpr (K.pt P)) ?_ ?_
  · show (ww : R m) * ww * (show R m from z) ≤ ww * ww * ((show R m from z) + (show R m from g))
    grind
  · intro l c hp hc
    refine Path.short W P N hp (K.pt P) (b := ww * ww * ((show R m from z) + (show R m from g))) ?_ hc
    show (ww : R m) * ww * ((show R m from z) + (show R m from g)) = (ww : R m) * ww * (show R m from z) + ww * ww * (show R m from g)
    grind
end Ml
namespace Ml
open Kzv1 (Z)
open Kzv2 (Win steps step stepBack mayStep insertZ)
variable {m : Nat}
/-! ### two steps that make all the others -/
/-- r's partner lies above 0, f's below; either is shorter than the window, both together are not -/
structure RF (m : Nat) (L r f : R m) : Prop where
  r0 : 0 < r
  f0 : 0 < f
  pr : 0 < pt r
  pf : pt f < 0
  rL : pt r < L
  fL : -L < pt f
  ap : L ≤ pt r - pt f
  det : Z.a r * Z.b f - Z.b r * Z.a f = 1 ∨ Z.a r * Z.b f - Z.b r * Z.a f = -1
theorem cmb_a {a b c d x y : Int} (e : a * d - b * c = 1) : x = (x * d - y * c) * a + (a * y - b * x) * c := by
  have h : x * (a * d - b * c) = x * 1 := by rw [e]
  grind
theorem cmb_b {a b c d x y : Int} (e : a * d - b * c = 1) : y = (x * d - y * c) * b + (a * y - b * x) * d := by
  have h : y * (a * d - b * c) = y * 1 := by rw [e]
  grind
theorem comb_1 {r f : R m} (e : Z.a r * Z.b f - Z.b r * Z.a f = 1) (g : R m) : g = ((Z.a g * Z.b f - Z.b g * Z.a f : Int) : R m) * r + ((Z.a r * Z.b g - Z.b r * Z.a g : Int) : R m) * f := by
  refine R.ext ?_ ?_
  · show Z.a g = ((Z.a g * Z.b f - Z.b g * Z.a f) * Z.a r + 0 * Z.b r) + ((Z.a r * Z.b g - Z.b r * Z.a g) * Z.a f + 0 * Z.b f)
    have := cmb_a (x := Z.a g) (y := Z.b g) e
    omega
  · show Z.b g = ((Z.a g * Z.b f - Z.b g * Z.a f) * Z.b r + 0 * Z.a r + (m : Int) * (0 * Z.b r)) + ((Z.a r * Z.b g - Z.b r * Z.a g) * Z.b f + 0 * Z.a f + (m : Int) * (0 * Z.b f))
    have := cmb_b (x := Z.a g) (y := Z.b g) e
    rw [Int.zero_mul, Int.zero_mul, Int.zero_mul, Int.zero_mul, Int.mul_zero]
    omega
theorem comb_2 {r f : R m} (e : Z.a r * Z.b f - Z.b r * Z.a f = -1) (g : R m) : g = ((Z.b g * Z.a f - Z.a g * Z.b f : Int) : R m) * r + ((Z.b r * Z.a g - Z.a r * Z.b g : Int) : R m) * f := by
  have e' : Z.a f * Z.b r - Z.b f * Z.a r = 1 := by grind
  have h := comb_1 e' g
  have e1 : ((Z.a g * Z.b r - Z.b g * Z.a r : Int)) = Z.b r * Z.a g - Z.a r * Z.b g := by grind
  have e2 : ((Z.a f * Z.b g - Z.b f * Z.a g : Int)) = Z.b g * Z.a f - Z.a g * Z.b f := by grind
  rw [e1, e2] at h
  rw [Lean.Grind.AddCommMonoid.add_comm]
  exact h
theorem RF.comb {L r f : R m} (h : RF m L r f) (g : R m) : ∃ a b : Int, g = (a : R m) * r + (b : R m) * f := by
  rcases h.det with e | e
  · exact ⟨_, _, comb_1 e g⟩
  · exact ⟨_, _, comb_2 e g⟩
theorem pt_int (i : Int) : pt (i : R m) = (i : R m) := R.ext (by show i + (m : Int) * 0 = i; omega) rfl
theorem int_1 [OkM m] {i : Int} (h : 1 ≤ i) : (1 : R m) ≤ (i : R m) := int_le (m := m) (i := 1) (j := i) h
theorem int_m1 [OkM m] {i : Int} (h : i ≤ -1) : (i : R m) ≤ -1 := int_le (m := m) (i := i) (j := -1) h
theorem int_0 [OkM m] {i : Int} (h : 0 ≤ i) : (0 : R m) ≤ (i : R m) := int_le (m := m) (i := 0) (j := i) h
theorem int_m0 [OkM m] {i : Int} (h : i ≤ 0) : (i : R m) ≤ 0 := int_le (m := m) (i := i) (j := 0) h
/-- what is no longer than the window is put together of so many of the one and of the other -/
theorem RF.nn [k : OkM m] {L r f : R m} (h : RF m L r f) {g : R m} (g0 : 0 < g) (h1 : pt g < L) (h2 : -L < pt g) : ∃ a b : Int, g = (a : R m) * r + (b : R m) * f ∧ 0 ≤ a ∧ 0 ≤ b := by
  obtain ⟨a, b, e⟩ := h.comb g
  have ep : pt g = (a : R m) * pt r + (b : R m) * pt f := by
    rw [e, pt_add, pt_mul, pt_mul, pt_int, pt_int]
  refine ⟨a, b, e, ?_⟩
  have hr := h.r0
  have hf := h.f0
  have hpr := h.pr
  have hpf := h.pf
  have hap := h.ap
  by_cases ca : 0 ≤ a
  · refine ⟨ca, ?_⟩
    by_cases cb : 0 ≤ b
    · exact cb
    · exfalso
      have b1 := int_m1 (m := m) (i := b) (by omega)
      by_cases ca1 : a = 0
      · subst ca1
        have := mul_pos' (x := -(b : R m)) (y := f) (by grind) hf
        have e0 : ((0 : Int) : R m) = 0 := rfl
        grind
      · have a1 := int_1 (m := m) (i := a) (by omega)
        have := mul_nn (x := (a : R m) - 1) (y := pt r) (by grind) (by grind)
        have := mul_nn (x := -1 - (b : R m)) (y := -pt f) (by grind) (by grind)
        grind
  · exfalso
    have a1 := int_m1 (m := m) (i := a) (by omega)
    by_cases cb : b ≤ 0
    · have b0 := int_m0 (m := m) cb
      have := mul_pos' (x := -(a : R m)) (y := r) (by grind) hr
      have := mul_nn (x := -(b : R m)) (y := f) (by grind) (by grind)
      grind
    · have b1 := int_1 (m := m) (i := b) (by omega)
      have := mul_nn (x := -1 - (a : R m)) (y := pt r) (by grind) (by grind)
      have := mul_nn (x := (b : R m) - 1) (y := -pt f) (by grind) (by grind)
      grind
/-- the form of a step from a point -/
theorem RF.of [k : OkM m] {u v r f z g : R m} (h : RF m (v - u) r f) (hz : Pt u v z) (g0 : 0 < g) (hg : Pt u v (z + g)) : ∃ a b : Int, g = (a : R m) * r + (b : R m) * f ∧ pt g = (a : R m) * pt r + (b : R m) * pt f ∧ 0 ≤ a ∧ 0 ≤ b := by
  unfold Pt at hz hg
  rw [pt_add] at hg
  obtain ⟨a, b, e, ha, hb⟩ := h.nn g0 (by grind) (by grind)
  exact ⟨a, b, e, by rw [e, pt_add, pt_mul, pt_mul, pt_int, pt_int], ha, hb⟩
theorem RF.nxR [k : OkM m] {u v r f z : R m} (h : RF m (v - u) r f) (h1 : u ≤ pt z) (h2 : pt z < v - pt r) : Nx m u v z r := by
  have hr := h.r0
  have hf := h.f0
  have hpr := h.pr
  have hpf := h.pf
  have hap := h.ap
  refine ⟨h.r0, ?_, fun g g0 hg => ?_⟩
  · unfold Pt
    rw [pt_add]
    grind
  · obtain ⟨a, b, e, ep, ha, hb⟩ := h.of ⟨h1, by grind⟩ g0 hg
    unfold Pt at hg
    rw [pt_add] at hg
    have b0 := int_0 (m := m) hb
    have := mul_nn (x := (b : R m)) (y := f) (by grind) (by grind)
    by_cases ca : a = 0
    · subst ca
      have e0 : ((0 : Int) : R m) = 0 := rfl
      by_cases cb : b = 0
      · subst cb
        grind
      · have b1 := int_1 (m := m) (i := b) (by omega)
        have := mul_nn (x := (b : R m) - 1) (y := -pt f) (by grind) (by grind)
        grind
    · have a1 := int_1 (m := m) (i := a) (by omega)
      have := mul_nn (x := (a : R m) - 1) (y := r) (by grind) (by grind)
      grind
theorem RF.nxF [k : OkM m] {u v r f z : R m} (h : RF m (v - u) r f) (h1 : u - pt f ≤ pt z) (h2 : pt z < v) : Nx m u v z f := by
  have hr := h.r0
  have hf := h.f0
  have hpr := h.pr
  have hpf := h.pf
  have hap := h.ap
  refine ⟨h.f0, ?_, fun g g0 hg => ?_⟩
  · unfold Pt
    rw [pt_add]
    grind
  · obtain ⟨a, b, e, ep, ha, hb⟩ := h.of ⟨by grind, h2⟩ g0 hg
    unfold Pt at hg
    rw [pt_add] at hg
    have a0 := int_0 (m := m) ha
    have := mul_nn (x := (a : R m)) (y := r) (by grind) (by grind)
    by_cases cb : b = 0
    · subst cb
      have e0 : ((0 : Int) : R m) = 0 := rfl
      by_cases ca : a = 0
      · subst ca
        grind
      · have a1 := int_1 (m := m) (i := a) (by omega)
        have := mul_nn (x := (a : R m) - 1) (y := pt r) (by grind) (by grind)
        grind
    · have b1 := int_1 (m := m) (i := b) (by omega)
      have := mul_nn (x := (b : R m) - 1) (y := f) (by grind) (by grind)
      grind
theorem RF.nxS [k : OkM m] {u v r f z : R m} (h : RF m (v - u) r f) (h1 : v - pt r ≤ pt z) (h2 : pt z < u - pt f) : Nx m u v z (r + f) := by
  have hr := h.r0
  have hf := h.f0
  have hpr := h.pr
  have hpf := h.pf
  have hap := h.ap
  have hrL := h.rL
  have hfL := h.fL
  refine ⟨by grind, ?_, fun g g0 hg => ?_⟩
  · unfold Pt
    rw [pt_add, pt_add]
    grind
  · obtain ⟨a, b, e, ep, ha, hb⟩ := h.of ⟨by grind, by grind⟩ g0 hg
    unfold Pt at hg
    rw [pt_add] at hg
    have e0 : ((0 : Int) : R m) = 0 := rfl
    by_cases ca : a = 0
    · subst ca
      by_cases cb : b = 0
      · subst cb
        grind
      · have b1 := int_1 (m := m) (i := b) (by omega)
        have := mul_nn (x := (b : R m) - 1) (y := -pt f) (by grind) (by grind)
        grind
    · have a1 := int_1 (m := m) (i := a) (by omega)
      by_cases cb : b = 0
      · subst cb
        have := mul_nn (x := (a : R m) - 1) (y := pt r) (by grind) (by grind)
        grind
      · have b1 := int_1 (m := m) (i := b) (by omega)
        have := mul_nn (x := (a : R m) - 1) (y := r) (by grind) (by grind)
        have := mul_nn (x := (b : R m) - 1) (y := f) (by grind) (by grind)
        grind
end Ml
namespace Ml
open Kzv1 (Z)
open Kzv2 (Win steps step stepBack mayStep insertZ common without moved partsOn parts)
variable {m : Nat}
/-! ### the window parted -/
/-- a step, and where the partners of the points lie from which it leads -/
structure PD (m : Nat) where
  s : R m
  lo : R m
  hi : R m
def wn (a b : R m) : Win := ⟨a, b⟩
theorem ltT (k : OkM m) {a b : R m} (h : a < b) : Kzv1.lt m a b = true := (lt_iff k a b).mpr h
theorem ltF (k : OkM m) {a b : R m} (h : ¬ a < b) : Kzv1.lt m a b = false := Bool.eq_false_iff.mpr fun e => h ((lt_iff k a b).mp e)
theorem leT (k : OkM m) {a b : R m} (h : a ≤ b) : Kzv1.le m a b = true := (le_iff k a b).mpr h
theorem leF (k : OkM m) {a b : R m} (h : ¬ a ≤ b) : Kzv1.le m a b = false := Bool.eq_false_iff.mpr fun e => h ((le_iff k a b).mp e)
def mx (a c : R m) : R m := if Kzv1.lt m a c = true then c else a
def mn (b d : R m) : R m := if Kzv1.lt m b d = true then b else d
theorem mx_is (k : OkM m) (a c : R m) : a ≤ mx a c ∧ c ≤ mx a c ∧ (mx a c = a ∨ mx a c = c) := by
  unfold mx
  by_cases q : a < c
  · rw [if_pos (ltT k q)]; grind
  · rw [if_neg (by rw [ltF k q]; decide)]; grind
theorem mn_is (k : OkM m) (b d : R m) : mn b d ≤ b ∧ mn b d ≤ d ∧ (mn b d = b ∨ mn b d = d) := by
  unfold mn
  by_cases q : b < d
  · rw [if_pos (ltT k q)]; grind
  · rw [if_neg (by rw [ltF k q]; decide)]; grind
theorem common_form (a b c d : R m) : common m (wn a b) (wn c d) = if Kzv1.lt m (mx a c) (mn b d) = true then some (wn (mx a c) (mn b d)) else none := rfl
theorem without_form (a b c d : R m) : without m (wn a b) (wn c d) = if (Kzv1.le m b c || Kzv1.le m d a) = true then [wn a b] else (if Kzv1.lt m a (mn c b) = true then [wn a (mn c b)] else []) ++ (if Kzv1.lt m (mx a d) b = true then [wn (mx a d) b] else []) := rfl
theorem common_some (k : OkM m) {a b c d e f : R m} (h1 : a ≤ e) (h2 : c ≤ e) (h3 : e = a ∨ e = c) (h4 : f ≤ b) (h5 : f ≤ d) (h6 : f = b ∨ f = d) (h7 : e < f) : common m (wn a b) (wn c d) = some (wn e f) := by
  have e1 : mx a c = e := by have := mx_is k a c; grind
  have e2 : mn b d = f := by have := mn_is k b d; grind
  rw [common_form, e1, e2, if_pos (ltT k h7)]
theorem common_none (k : OkM m) {a b c d : R m} (h : b ≤ c ∨ d ≤ a ∨ b ≤ a ∨ d ≤ c) : common m (wn a b) (wn c d) = none := by
  have e1 := mx_is k a c
  have e2 := mn_is k b d
  rw [common_form]
  generalize mx a c = e at *
  generalize mn b d = f at *
  have q : ¬ e < f := by grind
  rw [if_neg (by rw [ltF k q]; decide)]
theorem without_far (k : OkM m) {a b c d : R m} (h : b ≤ c ∨ d ≤ a) : without m (wn a b) (wn c d) = [wn a b] := by
  have e : (Kzv1.le m b c || Kzv1.le m d a) = true := by
    rcases h with h | h
    · rw [leT k h]; rfl
    · rw [leT k h, Bool.or_true]
  rw [without_form, if_pos e]
theorem without_near (k : OkM m) {a b c d : R m} (h1 : c < b) (h2 : a < d) : without m (wn a b) (wn c d) = (if Kzv1.lt m a c = true then [wn a c] else []) ++ (if Kzv1.lt m d b = true then [wn d b] else []) := by
  have e : (Kzv1.le m b c || Kzv1.le m d a) = false := by
    rw [leF k (by grind), leF k (by grind)]; rfl
  have e1 : mx a d = d := by have := mx_is k a d; grind
  have e2 : mn c b = c := by have := mn_is k c b; grind
  rw [without_form, if_neg (by rw [e]; decide), e1, e2]
theorem moved_wn (u v g : R m) : moved (wn u v) (Kzv1.neg (Kzv1.partner m g)) = wn (u - pt g) (v - pt g) := by
  show (⟨u + -pt g, v + -pt g⟩ : Win) = ⟨u - pt g, v - pt g⟩
  rw [show u + -pt g = u - pt g by grind, show v + -pt g = v - pt g by grind]
theorem parts_cons (u v : R m) (g : R m) (l : List Z) (p : Win) : partsOn m (wn u v) (g :: l) [p] = ((common m p (wn (u - pt g) (v - pt g))).map fun y => ((show Z from g), y)).toList ++ partsOn m (wn u v) l (without m p (wn (u - pt g) (v - pt g))) := by
  conv => lhs; unfold partsOn
  dsimp only
  rw [moved_wn]
  show List.filterMap _ [p] ++ partsOn m (wn u v) l (List.flatMap _ [p]) = _
  rw [List.flatMap_singleton, List.filterMap_cons]
  cases common m p (wn (u - pt g) (v - pt g)) <;> rfl
theorem parts_nil (u v : R m) : ∀ l : List Z, partsOn m (wn u v) l [] = []
  | [] => rfl
  | g :: l => by
    unfold partsOn
    dsimp only
    show ([] : List (Z × Win)) ++ partsOn m (wn u v) l [] = []
    rw [parts_nil u v l]
    rfl
/-- lesser steps than the one looked for are passed over -/
theorem parts_skip (k : OkM m) {u v a b s : R m} (hab : a < b) (huv : u < v) (hs : ∀ (c g : R m), a ≤ c → c < b → 0 < g → g < s → ¬ (u ≤ c + pt g ∧ c + pt g < v)) : ∀ l : List Z, Srt m l → (∀ g ∈ l, 0 < (show R m from g)) → (show Z from s) ∈ l →
    ∃ l1 l2 : List Z, l = l1 ++ (show Z from s) :: l2 ∧ (∀ g ∈ l1, (show R m from g) < s) ∧ partsOn m (wn u v) l [wn a b] = partsOn m (wn u v) ((show Z from s) :: l2) [wn a b]
  | [], _, _, h => by cases h
  | g :: l, S, P, h => by
    unfold Srt at S
    rw [List.pairwise_cons] at S
    by_cases c : g = (show Z from s)
    · rw [c]
      exact ⟨[], l, rfl, fun z hz => (List.not_mem_nil hz).elim, rfl⟩
    · have h' : (show Z from s) ∈ l := by
        rcases List.mem_cons.mp h with e | e
        · exact absurd e.symm c
        · exact e
      have gl : (show R m from g) < s := by
        have h1 := (le_iff k g s).mp (S.1 _ h')
        have h2 : (show R m from g) ≠ s := c
        have h1' : (show R m from g) ≤ s := h1
        grind
      obtain ⟨l1, l2, e1, e2, e3⟩ := parts_skip k hab huv hs l S.2 (fun z hz => P z (by simp [hz])) h'
      refine ⟨g :: l1, l2, by rw [e1]; rfl, fun z hz => ?_, ?_⟩
      · rcases List.mem_cons.mp hz with e | e
        · subst e; exact gl
        · exact e2 z e
      · have g0 := P g (by simp)
        have key : b ≤ u - pt (show R m from g) ∨ v - pt (show R m from g) ≤ a := by
          have h1 := hs a g (by grind) hab g0 gl
          by_cases q : b ≤ u - pt (show R m from g)
          · exact .inl q
          · right
            by_cases q2 : v - pt (show R m from g) ≤ a
            · exact q2
            · exfalso
              by_cases q3 : a < u - pt (show R m from g)
              · refine hs (u - pt (show R m from g)) g (by grind) (by grind) g0 gl ⟨by grind, by grind⟩
              · exact h1 ⟨by grind, by grind⟩
        rw [parts_cons u v g l, common_none k (by grind), without_far k key]
        exact e3
/-- the parts, in order -/
def mkParts (m : Nat) (u v r f : R m) : List (PD m) :=
  (if Kzv1.lt m r f = true then [⟨r, u, v - pt r⟩, ⟨f, u - pt f, v⟩] else [⟨f, u - pt f, v⟩, ⟨r, u, v - pt r⟩]) ++ (if Kzv1.lt m (v - pt r) (u - pt f) = true then [⟨r + f, v - pt r, u - pt f⟩] else [])
theorem Nx.not [k : OkM m] {u v z s g : R m} (n : Nx m u v z s) (g0 : 0 < g) (h : g < s) : ¬ Pt u v (z + g) := fun p => by
  have := n.least g g0 p
  grind
theorem in_steps (k : OkM m) {u v z s : R m} (W : Wn m u v) (hz : Pt u v z) (n : Nx m u v z s) : (show Z from s) ∈ steps m := by
  have d := Pt.diff W hz n.pt
  exact step_in k s n.pos (n.le W hz) d.1 d.2
/-- the step from a point, by where its partner lies -/
theorem RF.at [k : OkM m] {u v r f : R m} (h : RF m (v - u) r f) {c : R m} (h1 : u ≤ c) (h2 : c < v) : (c < v - pt r ∧ Nx m u v (pt c) r) ∨ (u - pt f ≤ c ∧ Nx m u v (pt c) f) ∨ (v - pt r ≤ c ∧ c < u - pt f ∧ Nx m u v (pt c) (r + f)) := by
  by_cases q : c < v - pt r
  · exact .inl ⟨q, h.nxR (by rw [pt_pt]; exact h1) (by rw [pt_pt]; exact q)⟩
  · by_cases q2 : u - pt f ≤ c
    · exact .inr (.inl ⟨q2, h.nxF (by rw [pt_pt]; exact q2) (by rw [pt_pt]; exact h2)⟩)
    · exact .inr (.inr ⟨by grind, by grind, h.nxS (by rw [pt_pt]; grind) (by rw [pt_pt]; grind)⟩)
theorem nx_out [k : OkM m] {u v c s g : R m} (n : Nx m u v (pt c) s) (g0 : 0 < g) (h : g < s) : ¬ (u ≤ c + pt g ∧ c + pt g < v) := fun p => by
  refine n.not g0 h ?_
  unfold Pt
  rw [pt_add, pt_pt]
  exact p
theorem tail_mem (k : OkM m) {l1 l2 l : List Z} {s t : R m} (e : l = l1 ++ (show Z from s) :: l2) (h1 : ∀ g ∈ l1, (show R m from g) < s) (h : s < t) (ht : (show Z from t) ∈ l) : (show Z from t) ∈ l2 := by
  rw [e, List.mem_append, List.mem_cons] at ht
  rcases ht with q | q | q
  · have := h1 _ q
    have : (t : R m) < s := this
    exfalso; grind
  · have q' : t = s := q
    exfalso; grind
  · exact q
theorem tail_srt {l1 l2 l : List Z} {s : Z} (e : l = l1 ++ s :: l2) (S : Srt m l) : Srt m l2 := by
  unfold Srt at *
  rw [e, List.pairwise_append, List.pairwise_cons] at S
  exact S.2.1.2
theorem parts_is (k : OkM m) {u v r f : R m} (W : Wn m u v) (h : RF m (v - u) r f) : parts m (wn u v) = (mkParts m u v r f).map fun d => ((d.s : Z), wn d.lo d.hi) := by
  have hr := h.r0
  have hf := h.f0
  have hpr := h.pr
  have hpf := h.pf
  have hap := h.ap
  have hrL := h.rL
  have hfL := h.fL
  have lo := W.lo
  have huv : u < v := by grind
  have S := srt_steps k
  have P : ∀ g ∈ steps m, 0 < (show R m from g) := fun g hg => ((mayStep_iff k g).mp ((mem_steps g).mp hg).2).1
  have nr : Nx m u v (pt u) r := h.nxR (by rw [pt_pt]; grind) (by rw [pt_pt]; grind)
  have nf : Nx m u v (pt (u - pt f)) f := h.nxF (by rw [pt_pt]; grind) (by rw [pt_pt]; grind)
  have mr := in_steps k W (show Pt u v (pt u) by unfold Pt; rw [pt_pt]; grind) nr
  have mf := in_steps k W (show Pt u v (pt (u - pt f)) by unfold Pt; rw [pt_pt]; grind) nf
  have ms : v - pt r < u - pt f → (show Z from (r + f)) ∈ steps m := fun q => by
    refine in_steps k W (z := pt (v - pt r)) (show Pt u v (pt (v - pt r)) by unfold Pt; rw [pt_pt]; grind) (h.nxS (by rw [pt_pt]; grind) (by rw [pt_pt]; grind))
  have rf : r ≠ f := fun e => by subst e; grind
  -- the last part
  have last : ∀ (l : List Z), Srt m l → (∀ g ∈ l, 0 < (show R m from g)) → (v - pt r < u - pt f → (show Z from (r + f)) ∈ l) →
      partsOn m (wn u v) l (if Kzv1.lt m (v - pt r) (u - pt f) = true then [wn (v - pt r) (u - pt f)] else []) = (if Kzv1.lt m (v - pt r) (u - pt f) = true then [⟨r + f, v - pt r, u - pt f⟩] else ([] : List (PD m))).map fun d => ((d.s : Z), wn d.lo d.hi) := by
    intro l Sl Pl hl
    by_cases q : v - pt r < u - pt f
    · rw [if_pos (ltT k q), if_pos (ltT k q)]
      obtain ⟨l1, l2, e1, e2, e3⟩ := parts_skip k (s := r + f) q huv (fun c g h1 h2 g0 hg => by
        have n : Nx m u v (pt c) (r + f) := h.nxS (by rw [pt_pt]; grind) (by rw [pt_pt]; grind)
        exact nx_out n g0 hg) l Sl Pl (hl q)
      rw [e3]
      have ee := parts_cons (m := m) u v (r + f) l2 (wn (v - pt r) (u - pt f))
      rw [pt_add] at ee
      rw [ee, common_some k (e := v - pt r) (f := u - pt f) (by grind) (by grind) (by grind) (by grind) (by grind) (by grind) q, without_near k (by grind) (by grind),
        if_neg (by rw [ltF k (by grind)]; decide), if_neg (by rw [ltF k (by grind)]; decide)]
      show _ ++ partsOn m (wn u v) l2 [] = _
      rw [parts_nil]
      rfl
    · rw [if_neg (by rw [ltF k q]; decide), if_neg (by rw [ltF k q]; decide), parts_nil]
      rfl
  unfold parts mkParts
  rw [List.map_append]
  by_cases c : r < f
  · rw [if_pos (ltT k c)]
    obtain ⟨l1, l2, e1, e2, e3⟩ := parts_skip k (s := r) huv huv (fun c g h1 h2 g0 hg => by
      rcases h.at h1 h2 with ⟨_, n⟩ | ⟨_, n⟩ | ⟨_, _, n⟩
      · exact nx_out n g0 hg
      · exact nx_out n g0 (by grind)
      · exact nx_out n g0 (by grind)) (steps m) S P mr
    rw [e3, parts_cons u v r l2, common_some k (e := u) (f := v - pt r) (by grind) (by grind) (by grind) (by grind) (by grind) (by grind) (by grind), without_near k (by grind) (by grind),
        if_neg (by rw [ltF k (by grind)]; decide), if_pos (ltT k (by grind))]
    show ((r : Z), wn u (v - pt r)) :: partsOn m (wn u v) l2 [wn (v - pt r) v] = ((r : Z), wn u (v - pt r)) :: ((f : Z), wn (u - pt f) v) :: _
    have S2 := tail_srt e1 S
    have P2 : ∀ g ∈ l2, 0 < (show R m from g) := fun g hg => P g (by rw [e1]; exact List.mem_append_right _ (List.mem_cons_of_mem _ hg))
    obtain ⟨l3, l4, e4, e5, e6⟩ := parts_skip k (s := f) (a := v - pt r) (b := v) (by grind) huv (fun c g h1 h2 g0 hg => by
      rcases h.at (show u ≤ c by grind) h2 with ⟨q, n⟩ | ⟨_, n⟩ | ⟨_, _, n⟩
      · exfalso; grind
      · exact nx_out n g0 hg
      · exact nx_out n g0 (by grind)) l2 S2 P2 (tail_mem k e1 e2 c mf)
    rw [e6, parts_cons u v f l4, common_some k (e := u - pt f) (f := v) (by grind) (by grind) (by grind) (by grind) (by grind) (by grind) (by grind), without_near k (by grind) (by grind),
        if_neg (c := Kzv1.lt m (v - pt f) v = true) (by rw [ltF k (by grind)]; decide), List.append_nil]
    rw [last l4 (tail_srt e4 S2) (fun g hg => P2 g (by rw [e4]; exact List.mem_append_right _ (List.mem_cons_of_mem _ hg))) (fun q => tail_mem k e4 e5 (by grind) (tail_mem k e1 e2 (by grind) (ms q)))]
    rfl
  · have c' : f < r := by grind
    rw [if_neg (by rw [ltF k c]; decide)]
    obtain ⟨l1, l2, e1, e2, e3⟩ := parts_skip k (s := f) huv huv (fun c g h1 h2 g0 hg => by
      rcases h.at h1 h2 with ⟨_, n⟩ | ⟨_, n⟩ | ⟨_, _, n⟩
      · exact nx_out n g0 (by grind)
      · exact nx_out n g0 hg
      · exact nx_out n g0 (by grind)) (steps m) S P mf
    rw [e3, parts_cons u v f l2, common_some k (e := u - pt f) (f := v) (by grind) (by grind) (by grind) (by grind) (by grind) (by grind) (by grind), without_near k (by grind) (by grind),
        if_pos (ltT k (by grind)), if_neg (by rw [ltF k (by grind)]; decide), List.append_nil]
    show ((f : Z), wn (u - pt f) v) :: partsOn m (wn u v) l2 [wn u (u - pt f)] = ((f : Z), wn (u - pt f) v) :: ((r : Z), wn u (v - pt r)) :: _
    have S2 := tail_srt e1 S
    have P2 : ∀ g ∈ l2, 0 < (show R m from g) := fun g hg => P g (by rw [e1]; exact List.mem_append_right _ (List.mem_cons_of_mem _ hg))
    obtain ⟨l3, l4, e4, e5, e6⟩ := parts_skip k (s := r) (a := u) (b := u - pt f) (by grind) huv (fun c g h1 h2 g0 hg => by
      rcases h.at h1 (show c < v by grind) with ⟨q, n⟩ | ⟨_, n⟩ | ⟨_, _, n⟩
      · exact nx_out n g0 hg
      · exfalso; grind
      · exact nx_out n g0 (by grind)) l2 S2 P2 (tail_mem k e1 e2 c' mr)
    rw [e6, parts_cons u v r l4, common_some k (e := u) (f := v - pt r) (by grind) (by grind) (by grind) (by grind) (by grind) (by grind) (by grind), without_near k (by grind) (by grind),
        if_neg (c := Kzv1.lt m u (u - pt r) = true) (by rw [ltF k (by grind)]; decide), List.nil_append]
    rw [last l4 (tail_srt e4 S2) (fun g hg => P2 g (by rw [e4]; exact List.mem_append_right _ (List.mem_cons_of_mem _ hg))) (fun q => tail_mem k e4 e5 (by grind) (tail_mem k e1 e2 (by grind) (ms q)))]
    rfl
end Ml
namespace Ml
open Kzv1 (Z)
open Kzv2 (Win steps step stepBack mayStep insertZ common without moved partsOn parts)
variable {m : Nat}
instance : DecidableEq (R m) := inferInstanceAs (DecidableEq Z)
/-! ### how the two steps are found -/
def ch (m : Nat) : Nat → Z × Z
  | 0 => (⟨(m : Int) * m + 1, -m⟩, ⟨-(m : Int), 1⟩)
  | i + 1 => if Kzv1.lt m ⟨0, 0⟩ (Kzv1.partner m (Kzv1.add (ch m i).1 (ch m i).2)) = true then (Kzv1.add (ch m i).1 (ch m i).2, (ch m i).2) else ((ch m i).1, Kzv1.add (ch m i).1 (ch m i).2)
def sm (x : Z) : Bool := decide (-60 ≤ x.a) && decide (x.a ≤ 60) && decide (-60 ≤ x.b) && decide (x.b ≤ 60)
def chOk (m i : Nat) : Bool := Kzv1.lt m ⟨0, 0⟩ (ch m i).1 && Kzv1.lt m ⟨0, 0⟩ (ch m i).2 && Kzv1.lt m ⟨0, 0⟩ (Kzv1.partner m (ch m i).1) && Kzv1.lt m (Kzv1.partner m (ch m i).2) ⟨0, 0⟩ &&
  (decide ((ch m i).1.a * (ch m i).2.b - (ch m i).1.b * (ch m i).2.a = 1) || decide ((ch m i).1.a * (ch m i).2.b - (ch m i).1.b * (ch m i).2.a = -1)) && sm (ch m i).1 && sm (ch m i).2
theorem ch_all : ∀ m < 5, 1 ≤ m → ∀ i < 10, i ≤ 2 * m + 1 → chOk m i = true := by decide +kernel
theorem ch_last : ∀ m < 5, 1 ≤ m → Kzv1.lt m (Kzv1.partner m (ch m (2 * m + 1)).1) ⟨1, 0⟩ = true ∧ Kzv1.lt m ⟨-1, 0⟩ (Kzv1.partner m (ch m (2 * m + 1)).2) = true := by decide +kernel
theorem ch_zero : ∀ m < 5, 1 ≤ m → Kzv1.le m (Kzv1.mul m ⟨0, 1⟩ ⟨0, 1⟩) (Kzv1.sub (Kzv1.partner m (ch m 0).1) (Kzv1.partner m (ch m 0).2)) = true := by decide +kernel
/-- on the way, so many turns -/
structure Ch (m : Nat) (L r f : R m) (i : Nat) : Prop where
  er : r = (ch m i).1
  ef : f = (ch m i).2
  le : i ≤ 2 * m + 1
  ap : L ≤ pt r - pt f
theorem Ch.base (k : OkM m) {L : R m} (h : L < ww * ww) : Ch m L (ch m 0).1 (ch m 0).2 0 := by
  refine ⟨rfl, rfl, Nat.zero_le _, ?_⟩
  have h1 := (le_iff k _ _).mp (ch_zero m (by have := k.h4; omega) k.h1)
  have h2 : (ww : R m) * ww ≤ pt (show R m from (ch m 0).1) - pt (show R m from (ch m 0).2) := h1
  have := k
  grind
structure ChF (m : Nat) (r f : R m) : Prop where
  r0 : 0 < r
  f0 : 0 < f
  pr : 0 < pt r
  pf : pt f < 0
  det : Z.a r * Z.b f - Z.b r * Z.a f = 1 ∨ Z.a r * Z.b f - Z.b r * Z.a f = -1
  sr : sm r = true
  sf : sm f = true
theorem Ch.facts (k : OkM m) {L r f : R m} {i : Nat} (h : Ch m L r f i) : ChF m r f := by
  have q := ch_all m (by have := k.h4; omega) k.h1 i (by have := h.le; have := k.h4; omega) h.le
  unfold chOk at q
  simp only [Bool.and_eq_true, Bool.or_eq_true, decide_eq_true_eq] at q
  obtain ⟨⟨⟨⟨⟨⟨q1, q2⟩, q3⟩, q4⟩, q5⟩, q6⟩, q7⟩ := q
  have er := h.er
  have ef := h.ef
  subst er ef
  exact ⟨(lt_iff k _ _).mp q1, (lt_iff k _ _).mp q2, (lt_iff k _ _).mp q3, (lt_iff k _ _).mp q4, q5, q6, q7⟩
theorem Ch.go (k : OkM m) {L r f : R m} {i : Nat} (h : Ch m L r f i) (l1 : 1 ≤ L) (c : ¬ pt r < L ∨ ¬ -L < pt f) : i < 2 * m + 1 := by
  have := h.le
  by_cases e : i = 2 * m + 1
  · exfalso
    subst e
    have q := ch_last m (by have := k.h4; omega) k.h1
    have h1 := (lt_iff k _ _).mp q.1
    have h2 := (lt_iff k _ _).mp q.2
    have er := h.er
    have ef := h.ef
    subst er ef
    have h1' : pt (show R m from (ch m (2 * m + 1)).1) < 1 := h1
    have h2' : (-1 : R m) < pt (show R m from (ch m (2 * m + 1)).2) := h2
    grind
  · omega
theorem Ch.up (k : OkM m) {L r f : R m} {i : Nat} (h : Ch m L r f i) (l1 : 1 ≤ L) (c : ¬ pt r < L ∨ ¬ -L < pt f) (p : 0 < pt (r + f)) : Ch m L (r + f) f (i + 1) := by
  have hg := h.go k l1 c
  have F := h.facts k
  have pr := F.pr
  have pf := F.pf
  have p' : Kzv1.lt m ⟨0, 0⟩ (Kzv1.partner m (Kzv1.add (ch m i).1 (ch m i).2)) = true := by
    rw [lt_iff k]
    have er := h.er
    have ef := h.ef
    subst er ef
    exact p
  rw [pt_add] at p
  refine ⟨?_, ?_, by omega, ?_⟩
  · show _ = (ch m (i + 1)).1
    unfold ch
    rw [if_pos p', h.er, h.ef]
    rfl
  · show _ = (ch m (i + 1)).2
    unfold ch
    rw [if_pos p', h.ef]
  · rw [pt_add]
    grind
theorem Ch.down (k : OkM m) {L r f : R m} {i : Nat} (h : Ch m L r f i) (l1 : 1 ≤ L) (c : ¬ pt r < L ∨ ¬ -L < pt f) (p : ¬ 0 < pt (r + f)) : Ch m L r (r + f) (i + 1) := by
  have hg := h.go k l1 c
  have F := h.facts k
  have pr := F.pr
  have pf := F.pf
  have p' : ¬ Kzv1.lt m ⟨0, 0⟩ (Kzv1.partner m (Kzv1.add (ch m i).1 (ch m i).2)) = true := by
    rw [lt_iff k]
    have er := h.er
    have ef := h.ef
    subst er ef
    exact p
  rw [pt_add] at p
  refine ⟨?_, ?_, by omega, ?_⟩
  · show _ = (ch m (i + 1)).1
    unfold ch
    rw [if_neg p', h.er]
  · show _ = (ch m (i + 1)).2
    unfold ch
    rw [if_neg p', h.er, h.ef]
    rfl
  · rw [pt_add]
    grind
theorem Ch.fin (k : OkM m) {L r f : R m} {i : Nat} (h : Ch m L r f i) (h1 : pt r < L) (h2 : -L < pt f) : RF m L r f :=
  let F := h.facts k
  ⟨F.r0, F.f0, F.pr, F.pf, h1, h2, h.ap, F.det⟩
/-! ### which part a point lies in -/
theorem mem_mk (k : OkM m) {u v r f : R m} (d : PD m) : d ∈ mkParts m u v r f ↔ d = ⟨r, u, v - pt r⟩ ∨ d = ⟨f, u - pt f, v⟩ ∨ (v - pt r < u - pt f ∧ d = ⟨r + f, v - pt r, u - pt f⟩) := by
  unfold mkParts
  rw [List.mem_append]
  have e1 : d ∈ (if Kzv1.lt m r f = true then [⟨r, u, v - pt r⟩, ⟨f, u - pt f, v⟩] else [⟨f, u - pt f, v⟩, ⟨r, u, v - pt r⟩] : List (PD m)) ↔ d = ⟨r, u, v - pt r⟩ ∨ d = ⟨f, u - pt f, v⟩ := by
    split
    · simp
    · simp [or_comm]
  have e2 : d ∈ (if Kzv1.lt m (v - pt r) (u - pt f) = true then [⟨r + f, v - pt r, u - pt f⟩] else [] : List (PD m)) ↔ (v - pt r < u - pt f ∧ d = ⟨r + f, v - pt r, u - pt f⟩) := by
    by_cases q : v - pt r < u - pt f
    · rw [if_pos (ltT k q)]
      simp [q]
    · rw [if_neg (by rw [ltF k q]; decide)]
      simp [q]
  rw [e1, e2, or_assoc]
theorem parts_nx [k : OkM m] {u v r f c : R m} (h : RF m (v - u) r f) {d : PD m} (hd : d ∈ mkParts m u v r f) (h1 : d.lo ≤ c) (h2 : c < d.hi) : Nx m u v (pt c) d.s ∧ u ≤ c ∧ c < v := by
  have hpr := h.pr
  have hpf := h.pf
  have hap := h.ap
  have hrL := h.rL
  have hfL := h.fL
  rcases (mem_mk k d).mp hd with e | e | ⟨q, e⟩
  · subst e
    exact ⟨h.nxR (by rw [pt_pt]; exact h1) (by rw [pt_pt]; exact h2), h1, by have : c < v - pt r := h2; grind⟩
  · subst e
    exact ⟨h.nxF (by rw [pt_pt]; exact h1) (by rw [pt_pt]; exact h2), by have : u - pt f ≤ c := h1; grind, h2⟩
  · subst e
    have h1' : v - pt r ≤ c := h1
    have h2' : c < u - pt f := h2
    exact ⟨h.nxS (by rw [pt_pt]; exact h1) (by rw [pt_pt]; exact h2), by grind, by grind⟩
theorem parts_lt [k : OkM m] {u v r f : R m} (h : RF m (v - u) r f) {d : PD m} (hd : d ∈ mkParts m u v r f) : d.lo < d.hi := by
  have hpr := h.pr
  have hpf := h.pf
  have hrL := h.rL
  have hfL := h.fL
  rcases (mem_mk k d).mp hd with e | e | ⟨q, e⟩
  · subst e
    show u < v - pt r
    grind
  · subst e
    show u - pt f < v
    grind
  · subst e
    exact q
theorem parts_ex [k : OkM m] {u v r f c : R m} (h : RF m (v - u) r f) (h1 : u ≤ c) (h2 : c < v) : ∃ d ∈ mkParts m u v r f, d.lo ≤ c ∧ c < d.hi := by
  by_cases q1 : c < v - pt r
  · exact ⟨_, (mem_mk k _).mpr (.inl rfl), h1, q1⟩
  · by_cases q2 : u - pt f ≤ c
    · exact ⟨_, (mem_mk k _).mpr (.inr (.inl rfl)), q2, h2⟩
    · have q3 : v - pt r < u - pt f := by grind
      exact ⟨⟨r + f, v - pt r, u - pt f⟩, (mem_mk k _).mpr (.inr (.inr ⟨q3, rfl⟩)), by show v - pt r ≤ c; grind, by show c < u - pt f; grind⟩
/-- lies within -/
def within (c a b : R m) : Bool := (!Kzv1.lt m c a) && Kzv1.lt m c b
theorem within_iff (k : OkM m) (c a b : R m) : within c a b = true ↔ a ≤ c ∧ c < b := by
  unfold within
  rw [Bool.and_eq_true, Bool.not_eq_true', ← Bool.not_eq_true]
  have e1 : Kzv1.lt m c a = true ↔ c < a := lt_iff k c a
  have e2 : Kzv1.lt m c b = true ↔ c < b := lt_iff k c b
  constructor
  · intro h
    have h1 : ¬ c < a := fun q => h.1 (e1.mpr q)
    have h2 : c < b := e2.mp h.2
    grind
  · intro h
    refine ⟨fun q => ?_, e2.mpr h.2⟩
    have := e1.mp q
    grind
/-- the first part that a point's partner lies in has the step to the next point -/
theorem pick [k : OkM m] {u v r f z : R m} (h : RF m (v - u) r f) (hz : Pt u v z) : ∃ d l, (mkParts m u v r f).filter (fun d => within (pt z) d.lo d.hi) = d :: l ∧ d ∈ mkParts m u v r f ∧ Nx m u v z d.s := by
  obtain ⟨d, hd, h1, h2⟩ := parts_ex h hz.1 hz.2
  have hm : d ∈ (mkParts m u v r f).filter (fun d => within (pt z) d.lo d.hi) := List.mem_filter.mpr ⟨hd, (within_iff k _ _ _).mpr ⟨h1, h2⟩⟩
  cases e : (mkParts m u v r f).filter (fun d => within (pt z) d.lo d.hi) with
  | nil => rw [e] at hm; cases hm
  | cons y l =>
    have hy : y ∈ (mkParts m u v r f).filter (fun d => within (pt z) d.lo d.hi) := by rw [e]; simp
    rw [List.mem_filter] at hy
    have q := (within_iff k _ _ _).mp hy.2
    have n := (parts_nx h hy.1 q.1 q.2).1
    rw [pt_pt] at n
    exact ⟨y, l, rfl, hy.1, n⟩
end Ml
namespace Ml
open Kzv1 (Z)
open Kzv2 (Win steps step stepBack mayStep insertZ common without moved partsOn parts)
variable {m : Nat}
/-! ### all pieces: ways that grow step by step -/
structure WD (m : Nat) where
  row : List (R m)
  gone : R m
  lo : R m
  hi : R m
def onBy (y : WD m) (d : PD m) : Option (WD m) :=
  if Kzv1.lt m (mx y.lo d.lo) (mn y.hi d.hi) = true then some ⟨y.row ++ [d.s], y.gone + d.s, mx y.lo d.lo + pt d.s, mn y.hi d.hi + pt d.s⟩ else none
def waysOn (ds : List (PD m)) (y : WD m) : List (WD m) := ds.filterMap (onBy y)
def rows (ds : List (PD m)) (goal : R m) : Nat → WD m → List (List (R m))
  | 0, y => [y.row]
  | k + 1, y => if y.gone = goal then [y.row] else (waysOn ds y).flatMap (rows ds goal k)
def size (ds : List (PD m)) (goal : R m) : Nat → WD m → Nat
  | 0, _ => 1
  | k + 1, y => if y.gone = goal then 1 else 1 + ((waysOn ds y).map (size ds goal k)).sum
def Good (ds : List (PD m)) (goal : R m) : Nat → WD m → Prop
  | 0, y => y.gone = goal
  | k + 1, y => y.gone = goal ∨ ∀ y' ∈ waysOn ds y, Good ds goal k y'
theorem flatMap_same {α β : Type} {f g : α → List β} : ∀ {l : List α}, (∀ x ∈ l, f x = g x) → l.flatMap f = l.flatMap g
  | [], _ => rfl
  | x :: l, h => by
    rw [List.flatMap_cons, List.flatMap_cons, h x (by simp), flatMap_same fun y hy => h y (by simp [hy])]
theorem map_same {α β : Type} {f g : α → β} {l : List α} (h : ∀ x ∈ l, f x = g x) : l.map f = l.map g := List.map_congr_left h
theorem Good.more {ds : List (PD m)} {goal : R m} : ∀ {k : Nat} {y : WD m}, Good ds goal k y → Good ds goal (k + 1) y ∧ rows ds goal (k + 1) y = rows ds goal k y ∧ size ds goal (k + 1) y = size ds goal k y
  | 0, y, h => by
    have e : y.gone = goal := h
    refine ⟨.inl e, ?_, ?_⟩
    · unfold rows; rw [if_pos e]
    · unfold size; rw [if_pos e]
  | k + 1, y, h => by
    rcases h with e | h
    · refine ⟨.inl e, ?_, ?_⟩
      · unfold rows; rw [if_pos e, if_pos e]
      · unfold size; rw [if_pos e, if_pos e]
    · refine ⟨.inr fun y' hy => (Good.more (h y' hy)).1, ?_, ?_⟩
      · rw [rows, rows.eq_2 ds goal y k]
        rw [flatMap_same fun y' hy => (Good.more (h y' hy)).2.1]
      · rw [size, size.eq_2 ds goal y k]
        rw [map_same fun y' hy => (Good.more (h y' hy)).2.2]
/-- a way that is not there yet goes on by its ways on -/
theorem Good.on {ds : List (PD m)} {goal : R m} {k : Nat} {y : WD m} (h : Good ds goal (k + 1) y) (e : ¬ y.gone = goal) : (∀ y' ∈ waysOn ds y, Good ds goal (k + 1) y') ∧ rows ds goal (k + 1) y = (waysOn ds y).flatMap (rows ds goal (k + 1)) ∧ size ds goal (k + 1) y = 1 + ((waysOn ds y).map (size ds goal (k + 1))).sum := by
  rcases h with q | h
  · exact absurd q e
  · refine ⟨fun y' hy => (h y' hy).more.1, ?_, ?_⟩
    · conv => lhs; unfold rows
      rw [if_neg e]
      exact flatMap_same fun y' hy => (h y' hy).more.2.1.symm
    · conv => lhs; unfold size
      rw [if_neg e, map_same fun y' hy => (h y' hy).more.2.2.symm]
/-- wherever the way leads through there are steps left to the goal, so many at most -/
structure Iv (u v total : R m) (k : Nat) (y : WD m) : Prop where
  lt : y.lo < y.hi
  path : ∀ c : R m, y.lo ≤ c → c < y.hi → ∃ L : List (R m), Path u v (pt c) L (pt c + (total - y.gone)) ∧ L.length ≤ k
theorem mem_on {ds : List (PD m)} {y y' : WD m} (k : OkM m) (h : y' ∈ waysOn ds y) : ∃ d ∈ ds, mx y.lo d.lo < mn y.hi d.hi ∧ y' = ⟨y.row ++ [d.s], y.gone + d.s, mx y.lo d.lo + pt d.s, mn y.hi d.hi + pt d.s⟩ := by
  unfold waysOn at h
  rw [List.mem_filterMap] at h
  obtain ⟨d, hd, e⟩ := h
  unfold onBy at e
  split at e
  · rename_i q
    exact ⟨d, hd, (lt_iff k _ _).mp q, (Option.some.inj e).symm⟩
  · cases e
theorem Path.nil_eq {u v z y : R m} (h : Path u v z [] y) : z = y := by
  generalize e : ([] : List (R m)) = l at h
  cases h with
  | nil => rfl
  | cons a b => cases e
theorem growOn_succ (x : Win) (total : Z) (k : Nat) (l : List Z) (d : Z) (p : Win) : Kzv4.growOn m x total (k + 1) l d p = if Kzv1.lt m d total = true then (parts m x).flatMap fun y => match common m p (moved y.2 (Kzv1.neg (Kzv1.partner m d))) with
      | some q => Kzv4.growOn m x total k (l ++ [y.1]) (Kzv1.add d y.1) q
      | none => []
    else [(l, p)] := by
  have h := Kzv4.growOn.eq_def m x total (k + 1) l d p
  dsimp only at h
  rw [h]
  by_cases c : Kzv1.lt m d total = true
  · rw [if_pos c, if_pos c]
    refine congrArg (fun f => List.flatMap f (parts m x)) (funext fun y => ?_)
    generalize common m p (moved y.2 (Kzv1.neg (Kzv1.partner m d))) = o
    cases o <;> rfl
  · rw [if_neg c, if_neg c]
theorem Iv.on [k : OkM m] {u v r f total : R m} (h : RF m (v - u) r f) {n : Nat} {y : WD m} (I : Iv u v total n y) : y.gone = total ∨ (y.gone < total ∧ ∃ n', n = n' + 1 ∧ ∀ d ∈ mkParts m u v r f, mx y.lo d.lo < mn y.hi d.hi → Iv u v total n' ⟨y.row ++ [d.s], y.gone + d.s, mx y.lo d.lo + pt d.s, mn y.hi d.hi + pt d.s⟩) := by
  by_cases e : y.gone = total
  · exact .inl e
  right
  have hl := I.lt
  obtain ⟨L, hp, hL⟩ := I.path y.lo (by grind) hl
  have h1 := hp.le
  refine ⟨by grind, ?_⟩
  have hn : n ≠ 0 := fun q => by
    subst q
    have : L = [] := List.eq_nil_of_length_eq_zero (by omega)
    subst this
    have := hp.nil_eq
    grind
  obtain ⟨n', rfl⟩ : ∃ n', n = n' + 1 := ⟨n - 1, by omega⟩
  refine ⟨n', rfl, fun d hd q => ?_⟩
  have x1 := mx_is k y.lo d.lo
  have x2 := mn_is k y.hi d.hi
  refine ⟨by show mx y.lo d.lo + pt d.s < mn y.hi d.hi + pt d.s; grind, fun c h2 h3 => ?_⟩
  have h2' : mx y.lo d.lo + pt d.s ≤ c := h2
  have h3' : c < mn y.hi d.hi + pt d.s := h3
  obtain ⟨L', hp', hL'⟩ := I.path (c - pt d.s) (by grind) (by grind)
  have nn := (parts_nx h hd (c := c - pt d.s) (by grind) (by grind)).1
  have e1 : pt (c - pt d.s) = pt c - d.s := by rw [pt_sub, pt_pt]
  rw [e1] at hp' nn
  cases L' with
  | nil =>
    exfalso
    have := hp'.nil_eq
    grind
  | cons g L' =>
    cases hp' with
    | cons a b =>
      have eg := a.uniq nn
      subst eg
      refine ⟨L', ?_, by simp only [List.length_cons] at hL'; omega⟩
      rw [show pt c - d.s + d.s = pt c by grind] at b
      show Path u v (pt c) L' (pt c + (total - (y.gone + d.s)))
      rw [show pt c + (total - (y.gone + d.s)) = pt c - d.s + (total - y.gone) by grind]
      exact b
theorem Iv.good [k : OkM m] {u v r f total : R m} (h : RF m (v - u) r f) : ∀ {n : Nat} {y : WD m}, Iv u v total n y → Good (mkParts m u v r f) total n y
  | 0, y, I => by
    rcases I.on h with e | ⟨_, n', e, _⟩
    · exact e
    · cases e
  | n + 1, y, I => by
    rcases I.on h with e | ⟨_, n', e, q⟩
    · exact .inl e
    · obtain rfl : n = n' := by omega
      refine .inr fun y' hy => ?_
      obtain ⟨d, hd, hlt, rfl⟩ := mem_on k hy
      exact Iv.good h (q d hd hlt)
theorem mx_shift (k : OkM m) (a c t : R m) : mx (a + t) c = mx a (c - t) + t := by
  have := mx_is k (a + t) c
  have := mx_is k a (c - t)
  grind
theorem mn_shift (k : OkM m) (a c t : R m) : mn (a + t) c = mn a (c - t) + t := by
  have := mn_is k (a + t) c
  have := mn_is k a (c - t)
  grind
theorem flatMap_filterMap {α β γ : Type} (f : α → Option β) (g : β → List γ) : ∀ l : List α, (l.filterMap f).flatMap g = l.flatMap fun x => match f x with
    | some y => g y
    | none => []
  | [] => rfl
  | x :: l => by
    rw [List.flatMap_cons, ← flatMap_filterMap f g l, List.filterMap_cons]
    cases f x with
    | none => rfl
    | some y => rw [List.flatMap_cons]
/-- the specification's rows are these -/
theorem grow_is [k : OkM m] {u v r f total : R m} (W : Wn m u v) (h : RF m (v - u) r f) : ∀ (n : Nat) (y : WD m) (a b : R m), y.lo = a + pt y.gone → y.hi = b + pt y.gone → Iv u v total n y →
    (Kzv4.growOn m (wn u v) total n y.row y.gone (wn a b)).map Prod.fst = rows (mkParts m u v r f) total n y
  | 0, y, a, b, e1, e2, I => rfl
  | n + 1, y, a, b, e1, e2, I => by
    rcases I.on h with e | ⟨q, n', en, hI⟩
    · refine (congrArg (List.map Prod.fst) (growOn_succ (m := m) (wn u v) total n y.row y.gone (wn a b))).trans ?_
      unfold rows
      have ne : ¬ Kzv1.lt m y.gone total = true := by
        rw [ltF k (by grind)]
        decide
      rw [if_neg ne, if_pos e]
      rfl
    · obtain rfl : n = n' := by omega
      have ne : ¬ y.gone = total := by grind
      refine (congrArg (List.map Prod.fst) (growOn_succ (m := m) (wn u v) total n y.row y.gone (wn a b))).trans ?_
      unfold rows
      rw [if_pos (ltT k q), if_neg ne, parts_is k W h, List.flatMap_map, List.map_flatMap]
      unfold waysOn
      rw [flatMap_filterMap]
      refine flatMap_same fun d hd => ?_
      have em : moved (wn d.lo d.hi) (Kzv1.neg (Kzv1.partner m y.gone)) = wn (d.lo - pt y.gone) (d.hi - pt y.gone) := moved_wn _ _ _
      dsimp only
      rw [em, common_form]
      unfold onBy
      have s1 := mx_shift k a d.lo (pt y.gone)
      have s2 := mn_shift k b d.hi (pt y.gone)
      rw [← e1] at s1
      rw [← e2] at s2
      by_cases c : mx y.lo d.lo < mn y.hi d.hi
      · have c' : mx a (d.lo - pt y.gone) < mn b (d.hi - pt y.gone) := by grind
        rw [if_pos (ltT k c'), if_pos (ltT k c)]
        dsimp only
        exact grow_is W h n ⟨y.row ++ [d.s], y.gone + d.s, mx y.lo d.lo + pt d.s, mn y.hi d.hi + pt d.s⟩ _ _ (by show mx y.lo d.lo + pt d.s = mx a (d.lo - pt y.gone) + pt (y.gone + d.s); rw [s1, pt_add]; grind)
          (by show mn y.hi d.hi + pt d.s = mn b (d.hi - pt y.gone) + pt (y.gone + d.s); rw [s2, pt_add]; grind) (hI d hd c)
      · have c' : ¬ mx a (d.lo - pt y.gone) < mn b (d.hi - pt y.gone) := by grind
        rw [if_neg (by rw [ltF k c']; decide), if_neg (by rw [ltF k c]; decide)]
        rfl
/-- the way from which all rows of a part grow -/
def way0 (d : PD m) : WD m := ⟨[], 0, wi * d.lo, wi * d.hi⟩
theorem pt_wi [k : OkM m] : pt (wi : R m) = ww * ww := by
  rw [← pt_ww2, pt_pt]
theorem way0_iv [k : OkM m] {u v r f : R m} (W : Wn m u v) (K : Kp u v) (h : RF m (v - u) r f) {d : PD m} (hd : d ∈ mkParts m u v r f) : Iv u v (ww * ww * d.s) 200 (way0 d) := by
  have w0 := wi_pos (m := m)
  have hl := parts_lt h hd
  have hlo := w_lo (m := m)
  have hm := m_pos (m := m)
  have w2 := mul_pos' (x := (ww : R m)) (y := ww) (by grind) (by grind)
  have wm := wi_mul (m := m)
  refine ⟨?_, fun c h1 h2 => ?_⟩
  · show wi * d.lo < wi * d.hi
    have := mul_pos' (x := wi) (y := d.hi - d.lo) w0 (by grind)
    grind
  · have h1' : wi * d.lo ≤ c := h1
    have h2' : c < wi * d.hi := h2
    have g1 : d.lo ≤ ww * ww * c := by
      have := mul_nn (x := ww * ww) (y := c - wi * d.lo) (by grind) (by grind)
      have e : ww * ww * (c - wi * d.lo) = ww * ww * c - (wi * (ww * ww)) * d.lo := by grind
      rw [e, wm] at this
      grind
    have g2 : ww * ww * c < d.hi := by
      have := mul_pos' (x := ww * ww) (y := wi * d.hi - c) (by grind) (by grind)
      have e : ww * ww * (wi * d.hi - c) = (wi * (ww * ww)) * d.hi - ww * ww * c := by grind
      rw [e, wm] at this
      grind
    obtain ⟨N, p1, p2⟩ := parts_nx h hd g1 g2
    have P : Pt u v (pt (ww * ww * c)) := by unfold Pt; rw [pt_pt]; exact ⟨p1, p2⟩
    have ez : ww * ww * pt (ww * ww * c) = pt c := by
      rw [pt_mul, pt_ww2]
      have e : ww * ww * (wi * pt c) = (wi * (ww * ww)) * pt c := by grind
      rw [e, wm]
      grind
    have okw : Kzv2.okWin m (wn u v) = true := (wn_iff k _).mpr W
    have okp : Kzv2.isPoint m (wn u v) (pt (ww * ww * c)) = true := (pt_iff k _ _).mpr P
    have okk : Kzv4.keeps m (wn u v) = true := (kp_iff k _).mpr K
    obtain ⟨g, N', hp⟩ := piece_path k okw okp okk
    have eg : d.s = g := N.uniq N'
    subst eg
    have hp' : Path u v (ww * ww * pt (ww * ww * c)) (Kzv4.piece m (wn u v) (pt (ww * ww * c))) (ww * ww * (pt (ww * ww * c) + d.s)) := hp
    have sh := Path.short (b := ww * ww * pt (ww * ww * c) + ww * ww * d.s) W P N hp' (K.pt P) rfl (by grind)
    have e2 : ww * ww * (pt (ww * ww * c) + d.s) = pt c + ww * ww * d.s := by
      have : ww * ww * (pt (ww * ww * c) + d.s) = ww * ww * pt (ww * ww * c) + ww * ww * d.s := by grind
      rw [this, ez]
    rw [e2, ez] at hp'
    refine ⟨_, ?_, Nat.le_of_lt sh⟩
    show Path u v (pt c) _ (pt c + (ww * ww * d.s - 0))
    rw [show ww * ww * d.s - 0 = ww * ww * d.s by grind]
    exact hp'
theorem two_maps (a : Z) (l : List (List Z × Win)) : (l.map fun r => (a, r.1, r.2)).map (fun y => (y.1, y.2.1)) = (l.map Prod.fst).map fun l => (a, l) := by
  rw [List.map_map, List.map_map]
  rfl
/-- all pieces -/
theorem pieces_are [k : OkM m] {u v r f : R m} (W : Wn m u v) (K : Kp u v) (h : RF m (v - u) r f) : (Kzv4.pieces m (wn u v)).map (fun y => (y.1, y.2.1)) = (mkParts m u v r f).flatMap fun d => (show List (List Z) from rows (mkParts m u v r f) (ww * ww * d.s) 200 (way0 d)).map fun l => ((show Z from d.s), l) := by
  unfold Kzv4.pieces Kzv4.tiles
  rw [parts_is k W h, List.flatMap_map, List.map_flatMap]
  refine flatMap_same fun d hd => ?_
  have G := grow_is (total := ww * ww * d.s) W h 200 (way0 d) (wi * d.lo) (wi * d.hi) (by show wi * d.lo = wi * d.lo + pt (0 : R m); rw [pt_zero]; grind) (by show wi * d.hi = wi * d.hi + pt (0 : R m); rw [pt_zero]; grind) (way0_iv W K h hd)
  refine (two_maps _ _).trans ?_
  have e1 : Kzv4.small m d.lo = wi * d.lo := small_ring d.lo
  have e2 : Kzv4.small m d.hi = wi * d.hi := small_ring d.hi
  have e3 : Kzv4.large m d.s = ww * ww * d.s := large_ring d.s
  have e4 : Kzv4.growOn m (wn u v) (Kzv4.large m d.s) 200 [] Kzv1.zero ⟨Kzv4.small m d.lo, Kzv4.small m d.hi⟩ = Kzv4.growOn m (wn u v) (ww * ww * d.s) 200 (way0 d).row (way0 d).gone (wn (wi * d.lo) (wi * d.hi)) := by
    rw [e1, e2, e3]
    rfl
  exact congrArg (List.map fun l => ((show Z from d.s), l)) ((congrArg (List.map Prod.fst) e4).trans G)
end Ml
namespace Ml
open Kzv1 (Z)
open Kzv2 (Win)
/-! ### piece and pieces, as they are handed over -/
def piece (m : Int) (xs zs : List Int) : List Int := if refusal m xs zs = 0 then (match xs, zs with
  | [a, b, c, d], [e, f] => (((Kzv4.piece m.toNat ⟨⟨a, b⟩, ⟨c, d⟩⟩ ⟨e, f⟩).length : Nat) : Int) :: Kzv2.written (Kzv4.piece m.toNat ⟨⟨a, b⟩, ⟨c, d⟩⟩ ⟨e, f⟩)
  | _, _ => []) else [refusal m xs zs]
theorem piece_0 {m : Int} {a b c d e f : Int} (hr : refusal m [a, b, c, d] [e, f] = 0) : piece m [a, b, c, d] [e, f] = (((Kzv4.piece m.toNat ⟨⟨a, b⟩, ⟨c, d⟩⟩ ⟨e, f⟩).length : Nat) : Int) :: Kzv2.written (Kzv4.piece m.toNat ⟨⟨a, b⟩, ⟨c, d⟩⟩ ⟨e, f⟩) := by
  unfold piece
  rw [if_pos hr]
theorem piece_is {m : Int} (h0 : 0 ≤ m) (xs zs : List Int) : PyKzv4.piece m xs zs = piece m xs zs := by
  show (Kzv4.answer (.piece m.toNat xs zs)).value :: (Kzv4.answer (.piece m.toNat xs zs)).nums = _
  unfold Kzv4.answer
  dsimp only
  by_cases hr : refusal m xs zs = 0
  · obtain ⟨a, b, c, d, e, f, rfl, rfl⟩ := refusal_lists hr
    rw [withK_yes hr, piece_0 hr]
  · rw [withK_no h0 hr]
    unfold piece
    rw [if_neg hr]
/-- what the refusals leave: -/
theorem win_wn {n : Nat} (k : OkM n) {a b c d : Int} (hw : isWin n [a, b, c, d] = true) : Wn n (show R n from ⟨a, b⟩) (show R n from ⟨c, d⟩) := by
  refine (wn_iff k ⟨⟨a, b⟩, ⟨c, d⟩⟩).mp ?_
  rw [okWin_eq k.h1 k.h4]
  unfold isWin at hw
  simp only [Bool.and_eq_true] at hw
  exact hw.2
theorem keeps_kp {n : Nat} (k : OkM n) {a b c d : Int} (hk : keepsB n a b c d = true) : Kp (show R n from ⟨a, b⟩) (show R n from ⟨c, d⟩) := by
  refine (kp_iff k ⟨⟨a, b⟩, ⟨c, d⟩⟩).mp ?_
  rw [keeps_eq k.h1 k.h4]
  exact hk
theorem point_pt {n : Nat} (k : OkM n) {a b c d e f : Int} (hp : pointB n [a, b, c, d] [e, f] = true) : Pt (show R n from ⟨a, b⟩) (show R n from ⟨c, d⟩) (show R n from ⟨e, f⟩) := by
  refine (pt_iff k ⟨⟨a, b⟩, ⟨c, d⟩⟩ ⟨e, f⟩).mp ?_
  rw [isPoint_eq k.h1 k.h4]
  exact hp
/-- the specification's piece, as the way from point to point -/
theorem piece_way {n : Nat} (k : OkM n) {a b c d e f : Int} (hr : refusal n [a, b, c, d] [e, f] = 0) :
    ∃ g : R n, Nx n (show R n from ⟨a, b⟩) (show R n from ⟨c, d⟩) (show R n from ⟨e, f⟩) g ∧
      Path (show R n from ⟨a, b⟩) (show R n from ⟨c, d⟩) (ww * ww * (show R n from ⟨e, f⟩)) (Kzv4.piece n ⟨⟨a, b⟩, ⟨c, d⟩⟩ ⟨e, f⟩) (ww * ww * ((show R n from ⟨e, f⟩) + g)) ∧ (Kzv4.piece n ⟨⟨a, b⟩, ⟨c, d⟩⟩ ⟨e, f⟩).length < 200 := by
  obtain ⟨hw, ht, hk, hp⟩ := refusal_0 hr
  have W := win_wn k hw
  have K := keeps_kp k (show keepsB n a b c d = true from hk)
  have P := point_pt k hp
  obtain ⟨g, N, h⟩ := piece_path k ((wn_iff k ⟨⟨a, b⟩, ⟨c, d⟩⟩).mpr W) ((pt_iff k ⟨⟨a, b⟩, ⟨c, d⟩⟩ ⟨e, f⟩).mpr P) ((kp_iff k ⟨⟨a, b⟩, ⟨c, d⟩⟩).mpr K)
  refine ⟨g, N, h, ?_⟩
  refine Path.short (b := ww * ww * (show R n from ⟨e, f⟩) + ww * ww * g) W P N h (K.pt P) rfl ?_
  have := k
  show ww * ww * ((show R n from ⟨e, f⟩) + g) ≤ ww * ww * (show R n from ⟨e, f⟩) + ww * ww * g
  grind
theorem written_len : ∀ l : List Z, (Kzv2.written l).length = 2 * l.length
  | [] => rfl
  | x :: l => by
    have := written_len l
    unfold Kzv2.written at *
    rw [List.flatMap_cons, List.length_append, this, List.length_cons]
    simp only [List.length_cons, List.length_nil]
    omega
theorem written_app (l r : List Z) : Kzv2.written (l ++ r) = Kzv2.written l ++ Kzv2.written r := by
  unfold Kzv2.written
  rw [List.flatMap_append]
theorem Path.end_nil {m : Nat} [OkM m] {u v x : R m} {l : List (R m)} (h : Path u v x l x) : l = [] := h.uniq (Path.nil x)
theorem ch_0 (m : Nat) : Kzv4.small m ⟨1, 0⟩ = (ch m 0).1 := by
  rw [small_eq]
  unfold smallA smallB ch
  dsimp only
  congr 1 <;> omega
theorem pieces_form (l : List (Z × List Z × Win)) : (l.flatMap fun y => Kzv2.written [y.1] ++ ((y.2.1.length : Nat) : Int) :: Kzv2.written y.2.1) = ((l.map fun y => (y.1, y.2.1)).flatMap fun y => Kzv2.written [y.1] ++ ((y.2.length : Nat) : Int) :: Kzv2.written y.2) := by
  rw [List.flatMap_map]
def pieces (m : Int) (xs : List Int) : List Int := if isWin m xs = true then (if keepsL m xs = true then (match xs with
  | [a, b, c, d] => (((Kzv4.pieces m.toNat ⟨⟨a, b⟩, ⟨c, d⟩⟩).length : Nat) : Int) :: (Kzv4.pieces m.toNat ⟨⟨a, b⟩, ⟨c, d⟩⟩).flatMap fun y => Kzv2.written [y.1] ++ ((y.2.1.length : Nat) : Int) :: Kzv2.written y.2.1
  | _ => []) else [-33]) else [-22]
theorem pieces_is {m : Int} (h0 : 0 ≤ m) (xs : List Int) : PyKzv4.pieces m xs = pieces m xs := by
  show (Kzv4.answer (.pieces m.toNat xs)).value :: (Kzv4.answer (.pieces m.toNat xs)).nums = _
  unfold Kzv4.answer pieces
  dsimp only
  cases hw : isWin m xs with
  | false => rw [withX_no h0 hw]; rfl
  | true =>
    obtain ⟨a, b, c, d, rfl⟩ := isWin_4 hw
    obtain ⟨h1, h4⟩ := isWin_m hw
    rw [withX_yes hw, if_pos rfl]
    obtain ⟨n, rfl⟩ : ∃ n : Nat, m = n := ⟨m.toNat, by omega⟩
    rw [Int.toNat_natCast]
    rw [keeps_eq (by omega) (by omega)]
    have e : keepsL n [a, b, c, d] = keepsB n a b c d := rfl
    rw [e]
    cases hk : keepsB n a b c d with
    | false => rfl
    | true =>
      rw [if_neg (by decide), if_pos rfl]
end Ml
namespace Ml
open Kzv1 (Z)
variable {m : Nat}
/-! ### how many pieces there are at most -/
/-- from where a step leads to a place in the window -/
def bk (u v r f c : R m) : R m := if Kzv1.lt m c (u + pt r) = true then (if Kzv1.lt m c (v + pt f) = true then c - pt f else c - pt r - pt f) else c - pt r
theorem bk_of [k : OkM m] {u v r f c : R m} (h : RF m (v - u) r f) {d : PD m} (hd : d ∈ mkParts m u v r f) (h1 : d.lo ≤ c) (h2 : c < d.hi) : bk u v r f (c + pt d.s) = c := by
  have hpr := h.pr
  have hpf := h.pf
  have hap := h.ap
  unfold bk
  rcases (mem_mk k d).mp hd with e | e | ⟨q, e⟩
  · subst e
    have h1' : u ≤ c := h1
    have h2' : c < v - pt r := h2
    show (if Kzv1.lt m (c + pt r) (u + pt r) = true then _ else _) = c
    rw [if_neg (by rw [ltF k (by grind)]; decide)]
    grind
  · subst e
    have h1' : u - pt f ≤ c := h1
    have h2' : c < v := h2
    show (if Kzv1.lt m (c + pt f) (u + pt r) = true then (if Kzv1.lt m (c + pt f) (v + pt f) = true then (c + pt f) - pt f else _) else _) = c
    rw [if_pos (ltT k (by grind)), if_pos (ltT k (by grind))]
    grind
  · subst e
    have h1' : v - pt r ≤ c := h1
    have h2' : c < u - pt f := h2
    show (if Kzv1.lt m (c + pt (r + f)) (u + pt r) = true then (if Kzv1.lt m (c + pt (r + f)) (v + pt f) = true then _ else (c + pt (r + f)) - pt r - pt f) else _) = c
    rw [pt_add]
    rw [if_pos (ltT k (by grind)), if_neg (by rw [ltF k (by grind)]; decide)]
    grind
def inn (a b o : R m) : Bool := Kzv1.lt m a o && Kzv1.lt m o b
theorem inn_iff (k : OkM m) (a b o : R m) : inn a b o = true ↔ a < o ∧ o < b := by
  unfold inn
  rw [Bool.and_eq_true]
  exact and_congr (lt_iff k a o) (lt_iff k o b)
def cnt (a b : R m) (l : List (R m)) : Nat := l.countP (inn a b)
def orb (u v r f : R m) : Nat → List (R m)
  | 0 => []
  | n + 1 => [v - pt r, u - pt f] ++ (orb u v r f n).map (bk u v r f)
theorem orb_len (u v r f : R m) : ∀ n, (orb u v r f n).length = 2 * n
  | 0 => rfl
  | n + 1 => by
    unfold orb
    rw [List.length_append, List.length_map, orb_len u v r f n]
    simp only [List.length_cons, List.length_nil]
    omega
theorem cnt_cons (a b x : R m) (l : List (R m)) : cnt a b (x :: l) = cnt a b l + if inn a b x = true then 1 else 0 := by
  unfold cnt
  rw [List.countP_cons]
theorem cnt_split [k : OkM m] {a b c d : R m} (h1 : a ≤ b) (h2 : b ≤ c) (h3 : c ≤ d) : ∀ l : List (R m), cnt a b l + cnt b c l + cnt c d l ≤ cnt a d l
  | [] => Nat.le_refl _
  | x :: l => by
    have ih := cnt_split h1 h2 h3 l
    rw [cnt_cons, cnt_cons, cnt_cons, cnt_cons]
    have q : (if inn a b x = true then 1 else 0) + (if inn b c x = true then 1 else 0) + (if inn c d x = true then 1 else 0) ≤ (if inn a d x = true then 1 else 0) := by
      have e1 := inn_iff k a b x
      have e2 := inn_iff k b c x
      have e3 := inn_iff k c d x
      have e4 := inn_iff k a d x
      by_cases c1 : inn a b x = true
      · have p := e1.mp c1
        rw [if_pos c1, if_neg (fun z => by have := e2.mp z; grind), if_neg (fun z => by have := e3.mp z; grind), if_pos (e4.mpr (by grind))]
        decide
      · rw [if_neg c1]
        by_cases c2 : inn b c x = true
        · have p := e2.mp c2
          rw [if_pos c2, if_neg (fun z => by have := e3.mp z; grind), if_pos (e4.mpr (by grind))]
          decide
        · rw [if_neg c2]
          by_cases c3 : inn c d x = true
          · have p := e3.mp c3
            rw [if_pos c3, if_pos (e4.mpr (by grind))]
            decide
          · rw [if_neg c3]
            omega
    omega
theorem cnt_mono [k : OkM m] {a b c d : R m} (h1 : c ≤ a) (h2 : b ≤ d) : ∀ l : List (R m), cnt a b l ≤ cnt c d l
  | [] => Nat.le_refl _
  | x :: l => by
    have ih := cnt_mono h1 h2 l
    rw [cnt_cons, cnt_cons]
    by_cases c1 : inn a b x = true
    · have p := (inn_iff k _ _ _).mp c1
      rw [if_pos c1, if_pos ((inn_iff k c d x).mpr (by grind))]
      omega
    · rw [if_neg c1]
      omega
theorem cnt_le (a b : R m) (l : List (R m)) : cnt a b l ≤ l.length := List.countP_le_length
/-- what a part of a row counts for -/
def wt (lo hi : R m) (M : List (R m)) (d : PD m) : Nat := if Kzv1.lt m (mx lo d.lo) (mn hi d.hi) = true then 1 + cnt (mx lo d.lo) (mn hi d.hi) M else 0
theorem wt_le [k : OkM m] {lo hi a b : R m} (M : List (R m)) (s : R m) : wt lo hi M ⟨s, a, b⟩ ≤ (if Kzv1.lt m (mx lo a) (mn hi b) = true then 1 else 0) + cnt (mx lo a) (mn hi b) M := by
  unfold wt
  dsimp only
  split <;> omega
theorem part_sum [k : OkM m] {u v r f lo hi : R m} (h : RF m (v - u) r f) (h1 : u ≤ lo) (h2 : hi ≤ v) (h3 : lo < hi) (M : List (R m)) : ((mkParts m u v r f).map (wt lo hi M)).sum ≤ 1 + cnt lo hi ([v - pt r, u - pt f] ++ M) := by
  have hpr := h.pr
  have hpf := h.pf
  have hap := h.ap
  have hrL := h.rL
  have hfL := h.fL
  generalize hc1 : v - pt r = c1
  generalize hc2 : u - pt f = c2
  have c12 : c1 ≤ c2 := by grind
  have uc : u < c1 := by grind
  have cv : c2 < v := by grind
  have wA := wt_le (lo := lo) (hi := hi) (a := u) (b := c1) M r
  have wB := wt_le (lo := lo) (hi := hi) (a := c2) (b := v) M f
  have wC := wt_le (lo := lo) (hi := hi) (a := c1) (b := c2) M (r + f)
  have xA := mx_is k lo u
  have nA := mn_is k hi c1
  have xB := mx_is k lo c2
  have nB := mn_is k hi v
  have xC := mx_is k lo c1
  have nC := mn_is k hi c2
  -- the sum of all three
  have key : wt lo hi M ⟨r, u, c1⟩ + wt lo hi M ⟨f, c2, v⟩ + wt lo hi M ⟨r + f, c1, c2⟩ ≤ 1 + cnt lo hi ([c1, c2] ++ M) := by
    have ec : cnt lo hi ([c1, c2] ++ M) = cnt lo hi M + (if inn lo hi c2 = true then 1 else 0) + (if inn lo hi c1 = true then 1 else 0) := by
      show cnt lo hi (c1 :: c2 :: M) = _
      rw [cnt_cons, cnt_cons]
    have i1 := inn_iff k lo hi c1
    have i2 := inn_iff k lo hi c2
    -- where the row is cut
    have b1 : ∃ p, lo ≤ p ∧ p ≤ hi ∧ mn hi c1 ≤ p ∧ p ≤ mx lo c1 ∧ (p = lo ∨ p = hi ∨ p = c1) := by
      by_cases q1 : c1 ≤ lo
      · exact ⟨lo, by grind, by grind, by grind, by grind, by grind⟩
      · by_cases q2 : hi ≤ c1
        · exact ⟨hi, by grind, by grind, by grind, by grind, by grind⟩
        · exact ⟨c1, by grind, by grind, by grind, by grind, by grind⟩
    have b2 : ∃ p, lo ≤ p ∧ p ≤ hi ∧ mn hi c2 ≤ p ∧ p ≤ mx lo c2 ∧ (p = lo ∨ p = hi ∨ p = c2) := by
      by_cases q1 : c2 ≤ lo
      · exact ⟨lo, by grind, by grind, by grind, by grind, by grind⟩
      · by_cases q2 : hi ≤ c2
        · exact ⟨hi, by grind, by grind, by grind, by grind, by grind⟩
        · exact ⟨c2, by grind, by grind, by grind, by grind, by grind⟩
    obtain ⟨p, p1, p2, p3, p4, p5⟩ := b1
    obtain ⟨q, q1, q2, q3, q4, q5⟩ := b2
    by_cases hpq : p ≤ q
    · have sp := cnt_split (a := lo) (b := p) (c := q) (d := hi) p1 hpq q2 M
      have m1 := cnt_mono (a := mx lo u) (b := mn hi c1) (c := lo) (d := p) (by grind) (by grind) M
      have m2 := cnt_mono (a := mx lo c1) (b := mn hi c2) (c := p) (d := q) (by grind) (by grind) M
      have m3 := cnt_mono (a := mx lo c2) (b := mn hi v) (c := q) (d := hi) (by grind) (by grind) M
      have tA : Kzv1.lt m (mx lo u) (mn hi c1) = true → lo < c1 := fun z => by
        have : mx lo u < mn hi c1 := (lt_iff k _ _).mp z
        grind
      have tB : Kzv1.lt m (mx lo c2) (mn hi v) = true → c2 < hi := fun z => by
        have : mx lo c2 < mn hi v := (lt_iff k _ _).mp z
        grind
      have tC : Kzv1.lt m (mx lo c1) (mn hi c2) = true → lo < c2 ∧ c1 < hi := fun z => by
        have : mx lo c1 < mn hi c2 := (lt_iff k _ _).mp z
        grind
      have ones : (if Kzv1.lt m (mx lo u) (mn hi c1) = true then 1 else 0) + (if Kzv1.lt m (mx lo c2) (mn hi v) = true then 1 else 0) + (if Kzv1.lt m (mx lo c1) (mn hi c2) = true then 1 else 0) ≤ 1 + (if inn lo hi c2 = true then 1 else 0) + (if inn lo hi c1 = true then 1 else 0) := by
        by_cases y1 : Kzv1.lt m (mx lo u) (mn hi c1) = true
        · have z1 := tA y1
          rw [if_pos y1]
          by_cases y2 : Kzv1.lt m (mx lo c2) (mn hi v) = true
          · have z2 := tB y2
            rw [if_pos y2, if_pos (i2.mpr (by grind)), if_pos (i1.mpr (by grind))]
            split <;> omega
          · rw [if_neg y2]
            by_cases y3 : Kzv1.lt m (mx lo c1) (mn hi c2) = true
            · have z3 := tC y3
              rw [if_pos y3, if_pos (i1.mpr (by grind))]
              omega
            · rw [if_neg y3]
              omega
        · rw [if_neg y1]
          by_cases y2 : Kzv1.lt m (mx lo c2) (mn hi v) = true
          · have z2 := tB y2
            rw [if_pos y2]
            by_cases y3 : Kzv1.lt m (mx lo c1) (mn hi c2) = true
            · have z3 := tC y3
              rw [if_pos y3, if_pos (i2.mpr (by grind))]
              omega
            · rw [if_neg y3]
              omega
          · rw [if_neg y2]
            split <;> omega
      omega
    · exfalso
      grind
  unfold mkParts
  rw [hc1, hc2, List.map_append, List.sum_append]
  have e1 : (((if Kzv1.lt m r f = true then [⟨r, u, c1⟩, ⟨f, c2, v⟩] else [⟨f, c2, v⟩, ⟨r, u, c1⟩]) : List (PD m)).map (wt lo hi M)).sum = wt lo hi M ⟨r, u, c1⟩ + wt lo hi M ⟨f, c2, v⟩ := by
    split
    · simp only [List.map_cons, List.map_nil, List.sum_cons, List.sum_nil]
      omega
    · simp only [List.map_cons, List.map_nil, List.sum_cons, List.sum_nil]
      omega
  have e2 : (((if Kzv1.lt m c1 c2 = true then [⟨r + f, c1, c2⟩] else []) : List (PD m)).map (wt lo hi M)).sum ≤ wt lo hi M ⟨r + f, c1, c2⟩ := by
    split
    · simp only [List.map_cons, List.map_nil, List.sum_cons, List.sum_nil]
      omega
    · simp only [List.map_nil, List.sum_nil]
      omega
  omega
theorem sum_le {α : Type} {f g : α → Nat} {n : Nat} : ∀ {l : List α}, (∀ x ∈ l, f x ≤ n * g x) → (l.map f).sum ≤ n * (l.map g).sum
  | [], _ => by simp
  | x :: l, h => by
    have h1 := h x (by simp)
    have h2 := sum_le (l := l) fun y hy => h y (by simp [hy])
    rw [List.map_cons, List.map_cons, List.sum_cons, List.sum_cons, Nat.mul_add]
    omega
theorem filterMap_sum {α β : Type} (f : α → Option β) (g : β → Nat) : ∀ l : List α, ((l.filterMap f).map g).sum = (l.map fun x => match f x with
    | some y => g y
    | none => 0).sum
  | [] => rfl
  | x :: l => by
    rw [List.map_cons, List.sum_cons, ← filterMap_sum f g l, List.filterMap_cons]
    cases f x with
    | none => simp
    | some y => simp
theorem flatMap_len {α β : Type} (f : α → List β) : ∀ l : List α, (l.flatMap f).length = (l.map fun x => (f x).length).sum
  | [] => rfl
  | x :: l => by rw [List.flatMap_cons, List.length_append, List.map_cons, List.sum_cons, flatMap_len f l]
/-- what comes from the ways on -/
theorem on_sum [k : OkM m] {u v r f : R m} (h : RF m (v - u) r f) {y : WD m} (h1 : u ≤ y.lo) (h2 : y.hi ≤ v) (h3 : y.lo < y.hi) (M : List (R m)) {φ : WD m → Nat} {n : Nat}
    (hφ : ∀ d ∈ mkParts m u v r f, mx y.lo d.lo < mn y.hi d.hi → φ ⟨y.row ++ [d.s], y.gone + d.s, mx y.lo d.lo + pt d.s, mn y.hi d.hi + pt d.s⟩ ≤ n * (1 + cnt (mx y.lo d.lo) (mn y.hi d.hi) M)) :
    ((waysOn (mkParts m u v r f) y).map φ).sum ≤ n * (1 + cnt y.lo y.hi ([v - pt r, u - pt f] ++ M)) := by
  unfold waysOn
  rw [filterMap_sum]
  refine Nat.le_trans (sum_le (g := wt y.lo y.hi M) (n := n) fun d hd => ?_) (Nat.mul_le_mul_left n (part_sum h h1 h2 h3 M))
  unfold onBy wt
  by_cases c : mx y.lo d.lo < mn y.hi d.hi
  · rw [if_pos (ltT k c), if_pos (ltT k c)]
    exact hφ d hd c
  · rw [if_neg (by rw [ltF k c]; decide), if_neg (by rw [ltF k c]; decide)]
    exact Nat.zero_le _
theorem cnt_bk [k : OkM m] {u v r f a b : R m} (h : RF m (v - u) r f) {d : PD m} (hd : d ∈ mkParts m u v r f) (h1 : d.lo ≤ a) (h2 : b ≤ d.hi) : ∀ l : List (R m), cnt (a + pt d.s) (b + pt d.s) l ≤ cnt a b (l.map (bk u v r f))
  | [] => Nat.le_refl _
  | x :: l => by
    have ih := cnt_bk h hd h1 h2 l
    rw [List.map_cons, cnt_cons, cnt_cons]
    by_cases c : inn (a + pt d.s) (b + pt d.s) x = true
    · have p := (inn_iff k _ _ _).mp c
      have e := bk_of h hd (c := x - pt d.s) (by grind) (by grind)
      rw [show x - pt d.s + pt d.s = x by grind] at e
      rw [if_pos c, if_pos ((inn_iff k _ _ _).mpr (by rw [e]; grind))]
      omega
    · rw [if_neg c]
      omega
theorem few [k : OkM m] {u v r f goal : R m} (h : RF m (v - u) r f) : ∀ (n : Nat) (y : WD m), u ≤ y.lo → y.hi ≤ v → y.lo < y.hi →
    (rows (mkParts m u v r f) goal n y).length ≤ 1 * (1 + cnt y.lo y.hi (orb u v r f n)) ∧ size (mkParts m u v r f) goal n y ≤ (n + 1) * (1 + cnt y.lo y.hi (orb u v r f n))
  | 0, y, h1, h2, h3 => ⟨by unfold rows; simp, by unfold size; simp⟩
  | n + 1, y, h1, h2, h3 => by
    have child : ∀ d ∈ mkParts m u v r f, mx y.lo d.lo < mn y.hi d.hi → u ≤ mx y.lo d.lo + pt d.s ∧ mn y.hi d.hi + pt d.s ≤ v ∧ d.lo ≤ mx y.lo d.lo ∧ mn y.hi d.hi ≤ d.hi := fun d hd c => by
      have x1 := mx_is k y.lo d.lo
      have x2 := mn_is k y.hi d.hi
      have hpr := h.pr
      have hpf := h.pf
      have hap := h.ap
      have hrL := h.rL
      have hfL := h.fL
      rcases (mem_mk k d).mp hd with e | e | ⟨q, e⟩
      · subst e
        dsimp only at *
        grind
      · subst e
        dsimp only at *
        grind
      · subst e
        dsimp only at *
        rw [pt_add]
        grind
    have step : ∀ d ∈ mkParts m u v r f, mx y.lo d.lo < mn y.hi d.hi → cnt (mx y.lo d.lo + pt d.s) (mn y.hi d.hi + pt d.s) (orb u v r f n) ≤ cnt (mx y.lo d.lo) (mn y.hi d.hi) ((orb u v r f n).map (bk u v r f)) := fun d hd c =>
      cnt_bk h hd (child d hd c).2.2.1 (child d hd c).2.2.2 _
    constructor
    · unfold rows
      split
      · simp
      · rw [flatMap_len]
        refine on_sum h h1 h2 h3 ((orb u v r f n).map (bk u v r f)) (φ := fun y => (rows (mkParts m u v r f) goal n y).length) (n := 1) fun d hd c => ?_
        have c1 := child d hd c
        have ih := (few (goal := goal) h n ⟨y.row ++ [d.s], y.gone + d.s, mx y.lo d.lo + pt d.s, mn y.hi d.hi + pt d.s⟩ c1.1 c1.2.1 (by show mx y.lo d.lo + pt d.s < mn y.hi d.hi + pt d.s; grind)).1
        have st := step d hd c
        dsimp only at ih ⊢
        omega
    · unfold size
      split
      · have : 1 * 1 ≤ (n + 1 + 1) * (1 + cnt y.lo y.hi (orb u v r f (n + 1))) := Nat.mul_le_mul (by omega) (by omega)
        omega
      · have S := on_sum h h1 h2 h3 ((orb u v r f n).map (bk u v r f)) (φ := size (mkParts m u v r f) goal n) (n := n + 1) fun d hd c => by
          have c1 := child d hd c
          have ih := (few (goal := goal) h n ⟨y.row ++ [d.s], y.gone + d.s, mx y.lo d.lo + pt d.s, mn y.hi d.hi + pt d.s⟩ c1.1 c1.2.1 (by show mx y.lo d.lo + pt d.s < mn y.hi d.hi + pt d.s; grind)).2
          have st := step d hd c
          exact Nat.le_trans ih (Nat.mul_le_mul_left _ (by dsimp only; omega))
        show 1 + _ ≤ (n + 1 + 1) * (1 + cnt y.lo y.hi ([v - pt r, u - pt f] ++ (orb u v r f n).map (bk u v r f)))
        rw [Nat.add_mul (n + 1) 1, Nat.one_mul]
        omega
theorem rows_len {ds : List (PD m)} {goal : R m} : ∀ (n : Nat) (y : WD m), ∀ l ∈ rows ds goal n y, l.length ≤ y.row.length + n
  | 0, y, l, hl => by
    unfold rows at hl
    rw [List.mem_singleton] at hl
    subst hl
    omega
  | n + 1, y, l, hl => by
    unfold rows at hl
    split at hl
    · rw [List.mem_singleton] at hl
      subst hl
      omega
    · rw [List.mem_flatMap] at hl
      obtain ⟨y', hy, hl⟩ := hl
      have := rows_len n y' l hl
      unfold waysOn at hy
      rw [List.mem_filterMap] at hy
      obtain ⟨d, _, e⟩ := hy
      unfold onBy at e
      split at e
      · have e' := Option.some.inj e
        subst e'
        rw [show (y.row ++ [d.s]).length = y.row.length + 1 by rw [List.length_append]; rfl] at this
        omega
      · cases e
end Ml
namespace Ml
open Kzv1 (Z)
open Kzv2 (Win)
variable {m : Nat}
/-- a row of a part, as it is told -/
def outr (d : PD m) (l : List (R m)) : List Int := Kzv2.written [d.s] ++ ((List.length (α := Z) l : Nat) : Int) :: Kzv2.written l
/-- all rows of a part -/
def allr (u v r f : R m) (d : PD m) : List (List (R m)) := rows (mkParts m u v r f) (ww * ww * d.s) 200 (way0 d)
def outs (d : PD m) (ls : List (List (R m))) : List Int := ls.flatMap (outr d)
def outl (u v r f : R m) (ds : List (PD m)) : List Int := ds.flatMap fun d => outs d (allr u v r f d)
def cntl (u v r f : R m) (ds : List (PD m)) : Nat := (ds.map fun d => (allr u v r f d).length).sum
theorem pieces_out [k : OkM m] {u v r f : R m} (W : Wn m u v) (K : Kp u v) (h : RF m (v - u) r f) :
    (((Kzv4.pieces m (wn u v)).length : Nat) : Int) :: ((Kzv4.pieces m (wn u v)).flatMap fun y => Kzv2.written [y.1] ++ ((y.2.1.length : Nat) : Int) :: Kzv2.written y.2.1) = ((cntl u v r f (mkParts m u v r f) : Nat) : Int) :: outl u v r f (mkParts m u v r f) := by
  have E := pieces_are W K h
  rw [pieces_form, E]
  have e1 : (Kzv4.pieces m (wn u v)).length = cntl u v r f (mkParts m u v r f) := by
    have := congrArg List.length E
    rw [List.length_map] at this
    rw [this, flatMap_len]
    unfold cntl allr
    refine congrArg List.sum (map_same fun d _ => ?_)
    rw [List.length_map]
    rfl
  rw [e1]
  refine congrArg _ ?_
  unfold outl outs allr
  rw [List.flatMap_assoc]
  refine flatMap_same fun d _ => ?_
  rw [List.flatMap_map]
  rfl
theorem outr_len (d : PD m) (l : List (R m)) : (outr d l).length = 2 * l.length + 3 := by
  unfold outr
  have h1 : (Kzv2.written l).length = 2 * List.length (α := R m) l := written_len l
  rw [List.length_append, List.length_cons, h1]
  show 2 + (2 * l.length + 1) = _
  omega
theorem outs_len (d : PD m) : ∀ ls : List (List (R m)), (∀ l ∈ ls, l.length ≤ 200) → (outs d ls).length ≤ 403 * ls.length
  | [], _ => Nat.le_refl _
  | l :: ls, h => by
    have h1 := h l (by simp)
    have h2 := outs_len d ls fun x hx => h x (by simp [hx])
    unfold outs at *
    rw [List.flatMap_cons, List.length_append, outr_len, List.length_cons]
    omega
theorem sub_le [k : OkM m] {u v r f : R m} (K : Kp u v) (h : RF m (v - u) r f) {d : PD m} (hd : d ∈ mkParts m u v r f) : u ≤ wi * d.lo ∧ wi * d.hi ≤ v ∧ wi * d.lo < wi * d.hi := by
  have w0 := wi_pos (m := m)
  have hl := parts_lt h hd
  have hpr := h.pr
  have hpf := h.pf
  have hrL := h.rL
  have hfL := h.fL
  have hap := h.ap
  have lu : u ≤ d.lo ∧ d.hi ≤ v := by
    rcases (mem_mk k d).mp hd with e | e | ⟨q, e⟩
    · subst e
      dsimp only
      grind
    · subst e
      dsimp only
      grind
    · subst e
      dsimp only
      grind
  have h1 := mul_nn (x := wi) (y := d.lo - u) (by grind) (by grind)
  have h2 := mul_nn (x := wi) (y := v - d.hi) (by grind) (by grind)
  have h3 := mul_pos' (x := wi) (y := d.hi - d.lo) w0 (by grind)
  have K1 := K.1
  have K2 := K.2
  grind
theorem allr_few [k : OkM m] {u v r f : R m} (K : Kp u v) (h : RF m (v - u) r f) {d : PD m} (hd : d ∈ mkParts m u v r f) : (allr u v r f d).length ≤ 401 ∧ size (mkParts m u v r f) (ww * ww * d.s) 200 (way0 d) ≤ 80601 ∧ ∀ l ∈ allr u v r f d, l.length ≤ 200 := by
  obtain ⟨h1, h2, h3⟩ := sub_le K h hd
  obtain ⟨f1, f2⟩ := few (goal := ww * ww * d.s) h 200 (way0 d) h1 h2 h3
  have c := cnt_le (way0 d).lo (way0 d).hi (orb u v r f 200)
  rw [orb_len] at c
  refine ⟨by unfold allr; omega, by omega, fun l hl => ?_⟩
  have q := rows_len 200 (way0 d) l hl
  have e : (way0 d).row.length = 0 := rfl
  omega
theorem cntl_le [k : OkM m] {u v r f : R m} (K : Kp u v) (h : RF m (v - u) r f) : ∀ ds : List (PD m), (∀ d ∈ ds, d ∈ mkParts m u v r f) → cntl u v r f ds ≤ 401 * ds.length ∧ (outl u v r f ds).length ≤ 403 * cntl u v r f ds
  | [], _ => ⟨Nat.le_refl _, Nat.le_refl _⟩
  | d :: ds, hd => by
    obtain ⟨a1, a2⟩ := cntl_le K h ds fun x hx => hd x (by simp [hx])
    obtain ⟨b1, _, b3⟩ := allr_few K h (hd d (by simp))
    have b4 := outs_len d _ b3
    unfold cntl outl at *
    rw [List.map_cons, List.sum_cons, List.flatMap_cons, List.length_append, List.length_cons]
    omega
theorem size_pos (ds : List (PD m)) (goal : R m) (n : Nat) (y : WD m) : 1 ≤ size ds goal n y := by
  cases n with
  | zero => exact Nat.le_refl _
  | succ n =>
    unfold size
    split <;> omega
theorem len_le_size (ds : List (PD m)) (goal : R m) (n : Nat) : ∀ ys : List (WD m), ys.length ≤ (ys.map (size ds goal n)).sum
  | [] => Nat.le_refl _
  | y :: ys => by
    have h1 := size_pos ds goal n y
    have h2 := len_le_size ds goal n ys
    rw [List.map_cons, List.sum_cons, List.length_cons]
    omega
theorem sum_rev (l : List Nat) : l.reverse.sum = l.sum := by
  induction l with
  | nil => rfl
  | cons x l ih =>
    rw [List.reverse_cons, List.sum_append, ih, List.sum_cons, List.sum_cons, List.sum_nil]
    omega
/-- a way on which all is well -/
structure Wk (u v total : R m) (y : WD m) : Prop where
  iv : ∃ n, Iv u v total n y ∧ y.row.length + n ≤ 200
theorem Wk.on [k : OkM m] {u v r f total : R m} (h : RF m (v - u) r f) {y : WD m} (w : Wk u v total y) (e : ¬ y.gone = total) : ∀ y' ∈ waysOn (mkParts m u v r f) y, Wk u v total y' := fun y' hy => by
  obtain ⟨n, I, hn⟩ := w.iv
  obtain ⟨d, hd, hlt, rfl⟩ := mem_on k hy
  rcases I.on h with q | ⟨_, n', en, hI⟩
  · exact absurd q e
  · refine ⟨n', hI d hd hlt, ?_⟩
    show (y.row ++ [d.s]).length + n' ≤ 200
    rw [List.length_append]
    simp only [List.length_cons, List.length_nil]
    omega
theorem on_len (ds : List (PD m)) (y : WD m) : (waysOn ds y).length ≤ ds.length := List.length_filterMap_le _ _
theorem rows_leaf {ds : List (PD m)} {goal : R m} {n : Nat} {y : WD m} (e : y.gone = goal) : rows ds goal (n + 1) y = [y.row] ∧ size ds goal (n + 1) y = 1 := by
  unfold rows size
  rw [if_pos e, if_pos e]
  exact ⟨rfl, rfl⟩
end Ml
namespace Ml
open Kzv1 (Z)
open Kzv2 (Win)
variable {m : Nat}
/-! ### the smaller window; how deep -/
def window (m : Int) (xs : List Int) : List Int := if isWin m xs = true then (match xs with
  | [a, b, c, d] => [0, smallA m a b, smallB m a b, smallA m c d, smallB m c d]
  | _ => []) else [-22]
theorem window_is {m : Int} (h0 : 0 ≤ m) (xs : List Int) : PyKzv4.window m xs = window m xs := by
  show (Kzv4.answer (.window m.toNat xs)).value :: (Kzv4.answer (.window m.toNat xs)).nums = _
  unfold Kzv4.answer window
  dsimp only
  cases hw : isWin m xs with
  | false => rw [withX_no h0 hw]; rfl
  | true =>
    obtain ⟨a, b, c, d, rfl⟩ := isWin_4 hw
    obtain ⟨h1, h4⟩ := isWin_m hw
    rw [withX_yes hw, if_pos rfl]
    obtain ⟨n, rfl⟩ : ∃ n : Nat, m = n := ⟨m.toNat, by omega⟩
    rw [Int.toNat_natCast]
    unfold Kzv3.tellWin Kzv4.shrunk
    dsimp only
    rw [small_eq, small_eq]
    rfl
/-- made larger from a point: its partner lies in the smaller window -/
theorem lies_small [k : OkM m] (u v z : R m) : (wi * u ≤ pt z ∧ pt z < wi * v) ↔ Pt u v (wi * z) := by
  have e0 : pt (wi * z) = ww * ww * pt z := by rw [pt_mul, pt_wi]
  unfold Pt
  rw [e0]
  have e := wi_mul (m := m)
  have p1 := wi_pos (m := m)
  have hlo := w_lo (m := m)
  have hm := m_pos (m := m)
  have p2 := mul_pos' (x := (ww : R m)) (y := ww) (by grind) (by grind)
  generalize pt z = c
  generalize (ww : R m) * ww = W at *
  generalize (wi : R m) = i at *
  constructor
  · rintro ⟨h1, h2⟩
    have a1 := mul_nn (x := W) (y := c - i * u) (by grind) (by grind)
    have a2 := mul_pos' (x := W) (y := i * v - c) (by grind) (by grind)
    have b1 : W * (c - i * u) = W * c - u := by grind
    have b2 : W * (i * v - c) = v - W * c := by grind
    rw [b1] at a1
    rw [b2] at a2
    constructor <;> grind
  · rintro ⟨h1, h2⟩
    have a1 := mul_nn (x := i) (y := W * c - u) (by grind) (by grind)
    have a2 := mul_pos' (x := i) (y := v - W * c) (by grind) (by grind)
    have b1 : i * (W * c - u) = c - i * u := by grind
    have b2 : i * (v - W * c) = i * v - c := by grind
    rw [b1] at a1
    rw [b2] at a2
    constructor <;> grind
theorem isLarge_iff (k : OkM m) (x : Win) (z : Z) : Kzv4.isLarge m x z = true ↔ Pt (show R m from x.u) (show R m from x.v) (wi * (show R m from z)) := by
  unfold Kzv4.isLarge
  rw [inside_iff k]
  unfold Kzv4.shrunk
  dsimp only
  rw [small_ring, small_ring]
  exact lies_small (m := m) x.u x.v z
/-- as the program asks it -/
theorem isLarge_eq (k : OkM m) (x : Win) (z : Z) : Kzv4.isLarge m x z = Kzv2.isPoint m x (Kzv4.small m z) := by
  rw [Bool.eq_iff_iff, isLarge_iff k, pt_iff k, small_ring]
def depth (m : Int) (xs zs : List Int) : List Int := if refusal m xs zs = 0 then (match xs, zs with
  | [a, b, c, d], [e, f] => [((Kzv4.depth m.toNat ⟨⟨a, b⟩, ⟨c, d⟩⟩ 20 ⟨e, f⟩ : Nat) : Int)]
  | _, _ => []) else [refusal m xs zs]
theorem depth_0 {m : Int} {a b c d e f : Int} (hr : refusal m [a, b, c, d] [e, f] = 0) : depth m [a, b, c, d] [e, f] = [((Kzv4.depth m.toNat ⟨⟨a, b⟩, ⟨c, d⟩⟩ 20 ⟨e, f⟩ : Nat) : Int)] := by
  unfold depth
  rw [if_pos hr]
theorem depth_is {m : Int} (h0 : 0 ≤ m) (xs zs : List Int) : PyKzv4.depth m xs zs = depth m xs zs := by
  show (Kzv4.answer (.depth m.toNat xs zs)).value :: (Kzv4.answer (.depth m.toNat xs zs)).nums = _
  unfold Kzv4.answer
  dsimp only
  by_cases hr : refusal m xs zs = 0
  · obtain ⟨a, b, c, d, e, f, rfl, rfl⟩ := refusal_lists hr
    rw [withK_yes hr, depth_0 hr]
    rfl
  · rw [withK_no h0 hr]
    unfold depth
    rw [if_neg hr]
/-- the loop's turn -/
theorem depth_go (x : Win) (n : Nat) (z : Z) (h : Kzv4.isLarge m x z = true) : Kzv4.depth m x (n + 1) z = Kzv4.depth m x n (Kzv4.small m z) + 1 := by
  show (if _ then _ else _) = _
  rw [if_pos h]
theorem depth_end (x : Win) (n : Nat) (z : Z) (h : Kzv4.isLarge m x z = false) : Kzv4.depth m x n z = 0 := by
  cases n with
  | zero => rfl
  | succ n =>
    show (if _ then _ else _) = _
    rw [if_neg (by rw [h]; decide)]
/-- no greater than so, itself and its partner -/
structure Bg (m : Nat) (M x : R m) : Prop where
  a : -M ≤ x
  b : x ≤ M
  c : -M ≤ pt x
  d : pt x ≤ M
theorem w_5 [k : OkM m] : (ww : R m) < 5 := by
  have h := w_hi (m := m)
  have m4 : (m : R m) ≤ 4 := int_le (m := m) (i := m) (j := 4) (by have := k.h4; omega)
  grind
/-- of numbers whose parts are not great -/
theorem Bg.of [k : OkM m] {N : Int} {x : R m} (ha : -N ≤ Z.a x ∧ Z.a x ≤ N) (hb : -N ≤ Z.b x ∧ Z.b x ≤ N) : Bg m (6 * (N : R m)) x := by
  have e1 := R.parts x
  have e2 := pt_parts x
  have h5 := w_5 (m := m)
  have hlo := w_lo (m := m)
  have hhi := w_hi (m := m)
  have hm := m_pos (m := m)
  generalize Z.a x = a at *
  generalize Z.b x = b at *
  have a1 : -(N : R m) ≤ (a : R m) := int_le (m := m) (i := -N) (j := a) ha.1
  have a2 : (a : R m) ≤ (N : R m) := int_le ha.2
  have b1 : -(N : R m) ≤ (b : R m) := int_le (m := m) (i := -N) (j := b) hb.1
  have b2 : (b : R m) ≤ (N : R m) := int_le hb.2
  generalize (N : R m) = N at *
  generalize (a : R m) = a at *
  generalize (b : R m) = b at *
  have n0 : 0 ≤ N := by grind
  have c1 := mul_nn (x := N - b) (y := ww) (by grind) (by grind)
  have c2 := mul_nn (x := N + b) (y := ww) (by grind) (by grind)
  have c3 := mul_nn (x := N) (y := 5 - ww) (by grind) (by grind)
  have d1 := mul_nn (x := N - b) (y := ww - (m : R m)) (by grind) (by grind)
  have d2 := mul_nn (x := N + b) (y := ww - (m : R m)) (by grind) (by grind)
  have d3 := mul_nn (x := N) (y := 1 - (ww - (m : R m))) (by grind) (by grind)
  constructor <;> grind
/-- and back -/
theorem Bg.back [k : OkM m] {N : Int} {x : R m} (h : Bg m (N : R m) x) : (-(11 * N) ≤ Z.a x ∧ Z.a x ≤ 11 * N) ∧ -(11 * N) ≤ Z.b x ∧ Z.b x ≤ 11 * N := by
  have e1 := R.parts x
  have e2 := pt_parts x
  have h5 := w_5 (m := m)
  have hlo := w_lo (m := m)
  have hhi := w_hi (m := m)
  have hm := m_pos (m := m)
  obtain ⟨h1, h2, h3, h4⟩ := h
  generalize Z.a x = a at *
  generalize Z.b x = b at *
  have key : (b : R m) * (2 * ww - (m : R m)) = x - pt x := by rw [e2]; grind
  have n0 : 0 ≤ (N : R m) := by grind
  have N0 : 0 ≤ N := le_int (m := m) (i := 0) (j := N) n0
  have b1 : b ≤ 2 * N := by
    by_cases c : b ≤ 2 * N
    · exact c
    · exfalso
      have c1 : ((2 * N + 1 : Int) : R m) ≤ (b : R m) := int_le (by omega)
      have c2 : ((2 * N + 1 : Int) : R m) = 2 * (N : R m) + 1 := R.ext (by show (2 * N + 1 : Int) = (2 * N + 0 * 0) + 1; omega) (by show (0 : Int) = (2 * 0 + 0 * N + (m : Int) * (0 * 0)) + 0; omega)
      rw [c2] at c1
      have c3 := mul_nn (x := (b : R m)) (y := (2 * ww - (m : R m)) - 1) (by grind) (by grind)
      grind
  have b2 : -(2 * N) ≤ b := by
    by_cases c : -(2 * N) ≤ b
    · exact c
    · exfalso
      have c1 : (b : R m) ≤ ((-(2 * N + 1) : Int) : R m) := int_le (by omega)
      have c2 : ((-(2 * N + 1) : Int) : R m) = -(2 * (N : R m) + 1) := R.ext (by show (-(2 * N + 1) : Int) = -((2 * N + 0 * 0) + 1); omega) (by show (0 : Int) = -((2 * 0 + 0 * N + (m : Int) * (0 * 0)) + 0); omega)
      rw [c2] at c1
      have c3 := mul_nn (x := -(b : R m)) (y := (2 * ww - (m : R m)) - 1) (by grind) (by grind)
      grind
  have t2 : ((2 * N : Int) : R m) = 2 * (N : R m) := R.ext (by show (2 * N : Int) = 2 * N + 0 * 0; omega) (by show (0 : Int) = 2 * 0 + 0 * N + (m : Int) * (0 * 0); omega)
  have b1' : (b : R m) ≤ ((2 * N : Int) : R m) := int_le b1
  have b2' : -((2 * N : Int) : R m) ≤ (b : R m) := int_le (m := m) (i := -(2 * N)) (j := b) b2
  rw [t2] at b1' b2'
  have c1 := mul_nn (x := 2 * (N : R m) - (b : R m)) (y := ww) (by grind) (by grind)
  have c2 := mul_nn (x := 2 * (N : R m) + (b : R m)) (y := ww) (by grind) (by grind)
  have c3 := mul_nn (x := (N : R m)) (y := 5 - ww) (by grind) (by grind)
  have t11 : ((11 * N : Int) : R m) = 11 * (N : R m) := R.ext (by show (11 * N : Int) = 11 * N + 0 * 0; omega) (by show (0 : Int) = 11 * 0 + 0 * N + (m : Int) * (0 * 0); omega)
  refine ⟨⟨?_, ?_⟩, by omega, by omega⟩
  · refine le_int (m := m) ?_
    show -((11 * N : Int) : R m) ≤ (a : R m)
    rw [t11]
    grind
  · refine le_int (m := m) ?_
    rw [t11]
    grind
theorem wi_1 [k : OkM m] : (wi : R m) < 1 := by
  have hlo := w_lo (m := m)
  have hhi := w_hi (m := m)
  have h1 := mul_pos' (x := 1 - (ww - (m : R m))) (y := 1 + (ww - (m : R m))) (by grind) (by grind)
  unfold wi
  grind
/-- a point made smaller that still is a point has not become greater -/
theorem Bg.small [k : OkM m] {M u v x : R m} (h : Bg m M x) (hu : Bg m M u) (hv : Bg m M v) (hp : Pt u v (wi * x)) : Bg m M (wi * x) := by
  have p0 := wi_pos (m := m)
  have p1 := wi_1 (m := m)
  obtain ⟨h1, h2, h3, h4⟩ := h
  have u1 := hu.a
  have v1 := hv.b
  unfold Pt at hp
  have c1 := mul_nn (x := M - x) (y := wi) (by grind) (by grind)
  have c2 := mul_nn (x := M + x) (y := wi) (by grind) (by grind)
  have c3 := mul_nn (x := M) (y := 1 - wi) (by grind) (by grind)
  constructor <;> grind
end Ml
namespace Ml
open Kzv1 (Z)
open Kzv2 (Win)
variable {m : Nat}
/-! ### the point before; the parent -/
theorem Bk.nx [k : OkM m] {u v z g : R m} (b : Bk m u v z g) (hz : Pt u v z) : Nx m u v (z - g) g := by
  refine ⟨b.pos, by rw [show z - g + g = z by grind]; exact hz, fun h h0 hp => ?_⟩
  by_cases c : g ≤ h
  · exact c
  · have := b.least (g - h) (by grind) (by rw [show z - (g - h) = z - g + h by grind]; exact hp)
    grind
theorem Nx.bk [k : OkM m] {u v z g : R m} (a : Nx m u v z g) (hz : Pt u v z) : Bk m u v (z + g) g := by
  refine ⟨a.pos, by rw [show z + g - g = z by grind]; exact hz, fun h h0 hp => ?_⟩
  by_cases c : g ≤ h
  · exact c
  · have := a.least (g - h) (by grind) (by rw [show z + (g - h) = z + g - h by grind]; exact hp)
    grind
theorem Bk.uniq [k : OkM m] {u v z g h : R m} (a : Bk m u v z g) (b : Bk m u v z h) : g = h := by
  have := a.least h b.pos b.pt
  have := b.least g a.pos a.pt
  grind
theorem nx_ex (k : OkM m) {u v z : R m} (W : Wn m u v) (hz : Pt u v z) : ∃ g, Nx m u v z g := by
  obtain ⟨g, _, _, h⟩ := step_spec k (x := ⟨u, v⟩) (z := z) ((wn_iff k ⟨u, v⟩).mpr W) ((pt_iff k ⟨u, v⟩ z).mpr hz)
  exact ⟨g, h⟩
theorem bk_ex (k : OkM m) {u v z : R m} (W : Wn m u v) (hz : Pt u v z) : ∃ g, Bk m u v z g := by
  obtain ⟨g, _, _, h⟩ := stepBack_spec k (x := ⟨u, v⟩) (z := z) ((wn_iff k ⟨u, v⟩).mpr W) ((pt_iff k ⟨u, v⟩ z).mpr hz)
  exact ⟨g, h⟩
theorem cm_1 [k : OkM m] : 1 ≤ cm m := by
  have hlo := w_lo (m := m)
  have hm := m_pos (m := m)
  unfold cm
  split <;> grind
/-- some whole number is greater -/
theorem arch [k : OkM m] (x : R m) : ∃ n : Nat, x < (n : R m) := by
  have h5 := w_5 (m := m)
  have hlo := w_lo (m := m)
  have hm := m_pos (m := m)
  have e := R.parts x
  obtain ⟨n, hn⟩ : ∃ n : Nat, (n : Int) = (if 0 ≤ Z.a x then Z.a x else -Z.a x) + 5 * (if 0 ≤ Z.b x then Z.b x else -Z.b x) + 1 := ⟨((if 0 ≤ Z.a x then Z.a x else -Z.a x) + 5 * (if 0 ≤ Z.b x then Z.b x else -Z.b x) + 1).toNat, by split <;> split <;> omega⟩
  refine ⟨n, ?_⟩
  obtain ⟨B, hB⟩ : ∃ B : Int, B = (if 0 ≤ Z.b x then Z.b x else -Z.b x) := ⟨_, rfl⟩
  have b1 : Z.b x ≤ B := by rw [hB]; split <;> omega
  have b0 : 0 ≤ B := by rw [hB]; split <;> omega
  have n1 : Z.a x + 5 * B + 1 ≤ n := by rw [hn, hB]; split <;> split <;> omega
  have c1 : ((Z.a x + 5 * B + 1 : Int) : R m) ≤ ((n : Int) : R m) := int_le n1
  have c2 : ((Z.a x + 5 * B + 1 : Int) : R m) = (Z.a x : R m) + 5 * (B : R m) + 1 := R.ext (by show (Z.a x + 5 * B + 1 : Int) = (Z.a x + (5 * B + 0 * 0)) + 1; omega) (by show (0 : Int) = (0 + (5 * 0 + 0 * B + (m : Int) * (0 * 0))) + 0; omega)
  have c3 : ((n : Int) : R m) = (n : R m) := rfl
  rw [c2, c3] at c1
  have b1' : (Z.b x : R m) ≤ (B : R m) := int_le b1
  have b0' : (0 : R m) ≤ (B : R m) := int_0 b0
  generalize (Z.a x : R m) = a at *
  generalize (Z.b x : R m) = b at *
  generalize (B : R m) = B at *
  have d1 := mul_nn (x := B - b) (y := ww) (by grind) (by grind)
  have d2 := mul_nn (x := B) (y := 5 - ww) (by grind) (by grind)
  grind
/-- so many steps at most lead no farther than so -/
theorem Path.few [k : OkM m] {u v : R m} (W : Wn m u v) (x : R m) : ∃ n : Nat, ∀ (z y : R m) (l : List (R m)), Path u v z l y → Pt u v z → y - z ≤ x → l.length < n := by
  obtain ⟨n, hn⟩ := arch (m := m) (x * (v - u))
  refine ⟨2 * n, fun z y l h hz hx => ?_⟩
  by_cases c : l.length < 2 * n
  · exact c
  · exfalso
    have h1 := Path.long W n h hz (by omega)
    have h2 := W.lo
    have h3 := mul_nn (x := x - (y - z)) (y := v - u) (by grind) (by grind)
    have h4 := cm_1 (m := m)
    have h5 : (0 : R m) ≤ (n : R m) := int_0 (m := m) (i := n) (by omega)
    have h6 := mul_nn (x := (n : R m)) (y := cm m - 1) (by grind) (by grind)
    grind
theorem Path.snoc [k : OkM m] {u v z y g : R m} {l : List (R m)} (h : Path u v z l y) (n : Nx m u v y g) : Path u v z (l ++ [g]) (y + g) := by
  induction h with
  | nil z => exact Path.cons n (Path.nil _)
  | cons a _ ih => exact Path.cons a (ih n)
theorem Path.unsnoc [k : OkM m] {u v z y : R m} {l : List (R m)} (h : Path u v z l y) : l = [] ∧ y = z ∨ ∃ l' g, l = l' ++ [g] ∧ Path u v z l' (y - g) ∧ Nx m u v (y - g) g := by
  induction h with
  | nil z => exact .inl ⟨rfl, rfl⟩
  | cons a h ih =>
    rename_i z g y l
    right
    rcases ih with ⟨rfl, rfl⟩ | ⟨l', g', rfl, h1, h2⟩
    · refine ⟨[], g, rfl, ?_, ?_⟩
      · rw [show z + g - g = z by grind]
        exact Path.nil _
      · rw [show z + g - g = z by grind]
        exact a
    · exact ⟨g :: l', g', rfl, Path.cons a h1, h2⟩
/-- up to the last point that is not beyond y -/
theorem up [k : OkM m] {u v y : R m} (W : Wn m u v) : ∀ (n : Nat) (q : R m), Pt u v q → q ≤ y → (∀ (l : List (R m)) (c : R m), Path u v q l c → c ≤ y → l.length < n) → ∃ p g, Pt u v p ∧ Nx m u v p g ∧ p ≤ y ∧ y < p + g
  | 0, q, _, hqy, hl => absurd (hl [] q (Path.nil _) hqy) (Nat.lt_irrefl 0)
  | n + 1, q, hq, hqy, hl => by
    obtain ⟨g, N⟩ := nx_ex k W hq
    by_cases c : q + g ≤ y
    · refine up W n (q + g) N.pt c fun l c hp hc => ?_
      have : l.length + 1 < n + 1 := hl (g :: l) c (Path.cons N hp) hc
      omega
    · exact ⟨q, g, hq, N, hqy, by grind⟩
theorem down [k : OkM m] {u v y b : R m} (W : Wn m u v) (N : Nat) (hN : ∀ (l : List (R m)) (c : R m), Pt u v c → Path u v c l b → y < c → l.length < N) : ∀ (n : Nat) (q : R m) (l : List (R m)), Pt u v q → Path u v q l b → y < q → l.length + n = N → ∃ p g, Pt u v p ∧ Nx m u v p g ∧ p ≤ y ∧ y < p + g
  | 0, q, l, hq, hp, hy, e => by
    have := hN l q hq hp hy
    omega
  | n + 1, q, l, hq, hp, hy, e => by
    obtain ⟨g, B⟩ := bk_ex k W hq
    have Nq := B.nx hq
    by_cases c : q - g ≤ y
    · exact ⟨q - g, g, B.pt, Nq, c, by grind⟩
    · refine down W N hN n (q - g) (g :: l) B.pt (Path.cons Nq ?_) (by grind) ?_
      · rw [show q - g + g = q by grind]
        exact hp
      · rw [List.length_cons]
        omega
/-- any number lies between two neighbours -/
theorem between [k : OkM m] {u v q : R m} (W : Wn m u v) (hq : Pt u v q) (y : R m) : ∃ p g, Pt u v p ∧ Nx m u v p g ∧ p ≤ y ∧ y < p + g := by
  by_cases c : q ≤ y
  · obtain ⟨n, hn⟩ := Path.few W (y - q)
    exact up W n q hq c fun l c hp hc => hn q c l hp hq (by grind)
  · obtain ⟨n, hn⟩ := Path.few W (q - y)
    refine down W n (b := q) (fun l c hc hp hy => hn c q l hp hc (by grind)) n q [] hq (Path.nil _) (by grind) ?_
    show 0 + n = n
    omega
/-- y is on the way from p, made larger, to the next one, made larger, so many steps behind the first -/
structure Par (m : Nat) (u v p g y : R m) (l : List (R m)) : Prop where
  pp : Pt u v p
  nx : Nx m u v p g
  py : Pt u v y
  lt : wi * y < p + g
  way : Path u v (ww * ww * p) l y
theorem Par.ge [k : OkM m] {u v p g y : R m} {l : List (R m)} (h : Par m u v p g y l) : p ≤ wi * y := by
  have h1 := h.way.le
  have h2 := wi_pos (m := m)
  have h3 := wi_mul (m := m)
  have h4 := mul_nn (x := wi) (y := y - ww * ww * p) (by grind) (by grind)
  have h5 : wi * (y - ww * ww * p) = wi * y - p := by grind
  grind
/-- the one that is made larger is the first -/
theorem Par.large [k : OkM m] {u v p g y : R m} {l : List (R m)} (h : Par m u v p g y l) : Pt u v (wi * y) ↔ l = [] := by
  have h3 := wi_mul (m := m)
  constructor
  · intro hp
    have h1 := h.ge
    have e : wi * y = p := by
      by_cases c : p = wi * y
      · exact c.symm
      · have := h.nx.least (wi * y - p) (by grind) (by rw [show p + (wi * y - p) = wi * y by grind]; exact hp)
        have := h.lt
        grind
    have e2 : y = ww * ww * p := by
      rw [← e]
      grind
    have hw := h.way
    rw [e2] at hw
    exact hw.end_nil
  · rintro rfl
    have : y = ww * ww * p := by
      rcases h.way.unsnoc with ⟨_, e⟩ | ⟨l', g, e, _⟩
      · exact e
      · exfalso
        have := congrArg List.length e
        rw [List.length_append] at this
        simp at this
    rw [this, show wi * (ww * ww * p) = p by grind]
    exact h.pp
theorem Par.first [k : OkM m] {u v p g y : R m} (h : Par m u v p g y []) : y = ww * ww * p := by
  rcases h.way.unsnoc with ⟨_, e⟩ | ⟨l', g, e, _⟩
  · exact e
  · exfalso
    have := congrArg List.length e
    rw [List.length_append] at this
    simp at this
/-- one step back -/
theorem Par.back [k : OkM m] {u v p g y s : R m} {l : List (R m)} (K : Kp u v) (h : Par m u v p g y l) (e : l ≠ []) (b : Bk m u v y s) : ∃ l', l'.length + 1 = l.length ∧ Par m u v p g (y - s) l' := by
  rcases h.way.unsnoc with ⟨q, _⟩ | ⟨l', s', e', h1, h2⟩
  · exact absurd q e
  · have P1 := h1.pt (K.pt h.pp)
    have B := h2.bk P1
    rw [show y - s' + s' = y by grind] at B
    have es := B.uniq b
    subst es
    refine ⟨l', ?_, h.pp, h.nx, P1, ?_, h1⟩
    · rw [e', List.length_append]
      rfl
    · have h3 := wi_pos (m := m)
      have h4 := mul_pos' (x := wi) (y := s') (by grind) h2.pos
      have := h.lt
      grind
/-- there is such a way, shorter than 200 -/
theorem par_ex [k : OkM m] {u v z : R m} (W : Wn m u v) (K : Kp u v) (hz : Pt u v z) : ∃ p g l, Par m u v p g z l ∧ l.length < 200 := by
  obtain ⟨p, g, hp, N, h1, h2⟩ := between W hz (wi * z)
  have w0 := w_lo (m := m)
  have m0 := m_pos (m := m)
  have hww := mul_pos' (x := (ww : R m)) (y := ww) (by grind) (by grind)
  have h3 := wi_mul (m := m)
  have a1 : ww * ww * p ≤ z := by
    have h4 := mul_nn (x := ww * ww) (y := wi * z - p) (by grind) (by grind)
    have h5 : ww * ww * (wi * z - p) = z - ww * ww * p := by grind
    grind
  have a2 : z < ww * ww * p + ww * ww * g := by
    have h4 := mul_pos' (x := ww * ww) (y := p + g - wi * z) (by grind) (by grind)
    have h5 : ww * ww * (p + g - wi * z) = ww * ww * p + ww * ww * g - z := by grind
    grind
  have hP := K.pt hp
  have sh : ∀ (l : List (R m)) (c : R m), Path u v (ww * ww * p) l c → c ≤ z → l.length < 200 := fun l c hl hc => Path.short (b := ww * ww * p + ww * ww * g) W hp N hl hP rfl (by grind)
  have way := stepsTo_path k (x := ⟨u, v⟩) ((wn_iff k ⟨u, v⟩).mpr W) (b := z) ((pt_iff k ⟨u, v⟩ z).mpr hz) 200 (ww * ww * p) ((pt_iff k ⟨u, v⟩ _).mpr hP) a1 sh
  exact ⟨p, g, _, ⟨hp, N, hz, h2, way⟩, sh _ z way (by grind)⟩
/-- the specification's way back -/
theorem under_is (k : OkM m) {x : Win} {p g : R m} (W : Wn m (show R m from x.u) (show R m from x.v)) (K : Kp (show R m from x.u) (show R m from x.v)) : ∀ (n : Nat) (y : Z) (l : List (R m)), Par m (show R m from x.u) (show R m from x.v) p g y l → l.length ≤ n → Kzv4.under m x n y = (show Z from (ww * ww * p : R m))
  | 0, y, l, h, hl => by
    have e : l = [] := List.eq_nil_of_length_eq_zero (by omega)
    subst e
    exact h.first
  | n + 1, y, l, h, hl => by
    unfold Kzv4.under
    by_cases c : l = []
    · subst c
      rw [if_pos ((isLarge_iff k x y).mpr (h.large.mpr rfl))]
      exact h.first
    · rw [if_neg (fun q => c (h.large.mp ((isLarge_iff k x y).mp q)))]
      obtain ⟨s, e1, _, B⟩ := stepBack_spec k (x := x) (z := y) ((wn_iff k x).mpr W) ((pt_iff k x y).mpr h.py)
      have e2 : Kzv2.before m x y = Kzv1.sub y s := by
        unfold Kzv2.before
        rw [e1]
      rw [e2]
      obtain ⟨l', hl', h'⟩ := h.back K c B
      exact under_is k W K n _ l' h' (by omega)
theorem parent_par (k : OkM m) {x : Win} {z : Z} {p g : R m} {l : List (R m)} (W : Wn m (show R m from x.u) (show R m from x.v)) (K : Kp (show R m from x.u) (show R m from x.v)) (h : Par m (show R m from x.u) (show R m from x.v) p g z l) (hl : l.length < 200) : Kzv4.parent m x z = Kzv4.small m (show Z from (ww * ww * p : R m)) := by
  unfold Kzv4.parent
  rw [under_is k W K 200 z l h (by omega)]
/-- the first part from which the step leads to this point -/
theorem pickBack [k : OkM m] {u v r f z s : R m} (h : RF m (v - u) r f) (B : Bk m u v z s) (hz : Pt u v z) : ∃ d l, (mkParts m u v r f).filter (fun d => within (pt (z - d.s)) d.lo d.hi) = d :: l ∧ d ∈ mkParts m u v r f ∧ d.s = s := by
  have N := B.nx hz
  obtain ⟨d0, hd0, h1, h2⟩ := parts_ex h B.pt.1 B.pt.2
  have n0 := (parts_nx h hd0 h1 h2).1
  rw [pt_pt] at n0
  have e0 := n0.uniq N
  have hm : d0 ∈ (mkParts m u v r f).filter (fun d => within (pt (z - d.s)) d.lo d.hi) := List.mem_filter.mpr ⟨hd0, by
    rw [e0]
    exact (within_iff k _ _ _).mpr ⟨h1, h2⟩⟩
  cases e : (mkParts m u v r f).filter (fun d => within (pt (z - d.s)) d.lo d.hi) with
  | nil => rw [e] at hm; cases hm
  | cons y l =>
    have hy : y ∈ (mkParts m u v r f).filter (fun d => within (pt (z - d.s)) d.lo d.hi) := by rw [e]; simp
    rw [List.mem_filter] at hy
    have q := (within_iff k _ _ _).mp hy.2
    have n := parts_nx h hy.1 q.1 q.2
    have n1 := n.1
    rw [pt_pt] at n1
    have B1 := n1.bk n.2
    rw [show z - y.s + y.s = z by grind] at B1
    exact ⟨y, l, rfl, hy.1, B1.uniq B⟩
def parent (m : Int) (xs zs : List Int) : List Int := if refusal m xs zs = 0 then (match xs, zs with
  | [a, b, c, d], [e, f] => [0, (Kzv4.parent m.toNat ⟨⟨a, b⟩, ⟨c, d⟩⟩ ⟨e, f⟩).a, (Kzv4.parent m.toNat ⟨⟨a, b⟩, ⟨c, d⟩⟩ ⟨e, f⟩).b]
  | _, _ => []) else [refusal m xs zs]
theorem parent_0 {m : Int} {a b c d e f : Int} (hr : refusal m [a, b, c, d] [e, f] = 0) : parent m [a, b, c, d] [e, f] = [0, (Kzv4.parent m.toNat ⟨⟨a, b⟩, ⟨c, d⟩⟩ ⟨e, f⟩).a, (Kzv4.parent m.toNat ⟨⟨a, b⟩, ⟨c, d⟩⟩ ⟨e, f⟩).b] := by
  unfold parent
  rw [if_pos hr]
theorem parent_is {m : Int} (h0 : 0 ≤ m) (xs zs : List Int) : PyKzv4.parent m xs zs = parent m xs zs := by
  show (Kzv4.answer (.parent m.toNat xs zs)).value :: (Kzv4.answer (.parent m.toNat xs zs)).nums = _
  unfold Kzv4.answer
  dsimp only
  by_cases hr : refusal m xs zs = 0
  · obtain ⟨a, b, c, d, e, f, rfl, rfl⟩ := refusal_lists hr
    rw [withK_yes hr, parent_0 hr]
    rfl
  · rw [withK_no h0 hr]
    unfold parent
    rw [if_neg hr]
end Ml
namespace Mh
open PySem PySem.Spec PyProof.Rows L2
def topS (i : Nat) : Stmt := PySem.Challenge.pw_madelarger_s05_parent.main.body.getD i (.Pass ⟨0, 0, 0, 0⟩)
abbrev s_parent : Stmt := topS 6
abbrev N_parent : List Str := ["m", "x", "z", "refused", "parts", "point"]
theorem sc_parent : FnScope N_parent ["m", "x", "z"] (defScope s_parent) := ⟨rfl, rfl, rfl, by decide +kernel, rfl, by decide +kernel, by decide +kernel⟩
abbrev s_point_refusal : Stmt := topS 7
abbrev N_point_refusal : List Str := ["m", "x", "z"]
theorem sc_point_refusal : FnScope N_point_refusal ["m", "x", "z"] (defScope s_point_refusal) := ⟨rfl, rfl, rfl, by decide +kernel, rfl, by decide +kernel, by decide +kernel⟩
abbrev s_is_window : Stmt := topS 8
abbrev N_is_window : List Str := ["m", "x"]
theorem sc_is_window : FnScope N_is_window ["m", "x"] (defScope s_is_window) := ⟨rfl, rfl, rfl, by decide +kernel, rfl, by decide +kernel, by decide +kernel⟩
abbrev s_is_told : Stmt := topS 9
abbrev N_is_told : List Str := ["parts", "count", "part"]
theorem sc_is_told : FnScope N_is_told ["parts", "count"] (defScope s_is_told) := ⟨rfl, rfl, rfl, by decide +kernel, rfl, by decide +kernel, by decide +kernel⟩
abbrev s_keeps_points : Stmt := topS 10
abbrev N_keeps_points : List Str := ["m", "x", "smaller"]
theorem sc_keeps_points : FnScope N_keeps_points ["m", "x"] (defScope s_keeps_points) := ⟨rfl, rfl, rfl, by decide +kernel, rfl, by decide +kernel, by decide +kernel⟩
abbrev s_smaller_window : Stmt := topS 11
abbrev N_smaller_window : List Str := ["m", "x"]
theorem sc_smaller_window : FnScope N_smaller_window ["m", "x"] (defScope s_smaller_window) := ⟨rfl, rfl, rfl, by decide +kernel, rfl, by decide +kernel, by decide +kernel⟩
abbrev s_is_point : Stmt := topS 12
abbrev N_is_point : List Str := ["m", "x", "z"]
theorem sc_is_point : FnScope N_is_point ["m", "x", "z"] (defScope s_is_point) := ⟨rfl, rfl, rfl, by decide +kernel, rfl, by decide +kernel, by decide +kernel⟩
abbrev s_comes_larger : Stmt := topS 13
abbrev N_comes_larger : List Str := ["m", "x", "point"]
theorem sc_comes_larger : FnScope N_comes_larger ["m", "x", "point"] (defScope s_comes_larger) := ⟨rfl, rfl, rfl, by decide +kernel, rfl, by decide +kernel, by decide +kernel⟩
abbrev s_Part_init : Stmt := inClass (topS 14) 0
abbrev N_Part_init : List Str := ["self", "step", "low", "high"]
theorem sc_Part_init : FnScope N_Part_init ["self", "step", "low", "high"] (defScope s_Part_init) := ⟨rfl, rfl, rfl, by decide +kernel, rfl, by decide +kernel, by decide +kernel⟩
abbrev s_window_parts : Stmt := topS 15
abbrev N_window_parts : List Str := ["m", "x", "u", "v", "steps", "rising", "falling", "parts"]
theorem sc_window_parts : FnScope N_window_parts ["m", "x"] (defScope s_window_parts) := ⟨rfl, rfl, rfl, by decide +kernel, rfl, by decide +kernel, by decide +kernel⟩
abbrev s_rising_and_falling : Stmt := topS 16
abbrev N_rising_and_falling : List Str := ["m", "length", "rising", "falling", "both"]
theorem sc_rising_and_falling : FnScope N_rising_and_falling ["m", "length"] (defScope s_rising_and_falling) := ⟨rfl, rfl, rfl, by decide +kernel, rfl, by decide +kernel, by decide +kernel⟩
abbrev s_point_before : Stmt := topS 17
abbrev N_point_before : List Str := ["m", "parts", "point", "part"]
theorem sc_point_before : FnScope N_point_before ["m", "parts", "point"] (defScope s_point_before) := ⟨rfl, rfl, rfl, by decide +kernel, rfl, by decide +kernel, by decide +kernel⟩
abbrev s_leads_from : Stmt := topS 18
abbrev N_leads_from : List Str := ["m", "part", "number"]
theorem sc_leads_from : FnScope N_leads_from ["m", "part", "number"] (defScope s_leads_from) := ⟨rfl, rfl, rfl, by decide +kernel, rfl, by decide +kernel, by decide +kernel⟩
abbrev s_partner : Stmt := topS 19
abbrev N_partner : List Str := ["m", "number"]
theorem sc_partner : FnScope N_partner ["m", "number"] (defScope s_partner) := ⟨rfl, rfl, rfl, by decide +kernel, rfl, by decide +kernel, by decide +kernel⟩
abbrev s_made_larger : Stmt := topS 20
abbrev N_made_larger : List Str := ["m", "number", "a", "b"]
theorem sc_made_larger : FnScope N_made_larger ["m", "number"] (defScope s_made_larger) := ⟨rfl, rfl, rfl, by decide +kernel, rfl, by decide +kernel, by decide +kernel⟩
abbrev s_made_smaller : Stmt := topS 21
abbrev N_made_smaller : List Str := ["m", "number", "a", "b"]
theorem sc_made_smaller : FnScope N_made_smaller ["m", "number"] (defScope s_made_smaller) := ⟨rfl, rfl, rfl, by decide +kernel, rfl, by decide +kernel, by decide +kernel⟩
abbrev s_plus : Stmt := topS 22
abbrev N_plus : List Str := ["number", "other"]
theorem sc_plus : FnScope N_plus ["number", "other"] (defScope s_plus) := ⟨rfl, rfl, rfl, by decide +kernel, rfl, by decide +kernel, by decide +kernel⟩
abbrev s_minus : Stmt := topS 23
abbrev N_minus : List Str := ["number", "other"]
theorem sc_minus : FnScope N_minus ["number", "other"] (defScope s_minus) := ⟨rfl, rfl, rfl, by decide +kernel, rfl, by decide +kernel, by decide +kernel⟩
abbrev s_lies_within : Stmt := topS 24
abbrev N_lies_within : List Str := ["m", "number", "low", "high"]
theorem sc_lies_within : FnScope N_lies_within ["m", "number", "low", "high"] (defScope s_lies_within) := ⟨rfl, rfl, rfl, by decide +kernel, rfl, by decide +kernel, by decide +kernel⟩
abbrev s_is_below : Stmt := topS 25
abbrev N_is_below : List Str := ["m", "number", "other", "apart", "q", "p"]
theorem sc_is_below : FnScope N_is_below ["m", "number", "other"] (defScope s_is_below) := ⟨rfl, rfl, rfl, by decide +kernel, rfl, by decide +kernel, by decide +kernel⟩
structure Ad where
  a_parent : Addr
  d_parent : FuncData
  a_point_refusal : Addr
  d_point_refusal : FuncData
  a_is_window : Addr
  d_is_window : FuncData
  a_is_told : Addr
  d_is_told : FuncData
  a_keeps_points : Addr
  d_keeps_points : FuncData
  a_smaller_window : Addr
  d_smaller_window : FuncData
  a_is_point : Addr
  d_is_point : FuncData
  a_comes_larger : Addr
  d_comes_larger : FuncData
  a_Part_init : Addr
  d_Part_init : FuncData
  a_window_parts : Addr
  d_window_parts : FuncData
  a_rising_and_falling : Addr
  d_rising_and_falling : FuncData
  a_point_before : Addr
  d_point_before : FuncData
  a_leads_from : Addr
  d_leads_from : FuncData
  a_partner : Addr
  d_partner : FuncData
  a_made_larger : Addr
  d_made_larger : FuncData
  a_made_smaller : Addr
  d_made_smaller : FuncData
  a_plus : Addr
  d_plus : FuncData
  a_minus : Addr
  d_minus : FuncData
  a_lies_within : Addr
  d_lies_within : FuncData
  a_is_below : Addr
  d_is_below : FuncData
  c_Part : Addr
  t_WRONG_INPUT : Tok
  t_NOT_KEPT : Tok
  t_NO_POINT : Tok
  t_LARGEST_M : Tok
  t_LARGEST_PART : Tok
structure Txt (K : PySem.W.Frag) (mg : Str → Option Value) (A : Ad) : Prop where
  f_parent : Fun K "parent" "parent" s_parent A.a_parent A.d_parent
  b_parent : Binds K A.d_parent ["m", "x", "z"] []
  g_parent : mg "parent" = some (.ref A.a_parent)
  f_point_refusal : Fun K "point_refusal" "point_refusal" s_point_refusal A.a_point_refusal A.d_point_refusal
  b_point_refusal : Binds K A.d_point_refusal ["m", "x", "z"] []
  g_point_refusal : mg "point_refusal" = some (.ref A.a_point_refusal)
  f_is_window : Fun K "is_window" "is_window" s_is_window A.a_is_window A.d_is_window
  b_is_window : Binds K A.d_is_window ["m", "x"] []
  g_is_window : mg "is_window" = some (.ref A.a_is_window)
  f_is_told : Fun K "is_told" "is_told" s_is_told A.a_is_told A.d_is_told
  b_is_told : Binds K A.d_is_told ["parts", "count"] []
  g_is_told : mg "is_told" = some (.ref A.a_is_told)
  f_keeps_points : Fun K "keeps_points" "keeps_points" s_keeps_points A.a_keeps_points A.d_keeps_points
  b_keeps_points : Binds K A.d_keeps_points ["m", "x"] []
  g_keeps_points : mg "keeps_points" = some (.ref A.a_keeps_points)
  f_smaller_window : Fun K "smaller_window" "smaller_window" s_smaller_window A.a_smaller_window A.d_smaller_window
  b_smaller_window : Binds K A.d_smaller_window ["m", "x"] []
  g_smaller_window : mg "smaller_window" = some (.ref A.a_smaller_window)
  f_is_point : Fun K "is_point" "is_point" s_is_point A.a_is_point A.d_is_point
  b_is_point : Binds K A.d_is_point ["m", "x", "z"] []
  g_is_point : mg "is_point" = some (.ref A.a_is_point)
  f_comes_larger : Fun K "comes_larger" "comes_larger" s_comes_larger A.a_comes_larger A.d_comes_larger
  b_comes_larger : Binds K A.d_comes_larger ["m", "x", "point"] []
  g_comes_larger : mg "comes_larger" = some (.ref A.a_comes_larger)
  f_Part_init : Fun K "__init__" "Part.__init__" s_Part_init A.a_Part_init A.d_Part_init
  b_Part_init : Binds K A.d_Part_init ["self", "step", "low", "high"] []
  f_window_parts : Fun K "window_parts" "window_parts" s_window_parts A.a_window_parts A.d_window_parts
  b_window_parts : Binds K A.d_window_parts ["m", "x"] []
  g_window_parts : mg "window_parts" = some (.ref A.a_window_parts)
  f_rising_and_falling : Fun K "rising_and_falling" "rising_and_falling" s_rising_and_falling A.a_rising_and_falling A.d_rising_and_falling
  b_rising_and_falling : Binds K A.d_rising_and_falling ["m", "length"] []
  g_rising_and_falling : mg "rising_and_falling" = some (.ref A.a_rising_and_falling)
  f_point_before : Fun K "point_before" "point_before" s_point_before A.a_point_before A.d_point_before
  b_point_before : Binds K A.d_point_before ["m", "parts", "point"] []
  g_point_before : mg "point_before" = some (.ref A.a_point_before)
  f_leads_from : Fun K "leads_from" "leads_from" s_leads_from A.a_leads_from A.d_leads_from
  b_leads_from : Binds K A.d_leads_from ["m", "part", "number"] []
  g_leads_from : mg "leads_from" = some (.ref A.a_leads_from)
  f_partner : Fun K "partner" "partner" s_partner A.a_partner A.d_partner
  b_partner : Binds K A.d_partner ["m", "number"] []
  g_partner : mg "partner" = some (.ref A.a_partner)
  f_made_larger : Fun K "made_larger" "made_larger" s_made_larger A.a_made_larger A.d_made_larger
  b_made_larger : Binds K A.d_made_larger ["m", "number"] []
  g_made_larger : mg "made_larger" = some (.ref A.a_made_larger)
  f_made_smaller : Fun K "made_smaller" "made_smaller" s_made_smaller A.a_made_smaller A.d_made_smaller
  b_made_smaller : Binds K A.d_made_smaller ["m", "number"] []
  g_made_smaller : mg "made_smaller" = some (.ref A.a_made_smaller)
  f_plus : Fun K "plus" "plus" s_plus A.a_plus A.d_plus
  b_plus : Binds K A.d_plus ["number", "other"] []
  g_plus : mg "plus" = some (.ref A.a_plus)
  f_minus : Fun K "minus" "minus" s_minus A.a_minus A.d_minus
  b_minus : Binds K A.d_minus ["number", "other"] []
  g_minus : mg "minus" = some (.ref A.a_minus)
  f_lies_within : Fun K "lies_within" "lies_within" s_lies_within A.a_lies_within A.d_lies_within
  b_lies_within : Binds K A.d_lies_within ["m", "number", "low", "high"] []
  g_lies_within : mg "lies_within" = some (.ref A.a_lies_within)
  f_is_below : Fun K "is_below" "is_below" s_is_below A.a_is_below A.d_is_below
  b_is_below : Binds K A.d_is_below ["m", "number", "other"] []
  g_is_below : mg "is_below" = some (.ref A.a_is_below)
  cl_Part : Cls K A.c_Part
  mk_Part : Mk K A.c_Part A.a_Part_init
  g_Part : mg "Part" = some (.ref A.c_Part)
  n_Part_step : NoAttr K A.c_Part "step"
  n_Part_low : NoAttr K A.c_Part "low"
  n_Part_high : NoAttr K A.c_Part "high"
  g_WRONG_INPUT : mg "WRONG_INPUT" = some (.int (-22) A.t_WRONG_INPUT)
  g_NOT_KEPT : mg "NOT_KEPT" = some (.int (-33) A.t_NOT_KEPT)
  g_NO_POINT : mg "NO_POINT" = some (.int (-2) A.t_NO_POINT)
  g_LARGEST_M : mg "LARGEST_M" = some (.int (4) A.t_LARGEST_M)
  g_LARGEST_PART : mg "LARGEST_PART" = some (.int (1000000) A.t_LARGEST_PART)
  z_all : mg "all" = none
  z_abs : mg "abs" = none
  z_len : mg "len" = none
/-! ### small helps -/
def Bd (n : Int) : Prop := -1000000000000 ≤ n ∧ n ≤ 1000000000000
def Bs (n : Int) : Prop := -1000000 ≤ n ∧ n ≤ 1000000
theorem Bs.bd {n : Int} (h : Bs n) : Bd n := by
  unfold Bs at h
  unfold Bd
  omega
theorem mul_bd {m x n : Int} (h1 : 1 ≤ m) (h4 : m ≤ 4) (h : -n ≤ x ∧ x ≤ n) : -(4 * n) ≤ m * x ∧ m * x ≤ 4 * n := by
  have hm : m = 1 ∨ m = 2 ∨ m = 3 ∨ m = 4 := by omega
  rcases hm with rfl | rfl | rfl | rfl <;> omega
theorem mm_bd {m : Int} (h1 : 1 ≤ m) (h4 : m ≤ 4) : 1 ≤ m * m ∧ m * m ≤ 16 := by
  have hm : m = 1 ∨ m = 2 ∨ m = 3 ∨ m = 4 := by omega
  rcases hm with rfl | rfl | rfl | rfl <;> omega
theorem mm4_bd {m x n : Int} (h1 : 1 ≤ m) (h4 : m ≤ 4) (h : -n ≤ x ∧ x ≤ n) : -(20 * n) ≤ (m * m + 4) * x ∧ (m * m + 4) * x ≤ 20 * n := by
  have hm : m = 1 ∨ m = 2 ∨ m = 3 ∨ m = 4 := by omega
  rcases hm with rfl | rfl | rfl | rfl <;> omega
theorem small_bd {m a b : Int} (h1 : 1 ≤ m) (h4 : m ≤ 4) (ha : Bs a) (hb : Bs b) : Bd (Ml.smallA m a b) ∧ Bd (Ml.smallB m a b) := by
  unfold Bs at ha hb
  unfold Bd Ml.smallA Ml.smallB
  have hm : m = 1 ∨ m = 2 ∨ m = 3 ∨ m = 4 := by omega
  rcases hm with rfl | rfl | rfl | rfl <;> omega
def Bp (n : Int) : Prop := -10000000000 ≤ n ∧ n ≤ 10000000000
theorem partner_bd {m e f : Int} (h1 : 1 ≤ m) (h4 : m ≤ 4) (he : Bp e) (hf : Bp f) : Bd (e + m * f) ∧ Bd (-f) := by
  unfold Bp at he hf
  unfold Bd
  have hm : m = 1 ∨ m = 2 ∨ m = 3 ∨ m = 4 := by omega
  rcases hm with rfl | rfl | rfl | rfl <;> omega
theorem same_upd {H : Hp} {p : Addr} {o : HO} (h : H p = none) : Same H (upd H p o) := fun b x e => by
  rw [upd_ne (ne_of_none e h)]
  exact e
theorem dec_int (i j : Int) : decide (V.int i = V.int j) = decide (i = j) := by
  by_cases h : i = j
  · subst h
    simp
  · rw [decide_eq_false h, decide_eq_false (fun z => h (V.int.inj z))]
theorem get_map {α : Type} {f : Int → α} {ns : List Int} {i : Nat} {y : α} (hi : (ns.map f)[i]? = some y) : ∃ z, ns[i]? = some z ∧ y = f z := by
  rw [List.getElem?_map] at hi
  cases e : ns[i]? with
  | none =>
    rw [e] at hi
    cases hi
  | some z =>
    rw [e] at hi
    exact ⟨z, rfl, (Option.some.inj hi).symm⟩
theorem take_more {α : Type} : ∀ {l : List α} {i : Nat} {x : α}, l[i]? = some x → l.take (i + 1) = l.take i ++ [x]
  | [], i, x, h => by simp at h
  | a :: l, 0, x, h => by
    have e : a = x := Option.some.inj h
    subst e
    rfl
  | a :: l, i + 1, x, h => by
    have ih := take_more (l := l) (i := i) (x := x) h
    show a :: l.take (i + 1) = a :: l.take i ++ [x]
    rw [ih]
    rfl

/-! ### numbers, parts and ways in the heap -/
abbrev zl (x : Kzv1.Z) : List V := [.int x.a, .int x.b]
/-- at p stands the number x -/
def Nm (H : Hp) (p : Addr) (x : Kzv1.Z) : Prop := H p = some (.lst (zl x))
theorem Nm.same {H H' : Hp} {p : Addr} {x : Kzv1.Z} (h : Nm H p x) (s : Same H H') : Nm H' p x := s _ _ h
theorem Nm.sq {K : PySem.W.Frag} {H : Hp} {p : Addr} {x : Kzv1.Z} (h : Nm H p x) : SqL K H p (zl x) := SqL.of h
theorem Nm.ne {H : Hp} {p q : Addr} {x : Kzv1.Z} {as : List Addr} (h : Nm H p x) (hq : H q = some (.lst (as.map V.ref))) : p ≠ q := ne_of h hq (by
  intro e
  injection e with e
  cases as with
  | nil => cases e
  | cons a l => injection e with e _; cases e)
theorem Nm.upd {H : Hp} {p q : Addr} {x : Kzv1.Z} {o : HO} (h : Nm H p x) (n : p ≠ q) : Nm (upd H q o) p x := by
  unfold Nm
  rw [upd_ne n]
  exact h
def Bn (n : Int) (x : Kzv1.Z) : Prop := (-n ≤ x.a ∧ x.a ≤ n) ∧ -n ≤ x.b ∧ x.b ≤ n
theorem Bn.mono {n k : Int} {x : Kzv1.Z} (h : Bn n x) (l : n ≤ k) : Bn k x := by
  unfold Bn at *
  omega
theorem Bn.add {n k : Int} {x y : Kzv1.Z} (h : Bn n x) (l : Bn k y) : Bn (n + k) (Kzv1.add x y) := by
  unfold Bn Kzv1.add at *
  dsimp only
  omega
theorem Bn.sub {n k : Int} {x y : Kzv1.Z} (h : Bn n x) (l : Bn k y) : Bn (n + k) (Kzv1.sub x y) := by
  unfold Bn Kzv1.sub at *
  dsimp only
  omega
theorem Bn.pt {m : Nat} (ok : Ml.OkM m) {n : Int} {x : Kzv1.Z} (h : Bn n x) : Bn (5 * n) (Kzv1.partner m x) := by
  unfold Bn Kzv1.partner at *
  dsimp only
  rcases Ml.four ok with rfl | rfl | rfl | rfl <;> omega
theorem Bn.large {m : Nat} (ok : Ml.OkM m) {n : Int} {x : Kzv1.Z} (h : Bn n x) : Bn (21 * n) (Kzv4.large m x) := by
  obtain ⟨a, b⟩ := x
  rw [Ml.large_eq]
  unfold Bn Ml.largeA Ml.largeB at *
  dsimp only at *
  rcases Ml.four ok with rfl | rfl | rfl | rfl <;> omega
theorem Bn.small {m : Nat} (ok : Ml.OkM m) {n : Int} {x : Kzv1.Z} (h : Bn n x) : Bn (21 * n) (Kzv4.small m x) := by
  obtain ⟨a, b⟩ := x
  rw [Ml.small_eq]
  unfold Bn Ml.smallA Ml.smallB at *
  dsimp only at *
  rcases Ml.four ok with rfl | rfl | rfl | rfl <;> omega
theorem Bn.of {n : Int} {a b : Int} (ha : -n ≤ a ∧ a ≤ n) (hb : -n ≤ b ∧ b ≤ n) : Bn n ⟨a, b⟩ := ⟨ha, hb⟩
theorem ok_le {m : Nat} (ok : Ml.OkM m) : 1 ≤ (m : Int) ∧ (m : Int) ≤ 4 := by
  have := ok.h1
  have := ok.h4
  omega
theorem ok_of {m : Int} (h1 : 1 ≤ m) (h4 : m ≤ 4) : ∃ n : Nat, m = n ∧ Ml.OkM n := ⟨m.toNat, by omega, ⟨by omega, by omega⟩⟩
/-- pairs -/
def All2 {α β : Type} (F : α → β → Prop) : List α → List β → Prop
  | [], [] => True
  | a :: l, b :: r => F a b ∧ All2 F l r
  | _, _ => False
theorem All2.len {α β : Type} {F : α → β → Prop} : ∀ {l : List α} {r : List β}, All2 F l r → l.length = r.length
  | [], [], _ => rfl
  | _ :: _, _ :: _, h => by
    rw [List.length_cons, List.length_cons, All2.len h.2]
theorem All2.imp {α β : Type} {F G : α → β → Prop} (i : ∀ a b, F a b → G a b) : ∀ {l : List α} {r : List β}, All2 F l r → All2 G l r
  | [], [], _ => trivial
  | _ :: _, _ :: _, h => ⟨i _ _ h.1, All2.imp i h.2⟩
theorem All2.app {α β : Type} {F : α → β → Prop} : ∀ {l l2 : List α} {r r2 : List β}, All2 F l r → All2 F l2 r2 → All2 F (l ++ l2) (r ++ r2)
  | [], _, [], _, _, h => h
  | _ :: _, _, _ :: _, _, h, h2 => ⟨h.1, All2.app h.2 h2⟩
theorem All2.one {α β : Type} {F : α → β → Prop} {a : α} {b : β} (h : F a b) : All2 F [a] [b] := ⟨h, trivial⟩
theorem All2.rev {α β : Type} {F : α → β → Prop} : ∀ {l : List α} {r : List β}, All2 F l r → All2 F l.reverse r.reverse
  | [], [], _ => trivial
  | _ :: _, _ :: _, h => by
    rw [List.reverse_cons, List.reverse_cons]
    exact All2.app (All2.rev h.2) (All2.one h.1)
theorem All2.get {α β : Type} {F : α → β → Prop} : ∀ {l : List α} {r : List β} {i : Nat} {a : α}, All2 F l r → l[i]? = some a → ∃ b, r[i]? = some b ∧ F a b
  | _ :: _, b :: _, 0, _, h, e => ⟨b, rfl, by rw [← Option.some.inj e]; exact h.1⟩
  | _ :: l, _ :: r, i + 1, a, h, e => All2.get (l := l) (r := r) (i := i) (a := a) h.2 e
theorem All2.last {α β : Type} {F : α → β → Prop} {l : List α} {a : α} : ∀ {r : List β}, All2 F (l ++ [a]) r → ∃ r' b, r = r' ++ [b] ∧ All2 F l r' ∧ F a b := by
  induction l with
  | nil =>
    intro r h
    match r, h with
    | [b], h => exact ⟨[], b, rfl, trivial, h.1⟩
  | cons x l ih =>
    intro r h
    match r, h with
    | b :: r, h =>
      obtain ⟨r', c, e, h1, h2⟩ := ih h.2
      exact ⟨b :: r', c, by rw [e]; rfl, ⟨h.1, h1⟩, h2⟩
theorem get_ref {ps : List Addr} {i : Nat} {y : V} (hi : (ps.map V.ref)[i]? = some y) : ∃ p, ps[i]? = some p ∧ y = .ref p := by
  rw [List.getElem?_map] at hi
  cases e : ps[i]? with
  | none =>
    rw [e] at hi
    cases hi
  | some z =>
    rw [e] at hi
    exact ⟨z, rfl, (Option.some.inj hi).symm⟩
/-- a new instance, filled by its __init__ -/
theorem made_same {H H2 : Hp} {x dx C : Addr} (nx : H x = none) (nd : H dx = none) (e : ∀ b, b ≠ x → H2 b = (upd (upd H dx (.own x)) x (.ins C dx [])) b) : Same H H2 := fun b o h => by
  have n1 := ne_of_none h nx
  rw [e b n1, upd_ne n1, upd_ne (ne_of_none h nd)]
  exact h

theorem pe_fldK {X : Cx} {K : PySem.W.Frag} {e : Expr} {ta : TE} {f : Str} {pos : Pos} (he : PE X e ta) (hK : X.K = K) (hb : attributeBase e f X.env (eval e X.env) = eval e X.env) : PE X (.Attribute e f pos) (tFld K ta f) := by
  subst hK
  exact pe_fld he hb
def fPart (a b c : V) : List (Str × V) := putF "high" c (putF "low" b (putF "step" a []))
theorem fPart2 (a b : V) : putF "low" b (putF "step" a []) = ([("step", a), ("low", b)] : List (Str × V)) := by
  show (if ("step" : Str) = "low" then _ else (("step" : Str), a) :: putF "low" b []) = ([("step", a), ("low", b)] : List (Str × V))
  rw [if_neg (by decide +kernel)]
  rfl
theorem fPart_step (a b c : V) : (fPart a b c).lookup ("step" : Str) = some a := by
  unfold fPart
  rw [lookup_putF, if_neg (by decide +kernel), lookup_putF, if_neg (by decide +kernel), lookup_putF, if_pos rfl]
theorem fPart_low (a b c : V) : (fPart a b c).lookup ("low" : Str) = some b := by
  unfold fPart
  rw [lookup_putF, if_neg (by decide +kernel), lookup_putF, if_pos rfl]
theorem fPart_high (a b c : V) : (fPart a b c).lookup ("high" : Str) = some c := by
  unfold fPart
  rw [lookup_putF, if_pos rfl]
/-- at p stands a part -/
def Prt {m : Nat} (C : Addr) (H : Hp) (p : Addr) (d : Ml.PD m) : Prop := ∃ dx a b c, H p = some (.ins C dx (fPart (.ref a) (.ref b) (.ref c))) ∧ Nm H a d.s ∧ Nm H b d.lo ∧ Nm H c d.hi
theorem Prt.same {m : Nat} {C : Addr} {H H' : Hp} {p : Addr} {d : Ml.PD m} (h : Prt C H p d) (s : Same H H') : Prt C H' p d :=
  let ⟨dx, a, b, c, h1, h2, h3, h4⟩ := h
  ⟨dx, a, b, c, s _ _ h1, h2.same s, h3.same s, h4.same s⟩
/-- no number of a part is great -/
def Pb {m : Nat} (d : Ml.PD m) : Prop := Bn 120 d.s ∧ Bn 3000000 d.lo ∧ Bn 3000000 d.hi
/-- two numbers compared -/
def zd (x : Kzv1.Z) : PyData := .list [.int x.a, .int x.b]
theorem zd_dp {K : PySem.W.Frag} {H : Hp} {p : Addr} {x : Kzv1.Z} (h : SqL K H p (zl x)) : Dp K H (.ref p) (zd x) := Dp.lst h (.cons (.int _) (.cons (.int _) .nil))
theorem zd_ok (x : Kzv1.Z) : SeqAt.shaped (zd x) = true := by
  unfold SeqAt.shaped zd
  rfl
theorem zd_eqv (x y : Kzv1.Z) : PyData.eqv (zd x) (zd y) = decide (x = y) := by
  obtain ⟨a, b⟩ := x
  obtain ⟨c, d⟩ := y
  unfold zd
  rw [PyData.eqv, PyData.eqvAll, PyData.eqvAll, PyData.eqvAll, PyData.eqv, PyData.eqv]
  rw [Bool.eq_iff_iff]
  simp
/-- on the way to the two steps -/
def RFInv (m : Nat) (H : Hp) (p : Addr) (L : Ml.R m) (n : Nat) (σ : L2.St) (H' : Hp) : Prop := ∃ (a b : Addr) (r f : Ml.R m) (i : Nat) (v : Option V),
  σ = [some (.int m), some (.ref p), some (.ref a), some (.ref b), v] ∧ Same H H' ∧ Nm H' a r ∧ Nm H' b f ∧ Ml.Ch m L r f i ∧ n = 2 * m + 1 - i
theorem sm_bn {x : Kzv1.Z} (h : Ml.sm x = true) : Bn 60 x := by
  unfold Ml.sm at h
  simp only [Bool.and_eq_true, decide_eq_true_eq] at h
  unfold Bn
  omega
theorem take_all {α : Type} (l : List α) : l.take l.length = l := List.take_length
/-- the parts are no great numbers -/
theorem mk_pb {m : Nat} (ok : Ml.OkM m) {u v r f : Ml.R m} (hu : Bn 1000000 u) (hv : Bn 1000000 v) (hr : Bn 60 r) (hf : Bn 60 f) : ∀ d ∈ Ml.mkParts m u v r f, Pb d := fun d hd => by
  have hpr : Bn 300 (Ml.pt r) := (Bn.pt ok hr).mono (by decide)
  have hpf : Bn 300 (Ml.pt f) := (Bn.pt ok hf).mono (by decide)
  have h1 : Bn 3000000 (v - Ml.pt r) := (Bn.sub hv hpr).mono (by decide)
  have h2 : Bn 3000000 (u - Ml.pt f) := (Bn.sub hu hpf).mono (by decide)
  rcases (Ml.mem_mk ok d).mp hd with e | e | ⟨_, e⟩
  · subst e
    exact ⟨hr.mono (by decide), hu.mono (by decide), h1⟩
  · subst e
    exact ⟨hf.mono (by decide), h2, hv.mono (by decide)⟩
  · subst e
    exact ⟨(Bn.add hr hf).mono (by decide), h1, h2⟩
theorem mk_len {m : Nat} {u v r f : Ml.R m} : (Ml.mkParts m u v r f).length ≤ 3 := by
  unfold Ml.mkParts
  rw [List.length_append]
  split <;> split <;> (simp only [List.length_cons, List.length_nil]; omega)
/-- the rows of steps so far and to come -/
def PcInv (m : Nat) (B : Hp) (u v : Ml.R m) (p q ps R : Addr) (gl : Addr) (y : Ml.R m) (L : List (Ml.R m)) (w3 : V) (n : Nat) (σ : L2.St) (H' : Hp) : Prop := ∃ (a : Addr) (x : Ml.R m) (done rest : List (Ml.R m)) (as : List Addr) (w : Option V),
  σ = [some (.int m), some (.ref p), some (.ref q), some w3, some (.ref ps), some (.ref a), some (.ref gl), some (.ref R), w] ∧ Same B H' ∧ H' R = some (.lst (as.map V.ref)) ∧ All2 (Nm B) as done ∧ Nm H' a x ∧ a ≠ R ∧
  Ml.Path u v x rest y ∧ Ml.Pt u v x ∧ done ++ rest = L ∧ n = rest.length ∧ Bn (21000000 + 120 * (done.length : Int)) x

/-! ### helps for depth and parent -/
theorem bg_of {m : Nat} (ok : Ml.OkM m) {x : Ml.R m} (h : Bn 1000000 x) : Ml.Bg m ((6000000 : Int) : Ml.R m) x := by
  have h1 := Ml.Bg.of (N := 1000000) h.1 h.2
  have e : (6 * ((1000000 : Int) : Ml.R m)) = ((6000000 : Int) : Ml.R m) := Ml.R.ext (by show (6 * 1000000 + 0 * 0 : Int) = 6000000; omega) (by show (6 * 0 + 0 * 1000000 + (m : Int) * (0 * 0) : Int) = 0; omega)
  rw [e] at h1
  exact h1
theorem bg_bn {m : Nat} (ok : Ml.OkM m) {x : Ml.R m} (h : Ml.Bg m ((6000000 : Int) : Ml.R m) x) : Bn 66000000 x := by
  have h1 := h.back
  unfold Bn
  exact ⟨⟨by omega, by omega⟩, by omega, by omega⟩
/-- how often so far, how often still -/
def DpInv (K : PySem.W.Frag) (m : Nat) (H : Hp) (p : Addr) (u v : Ml.R m) (D : Nat) (n : Nat) (σ : L2.St) (H' : Hp) : Prop := ∃ (a : Addr) (y : Ml.R m) (c : Nat),
  σ = [some (.int m), some (.ref p), some (.ref a), some (.int ((c : Nat) : Int))] ∧ Same H H' ∧ SqL K H' a (zl y) ∧ c ≤ 20 ∧ c + Kzv4.depth m ⟨u, v⟩ (20 - c) y = D ∧ Ml.Bg m ((6000000 : Int) : Ml.R m) y ∧ n = 20 - c
/-- on the way back -/
def PaInv (K : PySem.W.Frag) (m : Nat) (B : Hp) (p q pl : Addr) (w3 : V) (u v P g : Ml.R m) (n : Nat) (σ : L2.St) (H' : Hp) : Prop := ∃ (a : Addr) (y : Ml.R m) (l : List (Ml.R m)),
  σ = [some (.int m), some (.ref p), some (.ref q), some w3, some (.ref pl), some (.ref a)] ∧ Same B H' ∧ SqL K H' a (zl y) ∧ Ml.Par m u v P g y l ∧ l.length < 200 ∧ Bn (1000000 + 120 * (200 - (l.length : Int))) y ∧ n = l.length

def sp_is_told (K : PySem.W.Frag) : Sp := fun vs H Q _ => ∃ (p : Addr) (xs : List Int) (n : Int), vs = [.ref p, .int n] ∧ SqL K H p (xs.map V.int) ∧ xs.length ≤ 1000 ∧
  ∀ H' : Hp, Same H H' → Q (.bl (Ml.told xs n)) H'
def sp_minus (K : PySem.W.Frag) : Sp := fun vs H Q _ => ∃ (p q : Addr) (x y : Kzv1.Z), vs = [.ref p, .ref q] ∧ SqL K H p (zl x) ∧ SqL K H q (zl y) ∧
  ∀ (H' : Hp) (r : Addr), Same H H' → H r = none → Nm H' r (Kzv1.sub x y) → Q (.ref r) H'
def sp_is_below (K : PySem.W.Frag) : Sp := fun vs H Q _ => ∃ (m : Nat) (p q : Addr) (x y : Kzv1.Z), vs = [.int m, .ref p, .ref q] ∧ SqL K H p (zl x) ∧ SqL K H q (zl y) ∧
  Ml.OkM m ∧ Bn 1000000000000 x ∧ Bn 1000000000000 y ∧ ∀ H' : Hp, Same H H' → Q (.bl (Kzv1.lt m x y)) H'
def sp_lies_within (K : PySem.W.Frag) : Sp := fun vs H Q _ => ∃ (m : Nat) (p q r : Addr) (x y z : Kzv1.Z), vs = [.int m, .ref p, .ref q, .ref r] ∧ SqL K H p (zl x) ∧ SqL K H q (zl y) ∧ SqL K H r (zl z) ∧
  Ml.OkM m ∧ Bn 1000000000000 x ∧ Bn 1000000000000 y ∧ Bn 1000000000000 z ∧ ∀ H' : Hp, Same H H' → Q (.bl (Ml.within (m := m) x y z)) H'
def sp_made_larger (K : PySem.W.Frag) : Sp := fun vs H Q _ => ∃ (m : Nat) (p : Addr) (x : Kzv1.Z), vs = [.int m, .ref p] ∧ SqL K H p (zl x) ∧ Ml.OkM m ∧
  ∀ (H' : Hp) (r : Addr), Same H H' → H r = none → Nm H' r (Kzv4.large m x) → Q (.ref r) H'
def sp_is_window (K : PySem.W.Frag) : Sp := fun vs H Q _ => ∃ (m : Int) (p : Addr) (xs : List Int), vs = [.int m, .ref p] ∧ SqL K H p (xs.map V.int) ∧ xs.length ≤ 1000 ∧
  ∀ H' : Hp, Same H H' → Q (.bl (Ml.isWin m xs)) H'
def sp_made_smaller (K : PySem.W.Frag) : Sp := fun vs H Q _ => ∃ (m : Nat) (p : Addr) (x : Kzv1.Z), vs = [.int m, .ref p] ∧ SqL K H p (zl x) ∧ Ml.OkM m ∧
  ∀ (H' : Hp) (r : Addr), Same H H' → H r = none → Nm H' r (Kzv4.small m x) → Q (.ref r) H'
def sp_smaller_window (K : PySem.W.Frag) : Sp := fun vs H Q _ => ∃ (m : Nat) (p : Addr) (u v : Kzv1.Z), vs = [.int m, .ref p] ∧ SqL K H p (zl u ++ zl v) ∧ Ml.OkM m ∧
  ∀ (H' : Hp) (r : Addr), Same H H' → H r = none → H' r = some (.lst (zl (Kzv4.small m u) ++ zl (Kzv4.small m v))) → Q (.ref r) H'
def sp_keeps_points (K : PySem.W.Frag) : Sp := fun vs H Q _ => ∃ (m : Nat) (p : Addr) (a b c d : Int), vs = [.int m, .ref p] ∧ SqL K H p [.int a, .int b, .int c, .int d] ∧ Ml.OkM m ∧
  Bs a ∧ Bs b ∧ Bs c ∧ Bs d ∧ ∀ H' : Hp, Same H H' → Q (.bl (Ml.keepsB m a b c d)) H'
def sp_partner (K : PySem.W.Frag) : Sp := fun vs H Q _ => ∃ (m : Nat) (p : Addr) (x : Kzv1.Z), vs = [.int m, .ref p] ∧ SqL K H p (zl x) ∧ Ml.OkM m ∧
  ∀ (H' : Hp) (r : Addr), Same H H' → H r = none → Nm H' r (Kzv1.partner m x) → Q (.ref r) H'
def sp_is_point (K : PySem.W.Frag) : Sp := fun vs H Q _ => ∃ (m : Nat) (p q : Addr) (a b c d e f : Int), vs = [.int m, .ref p, .ref q] ∧ SqL K H p [.int a, .int b, .int c, .int d] ∧ SqL K H q [.int e, .int f] ∧ Ml.OkM m ∧
  Bs a ∧ Bs b ∧ Bs c ∧ Bs d ∧ Bn 20000000000 ⟨e, f⟩ ∧ ∀ H' : Hp, Same H H' → Q (.bl (Ml.pointB m [a, b, c, d] [e, f])) H'
def sp_point_refusal (K : PySem.W.Frag) : Sp := fun vs H Q _ => ∃ (m : Int) (p q : Addr) (xs zs : List Int), vs = [.int m, .ref p, .ref q] ∧ SqL K H p (xs.map V.int) ∧ SqL K H q (zs.map V.int) ∧ xs.length ≤ 1000 ∧ zs.length ≤ 1000 ∧
  ∀ H' : Hp, Same H H' → Q (.int (Ml.refusal m xs zs)) H'
def sp_plus (K : PySem.W.Frag) : Sp := fun vs H Q _ => ∃ (p q : Addr) (x y : Kzv1.Z), vs = [.ref p, .ref q] ∧ SqL K H p (zl x) ∧ SqL K H q (zl y) ∧
  ∀ (H' : Hp) (r : Addr), Same H H' → H r = none → Nm H' r (Kzv1.add x y) → Q (.ref r) H'
def sp_rising_and_falling (K : PySem.W.Frag) : Sp := fun vs H Q _ => ∃ (m : Nat) (p : Addr) (L : Ml.R m), vs = [.int m, .ref p] ∧ SqL K H p (zl L) ∧ Ml.OkM m ∧ Bn 10000000 L ∧ 1 ≤ L ∧ L < Ml.ww * Ml.ww ∧
  ∀ (H' : Hp) (q a b : Addr) (r f : Ml.R m), Same H H' → H q = none → H' q = some (.lst [.ref a, .ref b]) → Nm H' a r → Nm H' b f → Ml.RF m L r f → Bn 60 r → Bn 60 f → Q (.ref q) H'
def sp_Part_init (K : PySem.W.Frag) (A : Ad) : Sp := fun vs H Q _ => ∃ (p dx : Addr) (a b c : V), vs = [.ref p, a, b, c] ∧ H p = some (.ins A.c_Part dx []) ∧
  ∀ H' : Hp, (∀ q, q ≠ p → H' q = H q) → H' p = some (.ins A.c_Part dx (fPart a b c)) → Q .non H'
def sp_window_parts (K : PySem.W.Frag) (A : Ad) : Sp := fun vs H Q _ => ∃ (m : Nat) (p : Addr) (u v : Ml.R m), vs = [.int m, .ref p] ∧ SqL K H p (zl u ++ zl v) ∧ Ml.OkM m ∧ Bn 1000000 u ∧ Bn 1000000 v ∧ Ml.Wn m u v ∧
  ∀ (H' : Hp) (q : Addr) (ps : List Addr) (r f : Ml.R m), Same H H' → H q = none → H' q = some (.lst (ps.map V.ref)) → All2 (Prt A.c_Part H') ps (Ml.mkParts m u v r f) → Ml.RF m (v - u) r f → (∀ d ∈ Ml.mkParts m u v r f, Pb d) → Q (.ref q) H'
def sp_comes_larger (K : PySem.W.Frag) : Sp := fun vs H Q _ => ∃ (m : Nat) (p q : Addr) (u v y : Kzv1.Z), vs = [.int m, .ref p, .ref q] ∧ SqL K H p (zl u ++ zl v) ∧ SqL K H q (zl y) ∧ Ml.OkM m ∧
  Bn 1000000 u ∧ Bn 1000000 v ∧ Bn 400000000 y ∧ ∀ H' : Hp, Same H H' → Q (.bl (Kzv4.isLarge m ⟨u, v⟩ y)) H'
def sp_leads_from (K : PySem.W.Frag) (A : Ad) : Sp := fun vs H Q _ => ∃ (m : Nat) (pp p : Addr) (d : Ml.PD m) (x : Ml.R m), vs = [.int m, .ref pp, .ref p] ∧ Prt A.c_Part H pp d ∧ Pb d ∧ SqL K H p (zl x) ∧ Ml.OkM m ∧ Bn 200000000 x ∧
  ∀ H' : Hp, Same H H' → Q (.bl (Ml.within (Ml.pt x) d.lo d.hi)) H'
def sp_point_before (K : PySem.W.Frag) (A : Ad) : Sp := fun vs H Q _ => ∃ (B : Hp) (m : Nat) (q p : Addr) (ps : List Addr) (ds : List (Ml.PD m)) (x : Ml.R m), vs = [.int m, .ref q, .ref p] ∧ SqL K H q (ps.map V.ref) ∧ Same B H ∧ All2 (Prt A.c_Part B) ps ds ∧ (∀ d ∈ ds, Pb d) ∧ SqL K H p (zl x) ∧ Ml.OkM m ∧ Bn 100000000 x ∧ ds.length ≤ 1000 ∧
  ∃ d l, ds.filter (fun d => Ml.within (Ml.pt (x - d.s)) d.lo d.hi) = d :: l ∧ ∀ (H' : Hp) (a : Addr), Same H H' → Nm H' a (x - d.s) → Q (.ref a) H'
def sp_parent (K : PySem.W.Frag) : Sp := fun vs H Q _ => ∃ (m : Int) (p q : Addr) (xs zs : List Int), vs = [.int m, .ref p, .ref q] ∧ SqL K H p (xs.map V.int) ∧ SqL K H q (zs.map V.int) ∧ xs.length ≤ 1000 ∧ zs.length ≤ 1000 ∧
  ∀ (H' : Hp) (r : Addr), H' r = some (.lst ((Ml.parent m xs zs).map V.int)) → Q (.ref r) H'
section
variable {P : Program} {w : World} {K : PySem.W.Frag} {mg : Str → Option Value} {base : Heap} {A : Ad}
set_option maxHeartbeats 4000000 in
theorem ok_is_told (T : Txt K mg A) : FnOk P w K mg base CX0 1 A.a_is_told A.d_is_told ["parts", "count"] (sp_is_told K) := by
  refine T.f_is_told.ok sc_is_told (fun vs H Q E h => ?_) (fun cdv AA outer s H vs Q E hr h => ?_)
  · obtain ⟨_, _, _, rfl, _⟩ := h
    rfl
  · obtain ⟨p, xs, n, rfl, hp, hl, k⟩ := h
    refine ⟨_, (pss_one (ps_ret (pe_and (pe_cmpR op_eq (pe_callB call_len_seq (by rfl) T.z_len PySem.boot_len (pa_cons (pv 0) pa_nil)) (pv 1) (nomark _)) (pe_one (pe_callB (cr_all rfl) (by rfl) T.z_all (by decide +kernel) (pa_cons (pe_lc (own := [("part", 2)]) (g := gName 2) (tt := tYes) rfl sc_is_told.nd (pi_list (pv 0)) (blkOk_by (N := N_is_told) (sc := defScope s_is_told) (by decide +kernel)) (fun _ _ _ _ _ => pg_name (i := 2) sc_is_told.nd rfl (.inl rfl)) (fun _ _ _ _ _ => by exact pts_nil) (fun _ _ _ _ _ => by exact (pe_cmpR op_le (pe_callB call_abs (by rfl) T.z_abs (by decide +kernel) (pa_cons (pv 2) pa_nil)) (pe_glob (v := .int (1000000)) rfl T.g_LARGEST_PART ⟨_, rfl⟩) (nomark _)))) pa_nil)))))), ?_⟩
    refine ⟨_, rfl, p, _, rfl, .inl hp, _, rfl, rfl, _, rfl, ?_⟩
    rw [dec_int, List.length_map]
    refine ite2 (fun e => ?_) (fun e => ?_)
    · refine ⟨_, rfl, p, rfl, ⟨_, hp⟩, fun D nD => ?_⟩
      refine lc_list (K := K) (a := p) (xs := xs.map V.int) (fun i H' => Same H H' ∧ H' D = some (.lst ((xs.take i).map (fun z => V.bl (decide (Ml.ab z ≤ 1000000)))))) ⟨same_upd nD, upd_same⟩ (fun i H' _ h => h.1.seq hp) ?_ ?_
      · rintro i y H' hi ⟨s1, e1⟩
        obtain ⟨z, hz, rfl⟩ := get_map hi
        refine ⟨rfl, ?_⟩
        unfold tYes
        dsimp only
        rw [if_pos rfl]
        refine ⟨_, rfl, _, rfl, _, _, rfl, rfl, _, e1, ?_, ?_, ?_⟩
        · rw [List.length_map, List.length_take]
          exact Nat.lt_of_le_of_lt (Nat.min_le_right _ _) (small1000 (by omega))
        · exact fun b o q => by
            rw [upd_ne (ne_of_none q nD)]
            exact s1 b o q
        · rw [upd_same, take_more hz, List.map_append]
          rfl
      · rintro H' ⟨s1, e1⟩
        rw [List.length_map, List.take_length] at e1
        refine ⟨D, xs.map (fun z => decide (Ml.ab z ≤ 1000000)), rfl, .inl (.inl ?_), ?_⟩
        · rw [e1, List.map_map]
          rfl
        · have e2 : (xs.map (fun z => decide (Ml.ab z ≤ 1000000))).all id = Ml.told xs n := by
            unfold Ml.told
            rw [e, Bool.true_and, List.all_map]
            rfl
          rw [e2]
          exact k H' s1
    · have e2 : Ml.told xs n = false := by
        unfold Ml.told
        rw [Bool.eq_false_iff.mpr e, Bool.false_and]
      rw [← e2]
      exact k H (Same.refl H)
set_option maxHeartbeats 4000000 in
theorem ok_minus (T : Txt K mg A) : FnOk P w K mg base CX0 1 A.a_minus A.d_minus ["number", "other"] (sp_minus K) := by
  refine T.f_minus.ok sc_minus (fun vs H Q E h => ?_) (fun cdv AA outer s H vs Q E hr h => ?_)
  · obtain ⟨_, _, _, _, rfl, _⟩ := h
    rfl
  · obtain ⟨p, q, x, y, rfl, hp, hq, k⟩ := h
    refine ⟨_, (pss_one (ps_ret (pe_lst (pa_cons (pe_op op_sub (pe_ix ix_list (pv 0) pe_int (fun _ _ => rfl)) (pe_ix ix_list (pv 1) pe_int (fun _ _ => rfl))) (pa_cons (pe_op op_sub (pe_ix ix_list (pv 0) pe_int (fun _ _ => rfl)) (pe_ix ix_list (pv 1) pe_int (fun _ _ => rfl))) pa_nil))))), ?_⟩
    refine ⟨_, rfl, p, _, 0, .int x.a, rfl, rfl, hp, atI_nat (j := 0) rfl, _, rfl, q, _, 0, .int y.a, rfl, rfl, hq, atI_nat (j := 0) rfl, _, _, rfl, rfl, _, rfl, p, _, 1, .int x.b, rfl, rfl, hp, atI_nat (j := 1) rfl, _, rfl, q, _, 1, .int y.b, rfl, rfl, hq, atI_nat (j := 1) rfl, _, _, rfl, rfl, by show 2 ≤ sizeLine; decide, fun r nr => ?_⟩
    exact k _ r (same_upd nr) nr upd_same
set_option maxHeartbeats 4000000 in
theorem ok_is_below (T : Txt K mg A) : FnOk P w K mg base CX0 2 A.a_is_below A.d_is_below ["m", "number", "other"] (sp_is_below K) := by
  have G_minus := ok_minus (P := P) (w := w) (base := base) T
  refine T.f_is_below.ok sc_is_below (fun vs H Q E h => ?_) (fun cdv AA outer s H vs Q E hr h => ?_)
  · obtain ⟨_, _, _, _, _, rfl, _⟩ := h
    rfl
  · obtain ⟨m, p, q, x, y, rfl, hp, hq, ok, hx, hy, k⟩ := h
    refine ⟨_, (pss_cons (ps_set (i := 3) sc_is_below.nd rfl (.inl rfl) (pe_call G_minus (hr.mono (by decide)) (by rfl) T.g_minus T.f_minus.kp T.b_minus .nil pass0 (pa_cons (pv 1) (pa_cons (pv 2) pa_nil))))
      (pss_cons (ps_set (i := 4) sc_is_below.nd rfl (.inl rfl) (pe_ix ix_list (pv 3) pe_int (fun _ _ => rfl)))
      (pss_cons (ps_set (i := 5) sc_is_below.nd rfl (.inl rfl) (pe_op op_add (pe_op op_mul pe_int (pe_ix ix_list (pv 3) pe_int (fun _ _ => rfl))) (pe_op op_mul (pv 0) (pv 4))))
      (pss_one (ps_ret (pe_cmpR op_lt (pe_op op_add (pe_op op_mul (pv 5) (pe_callB call_abs (by rfl) T.z_abs (by decide +kernel) (pa_cons (pv 5) pa_nil))) (pe_op op_mul (pe_op op_mul (pe_op op_add (pe_op op_mul (pv 0) (pv 0)) pe_int) (pv 4)) (pe_callB call_abs (by rfl) T.z_abs (by decide +kernel) (pa_cons (pv 4) pa_nil)))) pe_int (nomark _))))))), ?_⟩
    obtain ⟨h1, h4⟩ := ok_le ok
    obtain ⟨a, b⟩ := x
    obtain ⟨c, d⟩ := y
    unfold Bn at hx hy
    dsimp only at hx hy
    have g1 := mul_bd (x := b - d) (n := 2000000000000) h1 h4 (by omega)
    have g2 := mm_bd h1 h4
    have g3 := mm4_bd (x := b - d) (n := 2000000000000) h1 h4 (by omega)
    refine ⟨_, rfl, _, rfl, p, q, _, _, rfl, hp, hq, fun H1 r s1 nr er => ?_⟩
    refine ⟨_, rfl, r, _, 1, .int (b - d), rfl, rfl, SqL.of er, atI_nat (j := 1) rfl, ?_⟩
    refine ⟨_, rfl, r, _, 0, .int (a - c), rfl, rfl, SqL.of er, atI_nat (j := 0) rfl, _, _, rfl, rfl, .inl ⟨by decide, by decide⟩, ?_⟩
    refine ⟨_, rfl, _, rfl, _, _, rfl, rfl, .inl ⟨by omega, by omega⟩, _, _, rfl, rfl, ?_⟩
    refine ⟨_, rfl, _, rfl, _, rfl, _, _, rfl, rfl, .inl ⟨by omega, by omega⟩, ?_⟩
    refine ⟨_, rfl, _, rfl, _, _, rfl, rfl, .inl ⟨by omega, by omega⟩, _, _, rfl, rfl, _, rfl, _, _, rfl, rfl, .inl ⟨by omega, by omega⟩, ?_⟩
    refine ⟨_, rfl, _, rfl, _, _, rfl, rfl, .inl ⟨by omega, by omega⟩, _, _, rfl, rfl, _, _, rfl, rfl, ?_⟩
    have := k H1 s1
    rw [Ml.lt_below ok.h1 ok.h4] at this
    exact this
set_option maxHeartbeats 4000000 in
theorem ok_lies_within (T : Txt K mg A) : FnOk P w K mg base CX0 3 A.a_lies_within A.d_lies_within ["m", "number", "low", "high"] (sp_lies_within K) := by
  have G_is_below := ok_is_below (P := P) (w := w) (base := base) T
  refine T.f_lies_within.ok sc_lies_within (fun vs H Q E h => ?_) (fun cdv AA outer s H vs Q E hr h => ?_)
  · obtain ⟨_, _, _, _, _, _, _, rfl, _⟩ := h
    rfl
  · obtain ⟨m, p, q, r, x, y, z, rfl, hp, hq, hz, ok, bx, bY, bz, k⟩ := h
    refine ⟨_, (pss_one (ps_ret (pe_and (pe_not (pe_call G_is_below (hr.mono (by decide)) (by rfl) T.g_is_below T.f_is_below.kp T.b_is_below .nil pass0 (pa_cons (pv 0) (pa_cons (pv 1) (pa_cons (pv 2) pa_nil))))) (pe_one (pe_call G_is_below (hr.mono (by decide)) (by rfl) T.g_is_below T.f_is_below.kp T.b_is_below .nil pass0 (pa_cons (pv 0) (pa_cons (pv 1) (pa_cons (pv 3) pa_nil)))))))), ?_⟩
    refine ⟨_, rfl, _, rfl, _, rfl, m, p, q, x, y, rfl, hp, hq, ok, bx, bY, fun H1 s1 => ?_⟩
    refine ⟨_, rfl, _, rfl, ?_⟩
    unfold Ml.within at k
    cases hx : Kzv1.lt m x y with
    | true =>
      refine iteF ?_
      have := k H1 s1
      rw [hx] at this
      exact this
    | false =>
      refine iteT ?_
      refine ⟨_, rfl, _, rfl, _, rfl, m, p, r, x, z, rfl, s1.seq hp, s1.seq hz, ok, bx, bz, fun H2 s2 => ?_⟩
      have := k H2 (s1.trans s2)
      rw [hx] at this
      exact this
set_option maxHeartbeats 4000000 in
theorem ok_made_larger (T : Txt K mg A) : FnOk P w K mg base CX0 1 A.a_made_larger A.d_made_larger ["m", "number"] (sp_made_larger K) := by
  refine T.f_made_larger.ok sc_made_larger (fun vs H Q E h => ?_) (fun cdv AA outer s H vs Q E hr h => ?_)
  · obtain ⟨_, _, _, rfl, _⟩ := h
    rfl
  · obtain ⟨m, p, x, rfl, hp, ok, k⟩ := h
    refine ⟨_, (pss_cons (ps_set (i := 2) sc_made_larger.nd rfl (.inl rfl) (pe_ix ix_list (pv 1) pe_int (fun _ _ => rfl)))
      (pss_cons (ps_set (i := 3) sc_made_larger.nd rfl (.inl rfl) (pe_ix ix_list (pv 1) pe_int (fun _ _ => rfl)))
      (pss_one (ps_ret (pe_lst (pa_cons (pe_op op_add (pv 2) (pe_op op_mul (pv 0) (pv 3))) (pa_cons (pe_op op_add (pe_op op_mul (pv 0) (pv 2)) (pe_op op_mul (pe_op op_add (pe_op op_mul (pv 0) (pv 0)) pe_int) (pv 3))) pa_nil))))))), ?_⟩
    obtain ⟨h1, h4⟩ := ok_le ok
    have g2 := mm_bd h1 h4
    obtain ⟨a, b⟩ := x
    rw [Ml.large_eq] at k
    refine ⟨_, rfl, p, _, 0, .int a, rfl, rfl, hp, atI_nat (j := 0) rfl, ?_⟩
    refine ⟨_, rfl, p, _, 1, .int b, rfl, rfl, hp, atI_nat (j := 1) rfl, ?_⟩
    refine ⟨_, rfl, _, rfl, _, rfl, _, _, rfl, rfl, .inl ⟨by omega, by omega⟩, _, _, rfl, rfl, ?_⟩
    refine ⟨_, rfl, _, rfl, _, _, rfl, rfl, .inl ⟨by omega, by omega⟩, _, rfl, _, rfl, _, _, rfl, rfl, .inl ⟨by omega, by omega⟩, _, _, rfl, rfl, _, rfl, _, _, rfl, rfl, .inl ⟨by omega, by omega⟩, _, _, rfl, rfl, ?_⟩
    refine ⟨by show 2 ≤ sizeLine; decide, fun r nr => ?_⟩
    exact k _ r (same_upd nr) nr upd_same
set_option maxHeartbeats 4000000 in
theorem ok_is_window (T : Txt K mg A) : FnOk P w K mg base CX0 4 A.a_is_window A.d_is_window ["m", "x"] (sp_is_window K) := by
  have G_is_told := ok_is_told (P := P) (w := w) (base := base) T
  have G_lies_within := ok_lies_within (P := P) (w := w) (base := base) T
  have G_made_larger := ok_made_larger (P := P) (w := w) (base := base) T
  have G_minus := ok_minus (P := P) (w := w) (base := base) T
  refine T.f_is_window.ok sc_is_window (fun vs H Q E h => ?_) (fun cdv AA outer s H vs Q E hr h => ?_)
  · obtain ⟨_, _, _, rfl, _⟩ := h
    rfl
  · obtain ⟨m, p, xs, rfl, hp, hl, k⟩ := h
    refine ⟨_, (pss_cons (ps_if (PW.pt (pw_or (pt_cmpR op_lt (pv 0) pe_int (nomark _)) (pw_or (pt_cmpR op_gt (pv 0) (pe_glob (v := .int (4)) rfl T.g_LARGEST_M ⟨_, rfl⟩) (nomark _)) (pw_or1 (pt_not (pt_val (pe_call G_is_told (hr.mono (by decide)) (by rfl) T.g_is_told T.f_is_told.kp T.b_is_told .nil pass0 (pa_cons (pv 1) (pa_cons pe_int pa_nil)))))))))
      (pss_one (ps_ret pe_bl)) pss_nil)
      (pss_one (ps_ret (pe_call G_lies_within (hr.mono (by decide)) (by rfl) T.g_lies_within T.f_lies_within.kp T.b_lies_within .nil pass0 (pa_cons (pv 0) (pa_cons (pe_call G_minus (hr.mono (by decide)) (by rfl) T.g_minus T.f_minus.kp T.b_minus .nil pass0 (pa_cons (pe_slice sl_list (pv 1) (po_some pe_int) po_none) (pa_cons (pe_slice sl_list (pv 1) po_none (po_some pe_int)) pa_nil))) (pa_cons (pe_lst (pa_cons pe_int (pa_cons pe_int pa_nil))) (pa_cons (pe_call G_made_larger (hr.mono (by decide)) (by rfl) T.g_made_larger T.f_made_larger.kp T.b_made_larger .nil pass0 (pa_cons (pv 0) (pa_cons (pe_lst (pa_cons pe_int (pa_cons pe_int pa_nil))) pa_nil))) pa_nil)))))))), ?_⟩
    have cR : ∀ (H1 : Hp), Same H H1 → Ml.isWin m xs = false → (fun H' => Q (.bl false) H') H1 := fun H1 s1 e => by
      have := k H1 s1
      rw [e] at this
      exact this
    refine ⟨_, rfl, _, _, rfl, rfl, _, rfl, ite2 (fun e => ?_) (fun e => ?_)⟩
    · refine iteT ?_
      refine cR H (Same.refl H) ?_
      have e' : m < 1 := of_decide_eq_true e
      unfold Ml.isWin
      rw [decide_eq_false (show ¬ 1 ≤ m by omega)]
      rfl
    have h1 : 1 ≤ m := by
      have e' : ¬ m < 1 := fun z => e (decide_eq_true z)
      omega
    refine ⟨_, rfl, _, _, rfl, rfl, _, rfl, ite2 (fun e => ?_) (fun e => ?_)⟩
    · refine iteT ?_
      refine cR H (Same.refl H) ?_
      have e' : 4 < m := of_decide_eq_true e
      unfold Ml.isWin
      rw [decide_eq_false (show ¬ m ≤ 4 by omega), Bool.and_false]
      rfl
    have h4 : m ≤ 4 := by
      have e' : ¬ 4 < m := fun z => e (decide_eq_true z)
      omega
    refine ⟨_, rfl, p, xs, 4, rfl, hp, hl, fun H1 s1 => ⟨_, rfl, ?_⟩⟩
    cases ht : Ml.told xs 4 with
    | false =>
      refine iteT ?_
      refine cR H1 s1 ?_
      unfold Ml.isWin
      rw [ht, Bool.and_false]
      rfl
    | true =>
      refine iteF ?_
      obtain ⟨a, b, c, d, rfl⟩ := Ml.list4 (Ml.told_len ht)
      have hb := Ml.told_all ht
      have ba := hb a (by simp)
      have bb := hb b (by simp)
      have bc := hb c (by simp)
      have bd := hb d (by simp)

      have hp1 := s1.seq hp
      obtain ⟨n, rfl, ok⟩ := ok_of h1 h4
      have eW : Ml.isWin n [a, b, c, d] = Ml.within (m := n) (Kzv1.sub ⟨c, d⟩ ⟨a, b⟩) (⟨1, 0⟩ : Kzv1.Z) (Kzv4.large n ⟨1, 0⟩) := by
        unfold Ml.isWin Ml.within
        rw [ht, decide_eq_true h1, decide_eq_true h4, Ml.large_eq]
        unfold Kzv1.sub
        rw [Ml.lt_below ok.h1 ok.h4, Ml.lt_below ok.h1 ok.h4]
        rfl
      rw [eW] at k
      refine ⟨_, rfl, _, rfl, 2, rfl, p, _, rfl, hp1, fun v nv => ?_⟩
      have s2 : Same H1 (upd H1 v (.lst [.int c, .int d])) := same_upd nv
      refine ⟨_, rfl, 2, rfl, p, _, rfl, s2.seq hp1, fun u nu => ?_⟩
      have s3 : Same (upd H1 v (.lst [.int c, .int d])) (upd (upd H1 v (.lst [.int c, .int d])) u (.lst [.int a, .int b])) := same_upd nu
      refine ⟨v, u, ⟨c, d⟩, ⟨a, b⟩, rfl, s3.seq (SqL.of upd_same), SqL.of upd_same, fun H4 l s4 nl el => ?_⟩
      refine ⟨by show 2 ≤ sizeLine; decide, fun o no => ?_⟩
      have s5 : Same H4 (upd H4 o (.lst [.int 1, .int 0])) := same_upd no
      refine ⟨_, rfl, by show 2 ≤ sizeLine; decide, fun o2 no2 => ?_⟩
      have s6 : Same (upd H4 o (.lst [.int 1, .int 0])) (upd (upd H4 o (.lst [.int 1, .int 0])) o2 (.lst [.int 1, .int 0])) := same_upd no2
      refine ⟨n, o2, ⟨1, 0⟩, rfl, SqL.of upd_same, ok, fun H7 r s7 nr er => ?_⟩
      refine ⟨n, l, o, r, _, ⟨1, 0⟩, _, rfl, ((el.same s5).same s6).same s7 |>.sq, s7.seq (s6.seq (SqL.of upd_same)), er.sq, ok, ?_, ?_, ?_, fun H8 s8 => ?_⟩
      · exact (Bn.sub (Bn.of bc bd) (Bn.of ba bb)).mono (by decide)
      · exact Bn.of (by omega) (by omega)
      · exact (Bn.large ok (Bn.of (n := 1) (a := 1) (b := 0) (by omega) (by omega))).mono (by decide)
      · exact k _ ((((((s1.trans s2).trans s3).trans s4).trans s5).trans s6).trans (s7.trans s8))
set_option maxHeartbeats 4000000 in
theorem ok_made_smaller (T : Txt K mg A) : FnOk P w K mg base CX0 1 A.a_made_smaller A.d_made_smaller ["m", "number"] (sp_made_smaller K) := by
  refine T.f_made_smaller.ok sc_made_smaller (fun vs H Q E h => ?_) (fun cdv AA outer s H vs Q E hr h => ?_)
  · obtain ⟨_, _, _, rfl, _⟩ := h
    rfl
  · obtain ⟨m, p, x, rfl, hp, ok, k⟩ := h
    refine ⟨_, (pss_cons (ps_set (i := 2) sc_made_smaller.nd rfl (.inl rfl) (pe_ix ix_list (pv 1) pe_int (fun _ _ => rfl)))
      (pss_cons (ps_set (i := 3) sc_made_smaller.nd rfl (.inl rfl) (pe_ix ix_list (pv 1) pe_int (fun _ _ => rfl)))
      (pss_one (ps_ret (pe_lst (pa_cons (pe_op op_sub (pe_op op_mul (pe_op op_add (pe_op op_mul (pv 0) (pv 0)) pe_int) (pv 2)) (pe_op op_mul (pv 0) (pv 3))) (pa_cons (pe_op op_sub (pv 3) (pe_op op_mul (pv 0) (pv 2))) pa_nil))))))), ?_⟩
    obtain ⟨h1, h4⟩ := ok_le ok
    have g2 := mm_bd h1 h4
    obtain ⟨a, b⟩ := x
    rw [Ml.small_eq] at k
    refine ⟨_, rfl, p, _, 0, .int a, rfl, rfl, hp, atI_nat (j := 0) rfl, ?_⟩
    refine ⟨_, rfl, p, _, 1, .int b, rfl, rfl, hp, atI_nat (j := 1) rfl, ?_⟩
    refine ⟨_, rfl, _, rfl, _, _, rfl, rfl, .inl ⟨by omega, by omega⟩, _, _, rfl, rfl, _, rfl, _, _, rfl, rfl, .inl ⟨by omega, by omega⟩, ?_⟩
    refine ⟨_, rfl, _, rfl, _, _, rfl, rfl, .inl ⟨by omega, by omega⟩, _, _, rfl, rfl, ?_⟩
    refine ⟨_, rfl, _, rfl, _, rfl, _, _, rfl, rfl, .inl ⟨by omega, by omega⟩, _, _, rfl, rfl, ?_⟩
    refine ⟨by show 2 ≤ sizeLine; decide, fun r nr => ?_⟩
    exact k _ r (same_upd nr) nr upd_same
set_option maxHeartbeats 4000000 in
theorem ok_smaller_window (T : Txt K mg A) : FnOk P w K mg base CX0 2 A.a_smaller_window A.d_smaller_window ["m", "x"] (sp_smaller_window K) := by
  have G_made_smaller := ok_made_smaller (P := P) (w := w) (base := base) T
  refine T.f_smaller_window.ok sc_smaller_window (fun vs H Q E h => ?_) (fun cdv AA outer s H vs Q E hr h => ?_)
  · obtain ⟨_, _, _, _, rfl, _⟩ := h
    rfl
  · obtain ⟨m, p, u, v, rfl, hp, ok, k⟩ := h
    refine ⟨_, (pss_one (ps_ret (pe_op op_cat (pe_call G_made_smaller (hr.mono (by decide)) (by rfl) T.g_made_smaller T.f_made_smaller.kp T.b_made_smaller .nil pass0 (pa_cons (pv 0) (pa_cons (pe_slice sl_list (pv 1) po_none (po_some pe_int)) pa_nil))) (pe_call G_made_smaller (hr.mono (by decide)) (by rfl) T.g_made_smaller T.f_made_smaller.kp T.b_made_smaller .nil pass0 (pa_cons (pv 0) (pa_cons (pe_slice sl_list (pv 1) (po_some pe_int) po_none) pa_nil)))))), ?_⟩
    refine ⟨_, rfl, _, rfl, 2, rfl, p, _, rfl, hp, fun a na => ?_⟩
    have s1 : Same H (upd H a (.lst (zl u))) := same_upd na
    refine ⟨m, a, u, rfl, SqL.of upd_same, ok, fun H2 r s2 nr er => ?_⟩
    have s12 := s1.trans s2
    refine ⟨_, rfl, _, rfl, 2, rfl, p, _, rfl, s12.seq hp, fun b nb => ?_⟩
    have s3 : Same H2 (upd H2 b (.lst (zl v))) := same_upd nb
    refine ⟨m, b, v, rfl, SqL.of upd_same, ok, fun H4 t s4 nt et => ?_⟩
    have s14 := (s12.trans s3).trans s4
    refine ⟨r, t, _, _, rfl, rfl, (er.same s3).same s4, et, by show 4 ≤ sizeLine; decide, fun q nq => ?_⟩
    exact k _ q (s14.trans (same_upd nq)) (s14.free nq) upd_same
set_option maxHeartbeats 4000000 in
theorem ok_keeps_points (T : Txt K mg A) : FnOk P w K mg base CX0 3 A.a_keeps_points A.d_keeps_points ["m", "x"] (sp_keeps_points K) := by
  have G_smaller_window := ok_smaller_window (P := P) (w := w) (base := base) T
  have G_is_below := ok_is_below (P := P) (w := w) (base := base) T
  refine T.f_keeps_points.ok sc_keeps_points (fun vs H Q E h => ?_) (fun cdv AA outer s H vs Q E hr h => ?_)
  · obtain ⟨_, _, _, _, _, _, rfl, _⟩ := h
    rfl
  · obtain ⟨m, p, a, b, c, d, rfl, hp, ok, ha, hb, hc, hd, k⟩ := h
    refine ⟨_, (pss_cons (ps_set (i := 2) sc_keeps_points.nd rfl (.inl rfl) (pe_call G_smaller_window (hr.mono (by decide)) (by rfl) T.g_smaller_window T.f_smaller_window.kp T.b_smaller_window .nil pass0 (pa_cons (pv 0) (pa_cons (pv 1) pa_nil))))
      (pss_one (ps_ret (pe_and (pe_not (pe_call G_is_below (hr.mono (by decide)) (by rfl) T.g_is_below T.f_is_below.kp T.b_is_below .nil pass0 (pa_cons (pv 0) (pa_cons (pe_slice sl_list (pv 2) po_none (po_some pe_int)) (pa_cons (pe_slice sl_list (pv 1) po_none (po_some pe_int)) pa_nil))))) (pe_one (pe_not (pe_call G_is_below (hr.mono (by decide)) (by rfl) T.g_is_below T.f_is_below.kp T.b_is_below .nil pass0 (pa_cons (pv 0) (pa_cons (pe_slice sl_list (pv 1) (po_some pe_int) po_none) (pa_cons (pe_slice sl_list (pv 2) (po_some pe_int) po_none) pa_nil)))))))))), ?_⟩
    have g1 : Bn 1000000 ⟨a, b⟩ := Bn.of ha hb
    have g2 : Bn 1000000 ⟨c, d⟩ := Bn.of hc hd
    have eK : Ml.keepsB m a b c d = ((!Kzv1.lt m (Kzv4.small m ⟨a, b⟩) ⟨a, b⟩) && (!Kzv1.lt m ⟨c, d⟩ (Kzv4.small m ⟨c, d⟩))) := by
      rw [Ml.small_eq, Ml.small_eq, Ml.lt_below ok.h1 ok.h4, Ml.lt_below ok.h1 ok.h4]
      rfl
    rw [eK] at k
    have b1 := (g1.small ok).mono (k := 1000000000000) (by decide)
    have b2 := (g2.small ok).mono (k := 1000000000000) (by decide)
    refine ⟨_, rfl, _, rfl, m, p, ⟨a, b⟩, ⟨c, d⟩, rfl, hp, ok, fun H1 s s1 ns es => ?_⟩
    generalize Kzv4.small m ⟨a, b⟩ = x at *
    generalize Kzv4.small m ⟨c, d⟩ = y at *
    have hs : SqL K H1 s (zl x ++ zl y) := SqL.of es
    have hp1 := s1.seq hp
    refine ⟨_, rfl, _, rfl, 2, rfl, s, _, rfl, hs, fun xa nx => ?_⟩
    have s2 : Same H1 (upd H1 xa (.lst (zl x))) := same_upd nx
    refine ⟨_, rfl, 2, rfl, p, _, rfl, s2.seq hp1, fun u nu => ?_⟩
    have s3 : Same (upd H1 xa (.lst (zl x))) (upd (upd H1 xa (.lst (zl x))) u (.lst [.int a, .int b])) := same_upd nu
    refine ⟨m, xa, u, x, ⟨a, b⟩, rfl, s3.seq (SqL.of upd_same), SqL.of upd_same, ok, b1, g1.mono (by decide), fun H4 s4 => ?_⟩
    have s14 := (s2.trans s3).trans s4
    refine ⟨_, rfl, _, rfl, ?_⟩
    cases hx : Kzv1.lt m x ⟨a, b⟩ with
    | true =>
      refine iteF ?_
      have := k H4 (s1.trans s14)
      rw [hx] at this
      exact this
    | false =>
      refine iteT ?_
      refine ⟨_, rfl, _, rfl, 2, rfl, p, _, rfl, s14.seq hp1, fun v nv => ?_⟩
      have s5 : Same H4 (upd H4 v (.lst [.int c, .int d])) := same_upd nv
      refine ⟨_, rfl, 2, rfl, s, _, rfl, s5.seq (s14.seq hs), fun ya ny => ?_⟩
      have s6 : Same (upd H4 v (.lst [.int c, .int d])) (upd (upd H4 v (.lst [.int c, .int d])) ya (.lst (zl y))) := same_upd ny
      refine ⟨m, v, ya, ⟨c, d⟩, y, rfl, s6.seq (SqL.of upd_same), SqL.of upd_same, ok, g2.mono (by decide), b2, fun H7 s7 => ?_⟩
      refine ⟨_, rfl, ?_⟩
      have := k H7 (((s1.trans s14).trans s5).trans (s6.trans s7))
      rw [hx] at this
      exact this
set_option maxHeartbeats 4000000 in
theorem ok_partner (T : Txt K mg A) : FnOk P w K mg base CX0 1 A.a_partner A.d_partner ["m", "number"] (sp_partner K) := by
  refine T.f_partner.ok sc_partner (fun vs H Q E h => ?_) (fun cdv AA outer s H vs Q E hr h => ?_)
  · obtain ⟨_, _, _, rfl, _⟩ := h
    rfl
  · obtain ⟨m, p, x, rfl, hp, ok, k⟩ := h
    refine ⟨_, (pss_one (ps_ret (pe_lst (pa_cons (pe_op op_add (pe_ix ix_list (pv 1) pe_int (fun _ _ => rfl)) (pe_op op_mul (pv 0) (pe_ix ix_list (pv 1) pe_int (fun _ _ => rfl)))) (pa_cons (pe_un un_neg (pe_ix ix_list (pv 1) pe_int (fun _ _ => rfl))) pa_nil))))), ?_⟩
    have h14 := ok_le ok
    refine ⟨_, rfl, p, _, 0, .int x.a, rfl, rfl, hp, atI_nat (j := 0) rfl, _, rfl, _, rfl, p, _, 1, .int x.b, rfl, rfl, hp, atI_nat (j := 1) rfl, _, _, rfl, rfl, .inl ⟨by omega, by omega⟩, _, _, rfl, rfl, ?_⟩
    refine ⟨_, rfl, p, _, 1, .int x.b, rfl, rfl, hp, atI_nat (j := 1) rfl, _, rfl, ?_⟩
    refine ⟨by show 2 ≤ sizeLine; decide, fun r nr => ?_⟩
    exact k _ r (same_upd nr) nr upd_same
set_option maxHeartbeats 4000000 in
theorem ok_is_point (T : Txt K mg A) : FnOk P w K mg base CX0 4 A.a_is_point A.d_is_point ["m", "x", "z"] (sp_is_point K) := by
  have G_lies_within := ok_lies_within (P := P) (w := w) (base := base) T
  have G_partner := ok_partner (P := P) (w := w) (base := base) T
  refine T.f_is_point.ok sc_is_point (fun vs H Q E h => ?_) (fun cdv AA outer s H vs Q E hr h => ?_)
  · obtain ⟨_, _, _, _, _, _, _, _, _, rfl, _⟩ := h
    rfl
  · obtain ⟨m, p, q, a, b, c, d, e, f, rfl, hp, hq, ok, ha, hb, hc, hd, hef, k⟩ := h
    refine ⟨_, (pss_one (ps_ret (pe_call G_lies_within (hr.mono (by decide)) (by rfl) T.g_lies_within T.f_lies_within.kp T.b_lies_within .nil pass0 (pa_cons (pv 0) (pa_cons (pe_call G_partner (hr.mono (by decide)) (by rfl) T.g_partner T.f_partner.kp T.b_partner .nil pass0 (pa_cons (pv 0) (pa_cons (pv 2) pa_nil))) (pa_cons (pe_slice sl_list (pv 1) po_none (po_some pe_int)) (pa_cons (pe_slice sl_list (pv 1) (po_some pe_int) po_none) pa_nil))))))), ?_⟩
    have eP : Ml.pointB m [a, b, c, d] [e, f] = Ml.within (m := m) (Kzv1.partner m ⟨e, f⟩) (⟨a, b⟩ : Kzv1.Z) (⟨c, d⟩ : Kzv1.Z) := by
      unfold Ml.within Kzv1.partner
      rw [Ml.lt_below ok.h1 ok.h4, Ml.lt_below ok.h1 ok.h4]
      rfl
    rw [eP] at k
    refine ⟨_, rfl, _, rfl, _, rfl, m, q, ⟨e, f⟩, rfl, hq, ok, fun H1 r s1 nr er => ?_⟩
    refine ⟨_, rfl, 2, rfl, p, _, rfl, s1.seq hp, fun u nu => ?_⟩
    have s2 : Same H1 (upd H1 u (.lst [.int a, .int b])) := same_upd nu
    refine ⟨_, rfl, 2, rfl, p, _, rfl, s2.seq (s1.seq hp), fun v nv => ?_⟩
    have s3 : Same (upd H1 u (.lst [.int a, .int b])) (upd (upd H1 u (.lst [.int a, .int b])) v (.lst [.int c, .int d])) := same_upd nv
    refine ⟨m, r, u, v, _, ⟨a, b⟩, ⟨c, d⟩, rfl, ((er.same s2).same s3).sq, s3.seq (SqL.of upd_same), SqL.of upd_same, ok, ?_, ?_, ?_, fun H4 s4 => k _ (((s1.trans s2).trans s3).trans s4)⟩
    · exact (Bn.pt ok hef).mono (by decide)
    · exact (Bn.of (n := 1000000) ha hb).mono (by decide)
    · exact (Bn.of (n := 1000000) hc hd).mono (by decide)
set_option maxHeartbeats 4000000 in
theorem ok_point_refusal (T : Txt K mg A) : FnOk P w K mg base CX0 5 A.a_point_refusal A.d_point_refusal ["m", "x", "z"] (sp_point_refusal K) := by
  have G_is_told := ok_is_told (P := P) (w := w) (base := base) T
  have G_is_window := ok_is_window (P := P) (w := w) (base := base) T
  have G_keeps_points := ok_keeps_points (P := P) (w := w) (base := base) T
  have G_is_point := ok_is_point (P := P) (w := w) (base := base) T
  refine T.f_point_refusal.ok sc_point_refusal (fun vs H Q E h => ?_) (fun cdv AA outer s H vs Q E hr h => ?_)
  · obtain ⟨_, _, _, _, _, rfl, _⟩ := h
    rfl
  · obtain ⟨m, p, q, xs, zs, rfl, hp, hq, hl, hl2, k⟩ := h
    refine ⟨_, (pss_cons (ps_if (PW.pt (pw_or (pt_not (pt_val (pe_call G_is_window (hr.mono (by decide)) (by rfl) T.g_is_window T.f_is_window.kp T.b_is_window .nil pass0 (pa_cons (pv 0) (pa_cons (pv 1) pa_nil))))) (pw_or1 (pt_not (pt_val (pe_call G_is_told (hr.mono (by decide)) (by rfl) T.g_is_told T.f_is_told.kp T.b_is_told .nil pass0 (pa_cons (pv 2) (pa_cons pe_int pa_nil))))))))
      (pss_one (ps_ret (pe_glob (v := .int (-22)) rfl T.g_WRONG_INPUT ⟨_, rfl⟩))) pss_nil)
      (pss_cons (ps_if (pt_not (pt_val (pe_call G_keeps_points (hr.mono (by decide)) (by rfl) T.g_keeps_points T.f_keeps_points.kp T.b_keeps_points .nil pass0 (pa_cons (pv 0) (pa_cons (pv 1) pa_nil)))))
      (pss_one (ps_ret (pe_glob (v := .int (-33)) rfl T.g_NOT_KEPT ⟨_, rfl⟩))) pss_nil)
      (pss_cons (ps_if (pt_not (pt_val (pe_call G_is_point (hr.mono (by decide)) (by rfl) T.g_is_point T.f_is_point.kp T.b_is_point .nil pass0 (pa_cons (pv 0) (pa_cons (pv 1) (pa_cons (pv 2) pa_nil))))))
      (pss_one (ps_ret (pe_glob (v := .int (-2)) rfl T.g_NO_POINT ⟨_, rfl⟩))) pss_nil)
      (pss_one (ps_ret pe_int))))), ?_⟩
    have cR : ∀ (H1 : Hp) (i : Int), Same H H1 → Ml.refusal m xs zs = i → Q (.int i) H1 := fun H1 i s1 e => by
      have := k H1 s1
      rw [e] at this
      exact this
    refine ⟨_, rfl, _, rfl, m, p, xs, rfl, hp, hl, fun H1 s1 => ⟨_, rfl, ?_⟩⟩
    cases hw : Ml.isWin m xs with
    | false =>
      refine iteT (iteT ?_)
      exact cR H1 _ s1 (by unfold Ml.refusal; rw [hw]; rfl)
    | true =>
      refine iteF ?_
      refine ⟨_, rfl, q, zs, 2, rfl, s1.seq hq, hl2, fun H2 s2 => ⟨_, rfl, ?_⟩⟩
      cases ht : Ml.told zs 2 with
      | false =>
        refine iteT ?_
        exact cR H2 _ (s1.trans s2) (by unfold Ml.refusal; rw [hw, ht]; rfl)
      | true =>
        refine iteF ?_
        obtain ⟨a, b, c, d, rfl⟩ := Ml.isWin_4 hw
        obtain ⟨h1, h4⟩ := Ml.isWin_m hw
        obtain ⟨n, rfl, ok⟩ := ok_of h1 h4
        have hb := Ml.told_all (Ml.isWin_told hw)
        obtain ⟨e, f, rfl⟩ := Ml.list2 (Ml.told_len ht)
        have hz := Ml.told_all ht
        have s12 := s1.trans s2
        refine ⟨_, rfl, _, rfl, n, p, a, b, c, d, rfl, s12.seq hp, ok, hb a (by simp), hb b (by simp), hb c (by simp), hb d (by simp), fun H3 s3 => ⟨_, rfl, ?_⟩⟩
        have s13 := s12.trans s3
        cases hk : Ml.keepsB n a b c d with
        | false =>
          refine iteT ?_
          exact cR H3 _ s13 (Ml.refusal_33 hw ht hk)
        | true =>
          refine iteF ?_
          refine ⟨_, rfl, _, rfl, _, rfl, n, p, q, a, b, c, d, e, f, rfl, s13.seq hp, s13.seq hq, ok, hb a (by simp), hb b (by simp), hb c (by simp), hb d (by simp), (Bn.of (n := 1000000) (hz e (by simp)) (hz f (by simp))).mono (by decide), fun H4 s4 => ⟨_, rfl, ?_⟩⟩
          have s14 := s13.trans s4
          cases hx : Ml.pointB n [a, b, c, d] [e, f] with
          | false =>
            refine iteT ?_
            exact cR H4 _ s14 (Ml.refusal_2 hw ht hk hx)
          | true =>
            refine iteF ?_
            exact cR H4 _ s14 (Ml.refusal_00 hw ht hk hx)
set_option maxHeartbeats 4000000 in
theorem ok_plus (T : Txt K mg A) : FnOk P w K mg base CX0 1 A.a_plus A.d_plus ["number", "other"] (sp_plus K) := by
  refine T.f_plus.ok sc_plus (fun vs H Q E h => ?_) (fun cdv AA outer s H vs Q E hr h => ?_)
  · obtain ⟨_, _, _, _, rfl, _⟩ := h
    rfl
  · obtain ⟨p, q, x, y, rfl, hp, hq, k⟩ := h
    refine ⟨_, (pss_one (ps_ret (pe_lst (pa_cons (pe_op op_add (pe_ix ix_list (pv 0) pe_int (fun _ _ => rfl)) (pe_ix ix_list (pv 1) pe_int (fun _ _ => rfl))) (pa_cons (pe_op op_add (pe_ix ix_list (pv 0) pe_int (fun _ _ => rfl)) (pe_ix ix_list (pv 1) pe_int (fun _ _ => rfl))) pa_nil))))), ?_⟩
    refine ⟨_, rfl, p, _, 0, .int x.a, rfl, rfl, hp, atI_nat (j := 0) rfl, _, rfl, q, _, 0, .int y.a, rfl, rfl, hq, atI_nat (j := 0) rfl, _, _, rfl, rfl, _, rfl, p, _, 1, .int x.b, rfl, rfl, hp, atI_nat (j := 1) rfl, _, rfl, q, _, 1, .int y.b, rfl, rfl, hq, atI_nat (j := 1) rfl, _, _, rfl, rfl, by show 2 ≤ sizeLine; decide, fun r nr => ?_⟩
    exact k _ r (same_upd nr) nr upd_same
set_option maxHeartbeats 4000000 in
theorem ok_rising_and_falling (T : Txt K mg A) : FnOk P w K mg base CX0 3 A.a_rising_and_falling A.d_rising_and_falling ["m", "length"] (sp_rising_and_falling K) := by
  have G_made_smaller := ok_made_smaller (P := P) (w := w) (base := base) T
  have G_is_below := ok_is_below (P := P) (w := w) (base := base) T
  have G_partner := ok_partner (P := P) (w := w) (base := base) T
  have G_minus := ok_minus (P := P) (w := w) (base := base) T
  have G_plus := ok_plus (P := P) (w := w) (base := base) T
  refine T.f_rising_and_falling.ok sc_rising_and_falling (fun vs H Q E h => ?_) (fun cdv AA outer s H vs Q E hr h => ?_)
  · obtain ⟨_, _, _, rfl, _⟩ := h
    rfl
  · obtain ⟨m, p, L, rfl, hp, ok, bL, l1, l2, k⟩ := h
    refine ⟨_, (pss_cons (ps_set (i := 2) sc_rising_and_falling.nd rfl (.inl rfl) (pe_call G_made_smaller (hr.mono (by decide)) (by rfl) T.g_made_smaller T.f_made_smaller.kp T.b_made_smaller .nil pass0 (pa_cons (pv 0) (pa_cons (pe_lst (pa_cons pe_int (pa_cons pe_int pa_nil))) pa_nil))))
      (pss_cons (ps_set (i := 3) sc_rising_and_falling.nd rfl (.inl rfl) (pe_lst (pa_cons (pe_un un_neg (pv 0)) (pa_cons pe_int pa_nil))))
      (pss_cons (ps_while PassesOwn.never (PW.pt (pw_or (pt_not (pt_val (pe_call G_is_below (hr.mono (by decide)) (by rfl) T.g_is_below T.f_is_below.kp T.b_is_below .nil pass0 (pa_cons (pv 0) (pa_cons (pe_call G_partner (hr.mono (by decide)) (by rfl) T.g_partner T.f_partner.kp T.b_partner .nil pass0 (pa_cons (pv 0) (pa_cons (pv 2) pa_nil))) (pa_cons (pv 1) pa_nil)))))) (pw_or1 (pt_not (pt_val (pe_call G_is_below (hr.mono (by decide)) (by rfl) T.g_is_below T.f_is_below.kp T.b_is_below .nil pass0 (pa_cons (pv 0) (pa_cons (pe_call G_minus (hr.mono (by decide)) (by rfl) T.g_minus T.f_minus.kp T.b_minus .nil pass0 (pa_cons (pe_lst (pa_cons pe_int (pa_cons pe_int pa_nil))) (pa_cons (pv 1) pa_nil))) (pa_cons (pe_call G_partner (hr.mono (by decide)) (by rfl) T.g_partner T.f_partner.kp T.b_partner .nil pass0 (pa_cons (pv 0) (pa_cons (pv 3) pa_nil))) pa_nil)))))))))
      (pss_cons (ps_set (i := 4) sc_rising_and_falling.nd rfl (.inl rfl) (pe_call G_plus (hr.mono (by decide)) (by rfl) T.g_plus T.f_plus.kp T.b_plus .nil pass0 (pa_cons (pv 2) (pa_cons (pv 3) pa_nil))))
      (pss_one (ps_if (pt_val (pe_call G_is_below (hr.mono (by decide)) (by rfl) T.g_is_below T.f_is_below.kp T.b_is_below .nil pass0 (pa_cons (pv 0) (pa_cons (pe_lst (pa_cons pe_int (pa_cons pe_int pa_nil))) (pa_cons (pe_call G_partner (hr.mono (by decide)) (by rfl) T.g_partner T.f_partner.kp T.b_partner .nil pass0 (pa_cons (pv 0) (pa_cons (pv 4) pa_nil))) pa_nil)))))
      (pss_one (ps_set (i := 2) sc_rising_and_falling.nd rfl (.inl rfl) (pv 4))) (pss_one (ps_set (i := 3) sc_rising_and_falling.nd rfl (.inl rfl) (pv 4)))))))
      (pss_one (ps_ret (pe_lst (pa_cons (pv 2) (pa_cons (pv 3) pa_nil)))))))), ?_⟩
    refine ⟨_, rfl, by show 2 ≤ sizeLine; decide, fun o no => ?_⟩
    have s1 : Same H (upd H o (.lst [.int 1, .int 0])) := same_upd no
    refine ⟨m, o, ⟨1, 0⟩, rfl, SqL.of upd_same, ok, fun H2 a0 s2 na0 ea0 => ?_⟩
    refine ⟨_, rfl, _, rfl, by show 2 ≤ sizeLine; decide, fun b0 nb0 => ?_⟩
    have s3 : Same H2 (upd H2 b0 (.lst [.int (-(m : Int)), .int 1])) := same_upd nb0
    rw [Ml.ch_0] at ea0
    refine ⟨RFInv m H p L, ⟨_, a0, b0, _, _, 0, none, rfl, (s1.trans s2).trans s3, ea0.same s3, (by exact upd_same : Nm _ b0 (Ml.ch m 0).2), Ml.Ch.base ok l2, rfl⟩, fun n σ H5 h => ?_⟩
    obtain ⟨a, b, r, f, i, v, rfl, s5, ea, eb, C, rfl⟩ := h
    have F := C.facts ok
    have br := sm_bn F.sr
    have bf := sm_bn F.sf
    generalize hn : 2 * m + 1 - i = n
    refine ⟨_, rfl, _, rfl, _, rfl, m, a, r, rfl, ea.sq, ok, fun H6 c1 s6 n6 e6 => ?_⟩
    refine ⟨_, rfl, m, c1, p, _, _, rfl, e6.sq, s6.seq (s5.seq hp), ok, (Bn.pt ok br).mono (by decide), bL.mono (by decide), fun H7 s7 => ⟨_, rfl, ?_⟩⟩
    have s67 := s6.trans s7
    cases hx : Kzv1.lt m (Kzv1.partner m r) L with
    | false =>
      refine iteT (iteT ?_)
      have cc : ¬ Ml.pt r < L ∨ ¬ -L < Ml.pt f := .inl fun q => by
        have := (Ml.lt_iff ok _ _).mpr q
        exact absurd (this.symm.trans hx) (by decide)
      refine ⟨fun σ' H' => ∃ n', n' < n ∧ RFInv m H p L n' σ' H', fun σ' H' h => h, ?_⟩
      have hg := C.go ok l1 cc
      refine ⟨_, rfl, _, rfl, a, b, r, f, rfl, (ea.same s67).sq, (eb.same s67).sq, fun J1 c t1 nc ec => ?_⟩
      refine ⟨_, rfl, by show 2 ≤ sizeLine; decide, fun o no => ?_⟩
      have t2 : Same J1 (upd J1 o (.lst [.int 0, .int 0])) := same_upd no
      refine ⟨_, rfl, _, rfl, m, c, _, rfl, (ec.same t2).sq, ok, fun J3 d t3 nd ed => ?_⟩
      have brf : Bn 120 (Kzv1.add r f) := (Bn.add br bf).mono (by decide)
      refine ⟨m, o, d, ⟨0, 0⟩, _, rfl, t3.seq (SqL.of upd_same), ed.sq, ok, Bn.of (by omega) (by omega), (Bn.pt ok brf).mono (by decide), fun J4 t4 => ⟨_, rfl, ?_⟩⟩
      have u4 : Same H5 J4 := s67.trans (((t1.trans t2).trans t3).trans t4)
      have ec4 : Nm J4 c (Kzv1.add r f) := ec.same ((t2.trans t3).trans t4)
      cases hz : Kzv1.lt m ⟨0, 0⟩ (Kzv1.partner m (Kzv1.add r f)) with
      | true =>
        refine iteT ?_
        have pz : 0 < Ml.pt (r + f) := (Ml.lt_iff ok _ _).mp hz
        exact ⟨_, rfl, _, by omega, c, b, r + f, f, i + 1, _, rfl, s5.trans u4, ec4, eb.same u4, C.up ok l1 cc pz, rfl⟩
      | false =>
        refine iteF ?_
        have pz : ¬ 0 < Ml.pt (r + f) := fun q => by
          have := (Ml.lt_iff ok _ _).mpr q
          exact absurd (this.symm.trans hz) (by decide)
        exact ⟨_, rfl, _, by omega, a, c, r, r + f, i + 1, _, rfl, s5.trans u4, ea.same u4, ec4, C.down ok l1 cc pz, rfl⟩
    | true =>
      refine iteF ?_
      have q1 : Ml.pt r < L := (Ml.lt_iff ok _ _).mp hx
      refine ⟨_, rfl, by show 2 ≤ sizeLine; decide, fun o2 no2 => ?_⟩
      have s8 : Same H7 (upd H7 o2 (.lst [.int 0, .int 0])) := same_upd no2
      refine ⟨_, rfl, o2, p, ⟨0, 0⟩, L, rfl, SqL.of upd_same, s8.seq (s67.seq (s5.seq hp)), fun H9 c2 s9 n9 e9 => ?_⟩
      refine ⟨_, rfl, _, rfl, m, b, f, rfl, (((eb.same s67).same s8).same s9).sq, ok, fun H10 c3 s10 n10 e10 => ?_⟩
      have b0 : Bn 10000000 (Kzv1.sub ⟨0, 0⟩ L) := (Bn.sub (Bn.of (n := 0) (a := 0) (b := 0) (by omega) (by omega)) bL).mono (by decide)
      refine ⟨m, c2, c3, _, _, rfl, (e9.same s10).sq, e10.sq, ok, b0.mono (by decide), (Bn.pt ok bf).mono (by decide), fun H11 s11 => ⟨_, rfl, ?_⟩⟩
      have s12 := (((s67.trans s8).trans s9).trans s10).trans s11
      cases hy : Kzv1.lt m (Kzv1.sub ⟨0, 0⟩ L) (Kzv1.partner m f) with
      | false =>
        refine iteT ?_
        have cc : ¬ Ml.pt r < L ∨ ¬ -L < Ml.pt f := .inr fun q => by
          have e0 : (show Ml.R m from Kzv1.sub ⟨0, 0⟩ L) = -L := by
            show (0 : Ml.R m) - L = -L
            grind
          have := (Ml.lt_iff ok (Kzv1.sub ⟨0, 0⟩ L) (Kzv1.partner m f)).mpr (by rw [e0]; exact q)
          exact absurd (this.symm.trans hy) (by decide)
        refine ⟨fun σ' H' => ∃ n', n' < n ∧ RFInv m H p L n' σ' H', fun σ' H' h => h, ?_⟩
        have hg := C.go ok l1 cc
        refine ⟨_, rfl, _, rfl, a, b, r, f, rfl, (ea.same s12).sq, (eb.same s12).sq, fun J1 c t1 nc ec => ?_⟩
        refine ⟨_, rfl, by show 2 ≤ sizeLine; decide, fun o no => ?_⟩
        have t2 : Same J1 (upd J1 o (.lst [.int 0, .int 0])) := same_upd no
        refine ⟨_, rfl, _, rfl, m, c, _, rfl, (ec.same t2).sq, ok, fun J3 d t3 nd ed => ?_⟩
        have brf : Bn 120 (Kzv1.add r f) := (Bn.add br bf).mono (by decide)
        refine ⟨m, o, d, ⟨0, 0⟩, _, rfl, t3.seq (SqL.of upd_same), ed.sq, ok, Bn.of (by omega) (by omega), (Bn.pt ok brf).mono (by decide), fun J4 t4 => ⟨_, rfl, ?_⟩⟩
        have u4 : Same H5 J4 := s12.trans (((t1.trans t2).trans t3).trans t4)
        have ec4 : Nm J4 c (Kzv1.add r f) := ec.same ((t2.trans t3).trans t4)
        cases hz : Kzv1.lt m ⟨0, 0⟩ (Kzv1.partner m (Kzv1.add r f)) with
        | true =>
          refine iteT ?_
          have pz : 0 < Ml.pt (r + f) := (Ml.lt_iff ok _ _).mp hz
          exact ⟨_, rfl, _, by omega, c, b, r + f, f, i + 1, _, rfl, s5.trans u4, ec4, eb.same u4, C.up ok l1 cc pz, rfl⟩
        | false =>
          refine iteF ?_
          have pz : ¬ 0 < Ml.pt (r + f) := fun q => by
            have := (Ml.lt_iff ok _ _).mpr q
            exact absurd (this.symm.trans hz) (by decide)
          exact ⟨_, rfl, _, by omega, a, c, r, r + f, i + 1, _, rfl, s5.trans u4, ea.same u4, ec4, C.down ok l1 cc pz, rfl⟩
      | true =>
        refine iteF ?_
        have q2 : -L < Ml.pt f := by
          have := (Ml.lt_iff ok _ _).mp hy
          have e0 : (0 : Ml.R m) - L = -L := by grind
          rw [← e0]
          exact this
        refine ⟨_, rfl, _, rfl, by show 2 ≤ sizeLine; decide, fun q nq => ?_⟩
        have s13 : Same H11 (upd H11 q (.lst [.ref a, .ref b])) := same_upd nq
        exact k _ q a b r f ((s5.trans s12).trans s13) ((s5.trans s12).free nq) upd_same ((ea.same s12).same s13) ((eb.same s12).same s13) (C.fin ok q1 q2) br bf
set_option maxHeartbeats 4000000 in
theorem ok_Part_init (T : Txt K mg A) : FnOk P w K mg base CX0 1 A.a_Part_init A.d_Part_init ["self", "step", "low", "high"] (sp_Part_init K A) := by
  refine T.f_Part_init.ok sc_Part_init (fun vs H Q E h => ?_) (fun cdv AA outer s H vs Q E hr h => ?_)
  · obtain ⟨_, _, _, _, _, rfl, _⟩ := h
    rfl
  · obtain ⟨p, dx, a, b, c, rfl, hp, k⟩ := h
    refine ⟨_, (pss_cons (ps_fld (pv 0) (pv 1) rfl)
      (pss_cons (ps_fld (pv 0) (pv 2) rfl)
      (pss_one (ps_fld (pv 0) (pv 3) rfl)))), ?_⟩
    refine ⟨_, rfl, _, rfl, p, A.c_Part, dx, [], rfl, hp, T.cl_Part, T.n_Part_step, by show 0 < 1000; decide, ?_⟩
    refine ⟨_, rfl, _, rfl, p, A.c_Part, dx, _, rfl, upd_same, T.cl_Part, T.n_Part_low, by show 1 < 1000; decide, ?_⟩
    refine ⟨_, rfl, _, rfl, p, A.c_Part, dx, _, rfl, upd_same, T.cl_Part, T.n_Part_high, by rw [fPart2]; show 2 < 1000; decide, ?_⟩
    refine k _ (fun q nq => ?_) upd_same
    rw [upd_ne nq, upd_ne nq, upd_ne nq]
set_option maxHeartbeats 4000000 in
theorem ok_window_parts (T : Txt K mg A) : FnOk P w K mg base CX0 4 A.a_window_parts A.d_window_parts ["m", "x"] (sp_window_parts K A) := by
  have G_rising_and_falling := ok_rising_and_falling (P := P) (w := w) (base := base) T
  have G_minus := ok_minus (P := P) (w := w) (base := base) T
  have G_partner := ok_partner (P := P) (w := w) (base := base) T
  have G_is_below := ok_is_below (P := P) (w := w) (base := base) T
  have G_plus := ok_plus (P := P) (w := w) (base := base) T
  have G_Part_init := ok_Part_init (P := P) (w := w) (base := base) T
  refine T.f_window_parts.ok sc_window_parts (fun vs H Q E h => ?_) (fun cdv AA outer s H vs Q E hr h => ?_)
  · obtain ⟨_, _, _, _, rfl, _⟩ := h
    rfl
  · obtain ⟨m, p, u, v, rfl, hp, ok, bu, bv, W, k⟩ := h
    refine ⟨_, (pss_cons (ps_set (i := 2) sc_window_parts.nd rfl (.inl rfl) (pe_slice sl_list (pv 1) po_none (po_some pe_int)))
      (pss_cons (ps_set (i := 3) sc_window_parts.nd rfl (.inl rfl) (pe_slice sl_list (pv 1) (po_some pe_int) po_none))
      (pss_cons (ps_set (i := 4) sc_window_parts.nd rfl (.inl rfl) (pe_call G_rising_and_falling (hr.mono (by decide)) (by rfl) T.g_rising_and_falling T.f_rising_and_falling.kp T.b_rising_and_falling .nil pass0 (pa_cons (pv 0) (pa_cons (pe_call G_minus (hr.mono (by decide)) (by rfl) T.g_minus T.f_minus.kp T.b_minus .nil pass0 (pa_cons (pv 3) (pa_cons (pv 2) pa_nil))) pa_nil))))
      (pss_cons (ps_set (i := 5) sc_window_parts.nd rfl (.inl rfl) (pe_make T.mk_Part G_Part_init (hr.mono (by decide)) (by rfl) T.g_Part T.b_Part_init .nil pass0 (pa_cons (pe_ix ix_list (pv 4) pe_int (fun _ _ => rfl)) (pa_cons (pv 2) (pa_cons (pe_call G_minus (hr.mono (by decide)) (by rfl) T.g_minus T.f_minus.kp T.b_minus .nil pass0 (pa_cons (pv 3) (pa_cons (pe_call G_partner (hr.mono (by decide)) (by rfl) T.g_partner T.f_partner.kp T.b_partner .nil pass0 (pa_cons (pv 0) (pa_cons (pe_ix ix_list (pv 4) pe_int (fun _ _ => rfl)) pa_nil))) pa_nil))) pa_nil)))))
      (pss_cons (ps_set (i := 6) sc_window_parts.nd rfl (.inl rfl) (pe_make T.mk_Part G_Part_init (hr.mono (by decide)) (by rfl) T.g_Part T.b_Part_init .nil pass0 (pa_cons (pe_ix ix_list (pv 4) pe_int (fun _ _ => rfl)) (pa_cons (pe_call G_minus (hr.mono (by decide)) (by rfl) T.g_minus T.f_minus.kp T.b_minus .nil pass0 (pa_cons (pv 2) (pa_cons (pe_call G_partner (hr.mono (by decide)) (by rfl) T.g_partner T.f_partner.kp T.b_partner .nil pass0 (pa_cons (pv 0) (pa_cons (pe_ix ix_list (pv 4) pe_int (fun _ _ => rfl)) pa_nil))) pa_nil))) (pa_cons (pv 3) pa_nil)))))
      (pss_cons (ps_set (i := 7) sc_window_parts.nd rfl (.inl rfl) (pe_ifExp (pt_val (pe_call G_is_below (hr.mono (by decide)) (by rfl) T.g_is_below T.f_is_below.kp T.b_is_below .nil pass0 (pa_cons (pv 0) (pa_cons (pe_fld (pv 5) rfl) (pa_cons (pe_fld (pv 6) rfl) pa_nil))))) (pe_lst (pa_cons (pv 5) (pa_cons (pv 6) pa_nil))) (pe_lst (pa_cons (pv 6) (pa_cons (pv 5) pa_nil)))))
      (pss_cons (ps_if (pt_val (pe_call G_is_below (hr.mono (by decide)) (by rfl) T.g_is_below T.f_is_below.kp T.b_is_below .nil pass0 (pa_cons (pv 0) (pa_cons (pe_fld (pv 5) rfl) (pa_cons (pe_fld (pv 6) rfl) pa_nil)))))
      (pss_one (ps_expr (pe_bm PySem.F.plainAttrs_list PySem.F.slot_list_append PySem.F.type_list_append mt_append (pv 7) (pa_cons (pe_make T.mk_Part G_Part_init (hr.mono (by decide)) (by rfl) T.g_Part T.b_Part_init .nil pass0 (pa_cons (pe_call G_plus (hr.mono (by decide)) (by rfl) T.g_plus T.f_plus.kp T.b_plus .nil pass0 (pa_cons (pe_fld (pv 5) rfl) (pa_cons (pe_fld (pv 6) rfl) pa_nil))) (pa_cons (pe_fld (pv 5) rfl) (pa_cons (pe_fld (pv 6) rfl) pa_nil)))) pa_nil)))) pss_nil)
      (pss_one (ps_ret (pv 7)))))))))), ?_⟩
    refine ⟨_, rfl, 2, rfl, p, _, rfl, hp, fun ua nu => ?_⟩
    have s1 : Same H (upd H ua (.lst (zl u))) := same_upd nu
    refine ⟨_, rfl, 2, rfl, p, _, rfl, s1.seq hp, fun va nv => ?_⟩
    have s2 : Same (upd H ua (.lst (zl u))) (upd (upd H ua (.lst (zl u))) va (.lst (zl v))) := same_upd nv
    have hu2 : Nm (upd (upd H ua (.lst (zl u))) va (.lst (zl v))) ua u := s2 _ _ upd_same
    have hv2 : Nm (upd (upd H ua (.lst (zl u))) va (.lst (zl v))) va v := upd_same
    refine ⟨_, rfl, _, rfl, _, rfl, va, ua, v, u, rfl, hv2.sq, hu2.sq, fun H3 la s3 nla ela => ?_⟩
    refine ⟨m, la, v - u, rfl, ela.sq, ok, (Bn.sub bv bu).mono (by decide), W.lo, W.hi, fun H4 st a b r f s4 nst est st1 st2 RF br bf => ?_⟩
    have hst : SqL K H4 st [.ref a, .ref b] := SqL.of est
    have hu4 := (hu2.same s3).same s4
    have hv4 := (hv2.same s3).same s4
    -- rising
    refine ⟨_, rfl, st, _, 0, .ref a, rfl, rfl, hst, atI_nat (j := 0) rfl, _, rfl, _, rfl, _, rfl, _, rfl, st, _, 0, .ref a, rfl, rfl, hst, atI_nat (j := 0) rfl, ?_⟩
    refine ⟨m, a, r, rfl, st1.sq, ok, fun H5 pa s5 npa epa => ?_⟩
    refine ⟨va, pa, v, _, rfl, (hv4.same s5).sq, epa.sq, fun H6 h1 s6 nh1 hi1 => ?_⟩
    intro rg d1 nrg nd1 ne1
    refine ⟨rg, d1, _, _, _, rfl, upd_same, fun H7 e7 i1 => ⟨rfl, ?_⟩⟩
    have s7' := made_same nrg nd1 e7
    have s47 := (s5.trans s6).trans s7'
    -- falling
    refine ⟨_, rfl, st, _, 1, .ref b, rfl, rfl, s47.seq hst, atI_nat (j := 1) rfl, _, rfl, _, rfl, _, rfl, st, _, 1, .ref b, rfl, rfl, s47.seq hst, atI_nat (j := 1) rfl, ?_⟩
    refine ⟨m, b, f, rfl, (st2.same s47).sq, ok, fun H8 pb t8 npb epb => ?_⟩
    refine ⟨ua, pb, u, _, rfl, ((hu4.same s47).same t8).sq, epb.sq, fun H9 l2 t9 nl2 lo2 => ?_⟩
    refine ⟨_, rfl, ?_⟩
    intro fg d2 nfg nd2 ne2
    refine ⟨fg, d2, _, _, _, rfl, upd_same, fun H10 e10 i2 => ⟨rfl, ?_⟩⟩
    have t10 := made_same nfg nd2 e10
    have s7 : Same H H10 := ((((((s1.trans s2).trans s3).trans s4).trans s47).trans t8).trans t9).trans t10
    have t710 := (t8.trans t9).trans t10
    have j1 := t710 _ _ i1
    have hi1' := ((hi1.same s7').same t710)
    have lo2' := lo2.same t10
    have sa := (st1.same s47).same t710
    have sb := (st2.same s47).same t710
    have hu' := (hu4.same s47).same t710
    have hv' := (hv4.same s47).same t710
    have P1 : Prt A.c_Part H10 rg (⟨r, u, v - Ml.pt r⟩ : Ml.PD m) := ⟨d1, a, ua, h1, j1, sa, hu', hi1'⟩
    have P2 : Prt A.c_Part H10 fg (⟨f, u - Ml.pt f, v⟩ : Ml.PD m) := ⟨d2, b, l2, va, i2, sb, lo2', hv'⟩
    have bpr : Bn 300 (Ml.pt r) := (Bn.pt ok br).mono (by decide)
    have bpf : Bn 300 (Ml.pt f) := (Bn.pt ok bf).mono (by decide)
    have bh : Bn 3000000 (v - Ml.pt r) := (Bn.sub bv bpr).mono (by decide)
    have bl : Bn 3000000 (u - Ml.pt f) := (Bn.sub bu bpf).mono (by decide)
    clear hu2 hv2 hu4 hv4 hst
    refine ⟨_, rfl, _, rfl, rg, _, _, _, _, rfl, j1, T.cl_Part, T.n_Part_step, fPart_step _ _ _, _, rfl, fg, _, _, _, _, rfl, i2, T.cl_Part, T.n_Part_step, fPart_step _ _ _, ?_⟩
    refine ⟨m, a, b, r, f, rfl, sa.sq, sb.sq, ok, br.mono (by decide), bf.mono (by decide), fun H8 s8 => ⟨_, rfl, ?_⟩⟩
    cases hlt : Kzv1.lt m r f with
    | true =>
      refine iteT ⟨_, rfl, _, rfl, by show 2 ≤ sizeLine; decide, fun l nl => ?_⟩
      have s9 : Same H8 (upd H8 l (.lst [.ref rg, .ref fg])) := same_upd nl
      have em : Ml.mkParts m u v r f = [⟨r, u, v - Ml.pt r⟩, ⟨f, u - Ml.pt f, v⟩] ++ (if Kzv1.lt m (v - Ml.pt r) (u - Ml.pt f) = true then [⟨r + f, v - Ml.pt r, u - Ml.pt f⟩] else []) := by
        unfold Ml.mkParts
        rw [hlt]
        rfl
      refine ⟨_, rfl, _, rfl, rg, _, _, _, _, rfl, (s9 _ _ (s8 _ _ j1)), T.cl_Part, T.n_Part_high, fPart_high _ _ _, _, rfl, fg, _, _, _, _, rfl, (s9 _ _ (s8 _ _ i2)), T.cl_Part, T.n_Part_low, fPart_low _ _ _, ?_⟩
      refine ⟨m, h1, l2, _, _, rfl, ((hi1'.same s8).same s9).sq, ((lo2'.same s8).same s9).sq, ok, bh.mono (by decide), bl.mono (by decide), fun J10 t11 => ⟨_, rfl, ?_⟩⟩
      have s89 := (s8.trans s9).trans t11
      have el : J10 l = some (.lst [.ref rg, .ref fg]) := t11 _ _ upd_same
      generalize hb3 : Kzv1.lt m (Kzv1.sub v (Kzv1.partner m r)) (Kzv1.sub u (Kzv1.partner m f)) = b3
      have h3 : Kzv1.lt m (v - Ml.pt r) (u - Ml.pt f) = b3 := hb3
      cases b3 with
      | false =>
        refine iteF ⟨_, rfl, ?_⟩
        refine k J10 l [rg, fg] r f (s7.trans s89) ((s7.trans s8).free nl) el ?_ RF (mk_pb ok bu bv br bf)
        rw [em, h3]
        exact ⟨P1.same s89, P2.same s89, trivial⟩
      | true =>
        refine iteT ?_
        refine ⟨_, rfl, .inl ⟨rfl, _, SqL.of el⟩, _, rfl, rg, _, _, _, _, rfl, (s89 _ _ j1), T.cl_Part, T.n_Part_step, fPart_step _ _ _, _, rfl, fg, _, _, _, _, rfl, (s89 _ _ i2), T.cl_Part, T.n_Part_step, fPart_step _ _ _, ?_⟩
        refine ⟨a, b, r, f, rfl, (sa.same s89).sq, (sb.same s89).sq, fun J11 g t12 ng eg => ?_⟩
        refine ⟨_, rfl, rg, _, _, _, _, rfl, (t12 _ _ (s89 _ _ j1)), T.cl_Part, T.n_Part_high, fPart_high _ _ _, _, rfl, fg, _, _, _, _, rfl, (t12 _ _ (s89 _ _ i2)), T.cl_Part, T.n_Part_low, fPart_low _ _ _, ?_⟩
        intro x3 d3 nx3 nd3 ne3
        refine ⟨x3, d3, _, _, _, rfl, upd_same, fun J12 e12 i3 => ⟨rfl, ?_⟩⟩
        have t13 := made_same nx3 nd3 e12
        have t1013 := t12.trans t13
        have el12 := t1013 _ _ el
        refine ⟨l, _, _, rfl, rfl, el12, by show 2 < sizeLine; decide, ?_⟩
        have nb : H10 l = none := s8.free nl
        have s7u : Same H10 (upd J12 l (.lst ([.ref rg, .ref fg] ++ [.ref x3]))) := fun bb o h => by
          rw [upd_ne (ne_of_none h nb)]
          exact t1013 _ _ (s89 _ _ h)
        refine ⟨_, rfl, ?_⟩
        refine k _ l [rg, fg, x3] r f (s7.trans s7u) ((s7.trans s8).free nl) upd_same ?_ RF (mk_pb ok bu bv br bf)
        rw [em, h3]
        refine ⟨P1.same s7u, P2.same s7u, ?_, trivial⟩
        have gl : g ≠ l := fun e => by
          rw [e, el] at ng
          cases ng
        have xl : x3 ≠ l := fun e => by
          rw [e, t12 _ _ el] at nx3
          cases nx3
        refine ⟨d3, g, h1, l2, ?_, (eg.same t13).upd gl, hi1'.same s7u, lo2'.same s7u⟩
        rw [upd_ne xl]
        exact i3
    | false =>
      refine iteF ⟨_, rfl, _, rfl, by show 2 ≤ sizeLine; decide, fun l nl => ?_⟩
      have s9 : Same H8 (upd H8 l (.lst [.ref fg, .ref rg])) := same_upd nl
      have em : Ml.mkParts m u v r f = [⟨f, u - Ml.pt f, v⟩, ⟨r, u, v - Ml.pt r⟩] ++ (if Kzv1.lt m (v - Ml.pt r) (u - Ml.pt f) = true then [⟨r + f, v - Ml.pt r, u - Ml.pt f⟩] else []) := by
        unfold Ml.mkParts
        rw [hlt]
        rfl
      refine ⟨_, rfl, _, rfl, rg, _, _, _, _, rfl, (s9 _ _ (s8 _ _ j1)), T.cl_Part, T.n_Part_high, fPart_high _ _ _, _, rfl, fg, _, _, _, _, rfl, (s9 _ _ (s8 _ _ i2)), T.cl_Part, T.n_Part_low, fPart_low _ _ _, ?_⟩
      refine ⟨m, h1, l2, _, _, rfl, ((hi1'.same s8).same s9).sq, ((lo2'.same s8).same s9).sq, ok, bh.mono (by decide), bl.mono (by decide), fun J10 t11 => ⟨_, rfl, ?_⟩⟩
      have s89 := (s8.trans s9).trans t11
      have el : J10 l = some (.lst [.ref fg, .ref rg]) := t11 _ _ upd_same
      generalize hb3 : Kzv1.lt m (Kzv1.sub v (Kzv1.partner m r)) (Kzv1.sub u (Kzv1.partner m f)) = b3
      have h3 : Kzv1.lt m (v - Ml.pt r) (u - Ml.pt f) = b3 := hb3
      cases b3 with
      | false =>
        refine iteF ⟨_, rfl, ?_⟩
        refine k J10 l [fg, rg] r f (s7.trans s89) ((s7.trans s8).free nl) el ?_ RF (mk_pb ok bu bv br bf)
        rw [em, h3]
        exact ⟨P2.same s89, P1.same s89, trivial⟩
      | true =>
        refine iteT ?_
        refine ⟨_, rfl, .inl ⟨rfl, _, SqL.of el⟩, _, rfl, rg, _, _, _, _, rfl, (s89 _ _ j1), T.cl_Part, T.n_Part_step, fPart_step _ _ _, _, rfl, fg, _, _, _, _, rfl, (s89 _ _ i2), T.cl_Part, T.n_Part_step, fPart_step _ _ _, ?_⟩
        refine ⟨a, b, r, f, rfl, (sa.same s89).sq, (sb.same s89).sq, fun J11 g t12 ng eg => ?_⟩
        refine ⟨_, rfl, rg, _, _, _, _, rfl, (t12 _ _ (s89 _ _ j1)), T.cl_Part, T.n_Part_high, fPart_high _ _ _, _, rfl, fg, _, _, _, _, rfl, (t12 _ _ (s89 _ _ i2)), T.cl_Part, T.n_Part_low, fPart_low _ _ _, ?_⟩
        intro x3 d3 nx3 nd3 ne3
        refine ⟨x3, d3, _, _, _, rfl, upd_same, fun J12 e12 i3 => ⟨rfl, ?_⟩⟩
        have t13 := made_same nx3 nd3 e12
        have t1013 := t12.trans t13
        have el12 := t1013 _ _ el
        refine ⟨l, _, _, rfl, rfl, el12, by show 2 < sizeLine; decide, ?_⟩
        have nb : H10 l = none := s8.free nl
        have s7u : Same H10 (upd J12 l (.lst ([.ref fg, .ref rg] ++ [.ref x3]))) := fun bb o h => by
          rw [upd_ne (ne_of_none h nb)]
          exact t1013 _ _ (s89 _ _ h)
        refine ⟨_, rfl, ?_⟩
        refine k _ l [fg, rg, x3] r f (s7.trans s7u) ((s7.trans s8).free nl) upd_same ?_ RF (mk_pb ok bu bv br bf)
        rw [em, h3]
        refine ⟨P2.same s7u, P1.same s7u, ?_, trivial⟩
        have gl : g ≠ l := fun e => by
          rw [e, el] at ng
          cases ng
        have xl : x3 ≠ l := fun e => by
          rw [e, t12 _ _ el] at nx3
          cases nx3
        refine ⟨d3, g, h1, l2, ?_, (eg.same t13).upd gl, hi1'.same s7u, lo2'.same s7u⟩
        rw [upd_ne xl]
        exact i3
set_option maxHeartbeats 4000000 in
theorem ok_comes_larger (T : Txt K mg A) : FnOk P w K mg base CX0 5 A.a_comes_larger A.d_comes_larger ["m", "x", "point"] (sp_comes_larger K) := by
  have G_is_point := ok_is_point (P := P) (w := w) (base := base) T
  have G_made_smaller := ok_made_smaller (P := P) (w := w) (base := base) T
  refine T.f_comes_larger.ok sc_comes_larger (fun vs H Q E h => ?_) (fun cdv AA outer s H vs Q E hr h => ?_)
  · obtain ⟨_, _, _, _, _, _, rfl, _⟩ := h
    rfl
  · obtain ⟨m, p, q, u, v, y, rfl, hp, hq, ok, bu, bv, bY, k⟩ := h
    refine ⟨_, (pss_one (ps_ret (pe_call G_is_point (hr.mono (by decide)) (by rfl) T.g_is_point T.f_is_point.kp T.b_is_point .nil pass0 (pa_cons (pv 0) (pa_cons (pv 1) (pa_cons (pe_call G_made_smaller (hr.mono (by decide)) (by rfl) T.g_made_smaller T.f_made_smaller.kp T.b_made_smaller .nil pass0 (pa_cons (pv 0) (pa_cons (pv 2) pa_nil))) pa_nil)))))), ?_⟩
    obtain ⟨a, b⟩ := u
    obtain ⟨c, d⟩ := v
    have eL : Kzv4.isLarge m ⟨⟨a, b⟩, ⟨c, d⟩⟩ y = Ml.pointB m [a, b, c, d] [(Kzv4.small m y).a, (Kzv4.small m y).b] := by
      rw [Ml.isLarge_eq ok, ← Ml.isPoint_eq ok.h1 ok.h4]
    rw [eL] at k
    refine ⟨_, rfl, _, rfl, _, rfl, _, rfl, m, q, y, rfl, hq, ok, fun H1 r s1 nr er => ?_⟩
    exact ⟨m, p, r, a, b, c, d, _, _, rfl, s1.seq hp, er.sq, ok, bu.1, bu.2, bv.1, bv.2, (bY.small ok).mono (by decide), fun H2 s2 => k _ (s1.trans s2)⟩
set_option maxHeartbeats 4000000 in
theorem ok_leads_from (T : Txt K mg A) : FnOk P w K mg base CX0 4 A.a_leads_from A.d_leads_from ["m", "part", "number"] (sp_leads_from K A) := by
  have G_lies_within := ok_lies_within (P := P) (w := w) (base := base) T
  have G_partner := ok_partner (P := P) (w := w) (base := base) T
  refine T.f_leads_from.ok sc_leads_from (fun vs H Q E h => ?_) (fun cdv AA outer s H vs Q E hr h => ?_)
  · obtain ⟨_, _, _, _, _, rfl, _⟩ := h
    rfl
  · obtain ⟨m, pp, p, d, x, rfl, hP, hb, hp, ok, bx, k⟩ := h
    refine ⟨_, (pss_one (ps_ret (pe_call G_lies_within (hr.mono (by decide)) (by rfl) T.g_lies_within T.f_lies_within.kp T.b_lies_within .nil pass0 (pa_cons (pv 0) (pa_cons (pe_call G_partner (hr.mono (by decide)) (by rfl) T.g_partner T.f_partner.kp T.b_partner .nil pass0 (pa_cons (pv 0) (pa_cons (pv 2) pa_nil))) (pa_cons (pe_fld (pv 1) rfl) (pa_cons (pe_fld (pv 1) rfl) pa_nil))))))), ?_⟩
    obtain ⟨dx, a, b, c, i0, na, nb, nc⟩ := hP
    refine ⟨_, rfl, _, rfl, _, rfl, m, p, x, rfl, hp, ok, fun H1 mi s1 nmi emi => ?_⟩
    refine ⟨_, rfl, pp, _, _, _, _, rfl, (s1 _ _ i0), T.cl_Part, T.n_Part_low, fPart_low _ _ _, _, rfl, pp, _, _, _, _, rfl, (s1 _ _ i0), T.cl_Part, T.n_Part_high, fPart_high _ _ _, ?_⟩
    exact ⟨m, mi, b, c, _, _, _, rfl, emi.sq, (nb.same s1).sq, (nc.same s1).sq, ok, (Bn.pt ok bx).mono (by decide), hb.2.1.mono (by decide), hb.2.2.mono (by decide), fun H2 s2 => k _ (s1.trans s2)⟩
set_option maxHeartbeats 4000000 in
theorem ok_point_before (T : Txt K mg A) : FnOk P w K mg base CX0 5 A.a_point_before A.d_point_before ["m", "parts", "point"] (sp_point_before K A) := by
  have G_leads_from := ok_leads_from (P := P) (w := w) (base := base) T
  have G_minus := ok_minus (P := P) (w := w) (base := base) T
  refine T.f_point_before.ok sc_point_before (fun vs H Q E h => ?_) (fun cdv AA outer s H vs Q E hr h => ?_)
  · obtain ⟨_, _, _, _, _, _, _, rfl, _⟩ := h
    rfl
  · obtain ⟨B, m, q, p, ps, ds, x, rfl, hq, sB, hP, hb, hp, ok, bx, hl, d, l, ef, k⟩ := h
    refine ⟨_, (pss_one (ps_ret (pe_ix ix_list (pe_lc (own := [("part", 3)]) (g := gName 3) (tt := _) rfl sc_point_before.nd (pi_list (pv 1)) (blkOk_by (N := N_point_before) (sc := defScope s_point_before) (by decide +kernel)) (fun _ _ _ _ _ => pg_name (i := 3) sc_point_before.nd rfl (.inl rfl)) (fun _ _ _ _ _ => by exact pts_one (pt_val (pe_call G_leads_from (hr.mono (by decide)) (by rfl) T.g_leads_from T.f_leads_from.kp T.b_leads_from .nil pass0 (pa_cons (pv 0) (pa_cons (pv 3) (pa_cons (pe_call G_minus (hr.mono (by decide)) (by rfl) T.g_minus T.f_minus.kp T.b_minus .nil pass0 (pa_cons (pv 2) (pa_cons (pe_fldK (K := K) (pv 3) (by rfl) (by rfl)) pa_nil))) pa_nil)))))) (fun _ _ _ _ _ => by exact (pe_call G_minus (hr.mono (by decide)) (by rfl) T.g_minus T.f_minus.kp T.b_minus .nil pass0 (pa_cons (pv 2) (pa_cons (pe_fldK (K := K) (pv 3) (by rfl) (by rfl)) pa_nil))))) pe_int (fun _ _ => rfl)))), ?_⟩
    refine ⟨_, rfl, q, rfl, ⟨_, hq⟩, fun D nD => ?_⟩
    refine lc_list (K := K) (a := q) (xs := ps.map V.ref) (fun i H' => Same H H' ∧ ∃ as : List Addr, H' D = some (.lst (as.map V.ref)) ∧ All2 (fun a (d : Ml.PD m) => Nm H' a (x - d.s) ∧ a ≠ D) as ((ds.take i).filter (fun d => Ml.within (Ml.pt (x - d.s)) d.lo d.hi))) ⟨same_upd nD, [], upd_same, trivial⟩ (fun i H' _ h => h.1.seq hq) ?_ ?_
    · rintro i y H' hi ⟨s2, as, eD, hA⟩
      obtain ⟨pp, hpp, rfl⟩ := get_ref hi
      obtain ⟨e, he, hPr⟩ := hP.get hpp
      have s12 := sB.trans s2
      have hpb := hb e (List.mem_of_getElem? he)
      have et := take_more he
      have hPr' := hPr
      obtain ⟨dx, a, b, c, i0, na, nb, nc⟩ := hPr
      refine ⟨rfl, _, rfl, _, rfl, _, rfl, _, rfl, pp, _, _, _, _, rfl, (s12 _ _ i0), T.cl_Part, T.n_Part_step, fPart_step _ _ _, ?_⟩
      refine ⟨p, a, x, e.s, rfl, s2.seq hp, (na.same s12).sq, fun H3 c1 s3 n3 e3 => ?_⟩
      refine ⟨m, pp, c1, e, x - e.s, rfl, (hPr'.same s12).same s3, hpb, e3.sq, ok, (Bn.sub bx hpb.1).mono (by decide), fun H4 s4 => ⟨_, rfl, ?_⟩⟩
      have s24 := s3.trans s4
      have s14 := s12.trans s24
      cases hw : Ml.within (Ml.pt (x - e.s)) e.lo e.hi with
      | true =>
        refine iteT ?_
        refine ⟨_, rfl, _, rfl, pp, _, _, _, _, rfl, (s14 _ _ i0), T.cl_Part, T.n_Part_step, fPart_step _ _ _, ?_⟩
        refine ⟨p, a, x, e.s, rfl, s24.seq (s2.seq hp), (na.same s14).sq, fun H5 c2 s5 n5 e5 => ?_⟩
        have s25 := s24.trans s5
        have nD2 : c2 ≠ D := fun q => by
          rw [q, s24 _ _ eD] at n5
          cases n5
        refine ⟨_, s25 _ _ eD, ?_, ?_, as ++ [c2], ?_, ?_⟩
        · rw [List.length_map, hA.len]
          refine Nat.lt_of_le_of_lt (Nat.le_trans (List.length_filter_le _ _) (Nat.le_trans ?_ hl)) (by rw [sizeLine_eq]; decide)
          rw [List.length_take]
          exact Nat.min_le_right _ _
        · exact fun bb o h => by
            rw [upd_ne (ne_of_none h nD)]
            exact s25 _ _ (s2 _ _ h)
        · rw [upd_same, List.map_append]
          rfl
        · rw [et, List.filter_append]
          refine All2.app (hA.imp fun _ _ h => ⟨(h.1.same s25).upd h.2, h.2⟩) ?_
          have e2 : ([e].filter fun d => Ml.within (Ml.pt (x - d.s)) d.lo d.hi) = [e] := by
            rw [List.filter_cons_of_pos (by exact hw)]
            rfl
          rw [e2]
          exact All2.one ⟨Nm.upd e5 nD2, nD2⟩
      | false =>
        refine iteF ⟨s2.trans s24, as, s24 _ _ eD, ?_⟩
        rw [et, List.filter_append]
        have e2 : ([e].filter fun d => Ml.within (Ml.pt (x - d.s)) d.lo d.hi) = [] := by
          rw [List.filter_cons_of_neg (by
            intro q
            exact absurd (q.symm.trans hw) (by decide))]
          rfl
        rw [e2, List.append_nil]
        exact hA.imp fun _ _ h => ⟨h.1.same s24, h.2⟩
    · rintro H' ⟨s2, as, eD, hA⟩
      rw [List.length_map, hP.len, take_all, ef] at hA
      match as, hA, eD with
      | a :: as, hA, eD =>
        refine ⟨D, _, 0, .ref a, rfl, rfl, SqL.of eD, atI_nat (j := 0) rfl, ?_⟩
        exact k H' a s2 hA.1.1
set_option maxHeartbeats 4000000 in
theorem ok_parent (T : Txt K mg A) : FnOk P w K mg base CX0 6 A.a_parent A.d_parent ["m", "x", "z"] (sp_parent K) := by
  have G_point_refusal := ok_point_refusal (P := P) (w := w) (base := base) T
  have G_window_parts := ok_window_parts (P := P) (w := w) (base := base) T
  have G_comes_larger := ok_comes_larger (P := P) (w := w) (base := base) T
  have G_point_before := ok_point_before (P := P) (w := w) (base := base) T
  have G_made_smaller := ok_made_smaller (P := P) (w := w) (base := base) T
  refine T.f_parent.ok sc_parent (fun vs H Q E h => ?_) (fun cdv AA outer s H vs Q E hr h => ?_)
  · obtain ⟨_, _, _, _, _, rfl, _⟩ := h
    rfl
  · obtain ⟨m, p, q, xs, zs, rfl, hp, hq, hl, hl2, k⟩ := h
    refine ⟨_, (pss_cons (ps_set (i := 3) sc_parent.nd rfl (.inl rfl) (pe_call G_point_refusal (hr.mono (by decide)) (by rfl) T.g_point_refusal T.f_point_refusal.kp T.b_point_refusal .nil pass0 (pa_cons (pv 0) (pa_cons (pv 1) (pa_cons (pv 2) pa_nil)))))
      (pss_cons (ps_if (pt_cmpR op_ne (pv 3) pe_int (nomark _))
      (pss_one (ps_ret (pe_lst (pa_cons (pv 3) pa_nil)))) pss_nil)
      (pss_cons (ps_set (i := 4) sc_parent.nd rfl (.inl rfl) (pe_call G_window_parts (hr.mono (by decide)) (by rfl) T.g_window_parts T.f_window_parts.kp T.b_window_parts .nil pass0 (pa_cons (pv 0) (pa_cons (pv 1) pa_nil))))
      (pss_cons (ps_set (i := 5) sc_parent.nd rfl (.inl rfl) (pv 2))
      (pss_cons (ps_while PassesOwn.never (pt_not (pt_val (pe_call G_comes_larger (hr.mono (by decide)) (by rfl) T.g_comes_larger T.f_comes_larger.kp T.b_comes_larger .nil pass0 (pa_cons (pv 0) (pa_cons (pv 1) (pa_cons (pv 5) pa_nil))))))
      (pss_one (ps_set (i := 5) sc_parent.nd rfl (.inl rfl) (pe_call G_point_before (hr.mono (by decide)) (by rfl) T.g_point_before T.f_point_before.kp T.b_point_before .nil pass0 (pa_cons (pv 0) (pa_cons (pv 4) (pa_cons (pv 5) pa_nil)))))))
      (pss_one (ps_ret (pe_op op_cat (pe_lst (pa_cons pe_int pa_nil)) (pe_call G_made_smaller (hr.mono (by decide)) (by rfl) T.g_made_smaller T.f_made_smaller.kp T.b_made_smaller .nil pass0 (pa_cons (pv 0) (pa_cons (pv 5) pa_nil))))))))))), ?_⟩
    refine ⟨_, rfl, _, rfl, _, rfl, m, p, q, xs, zs, rfl, hp, hq, hl, hl2, fun H1 s1 => ?_⟩
    refine ⟨_, rfl, rfl, _, rfl, ite2 (fun e => ?_) (fun e => ?_)⟩
    · have e1 : ¬ Ml.refusal m xs zs = 0 := fun z => by
        rw [z] at e
        exact absurd e (by decide)
      refine ⟨_, rfl, by show 1 ≤ sizeLine; decide, fun r nr => k _ r ?_⟩
      rw [upd_same]
      unfold Ml.parent
      rw [if_neg e1]
      rfl
    have e1 : Ml.refusal m xs zs = 0 := by
      by_cases z : Ml.refusal m xs zs = 0
      · exact z
      · exact absurd (by rw [decide_eq_false (fun q => z (V.int.inj q))]; rfl) e

    clear e
    obtain ⟨a, b, c, d, z1, z2, rfl, rfl⟩ := Ml.refusal_lists e1
    obtain ⟨hw, ht, hk, hpt⟩ := Ml.refusal_0 e1
    obtain ⟨h1, h4⟩ := Ml.isWin_m hw
    obtain ⟨n, rfl, ok⟩ := ok_of h1 h4
    have hb := Ml.told_all (Ml.isWin_told hw)
    have hz := Ml.told_all ht
    have W := Ml.win_wn ok hw
    have KK := Ml.keeps_kp ok (show Ml.keepsB n a b c d = true from hk)
    have PP := Ml.point_pt ok hpt
    rw [Ml.parent_0 e1, Int.toNat_natCast] at k
    have k' : ∀ (H' : Hp) (r : Addr), H' r = some (.lst (.int 0 :: zl (Kzv4.parent n ⟨⟨a, b⟩, ⟨c, d⟩⟩ ⟨z1, z2⟩))) → Q (.ref r) H' := k
    clear k
    have bu : Bn 1000000 ⟨a, b⟩ := Bn.of (hb a (by simp)) (hb b (by simp))
    have bv : Bn 1000000 ⟨c, d⟩ := Bn.of (hb c (by simp)) (hb d (by simp))
    have bz : Bn 1000000 ⟨z1, z2⟩ := Bn.of (hz z1 (by simp)) (hz z2 (by simp))
    have hp' : SqL K H p (zl ⟨a, b⟩ ++ zl ⟨c, d⟩) := hp
    have hq' : SqL K H q (zl ⟨z1, z2⟩) := hq
    clear hp hq hw ht hk hpt hb hz e1
    generalize (⟨a, b⟩ : Kzv1.Z) = u at *
    generalize (⟨c, d⟩ : Kzv1.Z) = v at *
    generalize (⟨z1, z2⟩ : Kzv1.Z) = z at *
    replace W : Ml.Wn n u v := W
    replace KK : Ml.Kp (m := n) u v := KK
    replace PP : Ml.Pt (m := n) u v z := PP
    obtain ⟨P, g, l0, hPar, hl0⟩ := Ml.par_ex W KK PP
    have eP := Ml.parent_par ok (x := ⟨u, v⟩) (z := z) W KK hPar hl0
    rw [eP] at k'
    refine ⟨_, rfl, _, rfl, n, p, u, v, rfl, s1.seq hp', ok, bu, bv, W, fun H2 pl ps r f s2 npl epl hP RF hB => ?_⟩
    have s12 := s1.trans s2
    have len3 : (Ml.mkParts n u v r f).length ≤ 1000 := Nat.le_trans mk_len (by decide)
    refine ⟨_, rfl, ?_⟩
    refine ⟨PaInv K n H2 p q pl _ u v P g, ⟨_, q, z, l0, rfl, fun _ _ h => h, s12.seq hq', hPar, hl0, bz.mono (by omega), rfl⟩, fun nn σ H3 h => ?_⟩
    obtain ⟨a1, y, l, rfl, s3, ha1, hY, hlen, bY, rfl⟩ := h
    have s13 := s12.trans s3
    refine ⟨_, rfl, _, rfl, _, rfl, n, p, a1, u, v, y, rfl, s13.seq hp', ha1, ok, bu, bv, bY.mono (by omega), fun H4 s4 => ⟨_, rfl, ?_⟩⟩
    cases hL : Kzv4.isLarge n ⟨u, v⟩ y with
    | true =>
      refine iteF ?_
      have el := hY.large.mp ((Ml.isLarge_iff ok ⟨u, v⟩ y).mp hL)
      subst el
      have ey := hY.first
      refine ⟨by show 1 ≤ sizeLine; decide, fun o no => ?_⟩
      have s5 : Same H4 (upd H4 o (.lst [.int 0])) := same_upd no
      refine ⟨_, rfl, _, rfl, n, a1, y, rfl, s5.seq (s4.seq ha1), ok, fun H6 r2 s6 nr2 er2 => ?_⟩
      refine ⟨o, r2, [.int 0], _, rfl, rfl, s6 _ _ upd_same, er2, by show 3 ≤ sizeLine; decide, fun r3 nr3 => k' _ r3 ?_⟩
      rw [upd_same, ey]
      rfl
    | false =>
      refine iteT ?_
      refine ⟨fun σ' H' => ∃ n', n' < l.length ∧ PaInv K n H2 p q pl _ u v P g n' σ' H', fun σ' H' h => h, ?_⟩
      have hne : l ≠ [] := fun q => by
        have := (Ml.isLarge_iff ok ⟨u, v⟩ y).mpr (hY.large.mpr q)
        exact absurd (this.symm.trans hL) (by decide)
      obtain ⟨s, Bs⟩ := Ml.bk_ex ok W hY.py
      obtain ⟨d1, l1, ef1, hd1, es⟩ := Ml.pickBack RF Bs hY.py
      obtain ⟨l', hl', hY'⟩ := hY.back KK hne Bs
      refine ⟨_, rfl, _, rfl, _, rfl, H2, n, pl, a1, ps, _, y, rfl, SqL.of (s4 _ _ (s3 _ _ epl)), s3.trans s4, hP, hB, s4.seq ha1, ok, bY.mono (by omega), len3, d1, l1, ef1, fun H5 a2 s5 e5 => ?_⟩
      rw [es] at e5
      have bs := (hB d1 hd1).1
      rw [es] at bs
      refine ⟨l'.length, by omega, a2, y - s, l', rfl, (s3.trans s4).trans s5, e5.sq, hY', by omega, ?_, rfl⟩
      refine (Bn.sub bY bs).mono ?_
      omega
end
theorem all_mk {P : Program} {w : World} {K : PySem.W.Frag} {h : Heap} {mg : Str → Option Value} {fa : Addr} (X : K.In h) (G : h.Ns mainGlobals mg) (hfa : mg "parent" = some (.ref fa))
    {f0 : Addr} {od0 an0 : Option Addr} {sl0 : Array (Option Value)} {oc0 kV0 dc0 pm0 cd0 ct0 : Value}
    {f1 : Addr} {od1 an1 : Option Addr} {sl1 : Array (Option Value)} {oc1 kV1 dc1 pm1 cd1 ct1 : Value}
    {f2 : Addr} {od2 an2 : Option Addr} {sl2 : Array (Option Value)} {oc2 kV2 dc2 pm2 cd2 ct2 : Value}
    {f3 : Addr} {od3 an3 : Option Addr} {sl3 : Array (Option Value)} {oc3 kV3 dc3 pm3 cd3 ct3 : Value}
    {f4 : Addr} {od4 an4 : Option Addr} {sl4 : Array (Option Value)} {oc4 kV4 dc4 pm4 cd4 ct4 : Value}
    {f5 : Addr} {od5 an5 : Option Addr} {sl5 : Array (Option Value)} {oc5 kV5 dc5 pm5 cd5 ct5 : Value}
    {f6 : Addr} {od6 an6 : Option Addr} {sl6 : Array (Option Value)} {oc6 kV6 dc6 pm6 cd6 ct6 : Value}
    {f7 : Addr} {od7 an7 : Option Addr} {sl7 : Array (Option Value)} {oc7 kV7 dc7 pm7 cd7 ct7 : Value}
    {f8 : Addr} {od8 an8 : Option Addr} {sl8 : Array (Option Value)} {oc8 kV8 dc8 pm8 cd8 ct8 : Value}
    {f9 : Addr} {od9 an9 : Option Addr} {sl9 : Array (Option Value)} {oc9 kV9 dc9 pm9 cd9 ct9 : Value}
    {f10 : Addr} {od10 an10 : Option Addr} {sl10 : Array (Option Value)} {oc10 kV10 dc10 pm10 cd10 ct10 : Value}
    {f11 : Addr} {od11 an11 : Option Addr} {sl11 : Array (Option Value)} {oc11 kV11 dc11 pm11 cd11 ct11 : Value}
    {f12 : Addr} {od12 an12 : Option Addr} {sl12 : Array (Option Value)} {oc12 kV12 dc12 pm12 cd12 ct12 : Value}
    {f13 : Addr} {od13 an13 : Option Addr} {sl13 : Array (Option Value)} {oc13 kV13 dc13 pm13 cd13 ct13 : Value}
    {f14 : Addr} {od14 an14 : Option Addr} {sl14 : Array (Option Value)} {oc14 kV14 dc14 pm14 cd14 ct14 : Value}
    {f15 : Addr} {od15 an15 : Option Addr} {sl15 : Array (Option Value)} {oc15 kV15 dc15 pm15 cd15 ct15 : Value}
    {f16 : Addr} {od16 an16 : Option Addr} {sl16 : Array (Option Value)} {oc16 kV16 dc16 pm16 cd16 ct16 : Value}
    {f17 : Addr} {od17 an17 : Option Addr} {sl17 : Array (Option Value)} {oc17 kV17 dc17 pm17 cd17 ct17 : Value}
    {f18 : Addr} {od18 an18 : Option Addr} {sl18 : Array (Option Value)} {oc18 kV18 dc18 pm18 cd18 ct18 : Value}
    {f19 : Addr} {od19 an19 : Option Addr} {sl19 : Array (Option Value)} {oc19 kV19 dc19 pm19 cd19 ct19 : Value}
    {CPart : Addr}
    {tWRONG_INPUT : Tok}
    {tNOT_KEPT : Tok}
    {tNO_POINT : Tok}
    {tLARGEST_M : Tok}
    {tLARGEST_PART : Tok}
    (aCPart : PySem.W.nsIn K mainGlobals "Part" = some (some (.ref CPart)))
    (pgPart : PySem.W.plainGet K CPart Str.empty = true) (hdPart : PySem.W.hasDictIn K CPart = true) (poPart : PySem.W.plainOver K CPart = true) (saPart : PySem.W.findIn K (.ref CPart) "__setattr__" = some (some (.builtin "object.__setattr__"))) (mkPart : PySem.W.makesIn K CPart = true) (kcPart : PySem.W.keepIn K (.ref CPart) = true)
    (nPartstep : PySem.W.findIn K (.ref CPart) "step" = some none)
    (nPartlow : PySem.W.findIn K (.ref CPart) "low" = some none)
    (nParthigh : PySem.W.findIn K (.ref CPart) "high" = some none)
    (iiPart : PySem.W.isFn K (.ref f8) = true)
    (a0 : PySem.W.nsIn K mainGlobals "parent" = some (some (.ref f0))) (l0 : K.lookup f0 = some ⟨oc0, od0, .func (PySem.W.fnOf "parent" "parent" (defArgs s_parent) (defBody s_parent) (defScope s_parent) .none kV0 dc0 pm0 an0 cd0 ct0), sl0⟩) (c0 : PySem.W.codeIn K cd0 "parent" = true) (k0 : PySem.W.keepIn K (.ref f0) = true)
    (a1 : PySem.W.nsIn K mainGlobals "point_refusal" = some (some (.ref f1))) (l1 : K.lookup f1 = some ⟨oc1, od1, .func (PySem.W.fnOf "point_refusal" "point_refusal" (defArgs s_point_refusal) (defBody s_point_refusal) (defScope s_point_refusal) .none kV1 dc1 pm1 an1 cd1 ct1), sl1⟩) (c1 : PySem.W.codeIn K cd1 "point_refusal" = true) (k1 : PySem.W.keepIn K (.ref f1) = true)
    (a2 : PySem.W.nsIn K mainGlobals "is_window" = some (some (.ref f2))) (l2 : K.lookup f2 = some ⟨oc2, od2, .func (PySem.W.fnOf "is_window" "is_window" (defArgs s_is_window) (defBody s_is_window) (defScope s_is_window) .none kV2 dc2 pm2 an2 cd2 ct2), sl2⟩) (c2 : PySem.W.codeIn K cd2 "is_window" = true) (k2 : PySem.W.keepIn K (.ref f2) = true)
    (a3 : PySem.W.nsIn K mainGlobals "is_told" = some (some (.ref f3))) (l3 : K.lookup f3 = some ⟨oc3, od3, .func (PySem.W.fnOf "is_told" "is_told" (defArgs s_is_told) (defBody s_is_told) (defScope s_is_told) .none kV3 dc3 pm3 an3 cd3 ct3), sl3⟩) (c3 : PySem.W.codeIn K cd3 "is_told" = true) (k3 : PySem.W.keepIn K (.ref f3) = true)
    (a4 : PySem.W.nsIn K mainGlobals "keeps_points" = some (some (.ref f4))) (l4 : K.lookup f4 = some ⟨oc4, od4, .func (PySem.W.fnOf "keeps_points" "keeps_points" (defArgs s_keeps_points) (defBody s_keeps_points) (defScope s_keeps_points) .none kV4 dc4 pm4 an4 cd4 ct4), sl4⟩) (c4 : PySem.W.codeIn K cd4 "keeps_points" = true) (k4 : PySem.W.keepIn K (.ref f4) = true)
    (a5 : PySem.W.nsIn K mainGlobals "smaller_window" = some (some (.ref f5))) (l5 : K.lookup f5 = some ⟨oc5, od5, .func (PySem.W.fnOf "smaller_window" "smaller_window" (defArgs s_smaller_window) (defBody s_smaller_window) (defScope s_smaller_window) .none kV5 dc5 pm5 an5 cd5 ct5), sl5⟩) (c5 : PySem.W.codeIn K cd5 "smaller_window" = true) (k5 : PySem.W.keepIn K (.ref f5) = true)
    (a6 : PySem.W.nsIn K mainGlobals "is_point" = some (some (.ref f6))) (l6 : K.lookup f6 = some ⟨oc6, od6, .func (PySem.W.fnOf "is_point" "is_point" (defArgs s_is_point) (defBody s_is_point) (defScope s_is_point) .none kV6 dc6 pm6 an6 cd6 ct6), sl6⟩) (c6 : PySem.W.codeIn K cd6 "is_point" = true) (k6 : PySem.W.keepIn K (.ref f6) = true)
    (a7 : PySem.W.nsIn K mainGlobals "comes_larger" = some (some (.ref f7))) (l7 : K.lookup f7 = some ⟨oc7, od7, .func (PySem.W.fnOf "comes_larger" "comes_larger" (defArgs s_comes_larger) (defBody s_comes_larger) (defScope s_comes_larger) .none kV7 dc7 pm7 an7 cd7 ct7), sl7⟩) (c7 : PySem.W.codeIn K cd7 "comes_larger" = true) (k7 : PySem.W.keepIn K (.ref f7) = true)
    (a8 : PySem.W.findIn K (.ref CPart) "__init__" = some (some (.ref f8))) (l8 : K.lookup f8 = some ⟨oc8, od8, .func (PySem.W.fnOf "__init__" "Part.__init__" (defArgs s_Part_init) (defBody s_Part_init) (defScope s_Part_init) .none kV8 dc8 pm8 an8 cd8 ct8), sl8⟩) (c8 : PySem.W.codeIn K cd8 "Part.__init__" = true) (k8 : PySem.W.keepIn K (.ref f8) = true)
    (a9 : PySem.W.nsIn K mainGlobals "window_parts" = some (some (.ref f9))) (l9 : K.lookup f9 = some ⟨oc9, od9, .func (PySem.W.fnOf "window_parts" "window_parts" (defArgs s_window_parts) (defBody s_window_parts) (defScope s_window_parts) .none kV9 dc9 pm9 an9 cd9 ct9), sl9⟩) (c9 : PySem.W.codeIn K cd9 "window_parts" = true) (k9 : PySem.W.keepIn K (.ref f9) = true)
    (a10 : PySem.W.nsIn K mainGlobals "rising_and_falling" = some (some (.ref f10))) (l10 : K.lookup f10 = some ⟨oc10, od10, .func (PySem.W.fnOf "rising_and_falling" "rising_and_falling" (defArgs s_rising_and_falling) (defBody s_rising_and_falling) (defScope s_rising_and_falling) .none kV10 dc10 pm10 an10 cd10 ct10), sl10⟩) (c10 : PySem.W.codeIn K cd10 "rising_and_falling" = true) (k10 : PySem.W.keepIn K (.ref f10) = true)
    (a11 : PySem.W.nsIn K mainGlobals "point_before" = some (some (.ref f11))) (l11 : K.lookup f11 = some ⟨oc11, od11, .func (PySem.W.fnOf "point_before" "point_before" (defArgs s_point_before) (defBody s_point_before) (defScope s_point_before) .none kV11 dc11 pm11 an11 cd11 ct11), sl11⟩) (c11 : PySem.W.codeIn K cd11 "point_before" = true) (k11 : PySem.W.keepIn K (.ref f11) = true)
    (a12 : PySem.W.nsIn K mainGlobals "leads_from" = some (some (.ref f12))) (l12 : K.lookup f12 = some ⟨oc12, od12, .func (PySem.W.fnOf "leads_from" "leads_from" (defArgs s_leads_from) (defBody s_leads_from) (defScope s_leads_from) .none kV12 dc12 pm12 an12 cd12 ct12), sl12⟩) (c12 : PySem.W.codeIn K cd12 "leads_from" = true) (k12 : PySem.W.keepIn K (.ref f12) = true)
    (a13 : PySem.W.nsIn K mainGlobals "partner" = some (some (.ref f13))) (l13 : K.lookup f13 = some ⟨oc13, od13, .func (PySem.W.fnOf "partner" "partner" (defArgs s_partner) (defBody s_partner) (defScope s_partner) .none kV13 dc13 pm13 an13 cd13 ct13), sl13⟩) (c13 : PySem.W.codeIn K cd13 "partner" = true) (k13 : PySem.W.keepIn K (.ref f13) = true)
    (a14 : PySem.W.nsIn K mainGlobals "made_larger" = some (some (.ref f14))) (l14 : K.lookup f14 = some ⟨oc14, od14, .func (PySem.W.fnOf "made_larger" "made_larger" (defArgs s_made_larger) (defBody s_made_larger) (defScope s_made_larger) .none kV14 dc14 pm14 an14 cd14 ct14), sl14⟩) (c14 : PySem.W.codeIn K cd14 "made_larger" = true) (k14 : PySem.W.keepIn K (.ref f14) = true)
    (a15 : PySem.W.nsIn K mainGlobals "made_smaller" = some (some (.ref f15))) (l15 : K.lookup f15 = some ⟨oc15, od15, .func (PySem.W.fnOf "made_smaller" "made_smaller" (defArgs s_made_smaller) (defBody s_made_smaller) (defScope s_made_smaller) .none kV15 dc15 pm15 an15 cd15 ct15), sl15⟩) (c15 : PySem.W.codeIn K cd15 "made_smaller" = true) (k15 : PySem.W.keepIn K (.ref f15) = true)
    (a16 : PySem.W.nsIn K mainGlobals "plus" = some (some (.ref f16))) (l16 : K.lookup f16 = some ⟨oc16, od16, .func (PySem.W.fnOf "plus" "plus" (defArgs s_plus) (defBody s_plus) (defScope s_plus) .none kV16 dc16 pm16 an16 cd16 ct16), sl16⟩) (c16 : PySem.W.codeIn K cd16 "plus" = true) (k16 : PySem.W.keepIn K (.ref f16) = true)
    (a17 : PySem.W.nsIn K mainGlobals "minus" = some (some (.ref f17))) (l17 : K.lookup f17 = some ⟨oc17, od17, .func (PySem.W.fnOf "minus" "minus" (defArgs s_minus) (defBody s_minus) (defScope s_minus) .none kV17 dc17 pm17 an17 cd17 ct17), sl17⟩) (c17 : PySem.W.codeIn K cd17 "minus" = true) (k17 : PySem.W.keepIn K (.ref f17) = true)
    (a18 : PySem.W.nsIn K mainGlobals "lies_within" = some (some (.ref f18))) (l18 : K.lookup f18 = some ⟨oc18, od18, .func (PySem.W.fnOf "lies_within" "lies_within" (defArgs s_lies_within) (defBody s_lies_within) (defScope s_lies_within) .none kV18 dc18 pm18 an18 cd18 ct18), sl18⟩) (c18 : PySem.W.codeIn K cd18 "lies_within" = true) (k18 : PySem.W.keepIn K (.ref f18) = true)
    (a19 : PySem.W.nsIn K mainGlobals "is_below" = some (some (.ref f19))) (l19 : K.lookup f19 = some ⟨oc19, od19, .func (PySem.W.fnOf "is_below" "is_below" (defArgs s_is_below) (defBody s_is_below) (defScope s_is_below) .none kV19 dc19 pm19 an19 cd19 ct19), sl19⟩) (c19 : PySem.W.codeIn K cd19 "is_below" = true) (k19 : PySem.W.keepIn K (.ref f19) = true)
    (qWRONG_INPUT : PySem.W.nsIn K mainGlobals "WRONG_INPUT" = some (some (.int (-22) tWRONG_INPUT)))
    (qNOT_KEPT : PySem.W.nsIn K mainGlobals "NOT_KEPT" = some (some (.int (-33) tNOT_KEPT)))
    (qNO_POINT : PySem.W.nsIn K mainGlobals "NO_POINT" = some (some (.int (-2) tNO_POINT)))
    (qLARGEST_M : PySem.W.nsIn K mainGlobals "LARGEST_M" = some (some (.int (4) tLARGEST_M)))
    (qLARGEST_PART : PySem.W.nsIn K mainGlobals "LARGEST_PART" = some (some (.int (1000000) tLARGEST_PART)))
    (zall : PySem.W.nsIn K mainGlobals "all" = some none)
    (zabs : PySem.W.nsIn K mainGlobals "abs" = some none)
    (zlen : PySem.W.nsIn K mainGlobals "len" = some none)
    : ∃ fd : FuncData, (∀ (s : Shared) (us : List Value), us.length = (["m", "x", "z"] : List Str).length → BindsTo s fd ⟨us, []⟩ ((["m", "x", "z"] : List Str).zip us)) ∧ ∀ base : Heap, K.In base → base.Ns mainGlobals mg → FnOk P w K mg base CX0 6 fa fd ["m", "x", "z"] (sp_parent K) := by
  have e := hfa.symm.trans (PySem.W.mg_of X G a0)
  obtain rfl : f0 = fa := by
    injection e with e
    injection e with e
    exact e.symm
  have F0 := fun_mk (st := s_parent) l0 c0 k0
  have b0 := F0.binds (ps := ["m", "x", "z"]) fun _ _ _ _ _ _ us hl => match us, hl with | [_, _, _], _ => rfl
  have F1 := fun_mk (st := s_point_refusal) l1 c1 k1
  have b1 := F1.binds (ps := ["m", "x", "z"]) fun _ _ _ _ _ _ us hl => match us, hl with | [_, _, _], _ => rfl
  have F2 := fun_mk (st := s_is_window) l2 c2 k2
  have b2 := F2.binds (ps := ["m", "x"]) fun _ _ _ _ _ _ us hl => match us, hl with | [_, _], _ => rfl
  have F3 := fun_mk (st := s_is_told) l3 c3 k3
  have b3 := F3.binds (ps := ["parts", "count"]) fun _ _ _ _ _ _ us hl => match us, hl with | [_, _], _ => rfl
  have F4 := fun_mk (st := s_keeps_points) l4 c4 k4
  have b4 := F4.binds (ps := ["m", "x"]) fun _ _ _ _ _ _ us hl => match us, hl with | [_, _], _ => rfl
  have F5 := fun_mk (st := s_smaller_window) l5 c5 k5
  have b5 := F5.binds (ps := ["m", "x"]) fun _ _ _ _ _ _ us hl => match us, hl with | [_, _], _ => rfl
  have F6 := fun_mk (st := s_is_point) l6 c6 k6
  have b6 := F6.binds (ps := ["m", "x", "z"]) fun _ _ _ _ _ _ us hl => match us, hl with | [_, _, _], _ => rfl
  have F7 := fun_mk (st := s_comes_larger) l7 c7 k7
  have b7 := F7.binds (ps := ["m", "x", "point"]) fun _ _ _ _ _ _ us hl => match us, hl with | [_, _, _], _ => rfl
  have F8 := fun_mk (st := s_Part_init) l8 c8 k8
  have b8 := F8.binds (ps := ["self", "step", "low", "high"]) fun _ _ _ _ _ _ us hl => match us, hl with | [_, _, _, _], _ => rfl
  have F9 := fun_mk (st := s_window_parts) l9 c9 k9
  have b9 := F9.binds (ps := ["m", "x"]) fun _ _ _ _ _ _ us hl => match us, hl with | [_, _], _ => rfl
  have F10 := fun_mk (st := s_rising_and_falling) l10 c10 k10
  have b10 := F10.binds (ps := ["m", "length"]) fun _ _ _ _ _ _ us hl => match us, hl with | [_, _], _ => rfl
  have F11 := fun_mk (st := s_point_before) l11 c11 k11
  have b11 := F11.binds (ps := ["m", "parts", "point"]) fun _ _ _ _ _ _ us hl => match us, hl with | [_, _, _], _ => rfl
  have F12 := fun_mk (st := s_leads_from) l12 c12 k12
  have b12 := F12.binds (ps := ["m", "part", "number"]) fun _ _ _ _ _ _ us hl => match us, hl with | [_, _, _], _ => rfl
  have F13 := fun_mk (st := s_partner) l13 c13 k13
  have b13 := F13.binds (ps := ["m", "number"]) fun _ _ _ _ _ _ us hl => match us, hl with | [_, _], _ => rfl
  have F14 := fun_mk (st := s_made_larger) l14 c14 k14
  have b14 := F14.binds (ps := ["m", "number"]) fun _ _ _ _ _ _ us hl => match us, hl with | [_, _], _ => rfl
  have F15 := fun_mk (st := s_made_smaller) l15 c15 k15
  have b15 := F15.binds (ps := ["m", "number"]) fun _ _ _ _ _ _ us hl => match us, hl with | [_, _], _ => rfl
  have F16 := fun_mk (st := s_plus) l16 c16 k16
  have b16 := F16.binds (ps := ["number", "other"]) fun _ _ _ _ _ _ us hl => match us, hl with | [_, _], _ => rfl
  have F17 := fun_mk (st := s_minus) l17 c17 k17
  have b17 := F17.binds (ps := ["number", "other"]) fun _ _ _ _ _ _ us hl => match us, hl with | [_, _], _ => rfl
  have F18 := fun_mk (st := s_lies_within) l18 c18 k18
  have b18 := F18.binds (ps := ["m", "number", "low", "high"]) fun _ _ _ _ _ _ us hl => match us, hl with | [_, _, _, _], _ => rfl
  have F19 := fun_mk (st := s_is_below) l19 c19 k19
  have b19 := F19.binds (ps := ["m", "number", "other"]) fun _ _ _ _ _ _ us hl => match us, hl with | [_, _, _], _ => rfl
  have T : Txt K mg ⟨f0, (PySem.W.fnOf "parent" "parent" (defArgs s_parent) (defBody s_parent) (defScope s_parent) .none kV0 dc0 pm0 an0 cd0 ct0), f1, (PySem.W.fnOf "point_refusal" "point_refusal" (defArgs s_point_refusal) (defBody s_point_refusal) (defScope s_point_refusal) .none kV1 dc1 pm1 an1 cd1 ct1), f2, (PySem.W.fnOf "is_window" "is_window" (defArgs s_is_window) (defBody s_is_window) (defScope s_is_window) .none kV2 dc2 pm2 an2 cd2 ct2), f3, (PySem.W.fnOf "is_told" "is_told" (defArgs s_is_told) (defBody s_is_told) (defScope s_is_told) .none kV3 dc3 pm3 an3 cd3 ct3), f4, (PySem.W.fnOf "keeps_points" "keeps_points" (defArgs s_keeps_points) (defBody s_keeps_points) (defScope s_keeps_points) .none kV4 dc4 pm4 an4 cd4 ct4), f5, (PySem.W.fnOf "smaller_window" "smaller_window" (defArgs s_smaller_window) (defBody s_smaller_window) (defScope s_smaller_window) .none kV5 dc5 pm5 an5 cd5 ct5), f6, (PySem.W.fnOf "is_point" "is_point" (defArgs s_is_point) (defBody s_is_point) (defScope s_is_point) .none kV6 dc6 pm6 an6 cd6 ct6), f7, (PySem.W.fnOf "comes_larger" "comes_larger" (defArgs s_comes_larger) (defBody s_comes_larger) (defScope s_comes_larger) .none kV7 dc7 pm7 an7 cd7 ct7), f8, (PySem.W.fnOf "__init__" "Part.__init__" (defArgs s_Part_init) (defBody s_Part_init) (defScope s_Part_init) .none kV8 dc8 pm8 an8 cd8 ct8), f9, (PySem.W.fnOf "window_parts" "window_parts" (defArgs s_window_parts) (defBody s_window_parts) (defScope s_window_parts) .none kV9 dc9 pm9 an9 cd9 ct9), f10, (PySem.W.fnOf "rising_and_falling" "rising_and_falling" (defArgs s_rising_and_falling) (defBody s_rising_and_falling) (defScope s_rising_and_falling) .none kV10 dc10 pm10 an10 cd10 ct10), f11, (PySem.W.fnOf "point_before" "point_before" (defArgs s_point_before) (defBody s_point_before) (defScope s_point_before) .none kV11 dc11 pm11 an11 cd11 ct11), f12, (PySem.W.fnOf "leads_from" "leads_from" (defArgs s_leads_from) (defBody s_leads_from) (defScope s_leads_from) .none kV12 dc12 pm12 an12 cd12 ct12), f13, (PySem.W.fnOf "partner" "partner" (defArgs s_partner) (defBody s_partner) (defScope s_partner) .none kV13 dc13 pm13 an13 cd13 ct13), f14, (PySem.W.fnOf "made_larger" "made_larger" (defArgs s_made_larger) (defBody s_made_larger) (defScope s_made_larger) .none kV14 dc14 pm14 an14 cd14 ct14), f15, (PySem.W.fnOf "made_smaller" "made_smaller" (defArgs s_made_smaller) (defBody s_made_smaller) (defScope s_made_smaller) .none kV15 dc15 pm15 an15 cd15 ct15), f16, (PySem.W.fnOf "plus" "plus" (defArgs s_plus) (defBody s_plus) (defScope s_plus) .none kV16 dc16 pm16 an16 cd16 ct16), f17, (PySem.W.fnOf "minus" "minus" (defArgs s_minus) (defBody s_minus) (defScope s_minus) .none kV17 dc17 pm17 an17 cd17 ct17), f18, (PySem.W.fnOf "lies_within" "lies_within" (defArgs s_lies_within) (defBody s_lies_within) (defScope s_lies_within) .none kV18 dc18 pm18 an18 cd18 ct18), f19, (PySem.W.fnOf "is_below" "is_below" (defArgs s_is_below) (defBody s_is_below) (defScope s_is_below) .none kV19 dc19 pm19 an19 cd19 ct19), CPart, tWRONG_INPUT, tNOT_KEPT, tNO_POINT, tLARGEST_M, tLARGEST_PART⟩ := ⟨F0, b0, PySem.W.mg_of X G a0, F1, b1, PySem.W.mg_of X G a1, F2, b2, PySem.W.mg_of X G a2, F3, b3, PySem.W.mg_of X G a3, F4, b4, PySem.W.mg_of X G a4, F5, b5, PySem.W.mg_of X G a5, F6, b6, PySem.W.mg_of X G a6, F7, b7, PySem.W.mg_of X G a7, F8, b8, F9, b9, PySem.W.mg_of X G a9, F10, b10, PySem.W.mg_of X G a10, F11, b11, PySem.W.mg_of X G a11, F12, b12, PySem.W.mg_of X G a12, F13, b13, PySem.W.mg_of X G a13, F14, b14, PySem.W.mg_of X G a14, F15, b15, PySem.W.mg_of X G a15, F16, b16, PySem.W.mg_of X G a16, F17, b17, PySem.W.mg_of X G a17, F18, b18, PySem.W.mg_of X G a18, F19, b19, PySem.W.mg_of X G a19, ⟨pgPart, hdPart, poPart, saPart⟩, ⟨mkPart, a8, iiPart, kcPart⟩, PySem.W.mg_of X G aCPart, nPartstep, nPartlow, nParthigh, PySem.W.mg_of X G qWRONG_INPUT, PySem.W.mg_of X G qNOT_KEPT, PySem.W.mg_of X G qNO_POINT, PySem.W.mg_of X G qLARGEST_M, PySem.W.mg_of X G qLARGEST_PART, PySem.W.mg_none_of X G zall, PySem.W.mg_none_of X G zabs, PySem.W.mg_none_of X G zlen⟩
  exact ⟨(PySem.W.fnOf "parent" "parent" (defArgs s_parent) (defBody s_parent) (defScope s_parent) .none kV0 dc0 pm0 an0 cd0 ct0), fun s us hu => match us, hu with | [_, _, _], _ => .of_eq rfl, fun base _ _ => ok_parent T⟩
end Mh
open PySem PySem.W PyProof.Rows
set_option maxRecDepth 100000 in
set_option maxHeartbeats 8000000 in
theorem PySem.Challenge.cw_madelarger_s05_parent_holds : PySem.Challenge.rw_madelarger_s05_parent.Holds := by
  w_on; k_headS; (case hw => exact ⟨[.int 0, .list [], .list []], by decide +kernel, by decide +kernel⟩)
  k_fillS
  refine L2.walk_specK (r := PySem.Challenge.rw_madelarger_s05_parent) (k := 6) (CX := L2.CX0) (ps := ["m", "x", "z"]) (sp := Mh.sp_parent) (by decide +kernel) rfl rfl ⟨rfl, by decide, by decide⟩ (fun w h Y => PySem.W.kIn_of Y) ?F ?S (fun _ _ _ _ z => z)
  case F =>
    intro w mg fa h Y KX G hmg
    refine' Mh.all_mk KX G hmg ?aCPart ?pgPart ?hdPart ?poPart ?saPart ?mkPart ?kcPart ?nPartstep ?nPartlow ?nParthigh ?iiPart ?a0 ?l0 ?c0 ?k0 ?a1 ?l1 ?c1 ?k1 ?a2 ?l2 ?c2 ?k2 ?a3 ?l3 ?c3 ?k3 ?a4 ?l4 ?c4 ?k4 ?a5 ?l5 ?c5 ?k5 ?a6 ?l6 ?c6 ?k6 ?a7 ?l7 ?c7 ?k7 ?a8 ?l8 ?c8 ?k8 ?a9 ?l9 ?c9 ?k9 ?a10 ?l10 ?c10 ?k10 ?a11 ?l11 ?c11 ?k11 ?a12 ?l12 ?c12 ?k12 ?a13 ?l13 ?c13 ?k13 ?a14 ?l14 ?c14 ?k14 ?a15 ?l15 ?c15 ?k15 ?a16 ?l16 ?c16 ?k16 ?a17 ?l17 ?c17 ?k17 ?a18 ?l18 ?c18 ?k18 ?a19 ?l19 ?c19 ?k19 ?qWRONG_INPUT ?qNOT_KEPT ?qNO_POINT ?qLARGEST_M ?qLARGEST_PART ?zall ?zabs ?zlen
    (case aCPart => k_is)
    (case pgPart => k_is)
    (case hdPart => k_is)
    (case poPart => k_is)
    (case saPart => k_is)
    (case mkPart => k_is)
    (case kcPart => k_is)
    (case nPartstep => k_is)
    (case nPartlow => k_is)
    (case nParthigh => k_is)
    (case a0 => k_is)
    (case l0 => k_is)
    (case c0 => k_is)
    (case k0 => k_is)
    (case a1 => k_is)
    (case l1 => k_is)
    (case c1 => k_is)
    (case k1 => k_is)
    (case a2 => k_is)
    (case l2 => k_is)
    (case c2 => k_is)
    (case k2 => k_is)
    (case a3 => k_is)
    (case l3 => k_is)
    (case c3 => k_is)
    (case k3 => k_is)
    (case a4 => k_is)
    (case l4 => k_is)
    (case c4 => k_is)
    (case k4 => k_is)
    (case a5 => k_is)
    (case l5 => k_is)
    (case c5 => k_is)
    (case k5 => k_is)
    (case a6 => k_is)
    (case l6 => k_is)
    (case c6 => k_is)
    (case k6 => k_is)
    (case a7 => k_is)
    (case l7 => k_is)
    (case c7 => k_is)
    (case k7 => k_is)
    (case a8 => k_is)
    (case l8 => k_is)
    (case c8 => k_is)
    (case k8 => k_is)
    (case a9 => k_is)
    (case l9 => k_is)
    (case c9 => k_is)
    (case k9 => k_is)
    (case a10 => k_is)
    (case l10 => k_is)
    (case c10 => k_is)
    (case k10 => k_is)
    (case a11 => k_is)
    (case l11 => k_is)
    (case c11 => k_is)
    (case k11 => k_is)
    (case a12 => k_is)
    (case l12 => k_is)
    (case c12 => k_is)
    (case k12 => k_is)
    (case a13 => k_is)
    (case l13 => k_is)
    (case c13 => k_is)
    (case k13 => k_is)
    (case a14 => k_is)
    (case l14 => k_is)
    (case c14 => k_is)
    (case k14 => k_is)
    (case a15 => k_is)
    (case l15 => k_is)
    (case c15 => k_is)
    (case k15 => k_is)
    (case a16 => k_is)
    (case l16 => k_is)
    (case c16 => k_is)
    (case k16 => k_is)
    (case a17 => k_is)
    (case l17 => k_is)
    (case c17 => k_is)
    (case k17 => k_is)
    (case a18 => k_is)
    (case l18 => k_is)
    (case c18 => k_is)
    (case k18 => k_is)
    (case a19 => k_is)
    (case l19 => k_is)
    (case c19 => k_is)
    (case k19 => k_is)
    (case qWRONG_INPUT => k_is)
    (case qNOT_KEPT => k_is)
    (case qNO_POINT => k_is)
    (case qLARGEST_M => k_is)
    (case qLARGEST_PART => k_is)
    (case zall => k_is)
    (case zabs => k_is)
    (case zlen => k_is)
    (case iiPart => k_is)
  case S =>
    intro K H xs a hO hwi hask hx
    cases hx with
    | cons h1 h2 =>
      cases h2 with
      | cons h3 h4 =>
        cases h4 with
        | cons h5 h6 =>
          cases h6
          cases h1
          cases h3 with
          | lst hs ha =>
            cases h5 with
            | lst hs2 ha2 =>
              have e := L2.ints_dw a.2.1 _ ha
              subst e
              have e2 := L2.ints_dw a.2.2.1 _ ha2
              subst e2
              have q : (Codec.inInt 0 4294967295 a.1 && ((Codec.inLen 0 8 a.2.1 && a.2.1.all (Codec.inInt (-2147483647) 2147483647)) && ((Codec.inLen 0 8 a.2.2.1 && a.2.2.1.all (Codec.inInt (-2147483647) 2147483647)) && true))) = true := hwi
              rw [Bool.and_eq_true, Bool.and_eq_true, Bool.and_eq_true, Bool.and_eq_true, Bool.and_eq_true] at q
              have hm : 0 ≤ a.1 := by
                have := q.1
                unfold Codec.inInt at this
                simp only [Bool.and_eq_true, decide_eq_true_eq] at this
                exact this.1
              have l1 := (Codec.inNat_iff.mp q.2.1.1).2
              have l2 := (Codec.inNat_iff.mp q.2.2.1.1).2
              refine ⟨_, _, _, a.2.1, a.2.2.1, rfl, hs, hs2, by omega, by omega, fun H' r hr => ?_⟩
              rw [← Ml.parent_is hm] at hr
              exact .lst (L2.SqL.of hr) (L2.dw_ints _)
#print axioms PySem.Challenge.cw_madelarger_s05_parent_holds
