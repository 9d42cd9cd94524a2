import PyProof.Rows.All
import Wide.All
import OpenK.AllK
import Wide.FinOn
import Open.SpecLaws
import KE.OsGo
import HandS.ForSpec
import HandS.ForMost
import PySem.Challenge.RW_madelarger_s01_keeps
set_option Elab.async false
set_option maxRecDepth 100000
namespace Ml
open Kzv1 (Z sign lt le sub)

theorem irr_p {p : Int} (hp : 1 < p) (P : ∀ x : Int, (x * x) % p = 0 → x % p = 0) :
    ∀ (n : Nat) (s b : Int), b.natAbs ≤ n → s * s = p * (b * b) → b = 0 := by
  intro n
  induction n with
  | zero => intro s b h _; omega
  | succ n ih =>
    intro s b hb h
    have h1 : s % p = 0 := P s (by rw [h]; exact Int.mul_emod_right p (b * b))
    obtain ⟨t, rfl⟩ := Int.dvd_of_emod_eq_zero h1
    have h2 : p * (t * t) = b * b := by
      have : p * (p * (t * t)) = p * (b * b) := by rw [← h]; simp only [Int.mul_assoc, Int.mul_left_comm]
      exact Int.eq_of_mul_eq_mul_left (by omega) this
    have h3 : b % p = 0 := P b (by rw [← h2]; exact Int.mul_emod_right p (t * t))
    obtain ⟨c, rfl⟩ := Int.dvd_of_emod_eq_zero h3
    have h4 : t * t = p * (c * c) := by
      have : p * (t * t) = p * (p * (c * c)) := by rw [h2]; simp only [Int.mul_assoc, Int.mul_left_comm]
      exact Int.eq_of_mul_eq_mul_left (by omega) this
    by_cases hc : c = 0
    · rw [hc, Int.mul_zero]
    · have : c.natAbs < (p * c).natAbs := by
        rw [Int.natAbs_mul]
        have h5 : 0 < c.natAbs := by omega
        have h6 : 2 ≤ p.natAbs := by omega
        calc c.natAbs < 2 * c.natAbs := by omega
          _ ≤ p.natAbs * c.natAbs := Nat.mul_le_mul_right _ h6
      exact absurd (ih t c (by omega) h4) hc

theorem sq_mod2 (x : Int) (h : (x * x) % 2 = 0) : x % 2 = 0 := by
  rw [Int.mul_emod] at h
  have h1 : x % 2 = 0 ∨ x % 2 = 1 := by omega
  rcases h1 with e | e
  · exact e
  · rw [e] at h; exact absurd h (by decide)
theorem sq_mod5 (x : Int) (h : (x * x) % 5 = 0) : x % 5 = 0 := by
  rw [Int.mul_emod] at h
  have h1 : x % 5 = 0 ∨ x % 5 = 1 ∨ x % 5 = 2 ∨ x % 5 = 3 ∨ x % 5 = 4 := by omega
  rcases h1 with e | e | e | e | e
  · exact e
  all_goals (rw [e] at h; exact absurd h (by decide))
theorem sq_mod13 (x : Int) (h : (x * x) % 13 = 0) : x % 13 = 0 := by
  rw [Int.mul_emod] at h
  have h1 : x % 13 = 0 ∨ x % 13 = 1 ∨ x % 13 = 2 ∨ x % 13 = 3 ∨ x % 13 = 4 ∨ x % 13 = 5 ∨ x % 13 = 6 ∨ x % 13 = 7 ∨ x % 13 = 8 ∨ x % 13 = 9 ∨ x % 13 = 10 ∨ x % 13 = 11 ∨ x % 13 = 12 := by omega
  rcases h1 with e | e | e | e | e | e | e | e | e | e | e | e | e
  · exact e
  all_goals (rw [e] at h; exact absurd h (by decide))

/-- the root of m m + 4 is no fraction -/
theorem irr {m s b : Int} (h1 : 1 ≤ m) (h4 : m ≤ 4) (h : s * s = (m * m + 4) * (b * b)) : b = 0 := by
  have hm : m = 1 ∨ m = 2 ∨ m = 3 ∨ m = 4 := by omega
  rcases hm with rfl | rfl | rfl | rfl
  · exact irr_p (p := 5) (by decide) sq_mod5 _ s b (Nat.le_refl _) h
  · have e : s % 2 = 0 := sq_mod2 s (by rw [h]; omega)
    obtain ⟨t, rfl⟩ := Int.dvd_of_emod_eq_zero e
    have e2 : (2 * t) * (2 * t) = 4 * (t * t) := by grind
    exact irr_p (p := 2) (by decide) sq_mod2 _ t b (Nat.le_refl _) (by omega)
  · exact irr_p (p := 13) (by decide) sq_mod13 _ s b (Nat.le_refl _) h
  · have e : s % 2 = 0 := sq_mod2 s (by rw [h]; omega)
    obtain ⟨t, rfl⟩ := Int.dvd_of_emod_eq_zero e
    have e2 : (2 * t) * (2 * t) = 4 * (t * t) := by grind
    exact irr_p (p := 5) (by decide) sq_mod5 _ t b (Nat.le_refl _) (by omega)

def ab (i : Int) : Int := if i < 0 then -i else i
/-- squares that keep their sign, together: what the program reckons -/
def form (m s b : Int) : Int := s * ab s + (m * m + 4) * b * ab b
theorem ab_pos {i : Int} (h : 0 ≤ i) : i * ab i = i * i := by unfold ab; rw [if_neg (by omega)]
theorem ab_neg {i : Int} (h : i ≤ 0) : i * ab i = -(i * i) := by
  unfold ab
  by_cases c : i < 0
  · rw [if_pos c, Int.mul_neg]
  · have : i = 0 := by omega
    subst this; rfl
theorem form_eq (m s b : Int) : form m s b = s * ab s + (m * m + 4) * (b * ab b) := by unfold form; rw [Int.mul_assoc]
theorem sq_nonneg (i : Int) : 0 ≤ i * i := by
  by_cases h : 0 ≤ i
  · exact Int.mul_nonneg h h
  · have := Int.mul_nonneg (a := -i) (b := -i) (by omega) (by omega)
    rw [Int.neg_mul_neg] at this; exact this
theorem sq_pos {i : Int} (h : i ≠ 0) : 0 < i * i := by
  have h1 := sq_nonneg i
  have h2 : i * i ≠ 0 := fun e => by
    rcases Int.mul_eq_zero.mp e with e | e <;> exact h e
  omega
/-- the specification's sign by the program's form -/
theorem sign_form {m : Nat} (h1 : 1 ≤ m) (h4 : m ≤ 4) (z : Z) :
    sign m z = if 0 < form m (2 * z.a + z.b * (m : Int)) z.b then 1 else if form m (2 * z.a + z.b * (m : Int)) z.b < 0 then -1 else 0 := by
  unfold sign
  dsimp only
  generalize hs : 2 * z.a + z.b * (m : Int) = s
  generalize z.b = b
  have hd : ((m * m + 4 : Nat) : Int) = (m : Int) * m + 4 := by push_cast; rfl
  rw [hd, form_eq]
  have d0 : (0 : Int) < (m : Int) * m + 4 := by have := sq_nonneg (m : Int); omega
  have hirr : s * s = ((m : Int) * m + 4) * (b * b) → b = 0 := fun e => irr (by omega) (by omega) e
  have hcomm : b * b * ((m : Int) * m + 4) = ((m : Int) * m + 4) * (b * b) := Int.mul_comm _ _
  rw [hcomm]
  generalize (m : Int) * m + 4 = d at *
  have sb := sq_nonneg b
  have ss := sq_nonneg s
  have sb1 : b ≠ 0 → 0 < d * (b * b) := fun e => Int.mul_pos d0 (sq_pos e)
  have sb0 : 0 ≤ d * (b * b) := Int.mul_nonneg (by omega) sb
  have ss1 : s ≠ 0 → 0 < s * s := fun e => sq_pos e
  by_cases hs0 : 0 ≤ s <;> by_cases hb0 : 0 ≤ b
  · rw [ab_pos hs0, ab_pos hb0, if_pos ⟨hs0, hb0⟩]
    by_cases z0 : s = 0 ∧ b = 0
    · rw [if_pos z0, z0.1, z0.2]; simp
    · rw [if_neg z0, if_pos]
      by_cases e : s = 0
      · have := sb1 (fun e2 => z0 ⟨e, e2⟩); omega
      · have := ss1 e; omega
  · have hb1 := sb1 (by omega)
    rw [ab_pos hs0, ab_neg (by omega), if_neg (by omega), Int.mul_neg]
    by_cases e : s ≤ 0
    · have : s = 0 := by omega
      subst this
      rw [if_pos ⟨by omega, by omega⟩, if_neg (by omega), if_pos (by omega)]
    · rw [if_neg (by omega), if_pos (by omega)]
      by_cases c : d * (b * b) < s * s
      · rw [if_pos c, if_pos (by omega)]
      · have : s * s ≠ d * (b * b) := fun q => by have := hirr q; omega
        rw [if_neg c, if_neg (by omega), if_pos (by omega)]
  · have hs1 := ss1 (by omega)
    rw [ab_neg (by omega), ab_pos hb0, if_neg (by omega)]
    by_cases e : b ≤ 0
    · have : b = 0 := by omega
      subst this
      rw [if_pos ⟨by omega, by omega⟩, if_neg (by omega), if_pos (by omega)]
    · rw [if_neg (by omega), if_neg (by omega)]
      by_cases c : s * s < d * (b * b)
      · rw [if_pos c, if_pos (by omega)]
      · have : s * s ≠ d * (b * b) := fun q => by have := hirr q; omega
        rw [if_neg c, if_neg (by omega), if_pos (by omega)]
  · have hs1 := ss1 (by omega)
    have hb1 := sb1 (by omega)
    rw [ab_neg (by omega), ab_neg (by omega), if_neg (by omega), if_pos ⟨by omega, by omega⟩, Int.mul_neg, if_neg (by omega), if_pos (by omega)]

/-- what is_below answers -/
def below (m a b c d : Int) : Bool := decide (form m (2 * (a - c) + m * (b - d)) (b - d) < 0)
theorem form_neg (m s b : Int) : form m (-s) (-b) = -form m s b := by
  have hab : ∀ i : Int, (-i) * ab (-i) = -(i * ab i) := fun i => by
    by_cases h : 0 ≤ i
    · rw [ab_neg (i := -i) (by omega), ab_pos h, Int.neg_mul_neg]
    · rw [ab_pos (i := -i) (by omega), ab_neg (i := i) (by omega), Int.neg_mul_neg, Int.neg_neg]
  rw [form_eq, form_eq, hab, hab, Int.mul_neg]; omega
theorem lt_below {m : Nat} (h1 : 1 ≤ m) (h4 : m ≤ 4) (a b c d : Int) : lt m ⟨a, b⟩ ⟨c, d⟩ = below m a b c d := by
  unfold lt below
  rw [sign_form h1 h4]
  have e : form m (2 * (sub ⟨c, d⟩ ⟨a, b⟩).a + (sub ⟨c, d⟩ ⟨a, b⟩).b * (m : Int)) (sub ⟨c, d⟩ ⟨a, b⟩).b = -form m (2 * (a - c) + m * (b - d)) (b - d) := by
    rw [← form_neg]
    show form m (2 * (c - a) + (d - b) * (m : Int)) (d - b) = _
    have e1 : (d - b) * (m : Int) = -((m : Int) * (b - d)) := by rw [← Int.mul_neg, Int.mul_comm]; congr 1; omega
    congr 1 <;> omega
  rw [e]
  generalize form m (2 * (a - c) + m * (b - d)) (b - d) = f
  by_cases c1 : f < 0
  · rw [if_pos (by omega)]; simp [c1]
  · rw [if_neg (by omega)]
    by_cases c2 : -f < 0
    · rw [if_pos c2]; simp [c1]
    · rw [if_neg c2]; simp [c1]
theorem le_below {m : Nat} (h1 : 1 ≤ m) (h4 : m ≤ 4) (a b c d : Int) : le m ⟨a, b⟩ ⟨c, d⟩ = !below m c d a b := by
  unfold le below
  rw [sign_form h1 h4]
  have e : form m (2 * (sub ⟨c, d⟩ ⟨a, b⟩).a + (sub ⟨c, d⟩ ⟨a, b⟩).b * (m : Int)) (sub ⟨c, d⟩ ⟨a, b⟩).b = form m (2 * (c - a) + m * (d - b)) (d - b) := by
    show form m (2 * (c - a) + (d - b) * (m : Int)) (d - b) = _
    rw [Int.mul_comm (d - b)]
  rw [e]
  generalize form m (2 * (c - a) + m * (d - b)) (d - b) = f
  by_cases c1 : f < 0
  · rw [if_neg (by omega), if_pos c1]; simp [c1]
  · by_cases c2 : 0 < f
    · rw [if_pos c2]; simp [c1]
    · rw [if_neg c2, if_neg c1]; simp [c1]
end Ml
namespace Ml
open Kzv1 (Z sign lt le sub)
/-! ### what the program's defs answer, as plain functions -/
def told (xs : List Int) (n : Int) : Bool := decide ((xs.length : Int) = n) && xs.all (fun i => decide (ab i ≤ 1000000))
def largeA (m a b : Int) : Int := a + m * b
def largeB (m a b : Int) : Int := m * a + (m * m + 1) * b
def smallA (m a b : Int) : Int := (m * m + 1) * a - m * b
def smallB (m a b : Int) : Int := b - m * a
def winB (m a b c d : Int) : Bool := (!below m (c - a) (d - b) 1 0) && below m (c - a) (d - b) (largeA m 1 0) (largeB m 1 0)
def isWin (m : Int) (xs : List Int) : Bool := decide (1 ≤ m) && decide (m ≤ 4) && told xs 4 && (match xs with
  | [a, b, c, d] => winB m a b c d
  | _ => false)
def keepsB (m a b c d : Int) : Bool := (!below m (smallA m a b) (smallB m a b) a b) && (!below m c d (smallA m c d) (smallB m c d))
def keepsL (m : Int) : List Int → Bool
  | [a, b, c, d] => keepsB m a b c d
  | _ => false
def keeps (m : Int) (xs : List Int) : List Int := if isWin m xs then (if keepsL m xs then [1] else [0]) else [-22]
def pointB (m : Int) (xs zs : List Int) : Bool := match xs, zs with
  | [a, b, c, d], [e, f] => (!below m (e + m * f) (-f) a b) && below m (e + m * f) (-f) c d
  | _, _ => false
def refusal (m : Int) (xs zs : List Int) : Int := if isWin m xs && told zs 2 then (if keepsL m xs then (if pointB m xs zs then 0 else -2) else -33) else -22
def large (m : Int) (xs zs : List Int) : List Int := if refusal m xs zs = 0 then (match zs with
  | [e, f] => [0, largeA m e f, largeB m e f]
  | _ => []) else [refusal m xs zs]

theorem keeps_1 {m a b c d : Int} (hw : isWin m [a, b, c, d] = true) (hk : keepsB m a b c d = true) : keeps m [a, b, c, d] = [1] := by
  unfold keeps
  rw [hw, if_pos rfl]
  show (if keepsB m a b c d = true then [1] else [0]) = [1]
  rw [hk, if_pos rfl]
theorem keeps_0 {m a b c d : Int} (hw : isWin m [a, b, c, d] = true) (hk : keepsB m a b c d = false) : keeps m [a, b, c, d] = [0] := by
  unfold keeps
  rw [hw, if_pos rfl]
  show (if keepsB m a b c d = true then [1] else [0]) = [0]
  rw [hk, if_neg (by decide)]
theorem told_len {xs : List Int} {n : Int} (h : told xs n = true) : (xs.length : Int) = n := by
  unfold told at h; simp only [Bool.and_eq_true, decide_eq_true_eq] at h; exact h.1
theorem told_all {xs : List Int} {n : Int} (h : told xs n = true) : ∀ x ∈ xs, -1000000 ≤ x ∧ x ≤ 1000000 := by
  unfold told at h; simp only [Bool.and_eq_true, decide_eq_true_eq, List.all_eq_true] at h
  intro x hx
  have := h.2 x hx
  unfold ab at this; split at this <;> omega
theorem ab_le (x : Int) : decide (ab x ≤ 1000000) = decide (x.natAbs ≤ Kzv1.mostN) := by
  unfold ab Kzv1.mostN; split <;> (apply decide_eq_decide.mpr; omega)
theorem list4 {xs : List Int} (h : (xs.length : Int) = 4) : ∃ a b c d, xs = [a, b, c, d] := by
  match xs, h with
  | [a, b, c, d], _ => exact ⟨a, b, c, d, rfl⟩
  | [], h => simp at h
  | [_], h => simp at h
  | [_, _], h => simp at h
  | [_, _, _], h => simp at h
  | _ :: _ :: _ :: _ :: _ :: _, h => simp only [List.length_cons] at h; omega
theorem list2 {xs : List Int} (h : (xs.length : Int) = 2) : ∃ a b, xs = [a, b] := by
  match xs, h with
  | [a, b], _ => exact ⟨a, b, rfl⟩
  | [], h => simp at h
  | [_], h => simp at h
  | _ :: _ :: _ :: _, h => simp only [List.length_cons] at h; omega

/-! ### the specification by these functions -/
theorem okM_iff {m : Nat} : Kzv1.okM m = true ↔ 1 ≤ m ∧ m ≤ 4 := by unfold Kzv1.okM; simp
theorem told4 (a b c d : Int) : told [a, b, c, d] 4 = (Kzv1.okZ ⟨a, b⟩ && Kzv1.okZ ⟨c, d⟩) := by
  unfold told Kzv1.okZ
  simp only [List.all_cons, List.all_nil, ab_le, List.length_cons, List.length_nil, Bool.and_true, Bool.and_assoc]
  rfl
theorem told2 (a b : Int) : told [a, b] 2 = Kzv1.okZ ⟨a, b⟩ := by
  unfold told Kzv1.okZ
  simp only [List.all_cons, List.all_nil, ab_le, List.length_cons, List.length_nil, Bool.and_true, Bool.and_assoc]
  rfl
theorem okWin_eq {m : Nat} (h1 : 1 ≤ m) (h4 : m ≤ 4) (a b c d : Int) : Kzv2.okWin m ⟨⟨a, b⟩, ⟨c, d⟩⟩ = winB m a b c d := by
  unfold Kzv2.okWin winB Kzv2.long Kzv1.one Kzv1.sub
  rw [le_below h1 h4]
  have e : Kzv1.mul m Kzv1.w Kzv1.w = ⟨largeA m 1 0, largeB m 1 0⟩ := by
    unfold Kzv1.mul Kzv1.w largeA largeB; simp
  rw [e, lt_below h1 h4]
theorem readWin_eq {m : Nat} (h1 : 1 ≤ m) (h4 : m ≤ 4) (a b c d : Int) : Kzv2.readWin m [a, b, c, d] = if isWin m [a, b, c, d] then some ⟨⟨a, b⟩, ⟨c, d⟩⟩ else none := by
  unfold Kzv2.readWin isWin
  dsimp only
  rw [okWin_eq h1 h4, told4]
  have e1 : decide (1 ≤ (m : Int)) = true := decide_eq_true (by omega)
  have e2 : decide ((m : Int) ≤ 4) = true := decide_eq_true (by omega)
  rw [e1, e2]; simp only [Bool.true_and]
theorem readWin_no {m : Nat} {xs : List Int} (h : ¬ (xs.length : Int) = 4) : Kzv2.readWin m xs = none := by
  unfold Kzv2.readWin
  split
  · exact absurd rfl h
  · rfl
theorem isWin_no {m : Int} {xs : List Int} (h : ¬ (xs.length : Int) = 4) : isWin m xs = false := by
  unfold isWin told
  rw [decide_eq_false h]; simp
theorem isWin_m {m : Int} {xs : List Int} (h : isWin m xs = true) : 1 ≤ m ∧ m ≤ 4 := by
  unfold isWin at h; simp only [Bool.and_eq_true, decide_eq_true_eq] at h; exact h.1.1
theorem isWin_told {m : Int} {xs : List Int} (h : isWin m xs = true) : told xs 4 = true := by
  unfold isWin at h; simp only [Bool.and_eq_true, decide_eq_true_eq] at h; exact h.1.2
theorem isWin_4 {m : Int} {xs : List Int} (h : isWin m xs = true) : ∃ a b c d, xs = [a, b, c, d] := list4 (told_len (isWin_told h))
theorem small_eq (m : Nat) (a b : Int) : Kzv4.small m ⟨a, b⟩ = ⟨smallA m a b, smallB m a b⟩ := by
  show Kzv1.mul m (Kzv1.mul m (Kzv1.mul m Kzv1.one ⟨-(m : Int), 1⟩) ⟨-(m : Int), 1⟩) ⟨a, b⟩ = _
  unfold Kzv1.mul Kzv1.one smallA smallB
  dsimp only
  congr 1 <;> grind
theorem large_eq (m : Nat) (a b : Int) : Kzv4.large m ⟨a, b⟩ = ⟨largeA m a b, largeB m a b⟩ := by
  show Kzv1.mul m (Kzv1.mul m (Kzv1.mul m Kzv1.one Kzv1.w) Kzv1.w) ⟨a, b⟩ = _
  unfold Kzv1.mul Kzv1.one Kzv1.w largeA largeB
  dsimp only
  congr 1 <;> grind
theorem keeps_eq {m : Nat} (h1 : 1 ≤ m) (h4 : m ≤ 4) (a b c d : Int) : Kzv4.keeps m ⟨⟨a, b⟩, ⟨c, d⟩⟩ = keepsB m a b c d := by
  unfold Kzv4.keeps Kzv4.shrunk keepsB
  dsimp only
  rw [small_eq, small_eq, le_below h1 h4, le_below h1 h4]
theorem isPoint_eq {m : Nat} (h1 : 1 ≤ m) (h4 : m ≤ 4) (a b c d e f : Int) : Kzv2.isPoint m ⟨⟨a, b⟩, ⟨c, d⟩⟩ ⟨e, f⟩ = pointB m [a, b, c, d] [e, f] := by
  unfold Kzv2.isPoint Kzv2.inside pointB Kzv1.partner
  dsimp only
  rw [lt_below h1 h4, le_below h1 h4]
/-- the specification's reading of a window, by the program's -/
theorem withX_no {m : Int} {xs : List Int} (h0 : 0 ≤ m) (hw : isWin m xs = false) (k : Kzv2.Win → Kzv1.Ans) : Kzv3.withX m.toNat xs k = ⟨-22, []⟩ := by
  obtain ⟨n, rfl⟩ : ∃ n : Nat, m = n := ⟨m.toNat, by omega⟩
  rw [Int.toNat_natCast]
  unfold Kzv3.withX
  by_cases ok : Kzv1.okM n = true
  · obtain ⟨h1, h4⟩ := okM_iff.mp ok
    rw [if_neg (by rw [ok]; decide)]
    by_cases l4 : (xs.length : Int) = 4
    · obtain ⟨a, b, c, d, rfl⟩ := list4 l4
      rw [readWin_eq h1 h4, hw]; rfl
    · rw [readWin_no l4]; rfl
  · rw [if_pos (by simpa using ok)]; rfl
theorem withX_yes {m : Int} {a b c d : Int} (hw : isWin m [a, b, c, d] = true) (k : Kzv2.Win → Kzv1.Ans) : Kzv3.withX m.toNat [a, b, c, d] k = k ⟨⟨a, b⟩, ⟨c, d⟩⟩ := by
  obtain ⟨h1, h4⟩ := isWin_m hw
  obtain ⟨n, rfl⟩ : ∃ n : Nat, m = n := ⟨m.toNat, by omega⟩
  rw [Int.toNat_natCast]
  unfold Kzv3.withX
  rw [if_neg (by rw [okM_iff.mpr ⟨by omega, by omega⟩]; decide), readWin_eq (by omega) (by omega), hw]; rfl
theorem keeps_is {m : Int} (h0 : 0 ≤ m) (xs : List Int) : PyKzv4.keeps m xs = keeps m xs := by
  show (Kzv4.answer (.keeps m.toNat xs)).value :: (Kzv4.answer (.keeps m.toNat xs)).nums = _
  unfold Kzv4.answer keeps
  dsimp only
  cases hw : isWin m xs with
  | false => rw [withX_no h0 hw]; rfl
  | true =>
    obtain ⟨a, b, c, d, rfl⟩ := isWin_4 hw
    obtain ⟨h1, h4⟩ := isWin_m hw
    rw [withX_yes hw]
    obtain ⟨n, rfl⟩ : ∃ n : Nat, m = n := ⟨m.toNat, by omega⟩
    rw [Int.toNat_natCast]
    rw [keeps_eq (by omega) (by omega)]
    show _ = if true = true then (if keepsB n a b c d = true then [1] else [0]) else [-22]
    cases keepsB n a b c d <;> rfl
theorem readZ_no {zs : List Int} (h : told zs 2 = false) : Kzv1.readZ zs = none := by
  unfold Kzv1.readZ
  split
  · rw [told2] at h; rw [h]; rfl
  · rfl
theorem readZ_yes {e f : Int} (h : told [e, f] 2 = true) : Kzv1.readZ [e, f] = some ⟨e, f⟩ := by
  unfold Kzv1.readZ
  rw [told2] at h
  dsimp only
  rw [h]; rfl
/-- the specification's reading of a window and a point, by the program's -/
theorem withK_no {m : Int} {xs zs : List Int} (h0 : 0 ≤ m) (hr : refusal m xs zs ≠ 0) (k : Kzv2.Win → Z → Kzv1.Ans) : Kzv4.withK m.toNat xs zs k = ⟨refusal m xs zs, []⟩ := by
  unfold Kzv4.withK
  unfold refusal at hr ⊢
  cases hw : isWin m xs with
  | false => rw [withX_no h0 hw]; rfl
  | true =>
    obtain ⟨a, b, c, d, rfl⟩ := isWin_4 hw
    obtain ⟨h1, h4⟩ := isWin_m hw
    rw [withX_yes hw]
    rw [hw] at hr
    obtain ⟨n, rfl⟩ : ∃ n : Nat, m = n := ⟨m.toNat, by omega⟩
    rw [Int.toNat_natCast]
    cases ht : told zs 2 with
    | false => rw [readZ_no ht]; rfl
    | true =>
      obtain ⟨e, f, rfl⟩ := list2 (told_len ht)
      rw [readZ_yes ht]
      rw [ht] at hr
      dsimp only
      rw [keeps_eq (by omega) (by omega), isPoint_eq (by omega) (by omega)]
      have hr' : (if keepsB n a b c d = true then (if pointB n [a, b, c, d] [e, f] = true then 0 else -2) else (-33 : Int)) ≠ 0 := hr
      show _ = Kzv1.Ans.mk (if keepsB n a b c d = true then (if pointB n [a, b, c, d] [e, f] = true then 0 else -2) else (-33 : Int)) []
      by_cases hk : keepsB n a b c d = true
      · rw [if_neg (by rw [hk]; decide), if_pos hk]
        rw [if_pos hk] at hr'
        by_cases hp : pointB n [a, b, c, d] [e, f] = true
        · rw [if_pos hp] at hr'; exact absurd rfl hr'
        · rw [if_pos (by simpa using hp), if_neg hp]; rfl
      · rw [if_pos (by simpa using hk), if_neg hk]; rfl
theorem refusal_0 {m : Int} {xs zs : List Int} (hr : refusal m xs zs = 0) : isWin m xs = true ∧ told zs 2 = true ∧ keepsL m xs = true ∧ pointB m xs zs = true := by
  unfold refusal at hr
  cases hw : isWin m xs <;> cases ht : told zs 2 <;> cases hk : keepsL m xs <;> cases hp : pointB m xs zs <;> simp [hw, ht, hk, hp] at hr ⊢
theorem withK_yes {m : Int} {a b c d e f : Int} (hr : refusal m [a, b, c, d] [e, f] = 0) (k : Kzv2.Win → Z → Kzv1.Ans) : Kzv4.withK m.toNat [a, b, c, d] [e, f] k = k ⟨⟨a, b⟩, ⟨c, d⟩⟩ ⟨e, f⟩ := by
  obtain ⟨hw, ht, hk, hp⟩ := refusal_0 hr
  obtain ⟨h1, h4⟩ := isWin_m hw
  unfold Kzv4.withK
  rw [withX_yes hw, readZ_yes ht]
  obtain ⟨n, rfl⟩ : ∃ n : Nat, m = n := ⟨m.toNat, by omega⟩
  rw [Int.toNat_natCast]
  dsimp only
  rw [keeps_eq (by omega) (by omega), isPoint_eq (by omega) (by omega), if_neg (by rw [show keepsB n a b c d = true from hk]; decide), if_neg (by rw [hp]; decide)]
theorem refusal_lists {m : Int} {xs zs : List Int} (hr : refusal m xs zs = 0) : ∃ a b c d e f, xs = [a, b, c, d] ∧ zs = [e, f] := by
  obtain ⟨hw, ht, _, _⟩ := refusal_0 hr
  obtain ⟨a, b, c, d, rfl⟩ := isWin_4 hw
  obtain ⟨e, f, rfl⟩ := list2 (told_len ht)
  exact ⟨a, b, c, d, e, f, rfl, rfl⟩
theorem refusal_33 {m : Int} {a b c d : Int} {zs : List Int} (hw : isWin m [a, b, c, d] = true) (ht : told zs 2 = true) (hk : keepsB m a b c d = false) : refusal m [a, b, c, d] zs = -33 := by
  unfold refusal
  rw [hw, ht, show keepsL m [a, b, c, d] = false from hk]
  rfl
theorem refusal_2 {m : Int} {a b c d : Int} {zs : List Int} (hw : isWin m [a, b, c, d] = true) (ht : told zs 2 = true) (hk : keepsB m a b c d = true) (hp : pointB m [a, b, c, d] zs = false) : refusal m [a, b, c, d] zs = -2 := by
  unfold refusal
  rw [hw, ht, show keepsL m [a, b, c, d] = true from hk, hp]
  rfl
theorem refusal_00 {m : Int} {a b c d : Int} {zs : List Int} (hw : isWin m [a, b, c, d] = true) (ht : told zs 2 = true) (hk : keepsB m a b c d = true) (hp : pointB m [a, b, c, d] zs = true) : refusal m [a, b, c, d] zs = 0 := by
  unfold refusal
  rw [hw, ht, show keepsL m [a, b, c, d] = true from hk, hp]
  rfl
theorem large_0 {m : Int} {xs : List Int} {e f : Int} (hr : refusal m xs [e, f] = 0) : large m xs [e, f] = [0, largeA m e f, largeB m e f] := by
  unfold large
  rw [if_pos hr]
theorem large_is {m : Int} (h0 : 0 ≤ m) (xs zs : List Int) : PyKzv4.large m xs zs = large m xs zs := by
  show (Kzv4.answer (.large m.toNat xs zs)).value :: (Kzv4.answer (.large m.toNat xs zs)).nums = _
  unfold Kzv4.answer large
  dsimp only
  by_cases hr : refusal m xs zs = 0
  · obtain ⟨a, b, c, d, e, f, rfl, rfl⟩ := refusal_lists hr
    rw [withK_yes hr, if_pos hr]
    obtain ⟨h1, h4⟩ := isWin_m (refusal_0 hr).1
    obtain ⟨n, rfl⟩ : ∃ n : Nat, m = n := ⟨m.toNat, by omega⟩
    rw [Int.toNat_natCast]
    rw [large_eq]; rfl
  · rw [withK_no h0 hr, if_neg hr]
end Ml
namespace Mh
open PySem PySem.Spec PyProof.Rows L2
def topS (i : Nat) : Stmt := PySem.Challenge.pw_madelarger_s01_keeps.main.body.getD i (.Pass ⟨0, 0, 0, 0⟩)
abbrev s_keeps : Stmt := topS 4
abbrev N_keeps : List Str := ["m", "x"]
theorem sc_keeps : FnScope N_keeps ["m", "x"] (defScope s_keeps) := ⟨rfl, rfl, rfl, by decide +kernel, rfl, by decide +kernel, by decide +kernel⟩
abbrev s_is_window : Stmt := topS 5
abbrev N_is_window : List Str := ["m", "x", "length"]
theorem sc_is_window : FnScope N_is_window ["m", "x"] (defScope s_is_window) := ⟨rfl, rfl, rfl, by decide +kernel, rfl, by decide +kernel, by decide +kernel⟩
abbrev s_is_told : Stmt := topS 6
abbrev N_is_told : List Str := ["parts", "count", "part"]
theorem sc_is_told : FnScope N_is_told ["parts", "count"] (defScope s_is_told) := ⟨rfl, rfl, rfl, by decide +kernel, rfl, by decide +kernel, by decide +kernel⟩
abbrev s_keeps_points : Stmt := topS 7
abbrev N_keeps_points : List Str := ["m", "x", "u", "v"]
theorem sc_keeps_points : FnScope N_keeps_points ["m", "x"] (defScope s_keeps_points) := ⟨rfl, rfl, rfl, by decide +kernel, rfl, by decide +kernel, by decide +kernel⟩
abbrev s_made_larger : Stmt := topS 8
abbrev N_made_larger : List Str := ["m", "number", "a", "b"]
theorem sc_made_larger : FnScope N_made_larger ["m", "number"] (defScope s_made_larger) := ⟨rfl, rfl, rfl, by decide +kernel, rfl, by decide +kernel, by decide +kernel⟩
abbrev s_made_smaller : Stmt := topS 9
abbrev N_made_smaller : List Str := ["m", "number", "a", "b"]
theorem sc_made_smaller : FnScope N_made_smaller ["m", "number"] (defScope s_made_smaller) := ⟨rfl, rfl, rfl, by decide +kernel, rfl, by decide +kernel, by decide +kernel⟩
abbrev s_is_below : Stmt := topS 10
abbrev N_is_below : List Str := ["m", "number", "other", "q", "p"]
theorem sc_is_below : FnScope N_is_below ["m", "number", "other"] (defScope s_is_below) := ⟨rfl, rfl, rfl, by decide +kernel, rfl, by decide +kernel, by decide +kernel⟩
structure Ad where
  a_keeps : Addr
  d_keeps : FuncData
  a_is_window : Addr
  d_is_window : FuncData
  a_is_told : Addr
  d_is_told : FuncData
  a_keeps_points : Addr
  d_keeps_points : FuncData
  a_made_larger : Addr
  d_made_larger : FuncData
  a_made_smaller : Addr
  d_made_smaller : FuncData
  a_is_below : Addr
  d_is_below : FuncData
  t_WRONG_INPUT : Tok
  t_LARGEST_M : Tok
  t_LARGEST_PART : Tok
structure Txt (K : PySem.W.Frag) (mg : Str → Option Value) (A : Ad) : Prop where
  f_keeps : Fun K "keeps" "keeps" s_keeps A.a_keeps A.d_keeps
  b_keeps : Binds K A.d_keeps ["m", "x"] []
  g_keeps : mg "keeps" = some (.ref A.a_keeps)
  f_is_window : Fun K "is_window" "is_window" s_is_window A.a_is_window A.d_is_window
  b_is_window : Binds K A.d_is_window ["m", "x"] []
  g_is_window : mg "is_window" = some (.ref A.a_is_window)
  f_is_told : Fun K "is_told" "is_told" s_is_told A.a_is_told A.d_is_told
  b_is_told : Binds K A.d_is_told ["parts", "count"] []
  g_is_told : mg "is_told" = some (.ref A.a_is_told)
  f_keeps_points : Fun K "keeps_points" "keeps_points" s_keeps_points A.a_keeps_points A.d_keeps_points
  b_keeps_points : Binds K A.d_keeps_points ["m", "x"] []
  g_keeps_points : mg "keeps_points" = some (.ref A.a_keeps_points)
  f_made_larger : Fun K "made_larger" "made_larger" s_made_larger A.a_made_larger A.d_made_larger
  b_made_larger : Binds K A.d_made_larger ["m", "number"] []
  g_made_larger : mg "made_larger" = some (.ref A.a_made_larger)
  f_made_smaller : Fun K "made_smaller" "made_smaller" s_made_smaller A.a_made_smaller A.d_made_smaller
  b_made_smaller : Binds K A.d_made_smaller ["m", "number"] []
  g_made_smaller : mg "made_smaller" = some (.ref A.a_made_smaller)
  f_is_below : Fun K "is_below" "is_below" s_is_below A.a_is_below A.d_is_below
  b_is_below : Binds K A.d_is_below ["m", "number", "other"] []
  g_is_below : mg "is_below" = some (.ref A.a_is_below)
  g_WRONG_INPUT : mg "WRONG_INPUT" = some (.int (-22) A.t_WRONG_INPUT)
  g_LARGEST_M : mg "LARGEST_M" = some (.int (4) A.t_LARGEST_M)
  g_LARGEST_PART : mg "LARGEST_PART" = some (.int (1000000) A.t_LARGEST_PART)
  z_all : mg "all" = none
  z_abs : mg "abs" = none
  z_len : mg "len" = none
/-! ### small helps -/
def Bd (n : Int) : Prop := -1000000000000 ≤ n ∧ n ≤ 1000000000000
def Bs (n : Int) : Prop := -1000000 ≤ n ∧ n ≤ 1000000
theorem Bs.bd {n : Int} (h : Bs n) : Bd n := by
  unfold Bs at h
  unfold Bd
  omega
theorem mul_bd {m x n : Int} (h1 : 1 ≤ m) (h4 : m ≤ 4) (h : -n ≤ x ∧ x ≤ n) : -(4 * n) ≤ m * x ∧ m * x ≤ 4 * n := by
  have hm : m = 1 ∨ m = 2 ∨ m = 3 ∨ m = 4 := by omega
  rcases hm with rfl | rfl | rfl | rfl <;> omega
theorem mm_bd {m : Int} (h1 : 1 ≤ m) (h4 : m ≤ 4) : 1 ≤ m * m ∧ m * m ≤ 16 := by
  have hm : m = 1 ∨ m = 2 ∨ m = 3 ∨ m = 4 := by omega
  rcases hm with rfl | rfl | rfl | rfl <;> omega
theorem mm4_bd {m x n : Int} (h1 : 1 ≤ m) (h4 : m ≤ 4) (h : -n ≤ x ∧ x ≤ n) : -(20 * n) ≤ (m * m + 4) * x ∧ (m * m + 4) * x ≤ 20 * n := by
  have hm : m = 1 ∨ m = 2 ∨ m = 3 ∨ m = 4 := by omega
  rcases hm with rfl | rfl | rfl | rfl <;> omega
theorem small_bd {m a b : Int} (h1 : 1 ≤ m) (h4 : m ≤ 4) (ha : Bs a) (hb : Bs b) : Bd (Ml.smallA m a b) ∧ Bd (Ml.smallB m a b) := by
  unfold Bs at ha hb
  unfold Bd Ml.smallA Ml.smallB
  have hm : m = 1 ∨ m = 2 ∨ m = 3 ∨ m = 4 := by omega
  rcases hm with rfl | rfl | rfl | rfl <;> omega
def Bp (n : Int) : Prop := -10000000000 ≤ n ∧ n ≤ 10000000000
theorem partner_bd {m e f : Int} (h1 : 1 ≤ m) (h4 : m ≤ 4) (he : Bp e) (hf : Bp f) : Bd (e + m * f) ∧ Bd (-f) := by
  unfold Bp at he hf
  unfold Bd
  have hm : m = 1 ∨ m = 2 ∨ m = 3 ∨ m = 4 := by omega
  rcases hm with rfl | rfl | rfl | rfl <;> omega
theorem same_upd {H : Hp} {p : Addr} {o : HO} (h : H p = none) : Same H (upd H p o) := fun b x e => by
  rw [upd_ne (ne_of_none e h)]
  exact e
theorem dec_int (i j : Int) : decide (V.int i = V.int j) = decide (i = j) := by
  by_cases h : i = j
  · subst h
    simp
  · rw [decide_eq_false h, decide_eq_false (fun z => h (V.int.inj z))]
theorem get_map {α : Type} {f : Int → α} {ns : List Int} {i : Nat} {y : α} (hi : (ns.map f)[i]? = some y) : ∃ z, ns[i]? = some z ∧ y = f z := by
  rw [List.getElem?_map] at hi
  cases e : ns[i]? with
  | none =>
    rw [e] at hi
    cases hi
  | some z =>
    rw [e] at hi
    exact ⟨z, rfl, (Option.some.inj hi).symm⟩
theorem take_more {α : Type} : ∀ {l : List α} {i : Nat} {x : α}, l[i]? = some x → l.take (i + 1) = l.take i ++ [x]
  | [], i, x, h => by simp at h
  | a :: l, 0, x, h => by
    have e : a = x := Option.some.inj h
    subst e
    rfl
  | a :: l, i + 1, x, h => by
    have ih := take_more (l := l) (i := i) (x := x) h
    show a :: l.take (i + 1) = a :: l.take i ++ [x]
    rw [ih]
    rfl

def sp_is_told (K : PySem.W.Frag) : Sp := fun vs H Q _ => ∃ (p : Addr) (xs : List Int) (n : Int), vs = [.ref p, .int n] ∧ SqL K H p (xs.map V.int) ∧ xs.length ≤ 1000 ∧
  ∀ H' : Hp, Same H H' → Q (.bl (Ml.told xs n)) H'
def sp_is_below (K : PySem.W.Frag) : Sp := fun vs H Q _ => ∃ (m : Int) (p q : Addr) (a b c d : Int), vs = [.int m, .ref p, .ref q] ∧ SqL K H p [.int a, .int b] ∧ SqL K H q [.int c, .int d] ∧
  1 ≤ m ∧ m ≤ 4 ∧ Bd a ∧ Bd b ∧ Bd c ∧ Bd d ∧ Q (.bl (Ml.below m a b c d)) H
def sp_made_larger (K : PySem.W.Frag) : Sp := fun vs H Q _ => ∃ (m : Int) (p : Addr) (a b : Int), vs = [.int m, .ref p] ∧ SqL K H p [.int a, .int b] ∧ 1 ≤ m ∧ m ≤ 4 ∧
  ∀ (H' : Hp) (r : Addr), Same H H' → H r = none → H' r = some (.lst [.int (Ml.largeA m a b), .int (Ml.largeB m a b)]) → Q (.ref r) H'
def sp_is_window (K : PySem.W.Frag) : Sp := fun vs H Q _ => ∃ (m : Int) (p : Addr) (xs : List Int), vs = [.int m, .ref p] ∧ SqL K H p (xs.map V.int) ∧ xs.length ≤ 1000 ∧
  ∀ H' : Hp, Same H H' → Q (.bl (Ml.isWin m xs)) H'
def sp_made_smaller (K : PySem.W.Frag) : Sp := fun vs H Q _ => ∃ (m : Int) (p : Addr) (a b : Int), vs = [.int m, .ref p] ∧ SqL K H p [.int a, .int b] ∧ 1 ≤ m ∧ m ≤ 4 ∧
  ∀ (H' : Hp) (r : Addr), Same H H' → H r = none → H' r = some (.lst [.int (Ml.smallA m a b), .int (Ml.smallB m a b)]) → Q (.ref r) H'
def sp_keeps_points (K : PySem.W.Frag) : Sp := fun vs H Q _ => ∃ (m : Int) (p : Addr) (a b c d : Int), vs = [.int m, .ref p] ∧ SqL K H p [.int a, .int b, .int c, .int d] ∧ 1 ≤ m ∧ m ≤ 4 ∧
  Bs a ∧ Bs b ∧ Bs c ∧ Bs d ∧ ∀ H' : Hp, Same H H' → Q (.bl (Ml.keepsB m a b c d)) H'
def sp_keeps (K : PySem.W.Frag) : Sp := fun vs H Q _ => ∃ (m : Int) (p : Addr) (xs : List Int), vs = [.int m, .ref p] ∧ SqL K H p (xs.map V.int) ∧ xs.length ≤ 1000 ∧
  ∀ (H' : Hp) (r : Addr), H' r = some (.lst ((Ml.keeps m xs).map V.int)) → Q (.ref r) H'
section
variable {P : Program} {w : World} {K : PySem.W.Frag} {mg : Str → Option Value} {base : Heap} {A : Ad}
set_option maxHeartbeats 4000000 in
theorem ok_is_told (T : Txt K mg A) : FnOk P w K mg base CX0 1 A.a_is_told A.d_is_told ["parts", "count"] (sp_is_told K) := by
  refine T.f_is_told.ok sc_is_told (fun vs H Q E h => ?_) (fun cdv AA outer s H vs Q E hr h => ?_)
  · obtain ⟨_, _, _, rfl, _⟩ := h
    rfl
  · obtain ⟨p, xs, n, rfl, hp, hl, k⟩ := h
    refine ⟨_, (pss_one (ps_ret (pe_and (pe_cmpR op_eq (pe_callB call_len_seq (by rfl) T.z_len PySem.boot_len (pa_cons (pv 0) pa_nil)) (pv 1) (nomark _)) (pe_one (pe_callB (cr_all rfl) (by rfl) T.z_all (by decide +kernel) (pa_cons (pe_lc (own := [("part", 2)]) (g := gName 2) (tt := tYes) rfl sc_is_told.nd (pi_list (pv 0)) (blkOk_by (N := N_is_told) (sc := defScope s_is_told) (by decide +kernel)) (fun _ _ _ _ _ => pg_name (i := 2) sc_is_told.nd rfl (.inl rfl)) (fun _ _ _ _ _ => pts_nil) (fun _ _ _ _ _ => (pe_cmpR op_le (pe_callB call_abs (by rfl) T.z_abs (by decide +kernel) (pa_cons (pv 2) pa_nil)) (pe_glob (v := .int (1000000)) rfl T.g_LARGEST_PART ⟨_, rfl⟩) (nomark _)))) pa_nil)))))), ?_⟩
    refine ⟨_, rfl, p, _, rfl, .inl hp, _, rfl, rfl, _, rfl, ?_⟩
    rw [dec_int, List.length_map]
    refine ite2 (fun e => ?_) (fun e => ?_)
    · refine ⟨_, rfl, p, rfl, ⟨_, hp⟩, fun D nD => ?_⟩
      refine lc_list (K := K) (a := p) (xs := xs.map V.int) (fun i H' => Same H H' ∧ H' D = some (.lst ((xs.take i).map (fun z => V.bl (decide (Ml.ab z ≤ 1000000)))))) ⟨same_upd nD, upd_same⟩ (fun i H' _ h => h.1.seq hp) ?_ ?_
      · rintro i y H' hi ⟨s1, e1⟩
        obtain ⟨z, hz, rfl⟩ := get_map hi
        refine ⟨rfl, ?_⟩
        unfold tYes
        dsimp only
        rw [if_pos rfl]
        refine ⟨_, rfl, _, rfl, _, _, rfl, rfl, _, e1, ?_, ?_, ?_⟩
        · rw [List.length_map, List.length_take]
          exact Nat.lt_of_le_of_lt (Nat.min_le_right _ _) (small1000 (by omega))
        · exact fun b o q => by
            rw [upd_ne (ne_of_none q nD)]
            exact s1 b o q
        · rw [upd_same, take_more hz, List.map_append]
          rfl
      · rintro H' ⟨s1, e1⟩
        rw [List.length_map, List.take_length] at e1
        refine ⟨D, xs.map (fun z => decide (Ml.ab z ≤ 1000000)), rfl, .inl (.inl ?_), ?_⟩
        · rw [e1, List.map_map]
          rfl
        · have e2 : (xs.map (fun z => decide (Ml.ab z ≤ 1000000))).all id = Ml.told xs n := by
            unfold Ml.told
            rw [e, Bool.true_and, List.all_map]
            rfl
          rw [e2]
          exact k H' s1
    · have e2 : Ml.told xs n = false := by
        unfold Ml.told
        rw [Bool.eq_false_iff.mpr e, Bool.false_and]
      rw [← e2]
      exact k H (Same.refl H)
set_option maxHeartbeats 4000000 in
theorem ok_is_below (T : Txt K mg A) : FnOk P w K mg base CX0 1 A.a_is_below A.d_is_below ["m", "number", "other"] (sp_is_below K) := by
  refine T.f_is_below.ok sc_is_below (fun vs H Q E h => ?_) (fun cdv AA outer s H vs Q E hr h => ?_)
  · obtain ⟨_, _, _, _, _, _, _, rfl, _⟩ := h
    rfl
  · obtain ⟨m, p, q, a, b, c, d, rfl, hp, hq, h1, h4, ha, hb, hc, hd, k⟩ := h
    refine ⟨_, (pss_cons (ps_set (i := 3) sc_is_below.nd rfl (.inl rfl) (pe_op op_sub (pe_ix ix_list (pv 1) pe_int (fun _ _ => rfl)) (pe_ix ix_list (pv 2) pe_int (fun _ _ => rfl))))
      (pss_cons (ps_set (i := 4) sc_is_below.nd rfl (.inl rfl) (pe_op op_add (pe_op op_mul pe_int (pe_op op_sub (pe_ix ix_list (pv 1) pe_int (fun _ _ => rfl)) (pe_ix ix_list (pv 2) pe_int (fun _ _ => rfl)))) (pe_op op_mul (pv 0) (pv 3))))
      (pss_one (ps_ret (pe_cmpR op_lt (pe_op op_add (pe_op op_mul (pv 4) (pe_callB call_abs (by rfl) T.z_abs (by decide +kernel) (pa_cons (pv 4) pa_nil))) (pe_op op_mul (pe_op op_mul (pe_op op_add (pe_op op_mul (pv 0) (pv 0)) pe_int) (pv 3)) (pe_callB call_abs (by rfl) T.z_abs (by decide +kernel) (pa_cons (pv 3) pa_nil)))) pe_int (nomark _)))))), ?_⟩
    have g1 := mul_bd (x := b - d) (n := 2000000000000) h1 h4 (by unfold Bd at *; omega)
    have g2 := mm_bd h1 h4
    have g3 := mm4_bd (x := b - d) (n := 2000000000000) h1 h4 (by unfold Bd at *; omega)
    unfold Bd at ha hb hc hd
    refine ⟨_, rfl, p, _, 1, .int b, rfl, rfl, hp, atI_nat (j := 1) rfl, _, rfl, q, _, 1, .int d, rfl, rfl, hq, atI_nat (j := 1) rfl, _, _, rfl, rfl, ?_⟩
    refine ⟨_, rfl, p, _, 0, .int a, rfl, rfl, hp, atI_nat (j := 0) rfl, _, rfl, q, _, 0, .int c, rfl, rfl, hq, atI_nat (j := 0) rfl, _, _, rfl, rfl, _, _, rfl, rfl, .inl ⟨by decide, by decide⟩, ?_⟩
    refine ⟨_, rfl, _, rfl, _, _, rfl, rfl, .inl ⟨by omega, by omega⟩, _, _, rfl, rfl, ?_⟩
    refine ⟨_, rfl, _, rfl, _, rfl, _, _, rfl, rfl, .inl ⟨by omega, by omega⟩, ?_⟩
    refine ⟨_, rfl, _, rfl, _, _, rfl, rfl, .inl ⟨by omega, by omega⟩, _, _, rfl, rfl, _, rfl, _, _, rfl, rfl, .inl ⟨by omega, by omega⟩, ?_⟩
    refine ⟨_, rfl, _, rfl, _, _, rfl, rfl, .inl ⟨by omega, by omega⟩, _, _, rfl, rfl, _, _, rfl, rfl, ?_⟩
    exact k
set_option maxHeartbeats 4000000 in
theorem ok_made_larger (T : Txt K mg A) : FnOk P w K mg base CX0 1 A.a_made_larger A.d_made_larger ["m", "number"] (sp_made_larger K) := by
  refine T.f_made_larger.ok sc_made_larger (fun vs H Q E h => ?_) (fun cdv AA outer s H vs Q E hr h => ?_)
  · obtain ⟨_, _, _, _, rfl, _⟩ := h
    rfl
  · obtain ⟨m, p, a, b, rfl, hp, h1, h4, k⟩ := h
    refine ⟨_, (pss_cons (ps_set (i := 2) sc_made_larger.nd rfl (.inl rfl) (pe_ix ix_list (pv 1) pe_int (fun _ _ => rfl)))
      (pss_cons (ps_set (i := 3) sc_made_larger.nd rfl (.inl rfl) (pe_ix ix_list (pv 1) pe_int (fun _ _ => rfl)))
      (pss_one (ps_ret (pe_lst (pa_cons (pe_op op_add (pv 2) (pe_op op_mul (pv 0) (pv 3))) (pa_cons (pe_op op_add (pe_op op_mul (pv 0) (pv 2)) (pe_op op_mul (pe_op op_add (pe_op op_mul (pv 0) (pv 0)) pe_int) (pv 3))) pa_nil))))))), ?_⟩
    have g2 := mm_bd h1 h4
    refine ⟨_, rfl, p, _, 0, .int a, rfl, rfl, hp, atI_nat (j := 0) rfl, ?_⟩
    refine ⟨_, rfl, p, _, 1, .int b, rfl, rfl, hp, atI_nat (j := 1) rfl, ?_⟩
    refine ⟨_, rfl, _, rfl, _, rfl, _, _, rfl, rfl, .inl ⟨by omega, by omega⟩, _, _, rfl, rfl, ?_⟩
    refine ⟨_, rfl, _, rfl, _, _, rfl, rfl, .inl ⟨by omega, by omega⟩, _, rfl, _, rfl, _, _, rfl, rfl, .inl ⟨by omega, by omega⟩, _, _, rfl, rfl, _, rfl, _, _, rfl, rfl, .inl ⟨by omega, by omega⟩, _, _, rfl, rfl, ?_⟩
    refine ⟨by show 2 ≤ sizeLine; decide, fun r nr => ?_⟩
    exact k _ r (same_upd nr) nr upd_same
set_option maxHeartbeats 4000000 in
theorem ok_is_window (T : Txt K mg A) : FnOk P w K mg base CX0 2 A.a_is_window A.d_is_window ["m", "x"] (sp_is_window K) := by
  have G_is_told := ok_is_told (P := P) (w := w) (base := base) T
  have G_is_below := ok_is_below (P := P) (w := w) (base := base) T
  have G_made_larger := ok_made_larger (P := P) (w := w) (base := base) T
  refine T.f_is_window.ok sc_is_window (fun vs H Q E h => ?_) (fun cdv AA outer s H vs Q E hr h => ?_)
  · obtain ⟨_, _, _, rfl, _⟩ := h
    rfl
  · obtain ⟨m, p, xs, rfl, hp, hl, k⟩ := h
    refine ⟨_, (pss_cons (ps_if (PW.pt (pw_or (pt_cmpR op_lt (pv 0) pe_int (nomark _)) (pw_or (pt_cmpR op_gt (pv 0) (pe_glob (v := .int (4)) rfl T.g_LARGEST_M ⟨_, rfl⟩) (nomark _)) (pw_or1 (pt_not (pt_val (pe_call G_is_told (hr.mono (by decide)) (by rfl) T.g_is_told T.f_is_told.kp T.b_is_told .nil pass0 (pa_cons (pv 1) (pa_cons pe_int pa_nil)))))))))
      (pss_one (ps_ret pe_bl)) pss_nil)
      (pss_cons (ps_set (i := 2) sc_is_window.nd rfl (.inl rfl) (pe_lst (pa_cons (pe_op op_sub (pe_ix ix_list (pv 1) pe_int (fun _ _ => rfl)) (pe_ix ix_list (pv 1) pe_int (fun _ _ => rfl))) (pa_cons (pe_op op_sub (pe_ix ix_list (pv 1) pe_int (fun _ _ => rfl)) (pe_ix ix_list (pv 1) pe_int (fun _ _ => rfl))) pa_nil))))
      (pss_one (ps_ret (pe_and (pe_not (pe_call G_is_below (hr.mono (by decide)) (by rfl) T.g_is_below T.f_is_below.kp T.b_is_below .nil pass0 (pa_cons (pv 0) (pa_cons (pv 2) (pa_cons (pe_lst (pa_cons pe_int (pa_cons pe_int pa_nil))) pa_nil))))) (pe_one (pe_call G_is_below (hr.mono (by decide)) (by rfl) T.g_is_below T.f_is_below.kp T.b_is_below .nil pass0 (pa_cons (pv 0) (pa_cons (pv 2) (pa_cons (pe_call G_made_larger (hr.mono (by decide)) (by rfl) T.g_made_larger T.f_made_larger.kp T.b_made_larger .nil pass0 (pa_cons (pv 0) (pa_cons (pe_lst (pa_cons pe_int (pa_cons pe_int pa_nil))) pa_nil))) pa_nil)))))))))), ?_⟩
    have cR : ∀ (H1 : Hp), Same H H1 → Ml.isWin m xs = false → (fun H' => Q (.bl false) H') H1 := fun H1 s1 e => by
      have := k H1 s1
      rw [e] at this
      exact this
    refine ⟨_, rfl, _, _, rfl, rfl, _, rfl, ite2 (fun e => ?_) (fun e => ?_)⟩
    · refine iteT ?_
      refine cR H (Same.refl H) ?_
      have e' : m < 1 := of_decide_eq_true e
      unfold Ml.isWin
      rw [decide_eq_false (show ¬ 1 ≤ m by omega)]
      rfl
    have h1 : 1 ≤ m := by
      have e' : ¬ m < 1 := fun z => e (decide_eq_true z)
      omega
    refine ⟨_, rfl, _, _, rfl, rfl, _, rfl, ite2 (fun e => ?_) (fun e => ?_)⟩
    · refine iteT ?_
      refine cR H (Same.refl H) ?_
      have e' : 4 < m := of_decide_eq_true e
      unfold Ml.isWin
      rw [decide_eq_false (show ¬ m ≤ 4 by omega), Bool.and_false]
      rfl
    have h4 : m ≤ 4 := by
      have e' : ¬ 4 < m := fun z => e (decide_eq_true z)
      omega
    refine ⟨_, rfl, p, xs, 4, rfl, hp, hl, fun H1 s1 => ⟨_, rfl, ?_⟩⟩
    cases ht : Ml.told xs 4 with
    | false =>
      refine iteT ?_
      refine cR H1 s1 ?_
      unfold Ml.isWin
      rw [ht, Bool.and_false]
      rfl
    | true =>
      refine iteF ?_
      obtain ⟨a, b, c, d, rfl⟩ := Ml.list4 (Ml.told_len ht)
      have hb := Ml.told_all ht
      have ba := hb a (by simp)
      have bb := hb b (by simp)
      have bc := hb c (by simp)
      have bd := hb d (by simp)
      have hp1 := s1.seq hp
      refine ⟨_, rfl, p, _, 2, .int c, rfl, rfl, hp1, atI_nat (j := 2) rfl, _, rfl, p, _, 0, .int a, rfl, rfl, hp1, atI_nat (j := 0) rfl, _, _, rfl, rfl, ?_⟩
      refine ⟨_, rfl, p, _, 3, .int d, rfl, rfl, hp1, atI_nat (j := 3) rfl, _, rfl, p, _, 1, .int b, rfl, rfl, hp1, atI_nat (j := 1) rfl, _, _, rfl, rfl, ?_⟩
      refine ⟨by show 2 ≤ sizeLine; decide, fun l nl => ?_⟩
      have s2 := s1.trans (same_upd (o := .lst [.int (c - a), .int (d - b)]) nl)
      refine ⟨_, rfl, _, rfl, by show 2 ≤ sizeLine; decide, fun o no => ?_⟩
      have s3 := s2.trans (same_upd (o := .lst [.int 1, .int 0]) no)
      have hl3 : SqL K (upd (upd H1 l (.lst [.int (c - a), .int (d - b)])) o (.lst [.int 1, .int 0])) l [.int (c - a), .int (d - b)] := SqL.of (by rw [upd_ne (ne_of_none upd_same no)]; exact upd_same)
      refine ⟨m, l, o, c - a, d - b, 1, 0, rfl, hl3, SqL.of upd_same, h1, h4, by unfold Bd; omega, by unfold Bd; omega, by unfold Bd; omega, by unfold Bd; omega, ?_⟩
      have eW : Ml.isWin m [a, b, c, d] = ((!Ml.below m (c - a) (d - b) 1 0) && Ml.below m (c - a) (d - b) (Ml.largeA m 1 0) (Ml.largeB m 1 0)) := by
        unfold Ml.isWin
        rw [ht, decide_eq_true h1, decide_eq_true h4]
        rfl
      refine ⟨_, rfl, _, rfl, ?_⟩
      cases hx : Ml.below m (c - a) (d - b) 1 0 with
      | true =>
        refine iteF ?_
        exact cR _ s3 (by rw [eW, hx]; rfl)
      | false =>
        refine iteT ?_
        refine ⟨_, rfl, _, rfl, _, rfl, by show 2 ≤ sizeLine; decide, fun o2 no2 => ?_⟩
        have s4 := s3.trans (same_upd (o := .lst [.int 1, .int 0]) no2)
        have hl4 := (same_upd (o := .lst [.int 1, .int 0]) no2).seq hl3
        refine ⟨m, o2, 1, 0, rfl, SqL.of upd_same, h1, h4, fun H5 r s5 nr er => ?_⟩
        have bA : Bd (Ml.largeA m 1 0) := by unfold Ml.largeA Bd; omega
        have bB : Bd (Ml.largeB m 1 0) := by unfold Ml.largeB Bd; omega
        refine ⟨m, l, r, c - a, d - b, _, _, rfl, s5.seq hl4, SqL.of er, h1, h4, by unfold Bd; omega, by unfold Bd; omega, bA, bB, ?_⟩
        have := k H5 (s4.trans s5)
        rw [eW, hx] at this
        exact this
set_option maxHeartbeats 4000000 in
theorem ok_made_smaller (T : Txt K mg A) : FnOk P w K mg base CX0 1 A.a_made_smaller A.d_made_smaller ["m", "number"] (sp_made_smaller K) := by
  refine T.f_made_smaller.ok sc_made_smaller (fun vs H Q E h => ?_) (fun cdv AA outer s H vs Q E hr h => ?_)
  · obtain ⟨_, _, _, _, rfl, _⟩ := h
    rfl
  · obtain ⟨m, p, a, b, rfl, hp, h1, h4, k⟩ := h
    refine ⟨_, (pss_cons (ps_set (i := 2) sc_made_smaller.nd rfl (.inl rfl) (pe_ix ix_list (pv 1) pe_int (fun _ _ => rfl)))
      (pss_cons (ps_set (i := 3) sc_made_smaller.nd rfl (.inl rfl) (pe_ix ix_list (pv 1) pe_int (fun _ _ => rfl)))
      (pss_one (ps_ret (pe_lst (pa_cons (pe_op op_sub (pe_op op_mul (pe_op op_add (pe_op op_mul (pv 0) (pv 0)) pe_int) (pv 2)) (pe_op op_mul (pv 0) (pv 3))) (pa_cons (pe_op op_sub (pv 3) (pe_op op_mul (pv 0) (pv 2))) pa_nil))))))), ?_⟩
    have g2 := mm_bd h1 h4
    refine ⟨_, rfl, p, _, 0, .int a, rfl, rfl, hp, atI_nat (j := 0) rfl, ?_⟩
    refine ⟨_, rfl, p, _, 1, .int b, rfl, rfl, hp, atI_nat (j := 1) rfl, ?_⟩
    refine ⟨_, rfl, _, rfl, _, _, rfl, rfl, .inl ⟨by omega, by omega⟩, _, _, rfl, rfl, _, rfl, _, _, rfl, rfl, .inl ⟨by omega, by omega⟩, ?_⟩
    refine ⟨_, rfl, _, rfl, _, _, rfl, rfl, .inl ⟨by omega, by omega⟩, _, _, rfl, rfl, ?_⟩
    refine ⟨_, rfl, _, rfl, _, rfl, _, _, rfl, rfl, .inl ⟨by omega, by omega⟩, _, _, rfl, rfl, ?_⟩
    refine ⟨by show 2 ≤ sizeLine; decide, fun r nr => ?_⟩
    exact k _ r (same_upd nr) nr upd_same
set_option maxHeartbeats 4000000 in
theorem ok_keeps_points (T : Txt K mg A) : FnOk P w K mg base CX0 2 A.a_keeps_points A.d_keeps_points ["m", "x"] (sp_keeps_points K) := by
  have G_is_below := ok_is_below (P := P) (w := w) (base := base) T
  have G_made_smaller := ok_made_smaller (P := P) (w := w) (base := base) T
  refine T.f_keeps_points.ok sc_keeps_points (fun vs H Q E h => ?_) (fun cdv AA outer s H vs Q E hr h => ?_)
  · obtain ⟨_, _, _, _, _, _, rfl, _⟩ := h
    rfl
  · obtain ⟨m, p, a, b, c, d, rfl, hp, h1, h4, ha, hb, hc, hd, k⟩ := h
    refine ⟨_, (pss_cons (ps_set (i := 2) sc_keeps_points.nd rfl (.inl rfl) (pe_slice sl_list (pv 1) po_none (po_some pe_int)))
      (pss_cons (ps_set (i := 3) sc_keeps_points.nd rfl (.inl rfl) (pe_slice sl_list (pv 1) (po_some pe_int) po_none))
      (pss_one (ps_ret (pe_and (pe_not (pe_call G_is_below (hr.mono (by decide)) (by rfl) T.g_is_below T.f_is_below.kp T.b_is_below .nil pass0 (pa_cons (pv 0) (pa_cons (pe_call G_made_smaller (hr.mono (by decide)) (by rfl) T.g_made_smaller T.f_made_smaller.kp T.b_made_smaller .nil pass0 (pa_cons (pv 0) (pa_cons (pv 2) pa_nil))) (pa_cons (pv 2) pa_nil))))) (pe_one (pe_not (pe_call G_is_below (hr.mono (by decide)) (by rfl) T.g_is_below T.f_is_below.kp T.b_is_below .nil pass0 (pa_cons (pv 0) (pa_cons (pv 3) (pa_cons (pe_call G_made_smaller (hr.mono (by decide)) (by rfl) T.g_made_smaller T.f_made_smaller.kp T.b_made_smaller .nil pass0 (pa_cons (pv 0) (pa_cons (pv 3) pa_nil))) pa_nil))))))))))), ?_⟩
    refine ⟨_, rfl, 2, rfl, p, _, rfl, hp, fun u nu => ?_⟩
    have s1 : Same H (upd H u (.lst [.int a, .int b])) := same_upd nu
    refine ⟨_, rfl, 2, rfl, p, _, rfl, s1.seq hp, fun v nv => ?_⟩
    have s2 : Same (upd H u (.lst [.int a, .int b])) (upd (upd H u (.lst [.int a, .int b])) v (.lst [.int c, .int d])) := same_upd nv
    have hu2 : SqL K (upd (upd H u (.lst [.int a, .int b])) v (.lst [.int c, .int d])) u [.int a, .int b] := s2.seq (SqL.of upd_same)
    have hv2 : SqL K (upd (upd H u (.lst [.int a, .int b])) v (.lst [.int c, .int d])) v [.int c, .int d] := SqL.of upd_same
    have g1 := small_bd h1 h4 ha hb
    have g2 := small_bd h1 h4 hc hd
    refine ⟨_, rfl, _, rfl, _, rfl, m, u, a, b, rfl, hu2, h1, h4, fun H3 r s3 nr er => ?_⟩
    refine ⟨_, rfl, m, r, u, _, _, a, b, rfl, SqL.of er, s3.seq hu2, h1, h4, g1.1, g1.2, ha.bd, hb.bd, _, rfl, _, rfl, ?_⟩
    cases hx : Ml.below m (Ml.smallA m a b) (Ml.smallB m a b) a b with
    | true =>
      refine iteF ?_
      have := k H3 ((s1.trans s2).trans s3)
      unfold Ml.keepsB at this
      rw [hx] at this
      exact this
    | false =>
      refine iteT ?_
      refine ⟨_, rfl, _, rfl, _, rfl, _, rfl, m, v, c, d, rfl, s3.seq hv2, h1, h4, fun H4 r2 s4 nr2 er2 => ?_⟩
      refine ⟨m, v, r2, c, d, _, _, rfl, s4.seq (s3.seq hv2), SqL.of er2, h1, h4, hc.bd, hd.bd, g2.1, g2.2, _, rfl, ?_⟩
      have := k H4 (((s1.trans s2).trans s3).trans s4)
      unfold Ml.keepsB at this
      rw [hx] at this
      exact this
set_option maxHeartbeats 4000000 in
theorem ok_keeps (T : Txt K mg A) : FnOk P w K mg base CX0 3 A.a_keeps A.d_keeps ["m", "x"] (sp_keeps K) := by
  have G_is_window := ok_is_window (P := P) (w := w) (base := base) T
  have G_keeps_points := ok_keeps_points (P := P) (w := w) (base := base) T
  refine T.f_keeps.ok sc_keeps (fun vs H Q E h => ?_) (fun cdv AA outer s H vs Q E hr h => ?_)
  · obtain ⟨_, _, _, rfl, _⟩ := h
    rfl
  · obtain ⟨m, p, xs, rfl, hp, hl, k⟩ := h
    refine ⟨_, (pss_cons (ps_if (pt_not (pt_val (pe_call G_is_window (hr.mono (by decide)) (by rfl) T.g_is_window T.f_is_window.kp T.b_is_window .nil pass0 (pa_cons (pv 0) (pa_cons (pv 1) pa_nil)))))
      (pss_one (ps_ret (pe_lst (pa_cons (pe_glob (v := .int (-22)) rfl T.g_WRONG_INPUT ⟨_, rfl⟩) pa_nil)))) pss_nil)
      (pss_cons (ps_if (pt_val (pe_call G_keeps_points (hr.mono (by decide)) (by rfl) T.g_keeps_points T.f_keeps_points.kp T.b_keeps_points .nil pass0 (pa_cons (pv 0) (pa_cons (pv 1) pa_nil))))
      (pss_one (ps_ret (pe_lst (pa_cons pe_int pa_nil)))) pss_nil)
      (pss_one (ps_ret (pe_lst (pa_cons pe_int pa_nil)))))), ?_⟩
    refine ⟨_, rfl, _, rfl, m, p, xs, rfl, hp, hl, fun H1 s1 => ⟨_, rfl, ?_⟩⟩
    cases hw : Ml.isWin m xs with
    | false =>
      refine iteT ⟨by show 1 ≤ sizeLine; decide, fun r nr => k _ r ?_⟩
      rw [upd_same]
      unfold Ml.keeps
      rw [hw]
      rfl
    | true =>
      refine iteF ?_
      obtain ⟨a, b, c, d, rfl⟩ := Ml.isWin_4 hw
      obtain ⟨h1, h4⟩ := Ml.isWin_m hw
      have hb := Ml.told_all (Ml.isWin_told hw)
      refine ⟨_, rfl, _, rfl, m, p, a, b, c, d, rfl, s1.seq hp, h1, h4, hb a (by simp), hb b (by simp), hb c (by simp), hb d (by simp), fun H2 s2 => ⟨_, rfl, ?_⟩⟩
      cases hk : Ml.keepsB m a b c d with
      | true =>
        refine iteT ⟨by show 1 ≤ sizeLine; decide, fun r nr => k _ r ?_⟩
        rw [upd_same, Ml.keeps_1 hw hk]
        rfl
      | false =>
        refine iteF ⟨by show 1 ≤ sizeLine; decide, fun r nr => k _ r ?_⟩
        rw [upd_same, Ml.keeps_0 hw hk]
        rfl
end
theorem all_mk {P : Program} {w : World} {K : PySem.W.Frag} {h : Heap} {mg : Str → Option Value} {fa : Addr} (X : K.In h) (G : h.Ns mainGlobals mg) (hfa : mg "keeps" = some (.ref fa))
    {f0 : Addr} {od0 an0 : Option Addr} {sl0 : Array (Option Value)} {oc0 kV0 dc0 pm0 cd0 ct0 : Value}
    {f1 : Addr} {od1 an1 : Option Addr} {sl1 : Array (Option Value)} {oc1 kV1 dc1 pm1 cd1 ct1 : Value}
    {f2 : Addr} {od2 an2 : Option Addr} {sl2 : Array (Option Value)} {oc2 kV2 dc2 pm2 cd2 ct2 : Value}
    {f3 : Addr} {od3 an3 : Option Addr} {sl3 : Array (Option Value)} {oc3 kV3 dc3 pm3 cd3 ct3 : Value}
    {f4 : Addr} {od4 an4 : Option Addr} {sl4 : Array (Option Value)} {oc4 kV4 dc4 pm4 cd4 ct4 : Value}
    {f5 : Addr} {od5 an5 : Option Addr} {sl5 : Array (Option Value)} {oc5 kV5 dc5 pm5 cd5 ct5 : Value}
    {f6 : Addr} {od6 an6 : Option Addr} {sl6 : Array (Option Value)} {oc6 kV6 dc6 pm6 cd6 ct6 : Value}
    {tWRONG_INPUT : Tok}
    {tLARGEST_M : Tok}
    {tLARGEST_PART : Tok}
    (a0 : PySem.W.nsIn K mainGlobals "keeps" = some (some (.ref f0))) (l0 : K.lookup f0 = some ⟨oc0, od0, .func (PySem.W.fnOf "keeps" "keeps" (defArgs s_keeps) (defBody s_keeps) (defScope s_keeps) .none kV0 dc0 pm0 an0 cd0 ct0), sl0⟩) (c0 : PySem.W.codeIn K cd0 "keeps" = true) (k0 : PySem.W.keepIn K (.ref f0) = true)
    (a1 : PySem.W.nsIn K mainGlobals "is_window" = some (some (.ref f1))) (l1 : K.lookup f1 = some ⟨oc1, od1, .func (PySem.W.fnOf "is_window" "is_window" (defArgs s_is_window) (defBody s_is_window) (defScope s_is_window) .none kV1 dc1 pm1 an1 cd1 ct1), sl1⟩) (c1 : PySem.W.codeIn K cd1 "is_window" = true) (k1 : PySem.W.keepIn K (.ref f1) = true)
    (a2 : PySem.W.nsIn K mainGlobals "is_told" = some (some (.ref f2))) (l2 : K.lookup f2 = some ⟨oc2, od2, .func (PySem.W.fnOf "is_told" "is_told" (defArgs s_is_told) (defBody s_is_told) (defScope s_is_told) .none kV2 dc2 pm2 an2 cd2 ct2), sl2⟩) (c2 : PySem.W.codeIn K cd2 "is_told" = true) (k2 : PySem.W.keepIn K (.ref f2) = true)
    (a3 : PySem.W.nsIn K mainGlobals "keeps_points" = some (some (.ref f3))) (l3 : K.lookup f3 = some ⟨oc3, od3, .func (PySem.W.fnOf "keeps_points" "keeps_points" (defArgs s_keeps_points) (defBody s_keeps_points) (defScope s_keeps_points) .none kV3 dc3 pm3 an3 cd3 ct3), sl3⟩) (c3 : PySem.W.codeIn K cd3 "keeps_points" = true) (k3 : PySem.W.keepIn K (.ref f3) = true)
    (a4 : PySem.W.nsIn K mainGlobals "made_larger" = some (some (.ref f4))) (l4 : K.lookup f4 = some ⟨oc4, od4, .func (PySem.W.fnOf "made_larger" "made_larger" (defArgs s_made_larger) (defBody s_made_larger) (defScope s_made_larger) .none kV4 dc4 pm4 an4 cd4 ct4), sl4⟩) (c4 : PySem.W.codeIn K cd4 "made_larger" = true) (k4 : PySem.W.keepIn K (.ref f4) = true)
    (a5 : PySem.W.nsIn K mainGlobals "made_smaller" = some (some (.ref f5))) (l5 : K.lookup f5 = some ⟨oc5, od5, .func (PySem.W.fnOf "made_smaller" "made_smaller" (defArgs s_made_smaller) (defBody s_made_smaller) (defScope s_made_smaller) .none kV5 dc5 pm5 an5 cd5 ct5), sl5⟩) (c5 : PySem.W.codeIn K cd5 "made_smaller" = true) (k5 : PySem.W.keepIn K (.ref f5) = true)
    (a6 : PySem.W.nsIn K mainGlobals "is_below" = some (some (.ref f6))) (l6 : K.lookup f6 = some ⟨oc6, od6, .func (PySem.W.fnOf "is_below" "is_below" (defArgs s_is_below) (defBody s_is_below) (defScope s_is_below) .none kV6 dc6 pm6 an6 cd6 ct6), sl6⟩) (c6 : PySem.W.codeIn K cd6 "is_below" = true) (k6 : PySem.W.keepIn K (.ref f6) = true)
    (qWRONG_INPUT : PySem.W.nsIn K mainGlobals "WRONG_INPUT" = some (some (.int (-22) tWRONG_INPUT)))
    (qLARGEST_M : PySem.W.nsIn K mainGlobals "LARGEST_M" = some (some (.int (4) tLARGEST_M)))
    (qLARGEST_PART : PySem.W.nsIn K mainGlobals "LARGEST_PART" = some (some (.int (1000000) tLARGEST_PART)))
    (zall : PySem.W.nsIn K mainGlobals "all" = some none)
    (zabs : PySem.W.nsIn K mainGlobals "abs" = some none)
    (zlen : PySem.W.nsIn K mainGlobals "len" = some none)
    : ∃ fd : FuncData, (∀ (s : Shared) (us : List Value), us.length = (["m", "x"] : List Str).length → BindsTo s fd ⟨us, []⟩ ((["m", "x"] : List Str).zip us)) ∧ ∀ base : Heap, K.In base → base.Ns mainGlobals mg → FnOk P w K mg base CX0 3 fa fd ["m", "x"] (sp_keeps K) := by
  have e := hfa.symm.trans (PySem.W.mg_of X G a0)
  obtain rfl : f0 = fa := by
    injection e with e
    injection e with e
    exact e.symm
  have F0 := fun_mk (st := s_keeps) l0 c0 k0
  have b0 := F0.binds (ps := ["m", "x"]) fun _ _ _ _ _ _ us hl => match us, hl with | [_, _], _ => rfl
  have F1 := fun_mk (st := s_is_window) l1 c1 k1
  have b1 := F1.binds (ps := ["m", "x"]) fun _ _ _ _ _ _ us hl => match us, hl with | [_, _], _ => rfl
  have F2 := fun_mk (st := s_is_told) l2 c2 k2
  have b2 := F2.binds (ps := ["parts", "count"]) fun _ _ _ _ _ _ us hl => match us, hl with | [_, _], _ => rfl
  have F3 := fun_mk (st := s_keeps_points) l3 c3 k3
  have b3 := F3.binds (ps := ["m", "x"]) fun _ _ _ _ _ _ us hl => match us, hl with | [_, _], _ => rfl
  have F4 := fun_mk (st := s_made_larger) l4 c4 k4
  have b4 := F4.binds (ps := ["m", "number"]) fun _ _ _ _ _ _ us hl => match us, hl with | [_, _], _ => rfl
  have F5 := fun_mk (st := s_made_smaller) l5 c5 k5
  have b5 := F5.binds (ps := ["m", "number"]) fun _ _ _ _ _ _ us hl => match us, hl with | [_, _], _ => rfl
  have F6 := fun_mk (st := s_is_below) l6 c6 k6
  have b6 := F6.binds (ps := ["m", "number", "other"]) fun _ _ _ _ _ _ us hl => match us, hl with | [_, _, _], _ => rfl
  have T : Txt K mg ⟨f0, (PySem.W.fnOf "keeps" "keeps" (defArgs s_keeps) (defBody s_keeps) (defScope s_keeps) .none kV0 dc0 pm0 an0 cd0 ct0), f1, (PySem.W.fnOf "is_window" "is_window" (defArgs s_is_window) (defBody s_is_window) (defScope s_is_window) .none kV1 dc1 pm1 an1 cd1 ct1), f2, (PySem.W.fnOf "is_told" "is_told" (defArgs s_is_told) (defBody s_is_told) (defScope s_is_told) .none kV2 dc2 pm2 an2 cd2 ct2), f3, (PySem.W.fnOf "keeps_points" "keeps_points" (defArgs s_keeps_points) (defBody s_keeps_points) (defScope s_keeps_points) .none kV3 dc3 pm3 an3 cd3 ct3), f4, (PySem.W.fnOf "made_larger" "made_larger" (defArgs s_made_larger) (defBody s_made_larger) (defScope s_made_larger) .none kV4 dc4 pm4 an4 cd4 ct4), f5, (PySem.W.fnOf "made_smaller" "made_smaller" (defArgs s_made_smaller) (defBody s_made_smaller) (defScope s_made_smaller) .none kV5 dc5 pm5 an5 cd5 ct5), f6, (PySem.W.fnOf "is_below" "is_below" (defArgs s_is_below) (defBody s_is_below) (defScope s_is_below) .none kV6 dc6 pm6 an6 cd6 ct6), tWRONG_INPUT, tLARGEST_M, tLARGEST_PART⟩ := ⟨F0, b0, PySem.W.mg_of X G a0, F1, b1, PySem.W.mg_of X G a1, F2, b2, PySem.W.mg_of X G a2, F3, b3, PySem.W.mg_of X G a3, F4, b4, PySem.W.mg_of X G a4, F5, b5, PySem.W.mg_of X G a5, F6, b6, PySem.W.mg_of X G a6, PySem.W.mg_of X G qWRONG_INPUT, PySem.W.mg_of X G qLARGEST_M, PySem.W.mg_of X G qLARGEST_PART, PySem.W.mg_none_of X G zall, PySem.W.mg_none_of X G zabs, PySem.W.mg_none_of X G zlen⟩
  exact ⟨(PySem.W.fnOf "keeps" "keeps" (defArgs s_keeps) (defBody s_keeps) (defScope s_keeps) .none kV0 dc0 pm0 an0 cd0 ct0), fun s us hu => match us, hu with | [_, _], _ => .of_eq rfl, fun base _ _ => ok_keeps T⟩
end Mh
open PySem PySem.W PyProof.Rows
set_option maxRecDepth 100000 in
set_option maxHeartbeats 8000000 in
theorem PySem.Challenge.cw_madelarger_s01_keeps_holds : PySem.Challenge.rw_madelarger_s01_keeps.Holds := by
  w_on; k_headS; (case hw => exact ⟨[.int 0, .list []], by decide +kernel, by decide +kernel⟩)
  k_fillS
  refine L2.walk_specK (r := PySem.Challenge.rw_madelarger_s01_keeps) (k := 3) (CX := L2.CX0) (ps := ["m", "x"]) (sp := Mh.sp_keeps) (by decide +kernel) rfl rfl ⟨rfl, by decide, by decide⟩ (fun w h Y => PySem.W.kIn_of Y) ?F ?S (fun _ _ _ _ z => z)
  case F =>
    intro w mg fa h Y KX G hmg
    refine' Mh.all_mk KX G hmg ?a0 ?l0 ?c0 ?k0 ?a1 ?l1 ?c1 ?k1 ?a2 ?l2 ?c2 ?k2 ?a3 ?l3 ?c3 ?k3 ?a4 ?l4 ?c4 ?k4 ?a5 ?l5 ?c5 ?k5 ?a6 ?l6 ?c6 ?k6 ?qWRONG_INPUT ?qLARGEST_M ?qLARGEST_PART ?zall ?zabs ?zlen
    (case a0 => k_is)
    (case l0 => k_is)
    (case c0 => k_is)
    (case k0 => k_is)
    (case a1 => k_is)
    (case l1 => k_is)
    (case c1 => k_is)
    (case k1 => k_is)
    (case a2 => k_is)
    (case l2 => k_is)
    (case c2 => k_is)
    (case k2 => k_is)
    (case a3 => k_is)
    (case l3 => k_is)
    (case c3 => k_is)
    (case k3 => k_is)
    (case a4 => k_is)
    (case l4 => k_is)
    (case c4 => k_is)
    (case k4 => k_is)
    (case a5 => k_is)
    (case l5 => k_is)
    (case c5 => k_is)
    (case k5 => k_is)
    (case a6 => k_is)
    (case l6 => k_is)
    (case c6 => k_is)
    (case k6 => k_is)
    (case qWRONG_INPUT => k_is)
    (case qLARGEST_M => k_is)
    (case qLARGEST_PART => k_is)
    (case zall => k_is)
    (case zabs => k_is)
    (case zlen => k_is)
  case S =>
    intro K H xs a hO hwi hask hx
    cases hx with
    | cons h1 h2 =>
      cases h2 with
      | cons h3 h4 =>
        cases h4
        cases h1
        cases h3 with
        | lst hs ha =>
          have e := L2.ints_dw a.2.1 _ ha
          subst e
          have q : (Codec.inInt 0 4294967295 a.1 && ((Codec.inLen 0 8 a.2.1 && a.2.1.all (Codec.inInt (-2147483647) 2147483647)) && true)) = true := hwi
          rw [Bool.and_eq_true, Bool.and_eq_true, Bool.and_eq_true] at q
          have hm : 0 ≤ a.1 := by
            have := q.1
            unfold Codec.inInt at this
            simp only [Bool.and_eq_true, decide_eq_true_eq] at this
            exact this.1
          have l1 := (Codec.inNat_iff.mp q.2.1.1).2
          refine ⟨_, _, a.2.1, rfl, hs, by omega, fun H' r hr => ?_⟩
          rw [← Ml.keeps_is hm] at hr
          exact .lst (L2.SqL.of hr) (L2.dw_ints _)
#print axioms PySem.Challenge.cw_madelarger_s01_keeps_holds
