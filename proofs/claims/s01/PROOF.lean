import PyProof.Rows.All
import Wide.All
import OpenK.AllK
import Wide.FinOn
import Open.SpecLaws
import KE.OsGo
import HandS.ForSpec
import HandS.Iter
import HandS.Wide
import PySem.Challenge.RW_beadframedesk_s01_answers
set_option Elab.async false
namespace Bead
open Kab

/-! ### Frames: what a set rod does -/
def RodOk (r : Rod) : Prop := r.five ≤ 1 ∧ r.ones ≤ 4
structure Ok (f : Frame) : Prop where
  len : f.length = 12
  rods : ∀ k, RodOk (rod f k)

theorem rod_set_eq {f : Frame} {k : Nat} {r : Rod} (h : k < f.length) : rod (f.set k r) k = r := by
  unfold rod
  rw [List.getD_eq_getElem?_getD, List.getElem?_set_self h]
  rfl
theorem rod_set_ne {f : Frame} {j k : Nat} {r : Rod} (h : j ≠ k) : rod (f.set k r) j = rod f j := by
  unfold rod
  rw [List.getD_eq_getElem?_getD, List.getD_eq_getElem?_getD, List.getElem?_set_ne (by omega)]
theorem Ok.set {f : Frame} {k : Nat} {r : Rod} (o : Ok f) (h : RodOk r) : Ok (f.set k r) := by
  refine ⟨by rw [List.length_set]; exact o.len, fun j => ?_⟩
  by_cases c : j = k
  · subst c
    by_cases c2 : j < f.length
    · rw [rod_set_eq c2]; exact h
    · rw [List.set_eq_of_length_le (by omega)]; exact o.rods j
  · rw [rod_set_ne c]; exact o.rods j
theorem worth_le {r : Rod} (h : RodOk r) : worth r ≤ 9 := by
  unfold worth
  have := h.1; have := h.2
  omega
theorem ok_clear : Ok clear := by
  refine ⟨rfl, fun k => ?_⟩
  have e : rod clear k = ⟨0, 0⟩ := by
    unfold rod clear
    rw [List.getD_eq_getElem?_getD, List.getElem?_replicate]
    by_cases c : k < rods
    · rw [if_pos c]; rfl
    · rw [if_neg c]; rfl
  rw [e]
  exact ⟨Nat.zero_le _, Nat.zero_le _⟩

/-! ### What a frame shows -/
theorem value_set : ∀ (f : Frame) (k : Nat) (r : Rod), k < f.length → valueOf (f.set k r) + worth (rod f k) * 10 ^ k = valueOf f + worth r * 10 ^ k
  | [], k, r, h => by simp at h
  | a :: f, 0, r, _ => by
    show worth r + 10 * valueOf f + worth a * 10 ^ 0 = worth a + 10 * valueOf f + worth r * 10 ^ 0
    omega
  | a :: f, k + 1, r, h => by
    have ih := value_set f k r (Nat.lt_of_succ_lt_succ h)
    show worth a + 10 * valueOf (f.set k r) + worth (rod f k) * 10 ^ (k + 1) = worth a + 10 * valueOf f + worth r * 10 ^ (k + 1)
    have e : 10 ^ (k + 1) = 10 * 10 ^ k := by rw [Nat.pow_succ, Nat.mul_comm]
    rw [e, Nat.mul_left_comm, Nat.mul_left_comm (worth r)]
    omega
theorem value_lt : ∀ (f : Frame), (∀ k, worth (rod f k) ≤ 9) → valueOf f < 10 ^ f.length
  | [], _ => by decide
  | a :: f, h => by
    have ih := value_lt f fun k => h (k + 1)
    have ha : worth a ≤ 9 := h 0
    show worth a + 10 * valueOf f < 10 ^ (f.length + 1)
    rw [Nat.pow_succ]
    omega
theorem value_digit : ∀ (f : Frame) (k : Nat), (∀ k, worth (rod f k) ≤ 9) → valueOf f / 10 ^ k % 10 = worth (rod f k)
  | [], k, _ => by
    show 0 / 10 ^ k % 10 = worth (([] : Frame).getD k ⟨0, 0⟩)
    rw [Nat.zero_div]
    rfl
  | a :: f, 0, h => by
    have ha : worth a ≤ 9 := h 0
    show (worth a + 10 * valueOf f) / 10 ^ 0 % 10 = worth a
    omega
  | a :: f, k + 1, h => by
    have ih := value_digit f k fun k => h (k + 1)
    have ha : worth a ≤ 9 := h 0
    show (worth a + 10 * valueOf f) / 10 ^ (k + 1) % 10 = worth (rod f k)
    have e : (worth a + 10 * valueOf f) / 10 = valueOf f := by omega
    rw [show 10 ^ (k + 1) = 10 * 10 ^ k by rw [Nat.pow_succ, Nat.mul_comm], ← Nat.div_div_eq_div_mul, e]
    exact ih
theorem Ok.lt {f : Frame} (o : Ok f) : valueOf f < 10 ^ 12 := by
  have := value_lt f fun k => worth_le (o.rods k)
  rw [o.len] at this
  exact this
theorem Ok.digit {f : Frame} (o : Ok f) (k : Nat) : valueOf f / 10 ^ k % 10 = worth (rod f k) := value_digit f k fun k => worth_le (o.rods k)

/-! ### Moves that can be made, one after another -/
def Goes : Frame → List Move → Frame → Prop
  | f, [], g => f = g
  | f, m :: l, g => ∃ h, made f m = some h ∧ Goes h l g
theorem after_cons {f g : Frame} {m : Move} {l : List Move} (h : made f m = some g) : after f (m :: l) = after g l := by
  show List.foldl _ (match made f m with | some h => h | none => f) l = _
  rw [h]
  rfl
theorem after_append (f : Frame) (a b : List Move) : after f (a ++ b) = after (after f a) b := by
  unfold after
  rw [List.foldl_append]
theorem Goes.after : ∀ {l : List Move} {f g : Frame}, Goes f l g → Kab.after f l = g
  | [], _, _, h => h
  | _ :: _, _, _, ⟨_, e, r⟩ => (after_cons e).trans r.after
theorem Goes.append : ∀ {a b : List Move} {f g h : Frame}, Goes f a g → Goes g b h → Goes f (a ++ b) h
  | [], _, _, _, _, e, q => by cases e; exact q
  | _ :: _, _, _, _, _, ⟨x, e, r⟩, q => ⟨x, e, r.append q⟩
theorem Goes.one {f g : Frame} {m : Move} (h : made f m = some g) : Goes f [m] g := ⟨g, h, rfl⟩
theorem made0 {f : Frame} {k n : Nat} (hk : k < 12) (h1 : 1 ≤ n) (h2 : (rod f k).ones + n ≤ 4) : made f ⟨k, 0, n⟩ = some (f.set k ⟨(rod f k).five, (rod f k).ones + n⟩) := by
  unfold made
  rw [if_neg (show ¬ rods ≤ k by unfold rods; omega)]
  exact if_pos ⟨h1, h2⟩
theorem made1 {f : Frame} {k n : Nat} (hk : k < 12) (h1 : 1 ≤ n) (h2 : n ≤ (rod f k).ones) : made f ⟨k, 1, n⟩ = some (f.set k ⟨(rod f k).five, (rod f k).ones - n⟩) := by
  unfold made
  rw [if_neg (show ¬ rods ≤ k by unfold rods; omega)]
  exact if_pos ⟨h1, h2⟩
theorem made2 {f : Frame} {k : Nat} (hk : k < 12) (h : (rod f k).five = 0) : made f ⟨k, 2, 1⟩ = some (f.set k ⟨1, (rod f k).ones⟩) := by
  unfold made
  rw [if_neg (show ¬ rods ≤ k by unfold rods; omega)]
  exact if_pos ⟨rfl, h⟩
theorem made3 {f : Frame} {k : Nat} (hk : k < 12) (h : (rod f k).five = 1) : made f ⟨k, 3, 1⟩ = some (f.set k ⟨0, (rod f k).ones⟩) := by
  unfold made
  rw [if_neg (show ¬ rods ≤ k by unfold rods; omega)]
  exact if_pos ⟨rfl, h⟩
theorem made_ok {f g : Frame} {m : Move} (o : Ok f) (h : made f m = some g) : Ok g ∧ m.rod < 12 := by
  unfold made at h
  have r := o.rods m.rod
  obtain ⟨r1, r2⟩ := r
  split at h
  · cases h
  next hk =>
    have hk : m.rod < 12 := by unfold rods at hk; omega
    refine ⟨?_, hk⟩
    split at h
    all_goals first | (cases h; done) | skip
    all_goals
      dsimp only at h
      split at h
      · next c => cases h; exact o.set ⟨by dsimp only; omega, by dsimp only; omega⟩
      · cases h
theorem Goes.ok : ∀ {l : List Move} {f g : Frame}, Ok f → Goes f l g → Ok g
  | [], _, _, o, e => by cases e; exact o
  | _ :: _, _, _, o, ⟨_, e, r⟩ => r.ok (made_ok o e).1

/-! ### One digit put on, taken off -/
theorem put_goes {f : Frame} {k d : Nat} (o : Ok f) (hk : k < 12) (h1 : 1 ≤ d) (h9 : worth (rod f k) + d ≤ 9) :
    ∃ g, Goes f (putOn f k d) g ∧ Ok g ∧ valueOf g = valueOf f + d * 10 ^ k := by
  have hl : k < f.length := by rw [o.len]; exact hk
  obtain ⟨r1, r2⟩ := o.rods k
  unfold worth at h9
  have fin : ∀ r : Rod, worth r = worth (rod f k) + d → valueOf (f.set k r) = valueOf f + d * 10 ^ k := fun r e => by
    have q := value_set f k r hl
    rw [e, Nat.add_mul] at q
    omega
  unfold putOn
  by_cases c : d < 5
  · simp only [if_pos c]
    by_cases c2 : (rod f k).ones + d ≤ 4
    · rw [if_pos c2]
      unfold lower
      rw [if_neg (by omega)]
      exact ⟨_, .one (made0 hk h1 c2), o.set ⟨r1, c2⟩, fin _ (by unfold worth; dsimp only; omega)⟩
    · rw [if_neg c2]
      unfold lower
      rw [if_neg (by omega)]
      have m2 := made2 (f := f) hk (by omega)
      have e := rod_set_eq (r := ⟨1, (rod f k).ones⟩) hl
      have m1 := made1 (f := f.set k ⟨1, (rod f k).ones⟩) (k := k) (n := 5 - d) hk (by omega) (by rw [e]; dsimp only; omega)
      rw [e, List.set_set] at m1
      exact ⟨_, ⟨_, m2, .one m1⟩, o.set ⟨by dsimp only; omega, by dsimp only; omega⟩, fin _ (by unfold worth; dsimp only; omega)⟩
  · simp only [if_neg c]
    have m2 := made2 (f := f) hk (by omega)
    have e := rod_set_eq (r := ⟨1, (rod f k).ones⟩) hl
    unfold lower
    by_cases c2 : d - 5 = 0
    · rw [if_pos c2]
      exact ⟨_, .one m2, o.set ⟨by dsimp only; omega, by dsimp only; omega⟩, fin _ (by unfold worth; dsimp only; omega)⟩
    · rw [if_neg c2]
      have m1 := made0 (f := f.set k ⟨1, (rod f k).ones⟩) (k := k) (n := d - 5) hk (by omega) (by rw [e]; dsimp only; omega)
      rw [e, List.set_set] at m1
      exact ⟨_, ⟨_, m2, .one m1⟩, o.set ⟨by dsimp only; omega, by dsimp only; omega⟩, fin _ (by unfold worth; dsimp only; omega)⟩
theorem off_goes {f : Frame} {k d : Nat} (o : Ok f) (hk : k < 12) (h1 : 1 ≤ d) (h9 : d ≤ worth (rod f k)) :
    ∃ g, Goes f (takeOff f k d) g ∧ Ok g ∧ valueOf g + d * 10 ^ k = valueOf f := by
  have hl : k < f.length := by rw [o.len]; exact hk
  obtain ⟨r1, r2⟩ := o.rods k
  unfold worth at h9
  have fin : ∀ r : Rod, worth r + d = worth (rod f k) → valueOf (f.set k r) + d * 10 ^ k = valueOf f := fun r e => by
    have q := value_set f k r hl
    rw [← e, Nat.add_mul] at q
    omega
  unfold takeOff
  by_cases c : d < 5
  · simp only [if_pos c]
    by_cases c2 : d ≤ (rod f k).ones
    · rw [if_pos c2]
      unfold lower
      rw [if_neg (by omega)]
      exact ⟨_, .one (made1 hk h1 c2), o.set ⟨r1, by dsimp only; omega⟩, fin _ (by unfold worth; dsimp only; omega)⟩
    · rw [if_neg c2]
      unfold lower
      rw [if_neg (by omega)]
      have m2 := made3 (f := f) hk (by omega)
      have e := rod_set_eq (r := ⟨0, (rod f k).ones⟩) hl
      have m1 := made0 (f := f.set k ⟨0, (rod f k).ones⟩) (k := k) (n := 5 - d) hk (by omega) (by rw [e]; dsimp only; omega)
      rw [e, List.set_set] at m1
      exact ⟨_, ⟨_, m2, .one m1⟩, o.set ⟨by dsimp only; omega, by dsimp only; omega⟩, fin _ (by unfold worth; dsimp only; omega)⟩
  · simp only [if_neg c]
    have m2 := made3 (f := f) hk (by omega)
    have e := rod_set_eq (r := ⟨0, (rod f k).ones⟩) hl
    unfold lower
    by_cases c2 : d - 5 = 0
    · rw [if_pos c2]
      exact ⟨_, .one m2, o.set ⟨by dsimp only; omega, by dsimp only; omega⟩, fin _ (by unfold worth; dsimp only; omega)⟩
    · rw [if_neg c2]
      have m1 := made1 (f := f.set k ⟨0, (rod f k).ones⟩) (k := k) (n := d - 5) hk (by omega) (by rw [e]; dsimp only; omega)
      rw [e, List.set_set] at m1
      exact ⟨_, ⟨_, m2, .one m1⟩, o.set ⟨by dsimp only; omega, by dsimp only; omega⟩, fin _ (by unfold worth; dsimp only; omega)⟩

/-! ### A digit added, taken away, with what is carried -/
theorem add_goes : ∀ (n : Nat) (f : Frame) (k d : Nat), Ok f → 1 ≤ d → d ≤ 9 → 12 ≤ k + n → valueOf f + d * 10 ^ k < 10 ^ 12 →
    ∃ g, Goes f (addAt n f k d) g ∧ Ok g ∧ valueOf g = valueOf f + d * 10 ^ k
  | 0, f, k, d, _, h1, _, hn, hv => by
    have q : 10 ^ 12 ≤ 10 ^ k := Nat.pow_le_pow_right (by omega) (by omega)
    have q2 : 1 * 10 ^ k ≤ d * 10 ^ k := Nat.mul_le_mul_right _ h1
    omega
  | n + 1, f, k, d, o, h1, h9, hn, hv => by
    have hk : k < 12 := by
      apply Nat.lt_of_not_le
      intro c
      have q : 10 ^ 12 ≤ 10 ^ k := Nat.pow_le_pow_right (by omega) c
      have q2 : 1 * 10 ^ k ≤ d * 10 ^ k := Nat.mul_le_mul_right _ h1
      omega
    unfold addAt
    by_cases c : worth (rod f k) + d ≤ 9
    · rw [if_pos c]
      exact put_goes o hk h1 c
    · rw [if_neg c]
      have w := worth_le (o.rods k)
      obtain ⟨g, gg, og, vg⟩ := off_goes (d := 10 - d) o hk (by omega) (by omega)
      have e : (10 - d) * 10 ^ k + d * 10 ^ k = 10 ^ (k + 1) := by
        rw [← Nat.add_mul, show 10 - d + d = 10 by omega, Nat.pow_succ, Nat.mul_comm]
      obtain ⟨h, gh, oh, vh⟩ := add_goes n g (k + 1) 1 og (Nat.le_refl _) (by omega) (by omega) (by omega)
      dsimp only
      rw [gg.after]
      exact ⟨h, gg.append gh, oh, by omega⟩
theorem take_goes : ∀ (n : Nat) (f : Frame) (k d : Nat), Ok f → 1 ≤ d → d ≤ 9 → 12 ≤ k + n → d * 10 ^ k ≤ valueOf f →
    ∃ g, Goes f (takeAt n f k d) g ∧ Ok g ∧ valueOf g + d * 10 ^ k = valueOf f
  | 0, f, k, d, o, h1, _, hn, hv => by
    have q : 10 ^ 12 ≤ 10 ^ k := Nat.pow_le_pow_right (by omega) (by omega)
    have q2 : 1 * 10 ^ k ≤ d * 10 ^ k := Nat.mul_le_mul_right _ h1
    have := o.lt
    omega
  | n + 1, f, k, d, o, h1, h9, hn, hv => by
    have hlt := o.lt
    have hk : k < 12 := by
      apply Nat.lt_of_not_le
      intro c
      have q : 10 ^ 12 ≤ 10 ^ k := Nat.pow_le_pow_right (by omega) c
      have q2 : 1 * 10 ^ k ≤ d * 10 ^ k := Nat.mul_le_mul_right _ h1
      omega
    unfold takeAt
    by_cases c : d ≤ worth (rod f k)
    · rw [if_pos c]
      exact off_goes o hk h1 c
    · rw [if_neg c]
      have pos : 0 < 10 ^ k := Nat.pow_pos (by omega)
      have e10 : 10 ^ (k + 1) = 10 * 10 ^ k := by rw [Nat.pow_succ, Nat.mul_comm]
      have dg := o.digit k
      have q : d ≤ valueOf f / 10 ^ k := (Nat.le_div_iff_mul_le pos).mpr hv
      have q10 : 10 ≤ valueOf f / 10 ^ k := by omega
      have hv10 : 10 * 10 ^ k ≤ valueOf f := (Nat.le_div_iff_mul_le pos).mp q10
      obtain ⟨g, gg, og, vg⟩ := take_goes n f (k + 1) 1 o (Nat.le_refl _) (by omega) (by omega) (by omega)
      have dg2 := og.digit k
      have vd : valueOf f / 10 ^ k = valueOf g / 10 ^ k + 10 := by
        rw [show valueOf f = valueOf g + 10 * 10 ^ k by omega, Nat.add_mul_div_right _ _ pos]
      obtain ⟨h, gh, oh, vh⟩ := put_goes (d := 10 - d) og hk (by omega) (by omega)
      have e : (10 - d) * 10 ^ k + d * 10 ^ k = 10 * 10 ^ k := by
        rw [← Nat.add_mul, show 10 - d + d = 10 by omega]
      dsimp only
      rw [gg.after]
      exact ⟨h, gg.append gh, oh, by omega⟩

/-! ### Numbers -/
theorem both_goes {f g h : Frame} {a : List Move} {b : Frame → List Move} (p : Goes f a g) (q : Goes g (b g) h) : Goes f (both f a b) h := by
  unfold both
  rw [p.after]
  exact p.append q
theorem digit_le (x n : Nat) : digit x n ≤ 9 := by
  unfold digit
  omega
theorem mod_digit (x n : Nat) : x % 10 ^ (n + 1) = x % 10 ^ n + digit x n * 10 ^ n := by
  unfold digit
  rw [Nat.mod_pow_succ, Nat.mul_comm]
theorem addNumber_goes : ∀ (n : Nat) (f : Frame) (k x : Nat), Ok f → valueOf f + x % 10 ^ n * 10 ^ k < 10 ^ 12 →
    ∃ g, Goes f (addNumber n f k x) g ∧ Ok g ∧ valueOf g = valueOf f + x % 10 ^ n * 10 ^ k
  | 0, f, k, x, o, _ => ⟨f, rfl, o, by rw [Nat.pow_zero, Nat.mod_one, Nat.zero_mul, Nat.add_zero]⟩
  | n + 1, f, k, x, o, hv => by
    have e : x % 10 ^ (n + 1) * 10 ^ k = x % 10 ^ n * 10 ^ k + digit x n * 10 ^ (k + n) := by
      rw [mod_digit, Nat.add_mul, Nat.mul_assoc, ← Nat.pow_add, Nat.add_comm n k]
    unfold addNumber
    by_cases c : digit x n = 0
    · rw [if_pos c]
      rw [c, Nat.zero_mul] at e
      obtain ⟨g, gg, og, vg⟩ := addNumber_goes n f k x o (by omega)
      exact ⟨g, both_goes rfl gg, og, by omega⟩
    · rw [if_neg c]
      obtain ⟨h, gh, oh, vh⟩ := add_goes rods f (k + n) (digit x n) o (by omega) (digit_le x n) (by unfold rods; omega) (by omega)
      obtain ⟨g, gg, og, vg⟩ := addNumber_goes n h k x oh (by omega)
      exact ⟨g, both_goes gh gg, og, by omega⟩
theorem takeNumber_goes : ∀ (n : Nat) (f : Frame) (k x : Nat), Ok f → x % 10 ^ n * 10 ^ k ≤ valueOf f →
    ∃ g, Goes f (takeNumber n f k x) g ∧ Ok g ∧ valueOf g + x % 10 ^ n * 10 ^ k = valueOf f
  | 0, f, k, x, o, _ => ⟨f, rfl, o, by rw [Nat.pow_zero, Nat.mod_one, Nat.zero_mul, Nat.add_zero]⟩
  | n + 1, f, k, x, o, hv => by
    have e : x % 10 ^ (n + 1) * 10 ^ k = x % 10 ^ n * 10 ^ k + digit x n * 10 ^ (k + n) := by
      rw [mod_digit, Nat.add_mul, Nat.mul_assoc, ← Nat.pow_add, Nat.add_comm n k]
    unfold takeNumber
    by_cases c : digit x n = 0
    · rw [if_pos c]
      rw [c, Nat.zero_mul] at e
      obtain ⟨g, gg, og, vg⟩ := takeNumber_goes n f k x o (by omega)
      exact ⟨g, both_goes rfl gg, og, by omega⟩
    · rw [if_neg c]
      obtain ⟨h, gh, oh, vh⟩ := take_goes rods f (k + n) (digit x n) o (by omega) (digit_le x n) (by unfold rods; omega) (by omega)
      obtain ⟨g, gg, og, vg⟩ := takeNumber_goes n h k x oh (by omega)
      exact ⟨g, both_goes gh gg, og, by omega⟩
end Bead

set_option Elab.async false
namespace Bead
open Kab

/-! ### The digits that are not 0, the highest first -/
def pl : Nat → Nat → List (Nat × Nat)
  | 0, _ => []
  | n + 1, x => if digit x n = 0 then pl n x else (n, digit x n) :: pl n x
theorem pl_zero {n x : Nat} (c : digit x n = 0) : pl (n + 1) x = pl n x := if_pos c
theorem pl_pos {n x : Nat} (c : ¬ digit x n = 0) : pl (n + 1) x = (n, digit x n) :: pl n x := if_neg c
def sumL : List (Nat × Nat) → Nat
  | [] => 0
  | (p, d) :: l => d * 10 ^ p + sumL l
def DigOk (l : List (Nat × Nat)) : Prop := ∀ q ∈ l, 1 ≤ q.2 ∧ q.2 ≤ 9
theorem pl_ok : ∀ (n x : Nat), DigOk (pl n x)
  | 0, _ => fun q h => nomatch h
  | n + 1, x => fun q h => by
    unfold pl at h
    have ih := pl_ok n x
    have dl := digit_le x n
    split at h
    · exact ih q h
    next c =>
      rcases List.mem_cons.mp h with e | e
      · subst e; exact ⟨by dsimp only; omega, dl⟩
      · exact ih q e
theorem pl_len : ∀ (n x : Nat), (pl n x).length ≤ n
  | 0, _ => Nat.le_refl _
  | n + 1, x => by
    have ih := pl_len n x
    unfold pl
    split
    · omega
    · rw [List.length_cons]; omega
theorem pl_place : ∀ (n x : Nat), ∀ q ∈ pl n x, q.1 < n
  | 0, _, q, h => nomatch h
  | n + 1, x, q, h => by
    unfold pl at h
    split at h
    · have := pl_place n x q h; omega
    · rcases List.mem_cons.mp h with e | e
      · subst e; exact Nat.lt_succ_self n
      · have := pl_place n x q e; omega
theorem pl_sum : ∀ (n x : Nat), sumL (pl n x) = x % 10 ^ n
  | 0, x => by rw [Nat.pow_zero, Nat.mod_one]; rfl
  | n + 1, x => by
    have ih := pl_sum n x
    rw [mod_digit]
    unfold pl
    by_cases c : digit x n = 0
    · rw [if_pos c, c, ih, Nat.zero_mul, Nat.add_zero]
    · rw [if_neg c]
      show digit x n * 10 ^ n + sumL (pl n x) = _
      omega
/-- more places than there are digits change nothing -/
theorem digit_zero {x n : Nat} (h : x < 10 ^ n) : digit x n = 0 := by
  unfold digit
  rw [Nat.div_eq_of_lt h]
theorem pl_more {x n : Nat} (h : x < 10 ^ n) : ∀ m, pl (n + m) x = pl n x
  | 0 => rfl
  | m + 1 => by
    have hm : x < 10 ^ (n + m) := Nat.lt_of_lt_of_le h (Nat.pow_le_pow_right (by omega) (by omega))
    exact (pl_zero (digit_zero hm)).trans (pl_more h m)
theorem pl_any {x n m : Nat} (h : x < 10 ^ n) (h2 : x < 10 ^ m) : pl n x = pl m x := by
  rcases Nat.le_total n m with c | c
  · rw [show m = n + (m - n) by omega, pl_more h]
  · rw [show n = m + (n - m) by omega, pl_more h2]

/-! ### A number added by its digits that are not 0 -/
def addList (f : Frame) (k : Nat) : List (Nat × Nat) → List Move
  | [] => []
  | (p, d) :: l => both f (addAt rods f (k + p) d) fun g => addList g k l
def takeList (f : Frame) (k : Nat) : List (Nat × Nat) → List Move
  | [] => []
  | (p, d) :: l => both f (takeAt rods f (k + p) d) fun g => takeList g k l
theorem both_nil (f : Frame) (b : Frame → List Move) : both f [] b = b f := rfl
theorem addNumber_list : ∀ (n : Nat) (f : Frame) (k x : Nat), addNumber n f k x = addList f k (pl n x)
  | 0, _, _, _ => rfl
  | n + 1, f, k, x => by
    unfold addNumber pl
    by_cases c : digit x n = 0
    · rw [if_pos c, if_pos c, both_nil]
      exact addNumber_list n f k x
    · rw [if_neg c, if_neg c]
      show both f _ _ = both f _ _
      congr 1
      funext g
      exact addNumber_list n g k x
theorem takeNumber_list : ∀ (n : Nat) (f : Frame) (k x : Nat), takeNumber n f k x = takeList f k (pl n x)
  | 0, _, _, _ => rfl
  | n + 1, f, k, x => by
    unfold takeNumber pl
    by_cases c : digit x n = 0
    · rw [if_pos c, if_pos c, both_nil]
      exact takeNumber_list n f k x
    · rw [if_neg c, if_neg c]
      show both f _ _ = both f _ _
      congr 1
      funext g
      exact takeNumber_list n g k x

/-! ### Products -/
def inner (f : Frame) (i da : Nat) : List (Nat × Nat) → List Move
  | [] => []
  | (j, db) :: l => both f (addNumber 2 f (i + j) (da * db)) fun g => inner g i da l
def outer (f : Frame) (lb : List (Nat × Nat)) : List (Nat × Nat) → List Move
  | [] => []
  | (i, da) :: l => both f (inner f i da lb) fun g => outer g lb l
theorem addNumber_zero (f : Frame) (k : Nat) : addNumber 2 f k 0 = [] := rfl
theorem rev_range (n : Nat) : (List.range (n + 1)).reverse = n :: (List.range n).reverse := by
  rw [List.range_succ, List.reverse_append]
  rfl
theorem products_append (a b : Nat) : ∀ (l m : List (Nat × Nat)) (f : Frame), products f a b (l ++ m) = both f (products f a b l) fun g => products g a b m
  | [], m, f => rfl
  | (i, j) :: l, m, f => by
    show both f (addNumber 2 f (i + j) (digit a i * digit b j)) (fun g => products g a b (l ++ m)) = both f (both f (addNumber 2 f (i + j) (digit a i * digit b j)) fun g => products g a b l) fun g => products g a b m
    unfold both
    dsimp only
    rw [products_append a b l m]
    unfold both
    rw [after_append, List.append_assoc]
theorem inner_products (a b i : Nat) : ∀ (m : Nat) (f : Frame), products f a b ((List.range m).reverse.map fun j => (i, j)) = inner f i (digit a i) (pl m b)
  | 0, _ => rfl
  | m + 1, f => by
    rw [rev_range]
    show both f (addNumber 2 f (i + m) (digit a i * digit b m)) (fun g => products g a b ((List.range m).reverse.map fun j => (i, j))) = _
    unfold pl
    by_cases c : digit b m = 0
    · rw [if_pos c, c, Nat.mul_zero, addNumber_zero, both_nil]
      exact inner_products a b i m f
    · rw [if_neg c]
      show both f _ _ = both f _ _
      congr 1
      funext g
      exact inner_products a b i m g
theorem inner_zero (i : Nat) : ∀ (l : List (Nat × Nat)) (f : Frame), inner f i 0 l = []
  | [], _ => rfl
  | (j, db) :: l, f => by
    show both f (addNumber 2 f (i + j) (0 * db)) _ = []
    rw [Nat.zero_mul, addNumber_zero, both_nil]
    exact inner_zero i l f
theorem outer_products (a b m : Nat) : ∀ (n : Nat) (f : Frame), products f a b ((List.range n).reverse.flatMap fun i => (List.range m).reverse.map fun j => (i, j)) = outer f (pl m b) (pl n a)
  | 0, _ => rfl
  | n + 1, f => by
    rw [rev_range, List.flatMap_cons, products_append, inner_products]
    by_cases c : digit a n = 0
    · rw [pl_zero c, c, inner_zero, both_nil, outer_products a b m n f]
    · rw [pl_pos c]
      show both f _ _ = both f _ _
      congr 1
      funext g
      exact outer_products a b m n g
theorem length_lt {x : Nat} (h : x < 10 ^ 13) : x < 10 ^ length x := by
  unfold length
  cases e : List.find? (fun k => decide (x < 10 ^ k)) (List.range 13) with
  | none => exact h
  | some k => exact of_decide_eq_true (p := x < 10 ^ k) (List.find?_some (p := fun k => decide (x < 10 ^ k)) e)
theorem timesMoves_is (f : Frame) (a b : Nat) (ha : a < 10 ^ 12) (hb : b < 10 ^ 12) (n m : Nat) (hn : a < 10 ^ n) (hm : b < 10 ^ m) :
    timesMoves f a b = both f (clearing f) fun g => outer g (pl m b) (pl n a) := by
  unfold timesMoves pairs
  congr 1
  funext g
  rw [outer_products, pl_any hn (length_lt (by omega)), pl_any hm (length_lt (by omega))]
theorem inner_goes : ∀ (l : List (Nat × Nat)) (f : Frame) (i da : Nat), Ok f → da ≤ 9 → DigOk l → valueOf f + da * 10 ^ i * sumL l < 10 ^ 12 →
    ∃ g, Goes f (inner f i da l) g ∧ Ok g ∧ valueOf g = valueOf f + da * 10 ^ i * sumL l
  | [], f, i, da, o, _, _, _ => ⟨f, rfl, o, rfl⟩
  | (j, db) :: l, f, i, da, o, h9, hd, hv => by
    have hdb := hd (j, db) (List.mem_cons_self ..)
    have e : da * 10 ^ i * sumL ((j, db) :: l) = da * db * 10 ^ (i + j) + da * 10 ^ i * sumL l := by
      show da * 10 ^ i * (db * 10 ^ j + sumL l) = _
      rw [Nat.mul_add, Nat.pow_add, Nat.mul_mul_mul_comm]
    have le : da * db ≤ 9 * 9 := Nat.mul_le_mul h9 hdb.2
    have em : da * db % 10 ^ 2 = da * db := Nat.mod_eq_of_lt (by omega)
    obtain ⟨h, gh, oh, vh⟩ := addNumber_goes 2 f (i + j) (da * db) o (by rw [em]; omega)
    rw [em] at vh
    obtain ⟨g, gg, og, vg⟩ := inner_goes l h i da oh h9 (fun q m => hd q (List.mem_cons_of_mem _ m)) (by omega)
    exact ⟨g, both_goes gh gg, og, by omega⟩
theorem outer_goes (lb : List (Nat × Nat)) (hb : DigOk lb) : ∀ (l : List (Nat × Nat)) (f : Frame), Ok f → DigOk l → valueOf f + sumL l * sumL lb < 10 ^ 12 →
    ∃ g, Goes f (outer f lb l) g ∧ Ok g ∧ valueOf g = valueOf f + sumL l * sumL lb
  | [], f, o, _, _ => ⟨f, rfl, o, by show valueOf f = valueOf f + 0 * sumL lb; omega⟩
  | (i, da) :: l, f, o, hd, hv => by
    have hda := hd (i, da) (List.mem_cons_self ..)
    have e : sumL ((i, da) :: l) * sumL lb = da * 10 ^ i * sumL lb + sumL l * sumL lb := by
      show (da * 10 ^ i + sumL l) * sumL lb = _
      rw [Nat.add_mul]
    obtain ⟨h, gh, oh, vh⟩ := inner_goes lb f i da o hda.2 hb (by omega)
    obtain ⟨g, gg, og, vg⟩ := outer_goes lb hb l h oh (fun q m => hd q (List.mem_cons_of_mem _ m)) (by omega)
    exact ⟨g, both_goes gh gg, og, by omega⟩

/-! ### Cleared -/
def clr (f : Frame) (k : Nat) : List Move := (if (rod f k).five = 1 then [⟨k, 3, 1⟩] else []) ++ lower k 1 (rod f k).ones
/-- of the rods from the highest on so many cleared -/
def clrN (f : Frame) : Nat → List Move
  | 0 => []
  | n + 1 => clrN f n ++ clr f (11 - n)
theorem clearing_is (f : Frame) : clearing f = clrN f 12 := by
  have h : ∀ n, (List.range n).flatMap (fun j => clr f (11 - j)) = clrN f n := fun n => by
    induction n with
    | zero => rfl
    | succ n ih => rw [List.range_succ, List.flatMap_append, ih]; show _ ++ (clr f (11 - n) ++ []) = _; rw [List.append_nil]; rfl
  exact h 12
theorem clr_goes {f : Frame} {k : Nat} (o : Ok f) (hk : k < 12) : Goes f (clr f k) (f.set k ⟨0, 0⟩) := by
  have hl : k < f.length := by rw [o.len]; exact hk
  obtain ⟨r1, r2⟩ := o.rods k
  have same : rod f k = ⟨0, 0⟩ → f.set k ⟨0, 0⟩ = f := fun e => by
    rw [← e]
    unfold rod
    rw [List.getD_eq_getElem?_getD, List.getElem?_eq_getElem hl]
    exact List.set_getElem_self hl
  unfold clr lower
  by_cases c : (rod f k).five = 1
  · rw [if_pos c]
    have m3 := made3 hk c
    have e := rod_set_eq (r := ⟨0, (rod f k).ones⟩) hl
    by_cases c2 : (rod f k).ones = 0
    · rw [if_pos c2]
      rw [c2] at m3
      exact .one m3
    · rw [if_neg c2]
      have m1 := made1 (f := f.set k ⟨0, (rod f k).ones⟩) (k := k) (n := (rod f k).ones) hk (by omega) (by rw [e]; exact Nat.le_refl _)
      rw [e, List.set_set, Nat.sub_self] at m1
      exact ⟨_, m3, .one m1⟩
  · rw [if_neg c]
    have c0 : (rod f k).five = 0 := by omega
    by_cases c2 : (rod f k).ones = 0
    · rw [if_pos c2]
      show f = _
      rw [same]
      cases h : rod f k with
      | mk x y => rw [h] at c0 c2; dsimp only at c0 c2; rw [c0, c2]
    · rw [if_neg c2]
      have m1 := made1 (f := f) (k := k) (n := (rod f k).ones) hk (by omega) (Nat.le_refl _)
      rw [Nat.sub_self, c0] at m1
      exact .one m1
/-- the frame with the highest n rods cleared -/
def clrF (f : Frame) : Nat → Frame
  | 0 => f
  | n + 1 => (clrF f n).set (11 - n) ⟨0, 0⟩
theorem clrF_low (f : Frame) : ∀ (n k : Nat), n ≤ 12 → k < 12 - n → rod (clrF f n) k = rod f k
  | 0, _, _, _ => rfl
  | n + 1, k, hn, h => by
    show rod ((clrF f n).set (11 - n) ⟨0, 0⟩) k = _
    rw [rod_set_ne (by omega)]
    exact clrF_low f n k (by omega) (by omega)
theorem clrF_high (f : Frame) (o : f.length = 12) : ∀ (n k : Nat), n ≤ 12 → 12 - n ≤ k → k < 12 → rod (clrF f n) k = ⟨0, 0⟩
  | 0, _, _, h, h2 => by omega
  | n + 1, k, hn, h, h2 => by
    have hl : (clrF f n).length = 12 := by
      have : ∀ m, (clrF f m).length = f.length := fun m => by
        induction m with
        | zero => rfl
        | succ m ih => show ((clrF f m).set _ _).length = _; rw [List.length_set, ih]
      rw [this, o]
    show rod ((clrF f n).set (11 - n) ⟨0, 0⟩) k = _
    by_cases c : k = 11 - n
    · rw [c, rod_set_eq (by omega)]
    · rw [rod_set_ne c]
      exact clrF_high f o n k (by omega) (by omega) h2
theorem clrF_ok {f : Frame} (o : Ok f) : ∀ n, Ok (clrF f n)
  | 0 => o
  | n + 1 => (clrF_ok o n).set ⟨Nat.zero_le _, Nat.zero_le _⟩
theorem clr_same {f g : Frame} {k : Nat} (h : rod g k = rod f k) : clr g k = clr f k := by
  unfold clr
  rw [h]
theorem clrN_goes {f : Frame} (o : Ok f) : ∀ n, n ≤ 12 → Goes f (clrN f n) (clrF f n)
  | 0, _ => rfl
  | n + 1, h => by
    have ih := clrN_goes o n (by omega)
    refine ih.append ?_
    rw [← clr_same (clrF_low f n (11 - n) (by omega) (by omega))]
    exact clr_goes (clrF_ok o n) (by omega)
theorem frame_ext {f g : Frame} (hf : f.length = 12) (hg : g.length = 12) (h : ∀ k, k < 12 → rod f k = rod g k) : f = g := by
  apply List.ext_getElem (by omega)
  intro k h1 h2
  have q := h k (by omega)
  unfold rod at q
  rw [List.getD_eq_getElem?_getD, List.getD_eq_getElem?_getD, List.getElem?_eq_getElem h1, List.getElem?_eq_getElem h2] at q
  exact q
theorem rod_clear (k : Nat) : rod clear k = ⟨0, 0⟩ := by
  unfold rod clear
  rw [List.getD_eq_getElem?_getD, List.getElem?_replicate]
  by_cases c : k < rods
  · rw [if_pos c]; rfl
  · rw [if_neg c]; rfl
theorem clearing_goes {f : Frame} (o : Ok f) : Goes f (clearing f) clear := by
  rw [clearing_is]
  have q := clrN_goes o 12 (Nat.le_refl _)
  have e : clrF f 12 = clear := frame_ext (clrF_ok o 12).len ok_clear.len fun k hk => by
    rw [clrF_high f o.len 12 k (Nat.le_refl _) (by omega) hk, rod_clear]
  rw [e] at q
  exact q
theorem value_clear : valueOf clear = 0 := rfl

/-! ### Dividing -/
theorem dividing_goes (b : Nat) (hb : 0 < b) : ∀ (n : Nat) (f : Frame) (q : Nat), Ok f → ∃ g, Goes f (dividing b n f q).1 g ∧ Ok g
  | 0, f, _, o => ⟨f, rfl, o⟩
  | n + 1, f, q, o => by
    have pos : 0 < 10 ^ n := Nat.pow_pos (by omega)
    have hlt := o.lt
    have h1 : valueOf f / (b * 10 ^ n) * b * 10 ^ n ≤ valueOf f := by
      rw [Nat.mul_assoc]
      exact Nat.div_mul_le_self _ _
    have h2 : valueOf f / (b * 10 ^ n) * b ≤ valueOf f / (b * 10 ^ n) * b * 10 ^ n := Nat.le_mul_of_pos_right _ pos
    have em : valueOf f / (b * 10 ^ n) * b % 10 ^ length (valueOf f / (b * 10 ^ n) * b) = valueOf f / (b * 10 ^ n) * b := Nat.mod_eq_of_lt (length_lt (by omega))
    obtain ⟨h, gh, oh, vh⟩ := takeNumber_goes (length (valueOf f / (b * 10 ^ n) * b)) f n (valueOf f / (b * 10 ^ n) * b) o (by rw [em]; exact h1)
    obtain ⟨g, gg, og⟩ := dividing_goes b hb n h (10 * q + valueOf f / (b * 10 ^ n)) oh
    refine ⟨g, ?_, og⟩
    show Goes f (takeNumber (length (valueOf f / (b * 10 ^ n) * b)) f n (valueOf f / (b * 10 ^ n) * b) ++ (dividing b n (after f (takeNumber (length (valueOf f / (b * 10 ^ n) * b)) f n (valueOf f / (b * 10 ^ n) * b))) (10 * q + valueOf f / (b * 10 ^ n))).1) g
    rw [gh.after]
    exact gh.append gg
end Bead

set_option Elab.async false
namespace Bead
open Kab

/-! ### The list of calls, read call by call -/
theorem whole_id (c : List (List Int)) : PyKab.whole c = c := by
  unfold PyKab.whole
  split <;> rfl
theorem whole_map (cs : List (List (List Int))) : cs.map PyKab.whole = cs := by
  induction cs with
  | nil => rfl
  | cons c r ih => rw [List.map_cons, whole_id, ih]
theorem answers_is {l : List Int} {cs : List (List (List Int))} (h : PyFlat.calls PyKab.shape l.length l = some cs) :
    PyKab.answers l = PyFlat.told (PyFlat.played KabNeutral.step KabNeutral.start cs) := by
  unfold PyKab.answers PyKab.calls
  rw [h]
  dsimp only
  rw [whole_map]
structure Rest (s : KabNeutral.S) (rest : List Int) (cs : List (List (List Int))) : Prop where
  calls : ∃ n, PyFlat.calls PyKab.shape n rest = some cs
  each : ∀ c ∈ cs, KabNeutral.asked1 c = true
  may : KabNeutral.may s cs = true
theorem asked_rest {l : List Int} (h : PyKab.answers_asked l = true) : ∃ cs, Rest KabNeutral.start l cs ∧
    PyKab.answers l = PyFlat.told (PyFlat.played KabNeutral.step KabNeutral.start cs) ∧ (PyKab.answers l).length ≤ 10000000 := by
  unfold PyKab.answers_asked at h
  cases e : PyFlat.calls PyKab.shape l.length l with
  | none => rw [e] at h; cases h
  | some cs =>
    rw [e] at h
    dsimp only at h
    rw [whole_map] at h
    simp only [Bool.and_eq_true] at h
    obtain ⟨⟨⟨⟨_, _⟩, _⟩, ha⟩, hs⟩ := h
    unfold KabNeutral.asked at ha
    simp only [Bool.and_eq_true] at ha
    obtain ⟨⟨_, h1⟩, h2⟩ := ha
    exact ⟨cs, ⟨⟨_, e⟩, fun c m => List.all_eq_true.mp h1 c m, h2⟩, answers_is e, of_decide_eq_true hs⟩
/-- nothing is left: no call is left -/
theorem Rest.nil {s : KabNeutral.S} {cs : List (List (List Int))} (h : Rest s [] cs) : cs = [] := by
  obtain ⟨n, e⟩ := h.calls
  cases n <;> (cases e; rfl)
theorem shape_rows {p : Int} {n k : Nat} (h : PyKab.shape p = some (n, k)) : k = 0 := by
  unfold PyKab.shape at h
  repeat (split at h; (cases h; rfl))
  cases h
/-- one call more -/
theorem Rest.cons {s : KabNeutral.S} {p : Int} {r : List Int} {cs : List (List (List Int))} (h : Rest s (p :: r) cs) :
    ∃ n cs', PyKab.shape p = some (n, 0) ∧ n ≤ r.length ∧ cs = [p :: r.take n] :: cs' ∧ KabNeutral.asked1 [p :: r.take n] = true ∧
      (KabNeutral.step s [p :: r.take n]).2 ≠ [] ∧ Rest (KabNeutral.step s [p :: r.take n]).1 (r.drop n) cs' := by
  obtain ⟨m, e⟩ := h.calls
  cases m with
  | zero => cases e
  | succ m =>
    unfold PyFlat.calls PyFlat.call at e
    dsimp only at e
    cases e1 : PyKab.shape p with
    | none => rw [e1] at e; cases e
    | some nk =>
      obtain ⟨n, k⟩ := nk
      have k0 := shape_rows e1
      subst k0
      rw [e1] at e
      dsimp only at e
      by_cases c : r.length < n
      · rw [if_pos c] at e; cases e
      · rw [if_neg c] at e
        unfold PyFlat.rows at e
        dsimp only at e
        cases e2 : PyFlat.calls PyKab.shape m (r.drop n) with
        | none => rw [e2] at e; cases e
        | some cs' =>
          rw [e2] at e
          have e3 : cs = [p :: r.take n] :: cs' := (Option.some.inj e).symm
          subst e3
          have hm := h.may
          unfold KabNeutral.may at hm
          rw [Bool.and_eq_true] at hm
          refine ⟨n, cs', rfl, by omega, rfl, h.each _ (List.mem_cons_self ..), fun z => ?_, ⟨⟨m, e2⟩, fun c hc => h.each c (List.mem_cons_of_mem _ hc), hm.2⟩⟩
          rw [z] at hm
          exact Bool.noConfusion hm.1
theorem told_cons (a : List Int) (l : List (List Int)) : PyFlat.told (a :: l) = (a.length : Int) :: (a ++ PyFlat.told l) := rfl
/-- the kinds of calls, each with its numbers -/
inductive Kind : Int → Nat → Prop where
  | start : Kind 0 0
  | set : Kind 1 1
  | add : Kind 2 1
  | take : Kind 3 1
  | times : Kind 4 2
  | over : Kind 5 1
  | move : Kind 6 3
  | value : Kind 7 0
  | rod : Kind 8 1
theorem kind_of {p : Int} {n : Nat} (h : PyKab.shape p = some (n, 0)) : Kind p n := by
  unfold PyKab.shape at h
  repeat' (split at h)
  all_goals first
    | (cases h; done)
    | (next c => cases c; cases h; constructor)
    | (subst_vars; cases h; constructor)
theorem nat_of {z : Int} (h : KabNeutral.natural z 64 = true) : ∃ n : Nat, z = n ∧ n < 2 ^ 64 := by
  unfold KabNeutral.natural at h
  rw [Bool.and_eq_true] at h
  have h1 : 0 ≤ z := of_decide_eq_true h.1
  have h2 : z < 2 ^ 64 := of_decide_eq_true h.2
  exact ⟨z.toNat, by omega, by omega⟩
theorem nat32_of {z : Int} (h : KabNeutral.natural z 32 = true) : ∃ n : Nat, z = n ∧ n < 2 ^ 32 := by
  unfold KabNeutral.natural at h
  rw [Bool.and_eq_true] at h
  have h1 : 0 ≤ z := of_decide_eq_true h.1
  have h2 : z < 2 ^ 32 := of_decide_eq_true h.2
  exact ⟨z.toNat, by omega, by omega⟩
theorem take1 {r : List Int} (h : 1 ≤ r.length) : ∃ a, r.take 1 = [a] := match r, h with
  | a :: _, _ => ⟨a, rfl⟩
theorem take2 {r : List Int} (h : 2 ≤ r.length) : ∃ a b, r.take 2 = [a, b] := match r, h with
  | a :: b :: _, _ => ⟨a, b, rfl⟩
theorem take3 {r : List Int} (h : 3 ≤ r.length) : ∃ a b c, r.take 3 = [a, b, c] := match r, h with
  | a :: b :: c :: _, _ => ⟨a, b, c, rfl⟩
end Bead

set_option Elab.async false
namespace Bead
open Kab

/-! ### The forms of a digit's moves -/
theorem lower_pos {k j n : Nat} (h : n ≠ 0) : lower k j n = [⟨k, j, n⟩] := if_neg h
theorem lower_zero {k j n : Nat} (h : n = 0) : lower k j n = [] := if_pos h
theorem putOn_hi {f : Frame} {k d : Nat} (h : 5 ≤ d) : putOn f k d = ⟨k, 2, 1⟩ :: lower k 0 (d - 5) := by
  unfold putOn
  exact if_neg (by omega)
theorem putOn_lo {f : Frame} {k d : Nat} (h : d < 5) (h2 : (rod f k).ones + d ≤ 4) : putOn f k d = lower k 0 d := by
  unfold putOn
  exact (if_pos h).trans (if_pos h2)
theorem putOn_five {f : Frame} {k d : Nat} (h : d < 5) (h2 : ¬ (rod f k).ones + d ≤ 4) : putOn f k d = ⟨k, 2, 1⟩ :: lower k 1 (5 - d) := by
  unfold putOn
  exact (if_pos h).trans (if_neg h2)
theorem takeOff_hi {f : Frame} {k d : Nat} (h : 5 ≤ d) : takeOff f k d = ⟨k, 3, 1⟩ :: lower k 1 (d - 5) := by
  unfold takeOff
  exact if_neg (by omega)
theorem takeOff_lo {f : Frame} {k d : Nat} (h : d < 5) (h2 : d ≤ (rod f k).ones) : takeOff f k d = lower k 1 d := by
  unfold takeOff
  exact (if_pos h).trans (if_pos h2)
theorem takeOff_five {f : Frame} {k d : Nat} (h : d < 5) (h2 : ¬ d ≤ (rod f k).ones) : takeOff f k d = ⟨k, 3, 1⟩ :: lower k 0 (5 - d) := by
  unfold takeOff
  exact (if_pos h).trans (if_neg h2)
theorem addAt_put {n : Nat} {f : Frame} {k d : Nat} (h : worth (rod f k) + d ≤ 9) : addAt (n + 1) f k d = putOn f k d := by
  unfold addAt
  exact if_pos h
theorem addAt_carry {n : Nat} {f : Frame} {k d : Nat} (h : ¬ worth (rod f k) + d ≤ 9) : addAt (n + 1) f k d = takeOff f k (10 - d) ++ addAt n (after f (takeOff f k (10 - d))) (k + 1) 1 := by
  conv => lhs; unfold addAt
  exact if_neg h
theorem takeAt_off {n : Nat} {f : Frame} {k d : Nat} (h : d ≤ worth (rod f k)) : takeAt (n + 1) f k d = takeOff f k d := by
  unfold takeAt
  exact if_pos h
theorem takeAt_borrow {n : Nat} {f : Frame} {k d : Nat} (h : ¬ d ≤ worth (rod f k)) : takeAt (n + 1) f k d = takeAt n f (k + 1) 1 ++ putOn (after f (takeAt n f (k + 1) 1)) k (10 - d) := by
  conv => lhs; unfold takeAt
  exact if_neg h
/-- a place that is asked of is there -/
theorem place_lt {k d v : Nat} (h1 : 1 ≤ d) (h : d * 10 ^ k ≤ v) (hv : v < 10 ^ 12) : k < 12 := by
  apply Nat.lt_of_not_le
  intro c
  have q : 10 ^ 12 ≤ 10 ^ k := Nat.pow_le_pow_right (by omega) c
  have q2 : 1 * 10 ^ k ≤ d * 10 ^ k := Nat.mul_le_mul_right _ h1
  omega
theorem put_after {f : Frame} {k d : Nat} (o : Ok f) (hk : k < 12) (h1 : 1 ≤ d) (h9 : worth (rod f k) + d ≤ 9) :
    Ok (after f (putOn f k d)) ∧ valueOf (after f (putOn f k d)) = valueOf f + d * 10 ^ k := by
  obtain ⟨g, gg, og, vg⟩ := put_goes o hk h1 h9
  rw [gg.after]
  exact ⟨og, vg⟩
theorem off_after {f : Frame} {k d : Nat} (o : Ok f) (hk : k < 12) (h1 : 1 ≤ d) (h9 : d ≤ worth (rod f k)) :
    Ok (after f (takeOff f k d)) ∧ valueOf (after f (takeOff f k d)) + d * 10 ^ k = valueOf f := by
  obtain ⟨g, gg, og, vg⟩ := off_goes o hk h1 h9
  rw [gg.after]
  exact ⟨og, vg⟩
theorem add_after {n : Nat} {f : Frame} {k d : Nat} (o : Ok f) (h1 : 1 ≤ d) (h9 : d ≤ 9) (hn : 12 ≤ k + n) (hv : valueOf f + d * 10 ^ k < 10 ^ 12) :
    Ok (after f (addAt n f k d)) ∧ valueOf (after f (addAt n f k d)) = valueOf f + d * 10 ^ k := by
  obtain ⟨g, gg, og, vg⟩ := add_goes n f k d o h1 h9 hn hv
  rw [gg.after]
  exact ⟨og, vg⟩
theorem take_after {n : Nat} {f : Frame} {k d : Nat} (o : Ok f) (h1 : 1 ≤ d) (h9 : d ≤ 9) (hn : 12 ≤ k + n) (hv : d * 10 ^ k ≤ valueOf f) :
    Ok (after f (takeAt n f k d)) ∧ valueOf (after f (takeAt n f k d)) + d * 10 ^ k = valueOf f := by
  obtain ⟨g, gg, og, vg⟩ := take_goes n f k d o h1 h9 hn hv
  rw [gg.after]
  exact ⟨og, vg⟩
/-- what a rod that is borrowed from the next shows before and after -/
theorem borrow_room {n : Nat} {f : Frame} {k d : Nat} (o : Ok f) (h1 : 1 ≤ d) (h9 : d ≤ 9) (hn : 12 ≤ k + 1 + n) (hv : d * 10 ^ k ≤ valueOf f) (hd : ¬ d ≤ worth (rod f k)) :
    1 * 10 ^ (k + 1) ≤ valueOf f ∧ worth (rod (after f (takeAt n f (k + 1) 1)) k) + (10 - d) ≤ 9 := by
  have pos : 0 < 10 ^ k := Nat.pow_pos (by omega)
  have e10 : 10 ^ (k + 1) = 10 * 10 ^ k := by rw [Nat.pow_succ, Nat.mul_comm]
  have dg := o.digit k
  have q : d ≤ valueOf f / 10 ^ k := (Nat.le_div_iff_mul_le pos).mpr hv
  have q10 : 10 ≤ valueOf f / 10 ^ k := by omega
  have hv10 : 10 * 10 ^ k ≤ valueOf f := (Nat.le_div_iff_mul_le pos).mp q10
  have hb : 1 * 10 ^ (k + 1) ≤ valueOf f := by omega
  obtain ⟨og, vg⟩ := take_after (n := n) o (Nat.le_refl 1) (by omega) hn hb
  have dg2 := og.digit k
  have vd : valueOf f / 10 ^ k = valueOf (after f (takeAt n f (k + 1) 1)) / 10 ^ k + 10 := by
    rw [show valueOf f = valueOf (after f (takeAt n f (k + 1) 1)) + 10 * 10 ^ k by omega, Nat.add_mul_div_right _ _ pos]
  exact ⟨hb, by omega⟩
theorem addNumber_after {n : Nat} {f : Frame} {k x : Nat} (o : Ok f) (hx : x < 10 ^ n) (hv : valueOf f + x * 10 ^ k < 10 ^ 12) :
    Ok (after f (addNumber n f k x)) ∧ valueOf (after f (addNumber n f k x)) = valueOf f + x * 10 ^ k := by
  have em : x % 10 ^ n = x := Nat.mod_eq_of_lt hx
  obtain ⟨g, gg, og, vg⟩ := addNumber_goes n f k x o (by rw [em]; exact hv)
  rw [gg.after, ← em]
  rw [em] at vg ⊢
  exact ⟨og, vg⟩
theorem takeNumber_after {n : Nat} {f : Frame} {k x : Nat} (o : Ok f) (hx : x < 10 ^ n) (hv : x * 10 ^ k ≤ valueOf f) :
    Ok (after f (takeNumber n f k x)) ∧ valueOf (after f (takeNumber n f k x)) + x * 10 ^ k = valueOf f := by
  have em : x % 10 ^ n = x := Nat.mod_eq_of_lt hx
  obtain ⟨g, gg, og, vg⟩ := takeNumber_goes n f k x o (by rw [em]; exact hv)
  rw [gg.after]
  rw [em] at vg
  exact ⟨og, vg⟩
theorem inner_after {l : List (Nat × Nat)} {f : Frame} {i da : Nat} (o : Ok f) (h9 : da ≤ 9) (hd : DigOk l) (hv : valueOf f + da * 10 ^ i * sumL l < 10 ^ 12) :
    Ok (after f (inner f i da l)) ∧ valueOf (after f (inner f i da l)) = valueOf f + da * 10 ^ i * sumL l := by
  obtain ⟨g, gg, og, vg⟩ := inner_goes l f i da o h9 hd hv
  rw [gg.after]
  exact ⟨og, vg⟩
theorem outer_after {lb l : List (Nat × Nat)} {f : Frame} (hb : DigOk lb) (o : Ok f) (hd : DigOk l) (hv : valueOf f + sumL l * sumL lb < 10 ^ 12) :
    Ok (after f (outer f lb l)) ∧ valueOf (after f (outer f lb l)) = valueOf f + sumL l * sumL lb := by
  obtain ⟨g, gg, og, vg⟩ := outer_goes lb hb l f o hd hv
  rw [gg.after]
  exact ⟨og, vg⟩
theorem after_both (f : Frame) (a : List Move) (b : Frame → List Move) : after f (both f a b) = after (after f a) (b (after f a)) := after_append f a _
end Bead

set_option Elab.async false
set_option maxRecDepth 100000
set_option maxHeartbeats 2000000
/-! ### Rules that the layer lacks -/
namespace Bead
open PySem PySem.Spec PyProof.Rows L2
/-- the item at a place (counted from the front) of a list, read ahead of a store back into it -/
def rAtN (K : PySem.W.Frag) : V → V → Hp → VK → Prop := fun x y H Q => ∃ (p : Addr) (xs : List V) (k : Nat) (v : V), x = .ref p ∧ y = .int (k : Nat) ∧ SqL K H p xs ∧ xs[k]? = some v ∧ Q v H
theorem get_list {X : Cx} : PGet X (rAtN X.K) := by
  intro pins s0 sl H0 ob ix obv ixv Q inv rel1 rel2 ask
  rcases ask with ⟨p, xs, k, z, rfl, rfl, isl, at_k, fin⟩
  cases rel1
  rcases rel2 with ⟨tk, rfl⟩
  rcases inv.list isl with ⟨its, vals, pl, small⟩
  rcases vals.get at_k with ⟨val, at_val, rel⟩
  have kl : k < its.length := (List.getElem?_eq_some_iff.mp at_val).1
  have same_len := vals.length
  have big := line63
  refine wpAny_getItem_list pl.isList (by omega) (by omega) ?_ ⟨z, H0, inv, rel, fin⟩
  show its.toArray[((k : Nat) : Int).toNat]? = some val
  rw [Int.toNat_natCast, List.getElem?_toArray]
  exact at_val

theorem if_true_of {c : Bool} {A B : Prop} (hc : c = true) (h : A) : if c = true then A else B := by
  rw [if_pos hc]
  exact h
theorem if_false_of {c : Bool} {A B : Prop} (hc : c = false) (h : B) : if c = true then A else B := by
  rw [hc, if_neg Bool.false_ne_true]
  exact h
theorem lk_here {k : Str} {v : V} {r : List (Str × V)} : List.lookup k ((k, v) :: r) = some v := by
  have e : (k == k) = true := beq_self_eq_true k
  simp only [List.lookup, e]
theorem lk_past {k g : Str} {v : V} {r : List (Str × V)} (h : (k == g) = false) : List.lookup k ((g, v) :: r) = List.lookup k r := by
  simp only [List.lookup, h]
theorem put_here {f : Str} {v x : V} {r : List (Str × V)} : putF f v ((f, x) :: r) = (f, v) :: r := if_pos rfl
theorem put_past {f g : Str} {v x : V} {r : List (Str × V)} (h : ¬ g = f) : putF f v ((g, x) :: r) = (g, x) :: putF f v r := if_neg h

/-! ### The heap: how a frame lies in it -/
def rodsU (f : Kab.Frame) : List V := f.map fun r => V.int (r.five : Nat)
def rodsL (f : Kab.Frame) : List V := f.map fun r => V.int (r.ones : Nat)
def mvV (m : Kab.Move) : List V := [.int (m.rod : Nat), .int (m.kind : Nat), .int (m.beads : Nat)]
def bF (u l t : Addr) : List (Str × V) := [("uppers_down", .ref u), ("lowers_up", .ref l), ("told", .ref t)]
theorem bF_u (u l t : Addr) : (bF u l t).lookup ("uppers_down" : Str) = some (.ref u) := lk_here
theorem bF_l (u l t : Addr) : (bF u l t).lookup ("lowers_up" : Str) = some (.ref l) := (lk_past (by decide +kernel)).trans lk_here
theorem bF_t (u l t : Addr) : (bF u l t).lookup ("told" : Str) = some (.ref t) := (lk_past (by decide +kernel)).trans ((lk_past (by decide +kernel)).trans lk_here)
theorem bF_no {x : Str} (h1 : (x == ("uppers_down" : Str)) = false) (h2 : (x == ("lowers_up" : Str)) = false) (h3 : (x == ("told" : Str)) = false) (u l t : Addr) : (bF u l t).lookup x = none :=
  (lk_past h1).trans ((lk_past h2).trans ((lk_past h3).trans rfl))
theorem bF_putT (u l t t' : Addr) : putF "told" (.ref t') (bF u l t) = bF u l t' := (put_past (by decide +kernel)).trans (congrArg _ ((put_past (by decide +kernel)).trans (congrArg _ put_here)))

/-- at qs stand the tuples of the moves ms -/
def Told (H : Hp) : List Addr → List Kab.Move → Prop
  | [], [] => True
  | q :: qs, m :: ms => H q = some (.tup (mvV m)) ∧ Told H qs ms
  | _, _ => False
theorem Told.mono {H H' : Hp} (k : ∀ q xs, H q = some (.tup xs) → H' q = some (.tup xs)) : ∀ {qs : List Addr} {ms : List Kab.Move}, Told H qs ms → Told H' qs ms
  | [], [], _ => trivial
  | _ :: _, _ :: _, h => ⟨k _ _ h.1, h.2.mono k⟩
  | [], _ :: _, h => h.elim
  | _ :: _, [], h => h.elim
theorem Told.len {H : Hp} : ∀ {qs : List Addr} {ms : List Kab.Move}, Told H qs ms → qs.length = ms.length
  | [], [], _ => rfl
  | _ :: _, _ :: _, h => congrArg (· + 1) h.2.len
  | [], _ :: _, h => h.elim
  | _ :: _, [], h => h.elim
theorem Told.snoc {H : Hp} {q : Addr} {m : Kab.Move} (hq : H q = some (.tup (mvV m))) : ∀ {qs : List Addr} {ms : List Kab.Move}, Told H qs ms → Told H (qs ++ [q]) (ms ++ [m])
  | [], [], _ => ⟨hq, trivial⟩
  | _ :: _, _ :: _, h => ⟨h.1, h.2.snoc hq⟩
  | [], _ :: _, h => h.elim
  | _ :: _, [], h => h.elim
theorem Told.at_ {H : Hp} : ∀ {qs : List Addr} {ms : List Kab.Move} {i : Nat} {q : Addr}, Told H qs ms → qs[i]? = some q → ∃ m, ms[i]? = some m ∧ H q = some (.tup (mvV m))
  | [], [], i, q, _, h => by simp at h
  | _ :: _, m :: _, 0, q, h, e => by
    have e : _ = q := Option.some.inj e
    subst e
    exact ⟨m, rfl, h.1⟩
  | _ :: _, _ :: _, i + 1, q, h, e => h.2.at_ (i := i) e
  | [], _ :: _, _, _, h, _ => h.elim
  | _ :: _, [], _, _, h, _ => h.elim

structure FrAt (C : Addr) (H : Hp) (a u l t : Addr) (f : Kab.Frame) (ms : List Kab.Move) : Prop where
  ins : ∃ dx, H a = some (.ins C dx (bF u l t))
  up : H u = some (.lst (rodsU f))
  lo : H l = some (.lst (rodsL f))
  te : ∃ qs : List Addr, H t = some (.lst (qs.map V.ref)) ∧ Told H qs ms
  ul : u ≠ l
  ut : u ≠ t
  lt : l ≠ t
/-- all but three objects stands as it was -/
def Kept (H H' : Hp) (u l t : Addr) : Prop := ∀ b o, H b = some o → b ≠ u → b ≠ l → b ≠ t → H' b = some o
theorem Kept.refl (H : Hp) (u l t : Addr) : Kept H H u l t := fun _ _ h _ _ _ => h
theorem Kept.trans {H H1 H2 : Hp} {u l t : Addr} (a : Kept H H1 u l t) (b : Kept H1 H2 u l t) : Kept H H2 u l t := fun c o h h1 h2 h3 => b c o (a c o h h1 h2 h3) h1 h2 h3

/-- so many moves at most -/
def most : Nat := 8000000

section
variable {C : Addr} {H H' : Hp} {a u l t : Addr} {f g : Kab.Frame} {ms : List Kab.Move} {k : Nat}
theorem FrAt.no {b : Addr} {o : HO} (_F : FrAt C H a u l t f ms) (h : H b = some o) (n1 : ∀ xs, o ≠ .lst xs) : b ≠ u ∧ b ≠ l ∧ b ≠ t := by
  obtain ⟨_, up, lo, ⟨qs, te, _⟩, _⟩ := _F
  exact ⟨ne_of h up (n1 _), ne_of h lo (n1 _), ne_of h te (n1 _)⟩
theorem FrAt.new {b : Addr} (F : FrAt C H a u l t f ms) (h : H b = none) : b ≠ a ∧ b ≠ u ∧ b ≠ l ∧ b ≠ t := by
  obtain ⟨⟨_, ins⟩, up, lo, ⟨qs, te, _⟩, _⟩ := F
  exact ⟨(ne_of_none ins h).symm, (ne_of_none up h).symm, (ne_of_none lo h).symm, (ne_of_none te h).symm⟩
/-- a frame where other things have changed -/
theorem FrAt.keep (F : FrAt C H a u l t f ms) (k : ∀ b o, H b = some o → (b = a ∨ b = u ∨ b = l ∨ b = t ∨ ∃ xs, o = .tup xs) → H' b = some o) : FrAt C H' a u l t f ms := by
  obtain ⟨⟨dx, ins⟩, up, lo, ⟨qs, te, tl⟩, h1, h2, h3⟩ := F
  exact ⟨⟨dx, k _ _ ins (.inl rfl)⟩, k _ _ up (.inr (.inl rfl)), k _ _ lo (.inr (.inr (.inl rfl))), ⟨qs, k _ _ te (.inr (.inr (.inr (.inl rfl)))), tl.mono fun q xs e => k _ _ e (.inr (.inr (.inr (.inr ⟨xs, rfl⟩))))⟩, h1, h2, h3⟩
theorem get_u (hk : k < f.length) : (rodsU f)[k]? = some (.int ((Kab.rod f k).five : Nat)) := by
  unfold rodsU Kab.rod
  rw [List.getElem?_map, List.getD_eq_getElem?_getD, List.getElem?_eq_getElem hk]
  rfl
theorem get_l (hk : k < f.length) : (rodsL f)[k]? = some (.int ((Kab.rod f k).ones : Nat)) := by
  unfold rodsL Kab.rod
  rw [List.getElem?_map, List.getD_eq_getElem?_getD, List.getElem?_eq_getElem hk]
  rfl
theorem at_u (hk : k < f.length) : atI (rodsU f) (k : Nat) = some (.int ((Kab.rod f k).five : Nat)) := atI_nat (get_u hk)
theorem at_l (hk : k < f.length) : atI (rodsL f) (k : Nat) = some (.int ((Kab.rod f k).ones : Nat)) := atI_nat (get_l hk)
theorem len_u (f : Kab.Frame) : (rodsU f).length = f.length := List.length_map _
theorem len_l (f : Kab.Frame) : (rodsL f).length = f.length := List.length_map _
theorem ixN_nat {n k : Nat} (h : k < n) : ixN n (k : Int) = some k := by
  unfold ixN
  rw [if_pos (by omega), if_pos (by omega)]
  rfl
theorem set_u (r : Kab.Rod) : rodsU (f.set k r) = (rodsU f).set k (.int (r.five : Nat)) := List.map_set
theorem set_l (r : Kab.Rod) : rodsL (f.set k r) = (rodsL f).set k (.int (r.ones : Nat)) := List.map_set
theorem keep_u {r : Kab.Rod} (h : r.five = (Kab.rod f k).five) : rodsU (f.set k r) = rodsU f := by
  rw [set_u, h]
  by_cases c : k < f.length
  · obtain ⟨h1, h2⟩ := List.getElem?_eq_some_iff.mp (get_u c)
    rw [← h2]
    exact List.set_getElem_self h1
  · rw [List.set_eq_of_length_le (by rw [len_u]; omega)]
theorem keep_l {r : Kab.Rod} (h : r.ones = (Kab.rod f k).ones) : rodsL (f.set k r) = rodsL f := by
  rw [set_l, h]
  by_cases c : k < f.length
  · obtain ⟨h1, h2⟩ := List.getElem?_eq_some_iff.mp (get_l c)
    rw [← h2]
    exact List.set_getElem_self h1
  · rw [List.set_eq_of_length_le (by rw [len_l]; omega)]
end

/-! ### Moves that are made -/
theorem made_cases {f g : Kab.Frame} {m : Kab.Move} (h : Kab.made f m = some g) : m.rod < 12 ∧
    ((m.kind = 0 ∧ 1 ≤ m.beads ∧ (Kab.rod f m.rod).ones + m.beads ≤ 4 ∧ g = f.set m.rod ⟨(Kab.rod f m.rod).five, (Kab.rod f m.rod).ones + m.beads⟩) ∨
     (m.kind = 1 ∧ 1 ≤ m.beads ∧ m.beads ≤ (Kab.rod f m.rod).ones ∧ g = f.set m.rod ⟨(Kab.rod f m.rod).five, (Kab.rod f m.rod).ones - m.beads⟩) ∨
     (m.kind = 2 ∧ m.beads = 1 ∧ (Kab.rod f m.rod).five = 0 ∧ g = f.set m.rod ⟨1, (Kab.rod f m.rod).ones⟩) ∨
     (m.kind = 3 ∧ m.beads = 1 ∧ (Kab.rod f m.rod).five = 1 ∧ g = f.set m.rod ⟨0, (Kab.rod f m.rod).ones⟩)) := by
  unfold Kab.made at h
  split at h
  · cases h
  next hk =>
    refine ⟨by unfold Kab.rods at hk; omega, ?_⟩
    split at h
    all_goals first | (cases h; done) | skip
    all_goals
      next hkind =>
        dsimp only at h
        split at h
        · next c =>
          cases h
          first
            | exact .inl ⟨hkind, c.1, c.2, rfl⟩
            | exact .inr (.inl ⟨hkind, c.1, c.2, rfl⟩)
            | exact .inr (.inr (.inl ⟨hkind, c.1, c.2, rfl⟩))
            | exact .inr (.inr (.inr ⟨hkind, c.1, c.2, rfl⟩))
        · cases h
end Bead

set_option Elab.async false
set_option maxRecDepth 100000
set_option maxHeartbeats 2000000
/-! ### xs.extend(t), t a tuple that is tracked -/
namespace Bead
open PySem PySem.Spec PyProof.Rows L2
/-- what is asked: a list at a, any object that is a tuple at b -/
def extAsks (a b : Addr) (xs ys : Array Value) (n : Nat) (ot : Obj) (R : Result → Shared → Prop) (s : Shared) : Prop :=
  s.heap.get? a = some { cls := .type "list", data := .seq xs n } ∧ s.heap.get? b = some ot ∧ R (.ok (.ret .none)) { s with heap := s.heap.update a (Obj.mapSeq (· ++ ys)), toks := s.toks }
theorem extend_tuple (a b : Addr) (xs ys : Array Value) (n m : Nat) (dt : _) (sl : _) (room : xs.size + ys.size ≤ sizeLine) :
    Meets (Builtin.«list.extend» ⟨[.ref a, .ref b], []⟩) (fun _ R s => extAsks a b xs ys n { cls := .type "tuple", dict := dt, data := .seq ys m, slots := sl } R s) := by
  refine .of_wp fun prog w A R s h => ?_
  obtain ⟨hp, g, d, tk, os⟩ := s
  obtain ⟨ha, hb, fin⟩ := h
  have small : xs.size ≤ sizeLine := Nat.le_trans (Nat.le_add_right _ _) room
  have fits : ¬ (!xs.isEmpty && Builtin.List.listTooLong (xs.size + ys.size)) = true := by
    rw [notLongL room, Bool.and_false]
    exact Bool.false_ne_true
  have after_ok : (xs ++ ys).size ≤ sizeLine + 1 := by
    rw [Array.size_append]
    omega
  wp_walk using (wpAny_updateSeq ha rfl (hz := small) (_hz' := after_ok)), PySem.AutoSeq1.wpAny_loadPart' ha, PySem.AutoSeq1.wpAny_loadPart' hb
  exact ⟨_, rfl, fin⟩

/-- xs.extend(t) by values -/
def rExtT (K : PySem.W.Frag) : V → List V → Hp → VK → Prop := fun x vs H Q => ∃ (l b : Addr) (xs zs : List V), x = .ref l ∧ vs = [.ref b] ∧ H l = some (.lst xs) ∧ SqT K H b zs ∧ xs.length + zs.length ≤ sizeLine ∧ Q .non (upd H l (.lst (xs ++ zs)))
theorem mt_extT {X : Cx} : MtM X "list.extend" (rExtT X.K) := by
  intro pins s0 sl H0 recv args rv us Q inv rel1 rels ask
  rcases ask with ⟨l, b, xs, zs, rfl, rfl, isl, ist, room, fin⟩
  cases rel1
  rcases rels.one with ⟨u1, rfl, rel2⟩
  cases rel2
  rcases inv.lstM isl with ⟨_, its, n, vals, ln, at_l⟩
  rcases inv.tuple ist with ⟨its2, vals2, tup, _⟩
  rcases tup with ⟨⟨cl, dt, da, sl2⟩, at_b, hcl, m, hda⟩
  dsimp only at hcl hda
  subst hcl hda
  have len2 := vals2.length
  have room2 : its.toArray.size + its2.toArray.size ≤ sizeLine := by
    rw [List.size_toArray, List.size_toArray]
    omega
  refine call_meets F.slot_list_extend ⟨_, at_l, rfl⟩ F.entry_list_extend (F.args_list_extend_2 _ _) (extend_tuple l b its.toArray its2.toArray n m dt sl2 room2) ⟨at_l, at_b, ?_⟩
  exact ⟨.non, _, inv.lset (its' := its ++ its2) isl at_l (List.append_toArray its its2) (vals.append vals2) (by rw [List.length_append]; exact room), rfl, fin⟩
end Bead

set_option Elab.async false
set_option maxRecDepth 100000
set_option maxHeartbeats 2000000
namespace Bead
open PySem PySem.Spec PyProof.Rows L2
/-! ### The text by places -/
def top (i : Nat) : Stmt := PySem.Challenge.pw_beadframedesk_s01_answers.main.body.getD i (.Pass ⟨0, 0, 0, 0⟩)
abbrev sInit : Stmt := inClass (top 8) 0
abbrev sBegin : Stmt := inClass (top 8) 1
abbrev sMake : Stmt := inClass (top 8) 3
abbrev sCan : Stmt := inClass (top 8) 2
abbrev sDigit : Stmt := inClass (top 8) 4
abbrev sShown : Stmt := inClass (top 8) 5

/-- what the top has written of the class and the constants -/
structure Txt (K : PySem.W.Frag) (mg : Str → Option Value) (C : Addr) : Prop where
  cl : Cls K C
  nU : NoAttr K C "uppers_down"
  nL : NoAttr K C "lowers_up"
  nT : NoAttr K C "told"
  gC : mg "BeadFrame" = some (.ref C)
  rods : ∃ t, mg "RODS" = some (.int 12 t)
  lu : ∃ t, mg "LOWER_UP" = some (.int 0 t)
  ld : ∃ t, mg "LOWER_DOWN" = some (.int 1 t)
  ud : ∃ t, mg "UPPER_DOWN" = some (.int 2 t)
  uu : ∃ t, mg "UPPER_UP" = some (.int 3 t)
  beads : ∃ t, mg "LOWER_BEADS" = some (.int 4 t)
  limit : ∃ t, mg "LIMIT" = some (.int 1000000000000 t)
  range : mg "range" = none
  len : mg "len" = none

/-! ### Promises -/
/-- begin: an instance with no attribute yet, or a frame -/
def spBegin (C : Addr) : Sp := fun vs H Q _ => ∃ (a dx : Addr) (fs : List (Str × V)), vs = [.ref a] ∧ H a = some (.ins C dx fs) ∧ (fs = [] ∨ ∃ u l t, fs = bF u l t) ∧
  ∀ (H' : Hp) (u l t : Addr), FrAt C H' a u l t Kab.clear [] → H u = none → H l = none → H t = none → (∀ b o, H b = some o → b ≠ a → H' b = some o) → Q .non H'
def spInit (C : Addr) : Sp := fun vs H Q _ => ∃ (a dx : Addr), vs = [.ref a] ∧ H a = some (.ins C dx []) ∧
  ∀ (H' : Hp) (u l t : Addr), FrAt C H' a u l t Kab.clear [] → H u = none → H l = none → H t = none → (∀ b o, H b = some o → b ≠ a → H' b = some o) → Q .non H'
/-- make: a move that can be made -/
def spMake (C : Addr) : Sp := fun vs H Q _ => ∃ (a u l t : Addr) (f g : Kab.Frame) (ms : List Kab.Move) (m : Kab.Move), vs = [.ref a, .int (m.rod : Nat), .int (m.kind : Nat), .int (m.beads : Nat)] ∧
  FrAt C H a u l t f ms ∧ f.length = 12 ∧ Kab.made f m = some g ∧ ms.length + 1 ≤ most ∧
  ∀ H' : Hp, FrAt C H' a u l t g (ms ++ [m]) → Kept H H' u l t → Q .non H'
def spDigit (C : Addr) : Sp := fun vs H Q _ => ∃ (a u l t : Addr) (f : Kab.Frame) (ms : List Kab.Move) (k : Nat), vs = [.ref a, .int (k : Nat)] ∧
  FrAt C H a u l t f ms ∧ k < f.length ∧ Q (.int (Kab.worth (Kab.rod f k) : Nat)) H
def spShown (C : Addr) : Sp := fun vs H Q _ => ∃ (a u l t : Addr) (f : Kab.Frame) (ms : List Kab.Move), vs = [.ref a] ∧
  FrAt C H a u l t f ms ∧ f.length = 12 ∧ Q (.int (Kab.valueOf f : Nat)) H

section
variable {P : Program} {w : World} {K : PySem.W.Frag} {mg : Str → Option Value} {base : Heap} {C : Addr}
theorem scBegin : FnScope ["self"] ["self"] (defScope sBegin) := ⟨rfl, rfl, rfl, by decide +kernel, rfl, by decide +kernel, by decide +kernel⟩
theorem zeros_u : (List.replicate (12 : Int).toNat [V.int 0]).flatten = rodsU Kab.clear := by decide +kernel
theorem zeros_l : (List.replicate (12 : Int).toNat [V.int 0]).flatten = rodsL Kab.clear := by decide +kernel
theorem putF_len (f : Str) (v : V) : ∀ fs : List (Str × V), (putF f v fs).length ≤ fs.length + 1
  | [] => Nat.le_refl _
  | (g, x) :: r => by
    have ih := putF_len f v r
    unfold putF
    split
    · exact Nat.le_succ _
    · exact Nat.succ_le_succ ih
/-- a constant of the module -/
theorem pe_const {X : Cx} {x : Str} {n : Int} {pos : Pos} (h : ∃ t, X.mg x = some (.int n t)) (hg : Gl X x := by rfl) (hd : (x == ("__debug__" : Str)) = false := by decide) : PE X (.Name x pos) (tC (.int n)) :=
  match h with
  | ⟨t, e⟩ => pe_glob hg e ⟨t, rfl⟩ hd
theorem put3 {fs : List (Str × V)} {u l t : Addr} (h : fs = [] ∨ ∃ u l t, fs = bF u l t) :
    putF "told" (.ref t) (putF "lowers_up" (.ref l) (putF "uppers_down" (.ref u) fs)) = bF u l t ∧ (putF "uppers_down" (.ref u) fs).length < 1000 ∧ (putF "lowers_up" (.ref l) (putF "uppers_down" (.ref u) fs)).length < 1000 ∧ fs.length < 1000 := by
  have hl : fs.length ≤ 3 := by
    rcases h with rfl | ⟨u', l', t', rfl⟩
    · exact Nat.zero_le _
    · exact Nat.le_refl _
  have h1 := putF_len "uppers_down" (.ref u) fs
  have h2 := putF_len "lowers_up" (.ref l) (putF "uppers_down" (.ref u) fs)
  refine ⟨?_, by omega, by omega, by omega⟩
  rcases h with rfl | ⟨u', l', t', rfl⟩
  · rfl
  · rfl
theorem ok_begin {x : Addr} {fd : FuncData} (F : Fun K "begin" "BeadFrame.begin" sBegin x fd) (T : Txt K mg C) : FnOk P w K mg base CX0 1 x fd ["self"] (spBegin C) := by
  refine F.ok scBegin (fun vs H Q E h => ?_) (fun cdv A outer s H vs Q E hr h => ?_)
  · obtain ⟨a, dx, fs, rfl, _⟩ := h
    rfl
  obtain ⟨a, dx, fs, rfl, ha, hfs, q⟩ := h
  refine ⟨_, pss_cons (ps_fld (pv 0) (pe_op op_rep (pe_lst (pa_cons pe_int pa_nil)) (pe_const T.rods)) rfl)
    (pss_cons (ps_fld (pv 0) (pe_op op_rep (pe_lst (pa_cons pe_int pa_nil)) (pe_const T.rods)) rfl)
    (pss_one (ps_fld (pv 0) (pe_lst pa_nil) rfl))), ?_⟩
  refine ⟨(by show 1 ≤ sizeLine; decide), fun p1 n1 => ?_⟩
  refine ⟨p1, 12, _, rfl, rfl, upd_same, by decide, by decide, (by show 1 * 12 ≤ sizeLine; decide), fun u nu => ?_⟩
  rw [zeros_u]
  have au : a ≠ u := ne_of_none (by rw [upd_ne (ne_of_none ha n1)]; exact ha) nu
  have ha2 : upd (upd H p1 (.lst [.int 0])) u (.lst (rodsU Kab.clear)) a = some (.ins C dx fs) := by
    rw [upd_ne au, upd_ne (ne_of_none ha n1)]; exact ha
  refine ⟨_, rfl, a, C, dx, fs, rfl, ha2, T.cl, T.nU, (put3 (u := u) (l := 0) (t := 0) hfs).2.2.2, ?_⟩
  refine ⟨(by show 1 ≤ sizeLine; decide), fun p2 n2 => ?_⟩
  refine ⟨p2, 12, _, rfl, rfl, upd_same, by decide, by decide, (by show 1 * 12 ≤ sizeLine; decide), fun l nl => ?_⟩
  rw [zeros_l]
  generalize hH1 : upd (upd (upd H p1 (.lst [.int 0])) u (.lst (rodsU Kab.clear))) a (.ins C dx (putF "uppers_down" (.ref u) fs)) = H1 at *
  have a1 : H1 a = some (.ins C dx (putF "uppers_down" (.ref u) fs)) := by rw [← hH1]; exact upd_same
  have u1 : H1 u = some (.lst (rodsU Kab.clear)) := by rw [← hH1, upd_ne au.symm]; exact upd_same
  have k1 : ∀ b o, H b = some o → b ≠ a → H1 b = some o := fun b o e hb => by
    have b1 : b ≠ p1 := ne_of_none e n1
    have b2 : b ≠ u := ne_of_none (by rw [upd_ne b1]; exact e) nu
    rw [← hH1, upd_ne hb, upd_ne b2, upd_ne b1]
    exact e
  have al : a ≠ l := ne_of_none (by rw [upd_ne (ne_of_none a1 n2)]; exact a1) nl
  have ul : u ≠ l := ne_of_none (by rw [upd_ne (ne_of_none u1 n2)]; exact u1) nl
  have a2 : upd (upd H1 p2 (.lst [.int 0])) l (.lst (rodsL Kab.clear)) a = some (.ins C dx (putF "uppers_down" (.ref u) fs)) := by
    rw [upd_ne al, upd_ne (ne_of_none a1 n2)]; exact a1
  refine ⟨_, rfl, a, C, dx, _, rfl, a2, T.cl, T.nL, (put3 (u := u) (l := l) (t := 0) hfs).2.1, ?_⟩
  generalize hH2 : upd (upd (upd H1 p2 (.lst [.int 0])) l (.lst (rodsL Kab.clear))) a (.ins C dx (putF "lowers_up" (.ref l) (putF "uppers_down" (.ref u) fs))) = H2 at *
  have a3 : H2 a = some (.ins C dx (putF "lowers_up" (.ref l) (putF "uppers_down" (.ref u) fs))) := by rw [← hH2]; exact upd_same
  have u2 : H2 u = some (.lst (rodsU Kab.clear)) := by rw [← hH2, upd_ne au.symm, upd_ne ul, upd_ne (ne_of_none u1 n2)]; exact u1
  have l2 : H2 l = some (.lst (rodsL Kab.clear)) := by rw [← hH2, upd_ne al.symm]; exact upd_same
  have k2 : ∀ b o, H b = some o → b ≠ a → H2 b = some o := fun b o e hb => by
    have b0 := k1 b o e hb
    have b1 : b ≠ p2 := ne_of_none b0 n2
    have b2 : b ≠ l := ne_of_none (by rw [upd_ne b1]; exact b0) nl
    rw [← hH2, upd_ne hb, upd_ne b2, upd_ne b1]
    exact b0
  refine ⟨(by show 0 ≤ sizeLine; decide), fun t nt => ?_⟩
  have at_ : a ≠ t := ne_of_none a3 nt
  refine ⟨_, rfl, a, C, dx, _, rfl, (by rw [upd_ne at_]; exact a3), T.cl, T.nT, (put3 (u := u) (l := l) (t := t) hfs).2.2.1, ?_⟩
  rw [(put3 (u := u) (l := l) (t := t) hfs).1]
  have nul : H u = none := by
    cases e : H u with
    | none => rfl
    | some o => exact absurd rfl (ne_of_none (a := u) (b := u) (by rw [upd_ne (ne_of_none e n1)]; exact e) nu)
  have nll : H l = none := by
    cases e : H l with
    | none => rfl
    | some o => 
      have b0 := k1 l o e al.symm
      exact absurd rfl (ne_of_none (a := l) (b := l) (by rw [upd_ne (ne_of_none b0 n2)]; exact b0) nl)
  have ntl : H t = none := by
    cases e : H t with
    | none => rfl
    | some o => exact absurd rfl (ne_of_none (k2 t o e at_.symm) nt)
  refine q _ u l t ⟨⟨dx, upd_same⟩, ?_, ?_, ⟨[], ?_, trivial⟩, ul, ne_of_none u2 nt, ne_of_none l2 nt⟩ nul nll ntl fun b o e hb => ?_
  · rw [upd_ne au.symm, upd_ne (ne_of_none u2 nt)]; exact u2
  · rw [upd_ne al.symm, upd_ne (ne_of_none l2 nt)]; exact l2
  · rw [upd_ne at_.symm]; exact upd_same
  · rw [upd_ne hb, upd_ne (ne_of_none (k2 b o e hb) nt)]; exact k2 b o e hb

theorem scInit : FnScope ["self"] ["self"] (defScope sInit) := ⟨rfl, rfl, rfl, by decide +kernel, rfl, by decide +kernel, by decide +kernel⟩
theorem ok_init {x y : Addr} {fd gd : FuncData} (F : Fun K "__init__" "BeadFrame.__init__" sInit x fd) (T : Txt K mg C) (G : FnOk P w K mg base CX0 1 y gd ["self"] (spBegin C)) (bG : Binds K gd ["self"] []) (mG : Meth K C "begin" y) :
    FnOk P w K mg base CX0 2 x fd ["self"] (spInit C) := by
  refine F.ok scInit (fun vs H Q E h => ?_) (fun cdv A outer s H vs Q E hr h => ?_)
  · obtain ⟨a, dx, rfl, _⟩ := h
    rfl
  obtain ⟨a, dx, rfl, ha, q⟩ := h
  refine ⟨_, pss_one (ps_expr (pe_meth0 (pv 0) T.cl mG G hr bG .nil pass0)), ?_⟩
  refine ⟨_, rfl, a, dx, _, rfl, ha, rfl, ?_⟩
  exact ⟨a, dx, [], rfl, ha, .inl rfl, fun H' u l t h1 h2 h3 h4 h5 => q H' u l t h1 h2 h3 h4 h5⟩

theorem scMake : FnScope ["self", "rod", "kind", "beads"] ["self", "rod", "kind", "beads"] (defScope sMake) := ⟨rfl, rfl, rfl, by decide +kernel, rfl, by decide +kernel, by decide +kernel⟩
/-- what stands behind the beads that were moved: the move is told -/
theorem told_more {H H1 : Hp} {a u l t q : Addr} {g : Kab.Frame} {ms : List Kab.Move} {m : Kab.Move} {qs : List Addr} (F1 : FrAt C H1 a u l t g ms) (k : Kept H H1 u l t) (hq : H1 q = none) (ht : H1 t = some (.lst (qs.map V.ref))) (tl : Told H1 qs ms) :
    FrAt C (upd (upd H1 q (.tup (mvV m))) t (.lst (qs.map V.ref ++ [V.ref q]))) a u l t g (ms ++ [m]) ∧ Kept H (upd (upd H1 q (.tup (mvV m))) t (.lst (qs.map V.ref ++ [V.ref q]))) u l t := by
  obtain ⟨na, nu, nl, nt⟩ := F1.new hq
  obtain ⟨⟨dx, ins⟩, up, lo, _, h1, h2, h3⟩ := F1
  have at_ : a ≠ t := ne_of ins ht (by intro z; cases z)
  refine ⟨⟨⟨dx, ?_⟩, ?_, ?_, ⟨qs ++ [q], ?_, ?_⟩, h1, h2, h3⟩, fun b o e b1 b2 b3 => ?_⟩
  · rw [upd_ne at_, upd_ne na.symm]; exact ins
  · rw [upd_ne h2, upd_ne nu.symm]; exact up
  · rw [upd_ne h3, upd_ne nl.symm]; exact lo
  · rw [upd_same, List.map_append]; rfl
  · refine Told.snoc ?_ (tl.mono fun z xs e => ?_)
    · rw [upd_ne nt]; exact upd_same
    · rw [upd_ne (ne_of e ht (by intro z; cases z)), upd_ne (ne_of_none e hq)]; exact e
  · have e1 := k b o e b1 b2 b3
    rw [upd_ne b3, upd_ne (ne_of_none e1 hq)]; exact e1
theorem int_eq {i j : Int} (h : i = j) : decide (V.int i = V.int j) = true := decide_eq_true (congrArg V.int h)
theorem int_ne {i j : Int} (h : i ≠ j) : decide (V.int i = V.int j) = false := decide_eq_false fun e => h (V.int.inj e)
/-- what is asked of the last row of make, once the beads are where they come to be -/
theorem make_end {H H1 : Hp} {a u l t : Addr} {g : Kab.Frame} {ms : List Kab.Move} {m : Kab.Move} {Q : V → Hp → Prop} (T : Txt K mg C) (F1 : FrAt C H1 a u l t g ms) (k : Kept H H1 u l t) (hm : ms.length + 1 ≤ most)
    (q : ∀ H' : Hp, FrAt C H' a u l t g (ms ++ [m]) → Kept H H' u l t → Q .non H') :
    tDrop (tBM K "list" rAppend (tFld K (tVar 0) "told") (tCons (tTup (tCons (tVar 1) (tCons (tVar 2) (tCons (tVar 3) tNil)))) tNil)) { nx := fun _ H' => Q .non H', rt := Q } [some (.ref a), some (.int (m.rod : Nat)), some (.int (m.kind : Nat)), some (.int (m.beads : Nat))] H1 := by
  obtain ⟨dx, ins⟩ := F1.ins
  obtain ⟨qs, te, tl⟩ := F1.te
  refine ⟨_, rfl, a, C, dx, _, _, rfl, ins, T.cl, T.nT, bF_t u l t, .inl ⟨rfl, _, SqL.of te⟩, _, rfl, _, rfl, _, rfl, (by show 3 ≤ sizeLine; decide), fun q1 hq => ?_⟩
  have tq : t ≠ q1 := ne_of_none te hq
  refine ⟨t, _, _, rfl, rfl, (by rw [upd_ne tq]; exact te), ?_, ?_⟩
  · have e := tl.len
    rw [List.length_map, e]
    exact Nat.lt_of_le_of_lt (show ms.length ≤ most by omega) (by decide)
  · obtain ⟨r1, r2⟩ := told_more (m := m) F1 k hq te tl
    exact q _ r1 r2
theorem ok_make {x : Addr} {fd : FuncData} (F : Fun K "make" "BeadFrame.make" sMake x fd) (T : Txt K mg C) : FnOk P w K mg base CX0 1 x fd ["self", "rod", "kind", "beads"] (spMake C) := by
  refine F.ok scMake (fun vs H Q E h => ?_) (fun cdv A outer s H vs Q E hr h => ?_)
  · obtain ⟨a, u, l, t, f, g, ms, m, rfl, _⟩ := h
    rfl
  obtain ⟨a, u, l, t, f, g, ms, m, rfl, FA, len, hm, hms, q⟩ := h
  refine ⟨_, pss_cons (ps_if (pt_cmpR op_eq (pv 2) (pe_const T.lu) (nomark _))
      (pss_one (ps_augS (pe_fld (pv 0) rfl) (pv 1) get_list (pv 3) ip_add set_list))
      (pss_one (ps_if (pt_cmpR op_eq (pv 2) (pe_const T.ld) (nomark _))
        (pss_one (ps_augS (pe_fld (pv 0) rfl) (pv 1) get_list (pv 3) ip_sub set_list))
        (pss_one (ps_if (pt_cmpR op_eq (pv 2) (pe_const T.ud) (nomark _))
          (pss_one (ps_asg pe_int (pg_sub (pe_fld (pv 0) rfl) (pv 1) set_list)))
          (pss_one (ps_asg pe_int (pg_sub (pe_fld (pv 0) rfl) (pv 1) set_list))))))))
    (pss_one (ps_expr (pe_bm PySem.F.plainAttrs_list PySem.F.slot_list_append PySem.F.type_list_append mt_append (pe_fld (pv 0) rfl) (pa_cons (pe_tup (pa_cons (pv 1) (pa_cons (pv 2) (pa_cons (pv 3) pa_nil)))) pa_nil)))), ?_⟩
  obtain ⟨hk, hc⟩ := made_cases hm
  obtain ⟨dx, ins⟩ := id FA.ins
  obtain ⟨qs, te, tl⟩ := id FA.te
  have hl : m.rod < f.length := by rw [len]; exact hk
  have au : a ≠ u := ne_of ins FA.up (by intro z; cases z)
  have al : a ≠ l := ne_of ins FA.lo (by intro z; cases z)
  have tlU : ∀ o, Told (upd H u (.lst o)) qs ms := fun o => tl.mono fun z xs e => by rw [upd_ne (ne_of e FA.up (by intro z; cases z))]; exact e
  have tlL : ∀ o, Told (upd H l (.lst o)) qs ms := fun o => tl.mono fun z xs e => by rw [upd_ne (ne_of e FA.lo (by intro z; cases z))]; exact e
  have FU : ∀ g : Kab.Frame, rodsL g = rodsL f → FrAt C (upd H u (.lst (rodsU g))) a u l t g ms := fun g e =>
    ⟨⟨dx, by rw [upd_ne au]; exact ins⟩, upd_same, by rw [upd_ne FA.ul.symm, e]; exact FA.lo, ⟨qs, by rw [upd_ne FA.ut.symm]; exact te, tlU _⟩, FA.ul, FA.ut, FA.lt⟩
  have FL : ∀ g : Kab.Frame, rodsU g = rodsU f → FrAt C (upd H l (.lst (rodsL g))) a u l t g ms := fun g e =>
    ⟨⟨dx, by rw [upd_ne al]; exact ins⟩, by rw [upd_ne FA.ul, e]; exact FA.up, upd_same, ⟨qs, by rw [upd_ne FA.lt.symm]; exact te, tlL _⟩, FA.ul, FA.ut, FA.lt⟩
  have KU : ∀ o, Kept H (upd H u o) u l t := fun o b z e h1 h2 h3 => by rw [upd_ne h1]; exact e
  have KL : ∀ o, Kept H (upd H l o) u l t := fun o b z e h1 h2 h3 => by rw [upd_ne h2]; exact e
  refine ⟨_, rfl, rfl, _, rfl, ?_⟩
  rcases hc with ⟨h0, h1, h2, rfl⟩ | ⟨h0, h1, h2, rfl⟩ | ⟨h0, h1, h2, rfl⟩ | ⟨h0, h1, h2, rfl⟩
  · refine if_true_of (int_eq (by rw [h0]; rfl)) ?_
    refine ⟨_, rfl, a, C, dx, _, _, rfl, ins, T.cl, T.nL, bF_l u l t, _, rfl, l, _, m.rod, _, rfl, rfl, SqL.of FA.lo, get_l hl, _, rfl, _, _, rfl, rfl, l, _, _, m.rod, rfl, rfl, FA.lo, ixN_nat (by rw [len_l]; exact hl), ?_⟩
    have e : rodsL (f.set m.rod ⟨(Kab.rod f m.rod).five, (Kab.rod f m.rod).ones + m.beads⟩) = (rodsL f).set m.rod (.int (((Kab.rod f m.rod).ones : Nat) + (m.beads : Nat) : Int)) := set_l _
    rw [← e]
    exact make_end T (FL _ (keep_u rfl)) (KL _) hms q
  · refine if_false_of (int_ne (by rw [h0]; decide)) ⟨_, rfl, rfl, _, rfl, ?_⟩
    refine if_true_of (int_eq (by rw [h0]; rfl)) ?_
    refine ⟨_, rfl, a, C, dx, _, _, rfl, ins, T.cl, T.nL, bF_l u l t, _, rfl, l, _, m.rod, _, rfl, rfl, SqL.of FA.lo, get_l hl, _, rfl, _, _, rfl, rfl, l, _, _, m.rod, rfl, rfl, FA.lo, ixN_nat (by rw [len_l]; exact hl), ?_⟩
    have e : rodsL (f.set m.rod ⟨(Kab.rod f m.rod).five, (Kab.rod f m.rod).ones - m.beads⟩) = (rodsL f).set m.rod (.int (((Kab.rod f m.rod).ones : Nat) - (m.beads : Nat) : Int)) := by
      rw [set_l]
      congr 2
      show (((Kab.rod f m.rod).ones - m.beads : Nat) : Int) = _
      omega
    rw [← e]
    exact make_end T (FL _ (keep_u rfl)) (KL _) hms q
  · refine if_false_of (int_ne (by rw [h0]; decide)) ⟨_, rfl, rfl, _, rfl, ?_⟩
    refine if_false_of (int_ne (by rw [h0]; decide)) ⟨_, rfl, rfl, _, rfl, ?_⟩
    refine if_true_of (int_eq (by rw [h0]; rfl)) ?_
    refine ⟨_, rfl, a, C, dx, _, _, rfl, ins, T.cl, T.nU, bF_u u l t, _, rfl, u, _, _, m.rod, rfl, rfl, FA.up, ixN_nat (by rw [len_u]; exact hl), ?_⟩
    have e : rodsU (f.set m.rod ⟨1, (Kab.rod f m.rod).ones⟩) = (rodsU f).set m.rod (.int 1) := set_u _
    rw [← e]
    exact make_end T (FU _ (keep_l rfl)) (KU _) hms q
  · refine if_false_of (int_ne (by rw [h0]; decide)) ⟨_, rfl, rfl, _, rfl, ?_⟩
    refine if_false_of (int_ne (by rw [h0]; decide)) ⟨_, rfl, rfl, _, rfl, ?_⟩
    refine if_false_of (int_ne (by rw [h0]; decide)) ?_
    refine ⟨_, rfl, a, C, dx, _, _, rfl, ins, T.cl, T.nU, bF_u u l t, _, rfl, u, _, _, m.rod, rfl, rfl, FA.up, ixN_nat (by rw [len_u]; exact hl), ?_⟩
    have e : rodsU (f.set m.rod ⟨0, (Kab.rod f m.rod).ones⟩) = (rodsU f).set m.rod (.int 0) := set_u _
    rw [← e]
    exact make_end T (FU _ (keep_l rfl)) (KU _) hms q

theorem scDigit : FnScope ["self", "rod"] ["self", "rod"] (defScope sDigit) := ⟨rfl, rfl, rfl, by decide +kernel, rfl, by decide +kernel, by decide +kernel⟩
theorem ok_digit {x : Addr} {fd : FuncData} (F : Fun K "digit_at" "BeadFrame.digit_at" sDigit x fd) (T : Txt K mg C) : FnOk P w K mg base CX0 1 x fd ["self", "rod"] (spDigit C) := by
  refine F.ok scDigit (fun vs H Q E h => ?_) (fun cdv A outer s H vs Q E hr h => ?_)
  · obtain ⟨a, u, l, t, f, ms, k, rfl, _⟩ := h
    rfl
  obtain ⟨a, u, l, t, f, ms, k, rfl, FA, hk, q⟩ := h
  refine ⟨_, pss_one (ps_ret (pe_op op_add (pe_op op_mul pe_int (pe_ix ix_list (pe_fld (pv 0) rfl) (pv 1) (fun _ _ => rfl))) (pe_ix ix_list (pe_fld (pv 0) rfl) (pv 1) (fun _ _ => rfl)))), ?_⟩
  obtain ⟨dx, ins⟩ := id FA.ins
  refine ⟨_, rfl, a, C, dx, _, _, rfl, ins, T.cl, T.nU, bF_u u l t, _, rfl, u, _, _, _, rfl, rfl, SqL.of FA.up, at_u hk, _, _, rfl, rfl, .inl ⟨by decide, by decide⟩, ?_⟩
  refine ⟨_, rfl, a, C, dx, _, _, rfl, ins, T.cl, T.nL, bF_l u l t, _, rfl, l, _, _, _, rfl, rfl, SqL.of FA.lo, at_l hk, _, _, rfl, rfl, ?_⟩
  exact q

theorem scShown : FnScope ["self", "number", "rod"] ["self"] (defScope sShown) := ⟨rfl, rfl, rfl, by decide +kernel, rfl, by decide +kernel, by decide +kernel⟩
theorem valueFrom (f : Kab.Frame) (j : Nat) (hj : j < f.length) : Kab.valueOf (f.drop j) = Kab.worth (Kab.rod f j) + 10 * Kab.valueOf (f.drop (j + 1)) := by
  rw [List.drop_eq_getElem_cons hj]
  show Kab.worth f[j] + 10 * Kab.valueOf (f.drop (j + 1)) = _
  unfold Kab.rod
  rw [List.getD_eq_getElem?_getD, List.getElem?_eq_getElem hj]
  rfl
theorem ok_shown {x y : Addr} {fd gd : FuncData} (F : Fun K "shown" "BeadFrame.shown" sShown x fd) (T : Txt K mg C) (G : FnOk P w K mg base CX0 1 y gd ["self", "rod"] (spDigit C)) (bG : Binds K gd ["self", "rod"] []) (mG : Meth K C "digit_at" y) :
    FnOk P w K mg base CX0 2 x fd ["self"] (spShown C) := by
  refine F.ok scShown (fun vs H Q E h => ?_) (fun cdv A outer s H vs Q E hr h => ?_)
  · obtain ⟨a, u, l, t, f, ms, rfl, _⟩ := h
    rfl
  obtain ⟨a, u, l, t, f, ms, rfl, FA, len, q⟩ := h
  refine ⟨_, pss_cons (ps_set (i := 1) scShown.nd rfl (Or.inl rfl) pe_int)
    (pss_cons (ps_for PassesOwn.never rfl (pi_range3 rfl T.range (pa_cons (pe_op op_sub (pe_const T.rods) pe_int) (pa_cons (pe_un un_neg pe_int) (pa_cons (pe_un un_neg pe_int) pa_nil)))) (pg_name (i := 2) scShown.nd rfl (Or.inl rfl))
      (pss_one (ps_set (i := 1) scShown.nd rfl (Or.inl rfl) (pe_op op_add (pe_op op_mul pe_int (pv 1)) (pe_meth (pv 0) T.cl mG G hr bG .nil pass0 (pa_cons (pv 2) pa_nil))))))
    (pss_one (ps_ret (pv 1)))), ?_⟩
  obtain ⟨dx, ins⟩ := id FA.ins
  refine ⟨_, _, rfl, rfl, _, rfl, _, rfl, 11, -1, -1, 12, rfl, RgC.neg (by decide) (by decide) (by decide) (by decide), for_rangeC (lo := 11) (c := -1) (n := 12)
    (fun i σ H' => H' = H ∧ ∃ v : Option V, σ = [some (.ref a), some (.int (Kab.valueOf (f.drop (12 - i)) : Nat)), v]) ⟨rfl, none, ?_⟩ ?_ ?_⟩
  · rw [List.drop_eq_nil_of_le (by omega)]
    rfl
  · rintro i σ H' hi ⟨rfl, v, rfl⟩
    refine ⟨_, rfl, _, _, rfl, rfl, .inl ⟨by decide, by decide⟩, _, rfl, a, dx, _, rfl, ins, rfl, _, rfl, a, u, l, t, f, ms, 11 - i, ?_, FA, by omega, ?_⟩
    · show [V.ref a, V.int (11 + (i : Nat) * -1)] = _
      rw [show (11 + (i : Int) * -1) = ((11 - i : Nat) : Int) by omega]
    · refine ⟨_, _, rfl, rfl, rfl, some (.int (11 + (i : Nat) * -1)), ?_⟩
      have e := valueFrom f (11 - i) (by omega)
      have e2 : 12 - i = 11 - i + 1 := by omega
      have e3 : 12 - (i + 1) = 11 - i := by omega
      rw [e3, e, e2]
      rw [show ((Kab.worth (Kab.rod f (11 - i)) + 10 * Kab.valueOf (List.drop (11 - i + 1) f) : Nat) : Int) = 10 * ((Kab.valueOf (List.drop (11 - i + 1) f) : Nat) : Int) + ((Kab.worth (Kab.rod f (11 - i)) : Nat) : Int) by omega]
      rfl
  · rintro σ H' ⟨rfl, v, rfl⟩
    exact ⟨_, rfl, q⟩
end
end Bead

set_option Elab.async false
set_option maxRecDepth 100000
set_option maxHeartbeats 2000000
namespace Bead
open PySem PySem.Spec PyProof.Rows L2
abbrev sPut : Stmt := top 10
abbrev sOff : Stmt := top 11
abbrev sAddD : Stmt := top 12
abbrev sTakeD : Stmt := top 13

/-- a method that keeps its promise, a def that does -/
def HasM (P : Program) (w : World) (K : PySem.W.Frag) (mg : Str → Option Value) (base : Heap) (C : Addr) (m : Str) (k : Nat) (ps : List Str) (sp : Sp) : Prop :=
  ∃ (y : Addr) (gd : FuncData), Meth K C m y ∧ Binds K gd ps [] ∧ FnOk P w K mg base CX0 k y gd ps sp
def HasF (P : Program) (w : World) (K : PySem.W.Frag) (mg : Str → Option Value) (base : Heap) (x : Str) (k : Nat) (ps : List Str) (sp : Sp) : Prop :=
  ∃ (y : Addr) (gd : FuncData), mg x = some (.ref y) ∧ PySem.W.keepIn K (.ref y) = true ∧ Binds K gd ps [] ∧ FnOk P w K mg base CX0 k y gd ps sp

/-- what a def that makes moves promises -/
def Post (C : Addr) (H : Hp) (a u l t : Addr) (f : Kab.Frame) (ms mv : List Kab.Move) (Q : VK) : Prop :=
  ∀ H' : Hp, FrAt C H' a u l t (Kab.after f mv) (ms ++ mv) → Kept H H' u l t → Q .non H'
theorem Post.cons {C : Addr} {H H1 : Hp} {a u l t : Addr} {f g : Kab.Frame} {ms mv : List Kab.Move} {m : Kab.Move} {Q : VK} (p : Post C H a u l t f ms (m :: mv) Q) (h : Kab.made f m = some g) (k : Kept H H1 u l t) :
    Post C H1 a u l t g (ms ++ [m]) mv Q := fun H' F' k' => p H' (by rw [after_cons h]; rw [List.append_assoc] at F'; exact F') (k.trans k')
theorem Post.append {C : Addr} {H H1 : Hp} {a u l t : Addr} {f : Kab.Frame} {ms mv mw : List Kab.Move} {Q : VK} (p : Post C H a u l t f ms (mv ++ mw) Q) (k : Kept H H1 u l t) :
    Post C H1 a u l t (Kab.after f mv) (ms ++ mv) mw Q := fun H' F' k' => p H' (by rw [after_append]; rw [List.append_assoc] at F'; exact F') (k.trans k')
theorem Post.nil {C : Addr} {H : Hp} {a u l t : Addr} {f : Kab.Frame} {ms : List Kab.Move} {Q : VK} (p : Post C H a u l t f ms [] Q) (F : FrAt C H a u l t f ms) : Q .non H :=
  p H (by rw [List.append_nil]; exact F) (Kept.refl H u l t)

def spPut (C : Addr) : Sp := fun vs H Q _ => ∃ (a u l t : Addr) (f : Kab.Frame) (ms : List Kab.Move) (k d : Nat), vs = [.ref a, .int (k : Nat), .int (d : Nat)] ∧
  FrAt C H a u l t f ms ∧ Ok f ∧ k < 12 ∧ 1 ≤ d ∧ Kab.worth (Kab.rod f k) + d ≤ 9 ∧ ms.length + (Kab.putOn f k d).length ≤ most ∧ Post C H a u l t f ms (Kab.putOn f k d) Q
def spOff (C : Addr) : Sp := fun vs H Q _ => ∃ (a u l t : Addr) (f : Kab.Frame) (ms : List Kab.Move) (k d : Nat), vs = [.ref a, .int (k : Nat), .int (d : Nat)] ∧
  FrAt C H a u l t f ms ∧ Ok f ∧ k < 12 ∧ 1 ≤ d ∧ d ≤ Kab.worth (Kab.rod f k) ∧ ms.length + (Kab.takeOff f k d).length ≤ most ∧ Post C H a u l t f ms (Kab.takeOff f k d) Q
def spAddD (C : Addr) (n : Nat) : Sp := fun vs H Q _ => ∃ (a u l t : Addr) (f : Kab.Frame) (ms : List Kab.Move) (k d z : Nat), vs = [.ref a, .int (k : Nat), .int (d : Nat)] ∧
  FrAt C H a u l t f ms ∧ Ok f ∧ 1 ≤ d ∧ d ≤ 9 ∧ 12 ≤ k + n ∧ 12 ≤ k + z ∧ Kab.valueOf f + d * 10 ^ k < 10 ^ 12 ∧ ms.length + (Kab.addAt z f k d).length ≤ most ∧ Post C H a u l t f ms (Kab.addAt z f k d) Q
def spTakeD (C : Addr) (n : Nat) : Sp := fun vs H Q _ => ∃ (a u l t : Addr) (f : Kab.Frame) (ms : List Kab.Move) (k d z : Nat), vs = [.ref a, .int (k : Nat), .int (d : Nat)] ∧
  FrAt C H a u l t f ms ∧ Ok f ∧ 1 ≤ d ∧ d ≤ 9 ∧ 12 ≤ k + n ∧ 12 ≤ k + z ∧ d * 10 ^ k ≤ Kab.valueOf f ∧ ms.length + (Kab.takeAt z f k d).length ≤ most ∧ Post C H a u l t f ms (Kab.takeAt z f k d) Q

section
variable {P : Program} {w : World} {K : PySem.W.Frag} {mg : Str → Option Value} {base : Heap} {C : Addr}
abbrev psMake : List Str := ["self", "rod", "kind", "beads"]
abbrev ps3 : List Str := ["frame", "rod", "digit"]
/-- a call frame.make(..) as a statement -/
theorem do_make {H : Hp} {a u l t : Addr} {f g : Kab.Frame} {ms mv : List Kab.Move} {m : Kab.Move} {Q : VK} {D : Ends} {σ : L2.St} {E : XK} {t1 t2 t3 : TE}
    (F : FrAt C H a u l t f ms) (len : f.length = 12) (h : Kab.made f m = some g) (hms : ms.length + (m :: mv).length ≤ most) (p : Post C H a u l t f ms (m :: mv) Q)
    (h0 : σ[0]? = some (some (.ref a)))
    (args : ∀ R : List V → Hp → Prop, R [.int (m.rod : Nat), .int (m.kind : Nat), .int (m.beads : Nat)] H → tCons t1 (tCons t2 (tCons t3 tNil)) σ H R)
    (next : ∀ H1 : Hp, FrAt C H1 a u l t g (ms ++ [m]) → (ms ++ [m]).length + mv.length ≤ most → Post C H1 a u l t g (ms ++ [m]) mv Q → D.nx σ H1) :
    tDrop (tMeth C "make" (spMake C) [] E (tVar 0) (tCons t1 (tCons t2 (tCons t3 tNil)))) D σ H := by
  obtain ⟨dx, ins⟩ := F.ins
  refine ⟨_, h0, a, dx, _, rfl, ins, bF_no (by decide +kernel) (by decide +kernel) (by decide +kernel) u l t, args _ ?_⟩
  rw [List.length_cons] at hms
  refine ⟨a, u, l, t, f, g, ms, m, rfl, F, len, h, by omega, fun H1 F1 k1 => next H1 F1 ?_ (p.cons h k1)⟩
  rw [List.length_append, List.length_singleton]
  omega

theorem scPut : FnScope ps3 ps3 (defScope sPut) := ⟨rfl, rfl, rfl, by decide +kernel, rfl, by decide +kernel, by decide +kernel⟩
theorem ok_put {x : Addr} {fd : FuncData} (F : Fun K "put_on" "put_on" sPut x fd) (T : Txt K mg C) (MK : HasM P w K mg base C "make" 1 psMake (spMake C)) : FnOk P w K mg base CX0 2 x fd ps3 (spPut C) := by
  refine F.ok scPut (fun vs H Q E h => ?_) (fun cdv A outer s H vs Q E hr h => ?_)
  · obtain ⟨a, u, l, t, f, ms, k, d, rfl, _⟩ := h
    rfl
  obtain ⟨a, u, l, t, f, ms, k, d, rfl, FA, o, hk, h1, h9, hms, q⟩ := h
  obtain ⟨y, gd, mG, bG, G⟩ := MK
  refine ⟨_, pss_one (ps_if (pt_cmpR op_ge (pv 2) pe_int (nomark _))
      (pss_cons (ps_expr (pe_meth (pv 0) T.cl mG G hr bG .nil pass0 (pa_cons (pv 1) (pa_cons (pe_const T.ud) (pa_cons pe_int pa_nil)))))
        (pss_one (ps_if (pt_cmpR op_gt (pv 2) pe_int (nomark _))
          (pss_one (ps_expr (pe_meth (pv 0) T.cl mG G hr bG .nil pass0 (pa_cons (pv 1) (pa_cons (pe_const T.lu) (pa_cons (pe_op op_sub (pv 2) pe_int) pa_nil))))))
          pss_nil)))
      (pss_one (ps_if (pt_cmpR op_le (pe_op op_add (pe_ix ix_list (pe_fld (pv 0) rfl) (pv 1) (fun _ _ => rfl)) (pv 2)) (pe_const T.beads) (nomark _))
        (pss_one (ps_expr (pe_meth (pv 0) T.cl mG G hr bG .nil pass0 (pa_cons (pv 1) (pa_cons (pe_const T.lu) (pa_cons (pv 2) pa_nil))))))
        (pss_cons (ps_expr (pe_meth (pv 0) T.cl mG G hr bG .nil pass0 (pa_cons (pv 1) (pa_cons (pe_const T.ud) (pa_cons pe_int pa_nil)))))
          (pss_one (ps_expr (pe_meth (pv 0) T.cl mG G hr bG .nil pass0 (pa_cons (pv 1) (pa_cons (pe_const T.ld) (pa_cons (pe_op op_sub pe_int (pv 2)) pa_nil)))))))))), ?_⟩
  have hl : k < f.length := by rw [o.len]; exact hk
  obtain ⟨dx, ins⟩ := id FA.ins
  obtain ⟨g, gg, og, vg⟩ := put_goes o hk h1 h9
  refine ⟨_, rfl, _, _, rfl, rfl, _, rfl, ?_⟩
  by_cases c : 5 ≤ d
  · rw [putOn_hi c] at q hms gg
    obtain ⟨f1, m1, gg⟩ := gg
    refine if_true_of (decide_eq_true (by omega)) ?_
    refine do_make FA o.len m1 hms q rfl (fun R r => ⟨_, rfl, r⟩) fun H1 F1 hms1 q1 => ?_
    refine ⟨_, rfl, _, _, rfl, rfl, _, rfl, ?_⟩
    by_cases c2 : d - 5 = 0
    · rw [lower_zero c2] at q1
      exact if_false_of (decide_eq_false (by omega)) (q1.nil F1)
    · rw [lower_pos c2] at q1 hms1 gg
      obtain ⟨f2, m2, gg⟩ := gg
      refine if_true_of (decide_eq_true (by omega)) ?_
      refine do_make F1 (made_ok o m1).1.len m2 hms1 q1 rfl (fun R r => ⟨_, rfl, _, rfl, _, _, rfl, rfl, ?_⟩) fun H2 F2 hms2 q2 => q2.nil F2
      have e : ((d : Nat) : Int) - 5 = ((d - 5 : Nat) : Int) := by omega
      show R [.int (k : Nat), .int 0, .int (((d : Nat) : Int) - 5)] H1
      rw [e]
      exact r
  · refine if_false_of (decide_eq_false (by omega)) ?_
    refine ⟨_, rfl, a, C, dx, _, _, rfl, ins, T.cl, T.nL, bF_l u l t, _, rfl, l, _, _, _, rfl, rfl, SqL.of FA.lo, at_l hl, _, rfl, _, _, rfl, rfl, _, _, rfl, rfl, _, rfl, ?_⟩
    by_cases c2 : (Kab.rod f k).ones + d ≤ 4
    · rw [putOn_lo (by omega) c2, lower_pos (by omega)] at q hms gg
      obtain ⟨f1, m1, gg⟩ := gg
      refine if_true_of (decide_eq_true (by omega)) ?_
      exact do_make FA o.len m1 hms q rfl (fun R r => ⟨_, rfl, _, rfl, r⟩) fun H1 F1 hms1 q1 => q1.nil F1
    · rw [putOn_five (by omega) c2, lower_pos (by omega)] at q hms gg
      obtain ⟨f1, m1, f2, m2, gg⟩ := gg
      refine if_false_of (decide_eq_false (by omega)) ?_
      refine do_make FA o.len m1 hms q rfl (fun R r => ⟨_, rfl, r⟩) fun H1 F1 hms1 q1 => ?_
      refine do_make F1 (made_ok o m1).1.len m2 hms1 q1 rfl (fun R r => ⟨_, rfl, _, rfl, _, _, rfl, rfl, ?_⟩) fun H2 F2 hms2 q2 => q2.nil F2
      have e : (5 : Int) - ((d : Nat) : Int) = ((5 - d : Nat) : Int) := by omega
      show R [.int (k : Nat), .int 1, .int (5 - ((d : Nat) : Int))] H1
      rw [e]
      exact r
theorem scOff : FnScope ps3 ps3 (defScope sOff) := ⟨rfl, rfl, rfl, by decide +kernel, rfl, by decide +kernel, by decide +kernel⟩
theorem ok_off {x : Addr} {fd : FuncData} (F : Fun K "take_off" "take_off" sOff x fd) (T : Txt K mg C) (MK : HasM P w K mg base C "make" 1 psMake (spMake C)) : FnOk P w K mg base CX0 2 x fd ps3 (spOff C) := by
  refine F.ok scOff (fun vs H Q E h => ?_) (fun cdv A outer s H vs Q E hr h => ?_)
  · obtain ⟨a, u, l, t, f, ms, k, d, rfl, _⟩ := h
    rfl
  obtain ⟨a, u, l, t, f, ms, k, d, rfl, FA, o, hk, h1, h9, hms, q⟩ := h
  obtain ⟨y, gd, mG, bG, G⟩ := MK
  refine ⟨_, pss_one (ps_if (pt_cmpR op_ge (pv 2) pe_int (nomark _))
      (pss_cons (ps_expr (pe_meth (pv 0) T.cl mG G hr bG .nil pass0 (pa_cons (pv 1) (pa_cons (pe_const T.uu) (pa_cons pe_int pa_nil)))))
        (pss_one (ps_if (pt_cmpR op_gt (pv 2) pe_int (nomark _))
          (pss_one (ps_expr (pe_meth (pv 0) T.cl mG G hr bG .nil pass0 (pa_cons (pv 1) (pa_cons (pe_const T.ld) (pa_cons (pe_op op_sub (pv 2) pe_int) pa_nil))))))
          pss_nil)))
      (pss_one (ps_if (pt_cmpR op_ge (pe_ix ix_list (pe_fld (pv 0) rfl) (pv 1) (fun _ _ => rfl)) (pv 2) (nomark _))
        (pss_one (ps_expr (pe_meth (pv 0) T.cl mG G hr bG .nil pass0 (pa_cons (pv 1) (pa_cons (pe_const T.ld) (pa_cons (pv 2) pa_nil))))))
        (pss_cons (ps_expr (pe_meth (pv 0) T.cl mG G hr bG .nil pass0 (pa_cons (pv 1) (pa_cons (pe_const T.uu) (pa_cons pe_int pa_nil)))))
          (pss_one (ps_expr (pe_meth (pv 0) T.cl mG G hr bG .nil pass0 (pa_cons (pv 1) (pa_cons (pe_const T.lu) (pa_cons (pe_op op_sub pe_int (pv 2)) pa_nil)))))))))), ?_⟩
  have hl : k < f.length := by rw [o.len]; exact hk
  obtain ⟨dx, ins⟩ := id FA.ins
  obtain ⟨g, gg, og, vg⟩ := off_goes o hk h1 h9
  refine ⟨_, rfl, _, _, rfl, rfl, _, rfl, ?_⟩
  by_cases c : 5 ≤ d
  · rw [takeOff_hi c] at q hms gg
    obtain ⟨f1, m1, gg⟩ := gg
    refine if_true_of (decide_eq_true (by omega)) ?_
    refine do_make FA o.len m1 hms q rfl (fun R r => ⟨_, rfl, r⟩) fun H1 F1 hms1 q1 => ?_
    refine ⟨_, rfl, _, _, rfl, rfl, _, rfl, ?_⟩
    by_cases c2 : d - 5 = 0
    · rw [lower_zero c2] at q1
      exact if_false_of (decide_eq_false (by omega)) (q1.nil F1)
    · rw [lower_pos c2] at q1 hms1 gg
      obtain ⟨f2, m2, gg⟩ := gg
      refine if_true_of (decide_eq_true (by omega)) ?_
      refine do_make F1 (made_ok o m1).1.len m2 hms1 q1 rfl (fun R r => ⟨_, rfl, _, rfl, _, _, rfl, rfl, ?_⟩) fun H2 F2 hms2 q2 => q2.nil F2
      have e : ((d : Nat) : Int) - 5 = ((d - 5 : Nat) : Int) := by omega
      show R [.int (k : Nat), .int 1, .int (((d : Nat) : Int) - 5)] H1
      rw [e]
      exact r
  · refine if_false_of (decide_eq_false (by omega)) ?_
    refine ⟨_, rfl, a, C, dx, _, _, rfl, ins, T.cl, T.nL, bF_l u l t, _, rfl, l, _, _, _, rfl, rfl, SqL.of FA.lo, at_l hl, _, rfl, _, _, rfl, rfl, _, rfl, ?_⟩
    by_cases c2 : d ≤ (Kab.rod f k).ones
    · rw [takeOff_lo (by omega) c2, lower_pos (by omega)] at q hms gg
      obtain ⟨f1, m1, gg⟩ := gg
      refine if_true_of (decide_eq_true (by omega)) ?_
      exact do_make FA o.len m1 hms q rfl (fun R r => ⟨_, rfl, _, rfl, r⟩) fun H1 F1 hms1 q1 => q1.nil F1
    · rw [takeOff_five (by omega) c2, lower_pos (by omega)] at q hms gg
      obtain ⟨f1, m1, f2, m2, gg⟩ := gg
      refine if_false_of (decide_eq_false (by omega)) ?_
      refine do_make FA o.len m1 hms q rfl (fun R r => ⟨_, rfl, r⟩) fun H1 F1 hms1 q1 => ?_
      refine do_make F1 (made_ok o m1).1.len m2 hms1 q1 rfl (fun R r => ⟨_, rfl, _, rfl, _, _, rfl, rfl, ?_⟩) fun H2 F2 hms2 q2 => q2.nil F2
      have e : (5 : Int) - ((d : Nat) : Int) = ((5 - d : Nat) : Int) := by omega
      show R [.int (k : Nat), .int 0, .int (5 - ((d : Nat) : Int))] H1
      rw [e]
      exact r

theorem digitVal {a u l t : Addr} {f : Kab.Frame} {ms : List Kab.Move} {k : Nat} {H : Hp} {Q : VK} {σ : L2.St} {E : XK} {t1 : TE} (F : FrAt C H a u l t f ms) (hk : k < f.length) (h0 : σ[0]? = some (some (.ref a)))
    (arg : ∀ R : List V → Hp → Prop, R [.int (k : Nat)] H → tCons t1 tNil σ H R) (q : Q (.int (Kab.worth (Kab.rod f k) : Nat)) H) : tMeth C "digit_at" (spDigit C) [] E (tVar 0) (tCons t1 tNil) σ H Q := by
  obtain ⟨dx, ins⟩ := F.ins
  exact ⟨_, h0, a, dx, _, rfl, ins, bF_no (by decide +kernel) (by decide +kernel) (by decide +kernel) u l t, arg _ ⟨a, u, l, t, f, ms, k, rfl, F, hk, q⟩⟩
theorem none_add {x : Addr} {fd : FuncData} : FnOk P w K mg base CX0 3 x fd ps3 (spAddD C 0) := by
  have no : ∀ vs H Q E, ¬ spAddD C 0 vs H Q E := fun vs H Q E h => by
    obtain ⟨a, u, l, t, f, ms, k, d, z, _, _, o, h1, h9, hn, hz, hv, _⟩ := h
    have := place_lt h1 (show d * 10 ^ k ≤ Kab.valueOf f + d * 10 ^ k by omega) hv
    omega
  exact ⟨fun vs H Q E h => absurd h (no vs H Q E), fun A outer s H args us vs Q E _ _ _ _ h => absurd h (no vs H Q E)⟩
theorem none_take {x : Addr} {fd : FuncData} : FnOk P w K mg base CX0 3 x fd ps3 (spTakeD C 0) := by
  have no : ∀ vs H Q E, ¬ spTakeD C 0 vs H Q E := fun vs H Q E h => by
    obtain ⟨a, u, l, t, f, ms, k, d, z, _, _, o, h1, h9, hn, hz, hv, _⟩ := h
    have := place_lt h1 hv o.lt
    omega
  exact ⟨fun vs H Q E h => absurd h (no vs H Q E), fun A outer s H args us vs Q E _ _ _ _ h => absurd h (no vs H Q E)⟩
theorem scAddD : FnScope ps3 ps3 (defScope sAddD) := ⟨rfl, rfl, rfl, by decide +kernel, rfl, by decide +kernel, by decide +kernel⟩
theorem scTakeD : FnScope ps3 ps3 (defScope sTakeD) := ⟨rfl, rfl, rfl, by decide +kernel, rfl, by decide +kernel, by decide +kernel⟩
theorem ok_addD {x : Addr} {fd : FuncData} (F : Fun K "add_digit" "add_digit" sAddD x fd) (T : Txt K mg C) (bF : Binds K fd ps3 []) (mF : mg "add_digit" = some (.ref x))
    (DG : HasM P w K mg base C "digit_at" 1 ["self", "rod"] (spDigit C)) (PUT : HasF P w K mg base "put_on" 2 ps3 (spPut C)) (OFF : HasF P w K mg base "take_off" 2 ps3 (spOff C)) :
    ∀ n : Nat, FnOk P w K mg base CX0 (n + 3) x fd ps3 (spAddD C n)
  | 0 => none_add
  | n + 1 => by
    have ih := ok_addD F T bF mF DG PUT OFF n
    refine F.ok scAddD (fun vs H Q E h => ?_) (fun cdv A outer s H vs Q E hr h => ?_)
    · obtain ⟨a, u, l, t, f, ms, k, d, z, rfl, _⟩ := h
      rfl
    obtain ⟨a, u, l, t, f, ms, k, d, z, rfl, FA, o, h1, h9, hn, hz, hv, hms, q⟩ := h
    obtain ⟨yd, gd, mD, bD, GD⟩ := DG
    obtain ⟨yp, gp, mP, kP, bP, GP⟩ := PUT
    obtain ⟨yo, go, mO, kO, bO, GO⟩ := OFF
    refine ⟨_, pss_one (ps_if (pt_cmpR op_le (pe_op op_add (pe_meth (pv 0) T.cl mD GD (hr.mono (by omega)) bD .nil pass0 (pa_cons (pv 1) pa_nil)) (pv 2)) pe_int (nomark _))
        (pss_one (ps_expr (pe_call GP (hr.mono (by omega)) rfl mP kP bP .nil pass0 (pa_cons (pv 0) (pa_cons (pv 1) (pa_cons (pv 2) pa_nil))))))
        (pss_cons (ps_expr (pe_call GO (hr.mono (by omega)) rfl mO kO bO .nil pass0 (pa_cons (pv 0) (pa_cons (pv 1) (pa_cons (pe_op op_sub pe_int (pv 2)) pa_nil)))))
          (pss_one (ps_expr (pe_call ih hr rfl mF F.kp bF .nil pass0 (pa_cons (pv 0) (pa_cons (pe_op op_add (pv 1) pe_int) (pa_cons pe_int pa_nil)))))))), ?_⟩
    have hk := place_lt h1 (show d * 10 ^ k ≤ Kab.valueOf f + d * 10 ^ k by omega) hv
    have hl : k < f.length := by rw [o.len]; exact hk
    refine digitVal FA hl rfl (fun R r => ⟨_, rfl, r⟩) ?_
    refine ⟨_, rfl, _, _, rfl, rfl, _, _, rfl, rfl, _, rfl, ?_⟩
    obtain ⟨z, rfl⟩ : ∃ z', z = z' + 1 := ⟨z - 1, by omega⟩
    by_cases c : Kab.worth (Kab.rod f k) + d ≤ 9
    · rw [addAt_put c] at q hms
      refine if_true_of (decide_eq_true (by omega)) ?_
      exact ⟨_, rfl, _, rfl, _, rfl, a, u, l, t, f, ms, k, d, rfl, FA, o, hk, h1, c, hms, q⟩
    · rw [addAt_carry c] at q hms
      rw [List.length_append] at hms
      have w9 := worth_le (o.rods k)
      obtain ⟨o1, v1⟩ := off_after (d := 10 - d) o hk (by omega) (by omega)
      have e10 : (10 - d) * 10 ^ k + d * 10 ^ k = 10 ^ (k + 1) := by
        rw [← Nat.add_mul, show 10 - d + d = 10 by omega, Nat.pow_succ, Nat.mul_comm]
      refine if_false_of (decide_eq_false (by omega)) ?_
      refine ⟨_, rfl, _, rfl, _, rfl, _, _, rfl, rfl, a, u, l, t, f, ms, k, 10 - d, ?_, FA, o, hk, by omega, by omega, by omega, fun H1 F1 k1 => ?_⟩
      · show [V.ref a, V.int (k : Nat), V.int (10 - ((d : Nat) : Int))] = _
        rw [show (10 - ((d : Nat) : Int)) = ((10 - d : Nat) : Int) by omega]
      · refine ⟨_, rfl, _, rfl, _, _, rfl, rfl, a, u, l, t, _, _, k + 1, 1, z, rfl, F1, o1, Nat.le_refl _, by omega, by omega, by omega, by omega, ?_, q.append k1⟩
        rw [List.length_append]
        omega
theorem ok_takeD {x : Addr} {fd : FuncData} (F : Fun K "take_digit" "take_digit" sTakeD x fd) (T : Txt K mg C) (bF : Binds K fd ps3 []) (mF : mg "take_digit" = some (.ref x))
    (DG : HasM P w K mg base C "digit_at" 1 ["self", "rod"] (spDigit C)) (PUT : HasF P w K mg base "put_on" 2 ps3 (spPut C)) (OFF : HasF P w K mg base "take_off" 2 ps3 (spOff C)) :
    ∀ n : Nat, FnOk P w K mg base CX0 (n + 3) x fd ps3 (spTakeD C n)
  | 0 => none_take
  | n + 1 => by
    have ih := ok_takeD F T bF mF DG PUT OFF n
    refine F.ok scTakeD (fun vs H Q E h => ?_) (fun cdv A outer s H vs Q E hr h => ?_)
    · obtain ⟨a, u, l, t, f, ms, k, d, z, rfl, _⟩ := h
      rfl
    obtain ⟨a, u, l, t, f, ms, k, d, z, rfl, FA, o, h1, h9, hn, hz, hv, hms, q⟩ := h
    obtain ⟨yd, gd, mD, bD, GD⟩ := DG
    obtain ⟨yp, gp, mP, kP, bP, GP⟩ := PUT
    obtain ⟨yo, go, mO, kO, bO, GO⟩ := OFF
    refine ⟨_, pss_one (ps_if (pt_cmpR op_ge (pe_meth (pv 0) T.cl mD GD (hr.mono (by omega)) bD .nil pass0 (pa_cons (pv 1) pa_nil)) (pv 2) (nomark _))
        (pss_one (ps_expr (pe_call GO (hr.mono (by omega)) rfl mO kO bO .nil pass0 (pa_cons (pv 0) (pa_cons (pv 1) (pa_cons (pv 2) pa_nil))))))
        (pss_cons (ps_expr (pe_call ih hr rfl mF F.kp bF .nil pass0 (pa_cons (pv 0) (pa_cons (pe_op op_add (pv 1) pe_int) (pa_cons pe_int pa_nil)))))
          (pss_one (ps_expr (pe_call GP (hr.mono (by omega)) rfl mP kP bP .nil pass0 (pa_cons (pv 0) (pa_cons (pv 1) (pa_cons (pe_op op_sub pe_int (pv 2)) pa_nil)))))))), ?_⟩
    have hk := place_lt h1 hv o.lt
    have hl : k < f.length := by rw [o.len]; exact hk
    refine digitVal FA hl rfl (fun R r => ⟨_, rfl, r⟩) ?_
    refine ⟨_, rfl, _, _, rfl, rfl, _, rfl, ?_⟩
    obtain ⟨z, rfl⟩ : ∃ z', z = z' + 1 := ⟨z - 1, by omega⟩
    by_cases c : d ≤ Kab.worth (Kab.rod f k)
    · rw [takeAt_off c] at q hms
      refine if_true_of (decide_eq_true (by omega)) ?_
      exact ⟨_, rfl, _, rfl, _, rfl, a, u, l, t, f, ms, k, d, rfl, FA, o, hk, h1, c, hms, q⟩
    · rw [takeAt_borrow c] at q hms
      rw [List.length_append] at hms
      obtain ⟨hb, hroom⟩ := borrow_room (n := z) o h1 h9 (by omega) hv c
      obtain ⟨o1, v1⟩ := take_after (n := z) o (Nat.le_refl 1) (by omega) (show 12 ≤ k + 1 + z by omega) hb
      refine if_false_of (decide_eq_false (by omega)) ?_
      refine ⟨_, rfl, _, rfl, _, _, rfl, rfl, a, u, l, t, f, ms, k + 1, 1, z, rfl, FA, o, Nat.le_refl _, by omega, by omega, by omega, hb, by omega, fun H1 F1 k1 => ?_⟩
      refine ⟨_, rfl, _, rfl, _, rfl, _, _, rfl, rfl, a, u, l, t, _, _, k, 10 - d, ?_, F1, o1, hk, by omega, hroom, ?_, q.append k1⟩
      · show [V.ref a, V.int (k : Nat), V.int (10 - ((d : Nat) : Int))] = _
        rw [show (10 - ((d : Nat) : Int)) = ((10 - d : Nat) : Int) by omega]
      · rw [List.length_append]
        omega
end
end Bead

set_option Elab.async false
set_option maxRecDepth 100000
set_option maxHeartbeats 2000000
namespace Bead
open PySem PySem.Spec PyProof.Rows L2
abbrev sPlaced : Stmt := top 14
abbrev sAddN : Stmt := top 15
abbrev sTakeN : Stmt := top 16
abbrev sProd : Stmt := top 17
abbrev sClear : Stmt := top 19
abbrev sOut : Stmt := top 18

def pqV (e : Nat × Nat) : List V := [.int (e.1 : Nat), .int (e.2 : Nat)]
/-- at qs stand the pairs l -/
def Pairs (H : Hp) (qs : List Addr) (l : List (Nat × Nat)) : Prop := qs.map H = l.map fun e => some (HO.tup (pqV e))
theorem Pairs.mono {H H' : Hp} {qs : List Addr} {l : List (Nat × Nat)} (h : Pairs H qs l) (k : ∀ q xs, H q = some (.tup xs) → H' q = some (.tup xs)) : Pairs H' qs l := by
  have e : qs.map H' = qs.map H := List.map_congr_left fun q hq => by
    have m : H q ∈ qs.map H := List.mem_map_of_mem hq
    rw [show qs.map H = l.map fun e => some (HO.tup (pqV e)) from h] at m
    obtain ⟨e, _, he⟩ := List.mem_map.mp m
    rw [← he]
    exact k q _ he.symm
  exact e.trans h
theorem Pairs.len {H : Hp} {qs : List Addr} {l : List (Nat × Nat)} (h : Pairs H qs l) : qs.length = l.length := by
  have e := congrArg List.length h
  rwa [List.length_map, List.length_map] at e
theorem Pairs.snoc {H : Hp} {qs : List Addr} {l : List (Nat × Nat)} {q : Addr} {e : Nat × Nat} (h : Pairs H qs l) (hq : H q = some (.tup (pqV e))) : Pairs H (qs ++ [q]) (l ++ [e]) := by
  unfold Pairs
  rw [List.map_append, List.map_append, show qs.map H = _ from h, List.map_singleton, List.map_singleton, hq]
theorem Pairs.reverse {H : Hp} {qs : List Addr} {l : List (Nat × Nat)} (h : Pairs H qs l) : Pairs H qs.reverse l.reverse := by
  unfold Pairs
  rw [List.map_reverse, List.map_reverse, show qs.map H = _ from h]
theorem Pairs.at_ {H : Hp} {qs : List Addr} {l : List (Nat × Nat)} {i : Nat} {q : Addr} (h : Pairs H qs l) (e : qs[i]? = some q) : ∃ z, l[i]? = some z ∧ H q = some (.tup (pqV z)) := by
  have h1 : (qs.map H)[i]? = some (H q) := by rw [List.getElem?_map, e]; rfl
  rw [show qs.map H = _ from h, List.getElem?_map] at h1
  cases hz : l[i]? with
  | none => rw [hz] at h1; cases h1
  | some z =>
    rw [hz] at h1
    exact ⟨z, rfl, (Option.some.inj h1).symm⟩
theorem drop_of {α : Type} {l : List α} {i : Nat} {z : α} (h : l[i]? = some z) : l.drop i = z :: l.drop (i + 1) := by
  obtain ⟨h1, h2⟩ := List.getElem?_eq_some_iff.mp h
  rw [List.drop_eq_getElem_cons h1, h2]

/-- placed_digits: a new list of the digits that are not 0 -/
def spPlaced : Sp := fun vs H Q _ => ∃ (x n : Nat), vs = [.int (x : Nat)] ∧ x < 10 ^ n ∧ n ≤ 1000 ∧
  ∀ (H' : Hp) (p : Addr) (qs : List Addr), H p = none → Same H H' → H' p = some (.lst (qs.map V.ref)) → Pairs H' qs (pl n x) → Q (.ref p) H'
def spAddN (C : Addr) : Sp := fun vs H Q _ => ∃ (a u l t : Addr) (f : Kab.Frame) (ms : List Kab.Move) (k x n : Nat), vs = [.ref a, .int (k : Nat), .int (x : Nat)] ∧
  FrAt C H a u l t f ms ∧ Ok f ∧ x < 10 ^ n ∧ n ≤ 1000 ∧ Kab.valueOf f + x * 10 ^ k < 10 ^ 12 ∧ ms.length + (Kab.addNumber n f k x).length ≤ most ∧ Post C H a u l t f ms (Kab.addNumber n f k x) Q
def spTakeN (C : Addr) : Sp := fun vs H Q _ => ∃ (a u l t : Addr) (f : Kab.Frame) (ms : List Kab.Move) (k x n : Nat), vs = [.ref a, .int (k : Nat), .int (x : Nat)] ∧
  FrAt C H a u l t f ms ∧ Ok f ∧ x < 10 ^ n ∧ n ≤ 1000 ∧ x * 10 ^ k ≤ Kab.valueOf f ∧ ms.length + (Kab.takeNumber n f k x).length ≤ most ∧ Post C H a u l t f ms (Kab.takeNumber n f k x) Q

section
variable {P : Program} {w : World} {K : PySem.W.Frag} {mg : Str → Option Value} {base : Heap} {C : Addr}
theorem scPlaced : FnScope ["number", "placed", "place", "digit"] ["number"] (defScope sPlaced) := ⟨rfl, rfl, rfl, by decide +kernel, rfl, by decide +kernel, by decide +kernel⟩
theorem same_new {H : Hp} {p : Addr} (h : H p = none) (o : HO) : Same H (upd H p o) := fun b u q => by rw [upd_ne (ne_of_none q h)]; exact q
def firstNat (σ : L2.St) : Nat := match σ with
  | some (.int z) :: _ => z.toNat
  | _ => 0
theorem ok_placed {x : Addr} {fd : FuncData} (F : Fun K "placed_digits" "placed_digits" sPlaced x fd) : FnOk P w K mg base CX0 1 x fd ["number"] spPlaced := by
  refine F.ok scPlaced (fun vs H Q E h => ?_) (fun cdv A outer s H vs Q E hr h => ?_)
  · obtain ⟨x, n, rfl, _⟩ := h
    rfl
  obtain ⟨x, n, rfl, hx, hn, q⟩ := h
  refine ⟨_, pss_cons (ps_set (i := 1) scPlaced.nd rfl (Or.inl rfl) (pe_lst pa_nil))
    (pss_cons (ps_set (i := 2) scPlaced.nd rfl (Or.inl rfl) pe_int)
    (pss_cons (ps_while PassesOwn.never (pt_cmpR op_gt (pv 0) pe_int (nomark _))
      (pss_cons (ps_set (i := 3) scPlaced.nd rfl (Or.inl rfl) (pe_op op_mod (pv 0) pe_int))
      (pss_cons (ps_if (pt_cmpR op_gt (pv 3) pe_int (nomark _))
          (pss_one (ps_expr (pe_bm PySem.F.plainAttrs_list PySem.F.slot_list_append PySem.F.type_list_append mt_append (pv 1) (pa_cons (pe_tup (pa_cons (pv 2) (pa_cons (pv 3) pa_nil))) pa_nil)))) pss_nil)
      (pss_cons (ps_set (i := 0) scPlaced.nd rfl (Or.inl rfl) (pe_op op_fdiv (pv 0) pe_int))
      (pss_one (ps_aug (i := 2) scPlaced.nd rfl (Or.inl rfl) pe_int ip_add))))))
    (pss_cons (ps_expr (pe_bm0 PySem.F.plainAttrs_list PySem.F.slot_list_reverse PySem.F.type_list_reverse mt_reverse (pv 1)))
    (pss_one (ps_ret (pv 1)))))), ?_⟩
  refine ⟨(by show 0 ≤ sizeLine; decide), fun p np => ?_⟩
  refine while_by (fun σ H' => ∃ (j : Nat) (qs : List Addr) (v : Option V), σ = [some (.int (x / 10 ^ j : Nat)), some (.ref p), some (.int (j : Nat)), v] ∧ j ≤ n ∧
      H' p = some (.lst (qs.map V.ref)) ∧ Pairs H' qs (pl j x).reverse ∧ Same H H') (fun σ _ => firstNat σ) ?_ ?_ ?_
  · refine ⟨0, [], none, ?_, Nat.zero_le _, upd_same, rfl, same_new np _⟩
    rw [Nat.pow_zero, Nat.div_one]
    rfl
  · rintro σ H' ⟨j, qs, v, rfl, hj, hp, pr, sm⟩
    refine ⟨_, rfl, _, _, rfl, rfl, _, rfl, ?_⟩
    by_cases c : 0 < x / 10 ^ j
    · have hjn : j < n := by
        apply Nat.lt_of_not_le
        intro z
        have : x < 10 ^ j := Nat.lt_of_lt_of_le hx (Nat.pow_le_pow_right (by omega) z)
        rw [Nat.div_eq_of_lt this] at c
        omega
      refine if_true_of (decide_eq_true (by omega)) ?_
      have dg : ((x / 10 ^ j : Nat) : Int) % 10 = ((Kab.digit x j : Nat) : Int) := by
        unfold Kab.digit
        omega
      have dv : ((x / 10 ^ j : Nat) : Int) / 10 = ((x / 10 ^ (j + 1) : Nat) : Int) := by
        rw [Nat.pow_succ, ← Nat.div_div_eq_div_mul]
        omega
      have ql : qs.length ≤ j := by
        have e := pr.len
        rw [List.length_reverse] at e
        have := pl_len j x
        omega
      refine ⟨_, rfl, _, _, rfl, rfl, (by show (0 : Int) < 10; decide), ?_⟩
      refine ⟨_, rfl, _, _, rfl, rfl, _, rfl, ?_⟩
      by_cases c2 : 0 < Kab.digit x j
      · refine if_true_of (decide_eq_true (by omega)) ?_
        refine ⟨_, rfl, .inl ⟨rfl, _, SqL.of hp⟩, _, rfl, _, rfl, (by show 2 ≤ sizeLine; decide), fun q1 hq => ?_⟩
        have pq : p ≠ q1 := ne_of_none hp hq
        refine ⟨p, _, _, rfl, rfl, (by rw [upd_ne pq]; exact hp), ?_, ?_⟩
        · rw [List.length_map]
          exact Nat.lt_of_le_of_lt (show qs.length ≤ 1000 by omega) (by decide)
        refine ⟨_, rfl, _, _, rfl, rfl, ⟨by decide, by decide⟩, ?_⟩
        refine ⟨_, rfl, _, _, rfl, rfl, ⟨j + 1, qs ++ [q1], some (.int (((x / 10 ^ j : Nat) : Int) % 10)), ?_, hjn, ?_, ?_, ?_⟩, ?_⟩
        · rw [← dv]; rfl
        · rw [upd_same, List.map_append]; rfl
        · rw [pl_pos (by omega), List.reverse_cons]
          refine Pairs.snoc (pr.mono fun z xs e => ?_) ?_
          · rw [upd_ne (ne_of e hp (by intro z; cases z)), upd_ne (ne_of_none e hq)]; exact e
          · rw [upd_ne pq.symm, upd_same]
            show some (HO.tup [V.int (j : Nat), V.int (((x / 10 ^ j : Nat) : Int) % 10)]) = _
            rw [dg]
            rfl
        · intro b o e
          rw [upd_ne (ne_of_none e np), upd_ne (ne_of_none (sm b o e) hq)]
          exact sm b o e
        · show (((x / 10 ^ j : Nat) : Int) / 10).toNat < ((x / 10 ^ j : Nat) : Int).toNat
          omega
      · refine if_false_of (decide_eq_false (by omega)) ?_
        refine ⟨_, rfl, _, _, rfl, rfl, ⟨by decide, by decide⟩, ?_⟩
        refine ⟨_, rfl, _, _, rfl, rfl, ⟨j + 1, qs, some (.int (((x / 10 ^ j : Nat) : Int) % 10)), ?_, hjn, hp, ?_, sm⟩, ?_⟩
        · rw [← dv]; rfl
        · rw [pl_zero (by omega)]
          exact pr
        · show (((x / 10 ^ j : Nat) : Int) / 10).toNat < ((x / 10 ^ j : Nat) : Int).toNat
          omega
    · refine if_false_of (decide_eq_false (by omega)) ?_
      have hx0 : x < 10 ^ j := by
        have pos : 0 < 10 ^ j := Nat.pow_pos (by omega)
        have e : x / 10 ^ j = 0 := Nat.eq_zero_of_not_pos c
        rcases Nat.div_eq_zero_iff.mp e with z | z
        · omega
        · exact z
      refine ⟨_, rfl, .inl ⟨rfl, _, SqL.of hp⟩, p, _, rfl, rfl, hp, ?_⟩
      refine ⟨_, rfl, ?_⟩
      refine q _ p qs.reverse np (fun b o e => ?_) ?_ ?_
      · rw [upd_ne (ne_of_none e np)]; exact sm b o e
      · rw [upd_same, List.map_reverse]
      · rw [pl_any hx hx0]
        have pr2 := pr.reverse
        rw [List.reverse_reverse] at pr2
        refine pr2.mono fun z xs e => ?_
        rw [upd_ne (ne_of e hp (by intro z; cases z))]
        exact e
  · rintro σ H' R R' h ⟨v, e, i, j, e1, e2, k, e3, q⟩
    exact ⟨v, e, i, j, e1, e2, k, e3, h _ _ q⟩

theorem Kept.tup {H H' : Hp} {a u l t : Addr} {f : Kab.Frame} {ms : List Kab.Move} (F : FrAt C H a u l t f ms) (k : Kept H H' u l t) : ∀ q xs, H q = some (.tup xs) → H' q = some (.tup xs) := fun q xs e =>
  let ⟨h1, h2, h3⟩ := F.no e (by intro xs z; cases z)
  k _ _ e h1 h2 h3
theorem Kept.same {H H' : Hp} {u l t : Addr} (s : Same H H') : Kept H H' u l t := fun b o e _ _ _ => s b o e
theorem FrAt.same {H H' : Hp} {a u l t : Addr} {f : Kab.Frame} {ms : List Kab.Move} (F : FrAt C H a u l t f ms) (s : Same H H') : FrAt C H' a u l t f ms := F.keep fun b o e _ => s b o e
theorem map_at {qs : List Addr} {i : Nat} {y : V} (h : (qs.map V.ref)[i]? = some y) : ∃ q, qs[i]? = some q ∧ y = .ref q := by
  rw [List.getElem?_map] at h
  cases e : qs[i]? with
  | none => rw [e] at h; cases h
  | some q => rw [e] at h; exact ⟨q, rfl, (Option.some.inj h).symm⟩
abbrev psN : List Str := ["frame", "rod", "number"]
theorem scAddN : FnScope ["frame", "rod", "number", "place", "digit"] psN (defScope sAddN) := ⟨rfl, rfl, rfl, by decide +kernel, rfl, by decide +kernel, by decide +kernel⟩
theorem ok_addN {x : Addr} {fd : FuncData} (F : Fun K "add_number" "add_number" sAddN x fd) (PL : HasF P w K mg base "placed_digits" 1 ["number"] spPlaced) (AD : HasF P w K mg base "add_digit" 15 ps3 (spAddD C 12)) :
    FnOk P w K mg base CX0 16 x fd psN (spAddN C) := by
  refine F.ok scAddN (fun vs H Q E h => ?_) (fun cdv A outer s H vs Q E hr h => ?_)
  · obtain ⟨a, u, l, t, f, ms, k, x, n, rfl, _⟩ := h
    rfl
  obtain ⟨a, u, l, t, f, ms, k, x, n, rfl, FA, o, hx, hn, hv, hms, q⟩ := h
  obtain ⟨yp, gp, mP, kP, bP, GP⟩ := PL
  obtain ⟨ya, ga, mA, kA, bA, GA⟩ := AD
  refine ⟨_, pss_one (ps_for PassesOwn.never rfl (pi_list (pe_call GP (hr.mono (by omega)) rfl mP kP bP .nil pass0 (pa_cons (pv 2) pa_nil)))
    (pg_tup rfl (pgs_cons (pg_name (i := 3) scAddN.nd rfl (.inl rfl)) (pgs_cons (pg_name (i := 4) scAddN.nd rfl (.inl rfl)) pgs_nil)))
    (pss_one (ps_expr (pe_call GA hr rfl mA kA bA .nil pass0 (pa_cons (pv 0) (pa_cons (pe_op op_add (pv 1) (pv 3)) (pa_cons (pv 4) pa_nil))))))), ?_⟩
  rw [addNumber_list] at hms q
  have sm := pl_sum n x
  rw [Nat.mod_eq_of_lt hx] at sm
  have dok := pl_ok n x
  rw [← sm] at hv
  generalize hL : pl n x = L at *
  refine ⟨_, rfl, x, n, rfl, hx, hn, fun H1 p qs np s1 hp pr => ?_⟩
  rw [hL] at pr
  obtain ⟨pa, pu, pll, pt⟩ := FA.new np
  refine ⟨p, rfl, ⟨_, SqL.of hp⟩, for_list (K := K) (a := p) (xs := qs.map V.ref) (fun i σ H' => ∃ (g : Kab.Frame) (mi : List Kab.Move) (v1 v2 : Option V), σ = [some (.ref a), some (.int (k : Nat)), some (.int (x : Nat)), v1, v2] ∧
      FrAt C H' a u l t g mi ∧ Ok g ∧ mi ++ addList g k (L.drop i) = ms ++ addList f k L ∧ Kab.after g (addList g k (L.drop i)) = Kab.after f (addList f k L) ∧ Kab.valueOf g + sumL (L.drop i) * 10 ^ k < 10 ^ 12 ∧
      Kept H H' u l t ∧ H' p = some (.lst (qs.map V.ref)) ∧ Pairs H' qs L)
    ⟨f, ms, none, none, rfl, FA.same s1, o, rfl, rfl, hv, .same s1, hp, pr⟩ (fun i σ H' _ ⟨_, _, _, _, _, _, _, _, _, _, _, z, _⟩ => SqL.of z) ?_ ?_⟩
  · rintro i y σ H' hi ⟨g, mi, v1, v2, rfl, Fg, og, e1, e2, hg, kp, hp2, pr2⟩
    obtain ⟨q1, hq1, rfl⟩ := map_at hi
    obtain ⟨⟨pc, d⟩, hz, tq⟩ := pr2.at_ hq1
    have hd : 1 ≤ d ∧ d ≤ 9 := dok _ (List.mem_of_getElem? hz)
    rw [drop_of hz] at e1 e2 hg
    have e3 : sumL ((pc, d) :: L.drop (i + 1)) * 10 ^ k = d * 10 ^ (k + pc) + sumL (L.drop (i + 1)) * 10 ^ k := by
      show (d * 10 ^ pc + sumL (L.drop (i + 1))) * 10 ^ k = _
      rw [Nat.add_mul, Nat.mul_assoc, ← Nat.pow_add, Nat.add_comm pc k]
    rw [e3] at hg
    have e4 : addList g k ((pc, d) :: L.drop (i + 1)) = Kab.addAt Kab.rods g (k + pc) d ++ addList (Kab.after g (Kab.addAt Kab.rods g (k + pc) d)) k (L.drop (i + 1)) := rfl
    rw [e4] at e1 e2
    rw [← List.append_assoc] at e1
    rw [after_append] at e2
    obtain ⟨o1, v1'⟩ := add_after (n := Kab.rods) og hd.1 hd.2 (by show 12 ≤ k + pc + 12; omega) (show Kab.valueOf g + d * 10 ^ (k + pc) < 10 ^ 12 by omega)
    have hlen : mi.length + (Kab.addAt Kab.rods g (k + pc) d).length ≤ most := by
      have z := congrArg List.length e1
      rw [List.length_append, List.length_append, List.length_append] at z
      omega
    refine ⟨q1, _, rfl, SqT.of tq, rfl, _, _, rfl, _, _, rfl, rfl, ?_⟩
    refine ⟨_, rfl, _, rfl, _, rfl, _, _, rfl, rfl, _, rfl, a, u, l, t, g, mi, k + pc, d, Kab.rods, rfl, Fg, og, hd.1, hd.2, by omega, by show 12 ≤ k + pc + 12; omega, by omega, hlen, fun H2 F2 k2 => ?_⟩
    exact ⟨_, _, _, _, rfl, F2, o1, e1, e2, by omega, kp.trans k2, k2 _ _ hp2 pu pll pt, pr2.mono (Kept.tup Fg k2)⟩
  · rintro σ H' ⟨g, mi, v1, v2, rfl, Fg, og, e1, e2, hg, kp, hp2, pr2⟩
    have le := pr2.len
    rw [List.length_map, le, List.drop_length] at e1 e2
    refine q H' ?_ kp
    have e5 : addList g k [] = [] := rfl
    rw [e5, List.append_nil] at e1
    rw [e5] at e2
    rw [← e1, ← e2]
    exact Fg
theorem scTakeN : FnScope ["frame", "rod", "number", "place", "digit"] psN (defScope sTakeN) := ⟨rfl, rfl, rfl, by decide +kernel, rfl, by decide +kernel, by decide +kernel⟩
theorem ok_takeN {x : Addr} {fd : FuncData} (F : Fun K "take_number" "take_number" sTakeN x fd) (PL : HasF P w K mg base "placed_digits" 1 ["number"] spPlaced) (AD : HasF P w K mg base "take_digit" 15 ps3 (spTakeD C 12)) :
    FnOk P w K mg base CX0 16 x fd psN (spTakeN C) := by
  refine F.ok scTakeN (fun vs H Q E h => ?_) (fun cdv A outer s H vs Q E hr h => ?_)
  · obtain ⟨a, u, l, t, f, ms, k, x, n, rfl, _⟩ := h
    rfl
  obtain ⟨a, u, l, t, f, ms, k, x, n, rfl, FA, o, hx, hn, hv, hms, q⟩ := h
  obtain ⟨yp, gp, mP, kP, bP, GP⟩ := PL
  obtain ⟨ya, ga, mA, kA, bA, GA⟩ := AD
  refine ⟨_, pss_one (ps_for PassesOwn.never rfl (pi_list (pe_call GP (hr.mono (by omega)) rfl mP kP bP .nil pass0 (pa_cons (pv 2) pa_nil)))
    (pg_tup rfl (pgs_cons (pg_name (i := 3) scTakeN.nd rfl (.inl rfl)) (pgs_cons (pg_name (i := 4) scTakeN.nd rfl (.inl rfl)) pgs_nil)))
    (pss_one (ps_expr (pe_call GA hr rfl mA kA bA .nil pass0 (pa_cons (pv 0) (pa_cons (pe_op op_add (pv 1) (pv 3)) (pa_cons (pv 4) pa_nil))))))), ?_⟩
  rw [takeNumber_list] at hms q
  have sm := pl_sum n x
  rw [Nat.mod_eq_of_lt hx] at sm
  have dok := pl_ok n x
  rw [← sm] at hv
  generalize hL : pl n x = L at *
  refine ⟨_, rfl, x, n, rfl, hx, hn, fun H1 p qs np s1 hp pr => ?_⟩
  rw [hL] at pr
  obtain ⟨pa, pu, pll, pt⟩ := FA.new np
  refine ⟨p, rfl, ⟨_, SqL.of hp⟩, for_list (K := K) (a := p) (xs := qs.map V.ref) (fun i σ H' => ∃ (g : Kab.Frame) (mi : List Kab.Move) (v1 v2 : Option V), σ = [some (.ref a), some (.int (k : Nat)), some (.int (x : Nat)), v1, v2] ∧
      FrAt C H' a u l t g mi ∧ Ok g ∧ mi ++ takeList g k (L.drop i) = ms ++ takeList f k L ∧ Kab.after g (takeList g k (L.drop i)) = Kab.after f (takeList f k L) ∧ sumL (L.drop i) * 10 ^ k ≤ Kab.valueOf g ∧
      Kept H H' u l t ∧ H' p = some (.lst (qs.map V.ref)) ∧ Pairs H' qs L)
    ⟨f, ms, none, none, rfl, FA.same s1, o, rfl, rfl, hv, .same s1, hp, pr⟩ (fun i σ H' _ ⟨_, _, _, _, _, _, _, _, _, _, _, z, _⟩ => SqL.of z) ?_ ?_⟩
  · rintro i y σ H' hi ⟨g, mi, v1, v2, rfl, Fg, og, e1, e2, hg, kp, hp2, pr2⟩
    obtain ⟨q1, hq1, rfl⟩ := map_at hi
    obtain ⟨⟨pc, d⟩, hz, tq⟩ := pr2.at_ hq1
    have hd : 1 ≤ d ∧ d ≤ 9 := dok _ (List.mem_of_getElem? hz)
    rw [drop_of hz] at e1 e2 hg
    have e3 : sumL ((pc, d) :: L.drop (i + 1)) * 10 ^ k = d * 10 ^ (k + pc) + sumL (L.drop (i + 1)) * 10 ^ k := by
      show (d * 10 ^ pc + sumL (L.drop (i + 1))) * 10 ^ k = _
      rw [Nat.add_mul, Nat.mul_assoc, ← Nat.pow_add, Nat.add_comm pc k]
    rw [e3] at hg
    have e4 : takeList g k ((pc, d) :: L.drop (i + 1)) = Kab.takeAt Kab.rods g (k + pc) d ++ takeList (Kab.after g (Kab.takeAt Kab.rods g (k + pc) d)) k (L.drop (i + 1)) := rfl
    rw [e4] at e1 e2
    rw [← List.append_assoc] at e1
    rw [after_append] at e2
    obtain ⟨o1, v1'⟩ := take_after (n := Kab.rods) og hd.1 hd.2 (by show 12 ≤ k + pc + 12; omega) (show d * 10 ^ (k + pc) ≤ Kab.valueOf g by omega)
    have hlen : mi.length + (Kab.takeAt Kab.rods g (k + pc) d).length ≤ most := by
      have z := congrArg List.length e1
      rw [List.length_append, List.length_append, List.length_append] at z
      omega
    refine ⟨q1, _, rfl, SqT.of tq, rfl, _, _, rfl, _, _, rfl, rfl, ?_⟩
    refine ⟨_, rfl, _, rfl, _, rfl, _, _, rfl, rfl, _, rfl, a, u, l, t, g, mi, k + pc, d, Kab.rods, rfl, Fg, og, hd.1, hd.2, by omega, by show 12 ≤ k + pc + 12; omega, by omega, hlen, fun H2 F2 k2 => ?_⟩
    exact ⟨_, _, _, _, rfl, F2, o1, e1, e2, by omega, kp.trans k2, k2 _ _ hp2 pu pll pt, pr2.mono (Kept.tup Fg k2)⟩
  · rintro σ H' ⟨g, mi, v1, v2, rfl, Fg, og, e1, e2, hg, kp, hp2, pr2⟩
    have le := pr2.len
    rw [List.length_map, le, List.drop_length] at e1 e2
    refine q H' ?_ kp
    have e5 : takeList g k [] = [] := rfl
    rw [e5, List.append_nil] at e1
    rw [e5] at e2
    rw [← e1, ← e2]
    exact Fg
end
end Bead

set_option Elab.async false
set_option maxRecDepth 100000
set_option maxHeartbeats 2000000
namespace Bead
open PySem PySem.Spec PyProof.Rows L2
def spProd (C : Addr) : Sp := fun vs H Q _ => ∃ (a u l t : Addr) (f : Kab.Frame) (ms : List Kab.Move) (x y n m : Nat), vs = [.ref a, .int (x : Nat), .int (y : Nat)] ∧
  FrAt C H a u l t f ms ∧ Ok f ∧ (x < 10 ^ n ∧ n ≤ 1000) ∧ (y < 10 ^ m ∧ m ≤ 1000) ∧ Kab.valueOf f + x * y < 10 ^ 12 ∧ ms.length + (outer f (pl m y) (pl n x)).length ≤ most ∧ Post C H a u l t f ms (outer f (pl m y) (pl n x)) Q
def spClear (C : Addr) : Sp := fun vs H Q _ => ∃ (a u l t : Addr) (f : Kab.Frame) (ms : List Kab.Move), vs = [.ref a] ∧
  FrAt C H a u l t f ms ∧ Ok f ∧ ms.length + (Kab.clearing f).length ≤ most ∧ Post C H a u l t f ms (Kab.clearing f) Q

section
variable {P : Program} {w : World} {K : PySem.W.Frag} {mg : Str → Option Value} {base : Heap} {C : Addr}
theorem scProd : FnScope ["frame", "a", "b", "digits_of_b", "place_a", "digit_a", "place_b", "digit_b"] ["frame", "a", "b"] (defScope sProd) := ⟨rfl, rfl, rfl, by decide +kernel, rfl, by decide +kernel, by decide +kernel⟩
theorem ok_prod {x : Addr} {fd : FuncData} (F : Fun K "add_product" "add_product" sProd x fd) (PL : HasF P w K mg base "placed_digits" 1 ["number"] spPlaced) (AN : HasF P w K mg base "add_number" 16 psN (spAddN C)) :
    FnOk P w K mg base CX0 17 x fd ["frame", "a", "b"] (spProd C) := by
  refine F.ok scProd (fun vs H Q E h => ?_) (fun cdv A outer s H vs Q E hr h => ?_)
  · obtain ⟨a, u, l, t, f, ms, x, y, n, m, rfl, _⟩ := h
    rfl
  obtain ⟨a, u, l, t, f, ms, x, y, n, m, rfl, FA, o, ⟨hx, hn⟩, ⟨hy, hm⟩, hv, hms, q⟩ := h
  obtain ⟨yp, gp, mP, kP, bP, GP⟩ := PL
  obtain ⟨ya, ga, mA, kA, bA, GA⟩ := AN
  refine ⟨_, pss_cons (ps_set (i := 3) scProd.nd rfl (Or.inl rfl) (pe_call GP (hr.mono (by omega)) rfl mP kP bP .nil pass0 (pa_cons (pv 2) pa_nil)))
    (pss_one (ps_for PassesOwn.never rfl (pi_list (pe_call GP (hr.mono (by omega)) rfl mP kP bP .nil pass0 (pa_cons (pv 1) pa_nil)))
      (pg_tup rfl (pgs_cons (pg_name (i := 4) scProd.nd rfl (.inl rfl)) (pgs_cons (pg_name (i := 5) scProd.nd rfl (.inl rfl)) pgs_nil)))
      (pss_one (ps_for PassesOwn.never rfl (pi_list (pv 3))
        (pg_tup rfl (pgs_cons (pg_name (i := 6) scProd.nd rfl (.inl rfl)) (pgs_cons (pg_name (i := 7) scProd.nd rfl (.inl rfl)) pgs_nil)))
        (pss_one (ps_expr (pe_call GA hr rfl mA kA bA .nil pass0 (pa_cons (pv 0) (pa_cons (pe_op op_add (pv 4) (pv 6)) (pa_cons (pe_op op_mul (pv 5) (pv 7)) pa_nil)))))))))), ?_⟩
  have smA := pl_sum n x
  have smB := pl_sum m y
  rw [Nat.mod_eq_of_lt hx] at smA
  rw [Nat.mod_eq_of_lt hy] at smB
  have dokA := pl_ok n x
  have dokB := pl_ok m y
  rw [← smA, ← smB] at hv
  generalize hLA : pl n x = LA at *
  generalize hLB : pl m y = LB at *
  refine ⟨_, rfl, y, m, rfl, hy, hm, fun H1 pb qb nb s1 hb prb => ?_⟩
  rw [hLB] at prb
  refine ⟨_, rfl, x, n, rfl, hx, hn, fun H2 pa qa na s2 ha pra => ?_⟩
  rw [hLA] at pra
  obtain ⟨_, pbu, pbl, pbt⟩ := FA.new nb
  obtain ⟨_, pau, pal, pat⟩ := (FA.same s1).new na
  refine ⟨pa, rfl, ⟨_, SqL.of ha⟩, for_list (K := K) (a := pa) (xs := qa.map V.ref) (fun i σ H' => ∃ (g : Kab.Frame) (mi : List Kab.Move) (v1 v2 v3 v4 : Option V), σ = [some (.ref a), some (.int (x : Nat)), some (.int (y : Nat)), some (.ref pb), v1, v2, v3, v4] ∧
      FrAt C H' a u l t g mi ∧ Ok g ∧ mi ++ Bead.outer g LB (LA.drop i) = ms ++ Bead.outer f LB LA ∧ Kab.after g (Bead.outer g LB (LA.drop i)) = Kab.after f (Bead.outer f LB LA) ∧ Kab.valueOf g + sumL (LA.drop i) * sumL LB < 10 ^ 12 ∧
      Kept H H' u l t ∧ (H' pa = some (.lst (qa.map V.ref)) ∧ Pairs H' qa LA) ∧ (H' pb = some (.lst (qb.map V.ref)) ∧ Pairs H' qb LB))
    ⟨f, ms, none, none, none, none, rfl, (FA.same s1).same s2, o, rfl, rfl, hv, .same (s1.trans s2), ⟨ha, pra⟩, ⟨s2 _ _ hb, prb.mono fun z xs e => s2 _ _ e⟩⟩ (fun i σ H' _ ⟨_, _, _, _, _, _, _, _, _, _, _, _, _, z, _⟩ => SqL.of z.1) ?_ ?_⟩
  · rintro i w0 σ H' hi ⟨g, mi, v1, v2, v3, v4, rfl, Fg, og, e1, e2, hg, kp, ⟨ha2, pra2⟩, ⟨hb2, prb2⟩⟩
    obtain ⟨q1, hq1, rfl⟩ := map_at hi
    obtain ⟨⟨pc, d⟩, hz, tq⟩ := pra2.at_ hq1
    have hd : 1 ≤ d ∧ d ≤ 9 := dokA _ (List.mem_of_getElem? hz)
    rw [drop_of hz] at e1 e2 hg
    have e3 : sumL ((pc, d) :: LA.drop (i + 1)) * sumL LB = d * 10 ^ pc * sumL LB + sumL (LA.drop (i + 1)) * sumL LB := by
      show (d * 10 ^ pc + sumL (LA.drop (i + 1))) * sumL LB = _
      rw [Nat.add_mul]
    rw [e3] at hg
    have e4 : Bead.outer g LB ((pc, d) :: LA.drop (i + 1)) = Bead.inner g pc d LB ++ Bead.outer (Kab.after g (Bead.inner g pc d LB)) LB (LA.drop (i + 1)) := rfl
    rw [e4, ← List.append_assoc] at e1
    rw [e4, after_append] at e2
    generalize LA.drop (i + 1) = RA at *
    refine ⟨q1, _, rfl, SqT.of tq, rfl, _, _, rfl, _, _, rfl, rfl, ?_⟩
    refine ⟨_, rfl, pb, rfl, ⟨_, SqL.of hb2⟩, for_list (K := K) (a := pb) (xs := qb.map V.ref) (fun j σ H' => ∃ (g : Kab.Frame) (mi : List Kab.Move) (v3 v4 : Option V), σ = [some (.ref a), some (.int (x : Nat)), some (.int (y : Nat)), some (.ref pb), some (.int (pc : Nat)), some (.int (d : Nat)), v3, v4] ∧
        FrAt C H' a u l t g mi ∧ Ok g ∧ mi ++ Bead.inner g pc d (LB.drop j) ++ Bead.outer (Kab.after g (Bead.inner g pc d (LB.drop j))) LB RA = ms ++ Bead.outer f LB LA ∧
        Kab.after (Kab.after g (Bead.inner g pc d (LB.drop j))) (Bead.outer (Kab.after g (Bead.inner g pc d (LB.drop j))) LB RA) = Kab.after f (Bead.outer f LB LA) ∧ Kab.valueOf g + (d * 10 ^ pc * sumL (LB.drop j) + sumL RA * sumL LB) < 10 ^ 12 ∧
        Kept H H' u l t ∧ (H' pa = some (.lst (qa.map V.ref)) ∧ Pairs H' qa LA) ∧ (H' pb = some (.lst (qb.map V.ref)) ∧ Pairs H' qb LB))
      ⟨g, mi, v3, v4, rfl, Fg, og, e1, e2, hg, kp, ⟨ha2, pra2⟩, ⟨hb2, prb2⟩⟩ (fun i σ H' _ ⟨_, _, _, _, _, _, _, _, _, _, _, _, z⟩ => SqL.of z.1) ?_ ?_⟩
    · clear hg e1 e2 og Fg kp ha2 pra2 hb2 prb2 e3 e4 v1 v2 v3 v4 mi g
      rintro j w0 σ H' hi ⟨g, mi, v3, v4, rfl, Fg, og, e1, e2, hg, kp, ⟨ha2, pra2⟩, ⟨hb2, prb2⟩⟩
      obtain ⟨q2, hq2, rfl⟩ := map_at hi
      obtain ⟨⟨pe, db⟩, hz2, tq2⟩ := prb2.at_ hq2
      have hdb : 1 ≤ db ∧ db ≤ 9 := dokB _ (List.mem_of_getElem? hz2)
      rw [drop_of hz2] at e1 e2 hg
      have e3 : d * 10 ^ pc * sumL ((pe, db) :: LB.drop (j + 1)) = d * db * 10 ^ (pc + pe) + d * 10 ^ pc * sumL (LB.drop (j + 1)) := by
        show d * 10 ^ pc * (db * 10 ^ pe + sumL (LB.drop (j + 1))) = _
        rw [Nat.mul_add, Nat.pow_add, Nat.mul_mul_mul_comm]
      rw [e3] at hg
      have e4 : Bead.inner g pc d ((pe, db) :: LB.drop (j + 1)) = Kab.addNumber 2 g (pc + pe) (d * db) ++ Bead.inner (Kab.after g (Kab.addNumber 2 g (pc + pe) (d * db))) pc d (LB.drop (j + 1)) := rfl
      rw [e4, after_append, ← List.append_assoc] at e1
      rw [e4, after_append] at e2
      have le : d * db ≤ 9 * 9 := Nat.mul_le_mul hd.2 hdb.2
      have lt2 : d * db < 10 ^ 2 := by omega
      obtain ⟨o1, v1'⟩ := addNumber_after (n := 2) og lt2 (show Kab.valueOf g + d * db * 10 ^ (pc + pe) < 10 ^ 12 by omega)
      have hlen : mi.length + (Kab.addNumber 2 g (pc + pe) (d * db)).length ≤ most := by
        have z := congrArg List.length e1
        rw [List.length_append, List.length_append, List.length_append, List.length_append] at z
        omega
      refine ⟨q2, _, rfl, SqT.of tq2, rfl, _, _, rfl, _, _, rfl, rfl, ?_⟩
      refine ⟨_, rfl, _, rfl, _, rfl, _, _, rfl, rfl, _, rfl, _, rfl, _, _, rfl, rfl, .inl ⟨by omega, by omega⟩, a, u, l, t, g, mi, pc + pe, d * db, 2, rfl, Fg, og, lt2, by omega, by omega, hlen, fun H2 F2 k2 => ?_⟩
      exact ⟨_, _, _, _, rfl, F2, o1, e1, e2, by omega, kp.trans k2, ⟨k2 _ _ ha2 pau pal pat, pra2.mono (Kept.tup Fg k2)⟩, ⟨k2 _ _ hb2 pbu pbl pbt, prb2.mono (Kept.tup Fg k2)⟩⟩
    · clear hg e1 e2 og Fg kp ha2 pra2 hb2 prb2 e3 e4 v1 v2 v3 v4 mi g
      rintro σ H' ⟨g, mi, v3, v4, rfl, Fg, og, e1, e2, hg, kp, ha2, hb2⟩
      have lb := hb2.2.len
      rw [List.length_map, lb, List.drop_length] at e1 e2 hg
      have e5 : Bead.inner g pc d [] = [] := rfl
      have e6 : Kab.after g [] = g := rfl
      rw [e5, e6, List.append_nil] at e1
      rw [e5, e6] at e2
      have e7 : d * 10 ^ pc * sumL [] = 0 := Nat.mul_zero _
      exact ⟨g, mi, _, _, v3, v4, rfl, Fg, og, e1, e2, by omega, kp, ha2, hb2⟩
  · rintro σ H' ⟨g, mi, v1, v2, v3, v4, rfl, Fg, og, e1, e2, hg, kp, ha2, hb2⟩
    have la := ha2.2.len
    rw [List.length_map, la, List.drop_length] at e1 e2
    refine q H' ?_ kp
    have e5 : Bead.outer g LB [] = [] := rfl
    rw [e5, List.append_nil] at e1
    rw [e5] at e2
    rw [← e1, ← e2]
    exact Fg

theorem clrN_le (f : Kab.Frame) : ∀ (i n : Nat), (clrN f i).length ≤ (clrN f (i + n)).length
  | i, 0 => Nat.le_refl _
  | i, n + 1 => by
    have ih := clrN_le f i n
    show _ ≤ (clrN f (i + n) ++ clr f (11 - (i + n))).length
    rw [List.length_append]
    omega
theorem scClear : FnScope ["frame", "rod"] ["frame"] (defScope sClear) := ⟨rfl, rfl, rfl, by decide +kernel, rfl, by decide +kernel, by decide +kernel⟩
/-- if frame.lowers_up[rod] > 0: frame.make(rod, LOWER_DOWN, frame.lowers_up[rod]) -/
theorem clear_lower {H : Hp} {a u l t : Addr} {f : Kab.Frame} {ms : List Kab.Move} {k : Nat} {Q : VK} {D : Ends} {σ : L2.St} {E : XK} (T : Txt K mg C) (F : FrAt C H a u l t f ms) (len : f.length = 12) (hk : k < 12) (h0 : σ[0]? = some (some (.ref a))) (h1 : σ[1]? = some (some (.int (k : Nat))))
    (hms : ms.length + (Kab.lower k 1 (Kab.rod f k).ones).length ≤ most) (p : Post C H a u l t f ms (Kab.lower k 1 (Kab.rod f k).ones) Q) (fin : ∀ H', Q .non H' → D.nx σ H') :
    tIfS (tTest (tOp (rI0 fun i j => V.bl (decide (j < i))) (tOp (rIxL K) (tFld K (tVar 0) "lowers_up") (tVar 1)) (tC (.int 0))))
      (tDrop (tMeth C "make" (spMake C) [] E (tVar 0) (tCons (tVar 1) (tCons (tC (.int 1)) (tCons (tOp (rIxL K) (tFld K (tVar 0) "lowers_up") (tVar 1)) tNil))))) tNext D σ H := by
  obtain ⟨dx, ins⟩ := id F.ins
  have hl : k < f.length := by rw [len]; exact hk
  refine ⟨_, h0, a, C, dx, _, _, rfl, ins, T.cl, T.nL, bF_l u l t, _, h1, l, _, _, _, rfl, rfl, SqL.of F.lo, at_l hl, _, _, rfl, rfl, _, rfl, ?_⟩
  by_cases c : (Kab.rod f k).ones = 0
  · rw [lower_zero c] at p
    exact if_false_of (decide_eq_false (by omega)) (fin _ (p.nil F))
  · refine if_true_of (decide_eq_true (by omega)) ?_
    rw [lower_pos c] at p hms
    have m1 := made1 (f := f) hk (show 1 ≤ (Kab.rod f k).ones by omega) (Nat.le_refl _)
    exact do_make F len m1 hms p h0 (fun R r => ⟨_, h1, _, h0, a, C, dx, _, _, rfl, ins, T.cl, T.nL, bF_l u l t, _, h1, l, _, _, _, rfl, rfl, SqL.of F.lo, at_l hl, r⟩) fun H1 F1 _ q1 => fin _ (q1.nil F1)
theorem ok_clear_rods {x : Addr} {fd : FuncData} (F : Fun K "clear_rods" "clear_rods" sClear x fd) (T : Txt K mg C) (MK : HasM P w K mg base C "make" 1 psMake (spMake C)) : FnOk P w K mg base CX0 2 x fd ["frame"] (spClear C) := by
  refine F.ok scClear (fun vs H Q E h => ?_) (fun cdv A outer s H vs Q E hr h => ?_)
  · obtain ⟨a, u, l, t, f, ms, rfl, _⟩ := h
    rfl
  obtain ⟨a, u, l, t, f, ms, rfl, FA, o, hms, q⟩ := h
  obtain ⟨y, gd, mG, bG, G⟩ := MK
  refine ⟨_, pss_one (ps_for PassesOwn.never rfl (pi_range3 rfl T.range (pa_cons (pe_op op_sub (pe_const T.rods) pe_int) (pa_cons (pe_un un_neg pe_int) (pa_cons (pe_un un_neg pe_int) pa_nil)))) (pg_name (i := 1) scClear.nd rfl (Or.inl rfl))
      (pss_cons (ps_if (pt_cmpR op_eq (pe_ix ix_list (pe_fld (pv 0) rfl) (pv 1) (fun _ _ => rfl)) pe_int (nomark _))
          (pss_one (ps_expr (pe_meth (pv 0) T.cl mG G hr bG .nil pass0 (pa_cons (pv 1) (pa_cons (pe_const T.uu) (pa_cons pe_int pa_nil)))))) pss_nil)
        (pss_one (ps_if (pt_cmpR op_gt (pe_ix ix_list (pe_fld (pv 0) rfl) (pv 1) (fun _ _ => rfl)) pe_int (nomark _))
          (pss_one (ps_expr (pe_meth (pv 0) T.cl mG G hr bG .nil pass0 (pa_cons (pv 1) (pa_cons (pe_const T.ld) (pa_cons (pe_ix ix_list (pe_fld (pv 0) rfl) (pv 1) (fun _ _ => rfl)) pa_nil)))))) pss_nil)))), ?_⟩
  rw [clearing_is] at hms q
  refine ⟨_, _, rfl, rfl, _, rfl, _, rfl, 11, -1, -1, 12, rfl, RgC.neg (by decide) (by decide) (by decide) (by decide), for_rangeC (lo := 11) (c := -1) (n := 12)
    (fun i σ H' => ∃ v : Option V, σ = [some (.ref a), v] ∧ FrAt C H' a u l t (clrF f i) (ms ++ clrN f i) ∧ Kept H H' u l t) ⟨none, rfl, (by rw [show clrN f 0 = [] from rfl, List.append_nil]; exact FA), Kept.refl _ _ _ _⟩ ?_ ?_⟩
  · rintro i σ H' hi ⟨v, rfl, Fg, kp⟩
    have hk : 11 - i < 12 := by omega
    have og := clrF_ok o i
    have hl : 11 - i < (clrF f i).length := by rw [og.len]; exact hk
    have low := clrF_low f i (11 - i) (by omega) (by omega)
    have e11 : (11 + (i : Nat) * -1 : Int) = ((11 - i : Nat) : Int) := by omega
    have le := clrN_le f (i + 1) (11 - i)
    rw [show i + 1 + (11 - i) = 12 by omega] at le
    have eN : clrN f (i + 1) = clrN f i ++ clr f (11 - i) := rfl
    rw [eN, ← clr_same low] at le
    have hms2 : (ms ++ clrN f i).length + (clr (clrF f i) (11 - i)).length ≤ most := by
      rw [List.length_append] at le ⊢
      omega
    have post : Post C H' a u l t (clrF f i) (ms ++ clrN f i) (clr (clrF f i) (11 - i)) fun v H2 => ∃ v : Option V, [some (V.ref a), some (V.int (11 - i : Nat))] = [some (.ref a), v] ∧ FrAt C H2 a u l t (clrF f (i + 1)) (ms ++ clrN f (i + 1)) ∧ Kept H H2 u l t := fun H2 F2 k2 => by
      refine ⟨_, rfl, ?_, kp.trans k2⟩
      rw [(clr_goes og hk).after, List.append_assoc, clr_same low, ← eN] at F2
      exact F2
    rw [e11]
    generalize clrF f i = g at *
    generalize ms ++ clrN f i = mi at *
    unfold clr at hms2 post
    obtain ⟨r1, r2⟩ := og.rods (11 - i)
    obtain ⟨dx, ins⟩ := id Fg.ins
    refine ⟨_, rfl, a, C, dx, _, _, rfl, ins, T.cl, T.nU, bF_u u l t, _, rfl, u, _, _, _, rfl, rfl, SqL.of Fg.up, at_u hl, rfl, _, rfl, ?_⟩
    by_cases c : (Kab.rod g (11 - i)).five = 1
    · rw [if_pos c] at hms2 post
      have m3 := made3 (f := g) hk c
      refine if_true_of (int_eq (by rw [c]; rfl)) ?_
      refine do_make Fg og.len m3 hms2 post rfl (fun R r => ⟨_, rfl, r⟩) fun H1 F1 hms1 q1 => ?_
      have e := rod_set_eq (f := g) (r := ⟨0, (Kab.rod g (11 - i)).ones⟩) hl
      have e2 : (Kab.rod (g.set (11 - i) ⟨0, (Kab.rod g (11 - i)).ones⟩) (11 - i)).ones = (Kab.rod g (11 - i)).ones := by rw [e]
      refine clear_lower T F1 (by rw [List.length_set]; exact og.len) hk rfl rfl (by rw [e2]; exact hms1) (by rw [e2]; exact q1) fun _ z => z
    · rw [if_neg c, List.nil_append] at hms2 post
      refine if_false_of (int_ne (by omega)) ?_
      exact clear_lower T Fg og.len hk rfl rfl hms2 post fun _ z => z
  · rintro σ H' ⟨v, rfl, Fg, kp⟩
    refine q H' ?_ kp
    rw [(clrN_goes o 12 (Nat.le_refl _)).after]
    exact Fg
end
end Bead

set_option Elab.async false
set_option maxRecDepth 100000
set_option maxHeartbeats 2000000
namespace Bead
/-! ### What a call that tells moves does: its refusal, or its moves -/
def refusal (f : Kab.Frame) : Kab.Call → Option Int
  | .set n => if 10 ^ 12 ≤ n then some (-75) else none
  | .add n => if 10 ^ 12 ≤ n ∨ 10 ^ 12 ≤ Kab.valueOf f + n then some (-75) else none
  | .take n => if Kab.valueOf f < n then some (-33) else none
  | .times a b => if 10 ^ 12 ≤ a ∨ 10 ^ 12 ≤ b ∨ 10 ^ 12 ≤ a * b then some (-75) else none
  | .over b => if b = 0 ∨ 10 ^ 12 ≤ b then some (-22) else none
  | _ => none
def movesOf (f : Kab.Frame) : Kab.Call → List Kab.Move
  | .set n => Kab.both f (Kab.clearing f) fun g => Kab.addNumber Kab.rods g 0 n
  | .add n => Kab.addNumber Kab.rods f 0 n
  | .take n => Kab.takeNumber Kab.rods f 0 n
  | .times a b => Kab.timesMoves f a b
  | .over b => (Kab.dividing b Kab.rods f 0).1
  | _ => []
end Bead
namespace Bead
open PySem PySem.Spec PyProof.Rows L2
abbrev sSet : Stmt := top 36
abbrev sAdd : Stmt := top 37
abbrev sTake : Stmt := top 38
abbrev sTimes : Stmt := top 39
structure Txt2 (mg : Str → Option Value) : Prop where
  limit : ∃ t, mg "LIMIT" = some (.int 1000000000000 t)
  done : ∃ t, mg "DONE" = some (.int 0 t)
  much : ∃ t, mg "TOO_MUCH" = some (.int (-75) t)
  little : ∃ t, mg "TOO_LITTLE" = some (.int (-33) t)

/-- a def that refuses by a number below 0, or makes the moves and gives 0 -/
def Does (C : Addr) (H : Hp) (a u l t : Addr) (f : Kab.Frame) (ms : List Kab.Move) (c : Kab.Call) (Q : VK) : Prop :=
  (∀ v, refusal f c = some v → Q (.int v) H) ∧ (refusal f c = none → ms.length + (movesOf f c).length ≤ most ∧
    ∀ H' : Hp, FrAt C H' a u l t (Kab.after f (movesOf f c)) (ms ++ movesOf f c) → Kept H H' u l t → Q (.int 0) H')
def spDo1 (C : Addr) (c : Nat → Kab.Call) : Sp := fun vs H Q _ => ∃ (a u l t : Addr) (f : Kab.Frame) (ms : List Kab.Move) (n : Nat), vs = [.ref a, .int (n : Nat)] ∧
  FrAt C H a u l t f ms ∧ Ok f ∧ Does C H a u l t f ms (c n) Q
def spDo2 (C : Addr) (c : Nat → Nat → Kab.Call) : Sp := fun vs H Q _ => ∃ (a u l t : Addr) (f : Kab.Frame) (ms : List Kab.Move) (n m : Nat), vs = [.ref a, .int (n : Nat), .int (m : Nat)] ∧
  FrAt C H a u l t f ms ∧ Ok f ∧ Does C H a u l t f ms (c n m) Q

section
variable {P : Program} {w : World} {K : PySem.W.Frag} {mg : Str → Option Value} {base : Heap} {C : Addr}
abbrev psF : List Str := ["frame", "n"]
theorem scSet : FnScope psF psF (defScope sSet) := ⟨rfl, rfl, rfl, by decide +kernel, rfl, by decide +kernel, by decide +kernel⟩
theorem ok_set {x : Addr} {fd : FuncData} (F : Fun K "set_to" "set_to" sSet x fd) (T2 : Txt2 mg) (CL : HasF P w K mg base "clear_rods" 2 ["frame"] (spClear C)) (AN : HasF P w K mg base "add_number" 16 psN (spAddN C)) :
    FnOk P w K mg base CX0 17 x fd psF (spDo1 C .set) := by
  refine F.ok scSet (fun vs H Q E h => ?_) (fun cdv A outer s H vs Q E hr h => ?_)
  · obtain ⟨a, u, l, t, f, ms, n, rfl, _⟩ := h
    rfl
  obtain ⟨a, u, l, t, f, ms, n, rfl, FA, o, hN, hY⟩ := h
  obtain ⟨yc, gc, mC, kC, bC, GC⟩ := CL
  obtain ⟨ya, ga, mA, kA, bA, GA⟩ := AN
  refine ⟨_, pss_cons (ps_if (pt_cmpR op_ge (pv 1) (pe_const T2.limit) (nomark _)) (pss_one (ps_ret (pe_const T2.much))) pss_nil)
    (pss_cons (ps_expr (pe_call GC (hr.mono (by omega)) rfl mC kC bC .nil pass0 (pa_cons (pv 0) pa_nil)))
    (pss_cons (ps_expr (pe_call GA hr rfl mA kA bA .nil pass0 (pa_cons (pv 0) (pa_cons pe_int (pa_cons (pv 1) pa_nil)))))
    (pss_one (ps_ret (pe_const T2.done))))), ?_⟩
  refine ⟨_, rfl, _, _, rfl, rfl, _, rfl, ?_⟩
  by_cases c : 10 ^ 12 ≤ n
  · exact if_true_of (decide_eq_true (by omega)) (hN _ (if_pos c))
  · refine if_false_of (decide_eq_false (by omega)) ?_
    obtain ⟨hms, hQ⟩ := hY (if_neg c)
    have gc := clearing_goes o
    have e : movesOf f (.set n) = Kab.clearing f ++ Kab.addNumber Kab.rods Kab.clear 0 n := by
      show Kab.clearing f ++ Kab.addNumber Kab.rods (Kab.after f (Kab.clearing f)) 0 n = _
      rw [gc.after]
    rw [e] at hms hQ
    rw [after_append, gc.after, ← List.append_assoc] at hQ
    rw [List.length_append] at hms
    refine ⟨_, rfl, a, u, l, t, f, ms, rfl, FA, o, by omega, fun H1 F1 k1 => ?_⟩
    rw [gc.after] at F1
    refine ⟨_, rfl, _, rfl, a, u, l, t, _, _, 0, n, 12, rfl, F1, ok_clear, by omega, by omega, ?_, ?_, fun H2 F2 k2 => ?_⟩
    · rw [value_clear]; omega
    · rw [List.length_append]; show _ + (Kab.addNumber Kab.rods Kab.clear 0 n).length ≤ _; omega
    · exact hQ H2 F2 (k1.trans k2)
theorem scAdd : FnScope psF psF (defScope sAdd) := ⟨rfl, rfl, rfl, by decide +kernel, rfl, by decide +kernel, by decide +kernel⟩
/-- frame.shown() -/
theorem shownVal {a u l t : Addr} {f : Kab.Frame} {ms : List Kab.Move} {H : Hp} {Q : VK} {σ : L2.St} {E : XK} (F : FrAt C H a u l t f ms) (len : f.length = 12) (h0 : σ[0]? = some (some (.ref a)))
    (q : Q (.int (Kab.valueOf f : Nat)) H) : tMeth C "shown" (spShown C) [] E (tVar 0) tNil σ H Q := by
  obtain ⟨dx, ins⟩ := F.ins
  exact ⟨_, h0, a, dx, _, rfl, ins, bF_no (by decide +kernel) (by decide +kernel) (by decide +kernel) u l t, ⟨a, u, l, t, f, ms, rfl, F, len, q⟩⟩
theorem ok_add {x : Addr} {fd : FuncData} (F : Fun K "add_to" "add_to" sAdd x fd) (T : Txt K mg C) (T2 : Txt2 mg) (SH : HasM P w K mg base C "shown" 2 ["self"] (spShown C)) (AN : HasF P w K mg base "add_number" 16 psN (spAddN C)) :
    FnOk P w K mg base CX0 17 x fd psF (spDo1 C .add) := by
  refine F.ok scAdd (fun vs H Q E h => ?_) (fun cdv A outer s H vs Q E hr h => ?_)
  · obtain ⟨a, u, l, t, f, ms, n, rfl, _⟩ := h
    rfl
  obtain ⟨a, u, l, t, f, ms, n, rfl, FA, o, hN, hY⟩ := h
  obtain ⟨yc, gc, mC, bC, GC⟩ := SH
  obtain ⟨ya, ga, mA, kA, bA, GA⟩ := AN
  refine ⟨_, pss_cons (ps_if (PW.pt (pw_or (pt_cmpR op_ge (pv 1) (pe_const T2.limit) (nomark _)) (pw_or1 (pt_cmpR op_ge (pe_op op_add (pe_meth0 (pv 0) T.cl mC GC (hr.mono (by omega)) bC .nil pass0) (pv 1)) (pe_const T2.limit) (nomark _))))) (pss_one (ps_ret (pe_const T2.much))) pss_nil)
    (pss_cons (ps_expr (pe_call GA hr rfl mA kA bA .nil pass0 (pa_cons (pv 0) (pa_cons pe_int (pa_cons (pv 1) pa_nil)))))
    (pss_one (ps_ret (pe_const T2.done)))), ?_⟩
  refine ⟨_, rfl, _, _, rfl, rfl, _, rfl, ?_⟩
  by_cases c : 10 ^ 12 ≤ n
  · exact if_true_of (decide_eq_true (by omega)) (if_true_of rfl (hN _ (if_pos (.inl c))))
  · refine if_false_of (decide_eq_false (by omega)) ?_
    refine shownVal FA o.len rfl ⟨_, rfl, _, _, rfl, rfl, _, _, rfl, rfl, _, rfl, ?_⟩
    by_cases c2 : 10 ^ 12 ≤ Kab.valueOf f + n
    · exact if_true_of (decide_eq_true (by omega)) (hN _ (if_pos (.inr c2)))
    · refine if_false_of (decide_eq_false (by omega)) ?_
      obtain ⟨hms, hQ⟩ := hY (if_neg (by omega))
      refine ⟨_, rfl, _, rfl, a, u, l, t, f, ms, 0, n, 12, rfl, FA, o, by omega, by omega, by omega, hms, fun H2 F2 k2 => hQ H2 F2 k2⟩
theorem scTake : FnScope psF psF (defScope sTake) := ⟨rfl, rfl, rfl, by decide +kernel, rfl, by decide +kernel, by decide +kernel⟩
theorem ok_take {x : Addr} {fd : FuncData} (F : Fun K "take_from" "take_from" sTake x fd) (T : Txt K mg C) (T2 : Txt2 mg) (SH : HasM P w K mg base C "shown" 2 ["self"] (spShown C)) (AN : HasF P w K mg base "take_number" 16 psN (spTakeN C)) :
    FnOk P w K mg base CX0 17 x fd psF (spDo1 C .take) := by
  refine F.ok scTake (fun vs H Q E h => ?_) (fun cdv A outer s H vs Q E hr h => ?_)
  · obtain ⟨a, u, l, t, f, ms, n, rfl, _⟩ := h
    rfl
  obtain ⟨a, u, l, t, f, ms, n, rfl, FA, o, hN, hY⟩ := h
  obtain ⟨yc, gc, mC, bC, GC⟩ := SH
  obtain ⟨ya, ga, mA, kA, bA, GA⟩ := AN
  refine ⟨_, pss_cons (ps_if (pt_cmpR op_lt (pe_meth0 (pv 0) T.cl mC GC (hr.mono (by omega)) bC .nil pass0) (pv 1) (nomark _)) (pss_one (ps_ret (pe_const T2.little))) pss_nil)
    (pss_cons (ps_expr (pe_call GA hr rfl mA kA bA .nil pass0 (pa_cons (pv 0) (pa_cons pe_int (pa_cons (pv 1) pa_nil)))))
    (pss_one (ps_ret (pe_const T2.done)))), ?_⟩
  refine shownVal FA o.len rfl ⟨_, rfl, _, _, rfl, rfl, _, rfl, ?_⟩
  by_cases c : Kab.valueOf f < n
  · exact if_true_of (decide_eq_true (by omega)) (hN _ (if_pos c))
  · refine if_false_of (decide_eq_false (by omega)) ?_
    have := o.lt
    obtain ⟨hms, hQ⟩ := hY (if_neg c)
    refine ⟨_, rfl, _, rfl, a, u, l, t, f, ms, 0, n, 12, rfl, FA, o, by omega, by omega, by omega, hms, fun H2 F2 k2 => hQ H2 F2 k2⟩
theorem scTimes : FnScope ["frame", "a", "b"] ["frame", "a", "b"] (defScope sTimes) := ⟨rfl, rfl, rfl, by decide +kernel, rfl, by decide +kernel, by decide +kernel⟩
theorem ok_times {x : Addr} {fd : FuncData} (F : Fun K "set_to_product" "set_to_product" sTimes x fd) (T2 : Txt2 mg) (CL : HasF P w K mg base "clear_rods" 2 ["frame"] (spClear C)) (AP : HasF P w K mg base "add_product" 17 ["frame", "a", "b"] (spProd C)) :
    FnOk P w K mg base CX0 18 x fd ["frame", "a", "b"] (spDo2 C .times) := by
  refine F.ok scTimes (fun vs H Q E h => ?_) (fun cdv A outer s H vs Q E hr h => ?_)
  · obtain ⟨a, u, l, t, f, ms, n, m, rfl, _⟩ := h
    rfl
  obtain ⟨a, u, l, t, f, ms, n, m, rfl, FA, o, hN, hY⟩ := h
  obtain ⟨yc, gc, mC, kC, bC, GC⟩ := CL
  obtain ⟨ya, ga, mA, kA, bA, GA⟩ := AP
  refine ⟨_, pss_cons (ps_if (PW.pt (pw_or (pt_cmpR op_ge (pv 1) (pe_const T2.limit) (nomark _)) (pw_or (pt_cmpR op_ge (pv 2) (pe_const T2.limit) (nomark _)) (pw_or1 (pt_cmpR op_ge (pe_op op_mul (pv 1) (pv 2)) (pe_const T2.limit) (nomark _)))))) (pss_one (ps_ret (pe_const T2.much))) pss_nil)
    (pss_cons (ps_expr (pe_call GC (hr.mono (by omega)) rfl mC kC bC .nil pass0 (pa_cons (pv 0) pa_nil)))
    (pss_cons (ps_expr (pe_call GA hr rfl mA kA bA .nil pass0 (pa_cons (pv 0) (pa_cons (pv 1) (pa_cons (pv 2) pa_nil)))))
    (pss_one (ps_ret (pe_const T2.done))))), ?_⟩
  refine ⟨_, rfl, _, _, rfl, rfl, _, rfl, ?_⟩
  by_cases c : 10 ^ 12 ≤ n
  · exact if_true_of (decide_eq_true (by omega)) (if_true_of rfl (hN _ (if_pos (.inl c))))
  refine if_false_of (decide_eq_false (by omega)) ⟨_, rfl, _, _, rfl, rfl, _, rfl, ?_⟩
  by_cases c1 : 10 ^ 12 ≤ m
  · exact if_true_of (decide_eq_true (by omega)) (if_true_of rfl (hN _ (if_pos (.inr (.inl c1)))))
  refine if_false_of (decide_eq_false (by omega)) ⟨_, rfl, _, rfl, _, _, rfl, rfl, .inl ⟨by omega, by omega⟩, _, _, rfl, rfl, _, rfl, ?_⟩
  have em : ((n : Nat) : Int) * ((m : Nat) : Int) = ((n * m : Nat) : Int) := (Int.natCast_mul n m).symm
  by_cases c2 : 10 ^ 12 ≤ n * m
  · exact if_true_of (decide_eq_true (by rw [em]; omega)) (hN _ (if_pos (.inr (.inr c2))))
  · refine if_false_of (decide_eq_false (by rw [em]; omega)) ?_
    obtain ⟨hms, hQ⟩ := hY (if_neg (by omega))
    have gc := clearing_goes o
    have e : movesOf f (.times n m) = Kab.clearing f ++ Bead.outer Kab.clear (pl 12 m) (pl 12 n) := by
      show Kab.timesMoves f n m = _
      rw [timesMoves_is f n m (by omega) (by omega) 12 12 (by omega) (by omega)]
      show Kab.clearing f ++ Bead.outer (Kab.after f (Kab.clearing f)) (pl 12 m) (pl 12 n) = _
      rw [gc.after]
    rw [e] at hms hQ
    rw [after_append, gc.after, ← List.append_assoc] at hQ
    rw [List.length_append] at hms
    refine ⟨_, rfl, a, u, l, t, f, ms, rfl, FA, o, by omega, fun H1 F1 k1 => ?_⟩
    rw [gc.after] at F1
    refine ⟨_, rfl, _, rfl, _, rfl, a, u, l, t, _, _, n, m, 12, 12, rfl, F1, ok_clear, ⟨by omega, by omega⟩, ⟨by omega, by omega⟩, ?_, ?_, fun H2 F2 k2 => ?_⟩
    · rw [value_clear]; omega
    · rw [List.length_append]; omega
    · exact hQ H2 F2 (k1.trans k2)
end
end Bead

set_option Elab.async false
set_option maxRecDepth 100000
set_option maxHeartbeats 2000000
namespace Bead
open Kab
/-! ### Whether a move can be made -/
theorem made_out {f : Frame} {m : Move} (h : 12 ≤ m.rod) : (made f m).isSome = false := by
  unfold made
  rw [if_pos (show rods ≤ m.rod from h)]
  rfl
theorem made_few {f : Frame} {m : Move} (h : m.beads < 1) : (made f m).isSome = false := by
  cases e : made f m with
  | none => rfl
  | some g =>
    exfalso
    obtain ⟨r, k, b⟩ := m
    unfold made at e
    dsimp only at e h
    split at e
    · cases e
    · split at e
      all_goals first
        | (cases e; done)
        | (split at e <;> first | (cases e; done) | omega)
theorem made_is0 {f : Frame} {m : Move} (h : m.rod < 12) (h1 : 1 ≤ m.beads) (hk : m.kind = 0) : (made f m).isSome = decide ((rod f m.rod).ones + m.beads ≤ 4) := by
  obtain ⟨r, k, b⟩ := m
  dsimp only at *
  subst hk
  by_cases c : (rod f r).ones + b ≤ 4
  · rw [made0 h h1 c, decide_eq_true c]; rfl
  · unfold made
    rw [if_neg (show ¬ rods ≤ r by unfold rods; omega), decide_eq_false c]
    show (if 1 ≤ b ∧ (rod f r).ones + b ≤ 4 then _ else none : Option Frame).isSome = false
    rw [if_neg (fun z => c z.2)]
    rfl
theorem made_is1 {f : Frame} {m : Move} (h : m.rod < 12) (h1 : 1 ≤ m.beads) (hk : m.kind = 1) : (made f m).isSome = decide (m.beads ≤ (rod f m.rod).ones) := by
  obtain ⟨r, k, b⟩ := m
  dsimp only at *
  subst hk
  by_cases c : b ≤ (rod f r).ones
  · rw [made1 h h1 c, decide_eq_true c]; rfl
  · unfold made
    rw [if_neg (show ¬ rods ≤ r by unfold rods; omega), decide_eq_false c]
    show (if 1 ≤ b ∧ b ≤ (rod f r).ones then _ else none : Option Frame).isSome = false
    rw [if_neg (fun z => c z.2)]
    rfl
theorem made_is2 {f : Frame} {m : Move} (h : m.rod < 12) (hk : m.kind = 2) : (made f m).isSome = decide (m.beads = 1 ∧ (rod f m.rod).five = 0) := by
  obtain ⟨r, k, b⟩ := m
  dsimp only at *
  subst hk
  unfold made
  rw [if_neg (show ¬ rods ≤ r by unfold rods; omega)]
  show (if b = 1 ∧ (rod f r).five = 0 then _ else none : Option Frame).isSome = _
  by_cases c : b = 1 ∧ (rod f r).five = 0
  · rw [if_pos c, decide_eq_true c]; rfl
  · rw [if_neg c, decide_eq_false c]; rfl
theorem made_is3 {f : Frame} {m : Move} (h : m.rod < 12) (hk : m.kind = 3) : (made f m).isSome = decide (m.beads = 1 ∧ (rod f m.rod).five = 1) := by
  obtain ⟨r, k, b⟩ := m
  dsimp only at *
  subst hk
  unfold made
  rw [if_neg (show ¬ rods ≤ r by unfold rods; omega)]
  show (if b = 1 ∧ (rod f r).five = 1 then _ else none : Option Frame).isSome = _
  by_cases c : b = 1 ∧ (rod f r).five = 1
  · rw [if_pos c, decide_eq_true c]; rfl
  · rw [if_neg c, decide_eq_false c]; rfl
theorem made_is4 {f : Frame} {m : Move} (h : 4 ≤ m.kind) : (made f m).isSome = false := by
  cases e : made f m with
  | none => rfl
  | some g =>
    exfalso
    obtain ⟨r, k, b⟩ := m
    unfold made at e
    dsimp only at e h
    split at e
    · cases e
    · split at e
      all_goals first
        | (cases e; done)
        | omega
theorem length_le (x : Nat) : Kab.length x ≤ 13 := by
  unfold Kab.length
  cases e : List.find? (fun k => decide (x < 10 ^ k)) (List.range 13) with
  | none => exact Nat.le_refl _
  | some k =>
    have m := List.mem_range.mp (List.mem_of_find?_eq_some e)
    show k ≤ 13
    omega
end Bead
namespace Bead
open PySem PySem.Spec PyProof.Rows L2
def spCan (C : Addr) : Sp := fun vs H Q _ => ∃ (a u l t : Addr) (f : Kab.Frame) (ms : List Kab.Move) (m : Kab.Move), vs = [.ref a, .int (m.rod : Nat), .int (m.kind : Nat), .int (m.beads : Nat)] ∧
  FrAt C H a u l t f ms ∧ Ok f ∧ Q (.bl (Kab.made f m).isSome) H
section
variable {P : Program} {w : World} {K : PySem.W.Frag} {mg : Str → Option Value} {base : Heap} {C : Addr}
theorem scCan : FnScope psMake psMake (defScope sCan) := ⟨rfl, rfl, rfl, by decide +kernel, rfl, by decide +kernel, by decide +kernel⟩
theorem ok_can {x : Addr} {fd : FuncData} (F : Fun K "can_make" "BeadFrame.can_make" sCan x fd) (T : Txt K mg C) : FnOk P w K mg base CX0 1 x fd psMake (spCan C) := by
  refine F.ok scCan (fun vs H Q E h => ?_) (fun cdv A outer s H vs Q E hr h => ?_)
  · obtain ⟨a, u, l, t, f, ms, m, rfl, _⟩ := h
    rfl
  obtain ⟨a, u, l, t, f, ms, m, rfl, FA, o, q⟩ := h
  refine ⟨_, pss_cons (ps_if (PW.pt (pw_or (pt_cmpR op_ge (pv 1) (pe_const T.rods) (nomark _)) (pw_or1 (pt_cmpR op_lt (pv 3) pe_int (nomark _))))) (pss_one (ps_ret pe_bl)) pss_nil)
    (pss_cons (ps_if (pt_cmpR op_eq (pv 2) (pe_const T.lu) (nomark _))
      (pss_one (ps_ret (pe_cmpR op_le (pe_op op_add (pe_ix ix_list (pe_fld (pv 0) rfl) (pv 1) (fun _ _ => rfl)) (pv 3)) (pe_const T.beads) (nomark _)))) pss_nil)
    (pss_cons (ps_if (pt_cmpR op_eq (pv 2) (pe_const T.ld) (nomark _))
      (pss_one (ps_ret (pe_cmpR op_le (pv 3) (pe_ix ix_list (pe_fld (pv 0) rfl) (pv 1) (fun _ _ => rfl)) (nomark _)))) pss_nil)
    (pss_cons (ps_if (pt_cmpR op_eq (pv 2) (pe_const T.ud) (nomark _))
      (pss_one (ps_ret (pe_and (pe_cmpR op_eq (pv 3) pe_int (nomark _)) (pe_one (pe_cmpR op_eq (pe_ix ix_list (pe_fld (pv 0) rfl) (pv 1) (fun _ _ => rfl)) pe_int (nomark _)))))) pss_nil)
    (pss_cons (ps_if (pt_cmpR op_eq (pv 2) (pe_const T.uu) (nomark _))
      (pss_one (ps_ret (pe_and (pe_cmpR op_eq (pv 3) pe_int (nomark _)) (pe_one (pe_cmpR op_eq (pe_ix ix_list (pe_fld (pv 0) rfl) (pv 1) (fun _ _ => rfl)) pe_int (nomark _)))))) pss_nil)
    (pss_one (ps_ret pe_bl)))))), ?_⟩
  obtain ⟨dx, ins⟩ := id FA.ins
  refine ⟨_, rfl, _, _, rfl, rfl, _, rfl, ?_⟩
  by_cases c1 : 12 ≤ m.rod
  · rw [made_out c1] at q
    exact if_true_of (decide_eq_true (by omega)) (if_true_of rfl q)
  refine if_false_of (decide_eq_false (by omega)) ⟨_, rfl, _, _, rfl, rfl, _, rfl, ?_⟩
  by_cases c2 : m.beads < 1
  · rw [made_few c2] at q
    exact if_true_of (decide_eq_true (by omega)) q
  have hk : m.rod < 12 := by omega
  have hl : m.rod < f.length := by rw [o.len]; exact hk
  have h1 : 1 ≤ m.beads := by omega
  refine if_false_of (decide_eq_false (by omega)) ⟨_, rfl, rfl, _, rfl, ?_⟩
  by_cases k0 : m.kind = 0
  · refine if_true_of (int_eq (by rw [k0]; rfl)) ?_
    rw [made_is0 hk h1 k0] at q
    refine ⟨_, rfl, a, C, dx, _, _, rfl, ins, T.cl, T.nL, bF_l u l t, _, rfl, l, _, _, _, rfl, rfl, SqL.of FA.lo, at_l hl, _, rfl, _, _, rfl, rfl, _, _, rfl, rfl, ?_⟩
    have e : decide ((((Kab.rod f m.rod).ones : Nat) : Int) + ((m.beads : Nat) : Int) ≤ 4) = decide ((Kab.rod f m.rod).ones + m.beads ≤ 4) := decide_eq_decide.mpr (by omega)
    rw [← e] at q
    exact q
  refine if_false_of (int_ne (by omega)) ⟨_, rfl, rfl, _, rfl, ?_⟩
  by_cases k1 : m.kind = 1
  · refine if_true_of (int_eq (by rw [k1]; rfl)) ?_
    rw [made_is1 hk h1 k1] at q
    refine ⟨_, rfl, _, rfl, a, C, dx, _, _, rfl, ins, T.cl, T.nL, bF_l u l t, _, rfl, l, _, _, _, rfl, rfl, SqL.of FA.lo, at_l hl, _, _, rfl, rfl, ?_⟩
    have e : decide (((m.beads : Nat) : Int) ≤ (((Kab.rod f m.rod).ones : Nat) : Int)) = decide (m.beads ≤ (Kab.rod f m.rod).ones) := decide_eq_decide.mpr (by omega)
    rw [← e] at q
    exact q
  refine if_false_of (int_ne (by omega)) ⟨_, rfl, rfl, _, rfl, ?_⟩
  by_cases k2 : m.kind = 2
  · refine if_true_of (int_eq (by rw [k2]; rfl)) ?_
    rw [made_is2 hk k2] at q
    refine ⟨_, rfl, rfl, _, rfl, ?_⟩
    by_cases b1 : m.beads = 1
    · refine if_true_of (int_eq (by omega)) ?_
      refine ⟨_, rfl, a, C, dx, _, _, rfl, ins, T.cl, T.nU, bF_u u l t, _, rfl, u, _, _, _, rfl, rfl, SqL.of FA.up, at_u hl, rfl, ?_⟩
      by_cases z : (Kab.rod f m.rod).five = 0
      · rw [decide_eq_true (⟨b1, z⟩ : _ ∧ _)] at q
        rw [int_eq (show (((Kab.rod f m.rod).five : Nat) : Int) = 0 by omega)]
        exact q
      · rw [decide_eq_false (fun y => z y.2)] at q
        rw [int_ne (show ¬ (((Kab.rod f m.rod).five : Nat) : Int) = 0 by omega)]
        exact q
    · rw [decide_eq_false (fun y => b1 y.1)] at q
      exact if_false_of (int_ne (by omega)) q
  refine if_false_of (int_ne (by omega)) ⟨_, rfl, rfl, _, rfl, ?_⟩
  by_cases k3 : m.kind = 3
  · refine if_true_of (int_eq (by rw [k3]; rfl)) ?_
    rw [made_is3 hk k3] at q
    refine ⟨_, rfl, rfl, _, rfl, ?_⟩
    by_cases b1 : m.beads = 1
    · refine if_true_of (int_eq (by omega)) ?_
      refine ⟨_, rfl, a, C, dx, _, _, rfl, ins, T.cl, T.nU, bF_u u l t, _, rfl, u, _, _, _, rfl, rfl, SqL.of FA.up, at_u hl, rfl, ?_⟩
      by_cases z : (Kab.rod f m.rod).five = 1
      · rw [decide_eq_true (⟨b1, z⟩ : _ ∧ _)] at q
        rw [int_eq (show (((Kab.rod f m.rod).five : Nat) : Int) = 1 by omega)]
        exact q
      · rw [decide_eq_false (fun y => z y.2)] at q
        rw [int_ne (show ¬ (((Kab.rod f m.rod).five : Nat) : Int) = 1 by omega)]
        exact q
    · rw [decide_eq_false (fun y => b1 y.1)] at q
      exact if_false_of (int_ne (by omega)) q
  rw [made_is4 (by omega)] at q
  exact if_false_of (int_ne (by omega)) q

/-! ### Dividing -/
def spOut (C : Addr) : Sp := fun vs H Q _ => ∃ (a u l t : Addr) (f : Kab.Frame) (ms : List Kab.Move) (b : Nat), vs = [.ref a, .int (b : Nat)] ∧
  FrAt C H a u l t f ms ∧ Ok f ∧ 0 < b ∧ b < 10 ^ 12 ∧ ms.length + (Kab.dividing b Kab.rods f 0).1.length ≤ most ∧
  ∀ H' : Hp, FrAt C H' a u l t (Kab.after f (Kab.dividing b Kab.rods f 0).1) (ms ++ (Kab.dividing b Kab.rods f 0).1) → Kept H H' u l t → Q (.int ((Kab.dividing b Kab.rods f 0).2 : Nat)) H'
theorem scOut : FnScope ["frame", "divisor", "quotient", "at_place", "place", "digit"] ["frame", "divisor"] (defScope sOut) := ⟨rfl, rfl, rfl, by decide +kernel, rfl, by decide +kernel, by decide +kernel⟩
/-- one place of dividing -/
theorem dividing_step (b n : Nat) (g : Kab.Frame) (q : Nat) :
    Kab.dividing b (n + 1) g q = (Kab.takeNumber (Kab.length (Kab.valueOf g / (b * 10 ^ n) * b)) g n (Kab.valueOf g / (b * 10 ^ n) * b) ++
      (Kab.dividing b n (Kab.after g (Kab.takeNumber (Kab.length (Kab.valueOf g / (b * 10 ^ n) * b)) g n (Kab.valueOf g / (b * 10 ^ n) * b))) (10 * q + Kab.valueOf g / (b * 10 ^ n))).1,
      (Kab.dividing b n (Kab.after g (Kab.takeNumber (Kab.length (Kab.valueOf g / (b * 10 ^ n) * b)) g n (Kab.valueOf g / (b * 10 ^ n) * b))) (10 * q + Kab.valueOf g / (b * 10 ^ n))).2) := rfl
theorem ok_out {x : Addr} {fd : FuncData} (F : Fun K "take_out" "take_out" sOut x fd) (T : Txt K mg C) (SH : HasM P w K mg base C "shown" 2 ["self"] (spShown C)) (AN : HasF P w K mg base "take_number" 16 psN (spTakeN C)) :
    FnOk P w K mg base CX0 17 x fd ["frame", "divisor"] (spOut C) := by
  refine F.ok scOut (fun vs H Q E h => ?_) (fun cdv A outer s H vs Q E hr h => ?_)
  · obtain ⟨a, u, l, t, f, ms, b, rfl, _⟩ := h
    rfl
  obtain ⟨a, u, l, t, f, ms, b, rfl, FA, o, hb, hb2, hms, q⟩ := h
  obtain ⟨yc, gc, mC, bC, GC⟩ := SH
  obtain ⟨ya, ga, mA, kA, bA, GA⟩ := AN
  refine ⟨_, pss_cons (ps_set (i := 2) scOut.nd rfl (Or.inl rfl) pe_int)
    (pss_cons (ps_set (i := 3) scOut.nd rfl (Or.inl rfl) (pe_op op_mul (pv 1) (pe_const T.limit)))
    (pss_cons (ps_for PassesOwn.never rfl (pi_range3 rfl T.range (pa_cons (pe_op op_sub (pe_const T.rods) pe_int) (pa_cons (pe_un un_neg pe_int) (pa_cons (pe_un un_neg pe_int) pa_nil)))) (pg_name (i := 4) scOut.nd rfl (Or.inl rfl))
      (pss_cons (ps_set (i := 3) scOut.nd rfl (Or.inl rfl) (pe_op op_fdiv (pv 3) pe_int))
      (pss_cons (ps_set (i := 5) scOut.nd rfl (Or.inl rfl) (pe_op op_fdivW (pe_meth0 (pv 0) T.cl mC GC (hr.mono (by omega)) bC .nil pass0) (pv 3)))
      (pss_cons (ps_expr (pe_call GA hr rfl mA kA bA .nil pass0 (pa_cons (pv 0) (pa_cons (pv 4) (pa_cons (pe_op op_mul (pv 5) (pv 1)) pa_nil)))))
      (pss_one (ps_set (i := 2) scOut.nd rfl (Or.inl rfl) (pe_op op_add (pe_op op_mul pe_int (pv 2)) (pv 5))))))))
    (pss_one (ps_ret (pv 2))))), ?_⟩
  generalize hD : Kab.dividing b Kab.rods f 0 = D at *
  refine ⟨_, rfl, _, _, rfl, rfl, .inl ⟨by omega, by omega⟩, ?_⟩
  refine ⟨_, _, rfl, rfl, _, rfl, _, rfl, 11, -1, -1, 12, rfl, RgC.neg (by decide) (by decide) (by decide) (by decide), for_rangeC (lo := 11) (c := -1) (n := 12)
    (fun i σ H' => ∃ (g : Kab.Frame) (mi : List Kab.Move) (z : Nat) (v1 v2 : Option V), σ = [some (.ref a), some (.int (b : Nat)), some (.int (z : Nat)), some (.int (b * 10 ^ (12 - i) : Nat)), v1, v2] ∧
      FrAt C H' a u l t g mi ∧ Ok g ∧ mi ++ (Kab.dividing b (12 - i) g z).1 = ms ++ D.1 ∧ Kab.after g (Kab.dividing b (12 - i) g z).1 = Kab.after f D.1 ∧ (Kab.dividing b (12 - i) g z).2 = D.2 ∧ Kept H H' u l t)
    ⟨f, ms, 0, none, none, ?_, FA, o, ?_, ?_, ?_, Kept.refl _ _ _ _⟩ ?_ ?_⟩
  · show [some (V.ref a), some (V.int (b : Nat)), some (V.int 0), some (V.int ((b : Nat) * 1000000000000)), none, none] = _
    rw [show ((b : Nat) * 1000000000000 : Int) = ((b * 10 ^ (12 - 0) : Nat) : Int) by omega]
    rfl
  · show _ ++ (Kab.dividing b Kab.rods f 0).1 = _
    rw [hD]
  · show Kab.after f (Kab.dividing b Kab.rods f 0).1 = _
    rw [hD]
  · show (Kab.dividing b Kab.rods f 0).2 = _
    rw [hD]
  · rintro i σ H' hi ⟨g, mi, z, v1, v2, rfl, Fg, og, e1, e2, e3, kp⟩
    have e11 : (11 + (i : Nat) * -1 : Int) = ((11 - i : Nat) : Int) := by omega
    have e12 : 12 - i = 11 - i + 1 := by omega
    have e13 : 12 - (i + 1) = 11 - i := by omega
    rw [e11]
    rw [e13]
    rw [e12] at e1 e2 e3 ⊢
    generalize 11 - i = n at *
    rw [dividing_step] at e1 e2 e3
    dsimp only at e1 e2 e3
    have hlt := og.lt
    have pos : 0 < 10 ^ n := Nat.pow_pos (by omega)
    have bpos : 0 < b * 10 ^ n := Nat.mul_pos hb pos
    have hn : n ≤ 11 := by omega
    have hp11 : 10 ^ n ≤ 10 ^ 11 := Nat.pow_le_pow_right (by omega) hn
    have hbn : b * 10 ^ n ≤ 10 ^ 12 * 10 ^ 11 := Nat.mul_le_mul (by omega) hp11
    generalize hd : Kab.valueOf g / (b * 10 ^ n) = d at *
    have h1 : d * b * 10 ^ n ≤ Kab.valueOf g := by
      rw [Nat.mul_assoc, ← hd]
      exact Nat.div_mul_le_self _ _
    have h2 : d * b ≤ d * b * 10 ^ n := Nat.le_mul_of_pos_right _ pos
    have h3 : d ≤ d * b := Nat.le_mul_of_pos_right _ hb
    have hx : d * b < 10 ^ Kab.length (d * b) := length_lt (by omega)
    have hln := length_le (d * b)
    obtain ⟨o1, _⟩ := takeNumber_after og hx h1
    generalize hL : Kab.takeNumber (Kab.length (d * b)) g n (d * b) = L at *
    have hlen : mi.length + L.length ≤ most := by
      have z := congrArg List.length e1
      rw [List.length_append, List.length_append, List.length_append] at z
      omega
    have eD : ((b * 10 ^ (n + 1) : Nat) : Int) / 10 = ((b * 10 ^ n : Nat) : Int) := by
      rw [Nat.pow_succ, ← Nat.mul_assoc]
      omega
    have eQ : ((Kab.valueOf g : Nat) : Int) / (((b * 10 ^ (n + 1) : Nat) : Int) / 10) = ((d : Nat) : Int) := by rw [eD, ← hd]; exact (Int.natCast_ediv _ _).symm
    refine ⟨_, rfl, _, _, rfl, rfl, ⟨by decide, by decide⟩, ?_⟩
    refine shownVal Fg og.len rfl ⟨_, rfl, _, _, rfl, rfl, wide_div (b := 200) (by rw [eD]; omega) (by rw [eD]; omega) (by decide) (by decide), ?_⟩
    refine ⟨_, rfl, _, rfl, _, rfl, _, rfl, _, _, rfl, rfl, .inl ⟨by rw [eQ]; omega, by rw [eQ]; omega⟩, a, u, l, t, g, mi, n, d * b, Kab.length (d * b), ?_, Fg, og, hx, by omega, h1, by rw [hL]; exact hlen, fun H2 F2 k2 => ?_⟩
    · rw [eQ, Int.natCast_mul]; rfl
    · rw [hL] at F2
      refine ⟨_, rfl, _, _, rfl, rfl, .inl ⟨by decide, by decide⟩, _, rfl, _, _, rfl, rfl, ?_⟩
      rw [← List.append_assoc] at e1
      rw [after_append] at e2
      refine ⟨_, _, 10 * z + d, some (.int (n : Nat)), some (.int (d : Nat)), ?_, F2, o1, e1, e2, e3, kp.trans k2⟩
      show [some (V.ref a), some (V.int (b : Nat)), some (V.int (10 * (z : Nat) + ((Kab.valueOf g : Nat) : Int) / (((b * 10 ^ (n + 1) : Nat) : Int) / 10))), some (V.int (((b * 10 ^ (n + 1) : Nat) : Int) / 10)), some (V.int (n : Nat)), some (V.int (((Kab.valueOf g : Nat) : Int) / (((b * 10 ^ (n + 1) : Nat) : Int) / 10)))] = _
      rw [eQ, eD, show ((10 * z + d : Nat) : Int) = 10 * (z : Int) + (d : Int) by omega]
  · rintro σ H' ⟨g, mi, z, v1, v2, rfl, Fg, og, e1, e2, e3, kp⟩
    have e4 : Kab.dividing b (12 - 12) g z = ([], z) := rfl
    rw [e4] at e1 e2 e3
    dsimp only at e1 e2 e3
    rw [List.append_nil] at e1
    subst e1 e3
    refine ⟨_, rfl, q H' ?_ kp⟩
    rw [← e2]
    exact Fg
end
end Bead

set_option Elab.async false
set_option maxRecDepth 100000
set_option maxHeartbeats 2000000
namespace Bead
open Kab
/-! ### What each call answers, what the frame is then -/
def numsOf (ms : List Move) : List Int := KabNeutral.ints (ms.flatMap fun m => [m.rod, m.kind, m.beads])
def toldL (ms : List Move) : List Int := ((ms.length : Nat) : Int) :: numsOf ms
def quotOf (f : Frame) : Call → List Int
  | .over b => [((dividing b rods f 0).2 : Nat)]
  | _ => []
def tellsF (f : Frame) (c : Call) : Frame := match refusal f c with
  | some _ => f
  | none => after f (movesOf f c)
def tellsA (f : Frame) (c : Call) : List Int := match refusal f c with
  | some v => [v]
  | none => toldL (movesOf f c) ++ quotOf f c
def nextF (f : Frame) : Call → Frame
  | .start => clear
  | .move k j n => (made f ⟨k, j, n⟩).getD f
  | .value => f
  | .rod _ => f
  | c => tellsF f c
def answerL (f : Frame) : Call → List Int
  | .start => [0]
  | .move k j n => if (made f ⟨k, j, n⟩).isSome = true then [0] else [-13]
  | .value => [0, (valueOf f : Nat)]
  | .rod k => if 12 ≤ k then [-22] else [(worth (rod f k) : Nat), ((rod f k).five : Nat), ((rod f k).ones : Nat)]
  | c => tellsA f c
inductive TellIs : Int → List Int → Call → Prop where
  | set (n : Nat) : TellIs 1 [(n : Nat)] (.set n)
  | add (n : Nat) : TellIs 2 [(n : Nat)] (.add n)
  | take (n : Nat) : TellIs 3 [(n : Nat)] (.take n)
  | times (n m : Nat) : TellIs 4 [(n : Nat), (m : Nat)] (.times n m)
inductive CallIs : Int → List Int → Call → Prop where
  | start : CallIs 0 [] .start
  | tell {p : Int} {xs : List Int} {c : Call} : TellIs p xs c → CallIs p xs c
  | over (b : Nat) : CallIs 5 [(b : Nat)] (.over b)
  | move (k j n : Nat) : CallIs 6 [(k : Nat), (j : Nat), (n : Nat)] (.move k j n)
  | value : CallIs 7 [] .value
  | rod (k : Nat) : CallIs 8 [(k : Nat)] (.rod k)
theorem TellIs.quot {p : Int} {xs : List Int} {c : Call} {f : Frame} (h : TellIs p xs c) : quotOf f c = [] := by cases h <;> rfl
theorem TellIs.next {p : Int} {xs : List Int} {c : Call} {f : Frame} (h : TellIs p xs c) : nextF f c = tellsF f c ∧ answerL f c = tellsA f c := by cases h <;> exact ⟨rfl, rfl⟩
theorem ite_neg {p : Prop} [Decidable p] {a v : Int} (ha : a < 0) (h : (if p then some a else none) = some v) : v < 0 := by
  by_cases c : p
  · rw [if_pos c] at h
    have e := Option.some.inj h
    omega
  · rw [if_neg c] at h
    cases h
theorem refusal_neg {f : Frame} {c : Call} {v : Int} (h : refusal f c = some v) : v < 0 := by
  cases c with
  | start => cases h
  | set n => exact ite_neg (by decide) h
  | add n => exact ite_neg (by decide) h
  | take n => exact ite_neg (by decide) h
  | times a b => exact ite_neg (by decide) h
  | over b => exact ite_neg (by decide) h
  | move k j n => cases h
  | value => cases h
  | rod k => cases h
theorem numsOf_len : ∀ ms : List Move, (numsOf ms).length = 3 * ms.length
  | [] => rfl
  | m :: ms => by
    have ih := numsOf_len ms
    show (numsOf ms).length + 3 = 3 * (ms.length + 1)
    omega
theorem numsOf_snoc (ms : List Move) (m : Move) : numsOf (ms ++ [m]) = numsOf ms ++ [((m.rod : Nat) : Int), ((m.kind : Nat) : Int), ((m.beads : Nat) : Int)] := by
  unfold numsOf KabNeutral.ints
  rw [List.flatMap_append, List.map_append]
  rfl
theorem take_more {α : Type} : ∀ {l : List α} {i : Nat} {x : α}, l[i]? = some x → l.take (i + 1) = l.take i ++ [x]
  | [], i, x, h => by simp at h
  | a :: l, 0, x, h => by
    have e : a = x := Option.some.inj h
    subst e
    rfl
  | a :: l, i + 1, x, h => by
    have ih := take_more (l := l) (i := i) (x := x) h
    show a :: l.take (i + 1) = a :: l.take i ++ [x]
    rw [ih]
    rfl
theorem toldL_len (ms : List Move) : (toldL ms).length = 3 * ms.length + 1 := congrArg (· + 1) (numsOf_len ms)
end Bead
namespace Bead
open PySem PySem.Spec PyProof.Rows L2
abbrev sCarry : Stmt := top 40
abbrev sTold : Stmt := top 41
abbrev sTelling : Stmt := top 42
abbrev sOver : Stmt := top 43
abbrev sMove : Stmt := top 44
abbrev sRod : Stmt := top 45
abbrev sAnswer : Stmt := top 46
abbrev sAnswers : Stmt := top 47
structure Txt3 (mg : Str → Option Value) : Prop where
  start : ∃ t, mg "START" = some (.int 0 t)
  set : ∃ t, mg "SET" = some (.int 1 t)
  add : ∃ t, mg "ADD" = some (.int 2 t)
  take : ∃ t, mg "TAKE" = some (.int 3 t)
  over : ∃ t, mg "OVER" = some (.int 5 t)
  move : ∃ t, mg "MOVE" = some (.int 6 t)
  value : ∃ t, mg "VALUE" = some (.int 7 t)
  rod : ∃ t, mg "ROD" = some (.int 8 t)
  noDiv : ∃ t, mg "NO_DIVISOR" = some (.int (-22) t)
  noMove : ∃ t, mg "NO_MOVE" = some (.int (-13) t)
  noRod : ∃ t, mg "NO_ROD" = some (.int (-22) t)

/-- a new list of an answer, the frame as it is then -/
def InPost (C : Addr) (H : Hp) (a u l t : Addr) (g : Kab.Frame) (ans : List Int) (Q : VK) : Prop :=
  ∀ (H' : Hp) (r : Addr) (ms : List Kab.Move), FrAt C H' a u l t g ms → H r = none → H' r = some (.lst (ans.map V.int)) → Kept H H' u l t → Q (.ref r) H'
theorem Kept.none {C : Addr} {H H' : Hp} {a u l t r : Addr} {f : Kab.Frame} {ms : List Kab.Move} (k : Kept H H' u l t) (F : FrAt C H' a u l t f ms) (h : H' r = none) : H r = none := by
  obtain ⟨_, ru, rl, rt⟩ := F.new h
  cases e : H r with
  | none => rfl
  | some o =>
    have e2 := k r o e ru rl rt
    rw [h] at e2
    cases e2
/-- a new list alone -/
theorem InPost.new {C : Addr} {H : Hp} {a u l t r : Addr} {f : Kab.Frame} {ms : List Kab.Move} {ans : List Int} {Q : VK} (p : InPost C H a u l t f ans Q) (F : FrAt C H a u l t f ms) (h : H r = Option.none) : Q (.ref r) (upd H r (.lst (ans.map V.int))) :=
  p _ r ms (F.same (same_new h _)) h upd_same (Kept.same (same_new h _))

def spTold (C : Addr) : Sp := fun vs H Q _ => ∃ (a u l t : Addr) (f : Kab.Frame) (ms : List Kab.Move), vs = [.ref a] ∧
  FrAt C H a u l t f ms ∧ 3 * ms.length + 1 ≤ 10000000 ∧ ∀ (H' : Hp) (r : Addr), H r = none → Same H H' → H' r = some (.lst ((toldL ms).map V.int)) → Q (.ref r) H'
def spCarry (C : Addr) : Sp := fun vs H Q _ => ∃ (a u l t z : Addr) (f : Kab.Frame) (ms : List Kab.Move) (p : Int) (xs : List Int) (c : Kab.Call), vs = [.ref a, .int p, .ref z] ∧
  TellIs p xs c ∧ H z = some (.lst (xs.map V.int)) ∧ FrAt C H a u l t f ms ∧ Ok f ∧ Does C H a u l t f ms c Q
def spTelling (C : Addr) : Sp := fun vs H Q _ => ∃ (a u l t z : Addr) (f : Kab.Frame) (p : Int) (xs : List Int) (c : Kab.Call), vs = [.ref a, .int p, .ref z] ∧
  TellIs p xs c ∧ H z = some (.lst (xs.map V.int)) ∧ FrAt C H a u l t f [] ∧ Ok f ∧ (tellsA f c).length ≤ 10000000 ∧ InPost C H a u l t (tellsF f c) (tellsA f c) Q
def spOver (C : Addr) : Sp := fun vs H Q _ => ∃ (a u l t : Addr) (f : Kab.Frame) (b : Nat), vs = [.ref a, .int (b : Nat)] ∧
  FrAt C H a u l t f [] ∧ Ok f ∧ (tellsA f (.over b)).length ≤ 10000000 ∧ InPost C H a u l t (tellsF f (.over b)) (tellsA f (.over b)) Q
def spMove (C : Addr) : Sp := fun vs H Q _ => ∃ (a u l t : Addr) (f : Kab.Frame) (m : Kab.Move), vs = [.ref a, .int (m.rod : Nat), .int (m.kind : Nat), .int (m.beads : Nat)] ∧
  FrAt C H a u l t f [] ∧ Ok f ∧ InPost C H a u l t ((Kab.made f m).getD f) (if (Kab.made f m).isSome = true then [0] else [-13]) Q
def spRod (C : Addr) : Sp := fun vs H Q _ => ∃ (a u l t : Addr) (f : Kab.Frame) (k : Nat), vs = [.ref a, .int (k : Nat)] ∧
  FrAt C H a u l t f [] ∧ Ok f ∧ InPost C H a u l t f (answerL f (.rod k)) Q

section
variable {P : Program} {w : World} {K : PySem.W.Frag} {mg : Str → Option Value} {base : Heap} {C : Addr}
theorem scTold : FnScope ["frame", "numbers", "told_move"] ["frame"] (defScope sTold) := ⟨rfl, rfl, rfl, by decide +kernel, rfl, by decide +kernel, by decide +kernel⟩
theorem ok_told {x : Addr} {fd : FuncData} (F : Fun K "told_numbers" "told_numbers" sTold x fd) (T : Txt K mg C) : FnOk P w K mg base CX0 1 x fd ["frame"] (spTold C) := by
  refine F.ok scTold (fun vs H Q E h => ?_) (fun cdv A outer s H vs Q E hr h => ?_)
  · obtain ⟨a, u, l, t, f, ms, rfl, _⟩ := h
    rfl
  obtain ⟨a, u, l, t, f, ms, rfl, FA, hms, q⟩ := h
  refine ⟨_, pss_cons (ps_set (i := 1) scTold.nd rfl (Or.inl rfl) (pe_lst (pa_cons (pe_callB call_len_seq (by rfl) T.len PySem.boot_len (pa_cons (pe_fld (pv 0) rfl) pa_nil)) pa_nil)))
    (pss_cons (ps_for PassesOwn.never rfl (pi_list (pe_fld (pv 0) rfl)) (pg_name (i := 2) scTold.nd rfl (Or.inl rfl))
      (pss_one (ps_expr (pe_bm PySem.F.plainAttrs_list PySem.F.slot_list_extend PySem.F.type_list_extend mt_extT (pv 1) (pa_cons (pv 2) pa_nil)))))
    (pss_one (ps_ret (pv 1)))), ?_⟩
  obtain ⟨dx, ins⟩ := id FA.ins
  obtain ⟨qs, te, tl⟩ := id FA.te
  have le := tl.len
  refine ⟨_, rfl, a, C, dx, _, _, rfl, ins, T.cl, T.nT, bF_t u l t, t, _, rfl, .inl (SqL.of te), (by show 1 ≤ sizeLine; decide), fun r nr => ?_⟩
  have s1 := same_new nr (.lst [V.int ((qs.map V.ref).length : Nat)])
  have eL : ((qs.map V.ref).length : Nat) = ms.length := by rw [List.length_map, le]
  refine ⟨_, rfl, a, C, dx, _, _, rfl, s1 _ _ ins, T.cl, T.nT, bF_t u l t, t, rfl, ⟨_, SqL.of (s1 _ _ te)⟩, for_list (K := K) (a := t) (xs := qs.map V.ref) (fun i σ H' => ∃ v : Option V, σ = [some (.ref a), some (.ref r), v] ∧ Same H H' ∧ H' r = some (.lst ((((ms.length : Nat) : Int) :: numsOf (ms.take i)).map V.int)))
    ⟨none, rfl, s1, ?_⟩ (fun i σ H' _ ⟨_, _, s, _⟩ => SqL.of (s _ _ te)) ?_ ?_⟩
  · rw [upd_same, eL]
    rfl
  · rintro i y σ H' hi ⟨v, rfl, s, hr2⟩
    obtain ⟨q1, hq1, rfl⟩ := map_at hi
    obtain ⟨m, hm, tq⟩ := tl.at_ hq1
    have hil : i < ms.length := (List.getElem?_eq_some_iff.mp hm).1
    refine ⟨_, rfl, .inl ⟨rfl, _, SqL.of hr2⟩, _, rfl, r, q1, _, _, rfl, rfl, hr2, SqT.of (s _ _ tq), ?_, ?_⟩
    · rw [List.length_map]
      have e := numsOf_len (ms.take i)
      rw [List.length_take] at e
      show (numsOf (ms.take i)).length + 1 + 3 ≤ sizeLine
      have : (10000001 : Nat) ≤ sizeLine := by decide
      omega
    · refine ⟨some (.ref q1), rfl, fun b o e => ?_, ?_⟩
      · rw [upd_ne (ne_of_none e nr)]; exact s b o e
      · rw [upd_same, take_more hm, numsOf_snoc, ← List.cons_append, List.map_append]
        rfl
  · rintro σ H' ⟨v, rfl, s, hr2⟩
    rw [List.length_map, le, List.take_length] at hr2
    exact ⟨_, rfl, q H' r nr s hr2⟩

abbrev psC : List Str := ["frame", "call", "given"]
theorem scCarry : FnScope psC psC (defScope sCarry) := ⟨rfl, rfl, rfl, by decide +kernel, rfl, by decide +kernel, by decide +kernel⟩
theorem ok_carry {x : Addr} {fd : FuncData} (F : Fun K "carry_out" "carry_out" sCarry x fd) (T3 : Txt3 mg) (HS : HasF P w K mg base "set_to" 17 psF (spDo1 C .set)) (HA : HasF P w K mg base "add_to" 17 psF (spDo1 C .add))
    (HT : HasF P w K mg base "take_from" 17 psF (spDo1 C .take)) (HP : HasF P w K mg base "set_to_product" 18 ["frame", "a", "b"] (spDo2 C .times)) : FnOk P w K mg base CX0 19 x fd psC (spCarry C) := by
  refine F.ok scCarry (fun vs H Q E h => ?_) (fun cdv A outer s H vs Q E hr h => ?_)
  · obtain ⟨a, u, l, t, z, f, ms, p, xs, c, rfl, _⟩ := h
    rfl
  obtain ⟨a, u, l, t, z, f, ms, p, xs, c, rfl, hc, hz, FA, o, q⟩ := h
  obtain ⟨y1, g1, m1, k1, b1, G1⟩ := HS
  obtain ⟨y2, g2, m2, k2, b2, G2⟩ := HA
  obtain ⟨y3, g3, m3, k3, b3, G3⟩ := HT
  obtain ⟨y4, g4, m4, k4, b4, G4⟩ := HP
  refine ⟨_, pss_cons (ps_if (pt_cmpR op_eq (pv 1) (pe_const T3.set) (nomark _)) (pss_one (ps_ret (pe_call G1 (hr.mono (by omega)) rfl m1 k1 b1 .nil pass0 (pa_cons (pv 0) (pa_cons (pe_ix ix_list (pv 2) pe_int (fun _ _ => rfl)) pa_nil))))) pss_nil)
    (pss_cons (ps_if (pt_cmpR op_eq (pv 1) (pe_const T3.add) (nomark _)) (pss_one (ps_ret (pe_call G2 (hr.mono (by omega)) rfl m2 k2 b2 .nil pass0 (pa_cons (pv 0) (pa_cons (pe_ix ix_list (pv 2) pe_int (fun _ _ => rfl)) pa_nil))))) pss_nil)
    (pss_cons (ps_if (pt_cmpR op_eq (pv 1) (pe_const T3.take) (nomark _)) (pss_one (ps_ret (pe_call G3 (hr.mono (by omega)) rfl m3 k3 b3 .nil pass0 (pa_cons (pv 0) (pa_cons (pe_ix ix_list (pv 2) pe_int (fun _ _ => rfl)) pa_nil))))) pss_nil)
    (pss_one (ps_ret (pe_call G4 hr rfl m4 k4 b4 .nil pass0 (pa_cons (pv 0) (pa_cons (pe_ix ix_list (pv 2) pe_int (fun _ _ => rfl)) (pa_cons (pe_ix ix_list (pv 2) pe_int (fun _ _ => rfl)) pa_nil)))))))), ?_⟩
  refine ⟨_, rfl, rfl, _, rfl, ?_⟩
  cases hc with
  | set n =>
    refine if_true_of (int_eq rfl) ?_
    exact ⟨_, rfl, _, rfl, z, _, _, _, rfl, rfl, SqL.of hz, rfl, a, u, l, t, f, ms, n, rfl, FA, o, q⟩
  | add n =>
    refine if_false_of (int_ne (by decide)) ⟨_, rfl, rfl, _, rfl, ?_⟩
    refine if_true_of (int_eq rfl) ?_
    exact ⟨_, rfl, _, rfl, z, _, _, _, rfl, rfl, SqL.of hz, rfl, a, u, l, t, f, ms, n, rfl, FA, o, q⟩
  | take n =>
    refine if_false_of (int_ne (by decide)) ⟨_, rfl, rfl, _, rfl, ?_⟩
    refine if_false_of (int_ne (by decide)) ⟨_, rfl, rfl, _, rfl, ?_⟩
    refine if_true_of (int_eq rfl) ?_
    exact ⟨_, rfl, _, rfl, z, _, _, _, rfl, rfl, SqL.of hz, rfl, a, u, l, t, f, ms, n, rfl, FA, o, q⟩
  | times n m =>
    refine if_false_of (int_ne (by decide)) ⟨_, rfl, rfl, _, rfl, ?_⟩
    refine if_false_of (int_ne (by decide)) ⟨_, rfl, rfl, _, rfl, ?_⟩
    refine if_false_of (int_ne (by decide)) ?_
    exact ⟨_, rfl, _, rfl, z, _, _, _, rfl, rfl, SqL.of hz, rfl, _, rfl, z, _, _, _, rfl, rfl, SqL.of hz, rfl, a, u, l, t, f, ms, n, m, rfl, FA, o, q⟩

theorem scTelling : FnScope ["frame", "call", "given", "done"] psC (defScope sTelling) := ⟨rfl, rfl, rfl, by decide +kernel, rfl, by decide +kernel, by decide +kernel⟩
theorem ok_telling {x : Addr} {fd : FuncData} (F : Fun K "answer_of_telling" "answer_of_telling" sTelling x fd) (HC : HasF P w K mg base "carry_out" 19 psC (spCarry C)) (HT : HasF P w K mg base "told_numbers" 1 ["frame"] (spTold C)) :
    FnOk P w K mg base CX0 20 x fd psC (spTelling C) := by
  refine F.ok scTelling (fun vs H Q E h => ?_) (fun cdv A outer s H vs Q E hr h => ?_)
  · obtain ⟨a, u, l, t, z, f, p, xs, c, rfl, _⟩ := h
    rfl
  obtain ⟨a, u, l, t, z, f, p, xs, c, rfl, hc, hz, FA, o, hlen, q⟩ := h
  obtain ⟨y1, g1, m1, k1, b1, G1⟩ := HC
  obtain ⟨y2, g2, m2, k2, b2, G2⟩ := HT
  refine ⟨_, pss_cons (ps_set (i := 3) scTelling.nd rfl (Or.inl rfl) (pe_call G1 hr rfl m1 k1 b1 .nil pass0 (pa_cons (pv 0) (pa_cons (pv 1) (pa_cons (pv 2) pa_nil)))))
    (pss_cons (ps_if (pt_cmpR op_lt (pv 3) pe_int (nomark _)) (pss_one (ps_ret (pe_lst (pa_cons (pv 3) pa_nil)))) pss_nil)
    (pss_one (ps_ret (pe_call G2 (hr.mono (by omega)) rfl m2 k2 b2 .nil pass0 (pa_cons (pv 0) pa_nil))))), ?_⟩
  refine ⟨_, rfl, _, rfl, _, rfl, a, u, l, t, z, f, [], p, xs, c, rfl, hc, hz, FA, o, fun v hv => ?_, fun hn => ?_⟩
  · have eA : tellsA f c = [v] := by unfold tellsA; rw [hv]
    have eF : tellsF f c = f := by unfold tellsF; rw [hv]
    rw [eA, eF] at q
    refine ⟨_, rfl, _, _, rfl, rfl, _, rfl, ?_⟩
    refine if_true_of (decide_eq_true (refusal_neg hv)) ?_
    exact ⟨_, rfl, (by show 1 ≤ sizeLine; decide), fun r nr => q.new FA nr⟩
  · have eA : tellsA f c = toldL (movesOf f c) := by unfold tellsA; rw [hn, hc.quot]; exact List.append_nil _
    have eF : tellsF f c = Kab.after f (movesOf f c) := by unfold tellsF; rw [hn]
    rw [eA, toldL_len] at hlen
    rw [eA, eF] at q
    refine ⟨?_, fun H1 F1 kp => ?_⟩
    · show 0 + _ ≤ 8000000
      omega
    · refine ⟨_, rfl, _, _, rfl, rfl, _, rfl, ?_⟩
      refine if_false_of (decide_eq_false (by decide)) ?_
      refine ⟨_, rfl, a, u, l, t, _, _, rfl, F1, by rw [List.nil_append]; exact hlen, fun H2 r nr s hr2 => ?_⟩
      rw [List.nil_append] at hr2
      exact q H2 r _ (F1.same s) (kp.none F1 nr) hr2 (kp.trans (Kept.same s))

theorem scOver : FnScope ["frame", "b", "quotient"] ["frame", "b"] (defScope sOver) := ⟨rfl, rfl, rfl, by decide +kernel, rfl, by decide +kernel, by decide +kernel⟩
theorem ok_over {x : Addr} {fd : FuncData} (F : Fun K "answer_of_over" "answer_of_over" sOver x fd) (T : Txt K mg C) (T3 : Txt3 mg) (HO : HasF P w K mg base "take_out" 17 ["frame", "divisor"] (spOut C)) (HT : HasF P w K mg base "told_numbers" 1 ["frame"] (spTold C)) :
    FnOk P w K mg base CX0 18 x fd ["frame", "b"] (spOver C) := by
  refine F.ok scOver (fun vs H Q E h => ?_) (fun cdv A outer s H vs Q E hr h => ?_)
  · obtain ⟨a, u, l, t, f, b, rfl, _⟩ := h
    rfl
  obtain ⟨a, u, l, t, f, b, rfl, FA, o, hlen, q⟩ := h
  obtain ⟨y1, g1, m1, k1, b1, G1⟩ := HO
  obtain ⟨y2, g2, m2, k2, b2, G2⟩ := HT
  refine ⟨_, pss_cons (ps_if (PW.pt (pw_or (pt_cmpR op_eq (pv 1) pe_int (nomark _)) (pw_or1 (pt_cmpR op_ge (pv 1) (pe_const T.limit) (nomark _))))) (pss_one (ps_ret (pe_lst (pa_cons (pe_const T3.noDiv) pa_nil)))) pss_nil)
    (pss_cons (ps_set (i := 2) scOver.nd rfl (Or.inl rfl) (pe_call G1 hr rfl m1 k1 b1 .nil pass0 (pa_cons (pv 0) (pa_cons (pv 1) pa_nil))))
    (pss_one (ps_ret (pe_op op_cat (pe_call G2 (hr.mono (by omega)) rfl m2 k2 b2 .nil pass0 (pa_cons (pv 0) pa_nil)) (pe_lst (pa_cons (pv 2) pa_nil)))))), ?_⟩
  have no : (b = 0 ∨ 10 ^ 12 ≤ b) → InPost C H a u l t f [-22] Q := fun h => by
    have e : refusal f (.over b) = some (-22) := if_pos h
    have eA : tellsA f (.over b) = [-22] := by unfold tellsA; rw [e]
    have eF : tellsF f (.over b) = f := by unfold tellsF; rw [e]
    rw [eA, eF] at q
    exact q
  refine ⟨_, rfl, rfl, _, rfl, ?_⟩
  by_cases c0 : b = 0
  · refine if_true_of (int_eq (by omega)) (if_true_of rfl ?_)
    exact ⟨(by show 1 ≤ sizeLine; decide), fun r nr => (no (.inl c0)).new FA nr⟩
  refine if_false_of (int_ne (by omega)) ⟨_, rfl, _, _, rfl, rfl, _, rfl, ?_⟩
  by_cases c1 : 10 ^ 12 ≤ b
  · refine if_true_of (decide_eq_true (by omega)) ?_
    exact ⟨(by show 1 ≤ sizeLine; decide), fun r nr => (no (.inr c1)).new FA nr⟩
  refine if_false_of (decide_eq_false (by omega)) ?_
  have e : refusal f (.over b) = none := if_neg (by omega)
  have eA : tellsA f (.over b) = toldL (Kab.dividing b Kab.rods f 0).1 ++ [(((Kab.dividing b Kab.rods f 0).2 : Nat) : Int)] := by unfold tellsA; rw [e]; rfl
  have eF : tellsF f (.over b) = Kab.after f (Kab.dividing b Kab.rods f 0).1 := by unfold tellsF; rw [e]; rfl
  rw [eA, List.length_append, toldL_len] at hlen
  rw [eA, eF] at q
  have h1 : [(((Kab.dividing b Kab.rods f 0).2 : Nat) : Int)].length = 1 := rfl
  rw [h1] at hlen
  refine ⟨_, rfl, _, rfl, a, u, l, t, f, [], b, rfl, FA, o, by omega, by omega, ?_, fun H1 F1 kp => ?_⟩
  · show 0 + _ ≤ 8000000
    omega
  refine ⟨_, rfl, a, u, l, t, _, _, rfl, F1, by rw [List.nil_append]; omega, fun H2 r nr s hr2 => ?_⟩
  rw [List.nil_append] at hr2
  refine ⟨_, rfl, (by show 1 ≤ sizeLine; decide), fun r2 nr2 => ?_⟩
  have rr : r ≠ r2 := ne_of_none hr2 nr2
  refine ⟨r, r2, _, _, rfl, rfl, (by rw [upd_ne rr]; exact hr2), upd_same, ?_, fun r3 nr3 => ?_⟩
  · rw [List.length_map, toldL_len]
    show _ + 1 ≤ sizeLine
    have : (10000001 : Nat) ≤ sizeLine := by decide
    omega
  · have s2 := same_new nr2 (.lst [V.int ((Kab.dividing b Kab.rods f 0).2 : Nat)])
    have s3 := same_new nr3 (.lst ((toldL (Kab.dividing b Kab.rods f 0).1).map V.int ++ [V.int ((Kab.dividing b Kab.rods f 0).2 : Nat)]))
    have sA : Same H1 _ := (s.trans s2).trans s3
    have n1 : H1 r3 = none := by
      cases z : H1 r3 with
      | none => rfl
      | some o => 
        have z2 := (s.trans s2) _ _ z
        rw [nr3] at z2
        cases z2
    refine q _ r3 _ (F1.same sA) (kp.none F1 n1) ?_ (kp.trans (Kept.same sA))
    rw [upd_same, List.map_append]
    rfl

theorem scMove : FnScope ["frame", "rod", "kind", "beads"] ["frame", "rod", "kind", "beads"] (defScope sMove) := ⟨rfl, rfl, rfl, by decide +kernel, rfl, by decide +kernel, by decide +kernel⟩
theorem ok_move {x : Addr} {fd : FuncData} (F : Fun K "answer_of_move" "answer_of_move" sMove x fd) (T : Txt K mg C) (T2 : Txt2 mg) (T3 : Txt3 mg) (MC : HasM P w K mg base C "can_make" 1 psMake (spCan C)) (MK : HasM P w K mg base C "make" 1 psMake (spMake C)) :
    FnOk P w K mg base CX0 2 x fd ["frame", "rod", "kind", "beads"] (spMove C) := by
  refine F.ok scMove (fun vs H Q E h => ?_) (fun cdv A outer s H vs Q E hr h => ?_)
  · obtain ⟨a, u, l, t, f, m, rfl, _⟩ := h
    rfl
  obtain ⟨a, u, l, t, f, m, rfl, FA, o, q⟩ := h
  obtain ⟨y1, g1, m1, b1, G1⟩ := MC
  obtain ⟨y2, g2, m2, b2, G2⟩ := MK
  refine ⟨_, pss_cons (ps_if (pt_not (pt_val (pe_meth (pv 0) T.cl m1 G1 hr b1 .nil pass0 (pa_cons (pv 1) (pa_cons (pv 2) (pa_cons (pv 3) pa_nil)))))) (pss_one (ps_ret (pe_lst (pa_cons (pe_const T3.noMove) pa_nil)))) pss_nil)
    (pss_cons (ps_expr (pe_meth (pv 0) T.cl m2 G2 hr b2 .nil pass0 (pa_cons (pv 1) (pa_cons (pv 2) (pa_cons (pv 3) pa_nil)))))
    (pss_one (ps_ret (pe_lst (pa_cons (pe_const T2.done) pa_nil))))), ?_⟩
  obtain ⟨dx, ins⟩ := id FA.ins
  refine ⟨_, rfl, a, dx, _, rfl, ins, bF_no (by decide +kernel) (by decide +kernel) (by decide +kernel) u l t, _, rfl, _, rfl, _, rfl, a, u, l, t, f, [], m, rfl, FA, o, _, rfl, ?_⟩
  cases e : Kab.made f m with
  | none =>
    rw [e] at q
    refine if_true_of rfl ?_
    exact ⟨(by show 1 ≤ sizeLine; decide), fun r nr => q.new FA nr⟩
  | some g =>
    rw [e] at q
    refine if_false_of rfl ?_
    refine ⟨_, rfl, a, dx, _, rfl, ins, bF_no (by decide +kernel) (by decide +kernel) (by decide +kernel) u l t, _, rfl, _, rfl, _, rfl, a, u, l, t, f, g, [], m, rfl, FA, o.len, e, by decide, fun H1 F1 kp => ?_⟩
    refine ⟨(by show 1 ≤ sizeLine; decide), fun r nr => ?_⟩
    have s2 := same_new nr (.lst [V.int 0])
    exact q _ r _ (F1.same s2) (kp.none F1 nr) upd_same (kp.trans (Kept.same s2))

theorem scRod : FnScope ["frame", "rod"] ["frame", "rod"] (defScope sRod) := ⟨rfl, rfl, rfl, by decide +kernel, rfl, by decide +kernel, by decide +kernel⟩
theorem ok_rod {x : Addr} {fd : FuncData} (F : Fun K "answer_of_rod" "answer_of_rod" sRod x fd) (T : Txt K mg C) (T3 : Txt3 mg) (DG : HasM P w K mg base C "digit_at" 1 ["self", "rod"] (spDigit C)) :
    FnOk P w K mg base CX0 2 x fd ["frame", "rod"] (spRod C) := by
  refine F.ok scRod (fun vs H Q E h => ?_) (fun cdv A outer s H vs Q E hr h => ?_)
  · obtain ⟨a, u, l, t, f, k, rfl, _⟩ := h
    rfl
  obtain ⟨a, u, l, t, f, k, rfl, FA, o, q⟩ := h
  obtain ⟨y1, g1, m1, b1, G1⟩ := DG
  refine ⟨_, pss_cons (ps_if (pt_cmpR op_ge (pv 1) (pe_const T.rods) (nomark _)) (pss_one (ps_ret (pe_lst (pa_cons (pe_const T3.noRod) pa_nil)))) pss_nil)
    (pss_one (ps_ret (pe_lst (pa_cons (pe_meth (pv 0) T.cl m1 G1 hr b1 .nil pass0 (pa_cons (pv 1) pa_nil)) (pa_cons (pe_ix ix_list (pe_fld (pv 0) rfl) (pv 1) (fun _ _ => rfl)) (pa_cons (pe_ix ix_list (pe_fld (pv 0) rfl) (pv 1) (fun _ _ => rfl)) pa_nil)))))), ?_⟩
  obtain ⟨dx, ins⟩ := id FA.ins
  refine ⟨_, rfl, _, _, rfl, rfl, _, rfl, ?_⟩
  by_cases c : 12 ≤ k
  · refine if_true_of (decide_eq_true (by omega)) ?_
    have eA : answerL f (.rod k) = [-22] := if_pos c
    rw [eA] at q
    exact ⟨(by show 1 ≤ sizeLine; decide), fun r nr => q.new FA nr⟩
  · refine if_false_of (decide_eq_false (by omega)) ?_
    have eA : answerL f (.rod k) = [((Kab.worth (Kab.rod f k) : Nat) : Int), (((Kab.rod f k).five : Nat) : Int), (((Kab.rod f k).ones : Nat) : Int)] := if_neg c
    rw [eA] at q
    have hl : k < f.length := by rw [o.len]; omega
    refine digitVal FA hl rfl (fun R r => ⟨_, rfl, r⟩) ?_
    refine ⟨_, rfl, a, C, dx, _, _, rfl, ins, T.cl, T.nU, bF_u u l t, _, rfl, u, _, _, _, rfl, rfl, SqL.of FA.up, at_u hl, ?_⟩
    refine ⟨_, rfl, a, C, dx, _, _, rfl, ins, T.cl, T.nL, bF_l u l t, _, rfl, l, _, _, _, rfl, rfl, SqL.of FA.lo, at_l hl, ?_⟩
    exact ⟨(by show 3 ≤ sizeLine; decide), fun r nr => q.new FA nr⟩
end
end Bead

set_option Elab.async false
set_option maxRecDepth 100000
set_option maxHeartbeats 2000000
namespace Bead
open Kab
/-! ### The specification's own step, call by call -/
theorem call_of {p : Int} {xs : List Int} {c : Call} (h : CallIs p xs c) : KabNeutral.callOf [p :: xs] = some c := by
  cases h with
  | tell h => cases h <;> rfl
  | _ => rfl
theorem step_of {s t : KabNeutral.S} {c0 : KabNeutral.Call} {c : Call} {a : Ans} (h : KabNeutral.callOf c0 = some c) (e : acts s c = some (t, a)) :
    KabNeutral.step s c0 = (t, a.value :: (KabNeutral.ints (a.moves.flatMap fun m => [m.rod, m.kind, m.beads]) ++ KabNeutral.ints a.out)) := by
  unfold KabNeutral.step
  rw [h]
  show (match acts s c with | none => (s, []) | some (t, a) => _) = _
  rw [e]
theorem step_tells {f : Frame} {c0 : KabNeutral.Call} {c : Call} {out : List Nat} (h : KabNeutral.callOf c0 = some c) (hq : quotOf f c = KabNeutral.ints out)
    (no : ∀ v, refusal f c = some v → acts (some f) c = some (some f, say v)) (yes : refusal f c = none → acts (some f) c = some (tells f (movesOf f c) out)) :
    KabNeutral.step (some f) c0 = (some (tellsF f c), tellsA f c) := by
  unfold tellsF tellsA
  cases e : refusal f c with
  | some v => exact step_of h (no v e)
  | none =>
    refine (step_of h (yes e)).trans ?_
    rw [hq]
    rfl
theorem ite_some {p : Prop} [Decidable p] {a v : Int} (h : (if p then some a else none) = some v) : p ∧ a = v := by
  by_cases c : p
  · rw [if_pos c] at h
    exact ⟨c, Option.some.inj h⟩
  · rw [if_neg c] at h
    cases h
theorem ite_none {p : Prop} [Decidable p] {a : Int} (h : (if p then some a else none) = none) : ¬ p := fun c => by
  rw [if_pos c] at h
  cases h
theorem step_is {f : Frame} {p : Int} {xs : List Int} {c : Call} (h : CallIs p xs c) : KabNeutral.step (some f) [p :: xs] = (some (nextF f c), answerL f c) := by
  have hc := call_of h
  cases h with
  | start => exact step_of hc rfl
  | tell h =>
    cases h with
    | set n =>
      refine step_tells (out := []) hc rfl (fun v e => ?_) (fun e => ?_)
      · obtain ⟨h1, h2⟩ := ite_some e
        subst h2
        exact congrArg some (if_pos h1)
      · exact congrArg some (if_neg (ite_none e))
    | add n =>
      refine step_tells (out := []) hc rfl (fun v e => ?_) (fun e => ?_)
      · obtain ⟨h1, h2⟩ := ite_some e
        subst h2
        exact congrArg some (if_pos h1)
      · exact congrArg some (if_neg (ite_none e))
    | take n =>
      refine step_tells (out := []) hc rfl (fun v e => ?_) (fun e => ?_)
      · obtain ⟨h1, h2⟩ := ite_some e
        subst h2
        exact congrArg some (if_pos h1)
      · exact congrArg some (if_neg (ite_none e))
    | times n m =>
      refine step_tells (out := []) hc rfl (fun v e => ?_) (fun e => ?_)
      · obtain ⟨h1, h2⟩ := ite_some e
        subst h2
        exact congrArg some (if_pos h1)
      · exact congrArg some (if_neg (ite_none e))
  | over b =>
    refine step_tells (out := [(dividing b rods f 0).2]) hc rfl (fun v e => ?_) (fun e => ?_)
    · obtain ⟨h1, h2⟩ := ite_some e
      subst h2
      exact congrArg some (if_pos h1)
    · exact congrArg some (if_neg (ite_none e))
  | move k j n =>
    cases e : made f ⟨k, j, n⟩ with
    | none =>
      have e1 : nextF f (.move k j n) = f := by show (made f ⟨k, j, n⟩).getD f = f; rw [e]; rfl
      have e2 : answerL f (.move k j n) = [-13] := by show (if (made f ⟨k, j, n⟩).isSome = true then _ else _) = _; rw [e]; rfl
      rw [e1, e2]
      refine step_of hc (a := say (-13)) ?_
      show some (match made f ⟨k, j, n⟩ with | none => (some f, say (-13)) | some g => (some g, say 0)) = _
      rw [e]
    | some g =>
      have e1 : nextF f (.move k j n) = g := by show (made f ⟨k, j, n⟩).getD f = g; rw [e]; rfl
      have e2 : answerL f (.move k j n) = [0] := by show (if (made f ⟨k, j, n⟩).isSome = true then _ else _) = _; rw [e]; rfl
      rw [e1, e2]
      refine step_of hc (a := say 0) ?_
      show some (match made f ⟨k, j, n⟩ with | none => (some f, say (-13)) | some g => (some g, say 0)) = _
      rw [e]
  | value => exact step_of (t := some f) hc (a := ⟨0, [], [valueOf f]⟩) rfl
  | rod k =>
    by_cases c : 12 ≤ k
    · have e2 : answerL f (.rod k) = [-22] := if_pos c
      rw [e2]
      refine step_of hc (a := say (-22)) ?_
      show some (some f, if rods ≤ k then say (-22) else _) = _
      rw [if_pos (show rods ≤ k from c)]
      rfl
    · have e2 : answerL f (.rod k) = [((worth (rod f k) : Nat) : Int), (((rod f k).five : Nat) : Int), (((rod f k).ones : Nat) : Int)] := if_neg c
      rw [e2]
      refine step_of hc (a := ⟨(worth (rod f k) : Nat), [], [(rod f k).five, (rod f k).ones]⟩) ?_
      show some (some f, if rods ≤ k then say (-22) else _) = _
      rw [if_neg (show ¬ rods ≤ k from c)]
      rfl
theorem step_any {s : KabNeutral.S} {f : Frame} {p : Int} {xs : List Int} {c : Call} (h : CallIs p xs c) (hs : s = none ∨ s = some f) (ne : (KabNeutral.step s [p :: xs]).2 ≠ []) :
    KabNeutral.step s [p :: xs] = (some (nextF f c), answerL f c) := by
  rcases hs with rfl | rfl
  · cases h with
    | start => rfl
    | tell h => cases h <;> exact absurd rfl ne
    | over b => exact absurd rfl ne
    | move k j n => exact absurd rfl ne
    | value => exact absurd rfl ne
    | rod k => exact absurd rfl ne
  · exact step_is h
theorem call_is {p : Int} {n : Nat} {r : List Int} (h : Kind p n) (hn : n ≤ r.length) (ha : KabNeutral.asked1 [p :: r.take n] = true) : ∃ c, CallIs p (r.take n) c := by
  cases h with
  | start => exact ⟨_, .start⟩
  | set =>
    obtain ⟨a, e⟩ := take1 hn
    rw [e] at ha ⊢
    obtain ⟨n, rfl, _⟩ := nat_of ha
    exact ⟨_, .tell (.set n)⟩
  | add =>
    obtain ⟨a, e⟩ := take1 hn
    rw [e] at ha ⊢
    obtain ⟨n, rfl, _⟩ := nat_of ha
    exact ⟨_, .tell (.add n)⟩
  | take =>
    obtain ⟨a, e⟩ := take1 hn
    rw [e] at ha ⊢
    obtain ⟨n, rfl, _⟩ := nat_of ha
    exact ⟨_, .tell (.take n)⟩
  | times =>
    obtain ⟨a, b, e⟩ := take2 hn
    rw [e] at ha ⊢
    have ha : (KabNeutral.natural a 64 && KabNeutral.natural b 64) = true := ha
    rw [Bool.and_eq_true] at ha
    obtain ⟨n, rfl, _⟩ := nat_of ha.1
    obtain ⟨m, rfl, _⟩ := nat_of ha.2
    exact ⟨_, .tell (.times n m)⟩
  | over =>
    obtain ⟨a, e⟩ := take1 hn
    rw [e] at ha ⊢
    obtain ⟨n, rfl, _⟩ := nat_of ha
    exact ⟨_, .over n⟩
  | move =>
    obtain ⟨a, b, c, e⟩ := take3 hn
    rw [e] at ha ⊢
    have ha : (KabNeutral.natural a 32 && (KabNeutral.natural b 32 && KabNeutral.natural c 32)) = true := ha
    rw [Bool.and_eq_true, Bool.and_eq_true] at ha
    obtain ⟨k, rfl, _⟩ := nat32_of ha.1
    obtain ⟨j, rfl, _⟩ := nat32_of ha.2.1
    obtain ⟨n, rfl, _⟩ := nat32_of ha.2.2
    exact ⟨_, .move k j n⟩
  | value => exact ⟨_, .value⟩
  | rod =>
    obtain ⟨a, e⟩ := take1 hn
    rw [e] at ha ⊢
    obtain ⟨n, rfl, _⟩ := nat32_of ha
    exact ⟨_, .rod n⟩
theorem tells_ok {f : Frame} (o : Ok f) (c : Call) (hc : ∀ k j n, c ≠ .move k j n) : Ok (tellsF f c) := by
  unfold tellsF
  cases e : refusal f c with
  | some v => exact o
  | none =>
    have hlt := o.lt
    cases c with
    | start => exact o
    | set n =>
      have h1 := ite_none e
      have gc := clearing_goes o
      show Ok (after f (both f (clearing f) fun g => addNumber rods g 0 n))
      rw [after_both, gc.after]
      exact (addNumber_after ok_clear (show n < 10 ^ rods from by show n < 10 ^ 12; omega) (by rw [value_clear]; omega)).1
    | add n =>
      have h1 := ite_none e
      exact (addNumber_after o (show n < 10 ^ rods from by show n < 10 ^ 12; omega) (by omega)).1
    | take n =>
      have h1 := ite_none e
      exact (takeNumber_after o (show n < 10 ^ rods from by show n < 10 ^ 12; omega) (by omega)).1
    | times a b =>
      have h1 := ite_none e
      have gc := clearing_goes o
      show Ok (after f (timesMoves f a b))
      rw [timesMoves_is f a b (by omega) (by omega) 12 12 (by omega) (by omega), after_both, gc.after]
      have sA := pl_sum 12 a
      have sB := pl_sum 12 b
      rw [Nat.mod_eq_of_lt (by omega)] at sA sB
      exact (outer_after (pl_ok 12 b) ok_clear (pl_ok 12 a) (by rw [value_clear, sA, sB]; omega)).1
    | over b =>
      have h1 := ite_none e
      obtain ⟨g, gg, og⟩ := dividing_goes b (by omega) rods f 0 o
      show Ok (after f (dividing b rods f 0).1)
      rw [gg.after]
      exact og
    | move k j n => exact absurd rfl (hc k j n)
    | value => exact o
    | rod k => exact o
theorem next_ok {f : Frame} (o : Ok f) (c : Call) : Ok (nextF f c) := by
  cases c with
  | start => exact ok_clear
  | move k j n =>
    show Ok ((made f ⟨k, j, n⟩).getD f)
    cases e : made f ⟨k, j, n⟩ with
    | none => exact o
    | some g => exact (made_ok o e).1
  | value => exact o
  | rod k => exact o
  | set n => exact tells_ok o _ (by intro _ _ _ z; cases z)
  | add n => exact tells_ok o _ (by intro _ _ _ z; cases z)
  | take n => exact tells_ok o _ (by intro _ _ _ z; cases z)
  | times a b => exact tells_ok o _ (by intro _ _ _ z; cases z)
  | over b => exact tells_ok o _ (by intro _ _ _ z; cases z)
end Bead
namespace Bead
open PySem PySem.Spec PyProof.Rows L2
/-- a new list of an answer, the frame as it is then, perhaps of other lists -/
def AnsPost (C : Addr) (H : Hp) (a u l t : Addr) (g : Kab.Frame) (ans : List Int) (Q : VK) : Prop :=
  ∀ (H' : Hp) (r u' l' t' : Addr) (ms : List Kab.Move), FrAt C H' a u' l' t' g ms → H r = none → H' r = some (.lst (ans.map V.int)) →
    (∀ b o, H b = some o → b ≠ a → b ≠ u → b ≠ l → b ≠ t → H' b = some o ∧ b ≠ u' ∧ b ≠ l' ∧ b ≠ t') → Q (.ref r) H'
theorem none_back {H H1 : Hp} {a r : Addr} {o1 : HO} (k1 : ∀ b o, H b = some o → b ≠ a → H1 b = some o) (h1 : H1 a = some o1) (h : H1 r = none) : H r = none := by
  cases e : H r with
  | none => rfl
  | some o =>
    have ra : r ≠ a := (ne_of_none h1 h).symm
    have e2 := k1 r o e ra
    rw [h] at e2
    cases e2
theorem AnsPost.inn {C : Addr} {H H1 : Hp} {a u l t t' : Addr} {f g : Kab.Frame} {ms : List Kab.Move} {ans : List Int} {Q : VK} (q : AnsPost C H a u l t g ans Q) (F1 : FrAt C H1 a u l t' f ms)
    (k1 : ∀ b o, H b = some o → b ≠ a → H1 b = some o) (nt : H t' = none) : InPost C H1 a u l t' g ans Q := fun H2 r ms F2 nr hr kp => by
  obtain ⟨dx, ins⟩ := F1.ins
  exact q H2 r u l t' ms F2 (none_back k1 ins nr) hr fun b o e ba bu bl bt => ⟨kp b o (k1 b o e ba) bu bl (ne_of_none e nt), bu, bl, ne_of_none e nt⟩
def spAnswer (C : Addr) : Sp := fun vs H Q _ => ∃ (a u l t z : Addr) (f : Kab.Frame) (ms : List Kab.Move) (p : Int) (xs : List Int) (c : Kab.Call), vs = [.ref a, .int p, .ref z] ∧
  CallIs p xs c ∧ H z = some (.lst (xs.map V.int)) ∧ FrAt C H a u l t f ms ∧ Ok f ∧ (answerL f c).length ≤ 10000000 ∧ AnsPost C H a u l t (nextF f c) (answerL f c) Q
section
variable {P : Program} {w : World} {K : PySem.W.Frag} {mg : Str → Option Value} {base : Heap} {C : Addr}
theorem scAnswer : FnScope psC psC (defScope sAnswer) := ⟨rfl, rfl, rfl, by decide +kernel, rfl, by decide +kernel, by decide +kernel⟩
theorem ok_answer {x : Addr} {fd : FuncData} (F : Fun K "answer_of" "answer_of" sAnswer x fd) (T : Txt K mg C) (T2 : Txt2 mg) (T3 : Txt3 mg) (BG : HasM P w K mg base C "begin" 1 ["self"] (spBegin C))
    (SH : HasM P w K mg base C "shown" 2 ["self"] (spShown C)) (HO : HasF P w K mg base "answer_of_over" 18 ["frame", "b"] (spOver C)) (HM : HasF P w K mg base "answer_of_move" 2 ["frame", "rod", "kind", "beads"] (spMove C))
    (HR : HasF P w K mg base "answer_of_rod" 2 ["frame", "rod"] (spRod C)) (HT : HasF P w K mg base "answer_of_telling" 20 psC (spTelling C)) : FnOk P w K mg base CX0 21 x fd psC (spAnswer C) := by
  refine F.ok scAnswer (fun vs H Q E h => ?_) (fun cdv A outer s H vs Q E hr h => ?_)
  · obtain ⟨a, u, l, t, z, f, ms, p, xs, c, rfl, _⟩ := h
    rfl
  obtain ⟨a, u, l, t, z, f, ms, p, xs, c, rfl, hc, hz, FA, o, hlen, q⟩ := h
  obtain ⟨yb, gb, mb, bb, Gb⟩ := BG
  obtain ⟨ys, gs, m5, bs, Gs⟩ := SH
  obtain ⟨y1, g1, m1, k1, b1, G1⟩ := HO
  obtain ⟨y2, g2, m2, k2, b2, G2⟩ := HM
  obtain ⟨y3, g3, m3, k3, b3, G3⟩ := HR
  obtain ⟨y4, g4, m4, k4, b4, G4⟩ := HT
  refine ⟨_, pss_cons (ps_fld (pv 0) (pe_lst pa_nil) rfl)
    (pss_cons (ps_if (pt_cmpR op_eq (pv 1) (pe_const T3.start) (nomark _))
      (pss_cons (ps_expr (pe_meth0 (pv 0) T.cl mb Gb (hr.mono (by omega)) bb .nil pass0)) (pss_one (ps_ret (pe_lst (pa_cons (pe_const T2.done) pa_nil))))) pss_nil)
    (pss_cons (ps_if (pt_cmpR op_eq (pv 1) (pe_const T3.over) (nomark _))
      (pss_one (ps_ret (pe_call G1 (hr.mono (by omega)) rfl m1 k1 b1 .nil pass0 (pa_cons (pv 0) (pa_cons (pe_ix ix_list (pv 2) pe_int (fun _ _ => rfl)) pa_nil))))) pss_nil)
    (pss_cons (ps_if (pt_cmpR op_eq (pv 1) (pe_const T3.move) (nomark _))
      (pss_one (ps_ret (pe_call G2 (hr.mono (by omega)) rfl m2 k2 b2 .nil pass0 (pa_cons (pv 0) (pa_cons (pe_ix ix_list (pv 2) pe_int (fun _ _ => rfl)) (pa_cons (pe_ix ix_list (pv 2) pe_int (fun _ _ => rfl)) (pa_cons (pe_ix ix_list (pv 2) pe_int (fun _ _ => rfl)) pa_nil))))))) pss_nil)
    (pss_cons (ps_if (pt_cmpR op_eq (pv 1) (pe_const T3.value) (nomark _))
      (pss_one (ps_ret (pe_lst (pa_cons (pe_const T2.done) (pa_cons (pe_meth0 (pv 0) T.cl m5 Gs (hr.mono (by omega)) bs .nil pass0) pa_nil))))) pss_nil)
    (pss_cons (ps_if (pt_cmpR op_eq (pv 1) (pe_const T3.rod) (nomark _))
      (pss_one (ps_ret (pe_call G3 (hr.mono (by omega)) rfl m3 k3 b3 .nil pass0 (pa_cons (pv 0) (pa_cons (pe_ix ix_list (pv 2) pe_int (fun _ _ => rfl)) pa_nil))))) pss_nil)
    (pss_one (ps_ret (pe_call G4 hr rfl m4 k4 b4 .nil pass0 (pa_cons (pv 0) (pa_cons (pv 1) (pa_cons (pv 2) pa_nil))))))))))), ?_⟩
  obtain ⟨dx, ins⟩ := id FA.ins
  refine ⟨(by show 0 ≤ sizeLine; decide), fun t' nt => ?_⟩
  obtain ⟨ta, tu, tl, tt⟩ := FA.new nt
  have za : z ≠ a := ne_of hz ins (by intro z; cases z)
  refine ⟨_, rfl, a, C, dx, _, rfl, (by rw [upd_ne ta.symm]; exact ins), T.cl, T.nT, (by show 3 < 1000; decide), ?_⟩
  rw [bF_putT]
  have F1 : FrAt C (upd (upd H t' (.lst [])) a (.ins C dx (bF u l t'))) a u l t' f [] := by
    have au : a ≠ u := ne_of ins FA.up (by intro z; cases z)
    have al : a ≠ l := ne_of ins FA.lo (by intro z; cases z)
    refine ⟨⟨dx, upd_same⟩, ?_, ?_, ⟨[], ?_, trivial⟩, FA.ul, tu.symm, tl.symm⟩
    · rw [upd_ne au.symm, upd_ne tu.symm]; exact FA.up
    · rw [upd_ne al.symm, upd_ne tl.symm]; exact FA.lo
    · rw [upd_ne ta]; exact upd_same
  have K1 : ∀ b o, H b = some o → b ≠ a → upd (upd H t' (.lst [])) a (.ins C dx (bF u l t')) b = some o := fun b o e ba => by
    rw [upd_ne ba, upd_ne (ne_of_none e nt)]; exact e
  generalize upd (upd H t' (.lst [])) a (.ins C dx (bF u l t')) = H1 at *
  have hz1 := K1 _ _ hz za
  obtain ⟨dx1, ins1⟩ := id F1.ins
  refine ⟨_, rfl, rfl, _, rfl, ?_⟩
  cases hc with
  | start =>
    refine if_true_of (int_eq rfl) ?_
    refine ⟨_, rfl, a, dx1, _, rfl, ins1, bF_no (by decide +kernel) (by decide +kernel) (by decide +kernel) u l t', a, dx1, _, rfl, ins1, .inr ⟨u, l, t', rfl⟩, fun H2 u2 l2 t2 F2 nu nl nt2 kp => ?_⟩
    refine ⟨(by show 1 ≤ sizeLine; decide), fun r nr => ?_⟩
    obtain ⟨dx2, ins2⟩ := id F2.ins
    have s2 := same_new nr (.lst [V.int 0])
    refine q _ r u2 l2 t2 _ (F2.same s2) (none_back K1 ins1 (none_back kp ins2 nr)) upd_same fun b o e ba bu bl bt => ?_
    have e1 := K1 b o e ba
    exact ⟨s2 _ _ (kp b o e1 ba), ne_of_none e1 nu, ne_of_none e1 nl, ne_of_none e1 nt2⟩
  | tell h =>
    rw [h.next.1, h.next.2] at q
    rw [h.next.2] at hlen
    have qi := q.inn F1 K1 nt
    have go : ∀ vs', vs' = [V.ref a, V.int p, V.ref z] → spTelling C vs' H1 Q E0 := fun vs' e => ⟨a, u, l, t', z, f, p, xs, c, e, h, hz1, F1, o, hlen, qi⟩
    cases h <;>
      refine if_false_of (int_ne (by decide)) ⟨_, rfl, rfl, _, rfl, if_false_of (int_ne (by decide)) ⟨_, rfl, rfl, _, rfl, if_false_of (int_ne (by decide)) ⟨_, rfl, rfl, _, rfl, if_false_of (int_ne (by decide)) ⟨_, rfl, rfl, _, rfl, if_false_of (int_ne (by decide)) ⟨_, rfl, _, rfl, _, rfl, go _ rfl⟩⟩⟩⟩⟩
  | over b =>
    refine if_false_of (int_ne (by decide)) ⟨_, rfl, rfl, _, rfl, if_true_of (int_eq rfl) ?_⟩
    exact ⟨_, rfl, _, rfl, z, _, _, _, rfl, rfl, SqL.of hz1, rfl, a, u, l, t', f, b, rfl, F1, o, hlen, q.inn F1 K1 nt⟩
  | move k j n =>
    refine if_false_of (int_ne (by decide)) ⟨_, rfl, rfl, _, rfl, if_false_of (int_ne (by decide)) ⟨_, rfl, rfl, _, rfl, if_true_of (int_eq rfl) ?_⟩⟩
    exact ⟨_, rfl, _, rfl, z, _, _, _, rfl, rfl, SqL.of hz1, rfl, _, rfl, z, _, _, _, rfl, rfl, SqL.of hz1, rfl, _, rfl, z, _, _, _, rfl, rfl, SqL.of hz1, rfl, a, u, l, t', f, ⟨k, j, n⟩, rfl, F1, o, q.inn F1 K1 nt⟩
  | value =>
    refine if_false_of (int_ne (by decide)) ⟨_, rfl, rfl, _, rfl, if_false_of (int_ne (by decide)) ⟨_, rfl, rfl, _, rfl, if_false_of (int_ne (by decide)) ⟨_, rfl, rfl, _, rfl, if_true_of (int_eq rfl) ?_⟩⟩⟩
    refine shownVal F1 o.len rfl ⟨(by show 2 ≤ sizeLine; decide), fun r nr => ?_⟩
    exact (q.inn F1 K1 nt).new F1 nr
  | rod k =>
    refine if_false_of (int_ne (by decide)) ⟨_, rfl, rfl, _, rfl, if_false_of (int_ne (by decide)) ⟨_, rfl, rfl, _, rfl, if_false_of (int_ne (by decide)) ⟨_, rfl, rfl, _, rfl, if_false_of (int_ne (by decide)) ⟨_, rfl, rfl, _, rfl, if_true_of (int_eq rfl) ?_⟩⟩⟩⟩
    exact ⟨_, rfl, _, rfl, z, _, _, _, rfl, rfl, SqL.of hz1, rfl, a, u, l, t', f, k, rfl, F1, o, q.inn F1 K1 nt⟩
end
end Bead

set_option Elab.async false
set_option maxRecDepth 100000
set_option maxHeartbeats 2000000
namespace Bead
open PySem PySem.Spec PyProof.Rows L2
/-- what is handed in: a list that nothing here writes -/
def ArgL (K : PySem.W.Frag) (H : Hp) (c : Addr) (xs : List V) : Prop := (∃ o, H c = some (.frz o (.lst xs))) ∨ ∀ H', SqL K H' c xs
theorem ArgL.sq {K : PySem.W.Frag} {H : Hp} {c : Addr} {xs : List V} (h : ArgL K H c xs) : SqL K H c xs := by
  rcases h with ⟨o, e⟩ | h
  · exact .inl (.inr ⟨o, e⟩)
  · exact h H
theorem ArgL.of {K : PySem.W.Frag} {H : Hp} {c : Addr} {xs : List V} (hO : OnlyF H) (h : SqL K H c xs) : ArgL K H c xs := by
  rcases h with h | h
  · rcases h with h | ⟨o, h⟩
    · rcases hO c with z | ⟨o, u, z⟩
      · rw [z] at h; cases h
      · rw [z] at h; cases h
    · exact .inl ⟨o, h⟩
  · exact .inr fun H' => .inr h
theorem ArgL.keep {K : PySem.W.Frag} {H H' : Hp} {c : Addr} {xs : List V} (h : ArgL K H c xs) (k : ∀ o u, H c = some (.frz o u) → H' c = some (.frz o u)) : ArgL K H' c xs := by
  rcases h with ⟨o, e⟩ | h
  · exact .inl ⟨o, k _ _ e⟩
  · exact .inr h
def counts : List V := [.int 0, .int 1, .int 1, .int 1, .int 2, .int 1, .int 3, .int 0, .int 1]
theorem count_at {p : Int} {n : Nat} (h : Kind p n) : atI counts p = some (.int (n : Nat)) := by
  cases h <;> decide +kernel
theorem cut_is (ns : List Int) (j n : Nat) (h : j + 1 + n ≤ ns.length) :
    cutV (ns.map V.int) (some ((j : Nat) + 1 : Int)) (some ((j : Nat) + 1 + (n : Nat) : Int)) = ((ns.drop (j + 1)).take n).map V.int := by
  unfold cutV
  have e1 : ((j : Nat) + 1 : Int) = ((j + 1 : Nat) : Int) := by omega
  have e2 : ((j : Nat) + 1 + (n : Nat) : Int) = ((j + 1 + n : Nat) : Int) := by omega
  rw [e2, e1, HT.sIx_nat, HT.sIx_nat, List.length_map, Nat.min_eq_left (by omega), Nat.min_eq_left (by omega), List.map_take, List.map_drop, show j + 1 + n - (j + 1) = n by omega]
def fourth (σ : L2.St) : Nat := match σ with
  | _ :: _ :: _ :: some (.int z) :: _ => z.toNat
  | _ => 0
def spAnswers (K : PySem.W.Frag) : Sp := fun vs H Q _ => ∃ (c : Addr) (ns : List Int), vs = [.ref c] ∧ ArgL K H c (ns.map V.int) ∧ PyKab.answers_asked ns = true ∧
  ∀ (H' : Hp) (r : Addr), H' r = some (.lst ((PyKab.answers ns).map V.int)) → Q (.ref r) H'
section
variable {P : Program} {w : World} {K : PySem.W.Frag} {mg : Str → Option Value} {base : Heap} {C : Addr}
theorem scAnswers : FnScope ["calls", "frame", "answered", "at", "call", "behind", "answer"] ["calls"] (defScope sAnswers) := ⟨rfl, rfl, rfl, by decide +kernel, rfl, by decide +kernel, by decide +kernel⟩
theorem ok_answers {x y : Addr} {fd gd : FuncData} (F : Fun K "answers" "answers" sAnswers x fd) (T : Txt K mg C) (hcnt : ∃ gc : Addr, mg "GIVEN_COUNTS" = some (.ref gc) ∧ ∀ H, SqT K H gc counts)
    (MI : Mk K C y) (GI : FnOk P w K mg base CX0 2 y gd ["self"] (spInit C)) (bI : Binds K gd ["self"] []) (HA : HasF P w K mg base "answer_of" 21 psC (spAnswer C)) : FnOk P w K mg base CX0 22 x fd ["calls"] (spAnswers K) := by
  refine F.ok scAnswers (fun vs H Q E h => ?_) (fun cdv A outer s H vs Q E hr h => ?_)
  · obtain ⟨c, ns, rfl, _⟩ := h
    rfl
  obtain ⟨c, ns, rfl, hA, hask, q⟩ := h
  obtain ⟨gc, mgc, hgc⟩ := hcnt
  obtain ⟨ya, ga, mA, kA, bA, GA⟩ := HA
  refine ⟨_, pss_cons (ps_set (i := 1) scAnswers.nd rfl (Or.inl rfl) (pe_make0 MI GI (hr.mono (by omega)) rfl T.gC bI .nil pass0))
    (pss_cons (ps_set (i := 2) scAnswers.nd rfl (Or.inl rfl) (pe_lst pa_nil))
    (pss_cons (ps_set (i := 3) scAnswers.nd rfl (Or.inl rfl) pe_int)
    (pss_cons (ps_while PassesOwn.never (pt_cmpR op_lt (pv 3) (pe_callB call_len_seq (by rfl) T.len PySem.boot_len (pa_cons (pv 0) pa_nil)) (nomark _))
      (pss_cons (ps_set (i := 4) scAnswers.nd rfl (Or.inl rfl) (pe_ix ix_list (pv 0) (pv 3) (fun _ _ => rfl)))
      (pss_cons (ps_set (i := 5) scAnswers.nd rfl (Or.inl rfl) (pe_op op_add (pe_op op_add (pv 3) pe_int) (pe_ix ix_tup (pe_glob (v := .ref gc) rfl mgc rfl) (pv 4) (fun _ _ => rfl))))
      (pss_cons (ps_set (i := 6) scAnswers.nd rfl (Or.inl rfl) (pe_call GA hr rfl mA kA bA .nil pass0 (pa_cons (pv 1) (pa_cons (pv 4) (pa_cons (pe_slice sl_list (pv 0) (po_some (pe_op op_add (pv 3) pe_int)) (po_some (pv 5))) pa_nil)))))
      (pss_cons (ps_expr (pe_bm PySem.F.plainAttrs_list PySem.F.slot_list_append PySem.F.type_list_append mt_append (pv 2) (pa_cons (pe_callB call_len_seq (by rfl) T.len PySem.boot_len (pa_cons (pv 6) pa_nil)) pa_nil)))
      (pss_cons (ps_expr (pe_bm PySem.F.plainAttrs_list PySem.F.slot_list_extend PySem.F.type_list_extend mt_extend (pv 2) (pa_cons (pv 6) pa_nil)))
      (pss_one (ps_set (i := 3) scAnswers.nd rfl (Or.inl rfl) (pv 5)))))))))
    (pss_one (ps_ret (pv 2)))))), ?_⟩
  obtain ⟨cs0, R0, eAll, hAll⟩ := asked_rest hask
  intro a dx na ndx nax
  refine ⟨a, dx, rfl, upd_same, fun H1 u0 l0 t0 F0 nu0 nl0 nt0 kp0 => ⟨rfl, ?_⟩⟩
  refine ⟨(by show 0 ≤ sizeLine; decide), fun r0 nr0 => ?_⟩
  have sr0 := same_new nr0 (.lst [])
  obtain ⟨_, r0u, r0l, r0t⟩ := F0.new nr0
  refine while_by (fun σ H' => ∃ (u l t : Addr) (f : Kab.Frame) (ms : List Kab.Move) (s : KabNeutral.S) (cs : List (List (List Int))) (out : List Int) (j : Nat) (v4 v5 v6 : Option V),
      σ = [some (.ref c), some (.ref a), some (.ref r0), some (.int (j : Nat)), v4, v5, v6] ∧ FrAt C H' a u l t f ms ∧ Ok f ∧ (s = none ∨ s = some f) ∧ Rest s (ns.drop j) cs ∧ j ≤ ns.length ∧
      H' r0 = some (.lst (out.map V.int)) ∧ (r0 ≠ u ∧ r0 ≠ l ∧ r0 ≠ t) ∧ out ++ PyFlat.told (PyFlat.played KabNeutral.step s cs) = PyKab.answers ns ∧ ArgL K H' c (ns.map V.int)) (fun σ _ => ns.length - fourth σ) ?_ ?_ ?_
  · refine ⟨u0, l0, t0, Kab.clear, [], none, cs0, [], 0, none, none, none, rfl, F0.same sr0, ok_clear, .inl rfl, R0, Nat.zero_le _, upd_same, ⟨r0u, r0l, r0t⟩, eAll.symm, ?_⟩
    refine hA.keep fun o z e => sr0 _ _ (kp0 _ _ ?_ (ne_of_none e na))
    rw [upd_ne (ne_of_none e na), upd_ne (ne_of_none e ndx)]
    exact e
  · rintro σ H' ⟨u, l, t, f, ms, s, cs, out, j, v4, v5, v6, rfl, FA, o, hs, R, hj, hr0, ⟨ru, rl, rt⟩, hout, hA'⟩
    refine ⟨_, rfl, _, rfl, c, _, rfl, .inl hA'.sq, _, _, rfl, rfl, _, rfl, ?_⟩
    rw [List.length_map]
    by_cases cj : j < ns.length
    · refine if_true_of (decide_eq_true (by omega)) ?_
      have hp : ns[j]? = some ns[j] := List.getElem?_eq_getElem cj
      generalize ns[j] = p at hp
      have ed := drop_of hp
      rw [ed] at R
      obtain ⟨n, cs', hsh, hn, rfl, h1, hne, R'⟩ := R.cons
      obtain ⟨cl, hcl⟩ := call_is (kind_of hsh) hn h1
      have st := step_any hcl hs hne
      have hn2 : j + 1 + n ≤ ns.length := by
        rw [List.length_drop] at hn
        omega
      have edd : (ns.drop (j + 1)).drop n = ns.drop (j + 1 + n) := List.drop_drop
      rw [st, edd] at R'
      have eP : PyFlat.played KabNeutral.step s ([p :: (ns.drop (j + 1)).take n] :: cs') = answerL f cl :: PyFlat.played KabNeutral.step (some (nextF f cl)) cs' := by
        show (KabNeutral.step s [p :: (ns.drop (j + 1)).take n]).2 :: PyFlat.played KabNeutral.step (KabNeutral.step s [p :: (ns.drop (j + 1)).take n]).1 cs' = _
        rw [st]
      rw [eP, told_cons] at hout
      have hlen : out.length + 1 + (answerL f cl).length ≤ 10000000 := by
        have z := congrArg List.length hout
        rw [List.length_append, List.length_cons, List.length_append] at z
        omega
      have big : (10000001 : Nat) ≤ sizeLine := by decide
      refine ⟨_, rfl, _, rfl, c, _, _, _, rfl, rfl, hA'.sq, atI_nat (by rw [List.getElem?_map, hp]; rfl), ?_⟩
      refine ⟨_, rfl, _, _, rfl, rfl, _, rfl, gc, _, _, _, rfl, rfl, hgc _, count_at (kind_of hsh), _, _, rfl, rfl, ?_⟩
      refine ⟨_, rfl, _, rfl, _, rfl, _, rfl, _, _, rfl, rfl, _, rfl, _, rfl, _, rfl, c, _, rfl, hA'.sq, fun z nz => ?_⟩
      rw [cut_is ns j n hn2]
      have sz := same_new nz (.lst (((ns.drop (j + 1)).take n).map V.int))
      generalize hH2 : upd H' z (.lst (((ns.drop (j + 1)).take n).map V.int)) = H2 at *
      have hz : H2 z = some (.lst (((ns.drop (j + 1)).take n).map V.int)) := by rw [← hH2]; exact upd_same
      obtain ⟨dx1, ins1⟩ := id FA.ins
      have r0a : r0 ≠ a := ne_of hr0 ins1 (by intro z; cases z)
      refine ⟨a, u, l, t, z, f, ms, p, _, cl, rfl, hcl, hz, FA.same sz, o, by omega, fun H3 r u' l' t' ms' F3 nr hr3 kp3 => ?_⟩
      obtain ⟨h0, ru', rl', rt'⟩ := kp3 r0 _ (sz _ _ hr0) r0a ru rl rt
      have r0r : r0 ≠ r := ne_of_none (sz _ _ hr0) nr
      refine ⟨_, rfl, .inl ⟨rfl, _, SqL.of h0⟩, _, rfl, r, _, rfl, .inl (SqL.of hr3), r0, _, _, rfl, rfl, h0, ?_, ?_⟩
      · rw [List.length_map]
        omega
      refine ⟨_, rfl, .inl ⟨rfl, _, SqL.of upd_same⟩, _, rfl, r0, r, _, _, rfl, rfl, upd_same, (by rw [upd_ne r0r.symm]; exact hr3), ?_, ?_⟩
      · rw [List.length_append, List.length_map, List.length_map]
        show out.length + 1 + _ ≤ _
        omega
      obtain ⟨dx3, ins3⟩ := id F3.ins
      have r0a3 : r0 ≠ a := r0a
      refine ⟨_, rfl, ⟨u', l', t', nextF f cl, ms', some (nextF f cl), cs', out ++ ((((answerL f cl).length : Nat) : Int) :: answerL f cl), j + 1 + n, some (.int p), some (.int ((j : Nat) + 1 + (n : Nat) : Int)), some (.ref r), ?_, ?_, next_ok o cl, .inr rfl, R', hn2, ?_, ⟨ru', rl', rt'⟩, ?_, ?_⟩, ?_⟩
      · rw [show ((j + 1 + n : Nat) : Int) = (j : Nat) + 1 + (n : Nat) by omega]
        rfl
      · refine F3.keep fun b ob e hb => ?_
        have br : b ≠ r0 := by
          rcases hb with rfl | rfl | rfl | rfl | ⟨xs, rfl⟩
          · exact r0a.symm
          · exact ru'.symm
          · exact rl'.symm
          · exact rt'.symm
          · exact ne_of e h0 (by intro z; cases z)
        rw [upd_ne br, upd_ne br]
        exact e
      · rw [upd_same, List.map_append, List.map_cons, List.length_map, List.append_assoc]
        rfl
      · rw [List.append_assoc]
        exact hout
      · refine hA'.keep fun oz uz e => ?_
        have cr : c ≠ r0 := ne_of e hr0 (by intro z; cases z)
        have e2 := sz _ _ e
        have e3 := (kp3 c _ e2 (ne_of e ins1 (by intro z; cases z)) (ne_of e FA.up (by intro z; cases z)) (ne_of e FA.lo (by intro z; cases z)) (by obtain ⟨qs, te, _⟩ := FA.te; exact ne_of e te (by intro z; cases z))).1
        rw [upd_ne cr, upd_ne cr]
        exact e3
      · show ns.length - (((j : Nat) : Int) + 1 + ((n : Nat) : Int)).toNat < ns.length - ((j : Nat) : Int).toNat
        omega
    · refine if_false_of (decide_eq_false (by omega)) ?_
      have e0 : ns.drop j = [] := List.drop_eq_nil_of_le (by omega)
      rw [e0] at R
      have ec := R.nil
      subst ec
      have e1 : PyFlat.told (PyFlat.played KabNeutral.step s []) = [] := rfl
      rw [e1, List.append_nil] at hout
      rw [hout] at hr0
      exact ⟨_, rfl, q _ r0 hr0⟩
  · rintro σ H' R R' h ⟨v, e, v2, e2, p, xs, e3, hsq, i, j, e4, e5, k, e6, q⟩
    exact ⟨v, e, v2, e2, p, xs, e3, hsq, i, j, e4, e5, k, e6, h _ _ q⟩
end
end Bead

set_option Elab.async false
set_option maxRecDepth 100000
set_option maxHeartbeats 2000000
namespace Bead
open PySem PySem.Spec PyProof.Rows L2
theorem all_mk {P : Program} {w : World} {K : PySem.W.Frag} {h : Heap} {mg : Str → Option Value} {fa : Addr} (X : K.In h) (G : h.Ns mainGlobals mg) (hfa : mg "answers" = some (.ref fa)) {C f_init f_begin f_can f_make f_digit f_shown f_put f_off f_addD f_takeD f_placed f_addN f_takeN f_prod f_out f_clear f_set f_add f_take f_times f_carry f_told f_telling f_over f_move f_rod f_answer f_answers : Addr} {od_init an_init od_begin an_begin od_can an_can od_make an_make od_digit an_digit od_shown an_shown od_put an_put od_off an_off od_addD an_addD od_takeD an_takeD od_placed an_placed od_addN an_addN od_takeN an_takeN od_prod an_prod od_out an_out od_clear an_clear od_set an_set od_add an_add od_take an_take od_times an_times od_carry an_carry od_told an_told od_telling an_telling od_over an_over od_move an_move od_rod an_rod od_answer an_answer od_answers an_answers : Option Addr} {sl_init sl_begin sl_can sl_make sl_digit sl_shown sl_put sl_off sl_addD sl_takeD sl_placed sl_addN sl_takeN sl_prod sl_out sl_clear sl_set sl_add sl_take sl_times sl_carry sl_told sl_telling sl_over sl_move sl_rod sl_answer sl_answers : Array (Option Value)} {oc_init kV_init dc_init pm_init cd_init ct_init oc_begin kV_begin dc_begin pm_begin cd_begin ct_begin oc_can kV_can dc_can pm_can cd_can ct_can oc_make kV_make dc_make pm_make cd_make ct_make oc_digit kV_digit dc_digit pm_digit cd_digit ct_digit oc_shown kV_shown dc_shown pm_shown cd_shown ct_shown oc_put kV_put dc_put pm_put cd_put ct_put oc_off kV_off dc_off pm_off cd_off ct_off oc_addD kV_addD dc_addD pm_addD cd_addD ct_addD oc_takeD kV_takeD dc_takeD pm_takeD cd_takeD ct_takeD oc_placed kV_placed dc_placed pm_placed cd_placed ct_placed oc_addN kV_addN dc_addN pm_addN cd_addN ct_addN oc_takeN kV_takeN dc_takeN pm_takeN cd_takeN ct_takeN oc_prod kV_prod dc_prod pm_prod cd_prod ct_prod oc_out kV_out dc_out pm_out cd_out ct_out oc_clear kV_clear dc_clear pm_clear cd_clear ct_clear oc_set kV_set dc_set pm_set cd_set ct_set oc_add kV_add dc_add pm_add cd_add ct_add oc_take kV_take dc_take pm_take cd_take ct_take oc_times kV_times dc_times pm_times cd_times ct_times oc_carry kV_carry dc_carry pm_carry cd_carry ct_carry oc_told kV_told dc_told pm_told cd_told ct_told oc_telling kV_telling dc_telling pm_telling cd_telling ct_telling oc_over kV_over dc_over pm_over cd_over ct_over oc_move kV_move dc_move pm_move cd_move ct_move oc_rod kV_rod dc_rod pm_rod cd_rod ct_rod oc_answer kV_answer dc_answer pm_answer cd_answer ct_answer oc_answers kV_answers dc_answers pm_answers cd_answers ct_answers : Value} {t_RODS t_LOWER_BEADS t_LIMIT t_LOWER_UP t_LOWER_DOWN t_UPPER_DOWN t_UPPER_UP t_START t_SET t_ADD t_TAKE t_OVER t_MOVE t_VALUE t_ROD t_DONE t_TOO_MUCH t_TOO_LITTLE t_NO_DIVISOR t_NO_MOVE t_NO_ROD : Tok} {g_GIVEN_COUNTS : Addr} {d_GIVEN_COUNTS : Option Addr} {n_GIVEN_COUNTS : Nat} {s_GIVEN_COUNTS : Array (Option Value)} {t_GIVEN_COUNTS_0 t_GIVEN_COUNTS_1 t_GIVEN_COUNTS_2 t_GIVEN_COUNTS_3 t_GIVEN_COUNTS_4 t_GIVEN_COUNTS_5 t_GIVEN_COUNTS_6 t_GIVEN_COUNTS_7 t_GIVEN_COUNTS_8 : Tok}
    (aC : PySem.W.nsIn K mainGlobals "BeadFrame" = some (some (.ref C)))
    (a_init : PySem.W.findIn K (.ref C) "__init__" = some (some (.ref f_init)))
    (i_init : PySem.W.isFn K (.ref f_init) = true)
    (a_begin : PySem.W.findIn K (.ref C) "begin" = some (some (.ref f_begin)))
    (i_begin : PySem.W.isFn K (.ref f_begin) = true)
    (a_can : PySem.W.findIn K (.ref C) "can_make" = some (some (.ref f_can)))
    (i_can : PySem.W.isFn K (.ref f_can) = true)
    (a_make : PySem.W.findIn K (.ref C) "make" = some (some (.ref f_make)))
    (i_make : PySem.W.isFn K (.ref f_make) = true)
    (a_digit : PySem.W.findIn K (.ref C) "digit_at" = some (some (.ref f_digit)))
    (i_digit : PySem.W.isFn K (.ref f_digit) = true)
    (a_shown : PySem.W.findIn K (.ref C) "shown" = some (some (.ref f_shown)))
    (i_shown : PySem.W.isFn K (.ref f_shown) = true)
    (a_put : PySem.W.nsIn K mainGlobals "put_on" = some (some (.ref f_put)))
    (a_off : PySem.W.nsIn K mainGlobals "take_off" = some (some (.ref f_off)))
    (a_addD : PySem.W.nsIn K mainGlobals "add_digit" = some (some (.ref f_addD)))
    (a_takeD : PySem.W.nsIn K mainGlobals "take_digit" = some (some (.ref f_takeD)))
    (a_placed : PySem.W.nsIn K mainGlobals "placed_digits" = some (some (.ref f_placed)))
    (a_addN : PySem.W.nsIn K mainGlobals "add_number" = some (some (.ref f_addN)))
    (a_takeN : PySem.W.nsIn K mainGlobals "take_number" = some (some (.ref f_takeN)))
    (a_prod : PySem.W.nsIn K mainGlobals "add_product" = some (some (.ref f_prod)))
    (a_out : PySem.W.nsIn K mainGlobals "take_out" = some (some (.ref f_out)))
    (a_clear : PySem.W.nsIn K mainGlobals "clear_rods" = some (some (.ref f_clear)))
    (a_set : PySem.W.nsIn K mainGlobals "set_to" = some (some (.ref f_set)))
    (a_add : PySem.W.nsIn K mainGlobals "add_to" = some (some (.ref f_add)))
    (a_take : PySem.W.nsIn K mainGlobals "take_from" = some (some (.ref f_take)))
    (a_times : PySem.W.nsIn K mainGlobals "set_to_product" = some (some (.ref f_times)))
    (a_carry : PySem.W.nsIn K mainGlobals "carry_out" = some (some (.ref f_carry)))
    (a_told : PySem.W.nsIn K mainGlobals "told_numbers" = some (some (.ref f_told)))
    (a_telling : PySem.W.nsIn K mainGlobals "answer_of_telling" = some (some (.ref f_telling)))
    (a_over : PySem.W.nsIn K mainGlobals "answer_of_over" = some (some (.ref f_over)))
    (a_move : PySem.W.nsIn K mainGlobals "answer_of_move" = some (some (.ref f_move)))
    (a_rod : PySem.W.nsIn K mainGlobals "answer_of_rod" = some (some (.ref f_rod)))
    (a_answer : PySem.W.nsIn K mainGlobals "answer_of" = some (some (.ref f_answer)))
    (a_answers : PySem.W.nsIn K mainGlobals "answers" = some (some (.ref f_answers)))
    (l_init : K.lookup f_init = some ⟨oc_init, od_init, .func (PySem.W.fnOf "__init__" "BeadFrame.__init__" (defArgs sInit) (defBody sInit) (defScope sInit) .none kV_init dc_init pm_init an_init cd_init ct_init), sl_init⟩)
    (c_init : PySem.W.codeIn K cd_init "BeadFrame.__init__" = true)
    (k_init : PySem.W.keepIn K (.ref f_init) = true)
    (l_begin : K.lookup f_begin = some ⟨oc_begin, od_begin, .func (PySem.W.fnOf "begin" "BeadFrame.begin" (defArgs sBegin) (defBody sBegin) (defScope sBegin) .none kV_begin dc_begin pm_begin an_begin cd_begin ct_begin), sl_begin⟩)
    (c_begin : PySem.W.codeIn K cd_begin "BeadFrame.begin" = true)
    (k_begin : PySem.W.keepIn K (.ref f_begin) = true)
    (l_can : K.lookup f_can = some ⟨oc_can, od_can, .func (PySem.W.fnOf "can_make" "BeadFrame.can_make" (defArgs sCan) (defBody sCan) (defScope sCan) .none kV_can dc_can pm_can an_can cd_can ct_can), sl_can⟩)
    (c_can : PySem.W.codeIn K cd_can "BeadFrame.can_make" = true)
    (k_can : PySem.W.keepIn K (.ref f_can) = true)
    (l_make : K.lookup f_make = some ⟨oc_make, od_make, .func (PySem.W.fnOf "make" "BeadFrame.make" (defArgs sMake) (defBody sMake) (defScope sMake) .none kV_make dc_make pm_make an_make cd_make ct_make), sl_make⟩)
    (c_make : PySem.W.codeIn K cd_make "BeadFrame.make" = true)
    (k_make : PySem.W.keepIn K (.ref f_make) = true)
    (l_digit : K.lookup f_digit = some ⟨oc_digit, od_digit, .func (PySem.W.fnOf "digit_at" "BeadFrame.digit_at" (defArgs sDigit) (defBody sDigit) (defScope sDigit) .none kV_digit dc_digit pm_digit an_digit cd_digit ct_digit), sl_digit⟩)
    (c_digit : PySem.W.codeIn K cd_digit "BeadFrame.digit_at" = true)
    (k_digit : PySem.W.keepIn K (.ref f_digit) = true)
    (l_shown : K.lookup f_shown = some ⟨oc_shown, od_shown, .func (PySem.W.fnOf "shown" "BeadFrame.shown" (defArgs sShown) (defBody sShown) (defScope sShown) .none kV_shown dc_shown pm_shown an_shown cd_shown ct_shown), sl_shown⟩)
    (c_shown : PySem.W.codeIn K cd_shown "BeadFrame.shown" = true)
    (k_shown : PySem.W.keepIn K (.ref f_shown) = true)
    (l_put : K.lookup f_put = some ⟨oc_put, od_put, .func (PySem.W.fnOf "put_on" "put_on" (defArgs sPut) (defBody sPut) (defScope sPut) .none kV_put dc_put pm_put an_put cd_put ct_put), sl_put⟩)
    (c_put : PySem.W.codeIn K cd_put "put_on" = true)
    (k_put : PySem.W.keepIn K (.ref f_put) = true)
    (l_off : K.lookup f_off = some ⟨oc_off, od_off, .func (PySem.W.fnOf "take_off" "take_off" (defArgs sOff) (defBody sOff) (defScope sOff) .none kV_off dc_off pm_off an_off cd_off ct_off), sl_off⟩)
    (c_off : PySem.W.codeIn K cd_off "take_off" = true)
    (k_off : PySem.W.keepIn K (.ref f_off) = true)
    (l_addD : K.lookup f_addD = some ⟨oc_addD, od_addD, .func (PySem.W.fnOf "add_digit" "add_digit" (defArgs sAddD) (defBody sAddD) (defScope sAddD) .none kV_addD dc_addD pm_addD an_addD cd_addD ct_addD), sl_addD⟩)
    (c_addD : PySem.W.codeIn K cd_addD "add_digit" = true)
    (k_addD : PySem.W.keepIn K (.ref f_addD) = true)
    (l_takeD : K.lookup f_takeD = some ⟨oc_takeD, od_takeD, .func (PySem.W.fnOf "take_digit" "take_digit" (defArgs sTakeD) (defBody sTakeD) (defScope sTakeD) .none kV_takeD dc_takeD pm_takeD an_takeD cd_takeD ct_takeD), sl_takeD⟩)
    (c_takeD : PySem.W.codeIn K cd_takeD "take_digit" = true)
    (k_takeD : PySem.W.keepIn K (.ref f_takeD) = true)
    (l_placed : K.lookup f_placed = some ⟨oc_placed, od_placed, .func (PySem.W.fnOf "placed_digits" "placed_digits" (defArgs sPlaced) (defBody sPlaced) (defScope sPlaced) .none kV_placed dc_placed pm_placed an_placed cd_placed ct_placed), sl_placed⟩)
    (c_placed : PySem.W.codeIn K cd_placed "placed_digits" = true)
    (k_placed : PySem.W.keepIn K (.ref f_placed) = true)
    (l_addN : K.lookup f_addN = some ⟨oc_addN, od_addN, .func (PySem.W.fnOf "add_number" "add_number" (defArgs sAddN) (defBody sAddN) (defScope sAddN) .none kV_addN dc_addN pm_addN an_addN cd_addN ct_addN), sl_addN⟩)
    (c_addN : PySem.W.codeIn K cd_addN "add_number" = true)
    (k_addN : PySem.W.keepIn K (.ref f_addN) = true)
    (l_takeN : K.lookup f_takeN = some ⟨oc_takeN, od_takeN, .func (PySem.W.fnOf "take_number" "take_number" (defArgs sTakeN) (defBody sTakeN) (defScope sTakeN) .none kV_takeN dc_takeN pm_takeN an_takeN cd_takeN ct_takeN), sl_takeN⟩)
    (c_takeN : PySem.W.codeIn K cd_takeN "take_number" = true)
    (k_takeN : PySem.W.keepIn K (.ref f_takeN) = true)
    (l_prod : K.lookup f_prod = some ⟨oc_prod, od_prod, .func (PySem.W.fnOf "add_product" "add_product" (defArgs sProd) (defBody sProd) (defScope sProd) .none kV_prod dc_prod pm_prod an_prod cd_prod ct_prod), sl_prod⟩)
    (c_prod : PySem.W.codeIn K cd_prod "add_product" = true)
    (k_prod : PySem.W.keepIn K (.ref f_prod) = true)
    (l_out : K.lookup f_out = some ⟨oc_out, od_out, .func (PySem.W.fnOf "take_out" "take_out" (defArgs sOut) (defBody sOut) (defScope sOut) .none kV_out dc_out pm_out an_out cd_out ct_out), sl_out⟩)
    (c_out : PySem.W.codeIn K cd_out "take_out" = true)
    (k_out : PySem.W.keepIn K (.ref f_out) = true)
    (l_clear : K.lookup f_clear = some ⟨oc_clear, od_clear, .func (PySem.W.fnOf "clear_rods" "clear_rods" (defArgs sClear) (defBody sClear) (defScope sClear) .none kV_clear dc_clear pm_clear an_clear cd_clear ct_clear), sl_clear⟩)
    (c_clear : PySem.W.codeIn K cd_clear "clear_rods" = true)
    (k_clear : PySem.W.keepIn K (.ref f_clear) = true)
    (l_set : K.lookup f_set = some ⟨oc_set, od_set, .func (PySem.W.fnOf "set_to" "set_to" (defArgs sSet) (defBody sSet) (defScope sSet) .none kV_set dc_set pm_set an_set cd_set ct_set), sl_set⟩)
    (c_set : PySem.W.codeIn K cd_set "set_to" = true)
    (k_set : PySem.W.keepIn K (.ref f_set) = true)
    (l_add : K.lookup f_add = some ⟨oc_add, od_add, .func (PySem.W.fnOf "add_to" "add_to" (defArgs sAdd) (defBody sAdd) (defScope sAdd) .none kV_add dc_add pm_add an_add cd_add ct_add), sl_add⟩)
    (c_add : PySem.W.codeIn K cd_add "add_to" = true)
    (k_add : PySem.W.keepIn K (.ref f_add) = true)
    (l_take : K.lookup f_take = some ⟨oc_take, od_take, .func (PySem.W.fnOf "take_from" "take_from" (defArgs sTake) (defBody sTake) (defScope sTake) .none kV_take dc_take pm_take an_take cd_take ct_take), sl_take⟩)
    (c_take : PySem.W.codeIn K cd_take "take_from" = true)
    (k_take : PySem.W.keepIn K (.ref f_take) = true)
    (l_times : K.lookup f_times = some ⟨oc_times, od_times, .func (PySem.W.fnOf "set_to_product" "set_to_product" (defArgs sTimes) (defBody sTimes) (defScope sTimes) .none kV_times dc_times pm_times an_times cd_times ct_times), sl_times⟩)
    (c_times : PySem.W.codeIn K cd_times "set_to_product" = true)
    (k_times : PySem.W.keepIn K (.ref f_times) = true)
    (l_carry : K.lookup f_carry = some ⟨oc_carry, od_carry, .func (PySem.W.fnOf "carry_out" "carry_out" (defArgs sCarry) (defBody sCarry) (defScope sCarry) .none kV_carry dc_carry pm_carry an_carry cd_carry ct_carry), sl_carry⟩)
    (c_carry : PySem.W.codeIn K cd_carry "carry_out" = true)
    (k_carry : PySem.W.keepIn K (.ref f_carry) = true)
    (l_told : K.lookup f_told = some ⟨oc_told, od_told, .func (PySem.W.fnOf "told_numbers" "told_numbers" (defArgs sTold) (defBody sTold) (defScope sTold) .none kV_told dc_told pm_told an_told cd_told ct_told), sl_told⟩)
    (c_told : PySem.W.codeIn K cd_told "told_numbers" = true)
    (k_told : PySem.W.keepIn K (.ref f_told) = true)
    (l_telling : K.lookup f_telling = some ⟨oc_telling, od_telling, .func (PySem.W.fnOf "answer_of_telling" "answer_of_telling" (defArgs sTelling) (defBody sTelling) (defScope sTelling) .none kV_telling dc_telling pm_telling an_telling cd_telling ct_telling), sl_telling⟩)
    (c_telling : PySem.W.codeIn K cd_telling "answer_of_telling" = true)
    (k_telling : PySem.W.keepIn K (.ref f_telling) = true)
    (l_over : K.lookup f_over = some ⟨oc_over, od_over, .func (PySem.W.fnOf "answer_of_over" "answer_of_over" (defArgs sOver) (defBody sOver) (defScope sOver) .none kV_over dc_over pm_over an_over cd_over ct_over), sl_over⟩)
    (c_over : PySem.W.codeIn K cd_over "answer_of_over" = true)
    (k_over : PySem.W.keepIn K (.ref f_over) = true)
    (l_move : K.lookup f_move = some ⟨oc_move, od_move, .func (PySem.W.fnOf "answer_of_move" "answer_of_move" (defArgs sMove) (defBody sMove) (defScope sMove) .none kV_move dc_move pm_move an_move cd_move ct_move), sl_move⟩)
    (c_move : PySem.W.codeIn K cd_move "answer_of_move" = true)
    (k_move : PySem.W.keepIn K (.ref f_move) = true)
    (l_rod : K.lookup f_rod = some ⟨oc_rod, od_rod, .func (PySem.W.fnOf "answer_of_rod" "answer_of_rod" (defArgs sRod) (defBody sRod) (defScope sRod) .none kV_rod dc_rod pm_rod an_rod cd_rod ct_rod), sl_rod⟩)
    (c_rod : PySem.W.codeIn K cd_rod "answer_of_rod" = true)
    (k_rod : PySem.W.keepIn K (.ref f_rod) = true)
    (l_answer : K.lookup f_answer = some ⟨oc_answer, od_answer, .func (PySem.W.fnOf "answer_of" "answer_of" (defArgs sAnswer) (defBody sAnswer) (defScope sAnswer) .none kV_answer dc_answer pm_answer an_answer cd_answer ct_answer), sl_answer⟩)
    (c_answer : PySem.W.codeIn K cd_answer "answer_of" = true)
    (k_answer : PySem.W.keepIn K (.ref f_answer) = true)
    (l_answers : K.lookup f_answers = some ⟨oc_answers, od_answers, .func (PySem.W.fnOf "answers" "answers" (defArgs sAnswers) (defBody sAnswers) (defScope sAnswers) .none kV_answers dc_answers pm_answers an_answers cd_answers ct_answers), sl_answers⟩)
    (c_answers : PySem.W.codeIn K cd_answers "answers" = true)
    (k_answers : PySem.W.keepIn K (.ref f_answers) = true)
    (pg : PySem.W.plainGet K C Str.empty = true)
    (hd : PySem.W.hasDictIn K C = true)
    (po : PySem.W.plainOver K C = true)
    (sa : PySem.W.findIn K (.ref C) "__setattr__" = some (some (.builtin "object.__setattr__")))
    (mk : PySem.W.makesIn K C = true)
    (kc : PySem.W.keepIn K (.ref C) = true)
    (n_uppers_down : PySem.W.findIn K (.ref C) "uppers_down" = some none)
    (n_lowers_up : PySem.W.findIn K (.ref C) "lowers_up" = some none)
    (n_told : PySem.W.findIn K (.ref C) "told" = some none)
    (g_RODS : PySem.W.nsIn K mainGlobals "RODS" = some (some (.int 12 t_RODS)))
    (g_LOWER_BEADS : PySem.W.nsIn K mainGlobals "LOWER_BEADS" = some (some (.int 4 t_LOWER_BEADS)))
    (g_LIMIT : PySem.W.nsIn K mainGlobals "LIMIT" = some (some (.int 1000000000000 t_LIMIT)))
    (g_LOWER_UP : PySem.W.nsIn K mainGlobals "LOWER_UP" = some (some (.int 0 t_LOWER_UP)))
    (g_LOWER_DOWN : PySem.W.nsIn K mainGlobals "LOWER_DOWN" = some (some (.int 1 t_LOWER_DOWN)))
    (g_UPPER_DOWN : PySem.W.nsIn K mainGlobals "UPPER_DOWN" = some (some (.int 2 t_UPPER_DOWN)))
    (g_UPPER_UP : PySem.W.nsIn K mainGlobals "UPPER_UP" = some (some (.int 3 t_UPPER_UP)))
    (g_START : PySem.W.nsIn K mainGlobals "START" = some (some (.int 0 t_START)))
    (g_SET : PySem.W.nsIn K mainGlobals "SET" = some (some (.int 1 t_SET)))
    (g_ADD : PySem.W.nsIn K mainGlobals "ADD" = some (some (.int 2 t_ADD)))
    (g_TAKE : PySem.W.nsIn K mainGlobals "TAKE" = some (some (.int 3 t_TAKE)))
    (g_OVER : PySem.W.nsIn K mainGlobals "OVER" = some (some (.int 5 t_OVER)))
    (g_MOVE : PySem.W.nsIn K mainGlobals "MOVE" = some (some (.int 6 t_MOVE)))
    (g_VALUE : PySem.W.nsIn K mainGlobals "VALUE" = some (some (.int 7 t_VALUE)))
    (g_ROD : PySem.W.nsIn K mainGlobals "ROD" = some (some (.int 8 t_ROD)))
    (g_DONE : PySem.W.nsIn K mainGlobals "DONE" = some (some (.int 0 t_DONE)))
    (g_TOO_MUCH : PySem.W.nsIn K mainGlobals "TOO_MUCH" = some (some (.int (-75) t_TOO_MUCH)))
    (g_TOO_LITTLE : PySem.W.nsIn K mainGlobals "TOO_LITTLE" = some (some (.int (-33) t_TOO_LITTLE)))
    (g_NO_DIVISOR : PySem.W.nsIn K mainGlobals "NO_DIVISOR" = some (some (.int (-22) t_NO_DIVISOR)))
    (g_NO_MOVE : PySem.W.nsIn K mainGlobals "NO_MOVE" = some (some (.int (-13) t_NO_MOVE)))
    (g_NO_ROD : PySem.W.nsIn K mainGlobals "NO_ROD" = some (some (.int (-22) t_NO_ROD)))
    (a_GIVEN_COUNTS : PySem.W.nsIn K mainGlobals "GIVEN_COUNTS" = some (some (.ref g_GIVEN_COUNTS)))
    (l_GIVEN_COUNTS : K.lookup g_GIVEN_COUNTS = some ⟨.type "tuple", d_GIVEN_COUNTS, .seq #[.int 0 t_GIVEN_COUNTS_0, .int 1 t_GIVEN_COUNTS_1, .int 1 t_GIVEN_COUNTS_2, .int 1 t_GIVEN_COUNTS_3, .int 2 t_GIVEN_COUNTS_4, .int 1 t_GIVEN_COUNTS_5, .int 3 t_GIVEN_COUNTS_6, .int 0 t_GIVEN_COUNTS_7, .int 1 t_GIVEN_COUNTS_8] n_GIVEN_COUNTS, s_GIVEN_COUNTS⟩)
    (z_range : PySem.W.nsIn K mainGlobals "range" = some none)
    (z_len : PySem.W.nsIn K mainGlobals "len" = some none) :
    ∃ fd : FuncData, (∀ (s : Shared) (us : List Value), us.length = (["calls"] : List Str).length → BindsTo s fd ⟨us, []⟩ ((["calls"] : List Str).zip us)) ∧ ∀ base : Heap, K.In base → base.Ns mainGlobals mg → FnOk P w K mg base CX0 22 fa fd ["calls"] (spAnswers K) := by
  have e := hfa.symm.trans (PySem.W.mg_of X G a_answers)
  cases e
  have T : Txt K mg C := ⟨⟨pg, hd, po, sa⟩, n_uppers_down, n_lowers_up, n_told, PySem.W.mg_of X G aC, ⟨_, PySem.W.mg_of X G g_RODS⟩, ⟨_, PySem.W.mg_of X G g_LOWER_UP⟩, ⟨_, PySem.W.mg_of X G g_LOWER_DOWN⟩, ⟨_, PySem.W.mg_of X G g_UPPER_DOWN⟩, ⟨_, PySem.W.mg_of X G g_UPPER_UP⟩, ⟨_, PySem.W.mg_of X G g_LOWER_BEADS⟩, ⟨_, PySem.W.mg_of X G g_LIMIT⟩, PySem.W.mg_none_of X G z_range, PySem.W.mg_none_of X G z_len⟩
  have T2 : Txt2 mg := ⟨⟨_, PySem.W.mg_of X G g_LIMIT⟩, ⟨_, PySem.W.mg_of X G g_DONE⟩, ⟨_, PySem.W.mg_of X G g_TOO_MUCH⟩, ⟨_, PySem.W.mg_of X G g_TOO_LITTLE⟩⟩
  have T3 : Txt3 mg := ⟨⟨_, PySem.W.mg_of X G g_START⟩, ⟨_, PySem.W.mg_of X G g_SET⟩, ⟨_, PySem.W.mg_of X G g_ADD⟩, ⟨_, PySem.W.mg_of X G g_TAKE⟩, ⟨_, PySem.W.mg_of X G g_OVER⟩, ⟨_, PySem.W.mg_of X G g_MOVE⟩, ⟨_, PySem.W.mg_of X G g_VALUE⟩, ⟨_, PySem.W.mg_of X G g_ROD⟩, ⟨_, PySem.W.mg_of X G g_NO_DIVISOR⟩, ⟨_, PySem.W.mg_of X G g_NO_MOVE⟩, ⟨_, PySem.W.mg_of X G g_NO_ROD⟩⟩
  have TC : ∃ gc : Addr, mg "GIVEN_COUNTS" = some (.ref gc) ∧ ∀ H, SqT K H gc counts := ⟨_, PySem.W.mg_of X G a_GIVEN_COUNTS, fun H => .inr ⟨_, _, _, l_GIVEN_COUNTS, rfl, rfl, (by show 9 ≤ sizeLine; decide), .cons ⟨_, rfl⟩ (.cons ⟨_, rfl⟩ (.cons ⟨_, rfl⟩ (.cons ⟨_, rfl⟩ (.cons ⟨_, rfl⟩ (.cons ⟨_, rfl⟩ (.cons ⟨_, rfl⟩ (.cons ⟨_, rfl⟩ (.cons ⟨_, rfl⟩ (.nil)))))))))⟩⟩
  have F_init := fun_mk (st := sInit) l_init c_init k_init
  have B_init := F_init.binds (ps := ["self"]) fun _ _ _ _ _ _ us hl => match us, hl with | [_], _ => rfl
  have F_begin := fun_mk (st := sBegin) l_begin c_begin k_begin
  have B_begin := F_begin.binds (ps := ["self"]) fun _ _ _ _ _ _ us hl => match us, hl with | [_], _ => rfl
  have F_can := fun_mk (st := sCan) l_can c_can k_can
  have B_can := F_can.binds (ps := ["self", "rod", "kind", "beads"]) fun _ _ _ _ _ _ us hl => match us, hl with | [_, _, _, _], _ => rfl
  have F_make := fun_mk (st := sMake) l_make c_make k_make
  have B_make := F_make.binds (ps := ["self", "rod", "kind", "beads"]) fun _ _ _ _ _ _ us hl => match us, hl with | [_, _, _, _], _ => rfl
  have F_digit := fun_mk (st := sDigit) l_digit c_digit k_digit
  have B_digit := F_digit.binds (ps := ["self", "rod"]) fun _ _ _ _ _ _ us hl => match us, hl with | [_, _], _ => rfl
  have F_shown := fun_mk (st := sShown) l_shown c_shown k_shown
  have B_shown := F_shown.binds (ps := ["self"]) fun _ _ _ _ _ _ us hl => match us, hl with | [_], _ => rfl
  have F_put := fun_mk (st := sPut) l_put c_put k_put
  have B_put := F_put.binds (ps := ["frame", "rod", "digit"]) fun _ _ _ _ _ _ us hl => match us, hl with | [_, _, _], _ => rfl
  have F_off := fun_mk (st := sOff) l_off c_off k_off
  have B_off := F_off.binds (ps := ["frame", "rod", "digit"]) fun _ _ _ _ _ _ us hl => match us, hl with | [_, _, _], _ => rfl
  have F_addD := fun_mk (st := sAddD) l_addD c_addD k_addD
  have B_addD := F_addD.binds (ps := ["frame", "rod", "digit"]) fun _ _ _ _ _ _ us hl => match us, hl with | [_, _, _], _ => rfl
  have F_takeD := fun_mk (st := sTakeD) l_takeD c_takeD k_takeD
  have B_takeD := F_takeD.binds (ps := ["frame", "rod", "digit"]) fun _ _ _ _ _ _ us hl => match us, hl with | [_, _, _], _ => rfl
  have F_placed := fun_mk (st := sPlaced) l_placed c_placed k_placed
  have B_placed := F_placed.binds (ps := ["number"]) fun _ _ _ _ _ _ us hl => match us, hl with | [_], _ => rfl
  have F_addN := fun_mk (st := sAddN) l_addN c_addN k_addN
  have B_addN := F_addN.binds (ps := ["frame", "rod", "number"]) fun _ _ _ _ _ _ us hl => match us, hl with | [_, _, _], _ => rfl
  have F_takeN := fun_mk (st := sTakeN) l_takeN c_takeN k_takeN
  have B_takeN := F_takeN.binds (ps := ["frame", "rod", "number"]) fun _ _ _ _ _ _ us hl => match us, hl with | [_, _, _], _ => rfl
  have F_prod := fun_mk (st := sProd) l_prod c_prod k_prod
  have B_prod := F_prod.binds (ps := ["frame", "a", "b"]) fun _ _ _ _ _ _ us hl => match us, hl with | [_, _, _], _ => rfl
  have F_out := fun_mk (st := sOut) l_out c_out k_out
  have B_out := F_out.binds (ps := ["frame", "divisor"]) fun _ _ _ _ _ _ us hl => match us, hl with | [_, _], _ => rfl
  have F_clear := fun_mk (st := sClear) l_clear c_clear k_clear
  have B_clear := F_clear.binds (ps := ["frame"]) fun _ _ _ _ _ _ us hl => match us, hl with | [_], _ => rfl
  have F_set := fun_mk (st := sSet) l_set c_set k_set
  have B_set := F_set.binds (ps := ["frame", "n"]) fun _ _ _ _ _ _ us hl => match us, hl with | [_, _], _ => rfl
  have F_add := fun_mk (st := sAdd) l_add c_add k_add
  have B_add := F_add.binds (ps := ["frame", "n"]) fun _ _ _ _ _ _ us hl => match us, hl with | [_, _], _ => rfl
  have F_take := fun_mk (st := sTake) l_take c_take k_take
  have B_take := F_take.binds (ps := ["frame", "n"]) fun _ _ _ _ _ _ us hl => match us, hl with | [_, _], _ => rfl
  have F_times := fun_mk (st := sTimes) l_times c_times k_times
  have B_times := F_times.binds (ps := ["frame", "a", "b"]) fun _ _ _ _ _ _ us hl => match us, hl with | [_, _, _], _ => rfl
  have F_carry := fun_mk (st := sCarry) l_carry c_carry k_carry
  have B_carry := F_carry.binds (ps := ["frame", "call", "given"]) fun _ _ _ _ _ _ us hl => match us, hl with | [_, _, _], _ => rfl
  have F_told := fun_mk (st := sTold) l_told c_told k_told
  have B_told := F_told.binds (ps := ["frame"]) fun _ _ _ _ _ _ us hl => match us, hl with | [_], _ => rfl
  have F_telling := fun_mk (st := sTelling) l_telling c_telling k_telling
  have B_telling := F_telling.binds (ps := ["frame", "call", "given"]) fun _ _ _ _ _ _ us hl => match us, hl with | [_, _, _], _ => rfl
  have F_over := fun_mk (st := sOver) l_over c_over k_over
  have B_over := F_over.binds (ps := ["frame", "b"]) fun _ _ _ _ _ _ us hl => match us, hl with | [_, _], _ => rfl
  have F_move := fun_mk (st := sMove) l_move c_move k_move
  have B_move := F_move.binds (ps := ["frame", "rod", "kind", "beads"]) fun _ _ _ _ _ _ us hl => match us, hl with | [_, _, _, _], _ => rfl
  have F_rod := fun_mk (st := sRod) l_rod c_rod k_rod
  have B_rod := F_rod.binds (ps := ["frame", "rod"]) fun _ _ _ _ _ _ us hl => match us, hl with | [_, _], _ => rfl
  have F_answer := fun_mk (st := sAnswer) l_answer c_answer k_answer
  have B_answer := F_answer.binds (ps := ["frame", "call", "given"]) fun _ _ _ _ _ _ us hl => match us, hl with | [_, _, _], _ => rfl
  have F_answers := fun_mk (st := sAnswers) l_answers c_answers k_answers
  have B_answers := F_answers.binds (ps := ["calls"]) fun _ _ _ _ _ _ us hl => match us, hl with | [_], _ => rfl
  refine ⟨PySem.W.fnOf "answers" "answers" (defArgs sAnswers) (defBody sAnswers) (defScope sAnswers) .none kV_answers dc_answers pm_answers an_answers cd_answers ct_answers, fun s us hu => match us, hu with | [_], _ => .of_eq rfl, fun base KB GB => ?_⟩
  have M_begin : HasM P w K mg base C "begin" 1 _ (spBegin C) := ⟨_, _, ⟨a_begin, i_begin, k_begin⟩, B_begin, ok_begin F_begin T⟩
  have M_can : HasM P w K mg base C "can_make" 1 _ (spCan C) := ⟨_, _, ⟨a_can, i_can, k_can⟩, B_can, ok_can F_can T⟩
  have M_make : HasM P w K mg base C "make" 1 _ (spMake C) := ⟨_, _, ⟨a_make, i_make, k_make⟩, B_make, ok_make F_make T⟩
  have M_digit : HasM P w K mg base C "digit_at" 1 _ (spDigit C) := ⟨_, _, ⟨a_digit, i_digit, k_digit⟩, B_digit, ok_digit F_digit T⟩
  have M_shown : HasM P w K mg base C "shown" 2 _ (spShown C) := ⟨_, _, ⟨a_shown, i_shown, k_shown⟩, B_shown, ok_shown F_shown T (ok_digit F_digit T) B_digit ⟨a_digit, i_digit, k_digit⟩⟩
  have H_put : HasF P w K mg base "put_on" 2 _ (spPut C) := ⟨_, _, PySem.W.mg_of X G a_put, k_put, B_put, ok_put F_put T M_make⟩
  have H_off : HasF P w K mg base "take_off" 2 _ (spOff C) := ⟨_, _, PySem.W.mg_of X G a_off, k_off, B_off, ok_off F_off T M_make⟩
  have H_addD : HasF P w K mg base "add_digit" 15 _ (spAddD C 12) := ⟨_, _, PySem.W.mg_of X G a_addD, k_addD, B_addD, ok_addD F_addD T B_addD (PySem.W.mg_of X G a_addD) M_digit H_put H_off 12⟩
  have H_takeD : HasF P w K mg base "take_digit" 15 _ (spTakeD C 12) := ⟨_, _, PySem.W.mg_of X G a_takeD, k_takeD, B_takeD, ok_takeD F_takeD T B_takeD (PySem.W.mg_of X G a_takeD) M_digit H_put H_off 12⟩
  have H_placed : HasF P w K mg base "placed_digits" 1 _ spPlaced := ⟨_, _, PySem.W.mg_of X G a_placed, k_placed, B_placed, ok_placed F_placed⟩
  have H_addN : HasF P w K mg base "add_number" 16 _ (spAddN C) := ⟨_, _, PySem.W.mg_of X G a_addN, k_addN, B_addN, ok_addN F_addN H_placed H_addD⟩
  have H_takeN : HasF P w K mg base "take_number" 16 _ (spTakeN C) := ⟨_, _, PySem.W.mg_of X G a_takeN, k_takeN, B_takeN, ok_takeN F_takeN H_placed H_takeD⟩
  have H_prod : HasF P w K mg base "add_product" 17 _ (spProd C) := ⟨_, _, PySem.W.mg_of X G a_prod, k_prod, B_prod, ok_prod F_prod H_placed H_addN⟩
  have H_out : HasF P w K mg base "take_out" 17 _ (spOut C) := ⟨_, _, PySem.W.mg_of X G a_out, k_out, B_out, ok_out F_out T M_shown H_takeN⟩
  have H_clear : HasF P w K mg base "clear_rods" 2 _ (spClear C) := ⟨_, _, PySem.W.mg_of X G a_clear, k_clear, B_clear, ok_clear_rods F_clear T M_make⟩
  have H_set : HasF P w K mg base "set_to" 17 _ (spDo1 C .set) := ⟨_, _, PySem.W.mg_of X G a_set, k_set, B_set, ok_set F_set T2 H_clear H_addN⟩
  have H_add : HasF P w K mg base "add_to" 17 _ (spDo1 C .add) := ⟨_, _, PySem.W.mg_of X G a_add, k_add, B_add, ok_add F_add T T2 M_shown H_addN⟩
  have H_take : HasF P w K mg base "take_from" 17 _ (spDo1 C .take) := ⟨_, _, PySem.W.mg_of X G a_take, k_take, B_take, ok_take F_take T T2 M_shown H_takeN⟩
  have H_times : HasF P w K mg base "set_to_product" 18 _ (spDo2 C .times) := ⟨_, _, PySem.W.mg_of X G a_times, k_times, B_times, ok_times F_times T2 H_clear H_prod⟩
  have H_carry : HasF P w K mg base "carry_out" 19 _ (spCarry C) := ⟨_, _, PySem.W.mg_of X G a_carry, k_carry, B_carry, ok_carry F_carry T3 H_set H_add H_take H_times⟩
  have H_told : HasF P w K mg base "told_numbers" 1 _ (spTold C) := ⟨_, _, PySem.W.mg_of X G a_told, k_told, B_told, ok_told F_told T⟩
  have H_telling : HasF P w K mg base "answer_of_telling" 20 _ (spTelling C) := ⟨_, _, PySem.W.mg_of X G a_telling, k_telling, B_telling, ok_telling F_telling H_carry H_told⟩
  have H_over : HasF P w K mg base "answer_of_over" 18 _ (spOver C) := ⟨_, _, PySem.W.mg_of X G a_over, k_over, B_over, ok_over F_over T T3 H_out H_told⟩
  have H_move : HasF P w K mg base "answer_of_move" 2 _ (spMove C) := ⟨_, _, PySem.W.mg_of X G a_move, k_move, B_move, ok_move F_move T T2 T3 M_can M_make⟩
  have H_rod : HasF P w K mg base "answer_of_rod" 2 _ (spRod C) := ⟨_, _, PySem.W.mg_of X G a_rod, k_rod, B_rod, ok_rod F_rod T T3 M_digit⟩
  have H_answer : HasF P w K mg base "answer_of" 21 _ (spAnswer C) := ⟨_, _, PySem.W.mg_of X G a_answer, k_answer, B_answer, ok_answer F_answer T T2 T3 M_begin M_shown H_over H_move H_rod H_telling⟩
  exact ok_answers F_answers T TC ⟨mk, a_init, i_init, kc⟩ (ok_init F_init T (ok_begin F_begin T) B_begin ⟨a_begin, i_begin, k_begin⟩) B_init H_answer
end Bead

set_option Elab.async false
set_option maxRecDepth 100000
set_option maxHeartbeats 2000000
open PySem PySem.W PyProof.Rows
set_option maxRecDepth 100000 in
set_option maxHeartbeats 8000000 in
theorem PySem.Challenge.cw_beadframedesk_s01_answers_holds : PySem.Challenge.rw_beadframedesk_s01_answers.Holds := by
  w_on; k_headS; (case hw => exact ⟨[.list [.int 0]], by decide +kernel, by decide +kernel⟩)
  k_fillS
  refine L2.walk_specK (r := PySem.Challenge.rw_beadframedesk_s01_answers) (k := 22) (CX := L2.CX0) (ps := ["calls"]) (sp := Bead.spAnswers) (by decide +kernel) rfl rfl ⟨rfl, by decide, by decide⟩ (fun w h Y => PySem.W.kIn_of Y) ?F ?S (fun _ _ _ _ z => z)
  case F =>
    intro w mg fa h Y KX G hmg
    refine' Bead.all_mk KX G hmg ?aC ?a_init ?i_init ?a_begin ?i_begin ?a_can ?i_can ?a_make ?i_make ?a_digit ?i_digit ?a_shown ?i_shown ?a_put ?a_off ?a_addD ?a_takeD ?a_placed ?a_addN ?a_takeN ?a_prod ?a_out ?a_clear ?a_set ?a_add ?a_take ?a_times ?a_carry ?a_told ?a_telling ?a_over ?a_move ?a_rod ?a_answer ?a_answers ?l_init ?c_init ?k_init ?l_begin ?c_begin ?k_begin ?l_can ?c_can ?k_can ?l_make ?c_make ?k_make ?l_digit ?c_digit ?k_digit ?l_shown ?c_shown ?k_shown ?l_put ?c_put ?k_put ?l_off ?c_off ?k_off ?l_addD ?c_addD ?k_addD ?l_takeD ?c_takeD ?k_takeD ?l_placed ?c_placed ?k_placed ?l_addN ?c_addN ?k_addN ?l_takeN ?c_takeN ?k_takeN ?l_prod ?c_prod ?k_prod ?l_out ?c_out ?k_out ?l_clear ?c_clear ?k_clear ?l_set ?c_set ?k_set ?l_add ?c_add ?k_add ?l_take ?c_take ?k_take ?l_times ?c_times ?k_times ?l_carry ?c_carry ?k_carry ?l_told ?c_told ?k_told ?l_telling ?c_telling ?k_telling ?l_over ?c_over ?k_over ?l_move ?c_move ?k_move ?l_rod ?c_rod ?k_rod ?l_answer ?c_answer ?k_answer ?l_answers ?c_answers ?k_answers ?pg ?hd ?po ?sa ?mk ?kc ?n_uppers_down ?n_lowers_up ?n_told ?g_RODS ?g_LOWER_BEADS ?g_LIMIT ?g_LOWER_UP ?g_LOWER_DOWN ?g_UPPER_DOWN ?g_UPPER_UP ?g_START ?g_SET ?g_ADD ?g_TAKE ?g_OVER ?g_MOVE ?g_VALUE ?g_ROD ?g_DONE ?g_TOO_MUCH ?g_TOO_LITTLE ?g_NO_DIVISOR ?g_NO_MOVE ?g_NO_ROD ?a_GIVEN_COUNTS ?l_GIVEN_COUNTS ?z_range ?z_len
    (case aC => k_is)
    (case a_init => k_is)
    (case i_init => k_is)
    (case a_begin => k_is)
    (case i_begin => k_is)
    (case a_can => k_is)
    (case i_can => k_is)
    (case a_make => k_is)
    (case i_make => k_is)
    (case a_digit => k_is)
    (case i_digit => k_is)
    (case a_shown => k_is)
    (case i_shown => k_is)
    (case a_put => k_is)
    (case a_off => k_is)
    (case a_addD => k_is)
    (case a_takeD => k_is)
    (case a_placed => k_is)
    (case a_addN => k_is)
    (case a_takeN => k_is)
    (case a_prod => k_is)
    (case a_out => k_is)
    (case a_clear => k_is)
    (case a_set => k_is)
    (case a_add => k_is)
    (case a_take => k_is)
    (case a_times => k_is)
    (case a_carry => k_is)
    (case a_told => k_is)
    (case a_telling => k_is)
    (case a_over => k_is)
    (case a_move => k_is)
    (case a_rod => k_is)
    (case a_answer => k_is)
    (case a_answers => k_is)
    (case l_init => k_is)
    (case c_init => k_is)
    (case k_init => k_is)
    (case l_begin => k_is)
    (case c_begin => k_is)
    (case k_begin => k_is)
    (case l_can => k_is)
    (case c_can => k_is)
    (case k_can => k_is)
    (case l_make => k_is)
    (case c_make => k_is)
    (case k_make => k_is)
    (case l_digit => k_is)
    (case c_digit => k_is)
    (case k_digit => k_is)
    (case l_shown => k_is)
    (case c_shown => k_is)
    (case k_shown => k_is)
    (case l_put => k_is)
    (case c_put => k_is)
    (case k_put => k_is)
    (case l_off => k_is)
    (case c_off => k_is)
    (case k_off => k_is)
    (case l_addD => k_is)
    (case c_addD => k_is)
    (case k_addD => k_is)
    (case l_takeD => k_is)
    (case c_takeD => k_is)
    (case k_takeD => k_is)
    (case l_placed => k_is)
    (case c_placed => k_is)
    (case k_placed => k_is)
    (case l_addN => k_is)
    (case c_addN => k_is)
    (case k_addN => k_is)
    (case l_takeN => k_is)
    (case c_takeN => k_is)
    (case k_takeN => k_is)
    (case l_prod => k_is)
    (case c_prod => k_is)
    (case k_prod => k_is)
    (case l_out => k_is)
    (case c_out => k_is)
    (case k_out => k_is)
    (case l_clear => k_is)
    (case c_clear => k_is)
    (case k_clear => k_is)
    (case l_set => k_is)
    (case c_set => k_is)
    (case k_set => k_is)
    (case l_add => k_is)
    (case c_add => k_is)
    (case k_add => k_is)
    (case l_take => k_is)
    (case c_take => k_is)
    (case k_take => k_is)
    (case l_times => k_is)
    (case c_times => k_is)
    (case k_times => k_is)
    (case l_carry => k_is)
    (case c_carry => k_is)
    (case k_carry => k_is)
    (case l_told => k_is)
    (case c_told => k_is)
    (case k_told => k_is)
    (case l_telling => k_is)
    (case c_telling => k_is)
    (case k_telling => k_is)
    (case l_over => k_is)
    (case c_over => k_is)
    (case k_over => k_is)
    (case l_move => k_is)
    (case c_move => k_is)
    (case k_move => k_is)
    (case l_rod => k_is)
    (case c_rod => k_is)
    (case k_rod => k_is)
    (case l_answer => k_is)
    (case c_answer => k_is)
    (case k_answer => k_is)
    (case l_answers => k_is)
    (case c_answers => k_is)
    (case k_answers => k_is)
    (case pg => k_is)
    (case hd => k_is)
    (case po => k_is)
    (case sa => k_is)
    (case mk => k_is)
    (case kc => k_is)
    (case n_uppers_down => k_is)
    (case n_lowers_up => k_is)
    (case n_told => k_is)
    (case g_RODS => k_is)
    (case g_LOWER_BEADS => k_is)
    (case g_LIMIT => k_is)
    (case g_LOWER_UP => k_is)
    (case g_LOWER_DOWN => k_is)
    (case g_UPPER_DOWN => k_is)
    (case g_UPPER_UP => k_is)
    (case g_START => k_is)
    (case g_SET => k_is)
    (case g_ADD => k_is)
    (case g_TAKE => k_is)
    (case g_OVER => k_is)
    (case g_MOVE => k_is)
    (case g_VALUE => k_is)
    (case g_ROD => k_is)
    (case g_DONE => k_is)
    (case g_TOO_MUCH => k_is)
    (case g_TOO_LITTLE => k_is)
    (case g_NO_DIVISOR => k_is)
    (case g_NO_MOVE => k_is)
    (case g_NO_ROD => k_is)
    (case a_GIVEN_COUNTS => k_is)
    (case l_GIVEN_COUNTS => k_is)
    (case z_range => k_is)
    (case z_len => k_is)
  case S =>
    intro K H xs a hO hwi hask hx
    cases hx with
    | cons h1 h2 =>
      cases h2
      cases h1 with
      | lst hs ha =>
        have e := L2.ints_dw a.1 _ ha
        subst e
        exact ⟨_, a.1, rfl, Bead.ArgL.of hO hs, hask, fun H' p hp => .lst (L2.SqL.of hp) (L2.dw_ints _)⟩
#print axioms PySem.Challenge.cw_beadframedesk_s01_answers_holds
