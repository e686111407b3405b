import Derived.WalkKit
import Derived.Laws.BitsAllLaws
namespace Go.Proofs.Ythcimbocchoehaa

/-- how many of the first n bits are on -/
def pc : Nat → Nat → Nat
  | 0, _ => 0
  | n + 1, x => x % 2 + pc n (x / 2)

theorem pc_le : ∀ n x, pc n x ≤ n
  | 0, _ => Nat.le_refl _
  | n + 1, x => by have := pc_le n (x / 2); simp only [pc]; omega

theorem pc_top : ∀ n x, pc (n + 1) x = pc n x + x / 2 ^ n % 2
  | 0, x => by simp [pc]
  | n + 1, x => by
    rw [pc, pc_top n (x / 2), pc, Nat.div_div_eq_div_mul, Nat.pow_succ, Nat.mul_comm 2 (2 ^ n)]
    omega

theorem pc_byte (n x : Nat) : pc (n + 8) x = pc 8 (x % 256) + pc n (x / 256) := by
  simp only [pc]
  have e : x / 2 / 2 / 2 / 2 / 2 / 2 / 2 / 2 = x / 256 := by omega
  rw [e]
  omega

theorem and_split (a b c d : Nat) (ha : a < 256) (hc : c < 256) : (a + 256 * b) &&& (c + 256 * d) = (a &&& c) + 256 * (b &&& d) := by
  have h1 := Nat.and_mod_two_pow (a := a + 256 * b) (b := c + 256 * d) (n := 8)
  have h2 := Nat.and_div_two_pow (a := a + 256 * b) (b := c + 256 * d) (n := 8)
  rw [show (2 : Nat) ^ 8 = 256 from rfl] at h1 h2
  rw [show (a + 256 * b) % 256 = a by omega, show (c + 256 * d) % 256 = c by omega] at h1
  rw [show (a + 256 * b) / 256 = b by omega, show (c + 256 * d) / 256 = d by omega] at h2
  omega

/-- a mask of n like bytes -/
def mask (m : Nat) : Nat → Nat
  | 0 => 0
  | n + 1 => m + 256 * mask m n

theorem mask_succ (m n : Nat) : mask m (n + 1) = m + 256 * mask m n := rfl

theorem byte1 : ∀ b, b < 256 → ∀ e, e < 2 → (b / 2 + 128 * e) &&& 85 = (b / 2) &&& 85 := by decide +kernel
theorem byte2 : ∀ b, b < 256 → ∀ e, e < 4 → (b / 4 + 64 * e) &&& 51 = (b / 4) &&& 51 := by decide +kernel

def q1 (b : Nat) : Nat := ((b / 2) &&& 85) + (b &&& 85)
def q2 (b : Nat) : Nat := ((b / 4) &&& 51) + (b &&& 51)
theorem q1_lt : ∀ b, b < 256 → q1 b < 256 := by decide +kernel
theorem q2_lt : ∀ b, b < 256 → q2 (q1 b) % 16 ≤ 4 ∧ q2 (q1 b) / 16 ≤ 4 := by decide +kernel
theorem q3_pc : ∀ b, b < 256 → ∀ e, e < 5 → (q2 (q1 b) / 16 + q2 (q1 b) + 16 * e) &&& 15 = pc 8 b := by decide +kernel

def s1 (n x : Nat) : Nat := ((x / 2) &&& mask 85 n) + (x &&& mask 85 n)
def s2 (n x : Nat) : Nat := ((x / 4) &&& mask 51 n) + (x &&& mask 51 n)
def s3 (n x : Nat) : Nat := (x / 16 + x) &&& mask 15 n

theorem s1_byte (n b r : Nat) (hb : b < 256) : s1 (n + 1) (b + 256 * r) = q1 b + 256 * s1 n r := by
  unfold s1
  rw [mask_succ, show (b + 256 * r) / 2 = (b / 2 + 128 * (r % 2)) + 256 * (r / 2) by omega, and_split _ _ _ _ (by omega) (by omega), and_split _ _ _ _ hb (by omega), byte1 b hb _ (by omega)]
  unfold q1; omega

theorem s2_byte (n b r : Nat) (hb : b < 256) : s2 (n + 1) (b + 256 * r) = q2 b + 256 * s2 n r := by
  unfold s2
  rw [mask_succ, show (b + 256 * r) / 4 = (b / 4 + 64 * (r % 4)) + 256 * (r / 4) by omega, and_split _ _ _ _ (by omega) (by omega), and_split _ _ _ _ hb (by omega), byte2 b hb _ (by omega)]
  unfold q2; omega

/-- bytes put together again, each by f -/
def bytes (f : Nat → Nat) : Nat → Nat → Nat
  | 0, _ => 0
  | n + 1, x => f (x % 256) + 256 * bytes f n (x / 256)

theorem s12 : ∀ n x, s2 n (s1 n x) = bytes (fun b => q2 (q1 b)) n x
  | 0, x => by simp [s1, s2, mask, bytes]
  | n + 1, x => by
    rw [show x = x % 256 + 256 * (x / 256) by omega, s1_byte _ _ _ (by omega), s2_byte _ _ _ (q1_lt _ (by omega)), s12 n (x / 256)]
    rw [bytes]
    rw [show (x % 256 + 256 * (x / 256)) % 256 = x % 256 by omega, show (x % 256 + 256 * (x / 256)) / 256 = x / 256 by omega]

theorem low (n x : Nat) : bytes (fun b => q2 (q1 b)) n x % 16 ≤ 4 := by
  cases n with
  | zero => simp [bytes]
  | succ n =>
    rw [bytes]
    have := q2_lt (x % 256) (by omega)
    omega

theorem s123 : ∀ n x, s3 n (s2 n (s1 n x)) = bytes (pc 8) n x
  | 0, x => by simp [s1, s2, s3, mask, bytes]
  | n + 1, x => by
    have ih := s123 n (x / 256)
    rw [s12] at ih ⊢
    rw [bytes, bytes, ← ih]
    have h1 := q2_lt (x % 256) (by omega)
    have h2 := low n (x / 256)
    have h3 := fun e he => q3_pc (x % 256) (by omega) e he
    generalize bytes (fun b => q2 (q1 b)) n (x / 256) = t at *
    unfold s3
    rw [mask_succ, show (q2 (q1 (x % 256)) + 256 * t) / 16 + (q2 (q1 (x % 256)) + 256 * t) = (q2 (q1 (x % 256)) / 16 + q2 (q1 (x % 256)) + 16 * (t % 16)) + 256 * (t / 16 + t) by omega]
    rw [and_split _ _ _ _ (by omega) (by omega), h3 _ (by omega)]

theorem pc64 (x : Nat) : pc 64 x = pc 8 (x % 256) + pc 8 (x / 256 % 256) + pc 8 (x / 256 / 256 % 256) + pc 8 (x / 256 / 256 / 256 % 256) + pc 8 (x / 256 / 256 / 256 / 256 % 256) + pc 8 (x / 256 / 256 / 256 / 256 / 256 % 256) + pc 8 (x / 256 / 256 / 256 / 256 / 256 / 256 % 256) + pc 8 (x / 256 / 256 / 256 / 256 / 256 / 256 / 256 % 256) := by
  have h1 : pc 64 x = pc 8 (x % 256) + pc 56 (x / 256) := pc_byte 56 x
  have h2 : ∀ y, pc 56 y = pc 8 (y % 256) + pc 48 (y / 256) := pc_byte 48
  have h3 : ∀ y, pc 48 y = pc 8 (y % 256) + pc 40 (y / 256) := pc_byte 40
  have h4 : ∀ y, pc 40 y = pc 8 (y % 256) + pc 32 (y / 256) := pc_byte 32
  have h5 : ∀ y, pc 32 y = pc 8 (y % 256) + pc 24 (y / 256) := pc_byte 24
  have h6 : ∀ y, pc 24 y = pc 8 (y % 256) + pc 16 (y / 256) := pc_byte 16
  have h7 : ∀ y, pc 16 y = pc 8 (y % 256) + pc 8 (y / 256) := pc_byte 8
  have h8 : ∀ y, pc 8 y = pc 8 (y % 256) + 0 := pc_byte 0
  rw [h1, h2, h3, h4, h5, h6, h7, h8 (x / 256 / 256 / 256 / 256 / 256 / 256 / 256)]
  simp only [Nat.add_zero, Nat.add_assoc]

theorem dv1 (a B : Nat) (ha : a < 256) : (a + 256 * B) / 256 = B := by omega
theorem dv2 (a b C : Nat) (ha : a < 256) (hb : b < 256) : (a + 256 * (b + 256 * C)) / 65536 = C := by omega
theorem dv4 (a b c d E : Nat) (ha : a < 256) (hb : b < 256) (hc : c < 256) (hd : d < 256) : (a + 256 * (b + 256 * (c + 256 * (d + 256 * E)))) / 4294967296 = E := by omega
theorem md1 (a B : Nat) (ha : a < 128) : (a + 256 * B) % 128 = a := by omega
theorem bd8 (a b c d e f g h : Nat) (ha : a < 256) (hb : b < 256) (hc : c < 256) (hd : d < 256) (he : e < 256) (hf : f < 256) (hg : g < 256) (hh : h < 16) :
    a + 256 * (b + 256 * (c + 256 * (d + 256 * (e + 256 * (f + 256 * (g + 256 * h)))))) < 1152921504606846976 := by omega

theorem add4 (a b c d e f g h : Nat) : a + 256 * (b + 256 * (c + 256 * (d + 256 * (e + 256 * (f + 256 * (g + 256 * h)))))) + (b + 256 * (c + 256 * (d + 256 * (e + 256 * (f + 256 * (g + 256 * h)))))) = (a + b) + 256 * ((b + c) + 256 * ((c + d) + 256 * ((d + e) + 256 * ((e + f) + 256 * ((f + g) + 256 * ((g + h) + 256 * h)))))) := by omega
theorem add5 (a b c d e f g h : Nat) : (a + b) + 256 * ((b + c) + 256 * ((c + d) + 256 * ((d + e) + 256 * ((e + f) + 256 * ((f + g) + 256 * ((g + h) + 256 * h)))))) + ((c + d) + 256 * ((d + e) + 256 * ((e + f) + 256 * ((f + g) + 256 * ((g + h) + 256 * h))))) = (a + b + c + d) + 256 * ((b + c + d + e) + 256 * ((c + d + e + f) + 256 * ((d + e + f + g) + 256 * ((e + f + g + h) + 256 * ((f + g + h) + 256 * ((g + h) + 256 * h)))))) := by omega
theorem add6 (a b c d e f g h : Nat) : (a + b + c + d) + 256 * ((b + c + d + e) + 256 * ((c + d + e + f) + 256 * ((d + e + f + g) + 256 * ((e + f + g + h) + 256 * ((f + g + h) + 256 * ((g + h) + 256 * h)))))) + ((e + f + g + h) + 256 * ((f + g + h) + 256 * ((g + h) + 256 * h))) = (a + b + c + d + e + f + g + h) + 256 * ((b + c + d + e + f + g + h) + 256 * ((c + d + e + f + g + h) + 256 * ((d + e + f + g + h) + 256 * ((e + f + g + h) + 256 * ((f + g + h) + 256 * ((g + h) + 256 * h)))))) := by omega

theorem fold_sum (a b c d e f g h : Nat) (ha : a ≤ 8) (hb : b ≤ 8) (hc : c ≤ 8) (hd : d ≤ 8) (he : e ≤ 8) (hf : f ≤ 8) (hg : g ≤ 8) (hh : h ≤ 8) :
    ∃ x3 x4 x5 x6 : Nat, x3 = a + 256 * (b + 256 * (c + 256 * (d + 256 * (e + 256 * (f + 256 * (g + 256 * h)))))) ∧ x4 = x3 + x3 / 256 ∧ x5 = x4 + x4 / 65536 ∧ x6 = x5 + x5 / 4294967296 ∧
    x3 < 1152921504606846976 ∧ x4 < 1152921504606846976 ∧ x5 < 1152921504606846976 ∧ x6 < 1152921504606846976 ∧ x6 % 128 = a + b + c + d + e + f + g + h := by
  refine ⟨_, _, _, _, rfl, ?_, ?_, ?_, bd8 a b c d e f g h (by omega) (by omega) (by omega) (by omega) (by omega) (by omega) (by omega) (by omega),
    bd8 (a + b) (b + c) (c + d) (d + e) (e + f) (f + g) (g + h) h (by omega) (by omega) (by omega) (by omega) (by omega) (by omega) (by omega) (by omega),
    bd8 (a + b + c + d) (b + c + d + e) (c + d + e + f) (d + e + f + g) (e + f + g + h) (f + g + h) (g + h) h (by omega) (by omega) (by omega) (by omega) (by omega) (by omega) (by omega) (by omega),
    bd8 (a + b + c + d + e + f + g + h) (b + c + d + e + f + g + h) (c + d + e + f + g + h) (d + e + f + g + h) (e + f + g + h) (f + g + h) (g + h) h (by omega) (by omega) (by omega) (by omega) (by omega) (by omega) (by omega) (by omega),
    md1 (a + b + c + d + e + f + g + h) _ (by omega)⟩
  · rw [dv1 _ _ (by omega)]; exact (add4 a b c d e f g h).symm
  · rw [dv2 _ _ _ (by omega) (by omega)]; exact (add5 a b c d e f g h).symm
  · rw [dv4 _ _ _ _ _ (by omega) (by omega) (by omega) (by omega)]; exact (add6 a b c d e f g h).symm

theorem swar (x : Nat) : ∃ x4 x5 x6 : Nat, x4 = s3 8 (s2 8 (s1 8 x)) + s3 8 (s2 8 (s1 8 x)) / 256 ∧ x5 = x4 + x4 / 65536 ∧ x6 = x5 + x5 / 4294967296 ∧
    s3 8 (s2 8 (s1 8 x)) < 1152921504606846976 ∧ x4 < 1152921504606846976 ∧ x5 < 1152921504606846976 ∧ x6 < 1152921504606846976 ∧ x6 % 128 = pc 64 x := by
  obtain ⟨x3, x4, x5, x6, h3, h4, h5, h6, r⟩ := fold_sum _ _ _ _ _ _ _ _ (pc_le 8 (x % 256)) (pc_le 8 (x / 256 % 256)) (pc_le 8 (x / 256 / 256 % 256)) (pc_le 8 (x / 256 / 256 / 256 % 256)) (pc_le 8 (x / 256 / 256 / 256 / 256 % 256)) (pc_le 8 (x / 256 / 256 / 256 / 256 / 256 % 256)) (pc_le 8 (x / 256 / 256 / 256 / 256 / 256 / 256 % 256)) (pc_le 8 (x / 256 / 256 / 256 / 256 / 256 / 256 / 256 % 256))
  have e3 : s3 8 (s2 8 (s1 8 x)) = x3 := by
    rw [s123, h3]
    simp only [bytes, Nat.mul_zero, Nat.add_zero]
  rw [e3, pc64]
  exact ⟨x4, x5, x6, h4, h5, h6, r⟩

/-- masks of eight bytes -/
theorem m85 : mask 85 8 = 6148914691236517205 := rfl
theorem m51 : mask 51 8 = 3689348814741910323 := rfl
theorem m15 : mask 15 8 = 1085102592571150095 := rfl

theorem and_le (a b : Nat) : a &&& b ≤ b := Nat.and_le_right

theorem s1_lt (x : Nat) : s1 8 x < 18446744073709551616 := by
  unfold s1; rw [m85]
  have h1 := and_le (x / 2) 6148914691236517205
  have h2 := and_le x 6148914691236517205
  omega
theorem s2_lt (x : Nat) : s2 8 x < 18446744073709551616 := by
  unfold s2; rw [m51]
  have h1 := and_le (x / 4) 3689348814741910323
  have h2 := and_le x 3689348814741910323
  omega
theorem s2_lt' (x : Nat) : s2 8 x ≤ 7378697629483820646 := by
  unfold s2; rw [m51]
  have h1 := and_le (x / 4) 3689348814741910323
  have h2 := and_le x 3689348814741910323
  omega
end Go.Proofs.Ythcimbocchoehaa
