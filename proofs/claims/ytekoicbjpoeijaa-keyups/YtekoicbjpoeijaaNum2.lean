/- Plain arithmetic of bits of two-word numbers, for the walks. No conditions. -/
import Derived.Test.YtekoicbjpoeijaaNum
namespace Go.Proofs.Ytekoicbjpoeijaa
set_option linter.unusedVariables false
set_option linter.unusedSimpArgs false

def andI (a b : Int) : Int := ((a.toNat &&& b.toNat : Nat) : Int)
def orI (a b : Int) : Int := ((a.toNat ||| b.toNat : Nat) : Int)

theorem ofInt_toNat (x : Int) (h : Word x) : (BitVec.ofInt 64 x).toNat = x.toNat := by
  obtain ⟨h0, h1⟩ := h
  obtain ⟨n, rfl⟩ := Int.eq_ofNat_of_zero_le h0
  rw [BitVec.ofInt_natCast, BitVec.toNat_ofNat, Int.toNat_natCast]; exact Nat.mod_eq_of_lt (by omega)
theorem word_toNat {x : Int} (h : Word x) : x.toNat < 2 ^ 64 := by obtain ⟨_, _⟩ := h; omega
theorem andI_word {x y : Int} (hx : Word x) : Word (andI x y) := by
  have : x.toNat &&& y.toNat < 2 ^ 64 := Nat.lt_of_le_of_lt Nat.and_le_left (word_toNat hx)
  unfold andI Word; omega
theorem orI_word {x y : Int} (hx : Word x) (hy : Word y) : Word (orI x y) := by
  have : x.toNat ||| y.toNat < 2 ^ 64 := Nat.or_lt_two_pow (word_toNat hx) (word_toNat hy)
  unfold orI Word; omega
theorem bits_and_w {x y : Int} (hx : Word x) (hy : Word y) : bits .and .u64 x y = andI x y := by
  have hw := andI_word (y := y) hx
  show IntKind.u64.wrap ((BitVec.ofInt 64 x &&& BitVec.ofInt 64 y).toNat : Int) = _
  rw [BitVec.toNat_and, ofInt_toNat x hx, ofInt_toNat y hy, IntKind.wrap_u64]
  unfold andI Word at *; omega
theorem bits_or_w {x y : Int} (hx : Word x) (hy : Word y) : bits .or .u64 x y = orI x y := by
  have hw := orI_word hx hy
  show IntKind.u64.wrap ((BitVec.ofInt 64 x ||| BitVec.ofInt 64 y).toNat : Int) = _
  rw [BitVec.toNat_or, ofInt_toNat x hx, ofInt_toNat y hy, IntKind.wrap_u64]
  unfold orI Word at *; omega

theorem wv_toNat {h l : Int} (hh : Word h) (hl : Word l) : (wv h l).toNat = h.toNat * 2 ^ 64 + l.toNat := by
  obtain ⟨_, _⟩ := hh; obtain ⟨_, _⟩ := hl; unfold wv; omega
theorem wv_nonneg {h l : Int} (hh : Word h) (hl : Word l) : 0 ≤ wv h l := by
  obtain ⟨_, _⟩ := hh; obtain ⟨_, _⟩ := hl; unfold wv; omega
theorem wv_lt {h l : Int} (hh : Word h) (hl : Word l) : wv h l < MM := by
  obtain ⟨_, _⟩ := hh; obtain ⟨_, _⟩ := hl; unfold wv MM; omega
theorem hi_nat (n : Nat) : hi (n : Int) = ((n / 2 ^ 64 % 2 ^ 64 : Nat) : Int) := by unfold hi; omega
theorem lo_nat (n : Nat) : lo (n : Int) = ((n % 2 ^ 64 : Nat) : Int) := by unfold lo; omega

theorem and_pure {ah al bh bl : Int} (h1 : Word ah) (h2 : Word al) (h3 : Word bh) (h4 : Word bl) :
    hi (andI (wv ah al) (wv bh bl)) = bits .and .u64 ah bh ∧ lo (andI (wv ah al) (wv bh bl)) = bits .and .u64 al bl := by
  rw [bits_and_w h1 h3, bits_and_w h2 h4]
  unfold andI
  rw [wv_toNat h1 h2, wv_toNat h3 h4, hi_nat, lo_nat, Nat.and_div_two_pow, Nat.and_mod_two_pow, Nat.and_mod_two_pow]
  have := word_toNat h1; have := word_toNat h2; have := word_toNat h3; have := word_toNat h4
  rw [show (ah.toNat * 2 ^ 64 + al.toNat) / 2 ^ 64 % 2 ^ 64 = ah.toNat by omega, show (bh.toNat * 2 ^ 64 + bl.toNat) / 2 ^ 64 % 2 ^ 64 = bh.toNat by omega,
    show (ah.toNat * 2 ^ 64 + al.toNat) % 2 ^ 64 = al.toNat by omega, show (bh.toNat * 2 ^ 64 + bl.toNat) % 2 ^ 64 = bl.toNat by omega]
  exact ⟨rfl, rfl⟩
theorem or_pure {ah al bh bl : Int} (h1 : Word ah) (h2 : Word al) (h3 : Word bh) (h4 : Word bl) :
    hi (orI (wv ah al) (wv bh bl)) = bits .or .u64 ah bh ∧ lo (orI (wv ah al) (wv bh bl)) = bits .or .u64 al bl := by
  rw [bits_or_w h1 h3, bits_or_w h2 h4]
  unfold orI
  rw [wv_toNat h1 h2, wv_toNat h3 h4, hi_nat, lo_nat, Nat.or_div_two_pow, Nat.or_mod_two_pow, Nat.or_mod_two_pow]
  have := word_toNat h1; have := word_toNat h2; have := word_toNat h3; have := word_toNat h4
  rw [show (ah.toNat * 2 ^ 64 + al.toNat) / 2 ^ 64 % 2 ^ 64 = ah.toNat by omega, show (bh.toNat * 2 ^ 64 + bl.toNat) / 2 ^ 64 % 2 ^ 64 = bh.toNat by omega,
    show (ah.toNat * 2 ^ 64 + al.toNat) % 2 ^ 64 = al.toNat by omega, show (bh.toNat * 2 ^ 64 + bl.toNat) % 2 ^ 64 = bl.toNat by omega]
  exact ⟨rfl, rfl⟩

/-- 2^n of a 64-bit shift, over the naturals -/
theorem pow_split (n : Nat) (h : n ≤ 64) : 2 ^ n * 2 ^ (64 - n) = 2 ^ 64 := by rw [← Nat.pow_add]; congr 1; omega

theorem shl_nat (a b n : Nat) (hn : n ≤ 64) (ha : a < 2 ^ 64) (hb : b < 2 ^ 64) :
    (a * 2 ^ 64 + b) * 2 ^ n / 2 ^ 64 % 2 ^ 64 = (a * 2 ^ n % 2 ^ 64) ||| (b / 2 ^ (64 - n)) ∧ (a * 2 ^ 64 + b) * 2 ^ n % 2 ^ 64 = b * 2 ^ n % 2 ^ 64 := by
  have hp := pow_split n hn
  have hpos : 0 < 2 ^ (64 - n) := Nat.two_pow_pos _
  have hpos' : 0 < 2 ^ n := Nat.two_pow_pos _
  have e1 : (a * 2 ^ 64 + b) * 2 ^ n = b * 2 ^ n + 2 ^ 64 * (a * 2 ^ n) := by rw [Nat.add_mul, Nat.add_comm]; congr 1; rw [Nat.mul_assoc, Nat.mul_left_comm]
  have e2 : b * 2 ^ n / 2 ^ 64 = b / 2 ^ (64 - n) := by
    rw [← hp, Nat.mul_comm b, Nat.mul_div_mul_left _ _ hpos']
  have e3 : a * 2 ^ n % 2 ^ 64 = 2 ^ n * (a % 2 ^ (64 - n)) := by
    rw [← hp, Nat.mul_comm a, Nat.mul_mod_mul_left]
  have e4 : b / 2 ^ (64 - n) < 2 ^ n := by rw [Nat.div_lt_iff_lt_mul hpos, hp]; exact hb
  constructor
  · rw [e1, Nat.add_mul_div_left _ _ (Nat.two_pow_pos _), e2, Nat.add_comm, Nat.add_mod, e3, ← Nat.two_pow_add_eq_or_of_lt e4, Nat.mod_eq_of_lt (a := b / 2 ^ (64 - n)) (Nat.lt_of_lt_of_le e4 (Nat.pow_le_pow_right (by omega) hn))]
    refine Nat.mod_eq_of_lt ?_
    have : a % 2 ^ (64 - n) + 1 ≤ 2 ^ (64 - n) := Nat.mod_lt _ hpos
    calc 2 ^ n * (a % 2 ^ (64 - n)) + b / 2 ^ (64 - n) < 2 ^ n * (a % 2 ^ (64 - n)) + 2 ^ n := by omega
      _ = 2 ^ n * (a % 2 ^ (64 - n) + 1) := by rw [Nat.mul_add, Nat.mul_one]
      _ ≤ 2 ^ n * 2 ^ (64 - n) := Nat.mul_le_mul_left _ this
      _ = 2 ^ 64 := hp
  · rw [e1, Nat.add_mul_mod_self_left]

theorem shr_nat (a b n : Nat) (hn : n ≤ 64) (ha : a < 2 ^ 64) (hb : b < 2 ^ 64) :
    (a * 2 ^ 64 + b) / 2 ^ n / 2 ^ 64 % 2 ^ 64 = a / 2 ^ n ∧ (a * 2 ^ 64 + b) / 2 ^ n % 2 ^ 64 = (b / 2 ^ n) ||| (a * 2 ^ (64 - n) % 2 ^ 64) := by
  have hp := pow_split n hn
  have hpos : 0 < 2 ^ (64 - n) := Nat.two_pow_pos _
  have hpos' : 0 < 2 ^ n := Nat.two_pow_pos _
  constructor
  · rw [Nat.div_div_eq_div_mul, Nat.mul_comm (2 ^ n), ← Nat.div_div_eq_div_mul, show (a * 2 ^ 64 + b) / 2 ^ 64 = a by omega]
    exact Nat.mod_eq_of_lt (Nat.lt_of_le_of_lt (Nat.div_le_self _ _) ha)
  · have e1 : a * 2 ^ 64 + b = b + 2 ^ n * (a * 2 ^ (64 - n)) := by rw [Nat.add_comm, ← hp, Nat.mul_left_comm]
    have e2 : b / 2 ^ n < 2 ^ (64 - n) := by rw [Nat.div_lt_iff_lt_mul hpos', Nat.mul_comm, hp]; exact hb
    have e3 : a * 2 ^ (64 - n) % 2 ^ 64 = 2 ^ (64 - n) * (a % 2 ^ n) := by
      rw [← hp, Nat.mul_comm (2 ^ n), Nat.mul_comm a, Nat.mul_mod_mul_left]
    rw [e1, Nat.add_mul_div_left _ _ hpos', Nat.add_mod, e3, Nat.or_comm, ← Nat.two_pow_add_eq_or_of_lt e2, Nat.mod_eq_of_lt (a := b / 2 ^ n) (Nat.lt_of_le_of_lt (Nat.div_le_self _ _) hb), Nat.add_comm]
    refine Nat.mod_eq_of_lt ?_
    have : a % 2 ^ n + 1 ≤ 2 ^ n := Nat.mod_lt _ hpos'
    calc 2 ^ (64 - n) * (a % 2 ^ n) + b / 2 ^ n < 2 ^ (64 - n) * (a % 2 ^ n) + 2 ^ (64 - n) := by omega
      _ = 2 ^ (64 - n) * (a % 2 ^ n + 1) := by rw [Nat.mul_add, Nat.mul_one]
      _ ≤ 2 ^ (64 - n) * 2 ^ n := Nat.mul_le_mul_left _ this
      _ = 2 ^ 64 := by rw [Nat.mul_comm]; exact hp

theorem word_div {x : Int} (hx : Word x) (k : Nat) : Word (x / 2 ^ k) := by
  obtain ⟨a, rfl⟩ := Int.eq_ofNat_of_zero_le hx.1
  have : a / 2 ^ k ≤ a := Nat.div_le_self _ _
  have e : (a : Int) / 2 ^ k = ((a / 2 ^ k : Nat) : Int) := by simp
  have := hx.2
  rw [e]; unfold Word; generalize a / 2 ^ k = z at *; omega
theorem word_wrap (x : Int) : Word (IntKind.u64.wrap x) := by unfold Word; rw [IntKind.wrap_u64]; omega

theorem shl_pure (ah al n : Int) (h1 : Word ah) (h2 : Word al) (hn0 : 0 ≤ n) (hn : n ≤ 64) :
    hi (wv ah al * 2 ^ n.toNat) = bits .or .u64 (IntKind.u64.wrap (ah * 2 ^ n.toNat)) (al / 2 ^ (64 - n).toNat) ∧ lo (wv ah al * 2 ^ n.toNat) = IntKind.u64.wrap (al * 2 ^ n.toNat) := by
  rw [bits_or_w (word_wrap _) (word_div h2 _)]
  obtain ⟨a, rfl⟩ := Int.eq_ofNat_of_zero_le h1.1
  obtain ⟨b, rfl⟩ := Int.eq_ofNat_of_zero_le h2.1
  obtain ⟨k, rfl⟩ := Int.eq_ofNat_of_zero_le hn0
  have ha := h1.2; have hb := h2.2
  obtain ⟨p1, p2⟩ := shl_nat a b k (by omega) (by omega) (by omega)
  have e0 : wv (a : Int) (b : Int) * 2 ^ (k : Int).toNat = (((a * 2 ^ 64 + b) * 2 ^ k : Nat) : Int) := by unfold wv; simp
  have e1 : IntKind.u64.wrap ((a : Int) * 2 ^ (k : Int).toNat) = ((a * 2 ^ k % 2 ^ 64 : Nat) : Int) := by rw [IntKind.wrap_u64]; simp
  have e2 : IntKind.u64.wrap ((b : Int) * 2 ^ (k : Int).toNat) = ((b * 2 ^ k % 2 ^ 64 : Nat) : Int) := by rw [IntKind.wrap_u64]; simp
  have e3 : (64 - (k : Int)).toNat = 64 - k := by omega
  have e4 : (b : Int) / 2 ^ (64 - k) = ((b / 2 ^ (64 - k) : Nat) : Int) := by simp
  rw [e0, hi_nat, lo_nat, p1, p2, e1, e2, e3, e4]; unfold orI
  exact ⟨rfl, rfl⟩
theorem shr_pure (ah al n : Int) (h1 : Word ah) (h2 : Word al) (hn0 : 0 ≤ n) (hn : n ≤ 64) :
    hi (wv ah al / 2 ^ n.toNat) = ah / 2 ^ n.toNat ∧ lo (wv ah al / 2 ^ n.toNat) = bits .or .u64 (al / 2 ^ n.toNat) (IntKind.u64.wrap (ah * 2 ^ (64 - n).toNat)) := by
  rw [bits_or_w (word_div h2 _) (word_wrap _)]
  obtain ⟨a, rfl⟩ := Int.eq_ofNat_of_zero_le h1.1
  obtain ⟨b, rfl⟩ := Int.eq_ofNat_of_zero_le h2.1
  obtain ⟨k, rfl⟩ := Int.eq_ofNat_of_zero_le hn0
  have ha := h1.2; have hb := h2.2
  obtain ⟨p1, p2⟩ := shr_nat a b k (by omega) (by omega) (by omega)
  have e0 : wv (a : Int) (b : Int) / 2 ^ (k : Int).toNat = (((a * 2 ^ 64 + b) / 2 ^ k : Nat) : Int) := by unfold wv; simp
  have e3 : (64 - (k : Int)).toNat = 64 - k := by omega
  have e1 : IntKind.u64.wrap ((a : Int) * 2 ^ (64 - k)) = ((a * 2 ^ (64 - k) % 2 ^ 64 : Nat) : Int) := by rw [IntKind.wrap_u64]; simp
  have e4 : (a : Int) / 2 ^ (k : Int).toNat = ((a / 2 ^ k : Nat) : Int) := by simp
  have e5 : (b : Int) / 2 ^ (k : Int).toNat = ((b / 2 ^ k : Nat) : Int) := by simp
  rw [e0, hi_nat, lo_nat, p1, p2, e3, e1, e4, e5]; unfold orI
  exact ⟨rfl, rfl⟩
/-- a shift by 64 and more -/
theorem shl_far (ah al n : Int) (h1 : Word ah) (h2 : Word al) (hn0 : 64 ≤ n) :
    hi (wv ah al * 2 ^ n.toNat) = IntKind.u64.wrap (al * 2 ^ (n - 64).toNat) ∧ lo (wv ah al * 2 ^ n.toNat) = 0 := by
  obtain ⟨k, hk⟩ := Int.eq_ofNat_of_zero_le (show 0 ≤ n - 64 by omega)
  have e : n.toNat = 64 + k := by omega
  rw [hk, e, IntKind.wrap_u64, Int.pow_add, Int.toNat_natCast]; unfold hi lo wv
  rw [show (ah * 18446744073709551616 + al) * (2 ^ 64 * 2 ^ k) = (ah * 2 ^ k * 18446744073709551616 + al * 2 ^ k) * 18446744073709551616 by
    rw [Int.add_mul, Int.add_mul]; congr 1 <;> (generalize (2 : Int) ^ k = z; rw [show (2 : Int) ^ 64 = 18446744073709551616 by decide]; simp only [Int.mul_assoc, Int.mul_comm, Int.mul_left_comm])]
  generalize ah * 2 ^ k = u; generalize al * 2 ^ k = v
  omega
theorem shr_far (ah al n : Int) (h1 : Word ah) (h2 : Word al) (hn0 : 64 ≤ n) :
    hi (wv ah al / 2 ^ n.toNat) = 0 ∧ lo (wv ah al / 2 ^ n.toNat) = ah / 2 ^ (n - 64).toNat := by
  obtain ⟨k, hk⟩ := Int.eq_ofNat_of_zero_le (show 0 ≤ n - 64 by omega)
  have e : n.toNat = 64 + k := by omega
  have hd := word_div h1 k
  rw [hk, e, Int.pow_add, Int.toNat_natCast, ← Int.ediv_ediv_of_nonneg (by decide)]
  have : wv ah al / 2 ^ 64 = ah := by obtain ⟨_, _⟩ := h1; obtain ⟨_, _⟩ := h2; unfold wv; omega
  rw [this]; unfold hi lo; unfold Word at hd; generalize ah / 2 ^ k = z at *; omega
theorem pow_ge (n : Nat) (h : 128 ≤ n) : (2 : Int) ^ n = MM * 2 ^ (n - 128) := by
  obtain ⟨k, rfl⟩ := Nat.exists_eq_add_of_le h
  rw [Int.pow_add, Nat.add_sub_cancel_left]; rfl
theorem shl_out (v n : Int) (hn0 : 128 ≤ n) : hi (v * 2 ^ n.toNat) = 0 ∧ lo (v * 2 ^ n.toNat) = 0 := by
  rw [pow_ge n.toNat (by omega)]
  rw [show v * (MM * 2 ^ (n.toNat - 128)) = v * 2 ^ (n.toNat - 128) * MM by rw [Int.mul_assoc, Int.mul_comm MM]]
  generalize v * 2 ^ (n.toNat - 128) = z; unfold hi lo MM; omega
theorem shr_out (v n : Int) (h0 : 0 ≤ v) (h1 : v < MM) (hn0 : 128 ≤ n) : v / 2 ^ n.toNat = 0 := by
  refine Int.ediv_eq_zero_of_lt h0 (Int.lt_of_lt_of_le h1 ?_)
  rw [pow_ge n.toNat (by omega)]
  have : (0 : Int) < 2 ^ (n.toNat - 128) := Int.pow_pos (by decide)
  unfold MM; generalize (2 : Int) ^ (n.toNat - 128) = z at *; omega
end Go.Proofs.Ytekoicbjpoeijaa
