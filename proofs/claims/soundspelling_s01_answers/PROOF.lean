import PyProof.Rows.All
import Wide.All
import OpenK.AllK
import Wide.FinOn
import Open.SpecLaws
import KE.OsGo
import HandS.ForSpec
import HandS.Base
import HandS.Call
import HandS.Iter
import KE.GoesMore
import HandS.List
import HandS.Dict
import HandS.Conv
import KE.KDictSum
import KE.SortData
import HandS.RevTup
import HandS.Rev
import KE.KDictList
import KE.KDictKeyed
import KE.KeyNested
import PyProof.Rows.TupDisplay
import HandS.DeepEq
import HandS.SortRule
import HandS.Comp
import HandS.Deep
import HandS.TupLen
import HandS.TupAny
import PySem.Challenge.RW_soundspelling_s01_answers
set_option linter.all false
/-! Numbers of bytes decoded: a mirror over plain numbers, and that it is the specification's. -/
namespace SpA
open Sy

def vals (b : Bytes) : List Nat := b.map UInt8.toNat

def formSize (x : Nat) : Nat :=
  if x < 0x80 then 1 else if 0xC0 ≤ x ∧ x < 0xE0 then 2 else if 0xE0 ≤ x ∧ x < 0xF0 then 3 else if 0xF0 ≤ x ∧ x < 0xF8 then 4 else 0
def leadOf (n : Nat) : Nat := if n = 1 then 0 else if n = 2 then 0xC0 else if n = 3 then 0xE0 else 0xF0
def leastOf (n : Nat) : Nat := if n = 1 then 0 else if n = 2 then 0x80 else if n = 3 then 0x800 else 0x10000

def addOctet (a : Option Nat) (c : Nat) : Option Nat := match a with
  | none => none
  | some v => if 0x80 ≤ c ∧ c < 0xC0 then some (v * 64 + (c - 0x80)) else none
def formValue (o : List Nat) : Option Nat := match o with
  | [] => none
  | x :: r => if (x :: r).length = formSize x then
      (match r.foldl addOctet (some (x - leadOf (x :: r).length)) with
        | none => none
        | some v => if leastOf (x :: r).length ≤ v ∧ isChar v = true then some v else none)
    else none
def decFrom : Nat → List Nat → Option (List Nat)
  | _, [] => some []
  | 0, _ :: _ => none
  | n + 1, x :: r => match formValue ((x :: r).take (formSize x)) with
    | none => none
    | some v => (decFrom n ((x :: r).drop (formSize x))).map (v :: ·)
def decoded (l : List Nat) : Option (List Nat) := decFrom l.length l

theorem u8_lt (x : UInt8) : x.toNat < 256 := x.toNat_lt
theorem u8_of {a : Nat} {x : UInt8} (h : a < 256) : UInt8.ofNat a = x ↔ a = x.toNat := by
  constructor
  · rintro rfl
    rw [UInt8.toNat_ofNat']
    omega
  · rintro rfl
    exact UInt8.ofNat_toNat

theorem isChar_iff (c : Nat) : isChar c = true ↔ c < 0x110000 ∧ ¬ (0xD800 ≤ c ∧ c < 0xE000) := by
  unfold isChar
  simp only [Bool.and_eq_true, decide_eq_true_eq, Bool.not_eq_true', Bool.and_eq_false_iff, decide_eq_false_iff_not]
  omega

theorem utf8_1 {v : Nat} (h : v < 0x80) : utf8 v = [UInt8.ofNat v] := by
  unfold utf8; rw [if_pos h]; rfl
theorem utf8_2 {v : Nat} (h : ¬ v < 0x80) (h2 : v < 0x800) : utf8 v = [UInt8.ofNat (0xC0 + v / 64), UInt8.ofNat (0x80 + v % 64)] := by
  unfold utf8; rw [if_neg h, if_pos h2]; rfl
theorem utf8_3 {v : Nat} (h : ¬ v < 0x80) (h2 : ¬ v < 0x800) (h3 : v < 0x10000) : utf8 v = [UInt8.ofNat (0xE0 + v / 4096), UInt8.ofNat (0x80 + v / 64 % 64), UInt8.ofNat (0x80 + v % 64)] := by
  unfold utf8; rw [if_neg h, if_neg h2, if_pos h3]; rfl
theorem utf8_4 {v : Nat} (h : ¬ v < 0x80) (h2 : ¬ v < 0x800) (h3 : ¬ v < 0x10000) : utf8 v = [UInt8.ofNat (0xF0 + v / 262144), UInt8.ofNat (0x80 + v / 4096 % 64), UInt8.ofNat (0x80 + v / 64 % 64), UInt8.ofNat (0x80 + v % 64)] := by
  unfold utf8; rw [if_neg h, if_neg h2, if_neg h3]; rfl

/-- the specification's test of n bytes -/
def tst (n : Nat) (b : Bytes) : Bool := decide (n ≤ b.length) && (isChar (valueOf n b) && utf8 (valueOf n b) == b.take n)

theorem tst1 (x : UInt8) (r : Bytes) : tst 1 (x :: r) = true ↔ x.toNat < 0x80 := by
  have hx := u8_lt x
  have hv : valueOf 1 (x :: r) = x.toNat := rfl
  unfold tst
  rw [hv]
  simp only [Bool.and_eq_true, decide_eq_true_eq, beq_iff_eq, isChar_iff, List.length_cons, List.take_succ_cons, List.take_zero]
  constructor
  · rintro ⟨-, -, h⟩
    by_cases c : x.toNat < 0x80
    · exact c
    · rw [utf8_2 c (by omega)] at h
      simp at h
  · intro c
    refine ⟨by omega, by omega, ?_⟩
    rw [utf8_1 c, UInt8.ofNat_toNat]

theorem tst2 (x y : UInt8) (r : Bytes) : tst 2 (x :: y :: r) = true ↔ (0xC0 ≤ x.toNat ∧ x.toNat < 0xE0 ∧ 0x80 ≤ y.toNat ∧ y.toNat < 0xC0 ∧ 0x80 ≤ (x.toNat - 0xC0) * 64 + (y.toNat - 0x80)) := by
  have hx := u8_lt x
  have hy := u8_lt y
  have hv : valueOf 2 (x :: y :: r) = (x.toNat - 0xC0) * 64 + (y.toNat - 0x80) := rfl
  unfold tst
  rw [hv]
  generalize hw : (x.toNat - 0xC0) * 64 + (y.toNat - 0x80) = v
  simp only [Bool.and_eq_true, decide_eq_true_eq, beq_iff_eq, isChar_iff, List.length_cons, List.take_succ_cons, List.take_zero]
  constructor
  · rintro ⟨-, -, h⟩
    by_cases c : v < 0x80
    · rw [utf8_1 c] at h; simp at h
    · by_cases c2 : v < 0x800
      · rw [utf8_2 c c2] at h
        injection h with h1 h2
        injection h2 with h2 h3
        rw [u8_of (by omega)] at h1 h2
        omega
      · by_cases c3 : v < 0x10000
        · rw [utf8_3 c c2 c3] at h; simp at h
        · rw [utf8_4 c c2 c3] at h; simp at h
  · rintro ⟨h1, h2, h3, h4, h5⟩
    refine ⟨by omega, by omega, ?_⟩
    rw [utf8_2 (by omega) (by omega)]
    have e1 : UInt8.ofNat (0xC0 + v / 64) = x := (u8_of (by omega)).mpr (by omega)
    have e2 : UInt8.ofNat (0x80 + v % 64) = y := (u8_of (by omega)).mpr (by omega)
    rw [e1, e2]

theorem tst3 (x y z : UInt8) (r : Bytes) : tst 3 (x :: y :: z :: r) = true ↔ (0xE0 ≤ x.toNat ∧ x.toNat < 0xF0 ∧ 0x80 ≤ y.toNat ∧ y.toNat < 0xC0 ∧ 0x80 ≤ z.toNat ∧ z.toNat < 0xC0 ∧
    0x800 ≤ valueOf 3 (x :: y :: z :: r) ∧ isChar (valueOf 3 (x :: y :: z :: r)) = true) := by
  have hx := u8_lt x
  have hy := u8_lt y
  have hz := u8_lt z
  have hv : valueOf 3 (x :: y :: z :: r) = (x.toNat - 0xE0) * 4096 + (y.toNat - 0x80) * 64 + (z.toNat - 0x80) := rfl
  unfold tst
  rw [hv]
  generalize hw : (x.toNat - 0xE0) * 4096 + (y.toNat - 0x80) * 64 + (z.toNat - 0x80) = v
  simp only [Bool.and_eq_true, decide_eq_true_eq, beq_iff_eq, List.length_cons, List.take_succ_cons, List.take_zero]
  constructor
  · rintro ⟨-, h0, h⟩
    have h0' := (isChar_iff v).mp h0
    by_cases c : v < 0x80
    · rw [utf8_1 c] at h; simp at h
    · by_cases c2 : v < 0x800
      · rw [utf8_2 c c2] at h; simp at h
      · by_cases c3 : v < 0x10000
        · rw [utf8_3 c c2 c3] at h
          injection h with h1 h2
          injection h2 with h2 h3
          injection h3 with h3 h4
          rw [u8_of (by omega)] at h1 h2 h3
          refine ⟨by omega, by omega, by omega, by omega, by omega, by omega, by omega, h0⟩
        · rw [utf8_4 c c2 c3] at h; simp at h
  · rintro ⟨h1, h2, h3, h4, h5, h6, h7, h8⟩
    refine ⟨by omega, h8, ?_⟩
    rw [utf8_3 (by omega) (by omega) (by omega)]
    have e1 : UInt8.ofNat (0xE0 + v / 4096) = x := (u8_of (by omega)).mpr (by omega)
    have e2 : UInt8.ofNat (0x80 + v / 64 % 64) = y := (u8_of (by omega)).mpr (by omega)
    have e3 : UInt8.ofNat (0x80 + v % 64) = z := (u8_of (by omega)).mpr (by omega)
    rw [e1, e2, e3]

theorem tst4 (x y z q : UInt8) (r : Bytes) : tst 4 (x :: y :: z :: q :: r) = true ↔ (0xF0 ≤ x.toNat ∧ x.toNat < 0xF8 ∧ 0x80 ≤ y.toNat ∧ y.toNat < 0xC0 ∧ 0x80 ≤ z.toNat ∧ z.toNat < 0xC0 ∧ 0x80 ≤ q.toNat ∧ q.toNat < 0xC0 ∧
    0x10000 ≤ valueOf 4 (x :: y :: z :: q :: r) ∧ isChar (valueOf 4 (x :: y :: z :: q :: r)) = true) := by
  have hx := u8_lt x
  have hy := u8_lt y
  have hz := u8_lt z
  have hq := u8_lt q
  have hv : valueOf 4 (x :: y :: z :: q :: r) = (x.toNat - 0xF0) * 262144 + (y.toNat - 0x80) * 4096 + (z.toNat - 0x80) * 64 + (q.toNat - 0x80) := rfl
  unfold tst
  rw [hv]
  generalize hw : (x.toNat - 0xF0) * 262144 + (y.toNat - 0x80) * 4096 + (z.toNat - 0x80) * 64 + (q.toNat - 0x80) = v
  simp only [Bool.and_eq_true, decide_eq_true_eq, beq_iff_eq, List.length_cons, List.take_succ_cons, List.take_zero]
  constructor
  · rintro ⟨-, h0, h⟩
    have h0' := (isChar_iff v).mp h0
    by_cases c : v < 0x80
    · rw [utf8_1 c] at h; simp at h
    · by_cases c2 : v < 0x800
      · rw [utf8_2 c c2] at h; simp at h
      · by_cases c3 : v < 0x10000
        · rw [utf8_3 c c2 c3] at h; simp at h
        · rw [utf8_4 c c2 c3] at h
          injection h with h1 h2
          injection h2 with h2 h3
          injection h3 with h3 h4
          injection h4 with h4 h5
          rw [u8_of (by omega)] at h1 h2 h3 h4
          refine ⟨by omega, by omega, by omega, by omega, by omega, by omega, by omega, by omega, by omega, h0⟩
  · rintro ⟨h1, h2, h3, h4, h5, h6, h7, h8, h9, h10⟩
    have h0' := (isChar_iff v).mp h10
    refine ⟨by omega, h10, ?_⟩
    rw [utf8_4 (by omega) (by omega) (by omega)]
    have e1 : UInt8.ofNat (0xF0 + v / 262144) = x := (u8_of (by omega)).mpr (by omega)
    have e2 : UInt8.ofNat (0x80 + v / 4096 % 64) = y := (u8_of (by omega)).mpr (by omega)
    have e3 : UInt8.ofNat (0x80 + v / 64 % 64) = z := (u8_of (by omega)).mpr (by omega)
    have e4 : UInt8.ofNat (0x80 + v % 64) = q := (u8_of (by omega)).mpr (by omega)
    rw [e1, e2, e3, e4]
end SpA
set_option linter.all false
namespace SpA
open Sy

theorem formSize_1 {x : Nat} : formSize x = 1 ↔ x < 0x80 := by unfold formSize; split <;> (try split) <;> (try split) <;> (try split) <;> omega
theorem formSize_2 {x : Nat} : formSize x = 2 ↔ 0xC0 ≤ x ∧ x < 0xE0 := by unfold formSize; split <;> (try split) <;> (try split) <;> (try split) <;> omega
theorem formSize_3 {x : Nat} : formSize x = 3 ↔ 0xE0 ≤ x ∧ x < 0xF0 := by unfold formSize; split <;> (try split) <;> (try split) <;> (try split) <;> omega
theorem formSize_4 {x : Nat} : formSize x = 4 ↔ 0xF0 ≤ x ∧ x < 0xF8 := by unfold formSize; split <;> (try split) <;> (try split) <;> (try split) <;> omega
theorem formSize_le (x : Nat) : formSize x ≤ 4 := by unfold formSize; split <;> (try split) <;> (try split) <;> (try split) <;> omega

theorem fv_some {x : Nat} {r : List Nat} {v : Nat} : formValue (x :: r) = some v ↔
    (r.length + 1 = formSize x ∧ r.foldl addOctet (some (x - leadOf (r.length + 1))) = some v ∧ leastOf (r.length + 1) ≤ v ∧ isChar v = true) := by
  unfold formValue
  simp only [List.length_cons]
  by_cases c : r.length + 1 = formSize x
  · rw [if_pos c]
    cases e : r.foldl addOctet (some (x - leadOf (r.length + 1))) with
    | none => simp
    | some w =>
      simp only
      by_cases d : leastOf (r.length + 1) ≤ w ∧ isChar w = true
      · rw [if_pos d]
        constructor
        · intro h
          have h := Option.some.inj h
          subst h
          exact ⟨c, rfl, d⟩
        · rintro ⟨-, h, -⟩
          exact h
      · rw [if_neg d]
        constructor
        · intro h; cases h
        · rintro ⟨-, h, h2⟩
          have h := Option.some.inj h
          subst h
          exact absurd h2 d
  · rw [if_neg c]
    constructor
    · intro h; cases h
    · rintro ⟨h, -⟩; exact absurd h c
theorem add_some {a : Option Nat} {c v : Nat} : addOctet a c = some v ↔ ∃ w, a = some w ∧ 0x80 ≤ c ∧ c < 0xC0 ∧ v = w * 64 + (c - 0x80) := by
  unfold addOctet
  cases a with
  | none => simp
  | some w =>
    simp only
    by_cases d : 0x80 ≤ c ∧ c < 0xC0
    · rw [if_pos d]
      constructor
      · intro h
        exact ⟨w, rfl, d.1, d.2, (Option.some.inj h).symm⟩
      · rintro ⟨w', h, -, -, h2⟩
        have h := Option.some.inj h
        subst h
        rw [h2]
    · rw [if_neg d]
      constructor
      · intro h; cases h
      · rintro ⟨_, -, h1, h2, -⟩; exact absurd ⟨h1, h2⟩ d

theorem lead2 : leadOf (0 + 1 + 1) = 0xC0 := rfl
theorem lead3 : leadOf (0 + 1 + 1 + 1) = 0xE0 := rfl
theorem lead4 : leadOf (0 + 1 + 1 + 1 + 1) = 0xF0 := rfl
theorem least2 : leastOf (0 + 1 + 1) = 0x80 := rfl
theorem least3 : leastOf (0 + 1 + 1 + 1) = 0x800 := rfl
theorem least4 : leastOf (0 + 1 + 1 + 1 + 1) = 0x10000 := rfl
theorem charOf_eq (b : Bytes) : charOf b = ([1, 2, 3, 4].find? fun n => tst n b).map fun n => (valueOf n b, b.drop n) := rfl

theorem tst_len {n : Nat} {b : Bytes} (h : tst n b = true) : n ≤ b.length := by
  unfold tst at h
  rw [Bool.and_eq_true, decide_eq_true_eq] at h
  exact h.1
theorem bfalse {b : Bool} {p : Prop} (h : b = true ↔ p) (n : ¬ p) : b = false := by
  cases b with
  | false => rfl
  | true => exact absurd (h.mp rfl) n

theorem tst1' {x : UInt8} {r : Bytes} (h : tst 1 (x :: r) = true) : formSize x.toNat = 1 := formSize_1.mpr ((tst1 x r).mp h)
theorem tst2' {x : UInt8} {r : Bytes} (h : tst 2 (x :: r) = true) : formSize x.toNat = 2 := by
  have hl := tst_len h
  cases r with
  | nil => simp at hl
  | cons y r =>
    have := (tst2 x y r).mp h
    exact formSize_2.mpr ⟨this.1, this.2.1⟩
theorem tst3' {x : UInt8} {r : Bytes} (h : tst 3 (x :: r) = true) : formSize x.toNat = 3 := by
  have hl := tst_len h
  cases r with
  | nil => simp at hl
  | cons y r =>
    cases r with
    | nil => simp at hl
    | cons z r =>
      have := (tst3 x y z r).mp h
      exact formSize_3.mpr ⟨this.1, this.2.1⟩
theorem tst4' {x : UInt8} {r : Bytes} (h : tst 4 (x :: r) = true) : formSize x.toNat = 4 := by
  have hl := tst_len h
  cases r with
  | nil => simp at hl
  | cons y r =>
    cases r with
    | nil => simp at hl
    | cons z r =>
      cases r with
      | nil => simp at hl
      | cons q r =>
        have := (tst4 x y z q r).mp h
        exact formSize_4.mpr ⟨this.1, this.2.1⟩
/-- the only n that the test can take is the first byte's -/
theorem find_tst (x : UInt8) (r : Bytes) : ([1, 2, 3, 4].find? fun n => tst n (x :: r)) = if 0 < formSize x.toNat ∧ tst (formSize x.toNat) (x :: r) = true then some (formSize x.toNat) else none := by
  have h4 := formSize_le x.toNat
  simp only [List.find?_cons, List.find?_nil]
  cases e1 : tst 1 (x :: r) with
  | true => rw [tst1' e1, if_pos ⟨by omega, e1⟩]
  | false =>
    cases e2 : tst 2 (x :: r) with
    | true => rw [tst2' e2, if_pos ⟨by omega, e2⟩]
    | false =>
      cases e3 : tst 3 (x :: r) with
      | true => rw [tst3' e3, if_pos ⟨by omega, e3⟩]
      | false =>
        cases e4 : tst 4 (x :: r) with
        | true => rw [tst4' e4, if_pos ⟨by omega, e4⟩]
        | false =>
          rw [if_neg]
          rintro ⟨h0, ht⟩
          generalize formSize x.toNat = k at *
          have : k = 1 ∨ k = 2 ∨ k = 3 ∨ k = 4 := by omega
          rcases this with rfl | rfl | rfl | rfl
          · rw [e1] at ht; cases ht
          · rw [e2] at ht; cases ht
          · rw [e3] at ht; cases ht
          · rw [e4] at ht; cases ht

/-- the program's reading of one form, and the test -/
theorem form_tst (x : UInt8) (r : Bytes) (v : Nat) : formValue ((vals (x :: r)).take (formSize x.toNat)) = some v ↔
    (0 < formSize x.toNat ∧ tst (formSize x.toNat) (x :: r) = true ∧ v = valueOf (formSize x.toNat) (x :: r)) := by
  have hx := u8_lt x
  have h4 := formSize_le x.toNat
  have hk : formSize x.toNat = 0 ∨ formSize x.toNat = 1 ∨ formSize x.toNat = 2 ∨ formSize x.toNat = 3 ∨ formSize x.toNat = 4 := by omega
  rcases hk with k | k | k | k | k <;> rw [k]
  · simp [formValue]
  · have hx1 := formSize_1.mp k
    show formValue [x.toNat] = some v ↔ _
    rw [fv_some, tst1]
    have hv : valueOf 1 (x :: r) = x.toNat := rfl
    rw [hv]
    simp only [List.length_nil, Nat.zero_add, k, List.foldl_nil, leadOf, leastOf, if_true, Nat.sub_zero, Nat.zero_le, true_and, Option.some.injEq, isChar_iff]
    constructor
    · rintro ⟨rfl, h⟩; exact ⟨by omega, hx1, rfl⟩
    · rintro ⟨-, -, rfl⟩; exact ⟨rfl, by omega⟩
  · have hx1 := formSize_2.mp k
    match r with
    | [] =>
      constructor
      · intro h
        have : formValue [x.toNat] = some v := h
        have := (fv_some.mp this).1
        rw [k] at this
        simp at this
      · rintro ⟨-, h, -⟩
        have := tst_len h
        simp at this
    | y :: r =>
      have hy := u8_lt y
      show formValue [x.toNat, y.toNat] = some v ↔ _
      rw [fv_some, tst2]
      have hv : valueOf 2 (x :: y :: r) = (x.toNat - 0xC0) * 64 + (y.toNat - 0x80) := rfl
      rw [hv]
      simp only [List.length_cons, List.length_nil, k, List.foldl_cons, List.foldl_nil, lead2, lead3, lead4, least2, least3, least4, isChar_iff, add_some, Option.some.injEq]
      constructor
      · rintro ⟨-, ⟨w, h1, h2, h3, h5⟩, h6, h7⟩
        subst h1
        refine ⟨by omega, ⟨by omega, by omega, by omega, by omega, by omega⟩, by omega⟩
      · rintro ⟨-, ⟨h1, h2, h3, h5, h6⟩, h7⟩
        refine ⟨trivial, ⟨_, rfl, by omega, by omega, ?_⟩, ?_, ?_⟩
        · omega
        · omega
        · omega
  · have hx1 := formSize_3.mp k
    match r with
    | [] =>
      constructor
      · intro h
        have : formValue [x.toNat] = some v := h
        have := (fv_some.mp this).1
        rw [k] at this
        simp at this
      · rintro ⟨-, h, -⟩
        have := tst_len h
        simp at this
    | [y] =>
      constructor
      · intro h
        have : formValue [x.toNat, y.toNat] = some v := h
        have := (fv_some.mp this).1
        rw [k] at this
        simp at this
      · rintro ⟨-, h, -⟩
        have := tst_len h
        simp at this
    | y :: z :: r =>
      have hy := u8_lt y
      have hz := u8_lt z
      show formValue [x.toNat, y.toNat, z.toNat] = some v ↔ _
      rw [fv_some, tst3]
      have hv : valueOf 3 (x :: y :: z :: r) = (x.toNat - 0xE0) * 4096 + (y.toNat - 0x80) * 64 + (z.toNat - 0x80) := rfl
      rw [hv]
      simp only [List.length_cons, List.length_nil, k, List.foldl_cons, List.foldl_nil, lead2, lead3, lead4, least2, least3, least4, isChar_iff, add_some, Option.some.injEq]
      constructor
      · rintro ⟨-, ⟨w, ⟨u, h1, h2, h3, h5⟩, g2, g3, g4⟩, h6, h7⟩
        subst h1
        refine ⟨by omega, ⟨by omega, by omega, by omega, by omega, by omega, by omega, by omega, by omega⟩, by omega⟩
      · rintro ⟨-, ⟨h1, h2, h3, h5, h6, h7, h8, h9⟩, h10⟩
        refine ⟨trivial, ⟨_, ⟨_, rfl, by omega, by omega, rfl⟩, by omega, by omega, ?_⟩, ?_, ?_⟩
        · omega
        · omega
        · omega
  · have hx1 := formSize_4.mp k
    match r with
    | [] =>
      constructor
      · intro h
        have : formValue [x.toNat] = some v := h
        have := (fv_some.mp this).1
        rw [k] at this
        simp at this
      · rintro ⟨-, h, -⟩
        have := tst_len h
        simp at this
    | [y] =>
      constructor
      · intro h
        have : formValue [x.toNat, y.toNat] = some v := h
        have := (fv_some.mp this).1
        rw [k] at this
        simp at this
      · rintro ⟨-, h, -⟩
        have := tst_len h
        simp at this
    | [y, z] =>
      constructor
      · intro h
        have : formValue [x.toNat, y.toNat, z.toNat] = some v := h
        have := (fv_some.mp this).1
        rw [k] at this
        simp at this
      · rintro ⟨-, h, -⟩
        have := tst_len h
        simp at this
    | y :: z :: q :: r =>
      have hy := u8_lt y
      have hz := u8_lt z
      have hq := u8_lt q
      show formValue [x.toNat, y.toNat, z.toNat, q.toNat] = some v ↔ _
      rw [fv_some, tst4]
      have hv : valueOf 4 (x :: y :: z :: q :: r) = (x.toNat - 0xF0) * 262144 + (y.toNat - 0x80) * 4096 + (z.toNat - 0x80) * 64 + (q.toNat - 0x80) := rfl
      rw [hv]
      simp only [List.length_cons, List.length_nil, k, List.foldl_cons, List.foldl_nil, lead2, lead3, lead4, least2, least3, least4, isChar_iff, add_some, Option.some.injEq]
      constructor
      · rintro ⟨-, ⟨w, ⟨u, ⟨t, h1, h2, h3, h5⟩, g2, g3, g4⟩, f2, f3, f4⟩, h6, h7⟩
        subst h1
        refine ⟨by omega, ⟨by omega, by omega, by omega, by omega, by omega, by omega, by omega, by omega, by omega, by omega⟩, by omega⟩
      · rintro ⟨-, ⟨h1, h2, h3, h5, h6, h7, h8, h9, h10, h11⟩, h12⟩
        refine ⟨trivial, ⟨_, ⟨_, ⟨_, rfl, by omega, by omega, rfl⟩, by omega, by omega, rfl⟩, by omega, by omega, ?_⟩, ?_, ?_⟩
        · omega
        · omega
        · omega

theorem charOf_form (x : UInt8) (r : Bytes) : charOf (x :: r) = (formValue ((vals (x :: r)).take (formSize x.toNat))).map fun v => (v, (x :: r).drop (formSize x.toNat)) := by
  rw [charOf_eq, find_tst]
  cases e : formValue ((vals (x :: r)).take (formSize x.toNat)) with
  | none =>
    rw [if_neg]
    · rfl
    · rintro ⟨h0, h1⟩
      have := (form_tst x r (valueOf (formSize x.toNat) (x :: r))).mpr ⟨h0, h1, rfl⟩
      rw [e] at this
      cases this
  | some v =>
    obtain ⟨h0, h1, h2⟩ := (form_tst x r v).mp e
    rw [if_pos ⟨h0, h1⟩]
    simp only [Option.map_some]
    rw [h2]
theorem charsFrom_dec : ∀ (n : Nat) (b : Bytes), charsFrom n b = decFrom n (vals b)
  | 0, [] => rfl
  | 0, _ :: _ => rfl
  | _ + 1, [] => rfl
  | n + 1, x :: r => by
    have h := charOf_form x r
    show (match charOf (x :: r) with
      | some (c, r) => (charsFrom n r).map fun (t : Text) => c :: t
      | none => none) = (match formValue ((vals (x :: r)).take (formSize x.toNat)) with
      | none => none
      | some v => (decFrom n ((vals (x :: r)).drop (formSize x.toNat))).map (v :: ·))
    rw [h]
    cases e : formValue ((vals (x :: r)).take (formSize x.toNat)) with
    | none => rfl
    | some v =>
      show (charsFrom n ((x :: r).drop (formSize x.toNat))).map (fun t => v :: t) = _
      rw [charsFrom_dec n]
      simp only [vals, List.map_drop]
theorem chars_dec (b : Bytes) : chars b = decoded (vals b) := by
  unfold chars decoded
  rw [charsFrom_dec]
  simp [vals]
theorem formValue_char {l : List Nat} {v : Nat} (h : formValue l = some v) : isChar v = true := by
  cases l with
  | nil => cases h
  | cons x r => exact (fv_some.mp h).2.2.2
theorem decFrom_char : ∀ {n : Nat} {l t : List Nat}, decFrom n l = some t → ∀ c ∈ t, isChar c = true
  | 0, [], t, h => by
    have h := Option.some.inj h
    subst h
    simp
  | _ + 1, [], t, h => by
    have h := Option.some.inj h
    subst h
    simp
  | 0, _ :: _, t, h => by cases h
  | n + 1, x :: r, t, h => by
    unfold decFrom at h
    cases e : formValue ((x :: r).take (formSize x)) with
    | none => rw [e] at h; cases h
    | some v =>
      rw [e] at h
      simp only at h
      cases e2 : decFrom n ((x :: r).drop (formSize x)) with
      | none => rw [e2] at h; cases h
      | some u =>
        rw [e2] at h
        have h := Option.some.inj h
        subst h
        intro c hc
        rcases List.mem_cons.mp hc with rfl | hc
        · exact formValue_char e
        · exact decFrom_char e2 c hc
end SpA
set_option linter.all false
namespace SpA
open Sy

/-! ### bytes of a character -/
def formOf (v : Nat) : List Nat :=
  if v < 0x80 then [v] else if v < 0x800 then [0xC0 + v / 64, 0x80 + v % 64] else if v < 0x10000 then [0xE0 + v / 4096, 0x80 + v / 64 % 64, 0x80 + v % 64]
  else [0xF0 + v / 262144, 0x80 + v / 4096 % 64, 0x80 + v / 64 % 64, 0x80 + v % 64]
theorem u8_nat {a : Nat} (h : a < 256) : (UInt8.ofNat a).toNat = a := by
  rw [UInt8.toNat_ofNat']
  omega
theorem utf8_form {v : Nat} (h : v < 0x110000) : vals (utf8 v) = formOf v := by
  unfold formOf
  by_cases c : v < 0x80
  · rw [utf8_1 c, if_pos c]
    show [(UInt8.ofNat v).toNat] = _
    rw [u8_nat (by omega)]
  · by_cases c2 : v < 0x800
    · rw [utf8_2 c c2, if_neg c, if_pos c2]
      show [(UInt8.ofNat (0xC0 + v / 64)).toNat, (UInt8.ofNat (0x80 + v % 64)).toNat] = _
      rw [u8_nat (by omega), u8_nat (by omega)]
    · by_cases c3 : v < 0x10000
      · rw [utf8_3 c c2 c3, if_neg c, if_neg c2, if_pos c3]
        show [(UInt8.ofNat (0xE0 + v / 4096)).toNat, (UInt8.ofNat (0x80 + v / 64 % 64)).toNat, (UInt8.ofNat (0x80 + v % 64)).toNat] = _
        rw [u8_nat (by omega), u8_nat (by omega), u8_nat (by omega)]
      · rw [utf8_4 c c2 c3, if_neg c, if_neg c2, if_neg c3]
        show [(UInt8.ofNat (0xF0 + v / 262144)).toNat, (UInt8.ofNat (0x80 + v / 4096 % 64)).toNat, (UInt8.ofNat (0x80 + v / 64 % 64)).toNat, (UInt8.ofNat (0x80 + v % 64)).toNat] = _
        rw [u8_nat (by omega), u8_nat (by omega), u8_nat (by omega), u8_nat (by omega)]
def encoded (t : List Nat) : List Nat := t.flatMap formOf
theorem utf8s_enc {t : Text} (h : ∀ c ∈ t, c < 0x110000) : vals (utf8s t) = encoded t := by
  unfold utf8s encoded vals
  rw [List.map_flatMap]
  induction t with
  | nil => rfl
  | cons a r ih =>
    rw [List.flatMap_cons, List.flatMap_cons, ih fun c hc => h c (List.mem_cons_of_mem _ hc)]
    have := utf8_form (h a List.mem_cons_self)
    unfold vals at this
    rw [this]

/-! ### parts between marks -/
def parted (m : Nat) (t : List Nat) : List (List Nat) := t.foldr (fun c l => if c = m then [] :: l else match l with
  | p :: r => (c :: p) :: r
  | [] => [[c]]) [[]]
theorem partsOf_parted (t : Text) : partsOf t = parted 0x20 t := rfl
/-- the last part grown by one -/
def lastPush (c : Nat) : List (List Nat) → List (List Nat)
  | [] => []
  | [p] => [p ++ [c]]
  | p :: q :: r => p :: lastPush c (q :: r)
theorem parted_nil (m : Nat) : parted m [] = [[]] := rfl
theorem parted_cons (m c : Nat) (t : List Nat) : parted m (c :: t) = if c = m then [] :: parted m t else match parted m t with
  | p :: r => (c :: p) :: r
  | [] => [[c]] := rfl
theorem parted_ne (m : Nat) : ∀ t : List Nat, parted m t ≠ []
  | [] => by simp [parted_nil]
  | c :: t => by
    rw [parted_cons]
    split
    · simp
    · split <;> simp
theorem parted_snoc (m x : Nat) : ∀ t : List Nat, parted m (t ++ [x]) = if x = m then parted m t ++ [[]] else lastPush x (parted m t)
  | [] => by
    show parted m [x] = _
    rw [parted_cons, parted_nil]
    by_cases h : x = m
    · rw [if_pos h, if_pos h]; rfl
    · rw [if_neg h, if_neg h]; rfl
  | c :: t => by
    have ih := parted_snoc m x t
    show parted m (c :: (t ++ [x])) = _
    rw [parted_cons, ih, parted_cons]
    have hne := parted_ne m t
    by_cases h : x = m
    · rw [if_pos h, if_pos h]
      by_cases d : c = m
      · rw [if_pos d, if_pos d]; rfl
      · rw [if_neg d, if_neg d]
        cases e : parted m t with
        | nil => exact absurd e hne
        | cons p r => rfl
    · rw [if_neg h, if_neg h]
      by_cases d : c = m
      · rw [if_pos d, if_pos d]
        cases e : parted m t with
        | nil => exact absurd e hne
        | cons p r => rfl
      · rw [if_neg d, if_neg d]
        cases e : parted m t with
        | nil => exact absurd e hne
        | cons p r =>
          cases r with
          | nil => rfl
          | cons q r => rfl
theorem lastPush_eq (c : Nat) : ∀ (l : List (List Nat)) (p : List Nat), lastPush c (l ++ [p]) = l ++ [p ++ [c]]
  | [], p => rfl
  | a :: l, p => by
    have ih := lastPush_eq c l p
    cases l with
    | nil => rfl
    | cons b l =>
      show a :: lastPush c (b :: l ++ [p]) = _
      rw [ih]; rfl
/-- a mark in the middle -/
theorem parted_mid (m : Nat) : ∀ (l r : List Nat), m ∉ l → parted m (l ++ m :: r) = l :: parted m r
  | [], r, _ => by
    show parted m (m :: r) = _
    rw [parted_cons, if_pos rfl]
  | c :: l, r, h => by
    show parted m (c :: (l ++ m :: r)) = _
    rw [parted_cons, if_neg (fun e => h (by rw [e]; exact List.mem_cons_self)), parted_mid m l r (fun q => h (List.mem_cons_of_mem _ q))]
theorem parted_none (m : Nat) : ∀ (l : List Nat), m ∉ l → parted m l = [l]
  | [], _ => rfl
  | c :: l, h => by
    rw [parted_cons, if_neg (fun e => h (by rw [e]; exact List.mem_cons_self)), parted_none m l (fun q => h (List.mem_cons_of_mem _ q))]

/-! ### a line as a rule -/
def partsOfLine (line : List Nat) : List (List Nat) := match decoded line with
  | none => []
  | some t => parted 0x20 t
def writtenSounds (l : List Nat) : Bool := l.all fun c => decide (0x20 < c) && !decide (c = 0x7F)
def isRuleLine (parts : List (List Nat)) : Bool :=
  if ¬ (parts.length = 2 ∨ parts.length = 3) ∨ [] ∈ parts then false
  else if isLetters (parts.getD 0 []) = false ∨ writtenSounds (parts.getD 1 []) = false then false
  else decide (parts.length = 2) || isLetters (parts.getD 2 [])
def ruleOfParts (parts : List (List Nat)) : Rule := ⟨parts.getD 0 [], parts.getD 1 [], if parts.length = 3 then parts.getD 2 [] else []⟩

theorem parted_mem (m : Nat) : ∀ (t : List Nat) (p : List Nat), p ∈ parted m t → ∀ c ∈ p, c ∈ t
  | [], p, h, c, hc => by
    rw [parted_nil] at h
    have := List.mem_singleton.mp h
    subst this
    exact hc
  | a :: t, p, h, c, hc => by
    have ih := parted_mem m t
    rw [parted_cons] at h
    by_cases d : a = m
    · rw [if_pos d] at h
      rcases List.mem_cons.mp h with e | h
      · subst e; cases hc
      · exact List.mem_cons_of_mem _ (ih p h c hc)
    · rw [if_neg d] at h
      cases e : parted m t with
      | nil => exact absurd e (parted_ne m t)
      | cons q r =>
        rw [e] at h ih
        rcases List.mem_cons.mp h with e2 | h
        · subst e2
          rcases List.mem_cons.mp hc with rfl | hc
          · exact List.mem_cons_self
          · exact List.mem_cons_of_mem _ (ih q List.mem_cons_self c hc)
        · exact List.mem_cons_of_mem _ (ih p (List.mem_cons_of_mem _ h) c hc)
theorem plain_written {l : List Nat} (h : ∀ c ∈ l, isChar c = true) : l.all isPlain = writtenSounds l := by
  unfold writtenSounds
  induction l with
  | nil => rfl
  | cons a r ih =>
    rw [List.all_cons, List.all_cons, ih fun c hc => h c (List.mem_cons_of_mem _ hc)]
    unfold isPlain
    rw [h a List.mem_cons_self, Bool.true_and]
    congr 1
theorem decoded_char {l t : List Nat} (h : decoded l = some t) : ∀ c ∈ t, isChar c = true := decFrom_char h
theorem letters_append (l k : List Nat) : isLetters (l ++ k) = (isLetters l && isLetters k) := List.all_append
theorem isEmpty_ne {l : List Nat} : (!l.isEmpty) = true ↔ l ≠ [] := by cases l <;> simp
theorem ruleOf_line (b : Bytes) : ruleOf b = if isRuleLine (partsOfLine (vals b)) = true then some (ruleOfParts (partsOfLine (vals b))) else none := by
  unfold ruleOf partsOfLine
  rw [chars_dec]
  cases e : decoded (vals b) with
  | none => rfl
  | some t =>
    have hc := decoded_char e
    show (match some (partsOf t) with
      | some [l, s] => if !l.isEmpty ∧ !s.isEmpty ∧ isLetters l = true ∧ s.all isPlain = true then some (⟨l, s, []⟩ : Rule) else none
      | some [l, s, k] => if !l.isEmpty ∧ !s.isEmpty ∧ !k.isEmpty ∧ isLetters (l ++ k) = true ∧ s.all isPlain = true then some ⟨l, s, k⟩ else none
      | _ => none) = if isRuleLine (parted 0x20 t) = true then some (ruleOfParts (parted 0x20 t)) else none
    rw [partsOf_parted]
    have hp := parted_mem 0x20 t
    generalize parted 0x20 t = ps at hp ⊢
    match ps with
    | [] => rfl
    | [a] => rfl
    | [l, s] =>
      have hs : s.all isPlain = writtenSounds s := plain_written fun c q => hc c (hp s (by simp) c q)
      show (if !l.isEmpty ∧ !s.isEmpty ∧ isLetters l = true ∧ s.all isPlain = true then some (⟨l, s, []⟩ : Rule) else none) = _
      rw [hs]
      simp only [isEmpty_ne]
      by_cases c1 : l = []
      · subst c1; rfl
      by_cases c2 : s = []
      · subst c2; simp [isRuleLine]
      unfold isRuleLine ruleOfParts
      cases hl : isLetters l <;> cases hw : writtenSounds s <;> simp [c1, c2, hl, hw, Ne.symm c1, Ne.symm c2, fun h => c1 (Eq.symm h), fun h => c2 (Eq.symm h)]
    | [l, s, k] =>
      have hs : s.all isPlain = writtenSounds s := plain_written fun c q => hc c (hp s (by simp) c q)
      show (if !l.isEmpty ∧ !s.isEmpty ∧ !k.isEmpty ∧ isLetters (l ++ k) = true ∧ s.all isPlain = true then some (⟨l, s, k⟩ : Rule) else none) = _
      rw [hs, letters_append]
      simp only [isEmpty_ne]
      by_cases c1 : l = []
      · subst c1; simp [isRuleLine]
      by_cases c2 : s = []
      · subst c2; simp [isRuleLine]
      by_cases c3 : k = []
      · subst c3; simp [isRuleLine]
      unfold isRuleLine ruleOfParts
      cases hl : isLetters l <;> cases hw : writtenSounds s <;> cases hk : isLetters k <;> simp [c1, c2, c3, hl, hw, hk, fun h => c1 (Eq.symm h), fun h => c2 (Eq.symm h), fun h => c3 (Eq.symm h)]
    | a :: b :: c :: d :: r =>
      have : isRuleLine (a :: b :: c :: d :: r) = false := by
        unfold isRuleLine
        rw [if_pos]
        left
        simp
      rw [this]
      rfl
end SpA
set_option linter.all false
namespace SpA
open Sy

def kindOf (ps : List (List Nat)) (T : List Rule) : Nat :=
  if isRuleLine ps = false then 1 else if (ruleOfParts ps).short = false then 2
  else if T.any (fun (q : Rule) => q.letters == (ruleOfParts ps).letters) = true then 3 else if 64 ≤ T.length then 4 else 0
def fill : Nat → List (List Nat) → List Rule → List Rule × Option (Nat × Nat)
  | _, [], T => (T, none)
  | i, l :: r, T => if kindOf (partsOfLine l) T = 0 then fill (i + 1) r (T ++ [ruleOfParts (partsOfLine l)]) else (T, some (i, kindOf (partsOfLine l) T))
def fillText (t : List Nat) : List Rule × Option (Nat × Nat) :=
  match fill 0 (parted 10 t).dropLast [] with
  | (T, some e) => (T, some e)
  | (T, none) => if (parted 10 t).getLastD [] = [] then (T, none) else (T, some ((parted 10 t).length - 1, 1))

/-- the table in the order of its letters -/
def sortT (T : List Rule) : Table := T.foldl (fun U r => putIn r U) []
theorem putIn_perm (r : Rule) : ∀ T : Table, (putIn r T).Perm (r :: T)
  | [] => .refl _
  | q :: T => by
    unfold putIn
    split
    · exact .refl _
    · exact ((putIn_perm r T).cons q).trans (List.Perm.swap r q T)
theorem foldl_putIn_perm : ∀ (T : List Rule) (U : Table), (T.foldl (fun U r => putIn r U) U).Perm (U ++ T)
  | [], U => by simp
  | r :: T, U => by
    rw [List.foldl_cons]
    refine (foldl_putIn_perm T (putIn r U)).trans ?_
    refine ((putIn_perm r U).append_right T).trans ?_
    exact (List.perm_middle (l₁ := U) (l₂ := T) (a := r)).symm
theorem sortT_perm (T : List Rule) : (sortT T).Perm T := foldl_putIn_perm T []
theorem sortT_any (T : List Rule) (p : Rule → Bool) : (sortT T).any p = T.any p := (sortT_perm T).any_eq
theorem sortT_snoc (T : List Rule) (r : Rule) : sortT (T ++ [r]) = putIn r (sortT T) := by
  unfold sortT
  rw [List.foldl_append]
  rfl

theorem split_at_mark : ∀ (b : Bytes), (0x0A : UInt8) ∈ b → ∃ l r, b = l ++ 0x0A :: r ∧ (0x0A : UInt8) ∉ l
  | [], h => by cases h
  | x :: b, h => by
    by_cases c : x = 0x0A
    · exact ⟨[], b, by rw [c]; rfl, by simp⟩
    · have h2 : (0x0A : UInt8) ∈ b := by
        rcases List.mem_cons.mp h with e | h
        · exact absurd e.symm c
        · exact h
      obtain ⟨l, r, e, n⟩ := split_at_mark b h2
      refine ⟨x :: l, r, by rw [e]; rfl, ?_⟩
      intro q
      rcases List.mem_cons.mp q with e2 | q
      · exact c e2.symm
      · exact n q
theorem take_mark {l r : Bytes} (h : (0x0A : UInt8) ∉ l) : (l ++ 0x0A :: r).takeWhile (fun (c : UInt8) => c != 0x0A) = l := by
  rw [List.takeWhile_append_of_pos]
  · simp
  · intro a ha
    simp only [bne_iff_ne, ne_eq]
    intro e
    subst e
    exact h ha
theorem take_none {b : Bytes} (h : (0x0A : UInt8) ∉ b) : b.takeWhile (fun (c : UInt8) => c != 0x0A) = b := by
  have := List.takeWhile_append_of_pos (p := fun (c : UInt8) => c != 0x0A) (l₁ := b) (l₂ := []) (by
    intro a ha
    simp only [bne_iff_ne, ne_eq]
    intro e
    subst e
    exact h ha)
  simpa using this
theorem vals_mark {b : Bytes} : 10 ∈ vals b ↔ (0x0A : UInt8) ∈ b := by
  unfold vals
  rw [List.mem_map]
  constructor
  · rintro ⟨x, hx, e⟩
    have : x = 0x0A := by
      have h := (u8_of (x := x) (by omega : 10 < 256)).mpr e.symm
      exact h.symm
    subst this
    exact hx
  · intro h
    exact ⟨_, h, rfl⟩

theorem kindOf_0 {ps : List (List Nat)} {T : List Rule} (h : kindOf ps T = 0) : isRuleLine ps = true ∧ (ruleOfParts ps).short = true ∧ T.any (fun (q : Rule) => q.letters == (ruleOfParts ps).letters) = false ∧ T.length < 64 := by
  unfold kindOf at h
  by_cases c1 : isRuleLine ps = false
  · rw [if_pos c1] at h; cases h
  rw [if_neg c1] at h
  by_cases c2 : (ruleOfParts ps).short = false
  · rw [if_pos c2] at h; cases h
  rw [if_neg c2] at h
  by_cases c3 : T.any (fun (q : Rule) => q.letters == (ruleOfParts ps).letters) = true
  · rw [if_pos c3] at h; cases h
  rw [if_neg c3] at h
  by_cases c4 : 64 ≤ T.length
  · rw [if_pos c4] at h; cases h
  exact ⟨by simpa using c1, by simpa using c2, by simpa using c3, by omega⟩

theorem read_fill : ∀ (n : Nat) (b : Bytes) (T : List Rule), b.length ≤ n → readFrom n T.length b (sortT T) =
    match fill T.length (parted 10 (vals b)).dropLast T with
    | (_, some e) => .error e
    | (T', none) => if (parted 10 (vals b)).getLastD [] = [] then .ok (sortT T') else .error (T.length + ((parted 10 (vals b)).length - 1), 1)
  | 0, [], T, _ => rfl
  | _ + 1, [], T, _ => rfl
  | 0, _ :: _, _, h => by simp at h
  | n + 1, x :: b', T, h => by
    generalize hb : x :: b' = b at h
    have unf : readFrom (n + 1) T.length b (sortT T) = (match b.drop (b.takeWhile fun (c : UInt8) => c != 0x0A).length, ruleOf (b.takeWhile fun (c : UInt8) => c != 0x0A) with
      | _ :: r, some x => if x.short = false then .error (T.length, 2) else if (sortT T).any (fun (q : Rule) => q.letters == x.letters) = true then .error (T.length, 3) else if RULES ≤ T.length then .error (T.length, 4) else readFrom n (T.length + 1) r (putIn x (sortT T))
      | _, _ => .error (T.length, 1)) := by
      subst hb
      rfl
    rw [unf]
    by_cases c : (0x0A : UInt8) ∈ b
    · obtain ⟨l, r, e, nl⟩ := split_at_mark b c
      have nl' : 10 ∉ vals l := fun q => nl (vals_mark.mp q)
      have ev : vals b = vals l ++ 10 :: vals r := by
        rw [e]
        unfold vals
        rw [List.map_append, List.map_cons]
        rfl
      have ep : parted 10 (vals b) = vals l :: parted 10 (vals r) := by rw [ev, parted_mid 10 _ _ nl']
      have hne := parted_ne 10 (vals r)
      have ed : (parted 10 (vals b)).dropLast = vals l :: (parted 10 (vals r)).dropLast := by
        rw [ep]
        cases q : parted 10 (vals r) with
        | nil => exact absurd q hne
        | cons p t => rfl
      have el : (parted 10 (vals b)).getLastD [] = (parted 10 (vals r)).getLastD [] := by
        rw [ep]
        cases q : parted 10 (vals r) with
        | nil => exact absurd q hne
        | cons p t => simp
      have eN : (parted 10 (vals b)).length - 1 = 1 + ((parted 10 (vals r)).length - 1) := by
        rw [ep, List.length_cons]
        have : 0 < (parted 10 (vals r)).length := List.length_pos_iff.mpr hne
        omega
      rw [el, eN, ed]
      have et : b.takeWhile (fun (c : UInt8) => c != 0x0A) = l := by rw [e]; exact take_mark nl
      have edr : b.drop l.length = 0x0A :: r := by
        rw [e]
        simp
      rw [et, edr, ruleOf_line]
      have ih := read_fill n r
      unfold fill
      by_cases c1 : isRuleLine (partsOfLine (vals l)) = true
      · rw [if_pos c1]
        show (if (ruleOfParts (partsOfLine (vals l))).short = false then Except.error (T.length, 2) else if (sortT T).any (fun (q : Rule) => q.letters == (ruleOfParts (partsOfLine (vals l))).letters) = true then .error (T.length, 3) else if RULES ≤ T.length then .error (T.length, 4) else readFrom n (T.length + 1) r (putIn (ruleOfParts (partsOfLine (vals l))) (sortT T))) = _
        by_cases c2 : (ruleOfParts (partsOfLine (vals l))).short = false
        · have k : kindOf (partsOfLine (vals l)) T = 2 := by unfold kindOf; rw [if_neg (by simp [c1]), if_pos c2]
          rw [if_pos c2, k, if_neg (by decide)]
        · rw [if_neg c2, sortT_any]
          by_cases c3 : T.any (fun (q : Rule) => q.letters == (ruleOfParts (partsOfLine (vals l))).letters) = true
          · have k : kindOf (partsOfLine (vals l)) T = 3 := by unfold kindOf; rw [if_neg (by simp [c1]), if_neg c2, if_pos c3]
            rw [if_pos c3, k, if_neg (by decide)]
          · rw [if_neg c3]
            by_cases c4 : 64 ≤ T.length
            · have k : kindOf (partsOfLine (vals l)) T = 4 := by unfold kindOf; rw [if_neg (by simp [c1]), if_neg c2, if_neg c3, if_pos c4]
              rw [if_pos (show RULES ≤ T.length from c4), k, if_neg (by decide)]
            · have k : kindOf (partsOfLine (vals l)) T = 0 := by unfold kindOf; rw [if_neg (by simp [c1]), if_neg c2, if_neg c3, if_neg c4]
              rw [if_neg (show ¬ RULES ≤ T.length from c4), k, if_pos rfl]
              have hl : r.length ≤ n := by
                rw [e] at h
                simp at h
                omega
              have := ih (T ++ [ruleOfParts (partsOfLine (vals l))]) hl
              rw [sortT_snoc, List.length_append, List.length_singleton] at this
              rw [this]
              have ea : T.length + 1 + ((parted 10 (vals r)).length - 1) = T.length + (1 + ((parted 10 (vals r)).length - 1)) := by omega
              rw [ea]
      · rw [if_neg c1]
        have k : kindOf (partsOfLine (vals l)) T = 1 := by unfold kindOf; rw [if_pos (by simpa using c1)]
        rw [k, if_neg (by decide)]
    · have nl' : 10 ∉ vals b := fun q => c (vals_mark.mp q)
      have ep : parted 10 (vals b) = [vals b] := parted_none 10 _ nl'
      rw [ep, take_none c, List.drop_length]
      have hv : ¬ (([vals b] : List (List Nat)).getLastD [] = []) := by
        subst hb
        simp [vals]
      show (match ([] : Bytes), ruleOf b with
        | _ :: r, some x => if x.short = false then Except.error (T.length, 2) else if (sortT T).any (fun (q : Rule) => q.letters == x.letters) = true then .error (T.length, 3) else if RULES ≤ T.length then .error (T.length, 4) else readFrom n (T.length + 1) r (putIn x (sortT T))
        | _, _ => .error (T.length, 1)) = if ([vals b] : List (List Nat)).getLastD [] = [] then .ok (sortT T) else .error (T.length + (([vals b] : List (List Nat)).length - 1), 1)
      rw [if_neg hv]
      rfl
theorem readTable_fill (b : Bytes) : readTable b = match fillText (vals b) with
    | (_, some e) => .error e
    | (T, none) => .ok (sortT T) := by
  unfold readTable fillText
  have := read_fill b.length b [] (Nat.le_refl _)
  rw [show sortT [] = [] from rfl] at this
  rw [show (0 : Nat) = ([] : List Rule).length from rfl]
  rw [this]
  cases fill ([] : List Rule).length (parted 10 (vals b)).dropLast [] with
  | mk T f =>
    cases f with
    | some e => rfl
    | none =>
      show (if (parted 10 (vals b)).getLastD [] = [] then Except.ok (sortT T) else Except.error (0 + ((parted 10 (vals b)).length - 1), 1)) = match (if (parted 10 (vals b)).getLastD [] = [] then (T, none) else (T, some ((parted 10 (vals b)).length - 1, 1))) with
        | (_, some e) => .error e
        | (T, none) => .ok (sortT T)
      by_cases c : (parted 10 (vals b)).getLastD [] = []
      · rw [if_pos c, if_pos c]
      · rw [if_neg c, if_neg c, Nat.zero_add]

/-! ### what holds of every table -/
structure Good (T : List Rule) : Prop where
  nodup : (T.map Rule.letters).Nodup
  few : T.length ≤ 64
  ne : ∀ r ∈ T, r.letters ≠ []
  sne : ∀ r ∈ T, r.sounds ≠ []
  short : ∀ r ∈ T, r.short = true
  lets : ∀ r ∈ T, isLetters r.letters = true
  backs : ∀ r ∈ T, isLetters r.back = true
  chars : ∀ r ∈ T, ∀ c ∈ r.sounds, isChar c = true ∧ 0x20 < c
theorem Good.nil : Good [] := ⟨by simp, by simp, by simp, by simp, by simp, by simp, by simp, by simp⟩
theorem Good.perm {T U : List Rule} (g : Good T) (h : U.Perm T) : Good U :=
  ⟨((h.map _).nodup_iff).mpr g.nodup, by rw [h.length_eq]; exact g.few, fun r q => g.ne r (h.mem_iff.mp q), fun r q => g.sne r (h.mem_iff.mp q), fun r q => g.short r (h.mem_iff.mp q), fun r q => g.lets r (h.mem_iff.mp q), fun r q => g.backs r (h.mem_iff.mp q), fun r q => g.chars r (h.mem_iff.mp q)⟩
theorem short_iff {r : Rule} : r.short = true ↔ r.letters.length ≤ 6 ∧ r.sounds.length ≤ 4 ∧ r.back.length ≤ 5 ∧ r.back.length < r.letters.length := by
  unfold Rule.short LETTERS SOUNDS BACK
  simp only [Bool.and_eq_true, decide_eq_true_eq]
theorem ruleLine_parts {ps : List (List Nat)} (h : isRuleLine ps = true) : (ps.length = 2 ∨ ps.length = 3) ∧ [] ∉ ps ∧ isLetters (ps.getD 0 []) = true ∧ writtenSounds (ps.getD 1 []) = true ∧ (ps.length = 3 → isLetters (ps.getD 2 []) = true) := by
  unfold isRuleLine at h
  by_cases c : ¬ (ps.length = 2 ∨ ps.length = 3) ∨ [] ∈ ps
  · rw [if_pos c] at h; cases h
  rw [if_neg c] at h
  by_cases d : isLetters (ps.getD 0 []) = false ∨ writtenSounds (ps.getD 1 []) = false
  · rw [if_pos d] at h; cases h
  rw [if_neg d] at h
  have c1 : ps.length = 2 ∨ ps.length = 3 := Classical.byContradiction fun q => c (.inl q)
  have c2 : [] ∉ ps := fun q => c (.inr q)
  refine ⟨c1, c2, ?_, ?_, fun e => ?_⟩
  · cases q : isLetters (ps.getD 0 []) with
    | true => rfl
    | false => exact absurd (.inl q) d
  · cases q : writtenSounds (ps.getD 1 []) with
    | true => rfl
    | false => exact absurd (.inr q) d
  · rw [Bool.or_eq_true, decide_eq_true_eq] at h
    rcases h with h | h
    · omega
    · exact h
theorem partsOfLine_char {l : List Nat} {p : List Nat} (h : p ∈ partsOfLine l) : ∀ c ∈ p, isChar c = true := by
  unfold partsOfLine at h
  cases e : decoded l with
  | none => rw [e] at h; cases h
  | some t =>
    rw [e] at h
    intro c hc
    exact decoded_char e c (parted_mem 0x20 t p h c hc)
theorem Good.snoc {T : List Rule} (g : Good T) {l : List Nat} (h : kindOf (partsOfLine l) T = 0) : Good (T ++ [ruleOfParts (partsOfLine l)]) := by
  obtain ⟨h1, h2, h3, h4⟩ := kindOf_0 h
  obtain ⟨p1, p2, p3, p4, p5⟩ := ruleLine_parts h1
  have hch : ∀ p ∈ partsOfLine l, ∀ c ∈ p, isChar c = true := fun p hp => partsOfLine_char hp
  generalize hps : partsOfLine l = ps at *
  have m0 : ps.getD 0 [] ∈ ps := by
    rw [List.getD_eq_getElem?_getD, List.getElem?_eq_getElem (by omega), Option.getD_some]; exact List.getElem_mem _
  have m1 : ps.getD 1 [] ∈ ps := by
    rw [List.getD_eq_getElem?_getD, List.getElem?_eq_getElem (by omega), Option.getD_some]; exact List.getElem_mem _
  have mem : ∀ {r : Rule}, r ∈ T ++ [ruleOfParts ps] → r ∈ T ∨ r = ruleOfParts ps := by
    intro r hr
    rcases List.mem_append.mp hr with h | h
    · exact .inl h
    · exact .inr (List.mem_singleton.mp h)
  refine ⟨?_, ?_, ?_, ?_, ?_, ?_, ?_, ?_⟩
  · rw [List.map_append, List.nodup_append]
    refine ⟨g.nodup, by simp, ?_⟩
    intro a ha b hb
    obtain ⟨q, hq, rfl⟩ := List.mem_map.mp ha
    rw [List.map_singleton, List.mem_singleton] at hb
    subst hb
    intro e
    have := List.any_eq_false.mp h3 q hq
    rw [e] at this
    simp at this
  · rw [List.length_append, List.length_singleton]; omega
  · intro r hr
    rcases mem hr with hr | rfl
    · exact g.ne r hr
    · intro e
      exact p2 (by rw [← e]; exact m0)
  · intro r hr
    rcases mem hr with hr | rfl
    · exact g.sne r hr
    · intro e
      exact p2 (by rw [← e]; exact m1)
  · intro r hr
    rcases mem hr with hr | rfl
    · exact g.short r hr
    · exact h2
  · intro r hr
    rcases mem hr with hr | rfl
    · exact g.lets r hr
    · exact p3
  · intro r hr
    rcases mem hr with hr | rfl
    · exact g.backs r hr
    · show isLetters (if ps.length = 3 then ps.getD 2 [] else []) = true
      by_cases c : ps.length = 3
      · rw [if_pos c]; exact p5 c
      · rw [if_neg c]; rfl
  · intro r hr
    rcases mem hr with hr | rfl
    · exact g.chars r hr
    · intro c hc
      refine ⟨hch _ m1 c hc, ?_⟩
      have := List.all_eq_true.mp p4 c hc
      simp only [Bool.and_eq_true, decide_eq_true_eq] at this
      exact this.1
theorem fill_good : ∀ (ls : List (List Nat)) (i : Nat) (T : List Rule), Good T → Good (fill i ls T).1
  | [], _, T, g => g
  | l :: r, i, T, g => by
    unfold fill
    by_cases c : kindOf (partsOfLine l) T = 0
    · rw [if_pos c]
      exact fill_good r (i + 1) _ (g.snoc c)
    · rw [if_neg c]
      exact g
theorem fillText_good (t : List Nat) : Good (fillText t).1 := by
  have h := fill_good (parted 10 t).dropLast 0 [] Good.nil
  unfold fillText
  cases e : fill 0 (parted 10 t).dropLast [] with
  | mk T f =>
    rw [e] at h
    cases f with
    | some x => exact h
    | none =>
      show Good (if (parted 10 t).getLastD [] = [] then (T, none) else (T, some ((parted 10 t).length - 1, 1))).1
      split <;> exact h
theorem sortT_good {T : List Rule} (g : Good T) : Good (sortT T) := g.perm (sortT_perm T)
end SpA
set_option linter.all false
namespace SpA
open Sy

/-! ### the longest rule -/
/-- the program's: by the row's beginnings, the longest first -/
def lookBy (T : List Rule) (l : List Nat) : Nat → Option Rule
  | 0 => none
  | n + 1 => match T.find? fun (r : Rule) => r.letters == l.take (n + 1) with
    | some r => some r
    | none => lookBy T l n
def longestM (T : List Rule) (l : List Nat) : Option Rule := lookBy T l (min 6 l.length)
/-- what is asked of it -/
def IsLongest (T : List Rule) (l : List Nat) (r : Rule) : Prop := r ∈ T ∧ r.letters <+: l ∧ ∀ q ∈ T, q.letters <+: l → q.letters.length ≤ r.letters.length

theorem lookBy_none {T : List Rule} {l : List Nat} : ∀ {n : Nat}, lookBy T l n = none → ∀ q ∈ T, q.letters ≠ [] → q.letters <+: l → n < q.letters.length
  | 0, _, q, _, h, _ => List.length_pos_iff.mpr h
  | n + 1, e, q, hq, h, hp => by
    unfold lookBy at e
    cases f : T.find? fun (r : Rule) => r.letters == l.take (n + 1) with
    | some r => rw [f] at e; cases e
    | none =>
      rw [f] at e
      have ih := lookBy_none (n := n) e q hq h hp
      have hf := List.find?_eq_none.mp f q hq
      rcases Nat.lt_or_ge (n + 1) q.letters.length with c | c
      · exact c
      · exfalso
        have : q.letters.length = n + 1 := by omega
        apply hf
        have := List.prefix_iff_eq_take.mp hp
        rw [beq_iff_eq]
        rw [this]
        congr 1
theorem lookBy_some {T : List Rule} {l : List Nat} : ∀ {n : Nat} {r : Rule}, lookBy T l n = some r → r ∈ T ∧ r.letters <+: l ∧ (∀ q ∈ T, q.letters <+: l → q.letters.length ≤ n → q.letters.length ≤ r.letters.length)
  | 0, r, h => by cases h
  | n + 1, r, e => by
    unfold lookBy at e
    cases f : T.find? fun (r : Rule) => r.letters == l.take (n + 1) with
    | some q =>
      rw [f] at e
      have e := Option.some.inj e
      subst e
      have h1 := List.find?_some f
      rw [beq_iff_eq] at h1
      have h2 := List.mem_of_find?_eq_some f
      refine ⟨h2, by rw [h1]; exact List.take_prefix _ _, fun p hp hpr hl => ?_⟩
      rw [h1, List.length_take]
      have := hpr.length_le
      omega
    | none =>
      rw [f] at e
      obtain ⟨h1, h2, h3⟩ := lookBy_some (n := n) e
      refine ⟨h1, h2, fun p hp hpr hl => ?_⟩
      rcases Nat.lt_or_ge n p.letters.length with c | c
      · exfalso
        have hf := List.find?_eq_none.mp f p hp
        apply hf
        rw [beq_iff_eq]
        have := List.prefix_iff_eq_take.mp hpr
        rw [this]
        congr 1
        omega
      · exact h3 p hp hpr c
theorem longestM_some {T : List Rule} {l : List Nat} {r : Rule} (g : Good T) (h : longestM T l = some r) : IsLongest T l r := by
  obtain ⟨h1, h2, h3⟩ := lookBy_some h
  refine ⟨h1, h2, fun q hq hp => h3 q hq hp ?_⟩
  have := (short_iff.mp (g.short q hq)).1
  have := hp.length_le
  omega
theorem longestM_none {T : List Rule} {l : List Nat} (g : Good T) (h : longestM T l = none) : ∀ q ∈ T, ¬ q.letters <+: l := fun q hq hp => by
  have h1 := lookBy_none h q hq (g.ne q hq) hp
  have := (short_iff.mp (g.short q hq)).1
  have := hp.length_le
  omega

def better (l : List Nat) (best : Option Rule) (r : Rule) : Option Rule := if (r.letters.isPrefixOf l && decide ((best.map fun (q : Rule) => q.letters.length).getD 0 < r.letters.length)) = true then some r else best
theorem longest_fold (T : Table) (l : Text) : longest T l = T.foldl (better l) none := rfl
theorem fold_best (l : List Nat) : ∀ (T : List Rule) (b : Option Rule), (∀ r ∈ T, r.letters ≠ []) →
    match T.foldl (better l) b with
    | some r => (r ∈ T ∧ r.letters <+: l ∨ b = some r) ∧ (∀ q ∈ T, q.letters <+: l → q.letters.length ≤ r.letters.length) ∧ ∀ q, b = some q → q.letters.length ≤ r.letters.length
    | none => b = none ∧ ∀ q ∈ T, ¬ q.letters <+: l
  | [], b, _ => by
    show match b with | some r => _ | none => _
    cases b with
    | none => exact ⟨rfl, by simp⟩
    | some r => exact ⟨.inr rfl, by simp, fun q e => by rw [Option.some.inj e]; exact Nat.le_refl _⟩
  | r :: T, b, hne => by
    have ih := fold_best l T (better l b r) fun q hq => hne q (List.mem_cons_of_mem _ hq)
    rw [List.foldl_cons]
    have hr := hne r List.mem_cons_self
    cases e : T.foldl (better l) (better l b r) with
    | none =>
      rw [e] at ih
      obtain ⟨h1, h2⟩ := ih
      unfold better at h1
      split at h1
      · cases h1
      · next c =>
        subst h1
        refine ⟨rfl, fun q hq hp => ?_⟩
        rcases List.mem_cons.mp hq with rfl | hq
        · apply c
          rw [Bool.and_eq_true, List.isPrefixOf_iff_prefix, decide_eq_true_eq]
          exact ⟨hp, List.length_pos_iff.mpr hr⟩
        · exact h2 q hq hp
    | some w =>
      rw [e] at ih
      obtain ⟨h1, h2, h3⟩ := ih
      unfold better at h1 h3
      by_cases c : (r.letters.isPrefixOf l && decide ((b.map fun (q : Rule) => q.letters.length).getD 0 < r.letters.length)) = true
      · rw [if_pos c] at h1 h3
        rw [Bool.and_eq_true, List.isPrefixOf_iff_prefix, decide_eq_true_eq] at c
        have h3' := h3 r rfl
        refine ⟨?_, ?_, ?_⟩
        · rcases h1 with h1 | h1
          · exact .inl ⟨List.mem_cons_of_mem _ h1.1, h1.2⟩
          · have h1 := Option.some.inj h1
            subst h1
            exact .inl ⟨List.mem_cons_self, c.1⟩
        · intro q hq hp
          rcases List.mem_cons.mp hq with rfl | hq
          · exact h3'
          · exact h2 q hq hp
        · intro q hq
          subst hq
          have := c.2
          simp at this
          omega
      · rw [if_neg c] at h1 h3
        refine ⟨?_, ?_, h3⟩
        · rcases h1 with h1 | h1
          · exact .inl ⟨List.mem_cons_of_mem _ h1.1, h1.2⟩
          · exact .inr h1
        · intro q hq hp
          rcases List.mem_cons.mp hq with rfl | hq
          · have hn : ¬ ((b.map fun (q : Rule) => q.letters.length).getD 0 < q.letters.length) := by
              intro z
              apply c
              rw [Bool.and_eq_true, List.isPrefixOf_iff_prefix, decide_eq_true_eq]
              exact ⟨hp, z⟩
            cases b with
            | none =>
              exfalso
              apply hn
              exact List.length_pos_iff.mpr hr
            | some p =>
              have := h3 p rfl
              simp at hn
              omega
          · exact h2 q hq hp
theorem longest_some {T : List Rule} {l : List Nat} {r : Rule} (g : Good T) (h : longest T l = some r) : IsLongest T l r := by
  have := fold_best l T none g.ne
  rw [← longest_fold, h] at this
  obtain ⟨h1, h2, -⟩ := this
  rcases h1 with h1 | h1
  · exact ⟨h1.1, h1.2, h2⟩
  · cases h1
theorem longest_none {T : List Rule} {l : List Nat} (g : Good T) (h : longest T l = none) : ∀ q ∈ T, ¬ q.letters <+: l := by
  have := fold_best l T none g.ne
  rw [← longest_fold, h] at this
  exact this.2
theorem nodup_letters {T : List Rule} (h : (T.map Rule.letters).Nodup) {p q : Rule} (hp : p ∈ T) (hq : q ∈ T) (e : p.letters = q.letters) : p = q := by
  induction T with
  | nil => cases hp
  | cons a T ih =>
    rw [List.map_cons, List.nodup_cons] at h
    rcases List.mem_cons.mp hp with e1 | h1
    · rcases List.mem_cons.mp hq with e2 | h2
      · rw [e1, e2]
      · exact absurd (List.mem_map.mpr ⟨q, h2, by rw [← e, e1]⟩) h.1
    · rcases List.mem_cons.mp hq with e2 | h2
      · exact absurd (List.mem_map.mpr ⟨p, h1, by rw [e, e2]⟩) h.1
      · exact ih h.2 h1 h2
theorem IsLongest.unique {T : List Rule} {l : List Nat} {p q : Rule} (g : Good T) (hp : IsLongest T l p) (hq : IsLongest T l q) : p = q := by
  apply nodup_letters g.nodup hp.1 hq.1
  have h1 := hp.2.2 q hq.1 hq.2.1
  have h2 := hq.2.2 p hp.1 hp.2.1
  rw [List.prefix_iff_eq_take.mp hp.2.1, List.prefix_iff_eq_take.mp hq.2.1]
  congr 1
  omega
/-- in whatever order the table stands, the program's and the specification's longest are one -/
theorem longest_eq {T U : List Rule} (g : Good T) (hp : U.Perm T) (l : List Nat) : longest U l = longestM T l := by
  have gU := g.perm hp
  cases e : longestM T l with
  | none =>
    cases f : longest U l with
    | none => rfl
    | some r =>
      have := longest_some gU f
      exact absurd this.2.1 (longestM_none g e r (hp.mem_iff.mp this.1))
  | some q =>
    have hq := longestM_some g e
    cases f : longest U l with
    | none => exact absurd hq.2.1 (longest_none gU f q (hp.mem_iff.mpr hq.1))
    | some r =>
      have h := longest_some gU f
      have h' : IsLongest T l r := ⟨hp.mem_iff.mp h.1, h.2.1, fun p hpm => h.2.2 p (hp.mem_iff.mpr hpm)⟩
      rw [h'.unique g hq]

/-! ### told, spelled -/
/-- one step: what is told, what is left -/
def stepM (T : List Rule) (c : Nat) (l : List Nat) : List Nat × List Nat := match longestM T (c :: l) with
  | some r => (r.sounds, r.back ++ (c :: l).drop r.letters.length)
  | none => ([c], l)
theorem told_eq {T U : List Rule} (g : Good T) (hp : U.Perm T) (c : Nat) (l : List Nat) : told U c l = stepM T c l := by
  unfold told stepM
  rw [longest_eq g hp]
  rfl
theorem stepM_less {T : List Rule} (g : Good T) (c : Nat) (l : List Nat) : (stepM T c l).2.length ≤ l.length := by
  unfold stepM
  cases e : longestM T (c :: l) with
  | none => exact Nat.le_refl _
  | some r =>
    have h := longestM_some g e
    have h1 := (short_iff.mp (g.short r h.1)).2.2.2
    have h2 := h.2.1.length_le
    show (r.back ++ (c :: l).drop r.letters.length).length ≤ l.length
    rw [List.length_append, List.length_drop]
    simp only [List.length_cons] at h2 ⊢
    omega
def spellM (T : List Rule) : Nat → List Nat → List Nat
  | n + 1, c :: l => (stepM T c l).1 ++ spellM T n (stepM T c l).2
  | _, _ => []
theorem spellM_eq {T U : List Rule} (g : Good T) (hp : U.Perm T) : ∀ (n : Nat) (l : List Nat), spellFrom U n l = spellM T n l
  | 0, [] => rfl
  | 0, _ :: _ => rfl
  | _ + 1, [] => rfl
  | n + 1, c :: l => by
    show (told U c l).1 ++ spellFrom U n (told U c l).2 = (stepM T c l).1 ++ spellM T n (stepM T c l).2
    rw [told_eq g hp, spellM_eq g hp n]
/-- enough is enough -/
theorem spellM_fuel {T : List Rule} (g : Good T) : ∀ (n m : Nat) (l : List Nat), l.length ≤ n → l.length ≤ m → spellM T n l = spellM T m l
  | 0, 0, _, _, _ => rfl
  | 0, m + 1, [], _, _ => rfl
  | 0, _ + 1, _ :: _, h, _ => by simp at h
  | n + 1, 0, [], _, _ => rfl
  | _ + 1, 0, _ :: _, _, h => by simp at h
  | _ + 1, _ + 1, [], _, _ => rfl
  | n + 1, m + 1, c :: l, h1, h2 => by
    show (stepM T c l).1 ++ spellM T n (stepM T c l).2 = (stepM T c l).1 ++ spellM T m (stepM T c l).2
    have := stepM_less g c l
    simp only [List.length_cons] at h1 h2
    rw [spellM_fuel g n m _ (by omega) (by omega)]
def spelled (T : List Rule) (l : List Nat) : List Nat := spellM T l.length l
theorem spell_eq {T U : List Rule} (g : Good T) (hp : U.Perm T) (l : List Nat) : spell U l = spelled T l := spellM_eq g hp _ _
theorem spelled_nil (T : List Rule) : spelled T [] = [] := rfl
theorem spelled_cons {T : List Rule} (g : Good T) (c : Nat) (l : List Nat) : spelled T (c :: l) = (stepM T c l).1 ++ spelled T (stepM T c l).2 := by
  show (stepM T c l).1 ++ spellM T l.length (stepM T c l).2 = _
  rw [spellM_fuel g l.length _ _ (stepM_less g c l) (Nat.le_refl _)]
  rfl
/-- how many can be told: four a step at most -/
theorem stepM_told {T : List Rule} (g : Good T) (c : Nat) (l : List Nat) : (stepM T c l).1.length ≤ 4 := by
  unfold stepM
  cases e : longestM T (c :: l) with
  | none => simp
  | some r => exact (short_iff.mp (g.short r (longestM_some g e).1)).2.1
theorem spellM_len {T : List Rule} (g : Good T) : ∀ (n : Nat) (l : List Nat), (spellM T n l).length ≤ 4 * n
  | 0, [] => by simp [spellM]
  | 0, _ :: _ => by simp [spellM]
  | _ + 1, [] => by simp [spellM]
  | n + 1, c :: l => by
    show ((stepM T c l).1 ++ spellM T n (stepM T c l).2).length ≤ _
    rw [List.length_append]
    have := stepM_told g c l
    have := spellM_len g n (stepM T c l).2
    omega
theorem spelled_len {T : List Rule} (g : Good T) (l : List Nat) : (spelled T l).length ≤ 4 * l.length := spellM_len g _ _
end SpA
set_option linter.all false
namespace SpA
open Sy

/-! ### the order -/
theorem before_irrefl : ∀ a : List Nat, before a a = false
  | [] => rfl
  | a :: r => by
    unfold before
    rw [before_irrefl r]
    simp
theorem before_trans : ∀ {a b c : List Nat}, before a b = true → before b c = true → before a c = true
  | [], _ :: _, [], _, h => by simp [before] at h
  | [], _ :: _, _ :: _, _, _ => rfl
  | [], [], _, h, _ => by simp [before] at h
  | _ :: _, [], _, h, _ => by simp [before] at h
  | _ :: _, _ :: _, [], _, h => by simp [before] at h
  | a :: r, b :: s, c :: t, h1, h2 => by
    unfold before at h1 h2 ⊢
    rw [Bool.or_eq_true, Bool.and_eq_true, decide_eq_true_eq, beq_iff_eq] at h1 h2 ⊢
    rcases h1 with h1 | ⟨rfl, h1⟩
    · rcases h2 with h2 | ⟨rfl, h2⟩
      · exact .inl (by omega)
      · exact .inl h1
    · rcases h2 with h2 | ⟨rfl, h2⟩
      · exact .inl h2
      · exact .inr ⟨rfl, before_trans h1 h2⟩
theorem before_total : ∀ a b : List Nat, a ≠ b → before a b = false → before b a = true
  | [], [], h, _ => absurd rfl h
  | [], _ :: _, _, h => by simp [before] at h
  | _ :: _, [], _, _ => rfl
  | a :: r, b :: s, hne, h => by
    unfold before at h ⊢
    rw [Bool.or_eq_false_iff, decide_eq_false_iff_not] at h
    rw [Bool.or_eq_true, Bool.and_eq_true, decide_eq_true_eq, beq_iff_eq]
    by_cases c : a = b
    · subst c
      have h2 := h.2
      simp at h2
      exact .inr ⟨rfl, before_total r s (fun e => hne (by rw [e])) h2⟩
    · exact .inl (by omega)
theorem before_asymm {a b : List Nat} (h : before a b = true) : before b a = false := by
  cases e : before b a with
  | false => rfl
  | true =>
    have := before_trans h e
    rw [before_irrefl] at this
    cases this
abbrev Ord (U : List Rule) : Prop := U.Pairwise fun p q => before p.letters q.letters = true
theorem putIn_ord (r : Rule) : ∀ U : Table, Ord U → (∀ q ∈ U, q.letters ≠ r.letters) → Ord (putIn r U)
  | [], _, _ => by simp [putIn]
  | q :: U, h, hn => by
    unfold Ord at h ⊢
    rw [List.pairwise_cons] at h
    unfold putIn
    by_cases c : before r.letters q.letters = true
    · rw [if_pos c, List.pairwise_cons]
      refine ⟨fun p hp => ?_, List.pairwise_cons.mpr h⟩
      rcases List.mem_cons.mp hp with rfl | hp
      · exact c
      · exact before_trans c (h.1 p hp)
    · rw [if_neg c, List.pairwise_cons]
      have ih := putIn_ord r U h.2 fun p hp => hn p (List.mem_cons_of_mem _ hp)
      refine ⟨fun p hp => ?_, ih⟩
      rcases List.mem_cons.mp ((putIn_perm r U).mem_iff.mp hp) with rfl | hp
      · exact before_total _ _ (fun e => hn q List.mem_cons_self e.symm) (by simpa using c)
      · exact h.1 p hp
theorem foldl_putIn_ord : ∀ (T : List Rule) (U : Table), Ord U → ((U ++ T).map Rule.letters).Nodup → Ord (T.foldl (fun U r => putIn r U) U)
  | [], _, h, _ => h
  | r :: T, U, h, hn => by
    rw [List.foldl_cons]
    have hp : (putIn r U ++ T).Perm (U ++ r :: T) := ((putIn_perm r U).append_right T).trans (List.perm_middle (l₁ := U) (l₂ := T) (a := r)).symm
    refine foldl_putIn_ord T (putIn r U) (putIn_ord r U h fun q hq e => ?_) (((hp.map _).nodup_iff).mpr hn)
    rw [List.map_append, List.nodup_append] at hn
    exact hn.2.2 _ (List.mem_map.mpr ⟨q, hq, rfl⟩) _ (List.mem_map.mpr ⟨r, List.mem_cons_self, rfl⟩) e
theorem sortT_ord {T : List Rule} (g : Good T) : Ord (sortT T) := foldl_putIn_ord T [] .nil g.nodup
/-- rows in order, each once, are one list -/
theorem ord_unique : ∀ (a b : List (List Nat)), a.Pairwise (fun x y => before x y = true) → b.Pairwise (fun x y => before y x = false) → b.Nodup → b.Perm a → b = a
  | [], b, _, _, _, h => h.eq_nil
  | x :: a, [], _, _, _, h => by have := h.length_eq; simp at this
  | x :: a, y :: b, ha, hb, hn, h => by
    rw [List.pairwise_cons] at ha hb
    rw [List.nodup_cons] at hn
    have e : y = x := by
      rcases List.mem_cons.mp (h.mem_iff.mp List.mem_cons_self) with e | hy
      · exact e
      · rcases List.mem_cons.mp (h.symm.mem_iff.mp (List.mem_cons_self (a := x) (l := a))) with e | hx
        · exact e.symm
        · have h1 := ha.1 y hy
          have h2 := hb.1 x hx
          rw [h1] at h2
          cases h2
    subst e
    rw [ord_unique a b ha.2 hb.2 hn.2 (List.Perm.cons_inv h)]
/-- what a sorting of the letters hands over -/
theorem sorted_letters {T : List Rule} (g : Good T) {ks : List (List Nat)} (hp : ks.Perm (T.map Rule.letters)) (ho : ks.Pairwise fun x y => before y x = false) : ks = (sortT T).map Rule.letters := by
  refine ord_unique _ _ ?_ ho (hp.nodup_iff.mpr g.nodup) (hp.trans ((sortT_perm T).map Rule.letters).symm)
  have := sortT_ord g
  rw [List.pairwise_map]
  exact this

/-! ### written -/
def lineM (r : Rule) : List Nat := encoded ((r.letters ++ [0x20] ++ r.sounds ++ (if r.back = [] then [] else 0x20 :: r.back)) ++ [0x0A])
theorem letter_lt {l : List Nat} (h : isLetters l = true) : ∀ c ∈ l, c < 0x110000 := fun c hc => by
  have := List.all_eq_true.mp h c hc
  unfold isLetter at this
  simp only [Bool.and_eq_true, decide_eq_true_eq] at this
  omega
theorem encoded_append (a b : List Nat) : encoded (a ++ b) = encoded a ++ encoded b := List.flatMap_append
theorem encoded_one {c : Nat} (h : c < 0x80) : encoded [c] = [c] := by
  unfold encoded formOf
  simp [h]
theorem line_eq {r : Rule} (h1 : ∀ c ∈ r.letters, c < 0x110000) (h2 : ∀ c ∈ r.sounds, c < 0x110000) (h3 : ∀ c ∈ r.back, c < 0x110000) : vals (lineOf r) = lineM r := by
  unfold lineOf lineM
  simp only [encoded_append, encoded_one (show 0x20 < 0x80 by omega), encoded_one (show 0x0A < 0x80 by omega)]
  unfold vals at *
  rw [List.map_append, List.map_cons, List.map_append, List.map_append]
  have e1 := utf8s_enc h1
  have e2 := utf8s_enc h2
  unfold vals at e1 e2
  rw [e1, e2]
  have e3 : List.map UInt8.toNat (if r.back.isEmpty = true then [] else 0x20 :: utf8s r.back) = encoded (if r.back = [] then [] else 0x20 :: r.back) := by
    cases q : r.back with
    | nil => rfl
    | cons a l =>
      have e3 := utf8s_enc (t := a :: l) (by rw [← q]; exact h3)
      show (0x20 : Nat) :: List.map UInt8.toNat (utf8s (a :: l)) = encoded ([0x20] ++ (a :: l))
      rw [encoded_append, encoded_one (by omega)]
      unfold vals at e3
      rw [e3]
      rfl
  rw [e3]
  simp [List.append_assoc]
def writtenM (U : List Rule) : List Nat := U.flatMap lineM
theorem written_eq {U : List Rule} (g : Good U) : vals (written U) = writtenM U := by
  unfold written writtenM vals
  rw [List.map_flatMap]
  have h1 := g.lets
  have h2 := g.chars
  have h3 := g.backs
  clear g
  induction U with
  | nil => rfl
  | cons r U ih =>
    rw [List.flatMap_cons, List.flatMap_cons, ih (fun q hq => h1 q (List.mem_cons_of_mem _ hq)) (fun q hq => h2 q (List.mem_cons_of_mem _ hq)) (fun q hq => h3 q (List.mem_cons_of_mem _ hq))]
    have := line_eq (r := r) (letter_lt (h1 r List.mem_cons_self)) (fun c hc => ((isChar_iff c).mp (h2 r List.mem_cons_self c hc).1).1) (letter_lt (h3 r List.mem_cons_self))
    unfold vals at this
    rw [this]

/-! ### sure, typed: the table's order does not matter -/
theorem waits_eq {T U : List Rule} (hp : U.Perm T) (l : List Nat) : waits U l = waits T l := hp.any_eq
theorem told_perm {T U : List Rule} (g : Good T) (hp : U.Perm T) (c : Nat) (l : List Nat) : told U c l = told T c l := by
  rw [told_eq g hp, told_eq g (.refl T)]
theorem sureFrom_eq {T U : List Rule} (g : Good T) (hp : U.Perm T) : ∀ (n : Nat) (l : List Nat), sureFrom U n l = sureFrom T n l
  | 0, [] => rfl
  | 0, _ :: _ => rfl
  | _ + 1, [] => rfl
  | n + 1, c :: l => by
    unfold sureFrom
    rw [waits_eq hp, told_perm g hp, sureFrom_eq g hp n]
theorem sure_eq {T U : List Rule} (g : Good T) (hp : U.Perm T) (l : List Nat) : sure U l = sure T l := sureFrom_eq g hp _ _
theorem spell_perm {T U : List Rule} (g : Good T) (hp : U.Perm T) (l : List Nat) : spell U l = spell T l := by
  rw [spell_eq g hp, spell_eq g (.refl T)]
theorem keysFor_eq {T U : List Rule} (hp : U.Perm T) (s : List Nat) : keysFor U s = keysFor T s := by
  unfold keysFor
  congr 1
  funext c
  rw [hp.any_eq]
theorem on_eq {T U : List Rule} (g : Good T) (hp : U.Perm T) (s : List Nat) (w : Typing) : Typing.on U s w = Typing.on T s w := by
  funext c
  unfold Typing.on
  rw [sure_eq g hp]
theorem typingOn_eq {T U : List Rule} (g : Good T) (hp : U.Perm T) (s keys : List Nat) (had : List (Text × Nat)) (now : List Typing) : typingOn U s keys had now = typingOn T s keys had now := by
  unfold typingOn
  have : (fun (w : Typing) => keys.filterMap (w.on U s)) = fun (w : Typing) => keys.filterMap (w.on T s) := by
    funext w
    rw [on_eq g hp]
  rw [this]
theorem typeFrom_eq {T U : List Rule} (g : Good T) (hp : U.Perm T) (s keys : List Nat) : ∀ (n : Nat) (had : List (Text × Nat)) (now : List Typing), typeFrom U s keys n had now = typeFrom T s keys n had now
  | 0, _, _ => rfl
  | n + 1, had, now => by
    unfold typeFrom
    have : (fun (w : Typing) => spell U w.open_ == s.drop w.told) = fun (w : Typing) => spell T w.open_ == s.drop w.told := by
      funext w
      rw [spell_perm g hp]
    rw [this, typingOn_eq g hp]
    cases now.find? fun (w : Typing) => spell T w.open_ == s.drop w.told with
    | some w => rfl
    | none => exact typeFrom_eq g hp s keys n _ _
theorem type_eq {T U : List Rule} (g : Good T) (hp : U.Perm T) (s : List Nat) : Sy.type U s = Sy.type T s := by
  unfold Sy.type
  rw [keysFor_eq hp, typeFrom_eq g hp]
end SpA
set_option linter.all false
namespace SpA
open Sy

/-! ### the calls in a list of numbers -/
abbrev zs (l : List Nat) : List Int := l.map fun (n : Nat) => (n : Int)
abbrev C1 := Nat × List Nat
def rowless (p : Nat) : Bool := p == 1 || p == 3
/-- a call as it stands in the list -/
def encC (c : C1) : List Nat := if rowless c.1 = true then [c.1] else c.1 :: c.2.length :: c.2
/-- a call as the specification has it -/
def rawC (c : C1) : List (List Int) := if rowless c.1 = true then [[(c.1 : Int)]] else [[(c.1 : Int)], zs c.2]
theorem zs_take (l : List Nat) (n : Nat) : (zs l).take n = zs (l.take n) := by simp [zs, List.map_take]
theorem zs_drop (l : List Nat) (n : Nat) : (zs l).drop n = zs (l.drop n) := by simp [zs, List.map_drop]
theorem shape_nat (p : Nat) {n k : Nat} (h : PyWqaibi.shape (p : Int) = some (n, k)) : 1 ≤ p ∧ p ≤ 7 ∧ n = 0 ∧ k = if rowless p = true then 0 else 1 := by
  unfold PyWqaibi.shape at h
  split at h
  · have : p = 1 := by omega
    subst this
    injection h with h; injection h with h1 h2
    exact ⟨by omega, by omega, h1.symm, h2.symm⟩
  split at h
  · have : p = 2 := by omega
    subst this
    injection h with h; injection h with h1 h2
    exact ⟨by omega, by omega, h1.symm, h2.symm⟩
  split at h
  · have : p = 3 := by omega
    subst this
    injection h with h; injection h with h1 h2
    exact ⟨by omega, by omega, h1.symm, h2.symm⟩
  split at h
  · have : p = 4 := by omega
    subst this
    injection h with h; injection h with h1 h2
    exact ⟨by omega, by omega, h1.symm, h2.symm⟩
  split at h
  · have : p = 5 := by omega
    subst this
    injection h with h; injection h with h1 h2
    exact ⟨by omega, by omega, h1.symm, h2.symm⟩
  split at h
  · have : p = 6 := by omega
    subst this
    injection h with h; injection h with h1 h2
    exact ⟨by omega, by omega, h1.symm, h2.symm⟩
  split at h
  · have : p = 7 := by omega
    subst this
    injection h with h; injection h with h1 h2
    exact ⟨by omega, by omega, h1.symm, h2.symm⟩
  cases h
theorem call_nat (p : Nat) (r : List Nat) {raw : List (List Int)} {t : List Int} (h : PyFlat.call PyWqaibi.shape (zs (p :: r)) = some (raw, t)) :
    ∃ (c : C1) (u : List Nat), raw = rawC c ∧ t = zs u ∧ p :: r = encC c ++ u ∧ 1 ≤ c.1 ∧ c.1 ≤ 7 := by
  have h : (match PyWqaibi.shape (p : Int) with
    | none => none
    | some (n, k) => if (zs r).length < n then none else match PyFlat.rows k ((zs r).drop n) with
      | none => none
      | some (xs, t) => some (((p : Int) :: (zs r).take n) :: xs, t)) = some (raw, t) := h
  cases e : PyWqaibi.shape (p : Int) with
  | none => rw [e] at h; cases h
  | some nk =>
    obtain ⟨n, k⟩ := nk
    obtain ⟨h1, h2, h3, h4⟩ := shape_nat p e
    subst h3
    rw [e] at h
    have h : (match PyFlat.rows k (zs r) with
      | none => none
      | some (xs, t) => some ([(p : Int)] :: xs, t)) = some (raw, t) := h
    by_cases c : rowless p = true
    · rw [if_pos c] at h4
      subst h4
      have h : some ([[(p : Int)]], zs r) = some (raw, t) := h
      injection h with h
      injection h with ha hb
      refine ⟨(p, []), r, ?_, hb.symm, ?_, h1, h2⟩
      · rw [← ha]
        unfold rawC
        rw [if_pos c]
      · unfold encC
        rw [if_pos c]
        rfl
    · rw [if_neg c] at h4
      subst h4
      cases r with
      | nil =>
        have h : (none : Option (List (List Int) × List Int)) = some (raw, t) := h
        cases h
      | cons m r =>
        have h : (match (match (if 0 ≤ (m : Int) ∧ (m : Int).toNat ≤ (zs r).length then some ((zs r).take (m : Int).toNat, (zs r).drop (m : Int).toNat) else none : Option (List Int × List Int)) with
            | none => none
            | some (x, s) => match PyFlat.rows 0 s with
              | none => none
              | some (xs, t) => some (x :: xs, t)) with
          | none => none
          | some (xs, t) => some ([(p : Int)] :: xs, t)) = some (raw, t) := h
        by_cases d : 0 ≤ (m : Int) ∧ (m : Int).toNat ≤ (zs r).length
        · rw [if_pos d] at h
          have h : some ([(p : Int)] :: [(zs r).take (m : Int).toNat], (zs r).drop (m : Int).toNat) = some (raw, t) := h
          injection h with h
          injection h with ha hb
          rw [Int.toNat_natCast] at d ha hb
          have hm : m ≤ r.length := by have := d.2; simpa using this
          refine ⟨(p, r.take m), r.drop m, ?_, ?_, ?_, h1, h2⟩
          · rw [← ha, zs_take]
            unfold rawC
            rw [if_neg c]
          · rw [← hb, zs_drop]
          · unfold encC
            rw [if_neg c]
            show p :: m :: r = p :: (r.take m).length :: (r.take m ++ r.drop m)
            rw [List.take_append_drop, List.length_take, Nat.min_eq_left hm]
        · rw [if_neg d] at h
          have h : (none : Option (List (List Int) × List Int)) = some (raw, t) := h
          cases h
theorem calls_nat : ∀ (f : Nat) (ns : List Nat) {raw : List (List (List Int))}, PyFlat.calls PyWqaibi.shape f (zs ns) = some raw →
    ∃ cs : List C1, raw = cs.map rawC ∧ ns = cs.flatMap encC ∧ ∀ c ∈ cs, 1 ≤ c.1 ∧ c.1 ≤ 7
  | 0, [], raw, h => by
    have h := Option.some.inj h
    exact ⟨[], h.symm, rfl, by simp⟩
  | 0, _ :: _, raw, h => by cases h
  | _ + 1, [], raw, h => by
    have h := Option.some.inj h
    exact ⟨[], h.symm, rfl, by simp⟩
  | f + 1, p :: r, raw, h => by
    have h : (match PyFlat.call PyWqaibi.shape (zs (p :: r)) with
      | none => none
      | some (c, t) => match PyFlat.calls PyWqaibi.shape f t with
        | none => none
        | some cs => some (c :: cs)) = some raw := h
    cases e : PyFlat.call PyWqaibi.shape (zs (p :: r)) with
    | none => rw [e] at h; cases h
    | some ct =>
      obtain ⟨c0, t⟩ := ct
      obtain ⟨c, u, h1, h2, h3, h4, h5⟩ := call_nat p r e
      rw [e] at h
      subst h2
      have h : (match PyFlat.calls PyWqaibi.shape f (zs u) with
        | none => none
        | some cs => some (c0 :: cs)) = some raw := h
      cases e2 : PyFlat.calls PyWqaibi.shape f (zs u) with
      | none => rw [e2] at h; cases h
      | some raw2 =>
        obtain ⟨cs, k1, k2, k3⟩ := calls_nat f u e2
        rw [e2] at h
        have h := Option.some.inj h
        refine ⟨c :: cs, ?_, ?_, ?_⟩
        · rw [← h, h1, k1]; rfl
        · rw [h3, k2]; rfl
        · intro d hd
          rcases List.mem_cons.mp hd with rfl | hd
          · exact ⟨h4, h5⟩
          · exact k3 d hd

/-! ### what is due of a call -/
/-- the answer's numbers: letters' refusals, a row told -/
def ofL (l : List Nat) (a : List Int) : List Int := if 256 < l.length then [-1] else if isLetters l = false then [-3] else a
def due (T : List Rule) (c : C1) : List Rule × List Int :=
  if c.1 = 1 then ([], [0])
  else if c.1 = 2 then
    (match fillText c.2 with
      | (_, some e) => (T, [-2, (e.1 : Int), (e.2 : Int)])
      | (U, none) => (U, [(U.length : Int)]))
  else if c.1 = 3 then (T, ((writtenM (sortT T)).length : Int) :: zs (writtenM (sortT T)))
  else if c.1 = 4 then (T, ofL c.2 (((spelled T c.2).length : Int) :: zs (spelled T c.2)))
  else if c.1 = 5 then (T, ofL c.2 (((sure T c.2).1.length : Int) :: ((sure T c.2).2.length : Int) :: zs (sure T c.2).1))
  else if c.1 = 6 then (T, ofL c.2 (((sure T c.2).2.length : Int) :: zs (sure T c.2).2))
  else (T, if 16 < c.2.length then [-1] else if isText c.2 = false then [-3] else match Sy.type T c.2 with
    | some l => (l.length : Int) :: zs l
    | none => [-5])
theorem whole_raw (c : C1) : 1 ≤ c.1 → c.1 ≤ 7 → PyWqaibi.whole (rawC c) = rawC c := by
  intro h1 h2
  obtain ⟨p, r⟩ := c
  have : p = 1 ∨ p = 2 ∨ p = 3 ∨ p = 4 ∨ p = 5 ∨ p = 6 ∨ p = 7 := by simp only at h1 h2; omega
  rcases this with rfl | rfl | rfl | rfl | rfl | rfl | rfl <;> rfl
theorem nats_zs (l : List Nat) : SyRows.nats? (zs l) = some l := by
  unfold SyRows.nats?
  rw [if_pos]
  · congr 1
    rw [List.map_map]
    conv => rhs; rw [← List.map_id l]
    apply List.map_congr_left
    intro a _
    rfl
  · rw [List.all_eq_true]
    intro x hx
    obtain ⟨n, -, rfl⟩ := List.mem_map.mp hx
    simp
def toBytes (l : List Nat) : Bytes := l.map UInt8.ofNat
theorem vals_toBytes {l : List Nat} (h : ∀ c ∈ l, c ≤ 255) : vals (toBytes l) = l := by
  unfold vals toBytes
  rw [List.map_map]
  conv => rhs; rw [← List.map_id l]
  apply List.map_congr_left
  intro a ha
  show (UInt8.ofNat a).toNat = a
  exact u8_nat (by have := h a ha; omega)
theorem text_zs {l : List Nat} (h : ∀ c ∈ l, c ≤ 255) : SyRows.text? (zs l) = some (toBytes l) := by
  unfold SyRows.text?
  rw [if_pos]
  · congr 1
    rw [List.map_map]
    apply List.map_congr_left
    intro a _
    rfl
  · unfold NeutralIO.bytes
    rw [List.all_eq_true]
    intro x hx
    obtain ⟨n, hn, rfl⟩ := List.mem_map.mp hx
    have := h n hn
    simp
    omega
theorem bytesTold_vals (b : Bytes) : SyRows.bytesTold b = zs (vals b) := by
  unfold SyRows.bytesTold zs vals
  rw [List.map_map]
  rfl
/-- what a call's row may hold -/
structure Fit (c : C1) : Prop where
  lo : 1 ≤ c.1
  hi : c.1 ≤ 7
  len : c.2.length ≤ if c.1 = 2 then 44900 else if c.1 = 7 then 20 else 300
  val : ∀ x ∈ c.2, x ≤ if c.1 = 2 then 255 else 2097151
theorem step_due {T : List Rule} (g : Good T) {c : C1} (f : Fit c) :
    SpellNeutral.step (sortT T) (rawC c) = (sortT (due T c).1, (due T c).2) ∧ Good (due T c).1 := by
  obtain ⟨p, r⟩ := c
  obtain ⟨f1, f2, f3, f4⟩ := f
  have : p = 1 ∨ p = 2 ∨ p = 3 ∨ p = 4 ∨ p = 5 ∨ p = 6 ∨ p = 7 := by simp only at f1 f2; omega
  rcases this with rfl | rfl | rfl | rfl | rfl | rfl | rfl
  · exact ⟨rfl, Good.nil⟩
  · have hr : ∀ x ∈ r, x ≤ 255 := f4
    have hl : r.length ≤ 44900 := f3
    have e1 : SpellNeutral.step (sortT T) (rawC (2, r)) = (match (SyRows.text? (zs r)).map SyA.Call.read with
      | some x => ((SyA.step (sortT T) x).1, SpellNeutral.told x (SyA.step (sortT T) x).2)
      | none => (sortT T, [])) := by
      show (match SpellNeutral.callOf [[2], zs r] with
        | some x => let r := SyA.step (sortT T) x; (r.1, SpellNeutral.told x r.2)
        | none => (sortT T, [])) = _
      have : SpellNeutral.callOf [[2], zs r] = (SyRows.text? (zs r)).map SyA.Call.read := by
        show (do return SyA.Call.read (← SyRows.text? (zs r)) : Option SyA.Call) = _
        cases SyRows.text? (zs r) <;> rfl
      rw [this]
    have e2 : SyA.step (sortT T) (.read (toBytes r)) = (match readTable (toBytes r) with
      | .error (i, k) => (sortT T, tells (-2) (Sy.ints [i, k]))
      | .ok U => (U, says (U.length : Int))) := by
      show (if SyA.BYTES < (toBytes r).length then (sortT T, says (-1)) else (match readTable (toBytes r) with
      | .error (i, k) => (sortT T, tells (-2) (Sy.ints [i, k]))
      | .ok U => (U, says (U.length : Int)))) = _
      rw [if_neg]
      unfold toBytes SyA.BYTES
      rw [List.length_map]
      omega
    have gf := fillText_good r
    have e3 : due T (2, r) = (match fillText r with
      | (_, some e) => (T, [-2, (e.1 : Int), (e.2 : Int)])
      | (U, none) => (U, [(U.length : Int)])) := rfl
    rw [e1, text_zs hr, e3]
    show ((SyA.step (sortT T) (.read (toBytes r))).1, SpellNeutral.told (.read (toBytes r)) (SyA.step (sortT T) (.read (toBytes r))).2) = _ ∧ _
    rw [e2, readTable_fill, vals_toBytes hr]
    cases q : fillText r with
    | mk U e =>
      rw [q] at gf
      cases e with
      | some e => exact ⟨rfl, g⟩
      | none =>
        refine ⟨?_, gf⟩
        show (sortT U, [((sortT U).length : Int)]) = (sortT U, [(U.length : Int)])
        rw [(sortT_perm U).length_eq]
  · refine ⟨?_, g⟩
    show (sortT T, SpellNeutral.told .write (gives (written (sortT T)))) = (sortT T, ((writtenM (sortT T)).length : Int) :: zs (writtenM (sortT T)))
    congr 1
    show ((written (sortT T)).length : Int) :: ([] ++ SyRows.bytesTold (written (sortT T))) = _
    rw [bytesTold_vals, written_eq (sortT_good g), ← written_eq (sortT_good g)]
    simp [vals]
  · refine ⟨?_, g⟩
    have e1 : SpellNeutral.step (sortT T) (rawC (4, r)) = (sortT T, SpellNeutral.told (.spell r) (SyA.ofLetters r fun _ => shows (Sy.spell (sortT T) r) [])) := by
      show (match (do return SyA.Call.spell (← SyRows.nats? (zs r)) : Option SyA.Call) with
        | some x => let r := SyA.step (sortT T) x; (r.1, SpellNeutral.told x r.2)
        | none => (sortT T, [])) = _
      rw [nats_zs]
      rfl
    rw [e1]
    show (sortT T, _) = (sortT T, ofL r (((spelled T r).length : Int) :: zs (spelled T r)))
    congr 1
    rw [spell_eq g (sortT_perm T)]
    unfold SyA.ofLetters ofL SyA.ROW
    split
    · rfl
    split
    · rfl
    rfl
  · refine ⟨?_, g⟩
    have e1 : SpellNeutral.step (sortT T) (rawC (5, r)) = (sortT T, SpellNeutral.told (.sure r) (SyA.ofLetters r fun _ => shows (Sy.sure (sortT T) r).1 [((Sy.sure (sortT T) r).2.length : Int)])) := by
      show (match (do return SyA.Call.sure (← SyRows.nats? (zs r)) : Option SyA.Call) with
        | some x => let r := SyA.step (sortT T) x; (r.1, SpellNeutral.told x r.2)
        | none => (sortT T, [])) = _
      rw [nats_zs]
      rfl
    rw [e1]
    show (sortT T, _) = (sortT T, ofL r _)
    congr 1
    rw [sure_eq g (sortT_perm T)]
    unfold SyA.ofLetters ofL SyA.ROW
    split
    · rfl
    split
    · rfl
    rfl
  · refine ⟨?_, g⟩
    have e1 : SpellNeutral.step (sortT T) (rawC (6, r)) = (sortT T, SpellNeutral.told (.open_ r) (SyA.ofLetters r fun _ => shows (Sy.sure (sortT T) r).2 [])) := by
      show (match (do return SyA.Call.open_ (← SyRows.nats? (zs r)) : Option SyA.Call) with
        | some x => let r := SyA.step (sortT T) x; (r.1, SpellNeutral.told x r.2)
        | none => (sortT T, [])) = _
      rw [nats_zs]
      rfl
    rw [e1]
    show (sortT T, _) = (sortT T, ofL r _)
    congr 1
    rw [sure_eq g (sortT_perm T)]
    unfold SyA.ofLetters ofL SyA.ROW
    split
    · rfl
    split
    · rfl
    rfl
  · refine ⟨?_, g⟩
    have e1 : SpellNeutral.step (sortT T) (rawC (7, r)) = (sortT T, SpellNeutral.told (.type r) (if SyA.READING < r.length then says (-1) else if isText r = false then says (-3) else match Sy.type (sortT T) r with
      | some l => shows l []
      | none => says (-5))) := by
      show (match (do return SyA.Call.type (← SyRows.nats? (zs r)) : Option SyA.Call) with
        | some x => let r := SyA.step (sortT T) x; (r.1, SpellNeutral.told x r.2)
        | none => (sortT T, [])) = _
      rw [nats_zs]
      rfl
    rw [e1]
    show (sortT T, _) = (sortT T, if 16 < r.length then [-1] else if isText r = false then [-3] else match Sy.type T r with
      | some l => (l.length : Int) :: zs l
      | none => [-5])
    congr 1
    rw [type_eq g (sortT_perm T)]
    unfold SyA.READING
    split
    · rfl
    split
    · rfl
    cases Sy.type T r <;> rfl

/-! ### the whole list -/
def dueAll (T : List Rule) : List C1 → List (List Int)
  | [] => []
  | c :: cs => (due T c).2 :: dueAll (due T c).1 cs
theorem played_due : ∀ (cs : List C1) (T : List Rule), Good T → (∀ c ∈ cs, Fit c) → PyFlat.played SpellNeutral.step (sortT T) (cs.map rawC) = dueAll T cs
  | [], _, _, _ => rfl
  | c :: cs, T, g, f => by
    obtain ⟨h1, h2⟩ := step_due g (f c List.mem_cons_self)
    show (SpellNeutral.step (sortT T) (rawC c)).2 :: PyFlat.played SpellNeutral.step (SpellNeutral.step (sortT T) (rawC c)).1 (cs.map rawC) = _
    rw [h1]
    show (due T c).2 :: PyFlat.played SpellNeutral.step (sortT (due T c).1) (cs.map rawC) = _
    rw [played_due cs _ h2 fun d hd => f d (List.mem_cons_of_mem _ hd)]
    rfl
theorem inside_fit {c : C1} (h1 : 1 ≤ c.1) (h2 : c.1 ≤ 7) (h : PyInside.call PyWqaibi.bound (rawC c) = true) (hv : rowless c.1 = true → c.2 = []) : Fit c := by
  obtain ⟨p, r⟩ := c
  have wz : ∀ {hi : Int} {x : Nat}, x ∈ r → ((zs r).all (PyInside.within 0 hi)) = true → (x : Int) ≤ hi := by
    intro hi x hx ha
    have := List.all_eq_true.mp ha (x : Int) (List.mem_map.mpr ⟨x, hx, rfl⟩)
    unfold PyInside.within at this
    simp at this
    exact this
  have : p = 1 ∨ p = 2 ∨ p = 3 ∨ p = 4 ∨ p = 5 ∨ p = 6 ∨ p = 7 := by simp only at h1 h2; omega
  rcases this with rfl | rfl | rfl | rfl | rfl | rfl | rfl
  · have := hv rfl
    simp only at this
    subst this
    exact ⟨h1, h2, by simp, by simp⟩
  · have h : (true && (decide (0 ≤ (zs r).length) && decide ((zs r).length ≤ 44900) && (zs r).all (PyInside.within 0 255) && true)) = true := h
    simp only [Bool.and_eq_true, decide_eq_true_eq, List.length_map] at h
    exact ⟨h1, h2, h.2.1.1.2, fun x hx => by have := wz hx h.2.1.2; show x ≤ 255; omega⟩
  · have := hv rfl
    simp only at this
    subst this
    exact ⟨h1, h2, by simp, by simp⟩
  · have h : (true && (decide (0 ≤ (zs r).length) && decide ((zs r).length ≤ 300) && (zs r).all (PyInside.within 0 2097151) && true)) = true := h
    simp only [Bool.and_eq_true, decide_eq_true_eq, List.length_map] at h
    exact ⟨h1, h2, h.2.1.1.2, fun x hx => by have := wz hx h.2.1.2; show x ≤ 2097151; omega⟩
  · have h : (true && (decide (0 ≤ (zs r).length) && decide ((zs r).length ≤ 300) && (zs r).all (PyInside.within 0 2097151) && true)) = true := h
    simp only [Bool.and_eq_true, decide_eq_true_eq, List.length_map] at h
    exact ⟨h1, h2, h.2.1.1.2, fun x hx => by have := wz hx h.2.1.2; show x ≤ 2097151; omega⟩
  · have h : (true && (decide (0 ≤ (zs r).length) && decide ((zs r).length ≤ 300) && (zs r).all (PyInside.within 0 2097151) && true)) = true := h
    simp only [Bool.and_eq_true, decide_eq_true_eq, List.length_map] at h
    exact ⟨h1, h2, h.2.1.1.2, fun x hx => by have := wz hx h.2.1.2; show x ≤ 2097151; omega⟩
  · have h : (true && (decide (0 ≤ (zs r).length) && decide ((zs r).length ≤ 20) && (zs r).all (PyInside.within 0 2097151) && true)) = true := h
    simp only [Bool.and_eq_true, decide_eq_true_eq, List.length_map] at h
    exact ⟨h1, h2, h.2.1.1.2, fun x hx => by have := wz hx h.2.1.2; show x ≤ 2097151; omega⟩
/-- a call without a row has none -/
def trim (c : C1) : C1 := if rowless c.1 = true then (c.1, []) else c
theorem trim_enc (c : C1) : encC (trim c) = encC c := by
  unfold trim encC
  by_cases h : rowless c.1 = true
  · rw [if_pos h, if_pos h, if_pos h]
  · rw [if_neg h]
theorem trim_raw (c : C1) : rawC (trim c) = rawC c := by
  unfold trim rawC
  by_cases h : rowless c.1 = true
  · rw [if_pos h, if_pos h, if_pos h]
  · rw [if_neg h]
theorem trim_1 (c : C1) : (trim c).1 = c.1 := by
  unfold trim
  split <;> rfl
theorem trim_2 (c : C1) : rowless (trim c).1 = true → (trim c).2 = [] := by
  intro h
  rw [trim_1] at h
  unfold trim
  rw [if_pos h]
/-- WHAT IS ASKED, and what is due -/
theorem asked_calls {ns : List Nat} (h : PyWqaibi.answers_asked (zs ns) = true) :
    ∃ cs : List C1, ns = cs.flatMap encC ∧ (∀ c ∈ cs, Fit c) ∧ (∀ c ∈ cs, rowless c.1 = true → c.2 = []) ∧ cs.length ≤ 300 ∧ PyWqaibi.answers (zs ns) = PyFlat.told (dueAll [] cs) ∧ (PyFlat.told (dueAll [] cs)).length ≤ 10000000 := by
  unfold PyWqaibi.answers_asked at h
  cases e : PyFlat.calls PyWqaibi.shape (zs ns).length (zs ns) with
  | none => rw [e] at h; cases h
  | some raw =>
    obtain ⟨cs0, k1, k2, k3⟩ := calls_nat _ ns e
    rw [e] at h
    have h : (PyFlat.atMost 300 raw && PyInside.calls PyWqaibi.bound raw && SpellNeutral.asked (raw.map PyWqaibi.whole) && PyFlat.short 10000000 (PyWqaibi.answers (zs ns))) = true := h
    simp only [Bool.and_eq_true] at h
    obtain ⟨⟨⟨h1, h2⟩, h3⟩, h4⟩ := h
    have w : (cs0.map rawC).map PyWqaibi.whole = cs0.map rawC := by
      rw [List.map_map]
      apply List.map_congr_left
      intro c hc
      exact whole_raw c (k3 c hc).1 (k3 c hc).2
    have ef : ∀ c ∈ cs0.map trim, Fit c := by
      intro c hc
      obtain ⟨d, hd, rfl⟩ := List.mem_map.mp hc
      have b := k3 d hd
      refine inside_fit (by rw [trim_1]; exact b.1) (by rw [trim_1]; exact b.2) ?_ (trim_2 d)
      rw [trim_raw]
      unfold PyInside.calls at h2
      rw [k1] at h2
      exact List.all_eq_true.mp h2 _ (List.mem_map.mpr ⟨d, hd, rfl⟩)
    have er : (cs0.map trim).map rawC = cs0.map rawC := by
      rw [List.map_map]
      apply List.map_congr_left
      intro c _
      exact trim_raw c
    have ea : PyWqaibi.answers (zs ns) = PyFlat.told (dueAll [] (cs0.map trim)) := by
      unfold PyWqaibi.answers PyWqaibi.calls
      rw [e]
      show PyFlat.told (PyFlat.played SpellNeutral.step SpellNeutral.start (raw.map PyWqaibi.whole)) = _
      rw [k1, w, ← er]
      rw [show SpellNeutral.start = sortT [] from rfl, played_due _ _ Good.nil ef]
    refine ⟨cs0.map trim, ?_, ef, fun c hc => ?_, ?_, ea, ?_⟩
    · rw [k2]
      rw [List.flatMap_map]
      congr 1
      funext c
      exact (trim_enc c).symm
    · obtain ⟨d, _, rfl⟩ := List.mem_map.mp hc
      exact trim_2 d
    · unfold PyFlat.atMost at h1
      rw [decide_eq_true_eq, k1, List.length_map] at h1
      rw [List.length_map]
      exact h1
    · rw [← ea]
      unfold PyFlat.short at h4
      exact of_decide_eq_true h4
end SpA
set_option linter.all false
namespace SpA
open Sy

/-! ### what is sure -/
theorem toldM {T : List Rule} (g : Good T) (c : Nat) (l : List Nat) : told T c l = stepM T c l := told_eq g (.refl T) c l
theorem sureFrom_cons {T : List Rule} (g : Good T) (n c : Nat) (l : List Nat) : sureFrom T (n + 1) (c :: l) = if waits T (c :: l) = true then ([], c :: l) else
    ((stepM T c l).1 ++ (sureFrom T n (stepM T c l).2).1, (sureFrom T n (stepM T c l).2).2) := by
  rw [← toldM g]
  rfl
theorem sureFrom_nil (T : List Rule) : ∀ n, sureFrom T n [] = ([], [])
  | 0 => rfl
  | _ + 1 => rfl
theorem sureFrom_fuel {T : List Rule} (g : Good T) : ∀ (n m : Nat) (l : List Nat), l.length ≤ n → l.length ≤ m → sureFrom T n l = sureFrom T m l
  | n, m, [], _, _ => by rw [sureFrom_nil, sureFrom_nil]
  | 0, _, _ :: _, h, _ => by simp at h
  | _, 0, _ :: _, _, h => by simp at h
  | n + 1, m + 1, c :: l, h1, h2 => by
    have := stepM_less g c l
    simp only [List.length_cons] at h1 h2
    rw [sureFrom_cons g, sureFrom_cons g, sureFrom_fuel g n m _ (by omega) (by omega)]
theorem sure_nil (T : List Rule) : sure T [] = ([], []) := rfl
theorem sure_wait {T : List Rule} {c : Nat} {l : List Nat} (h : waits T (c :: l) = true) : sure T (c :: l) = ([], c :: l) := by
  show (if waits T (c :: l) = true then ([], c :: l) else _) = _
  rw [if_pos h]
theorem sure_step {T : List Rule} (g : Good T) {c : Nat} {l : List Nat} (h : waits T (c :: l) = false) :
    sure T (c :: l) = ((stepM T c l).1 ++ (sure T (stepM T c l).2).1, (sure T (stepM T c l).2).2) := by
  show sureFrom T (l.length + 1) (c :: l) = _
  rw [sureFrom_cons g, if_neg (by rw [h]; decide), sureFrom_fuel g l.length _ _ (stepM_less g c l) (Nat.le_refl _)]
  rfl
/-- nothing, or a longer rule may still be meant -/
def halts (T : List Rule) (l : List Nat) : Bool := l.isEmpty || waits T l
theorem sure_halt {T : List Rule} : ∀ {l : List Nat}, halts T l = true → sure T l = ([], l)
  | [], _ => rfl
  | _ :: _, h => sure_wait h
theorem waits_iff {T : List Rule} {l : List Nat} : waits T l = true ↔ ∃ r ∈ T, l <+: r.letters ∧ l.length < r.letters.length := by
  unfold waits
  rw [List.any_eq_true]
  constructor
  · rintro ⟨r, h1, h2⟩
    rw [Bool.and_eq_true, List.isPrefixOf_iff_prefix, decide_eq_true_eq] at h2
    exact ⟨r, h1, h2⟩
  · rintro ⟨r, h1, h2⟩
    refine ⟨r, h1, ?_⟩
    rw [Bool.and_eq_true, List.isPrefixOf_iff_prefix, decide_eq_true_eq]
    exact h2
theorem sure_ind {T : List Rule} (g : Good T) {P : List Nat → Prop} (h0 : P []) (hw : ∀ c l, waits T (c :: l) = true → P (c :: l)) (hs : ∀ c l, waits T (c :: l) = false → P (stepM T c l).2 → P (c :: l)) :
    ∀ l, P l := by
  have : ∀ (n : Nat) (l : List Nat), l.length ≤ n → P l := by
    intro n
    induction n with
    | zero =>
      intro l hl
      cases l with
      | nil => exact h0
      | cons c l => simp at hl
    | succ n ih =>
      intro l hl
      cases l with
      | nil => exact h0
      | cons c l =>
        cases e : waits T (c :: l) with
        | true => exact hw c l e
        | false =>
          refine hs c l e (ih _ ?_)
          have := stepM_less g c l
          simp only [List.length_cons] at hl
          omega
  exact fun l => this l.length l (Nat.le_refl _)
theorem sure_halts {T : List Rule} (g : Good T) (l : List Nat) : halts T (sure T l).2 = true := by
  refine sure_ind g (P := fun l => halts T (sure T l).2 = true) rfl (fun c l h => ?_) (fun c l h ih => ?_) l
  · rw [sure_wait h]
    show (false || waits T (c :: l)) = true
    rw [h]; rfl
  · rw [sure_step g h]
    exact ih
theorem sure_less {T : List Rule} (g : Good T) (l : List Nat) : (sure T l).2.length ≤ l.length := by
  refine sure_ind g (P := fun l => (sure T l).2.length ≤ l.length) (Nat.le_refl _) (fun c l h => ?_) (fun c l h ih => ?_) l
  · rw [sure_wait h]; exact Nat.le_refl _
  · rw [sure_step g h]
    have := stepM_less g c l
    simp only [List.length_cons]
    exact Nat.le_trans ih (by omega)
theorem sure_told {T : List Rule} (g : Good T) (l : List Nat) : (sure T l).1.length ≤ 4 * l.length := by
  refine sure_ind g (P := fun l => (sure T l).1.length ≤ 4 * l.length) (Nat.le_refl _) (fun c l h => ?_) (fun c l h ih => ?_) l
  · rw [sure_wait h]; exact Nat.zero_le _
  · rw [sure_step g h]
    have := stepM_less g c l
    have := stepM_told g c l
    show ((stepM T c l).1 ++ (sure T (stepM T c l).2).1).length ≤ _
    rw [List.length_append]
    simp only [List.length_cons]
    omega
/-- the longest of a row is the longest with more behind it, where no longer rule fits -/
theorem longest_more {T : List Rule} (g : Good T) {l m : List Nat} (h : ∀ q ∈ T, q.letters <+: l ++ m → q.letters <+: l) : longestM T (l ++ m) = longestM T l := by
  cases e : longestM T l with
  | none =>
    cases f : longestM T (l ++ m) with
    | none => rfl
    | some r =>
      have hr := longestM_some g f
      exact absurd (h r hr.1 hr.2.1) (longestM_none g e r hr.1)
  | some q =>
    have hq := longestM_some g e
    have hq2 : IsLongest T (l ++ m) q := ⟨hq.1, hq.2.1.trans (List.prefix_append _ _), fun p hp hpr => hq.2.2 p hp (h p hp hpr)⟩
    cases f : longestM T (l ++ m) with
    | none => exact absurd hq2.2.1 (longestM_none g f q hq2.1)
    | some r => rw [(longestM_some g f).unique g hq2]
theorem step_more {T : List Rule} (g : Good T) {c : Nat} {l m : List Nat} (h : ∀ q ∈ T, q.letters <+: (c :: l) ++ m → q.letters <+: c :: l) : stepM T c (l ++ m) = ((stepM T c l).1, (stepM T c l).2 ++ m) := by
  have e := longest_more g h
  rw [List.cons_append] at e
  unfold stepM
  rw [e]
  cases f : longestM T (c :: l) with
  | none => rfl
  | some r =>
    have hr := (longestM_some g f).2.1.length_le
    show (r.sounds, r.back ++ (c :: (l ++ m)).drop r.letters.length) = (r.sounds, r.back ++ (c :: l).drop r.letters.length ++ m)
    rw [← List.cons_append, List.drop_append_of_le_length hr, List.append_assoc]
theorem no_wait_more {T : List Rule} {l m : List Nat} (h : waits T l = false) : waits T (l ++ m) = false := by
  cases e : waits T (l ++ m) with
  | false => rfl
  | true =>
    obtain ⟨r, h1, h2, h3⟩ := waits_iff.mp e
    have : waits T l = true := waits_iff.mpr ⟨r, h1, (List.prefix_append _ _).trans h2, by rw [List.length_append] at h3; omega⟩
    rw [h] at this
    cases this
theorem no_longer {T : List Rule} {l m : List Nat} (h : waits T l = false) : ∀ q ∈ T, q.letters <+: l ++ m → q.letters <+: l := by
  intro q hq hp
  rcases List.prefix_or_prefix_of_prefix hp (List.prefix_append l m) with k | k
  · exact k
  · rcases Nat.lt_or_ge l.length q.letters.length with z | z
    · have : waits T l = true := waits_iff.mpr ⟨q, hq, k, z⟩
      rw [h] at this
      cases this
    · rw [k.eq_of_length (by have := k.length_le; omega)]
      exact List.prefix_refl _
/-- A1: letter by letter or at once -/
theorem sure_append {T : List Rule} (g : Good T) (l m : List Nat) : sure T (l ++ m) = ((sure T l).1 ++ (sure T ((sure T l).2 ++ m)).1, (sure T ((sure T l).2 ++ m)).2) := by
  refine sure_ind g (P := fun l => sure T (l ++ m) = ((sure T l).1 ++ (sure T ((sure T l).2 ++ m)).1, (sure T ((sure T l).2 ++ m)).2)) rfl (fun c l h => ?_) (fun c l h ih => ?_) l
  · rw [sure_wait h]
    rfl
  · have e := step_more g (m := m) (no_longer h)
    have h2 : waits T (c :: (l ++ m)) = false := no_wait_more h
    rw [List.cons_append, sure_step g h2, e, sure_step g h]
    show ((stepM T c l).1 ++ (sure T ((stepM T c l).2 ++ m)).1, (sure T ((stepM T c l).2 ++ m)).2) = _
    rw [ih]
    simp only [List.append_assoc]
theorem spelled_sure {T : List Rule} (g : Good T) (l : List Nat) : spelled T l = (sure T l).1 ++ spelled T (sure T l).2 := by
  refine sure_ind g (P := fun l => spelled T l = (sure T l).1 ++ spelled T (sure T l).2) rfl (fun c l h => ?_) (fun c l h ih => ?_) l
  · rw [sure_wait h]
    rfl
  · rw [spelled_cons g, sure_step g h, ih]
    simp only [List.append_assoc]
/-- a letter told costs six letters at most -/
theorem step_cost {T : List Rule} (g : Good T) (c : Nat) (l : List Nat) : l.length + 1 ≤ (stepM T c l).2.length + 6 ∧ 1 ≤ (stepM T c l).1.length := by
  unfold stepM
  cases e : longestM T (c :: l) with
  | none => simp
  | some r =>
    have h := longestM_some g e
    have h1 := (short_iff.mp (g.short r h.1)).1
    have h3 := List.length_pos_iff.mpr (g.sne r h.1)
    have h2 := h.2.1.length_le
    show l.length + 1 ≤ (r.back ++ (c :: l).drop r.letters.length).length + 6 ∧ 1 ≤ r.sounds.length
    rw [List.length_append, List.length_drop]
    simp only [List.length_cons] at h2 ⊢
    omega
theorem spelled_cost {T : List Rule} (g : Good T) : ∀ (n : Nat) (l : List Nat), l.length ≤ n → l.length ≤ 6 * (spelled T l).length
  | _, [], _ => Nat.zero_le _
  | 0, _ :: _, h => by simp at h
  | n + 1, c :: l, h => by
    rw [spelled_cons g, List.length_append]
    have h1 := step_cost g c l
    have h2 := stepM_less g c l
    simp only [List.length_cons] at h ⊢
    have := spelled_cost g n (stepM T c l).2 (by omega)
    omega
end SpA
set_option linter.all false
namespace SpA
open Sy

/-! ### a letter that comes behind open letters -/
/-- what the open letters give when no rule goes on -/
def given (T : List Rule) : List Nat → List Nat × List Nat
  | [] => ([], [])
  | c :: l => ((stepM T c l).1 ++ (sure T (stepM T c l).2).1, (sure T (stepM T c l).2).2)
/-- the letter leads on -/
def isWay (T : List Rule) (o : List Nat) (c : Nat) : Bool := (o.isEmpty && isLetter c) || T.any fun (r : Rule) => (o ++ [c]).isPrefixOf r.letters
theorem isWay_iff {T : List Rule} {o : List Nat} {c : Nat} : isWay T o c = true ↔ (o = [] ∧ isLetter c = true) ∨ ∃ r ∈ T, o ++ [c] <+: r.letters := by
  unfold isWay
  rw [Bool.or_eq_true, Bool.and_eq_true, List.isEmpty_iff, List.any_eq_true]
  constructor
  · rintro (h | ⟨r, h1, h2⟩)
    · exact .inl h
    · exact .inr ⟨r, h1, List.isPrefixOf_iff_prefix.mp h2⟩
  · rintro (h | ⟨r, h1, h2⟩)
    · exact .inl h
    · exact .inr ⟨r, h1, List.isPrefixOf_iff_prefix.mpr h2⟩
theorem way_letter {T : List Rule} (g : Good T) {o : List Nat} {c : Nat} (h : isWay T o c = true) : isLetter c = true := by
  rcases isWay_iff.mp h with h | ⟨r, h1, h2⟩
  · exact h.2
  · have := g.lets r h1
    exact List.all_eq_true.mp this c (h2.subset (by simp))
theorem given_less {T : List Rule} (g : Good T) : ∀ {o : List Nat}, o ≠ [] → (given T o).2.length < o.length
  | [], h => absurd rfl h
  | c :: l, _ => by
    have h1 := stepM_less g c l
    have h2 := sure_less g (stepM T c l).2
    show (sure T (stepM T c l).2).2.length < l.length + 1
    omega
theorem given_halts {T : List Rule} (g : Good T) : ∀ (o : List Nat), halts T (given T o).2 = true
  | [] => rfl
  | c :: l => sure_halts g _
theorem given_told {T : List Rule} (g : Good T) : ∀ (o : List Nat), (given T o).1.length ≤ 4 * o.length
  | [] => Nat.zero_le _
  | c :: l => by
    have h1 := stepM_less g c l
    have h2 := sure_told g (stepM T c l).2
    have h3 := stepM_told g c l
    show ((stepM T c l).1 ++ (sure T (stepM T c l).2).1).length ≤ 4 * (l.length + 1)
    rw [List.length_append]
    omega
theorem given_on {T : List Rule} (g : Good T) : ∀ {o : List Nat} {c : Nat}, o ≠ [] → isWay T o c = false →
    sure T (o ++ [c]) = ((given T o).1 ++ (sure T ((given T o).2 ++ [c])).1, (sure T ((given T o).2 ++ [c])).2)
  | [], _, h, _ => absurd rfl h
  | a :: l, c, _, h => by
    have nw : ¬ ∃ r ∈ T, (a :: l) ++ [c] <+: r.letters := fun q => by
      have := isWay_iff.mpr (.inr q)
      rw [h] at this
      cases this
    have hw : waits T (a :: (l ++ [c])) = false := by
      cases e : waits T (a :: (l ++ [c])) with
      | false => rfl
      | true =>
        obtain ⟨r, h1, h2, -⟩ := waits_iff.mp e
        exact absurd ⟨r, h1, h2⟩ nw
    have hl : ∀ q ∈ T, q.letters <+: (a :: l) ++ [c] → q.letters <+: a :: l := by
      intro q hq hp
      rcases List.prefix_or_prefix_of_prefix hp (List.prefix_append (a :: l) [c]) with k | k
      · exact k
      · rcases Nat.lt_or_ge (a :: l).length q.letters.length with z | z
        · exfalso
          apply nw
          refine ⟨q, hq, ?_⟩
          have := hp.length_le
          rw [List.length_append, List.length_singleton] at this
          rw [hp.eq_of_length (by rw [List.length_append, List.length_singleton]; omega)]
          exact List.prefix_refl _
        · rw [k.eq_of_length (by have := k.length_le; omega)]
          exact List.prefix_refl _
    rw [List.cons_append, sure_step g hw, step_more g hl]
    show ((stepM T a l).1 ++ (sure T ((stepM T a l).2 ++ [c])).1, (sure T ((stepM T a l).2 ++ [c])).2) = _
    rw [sure_append g]
    simp only [given, List.append_assoc]

/-! ### sounds told, a step, the chain -/
/-- how many are told with some more; none: others come next -/
def toldB (s : List Nat) (t : Nat) (more : List Nat) : Option Nat := if (s.drop t).take more.length = more then some (t + more.length) else none
theorem toldB_some {s more : List Nat} {t u : Nat} : toldB s t more = some u ↔ more <+: s.drop t ∧ u = t + more.length := by
  unfold toldB
  constructor
  · intro h
    split at h
    · next e => exact ⟨by rw [← e]; exact List.take_prefix _ _, (Option.some.inj h).symm⟩
    · cases h
  · rintro ⟨h1, h2⟩
    rw [if_pos (List.prefix_iff_eq_take.mp h1).symm, h2]
theorem toldB_none {s more : List Nat} {t : Nat} : toldB s t more = none ↔ ¬ more <+: s.drop t := by
  unfold toldB
  constructor
  · intro h
    split at h
    · cases h
    · next e => exact fun q => e (List.prefix_iff_eq_take.mp q).symm
  · intro h
    rw [if_neg fun e => h (by rw [← e]; exact List.take_prefix _ _)]
theorem toldB_append (s a b : List Nat) (t : Nat) : toldB s t (a ++ b) = (toldB s t a).bind fun u => toldB s u b := by
  cases e : toldB s t a with
  | none =>
    rw [Option.bind_none, toldB_none]
    intro q
    exact toldB_none.mp e ((List.prefix_append a b).trans q)
  | some u =>
    obtain ⟨⟨z, hz⟩, rfl⟩ := toldB_some.mp e
    rw [Option.bind_some]
    have ez : s.drop (t + a.length) = z := by
      rw [← List.drop_drop, ← hz]
      simp
    cases f : toldB s (t + a.length) b with
    | none =>
      rw [toldB_none] at f ⊢
      intro q
      apply f
      rw [ez]
      rw [← hz] at q
      exact (List.prefix_append_right_inj a).mp q
    | some w =>
      obtain ⟨h1, rfl⟩ := toldB_some.mp f
      rw [toldB_some]
      refine ⟨?_, by rw [List.length_append]; omega⟩
      rw [← hz]
      rw [ez] at h1
      exact (List.prefix_append_right_inj a).mpr h1
theorem toldB_le {s more : List Nat} {t u : Nat} (h : toldB s t more = some u) (ht : t ≤ s.length) : u ≤ s.length := by
  obtain ⟨h1, h2⟩ := toldB_some.mp h
  have := h1.length_le
  rw [List.length_drop] at this
  omega
/-- what is open, how many sounds are told -/
abbrev St := List Nat × Nat
/-- a letter more -/
def onM (T : List Rule) (s : List Nat) (w : St) (c : Nat) : Option St := (toldB s w.2 (sure T (w.1 ++ [c])).1).map fun u => ((sure T (w.1 ++ [c])).2, u)
def chainF (T : List Rule) (s : List Nat) : Nat → St → List St
  | 0, w => [w]
  | n + 1, w => if w.1 = [] then [w] else match toldB s w.2 (given T w.1).1 with
    | none => [w]
    | some t => w :: chainF T s n ((given T w.1).2, t)
def chainM (T : List Rule) (s : List Nat) (w : St) : List St := chainF T s w.1.length w
theorem chainF_fuel {T : List Rule} (g : Good T) (s : List Nat) : ∀ (n m : Nat) (w : St), w.1.length ≤ n → w.1.length ≤ m → chainF T s n w = chainF T s m w
  | 0, 0, _, _, _ => rfl
  | 0, m + 1, w, h, _ => by
    have : w.1 = [] := List.eq_nil_of_length_eq_zero (by omega)
    unfold chainF
    rw [if_pos this]
  | n + 1, 0, w, _, h => by
    have : w.1 = [] := List.eq_nil_of_length_eq_zero (by omega)
    unfold chainF
    rw [if_pos this]
  | n + 1, m + 1, w, h1, h2 => by
    show (if w.1 = [] then [w] else match toldB s w.2 (given T w.1).1 with
      | none => [w]
      | some t => w :: chainF T s n ((given T w.1).2, t)) = (if w.1 = [] then [w] else match toldB s w.2 (given T w.1).1 with
      | none => [w]
      | some t => w :: chainF T s m ((given T w.1).2, t))
    by_cases c : w.1 = []
    · rw [if_pos c, if_pos c]
    · rw [if_neg c, if_neg c]
      have := given_less g c
      cases toldB s w.2 (given T w.1).1 with
      | none => rfl
      | some t =>
        show w :: _ = w :: _
        rw [chainF_fuel g s n m _ (by show (given T w.1).2.length ≤ n; omega) (by show (given T w.1).2.length ≤ m; omega)]
theorem chain_nil (T : List Rule) (s : List Nat) {w : St} (h : w.1 = []) : chainM T s w = [w] := by
  unfold chainM
  rw [h]
  rfl
theorem chain_cons {T : List Rule} (g : Good T) (s : List Nat) {w : St} (h : w.1 ≠ []) : chainM T s w = match toldB s w.2 (given T w.1).1 with
    | none => [w]
    | some t => w :: chainM T s ((given T w.1).2, t) := by
  have hl := given_less g h
  unfold chainM
  rw [chainF_fuel g s w.1.length (w.1.length + 1) w (Nat.le_refl _) (by omega)]
  show (if w.1 = [] then [w] else match toldB s w.2 (given T w.1).1 with
      | none => [w]
      | some t => w :: chainF T s w.1.length ((given T w.1).2, t)) = _
  rw [if_neg h]
  cases toldB s w.2 (given T w.1).1 with
  | none => rfl
  | some t =>
    show w :: chainF T s w.1.length _ = w :: chainF T s (given T w.1).2.length _
    rw [chainF_fuel g s w.1.length (given T w.1).2.length _ (by show (given T w.1).2.length ≤ _; omega) (Nat.le_refl _)]
theorem chain_ind {T : List Rule} (g : Good T) (s : List Nat) {P : St → List St → Prop} (h0 : ∀ w, w.1 = [] → P w [w]) (h1 : ∀ w, w.1 ≠ [] → toldB s w.2 (given T w.1).1 = none → P w [w])
    (h2 : ∀ w t, w.1 ≠ [] → toldB s w.2 (given T w.1).1 = some t → P ((given T w.1).2, t) (chainM T s ((given T w.1).2, t)) → P w (w :: chainM T s ((given T w.1).2, t))) : ∀ w, P w (chainM T s w) := by
  have : ∀ (n : Nat) (w : St), w.1.length ≤ n → P w (chainM T s w) := by
    intro n
    induction n with
    | zero =>
      intro w hw
      have e : w.1 = [] := List.eq_nil_of_length_eq_zero (by omega)
      rw [chain_nil T s e]
      exact h0 w e
    | succ n ih =>
      intro w hw
      by_cases e : w.1 = []
      · rw [chain_nil T s e]
        exact h0 w e
      · rw [chain_cons g s e]
        cases f : toldB s w.2 (given T w.1).1 with
        | none => exact h1 w e f
        | some t =>
          refine h2 w t e f (ih _ ?_)
          have := given_less g e
          show (given T w.1).2.length ≤ n
          omega
  exact fun w => this w.1.length w (Nat.le_refl _)
/-- where a letter leads is told by the first of the chain that has a way for it -/
theorem chain_on {T : List Rule} (g : Good T) (s : List Nat) {c : Nat} (hc : isLetter c = true) : ∀ w, onM T s w c = match (chainM T s w).find? (fun h => isWay T h.1 c) with
    | some h => onM T s h c
    | none => none := by
  refine chain_ind g s (P := fun w l => onM T s w c = match l.find? (fun h => isWay T h.1 c) with
    | some h => onM T s h c
    | none => none) (fun w h => ?_) (fun w h f => ?_) (fun w t h f ih => ?_)
  · have : isWay T w.1 c = true := isWay_iff.mpr (.inl ⟨h, hc⟩)
    rw [List.find?_cons, this]
  · rw [List.find?_cons]
    cases e : isWay T w.1 c with
    | true => rfl
    | false =>
      show onM T s w c = none
      unfold onM
      rw [given_on g h e]
      show Option.map _ (toldB s w.2 ((given T w.1).1 ++ (sure T ((given T w.1).2 ++ [c])).1)) = none
      rw [toldB_append, f]
      rfl
  · rw [List.find?_cons]
    cases e : isWay T w.1 c with
    | true => rfl
    | false =>
      show onM T s w c = match (chainM T s ((given T w.1).2, t)).find? (fun h => isWay T h.1 c) with
        | some h => onM T s h c
        | none => none
      rw [← ih]
      unfold onM
      rw [given_on g h e]
      show Option.map _ (toldB s w.2 ((given T w.1).1 ++ (sure T ((given T w.1).2 ++ [c])).1)) = _
      rw [toldB_append, f]
      rfl
theorem chain_halts {T : List Rule} (g : Good T) (s : List Nat) : ∀ w : St, halts T w.1 = true → ∀ h ∈ chainM T s w, halts T h.1 = true := by
  refine chain_ind g s (P := fun w l => halts T w.1 = true → ∀ h ∈ l, halts T h.1 = true) (fun w h q => ?_) (fun w h f q => ?_) (fun w t h f ih q => ?_)
  · intro h hh; rw [List.mem_singleton.mp hh]; exact q
  · intro h hh; rw [List.mem_singleton.mp hh]; exact q
  · intro k hk
    rcases List.mem_cons.mp hk with rfl | hk
    · exact q
    · exact ih (given_halts g _) k hk
theorem chain_told {T : List Rule} (g : Good T) (s : List Nat) : ∀ w : St, w.2 ≤ s.length → ∀ h ∈ chainM T s w, h.2 ≤ s.length := by
  refine chain_ind g s (P := fun w l => w.2 ≤ s.length → ∀ h ∈ l, h.2 ≤ s.length) (fun w h q => ?_) (fun w h f q => ?_) (fun w t h f ih q => ?_)
  · intro h hh; rw [List.mem_singleton.mp hh]; exact q
  · intro h hh; rw [List.mem_singleton.mp hh]; exact q
  · intro k hk
    rcases List.mem_cons.mp hk with rfl | hk
    · exact q
    · exact ih (toldB_le f q) k hk
theorem chain_len {T : List Rule} (g : Good T) (s : List Nat) : ∀ w : St, (chainM T s w).length ≤ w.1.length + 1 := by
  refine chain_ind g s (P := fun w l => l.length ≤ w.1.length + 1) (fun w h => ?_) (fun w h f => ?_) (fun w t h f ih => ?_)
  · simp
  · simp
  · have := given_less g h
    rw [List.length_cons]
    have ih : (chainM T s ((given T w.1).2, t)).length ≤ (given T w.1).2.length + 1 := ih
    omega
theorem onM_le {T : List Rule} {s : List Nat} {w st : St} {c : Nat} (h : onM T s w c = some st) (hw : w.2 ≤ s.length) : st.2 ≤ s.length := by
  unfold onM at h
  cases e : toldB s w.2 (sure T (w.1 ++ [c])).1 with
  | none => rw [e] at h; cases h
  | some u =>
    rw [e] at h
    have h := Option.some.inj h
    subst h
    exact toldB_le e hw
theorem onM_halts {T : List Rule} (g : Good T) {s : List Nat} {w st : St} {c : Nat} (h : onM T s w c = some st) : halts T st.1 = true := by
  unfold onM at h
  cases e : toldB s w.2 (sure T (w.1 ++ [c])).1 with
  | none => rw [e] at h; cases h
  | some u =>
    rw [e] at h
    have h := Option.some.inj h
    subst h
    exact sure_halts g _
end SpA
set_option linter.all false
namespace SpA
open Sy

/-! ### the search for the letters that are told -/
/-- a state with the letters by which it was come to -/
abbrev Row := St × List Nat
def letters94 : List Nat := (List.range 0x5E).map fun (k : Nat) => 0x21 + k
theorem mem94 {c : Nat} : c ∈ letters94 ↔ isLetter c = true := by
  unfold letters94 isLetter
  rw [List.mem_map, Bool.and_eq_true, decide_eq_true_eq, decide_eq_true_eq]
  constructor
  · rintro ⟨k, hk, rfl⟩
    rw [List.mem_range] at hk
    omega
  · intro h
    exact ⟨c - 0x21, by rw [List.mem_range]; omega, by omega⟩
def outs (T : List Rule) (s : List Nat) (w : St) : List (Nat × St) := letters94.filterMap fun c => (onM T s w c).map fun st => (c, st)
def addAll (row : List Nat) : List Row → List (Nat × St) → List Row
  | q, [] => q
  | q, x :: r => if (q.any fun p => p.1 == x.2) = true then addAll row q r else addAll row (q ++ [(x.2, row ++ [x.1])]) r
def seek (T : List Rule) (s : List Nat) : Nat → List Row → Nat → Option (List Nat)
  | 0, _, _ => none
  | n + 1, q, k => match q[k]? with
    | none => none
    | some w => if spelled T w.1.1 = s.drop w.1.2 then some w.2 else seek T s n (addAll w.2 q (outs T s w.1)) (k + 1)

/-! ### against the specification's levels -/
def conv (w : Typing) : Row := ((w.open_, w.told), w.letters)
def addT (q : List Row) (L : List Typing) : List Row := L.foldl (fun q w => if (q.any fun p => p.1 == (conv w).1) = true then q else q ++ [conv w]) q
theorem addT_append (q : List Row) (L M : List Typing) : addT q (L ++ M) = addT (addT q L) M := List.foldl_append
theorem addT_more : ∀ (L : List Typing) (q : List Row), ∃ more, addT q L = q ++ more
  | [], q => ⟨[], by simp [addT]⟩
  | w :: L, q => by
    show ∃ more, addT (if (q.any fun p => p.1 == (conv w).1) = true then q else q ++ [conv w]) L = q ++ more
    split
    · exact addT_more L q
    · obtain ⟨m, e⟩ := addT_more L (q ++ [conv w])
      exact ⟨conv w :: m, by rw [e, List.append_assoc]; rfl⟩
def stepT (x : List (Text × Nat) × List Typing) (w : Typing) : List (Text × Nat) × List Typing := if x.1.contains (w.open_, w.told) = true then x else ((w.open_, w.told) :: x.1, x.2 ++ [w])
theorem typingOn_step (T : Table) (s keys : Text) (had : List (Text × Nat)) (now : List Typing) : typingOn T s keys had now = (now.flatMap fun (w : Typing) => keys.filterMap (w.on T s)).foldl stepT (had, []) := rfl
theorem fold_had : ∀ (L : List Typing) (had : List (Text × Nat)) (new : List Typing) (q : List Row), (∀ st : St, had.contains st = q.any fun p => p.1 == st) →
    ∃ more, (L.foldl stepT (had, new)).2 = new ++ more ∧ addT q L = q ++ more.map conv ∧ ∀ st : St, (L.foldl stepT (had, new)).1.contains st = (addT q L).any fun p => p.1 == st
  | [], had, new, q, h => ⟨[], by simp, by simp [addT], h⟩
  | w :: L, had, new, q, h => by
    rw [List.foldl_cons]
    have hw := h (w.open_, w.told)
    show ∃ more, (L.foldl stepT (stepT (had, new) w)).2 = new ++ more ∧ addT (if (q.any fun p => p.1 == (conv w).1) = true then q else q ++ [conv w]) L = q ++ more.map conv ∧
      ∀ st : St, (L.foldl stepT (stepT (had, new) w)).1.contains st = (addT (if (q.any fun p => p.1 == (conv w).1) = true then q else q ++ [conv w]) L).any fun p => p.1 == st
    have e2 : stepT (had, new) w = if had.contains (w.open_, w.told) = true then (had, new) else ((w.open_, w.told) :: had, new ++ [w]) := rfl
    by_cases c : had.contains (w.open_, w.told) = true
    · rw [e2, if_pos c]
      have c2 : (q.any fun p => p.1 == (conv w).1) = true := by rw [← c, hw]; rfl
      rw [if_pos c2]
      exact fold_had L had new q h
    · rw [e2, if_neg c]
      have c2 : ¬ (q.any fun p => p.1 == (conv w).1) = true := by
        intro z
        apply c
        rw [hw]
        exact z
      rw [if_neg c2]
      obtain ⟨m, h1, h2, h3⟩ := fold_had L ((w.open_, w.told) :: had) (new ++ [w]) (q ++ [conv w]) (fun st => by
        rw [List.contains_cons, List.any_append, h st, List.any_cons, List.any_nil, Bool.or_false, Bool.or_comm]
        congr 1
        show ((st : St) == (w.open_, w.told)) = (((w.open_, w.told) : St) == st)
        exact BEq.comm)
      refine ⟨w :: m, by rw [h1, List.append_assoc]; rfl, by rw [h2, List.append_assoc]; rfl, h3⟩
theorem on_M (T : Table) (s : Text) (w : Typing) (c : Nat) : w.on T s c = (onM T s (conv w).1 c).map fun st => Typing.mk st.1 st.2 (w.letters ++ [c]) := by
  show (if (sure T (w.open_ ++ [c])).1.isPrefixOf (s.drop w.told) = true then some (Typing.mk (sure T (w.open_ ++ [c])).2 (w.told + (sure T (w.open_ ++ [c])).1.length) (w.letters ++ [c])) else none) = ((toldB s w.told (sure T (w.open_ ++ [c])).1).map fun u => ((sure T (w.open_ ++ [c])).2, u)).map _
  by_cases h : (sure T (w.open_ ++ [c])).1.isPrefixOf (s.drop w.told) = true
  · rw [if_pos h, toldB_some.mpr ⟨List.isPrefixOf_iff_prefix.mp h, rfl⟩]
    rfl
  · rw [if_neg h, toldB_none.mpr fun q => h (List.isPrefixOf_iff_prefix.mpr q)]
    rfl
/-- a letter that is in no rule is told alone -/
theorem lone {T : List Rule} (g : Good T) {c : Nat} (h : ∀ r ∈ T, c ∉ r.letters) : ∀ (n : Nat) (l : List Nat), l.length ≤ n → ∃ y, sure T (l ++ [c]) = (y ++ [c], [])
  | _, [], _ => by
    have hw : waits T [c] = false := by
      cases e : waits T [c] with
      | false => rfl
      | true =>
        obtain ⟨r, h1, h2, -⟩ := waits_iff.mp e
        exact absurd (h2.subset (by simp)) (h r h1)
    have hl : longestM T [c] = none := by
      cases e : longestM T [c] with
      | none => rfl
      | some r =>
        have hr := longestM_some g e
        have hn := g.ne r hr.1
        cases q : r.letters with
        | nil => exact absurd q hn
        | cons a l =>
          have h2 := hr.2.1
          rw [q] at h2
          have := (List.cons_prefix_cons.mp h2).1
          subst this
          exact absurd (by rw [q]; exact List.mem_cons_self) (h r hr.1)
    refine ⟨[], ?_⟩
    show sure T [c] = _
    rw [sure_step g hw]
    unfold stepM
    rw [hl]
    rfl
  | 0, _ :: _, hl => by simp at hl
  | n + 1, a :: l, hl => by
    have hn : isWay T (a :: l) c = false := by
      cases e : isWay T (a :: l) c with
      | false => rfl
      | true =>
        rcases isWay_iff.mp e with ⟨z, -⟩ | ⟨r, h1, h2⟩
        · cases z
        · exact absurd (h2.subset (by simp)) (h r h1)
    have hne : a :: l ≠ [] := by intro z; cases z
    rw [given_on g hne hn]
    have := given_less g hne
    obtain ⟨y, e⟩ := lone g h n (given T (a :: l)).2 (by omega)
    rw [e]
    exact ⟨(given T (a :: l)).1 ++ y, by rw [List.append_assoc]⟩
theorem onM_key {T : List Rule} (g : Good T) {s : List Nat} {c : Nat} (w : St) (h : (s.contains c || T.any fun (r : Rule) => r.letters.contains c) = false) : onM T s w c = none := by
  rw [Bool.or_eq_false_iff] at h
  obtain ⟨y, e⟩ := lone g (c := c) (fun r hr => by
    have := List.any_eq_false.mp h.2 r hr
    simpa using this) w.1.length w.1 (Nat.le_refl _)
  unfold onM
  rw [e, toldB_none.mpr]
  · rfl
  · intro q
    have : c ∈ s := List.mem_of_mem_drop (q.subset (by simp))
    have h1 := h.1
    simp [this] at h1
theorem add_keys {T : List Rule} (g : Good T) (s : List Nat) (w : Typing) : ∀ (ls : List Nat) (q : List Row),
    addAll w.letters q (ls.filterMap fun c => (onM T s (conv w).1 c).map fun st => (c, st)) = addT q ((ls.filter fun (c : Nat) => s.contains c || T.any fun (r : Rule) => r.letters.contains c).filterMap (w.on T s))
  | [], q => rfl
  | c :: ls, q => by
    cases e : onM T s (conv w).1 c with
    | none =>
      rw [List.filterMap_cons_none (by rw [e]; rfl), add_keys g s w ls q]
      by_cases k : (s.contains c || T.any fun (r : Rule) => r.letters.contains c) = true
      · rw [List.filter_cons_of_pos (by exact k), List.filterMap_cons_none (by rw [on_M, e]; rfl)]
      · rw [List.filter_cons_of_neg (by exact k)]
    | some st =>
      have k : (s.contains c || T.any fun (r : Rule) => r.letters.contains c) = true := by
        cases f : (s.contains c || T.any fun (r : Rule) => r.letters.contains c) with
        | true => rfl
        | false =>
          rw [onM_key g _ f] at e
          cases e
      rw [List.filterMap_cons_some (b := (c, st)) (by rw [e]; rfl), List.filter_cons_of_pos (by exact k), List.filterMap_cons_some (b := ⟨st.1, st.2, w.letters ++ [c]⟩) (by rw [on_M, e]; rfl)]
      show (if (q.any fun p => p.1 == st) = true then addAll w.letters q _ else addAll w.letters (q ++ [(st, w.letters ++ [c])]) _) = addT (if (q.any fun p => p.1 == st) = true then q else q ++ [(st, w.letters ++ [c])]) _
      split
      · exact add_keys g s w ls q
      · exact add_keys g s w ls _
theorem outs_keys {T : List Rule} (g : Good T) (s : List Nat) (w : Typing) (q : List Row) : addAll w.letters q (outs T s (conv w).1) = addT q ((keysFor T s).filterMap (w.on T s)) := add_keys g s w letters94 q
/-! ### a level -/
def compl (T : List Rule) (s : List Nat) (w : Typing) : Bool := spelled T w.open_ == s.drop w.told
theorem seek_one {T : List Rule} {s : List Nat} (n : Nat) (q : List Row) (k : Nat) (w : Row) (h : q[k]? = some w) : seek T s (n + 1) q k = if spelled T w.1.1 = s.drop w.1.2 then some w.2 else seek T s n (addAll w.2 q (outs T s w.1)) (k + 1) := by
  show (match q[k]? with | none => none | some w => _) = _
  rw [h]
theorem seek_level {T : List Rule} (g : Good T) (s : List Nat) : ∀ (now : List Typing) (done new : List Row) (m : Nat), (∀ w ∈ now, compl T s w = false) →
    seek T s (now.length + m) (done ++ now.map conv ++ new) done.length = seek T s m (addT (done ++ now.map conv ++ new) (now.flatMap fun w => (keysFor T s).filterMap (w.on T s))) (done.length + now.length)
  | [], done, new, m, _ => by
    simp [addT]
  | w :: now, done, new, m, h => by
    have e1 : (done ++ (w :: now).map conv ++ new)[done.length]? = some (conv w) := by
      rw [List.append_assoc, List.getElem?_append_right (Nat.le_refl _), Nat.sub_self]
      rfl
    have hw := h w List.mem_cons_self
    rw [show (w :: now).length + m = (now.length + m) + 1 by rw [List.length_cons]; omega, seek_one _ _ _ _ e1]
    rw [if_neg (by
      intro z
      have : compl T s w = true := by
        unfold compl
        rw [beq_iff_eq]
        exact z
      rw [hw] at this
      cases this)]
    show seek T s (now.length + m) (addAll w.letters _ (outs T s (conv w).1)) (done.length + 1) = _
    rw [outs_keys g, List.flatMap_cons, addT_append]
    obtain ⟨more, e2⟩ := addT_more ((keysFor T s).filterMap (w.on T s)) (done ++ (w :: now).map conv ++ new)
    rw [e2]
    have e3 : done ++ (w :: now).map conv ++ new ++ more = (done ++ [conv w]) ++ now.map conv ++ (new ++ more) := by
      simp [List.append_assoc]
    rw [e3]
    have e4 : (done ++ [conv w]).length = done.length + 1 := by simp
    have ih := seek_level g s now (done ++ [conv w]) (new ++ more) m fun v hv => h v (List.mem_cons_of_mem _ hv)
    rw [e4] at ih
    rw [ih, show done.length + 1 + now.length = done.length + (w :: now).length by rw [List.length_cons]; omega]
theorem seek_found {T : List Rule} (g : Good T) (s : List Nat) : ∀ (now : List Typing) (done new : List Row) (m : Nat) {w : Typing}, now.find? (compl T s) = some w → now.length ≤ m →
    seek T s m (done ++ now.map conv ++ new) done.length = some w.letters
  | [], _, _, _, _, h, _ => by cases h
  | v :: now, done, new, m, w, h, hm => by
    have e1 : (done ++ (v :: now).map conv ++ new)[done.length]? = some (conv v) := by
      rw [List.append_assoc, List.getElem?_append_right (Nat.le_refl _), Nat.sub_self]
      rfl
    rw [List.length_cons] at hm
    obtain ⟨m', rfl⟩ : ∃ m', m = m' + 1 := ⟨m - 1, by omega⟩
    rw [seek_one _ _ _ _ e1]
    rw [List.find?_cons] at h
    cases c : compl T s v with
    | true =>
      rw [c] at h
      have h := Option.some.inj h
      subst h
      unfold compl at c
      rw [beq_iff_eq] at c
      rw [if_pos (by exact c)]
      rfl
    | false =>
      rw [c] at h
      rw [if_neg (by
        intro z
        have : compl T s v = true := by
          unfold compl
          rw [beq_iff_eq]
          exact z
        rw [c] at this
        cases this)]
      show seek T s m' (addAll v.letters _ (outs T s (conv v).1)) (done.length + 1) = _
      rw [outs_keys g]
      obtain ⟨more, e2⟩ := addT_more ((keysFor T s).filterMap (v.on T s)) (done ++ (v :: now).map conv ++ new)
      rw [e2]
      have e3 : done ++ (v :: now).map conv ++ new ++ more = (done ++ [conv v]) ++ now.map conv ++ (new ++ more) := by
        simp [List.append_assoc]
      rw [e3]
      have ih := seek_found g s now (done ++ [conv v]) (new ++ more) m' h (by omega)
      rw [show (done ++ [conv v]).length = done.length + 1 by simp] at ih
      exact ih
/-! ### what holds of every state -/
structure Valid (T : List Rule) (s : List Nat) (w : Row) : Prop where
  sure : sure T w.2 = (s.take w.1.2, w.1.1)
  told : w.1.2 ≤ s.length
theorem Valid.start (T : List Rule) (s : List Nat) : Valid T s (([], 0), []) := ⟨rfl, Nat.zero_le _⟩
theorem Valid.more {T : List Rule} (g : Good T) {s : List Nat} {w : Row} (v : Valid T s w) {c : Nat} {st : St} (h : onM T s w.1 c = some st) : Valid T s (st, w.2 ++ [c]) := by
  refine ⟨?_, onM_le h v.told⟩
  rw [sure_append g, v.sure]
  unfold onM at h
  cases e : toldB s w.1.2 (Sy.sure T (w.1.1 ++ [c])).1 with
  | none => rw [e] at h; cases h
  | some u =>
    rw [e] at h
    have h := Option.some.inj h
    subst h
    obtain ⟨h1, rfl⟩ := toldB_some.mp e
    show (s.take w.1.2 ++ (Sy.sure T (w.1.1 ++ [c])).1, (Sy.sure T (w.1.1 ++ [c])).2) = (s.take (w.1.2 + (Sy.sure T (w.1.1 ++ [c])).1.length), (Sy.sure T (w.1.1 ++ [c])).2)
    rw [List.take_add, ← List.prefix_iff_eq_take.mp h1]
theorem Valid.halts {T : List Rule} (g : Good T) {s : List Nat} {w : Row} (v : Valid T s w) : halts T w.1.1 = true := by
  have := sure_halts g w.2
  rw [v.sure] at this
  exact this
theorem Valid.cost {T : List Rule} (g : Good T) {s : List Nat} {w : Row} (v : Valid T s w) (h : spelled T w.1.1 = s.drop w.1.2) : w.2.length ≤ 6 * s.length := by
  have h1 := spelled_cost g w.2.length w.2 (Nat.le_refl _)
  rw [spelled_sure g, v.sure] at h1
  have h1 : w.2.length ≤ 6 * (s.take w.1.2 ++ spelled T w.1.1).length := h1
  rw [h, List.take_append_drop] at h1
  exact h1
theorem addAll_mem (row : List Nat) : ∀ (L : List (Nat × St)) (q : List Row) (w : Row), w ∈ addAll row q L → w ∈ q ∨ ∃ x ∈ L, w = (x.2, row ++ [x.1])
  | [], q, w, h => .inl h
  | x :: L, q, w, h => by
    have h : w ∈ if (q.any fun p => p.1 == x.2) = true then addAll row q L else addAll row (q ++ [(x.2, row ++ [x.1])]) L := h
    split at h
    · rcases addAll_mem row L q w h with h | ⟨y, h1, h2⟩
      · exact .inl h
      · exact .inr ⟨y, List.mem_cons_of_mem _ h1, h2⟩
    · rcases addAll_mem row L _ w h with h | ⟨y, h1, h2⟩
      · rcases List.mem_append.mp h with h | h
        · exact .inl h
        · exact .inr ⟨x, List.mem_cons_self, List.mem_singleton.mp h⟩
      · exact .inr ⟨y, List.mem_cons_of_mem _ h1, h2⟩
theorem addAll_more (row : List Nat) : ∀ (L : List (Nat × St)) (q : List Row), ∃ more, addAll row q L = q ++ more ∧ ∀ w ∈ more, ∃ x ∈ L, w = (x.2, row ++ [x.1])
  | [], q => ⟨[], by simp [addAll], by simp⟩
  | x :: L, q => by
    show ∃ more, (if (q.any fun p => p.1 == x.2) = true then addAll row q L else addAll row (q ++ [(x.2, row ++ [x.1])]) L) = q ++ more ∧ _
    split
    · obtain ⟨m, h1, h2⟩ := addAll_more row L q
      refine ⟨m, h1, fun w hw => ?_⟩
      obtain ⟨y, hy, e⟩ := h2 w hw
      exact ⟨y, List.mem_cons_of_mem _ hy, e⟩
    · obtain ⟨m, h1, h2⟩ := addAll_more row L (q ++ [(x.2, row ++ [x.1])])
      refine ⟨(x.2, row ++ [x.1]) :: m, by rw [h1, List.append_assoc]; rfl, fun w hw => ?_⟩
      rcases List.mem_cons.mp hw with rfl | hw
      · exact ⟨x, List.mem_cons_self, rfl⟩
      · obtain ⟨y, hy, e⟩ := h2 w hw
        exact ⟨y, List.mem_cons_of_mem _ hy, e⟩
theorem addAll_nodup (row : List Nat) : ∀ (L : List (Nat × St)) (q : List Row), (q.map (·.1)).Nodup → ((addAll row q L).map (·.1)).Nodup
  | [], _, h => h
  | x :: L, q, h => by
    show ((if (q.any fun p => p.1 == x.2) = true then addAll row q L else addAll row (q ++ [(x.2, row ++ [x.1])]) L).map (·.1)).Nodup
    split
    · exact addAll_nodup row L q h
    · next c =>
      refine addAll_nodup row L _ ?_
      rw [List.map_append, List.nodup_append]
      refine ⟨h, by simp, ?_⟩
      intro a ha b hb
      rw [List.map_singleton, List.mem_singleton] at hb
      subst hb
      intro e
      obtain ⟨p, hp, rfl⟩ := List.mem_map.mp ha
      apply c
      rw [List.any_eq_true]
      exact ⟨p, hp, by rw [e]; simp⟩
theorem outs_iff {T : List Rule} {s : List Nat} {w : St} {c : Nat} {st : St} : (c, st) ∈ outs T s w ↔ isLetter c = true ∧ onM T s w c = some st := by
  unfold outs
  rw [List.mem_filterMap]
  constructor
  · rintro ⟨d, h1, h2⟩
    cases e : onM T s w d with
    | none => rw [e] at h2; cases h2
    | some x =>
      rw [e] at h2
      injection h2 with h2
      injection h2 with h2 h3
      subst h2 h3
      exact ⟨mem94.mp h1, e⟩
  · rintro ⟨h1, h2⟩
    exact ⟨c, mem94.mpr h1, by rw [h2]; rfl⟩
/-! ### how many states there may be -/
def begs (T : List Rule) : List (List Nat) := [] :: T.flatMap fun (r : Rule) => (List.range 6).map fun (i : Nat) => r.letters.take i
theorem halts_begs {T : List Rule} (g : Good T) {o : List Nat} (h : halts T o = true) : o ∈ begs T := by
  unfold halts at h
  rw [Bool.or_eq_true, List.isEmpty_iff] at h
  rcases h with rfl | h
  · exact List.mem_cons_self
  · obtain ⟨r, h1, h2, h3⟩ := waits_iff.mp h
    refine List.mem_cons_of_mem _ (List.mem_flatMap.mpr ⟨r, h1, List.mem_map.mpr ⟨o.length, ?_, (List.prefix_iff_eq_take.mp h2).symm⟩⟩)
    rw [List.mem_range]
    have := (short_iff.mp (g.short r h1)).1
    omega
theorem begs_len {T : List Rule} (g : Good T) : (begs T).length ≤ 385 := by
  have : ∀ U : List Rule, (U.flatMap fun (r : Rule) => (List.range 6).map fun (i : Nat) => r.letters.take i).length = 6 * U.length := by
    intro U
    induction U with
    | nil => rfl
    | cons r U ih =>
      rw [List.flatMap_cons, List.length_append, ih, List.length_map, List.length_range, List.length_cons]
      omega
  unfold begs
  rw [List.length_cons, this]
  have := g.few
  omega
def univ (T : List Rule) (s : List Nat) : List St := (begs T).flatMap fun o => (List.range (s.length + 1)).map fun t => (o, t)
theorem univ_len (T : List Rule) (s : List Nat) : (univ T s).length = (s.length + 1) * (begs T).length := by
  unfold univ
  induction begs T with
  | nil => rfl
  | cons o l ih =>
    rw [List.flatMap_cons, List.length_append, ih, List.length_map, List.length_range, List.length_cons, Nat.mul_add, Nat.mul_one]
    omega
theorem sub_len {α : Type} [DecidableEq α] : ∀ (a b : List α), a.Nodup → (∀ x ∈ a, x ∈ b) → a.length ≤ b.length
  | [], _, _, _ => Nat.zero_le _
  | x :: a, b, hn, hs => by
    rw [List.nodup_cons] at hn
    have hx := hs x List.mem_cons_self
    have ih := sub_len a (b.erase x) hn.2 fun y hy => (List.mem_erase_of_ne fun e => hn.1 (by rw [← e]; exact hy)).mpr (hs y (List.mem_cons_of_mem _ hy))
    rw [List.length_erase_of_mem hx] at ih
    have := List.length_pos_of_mem hx
    rw [List.length_cons]
    omega
/-- what holds of the states that are had -/
structure Had (T : List Rule) (s : List Nat) (q : List Row) : Prop where
  nodup : (q.map (·.1)).Nodup
  all : ∀ w ∈ q, Valid T s w
theorem Had.len {T : List Rule} (g : Good T) {s : List Nat} {q : List Row} (h : Had T s q) : q.length ≤ (univ T s).length := by
  have := sub_len (q.map (·.1)) (univ T s) h.nodup fun x hx => by
    obtain ⟨w, hw, rfl⟩ := List.mem_map.mp hx
    have v := h.all w hw
    refine List.mem_flatMap.mpr ⟨w.1.1, halts_begs g (v.halts g), List.mem_map.mpr ⟨w.1.2, ?_, rfl⟩⟩
    rw [List.mem_range]
    have := v.told
    omega
  rw [List.length_map] at this
  exact this
theorem Had.start (T : List Rule) (s : List Nat) : Had T s [(([], 0), [])] := ⟨by simp, fun w hw => by rw [List.mem_singleton.mp hw]; exact Valid.start T s⟩
theorem Had.add {T : List Rule} (g : Good T) {s : List Nat} {q : List Row} (h : Had T s q) {w : Row} (hw : w ∈ q) : Had T s (addAll w.2 q (outs T s w.1)) := by
  refine ⟨addAll_nodup _ _ _ h.nodup, fun v hv => ?_⟩
  rcases addAll_mem _ _ _ _ hv with hv | ⟨x, hx, rfl⟩
  · exact h.all v hv
  · obtain ⟨c, st⟩ := x
    exact (h.all w hw).more g (outs_iff.mp hx).2
theorem Had.addT {T : List Rule} (g : Good T) {s : List Nat} : ∀ (now : List Typing) {q : List Row}, Had T s q → (∀ w ∈ now, conv w ∈ q) → Had T s (addT q (now.flatMap fun w => (keysFor T s).filterMap (w.on T s)))
  | [], _, h, _ => h
  | w :: now, q, h, hw => by
    rw [List.flatMap_cons, addT_append]
    have h1 : Had T s (SpA.addT q ((keysFor T s).filterMap (w.on T s))) := by
      rw [← outs_keys g]
      exact h.add g (hw w List.mem_cons_self)
    obtain ⟨m, e⟩ := addT_more ((keysFor T s).filterMap (w.on T s)) q
    refine Had.addT g now h1 fun v hv => ?_
    rw [e]
    exact List.mem_append_left _ (hw v (List.mem_cons_of_mem _ hv))
/-- rows that are too long end nowhere -/
theorem seek_none {T : List Rule} (g : Good T) (s : List Nat) : ∀ (m : Nat) (q : List Row) (k : Nat), (∀ i w, k ≤ i → q[i]? = some w → Valid T s w ∧ 6 * s.length < w.2.length) → seek T s m q k = none
  | 0, _, _, _ => rfl
  | m + 1, q, k, h => by
    cases e : q[k]? with
    | none =>
      show (match q[k]? with | none => none | some w => _) = _
      rw [e]
    | some w =>
      obtain ⟨v, hl⟩ := h k w (Nat.le_refl _) e
      rw [seek_one _ _ _ _ e, if_neg fun z => by have := v.cost g z; omega]
      refine seek_none g s m _ (k + 1) fun i u hi hu => ?_
      obtain ⟨more, e2, hm⟩ := addAll_more w.2 (outs T s w.1) q
      rw [e2] at hu
      rcases Nat.lt_or_ge i q.length with c | c
      · rw [List.getElem?_append_left c] at hu
        exact h i u (by omega) hu
      · rw [List.getElem?_append_right c] at hu
        obtain ⟨x, hx, rfl⟩ := hm u (List.mem_of_getElem? hu)
        obtain ⟨a, st⟩ := x
        refine ⟨v.more g (outs_iff.mp hx).2, ?_⟩
        show 6 * s.length < (w.2 ++ [a]).length
        rw [List.length_append]
        omega
/-- THE SEARCH is the specification's -/
theorem type_seek {T : List Rule} (g : Good T) (s : List Nat) : ∀ (n : Nat) (had : List (Text × Nat)) (done : List Row) (now : List Typing), Had T s (done ++ now.map conv) →
    (∀ st : St, had.contains st = (done ++ now.map conv).any fun p => p.1 == st) → (∀ w ∈ now, w.letters.length + n = 6 * s.length + 1) →
    typeFrom T s (keysFor T s) n had now = seek T s ((univ T s).length - done.length) (done ++ now.map conv) done.length
  | 0, had, done, now, H, hh, hl => by
    rw [seek_none g s]
    · rfl
    · intro i w hi hw
      rw [List.getElem?_append_right hi] at hw
      have hw := List.mem_of_getElem? hw
      obtain ⟨v, hv, rfl⟩ := List.mem_map.mp hw
      refine ⟨H.all _ (List.mem_append_right _ hw), ?_⟩
      have := hl v hv
      show 6 * s.length < v.letters.length
      omega
  | n + 1, had, done, now, H, hh, hl => by
    have hN := H.len g
    rw [List.length_append, List.length_map] at hN
    have ef : (fun (w : Typing) => spell T w.open_ == s.drop w.told) = compl T s := by
      funext w
      unfold compl
      rw [spell_eq g (.refl T)]
    have e1 : typeFrom T s (keysFor T s) (n + 1) had now = match now.find? (compl T s) with
      | some w => some w.letters
      | none => typeFrom T s (keysFor T s) n (typingOn T s (keysFor T s) had now).1 (typingOn T s (keysFor T s) had now).2 := by
      show (match now.find? (fun (w : Typing) => spell T w.open_ == s.drop w.told) with
        | some w => some w.letters
        | none => _) = _
      rw [ef]
    rw [e1]
    cases c : now.find? (compl T s) with
    | some w =>
      have := seek_found g s now done [] ((univ T s).length - done.length) c (by omega)
      rw [List.append_nil] at this
      rw [this]
    | none =>
      have hno : ∀ w ∈ now, compl T s w = false := fun w hw => by
        have := List.find?_eq_none.mp c w hw
        simpa using this
      have h1 := seek_level g s now done [] ((univ T s).length - done.length - now.length) hno
      rw [List.append_nil, show now.length + ((univ T s).length - done.length - now.length) = (univ T s).length - done.length by omega] at h1
      rw [h1]
      obtain ⟨more, k1, k2, k3⟩ := fold_had (now.flatMap fun w => (keysFor T s).filterMap (w.on T s)) had [] (done ++ now.map conv) hh
      rw [← typingOn_step, List.nil_append] at k1
      rw [← typingOn_step] at k3
      have H2 := Had.addT g now H fun w hw => List.mem_append_right _ (List.mem_map.mpr ⟨w, hw, rfl⟩)
      rw [k2] at H2 k3 ⊢
      have ih := type_seek g s n (typingOn T s (keysFor T s) had now).1 (done ++ now.map conv) (typingOn T s (keysFor T s) had now).2 (by rw [k1]; exact H2) (by rw [k1]; exact k3) ?_
      · show typeFrom T s (keysFor T s) n _ _ = _
        rw [ih, k1, List.length_append, List.length_map]
        congr 1
        omega
      · intro w hw
        unfold typingOn at hw
        have : ∀ (L : List Typing) (x : List (Text × Nat) × List Typing) (w : Typing), w ∈ (L.foldl stepT x).2 → w ∈ x.2 ∨ w ∈ L := by
          intro L
          induction L with
          | nil => intro x w h; exact .inl h
          | cons a L ih =>
            intro x w h
            rw [List.foldl_cons] at h
            rcases ih _ w h with h | h
            · unfold stepT at h
              split at h
              · exact .inl h
              · rcases List.mem_append.mp h with h | h
                · exact .inl h
                · rw [List.mem_singleton.mp h]
                  exact .inr List.mem_cons_self
            · exact .inr (List.mem_cons_of_mem _ h)
        rcases this _ _ _ hw with h | h
        · cases h
        · obtain ⟨v, hv, h⟩ := List.mem_flatMap.mp h
          obtain ⟨a, -, h⟩ := List.mem_filterMap.mp h
          rw [on_M] at h
          cases e : onM T s (conv v).1 a with
          | none => rw [e] at h; cases h
          | some st =>
            rw [e] at h
            have h := Option.some.inj h
            rw [← h]
            have := hl v hv
            show (v.letters ++ [a]).length + n = _
            rw [List.length_append, List.length_singleton]
            omega
theorem type_is {T : List Rule} (g : Good T) (s : List Nat) : Sy.type T s = seek T s (univ T s).length [(([], 0), [])] 0 := by
  have := type_seek g s (6 * s.length + 1) [([], 0)] [] [⟨[], 0, []⟩] (Had.start T s) (fun st => by
    show ([([], 0)] : List St).contains st = ([(([], 0), [])] : List Row).any fun p => p.1 == st
    rw [List.contains_cons, List.any_cons, List.any_nil, List.contains_nil]
    congr 1
    exact BEq.comm) (fun w hw => by rw [List.mem_singleton.mp hw]; show 0 + _ = _; omega)
  exact this
end SpA
set_option linter.all false
namespace SpA
open Sy

/-! ### the steps that are gone, those that are kept -/
/-- the letters that are still to be gone from a state: those that are gone lead to what is had -/
structure LsOK (T : List Rule) (s : List Nat) (h : St) (ls : List Nat) (had : St → Prop) : Prop where
  nodup : ls.Nodup
  way : ∀ c ∈ ls, isWay T h.1 c = true
  gone : ∀ c, isWay T h.1 c = true → c ∉ ls → ∀ st, onM T s h c = some st → had st
def UnOK (T : List Rule) (s : List Nat) (un : St → Option (List Nat)) (had : St → Prop) : Prop := ∀ h ls, un h = some ls → LsOK T s h ls had
theorem LsOK.mono {T : List Rule} {s : List Nat} {h : St} {ls : List Nat} {A B : St → Prop} (k : LsOK T s h ls A) (e : ∀ st, A st → B st) : LsOK T s h ls B := ⟨k.nodup, k.way, fun c a b st d => e _ (k.gone c a b st d)⟩
theorem UnOK.mono {T : List Rule} {s : List Nat} {un : St → Option (List Nat)} {A B : St → Prop} (k : UnOK T s un A) (e : ∀ st, A st → B st) : UnOK T s un B := fun h ls q => (k h ls q).mono e
theorem LsOK.all {T : List Rule} {s : List Nat} {h : St} {ls : List Nat} {had : St → Prop} (hn : ls.Nodup) (e : ∀ c, c ∈ ls ↔ isWay T h.1 c = true) : LsOK T s h ls had := ⟨hn, fun c hc => (e c).mp hc, fun c h1 h2 => absurd ((e c).mpr h1) h2⟩
def setU (un : St → Option (List Nat)) (h : St) (ls : List Nat) : St → Option (List Nat) := fun x => if x = h then some ls else un x
/-- an earlier one of the chain has a way -/
def blk (T : List Rule) (pre : List St) (c : Nat) : Bool := pre.any fun h => isWay T h.1 c
def stepsOf (T : List Rule) (s : List Nat) (h : St) (ls : List Nat) : List (Nat × St) := ls.filterMap fun c => (onM T s h c).map fun st => (c, st)
theorem stepsOf_mem {T : List Rule} {s : List Nat} {h : St} {ls : List Nat} {x : Nat × St} : x ∈ stepsOf T s h ls ↔ x.1 ∈ ls ∧ onM T s h x.1 = some x.2 := by
  unfold stepsOf
  rw [List.mem_filterMap]
  constructor
  · rintro ⟨c, h1, h2⟩
    cases e : onM T s h c with
    | none => rw [e] at h2; cases h2
    | some st =>
      rw [e] at h2
      have h2 := Option.some.inj h2
      subst h2
      exact ⟨h1, e⟩
  · rintro ⟨h1, h2⟩
    exact ⟨x.1, h1, by rw [h2]; rfl⟩
theorem stepsOf_fst {T : List Rule} {s : List Nat} {h : St} : ∀ {ls : List Nat}, ls.Nodup → ((stepsOf T s h ls).map (·.1)).Nodup
  | [], _ => by simp [stepsOf]
  | c :: ls, hn => by
    rw [List.nodup_cons] at hn
    have ih := stepsOf_fst (T := T) (s := s) (h := h) hn.2
    unfold stepsOf
    cases e : onM T s h c with
    | none =>
      rw [List.filterMap_cons_none (by rw [e]; rfl)]
      exact ih
    | some st =>
      rw [List.filterMap_cons_some (b := (c, st)) (by rw [e]; rfl), List.map_cons, List.nodup_cons]
      refine ⟨fun hm => ?_, ih⟩
      obtain ⟨x, hx, q⟩ := List.mem_map.mp hm
      have := (stepsOf_mem.mp hx).1
      have q : x.1 = c := q
      rw [q] at this
      exact hn.1 this
/-- behind i of the chain -/
structure StepInv (T : List Rule) (s : List Nat) (w : St) (had : St → Prop) (un0 : St → Option (List Nat)) (i : Nat) (S : List (Nat × St)) (un : St → Option (List Nat)) : Prop where
  good : ∀ x ∈ S, isLetter x.1 = true ∧ onM T s w x.1 = some x.2 ∧ blk T ((chainM T s w).take i) x.1 = true
  nodup : (S.map (·.1)).Nodup
  full : ∀ c, blk T ((chainM T s w).take i) c = true → ∀ st, onM T s w c = some st → (c, st) ∈ S ∨ had st
  old : ∀ h, h ∉ (chainM T s w).take i → un h = un0 h
  un : UnOK T s un fun st => had st ∨ ∃ x ∈ S, x.2 = st
theorem StepInv.start {T : List Rule} {s : List Nat} {w : St} {had : St → Prop} {un0 : St → Option (List Nat)} (h : UnOK T s un0 had) : StepInv T s w had un0 0 [] un0 :=
  ⟨by simp, by simp, fun c hc => by simp [blk] at hc, fun _ _ => rfl, h.mono fun _ k => .inl k⟩
theorem chain_dec {T : List Rule} (g : Good T) (s : List Nat) : ∀ w : St, ((chainM T s w).Pairwise fun a b => b.1.length < a.1.length) ∧ ∀ h ∈ chainM T s w, h.1.length ≤ w.1.length := by
  refine chain_ind g s (P := fun w l => (l.Pairwise fun a b => b.1.length < a.1.length) ∧ ∀ h ∈ l, h.1.length ≤ w.1.length) (fun w h => ?_) (fun w h f => ?_) (fun w t h f ih => ?_)
  · exact ⟨by simp, fun k hk => by rw [List.mem_singleton.mp hk]; exact Nat.le_refl _⟩
  · exact ⟨by simp, fun k hk => by rw [List.mem_singleton.mp hk]; exact Nat.le_refl _⟩
  · obtain ⟨h1, h2⟩ := ih
    have := given_less g h
    refine ⟨List.pairwise_cons.mpr ⟨fun k hk => ?_, h1⟩, fun k hk => ?_⟩
    · have h2 : k.1.length ≤ (given T w.1).2.length := h2 k hk
      omega
    · rcases List.mem_cons.mp hk with rfl | hk
      · exact Nat.le_refl _
      · have h2 : k.1.length ≤ (given T w.1).2.length := h2 k hk
        omega
theorem not_before {α : Type} {R : α → α → Prop} : ∀ {l : List α} {i : Nat} {x : α}, l.Pairwise R → (∀ a, ¬ R a a) → l[i]? = some x → x ∉ l.take i
  | [], _, _, _, _, h => by cases h
  | a :: l, 0, x, _, _, _ => by simp
  | a :: l, i + 1, x, hp, hr, h => by
    rw [List.pairwise_cons] at hp
    intro hm
    have hm : x ∈ a :: l.take i := hm
    have hx : l[i]? = some x := h
    rcases List.mem_cons.mp hm with rfl | hm
    · exact hr _ (hp.1 _ (List.mem_of_getElem? hx))
    · exact not_before hp.2 hr hx hm
theorem find_at {α : Type} {p : α → Bool} : ∀ {l : List α} {i : Nat} {x : α}, l[i]? = some x → (l.take i).any p = false → p x = true → l.find? p = some x
  | [], _, _, h, _, _ => by cases h
  | a :: l, 0, x, h, _, hp => by
    have h := Option.some.inj h
    subst h
    rw [List.find?_cons, hp]
  | a :: l, i + 1, x, h, hn, hp => by
    have hn : (a :: l.take i).any p = false := hn
    rw [List.any_cons, Bool.or_eq_false_iff] at hn
    rw [List.find?_cons, hn.1]
    exact find_at (l := l) h hn.2 hp
theorem take_snoc {α : Type} : ∀ {l : List α} {i : Nat} {x : α}, l[i]? = some x → l.take (i + 1) = l.take i ++ [x]
  | [], i, x, h => by simp at h
  | a :: l, 0, x, h => by
    have e : a = x := Option.some.inj h
    subst e
    rfl
  | a :: l, i + 1, x, h => by
    have ih := take_snoc (l := l) (i := i) (x := x) h
    show a :: l.take (i + 1) = a :: l.take i ++ [x]
    rw [ih]
    rfl
theorem StepInv.turn {T : List Rule} (g : Good T) {s : List Nat} {w : St} {had : St → Prop} {un0 un : St → Option (List Nat)} {i : Nat} {S : List (Nat × St)} (h : StepInv T s w had un0 i S un) {here : St} (hi : (chainM T s w)[i]? = some here)
    {ls : List Nat} (hl : LsOK T s here ls had) : StepInv T s w had un0 (i + 1) (S ++ stepsOf T s here (ls.filter fun c => !blk T ((chainM T s w).take i) c)) (setU un here (ls.filter fun c => blk T ((chainM T s w).take i) c)) := by
  have ht := take_snoc hi
  have hb : ∀ c, blk T ((chainM T s w).take (i + 1)) c = (blk T ((chainM T s w).take i) c || isWay T here.1 c) := fun c => by
    rw [ht]
    unfold blk
    rw [List.any_append, List.any_cons, List.any_nil, Bool.or_false]
  have first : ∀ c, isLetter c = true → blk T ((chainM T s w).take i) c = false → isWay T here.1 c = true → onM T s w c = onM T s here c := fun c h1 h2 h3 => by
    rw [chain_on g s h1, find_at hi h2 h3]
  have hnot := not_before (chain_dec g s w).1 (fun a => Nat.lt_irrefl _) hi
  refine ⟨fun x hx => ?_, ?_, fun c hc st hst => ?_, fun k hk => ?_, fun k ks hk => ?_⟩
  · rcases List.mem_append.mp hx with hx | hx
    · obtain ⟨h1, h2, h3⟩ := h.good x hx
      exact ⟨h1, h2, by rw [hb, h3]; rfl⟩
    · obtain ⟨h1, h2⟩ := stepsOf_mem.mp hx
      rw [List.mem_filter] at h1
      have hw := hl.way _ h1.1
      have hlet := way_letter g hw
      have hnb : blk T ((chainM T s w).take i) x.1 = false := by simpa using h1.2
      exact ⟨hlet, by rw [first _ hlet hnb hw]; exact h2, by rw [hb, hw, Bool.or_true]⟩
  · rw [List.map_append, List.nodup_append]
    refine ⟨h.nodup, stepsOf_fst (hl.nodup.filter _), fun a ha b hb2 e => ?_⟩
    obtain ⟨x, hx, rfl⟩ := List.mem_map.mp ha
    obtain ⟨y, hy, rfl⟩ := List.mem_map.mp hb2
    have h1 := (h.good x hx).2.2
    have h2 := (stepsOf_mem.mp hy).1
    rw [List.mem_filter, ← e, h1] at h2
    exact absurd h2.2 (by decide)
  · by_cases q : blk T ((chainM T s w).take i) c = true
    · rcases h.full c q st hst with k | k
      · exact .inl (List.mem_append_left _ k)
      · exact .inr k
    · rw [hb, Bool.or_eq_true] at hc
      have hw : isWay T here.1 c = true := hc.resolve_left q
      have hlet := way_letter g hw
      rw [first c hlet (by simpa using q) hw] at hst
      by_cases m : c ∈ ls
      · refine .inl (List.mem_append_right _ (stepsOf_mem.mpr ⟨?_, hst⟩))
        rw [List.mem_filter]
        exact ⟨m, by simpa using q⟩
      · exact .inr (hl.gone c hw m st hst)
  · rw [ht] at hk
    have h1 : k ≠ here := fun e => hk (by rw [e]; simp)
    have h2 : k ∉ (chainM T s w).take i := fun e => hk (List.mem_append_left _ e)
    unfold setU
    rw [if_neg h1]
    exact h.old k h2
  · unfold setU at hk
    split at hk
    · next e =>
      have hk := Option.some.inj hk
      subst e hk
      refine ⟨hl.nodup.filter _, fun c hc => hl.way c (List.mem_filter.mp hc).1, fun c h1 h2 st hst => ?_⟩
      by_cases m : c ∈ ls
      · refine .inr ⟨(c, st), List.mem_append_right _ (stepsOf_mem.mpr ⟨?_, hst⟩), rfl⟩
        rw [List.mem_filter]
        refine ⟨m, ?_⟩
        cases q : blk T ((chainM T s w).take i) c with
        | false => rfl
        | true => exact absurd (List.mem_filter.mpr ⟨m, q⟩) h2
      · exact .inl (hl.gone c h1 m st hst)
    · exact (h.un k ks hk).mono fun st z => z.imp id fun ⟨x, hx, e⟩ => ⟨x, List.mem_append_left _ hx, e⟩
/-- what new_steps gives -/
structure StepsOK (T : List Rule) (s : List Nat) (w : St) (had : St → Prop) (S : List (Nat × St)) : Prop where
  good : ∀ x ∈ S, isLetter x.1 = true ∧ onM T s w x.1 = some x.2
  nodup : (S.map (·.1)).Nodup
  full : ∀ c st, isLetter c = true → onM T s w c = some st → (c, st) ∈ S ∨ had st
theorem StepInv.fin {T : List Rule} (g : Good T) {s : List Nat} {w : St} {had : St → Prop} {un0 un : St → Option (List Nat)} {S : List (Nat × St)} (h : StepInv T s w had un0 (chainM T s w).length S un) : StepsOK T s w had S := by
  refine ⟨fun x hx => ⟨(h.good x hx).1, (h.good x hx).2.1⟩, h.nodup, fun c st hc hst => h.full c ?_ st hst⟩
  rw [List.take_length]
  have := chain_on g s hc w
  rw [hst] at this
  cases e : (chainM T s w).find? (fun h => isWay T h.1 c) with
  | none => rw [e] at this; cases this
  | some k =>
    unfold blk
    rw [List.any_eq_true]
    exact ⟨k, List.mem_of_find?_eq_some e, List.find?_some (p := fun (h : St) => isWay T h.1 c) e⟩
theorem StepsOK.perm {T : List Rule} {s : List Nat} {w : St} {had : St → Prop} {S S2 : List (Nat × St)} (h : StepsOK T s w had S) (p : S2.Perm S) : StepsOK T s w had S2 :=
  ⟨fun x hx => h.good x (p.mem_iff.mp hx), ((p.map _).nodup_iff).mpr h.nodup, fun c st h1 h2 => (h.full c st h1 h2).imp p.mem_iff.mpr id⟩
/-! ### what is left out leads to what is had -/
theorem outs_sorted (T : List Rule) (s : List Nat) (w : St) : (outs T s w).Pairwise fun x y => x.1 < y.1 := by
  have h94 : letters94.Pairwise (· < ·) := by
    unfold letters94
    rw [List.pairwise_map]
    exact List.pairwise_lt_range.imp fun {a b} h => by omega
  unfold outs
  rw [List.pairwise_filterMap]
  refine h94.imp fun {a b} h x hx y hy => ?_
  cases e : onM T s w a with
  | none => rw [e] at hx; cases hx
  | some p =>
    cases f : onM T s w b with
    | none => rw [f] at hy; cases hy
    | some q =>
      rw [e] at hx
      rw [f] at hy
      have hx := Option.some.inj hx
      have hy := Option.some.inj hy
      subst hx hy
      exact h
theorem sorted_same : ∀ {a b : List (Nat × St)}, a.Pairwise (fun x y => x.1 < y.1) → b.Pairwise (fun x y => x.1 < y.1) → (∀ x, x ∈ a ↔ x ∈ b) → a = b
  | [], [], _, _, _ => rfl
  | [], y :: b, _, _, h => by have := (h y).mpr List.mem_cons_self; cases this
  | x :: a, [], _, _, h => by have := (h x).mp List.mem_cons_self; cases this
  | x :: a, y :: b, ha, hb, h => by
    rw [List.pairwise_cons] at ha hb
    have e : x = y := by
      rcases List.mem_cons.mp ((h x).mp List.mem_cons_self) with e | hx
      · exact e
      · rcases List.mem_cons.mp ((h y).mpr List.mem_cons_self) with e | hy
        · exact e.symm
        · have h1 := ha.1 y hy
          have h2 := hb.1 x hx
          omega
    subst e
    rw [sorted_same ha.2 hb.2 fun z => ?_]
    constructor
    · intro hz
      rcases List.mem_cons.mp ((h z).mp (List.mem_cons_of_mem _ hz)) with e | k
      · have := ha.1 z hz
        rw [e] at this
        omega
      · exact k
    · intro hz
      rcases List.mem_cons.mp ((h z).mpr (List.mem_cons_of_mem _ hz)) with e | k
      · have := hb.1 z hz
        rw [e] at this
        omega
      · exact k
theorem addAll_append (row : List Nat) : ∀ (L M : List (Nat × St)) (q : List Row), addAll row q (L ++ M) = addAll row (addAll row q L) M
  | [], _, _ => rfl
  | x :: L, M, q => by
    show (if (q.any fun p => p.1 == x.2) = true then addAll row q (L ++ M) else addAll row (q ++ [(x.2, row ++ [x.1])]) (L ++ M)) = addAll row (if (q.any fun p => p.1 == x.2) = true then addAll row q L else addAll row (q ++ [(x.2, row ++ [x.1])]) L) M
    split
    · exact addAll_append row L M q
    · exact addAll_append row L M _
theorem addAll_filter (row : List Nat) (p : Nat × St → Bool) : ∀ (L : List (Nat × St)) (q : List Row), (∀ x ∈ L, p x = false → (q.any fun r => r.1 == x.2) = true) → addAll row q (L.filter p) = addAll row q L
  | [], _, _ => rfl
  | x :: L, q, h => by
    cases e : p x with
    | true =>
      rw [List.filter_cons_of_pos e]
      show (if (q.any fun p => p.1 == x.2) = true then addAll row q (L.filter p) else addAll row (q ++ [(x.2, row ++ [x.1])]) (L.filter p)) = (if (q.any fun p => p.1 == x.2) = true then addAll row q L else addAll row (q ++ [(x.2, row ++ [x.1])]) L)
      split
      · exact addAll_filter row p L q fun y hy => h y (List.mem_cons_of_mem _ hy)
      · refine addAll_filter row p L _ fun y hy k => ?_
        rw [List.any_append, h y (List.mem_cons_of_mem _ hy) k]
        rfl
    | false =>
      rw [List.filter_cons_of_neg (by rw [e]; decide)]
      have hx := h x List.mem_cons_self e
      show addAll row q (L.filter p) = (if (q.any fun p => p.1 == x.2) = true then addAll row q L else addAll row (q ++ [(x.2, row ++ [x.1])]) L)
      rw [if_pos hx]
      exact addAll_filter row p L q fun y hy => h y (List.mem_cons_of_mem _ hy)
/-- the states that are had -/
def hadQ (q : List Row) (st : St) : Prop := ∃ p ∈ q, p.1 = st
theorem hadQ_any {q : List Row} {st : St} : (q.any fun r => r.1 == st) = true ↔ hadQ q st := by
  rw [List.any_eq_true]
  constructor
  · rintro ⟨p, h1, h2⟩
    exact ⟨p, h1, by simpa using h2⟩
  · rintro ⟨p, h1, rfl⟩
    exact ⟨p, h1, by simp⟩
theorem StepsOK.add {T : List Rule} {s : List Nat} {w : St} {q : List Row} {S : List (Nat × St)} (h : StepsOK T s w (hadQ q) S) (hs : S.Pairwise fun x y => x.1 < y.1) (row : List Nat) : addAll row q S = addAll row q (outs T s w) := by
  have e : S = (outs T s w).filter fun x => decide (x ∈ S) := by
    refine sorted_same hs ((outs_sorted T s w).filter _) fun x => ?_
    rw [List.mem_filter, decide_eq_true_eq]
    constructor
    · exact fun hx => ⟨outs_iff.mpr (h.good x hx), hx⟩
    · exact fun hx => hx.2
  conv => lhs; rw [e]
  refine addAll_filter row _ _ _ fun x hx hp => ?_
  have h1 := outs_iff.mp (show (x.1, x.2) ∈ outs T s w from hx)
  rcases h.full x.1 x.2 h1.1 h1.2 with k | k
  · exact absurd (decide_eq_true k) (by rw [hp]; decide)
  · exact hadQ_any.mpr k
theorem addAll_has (row : List Nat) : ∀ (L : List (Nat × St)) (q : List Row) (st : St), hadQ q st ∨ (∃ x ∈ L, x.2 = st) → hadQ (addAll row q L) st
  | [], q, st, h => by
    rcases h with h | ⟨x, h, -⟩
    · exact h
    · cases h
  | x :: L, q, st, h => by
    show hadQ (if (q.any fun p => p.1 == x.2) = true then addAll row q L else addAll row (q ++ [(x.2, row ++ [x.1])]) L) st
    split
    · next c =>
      refine addAll_has row L q st ?_
      rcases h with h | ⟨y, h, rfl⟩
      · exact .inl h
      · rcases List.mem_cons.mp h with rfl | h
        · exact .inl (hadQ_any.mp c)
        · exact .inr ⟨y, h, rfl⟩
    · refine addAll_has row L _ st ?_
      rcases h with ⟨p, h, rfl⟩ | ⟨y, h, rfl⟩
      · exact .inl ⟨p, List.mem_append_left _ h, rfl⟩
      · rcases List.mem_cons.mp h with rfl | h
        · exact .inl ⟨(y.2, row ++ [y.1]), by simp, rfl⟩
        · exact .inr ⟨y, h, rfl⟩
/-- ended: the sounds that are left are told at once -/
theorem ended_iff {T : List Rule} {s : List Nat} {w : St} (h : w.2 ≤ s.length) : toldB s w.2 (spelled T w.1) = some s.length ↔ spelled T w.1 = s.drop w.2 := by
  rw [toldB_some]
  constructor
  · rintro ⟨h1, h2⟩
    exact h1.eq_of_length (by rw [List.length_drop]; omega)
  · intro e
    rw [e]
    exact ⟨List.prefix_refl _, by rw [List.length_drop]; omega⟩
end SpA
set_option Elab.async false
set_option linter.all false
set_option maxRecDepth 100000
set_option maxHeartbeats 4000000
/-! enumerate of a tuple as a rule of the layer. -/
namespace SpA
open PySem PySem.Spec PyProof.Rows L2
open Sem (wp)
open AutoSeq1 (wpAny_loadPart')
def itO (t : Addr) : Obj := { cls := .type "tuple_iterator", data := .fields #[.ref t, .int 0 0] }
def enO (it : Addr) : Obj := { cls := .type "enumerate", data := .fields #[.none, .bool false, .ref it, rawInt 0, .none, .none] }
theorem enum_new_tup (t : Addr) (xs : Array Value) (m : Nat) (dd : Option Addr) (ss : Array (Option Value)) :
    Meets (Builtin.«enumerate.__new__» ⟨[.type "enumerate", .ref t], []⟩) (fun _ R s0 =>
      s0.heap.get? t = some { cls := .type "tuple", dict := dd, data := .seq xs m, slots := ss } ∧
      R (.ok (.ret (.ref (s0.heap.push (itO t)).objs.size))) { s0 with heap := (s0.heap.push (itO t)).push (enO s0.heap.objs.size) }) := by
  refine .of_wp fun pr w0 A0 R0 s0 h0 => ?_
  obtain ⟨hh, gg, dr, tt, oo⟩ := s0
  obtain ⟨h1, h2⟩ := h0
  have sb := sub_enumerate
  have hT : Heap.IsTuple (Shared.heap ⟨hh, gg, dr, tt, oo⟩) t xs := ⟨_, h1, rfl, m, rfl⟩
  wp_walk using wpAny_loadPart' h1
  refine wpAny_stack_any fun sk => wpAny_pure ?_
  split
  · rename_i c _ _ _ _ _
    cases (c == Value.type "enumerate") <;> (wp_walk using wpAny_loadPart' h1, wpAny_pyIter_tuple hT; exact ⟨_, rfl, h2⟩)
  · wp_walk using wpAny_loadPart' h1, wpAny_pyIter_tuple hT
    exact ⟨_, rfl, h2⟩
theorem call_enum_tup {pr : Program} {w0 : World} {A0 : Around} {E0 : Value → Shared → Prop} {s0 : Shared} {t : Addr} {xs : Array Value} {Q0 : Value → Shared → Prop} (hT : s0.heap.IsTuple t xs)
    (k : ∀ h1, IsEnum h1 (s0.heap.objs.size + 1) s0.heap.objs.size 0 .none → h1.IsTupleIter s0.heap.objs.size t 0 →
      (∀ b o, s0.heap.get? b = some o → h1.get? b = some o) → Q0 (.ref (s0.heap.objs.size + 1)) { s0 with heap := h1 }) :
    wpAny (model pr w0) A0 (call (.type "enumerate") [.ref t]) Q0 E0 s0 := by
  obtain ⟨⟨c, dd, dt, ss⟩, h1, hc, m, hd⟩ := hT
  have hc : c = .type "tuple" := hc
  have hd : dt = .seq xs m := hd
  subst hc
  subst hd
  refine callType_new F.called_enumerate (by decide) (F.typeCall_enumerate_1 _) (F.newCall_enumerate_1 _) (fun ob => F.args_object_init_2 ob _)
    F.entry_enumerate_new (enum_new_tup t xs m dd ss) ⟨h1, ?_⟩
  have z1 : (s0.heap.push (itO t)).objs.size = s0.heap.objs.size + 1 := Heap.size_push ..
  show _ ∧ _
  rw [z1]
  have e1 : IsEnum ((s0.heap.push (itO t)).push (enO s0.heap.objs.size)) (s0.heap.objs.size + 1) s0.heap.objs.size 0 .none := by
    have q := Heap.get?_push_size (s0.heap.push (itO t)) (o := enO s0.heap.objs.size) rfl
    rw [z1] at q
    exact q
  exact ⟨⟨_, e1, rfl⟩, k _ e1 ⟨_, Heap.get?_push_of_some _ (Heap.get?_push_size _ rfl), rfl, rfl⟩ fun b o q => Heap.get?_push_of_some _ (Heap.get?_push_of_some _ q)⟩
/-- the tuple at a, its items in new pairs with their places -/
def IteT (K : PySem.W.Frag) (a : Addr) : It where
  go := fun i H => ∃ (xs : List V) (x : V), SqT K H a xs ∧ xs[i]? = some x
  yld := fun i H v H' => ∃ T x, v = .ref T ∧ H T = none ∧ H' = upd H T (.tup [.int (i : Nat), x]) ∧ ∀ xs, SqT K H a xs → xs[i]? = some x
  stop := fun i H => ∃ xs : List V, SqT K H a xs ∧ xs.length ≤ i
theorem turn_enumT {P : Program} {w : World} {K : PySem.W.Frag} {el : List Expr} {kk : Nat} {tp : Pos} (a e it : Addr) :
    Turn P w K (.Tuple el kk tp) (IteT K a) [e, it] e (fun i h => (∃ old, IsEnum h e it ((i : Nat) : Int) old) ∧ h.IsTupleIter it a i ∧ e ≠ it ∧ a ≠ e ∧ a ≠ it) where
  mem := by simp
  obj := by
    rintro i h ⟨⟨old, h1⟩, ⟨o, h2, hc, hd⟩, _⟩ b hb
    rcases (by simpa using hb : b = e ∨ b = it) with z | z
    · subst z
      exact ⟨_, h1, fun v q => nomatch q⟩
    · subst z
      exact ⟨o, h2, fun v q => by rw [hd] at q; cases q⟩
  keep := by
    rintro i h h' ⟨⟨old, h1⟩, h2, h3⟩ k
    exact ⟨⟨old, k e (by simp) _ h1⟩, h2.at fun o q => k it (by simp) o q, h3⟩
  item := by
    intro X hP hw hK hc i pins s σ H E I hf st hg
    subst hP hw hK
    obtain ⟨⟨old, h1⟩, h2, hne, hae, hai⟩ := st
    obtain ⟨xs, x, hq, hx⟩ := hg
    obtain ⟨its, rv, hp, hz⟩ := I.tuple hq
    obtain ⟨u, hu, ru⟩ := rv.get hx
    have l1 : e < s.heap.objs.size := Heap.lt_size h1
    have l2 : it < s.heap.objs.size := by
      obtain ⟨_, q, _⟩ := h2
      exact Heap.lt_size q
    have hsz : its.toArray.size = its.length := by simp
    have hlt : i < its.toArray.size := by
      rw [hsz]
      exact (List.getElem?_eq_some_iff.mp hu).1
    -- the pair is given out: the draws are the tuple's
    obtain ⟨o0, ho0, hoc, n0, hod⟩ := hp
    have hp : s.heap.IsTuple a its.toArray := ⟨o0, ho0, hoc, n0, hod⟩
    have nfp : e ∉ [it, a] := by
      intro q
      rcases List.mem_cons.mp q with q | q
      · exact hne q
      · exact hae (List.mem_singleton.mp q).symm
    refine wpAny_pyNext_enum_itemD (Draws.tuple (A := X.A.in1) (show X.A.in1.handled = none from I.ok.hd hc) it a hai its.toArray) h1 (show s.heap.IsTupleIter it a i ∧ s.heap.IsTuple a its.toArray from ⟨h2, hp⟩) hlt hne nfp fun y h' tk py ho hs' hT hsize hk => ?_
    have hy : y = u := by
      have q : its.toArray[i]? = some y := py
      have q2 : its[i]? = some y := by simpa using q
      rw [hu] at q2
      exact (Option.some.inj q2).symm
    subst hy
    refine ⟨_, rfl, wpAny_letOwnedTupleGo_enum (s := { s with heap := h', toks := tk + 1 }) ho fun h'' he' sb => ?_⟩
    have hT2 : h''.get? s.heap.objs.size = some { cls := .type "tuple", data := .seq #[.int i tk, y] } := (sb.2 _ (Nat.ne_of_gt l1)).trans hT
    have new : ObjOk X.prog X.w (upd H s.heap.objs.size (.tup [.int (i : Nat), x])) h'' s.heap.objs.size (.tup [.int (i : Nat), x]) :=
      ⟨by show 2 ≤ sizeLine; decide, [.int i tk, y], .cons ⟨_, rfl⟩ (.cons ru .nil), ⟨_, hT2, rfl, _, rfl⟩⟩
    have I1 : Inv X pins σ (upd H s.heap.objs.size (.tup [.int (i : Nat), x])) { s with heap := h'', toks := tk + 1 } := by
      refine I.turnedNew (ch := [e, it]) (fun b ob hb q => ?_) hf (Nat.le_refl _) new
      have b1 : b ≠ e := fun z => hb (by simp [z])
      have b2 : b ≠ it := fun z => hb (by simp [z])
      exact (sb.2 b b1).trans (hk b ob b1 b2 q)
    refine ⟨.ref s.heap.objs.size, _, I1, rfl, ⟨_, x, rfl, I.hok.fresh (Nat.le_refl _), rfl, fun ys hy => ?_⟩, ⟨⟨y, ?_⟩, ?_, hne, hae, hai⟩, fun b hb => ?_⟩
    · rw [I.tuple_inj hy hq]
      exact hx
    · rw [show ((i + 1 : Nat) : Int) = (i : Int) + 1 by omega]
      exact he'
    · exact hs'.1.at fun o q => (sb.2 it (Ne.symm hne)).trans q
    · have lb : b < s.heap.objs.size := by
        rcases (by simpa using hb : b = e ∨ b = it) with z | z
        · rw [z]; exact l1
        · rw [z]; exact l2
      rw [upd_ne (Nat.ne_of_lt lb)]
      exact (hf b hb).1
  done := by
    intro X hP hw hK hc i pins s σ H E I hf st hg
    subst hP hw hK
    obtain ⟨⟨old, h1⟩, h2, hne, hae, hai⟩ := st
    obtain ⟨xs, hq, hx⟩ := hg
    obtain ⟨its, rv, ⟨o0, ho0, hoc, n0, hod⟩, hz⟩ := I.tuple hq
    have hp : s.heap.IsTuple a its.toArray := ⟨o0, ho0, hoc, n0, hod⟩
    obtain ⟨f0, f1, f2, f3, f4, f5⟩ := hf it (by simp)
    have hl := rv.length
    obtain ⟨o, ho, hoc', hod'⟩ := h2
    have T1 : s.TypeIs (.ref e) "enumerate" := ⟨_, h1, rfl⟩
    have hge : its.toArray[i]? = none := by
      rw [List.getElem?_toArray]
      exact List.getElem?_eq_none_iff.mpr (by omega)
    unfold pyNext
    refine wpAny_bind (wpAny_attempt (wpAny_callSpecial?_slot (name := Str.ofString "__next__") T1 F.slot_enumerate_next
      (wpAny_call_entry F.slot_enumerate_next T1 F.entry_enumerate_next ?_ (F.args_enumerate_next_1 _))))
    show wpAny _ _ (field (.ref e) 2 >>= _) _ _ _
    refine wpAny_bind (wpAny_field h1 rfl (x := .ref it) rfl ?_)
    refine wpAny_bind (wpAny_nextOf_tuple_end (I.ok.hd hc) ⟨o, ho, hoc', hod'⟩ hp hge fun h' x he' hx' => ?_)
    obtain ⟨o2, ho2, hc2⟩ := hx'
    refine wpAny_bind (wpAny_isInstance (T := "StopIteration") (b := true) ⟨o2, ho2, hc2⟩ isSubtype_stop ?_)
    exact wpAny_pure ⟨rfl, I.turned (t' := s.toks) (fun b ob hb q => he' b ob hb q) f0 f1 f3 f4 f5⟩
  self := by
    rintro A i s Q E ⟨⟨_, h1⟩, _⟩ h
    exact wpAny_pyIter_enum h1 h
def iEnumT (K : PySem.W.Frag) (ta : TA) : TI := fun σ H R => ta σ H fun vs H1 => ∃ a xs, vs = [.ref a] ∧ SqT K H1 a xs ∧ R (IteT K a) H1
theorem pi_enumT {X : Cx} {e : Expr} {ta : TA} {p pos tp : Pos} {el : List Expr} {kk : Nat} (hg : Gl X "enumerate") (hm : X.mg "enumerate" = none) (ha : PA X [e] ta) (hs : starEach [e] X.env = [(false, eval e X.env)] := by rfl) :
    PI X (.Tuple el kk tp) (.Call (.Name "enumerate" p) [e] [] pos) (iEnumT X.K ta) := by
  refine ⟨fun pins s σ H R I h => ?_⟩
  refine Call_ (ld_blt I hg hm boot_enumerate (PyProof.Rows.callWith_type1 (thn (ha.run pos pins s σ H _ I h) fun us s1 hq => ?_) hs rfl))
  obtain ⟨vs, H1, I1, r1, a, xs, ex, hq, q⟩ := hq
  subst ex
  cases r1 with
  | cons r rr =>
    cases rr
    cases r
    obtain ⟨its, rv, ⟨o0, ho0, hoc, n0, hod⟩, hz⟩ := I1.tuple hq
    have la : a < s1.heap.objs.size := Heap.lt_size ho0
    refine call_enum_tup ⟨o0, ho0, hoc, n0, hod⟩ fun h' he hit hk => wpAny_pyIter_enum he ?_
    have I2 : Inv X pins σ H1 { s1 with heap := h' } := I1.kept (t' := s1.toks) hk
    refine ⟨s1.heap.objs.size + 1, [s1.heap.objs.size + 1, s1.heap.objs.size], _, _, H1, rfl, I2, turn_enumT a (s1.heap.objs.size + 1) s1.heap.objs.size,
      ⟨⟨.none, he⟩, hit, Nat.succ_ne_self _, Nat.ne_of_lt (Nat.lt_succ_of_lt la), Nat.ne_of_lt la⟩, fun b hb => ?_, q⟩
    have hle : s1.heap.objs.size ≤ b := by
      rcases (by simpa using hb : b = s1.heap.objs.size + 1 ∨ b = s1.heap.objs.size) with z | z
      · rw [z]; exact Nat.le_add_right _ _
      · rw [z]; exact Nat.le_refl _
    exact I1.fpOk hle (I1.hok.fresh hle)
/-- a loop over enumerate(a tuple) -/
theorem for_enumT {K : PySem.W.Frag} {a : Addr} {xs : List V} {g : TG} {tb : TS} {D : Ends} {σ : L2.St} {H : Hp} (Pv : Nat → L2.St → Hp → Prop) (h0 : Pv 0 σ H) (hl : ∀ i σ H, i ≤ xs.length → Pv i σ H → SqT K H a xs)
    (hs : ∀ i x σ H T, xs[i]? = some x → Pv i σ H → H T = none → g (.ref T) σ (upd H T (.tup [.int (i : Nat), x])) fun σ2 H2 => tb { D with nx := Pv (i + 1), ct := Pv (i + 1), bk := D.nx } σ2 H2)
    (hd : ∀ σ H, Pv xs.length σ H → D.nx σ H) :
    ∃ W : Nat → Nat → L2.St → Hp → Prop, (∃ m, W 0 m σ H) ∧ ∀ i m σ H, W i m σ H →
      ((IteT K a).stop i H ∧ D.nx σ H) ∨ ((IteT K a).go i H ∧ ∃ N : L2.St → Hp → Prop, (∀ σ' H', N σ' H' → ∃ m', m' < m ∧ W (i + 1) m' σ' H') ∧
        ∀ x H', (IteT K a).yld i H x H' → g x σ H' fun σ2 H2 => tb { D with nx := N, ct := N, bk := D.nx } σ2 H2) := by
  refine ⟨fun i m σ H => m = xs.length - i ∧ i ≤ xs.length ∧ Pv i σ H, ⟨xs.length, rfl, Nat.zero_le _, h0⟩, fun i m σ H h => ?_⟩
  obtain ⟨rfl, hi, p⟩ := h
  have q := hl i σ H hi p
  rcases Nat.lt_or_ge i xs.length with lt | ge
  · refine .inr ⟨⟨xs, xs[i], q, List.getElem?_eq_getElem lt⟩, Pv (i + 1), fun σ' H' p' => ⟨xs.length - (i + 1), by omega, rfl, lt, p'⟩, fun x H' y => ?_⟩
    obtain ⟨T, y0, rfl, hT, rfl, hy⟩ := y
    exact hs i y0 σ H T (hy xs q) p hT
  · have e : i = xs.length := by omega
    subst e
    exact .inl ⟨⟨xs, q, Nat.le_refl _⟩, hd σ H p⟩
/-- a loop over enumerate(a list) -/
theorem for_enumL {K : PySem.W.Frag} {a : Addr} {xs : List V} {g : TG} {tb : TS} {D : Ends} {σ : L2.St} {H : Hp} (Pv : Nat → L2.St → Hp → Prop) (h0 : Pv 0 σ H) (hl : ∀ i σ H, i ≤ xs.length → Pv i σ H → SqL K H a xs)
    (hs : ∀ i x σ H T, xs[i]? = some x → Pv i σ H → H T = none → g (.ref T) σ (upd H T (.tup [.int (i : Nat), x])) fun σ2 H2 => tb { D with nx := Pv (i + 1), ct := Pv (i + 1), bk := D.nx } σ2 H2)
    (hd : ∀ σ H, Pv xs.length σ H → D.nx σ H) :
    ∃ W : Nat → Nat → L2.St → Hp → Prop, (∃ m, W 0 m σ H) ∧ ∀ i m σ H, W i m σ H →
      ((Ite K a).stop i H ∧ D.nx σ H) ∨ ((Ite K a).go i H ∧ ∃ N : L2.St → Hp → Prop, (∀ σ' H', N σ' H' → ∃ m', m' < m ∧ W (i + 1) m' σ' H') ∧
        ∀ x H', (Ite K a).yld i H x H' → g x σ H' fun σ2 H2 => tb { D with nx := N, ct := N, bk := D.nx } σ2 H2) := by
  refine ⟨fun i m σ H => m = xs.length - i ∧ i ≤ xs.length ∧ Pv i σ H, ⟨xs.length, rfl, Nat.zero_le _, h0⟩, fun i m σ H h => ?_⟩
  obtain ⟨rfl, hi, p⟩ := h
  have q := hl i σ H hi p
  rcases Nat.lt_or_ge i xs.length with lt | ge
  · refine .inr ⟨⟨xs, xs[i], q, List.getElem?_eq_getElem lt⟩, Pv (i + 1), fun σ' H' p' => ⟨xs.length - (i + 1), by omega, rfl, lt, p'⟩, fun x H' y => ?_⟩
    obtain ⟨T, y0, rfl, hT, rfl, hy⟩ := y
    exact hs i y0 σ H T (hy xs q) p hT
  · have e : i = xs.length := by omega
    subst e
    exact .inl ⟨⟨xs, q, Nat.le_refl _⟩, hd σ H p⟩
end SpA
set_option Elab.async false
set_option linter.all false
set_option maxRecDepth 100000
set_option maxHeartbeats 4000000
/-! sorted of a dict whose keys are tuples of whole numbers, as a rule of the layer. -/
namespace SpA
open PySem PySem.Spec PyProof.Rows L2

/-! ### the order of rows of numbers -/
theorem before_lt : ∀ a b : List Nat, (Sy.before a b = true) ↔ (a.map fun (n : Nat) => (n : Int)) < (b.map fun (n : Nat) => (n : Int))
  | [], [] => by simp [Sy.before]
  | [], _ :: _ => by simp [Sy.before]
  | _ :: _, [] => by simp [Sy.before]
  | a :: r, b :: s => by
    have ih := before_lt r s
    unfold Sy.before
    rw [List.map_cons, List.map_cons, List.cons_lt_cons_iff, ← ih, Bool.or_eq_true, Bool.and_eq_true, decide_eq_true_eq, beq_iff_eq]
    constructor
    · rintro (h | ⟨h1, h2⟩)
      · exact .inl (by omega)
      · exact .inr ⟨by omega, h2⟩
    · rintro (h | ⟨h1, h2⟩)
      · exact .inl (by omega)
      · exact .inr ⟨by omega, h2⟩
abbrev KA := List Nat × Addr
def encK (b : KA) : PyData := .tuple ((b.1.map fun (n : Nat) => (n : Int)).map .int)
theorem leK (p q : KA) : PySem.W.dataLe false encK p q = !Sy.before q.1 p.1 := by
  show (!PySem.W.dataLt (encK q) (encK p)) = _
  congr 1
  unfold encK
  rw [PySem.W.dataLt_tuple]
  show PySem.W.rowLt _ _ = _
  rw [PySem.W.dataLt_ints]
  cases e : Sy.before q.1 p.1 with
  | true => exact decide_eq_true ((before_lt _ _).mp e)
  | false => exact decide_eq_false fun h => by rw [(before_lt _ _).mpr h] at e; cases e
theorem before_false_trans {a b c : List Nat} (h1 : Sy.before b a = false) (h2 : Sy.before c b = false) : Sy.before c a = false := by
  cases e : Sy.before c a with
  | false => rfl
  | true =>
    by_cases hab : a = b
    · subst hab
      rw [e] at h2
      cases h2
    · have h3 := before_total b a (Ne.symm hab) h1
      have := before_trans e h3
      rw [this] at h2
      cases h2
theorem sorted_pairs (bs : List KA) : (bs.mergeSort (PySem.W.dataLe false encK)).Pairwise fun x y => Sy.before y.1 x.1 = false := by
  have h := List.pairwise_mergeSort (le := PySem.W.dataLe false encK) (fun a b c h1 h2 => by
      rw [leK] at h1 h2 ⊢
      simp only [Bool.not_eq_true'] at h1 h2 ⊢
      exact before_false_trans h1 h2) (fun a b => by
      rw [leK, leK]
      cases e : Sy.before b.1 a.1 with
      | false => rfl
      | true =>
        rw [before_asymm e]
        rfl) bs
  refine h.imp fun {a b} q => ?_
  rw [leK] at q
  simpa using q

/-! ### values that read as such rows -/
def kT (l : List Nat) : List Key := l.map fun (n : Nat) => Sum.inl (n : Int)
theorem kT_vl (l : List Nat) : (kT l).map kV = l.map fun (n : Nat) => V.int (n : Int) := by
  unfold kT
  rw [List.map_map]
  rfl
theorem kT_inj : ∀ {a b : List Nat}, kT a = kT b → a = b
  | [], [], _ => rfl
  | [], _ :: _, h => by cases h
  | _ :: _, [], h => by cases h
  | a :: r, b :: s, h => by
    unfold kT at h
    rw [List.map_cons, List.map_cons] at h
    injection h with h1 h2
    injection h1 with h1
    have h1 : a = b := by omega
    rw [h1, kT_inj (a := r) (b := s) h2]
theorem reads_ints {h : Heap} : ∀ {l : List Nat} {its : List Value}, Vals (l.map fun (n : Nat) => V.int (n : Int)) its → ReadsAll h its ((l.map fun (n : Nat) => (n : Int)).map .int) []
  | [], its, r => by
    cases r
    exact .nil
  | n :: l, its, r => by
    cases r with
    | cons h1 h2 =>
      obtain ⟨t, rfl⟩ := h1
      exact .cons (as := []) (bs := []) (.int _ _) (reads_ints h2)
theorem reads_key {P : Program} {w : World} {H : Hp} {h : Heap} (ok : HOk P w H h) {b : Addr} {l : List Nat} (e : H b = some (.tup (l.map fun (n : Nat) => V.int (n : Int)))) : Reads h (.ref b) (encK (l, b)) [] := by
  obtain ⟨-, its, rv, o, h1, h2, n, h3⟩ := (show ObjOk P w H h b (.tup _) from ok _ _ e)
  refine .tuple h1 h2 h3 ?_
  exact reads_ints rv
theorem alike_keys (a b : KA) : PySem.W.alike (encK a) (encK b) = true := by
  unfold encK
  have := PySem.W.alike_ints (a.1.map fun (n : Nat) => (n : Int)) (b.1.map fun (n : Nat) => (n : Int))
  simpa [PySem.W.alike] using this
theorem each_refs {α : Type} : ∀ bs : List (α × Addr), PySem.W.EachIs (fun (v : Value) (b : α × Addr) => v = Value.ref b.2) (bs.map fun b => Value.ref b.2) bs
  | [] => .nil
  | _ :: r => .cons rfl (each_refs r)
theorem each_refs_eq {α : Type} : ∀ {vs : List Value} {bs : List (α × Addr)}, PySem.W.EachIs (fun (v : Value) (b : α × Addr) => v = Value.ref b.2) vs bs → vs = bs.map fun b => Value.ref b.2
  | _, _, .nil => rfl
  | _, _, .cons h t => by rw [h, each_refs_eq t]; rfl
theorem each_of_all {R : Value → KA → Prop} : ∀ {bs : List KA}, (∀ b ∈ bs, R (Value.ref b.2) b) → PySem.W.EachIs R (bs.map fun b => Value.ref b.2) bs
  | [], _ => .nil
  | b :: r, h => .cons (h b List.mem_cons_self) (each_of_all fun c hc => h c (List.mem_cons_of_mem _ hc))

def rSortKeys : List V → Hp → VK → Prop := fun xs H Q => ∃ (a : Addr) (kvs : List (List Key × V)) (ks : List (List Nat)), xs = [.ref a] ∧ H a = some (.dT kvs) ∧ kvs.map (·.1) = ks.map kT ∧ (∀ k ∈ ks, k ≠ []) ∧
  ∀ (bs : List KA) (p : Addr), (bs.map (·.1)).Perm ks → (bs.map (·.1)).Pairwise (fun x y => Sy.before y x = false) → (∀ b ∈ bs, H b.2 = some (.tup (b.1.map fun (n : Nat) => V.int (n : Int)))) → H p = none →
    Q (.ref p) (upd H p (.lst (bs.map fun b => V.ref b.2)))
theorem keys_of {H : Hp} : ∀ {kvs : List (List Key × V)} {ks : List (List Nat)} {xs : List (List Key × Addr × Value)}, Paired (fun (p : List Key × V) (q : List Key × Addr × Value) => p.1 = q.1 ∧ H q.2.1 = some (.tup (p.1.map kV)) ∧ RelV p.2 q.2.2) kvs xs →
    kvs.map (·.1) = ks.map kT → ∃ bs : List KA, bs.map (·.1) = ks ∧ (bs.map fun b => Value.ref b.2) = (xs.map fun x => Value.ref x.2.1) ∧ ∀ b ∈ bs, H b.2 = some (.tup (b.1.map fun (n : Nat) => V.int (n : Int)))
  | _, [], _, .nil, _ => ⟨[], rfl, rfl, by simp⟩
  | _, [], _, .cons _ _, e => by cases e
  | _, _ :: _, _, .nil, e => by cases e
  | p :: kvs, k :: ks, q :: xs, .cons h t, e => by
    rw [List.map_cons, List.map_cons] at e
    injection e with e1 e2
    obtain ⟨bs, b1, b2, b3⟩ := keys_of t e2
    refine ⟨(k, q.2.1) :: bs, by rw [List.map_cons, b1], by rw [List.map_cons, List.map_cons, b2], ?_⟩
    intro b hb
    rcases List.mem_cons.mp hb with rfl | hb
    · have h2 := h.2.1
      rw [e1, kT_vl] at h2
      exact h2
    · exact b3 b hb
theorem cr_sortKeys {X : Cx} (hcalm : X.calm = true) (hu : X.A.units + 64 < cLine) : CallR X (.builtin "sorted") rSortKeys := by
  intro pins s σ H xs us Q I r q
  obtain ⟨a, kvs, ks, ex, hd, hks, hne, q⟩ := q
  subst ex
  obtain ⟨u, eu, rx⟩ := vals1 r
  subst eu
  cases rx
  obtain ⟨z, lo, xs, pr, o, es, ep, ho, hx, hdt, he, hn⟩ := (show ObjOk X.prog X.w H s.heap a (.dT kvs) from I.hok _ _ hd)
  have l1 : es.size = xs.length := size_of_entries he
  have l2 : kvs.length = xs.length := Paired.length pr
  obtain ⟨bs, b1, b2, b3⟩ := keys_of pr hks
  have lb : bs.length = xs.length := by
    have := congrArg List.length b2
    rw [List.length_map, List.length_map] at this
    exact this
  refine Calls.call_function_entry PyProof.Rows.kind_sorted PyProof.Rows.plain_sorted PyProof.Rows.entry_sorted (PyProof.Rows.args_sorted1 _) ?_
  unfold Builtin.«sorted»
  refine wpAny_bind (m := checkCount "sorted" 1 1 _) (wpAny_pure ?_)
  refine wpAny_bind (PySem.W.kdu_collect (A := X.A.in1) (kdl_raw lo hx hdt) (I.ok.hd hcalm) ho (by omega) fun h1 tk acc hk hacc => ?_)
  have ea : acc.toList = bs.map fun b => Value.ref b.2 := by
    rw [b2]
    have hl : acc.toList.length = xs.length := by rw [Array.length_toList, hacc.1]; exact l1
    apply List.ext_getElem?
    intro j
    rw [List.getElem?_map]
    cases hj : acc.toList[j]? with
    | none =>
      have g1 := List.getElem?_eq_none_iff.mp hj
      rw [List.getElem?_eq_none (by omega)]
      rfl
    | some v =>
      obtain ⟨en, hen, hv⟩ := hacc.2 j v (by rw [← Array.getElem?_toList]; exact hj)
      have qe := entry_at he j
      rw [hen] at qe
      cases hb : xs[j]? with
      | none =>
        rw [hb] at qe
        exact nomatch (show some en = none from qe)
      | some b =>
        rw [hb] at qe
        have e2 : en = entryOfKey (tupleKind (mixKind X.prog X.w)) b := Option.some.inj qe
        rw [hv, e2]
        rfl
  have I1 : Inv X pins σ H { s with heap := h1, toks := tk } := I.kept hk
  have lacc : acc.toList.length ≤ sizeLine := by
    rw [ea, List.length_map]
    omega
  refine wpAny_bind (wpAny_newList ?_ lacc)
  have hoL : (h1.push (seqObj "list" acc.toList.toArray 0)).get? h1.objs.size = some (seqObj "list" acc.toList.toArray 0) := Heap.get?_push_size _ rfl
  show wpAny _ _ _ _ _ { s with heap := h1.push (seqObj "list" acc.toList.toArray 0), toks := tk }
  have kq : ∀ b o, h1.get? b = some o → (h1.push (seqObj "list" acc.toList.toArray 0)).get? b = some o := fun b o e => Heap.get?_push_of_some _ e
  have hR : PySem.W.EachIs (fun (v : Value) (b : KA) => v = Value.ref b.2) acc.toList bs := by
    rw [ea]
    exact each_refs bs
  have hRd : PySem.W.EachIs (fun (v : Value) (b : KA) => ∃ as, Reads (h1.push (seqObj "list" acc.toList.toArray 0)) v (encK b) as ∧ h1.objs.size ∉ as) acc.toList bs := by
    rw [ea]
    refine each_of_all fun b hb => ⟨[], ?_, by simp⟩
    rw [← ea]
    exact PyProof.Rows.Reads.keeps kq (reads_key I1.hok (b3 b hb))
  refine wpAny_bind (wpAny_holding (PySem.W.list_sort_data (s := { s with heap := h1.push (seqObj "list" acc.toList.toArray 0), toks := tk }) (enc := encK) hoL hR hRd (.of alike_keys) ?_ (by omega) (fun b hb => ?_) fun out hlo hout => ?_))
  · left
    intro d hd
    obtain ⟨b, hb, rfl⟩ := List.mem_map.mp hd
    have hb1 : b.1 ≠ [] := hne _ (by rw [← b1]; exact List.mem_map.mpr ⟨b, hb, rfl⟩)
    unfold encK
    cases e : b.1 with
    | nil => exact absurd e hb1
    | cons n l => exact ⟨_, _, rfl⟩
  · have : (encK b).depth ≤ 1 := by
      unfold encK
      simp only [PyData.depth]
      rw [PySem.W.depth_ints]
      exact Nat.le_refl _
    show X.A.in1.units + 1 + (encK b).depth < cLine
    have hu1 : X.A.in1.units ≤ X.A.units + 1 := by first | exact Nat.le_refl _ | omega
    omega
  · have eo := each_refs_eq hout
    obtain ⟨c, hc⟩ := PyProof.Rows.sortedHeap_at (vs := acc.toList) (out := out.toArray) hoL
    have hp := List.mergeSort_perm bs (PySem.W.dataLe false encK)
    have hlen : ((bs.mergeSort (PySem.W.dataLe false encK)).map fun b => V.ref b.2).length ≤ sizeLine := by
      rw [List.length_map, hp.length_eq]
      omega
    refine wpAny_pure ⟨_, rfl, .ref h1.objs.size, upd H h1.objs.size (.lst ((bs.mergeSort (PySem.W.dataLe false encK)).map fun b => V.ref b.2)), I1.laid (t' := tk) (fun b u e => ?_) (Nat.le_refl _)
      (show ObjOk X.prog X.w _ _ _ (.lst _) from ⟨hlen, out, c, ?_, hc⟩), rfl, q _ _ ?_ ?_ ?_ (I1.hok.fresh (Nat.le_refl _))⟩
    · have hb : b < h1.objs.size := Heap.lt_size e
      rw [PyProof.Rows.sortedHeap_old (Nat.ne_of_lt hb) (by rw [size_push']; exact Nat.lt_succ_of_lt hb)]
      exact Heap.get?_push_of_some _ e
    · rw [eo]
      have := vals_refs ((bs.mergeSort (PySem.W.dataLe false encK)).map (·.2))
      rw [List.map_map, List.map_map] at this
      exact this
    · rw [← b1]
      exact hp.map _
    · rw [List.pairwise_map]
      exact sorted_pairs bs
    · intro b hb
      exact b3 b (hp.mem_iff.mp hb)
end SpA
set_option Elab.async false
set_option linter.all false
set_option maxRecDepth 100000
set_option maxHeartbeats 4000000
/-! list(reversed(a list)) as a rule of the layer. -/
namespace SpA
open PySem PySem.Spec PyProof.Rows L2
section
variable {pr : Program} {w0 : World} {A0 : Around} {s0 : Shared}
theorem ext_rev {Rq : Result → Shared → Prop} {it l S : Addr} {xs : Array Value} {c0 : Nat} (hh : A0.handled = none) (hit : s0.heap.IsRevIter it l ((xs.size : Int) - 1)) (hl : s0.heap.IsList l xs)
    (hne : l ≠ it) (hSi : S ≠ it) (hSl : S ≠ l) (hn : xs.size ≤ sizeLine) (hS : s0.heap.get? S = some { cls := .type "list", data := .seq #[] c0 })
    (k : ∀ h1 tk acc c1, (∀ b o, b ≠ S → b ≠ it → s0.heap.get? b = some o → h1.get? b = some o) → h1.get? S = some { cls := .type "list", dict := none, data := .seq acc c1, slots := #[] } →
      ItemsOf (fun i v => xs[xs.size - 1 - i]? = some v) acc xs.size → Rq (.ok (.ret .none)) { s0 with heap := h1, toks := tk }) :
    wpAny (model pr w0) A0.in1 (Builtin.List.listExtendWith (.ref S) (.ref it) .none)
      (fun fin s1 => match fin with | .done f => Rq (.ok f) s1 | .again c => c.quiet = true ∧ codeAny (model pr w0) A0 c Rq s1) (fun e s1 => Rq (.error e) s1) s0 := by
  have W := (Walks.listRev (prog := pr) (w := w0) (A := A0.in1) hh it l hne xs).toS
  have hSf : S ∉ [it, l] := by
    intro q
    rcases List.mem_cons.mp q with q | q
    · exact hSi q
    · exact hSl (List.mem_singleton.mp q)
  have hT : s0.TypeIs (.ref it) "list_reverseiterator" := hit.typeIs
  have hsr : Builtin.List.listSameRef (.ref S) (.ref it) = false := by simp [Builtin.List.listSameRef, hSi]
  unfold Builtin.List.listExtendWith
  refine wpAny_bind (wpAny_typeOf hT ?_)
  rw [if_neg (by rw [hsr]; decide)]
  refine wpAny_bind (wpAny_pyIter_revIter hit (wpAny_bind (wpAny_holding ?_)))
  unfold Builtin.List.listLengthHint
  refine wpAny_bind (wpAny_specialOf hT RT.nolen_lri ?_)
  show wpAny _ A0.in1 (specialOf (Value.ref it) (Str.ofString "__length_hint__") >>= _) _ _ s0
  refine wpAny_bind (wpAny_specialOf hT RT.hint_lri ?_)
  generalize hid : ("list_reverseiterator.__length_hint__" : String) = idn
  wp_delta
  rw [show splitId idn = some ("list_reverseiterator", "__length_hint__") from by subst hid; decide +kernel]
  subst hid
  refine wpAny_bind (wpAny_isInstance (b := true) hT (by rw [isSubtype_type]; kernel_rfl) (wpAny_pure ?_))
  rw [if_neg (by decide)]
  have z0 : ((xs.size : Nat) : Int) - 1 - ((0 : Nat) : Int) = (xs.size : Int) - 1 := by omega
  refine wpAny_pure ⟨plainId_quiet PySem.F.plain_extend_loop _, codeAny_extend_loopS W hn S hSf _ xs.size 0 _ _ _ rfl (Nat.zero_le _) ⟨Nat.zero_le _, by rw [z0]; exact hit, hl⟩ hS (ItemsOf.nil _) fun s1 acc c1 hm hS1 hacc => ?_⟩
  rw [Moved.eq_with hm]
  refine k s1.heap s1.toks acc c1 (fun b o b1 b2 e => hm.heap b o (fun q => ?_) e) hS1 hacc
  rcases List.mem_cons.mp q with q | q
  · exact b1 q
  · exact b2 (List.mem_singleton.mp q)
theorem init_rev {Rq : Result → Shared → Prop} {it l S : Addr} {xs : Array Value} (hh : A0.handled = none) (hit : s0.heap.IsRevIter it l ((xs.size : Int) - 1)) (hl : s0.heap.IsList l xs)
    (hne : l ≠ it) (hSi : S ≠ it) (hSl : S ≠ l) (hn : xs.size ≤ sizeLine) (hS : s0.heap.get? S = some { cls := .type "list", data := .seq #[] })
    (k : ∀ h1 tk acc c1, (∀ b o, b ≠ S → b ≠ it → s0.heap.get? b = some o → h1.get? b = some o) → h1.get? S = some { cls := .type "list", dict := none, data := .seq acc c1, slots := #[] } →
      ItemsOf (fun i v => xs[xs.size - 1 - i]? = some v) acc xs.size → Rq (.ok (.ret .none)) { s0 with heap := h1, toks := tk }) :
    wpAny (model pr w0) A0.in1 (Builtin.«list.__init__» ⟨[.ref S, .ref it], []⟩)
      (fun fin s1 => match fin with | .done f => Rq (.ok f) s1 | .again c => c.quiet = true ∧ codeAny (model pr w0) A0 c Rq s1) (fun e s1 => Rq (.error e) s1) s0 := by
  show wpAny _ _ (do
    let was ← Builtin.List.listItems (.ref S)
    Builtin.List.listUpdate (.ref S) (fun _ => #[])
    letGo was.toList.reverse
    Builtin.List.listExtendWith (.ref S) (.ref it) .none) _ _ s0
  refine wpAny_bind ?_
  unfold Builtin.List.listItems
  refine wpAny_bind (wpAny_seqItems hS rfl (wpAny_pure ?_))
  show wpAny _ _ (updateSeq S (fun _ => #[]) >>= fun _ => letGo (#[] : Array Value).toList.reverse >>= fun _ =>
    Builtin.List.listExtendWith (.ref S) (.ref it) .none) _ _ s0
  refine wpAny_bind (wpAny_updateSeq hS rfl ?_)
  have hS2 := Heap.get?_update_self (Obj.mapSeq (fun _ => (#[] : Array Value))) hS rfl
  have oth : ∀ b o, b ≠ S → s0.heap.get? b = some o → (s0.heap.update S (Obj.mapSeq (fun _ => (#[] : Array Value)))).get? b = some o := by
    intro b o hb e
    exact (Heap.get?_update_other _ _ (Ne.symm hb)).trans e
  refine wpAny_bind (wpAny_letGo ?_)
  have hit2 : (s0.heap.update S (Obj.mapSeq (fun _ => (#[] : Array Value)))).IsRevIter it l ((xs.size : Int) - 1) := hit.at fun o e => oth it o (Ne.symm hSi) e
  have hl2 : (s0.heap.update S (Obj.mapSeq (fun _ => (#[] : Array Value)))).IsList l xs := hl.at fun o e => oth l o (Ne.symm hSl) e
  exact ext_rev (s0 := { s0 with heap := s0.heap.update S (Obj.mapSeq (fun _ => (#[] : Array Value))) }) hh hit2 hl2 hne hSi hSl hn hS2 fun h1 tk acc c1 hk h2 h3 =>
    k h1 tk acc c1 (fun b o b1 b2 e => hk b o b1 b2 (oth b o b1 e)) h2 h3
theorem call_list_rev {Q0 : Value → Shared → Prop} {E0 : Value → Shared → Prop} {it l : Addr} {xs : Array Value} (hh : A0.handled = none) (hit : s0.heap.IsRevIter it l ((xs.size : Int) - 1)) (hl : s0.heap.IsList l xs)
    (hne : l ≠ it) (hn : xs.size ≤ sizeLine)
    (k : ∀ h1 tk acc c1, (∀ b o, b ≠ it → s0.heap.get? b = some o → h1.get? b = some o) → h1.get? s0.heap.objs.size = some { cls := .type "list", dict := none, data := .seq acc c1, slots := #[] } →
      ItemsOf (fun i v => xs[xs.size - 1 - i]? = some v) acc xs.size → Q0 (.ref s0.heap.objs.size) { s0 with heap := h1, toks := tk }) :
    wpAny (model pr w0) A0 (call (.type "list") [.ref it]) Q0 E0 s0 := by
  refine callType_codes (Q₁ := fun ob s1 => ob = .ref s0.heap.objs.size ∧ s1 = { s0 with heap := s0.heap.push { cls := .type "list", data := .seq #[] } }) PySem.F.called_list
    (PySem.F.typeCall_list_1 _) PySem.F.entry_list_init (code_list_new _ ⟨rfl, rfl⟩) fun ob s1 hob => ?_
  obtain ⟨rfl, rfl⟩ := hob
  have hS : (s0.heap.push { cls := .type "list", data := .seq #[] }).get? s0.heap.objs.size = some { cls := .type "list", data := .seq #[] } := Heap.get?_push_size _ rfl
  obtain ⟨oi, hoi, _⟩ := id hit
  obtain ⟨ol, hol, _⟩ := id hl
  have k0 : ∀ b o, s0.heap.get? b = some o → (s0.heap.push { cls := .type "list", data := .seq #[] }).get? b = some o := fun b o e => Heap.get?_push_of_some _ e
  refine ⟨⟨_, hS, rfl⟩, PySem.F.args_list_init_2 _ _, init_rev (A0 := A0.in1) hh (hit.at fun o e => k0 _ _ e) (hl.at fun o e => k0 _ _ e) hne
    (Nat.ne_of_gt (Heap.lt_size hoi)) (Nat.ne_of_gt (Heap.lt_size hol)) hn hS fun h1 tk acc c1 hk h2 h3 => ?_⟩
  exact ⟨rfl, k h1 tk acc c1 (fun b o hb e => hk b o (Nat.ne_of_lt (Heap.lt_size e)) hb (k0 b o e)) h2 h3⟩
end
def tListRev (K : PySem.W.Frag) (te : TE) : TE := fun σ H Q => te σ H fun v H1 => ∃ (a : Addr) (xs : List V), v = .ref a ∧ SqL K H1 a xs ∧ ∀ q, H1 q = none → Q (.ref q) (upd H1 q (.lst xs.reverse))
theorem pe_listRev {X : Cx} {e : Expr} {te : TE} {p p2 pos pos2 : Pos} (hc : X.calm = true) (hg : Gl X "list") (hm : X.mg "list" = none) (hg2 : Gl X "reversed") (hm2 : X.mg "reversed" = none) (he : PE X e te)
    (hs : starEach [e] X.env = (false, eval e X.env) :: starEach [] X.env := by rfl)
    (hs2 : starEach [.Call (.Name "reversed" p2) [e] [] pos2] X.env = (false, eval (.Call (.Name "reversed" p2) [e] [] pos2) X.env) :: starEach [] X.env := by rfl) :
    PE X (.Call (.Name "list" p) [.Call (.Name "reversed" p2) [e] [] pos2] [] pos) (tListRev X.K te) := by
  refine ⟨fun pins s σ H Q I h => ?_⟩
  refine Call_ (ld_blt I hg hm boot_list (PyProof.Rows.callWith_type1 (args_cons (Call_ (ld_blt I hg2 hm2 PyProof.Rows.boot_reversed
    (PyProof.Rows.callWith_type1 (args_cons (thn (he.run pins s σ H _ I h) fun u s1 hv => args_nil ?_) hs) hs rfl))) hs2) hs2 rfl))
  obtain ⟨v, H1, I1, r1, a, xs, ev, hq, q⟩ := hv
  subst ev
  obtain rfl : u = Value.ref a := r1
  obtain ⟨its, rv, pl, hz⟩ := I1.list hq
  refine call_reversed_list pl.isList (args_nil ?_)
  have k0 : ∀ b o, s1.heap.get? b = some o → (s1.heap.push (revObj a ((its.toArray.size : Int) - 1))).get? b = some o := fun b o e => Heap.get?_push_of_some _ e
  have I2 : Inv X pins σ H1 { s1 with heap := s1.heap.push (revObj a ((its.toArray.size : Int) - 1)) } := I1.kept (t' := s1.toks) k0
  obtain ⟨f0, f1, f2, f3, f4, f5⟩ := I1.fpOk (H' := H1) (b := s1.heap.objs.size) (Nat.le_refl _) (I1.hok.fresh (Nat.le_refl _))
  have hl := pl.isList
  obtain ⟨ol, hol, _⟩ := id hl
  have hne : a ≠ s1.heap.objs.size := Nat.ne_of_lt (Heap.lt_size hol)
  have hn : its.toArray.size ≤ sizeLine := by rw [List.size_toArray, ← rv.length]; exact hz
  refine call_list_rev (s0 := { s1 with heap := s1.heap.push (revObj a ((its.toArray.size : Int) - 1)) }) (I1.ok.hd hc) ⟨_, Heap.get?_push_size _ rfl, rfl, rfl⟩ (hl.push _) hne hn fun h1 tk acc c1 hk h2 hi => ?_
  have hsz : (s1.heap.push (revObj a ((its.toArray.size : Int) - 1))).objs.size = s1.heap.objs.size + 1 := Heap.size_push ..
  have I3 : Inv X pins σ H1 { s1 with heap := h1, toks := tk } := I2.turned (t' := tk) (fun b o hb e => hk b o hb e) f0 f1 f3 f4 f5
  have hfree : H1 (s1.heap.push (revObj a ((its.toArray.size : Int) - 1))).objs.size = none := I2.hok.fresh (Nat.le_refl _)
  refine ⟨.ref (s1.heap.push (revObj a ((its.toArray.size : Int) - 1))).objs.size, upd H1 (s1.heap.push (revObj a ((its.toArray.size : Int) - 1))).objs.size (.lst xs.reverse), ?_, rfl, q _ hfree⟩
  have new : ObjOk X.prog X.w (upd H1 (s1.heap.push (revObj a ((its.toArray.size : Int) - 1))).objs.size (.lst xs.reverse)) h1 (s1.heap.push (revObj a ((its.toArray.size : Int) - 1))).objs.size (.lst xs.reverse) := by
    refine ⟨by rw [List.length_reverse]; exact hz, acc.toList, c1, RT.vals_rev rv hi, ?_⟩
    rw [Array.toArray_toList]
    exact h2
  have hle : s1.heap.objs.size ≤ (s1.heap.push (revObj a ((its.toArray.size : Int) - 1))).objs.size := by rw [hsz]; exact Nat.le_succ _
  refine (I1.turnedNew (t' := tk) (ch := [s1.heap.objs.size]) (h' := h1) (fun b o hb e => ?_) (fun b hb => ?_) hle new)
  · exact hk b o (fun z => hb (by simp [z])) (k0 b o e)
  · rw [List.mem_singleton.mp hb]
    exact ⟨f0, f1, f2, f3, f4, f5⟩
end SpA
set_option Elab.async false
set_option linter.all false
set_option maxRecDepth 100000
set_option maxHeartbeats 4000000
/-! list.extend of a tuple as a rule of the layer. -/
namespace SpA
open PySem PySem.Spec PyProof.Rows L2
open Sem (wp)
open AutoSeq1 (wpAny_loadPart')
theorem extend_tup (l t : Addr) (xs ys : Array Value) (m1 m2 : Nat) (dd : Option Addr) (ss : Array (Option Value)) (h0 : ¬(!xs.isEmpty && Builtin.List.listTooLong (xs.size + ys.size)) = true) (h1 : xs.size ≤ sizeLine) (h2 : xs.size + ys.size ≤ sizeLine + 1) :
    Meets (Builtin.«list.extend» ⟨[.ref l, .ref t], []⟩) (fun _ R s0 => s0.heap.get? l = some { cls := .type "list", dict := none, data := .seq xs m1, slots := #[] } ∧
      s0.heap.get? t = some { cls := .type "tuple", dict := dd, data := .seq ys m2, slots := ss } ∧
      R (.ok (.ret Value.none)) { s0 with heap := s0.heap.update l (Obj.mapSeq fun x => x ++ ys), toks := s0.toks }) := by
  refine .of_wp fun pr w0 A0 R0 s0 hh => ?_
  obtain ⟨hp, gg, dr, tt, oo⟩ := s0
  obtain ⟨hl, hb, hk⟩ := hh
  have f1 := AutoSeq1.idx_int
  have f2 := AutoSeq1.sub_tuple_tuple
  have f3 := AutoSeq1.sub_list_list
  have f4 := AutoSeq1.sub_tuple_list
  have f5 := AutoSeq1.sub_list_tuple
  have hz : (xs ++ ys).size ≤ sizeLine + 1 := by
    rw [Array.size_append]
    exact h2
  wp_walk using (wpAny_updateSeq hl rfl (hz := h1) (_hz' := hz)), wpAny_loadPart' hl, wpAny_loadPart' hb
  exact ⟨_, rfl, hk⟩
def rExtendT (K : PySem.W.Frag) : V → List V → Hp → VK → Prop := fun x vs H Q => ∃ l b xs zs, x = .ref l ∧ vs = [.ref b] ∧ H l = some (.lst xs) ∧ SqT K H b zs ∧ xs.length + zs.length ≤ sizeLine ∧ Q .non (upd H l (.lst (xs ++ zs)))
theorem mt_extendT {X : Cx} : MtM X "list.extend" (rExtendT X.K) := by
  intro pins s σ H x vs v us Q I rx rv h
  obtain ⟨l, b, xs, zs, rfl, rfl, hH, hB, hz, q⟩ := h
  cases rx
  obtain ⟨u, rfl, ru⟩ := rv.one
  cases ru
  obtain ⟨z, its, n, r, hl, e⟩ := I.lstM hH
  obtain ⟨its2, r2, ⟨⟨c, dd, dt, ss⟩, e2, hc, n2, hdt⟩, z2⟩ := I.tuple hB
  have hc : c = .type "tuple" := hc
  have hdt : dt = .seq its2.toArray n2 := hdt
  subst hc
  subst hdt
  have hl2 := r2.length
  have hsz : its.toArray.size + its2.toArray.size ≤ sizeLine := by
    rw [List.size_toArray, List.size_toArray]
    omega
  have hlong : ¬ (!its.toArray.isEmpty && Builtin.List.listTooLong (its.toArray.size + its2.toArray.size)) = true := by
    rw [notLongL hsz, Bool.and_false]
    exact Bool.false_ne_true
  refine call_meets F.slot_list_extend ⟨_, e, rfl⟩ F.entry_list_extend (F.args_list_extend_2 _ _)
    (extend_tup l b its.toArray its2.toArray n n2 dd ss hlong (by rw [List.size_toArray]; omega) (by omega)) ⟨e, e2, ?_⟩
  refine ⟨.non, _, I.lset (its' := its ++ its2) hH e (by simp) (r.append r2) ?_, rfl, q⟩
  rw [List.length_append]
  omega
end SpA
set_option Elab.async false
set_option linter.all false
set_option maxRecDepth 100000
set_option maxHeartbeats 4000000
/-! Dicts whose keys are states: pairs of a row of whole numbers and a whole number. As rules of the layer. -/
namespace SpA
open PySem PySem.Spec PyProof.Rows L2
theorem in1_room {A : Around} (hu : A.units + 64 < cLine) : A.in1.units + 8 < cLine := by
  have : A.in1.units ≤ A.units + 1 := by first | exact Nat.le_refl _ | omega
  omega
/-- a state stands at a -/
def StAt (H : Hp) (a : Addr) (st : St) : Prop := ∃ b, H a = some (.tup [.ref b, .int (st.2 : Nat)]) ∧ H b = some (.tup (st.1.map fun (n : Nat) => V.int (n : Int)))
theorem StAt.same {H H' : Hp} {a : Addr} {st : St} (h : StAt H a st) (s : ∀ b o, H b = some o → H' b = some o) : StAt H' a st := by
  obtain ⟨b, h1, h2⟩ := h
  exact ⟨b, s _ _ h1, s _ _ h2⟩
theorem StAt.tups {H H' : Hp} {a : Addr} {st : St} (h : StAt H a st) (s : ∀ b xs, H b = some (.tup xs) → H' b = some (.tup xs)) : StAt H' a st := by
  obtain ⟨b, h1, h2⟩ := h
  exact ⟨b, s _ _ h1, s _ _ h2⟩
def encN (l : List Nat) : List NestedKey := l.map fun (n : Nat) => .num (n : Int)
def encS (st : St) : NestedKey := .tup [.tup (encN st.1), .num (st.2 : Nat)]
theorem encN_inj : ∀ {a b : List Nat}, encN a = encN b → a = b
  | [], [], _ => rfl
  | [], _ :: _, h => by cases h
  | _ :: _, [], h => by cases h
  | a :: r, b :: s, h => by
    unfold encN at h
    rw [List.map_cons, List.map_cons] at h
    injection h with h1 h2
    injection h1 with h1
    have h1 : a = b := by omega
    rw [h1, encN_inj (a := r) (b := s) h2]
theorem encS_inj {a b : St} (h : encS a = encS b) : a = b := by
  unfold encS at h
  injection h with h
  injection h with h1 h2
  injection h1 with h1
  injection h2 with h2 _
  injection h2 with h2
  have e1 := encN_inj h1
  have e2 : a.2 = b.2 := by omega
  exact Prod.ext e1 e2
theorem nested_ints {h : Heap} : ∀ {l : List Nat} {its : List Value}, Vals (l.map fun (n : Nat) => V.int (n : Int)) its → NestedAll h (encN l) its
  | [], its, r => by
    cases r
    exact .nil
  | n :: l, its, r => by
    cases r with
    | cons h1 h2 =>
      obtain ⟨t, rfl⟩ := h1
      exact .cons (.int _ _) (nested_ints h2)
theorem depth_ints : ∀ l : List Nat, NestedKey.depthAll (encN l) = 0
  | [] => rfl
  | _ :: l => by
    show max 0 (NestedKey.depthAll (encN l)) = 0
    rw [depth_ints l]
    rfl
theorem st_is {P : Program} {w : World} {H : Hp} {h : Heap} (ok : HOk P w H h) {a : Addr} {st : St} (e : StAt H a st) : (nestedKind P w).is h (encS st) a := by
  obtain ⟨b, h1, h2⟩ := e
  obtain ⟨-, its, rv, o, k1, k2, n, k3⟩ := (show ObjOk P w H h b (.tup _) from ok _ _ h2)
  obtain ⟨-, its', rv', o', j1, j2, n', j3⟩ := (show ObjOk P w H h a (.tup _) from ok _ _ h1)
  refine ⟨?_, ?_⟩
  · refine .tup j1 j2 j3 ?_
    cases rv' with
    | cons q1 q2 =>
      cases q2 with
      | cons q2 q3 =>
        cases q3
        obtain rfl : _ = Value.ref b := q1
        obtain ⟨t, rfl⟩ := q2
        exact .cons (.tup k1 k2 k3 (nested_ints rv)) (.cons (.int _ _) .nil)
  · show max (NestedKey.depthAll (encN st.1) + 1) (max 0 0) + 1 ≤ 8
    rw [depth_ints]
    decide
/-! ### what the dict holds -/
abbrev Ent := St × Addr × V
def vv : V → Value
  | .ref a => .ref a
  | _ => .none
/-- None or an object -/
def Plain (v : V) : Prop := v = .non ∨ ∃ a, v = .ref a
theorem rel_vv {v : V} (h : Plain v) : RelV v (vv v) := by
  rcases h with rfl | ⟨a, rfl⟩ <;> rfl
theorem vv_rel {v : V} {u : Value} (h : Plain v) (r : RelV v u) : u = vv v := by
  rcases h with rfl | ⟨a, rfl⟩ <;> exact r
def phys (e : Ent) : NestedKey × Addr × Value := (encS e.1, e.2.1, vv e.2.2)
def kat (es : List Ent) (st : St) : Option V := (es.find? fun e => decide (e.1 = st)).map (·.2.2)
theorem kat_pos {es : List Ent} {e : Ent} {st : St} (h : e.1 = st) : kat (e :: es) st = some e.2.2 := by
  unfold kat
  rw [List.find?_cons_of_pos (by exact decide_eq_true h)]
  rfl
theorem kat_neg {es : List Ent} {e : Ent} {st : St} (h : ¬ e.1 = st) : kat (e :: es) st = kat es st := by
  unfold kat
  rw [List.find?_cons_of_neg (by rw [decide_eq_false h]; decide)]
def putS (es : List Ent) (st : St) (a : Addr) (v : V) : List Ent := if (kat es st).isSome = true then es.map fun e => if e.1 = st then (e.1, e.2.1, v) else e else es ++ [(st, a, v)]
theorem phys_at (st : St) : ∀ es : List Ent, (atKey (es.map phys) (encS st)).map (·.2) = (kat es st).map vv
  | [] => rfl
  | e :: es => by
    have ih := phys_at st es
    by_cases c : e.1 = st
    · have c2 : (phys e).1 = encS st := by show encS e.1 = _; rw [c]
      simp [atKey, kat, c, c2, phys]
    · have c2 : ¬ (phys e).1 = encS st := fun z => c (encS_inj z)
      have h1 : atKey ((e :: es).map phys) (encS st) = atKey (es.map phys) (encS st) := by simp [atKey, c2]
      have h2 : kat (e :: es) st = kat es st := by simp [kat, c]
      rw [h1, h2, ih]
theorem phys_some (st : St) (es : List Ent) : (atKey (es.map phys) (encS st)).isSome = (kat es st).isSome := by
  have := congrArg Option.isSome (phys_at st es)
  rw [Option.isSome_map, Option.isSome_map] at this
  exact this
theorem phys_put (es : List Ent) (st : St) (a : Addr) (v : V) : (putS es st a v).map phys = storedH (es.map phys) (encS st) a (vv v) := by
  unfold putS storedH
  rw [phys_some]
  split
  · rw [List.map_map, List.map_map]
    apply List.map_congr_left
    intro e _
    show phys (if e.1 = st then (e.1, e.2.1, v) else e) = putAt (encS st) (vv v) (phys e)
    unfold putAt
    by_cases c : e.1 = st
    · rw [if_pos c, if_pos (show (phys e).1 = encS st by show encS e.1 = _; rw [c])]
      rfl
    · rw [if_neg c, if_neg (show ¬ (phys e).1 = encS st from fun z => c (encS_inj z))]
  · rw [List.map_append]
    rfl
theorem putS_mem {es : List Ent} {st : St} {a : Addr} {v : V} {e : Ent} (h : e ∈ putS es st a v) : (∃ e' ∈ es, e.1 = e'.1 ∧ e.2.1 = e'.2.1 ∧ (e.2.2 = e'.2.2 ∨ e.2.2 = v)) ∨ e = (st, a, v) := by
  unfold putS at h
  split at h
  · obtain ⟨e', h1, rfl⟩ := List.mem_map.mp h
    refine .inl ⟨e', h1, ?_⟩
    split
    · exact ⟨rfl, rfl, .inr rfl⟩
    · exact ⟨rfl, rfl, .inl rfl⟩
  · rcases List.mem_append.mp h with h | h
    · exact .inl ⟨e, h, rfl, rfl, .inl rfl⟩
    · exact .inr (List.mem_singleton.mp h)
theorem kat_none {es : List Ent} {st : St} (h : ¬ (kat es st).isSome = true) : st ∉ es.map (·.1) := by
  intro hm
  obtain ⟨e, h1, rfl⟩ := List.mem_map.mp hm
  apply h
  unfold kat
  rw [Option.isSome_map, List.find?_isSome]
  exact ⟨e, h1, by simp⟩
theorem putS_nodup {es : List Ent} {st : St} {a : Addr} {v : V} (h : (es.map (·.1)).Nodup) : ((putS es st a v).map (·.1)).Nodup := by
  unfold putS
  split
  · rw [List.map_map]
    have : (es.map ((fun e : Ent => e.1) ∘ fun e => if e.1 = st then (e.1, e.2.1, v) else e)) = es.map (·.1) := by
      apply List.map_congr_left
      intro e _
      show (if e.1 = st then (e.1, e.2.1, v) else e).1 = e.1
      split <;> rfl
    rw [this]
    exact h
  · next c =>
    rw [List.map_append, List.nodup_append]
    refine ⟨h, by simp, ?_⟩
    intro x hx y hy e
    rw [List.map_singleton, List.mem_singleton] at hy
    subst hy
    rw [e] at hx
    exact kat_none c hx
theorem putS_len (es : List Ent) (st : St) (a : Addr) (v : V) : (putS es st a v).length ≤ es.length + 1 := by
  unfold putS
  split
  · rw [List.length_map]; omega
  · rw [List.length_append, List.length_singleton]; exact Nat.le_refl _
theorem kat_put (es : List Ent) (st : St) (a : Addr) (v : V) (x : St) : kat (putS es st a v) x = if x = st then some v else kat es x := by
  unfold putS
  split
  · next c =>
    have go : ∀ l : List Ent, kat (l.map fun e => if e.1 = st then (e.1, e.2.1, v) else e) x = (kat l x).map fun u => if x = st then v else u := by
      intro l
      induction l with
      | nil => rfl
      | cons e l ih =>
        have e1 : (if e.1 = st then (e.1, e.2.1, v) else e).1 = e.1 := by split <;> rfl
        rw [List.map_cons]
        by_cases q : e.1 = x
        · rw [kat_pos (e1.trans q), kat_pos q, Option.map_some]
          by_cases z : e.1 = st
          · rw [if_pos z, if_pos (q.symm.trans z)]
          · rw [if_neg z, if_neg fun k => z (q.trans k)]
        · rw [kat_neg fun k => q (e1.symm.trans k), kat_neg q, ih]
    rw [go]
    by_cases q : x = st
    · subst q
      rw [if_pos rfl]
      cases e : kat es x with
      | none => rw [e] at c; cases c
      | some u => simp
    · rw [if_neg q]
      cases kat es x with
      | none => rfl
      | some u => simp [q]
  · next c =>
    unfold kat
    rw [List.find?_append, List.find?_singleton]
    by_cases q : x = st
    · subst q
      rw [if_pos rfl]
      cases e : es.find? fun e => decide (e.1 = x) with
      | none => simp
      | some u =>
        exfalso
        apply c
        unfold kat
        rw [e]
        rfl
    · rw [if_neg q]
      have : decide (st = x) = false := decide_eq_false fun k => q k.symm
      simp [this]
section
variable (P : Program) (w : World)
def kdO (d : Addr) (es : List Ent) : HO := .ext fun h => (d == sysModules) = false ∧ ∃ o xs ep, h.get? d = some o ∧ o.ExactDict ∧ o.data = .dict xs ep ∧ xs.toList = (es.map phys).map (entryOfKey (nestedKind P w))
/-- a dict of states stands at d -/
structure KDAt (H : Hp) (d : Addr) (es : List Ent) : Prop where
  at_ : H d = some (kdO P w d es)
  keys : ∀ e ∈ es, StAt H e.2.1 e.1
  nodup : (es.map (·.1)).Nodup
  plain : ∀ e ∈ es, Plain e.2.2
  len : es.length < sizeLine
end
section
variable {P : Program} {w : World}
theorem KDAt.same {H H' : Hp} {d : Addr} {es : List Ent} (h : KDAt P w H d es) (s : ∀ b o, H b = some o → H' b = some o) : KDAt P w H' d es :=
  ⟨s _ _ h.at_, fun e he => (h.keys e he).same s, h.nodup, h.plain, h.len⟩
theorem KDAt.keep {H H' : Hp} {d : Addr} {es : List Ent} (h : KDAt P w H d es) (h1 : H' d = H d) (s : ∀ b xs, H b = some (.tup xs) → H' b = some (.tup xs)) : KDAt P w H' d es :=
  ⟨by rw [h1]; exact h.at_, fun e he => (h.keys e he).tups s, h.nodup, h.plain, h.len⟩
theorem kd_of {H : Hp} {h : Heap} {d : Addr} {es : List Ent} (ok : HOk P w H h) (e : KDAt P w H d es) : (d == sysModules) = false ∧ h.DictOfH (nestedKind P w) d (es.map phys) := by
  obtain ⟨⟨hd, o, xs, ep, h1, h2, h3, h4⟩, -, -⟩ := (show ObjOk P w H h d (kdO P w d es) from ok _ _ e.at_)
  refine ⟨hd, o, xs, ep, h1, h2, h3, h4, fun x hx => ?_, ?_⟩
  · obtain ⟨y, hy, rfl⟩ := List.mem_map.mp hx
    exact st_is ok (e.keys y hy)
  · rw [List.map_map]
    have : (es.map ((fun x : NestedKey × Addr × Value => x.1) ∘ phys)) = (es.map (·.1)).map encS := by
      rw [List.map_map]
      rfl
    rw [this]
    have hn := e.nodup
    generalize es.map (·.1) = l at hn
    induction l with
    | nil => exact .nil
    | cons a l ih =>
      rw [List.nodup_cons] at hn
      rw [List.map_cons, List.nodup_cons]
      refine ⟨fun hm => ?_, ih hn.2⟩
      obtain ⟨b, hb, q⟩ := List.mem_map.mp hm
      rw [encS_inj q] at hb
      exact hn.1 hb
theorem kdO_new {H : Hp} {h' : Heap} {d : Addr} {es : List Ent} (hd : (d == sysModules) = false) (dd : h'.DictOfH (nestedKind P w) d (es.map phys)) : ObjOk P w H h' d (kdO P w d es) := by
  obtain ⟨o, xs, ep, h1, h2, h3, h4, -⟩ := dd
  refine ⟨⟨hd, o, xs, ep, h1, h2, h3, h4⟩, ⟨o, h1⟩, fun g1 g2 k hk => ?_⟩
  obtain ⟨q, o', xs', ep', k1, k2, k3, k4⟩ := k
  exact ⟨q, o', xs', ep', hk _ k1, k2, k3, k4⟩
theorem KDAt.put {H : Hp} {d a : Addr} {es : List Ent} {st : St} {v : V} (e : KDAt P w H d es) (ha : StAt H a st) (hv : Plain v) (hl : es.length + 1 < sizeLine) : KDAt P w (upd H d (kdO P w d (putS es st a v))) d (putS es st a v) := by
  have keep : ∀ b xs, H b = some (.tup xs) → upd H d (kdO P w d (putS es st a v)) b = some (.tup xs) := fun b xs h => by
    rw [upd_ne fun z => by rw [z, e.at_] at h; cases h]
    exact h
  refine ⟨upd_same, fun x hx => ?_, putS_nodup e.nodup, fun x hx => ?_, Nat.lt_of_le_of_lt (putS_len _ _ _ _) hl⟩
  · rcases putS_mem hx with ⟨y, hy, e1, e2, -⟩ | rfl
    · rw [e1, e2]
      exact (e.keys y hy).tups keep
    · exact ha.tups keep
  · rcases putS_mem hx with ⟨y, hy, -, -, e3 | e3⟩ | rfl
    · rw [e3]; exact e.plain y hy
    · rw [e3]; exact hv
    · exact hv
end
section
variable {X : Cx} {pins : List (Addr × Obj)} {σ : L2.St} {H : Hp} {s : Shared} {d a : Addr} {es : List Ent} {st : St} {v : V} {r : Value} {A : Around} {E : Value → Shared → Prop}
theorem kd_getItem {Q : Value → Shared → Prop} (hu : A.units + 64 < cLine) (I : Inv X pins σ H s) (e : KDAt X.prog X.w H d es) (ea : StAt H a st) (g : kat es st = some v) (h : ∀ w' s', Inv X pins σ H s' → RelV v w' → Q w' s') :
    wpAny (model X.prog X.w) A (getItem (.ref d) (.ref a)) Q E s := by
  obtain ⟨hd, dd⟩ := kd_of I.hok e
  have q := phys_at st es
  rw [g] at q
  obtain ⟨p, hp, hp2⟩ := Option.map_eq_some_iff.mp q
  refine wpAny_getItem_heap (knd := nestedKind X.prog X.w) (in1_room hu) (st_is I.hok ea) dd hp ?_
  rw [hp2]
  refine h _ _ (I.tok _) (rel_vv ?_)
  unfold kat at g
  obtain ⟨x, hx, rfl⟩ := Option.map_eq_some_iff.mp g
  exact e.plain x (List.mem_of_find?_eq_some hx)
theorem kd_notIn {Q : Value → Shared → Prop} (hu : A.units + 64 < cLine) (I : Inv X pins σ H s) (e : KDAt X.prog X.w H d es) (ea : StAt H a st) (h : ∀ s', Inv X pins σ H s' → Q (.bool (!(kat es st).isSome)) s') :
    wpAny (model X.prog X.w) A (compareOp .NotIn (.ref a) (.ref d)) Q E s := by
  obtain ⟨hd, dd⟩ := kd_of I.hok e
  refine wpAny_notIn_heap (knd := nestedKind X.prog X.w) (in1_room hu) (st_is I.hok ea) hd dd ?_
  rw [phys_some]
  exact h _ (I.tok _)
theorem kd_setItem {Q : Unit → Shared → Prop} (hu : A.units + 64 < cLine) (I : Inv X pins σ H s) (e : KDAt X.prog X.w H d es) (ea : StAt H a st) (hv : Plain v) (rv : RelV v r) (h : ∀ s', Inv X pins σ (upd H d (kdO X.prog X.w d (putS es st a v))) s' → Q () s') :
    wpAny (model X.prog X.w) A (setItem (.ref d) (.ref a) r) Q E s := by
  obtain ⟨hd, dd⟩ := kd_of I.hok e
  refine wpAny_setItem_heap (knd := nestedKind X.prog X.w) (hsz := by rw [List.length_map]; exact Nat.le_of_lt e.len) (in1_room hu) (st_is I.hok ea) dd fun h' dd' hs => h _ ?_
  have he : ∃ q, h'.get? d = some q := let ⟨q, _, _, hq, _⟩ := dd'; ⟨q, hq⟩
  refine d_write I (by rw [e.at_]; exact True.intro) hs he (kdO_new hd ?_)
  rw [phys_put, ← vv_rel hv rv]
  exact dd'
theorem kd_dictSet {Q : Unit → Shared → Prop} (hu : A.units + 64 < cLine) (I : Inv X pins σ H s) (e : KDAt X.prog X.w H d es) (ea : StAt H a st) (hv : Plain v) (rv : RelV v r) (h : ∀ s', Inv X pins σ (upd H d (kdO X.prog X.w d (putS es st a v))) s' → Q () s') :
    wpAny (model X.prog X.w) A (dictSet d (.ref a) r) Q E s := by
  obtain ⟨hd, dd⟩ := kd_of I.hok e
  refine wpAny_dictSet_heap (knd := nestedKind X.prog X.w) (hsz := by rw [List.length_map]; exact Nat.le_of_lt e.len) (by show A.units + 8 < cLine; omega) (st_is I.hok ea) dd fun h' dd' hs => h _ ?_
  have he : ∃ q, h'.get? d = some q := let ⟨q, _, _, hq, _⟩ := dd'; ⟨q, hq⟩
  refine d_write I (by rw [e.at_]; exact True.intro) hs he (kdO_new hd ?_)
  rw [phys_put, ← vv_rel hv rv]
  exact dd'
theorem kd_get2 {z : V} {y : Value} {Q : Value → Shared → Prop} (hu : A.units + 64 < cLine) (I : Inv X pins σ H s) (e : KDAt X.prog X.w H d es) (ea : StAt H a st) (rz : RelV z y) (h : ∀ w' s', Inv X pins σ H s' → RelV ((kat es st).getD z) w' → Q w' s') :
    wpAny (model X.prog X.w) A (call (.builtin "dict.get") [.ref d, .ref a, y]) Q E s := by
  obtain ⟨hd, dd⟩ := kd_of I.hok e
  refine call_meetsIn PySem.F.slot_dict_get dd.typeIs PySem.F.entry_dict_get (PySem.F.args_dict_get_3 _ _ _) (meetsH_dict_get_default (nestedKind X.prog X.w) d a hd y)
    ⟨in1_room hu, encS st, es.map phys, st_is I.hok ea, dd, h _ _ (I.tok _) ?_⟩
  rw [phys_at]
  cases g : kat es st with
  | none => exact rz
  | some u =>
    refine rel_vv ?_
    unfold kat at g
    obtain ⟨x, hx, rfl⟩ := Option.map_eq_some_iff.mp g
    exact e.plain x (List.mem_of_find?_eq_some hx)
theorem kd_typeIs (I : Inv X pins σ H s) (e : KDAt X.prog X.w H d es) : s.TypeIs (.ref d) "dict" ∧ ∀ b, Value.ref d = .ref b → ∃ ob, s.heap.get? b = some ob ∧ ob.dict = none := by
  obtain ⟨hd, dd⟩ := kd_of I.hok e
  refine ⟨dd.typeIs, fun b q => ?_⟩
  cases q
  obtain ⟨ob, _, _, h1, h2, _⟩ := dd
  exact ⟨ob, h1, h2.2.1⟩
end
/-! ### the rules -/
section
variable (P : Program) (w : World)
def tKGet (td ty : TE) : TE := fun σ H Q => td σ H fun x H1 => ty σ H1 fun y H2 => ∃ d a es st v, x = .ref d ∧ y = .ref a ∧ KDAt P w H2 d es ∧ StAt H2 a st ∧ kat es st = some v ∧ Q v H2
def tKNotIn (ty td : TE) : TE := fun σ H Q => ty σ H fun y H1 => td σ H1 fun x H2 => ∃ d a es st, x = .ref d ∧ y = .ref a ∧ KDAt P w H2 d es ∧ StAt H2 a st ∧ Q (.bl (!(kat es st).isSome)) H2
def sKPut (td ty tv : TE) : TS := fun D σ H => tv σ H fun v H1 => td σ H1 fun x H2 => ty σ H2 fun y H3 => ∃ d a es st, x = .ref d ∧ y = .ref a ∧ KDAt P w H3 d es ∧ StAt H3 a st ∧ Plain v ∧ D.nx σ (upd H3 d (kdO P w d (putS es st a v)))
def tKGet2 (td ty tx : TE) : TE := fun σ H Q => td σ H fun x H1 => ∃ d es, x = .ref d ∧ KDAt P w H1 d es ∧ ty σ H1 fun y H2 => tx σ H2 fun z H3 => ∃ a st, y = .ref a ∧ KDAt P w H3 d es ∧ StAt H3 a st ∧ Q ((kat es st).getD z) H3
def tKNew : TE := fun _ H Q => ∀ p, H p = none → KDAt P w (upd H p (kdO P w p [])) p [] → Q (.ref p) (upd H p (kdO P w p []))
def tKDisp (tk tv : TE) : TE := fun σ H Q => ∀ p, H p = none → KDAt P w (upd H p (kdO P w p [])) p [] → tk σ (upd H p (kdO P w p [])) fun x H1 => tv σ H1 fun y H2 => ∃ a st, x = .ref a ∧ KDAt P w H2 p [] ∧ StAt H2 a st ∧ Plain y ∧
  Q (.ref p) (upd H2 p (kdO P w p (putS [] st a y)))
end
def tTDisp (tk tv : TE) : TE := fun σ H Q => ∀ p, H p = none → tk σ (upd H p (.dT [])) fun x H1 => tv σ H1 fun y H2 => ∃ a k, x = .ref a ∧ H2 p = some (.dT []) ∧ H2 a = some (.tup (k.map kV)) ∧ Q (.ref p) (upd H2 p (.dT [(k, y)]))
section
variable {X : Cx} {o i e f value : Expr} {pos pos' apos cpos : Pos} {td ty tv tx tk : TE}
theorem pe_kget (hu : X.A.units + 64 < cLine) (ho : PE X o td) (hi : PE X i ty) (hs : NoSl i) : PE X (.Subscript o i pos) (tKGet X.prog X.w td ty) := by
  refine ⟨fun pins s σ H Q I h => ?_⟩
  refine subD_of PySem.F.slot_dict_getitem.lookup hs (thn (ho.run pins s σ H _ I h) fun u s1 ⟨x, H1, I1, rx, q1⟩ => thn (hi.run pins s1 σ H1 _ I1 q1) fun iv s2 ⟨y, H2, I2, ry, d, a, es, st, v, ex, ey, k1, k2, g, q2⟩ => ?_)
  subst ex ey
  obtain rfl : u = Value.ref d := rx
  obtain rfl : iv = Value.ref a := ry
  exact ⟨(kd_typeIs I2 k1).1, kd_getItem hu I2 k1 k2 g fun w' s3 I3 rw' => ⟨v, H2, I3, rw', q2⟩⟩
theorem pc_knotin (hu : X.A.units + 64 < cLine) (hi : PE X i ty) (ho : PE X o td) : PC X .NotIn i o (tKNotIn X.prog X.w ty td) := by
  refine ⟨fun pins s σ H Q I h => ?_⟩
  refine thn (hi.run pins s σ H _ I h) fun iv s1 ⟨y, H1, I1, ry, q1⟩ => thn (ho.run pins s1 σ H1 _ I1 q1) fun u s2 ⟨x, H2, I2, rx, d, a, es, st, ex, ey, k1, k2, q2⟩ => ?_
  subst ex ey
  obtain rfl : u = Value.ref d := rx
  obtain rfl : iv = Value.ref a := ry
  exact kd_notIn hu I2 k1 k2 fun s3 I3 => ⟨.bl (!(kat es st).isSome), H2, I3, rfl, q2⟩
theorem ps_kput (hu : X.A.units + 64 < cLine) (ho : PE X o td) (hi : PE X i ty) (hv : PE X value tv) (hs : swapsWith value (some (.Subscript o i pos')) pos.line X.env = pure false) :
    PS X (.Assign [.Subscript o i pos'] value pos) (sKPut X.prog X.w td ty tv) := by
  refine ⟨fun pins s σ H D I h => ?_⟩
  refine wpAny_Assign_Subscript (thn (hv.run pins s σ H _ I h) fun r s1 ⟨v, H1, I1, rv, q1⟩ => thn (ho.run pins s1 σ H1 _ I1 q1) fun u s2 ⟨x, H2, I2, rx, q2⟩ => thn (hi.run pins s2 σ H2 _ I2 q2) fun iv s3 ⟨y, H3, I3, ry, d, a, es, st, ex, ey, k1, k2, hp, q3⟩ => ?_) hs
  subst ex ey
  obtain rfl : u = Value.ref d := rx
  obtain rfl : iv = Value.ref a := ry
  exact kd_setItem hu I3 k1 k2 hp rv fun s4 I4 => ⟨σ, _, I4, q3⟩
theorem ps_kputP {P : Program} {w : World} (hP : X.prog = P) (hw : X.w = w) (hu : X.A.units + 64 < cLine) (ho : PE X o td) (hi : PE X i ty) (hv : PE X value tv) (hs : swapsWith value (some (.Subscript o i pos')) pos.line X.env = pure false) :
    PS X (.Assign [.Subscript o i pos'] value pos) (sKPut P w td ty tv) := by
  subst hP hw
  exact ps_kput hu ho hi hv hs
theorem pe_kget2 (hu : X.A.units + 64 < cLine) (ho : PE X o td) (he : PE X e ty) (hf : PE X f tx) (m : M2 X o "get" apos e f cpos) : PE X (.Call (.Attribute o "get" apos) [e, f] [] cpos) (tKGet2 X.prog X.w td ty tx) := by
  refine ⟨fun pins s σ H Q I h => ?_⟩
  refine wpAny_Call_method m.base m.few m.line PySem.F.plainAttrs_dict PySem.F.slot_dict_get PySem.F.type_dict_get (thn (ho.run pins s σ H _ I h) fun u s1 ⟨x, H1, I1, rx, d, es, ex, k1, q1⟩ => ?_)
  subst ex
  obtain rfl : u = Value.ref d := rx
  obtain ⟨t1, t2⟩ := kd_typeIs I1 k1
  refine ⟨t1, t2, ?_⟩
  rw [m.trees]
  refine Calls.callWith_builtin rfl (Calls.evalArgs_plain (Calls.spliced_cons (thn (he.run pins s1 σ H1 _ I1 q1) fun iv s2 ⟨y, H2, I2, ry, q2⟩ =>
    Calls.spliced_cons (thn (hf.run pins s2 σ H2 _ I2 q2) fun fv s3 ⟨z, H3, I3, rz, a, st, ey, k2, k3, q3⟩ => Calls.spliced_nil ?_))))
  subst ey
  obtain rfl : iv = Value.ref a := ry
  exact kd_get2 hu I3 k2 k3 rz fun w' s4 I4 rw' => ⟨_, H3, I4, rw', q3⟩
theorem kd_empty {P : Program} {w : World} {H : Hp} (h : Heap) (hb : sysModules < h.objs.size) : ObjOk P w H (h.push { cls := .type "dict", data := .dict #[] }) h.objs.size (kdO P w h.objs.size []) :=
  kdO_new (beq_eq_false_iff_ne.mpr (Ne.symm (Nat.ne_of_lt hb))) (Heap.DictOfH.new h)
theorem kdAt_empty {P : Program} {w : World} {H : Hp} {p : Addr} : KDAt P w (upd H p (kdO P w p [])) p [] := ⟨upd_same, by simp, by simp, by simp, by show 0 < sizeLine; decide⟩
theorem pe_knew : PE X (.Dict [] [] pos) (tKNew X.prog X.w) := ⟨fun pins s σ H Q I h =>
  wpAny_Dict_empty ⟨.ref s.heap.objs.size, _, I.laid (a := s.heap.objs.size) (o := kdO X.prog X.w s.heap.objs.size []) (t' := s.toks) (fun _ _ q => Heap.get?_push_of_some _ q) (Nat.le_refl _) (kd_empty s.heap I.big), rfl, h _ (I.hok.fresh (Nat.le_refl _)) kdAt_empty⟩⟩
theorem store_one {prog : Program} {w : World} {A : Around} {E : Value → Shared → Prop} {s : Shared} {d : Addr} {k v : Value} {Q : Unit → Shared → Prop} (h : wpAny (model prog w) A (dictSet d k v) Q E s) :
    wpAny (model prog w) A (storeAll d [(k, v)]) Q E s := by
  unfold storeAll
  rw [List.forIn_cons]
  refine wpAny_bind (wpAny_bind (thn h fun _ s' q => ?_))
  refine wpAny_pure ?_
  show wpAny (model prog w) A (forIn [] _ _) Q E s'
  rw [List.forIn_nil]
  exact wpAny_pure q
theorem pe_kdisp (hu : X.A.units + 64 < cLine) (hk : PE X e tk) (hv : PE X f tv) : PE X (.Dict [some e] [f] pos) (tKDisp X.prog X.w tk tv) := by
  refine ⟨fun pins s σ H Q I q => ?_⟩
  have hn := I.hok.fresh (Nat.le_refl s.heap.objs.size)
  have I1 := I.laid (a := s.heap.objs.size) (o := kdO X.prog X.w s.heap.objs.size []) (h' := s.heap.push { cls := .type "dict", data := .dict #[] }) (t' := s.toks) (fun _ _ q => Heap.get?_push_of_some _ q) (Nat.le_refl _) (kd_empty s.heap I.big)
  refine wpAny_Dict_any rfl rfl (by intro z; cases z) (by show 1 ≤ 15; decide) (pairTrees_cons_walk (thn (hk.run pins _ σ _ _ I1 (q _ hn kdAt_empty)) fun u s1 ⟨x, H1, I2, rx, q1⟩ => thn (hv.run pins s1 σ H1 _ I2 q1) fun r s2 ⟨y, H2, I3, ry, a, st, ex, k1, k2, hp, q2⟩ =>
    pairTrees_nil_walk (store_one ?_)))
  subst ex
  obtain rfl : u = Value.ref a := rx
  exact kd_dictSet hu I3 k1 k2 hp ry fun s3 I4 => ⟨.ref s.heap.objs.size, _, I4, rfl, q2⟩
theorem pe_tdisp (hu : X.A.units + 64 < cLine) (hk : PE X e tk) (hv : PE X f tv) : PE X (.Dict [some e] [f] pos) (tTDisp tk tv) := by
  refine ⟨fun pins s σ H Q I q => ?_⟩
  have hn := I.hok.fresh (Nat.le_refl s.heap.objs.size)
  have I1 := I.laid (a := s.heap.objs.size) (o := .dT []) (h' := s.heap.push { cls := .type "dict", data := .dict #[] }) (t' := s.toks) (fun _ _ q => Heap.get?_push_of_some _ q) (Nat.le_refl _) (dt_empty s.heap I.big)
  refine wpAny_Dict_any rfl rfl (by intro z; cases z) (by show 1 ≤ 15; decide) (pairTrees_cons_walk (thn (hk.run pins _ σ _ _ I1 (q _ hn)) fun u s1 ⟨x, H1, I2, rx, q1⟩ => thn (hv.run pins s1 σ H1 _ I2 q1) fun r s2 ⟨y, H2, I3, ry, a, k, ex, k1, k2, q2⟩ =>
    pairTrees_nil_walk (store_one ?_)))
  subst ex
  obtain rfl : u = Value.ref a := rx
  obtain ⟨z, hd, xs, rel, dd⟩ := dt_of I3.hok k1
  cases rel
  refine wpAny_dictSet_heap (knd := tupleKind (mixKind X.prog X.w)) (hsz := Nat.zero_le _) (by show X.A.units < cLine; omega) (key_of I3.hok k2) dd fun h' dd' hs => ⟨.ref s.heap.objs.size, _, ?_, rfl, q2⟩
  obtain ⟨ob, es, ep, hq, h2, h3, h4, _, h5⟩ := dd'
  refine d_write I3 (by rw [k1]; exact True.intro) hs ⟨ob, hq⟩ ⟨(by show 1 ≤ sizeLine; decide), hd, _, .cons ⟨rfl, ?_, ry⟩ .nil, ob, es, ep, hq, h2, h3, h4, h5⟩
  rw [upd_ne (ne_of k2 k1 (fun z => nomatch z))]
  exact k2
theorem pe_kdispP {P : Program} {w : World} (hP : X.prog = P) (hw : X.w = w) (hu : X.A.units + 64 < cLine) (hk : PE X e tk) (hv : PE X f tv) : PE X (.Dict [some e] [f] pos) (tKDisp P w tk tv) := by
  subst hP hw
  exact pe_kdisp hu hk hv
theorem pe_knewP {P : Program} {w : World} (hP : X.prog = P) (hw : X.w = w) : PE X (.Dict [] [] pos) (tKNew P w) := by
  subst hP hw
  exact pe_knew
theorem pc_knotinP {P : Program} {w : World} (hP : X.prog = P) (hw : X.w = w) (hu : X.A.units + 64 < cLine) (hi : PE X i ty) (ho : PE X o td) : PC X .NotIn i o (tKNotIn P w ty td) := by
  subst hP hw
  exact pc_knotin hu hi ho
end
end SpA
set_option Elab.async false
set_option linter.all false
set_option maxRecDepth 100000
set_option maxHeartbeats 4000000
/-! Rules of the layer: == of two lists of whole numbers; a walk over a list or a dict's keys; sorted of steps. -/
namespace SpA
open PySem PySem.Spec PyProof.Rows L2
/-! ### == -/
theorem nums_eq : ∀ {a b : List Nat}, (List.range a.length).all (fun j => a[j]? == b[j]?) = true → a.length = b.length → a = b
  | a, b, h, hl => by
    apply List.ext_getElem? 
    intro j
    rcases Nat.lt_or_ge j a.length with c | c
    · have := List.all_eq_true.mp h j (List.mem_range.mpr c)
      simpa using this
    · rw [List.getElem?_eq_none c, List.getElem?_eq_none (by omega)]
def rEqNums (K : PySem.W.Frag) : R2 := fun x y H Q => ∃ (a b : Addr) (xs ys : List Nat), x = .ref a ∧ y = .ref b ∧ SqL K H a (xs.map fun (n : Nat) => V.int (n : Int)) ∧ SqL K H b (ys.map fun (n : Nat) => V.int (n : Int)) ∧ Q (.bl (decide (xs = ys))) H
theorem op_eqNums {X : Cx} (hu : X.A.units + 64 < cLine) : OpR X (compareOp .Eq) (rEqNums X.K) := by
  intro pins s σ H x y v u Q I rx ry h
  obtain ⟨a, b, xs, ys, rfl, rfl, ha, hb, q⟩ := h
  obtain rfl : v = Value.ref a := rx
  obtain rfl : u = Value.ref b := ry
  obtain ⟨us, r1, p1, _⟩ := I.list ha
  obtain ⟨ws, r2, p2, _⟩ := I.list hb
  have l1 : us.length = xs.length := by rw [← r1.length, List.length_map]
  have l2 : ws.length = ys.length := by rw [← r2.length, List.length_map]
  by_cases c : xs.length = ys.length
  · have hsz : us.toArray.size = ws.toArray.size := by rw [List.size_toArray, List.size_toArray, l1, l2, c]
    refine SeqAt.RcAt.lists (e := fun j => xs[j]? == ys[j]?) p1.isList p2.isList hsz (by omega) (fun j h1 h2 => ?_) _ _ _ _ ?_
    · rw [List.size_toArray] at h1 h2
      obtain ⟨v1, e1, g1⟩ := r1.get (i := j) (x := V.int ((xs[j]'(by omega) : Nat) : Int)) (by rw [List.getElem?_map, List.getElem?_eq_getElem (by omega)]; rfl)
      obtain ⟨v2, e2, g2⟩ := r2.get (i := j) (x := V.int ((ys[j]'(by omega) : Nat) : Int)) (by rw [List.getElem?_map, List.getElem?_eq_getElem (by omega)]; rfl)
      obtain ⟨t1, rfl⟩ := g1
      obtain ⟨t2, rfl⟩ := g2
      have q1 : us.toArray[j] = Value.int ((xs[j]'(by omega) : Nat) : Int) t1 := by
        rw [List.getElem_toArray]
        rw [List.getElem?_eq_getElem (by omega)] at e1
        exact Option.some.inj e1
      have q2 : ws.toArray[j] = Value.int ((ys[j]'(by omega) : Nat) : Int) t2 := by
        rw [List.getElem_toArray]
        rw [List.getElem?_eq_getElem (by omega)] at e2
        exact Option.some.inj e2
      rw [q1, q2]
      have e3 : (xs[j]? == ys[j]?) = (((xs[j]'(by omega) : Nat) : Int) == ((ys[j]'(by omega) : Nat) : Int)) := by
        rw [List.getElem?_eq_getElem (by omega), List.getElem?_eq_getElem (by omega), Bool.eq_iff_iff]
        simp
        omega
      rw [e3]
      exact SeqAt.EqAt.int_int _ _ _ _
    · have e4 : ((List.range us.toArray.size).all fun j => xs[j]? == ys[j]?) = decide (xs = ys) := by
        rw [Bool.eq_iff_iff, decide_eq_true_eq, List.size_toArray, l1]
        constructor
        · exact fun z => nums_eq z c
        · rintro rfl
          simp
      rw [e4]
      exact ⟨.bl _, H, I, rfl, q⟩
  · have hsz : (us.toArray.size != ws.toArray.size) = true := by
      rw [List.size_toArray, List.size_toArray, l1, l2]
      simpa using c
    refine SeqAt.RcAt.lists_lengths p1.isList p2.isList hsz (by omega) _ _ _ _ ?_
    rw [decide_eq_false fun z => c (by rw [z])] at q
    exact ⟨.bl _, H, I, rfl, q⟩
/-! ### for x in a list, or in a dict that is locked -/
def iEither (K : PySem.W.Frag) (td : TE) : TI := fun σ H R => td σ H fun x H1 => (∃ a xs, x = .ref a ∧ SqL K H1 a xs ∧ R (Itl K a) H1) ∨ ∃ d o kvs, x = .ref d ∧ H1 d = some (.frz o (.dK kvs)) ∧ R (Itk d o kvs) H1
theorem pi_either {X : Cx} {tg e : Expr} {td : TE} (he : PE X e td) : PI X tg e (iEither X.K td) := by
  refine ⟨fun pins s σ H R I h => thn (he.run pins s σ H _ I h) fun v s1 ⟨x, H1, I1, rx, q⟩ => ?_⟩
  rcases q with ⟨a, xs, rfl, hq, q⟩ | ⟨d, o, kvs, rfl, hd, q⟩
  · obtain rfl : v = Value.ref a := rx
    obtain ⟨its, rv, pl, -⟩ := I1.list hq
    exact wpAny_pyIter_list pl.isList (pi_one (tk := s1.toks) I1 _ (turn_list a _) ⟨_, Heap.get?_push_size _ rfl, rfl, rfl⟩ q)
  · obtain rfl : v = Value.ref d := rx
    obtain ⟨hs, hgd, hx, es, ep, vs, hdt, hsz, kv, hm⟩ := I1.frzK hd
    refine iter_keys hs hgd hx hdt (pi_one (tk := s1.toks) I1 _ (turn_keys _ hdt) ⟨_, Heap.get?_push_size _ rfl, rfl, ?_⟩ q)
    rw [hsz] <;> rfl
/-! ### sorted of steps: a letter, a state -/
abbrev StepA := (Nat × St) × Addr
/-- a step stands at its place -/
def StepAt (H : Hp) (p : StepA) : Prop := ∃ b, H p.2 = some (.tup [.int (p.1.1 : Nat), .ref b]) ∧ StAt H b p.1.2
theorem StepAt.same {H H' : Hp} {p : StepA} (h : StepAt H p) (s : ∀ b o, H b = some o → H' b = some o) : StepAt H' p := by
  obtain ⟨b, h1, h2⟩ := h
  exact ⟨b, s _ _ h1, h2.same s⟩
def encY (st : St) : PyData := .tuple [.tuple ((st.1.map fun (n : Nat) => (n : Int)).map .int), .int (st.2 : Nat)]
def encZ (p : StepA) : PyData := .tuple [.int (p.1.1 : Nat), encY p.1.2]
theorem alike_Y (a b : St) : PySem.W.alike (encY a) (encY b) = true := by
  unfold encY
  have := PySem.W.alike_ints (a.1.map fun (n : Nat) => (n : Int)) (b.1.map fun (n : Nat) => (n : Int))
  simp [PySem.W.alike, PySem.W.alikeAll] at this ⊢
  exact this
theorem alike_Z (a b : StepA) : PySem.W.alike (encZ a) (encZ b) = true := by
  unfold encZ
  have := alike_Y a.1.2 b.1.2
  simp [PySem.W.alike, PySem.W.alikeAll]
  exact this
theorem reads_st {P : Program} {w : World} {H : Hp} {h : Heap} (ok : HOk P w H h) {a : Addr} {st : St} (e : StAt H a st) : Reads h (.ref a) (encY st) [] := by
  obtain ⟨b, h1, h2⟩ := e
  obtain ⟨-, its, rv, o, k1, k2, n, k3⟩ := (show ObjOk P w H h b (.tup _) from ok _ _ h2)
  obtain ⟨-, its', rv', o', j1, j2, n', j3⟩ := (show ObjOk P w H h a (.tup _) from ok _ _ h1)
  refine .tuple j1 j2 j3 ?_
  cases rv' with
  | cons q1 q2 =>
    cases q2 with
    | cons q2 q3 =>
      cases q3
      obtain rfl : _ = Value.ref b := q1
      obtain ⟨t, rfl⟩ := q2
      exact .cons (as := []) (bs := []) (.tuple k1 k2 k3 (reads_ints rv)) (.cons (as := []) (bs := []) (.int _ _) .nil)
theorem reads_step {P : Program} {w : World} {H : Hp} {h : Heap} (ok : HOk P w H h) {p : StepA} (e : StepAt H p) : Reads h (.ref p.2) (encZ p) [] := by
  obtain ⟨b, h1, h2⟩ := e
  obtain ⟨-, its', rv', o', j1, j2, n', j3⟩ := (show ObjOk P w H h p.2 (.tup _) from ok _ _ h1)
  refine .tuple j1 j2 j3 ?_
  cases rv' with
  | cons q1 q2 =>
    cases q2 with
    | cons q2 q3 =>
      cases q3
      obtain ⟨t, rfl⟩ := q1
      obtain rfl : _ = Value.ref b := q2
      exact .cons (as := []) (bs := []) (.int _ _) (.cons (as := []) (bs := []) (reads_st ok h2) .nil)
theorem steps_inj : ∀ {bs : List StepA}, (bs.map fun p => p.1.1).Nodup → ∀ {p q : StepA}, p ∈ bs → q ∈ bs → p.1.1 = q.1.1 → p = q
  | [], _, _, _, hp, _, _ => by cases hp
  | a :: bs, hn, p, q, hp, hq, c => by
    rw [List.map_cons, List.nodup_cons] at hn
    rcases List.mem_cons.mp hp with e1 | hp
    · rcases List.mem_cons.mp hq with e2 | hq
      · rw [e1, e2]
      · exact absurd (List.mem_map.mpr ⟨q, hq, by rw [← c, e1]⟩) hn.1
    · rcases List.mem_cons.mp hq with e2 | hq
      · exact absurd (List.mem_map.mpr ⟨p, hp, by rw [c, e2]⟩) hn.1
      · exact steps_inj hn.2 hp hq c
theorem its_refs : ∀ {bs : List StepA} {its : List Value}, Vals (bs.map fun p => V.ref p.2) its → its = bs.map fun p => Value.ref p.2
  | [], _, r => by
    cases r
    rfl
  | p :: bs, _, r => by
    rw [List.map_cons] at r
    cases r with
    | cons h1 h2 =>
      obtain rfl : _ = Value.ref p.2 := h1
      rw [its_refs h2]
      rfl
theorem each_step {R : Value → StepA → Prop} : ∀ {bs : List StepA}, (∀ b ∈ bs, R (Value.ref b.2) b) → PySem.W.EachIs R (bs.map fun b => Value.ref b.2) bs
  | [], _ => .nil
  | b :: r, h => .cons (h b List.mem_cons_self) (each_step fun c hc => h c (List.mem_cons_of_mem _ hc))
theorem le_steps {bs : List StepA} (hn : (bs.map fun p => p.1.1).Nodup) : ∀ p ∈ bs, ∀ q ∈ bs, PySem.W.dataLe false encZ p q = decide (p.1.1 ≤ q.1.1) := by
  intro p hp q hq
  show (!PySem.W.dataLt (encZ q) (encZ p)) = _
  by_cases c : p.1.1 = q.1.1
  · have e : p = q := steps_inj hn hp hq c
    subst e
    unfold encZ
    rw [PySem.W.dataLt_tuple, PyProof.Rows.lex_irrefl, decide_eq_true (Nat.le_refl _)]
    rfl
  · unfold encZ
    rw [PySem.W.dataLt_pair rfl (alike_Y _ _)]
    have e : PyData.eqv (.int (q.1.1 : Nat)) (.int (p.1.1 : Nat)) = false := by
      simp [PyData.eqv]
      omega
    rw [e, if_neg (by decide), PySem.W.dataLt_int, ← decide_not]
    exact decide_eq_decide.mpr (by omega)
def rSortSteps : List V → Hp → VK → Prop := fun vs H Q => ∃ (a : Addr) (bs : List StepA), vs = [.ref a] ∧ H a = some (.lst (bs.map fun p => V.ref p.2)) ∧ (∀ p ∈ bs, StepAt H p) ∧ (bs.map fun p => p.1.1).Nodup ∧
  ∀ (out : List StepA) (p : Addr), out.Perm bs → (out.map (·.1)).Pairwise (fun x y => x.1 < y.1) → H p = none → Q (.ref p) (upd H p (.lst (out.map fun p => V.ref p.2)))
theorem cr_sortSteps {X : Cx} (hu : X.A.units + 64 < cLine) : CallR X (.builtin "sorted") rSortSteps := by
  intro pins s σ H vs us Q I r h
  obtain ⟨a, bs, rfl, ha, hs, hn, q⟩ := h
  obtain ⟨u, rfl, ru⟩ := vals1 r
  obtain rfl : u = Value.ref a := ru
  obtain ⟨its, rv, hl, hz⟩ := I.list (SqL.of ha)
  have hits : its = bs.map fun p => Value.ref p.2 := its_refs rv
  subst hits
  have hR := each_refs (α := Nat × St) bs
  have hRd : PySem.W.EachIs (fun (v : Value) (b : StepA) => ∃ as, Reads s.heap v (encZ b) as) (bs.map fun b => Value.ref b.2) bs := each_step fun b hb => ⟨[], reads_step I.hok (hs b hb)⟩
  rw [List.length_map] at hz
  refine PySem.W.sorted_data (enc := encZ) hl.isList hR hRd (.of alike_Z) (.tuples fun b => ⟨_, _, rfl⟩) hz (fun b _ => ?_) fun out hlo hout => ?_
  · have : (encZ b).depth ≤ 3 := by
      unfold encZ encY
      simp only [PyData.depth, PyData.depthAll]
      rw [PySem.W.depth_ints]
      decide
    omega
  · have hp := List.mergeSort_perm bs (PySem.W.dataLe false encZ)
    have hle := List.map_mergeSort (r := PySem.W.dataLe false encZ) (s := fun p q => decide (p.1.1 ≤ q.1.1)) (f := id) (l := bs) (le_steps hn)
    rw [List.map_id, List.map_id] at hle
    have hpw : (bs.mergeSort fun p q => decide (p.1.1 ≤ q.1.1)).Pairwise (fun x y => decide (x.1.1 ≤ y.1.1) = true) :=
      List.pairwise_mergeSort (fun a b c h1 h2 => by
        rw [decide_eq_true_eq] at h1 h2 ⊢
        omega) (fun a b => by
        rw [Bool.or_eq_true, decide_eq_true_eq, decide_eq_true_eq]
        omega) bs
    rw [← hle] at hpw
    have eo := each_refs_eq hout
    obtain ⟨c, hc⟩ := PyProof.Rows.sortedAll_at s.heap (bs.map fun b => Value.ref b.2) (List.toArray out)
    have hlen : ((bs.mergeSort (PySem.W.dataLe false encZ)).map fun b => V.ref b.2).length ≤ sizeLine := by
      rw [List.length_map, hp.length_eq]
      exact hz
    refine ⟨.ref (s.heap.objs.size + 1), upd H (s.heap.objs.size + 1) (.lst ((bs.mergeSort (PySem.W.dataLe false encZ)).map fun b => V.ref b.2)), I.laid (t' := s.toks) (fun b u e => PyProof.Rows.sortedAll_old e) (Nat.le_succ _)
      (show ObjOk X.prog X.w _ _ _ (.lst _) from ⟨hlen, out, c, ?_, hc⟩), rfl, q _ _ hp ?_ (I.hok.fresh (Nat.le_succ _))⟩
    · rw [eo]
      have := vals_refs ((bs.mergeSort (PySem.W.dataLe false encZ)).map (·.2))
      rw [List.map_map, List.map_map] at this
      exact this
    · rw [List.pairwise_map]
      have hn2 : ((bs.mergeSort (PySem.W.dataLe false encZ)).map fun p => p.1.1).Nodup := ((hp.map _).nodup_iff).mpr hn
      unfold List.Nodup at hn2
      rw [List.pairwise_map] at hn2
      refine (hpw.and hn2).imp fun {x y} z => ?_
      have := of_decide_eq_true z.1
      have := z.2
      omega
end SpA
set_option Elab.async false
set_option linter.all false
set_option maxRecDepth 100000
set_option maxHeartbeats 4000000
/-! Short words over the layer: rows of numbers as values, heaps. -/
namespace SpA
open PySem PySem.Spec PyProof.Rows L2

def topS (i : Nat) : Stmt := PySem.Challenge.pw_soundspelling_s01_answers.main.body.getD i (.Pass ⟨0, 0, 0, 0⟩)
abbrev vn (n : Nat) : V := .int (n : Int)
abbrev vl (l : List Nat) : List V := l.map vn
theorem vl_zs (l : List Nat) : vl l = (zs l).map V.int := by
  unfold vl zs
  rw [List.map_map]
  rfl
theorem vl_get {l : List Nat} {i : Nat} {v : V} (h : (vl l)[i]? = some v) : ∃ n, l[i]? = some n ∧ v = vn n := by
  rw [List.getElem?_map] at h
  cases e : l[i]? with
  | none => rw [e] at h; cases h
  | some n =>
    rw [e] at h
    exact ⟨n, rfl, (Option.some.inj h).symm⟩
theorem vl_at {l : List Nat} {i n : Nat} (h : l[i]? = some n) : (vl l)[i]? = some (vn n) := by
  rw [List.getElem?_map, h]
  rfl
theorem same_upd {H : Hp} {p : Addr} {o : HO} (h : H p = none) : Same H (upd H p o) := fun b x e => by
  rw [upd_ne (ne_of_none e h)]
  exact e
/-- a store at a place that was not tracked before -/
theorem same_store {H0 H : Hp} {p : Addr} {o : HO} (s : Same H0 H) (h : H0 p = none) : Same H0 (upd H p o) := fun b x e => by
  rw [upd_ne (ne_of_none e h)]
  exact s b x e
theorem Same.tup {K : PySem.W.Frag} {H H' : Hp} {a : Addr} {xs : List V} (e : Same H H') (h : SqT K H a xs) : SqT K H' a xs := by
  rcases h with (h | ⟨o, h⟩) | h
  · exact .inl (.inl (e _ _ h))
  · exact .inl (.inr ⟨o, e _ _ h⟩)
  · exact .inr h
theorem take_more {α : Type} : ∀ {l : List α} {i : Nat} {x : α}, l[i]? = some x → l.take (i + 1) = l.take i ++ [x]
  | [], i, x, h => by simp at h
  | a :: l, 0, x, h => by
    have e : a = x := Option.some.inj h
    subst e
    rfl
  | a :: l, i + 1, x, h => by
    have ih := take_more (l := l) (i := i) (x := x) h
    show a :: l.take (i + 1) = a :: l.take i ++ [x]
    rw [ih]
    rfl
theorem line_of {n : Nat} (h : n ≤ 16000000) : n < sizeLine := Nat.lt_of_le_of_lt h (by decide)
theorem line_le {n : Nat} (h : n ≤ 16000000) : n ≤ sizeLine := Nat.le_of_lt (line_of h)
theorem pe_gint {X : Cx} {x : Str} {pos : Pos} {i : Int} {t : Tok} (hg : Gl X x) (e : X.mg x = some (.int i t)) (hd : (x == ("__debug__" : Str)) = false := by decide) : PE X (.Name x pos) (tC (.int i)) := pe_glob hg e ⟨_, rfl⟩ hd
theorem pe_gref {X : Cx} {x : Str} {pos : Pos} {a : Addr} (hg : Gl X x) (e : X.mg x = some (.ref a)) (hd : (x == ("__debug__" : Str)) = false := by decide) : PE X (.Name x pos) (tC (.ref a)) :=
  pe_glob (v := .ref a) hg e rfl hd
theorem yes {σ : L2.St} {H : Hp} {Q : Bool → Hp → Prop} (h : Q true H) : tYes σ H Q := h
theorem bl_zs (p : Nat → Bool) (l : List Nat) : (l.map p).all id = l.all p := by
  rw [List.all_map]
  rfl
/-! ### slices -/
theorem cut_nn (xs : List V) (i j : Nat) : cutV xs (some (i : Int)) (some (j : Int)) = (xs.drop i).take (j - i) := by
  unfold cutV
  rw [HT.sIx_nat, HT.sIx_nat]
  rcases Nat.le_total xs.length i with h | h
  · rw [Nat.min_eq_right h, List.drop_eq_nil_of_le (Nat.le_refl _), List.drop_eq_nil_of_le h]
    simp
  · rw [Nat.min_eq_left h]
    rcases Nat.le_total xs.length j with h2 | h2
    · rw [Nat.min_eq_right h2]
      rw [List.take_of_length_le (by rw [List.length_drop]; exact Nat.le_refl _), List.take_of_length_le (by rw [List.length_drop]; omega)]
    · rw [Nat.min_eq_left h2]
theorem cut_n (xs : List V) (i : Nat) : cutV xs (some (i : Int)) none = xs.drop i := by
  unfold cutV
  rw [HT.sIx_nat, HT.sIx_none]
  rcases Nat.le_total xs.length i with h | h
  · rw [Nat.min_eq_right h, List.drop_eq_nil_of_le (Nat.le_refl _), List.drop_eq_nil_of_le h]
    simp
  · rw [Nat.min_eq_left h]
    exact List.take_of_length_le (by rw [List.length_drop]; exact Nat.le_refl _)
theorem cut_0 (xs : List V) (j : Nat) : cutV xs none (some (j : Int)) = xs.take j := by
  unfold cutV
  rw [HT.sIx_nat, HT.sIx_none, List.drop_zero, Nat.sub_zero]
  rcases Nat.le_total xs.length j with h | h
  · rw [Nat.min_eq_right h, List.take_of_length_le (Nat.le_refl _), List.take_of_length_le h]
  · rw [Nat.min_eq_left h]
theorem vl_drop (l : List Nat) (i : Nat) : (vl l).drop i = vl (l.drop i) := by simp [vl, List.map_drop]
theorem vl_take (l : List Nat) (i : Nat) : (vl l).take i = vl (l.take i) := by simp [vl, List.map_take]
theorem vl_append (a b : List Nat) : vl (a ++ b) = vl a ++ vl b := List.map_append
theorem vl_snoc (a : List Nat) (n : Nat) : vl a ++ [vn n] = vl (a ++ [n]) := (vl_append a [n]).symm
theorem vl_len (l : List Nat) : (vl l).length = l.length := List.length_map ..
/-- a number or None -/
def optV : Option Nat → V
  | none => .non
  | some n => vn n
end SpA
set_option Elab.async false
set_option linter.all false
set_option maxRecDepth 100000
set_option maxHeartbeats 4000000
namespace SpA
open PySem PySem.Spec PyProof.Rows L2
abbrev sIsLetter : Stmt := topS 6
abbrev sIsCharacter : Stmt := topS 7
abbrev sAllLetters : Stmt := topS 8
theorem scIsLetter : FnScope ["number"] ["number"] (defScope sIsLetter) := ⟨rfl, rfl, rfl, by decide +kernel, rfl, by decide +kernel, by decide +kernel⟩
theorem scIsCharacter : FnScope ["number"] ["number"] (defScope sIsCharacter) := ⟨rfl, rfl, rfl, by decide +kernel, rfl, by decide +kernel, by decide +kernel⟩
theorem scAllLetters : FnScope ["row", "number"] ["row"] (defScope sAllLetters) := ⟨rfl, rfl, rfl, by decide +kernel, rfl, by decide +kernel, by decide +kernel⟩
structure TxtL (mg : Str → Option Value) (fL fC fA : Addr) : Prop where
  n1 : ∃ t, mg "LEAST_LETTER" = some (.int 33 t)
  n2 : ∃ t, mg "GREATEST_LETTER" = some (.int 126 t)
  n3 : ∃ t, mg "CHARACTERS_END" = some (.int 1114112 t)
  n4 : ∃ t, mg "SURROGATES_BEGIN" = some (.int 55296 t)
  n5 : ∃ t, mg "SURROGATES_END" = some (.int 57344 t)
  gL : mg "is_letter" = some (.ref fL)
  gC : mg "is_character" = some (.ref fC)
  gA : mg "all_letters" = some (.ref fA)
  all : mg "all" = none
section
variable {P : Program} {w : World} {K : PySem.W.Frag} {mg : Str → Option Value} {base : Heap} {fL fC fA : Addr}
def spIsLetter : Sp := fun vs H Q _ => ∃ z : Int, vs = [.int z] ∧ Q (.bl (decide (33 ≤ z) && decide (z ≤ 126))) H
theorem ok_is_letter {fd : FuncData} {k : Nat} (F : Fun K "is_letter" "is_letter" sIsLetter fL fd) (T : TxtL mg fL fC fA) : FnOk P w K mg base CX0 (k + 1) fL fd ["number"] spIsLetter := by
  refine F.ok scIsLetter (fun vs H Q E h => ?_) (fun cdv A outer s H vs Q E hr h => ?_)
  · obtain ⟨z, rfl, _⟩ := h
    rfl
  · obtain ⟨z, rfl, q⟩ := h
    obtain ⟨t1, e1⟩ := T.n1
    obtain ⟨t2, e2⟩ := T.n2
    refine ⟨_, pss_one (ps_ret (pe_chain op_le op_le (pe_gint rfl e1) (pv 0) (pe_gint rfl e2))), ?_⟩
    refine ⟨_, rfl, _, _, rfl, rfl, _, rfl, ?_⟩
    by_cases c : 33 ≤ z
    · rw [decide_eq_true c] at q ⊢
      exact iteT ⟨_, _, rfl, rfl, q⟩
    · rw [decide_eq_false c] at q ⊢
      exact iteF q
def spIsCharacter : Sp := fun vs H Q _ => ∃ n : Nat, vs = [vn n] ∧ Q (.bl (Sy.isChar n)) H
theorem ok_is_character {fd : FuncData} {k : Nat} (F : Fun K "is_character" "is_character" sIsCharacter fC fd) (T : TxtL mg fL fC fA) : FnOk P w K mg base CX0 (k + 1) fC fd ["number"] spIsCharacter := by
  refine F.ok scIsCharacter (fun vs H Q E h => ?_) (fun cdv A outer s H vs Q E hr h => ?_)
  · obtain ⟨z, rfl, _⟩ := h
    rfl
  · obtain ⟨n, rfl, q⟩ := h
    obtain ⟨c3, h3, t3, e3⟩ : ∃ c : Int, c = 1114112 ∧ ∃ t, mg "CHARACTERS_END" = some (.int c t) := ⟨_, rfl, T.n3⟩
    obtain ⟨c4, h4, t4, e4⟩ : ∃ c : Int, c = 55296 ∧ ∃ t, mg "SURROGATES_BEGIN" = some (.int c t) := ⟨_, rfl, T.n4⟩
    obtain ⟨c5, h5, t5, e5⟩ : ∃ c : Int, c = 57344 ∧ ∃ t, mg "SURROGATES_END" = some (.int c t) := ⟨_, rfl, T.n5⟩
    refine ⟨_, pss_one (ps_ret (pe_and (pe_chain op_le op_lt pe_int (pv 0) (pe_gint rfl e3)) (pe_one (pe_not (pe_chain op_le op_lt (pe_gint rfl e4) (pv 0) (pe_gint rfl e5)))))), ?_⟩
    have e : Sy.isChar n = (decide ((n : Int) < c3) && !(decide (c4 ≤ (n : Int)) && decide ((n : Int) < c5))) := by
      unfold Sy.isChar
      congr 1
      · exact decide_eq_decide.mpr (by omega)
      · congr 2 <;> exact decide_eq_decide.mpr (by omega)
    rw [e] at q
    clear e h3 h4 h5 e3 e4 e5
    refine ⟨_, rfl, _, _, rfl, rfl, _, rfl, ?_⟩
    rw [decide_eq_true (show (0 : Int) ≤ (n : Int) by omega)]
    refine iteT ⟨_, _, rfl, rfl, _, rfl, ?_⟩
    cases h : decide ((n : Int) < c3) with
    | false =>
      rw [h] at q
      exact iteF q
    | true =>
      rw [h] at q
      refine iteT ⟨_, rfl, _, _, rfl, rfl, _, rfl, ?_⟩
      by_cases c : c4 ≤ (n : Int)
      · rw [decide_eq_true c] at q ⊢
        exact iteT ⟨_, _, rfl, rfl, _, rfl, q⟩
      · rw [decide_eq_false c] at q ⊢
        exact iteF ⟨_, rfl, q⟩
def spAllLetters (K : PySem.W.Frag) : Sp := fun vs H Q _ => ∃ (a : Addr) (l : List Nat), vs = [.ref a] ∧ SqL K H a (vl l) ∧ l.length ≤ 50000 ∧ ∀ H', Same H H' → Q (.bl (Sy.isLetters l)) H'
theorem ok_all_letters {fd fdL : FuncData} {k : Nat} (F : Fun K "all_letters" "all_letters" sAllLetters fA fd) (T : TxtL mg fL fC fA)
    (FL : Fun K "is_letter" "is_letter" sIsLetter fL fdL) (bL : Binds K fdL ["number"] []) : FnOk P w K mg base CX0 (k + 1 + 1) fA fd ["row"] (spAllLetters K) := by
  have GL : FnOk P w K mg base CX0 (k + 1) fL fdL ["number"] spIsLetter := ok_is_letter FL T
  refine F.ok scAllLetters (fun vs H Q E h => ?_) (fun cdv A outer s H vs Q E hr h => ?_)
  · obtain ⟨a, l, rfl, _⟩ := h
    rfl
  · obtain ⟨a, l, rfl, hS, hl, q⟩ := h
    refine ⟨_, pss_one (ps_ret (pe_callB (cr_all rfl) (by rfl) T.all (by decide +kernel) (pa_cons
      (pe_lc (own := [("number", 1)]) (g := gName 1) (tt := tYes) rfl scAllLetters.nd (pi_list (pv 0)) (blkOk_by (N := ["row", "number"]) (sc := defScope sAllLetters) (by decide +kernel))
        (fun _ _ _ _ _ => pg_name (i := 1) scAllLetters.nd rfl (Or.inl rfl)) (fun _ _ _ _ _ => pts_nil)
        (fun _ _ _ _ _ => pe_call GL hr (by rfl) T.gL FL.kp bL .nil pass0 (pa_cons (pv 1) pa_nil))) pa_nil))), ?_⟩
    refine ⟨_, rfl, a, rfl, ⟨_, hS⟩, fun D hD => ?_⟩
    refine lc_list (K := K) (a := a) (xs := vl l) (fun i H' => Same H H' ∧ H' D = some (.lst (((l.take i).map Sy.isLetter).map V.bl))) ⟨same_upd hD, upd_same⟩ (fun i H' _ h => h.1.seq hS) ?_ ?_
    · rintro i x H' hi ⟨s1, hd⟩
      obtain ⟨n, hn, rfl⟩ := vl_get hi
      refine ⟨rfl, ?_⟩
      refine yes ?_
      refine iteT ?_
      refine ⟨_, rfl, (n : Int), rfl, _, hd, ?_, same_store s1 hD, ?_⟩
      · rw [List.length_map, List.length_map, List.length_take]
        exact line_of (by omega)
      · rw [upd_same, take_more hn, List.map_append, List.map_append]
        congr 3
        show [V.bl _] = [V.bl (Sy.isLetter n)]
        congr 2
        unfold Sy.isLetter
        congr 1 <;> exact decide_eq_decide.mpr (by omega)
    · rintro H' ⟨s1, hd⟩
      refine ⟨D, (l.take (vl l).length).map Sy.isLetter, rfl, SqL.of hd, ?_⟩
      rw [bl_zs, List.length_map, List.take_length]
      exact q H' s1
end
end SpA
set_option Elab.async false
set_option linter.all false
set_option maxRecDepth 100000
set_option maxHeartbeats 4000000
namespace SpA
open PySem PySem.Spec PyProof.Rows L2
abbrev sDecoded : Stmt := topS 33
abbrev sFormSize : Stmt := topS 34
abbrev sFormValue : Stmt := topS 35
abbrev sEncoded : Stmt := topS 36
abbrev sFormOf : Stmt := topS 37
theorem scFormSize : FnScope ["first", "before", "form"] ["first"] (defScope sFormSize) := ⟨rfl, rfl, rfl, by decide +kernel, rfl, by decide +kernel, by decide +kernel⟩
theorem scFormValue : FnScope ["octets", "form", "number", "octet"] ["octets"] (defScope sFormValue) := ⟨rfl, rfl, rfl, by decide +kernel, rfl, by decide +kernel, by decide +kernel⟩
theorem scDecoded : FnScope ["octets", "row", "place", "size", "number"] ["octets"] (defScope sDecoded) := ⟨rfl, rfl, rfl, by decide +kernel, rfl, by decide +kernel, by decide +kernel⟩
theorem scEncoded : FnScope ["row", "octets", "number"] ["row"] (defScope sEncoded) := ⟨rfl, rfl, rfl, by decide +kernel, rfl, by decide +kernel, by decide +kernel⟩
theorem scFormOf : FnScope ["number", "size", "following", "step", "form"] ["number"] (defScope sFormOf) := ⟨rfl, rfl, rfl, by decide +kernel, rfl, by decide +kernel, by decide +kernel⟩
/-- what the top has written of the forms -/
structure TxtF (K : PySem.W.Frag) (mg : Str → Option Value) (aF a0 a1 a2 a3 : Addr) : Prop where
  gF : mg "FORMS" = some (.ref aF)
  n1 : ∃ t, mg "FOLLOWING" = some (.int 128 t)
  n2 : ∃ t, mg "FOLLOWING_COUNT" = some (.int 64 t)
  sF : ∀ H, SqT K H aF [.ref a0, .ref a1, .ref a2, .ref a3]
  s0 : ∀ H, SqT K H a0 [.int 0, .int 128, .int 0]
  s1 : ∀ H, SqT K H a1 [.int 192, .int 224, .int 128]
  s2 : ∀ H, SqT K H a2 [.int 224, .int 240, .int 2048]
  s3 : ∀ H, SqT K H a3 [.int 240, .int 248, .int 65536]
/-- what the top leaves to Python -/
structure TxtB (mg : Str → Option Value) : Prop where
  all : mg "all" = none
  len : mg "len" = none
  list : mg "list" = none
  tuple : mg "tuple" = none
  range : mg "range" = none
  enum : mg "enumerate" = none
  rev : mg "reversed" = none
  sorted : mg "sorted" = none
section
variable {P : Program} {w : World} {K : PySem.W.Frag} {mg : Str → Option Value} {base : Heap} {aF a0 a1 a2 a3 : Addr}
/-- the i-th form -/
theorem formAt (T : TxtF K mg aF a0 a1 a2 a3) {i : Nat} {x : V} (h : ([.ref a0, .ref a1, .ref a2, .ref a3] : List V)[i]? = some x) :
    ∃ (a : Addr) (lo hi le : Nat), x = .ref a ∧ (∀ H, SqT K H a [vn lo, vn hi, vn le]) ∧ (∀ n, formSize n = i + 1 ↔ lo ≤ n ∧ n < hi) ∧ lo = leadOf (i + 1) ∧ le = leastOf (i + 1) ∧ i < 4 := by
  match i, h with
  | 0, h =>
    refine ⟨a0, 0, 128, 0, (Option.some.inj h).symm, T.s0, fun n => ?_, rfl, rfl, by omega⟩
    rw [formSize_1]
    omega
  | 1, h =>
    refine ⟨a1, 192, 224, 128, (Option.some.inj h).symm, T.s1, fun n => ?_, rfl, rfl, by omega⟩
    rw [formSize_2]
  | 2, h =>
    refine ⟨a2, 224, 240, 2048, (Option.some.inj h).symm, T.s2, fun n => ?_, rfl, rfl, by omega⟩
    rw [formSize_3]
  | 3, h =>
    refine ⟨a3, 240, 248, 65536, (Option.some.inj h).symm, T.s3, fun n => ?_, rfl, rfl, by omega⟩
    rw [formSize_4]
  | i + 4, h => simp at h
def spFormSize : Sp := fun vs H Q _ => ∃ n : Nat, vs = [vn n] ∧ ∀ H', Same H H' → Q (vn (formSize n)) H'
theorem ok_form_size {f : Addr} {fd : FuncData} {k : Nat} (F : Fun K "form_size" "form_size" sFormSize f fd) (T : TxtF K mg aF a0 a1 a2 a3) (B : TxtB mg) : FnOk P w K mg base CX0 (k + 1) f fd ["first"] spFormSize := by
  refine F.ok scFormSize (fun vs H Q E h => ?_) (fun cdv A outer s H vs Q E hr h => ?_)
  · obtain ⟨z, rfl, _⟩ := h
    rfl
  · obtain ⟨n, rfl, q⟩ := h
    refine ⟨_, pss_cons (ps_for PassesOwn.never rfl (pi_enumT (by rfl) B.enum (pa_cons (pe_gref rfl T.gF) pa_nil))
        (pg_tup rfl (pgs_cons (pg_name (i := 1) scFormSize.nd rfl (.inl rfl)) (pgs_cons (pg_name (i := 2) scFormSize.nd rfl (.inl rfl)) pgs_nil)))
        (pss_one (ps_if (pt_chain op_le op_lt (pe_ix ix_tup (pv 2) pe_int (fun _ _ => rfl)) (pv 0) (pe_ix ix_tup (pv 2) pe_int (fun _ _ => rfl)))
          (pss_one (ps_ret (pe_op op_add (pv 1) pe_int))) pss_nil)))
      (pss_one (ps_ret pe_int)), ?_⟩
    refine ⟨aF, _, rfl, T.sF H, for_enumT (K := K) (a := aF) (xs := [.ref a0, .ref a1, .ref a2, .ref a3])
      (fun i σ H' => ∃ y1 y2, σ = [some (vn n), y1, y2] ∧ Same H H' ∧ ∀ j, j < i → formSize n ≠ j + 1) ⟨none, none, rfl, Same.refl _, fun j h => absurd h (Nat.not_lt_zero _)⟩ (fun _ _ H' _ _ => T.sF H') ?_ ?_⟩
    · rintro i x σ H' p hx ⟨y1, y2, rfl, sm, hj⟩ hp
      obtain ⟨a, lo, hi, le, rfl, sq, hf, -, -, -⟩ := formAt T hx
      have sm2 : Same H (upd H' p (.tup [.int (i : Nat), .ref a])) := sm.trans (same_upd hp)
      refine ⟨p, _, rfl, SqT.of upd_same, rfl, _, _, rfl, _, _, rfl, rfl, ?_⟩
      refine ⟨_, rfl, a, _, _, _, rfl, rfl, sq _, at_of (j := 0) rfl rfl, _, rfl, _, _, rfl, rfl, _, rfl, ?_⟩
      by_cases c : (lo : Int) ≤ (n : Int)
      · rw [decide_eq_true c]
        refine iteT ⟨_, rfl, a, _, _, _, rfl, rfl, sq _, at_of (j := 1) rfl rfl, _, _, rfl, rfl, _, rfl, ?_⟩
        by_cases d : (n : Int) < (hi : Int)
        · rw [decide_eq_true d]
          refine iteT ⟨_, rfl, _, _, rfl, rfl, ?_⟩
          have e : formSize n = i + 1 := (hf n).mpr (by omega)
          have := q _ sm2
          rw [e] at this
          exact this
        · rw [decide_eq_false d]
          refine iteF ⟨_, _, rfl, sm2, fun j hji => ?_⟩
          rcases Nat.lt_succ_iff_lt_or_eq.mp hji with h | h
          · exact hj j h
          · subst h
            rw [ne_eq, hf n]
            omega
      · rw [decide_eq_false c]
        refine iteF ⟨_, rfl, iteF ⟨_, _, rfl, sm2, fun j hji => ?_⟩⟩
        rcases Nat.lt_succ_iff_lt_or_eq.mp hji with h | h
        · exact hj j h
        · subst h
          rw [ne_eq, hf n]
          omega
    · rintro σ H' ⟨y1, y2, rfl, sm, hj⟩
      have h4 := formSize_le n
      have e : formSize n = 0 := by
        have h0 := hj 0 (by show 0 < 4; omega)
        have h1 := hj 1 (by show 1 < 4; omega)
        have h2 := hj 2 (by show 2 < 4; omega)
        have h3 := hj 3 (by show 3 < 4; omega)
        omega
      have := q _ sm
      rw [e] at this
      exact this

theorem add_none : ∀ l : List Nat, l.foldl addOctet none = none
  | [] => rfl
  | _ :: l => add_none l
theorem add_stop {l : List Nat} {i c v : Nat} {st : Option Nat} (h1 : (l.take i).foldl addOctet st = some v) (h2 : l[i]? = some c) (h3 : ¬ (0x80 ≤ c ∧ c < 0xC0)) : l.foldl addOctet st = none := by
  have e : l = l.take i ++ (c :: l.drop (i + 1)) := by
    have h4 := (List.getElem?_eq_some_iff.mp h2)
    obtain ⟨h4, h5⟩ := h4
    rw [← h5, ← List.drop_eq_getElem_cons h4, List.take_append_drop]
  rw [e, List.foldl_append, h1, List.foldl_cons]
  show (l.drop (i + 1)).foldl addOctet (addOctet (some v) c) = none
  unfold addOctet
  simp only
  rw [if_neg h3]
  exact add_none _
theorem formValue_cons (x : Nat) (r : List Nat) : formValue (x :: r) = if r.length + 1 = formSize x then
      (match r.foldl addOctet (some (x - leadOf (r.length + 1))) with
        | none => none
        | some v => if leastOf (r.length + 1) ≤ v ∧ Sy.isChar v = true then some v else none)
    else none := rfl
def spFormValue (K : PySem.W.Frag) : Sp := fun vs H Q _ => ∃ (a : Addr) (o : List Nat), vs = [.ref a] ∧ SqL K H a (vl o) ∧ o.length ≤ 4 ∧ ∀ H', Same H H' → Q (optV (formValue o)) H'
theorem ok_form_value {f fS fC fL fA : Addr} {fd fdS fdC : FuncData} {k : Nat} (F : Fun K "form_value" "form_value" sFormValue f fd) (T : TxtF K mg aF a0 a1 a2 a3) (B : TxtB mg) (TL : TxtL mg fL fC fA)
    (FS : Fun K "form_size" "form_size" sFormSize fS fdS) (bS : Binds K fdS ["first"] []) (gS : mg "form_size" = some (.ref fS))
    (FC : Fun K "is_character" "is_character" sIsCharacter fC fdC) (bC : Binds K fdC ["number"] []) : FnOk P w K mg base CX0 (k + 1 + 1) f fd ["octets"] (spFormValue K) := by
  have GS : FnOk P w K mg base CX0 (k + 1) fS fdS ["first"] spFormSize := ok_form_size FS T B
  have GC : FnOk P w K mg base CX0 (k + 1) fC fdC ["number"] spIsCharacter := ok_is_character FC TL
  refine F.ok scFormValue (fun vs H Q E h => ?_) (fun cdv A outer s H vs Q E hr h => ?_)
  · obtain ⟨a, o, rfl, _⟩ := h
    rfl
  · obtain ⟨a, o, rfl, hS, hl, q⟩ := h
    obtain ⟨t1, e1⟩ := T.n1
    obtain ⟨t2, e2⟩ := T.n2
    have nd := scFormValue.nd
    refine ⟨_, pss_cons (ps_if (PW.pt (pw_or (pt_not (pt_truth (pv 0) (by intro _; rfl))) (pw_or1 (pt_cmpR op_ne (pe_callB call_len_seq (by rfl) B.len PySem.boot_len (pa_cons (pv 0) pa_nil))
          (pe_call GS hr (by rfl) gS FS.kp bS .nil pass0 (pa_cons (pe_ix ix_list (pv 0) pe_int (fun _ _ => rfl)) pa_nil)) (nomark _)))))
        (pss_one (ps_ret pe_non)) pss_nil)
      (pss_cons (ps_set (i := 1) nd rfl (.inl rfl) (pe_ix ix_tup (pe_gref rfl T.gF) (pe_op op_sub (pe_callB call_len_seq (by rfl) B.len PySem.boot_len (pa_cons (pv 0) pa_nil)) pe_int) (fun _ _ => rfl)))
      (pss_cons (ps_set (i := 2) nd rfl (.inl rfl) (pe_op op_sub (pe_ix ix_list (pv 0) pe_int (fun _ _ => rfl)) (pe_ix ix_tup (pv 1) pe_int (fun _ _ => rfl))))
      (pss_cons (ps_for PassesOwn.never rfl (pi_list (pe_slice sl_list (pv 0) (po_some pe_int) po_none)) (pg_name (i := 3) nd rfl (.inl rfl))
        (pss_cons (ps_if (pt_not (pt_chain op_le op_lt (pe_gint rfl e1) (pv 3) (pe_op op_add (pe_gint rfl e1) (pe_gint rfl e2)))) (pss_one (ps_ret pe_non)) pss_nil)
        (pss_one (ps_set (i := 2) nd rfl (.inl rfl) (pe_op op_sub (pe_op op_add (pe_op op_mul (pv 2) (pe_gint rfl e2)) (pv 3)) (pe_gint rfl e1))))))
      (pss_cons (ps_if (PW.pt (pw_or (pt_cmpR op_lt (pv 2) (pe_ix ix_tup (pv 1) pe_int (fun _ _ => rfl)) (nomark _)) (pw_or1 (pt_not (pt_val (pe_call GC hr (by rfl) TL.gC FC.kp bC .nil pass0 (pa_cons (pv 2) pa_nil)))))))
        (pss_one (ps_ret pe_non)) pss_nil)
      (pss_one (ps_ret (pv 2))))))), ?_⟩
    refine ⟨_, rfl, !(vl o).isEmpty, .inl ⟨vl o, hS, rfl⟩, ?_⟩
    cases o with
    | nil =>
      refine iteT ?_
      refine iteT ?_
      exact q H (Same.refl _)
    | cons x r =>
      refine iteF ?_
      refine ⟨_, rfl, a, _, rfl, .inl hS, _, rfl, a, _, _, _, rfl, rfl, hS, at_of (j := 0) rfl rfl, x, rfl, fun H1 sm1 => ?_⟩
      have hS1 := sm1.seq hS
      refine ⟨rfl, _, rfl, ?_⟩
      have hlen : (vl (x :: r)).length = r.length + 1 := by rw [vl_len]; rfl
      rw [hlen]
      rw [formValue_cons] at q
      by_cases c : r.length + 1 = formSize x
      · rw [decide_eq_true (show V.int ((r.length + 1 : Nat) : Int) = vn (formSize x) by rw [c])]
        refine iteF ?_
        rw [if_pos c] at q
        have hx : ([.ref a0, .ref a1, .ref a2, .ref a3] : List V)[r.length]? = some (([.ref a0, .ref a1, .ref a2, .ref a3] : List V)[r.length]'(by simp only [List.length_cons] at hl ⊢; simp; omega)) := List.getElem?_eq_getElem _
        obtain ⟨fa, lo, hi, le, ex, sq, hf, elo, ele, -⟩ := formAt T hx
        rw [ex] at hx
        have hlo : lo ≤ x := ((hf x).mp c.symm).1
        -- form = FORMS[len(octets) - 1]
        refine ⟨_, rfl, a, _, rfl, .inl hS1, _, _, rfl, rfl, aF, _, _, _, rfl, rfl, T.sF H1, at_of (j := r.length) ?_ hx, ?_⟩
        · rw [hlen]
          show ((r.length + 1 : Nat) : Int) - 1 = (r.length : Int)
          omega
        -- number = octets[0] - form[0]
        refine ⟨_, rfl, a, _, _, _, rfl, rfl, hS1, at_of (j := 0) rfl rfl, _, rfl, fa, _, _, _, rfl, rfl, sq H1, at_of (j := 0) rfl rfl, _, _, rfl, rfl, ?_⟩
        have en : (x : Int) - (lo : Int) = ((x - lo : Nat) : Int) := by omega
        -- for octet in octets[1:]
        refine ⟨_, rfl, 1, rfl, a, _, rfl, hS1, fun D nD => ?_⟩
        have ecut : cutV (vl (x :: r)) (some 1) none = vl r := by
          have := cut_n (vl (x :: r)) 1
          exact this
        have sm2 : Same H (upd H1 D (.lst (cutV (vl (x :: r)) (some 1) none))) := sm1.trans (same_upd nD)
        refine ⟨D, rfl, ⟨_, SqL.of upd_same⟩, for_list (K := K) (a := D) (xs := vl r)
          (fun i σ H' => ∃ y v, σ = [some (.ref a), some (.ref fa), some (vn v), y] ∧ Same H H' ∧ H' D = some (.lst (vl r)) ∧ (r.take i).foldl addOctet (some (x - lo)) = some v)
          ⟨none, x - lo, by show [some (V.ref a), some (V.ref fa), some (V.int ((x : Int) - (lo : Int))), none] = _; rw [en], sm2, by rw [upd_same, ecut], rfl⟩ (fun i σ H' _ ⟨_, _, _, _, hd, _⟩ => SqL.of hd) ?_ ?_⟩
        · rintro i z σ H' hz ⟨y, v, rfl, sm, hd, hv⟩
          obtain ⟨n, hn, rfl⟩ := vl_get hz
          refine ⟨_, rfl, _, _, rfl, rfl, _, rfl, ?_⟩
          by_cases d1 : (128 : Int) ≤ (n : Int)
          · rw [decide_eq_true d1]
            refine iteT ⟨_, _, rfl, rfl, _, _, rfl, rfl, _, rfl, ?_⟩
            by_cases d2 : (n : Int) < 128 + 64
            · rw [decide_eq_true d2]
              refine iteF ?_
              refine ⟨_, rfl, _, _, rfl, rfl, .inr ⟨by decide, by decide⟩, _, rfl, _, _, rfl, rfl, _, _, rfl, rfl, ?_⟩
              refine ⟨some (vn n), v * 64 + (n - 128), ?_, sm, hd, ?_⟩
              · show [some (V.ref a), some (V.ref fa), some (V.int ((v : Int) * 64 + (n : Int) - 128)), some (vn n)] = _
                have : (v : Int) * 64 + (n : Int) - 128 = ((v * 64 + (n - 128) : Nat) : Int) := by omega
                rw [this]
              · rw [take_more hn, List.foldl_append, hv]
                show addOctet (some v) n = _
                unfold addOctet
                simp only
                rw [if_pos (by omega)]
            · rw [decide_eq_false d2]
              refine iteT ?_
              have e0 : r.foldl addOctet (some (x - lo)) = none := add_stop hv hn (by omega)
              rw [← elo] at q
              rw [e0] at q
              exact q _ sm
          · rw [decide_eq_false d1]
            refine iteF ⟨_, rfl, ?_⟩
            refine iteT ?_
            have e0 : r.foldl addOctet (some (x - lo)) = none := add_stop hv hn (by omega)
            rw [← elo] at q
            rw [e0] at q
            exact q _ sm
        · rintro σ H' ⟨y, v, rfl, sm, hd, hv⟩
          rw [vl_len, List.take_length] at hv
          rw [← elo, hv] at q
          refine ⟨_, rfl, _, rfl, fa, _, _, _, rfl, rfl, sq H', at_of (j := 2) rfl rfl, _, _, rfl, rfl, _, rfl, ?_⟩
          by_cases d1 : (v : Int) < (le : Int)
          · rw [decide_eq_true d1]
            refine iteT (iteT ?_)
            simp only at q
            rw [if_neg (by omega)] at q
            exact q _ sm
          · rw [decide_eq_false d1]
            refine iteF ⟨_, rfl, v, rfl, _, rfl, ?_⟩
            simp only at q
            cases ec : Sy.isChar v with
            | true =>
              refine iteF ?_
              rw [if_pos ⟨by omega, ec⟩] at q
              exact ⟨_, rfl, q _ sm⟩
            | false =>
              refine iteT ?_
              rw [if_neg (by rw [ec]; rintro ⟨_, h⟩; cases h)] at q
              exact q _ sm
      · rw [decide_eq_false (show ¬ V.int ((r.length + 1 : Nat) : Int) = vn (formSize x) from fun e => c (by
          have := V.int.inj e
          omega))]
        refine iteT ?_
        rw [if_neg c] at q
        exact q _ sm1
end
end SpA
set_option Elab.async false
set_option linter.all false
set_option maxRecDepth 100000
set_option maxHeartbeats 4000000
namespace SpA
open PySem PySem.Spec PyProof.Rows L2
theorem formSize_of {x : Nat} {r : List Nat} {v : Nat} (h : formValue ((x :: r).take (formSize x)) = some v) : 1 ≤ formSize x ∧ formSize x ≤ r.length + 1 := by
  cases e : formSize x with
  | zero =>
    rw [e] at h
    cases h
  | succ m =>
    rw [e, List.take_succ_cons] at h
    have h1 := (fv_some.mp h).1
    rw [e, List.length_take] at h1
    omega
theorem decFrom_fuel : ∀ (n : Nat) (l : List Nat), l.length ≤ n → decFrom n l = decFrom l.length l
  | 0, [], _ => rfl
  | 0, _ :: _, h => by simp at h
  | _ + 1, [], _ => rfl
  | n + 1, x :: r, h => by
    show (match formValue ((x :: r).take (formSize x)) with
      | none => none
      | some v => (decFrom n ((x :: r).drop (formSize x))).map (v :: ·)) = (match formValue ((x :: r).take (formSize x)) with
      | none => none
      | some v => (decFrom r.length ((x :: r).drop (formSize x))).map (v :: ·))
    cases e : formValue ((x :: r).take (formSize x)) with
    | none => rfl
    | some v =>
      obtain ⟨h1, h2⟩ := formSize_of e
      simp only
      rw [decFrom_fuel n _ (by rw [List.length_drop, List.length_cons]; simp only [List.length_cons] at h; omega),
        decFrom_fuel r.length _ (by rw [List.length_drop, List.length_cons]; omega)]
theorem decoded_cons (x : Nat) (r : List Nat) : decoded (x :: r) = match formValue ((x :: r).take (formSize x)) with
    | none => none
    | some v => (decoded ((x :: r).drop (formSize x))).map (v :: ·) := by
  unfold decoded
  show (match formValue ((x :: r).take (formSize x)) with
      | none => none
      | some v => (decFrom r.length ((x :: r).drop (formSize x))).map (v :: ·)) = _
  cases e : formValue ((x :: r).take (formSize x)) with
  | none => rfl
  | some v =>
    obtain ⟨h1, h2⟩ := formSize_of e
    simp only
    rw [decFrom_fuel r.length _ (by rw [List.length_drop, List.length_cons]; omega)]
section
variable {P : Program} {w : World} {K : PySem.W.Frag} {mg : Str → Option Value} {base : Heap} {aF a0 a1 a2 a3 : Addr}
/-- a new list, or None -/
def SomeL (H : Hp) (t : Option (List Nat)) (Q : VK) : Prop := match t with
  | none => ∀ H', Same H H' → Q .non H'
  | some l => ∀ H' p, Same H H' → H p = none → H' p = some (.lst (vl l)) → Q (.ref p) H'
def spDecoded (K : PySem.W.Frag) : Sp := fun vs H Q _ => ∃ (a : Addr) (o : List Nat), vs = [.ref a] ∧ SqL K H a (vl o) ∧ o.length ≤ 50000 ∧ SomeL H (decoded o) Q
theorem ok_decoded {f fS fV fC fL fA : Addr} {fd fdS fdV fdC : FuncData} {k : Nat} (F : Fun K "decoded" "decoded" sDecoded f fd) (T : TxtF K mg aF a0 a1 a2 a3) (B : TxtB mg) (TL : TxtL mg fL fC fA)
    (FS : Fun K "form_size" "form_size" sFormSize fS fdS) (bS : Binds K fdS ["first"] []) (gS : mg "form_size" = some (.ref fS))
    (FV : Fun K "form_value" "form_value" sFormValue fV fdV) (bV : Binds K fdV ["octets"] []) (gV : mg "form_value" = some (.ref fV))
    (FC : Fun K "is_character" "is_character" sIsCharacter fC fdC) (bC : Binds K fdC ["number"] []) : FnOk P w K mg base CX0 (k + 1 + 1 + 1) f fd ["octets"] (spDecoded K) := by
  have GS : FnOk P w K mg base CX0 (k + 1) fS fdS ["first"] spFormSize := ok_form_size FS T B
  have GV : FnOk P w K mg base CX0 (k + 1 + 1) fV fdV ["octets"] (spFormValue K) := ok_form_value FV T B TL FS bS gS FC bC
  refine F.ok scDecoded (fun vs H Q E h => ?_) (fun cdv A outer s H vs Q E hr h => ?_)
  · obtain ⟨a, o, rfl, _⟩ := h
    rfl
  · obtain ⟨a, o, rfl, hS, hl, q⟩ := h
    have nd := scDecoded.nd
    refine ⟨_, pss_cons (ps_set (i := 1) nd rfl (.inl rfl) (pe_lst pa_nil))
      (pss_cons (ps_set (i := 2) nd rfl (.inl rfl) pe_int)
      (pss_cons (ps_while PassesOwn.never (pt_cmpR op_lt (pv 2) (pe_callB call_len_seq (by rfl) B.len PySem.boot_len (pa_cons (pv 0) pa_nil)) (nomark _))
        (pss_cons (ps_set (i := 3) nd rfl (.inl rfl) (pe_call GS (hr.mono (by omega)) (by rfl) gS FS.kp bS .nil pass0 (pa_cons (pe_ix ix_list (pv 0) (pv 2) (fun _ _ => rfl)) pa_nil)))
        (pss_cons (ps_set (i := 4) nd rfl (.inl rfl) (pe_call GV hr (by rfl) gV FV.kp bV .nil pass0 (pa_cons (pe_slice sl_list (pv 0) (po_some (pv 2)) (po_some (pe_op op_add (pv 2) (pv 3)))) pa_nil)))
        (pss_cons (ps_if (pt_cmpR op_isN (pv 4) pe_non (nomark _)) (pss_one (ps_ret pe_non)) pss_nil)
        (pss_cons (ps_expr (pe_bm PySem.F.plainAttrs_list PySem.F.slot_list_append PySem.F.type_list_append mt_append (pv 1) (pa_cons (pv 4) pa_nil)))
        (pss_one (ps_aug (i := 2) nd rfl (.inl rfl) (pv 3) ip_add)))))))
      (pss_one (ps_ret (pv 1))))), ?_⟩
    refine ⟨Nat.zero_le _, fun R nR => ?_⟩
    refine ⟨fun m σ H' => ∃ (p : Nat) (r : List Nat) (y3 y4 : Option V), σ = [some (.ref a), some (.ref R), some (vn p), y3, y4] ∧ m = o.length - p ∧ p ≤ o.length ∧ r.length ≤ p ∧ Same H H' ∧
        H' R = some (.lst (vl r)) ∧ decoded o = (decoded (o.drop p)).map (r ++ ·), ⟨_, 0, [], none, none, rfl, rfl, Nat.zero_le _, Nat.le_refl _, same_upd nR, upd_same, ?_⟩, ?_⟩
    · rw [List.drop_zero]
      cases decoded o <;> rfl
    rintro m σ H' ⟨p, r, y3, y4, rfl, rfl, hp, hrp, sm, hR, hd⟩
    have hS' := sm.seq hS
    refine ⟨_, rfl, _, rfl, a, _, rfl, .inl hS', _, _, rfl, rfl, _, rfl, ?_⟩
    rw [vl_len]
    by_cases c : p < o.length
    · rw [decide_eq_true (show (p : Int) < (o.length : Int) by omega)]
      obtain ⟨x, hx⟩ : ∃ x, o[p]? = some x := ⟨o[p], List.getElem?_eq_getElem c⟩
      have ed : o.drop p = x :: o.drop (p + 1) := by
        obtain ⟨h1, h2⟩ := List.getElem?_eq_some_iff.mp hx
        rw [← h2, ← List.drop_eq_getElem_cons h1]
      rw [ed, decoded_cons, ← ed] at hd
      refine iteT ⟨_, fun σ' H' h => h, ?_⟩
      -- size = form_size(octets[place])
      refine ⟨_, rfl, _, rfl, a, _, _, _, rfl, rfl, hS', at_of (j := p) rfl (vl_at hx), x, rfl, fun H1 sm1 => ?_⟩
      have hS1 := sm1.seq hS'
      -- number = form_value(octets[place:place + size])
      refine ⟨_, rfl, _, rfl, _, rfl, _, rfl, _, rfl, _, _, rfl, rfl, _, rfl, a, _, rfl, hS1, fun D nD => ?_⟩
      have ecut : cutV (vl o) (some ((p : Nat) : Int)) (some ((p : Int) + (formSize x : Int))) = vl ((o.drop p).take (formSize x)) := by
        have h1 : (p : Int) + (formSize x : Int) = ((p + formSize x : Nat) : Int) := by omega
        rw [h1, cut_nn, vl_drop, vl_take, show p + formSize x - p = formSize x by omega]
      have smD : Same H1 (upd H1 D (.lst (cutV (vl o) (some ((p : Nat) : Int)) (some ((p : Int) + (formSize x : Int)))))) := same_upd nD
      have h4 := formSize_le x
      refine ⟨D, (o.drop p).take (formSize x), rfl, ?_, ?_, fun H2 sm2 => ?_⟩
      · refine SqL.of ?_
        rw [← ecut]
        exact upd_same
      · rw [List.length_take]
        omega
      have smH : Same H H2 := ((sm.trans sm1).trans smD).trans sm2
      have hR2 : H2 R = some (.lst (vl r)) := sm2 _ _ (smD _ _ (sm1 _ _ hR))
      refine ⟨_, rfl, rfl, _, rfl, ?_⟩
      cases e : formValue ((o.drop p).take (formSize x)) with
      | none =>
        rw [e] at hd
        rw [hd] at q
        exact iteT (q H2 smH)
      | some v =>
        rw [e] at hd
        refine iteF ?_
        rw [ed] at e
        obtain ⟨f1, f2⟩ := formSize_of e
        rw [List.length_drop] at f2
        refine ⟨_, rfl, .inl ⟨rfl, _, SqL.of hR2⟩, _, rfl, R, _, _, rfl, rfl, hR2, ?_, ?_⟩
        · rw [vl_len]
          exact line_of (by omega)
        · refine ⟨_, rfl, _, rfl, _, _, rfl, rfl, ?_⟩
          refine ⟨o.length - (p + formSize x), by omega, p + formSize x, r ++ [v], some (vn (formSize x)), some (vn v), ?_, rfl, by omega, ?_, ?_, ?_, ?_⟩
          · show [some (V.ref a), some (V.ref R), some (V.int ((p : Int) + (formSize x : Int))), some (vn (formSize x)), some (vn v)] = _
            have h1 : (p : Int) + (formSize x : Int) = ((p + formSize x : Nat) : Int) := by omega
            rw [h1]
          · rw [List.length_append, List.length_singleton]
            omega
          · exact same_store smH nR
          · rw [upd_same]
            show some (HO.lst (vl r ++ [vn v])) = _
            rw [vl_snoc]
          · rw [hd, List.drop_drop]
            simp only
            cases decoded (o.drop (p + formSize x)) with
            | none => rfl
            | some t => simp
    · rw [decide_eq_false (show ¬ (p : Int) < (o.length : Int) by omega)]
      refine iteF ?_
      have : o.drop p = [] := List.drop_eq_nil_of_le (by omega)
      rw [this] at hd
      have hd : decoded o = some r := by
        rw [hd]
        show some (r ++ []) = some r
        rw [List.append_nil]
      rw [hd] at q
      exact ⟨_, rfl, q H' R sm nR hR⟩

/-! ### form_of, encoded -/
def digits (n : Nat) : Nat → List Nat
  | 0 => []
  | i + 1 => digits n i ++ [0x80 + n / 64 ^ i % 64]
theorem digits_len (n : Nat) : ∀ i, (digits n i).length = i
  | 0 => rfl
  | i + 1 => by
    show (digits n i ++ [_]).length = _
    rw [List.length_append, digits_len n i]
    rfl
def sizeOf8 (n : Nat) : Nat := if n < 0x80 then 1 else if n < 0x800 then 2 else if n < 0x10000 then 3 else 4
theorem formOf_digits (n : Nat) : formOf n = (leadOf (sizeOf8 n) + n / 64 ^ (sizeOf8 n - 1)) :: (digits n (sizeOf8 n - 1)).reverse := by
  unfold formOf sizeOf8
  by_cases c : n < 0x80
  · rw [if_pos c, if_pos c]
    show [n] = (0 + n / 1) :: []
    rw [Nat.div_one, Nat.zero_add]
  · rw [if_neg c, if_neg c]
    by_cases c2 : n < 0x800
    · rw [if_pos c2, if_pos c2]
      show _ = (0xC0 + n / 64) :: [0x80 + n / 1 % 64]
      rw [Nat.div_one]
    · rw [if_neg c2, if_neg c2]
      by_cases c3 : n < 0x10000
      · rw [if_pos c3, if_pos c3]
        show _ = (0xE0 + n / 4096) :: [0x80 + n / 64 % 64, 0x80 + n / 1 % 64]
        rw [Nat.div_one]
      · rw [if_neg c3, if_neg c3]
        show _ = (0xF0 + n / 262144) :: [0x80 + n / 4096 % 64, 0x80 + n / 64 % 64, 0x80 + n / 1 % 64]
        rw [Nat.div_one]
/-- the least characters of the forms, as far as they are none above -/
def keptF (n : Nat) : Nat → Nat
  | 0 => 0
  | i + 1 => keptF n i + if leastOf (i + 1) ≤ n then 1 else 0
theorem keptF_4 (n : Nat) : keptF n 4 = sizeOf8 n := by
  show 0 + (if 0 ≤ n then 1 else 0) + (if 0x80 ≤ n then 1 else 0) + (if 0x800 ≤ n then 1 else 0) + (if 0x10000 ≤ n then 1 else 0) = _
  unfold sizeOf8
  by_cases c : n < 0x80
  · rw [if_pos c, if_pos (by omega), if_neg (by omega), if_neg (by omega), if_neg (by omega)]
  · rw [if_neg c]
    by_cases c2 : n < 0x800
    · rw [if_pos c2, if_pos (by omega), if_pos (by omega), if_neg (by omega), if_neg (by omega)]
    · rw [if_neg c2]
      by_cases c3 : n < 0x10000
      · rw [if_pos c3, if_pos (by omega), if_pos (by omega), if_pos (by omega), if_neg (by omega)]
      · rw [if_neg c3, if_pos (by omega), if_pos (by omega), if_pos (by omega), if_pos (by omega)]
theorem sizeOf8_le (n : Nat) : 1 ≤ sizeOf8 n ∧ sizeOf8 n ≤ 4 := by
  unfold sizeOf8
  split
  · omega
  split
  · omega
  split <;> omega
def spFormOf : Sp := fun vs H Q _ => ∃ n : Nat, vs = [vn n] ∧ ∀ H' p, Same H H' → H p = none → H' p = some (.lst (vl (formOf n))) → Q (.ref p) H'
theorem ok_form_of {f : Addr} {fd : FuncData} {k : Nat} (F : Fun K "form_of" "form_of" sFormOf f fd) (T : TxtF K mg aF a0 a1 a2 a3) (B : TxtB mg) : FnOk P w K mg base CX0 (k + 1) f fd ["number"] spFormOf := by
  refine F.ok scFormOf (fun vs H Q E h => ?_) (fun cdv A outer s H vs Q E hr h => ?_)
  · obtain ⟨n, rfl, _⟩ := h
    rfl
  · obtain ⟨n, rfl, q⟩ := h
    have nd := scFormOf.nd
    obtain ⟨t1, e1⟩ := T.n1
    obtain ⟨t2, e2⟩ := T.n2
    refine ⟨_, pss_cons (ps_set (i := 1) nd rfl (.inl rfl) (pe_callB call_len_seq (by rfl) B.len PySem.boot_len (pa_cons
        (pe_lc (own := [("form", 4)]) (g := gName 4) (tt := tTest (tOp (rI0 fun i j => .bl (decide (i ≤ j))) (tOp (rIxT K) (tVar 4) (tC (.int 2))) (tVar 0))) rfl nd (pi_tup (pe_gref rfl T.gF)) (blkOk_by (N := ["number", "size", "following", "step", "form"]) (sc := defScope sFormOf) (by decide +kernel))
          (fun _ _ _ _ _ => pg_name (i := 4) nd rfl (Or.inl rfl)) (fun _ _ _ _ _ => pts_one (pt_cmpR op_le (pe_ix ix_tup (pv 4) pe_int (fun _ _ => rfl)) (pv 0) (nomark _)))
          (fun _ _ _ _ _ => pv 4)) pa_nil)))
      (pss_cons (ps_set (i := 2) nd rfl (.inl rfl) (pe_lst pa_nil))
      (pss_cons (ps_for PassesOwn.never rfl (pi_range1 rfl B.range (pa_cons (pe_op op_sub (pv 1) pe_int) pa_nil)) (pg_name (i := 3) nd rfl (Or.inl rfl))
        (pss_cons (ps_expr (pe_bm PySem.F.plainAttrs_list PySem.F.slot_list_append PySem.F.type_list_append mt_append (pv 2) (pa_cons (pe_op op_add (pe_gint rfl e1) (pe_op op_modN (pv 0) (pe_gint rfl e2))) pa_nil)))
        (pss_one (ps_set (i := 0) nd rfl (.inr rfl) (pe_op op_fdivN (pv 0) (pe_gint rfl e2))))))
      (pss_one (ps_ret (pe_op op_cat (pe_lst (pa_cons (pe_op op_add (pe_ix ix_tup (pe_ix ix_tup (pe_gref rfl T.gF) (pe_op op_sub (pv 1) pe_int) (fun _ _ => rfl)) pe_int (fun _ _ => rfl)) (pv 0)) pa_nil))
        (pe_listRev rfl (by rfl) B.list (by rfl) B.rev (pv 2))))))), ?_⟩
    -- [form for form in FORMS if form[2] <= number]
    refine ⟨aF, rfl, ⟨_, T.sF H⟩, fun D nD => ?_⟩
    refine lc_tup (K := K) (a := aF) (xs := [.ref a0, .ref a1, .ref a2, .ref a3]) (fun i H' => Same H H' ∧ ∃ acc, H' D = some (.lst acc) ∧ acc.length = keptF n i ∧ acc.length ≤ i) ⟨same_upd nD, [], upd_same, rfl, Nat.le_refl _⟩ (fun _ H' _ _ => T.sF H') ?_ ?_
    · rintro i x H' hx ⟨sm, acc, hD, hacc, hai⟩
      obtain ⟨a, lo, hi, le, rfl, sq, hf, -, ele, hi4⟩ := formAt T hx
      refine ⟨rfl, ?_⟩
      refine ⟨_, rfl, a, _, _, _, rfl, rfl, sq _, at_of (j := 2) rfl rfl, _, rfl, _, _, rfl, rfl, _, rfl, ?_⟩
      by_cases c : (le : Int) ≤ (n : Int)
      · rw [decide_eq_true c]
        refine iteT ⟨_, rfl, acc, hD, line_of (by omega), same_store sm nD, _, upd_same, ?_, ?_⟩
        · rw [List.length_append, hacc]
          show _ = keptF n i + if leastOf (i + 1) ≤ n then 1 else 0
          rw [if_pos (by omega)]
          rfl
        · rw [List.length_append, List.length_singleton]
          omega
      · rw [decide_eq_false c]
        refine iteF ⟨sm, acc, hD, ?_, by omega⟩
        show _ = keptF n i + if leastOf (i + 1) ≤ n then 1 else 0
        rw [if_neg (by omega), hacc]
        rfl
    · rintro H1 ⟨sm1, acc, hD, hacc, -⟩
      have hacc : acc.length = sizeOf8 n := hacc.trans (keptF_4 n)
      obtain ⟨z1, z4⟩ := sizeOf8_le n
      refine ⟨D, acc, rfl, .inl (SqL.of hD), ?_⟩
      rw [hacc]
      -- following = []
      refine ⟨Nat.zero_le _, fun G nG => ?_⟩
      have nGH : H G = none := sm1.free nG
      refine ⟨_, rfl, _, _, rfl, rfl, ((sizeOf8 n : Nat) : Int) - 1, rfl, by omega, by omega, ?_⟩
      refine for_range (lo := 0) (n := (((sizeOf8 n : Nat) : Int) - 1).toNat)
        (fun i σ H' => ∃ y, σ = [some (vn (n / 64 ^ i)), some (vn (sizeOf8 n)), some (.ref G), y, none] ∧ Same H H' ∧ H' G = some (.lst (vl (digits n i))))
        ⟨none, by rw [Nat.pow_zero, Nat.div_one]; rfl, sm1.trans (same_upd nG), upd_same⟩ ?_ ?_
      · rintro i σ H' hi ⟨y, rfl, sm, hG⟩
        refine ⟨_, rfl, .inl ⟨rfl, _, SqL.of hG⟩, _, rfl, _, _, rfl, rfl, (by show (64 : Int) ≠ 0; decide), _, _, rfl, rfl, G, _, _, rfl, rfl, hG, ?_, ?_⟩
        · rw [vl_len, digits_len]
          exact line_of (by omega)
        · refine ⟨_, rfl, _, _, rfl, rfl, ⟨by decide, by decide⟩, ?_⟩
          refine ⟨some (.int (0 + (i : Int))), ?_, same_store sm nGH, ?_⟩
          · show [some (V.int (Int.fdiv ((n / 64 ^ i : Nat) : Int) 64)), some (vn (sizeOf8 n)), some (V.ref G), some (V.int (0 + (i : Int))), none] = _
            have : Int.fdiv ((n / 64 ^ i : Nat) : Int) 64 = ((n / 64 ^ (i + 1) : Nat) : Int) := by
              rw [Nat.pow_succ, ← Nat.div_div_eq_div_mul]
              rw [Int.fdiv_eq_ediv_of_nonneg _ (by decide)]
              omega
            rw [this]
          · rw [upd_same]
            show some (HO.lst (vl (digits n i) ++ [V.int (128 + Int.fmod ((n / 64 ^ i : Nat) : Int) 64)])) = some (HO.lst (vl (digits n i ++ [0x80 + n / 64 ^ i % 64])))
            have : 128 + Int.fmod ((n / 64 ^ i : Nat) : Int) 64 = ((0x80 + n / 64 ^ i % 64 : Nat) : Int) := by
              rw [Int.fmod_eq_emod_of_nonneg _ (by decide)]
              omega
            rw [this, ← vl_snoc]
      · rintro σ H' ⟨y, rfl, sm, hG⟩
        have hz : (((sizeOf8 n : Nat) : Int) - 1).toNat = sizeOf8 n - 1 := by omega
        rw [hz] at hG ⊢
        have hx : ([.ref a0, .ref a1, .ref a2, .ref a3] : List V)[sizeOf8 n - 1]? = some (([.ref a0, .ref a1, .ref a2, .ref a3] : List V)[sizeOf8 n - 1]'(by show _ < 4; omega)) := List.getElem?_eq_getElem _
        obtain ⟨a, lo, hi, le, ex, sq, hf, elo, -, -⟩ := formAt T hx
        rw [ex] at hx
        rw [Nat.sub_add_cancel z1] at elo
        refine ⟨_, rfl, _, _, rfl, rfl, aF, _, _, _, rfl, rfl, T.sF H', at_of (j := sizeOf8 n - 1) ?_ hx, a, _, _, _, rfl, rfl, sq H', at_of (j := 0) rfl rfl, _, rfl, _, _, rfl, rfl, ?_⟩
        · omega
        refine ⟨by show 1 ≤ sizeLine; decide, fun L nL => ?_⟩
        have smL : Same H' (upd H' L (.lst [V.int ((lo : Int) + ((n / 64 ^ (sizeOf8 n - 1) : Nat) : Int))])) := same_upd nL
        refine ⟨_, rfl, G, _, rfl, smL.seq (SqL.of hG), fun M nM => ?_⟩
        have nML : L ≠ M := fun e => by
          rw [← e, upd_same] at nM
          cases nM
        refine ⟨L, M, _, _, rfl, rfl, by rw [upd_ne nML]; exact upd_same, upd_same, ?_, fun p np => ?_⟩
        · rw [List.length_reverse, vl_len, digits_len]
          exact line_le (by show 1 + (sizeOf8 n - 1) ≤ 16000000; omega)
        · have smM := (sm.trans smL).trans (same_upd (o := .lst (vl (digits n (sizeOf8 n - 1))).reverse) nM)
          refine q _ p (smM.trans (same_upd np)) (smM.free np) ?_
          rw [upd_same, formOf_digits, ← elo]
          have : (lo : Int) + ((n / 64 ^ (sizeOf8 n - 1) : Nat) : Int) = ((lo + n / 64 ^ (sizeOf8 n - 1) : Nat) : Int) := by omega
          show some (HO.lst (V.int ((lo : Int) + ((n / 64 ^ (sizeOf8 n - 1) : Nat) : Int)) :: (vl (digits n (sizeOf8 n - 1))).reverse)) = _
          rw [this]
          congr 2
          show _ = vn _ :: vl (digits n (sizeOf8 n - 1)).reverse
          unfold vl
          rw [List.map_reverse]

theorem formOf_len (n : Nat) : (formOf n).length ≤ 4 := by
  unfold formOf
  split
  · simp
  split
  · simp
  split <;> simp
theorem encoded_len : ∀ l : List Nat, (encoded l).length ≤ 4 * l.length
  | [] => Nat.le_refl _
  | a :: l => by
    have h1 := formOf_len a
    have h2 := encoded_len l
    show (formOf a ++ encoded l).length ≤ _
    rw [List.length_append, List.length_cons]
    omega
def spEncoded (K : PySem.W.Frag) : Sp := fun vs H Q _ => ∃ (a : Addr) (l : List Nat), vs = [.ref a] ∧ SqL K H a (vl l) ∧ l.length ≤ 50000 ∧ ∀ H' p, Same H H' → H p = none → H' p = some (.lst (vl (encoded l))) → Q (.ref p) H'
theorem ok_encoded {f fO : Addr} {fd fdO : FuncData} {k : Nat} (F : Fun K "encoded" "encoded" sEncoded f fd) (T : TxtF K mg aF a0 a1 a2 a3) (B : TxtB mg)
    (FO : Fun K "form_of" "form_of" sFormOf fO fdO) (bO : Binds K fdO ["number"] []) (gO : mg "form_of" = some (.ref fO)) : FnOk P w K mg base CX0 (k + 1 + 1) f fd ["row"] (spEncoded K) := by
  have GO : FnOk P w K mg base CX0 (k + 1) fO fdO ["number"] spFormOf := ok_form_of FO T B
  refine F.ok scEncoded (fun vs H Q E h => ?_) (fun cdv A outer s H vs Q E hr h => ?_)
  · obtain ⟨a, o, rfl, _⟩ := h
    rfl
  · obtain ⟨a, l, rfl, hS, hl, q⟩ := h
    have nd := scEncoded.nd
    refine ⟨_, pss_cons (ps_set (i := 1) nd rfl (.inl rfl) (pe_lst pa_nil))
      (pss_cons (ps_for PassesOwn.never rfl (pi_list (pv 0)) (pg_name (i := 2) nd rfl (Or.inl rfl))
        (pss_one (ps_expr (pe_bm PySem.F.plainAttrs_list PySem.F.slot_list_extend PySem.F.type_list_extend mt_extend (pv 1)
          (pa_cons (pe_call GO hr (by rfl) gO FO.kp bO .nil pass0 (pa_cons (pv 2) pa_nil)) pa_nil)))))
      (pss_one (ps_ret (pv 1)))), ?_⟩
    refine ⟨Nat.zero_le _, fun R nR => ?_⟩
    refine ⟨_, rfl, a, rfl, ⟨_, (same_upd nR).seq hS⟩, for_list (K := K) (a := a) (xs := vl l)
      (fun i σ H' => ∃ y, σ = [some (.ref a), some (.ref R), y] ∧ Same H H' ∧ H' R = some (.lst (vl (encoded (l.take i))))) ⟨none, rfl, same_upd nR, upd_same⟩ (fun i σ H' _ ⟨_, _, sm, _⟩ => sm.seq hS) ?_ ?_⟩
    · rintro i x σ H' hx ⟨y, rfl, sm, hR⟩
      obtain ⟨n, hn, rfl⟩ := vl_get hx
      refine ⟨_, rfl, .inl ⟨rfl, _, SqL.of hR⟩, _, rfl, n, rfl, fun H1 p sm1 np hp => ?_⟩
      have hR1 := sm1 _ _ hR
      refine ⟨R, p, _, _, rfl, rfl, hR1, hp, ?_, ?_⟩
      · rw [vl_len, vl_len]
        have h1 := encoded_len (l.take i)
        have h2 := formOf_len n
        rw [List.length_take] at h1
        exact line_le (by omega)
      · refine ⟨_, rfl, same_store (sm.trans sm1) nR, ?_⟩
        rw [upd_same, take_more hn, encoded_append, ← vl_append]
        show _ = some (HO.lst (vl (encoded (l.take i) ++ ([n].flatMap formOf))))
        rw [List.flatMap_singleton]
    · rintro σ H' ⟨y, rfl, sm, hR⟩
      rw [vl_len, List.take_length] at hR
      exact ⟨_, rfl, q H' R sm nR hR⟩
end
end SpA
set_option Elab.async false
set_option linter.all false
set_option maxRecDepth 100000
set_option maxHeartbeats 4000000
namespace SpA
open PySem PySem.Spec PyProof.Rows L2
theorem iteC {c : Bool} {A B : Prop} (h1 : c = true → A) (h2 : c = false → B) : if c = true then A else B := by
  cases c with
  | true => exact iteT (h1 rfl)
  | false => exact iteF (h2 rfl)
/-! ### a rule as an object -/
abbrev sRule : Stmt := topS 22
abbrev sRuleInit : Stmt := inClass sRule 0
abbrev sRuleSizes : Stmt := inClass sRule 1
theorem scRuleInit : FnScope ["self", "letters", "sounds", "back"] ["self", "letters", "sounds", "back"] (defScope sRuleInit) := ⟨rfl, rfl, rfl, by decide +kernel, rfl, by decide +kernel, by decide +kernel⟩
theorem scRuleSizes : FnScope ["self"] ["self"] (defScope sRuleSizes) := ⟨rfl, rfl, rfl, by decide +kernel, rfl, by decide +kernel, by decide +kernel⟩
structure TxtR (K : PySem.W.Frag) (mg : Str → Option Value) (C fI fZ : Addr) : Prop where
  cl : Cls K C
  mkC : Mk K C fI
  mz : Meth K C "has_right_sizes" fZ
  gC : mg "Rule" = some (.ref C)
  nL : NoAttr K C "letters"
  nS : NoAttr K C "sounds"
  nB : NoAttr K C "back"
  n1 : ∃ t, mg "MOST_RULES" = some (.int 64 t)
  n2 : ∃ t, mg "MOST_LETTERS" = some (.int 6 t)
  n3 : ∃ t, mg "MOST_SOUNDS" = some (.int 4 t)
  n4 : ∃ t, mg "MOST_BACK" = some (.int 5 t)
def rF (a b c : Addr) : List (Str × V) := [("letters", .ref a), ("sounds", .ref b), ("back", .ref c)]
/-- a rule r lies at p -/
def RuleAt (C : Addr) (H : Hp) (p : Addr) (r : Sy.Rule) : Prop := ∃ dx a b c, H p = some (.ins C dx (rF a b c)) ∧ H a = some (.tup (vl r.letters)) ∧ H b = some (.tup (vl r.sounds)) ∧ H c = some (.tup (vl r.back))
theorem RuleAt.same {C : Addr} {H H' : Hp} {p : Addr} {r : Sy.Rule} (h : RuleAt C H p r) (s : Same H H') : RuleAt C H' p r := by
  obtain ⟨dx, a, b, c, h1, h2, h3, h4⟩ := h
  exact ⟨dx, a, b, c, s _ _ h1, s _ _ h2, s _ _ h3, s _ _ h4⟩
theorem lk_here {k : Str} {v : V} {r : List (Str × V)} : List.lookup k ((k, v) :: r) = some v := by
  have e : (k == k) = true := beq_self_eq_true k
  simp only [List.lookup, e]
theorem lk_past {k g : Str} {v : V} {r : List (Str × V)} (h : (k == g) = false) : List.lookup k ((g, v) :: r) = List.lookup k r := by
  simp only [List.lookup, h]
theorem put_here {f : Str} {v x : V} {r : List (Str × V)} : putF f v ((f, x) :: r) = (f, v) :: r := if_pos rfl
theorem put_past {f g : Str} {v x : V} {r : List (Str × V)} (h : ¬ g = f) : putF f v ((g, x) :: r) = (g, x) :: putF f v r := if_neg h
theorem rF_l (a b c : Addr) : (rF a b c).lookup ("letters" : Str) = some (.ref a) := lk_here
theorem rF_s (a b c : Addr) : (rF a b c).lookup ("sounds" : Str) = some (.ref b) := (lk_past (by decide +kernel)).trans lk_here
theorem rF_b (a b c : Addr) : (rF a b c).lookup ("back" : Str) = some (.ref c) := (lk_past (by decide +kernel)).trans ((lk_past (by decide +kernel)).trans lk_here)
theorem rF_z (a b c : Addr) : (rF a b c).lookup ("has_right_sizes" : Str) = none := (lk_past (by decide +kernel)).trans ((lk_past (by decide +kernel)).trans ((lk_past (by decide +kernel)).trans rfl))
theorem rF_new (a b c : Addr) : putF "back" (.ref c) (putF "sounds" (.ref b) (putF "letters" (.ref a) [])) = rF a b c := by
  have e1 : putF "sounds" (.ref b) [(("letters" : Str), V.ref a)] = [(("letters" : Str), V.ref a), (("sounds" : Str), V.ref b)] := (put_past (by decide +kernel)).trans rfl
  show putF "back" (.ref c) (putF "sounds" (.ref b) [(("letters" : Str), V.ref a)]) = _
  rw [e1]
  exact (put_past (by decide +kernel)).trans (congrArg _ ((put_past (by decide +kernel)).trans rfl))
section
variable {P : Program} {w : World} {K : PySem.W.Frag} {mg : Str → Option Value} {base : Heap} {aF a0 a1 a2 a3 C fI fZ : Addr}
def spRuleInit (K : PySem.W.Frag) (C : Addr) : Sp := fun vs H Q _ => ∃ (p dx a b c : Addr) (r : Sy.Rule), vs = [.ref p, .ref a, .ref b, .ref c] ∧ H p = some (.ins C dx []) ∧
  SqL K H a (vl r.letters) ∧ SqL K H b (vl r.sounds) ∧ SqL K H c (vl r.back) ∧
  ∀ H' : Hp, RuleAt C H' p r → (∀ b o, H b = some o → b ≠ p → H' b = some o) → Q .non H'
theorem seq_upd {K : PySem.W.Frag} {H : Hp} {a p : Addr} {o : HO} {xs : List V} (hp : ∀ x, H p ≠ some (.lst x)) (hf : ∀ o' x, H p ≠ some (.frz o' x)) (h : SqL K H a xs) (hu : ∀ b z, H b = some z → b ≠ p → upd H p o b = some z) : SqL K (upd H p o) a xs := by
  rcases h with (h | ⟨o', h⟩) | h
  · exact .inl (.inl (hu _ _ h fun e => hp _ (e ▸ h)))
  · exact .inl (.inr ⟨o', hu _ _ h fun e => hf _ _ (e ▸ h)⟩)
  · exact .inr h
theorem ok_rule_init {fd : FuncData} {k : Nat} (F : Fun K "__init__" "Rule.__init__" sRuleInit fI fd) (T : TxtR K mg C fI fZ) (B : TxtB mg) : FnOk P w K mg base CX0 (k + 1) fI fd ["self", "letters", "sounds", "back"] (spRuleInit K C) := by
  refine F.ok scRuleInit (fun vs H Q E h => ?_) (fun cdv A outer s H vs Q E hr h => ?_)
  · obtain ⟨p, dx, a, b, c, r, rfl, _⟩ := h
    rfl
  · obtain ⟨p, dx, a, b, c, r, rfl, hp, ha, hb, hc, q⟩ := h
    refine ⟨_, pss_cons (ps_fld (pv 0) (pe_callTy call_tuple_of (by rfl) B.tuple (by decide +kernel) (pa_cons (pv 1) pa_nil)) rfl)
      (pss_cons (ps_fld (pv 0) (pe_callTy call_tuple_of (by rfl) B.tuple (by decide +kernel) (pa_cons (pv 2) pa_nil)) rfl)
      (pss_one (ps_fld (pv 0) (pe_callTy call_tuple_of (by rfl) B.tuple (by decide +kernel) (pa_cons (pv 3) pa_nil)) rfl))), ?_⟩
    -- self.letters = tuple(letters)
    refine ⟨_, rfl, a, _, rfl, .inl ⟨ha, fun t1 n1 => ?_⟩⟩
    have s1 : Same H (upd H t1 (.tup (vl r.letters))) := same_upd n1
    have p1 := s1 _ _ hp
    have n1p : t1 ≠ p := fun e => by rw [e, hp] at n1; cases n1
    refine ⟨_, rfl, p, C, dx, [], rfl, p1, T.cl, T.nL, (by show 0 < 1000; decide), ?_⟩
    -- self.sounds = tuple(sounds)
    have hb2 : SqL K (upd (upd H t1 (.tup (vl r.letters))) p (.ins C dx (putF "letters" (.ref t1) []))) b (vl r.sounds) :=
      seq_upd (fun x e => by rw [p1] at e; cases e) (fun o x e => by rw [p1] at e; cases e) (s1.seq hb) fun z o e hz => by rw [upd_ne hz]; exact e
    refine ⟨_, rfl, b, _, rfl, .inl ⟨hb2, fun t2 n2 => ?_⟩⟩
    have n2p : t2 ≠ p := fun e => by rw [e, upd_same] at n2; cases n2
    have n2t1 : t2 ≠ t1 := fun e => by rw [e, upd_ne n1p, upd_same] at n2; cases n2
    have p2 : (upd (upd (upd H t1 (.tup (vl r.letters))) p (.ins C dx (putF "letters" (.ref t1) []))) t2 (.tup (vl r.sounds))) p = some (.ins C dx (putF "letters" (.ref t1) [])) := by
      rw [upd_ne (Ne.symm n2p), upd_same]
    refine ⟨_, rfl, p, C, dx, _, rfl, p2, T.cl, T.nS, (by show 1 < 1000; decide), ?_⟩
    -- self.back = tuple(back)
    have hc2 : SqL K (upd (upd H t1 (.tup (vl r.letters))) p (.ins C dx (putF "letters" (.ref t1) []))) c (vl r.back) :=
      seq_upd (fun x e => by rw [p1] at e; cases e) (fun o x e => by rw [p1] at e; cases e) (s1.seq hc) fun z o e hz => by rw [upd_ne hz]; exact e
    have hc3 := seq_upd (o := .ins C dx (putF "sounds" (.ref t2) (putF "letters" (.ref t1) []))) (fun x e => by rw [p2] at e; cases e) (fun o x e => by rw [p2] at e; cases e) ((same_upd (o := .tup (vl r.sounds)) n2).seq hc2) fun z o e hz => by rw [upd_ne hz]; exact e
    refine ⟨_, rfl, c, _, rfl, .inl ⟨hc3, fun t3 n3 => ?_⟩⟩
    have n3p : t3 ≠ p := fun e => by rw [e, upd_same] at n3; cases n3
    have n3t2 : t3 ≠ t2 := fun e => by rw [e, upd_ne n2p, upd_same] at n3; cases n3
    have n3t1 : t3 ≠ t1 := fun e => by rw [e, upd_ne n1p, upd_ne (Ne.symm n2t1), upd_ne n1p, upd_same] at n3; cases n3
    refine ⟨_, rfl, p, C, dx, _, rfl, by rw [upd_ne (Ne.symm n3p), upd_same], T.cl, T.nB, (by show 2 < 1000; decide), ?_⟩
    refine q _ ⟨dx, t1, t2, t3, ?_, ?_, ?_, ?_⟩ fun z o e hz => ?_
    · rw [upd_same]
      exact congrArg (fun q => some (HO.ins C dx q)) (rF_new t1 t2 t3)
    · rw [upd_ne n1p, upd_ne (Ne.symm n3t1), upd_ne n1p, upd_ne (Ne.symm n2t1), upd_ne n1p, upd_same]
    · rw [upd_ne n2p, upd_ne (Ne.symm n3t2), upd_ne n2p, upd_same]
    · rw [upd_ne n3p, upd_same]
    · have z1 : z ≠ t1 := ne_of_none e n1
      have z2 : z ≠ t2 := fun w => by
        rw [← w, upd_ne hz, upd_ne z1, e] at n2
        cases n2
      have z3 : z ≠ t3 := fun w => by
        rw [← w, upd_ne hz, upd_ne z2, upd_ne hz, upd_ne z1, e] at n3
        cases n3
      rw [upd_ne hz, upd_ne z3, upd_ne hz, upd_ne z2, upd_ne hz, upd_ne z1]
      exact e
theorem short_bool (r : Sy.Rule) : r.short = (!(decide (6 < r.letters.length) || decide (4 < r.sounds.length)) && (decide (r.back.length ≤ 5) && decide (r.back.length < r.letters.length))) := by
  unfold Sy.Rule.short Sy.LETTERS Sy.SOUNDS Sy.BACK
  rw [Bool.not_or, Bool.and_assoc]
  congr 1
  · rw [← decide_not]
    exact decide_eq_decide.mpr (by omega)
  · congr 1
    rw [← decide_not]
    exact decide_eq_decide.mpr (by omega)
def spRuleSizes (C : Addr) : Sp := fun vs H Q _ => ∃ (p : Addr) (r : Sy.Rule), vs = [.ref p] ∧ RuleAt C H p r ∧ Q (.bl r.short) H
theorem ok_rule_sizes {fd : FuncData} {k : Nat} (F : Fun K "has_right_sizes" "Rule.has_right_sizes" sRuleSizes fZ fd) (T : TxtR K mg C fI fZ) (B : TxtB mg) : FnOk P w K mg base CX0 (k + 1) fZ fd ["self"] (spRuleSizes C) := by
  refine F.ok scRuleSizes (fun vs H Q E h => ?_) (fun cdv A outer s H vs Q E hr h => ?_)
  · obtain ⟨p, r, rfl, _⟩ := h
    rfl
  · obtain ⟨p, r, rfl, ⟨dx, a, b, c, hp, ha, hb, hc⟩, q⟩ := h
    obtain ⟨t2, e2⟩ := T.n2
    obtain ⟨t3, e3⟩ := T.n3
    obtain ⟨t4, e4⟩ := T.n4
    refine ⟨_, pss_cons (ps_if (PW.pt (pw_or (pt_cmpR op_gt (pe_callB call_len_seq (by rfl) B.len PySem.boot_len (pa_cons (pe_fld (pv 0) rfl) pa_nil)) (pe_gint rfl e2) (nomark _))
          (pw_or1 (pt_cmpR op_gt (pe_callB call_len_seq (by rfl) B.len PySem.boot_len (pa_cons (pe_fld (pv 0) rfl) pa_nil)) (pe_gint rfl e3) (nomark _)))))
        (pss_one (ps_ret pe_bl)) pss_nil)
      (pss_one (ps_ret (pe_and (pe_cmpR op_le (pe_callB call_len_seq (by rfl) B.len PySem.boot_len (pa_cons (pe_fld (pv 0) rfl) pa_nil)) (pe_gint rfl e4) (nomark _))
        (pe_one (pe_cmpR op_lt (pe_callB call_len_seq (by rfl) B.len PySem.boot_len (pa_cons (pe_fld (pv 0) rfl) pa_nil)) (pe_callB call_len_seq (by rfl) B.len PySem.boot_len (pa_cons (pe_fld (pv 0) rfl) pa_nil)) (nomark _)))))), ?_⟩
    rw [short_bool] at q
    have eL : decide ((((vl r.letters).length : Nat) : Int) > 6) = decide (6 < r.letters.length) := decide_eq_decide.mpr (by rw [vl_len]; omega)
    have eS : decide ((((vl r.sounds).length : Nat) : Int) > 4) = decide (4 < r.sounds.length) := decide_eq_decide.mpr (by rw [vl_len]; omega)
    have eB : decide ((((vl r.back).length : Nat) : Int) ≤ 5) = decide (r.back.length ≤ 5) := decide_eq_decide.mpr (by rw [vl_len]; omega)
    have eC : decide ((((vl r.back).length : Nat) : Int) < (((vl r.letters).length : Nat) : Int)) = decide (r.back.length < r.letters.length) := decide_eq_decide.mpr (by rw [vl_len, vl_len]; omega)
    refine ⟨_, rfl, p, C, dx, _, _, rfl, hp, T.cl, T.nL, rF_l a b c, a, _, rfl, .inr (SqT.of ha), _, _, rfl, rfl, _, rfl, ?_⟩
    have rest : (decide (r.back.length ≤ 5) && decide (r.back.length < r.letters.length)) = true ∨ (decide (r.back.length ≤ 5) && decide (r.back.length < r.letters.length)) = false := by
      cases (decide (r.back.length ≤ 5) && decide (r.back.length < r.letters.length)) <;> simp
    refine iteC (fun h => ?_) fun h => ?_
    · have h : decide (6 < r.letters.length) = true := eL.symm.trans h
      rw [h] at q
      exact iteT q
    · have h : decide (6 < r.letters.length) = false := eL.symm.trans h
      rw [h] at q
      refine ⟨_, rfl, p, C, dx, _, _, rfl, hp, T.cl, T.nS, rF_s a b c, b, _, rfl, .inr (SqT.of hb), _, _, rfl, rfl, _, rfl, ?_⟩
      refine iteC (fun h => ?_) fun h => ?_
      · have h : decide (4 < r.sounds.length) = true := eS.symm.trans h
        rw [h] at q
        exact q
      · have h : decide (4 < r.sounds.length) = false := eS.symm.trans h
        rw [h] at q
        refine ⟨_, rfl, p, C, dx, _, _, rfl, hp, T.cl, T.nB, rF_b a b c, c, _, rfl, .inr (SqT.of hc), _, _, rfl, rfl, _, rfl, ?_⟩
        refine iteC (fun h => ?_) fun h => ?_
        · have h : decide (r.back.length ≤ 5) = true := eB.symm.trans h
          rw [h] at q
          refine ⟨_, rfl, p, C, dx, _, _, rfl, hp, T.cl, T.nB, rF_b a b c, c, _, rfl, .inr (SqT.of hc), _, rfl, p, C, dx, _, _, rfl, hp, T.cl, T.nL, rF_l a b c, a, _, rfl, .inr (SqT.of ha), _, _, rfl, rfl, ?_⟩
          rw [← eC] at q
          exact q
        · have h : decide (r.back.length ≤ 5) = false := eB.symm.trans h
          rw [h] at q
          exact q
end
end SpA
set_option Elab.async false
set_option linter.all false
set_option maxRecDepth 100000
set_option maxHeartbeats 4000000
namespace SpA
open PySem PySem.Spec PyProof.Rows L2
abbrev sParted : Stmt := topS 48
abbrev sPartsOf : Stmt := topS 49
abbrev sIsRuleLine : Stmt := topS 51
abbrev sAllWritten : Stmt := topS 52
abbrev sRuleOf : Stmt := topS 53
theorem scParted : FnScope ["row", "mark", "parts", "number"] ["row", "mark"] (defScope sParted) := ⟨rfl, rfl, rfl, by decide +kernel, rfl, by decide +kernel, by decide +kernel⟩
theorem scPartsOf : FnScope ["line", "row"] ["line"] (defScope sPartsOf) := ⟨rfl, rfl, rfl, by decide +kernel, rfl, by decide +kernel, by decide +kernel⟩
theorem scIsRuleLine : FnScope ["parts"] ["parts"] (defScope sIsRuleLine) := ⟨rfl, rfl, rfl, by decide +kernel, rfl, by decide +kernel, by decide +kernel⟩
theorem scAllWritten : FnScope ["row", "number"] ["row"] (defScope sAllWritten) := ⟨rfl, rfl, rfl, by decide +kernel, rfl, by decide +kernel, by decide +kernel⟩
theorem scRuleOf : FnScope ["parts", "back"] ["parts"] (defScope sRuleOf) := ⟨rfl, rfl, rfl, by decide +kernel, rfl, by decide +kernel, by decide +kernel⟩
/-- the rows ps as lists in a list at a -/
def LL (H : Hp) (a : Addr) (ps : List (List Nat)) : Prop := ∃ as : List Addr, H a = some (.lst (as.map V.ref)) ∧ as.length = ps.length ∧ ∀ (i : Nat) (b : Addr) (q : List Nat), as[i]? = some b → ps[i]? = some q → H b = some (.lst (vl q))
theorem LL.same {H H' : Hp} {a : Addr} {ps : List (List Nat)} (h : LL H a ps) (s : Same H H') : LL H' a ps := by
  obtain ⟨as, h1, h2, h3⟩ := h
  exact ⟨as, s _ _ h1, h2, fun i b q x y => s _ _ (h3 i b q x y)⟩
/-- an item of it -/
theorem LL.at {H : Hp} {a : Addr} {ps : List (List Nat)} (h : LL H a ps) {i : Nat} {q : List Nat} (hq : ps[i]? = some q) : ∃ (as : List Addr) (b : Addr), H a = some (.lst (as.map V.ref)) ∧ as.length = ps.length ∧ (as.map V.ref)[i]? = some (.ref b) ∧ H b = some (.lst (vl q)) := by
  obtain ⟨as, h1, h2, h3⟩ := h
  have hi : i < as.length := by
    rw [h2]
    exact (List.getElem?_eq_some_iff.mp hq).1
  refine ⟨as, as[i], h1, h2, ?_, h3 i _ q (List.getElem?_eq_getElem hi) hq⟩
  rw [List.getElem?_map, List.getElem?_eq_getElem hi]
  rfl
structure TxtT (mg : Str → Option Value) : Prop where
  n1 : ∃ t, mg "LINE_END" = some (.int 10 t)
  n2 : ∃ t, mg "BLANK" = some (.int 32 t)
  n3 : ∃ t, mg "DELETE" = some (.int 127 t)
  n4 : ∃ t, mg "NO_FAULT" = some (.int 0 t)
  n5 : ∃ t, mg "NO_RULE_LINE" = some (.int 1 t)
  n6 : ∃ t, mg "WRONG_SIZE" = some (.int 2 t)
  n7 : ∃ t, mg "LETTERS_AGAIN" = some (.int 3 t)
  n8 : ∃ t, mg "TOO_MANY_LINES" = some (.int 4 t)
section
variable {P : Program} {w : World} {K : PySem.W.Frag} {mg : Str → Option Value} {base : Heap} {aF a0 a1 a2 a3 C fI fZ : Addr}
def spParted (K : PySem.W.Frag) : Sp := fun vs H Q _ => ∃ (a : Addr) (l : List Nat) (m : Nat), vs = [.ref a, vn m] ∧ SqL K H a (vl l) ∧ l.length ≤ 50000 ∧ ∀ H' p, Same H H' → H p = none → LL H' p (parted m l) → Q (.ref p) H'
/-- the parts so far, the last one apart -/
structure Parts (H H' : Hp) (R : Addr) (ps : List (List Nat)) (bs : List Addr) (b : Addr) (qs : List (List Nat)) (q : List Nat) : Prop where
  eq : ps = qs ++ [q]
  len : bs.length = qs.length
  at_ : H' R = some (.lst ((bs ++ [b]).map V.ref))
  each : ∀ (i : Nat) (c : Addr) (t : List Nat), bs[i]? = some c → qs[i]? = some t → H' c = some (.lst (vl t))
  last : H' b = some (.lst (vl q))
  nb : b ∉ bs
  nR : R ∉ bs
  Rb : R ≠ b
  fb : H b = none
theorem parted_le (m : Nat) : ∀ l : List Nat, (parted m l).length ≤ l.length + 1
  | [] => Nat.le_refl _
  | c :: l => by
    have ih := parted_le m l
    rw [parted_cons]
    split
    · rw [List.length_cons, List.length_cons]
      omega
    · cases e : parted m l with
      | nil => simp
      | cons p r =>
        rw [e] at ih
        simp only [List.length_cons] at ih ⊢
        omega
theorem ok_parted {f : Addr} {fd : FuncData} {k : Nat} (F : Fun K "parted" "parted" sParted f fd) : FnOk P w K mg base CX0 (k + 1) f fd ["row", "mark"] (spParted K) := by
  refine F.ok scParted (fun vs H Q E h => ?_) (fun cdv A outer s H vs Q E hr h => ?_)
  · obtain ⟨a, l, m, rfl, _⟩ := h
    rfl
  · obtain ⟨a, l, m, rfl, hS, hl, q⟩ := h
    have nd := scParted.nd
    refine ⟨_, pss_cons (ps_set (i := 2) nd rfl (.inl rfl) (pe_lst (pa_cons (pe_lst pa_nil) pa_nil)))
      (pss_cons (ps_for PassesOwn.never rfl (pi_list (pv 0)) (pg_name (i := 3) nd rfl (Or.inl rfl))
        (pss_one (ps_if (pt_cmpR op_eq (pv 3) (pv 1) (nomark _))
          (pss_one (ps_expr (pe_bm PySem.F.plainAttrs_list PySem.F.slot_list_append PySem.F.type_list_append mt_append (pv 2) (pa_cons (pe_lst pa_nil) pa_nil))))
          (pss_one (ps_expr (pe_bm PySem.F.plainAttrs_list PySem.F.slot_list_append PySem.F.type_list_append mt_append (pe_ix ix_list (pv 2) (pe_un un_neg pe_int) (fun _ _ => rfl)) (pa_cons (pv 3) pa_nil)))))))
      (pss_one (ps_ret (pv 2)))), ?_⟩
    -- parts = [[]]
    refine ⟨Nat.zero_le _, fun b0 n0 => ⟨by show 1 ≤ sizeLine; decide, fun R nR' => ?_⟩⟩
    have b0R : b0 ≠ R := fun e => by rw [← e, upd_same] at nR'; cases nR'
    have nR : H R = none := (same_upd n0).free nR'
    have s0 : Same H (upd (upd H b0 (.lst [])) R (.lst [.ref b0])) := (same_upd n0).trans (same_upd nR')
    refine ⟨_, rfl, a, rfl, ⟨_, s0.seq hS⟩, for_list (K := K) (a := a) (xs := vl l)
      (fun i σ H' => ∃ y bs b qs q, σ = [some (.ref a), some (vn m), some (.ref R), y] ∧ Same H H' ∧ Parts H H' R (parted m (l.take i)) bs b qs q)
      ⟨none, [], b0, [], [], rfl, s0, rfl, rfl, upd_same, fun i c t h => by simp at h, by rw [upd_ne b0R]; exact upd_same, by simp, by simp, Ne.symm b0R, n0⟩
      (fun i σ H' _ ⟨_, _, _, _, _, _, sm, _⟩ => sm.seq hS) ?_ ?_⟩
    · rintro i x σ H' hx ⟨y, bs, b, qs, qq, rfl, sm, pt⟩
      obtain ⟨n, hn, rfl⟩ := vl_get hx
      have ep : parted m (l.take (i + 1)) = if n = m then qs ++ [qq] ++ [[]] else qs ++ [qq ++ [n]] := by
        rw [take_more hn, parted_snoc, pt.eq]
        by_cases c : n = m
        · rw [if_pos c, if_pos c]
        · rw [if_neg c, if_neg c, lastPush_eq]
      have hi : i < l.length := (List.getElem?_eq_some_iff.mp hn).1
      have hql : qs.length + 1 ≤ i + 1 := by
        have h1 := parted_le m (l.take i)
        rw [pt.eq, List.length_append, List.length_singleton, List.length_take] at h1
        omega
      refine ⟨_, rfl, _, rfl, rfl, _, rfl, ?_⟩
      by_cases c : n = m
      · rw [decide_eq_true (show vn n = vn m by rw [c])]
        rw [if_pos c] at ep
        refine iteT ?_
        refine ⟨_, rfl, .inl ⟨rfl, _, SqL.of pt.at_⟩, Nat.zero_le _, fun N nN => ?_⟩
        have hRN : R ≠ N := ne_of_none pt.at_ nN
        have hbN : b ≠ N := ne_of_none pt.last nN
        have hN : H N = none := sm.free nN
        refine ⟨R, _, _, rfl, rfl, by rw [upd_ne hRN]; exact pt.at_, ?_, ?_⟩
        · rw [List.length_map, List.length_append, pt.len, List.length_singleton]
          exact line_of (by omega)
        · refine ⟨some (vn n), bs ++ [b], N, qs ++ [qq], [], rfl, same_store (sm.trans (same_upd nN)) nR, ep, ?_, ?_, ?_, ?_, ?_, ?_, hRN, hN⟩
          · rw [List.length_append, List.length_append, pt.len]
            rfl
          · rw [upd_same]
            congr 2
            rw [List.map_append (l₁ := bs ++ [b])]
            rfl
          · intro j z t hz ht
            have hzN : z ≠ N := by
              rcases Nat.lt_or_ge j bs.length with lt | ge
              · rw [List.getElem?_append_left lt] at hz
                rw [List.getElem?_append_left (by rw [← pt.len]; exact lt)] at ht
                exact ne_of_none (pt.each j z t hz ht) nN
              · rw [List.getElem?_append_right ge] at hz
                have : z = b := by
                  cases e : j - bs.length with
                  | zero => rw [e] at hz; exact (Option.some.inj hz).symm
                  | succ u => rw [e] at hz; cases hz
                rw [this]
                exact hbN
            have hzR : z ≠ R := by
              rcases Nat.lt_or_ge j bs.length with lt | ge
              · rw [List.getElem?_append_left lt] at hz
                intro e
                rw [e] at hz
                exact pt.nR (List.mem_of_getElem? hz)
              · rw [List.getElem?_append_right ge] at hz
                have : z = b := by
                  cases e : j - bs.length with
                  | zero => rw [e] at hz; exact (Option.some.inj hz).symm
                  | succ u => rw [e] at hz; cases hz
                rw [this]
                exact Ne.symm pt.Rb
            rw [upd_ne hzR, upd_ne hzN]
            rcases Nat.lt_or_ge j bs.length with lt | ge
            · rw [List.getElem?_append_left lt] at hz
              rw [List.getElem?_append_left (by rw [← pt.len]; exact lt)] at ht
              exact pt.each j z t hz ht
            · rw [List.getElem?_append_right ge] at hz
              rw [List.getElem?_append_right (by rw [← pt.len]; exact ge), ← pt.len] at ht
              cases e : j - bs.length with
              | zero =>
                rw [e] at hz ht
                have e1 := Option.some.inj hz
                have e2 := Option.some.inj ht
                rw [← e1, ← e2]
                exact pt.last
              | succ u => rw [e] at hz; cases hz
          · rw [upd_ne (Ne.symm hRN), upd_same]
            rfl
          · intro hm
            rcases List.mem_append.mp hm with hm | hm
            · obtain ⟨j, hj⟩ := List.mem_iff_getElem?.mp hm
              have hjl : j < qs.length := by rw [← pt.len]; exact (List.getElem?_eq_some_iff.mp hj).1
              have := pt.each j N _ hj (List.getElem?_eq_getElem hjl)
              rw [nN] at this
              cases this
            · exact hbN (List.mem_singleton.mp hm).symm
          · intro hm
            rcases List.mem_append.mp hm with hm | hm
            · exact pt.nR hm
            · exact pt.Rb (List.mem_singleton.mp hm)
      · rw [decide_eq_false (show ¬ vn n = vn m from fun e => c (by have := V.int.inj e; omega))]
        rw [if_neg c] at ep
        refine iteF ?_
        have hatl : atI ((bs ++ [b]).map V.ref) (-1) = some (.ref b) := by
          rw [List.map_append]
          exact atI_last _ _
        refine ⟨_, rfl, 1, rfl, R, _, _, _, rfl, rfl, SqL.of pt.at_, hatl, .inl ⟨rfl, _, SqL.of pt.last⟩, _, rfl, b, _, _, rfl, rfl, pt.last, ?_, ?_⟩
        · have h1 := parted_mem m (l.take i)
          rw [vl_len]
          have : qq.length ≤ 50000 := by
            have hlen : ∀ (t : List Nat) (p : List Nat), p ∈ parted m t → p.length ≤ t.length := by
              intro t
              induction t with
              | nil =>
                intro p hp
                rw [parted_nil] at hp
                rw [List.mem_singleton.mp hp]
                exact Nat.le_refl _
              | cons z t ih =>
                intro p hp
                rw [parted_cons] at hp
                by_cases d : z = m
                · rw [if_pos d] at hp
                  rcases List.mem_cons.mp hp with e | hp
                  · rw [e]; exact Nat.zero_le _
                  · have := ih p hp
                    rw [List.length_cons]
                    omega
                · rw [if_neg d] at hp
                  cases e : parted m t with
                  | nil => exact absurd e (parted_ne m t)
                  | cons u v =>
                    rw [e] at hp ih
                    rcases List.mem_cons.mp hp with e2 | hp
                    · have := ih u List.mem_cons_self
                      rw [e2, List.length_cons, List.length_cons]
                      omega
                    · have := ih p (List.mem_cons_of_mem _ hp)
                      rw [List.length_cons]
                      omega
            have := hlen (l.take i) qq (by rw [pt.eq]; simp)
            rw [List.length_take] at this
            omega
          exact line_of (by omega)
        · refine ⟨some (vn n), bs, b, qs, qq ++ [n], rfl, same_store sm pt.fb, ep, pt.len, ?_, ?_, ?_, pt.nb, pt.nR, pt.Rb, pt.fb⟩
          · rw [upd_ne pt.Rb]
            exact pt.at_
          · intro j z t hz ht
            have : z ≠ b := fun e => by
              rw [e] at hz
              exact pt.nb (List.mem_of_getElem? hz)
            rw [upd_ne this]
            exact pt.each j z t hz ht
          · rw [upd_same, vl_snoc]
    · rintro σ H' ⟨y, bs, b, qs, qq, rfl, sm, pt⟩
      rw [vl_len, List.take_length] at pt
      refine ⟨_, rfl, q H' R sm nR ⟨bs ++ [b], pt.at_, ?_, ?_⟩⟩
      · rw [pt.eq, List.length_append, List.length_append, pt.len]
        rfl
      · intro j z t hz ht
        rw [pt.eq] at ht
        rcases Nat.lt_or_ge j bs.length with lt | ge
        · rw [List.getElem?_append_left lt] at hz
          rw [List.getElem?_append_left (by rw [← pt.len]; exact lt)] at ht
          exact pt.each j z t hz ht
        · rw [List.getElem?_append_right ge] at hz
          rw [List.getElem?_append_right (by rw [← pt.len]; exact ge), ← pt.len] at ht
          cases e : j - bs.length with
          | zero =>
            rw [e] at hz ht
            rw [← Option.some.inj hz, ← Option.some.inj ht]
            exact pt.last
          | succ u => rw [e] at hz; cases hz
end
end SpA
set_option Elab.async false
set_option linter.all false
set_option maxRecDepth 100000
set_option maxHeartbeats 4000000
namespace SpA
open PySem PySem.Spec PyProof.Rows L2
/-! ### rows of numbers as data -/
def pdL (l : List Nat) : PyData := .list ((zs l).map .int)
theorem dpAll_ints {K : PySem.W.Frag} {H : Hp} : ∀ l : List Nat, DpAll K H (vl l) ((zs l).map .int)
  | [] => .nil
  | n :: l => .cons (.int _) (dpAll_ints l)
theorem dp_row {K : PySem.W.Frag} {H : Hp} {a : Addr} {l : List Nat} (h : SqL K H a (vl l)) : Dp K H (.ref a) (pdL l) := .lst h (dpAll_ints l)
theorem dpAll_rows {K : PySem.W.Frag} {H : Hp} : ∀ (as : List Addr) (ps : List (List Nat)), as.length = ps.length → (∀ (i : Nat) (b : Addr) (q : List Nat), as[i]? = some b → ps[i]? = some q → H b = some (.lst (vl q))) → DpAll K H (as.map V.ref) (ps.map pdL)
  | [], [], _, _ => .nil
  | [], _ :: _, h, _ => by cases h
  | _ :: _, [], h, _ => by cases h
  | a :: as, p :: ps, h, k => .cons (dp_row (SqL.of (k 0 a p rfl rfl))) (dpAll_rows as ps (Nat.succ.inj h) fun i b q x y => k (i + 1) b q x y)
theorem dp_LL {K : PySem.W.Frag} {H : Hp} {a : Addr} {ps : List (List Nat)} (h : LL H a ps) : Dp K H (.ref a) (.list (ps.map pdL)) := by
  obtain ⟨as, h1, h2, h3⟩ := h
  exact .lst (SqL.of h1) (dpAll_rows as ps h2 h3)
theorem lay_rows : ∀ ps : List (List Nat), PyData.canLayAll0 (ps.map pdL) = true
  | [] => by simp [PyData.canLayAll0]
  | p :: ps => by
    have h1 := PySem.W.canLayAll0_ints (zs p)
    have h2 := lay_rows ps
    rw [List.map_cons]
    unfold PyData.canLayAll0
    rw [Bool.and_eq_true]
    refine ⟨?_, h2⟩
    unfold pdL PyData.canLay0
    exact h1
theorem deep_rows : ∀ ps : List (List Nat), PyData.depthAll (ps.map pdL) ≤ 2
  | [] => by simp [PyData.depthAll]
  | p :: ps => by
    have h1 := PySem.W.depthAll_ints (zs p)
    have h2 := deep_rows ps
    rw [List.map_cons]
    unfold PyData.depthAll
    have : PyData.depth (pdL p) ≤ 2 := by
      unfold pdL PyData.depth
      omega
    omega
theorem shaped_rows (ps : List (List Nat)) : SeqAt.shaped (.list (ps.map pdL)) = true := by
  unfold SeqAt.shaped
  rw [Bool.and_eq_true]
  refine ⟨?_, decide_eq_true ?_⟩
  · unfold PyData.canLay0
    exact lay_rows ps
  · have := deep_rows ps
    unfold PyData.depth
    omega
theorem eqv_empty (l : List Nat) : PyData.eqv (pdL l) (pdL []) = l.isEmpty := by
  cases l with
  | nil => simp [pdL, PyData.eqv, PyData.eqvAll]
  | cons n l => simp [pdL, PyData.eqv, PyData.eqvAll]
theorem any_empty (ps : List (List Nat)) : ((ps.map pdL).any fun z => PyData.eqv z (pdL [])) = decide ([] ∈ ps) := by
  rw [List.any_map]
  induction ps with
  | nil => rfl
  | cons p ps ih =>
    rw [List.any_cons, ih]
    show (PyData.eqv (pdL p) (pdL []) || _) = _
    rw [eqv_empty]
    cases p with
    | nil => simp
    | cons n l => simp
theorem LL.len {H : Hp} {a : Addr} {ps : List (List Nat)} (h : LL H a ps) : ∃ xs : List V, H a = some (.lst xs) ∧ xs.length = ps.length := by
  obtain ⟨as, h1, h2, _⟩ := h
  exact ⟨_, h1, by rw [List.length_map, h2]⟩
section
variable {P : Program} {w : World} {K : PySem.W.Frag} {mg : Str → Option Value} {base : Heap} {aF a0 a1 a2 a3 C fI fZ fL fC fA : Addr}
/-! ### parts_of -/
def spPartsOf (K : PySem.W.Frag) : Sp := fun vs H Q _ => ∃ (a : Addr) (l : List Nat), vs = [.ref a] ∧ SqL K H a (vl l) ∧ l.length ≤ 50000 ∧ ∀ H' p, Same H H' → H p = none → LL H' p (partsOfLine l) → Q (.ref p) H'
theorem decFrom_len : ∀ {n : Nat} {l t : List Nat}, decFrom n l = some t → t.length ≤ l.length
  | 0, [], t, h => by rw [← Option.some.inj h]; exact Nat.le_refl _
  | _ + 1, [], t, h => by rw [← Option.some.inj h]; exact Nat.le_refl _
  | 0, _ :: _, t, h => by cases h
  | n + 1, x :: r, t, h => by
    unfold decFrom at h
    cases e : formValue ((x :: r).take (formSize x)) with
    | none => rw [e] at h; cases h
    | some v =>
      rw [e] at h
      simp only at h
      obtain ⟨f1, f2⟩ := formSize_of e
      cases e2 : decFrom n ((x :: r).drop (formSize x)) with
      | none => rw [e2] at h; cases h
      | some u =>
        rw [e2] at h
        rw [← Option.some.inj h]
        have := decFrom_len e2
        rw [List.length_drop] at this
        simp only [List.length_cons] at this ⊢
        omega
theorem ok_parts_of {f fD fP : Addr} {fd fdD fdP : FuncData} {k : Nat} (F : Fun K "parts_of" "parts_of" sPartsOf f fd) (TT : TxtT mg)
    (GD : FnOk P w K mg base CX0 (k + 1 + 1 + 1) fD fdD ["octets"] (spDecoded K)) (kD : PySem.W.keepIn K (.ref fD) = true) (bD : Binds K fdD ["octets"] []) (gD : mg "decoded" = some (.ref fD))
    (FP : Fun K "parted" "parted" sParted fP fdP) (bP : Binds K fdP ["row", "mark"] []) (gP : mg "parted" = some (.ref fP)) : FnOk P w K mg base CX0 (k + 1 + 1 + 1 + 1) f fd ["line"] (spPartsOf K) := by
  have GP : FnOk P w K mg base CX0 (k + 1) fP fdP ["row", "mark"] (spParted K) := ok_parted FP
  refine F.ok scPartsOf (fun vs H Q E h => ?_) (fun cdv A outer s H vs Q E hr h => ?_)
  · obtain ⟨a, l, rfl, _⟩ := h
    rfl
  · obtain ⟨a, l, rfl, hS, hl, q⟩ := h
    have nd := scPartsOf.nd
    obtain ⟨t2, e2⟩ := TT.n2
    refine ⟨_, pss_cons (ps_set (i := 1) nd rfl (.inl rfl) (pe_call GD hr (by rfl) gD kD bD .nil pass0 (pa_cons (pv 0) pa_nil)))
      (pss_cons (ps_if (pt_cmpR op_isN (pv 1) pe_non (nomark _)) (pss_one (ps_ret (pe_lst pa_nil))) pss_nil)
      (pss_one (ps_ret (pe_call GP (hr.mono (by omega)) (by rfl) gP FP.kp bP .nil pass0 (pa_cons (pv 1) (pa_cons (pe_gint rfl e2) pa_nil)))))), ?_⟩
    refine ⟨_, rfl, a, l, rfl, hS, hl, ?_⟩
    unfold partsOfLine at q
    unfold SomeL
    cases e : decoded l with
    | none =>
      rw [e] at q
      intro H1 sm
      refine ⟨_, rfl, rfl, _, rfl, iteT ⟨Nat.zero_le _, fun p np => ?_⟩⟩
      exact q _ p (sm.trans (same_upd np)) (sm.free np) ⟨[], upd_same, rfl, fun i b t h => by simp at h⟩
    | some t =>
      rw [e] at q
      intro H1 p sm np hp
      refine ⟨_, rfl, rfl, _, rfl, iteF ?_⟩
      have hlt := decFrom_len e
      refine ⟨_, rfl, p, t, 32, rfl, SqL.of hp, by omega, fun H2 p2 sm2 np2 hL => ?_⟩
      exact q H2 p2 (sm.trans sm2) (sm.free np2) hL
/-! ### all_written_sounds -/
def spAllWritten (K : PySem.W.Frag) : Sp := fun vs H Q _ => ∃ (a : Addr) (l : List Nat), vs = [.ref a] ∧ SqL K H a (vl l) ∧ l.length ≤ 50000 ∧ ∀ H', Same H H' → Q (.bl (writtenSounds l)) H'
theorem ok_all_written {f : Addr} {fd : FuncData} {k : Nat} (F : Fun K "all_written_sounds" "all_written_sounds" sAllWritten f fd) (TT : TxtT mg) (B : TxtB mg) : FnOk P w K mg base CX0 (k + 1) f fd ["row"] (spAllWritten K) := by
  refine F.ok scAllWritten (fun vs H Q E h => ?_) (fun cdv A outer s H vs Q E hr h => ?_)
  · obtain ⟨a, l, rfl, _⟩ := h
    rfl
  · obtain ⟨a, l, rfl, hS, hl, q⟩ := h
    have nd := scAllWritten.nd
    obtain ⟨t2, e2⟩ := TT.n2
    obtain ⟨t3, e3⟩ := TT.n3
    refine ⟨_, pss_one (ps_ret (pe_callB (cr_all rfl) (by rfl) B.all (by decide +kernel) (pa_cons
      (pe_lc (own := [("number", 1)]) (g := gName 1) (tt := tYes) rfl nd (pi_list (pv 0)) (blkOk_by (N := ["row", "number"]) (sc := defScope sAllWritten) (by decide +kernel))
        (fun _ _ _ _ _ => pg_name (i := 1) nd rfl (Or.inl rfl)) (fun _ _ _ _ _ => pts_nil)
        (fun _ _ _ _ _ => pe_and (pe_cmpR op_gt (pv 1) (pe_gint rfl e2) (nomark _)) (pe_one (pe_cmpR op_ne (pv 1) (pe_gint rfl e3) (nomark _))))) pa_nil))), ?_⟩
    refine ⟨_, rfl, a, rfl, ⟨_, hS⟩, fun D hD => ?_⟩
    refine lc_list (K := K) (a := a) (xs := vl l) (fun i H' => Same H H' ∧ H' D = some (.lst (((l.take i).map fun c => decide (0x20 < c) && !decide (c = 0x7F)).map V.bl))) ⟨same_upd hD, upd_same⟩ (fun i H' _ h => h.1.seq hS) ?_ ?_
    · rintro i x H' hi ⟨s1, hd⟩
      obtain ⟨n, hn, rfl⟩ := vl_get hi
      refine ⟨rfl, ?_⟩
      refine yes ?_
      refine iteT ?_
      have fin : ∀ b : Bool, b = (decide (0x20 < n) && !decide (n = 0x7F)) → ∃ acc, H' D = some (HO.lst acc) ∧ acc.length < sizeLine ∧ (Same H (upd H' D (HO.lst (acc ++ [V.bl b]))) ∧
          (upd H' D (HO.lst (acc ++ [V.bl b]))) D = some (.lst (((l.take (i + 1)).map fun c => decide (0x20 < c) && !decide (c = 0x7F)).map V.bl))) := by
        intro b hb
        refine ⟨_, hd, ?_, same_store s1 hD, ?_⟩
        · rw [List.length_map, List.length_map, List.length_take]
          exact line_of (by omega)
        · rw [upd_same, take_more hn, List.map_append, List.map_append, hb]
          rfl
      have h1 : decide ((n : Int) > 32) = decide (0x20 < n) := decide_eq_decide.mpr (by omega)
      refine ⟨_, rfl, _, _, rfl, rfl, _, rfl, ?_⟩
      refine iteC (fun h => ?_) fun h => ?_
      · have h := h1.symm.trans h
        rw [h, Bool.true_and] at fin
        refine ⟨_, rfl, rfl, ?_⟩
        refine fin _ ?_
        congr 1
        exact decide_eq_decide.mpr ⟨fun e => by have := V.int.inj e; omega, fun e => by rw [e]; rfl⟩
      · have h := h1.symm.trans h
        rw [h, Bool.false_and] at fin
        exact fin _ rfl
    · rintro H' ⟨s1, hd⟩
      refine ⟨D, (l.take (vl l).length).map _, rfl, SqL.of hd, ?_⟩
      rw [bl_zs, vl_len, List.take_length]
      exact q H' s1
/-! ### is_rule_line -/
def spIsRuleLine : Sp := fun vs H Q _ => ∃ (a : Addr) (ps : List (List Nat)), vs = [.ref a] ∧ LL H a ps ∧ (∀ p ∈ ps, p.length ≤ 50000) ∧ ∀ H', Same H H' → Q (.bl (isRuleLine ps)) H'
theorem ok_is_rule_line {f fW : Addr} {fd fdA fdW : FuncData} {k : Nat} (F : Fun K "is_rule_line" "is_rule_line" sIsRuleLine f fd) (TL : TxtL mg fL fC fA) (B : TxtB mg)
    (GA : FnOk P w K mg base CX0 (k + 1 + 1) fA fdA ["row"] (spAllLetters K)) (kA : PySem.W.keepIn K (.ref fA) = true) (bA : Binds K fdA ["row"] [])
    (GW : FnOk P w K mg base CX0 (k + 1) fW fdW ["row"] (spAllWritten K)) (kW : PySem.W.keepIn K (.ref fW) = true) (bW : Binds K fdW ["row"] []) (gW : mg "all_written_sounds" = some (.ref fW)) :
    FnOk P w K mg base CX0 (k + 1 + 1 + 1) f fd ["parts"] spIsRuleLine := by
  refine F.ok scIsRuleLine (fun vs H Q E h => ?_) (fun cdv A outer s H vs Q E hr h => ?_)
  · obtain ⟨a, l, rfl, _⟩ := h
    rfl
  · obtain ⟨a, ps, rfl, hL, hl, q⟩ := h
    have nd := scIsRuleLine.nd
    refine ⟨_, pss_cons (ps_if (PW.pt (pw_or (pt_cmpR op_notIn_seq (pe_callB call_len_seq (by rfl) B.len PySem.boot_len (pa_cons (pv 0) pa_nil)) (pe_tup (pa_cons pe_int (pa_cons pe_int pa_nil))) rfl)
          (pw_or1 (pt_cmpR (op_inD (by have := hr.un; show (A.deeper _).units + 65 < cLine; omega)) (pe_lst pa_nil) (pv 0) rfl)))) (pss_one (ps_ret pe_bl)) pss_nil)
      (pss_cons (ps_if (PW.pt (pw_or (pt_not (pt_val (pe_call GA hr (by rfl) TL.gA kA bA .nil pass0 (pa_cons (pe_ix ix_list (pv 0) pe_int (fun _ _ => rfl)) pa_nil))))
          (pw_or1 (pt_not (pt_val (pe_call GW (hr.mono (by omega)) (by rfl) gW kW bW .nil pass0 (pa_cons (pe_ix ix_list (pv 0) pe_int (fun _ _ => rfl)) pa_nil))))))) (pss_one (ps_ret pe_bl)) pss_nil)
      (pss_one (ps_ret (pe_or (pe_cmpR op_eq (pe_callB call_len_seq (by rfl) B.len PySem.boot_len (pa_cons (pv 0) pa_nil)) pe_int (nomark _))
        (pe_one (pe_call GA hr (by rfl) TL.gA kA bA .nil pass0 (pa_cons (pe_ix ix_list (pv 0) pe_int (fun _ _ => rfl)) pa_nil))))))), ?_⟩
    obtain ⟨xs, hx, hxl⟩ := hL.len
    refine ⟨_, rfl, a, _, rfl, .inl (SqL.of hx), (by show 2 ≤ sizeLine; decide), fun t nt => ?_⟩
    have s1 : Same H (upd H t (.tup [.int 2, .int 3])) := same_upd nt
    refine ⟨t, _, rfl, .inr (SqT.of upd_same), rfl, rfl, _, rfl, ?_⟩
    have ein : inV (.int ((xs.length : Nat) : Int)) [.int 2, .int 3] = decide (ps.length = 2 ∨ ps.length = 3) := by
      rw [hxl]
      show (((2 : Int) == ((ps.length : Nat) : Int)) || (((3 : Int) == ((ps.length : Nat) : Int)) || false)) = _
      by_cases h2 : ps.length = 2
      · simp [h2]
      · by_cases h3 : ps.length = 3
        · simp [h3]
        · have g2 : ((2 : Int) == ((ps.length : Nat) : Int)) = false := by rw [beq_eq_false_iff_ne]; omega
          have g3 : ((3 : Int) == ((ps.length : Nat) : Int)) = false := by rw [beq_eq_false_iff_ne]; omega
          rw [g2, g3]
          simp [h2, h3]
    unfold isRuleLine at q
    refine iteC (fun h => ?_) fun h => ?_
    · have h : (!inV (.int ((xs.length : Nat) : Int)) [.int 2, .int 3]) = true := h
      rw [ein, Bool.not_eq_true', decide_eq_false_iff_not] at h
      rw [if_pos (.inl h)] at q
      exact iteT (q _ s1)
    · have h : (!inV (.int ((xs.length : Nat) : Int)) [.int 2, .int 3]) = false := h
      rw [ein, Bool.not_eq_false', decide_eq_true_eq] at h
      refine ⟨Nat.zero_le _, fun e ne => ?_⟩
      have s2 := s1.trans (same_upd (o := .lst []) ne)
      refine ⟨_, rfl, pdL [], ps.map pdL, dp_row (SqL.of upd_same), dp_LL (hL.same s2), shaped_rows [] |> fun _ => PySem.W.shaped_ints [], shaped_rows ps, _, rfl, ?_⟩
      rw [any_empty]
      by_cases hm : [] ∈ ps
      · rw [decide_eq_true hm]
        rw [if_pos (.inr hm)] at q
        exact iteT (q _ s2)
      · rw [decide_eq_false hm]
        rw [if_neg (fun z => z.elim (fun z => z h) hm)] at q
        refine iteF ?_
        have i0 : ps[0]? = some (ps.getD 0 []) := by rw [List.getD_eq_getElem?_getD, List.getElem?_eq_getElem (by omega)]; rfl
        have i1 : ps[1]? = some (ps.getD 1 []) := by rw [List.getD_eq_getElem?_getD, List.getElem?_eq_getElem (by omega)]; rfl
        obtain ⟨as, b0, g1, g2, g3, g4⟩ := (hL.same s2).at i0
        refine ⟨_, rfl, a, _, _, _, rfl, rfl, SqL.of g1, at_of (j := 0) rfl g3, b0, _, rfl, SqL.of g4, hl _ (List.mem_of_getElem? i0), fun H3 s3 => ⟨_, rfl, ?_⟩⟩
        have sm3 := s2.trans s3
        cases eA : Sy.isLetters (ps.getD 0 []) with
        | false =>
          rw [if_pos (.inl eA)] at q
          exact iteT (q _ sm3)
        | true =>
          refine iteF ?_
          obtain ⟨as, b1, g1, g2, g3, g4⟩ := (hL.same sm3).at i1
          refine ⟨_, rfl, a, _, _, _, rfl, rfl, SqL.of g1, at_of (j := 1) rfl g3, b1, _, rfl, SqL.of g4, hl _ (List.mem_of_getElem? i1), fun H4 s4 => ⟨_, rfl, ?_⟩⟩
          have sm4 := sm3.trans s4
          cases eW : writtenSounds (ps.getD 1 []) with
          | false =>
            rw [if_pos (.inr eW)] at q
            exact iteT (q _ sm4)
          | true =>
            rw [if_neg (fun z => z.elim (fun z => by rw [eA] at z; cases z) (fun z => by rw [eW] at z; cases z))] at q
            refine iteF ?_
            obtain ⟨ys, hy, hyl⟩ := (hL.same sm4).len
            refine ⟨_, rfl, a, _, rfl, .inl (SqL.of hy), rfl, _, rfl, ?_⟩
            have e2 : decide (V.int ((ys.length : Nat) : Int) = V.int 2) = decide (ps.length = 2) := decide_eq_decide.mpr ⟨fun e => by have := V.int.inj e; omega, fun e => by rw [hyl, e]; rfl⟩
            rw [e2]
            by_cases h2 : ps.length = 2
            · rw [decide_eq_true h2] at q ⊢
              exact iteT (q _ sm4)
            · rw [decide_eq_false h2] at q ⊢
              have i2 : ps[2]? = some (ps.getD 2 []) := by rw [List.getD_eq_getElem?_getD, List.getElem?_eq_getElem (by omega)]; rfl
              obtain ⟨as, b2, g1, g2, g3, g4⟩ := (hL.same sm4).at i2
              refine iteF ⟨_, rfl, a, _, _, _, rfl, rfl, SqL.of g1, at_of (j := 2) rfl g3, b2, _, rfl, SqL.of g4, hl _ (List.mem_of_getElem? i2), fun H5 s5 => ?_⟩
              exact q _ (sm4.trans s5)
end
end SpA
set_option Elab.async false
set_option linter.all false
set_option maxRecDepth 100000
set_option maxHeartbeats 4000000
namespace SpA
open PySem PySem.Spec PyProof.Rows L2
abbrev sFillTable : Stmt := topS 47
abbrev sFaultKind : Stmt := topS 50
theorem scFillTable : FnScope ["table", "text", "lines", "unended", "number", "line", "parts", "kind", "rule"] ["table", "text"] (defScope sFillTable) := ⟨rfl, rfl, rfl, by decide +kernel, rfl, by decide +kernel, by decide +kernel⟩
theorem scFaultKind : FnScope ["parts", "table", "rule"] ["parts", "table"] (defScope sFaultKind) := ⟨rfl, rfl, rfl, by decide +kernel, rfl, by decide +kernel, by decide +kernel⟩
/-! ### a table in the heap -/
def TabV (C : Addr) (H : Hp) : List (List Key × V) → List Sy.Rule → Prop
  | [], [] => True
  | kv :: kvs, r :: T => (kv.1 = kT r.letters ∧ ∃ p, kv.2 = .ref p ∧ RuleAt C H p r) ∧ TabV C H kvs T
  | _, _ => False
def TabAt (C : Addr) (H : Hp) (d : Addr) (T : List Sy.Rule) : Prop := ∃ kvs, H d = some (.dT kvs) ∧ TabV C H kvs T
theorem TabV.mono {C : Addr} {H H' : Hp} : ∀ {kvs : List (List Key × V)} {T : List Sy.Rule}, (∀ p r, RuleAt C H p r → RuleAt C H' p r) → TabV C H kvs T → TabV C H' kvs T
  | [], [], _, h => h
  | _ :: _, [], _, h => h.elim
  | [], _ :: _, _, h => h.elim
  | _ :: _, _ :: _, s, h => by
    obtain ⟨⟨h1, p, h2, h3⟩, h4⟩ := h
    exact ⟨⟨h1, p, h2, s _ _ h3⟩, TabV.mono s h4⟩
theorem TabAt.same {C : Addr} {H H' : Hp} {d : Addr} {T : List Sy.Rule} (h : TabAt C H d T) (s : Same H H') : TabAt C H' d T := by
  obtain ⟨kvs, h1, h2⟩ := h
  exact ⟨kvs, s _ _ h1, h2.mono fun _ _ k => k.same s⟩
theorem TabV.length {C : Addr} {H : Hp} : ∀ {kvs : List (List Key × V)} {T : List Sy.Rule}, TabV C H kvs T → kvs.length = T.length
  | [], [], _ => rfl
  | _ :: _, [], h => h.elim
  | [], _ :: _, h => h.elim
  | _ :: _, _ :: _, h => by rw [List.length_cons, List.length_cons, TabV.length h.2]
theorem TabV.keys {C : Addr} {H : Hp} : ∀ {kvs : List (List Key × V)} {T : List Sy.Rule}, TabV C H kvs T → kvs.map (·.1) = (T.map Sy.Rule.letters).map kT
  | [], [], _ => rfl
  | _ :: _, [], h => h.elim
  | [], _ :: _, h => h.elim
  | _ :: _, _ :: _, h => by rw [List.map_cons, List.map_cons, List.map_cons, h.1.1, TabV.keys h.2]
theorem TabV.look {C : Addr} {H : Hp} (l : List Nat) : ∀ {kvs : List (List Key × V)} {T : List Sy.Rule}, TabV C H kvs T →
    match T.find? fun (r : Sy.Rule) => r.letters == l with
    | some r => ∃ p, valV kvs (kT l) = some (.ref p) ∧ RuleAt C H p r
    | none => valV kvs (kT l) = none
  | [], [], _ => rfl
  | _ :: _, [], h => h.elim
  | [], _ :: _, h => h.elim
  | kv :: kvs, r :: T, h => by
    obtain ⟨⟨h1, p, h2, h3⟩, h4⟩ := h
    rw [List.find?_cons]
    by_cases c : r.letters = l
    · rw [show (r.letters == l) = true by rw [beq_iff_eq]; exact c]
      refine ⟨p, ?_, h3⟩
      rw [valV_pos (by rw [h1, c]), h2]
    · rw [show (r.letters == l) = false by rw [beq_eq_false_iff_ne]; exact c]
      have : ¬ kv.1 = kT l := fun e => c (kT_inj (h1.symm.trans e))
      rw [valV_neg this]
      exact TabV.look l h4
theorem find_any (T : List Sy.Rule) (l : List Nat) : (T.find? fun (r : Sy.Rule) => r.letters == l).isSome = T.any fun (r : Sy.Rule) => r.letters == l := by
  induction T with
  | nil => rfl
  | cons r T ih =>
    rw [List.find?_cons, List.any_cons]
    cases r.letters == l with
    | true => rfl
    | false => rw [Bool.false_or]; exact ih
theorem TabV.has {C : Addr} {H : Hp} {kvs : List (List Key × V)} {T : List Sy.Rule} (h : TabV C H kvs T) (l : List Nat) : (valV kvs (kT l)).isSome = T.any fun (r : Sy.Rule) => r.letters == l := by
  have := h.look l
  rw [← find_any]
  cases e : T.find? fun (r : Sy.Rule) => r.letters == l with
  | none => rw [e] at this; simp only at this; rw [this]; rfl
  | some r =>
    rw [e] at this
    obtain ⟨p, hp, _⟩ := this
    rw [hp]
    rfl
theorem TabV.snoc {C : Addr} {H : Hp} {p : Addr} {r : Sy.Rule} (hp : RuleAt C H p r) : ∀ {kvs : List (List Key × V)} {T : List Sy.Rule}, TabV C H kvs T → TabV C H (kvs ++ [(kT r.letters, .ref p)]) (T ++ [r])
  | [], [], _ => ⟨⟨rfl, p, rfl, hp⟩, trivial⟩
  | _ :: _, [], h => h.elim
  | [], _ :: _, h => h.elim
  | _ :: _, _ :: _, h => ⟨h.1, TabV.snoc hp h.2⟩
/-- all that was tracked but at d is as it was -/
def SameBut (d : Addr) (H H' : Hp) : Prop := ∀ b o, H b = some o → b ≠ d → H' b = some o
theorem RuleAt.but {C : Addr} {H H' : Hp} {d p : Addr} {r : Sy.Rule} (hd : ∀ o, H d = some o → ∃ kvs, o = .dT kvs) (h : RuleAt C H p r) (s : SameBut d H H') : RuleAt C H' p r := by
  obtain ⟨dx, a, b, c, h1, h2, h3, h4⟩ := h
  have ne : ∀ {x : Addr} {o : HO}, H x = some o → (∀ kvs, o ≠ .dT kvs) → x ≠ d := by
    intro x o hx hn e
    rw [e] at hx
    obtain ⟨kvs, ek⟩ := hd o hx
    exact hn kvs ek
  exact ⟨dx, a, b, c, s _ _ h1 (ne h1 (by intro k e; cases e)), s _ _ h2 (ne h2 (by intro k e; cases e)), s _ _ h3 (ne h3 (by intro k e; cases e)), s _ _ h4 (ne h4 (by intro k e; cases e))⟩
section
variable {P : Program} {w : World} {K : PySem.W.Frag} {mg : Str → Option Value} {base : Heap} {aF a0 a1 a2 a3 C fI fZ fL fC fA : Addr}
/-! ### rule_of -/
def spRuleOf (C : Addr) : Sp := fun vs H Q _ => ∃ (a : Addr) (ps : List (List Nat)), vs = [.ref a] ∧ LL H a ps ∧ 2 ≤ ps.length ∧ ∀ H' p, Same H H' → H p = none → RuleAt C H' p (ruleOfParts ps) → Q (.ref p) H'
theorem ok_rule_of {f : Addr} {fd fdI : FuncData} {k : Nat} (F : Fun K "rule_of" "rule_of" sRuleOf f fd) (T : TxtR K mg C fI fZ) (B : TxtB mg)
    (FI : Fun K "__init__" "Rule.__init__" sRuleInit fI fdI) (bI : Binds K fdI ["self", "letters", "sounds", "back"] []) : FnOk P w K mg base CX0 (k + 1 + 1 + 1) f fd ["parts"] (spRuleOf C) := by
  have GI : FnOk P w K mg base CX0 (k + 1) fI fdI ["self", "letters", "sounds", "back"] (spRuleInit K C) := ok_rule_init FI T B
  refine F.ok scRuleOf (fun vs H Q E h => ?_) (fun cdv A outer s H vs Q E hr h => ?_)
  · obtain ⟨a, l, rfl, _⟩ := h
    rfl
  · obtain ⟨a, ps, rfl, hL, h2, q⟩ := h
    have nd := scRuleOf.nd
    refine ⟨_, pss_cons (ps_set (i := 1) nd rfl (.inl rfl) (pe_ifExp (pt_cmpR op_eq (pe_callB call_len_seq (by rfl) B.len PySem.boot_len (pa_cons (pv 0) pa_nil)) pe_int (nomark _))
        (pe_ix ix_list (pv 0) pe_int (fun _ _ => rfl)) (pe_lst pa_nil)))
      (pss_one (ps_ret (pe_make T.mkC GI hr (by rfl) T.gC bI .nil pass0 (pa_cons (pe_ix ix_list (pv 0) pe_int (fun _ _ => rfl)) (pa_cons (pe_ix ix_list (pv 0) pe_int (fun _ _ => rfl)) (pa_cons (pv 1) pa_nil)))))), ?_⟩
    obtain ⟨xs, hx, hxl⟩ := hL.len
    refine ⟨_, rfl, a, _, rfl, .inl (SqL.of hx), rfl, _, rfl, ?_⟩
    have e3 : decide (V.int ((xs.length : Nat) : Int) = V.int 3) = decide (ps.length = 3) := decide_eq_decide.mpr ⟨fun e => by have := V.int.inj e; omega, fun e => by rw [hxl, e]; rfl⟩
    rw [e3]
    have i0 : ps[0]? = some (ps.getD 0 []) := by rw [List.getD_eq_getElem?_getD, List.getElem?_eq_getElem (by omega)]; rfl
    have i1 : ps[1]? = some (ps.getD 1 []) := by rw [List.getD_eq_getElem?_getD, List.getElem?_eq_getElem (by omega)]; rfl
    -- what is left once the part that is put back stands at b
    have go : ∀ (H1 : Hp) (b2 : Addr) (bk : List Nat), Same H H1 → H1 b2 = some (.lst (vl bk)) → ruleOfParts ps = ⟨ps.getD 0 [], ps.getD 1 [], bk⟩ →
        tRet (tMake C (spRuleInit K C) [] E0 (tCons (tOp (rIxL K) (tVar 0) (tC (.int 0))) (tCons (tOp (rIxL K) (tVar 0) (tC (.int 1))) (tCons (tVar 1) tNil)))) { nx := fun _ H' => Q .non H', rt := Q } [some (.ref a), some (.ref b2)] H1 := by
      intro H1 b2 bk s1 hb e
      obtain ⟨as, b0, g1, g2, g3, g4⟩ := (hL.same s1).at i0
      obtain ⟨as', b1, k1, k2, k3, k4⟩ := (hL.same s1).at i1
      refine ⟨_, rfl, a, _, _, _, rfl, rfl, SqL.of g1, at_of (j := 0) rfl g3, _, rfl, a, _, _, _, rfl, rfl, SqL.of k1, at_of (j := 1) rfl k3, _, rfl, fun x dx nx nd2 ne => ?_⟩
      have ki : ∀ z o, H1 z = some o → (upd (upd H1 dx (.own x)) x (.ins C dx [])) z = some o := fun z o hz => by
        rw [upd_ne (ne_of_none hz nx), upd_ne (ne_of_none hz nd2)]
        exact hz
      refine ⟨x, dx, b0, b1, b2, ⟨ps.getD 0 [], ps.getD 1 [], bk⟩, rfl, upd_same, SqL.of (ki _ _ g4), SqL.of (ki _ _ k4), SqL.of (ki _ _ hb), fun H2 hR kp => ⟨rfl, ?_⟩⟩
      rw [← e] at hR
      exact q H2 x (s1.trans (Same.made nx nd2 kp)) (s1.free nx) hR
    by_cases h3 : ps.length = 3
    · rw [decide_eq_true h3]
      have i2 : ps[2]? = some (ps.getD 2 []) := by rw [List.getD_eq_getElem?_getD, List.getElem?_eq_getElem (by omega)]; rfl
      obtain ⟨as, b2, g1, g2, g3, g4⟩ := hL.at i2
      refine iteT ⟨_, rfl, a, _, _, _, rfl, rfl, SqL.of g1, at_of (j := 2) rfl g3, ?_⟩
      exact go H b2 _ (Same.refl _) g4 (by unfold ruleOfParts; rw [if_pos h3])
    · rw [decide_eq_false h3]
      refine iteF ⟨Nat.zero_le _, fun p np => ?_⟩
      exact go _ p [] (same_upd np) upd_same (by unfold ruleOfParts; rw [if_neg h3])
/-! ### fault_kind -/
def spFaultKind (C : Addr) : Sp := fun vs H Q _ => ∃ (a d : Addr) (ps : List (List Nat)) (T : List Sy.Rule), vs = [.ref a, .ref d] ∧ LL H a ps ∧ (∀ p ∈ ps, p.length ≤ 50000) ∧ TabAt C H d T ∧ ∀ H', Same H H' → Q (vn (kindOf ps T)) H'
theorem ok_fault_kind {f fN fO : Addr} {fd fdN fdO fdZ : FuncData} {k : Nat} (F : Fun K "fault_kind" "fault_kind" sFaultKind f fd) (T : TxtR K mg C fI fZ) (TT : TxtT mg) (B : TxtB mg)
    (GN : FnOk P w K mg base CX0 (k + 1 + 1 + 1) fN fdN ["parts"] spIsRuleLine) (kN : PySem.W.keepIn K (.ref fN) = true) (bN : Binds K fdN ["parts"] []) (gN : mg "is_rule_line" = some (.ref fN))
    (GO : FnOk P w K mg base CX0 (k + 1 + 1 + 1) fO fdO ["parts"] (spRuleOf C)) (kO : PySem.W.keepIn K (.ref fO) = true) (bO : Binds K fdO ["parts"] []) (gO : mg "rule_of" = some (.ref fO))
    (FZ : Fun K "has_right_sizes" "Rule.has_right_sizes" sRuleSizes fZ fdZ) (bZ : Binds K fdZ ["self"] []) :
    FnOk P w K mg base CX0 (k + 1 + 1 + 1 + 1) f fd ["parts", "table"] (spFaultKind C) := by
  have GZ : FnOk P w K mg base CX0 (k + 1) fZ fdZ ["self"] (spRuleSizes C) := ok_rule_sizes FZ T B
  refine F.ok scFaultKind (fun vs H Q E h => ?_) (fun cdv A outer s H vs Q E hr h => ?_)
  · obtain ⟨a, d, ps, U, rfl, _⟩ := h
    rfl
  · obtain ⟨a, d, ps, U, rfl, hL, hl, hT, q⟩ := h
    have nd := scFaultKind.nd
    obtain ⟨t4, e4⟩ := TT.n4
    obtain ⟨t5, e5⟩ := TT.n5
    obtain ⟨t6, e6⟩ := TT.n6
    obtain ⟨t7, e7⟩ := TT.n7
    obtain ⟨t8, e8⟩ := TT.n8
    obtain ⟨tr, er⟩ := T.n1
    refine ⟨_, pss_cons (ps_if (pt_not (pt_val (pe_call GN hr (by rfl) gN kN bN .nil pass0 (pa_cons (pv 0) pa_nil)))) (pss_one (ps_ret (pe_gint rfl e5))) pss_nil)
      (pss_cons (ps_set (i := 2) nd rfl (.inl rfl) (pe_call GO hr (by rfl) gO kO bO .nil pass0 (pa_cons (pv 0) pa_nil)))
      (pss_cons (ps_if (pt_not (pt_val (pe_meth0 (pv 2) T.cl T.mz GZ (hr.mono (by omega)) bZ .nil pass0))) (pss_one (ps_ret (pe_gint rfl e6))) pss_nil)
      (pss_cons (ps_if (pt_cmp (pc_din (hu_of hr) (pe_fld (pv 2) rfl) (pv 1))) (pss_one (ps_ret (pe_gint rfl e7))) pss_nil)
      (pss_cons (ps_if (pt_cmpR op_ge (pe_callB call_len_dT (by rfl) B.len PySem.boot_len (pa_cons (pv 1) pa_nil)) (pe_gint rfl er) (nomark _)) (pss_one (ps_ret (pe_gint rfl e8))) pss_nil)
      (pss_one (ps_ret (pe_gint rfl e4))))))), ?_⟩
    refine ⟨_, rfl, a, ps, rfl, hL, hl, fun H1 s1 => ⟨_, rfl, ?_⟩⟩
    cases c1 : isRuleLine ps with
    | false =>
      have e : kindOf ps U = 1 := by unfold kindOf; rw [if_pos c1]
      rw [e] at q
      exact iteT (q _ s1)
    | true =>
      refine iteF ?_
      obtain ⟨p1, -⟩ := ruleLine_parts c1
      refine ⟨_, rfl, a, ps, rfl, hL.same s1, by omega, fun H2 p s2 np hR => ?_⟩
      have s12 := s1.trans s2
      have hR' := hR
      obtain ⟨dx, la, lb, lc, hp, ha, hb, hc⟩ := hR
      refine ⟨_, rfl, p, dx, _, rfl, hp, rF_z la lb lc, p, ruleOfParts ps, rfl, hR', _, rfl, ?_⟩
      cases c2 : (ruleOfParts ps).short with
      | false =>
        have e : kindOf ps U = 2 := by unfold kindOf; rw [if_neg (by simp [c1]), if_pos c2]
        rw [e] at q
        exact iteT (q _ s12)
      | true =>
        refine iteF ?_
        have hT2 := hT.same s12
        obtain ⟨kvs, hd, hv⟩ := hT2
        have ha2 : H2 la = some (.tup ((kT (ruleOfParts ps).letters).map kV)) := by rw [kT_vl]; exact ha
        refine ⟨_, rfl, p, C, dx, _, _, rfl, hp, T.cl, T.nL, rF_l la lb lc, _, rfl, d, _, rfl, DGet.t hd ha2, _, rfl, ?_⟩
        rw [hv.has]
        cases c3 : U.any fun (r : Sy.Rule) => r.letters == (ruleOfParts ps).letters with
        | true =>
          have e : kindOf ps U = 3 := by unfold kindOf; rw [if_neg (by simp [c1]), if_neg (by simp [c2]), if_pos c3]
          rw [e] at q
          exact iteT (q _ s12)
        | false =>
          refine iteF ⟨_, rfl, d, kvs, rfl, hd, _, _, rfl, rfl, _, rfl, ?_⟩
          rw [hv.length]
          by_cases c4 : 64 ≤ U.length
          · have e : kindOf ps U = 4 := by unfold kindOf; rw [if_neg (by simp [c1]), if_neg (by simp [c2]), if_neg (by simp [c3]), if_pos c4]
            rw [e] at q
            rw [decide_eq_true (show ((U.length : Nat) : Int) ≥ 64 by omega)]
            exact iteT (q _ s12)
          · have e : kindOf ps U = 0 := by unfold kindOf; rw [if_neg (by simp [c1]), if_neg (by simp [c2]), if_neg (by simp [c3]), if_neg c4]
            rw [e] at q
            rw [decide_eq_false (show ¬ ((U.length : Nat) : Int) ≥ 64 by omega)]
            exact iteF (q _ s12)
end
end SpA
set_option Elab.async false
set_option linter.all false
set_option maxRecDepth 100000
set_option maxHeartbeats 4000000
namespace SpA
open PySem PySem.Spec PyProof.Rows L2
theorem kindOf_le (ps : List (List Nat)) (T : List Sy.Rule) : kindOf ps T ≤ 4 := by
  unfold kindOf
  split
  · omega
  split
  · omega
  split
  · omega
  split <;> omega
/-- a part is no longer than the row -/
theorem part_len (m : Nat) : ∀ (t : List Nat) (p : List Nat), p ∈ parted m t → p.length ≤ t.length
  | [], p, hp => by
    rw [parted_nil] at hp
    rw [List.mem_singleton.mp hp]
    exact Nat.le_refl _
  | z :: t, p, hp => by
    have ih := part_len m t
    rw [parted_cons] at hp
    by_cases d : z = m
    · rw [if_pos d] at hp
      rcases List.mem_cons.mp hp with e | hp
      · rw [e]; exact Nat.zero_le _
      · have := ih p hp
        rw [List.length_cons]
        omega
    · rw [if_neg d] at hp
      cases e : parted m t with
      | nil => exact absurd e (parted_ne m t)
      | cons u v =>
        rw [e] at hp ih
        rcases List.mem_cons.mp hp with e2 | hp
        · have := ih u List.mem_cons_self
          rw [e2, List.length_cons, List.length_cons]
          omega
        · have := ih p (List.mem_cons_of_mem _ hp)
          rw [List.length_cons]
          omega
theorem linePart_len {l p : List Nat} (h : p ∈ partsOfLine l) : p.length ≤ l.length := by
  unfold partsOfLine at h
  cases e : decoded l with
  | none => rw [e] at h; cases h
  | some t =>
    rw [e] at h
    exact Nat.le_trans (part_len 32 t p h) (decFrom_len e)
theorem fill_step {ls : List (List Nat)} {i : Nat} {l : List Nat} {T : List Sy.Rule} (h : ls[i]? = some l) :
    fill i (ls.drop i) T = if kindOf (partsOfLine l) T = 0 then fill (i + 1) (ls.drop (i + 1)) (T ++ [ruleOfParts (partsOfLine l)]) else (T, some (i, kindOf (partsOfLine l) T)) := by
  obtain ⟨h1, h2⟩ := List.getElem?_eq_some_iff.mp h
  rw [List.drop_eq_getElem_cons h1, h2]
  rfl
section
variable {P : Program} {w : World} {K : PySem.W.Frag} {mg : Str → Option Value} {base : Heap} {aF a0 a1 a2 a3 C fI fZ fL fC fA : Addr}
/-- what fill_table hands over -/
def Filled (C : Addr) (H : Hp) (d : Addr) (Q : VK) : List Sy.Rule × Option (Nat × Nat) → Prop
  | (_, some e) => ∀ H' p, SameBut d H H' → H p = none → H' p = some (.lst [vn e.1, vn e.2]) → Q (.ref p) H'
  | (T, none) => ∀ H' p, SameBut d H H' → H p = none → TabAt C H' d T → H' p = some (.lst []) → Q (.ref p) H'
def spFillTable (K : PySem.W.Frag) (C : Addr) : Sp := fun vs H Q _ => ∃ (d a : Addr) (t : List Nat), vs = [.ref d, .ref a] ∧ H d = some (.dT []) ∧ SqL K H a (vl t) ∧ t.length ≤ 45000 ∧ Filled C H d Q (fillText t)
theorem SameBut.of {d : Addr} {H H' : Hp} (s : Same H H') : SameBut d H H' := fun b o h _ => s b o h
theorem SameBut.trans {d : Addr} {H H' H2 : Hp} (s : SameBut d H H') (t : SameBut d H' H2) : SameBut d H H2 := fun b o h n => t b o (s b o h n) n
theorem SameBut.free {d : Addr} {H H' : Hp} (s : SameBut d H H') {p : Addr} (h : H' p = none) (n : p ≠ d) : H p = none := by
  cases q : H p with
  | none => rfl
  | some o =>
    rw [s p o q n] at h
    cases h
theorem ok_fill_table {f fP fX fK fO : Addr} {fd fdP fdX fdK fdO : FuncData} {k : Nat} (F : Fun K "fill_table" "fill_table" sFillTable f fd) (T : TxtR K mg C fI fZ) (TT : TxtT mg) (B : TxtB mg)
    (FP : Fun K "parted" "parted" sParted fP fdP) (bP : Binds K fdP ["row", "mark"] []) (gP : mg "parted" = some (.ref fP))
    (GX : FnOk P w K mg base CX0 (k + 1 + 1 + 1 + 1) fX fdX ["line"] (spPartsOf K)) (kX : PySem.W.keepIn K (.ref fX) = true) (bX : Binds K fdX ["line"] []) (gX : mg "parts_of" = some (.ref fX))
    (GK : FnOk P w K mg base CX0 (k + 1 + 1 + 1 + 1) fK fdK ["parts", "table"] (spFaultKind C)) (kK : PySem.W.keepIn K (.ref fK) = true) (bK : Binds K fdK ["parts", "table"] []) (gK : mg "fault_kind" = some (.ref fK))
    (GO : FnOk P w K mg base CX0 (k + 1 + 1 + 1) fO fdO ["parts"] (spRuleOf C)) (kO : PySem.W.keepIn K (.ref fO) = true) (bO : Binds K fdO ["parts"] []) (gO : mg "rule_of" = some (.ref fO)) :
    FnOk P w K mg base CX0 (k + 1 + 1 + 1 + 1 + 1) f fd ["table", "text"] (spFillTable K C) := by
  have GP : FnOk P w K mg base CX0 (k + 1) fP fdP ["row", "mark"] (spParted K) := ok_parted FP
  refine F.ok scFillTable (fun vs H Q E h => ?_) (fun cdv A outer s H vs Q E hr h => ?_)
  · obtain ⟨d, a, t, rfl, _⟩ := h
    rfl
  · obtain ⟨d, a, t, rfl, hd, hS, hl, q⟩ := h
    have nd := scFillTable.nd
    obtain ⟨t1, e1⟩ := TT.n1
    obtain ⟨t4, e4⟩ := TT.n4
    obtain ⟨t5, e5⟩ := TT.n5
    refine ⟨_, pss_cons (ps_set (i := 2) nd rfl (.inl rfl) (pe_call GP (hr.mono (by omega)) (by rfl) gP FP.kp bP .nil pass0 (pa_cons (pv 1) (pa_cons (pe_gint rfl e1) pa_nil))))
      (pss_cons (ps_set (i := 3) nd rfl (.inl rfl) (pe_bm0 PySem.F.plainAttrs_list PySem.F.slot_list_pop PySem.F.type_list_pop mt_pop (pv 2)))
      (pss_cons (ps_for PassesOwn.never rfl (pi_enum (by rfl) B.enum (pa_cons (pv 2) pa_nil))
          (pg_tup rfl (pgs_cons (pg_name (i := 4) nd rfl (.inl rfl)) (pgs_cons (pg_name (i := 5) nd rfl (.inl rfl)) pgs_nil)))
        (pss_cons (ps_set (i := 6) nd rfl (.inl rfl) (pe_call GX hr (by rfl) gX kX bX .nil pass0 (pa_cons (pv 5) pa_nil)))
        (pss_cons (ps_set (i := 7) nd rfl (.inl rfl) (pe_call GK hr (by rfl) gK kK bK .nil pass0 (pa_cons (pv 6) (pa_cons (pv 0) pa_nil))))
        (pss_cons (ps_if (pt_cmpR op_ne (pv 7) (pe_gint rfl e4) (nomark _)) (pss_one (ps_ret (pe_lst (pa_cons (pv 4) (pa_cons (pv 7) pa_nil))))) pss_nil)
        (pss_cons (ps_set (i := 8) nd rfl (.inl rfl) (pe_call GO (hr.mono (by omega)) (by rfl) gO kO bO .nil pass0 (pa_cons (pv 6) pa_nil)))
        (pss_one (ps_dput (hu_of hr) (pv 0) (pe_fld (pv 8) rfl) (pv 8) rfl)))))))
      (pss_cons (ps_if (pt_truth (pv 3) (by intro _; rfl)) (pss_one (ps_ret (pe_lst (pa_cons (pe_callB call_len_seq (by rfl) B.len PySem.boot_len (pa_cons (pv 2) pa_nil)) (pa_cons (pe_gint rfl e5) pa_nil))))) pss_nil)
      (pss_one (ps_ret (pe_lst pa_nil)))))), ?_⟩
    -- lines = parted(text, LINE_END)
    refine ⟨_, rfl, a, t, 10, rfl, hS, by omega, fun H1 R s1 nR hL => ?_⟩
    obtain ⟨as, hR, hlen, each⟩ := hL
    have hne := parted_ne 10 t
    have hpos : 0 < (parted 10 t).length := List.length_pos_iff.mpr hne
    -- unended = lines.pop()
    obtain ⟨U, hU⟩ : ∃ U, as[as.length - 1]? = some U := ⟨_, List.getElem?_eq_getElem (by omega)⟩
    have hlast : (parted 10 t)[as.length - 1]? = some ((parted 10 t).getLastD []) := by
      rw [hlen, List.getLastD_eq_getLast?, List.getLast?_eq_getElem?]
      cases e : (parted 10 t)[(parted 10 t).length - 1]? with
      | none => rw [List.getElem?_eq_none_iff] at e; omega
      | some v => rfl
    have hUl : H1 U = some (.lst (vl ((parted 10 t).getLastD []))) := each _ _ _ hU hlast
    refine ⟨_, rfl, .inl ⟨rfl, _, SqL.of hR⟩, R, as.map V.ref, .ref U, rfl, rfl, hR, ?_, ?_⟩
    · rw [List.length_map, List.getElem?_map, hU]
      rfl
    have hdl : (as.map V.ref).dropLast = as.dropLast.map V.ref := by rw [List.map_dropLast]
    rw [hdl]
    have hUR : U ≠ R := by
      intro e
      rw [e, hR] at hUl
      have := Option.some.inj hUl
      injection this with this
      -- a list of places is no list of numbers: the lines' list is not empty
      cases as with
      | nil => simp at hlen; omega
      | cons z zs =>
        cases hv : (parted 10 t).getLastD [] with
        | nil => rw [hv] at this; cases this
        | cons n l => rw [hv] at this; injection this with h1 h2; cases h1
    have hRd : R ≠ d := fun e => by rw [e, hd] at nR; cases nR
    have hd1 : H1 d = some (.dT []) := s1 _ _ hd
    -- what stays while the loop runs
    have hlenD : as.dropLast.length = (parted 10 t).dropLast.length := by rw [List.length_dropLast, List.length_dropLast, hlen]
    have eachD : ∀ (i : Nat) (b : Addr) (l : List Nat), as.dropLast[i]? = some b → (parted 10 t).dropLast[i]? = some l → H1 b = some (.lst (vl l)) ∧ b ≠ R := by
      intro i b l hb hl'
      have hi : i < as.length - 1 := by
        have := (List.getElem?_eq_some_iff.mp hb).1
        rw [List.length_dropLast] at this
        exact this
      rw [List.dropLast_eq_take, List.getElem?_take_of_lt hi] at hb
      rw [List.dropLast_eq_take, List.getElem?_take_of_lt (by omega)] at hl'
      have h1 := each i b l hb hl'
      refine ⟨h1, fun e => ?_⟩
      rw [e, hR] at h1
      have := Option.some.inj h1
      injection this with this
      cases as with
      | nil => simp at hi
      | cons z zs =>
        cases l with
        | nil => cases this
        | cons n l => injection this with h1 h2; cases h1
    generalize hls : (parted 10 t).dropLast = ls at hlenD eachD
    have hlsl : ls.length + 1 = (parted 10 t).length := by rw [← hls, List.length_dropLast]; omega
    have hlst : (parted 10 t).length ≤ t.length + 1 := parted_le 10 t
    have hfill : fillText t = match fill 0 ls [] with
        | (T, some e) => (T, some e)
        | (T, none) => if (parted 10 t).getLastD [] = [] then (T, none) else (T, some (ls.length, 1)) := by
      unfold fillText
      rw [hls]
      cases fill 0 ls [] with
      | mk T o =>
        cases o with
        | some e => rfl
        | none =>
          have : (parted 10 t).length - 1 = ls.length := by omega
          rw [this]
    have sU : ∀ b o, H b = some o → upd H1 R (.lst (as.dropLast.map V.ref)) b = some o := same_store s1 nR
    refine ⟨_, rfl, R, as.dropLast.map V.ref, rfl, SqL.of upd_same, for_enumL (K := K) (a := R) (xs := as.dropLast.map V.ref)
      (fun i σ H' => ∃ y4 y5 y6 y7 y8 Ti, σ = [some (.ref d), some (.ref a), some (.ref R), some (.ref U), y4, y5, y6, y7, y8] ∧ SameBut d H H' ∧ H' R = some (.lst (as.dropLast.map V.ref)) ∧
        H' U = some (.lst (vl ((parted 10 t).getLastD []))) ∧ (∀ (i : Nat) (b : Addr) (l : List Nat), as.dropLast[i]? = some b → ls[i]? = some l → H' b = some (.lst (vl l))) ∧
        TabAt C H' d Ti ∧ Ti.length ≤ i ∧ fill 0 ls [] = fill i (ls.drop i) Ti)
      ⟨none, none, none, none, none, [], rfl, SameBut.of sU, upd_same, by rw [upd_ne hUR]; exact hUl, fun i b l x y => by rw [upd_ne (eachD i b l x y).2]; exact (eachD i b l x y).1,
        ⟨[], by rw [upd_ne (Ne.symm hRd)]; exact hd1, trivial⟩, Nat.le_refl _, rfl⟩ (fun i σ H' _ ⟨_, _, _, _, _, _, _, _, h, _⟩ => SqL.of h) ?_ ?_⟩
    · rintro i x σ H' p hx ⟨y4, y5, y6, y7, y8, Ti, rfl, sm, hR', hU', hE, hT, hTi, hf⟩ np
      have hxi : i < ls.length := by
        have := (List.getElem?_eq_some_iff.mp hx).1
        rw [List.length_map, hlenD] at this
        exact this
      obtain ⟨b, hb⟩ : ∃ b, as.dropLast[i]? = some b := ⟨_, List.getElem?_eq_getElem (by rw [hlenD]; exact hxi)⟩
      have ex : x = .ref b := by
        rw [List.getElem?_map, hb] at hx
        exact (Option.some.inj hx).symm
      subst ex
      obtain ⟨l, hl1⟩ : ∃ l, ls[i]? = some l := ⟨_, List.getElem?_eq_getElem hxi⟩
      have hlb := hE i b l hb hl1
      have hlmem : l ∈ parted 10 t := (List.dropLast_subset _) (hls ▸ List.mem_of_getElem? hl1)
      have hll : l.length ≤ t.length := part_len 10 t l hlmem
      rw [fill_step hl1] at hf
      have sp : Same H' (upd H' p (.tup [.int (i : Nat), .ref b])) := same_upd np
      refine ⟨p, _, rfl, SqT.of upd_same, rfl, _, _, rfl, _, _, rfl, rfl, ?_⟩
      -- parts = parts_of(line)
      refine ⟨_, rfl, b, l, rfl, SqL.of (sp _ _ hlb), by omega, fun H2 q2 s2 n2 hL2 => ?_⟩
      have s02 := sp.trans s2
      -- kind = fault_kind(parts, table)
      refine ⟨_, rfl, _, rfl, q2, d, partsOfLine l, Ti, rfl, hL2, fun z hz => ?_, hT.same s02, fun H3 s3 => ?_⟩
      · have := linePart_len hz
        omega
      have s03 := s02.trans s3
      have smB : SameBut d H H3 := sm.trans (SameBut.of s03)
      refine ⟨_, rfl, rfl, _, rfl, ?_⟩
      by_cases c : kindOf (partsOfLine l) Ti = 0
      · rw [if_pos c] at hf
        rw [show (!decide (vn (kindOf (partsOfLine l) Ti) = V.int 0)) = false by rw [c]; rfl]
        refine iteF ?_
        obtain ⟨g1, g2, g3, g4⟩ := kindOf_0 c
        obtain ⟨p1, -⟩ := ruleLine_parts g1
        refine ⟨_, rfl, q2, partsOfLine l, rfl, hL2.same s3, by omega, fun H4 pr s4 n4 hRu => ?_⟩
        have s04 := s03.trans s4
        obtain ⟨kvs, hd4, hv4⟩ := hT.same s04
        have hRu' := hRu
        obtain ⟨dx, la, lb, lc, hp, ha, hbb, hc⟩ := hRu
        have ha2 : H4 la = some (.tup ((kT (ruleOfParts (partsOfLine l)).letters).map kV)) := by rw [kT_vl]; exact ha
        have hnone : valV kvs (kT (ruleOfParts (partsOfLine l)).letters) = none := by
          have := hv4.has (ruleOfParts (partsOfLine l)).letters
          rw [g3] at this
          cases e : valV kvs (kT (ruleOfParts (partsOfLine l)).letters) with
          | none => rfl
          | some v => rw [e] at this; cases this
        have hkl : kvs.length < sizeLine := line_of (by rw [hv4.length]; omega)
        refine ⟨_, rfl, _, rfl, _, rfl, pr, C, dx, _, _, rfl, hp, T.cl, T.nL, rF_l la lb lc, d, _, rfl, DPut.t hd4 ha2 hkl, ?_⟩
        rw [putK_new _ hnone]
        have dT4 : ∀ o, H4 d = some o → ∃ kvs, o = HO.dT kvs := fun o e => ⟨kvs, by rw [hd4] at e; exact (Option.some.inj e).symm⟩
        have sB4 : SameBut d H4 (upd H4 d (.dT (kvs ++ [(kT (ruleOfParts (partsOfLine l)).letters, .ref pr)]))) := fun z o e hz => by rw [upd_ne hz]; exact e
        have keepL : ∀ {z : Addr} {xs : List V}, H4 z = some (.lst xs) → upd H4 d (.dT (kvs ++ [(kT (ruleOfParts (partsOfLine l)).letters, .ref pr)])) z = some (.lst xs) := fun {z xs} e =>
          sB4 _ _ e fun ez => by rw [ez, hd4] at e; cases e
        refine ⟨_, _, _, _, _, Ti ++ [ruleOfParts (partsOfLine l)], rfl, (sm.trans (SameBut.of s04)).trans sB4, keepL (s04 _ _ hR'), keepL (s04 _ _ hU'), fun i b l x y => keepL (s04 _ _ (hE i b l x y)), ?_, ?_, hf⟩
        · refine ⟨_, upd_same, TabV.snoc (hRu'.but dT4 sB4) (hv4.mono fun z r hz => hz.but dT4 sB4)⟩
        · rw [List.length_append, List.length_singleton]
          omega
      · rw [if_neg c] at hf
        have : (!decide (vn (kindOf (partsOfLine l) Ti) = V.int 0)) = true := by
          rw [decide_eq_false (fun e => c (by have := V.int.inj e; omega))]
          rfl
        rw [this]
        refine iteT ?_
        rw [hfill, hf] at q
        refine ⟨_, rfl, _, rfl, (by show 2 ≤ sizeLine; decide), fun z nz => ?_⟩
        refine q _ z (smB.trans (SameBut.of (same_upd nz))) ?_ upd_same
        have hzd : z ≠ d := by
          obtain ⟨kvs, hdk, _⟩ := hT.same s03
          exact fun e => by rw [e, hdk] at nz; cases nz
        exact smB.free nz hzd
    · rintro σ H' ⟨y4, y5, y6, y7, y8, Ti, rfl, sm, hR', hU', hE, hT, hTi, hf⟩
      have hxl : (as.dropLast.map V.ref).length = ls.length := by rw [List.length_map, hlenD]
      rw [hxl, List.drop_length] at hf
      have hf : fill 0 ls [] = (Ti, none) := by rw [hf]; rfl
      rw [hfill, hf] at q
      have hT' := hT
      obtain ⟨kvs, hdk, hv⟩ := hT
      refine ⟨_, rfl, _, .inl ⟨_, SqL.of hU', rfl⟩, ?_⟩
      cases hu : (parted 10 t).getLastD [] with
      | nil =>
        rw [hu] at q
        refine iteF ⟨Nat.zero_le _, fun z nz => ?_⟩
        have hzd : z ≠ d := fun e => by rw [e, hdk] at nz; cases nz
        exact q _ z (sm.trans (SameBut.of (same_upd nz))) (sm.free nz hzd) (hT'.same (same_upd nz)) upd_same
      | cons n l =>
        rw [hu] at q
        refine iteT ⟨_, rfl, R, _, rfl, .inl (SqL.of hR'), (by show 2 ≤ sizeLine; decide), fun z nz => ?_⟩
        have hzd : z ≠ d := fun e => by rw [e, hdk] at nz; cases nz
        have q : Filled C H d Q (Ti, some (ls.length, 1)) := q
        refine q _ z (sm.trans (SameBut.of (same_upd nz))) (sm.free nz hzd) ?_
        rw [upd_same, hxl]
        rfl
end
end SpA
set_option Elab.async false
set_option linter.all false
set_option maxRecDepth 100000
set_option maxHeartbeats 4000000
namespace SpA
open PySem PySem.Spec PyProof.Rows L2
abbrev sWritten : Stmt := topS 54
abbrev sWrittenLine : Stmt := topS 55
theorem scWritten : FnScope ["table", "text", "letters"] ["table"] (defScope sWritten) := ⟨rfl, rfl, rfl, by decide +kernel, rfl, by decide +kernel, by decide +kernel⟩
theorem scWrittenLine : FnScope ["rule", "row"] ["rule"] (defScope sWrittenLine) := ⟨rfl, rfl, rfl, by decide +kernel, rfl, by decide +kernel, by decide +kernel⟩
theorem lineM_len {r : Sy.Rule} (h : r.short = true) : (lineM r).length ≤ 100 := by
  obtain ⟨h1, h2, h3, h4⟩ := short_iff.mp h
  unfold lineM
  have := encoded_len ((r.letters ++ [0x20] ++ r.sounds ++ (if r.back = [] then [] else 0x20 :: r.back)) ++ [0x0A])
  have h5 : (if r.back = [] then ([] : List Nat) else 0x20 :: r.back).length ≤ 6 := by
    split
    · simp
    · rw [List.length_cons]; omega
  simp only [List.length_append, List.length_singleton] at this
  omega
theorem flat_len {α : Type} (g : α → List Nat) (c : Nat) : ∀ l : List α, (∀ x ∈ l, (g x).length ≤ c) → (l.flatMap g).length ≤ c * l.length
  | [], _ => by simp
  | a :: l, h => by
    rw [List.flatMap_cons, List.length_append, List.length_cons]
    have h1 := h a List.mem_cons_self
    have h2 := flat_len g c l fun x hx => h x (List.mem_cons_of_mem _ hx)
    rw [Nat.mul_add, Nat.mul_one]
    omega
section
variable {P : Program} {w : World} {K : PySem.W.Frag} {mg : Str → Option Value} {base : Heap} {aF a0 a1 a2 a3 C fI fZ fL fC fA : Addr}
def spWrittenLine (C : Addr) : Sp := fun vs H Q _ => ∃ (p : Addr) (r : Sy.Rule), vs = [.ref p] ∧ RuleAt C H p r ∧ r.short = true ∧ ∀ H' q, Same H H' → H q = none → H' q = some (.lst (vl (lineM r))) → Q (.ref q) H'
theorem ok_written_line {f fE : Addr} {fd fdE : FuncData} {k : Nat} (F : Fun K "written_line" "written_line" sWrittenLine f fd) (T : TxtR K mg C fI fZ) (TT : TxtT mg) (B : TxtB mg)
    (GE : FnOk P w K mg base CX0 (k + 1 + 1) fE fdE ["row"] (spEncoded K)) (kE : PySem.W.keepIn K (.ref fE) = true) (bE : Binds K fdE ["row"] []) (gE : mg "encoded" = some (.ref fE)) :
    FnOk P w K mg base CX0 (k + 1 + 1 + 1) f fd ["rule"] (spWrittenLine C) := by
  refine F.ok scWrittenLine (fun vs H Q E h => ?_) (fun cdv A outer s H vs Q E hr h => ?_)
  · obtain ⟨p, r, rfl, _⟩ := h
    rfl
  · obtain ⟨p, r, rfl, hR, hsh, q⟩ := h
    have nd := scWrittenLine.nd
    obtain ⟨t1, e1⟩ := TT.n1
    obtain ⟨t2, e2⟩ := TT.n2
    obtain ⟨z1, z2, z3, z4⟩ := short_iff.mp hsh
    refine ⟨_, pss_cons (ps_set (i := 1) nd rfl (.inl rfl) (pe_op op_cat (pe_op op_cat (pe_callTy call_list_of (by rfl) B.list (by decide +kernel) (pa_cons (pe_fld (pv 0) rfl) pa_nil)) (pe_lst (pa_cons (pe_gint rfl e2) pa_nil)))
        (pe_callTy call_list_of (by rfl) B.list (by decide +kernel) (pa_cons (pe_fld (pv 0) rfl) pa_nil))))
      (pss_cons (ps_if (pt_truth (pe_fld (pv 0) rfl) (by intro _; rfl)) (pss_one (ps_set (i := 1) nd rfl (.inl rfl) (pe_op op_cat (pe_op op_cat (pv 1) (pe_lst (pa_cons (pe_gint rfl e2) pa_nil)))
        (pe_callTy call_list_of (by rfl) B.list (by decide +kernel) (pa_cons (pe_fld (pv 0) rfl) pa_nil))))) pss_nil)
      (pss_one (ps_ret (pe_call GE hr (by rfl) gE kE bE .nil pass0 (pa_cons (pe_op op_cat (pv 1) (pe_lst (pa_cons (pe_gint rfl e1) pa_nil))) pa_nil))))), ?_⟩
    obtain ⟨dx, la, lb, lc, hp, ha, hb, hc⟩ := hR
    -- list(rule.letters) + [BLANK] + list(rule.sounds)
    refine ⟨_, rfl, p, C, dx, _, _, rfl, hp, T.cl, T.nL, rF_l la lb lc, la, _, rfl, .inr (SqT.of ha), fun x1 n1 => ⟨(by show 1 ≤ sizeLine; decide), fun x2 n2 => ?_⟩⟩
    have s1 : Same H (upd H x1 (.lst (vl r.letters))) := same_upd n1
    have x12 : x1 ≠ x2 := fun e => by rw [← e, upd_same] at n2; cases n2
    have s2 := s1.trans (same_upd (o := .lst [V.int 32]) n2)
    refine ⟨x1, x2, _, _, rfl, rfl, by rw [upd_ne x12]; exact upd_same, upd_same, ?_, fun x3 n3 => ?_⟩
    · rw [vl_len]
      exact line_le (by show r.letters.length + 1 ≤ _; omega)
    have s3 := s2.trans (same_upd (o := .lst (vl r.letters ++ [V.int 32])) n3)
    refine ⟨_, rfl, p, C, dx, _, _, rfl, s3 _ _ hp, T.cl, T.nS, rF_s la lb lc, lb, _, rfl, .inr (SqT.of (s3 _ _ hb)), fun x4 n4 => ?_⟩
    have x34 : x3 ≠ x4 := fun e => by rw [← e, upd_same] at n4; cases n4
    have s4 := s3.trans (same_upd (o := .lst (vl r.sounds)) n4)
    refine ⟨x3, x4, _, _, rfl, rfl, by rw [upd_ne x34]; exact upd_same, upd_same, ?_, fun x5 n5 => ?_⟩
    · rw [List.length_append, vl_len, vl_len]
      exact line_le (by show r.letters.length + 1 + r.sounds.length ≤ _; omega)
    have s5 := s4.trans (same_upd (o := .lst (vl r.letters ++ [V.int 32] ++ vl r.sounds)) n5)
    -- what is left once the row stands at y
    have go : ∀ (H1 : Hp) (y : Addr) (row : List Nat), Same H H1 → H1 y = some (.lst (vl row)) → row.length ≤ 100 → lineM r = encoded (row ++ [0x0A]) →
        tRet (tCall (spEncoded K) [] E0 (tCons (tOp rCat (tVar 1) (tLst (tCons (tC (.int 10)) tNil))) tNil)) { nx := fun _ H' => Q .non H', rt := Q } [some (.ref p), some (.ref y)] H1 := by
      intro H1 y row sm hy hl e
      refine ⟨_, rfl, (by show 1 ≤ sizeLine; decide), fun x6 n6 => ?_⟩
      have xy : y ≠ x6 := ne_of_none hy n6
      refine ⟨y, x6, _, _, rfl, rfl, by rw [upd_ne xy]; exact hy, upd_same, ?_, fun x7 n7 => ?_⟩
      · rw [vl_len]
        exact line_le (by show row.length + 1 ≤ _; omega)
      have sm7 := (sm.trans (same_upd (o := .lst [V.int 10]) n6)).trans (same_upd (o := .lst (vl row ++ [V.int 10])) n7)
      refine ⟨x7, row ++ [0x0A], rfl, SqL.of ?_, ?_, fun H2 z s8 nz hz => ?_⟩
      · rw [upd_same]
        show some (HO.lst (vl row ++ [vn 10])) = _
        rw [vl_snoc]
      · rw [List.length_append]
        show row.length + 1 ≤ 50000
        omega
      · refine q H2 z (sm7.trans s8) (sm7.free nz) ?_
        rw [e]
        exact hz
    have hrow : vl r.letters ++ [V.int 32] ++ vl r.sounds = vl (r.letters ++ [0x20] ++ r.sounds) := by
      rw [vl_append, vl_append]
      rfl
    -- if rule.back
    refine ⟨_, rfl, p, C, dx, _, _, rfl, s5 _ _ hp, T.cl, T.nB, rF_b la lb lc, _, .inr (.inl ⟨_, SqT.of (s5 _ _ hc), rfl⟩), ?_⟩
    cases hbk : r.back with
    | nil =>
      refine iteF ?_
      refine go _ x5 (r.letters ++ [0x20] ++ r.sounds) s5 ?_ ?_ ?_
      · rw [upd_same]
        exact congrArg (fun z => some (HO.lst z)) hrow
      · simp only [List.length_append, List.length_singleton]
        omega
      · unfold lineM
        rw [if_pos hbk, List.append_nil]
    | cons n0 l0 =>
      refine iteT ?_
      refine ⟨_, rfl, (by show 1 ≤ sizeLine; decide), fun x6 n6 => ?_⟩
      have x56 : x5 ≠ x6 := fun e => by rw [← e, upd_same] at n6; cases n6
      have s6 := s5.trans (same_upd (o := .lst [V.int 32]) n6)
      refine ⟨x5, x6, _, _, rfl, rfl, by rw [upd_ne x56]; exact upd_same, upd_same, ?_, fun x7 n7 => ?_⟩
      · rw [List.length_append, List.length_append, vl_len, vl_len]
        exact line_le (by show r.letters.length + 1 + r.sounds.length + 1 ≤ _; omega)
      have s7 := s6.trans (same_upd (o := .lst (vl r.letters ++ [V.int 32] ++ vl r.sounds ++ [V.int 32])) n7)
      refine ⟨_, rfl, p, C, dx, _, _, rfl, s7 _ _ hp, T.cl, T.nB, rF_b la lb lc, lc, _, rfl, .inr (SqT.of (s7 _ _ hc)), fun x8 n8 => ?_⟩
      have x78 : x7 ≠ x8 := fun e => by rw [← e, upd_same] at n8; cases n8
      have s8 := s7.trans (same_upd (o := .lst (vl r.back)) n8)
      refine ⟨x7, x8, _, _, rfl, rfl, by rw [upd_ne x78]; exact upd_same, upd_same, ?_, fun x9 n9 => ?_⟩
      · rw [List.length_append, List.length_append, List.length_append, vl_len, vl_len, vl_len]
        exact line_le (by show r.letters.length + 1 + r.sounds.length + 1 + r.back.length ≤ _; omega)
      have s9 := s8.trans (same_upd (o := .lst (vl r.letters ++ [V.int 32] ++ vl r.sounds ++ [V.int 32] ++ vl r.back)) n9)
      refine go _ x9 (r.letters ++ [0x20] ++ r.sounds ++ (0x20 :: r.back)) s9 ?_ ?_ ?_
      · rw [upd_same]
        refine congrArg (fun z => some (HO.lst z)) ?_
        show vl r.letters ++ [V.int 32] ++ vl r.sounds ++ [V.int 32] ++ vl r.back = _
        rw [hrow, vl_append (r.letters ++ [0x20] ++ r.sounds), List.append_assoc]
        rfl
      · simp only [List.length_append, List.length_singleton, List.length_cons, List.length_nil]
        omega
      · unfold lineM
        rw [if_neg (by rw [hbk]; intro e; cases e)]
/-! ### written -/
def spWritten (C : Addr) : Sp := fun vs H Q _ => ∃ (d : Addr) (U : List Sy.Rule), vs = [.ref d] ∧ TabAt C H d U ∧ Good U ∧ ∀ H' q, Same H H' → H q = none → H' q = some (.lst (vl (writtenM (sortT U)))) → Q (.ref q) H'
theorem find_letters {T : List Sy.Rule} (g : Good T) {r : Sy.Rule} (h : r ∈ T) : T.find? (fun (q : Sy.Rule) => q.letters == r.letters) = some r := by
  cases e : T.find? (fun (q : Sy.Rule) => q.letters == r.letters) with
  | none =>
    have := List.find?_eq_none.mp e r h
    simp at this
  | some q =>
    have h1 := List.find?_some e
    have h2 := List.mem_of_find?_eq_some e
    rw [beq_iff_eq] at h1
    rw [nodup_letters g.nodup h2 h h1]
theorem ok_written {f fW : Addr} {fd fdW : FuncData} {k : Nat} (F : Fun K "written" "written" sWritten f fd) (T : TxtR K mg C fI fZ) (B : TxtB mg)
    (GW : FnOk P w K mg base CX0 (k + 1 + 1 + 1) fW fdW ["rule"] (spWrittenLine C)) (kW : PySem.W.keepIn K (.ref fW) = true) (bW : Binds K fdW ["rule"] []) (gW : mg "written_line" = some (.ref fW)) :
    FnOk P w K mg base CX0 (k + 1 + 1 + 1 + 1) f fd ["table"] (spWritten C) := by
  refine F.ok scWritten (fun vs H Q E h => ?_) (fun cdv A outer s H vs Q E hr h => ?_)
  · obtain ⟨d, U, rfl, _⟩ := h
    rfl
  · obtain ⟨d, U, rfl, hT, g, q⟩ := h
    have nd := scWritten.nd
    refine ⟨_, pss_cons (ps_set (i := 1) nd rfl (.inl rfl) (pe_lst pa_nil))
      (pss_cons (ps_for PassesOwn.never rfl (pi_list (pe_callB (cr_sortKeys rfl (by have := hr.un; show (A.deeper _).units + 64 < cLine; omega)) (by rfl) B.sorted (by decide +kernel) (pa_cons (pv 0) pa_nil))) (pg_name (i := 2) nd rfl (Or.inl rfl))
        (pss_one (ps_expr (pe_bm PySem.F.plainAttrs_list PySem.F.slot_list_extend PySem.F.type_list_extend mt_extend (pv 1)
          (pa_cons (pe_call GW hr (by rfl) gW kW bW .nil pass0 (pa_cons (pe_dget (hu_of hr) (pv 0) (pv 2) (fun _ _ => rfl)) pa_nil)) pa_nil)))))
      (pss_one (ps_ret (pv 1)))), ?_⟩
    refine ⟨Nat.zero_le _, fun R nR => ?_⟩
    have s0 : Same H (upd H R (.lst [])) := same_upd nR
    obtain ⟨kvs, hd, hv⟩ := hT.same s0
    refine ⟨_, rfl, d, kvs, U.map Sy.Rule.letters, rfl, hd, hv.keys, ?_, fun bs p hperm hord hbs np => ?_⟩
    · intro l hl
      obtain ⟨r, hr', rfl⟩ := List.mem_map.mp hl
      exact g.ne r hr'
    have s1 : Same H (upd (upd H R (.lst [])) p (.lst (bs.map fun b => V.ref b.2))) := s0.trans (same_upd np)
    have hsl : bs.map (·.1) = (sortT U).map Sy.Rule.letters := sorted_letters g hperm hord
    have hlen : bs.length = (sortT U).length := by have := congrArg List.length hsl; rw [List.length_map, List.length_map] at this; exact this
    have hUl : (sortT U).length ≤ 64 := (sortT_good g).few
    have Rp : R ≠ p := fun e => by rw [← e, upd_same] at np; cases np
    refine ⟨p, rfl, ⟨_, SqL.of upd_same⟩, for_list (K := K) (a := p) (xs := bs.map fun b => V.ref b.2)
      (fun i σ H' => ∃ y, σ = [some (.ref d), some (.ref R), y] ∧ Same H H' ∧ (∀ b ∈ bs, H' b.2 = some (.tup (vl b.1))) ∧ H' p = some (.lst (bs.map fun b => V.ref b.2)) ∧ H' R = some (.lst (vl (((sortT U).take i).flatMap lineM))))
      ⟨none, rfl, s1, fun b hb => (same_upd np) _ _ (hbs b hb), upd_same, by rw [upd_ne Rp]; exact upd_same⟩ (fun i σ H' _ ⟨_, _, _, _, h, _⟩ => SqL.of h) ?_ ?_⟩
    · rintro i x σ H' hx ⟨y, rfl, sm, hbs', hp', hR'⟩
      obtain ⟨b, hb, rfl⟩ : ∃ b, bs[i]? = some b ∧ x = V.ref b.2 := by
        rw [List.getElem?_map] at hx
        cases e : bs[i]? with
        | none => rw [e] at hx; cases hx
        | some b => rw [e] at hx; exact ⟨b, rfl, (Option.some.inj hx).symm⟩
      have hil : i < (sortT U).length := by rw [← hlen]; exact (List.getElem?_eq_some_iff.mp hb).1
      obtain ⟨r, hr1⟩ : ∃ r, (sortT U)[i]? = some r := ⟨_, List.getElem?_eq_getElem hil⟩
      have hbl : b.1 = r.letters := by
        have h1 : (bs.map (·.1))[i]? = some b.1 := by rw [List.getElem?_map, hb]; rfl
        rw [hsl, List.getElem?_map, hr1] at h1
        exact (Option.some.inj h1).symm
      have hrU : r ∈ U := (sortT_perm U).mem_iff.mp (List.mem_of_getElem? hr1)
      obtain ⟨kvs', hd', hv'⟩ := hT.same sm
      have hlook := hv'.look b.1
      rw [hbl, find_letters g hrU] at hlook
      obtain ⟨pr, hval, hRr⟩ := hlook
      have hbt : H' b.2 = some (.tup ((kT r.letters).map kV)) := by
        rw [kT_vl]
        have := hbs' b (List.mem_of_getElem? hb)
        rw [hbl] at this
        exact this
      refine ⟨_, rfl, .inl ⟨rfl, _, SqL.of hR'⟩, _, rfl, _, rfl, d, _, rfl, by have := DGet.t hd' hbt; rw [hval] at this; exact this, pr, r, rfl, hRr, g.short r hrU, fun H1 z s2 nz hz => ?_⟩
      have hR1 := s2 _ _ hR'
      refine ⟨R, z, _, _, rfl, rfl, hR1, hz, ?_, ?_⟩
      · rw [vl_len, vl_len]
        have h1 := flat_len lineM 100 ((sortT U).take i) fun r hr => lineM_len (g.short r ((sortT_perm U).mem_iff.mp (List.mem_of_mem_take hr)))
        have h2 := lineM_len (g.short r hrU)
        rw [List.length_take] at h1
        exact line_le (by omega)
      · have keep : ∀ {u : Addr} {o : HO}, H1 u = some o → u ≠ R → upd H1 R (.lst (vl (((sortT U).take i).flatMap lineM) ++ vl (lineM r))) u = some o := fun e n => by rw [upd_ne n]; exact e
        refine ⟨_, rfl, same_store (sm.trans s2) nR, fun b' hb' => ?_, ?_, ?_⟩
        · have := s2 _ _ (hbs' b' hb')
          exact keep this fun e => by rw [e, hR1] at this; cases this
        · exact keep (s2 _ _ hp') (Ne.symm Rp)
        · rw [upd_same, take_more hr1, List.flatMap_append, List.flatMap_singleton, vl_append]
    · rintro σ H' ⟨y, rfl, sm, hbs', hp', hR'⟩
      rw [List.length_map, hlen, List.take_length] at hR'
      exact ⟨_, rfl, q H' R sm nR hR'⟩
end
end SpA
set_option Elab.async false
set_option linter.all false
set_option maxRecDepth 100000
set_option maxHeartbeats 4000000
namespace SpA
open PySem PySem.Spec PyProof.Rows L2
/-! ### what may be read, what is kept -/
theorem rd_same {H H' : Hp} {a : Addr} {u : HO} (s : Same H H') (h : Rd H a u) : Rd H' a u := h.elim (fun h => .inl (s _ _ h)) fun ⟨o, h⟩ => .inr ⟨o, s _ _ h⟩
/-- all but the objects at L is kept -/
def But (L : List Addr) (H H' : Hp) : Prop := ∀ x o, H x = some o → x ∉ L → H' x = some o
theorem But.refl {L : List Addr} {H : Hp} : But L H H := fun _ _ h _ => h
theorem But.of {L : List Addr} {H H' : Hp} (s : Same H H') : But L H H' := fun x o h _ => s x o h
theorem But.trans {L : List Addr} {H H1 H2 : Hp} (a : But L H H1) (b : But L H1 H2) : But L H H2 := fun x o h n => b x o (a x o h n) n
theorem But.upd {L : List Addr} {H : Hp} {p : Addr} {o : HO} (h : p ∈ L) : But L H (upd H p o) := fun x u e n => by
  rw [upd_ne fun z => n (by rw [z]; exact h)]
  exact e
theorem But.mono {L M : List Addr} {H H' : Hp} (b : But L H H') (h : ∀ x ∈ L, x ∈ M) : But M H H' := fun x o e n => b x o e fun z => n (h x z)
/-- of what was not there before -/
theorem But.new {L : List Addr} {H0 H H' : Hp} (s : Same H0 H) (b : But L H H') (h : ∀ x ∈ L, H0 x = none) : Same H0 H' := fun x o e => b x o (s x o e) fun z => by
  rw [h x z] at e
  cases e
/-- an object that no table of rules is made of -/
def Loose (C : Addr) : Option HO → Prop
  | none => True
  | some (.lst _) => True
  | some (.dK _) => True
  | some (.ext _) => True
  | some (.ins S _ _) => S ≠ C
  | _ => False
theorem But.keep {C : Addr} {L : List Addr} {H H' : Hp} {x : Addr} {o : HO} (b : But L H H') (hL : ∀ y ∈ L, Loose C (H y)) (h : H x = some o) (hf : ¬ Loose C (some o)) : H' x = some o :=
  b x o h fun z => hf (by have := hL x z; rw [h] at this; exact this)
theorem RuleAt.butL {C : Addr} {L : List Addr} {H H' : Hp} {p : Addr} {r : Sy.Rule} (hL : ∀ y ∈ L, Loose C (H y)) (h : RuleAt C H p r) (b : But L H H') : RuleAt C H' p r := by
  obtain ⟨dx, x, y, z, h1, h2, h3, h4⟩ := h
  exact ⟨dx, x, y, z, b.keep hL h1 (fun q => q rfl), b.keep hL h2 (fun q => q), b.keep hL h3 (fun q => q), b.keep hL h4 (fun q => q)⟩
/-- a table that may be read -/
def TabR (C : Addr) (H : Hp) (d : Addr) (T : List Sy.Rule) : Prop := ∃ kvs, Rd H d (.dT kvs) ∧ TabV C H kvs T
theorem TabAt.r {C : Addr} {H : Hp} {d : Addr} {T : List Sy.Rule} (h : TabAt C H d T) : TabR C H d T := let ⟨kvs, h1, h2⟩ := h; ⟨kvs, .inl h1, h2⟩
theorem TabR.same {C : Addr} {H H' : Hp} {d : Addr} {T : List Sy.Rule} (h : TabR C H d T) (s : Same H H') : TabR C H' d T := by
  obtain ⟨kvs, h1, h2⟩ := h
  exact ⟨kvs, rd_same s h1, h2.mono fun _ _ k => k.same s⟩
theorem rd_but {C : Addr} {L : List Addr} {H H' : Hp} {d : Addr} {kvs : List (List Key × V)} (hL : ∀ y ∈ L, Loose C (H y)) (h : Rd H d (.dT kvs)) (b : But L H H') : Rd H' d (.dT kvs) := by
  rcases h with h | ⟨o, h⟩
  · exact .inl (b.keep hL h (fun q => q))
  · exact .inr ⟨o, b.keep hL h (fun q => q)⟩
theorem TabR.butL {C : Addr} {L : List Addr} {H H' : Hp} {d : Addr} {T : List Sy.Rule} (hL : ∀ y ∈ L, Loose C (H y)) (h : TabR C H d T) (b : But L H H') : TabR C H' d T := by
  obtain ⟨kvs, h1, h2⟩ := h
  exact ⟨kvs, rd_but hL h1 b, h2.mono fun _ _ k => k.butL hL b⟩
theorem TabAt.butL {C : Addr} {L : List Addr} {H H' : Hp} {d : Addr} {T : List Sy.Rule} (hL : ∀ y ∈ L, Loose C (H y)) (h : TabAt C H d T) (b : But L H H') : TabAt C H' d T := by
  obtain ⟨kvs, h1, h2⟩ := h
  exact ⟨kvs, b.keep hL h1 (fun q => q), h2.mono fun _ _ k => k.butL hL b⟩
theorem dget_r {H : Hp} {a b : Addr} {kvs : List (List Key × V)} {l : List Nat} (e : Rd H a (.dT kvs)) (eb : H b = some (.tup (vl l))) : DGet H a (.ref b) (valV kvs (kT l)) :=
  .inr ⟨kvs, kT l, b, e, rfl, by rw [kT_vl]; exact eb, rfl⟩
/-! ### tuples of any length -/
theorem cutV_whole {xs : List V} {lo hi : Option Int} (h : HT.sIx xs.length 0 lo = 0 ∧ HT.sIx xs.length xs.length hi = xs.length) : cutV xs lo hi = xs := by
  unfold cutV
  rw [h.1, h.2, List.drop_zero, Nat.sub_zero, List.take_length]
theorem slA_any {K : PySem.W.Frag} {H : Hp} {a : Addr} {xs : List V} {lo hi : Option Int} {Q : VK} (hx : H a = some (.tup xs)) (q : ∀ p H', Same H H' → H' p = some (.tup (cutV xs lo hi)) → Q (.ref p) H') :
    rSlA K (.ref a) lo hi H Q := by
  refine ⟨a, xs, rfl, SqT.of hx, fun w => ?_, fun _ p np => ?_⟩
  · exact q a H (Same.refl _) (by rw [cutV_whole w]; exact hx)
  · exact q p _ (same_upd np) upd_same
theorem slA_lo {K : PySem.W.Frag} {σ : L2.St} {H : Hp} {a : Addr} {xs : List V} {lo : Option Int} {Q : VK} (hx : H a = some (.tup xs)) (q : ∀ p H', Same H H' → H' p = some (.tup (cutV xs lo none)) → Q (.ref p) H') :
    tNoPart σ H fun u H3 => rSlA K (.ref a) lo u H3 Q := by
  unfold tNoPart
  exact slA_any hx q
theorem catA_any {K : PySem.W.Frag} {H : Hp} {a b : Addr} {xs ys : List V} {Q : VK} (hx : H a = some (.tup xs)) (hy : H b = some (.tup ys)) (hl : xs.length + ys.length ≤ sizeLine) (q : ∀ p H', Same H H' → H' p = some (.tup (xs ++ ys)) → Q (.ref p) H') :
    rCatA K (.ref a) (.ref b) H Q := by
  refine ⟨a, b, xs, ys, rfl, rfl, SqT.of hx, SqT.of hy, hl, fun e => ?_, fun _ e => ?_, fun _ _ p np => ?_⟩
  · exact q b H (Same.refl _) (by rw [e]; exact hy)
  · exact q a H (Same.refl _) (by rw [e, List.append_nil]; exact hx)
  · exact q p _ (same_upd np) upd_same
/-! ### the longest rule -/
abbrev sSpelling : Stmt := topS 24
abbrev sGInit : Stmt := inClass sSpelling 0
abbrev sGTake : Stmt := inClass sSpelling 1
abbrev sGSure : Stmt := inClass sSpelling 2
abbrev sSpelled : Stmt := topS 25
abbrev sSoFar : Stmt := topS 26
abbrev sBegs : Stmt := topS 27
abbrev sLongest : Stmt := topS 28
abbrev sWithout : Stmt := topS 59
theorem scGInit : FnScope ["self", "letters"] ["self", "letters"] (defScope sGInit) := ⟨rfl, rfl, rfl, by decide +kernel, rfl, by decide +kernel, by decide +kernel⟩
theorem scGTake : FnScope ["self", "table", "rule"] ["self", "table"] (defScope sGTake) := ⟨rfl, rfl, rfl, by decide +kernel, rfl, by decide +kernel, by decide +kernel⟩
theorem scGSure : FnScope ["self", "table", "begun"] ["self", "table", "begun"] (defScope sGSure) := ⟨rfl, rfl, rfl, by decide +kernel, rfl, by decide +kernel, by decide +kernel⟩
theorem scSpelled : FnScope ["table", "letters", "spelling"] ["table", "letters"] (defScope sSpelled) := ⟨rfl, rfl, rfl, by decide +kernel, rfl, by decide +kernel, by decide +kernel⟩
theorem scSoFar : FnScope ["table", "begun", "letters", "spelling"] ["table", "begun", "letters"] (defScope sSoFar) := ⟨rfl, rfl, rfl, by decide +kernel, rfl, by decide +kernel, by decide +kernel⟩
theorem scBegs : FnScope ["table", "begun", "letters", "size"] ["table"] (defScope sBegs) := ⟨rfl, rfl, rfl, by decide +kernel, rfl, by decide +kernel, by decide +kernel⟩
theorem scLongest : FnScope ["table", "left", "beginning"] ["table", "left"] (defScope sLongest) := ⟨rfl, rfl, rfl, by decide +kernel, rfl, by decide +kernel, by decide +kernel⟩
theorem scWithout : FnScope ["table", "begun", "letters", "spelling"] ["table", "begun", "letters"] (defScope sWithout) := ⟨rfl, rfl, rfl, by decide +kernel, rfl, by decide +kernel, by decide +kernel⟩
section
variable {P : Program} {w : World} {K : PySem.W.Frag} {mg : Str → Option Value} {base : Heap} {C CS fI fZ fT fU fG : Addr}
/-- a rule that stands, or None -/
def SomeR (C : Addr) (H : Hp) (o : Option Sy.Rule) (Q : VK) : Prop := match o with
  | none => ∀ H', Same H H' → Q .non H'
  | some r => ∀ H' p, Same H H' → RuleAt C H' p r → Q (.ref p) H'
def spLongest (C : Addr) : Sp := fun vs H Q _ => ∃ (d a : Addr) (U : List Sy.Rule) (l : List Nat), vs = [.ref d, .ref a] ∧ TabR C H d U ∧ H a = some (.tup (vl l)) ∧ SomeR C H (longestM U l) Q
theorem ok_longest {f : Addr} {fd : FuncData} {k : Nat} (F : Fun K "longest_rule" "longest_rule" sLongest f fd) (T : TxtR K mg C fI fZ) : FnOk P w K mg base CX0 (k + 1) f fd ["table", "left"] (spLongest C) := by
  refine F.ok scLongest (fun vs H Q E h => ?_) (fun cdv A outer s H vs Q E hr h => ?_)
  · obtain ⟨d, a, U, l, rfl, _⟩ := h
    rfl
  · obtain ⟨d, a, U, l, rfl, hT, hS, q⟩ := h
    have nd := scLongest.nd
    obtain ⟨t2, e2⟩ := T.n2
    refine ⟨_, pss_cons (ps_set (i := 2) nd rfl (.inl rfl) (pe_slice sl_tupA (pv 1) po_none (po_some (pe_gint rfl e2))))
      (pss_cons (ps_while PassesOwn.never (pt_truth (pv 2) (by intro _; rfl))
        (pss_cons (ps_if (pt_cmp (pc_din (hu_of hr) (pv 2) (pv 0))) (pss_one (ps_ret (pe_dget (hu_of hr) (pv 0) (pv 2) (fun _ _ => rfl)))) pss_nil)
        (pss_one (ps_set (i := 2) nd rfl (.inl rfl) (pe_slice sl_tup (pv 2) po_none (po_some (pe_un un_neg pe_int)))))))
      (pss_one (ps_ret pe_non))), ?_⟩
    refine ⟨_, rfl, _, rfl, ?_⟩
    refine slA_any hS fun b H1 s2 hb => ?_
    have ec : cutV (vl l) none (some 6) = vl (l.take (min 6 l.length)) := by
      have := cut_0 (vl l) 6
      rw [vl_take] at this
      rw [show ((6 : Nat) : Int) = 6 from rfl] at this
      rw [this, ← List.take_eq_take_min]
    refine ⟨fun m σ H' => ∃ (b : Addr) (n : Nat), σ = [some (.ref d), some (.ref a), some (.ref b)] ∧ m = n ∧ n ≤ l.length ∧ Same H H' ∧ H' b = some (.tup (vl (l.take n))) ∧ longestM U l = lookBy U l n,
      ⟨_, b, min 6 l.length, rfl, rfl, Nat.min_le_right _ _, s2, by rw [← ec]; exact hb, rfl⟩, ?_⟩
    rintro m σ H' ⟨b, n, rfl, rfl, hn, sm, hb, hlk⟩
    refine ⟨_, rfl, _, .inr (.inl ⟨_, SqT.of hb, rfl⟩), ?_⟩
    cases m with
    | zero =>
      rw [List.take_zero]
      refine iteF ?_
      have : longestM U l = none := hlk
      rw [this] at q
      exact q H' sm
    | succ n =>
      have hne : (!(vl (l.take (n + 1))).isEmpty) = true := by
        cases l with
        | nil => simp at hn
        | cons c l => rfl
      rw [hne]
      refine iteT ⟨_, fun σ' H' h => h, ?_⟩
      obtain ⟨kvs, hd, hv⟩ := hT.same sm
      refine ⟨_, rfl, _, rfl, d, _, rfl, dget_r hd hb, _, rfl, ?_⟩
      have hlook := hv.look (l.take (n + 1))
      have hlk2 : longestM U l = match U.find? fun (r : Sy.Rule) => r.letters == l.take (n + 1) with
        | some r => some r
        | none => lookBy U l n := hlk
      cases ef : U.find? fun (r : Sy.Rule) => r.letters == l.take (n + 1) with
      | some r =>
        rw [ef] at hlook hlk2
        obtain ⟨pr, hval, hR⟩ := hlook
        rw [hval]
        refine iteT ⟨_, rfl, _, rfl, d, _, rfl, by have := dget_r hd hb; rw [hval] at this; exact this, ?_⟩
        have hlk2 : longestM U l = some r := hlk2
        rw [hlk2] at q
        exact q H' pr sm hR
      | none =>
        rw [ef] at hlook hlk2
        rw [hlook]
        refine iteF ⟨_, rfl, 1, rfl, _, rfl, b, _, rfl, SqT.of hb, ?_, fun c nc => ?_⟩
        · rintro ⟨-, h⟩
          rw [vl_len, List.length_take] at h
          have h : (if (-1 : Int) < 0 then ((-1 : Int) + ((min (n + 1) l.length : Nat) : Int)).toNat else min (-1 : Int).toNat (min (n + 1) l.length)) = min (n + 1) l.length := h
          rw [if_pos (by decide)] at h
          omega
        · refine ⟨n, Nat.lt_succ_self n, c, n, rfl, rfl, by omega, sm.trans (same_upd nc), ?_, hlk2⟩
          rw [upd_same]
          congr 2
          show ((vl (l.take (n + 1))).drop 0).take ((if (-1 : Int) < 0 then ((-1 : Int) + (((vl (l.take (n + 1))).length : Nat) : Int)).toNat else min (-1 : Int).toNat (vl (l.take (n + 1))).length) - 0) = _
          rw [List.drop_zero, if_pos (by decide), vl_take, List.take_take, vl_len, List.length_take]
          congr 2
          omega
/-! ### letters while they are spelled -/
structure TxtG (K : PySem.W.Frag) (mg : Str → Option Value) (CS fG fT fU : Addr) : Prop where
  cl : Cls K CS
  mkC : Mk K CS fG
  mT : Meth K CS "take" fT
  mU : Meth K CS "take_what_is_sure" fU
  gC : mg "Spelling" = some (.ref CS)
  nS : NoAttr K CS "sounds"
  nL : NoAttr K CS "left"
def gF (a b : Addr) : List (Str × V) := [("sounds", .ref a), ("left", .ref b)]
theorem gF_s (a b : Addr) : (gF a b).lookup ("sounds" : Str) = some (.ref a) := lk_here
theorem gF_l (a b : Addr) : (gF a b).lookup ("left" : Str) = some (.ref b) := (lk_past (by decide +kernel)).trans lk_here
theorem gF_t (a b : Addr) : (gF a b).lookup ("take" : Str) = none := (lk_past (by decide +kernel)).trans ((lk_past (by decide +kernel)).trans rfl)
theorem gF_u (a b : Addr) : (gF a b).lookup ("take_what_is_sure" : Str) = none := (lk_past (by decide +kernel)).trans ((lk_past (by decide +kernel)).trans rfl)
theorem gF_new (a b : Addr) : putF "left" (.ref b) (putF "sounds" (.ref a) []) = gF a b := (put_past (by decide +kernel)).trans rfl
theorem gF_put (a b c : Addr) : putF "left" (.ref c) (gF a b) = gF a c := (put_past (by decide +kernel)).trans (congrArg _ put_here)
/-- a spelling lies at p, its sounds at a -/
def SpAt (CS : Addr) (H : Hp) (p a : Addr) (snd left : List Nat) : Prop := ∃ dx b, H p = some (.ins CS dx (gF a b)) ∧ H a = some (.lst (vl snd)) ∧ H b = some (.tup (vl left))
theorem SpAt.same {CS : Addr} {H H' : Hp} {p a : Addr} {x y : List Nat} (h : SpAt CS H p a x y) (s : Same H H') : SpAt CS H' p a x y := by
  obtain ⟨dx, b, h1, h2, h3⟩ := h
  exact ⟨dx, b, s _ _ h1, s _ _ h2, s _ _ h3⟩
theorem SpAt.loose {C CS : Addr} {H : Hp} {p a : Addr} {x y : List Nat} (h : SpAt CS H p a x y) (hne : CS ≠ C) : ∀ z ∈ [p, a], Loose C (H z) := by
  obtain ⟨dx, b, h1, h2, h3⟩ := h
  intro z hz
  rcases List.mem_cons.mp hz with rfl | hz
  · rw [h1]
    exact hne
  · rw [List.mem_singleton.mp hz, h2]
    trivial
def spGInit (K : PySem.W.Frag) (CS : Addr) : Sp := fun vs H Q _ => ∃ (p dx c : Addr) (l : List Nat), vs = [.ref p, .ref c] ∧ H p = some (.ins CS dx []) ∧ (SqL K H c (vl l) ∨ H c = some (.tup (vl l))) ∧
  ∀ (H' : Hp) (a : Addr), SpAt CS H' p a [] l → H a = none → (∀ b o, H b = some o → b ≠ p → H' b = some o) → Q .non H'
theorem ok_g_init {fd : FuncData} {k : Nat} (F : Fun K "__init__" "Spelling.__init__" sGInit fG fd) (T : TxtG K mg CS fG fT fU) (B : TxtB mg) : FnOk P w K mg base CX0 (k + 1) fG fd ["self", "letters"] (spGInit K CS) := by
  refine F.ok scGInit (fun vs H Q E h => ?_) (fun cdv A outer s H vs Q E hr h => ?_)
  · obtain ⟨p, dx, c, l, rfl, _⟩ := h
    rfl
  · obtain ⟨p, dx, c, l, rfl, hp, hc, q⟩ := h
    refine ⟨_, pss_cons (ps_fld (pv 0) (pe_lst pa_nil) rfl) (pss_one (ps_fld (pv 0) (pe_callTy call_tuple_of (by rfl) B.tuple (by decide +kernel) (pa_cons (pv 1) pa_nil)) rfl)), ?_⟩
    refine ⟨Nat.zero_le _, fun a na => ?_⟩
    have nap : a ≠ p := fun e => by rw [e, hp] at na; cases na
    have p1 : upd H a (.lst []) p = some (.ins CS dx []) := by rw [upd_ne (Ne.symm nap)]; exact hp
    refine ⟨_, rfl, p, CS, dx, [], rfl, p1, T.cl, T.nS, (by show 0 < 1000; decide), ?_⟩
    have ks : ∀ b o, H b = some o → b ≠ p → upd (upd H a (.lst [])) p (.ins CS dx (putF "sounds" (.ref a) [])) b = some o := fun b o e hb => by
      rw [upd_ne hb]
      exact same_upd na _ _ e
    -- what is left once the letters stand at b
    have go : ∀ (H2 : Hp) (b : Addr), (∀ x o, upd (upd H a (.lst [])) p (.ins CS dx (putF "sounds" (.ref a) [])) x = some o → H2 x = some o) → H2 b = some (.tup (vl l)) →
        ∃ p' C' dx' fs, V.ref p = .ref p' ∧ H2 p' = some (.ins C' dx' fs) ∧ Cls K C' ∧ NoAttr K C' "left" ∧ fs.length < 1000 ∧ Q .non (upd H2 p' (.ins C' dx' (putF "left" (.ref b) fs))) := by
      intro H2 b sm hb
      have hp2 := sm _ _ (upd_same (H := upd H a (.lst [])) (a := p) (o := .ins CS dx (putF "sounds" (.ref a) [])))
      have ha2 : H2 a = some (.lst []) := sm _ _ (by rw [upd_ne nap]; exact upd_same)
      have hbp : b ≠ p := fun e => by rw [e, hp2] at hb; cases hb
      refine ⟨p, CS, dx, _, rfl, hp2, T.cl, T.nL, (by show 1 < 1000; decide), q _ a ⟨dx, b, ?_, ?_, ?_⟩ na fun x o e hx => ?_⟩
      · rw [upd_same]
        exact congrArg (fun z => some (HO.ins CS dx z)) (gF_new a b)
      · rw [upd_ne nap]
        exact ha2
      · rw [upd_ne hbp]
        exact hb
      · rw [upd_ne hx]
        exact sm _ _ (ks _ _ e hx)
    have hcp : (∀ xs, c = p → ¬ H c = some (.tup xs)) := fun xs e h => by rw [e, hp] at h; cases h
    rcases hc with hc | hc
    · have hc2 := seq_upd (o := .ins CS dx (putF "sounds" (.ref a) [])) (fun x e => by rw [p1] at e; cases e) (fun o x e => by rw [p1] at e; cases e) ((same_upd (o := .lst []) na).seq hc) fun z o e hz => by rw [upd_ne hz]; exact e
      refine ⟨_, rfl, c, _, rfl, .inl ⟨hc2, fun b nb => ⟨_, rfl, ?_⟩⟩⟩
      exact go _ b (same_upd nb) upd_same
    · have hc2 := ks _ _ hc fun e => hcp _ e hc
      refine ⟨_, rfl, c, _, rfl, .inr ⟨SqT.of hc2, ⟨_, rfl, ?_⟩⟩⟩
      exact go _ c (fun _ _ h => h) hc2
def spGTake (CS C : Addr) : Sp := fun vs H Q _ => ∃ (p d a : Addr) (U : List Sy.Rule) (c : Nat) (l snd : List Nat), vs = [.ref p, .ref d] ∧ SpAt CS H p a snd (c :: l) ∧ TabR C H d U ∧ Good U ∧ snd.length ≤ 1000000 ∧ l.length ≤ 10000 ∧
  ∀ H' : Hp, But [p, a] H H' → SpAt CS H' p a (snd ++ (stepM U c l).1) (stepM U c l).2 → Q .non H'
theorem ok_g_take {fL : Addr} {fd fdL : FuncData} {k : Nat} (F : Fun K "take" "Spelling.take" sGTake fT fd) (T : TxtG K mg CS fG fT fU) (TR : TxtR K mg C fI fZ) (B : TxtB mg) (hne : CS ≠ C)
    (FL : Fun K "longest_rule" "longest_rule" sLongest fL fdL) (bL : Binds K fdL ["table", "left"] []) (gL : mg "longest_rule" = some (.ref fL)) :
    FnOk P w K mg base CX0 (k + 1 + 1) fT fd ["self", "table"] (spGTake CS C) := by
  have GL : FnOk P w K mg base CX0 (k + 1) fL fdL ["table", "left"] (spLongest C) := ok_longest FL TR
  refine F.ok scGTake (fun vs H Q E h => ?_) (fun cdv A outer s H vs Q E hr h => ?_)
  · obtain ⟨p, d, a, U, c, l, snd, rfl, _⟩ := h
    rfl
  · obtain ⟨p, d, a, U, c, l, snd, rfl, hSp, hT, g, hs, hl, q⟩ := h
    have nd := scGTake.nd
    refine ⟨_, pss_cons (ps_set (i := 2) nd rfl (.inl rfl) (pe_call GL hr (by rfl) gL FL.kp bL .nil pass0 (pa_cons (pv 1) (pa_cons (pe_fld (pv 0) rfl) pa_nil))))
      (pss_one (ps_if (pt_cmpR op_isN (pv 2) pe_non (nomark _))
        (pss_cons (ps_expr (pe_bm PySem.F.plainAttrs_list PySem.F.slot_list_append PySem.F.type_list_append mt_append (pe_fld (pv 0) rfl) (pa_cons (pe_ix ix_tup (pe_fld (pv 0) rfl) pe_int (fun _ _ => rfl)) pa_nil)))
        (pss_one (ps_fld (pv 0) (pe_slice sl_tupA (pe_fld (pv 0) rfl) (po_some pe_int) po_none) rfl)))
        (pss_cons (ps_expr (pe_bm PySem.F.plainAttrs_list PySem.F.slot_list_extend PySem.F.type_list_extend mt_extendT (pe_fld (pv 0) rfl) (pa_cons (pe_fld (pv 2) rfl) pa_nil)))
        (pss_one (ps_fld (pv 0) (pe_op op_catA (pe_fld (pv 2) rfl) (pe_slice sl_tupA (pe_fld (pv 0) rfl) (po_some (pe_callB call_len_seq (by rfl) B.len PySem.boot_len (pa_cons (pe_fld (pv 2) rfl) pa_nil))) po_none)) rfl))))), ?_⟩
    obtain ⟨dx, b, hp, ha, hb⟩ := hSp
    have hloose := SpAt.loose (C := C) ⟨dx, b, hp, ha, hb⟩ hne
    refine ⟨_, rfl, _, rfl, p, CS, dx, _, _, rfl, hp, T.cl, T.nL, gF_l a b, d, b, U, c :: l, rfl, hT, hb, ?_⟩
    have hap : a ≠ p := fun e => by rw [e, hp] at ha; cases ha
    unfold stepM at q
    unfold SomeR
    cases eG : longestM U (c :: l) with
    | none =>
      rw [eG] at q
      intro H1 s1
      have hp1 := s1 _ _ hp
      have ha1 := s1 _ _ ha
      have hb1 := s1 _ _ hb
      refine ⟨_, rfl, rfl, _, rfl, iteT ?_⟩
      refine ⟨_, rfl, p, CS, dx, _, _, rfl, hp1, T.cl, T.nS, gF_s a b, .inl ⟨rfl, _, SqL.of ha1⟩, _, rfl, p, CS, dx, _, _, rfl, hp1, T.cl, T.nL, gF_l a b, b, _, _, _, rfl, rfl, SqT.of hb1, at_of (j := 0) rfl rfl, a, _, _, rfl, rfl, ha1, ?_, ?_⟩
      · rw [vl_len]
        exact line_of (by omega)
      · have hp2 : upd H1 a (.lst (vl snd ++ [vn c])) p = some (.ins CS dx (gF a b)) := by rw [upd_ne (Ne.symm hap)]; exact hp1
        have hba : b ≠ a := fun e => by rw [e, ha1] at hb1; cases hb1
        have hb2 : upd H1 a (.lst (vl snd ++ [vn c])) b = some (.tup (vl (c :: l))) := by rw [upd_ne hba]; exact hb1
        refine ⟨_, rfl, p, CS, dx, _, _, rfl, hp2, T.cl, T.nL, gF_l a b, _, rfl, ?_⟩
        refine slA_lo hb2 fun e H3 s3 he => ?_
        have hp3 := s3 _ _ hp2
        have hep : e ≠ p := fun z => by rw [z, hp3] at he; cases he
        refine ⟨_, rfl, p, CS, dx, _, rfl, hp3, T.cl, T.nL, (by show 2 < 1000; decide), ?_⟩
        refine q _ ((But.of s1).trans ((But.upd (by simp)).trans ((But.of s3).trans (But.upd (by simp))))) ⟨dx, e, ?_, ?_, ?_⟩
        · rw [upd_same, gF_put]
        · rw [upd_ne hap]
          have := s3 _ _ (upd_same (H := H1) (a := a) (o := .lst (vl snd ++ [vn c])))
          rw [vl_snoc] at this
          exact this
        · rw [upd_ne hep, he]
          have := cut_n (vl (c :: l)) 1
          rw [show ((1 : Nat) : Int) = 1 from rfl] at this
          rw [this]
          rfl
    | some r =>
      rw [eG] at q
      intro H1 pr s1 hR
      have hr1 := longestM_some g eG
      obtain ⟨z1, z2, z3, z4⟩ := short_iff.mp (g.short r hr1.1)
      obtain ⟨dr, la, lb, lc, hpr, hla, hlb, hlc⟩ := hR
      have hp1 := s1 _ _ hp
      have ha1 := s1 _ _ ha
      have hb1 := s1 _ _ hb
      have hpl := hr1.2.1.length_le
      refine ⟨_, rfl, rfl, _, rfl, iteF ?_⟩
      refine ⟨_, rfl, p, CS, dx, _, _, rfl, hp1, T.cl, T.nS, gF_s a b, .inl ⟨rfl, _, SqL.of ha1⟩, _, rfl, pr, C, dr, _, _, rfl, hpr, TR.cl, TR.nS, rF_s la lb lc, a, lb, _, _, rfl, rfl, ha1, SqT.of hlb, ?_, ?_⟩
      · rw [vl_len, vl_len]
        exact line_le (by omega)
      · have keep : ∀ {u : Addr} {o : HO}, H1 u = some o → (∀ x, o ≠ .lst x) → upd H1 a (.lst (vl snd ++ vl r.sounds)) u = some o := fun {u o} e n => by
          rw [upd_ne fun z => by rw [z, ha1] at e; exact n _ (Option.some.inj e).symm]
          exact e
        have hp2 := keep hp1 (by intro x e; cases e)
        have hpr2 := keep hpr (by intro x e; cases e)
        have hla2 := keep hla (by intro x e; cases e)
        have hlc2 := keep hlc (by intro x e; cases e)
        have hb2 := keep hb1 (by intro x e; cases e)
        refine ⟨_, rfl, pr, C, dr, _, _, rfl, hpr2, TR.cl, TR.nB, rF_b la lb lc, _, rfl, p, CS, dx, _, _, rfl, hp2, T.cl, T.nL, gF_l a b, _, rfl, pr, C, dr, _, _, rfl, hpr2, TR.cl, TR.nL, rF_l la lb lc, la, _, rfl, .inr (SqT.of hla2), _, rfl, ?_⟩
        refine slA_lo hb2 fun e H3 s3 he => ?_
        have ecut : cutV (vl (c :: l)) (some (((vl r.letters).length : Nat) : Int)) none = vl ((c :: l).drop r.letters.length) := by rw [vl_len, cut_n, vl_drop]
        rw [ecut] at he
        refine catA_any (s3 _ _ hlc2) he ?_ fun e2 H4 s4 he2 => ?_
        · rw [vl_len, vl_len, List.length_drop]
          exact line_le (by simp only [List.length_cons]; omega)
        have hp4 := s4 _ _ (s3 _ _ hp2)
        have ha4 := s4 _ _ (s3 _ _ (upd_same (H := H1) (a := a) (o := .lst (vl snd ++ vl r.sounds))))
        have hep : e2 ≠ p := fun z => by rw [z, hp4] at he2; cases he2
        refine ⟨_, rfl, p, CS, dx, _, rfl, hp4, T.cl, T.nL, (by show 2 < 1000; decide), ?_⟩
        refine q _ ((But.of s1).trans ((But.upd (by simp)).trans ((But.of (s3.trans s4)).trans (But.upd (by simp))))) ⟨dx, e2, ?_, ?_, ?_⟩
        · rw [upd_same, gF_put]
        · rw [upd_ne hap, ha4, vl_append]
        · rw [upd_ne hep, he2, vl_append]
end
end SpA
set_option Elab.async false
set_option linter.all false
set_option maxRecDepth 100000
set_option maxHeartbeats 4000000
namespace SpA
open PySem PySem.Spec PyProof.Rows L2
/-! ### the beginnings, as a dict -/
/-- the keys are the rows of which Pr holds -/
structure KeysAre (kvs : List (List Key × V)) (Pr : List Nat → Prop) : Prop where
  look : ∀ l, (valV kvs (kT l)).isSome = true ↔ Pr l
  keys : ∀ kv ∈ kvs, ∃ l, kv.1 = kT l ∧ Pr l
theorem mem_putK {kvs : List (List Key × V)} {k : List Key} {v : V} {kv : List Key × V} (h : kv ∈ putK kvs k v) : kv.1 = k ∨ ∃ kv' ∈ kvs, kv.1 = kv'.1 := by
  unfold putK at h
  split at h
  · obtain ⟨q, h1, h2⟩ := List.mem_map.mp h
    by_cases c : q.1 = k
    · rw [if_pos c] at h2
      exact .inl (by rw [← h2]; exact c)
    · rw [if_neg c] at h2
      exact .inr ⟨q, h1, by rw [h2]⟩
  · rcases List.mem_append.mp h with h | h
    · exact .inr ⟨kv, h, rfl⟩
    · rw [List.mem_singleton.mp h]
      exact .inl rfl
theorem KeysAre.put {kvs : List (List Key × V)} {Pr Pr2 : List Nat → Prop} (h : KeysAre kvs Pr) (n : List Nat) (v : V) (e : ∀ l, Pr2 l ↔ Pr l ∨ l = n) : KeysAre (putK kvs (kT n) v) Pr2 := by
  refine ⟨fun l => ?_, fun kv hkv => ?_⟩
  · rw [valV_put, e]
    by_cases c : l = n
    · rw [if_pos (by rw [c])]
      simp [c]
    · rw [if_neg fun z => c (kT_inj z), h.look]
      simp [c]
  · rcases mem_putK hkv with h1 | ⟨q, h1, h2⟩
    · exact ⟨n, h1, (e n).mpr (.inr rfl)⟩
    · obtain ⟨l, k1, k2⟩ := h.keys q h1
      exact ⟨l, h2.trans k1, (e l).mpr (.inl k2)⟩
theorem KeysAre.congr {kvs : List (List Key × V)} {Pr Pr2 : List Nat → Prop} (h : KeysAre kvs Pr) (e : ∀ l, Pr2 l ↔ Pr l) : KeysAre kvs Pr2 :=
  ⟨fun l => (h.look l).trans (e l).symm, fun kv hkv => let ⟨l, k1, k2⟩ := h.keys kv hkv; ⟨l, k1, (e l).mpr k2⟩⟩
structure BegK (kvs : List (List Key × V)) (U : List Sy.Rule) : Prop where
  are : KeysAre kvs fun l => halts U l = true
  len : kvs.length ≤ 1000
theorem BegK.look {kvs : List (List Key × V)} {U : List Sy.Rule} (h : BegK kvs U) (l : List Nat) : (valV kvs (kT l)).isSome = halts U l := Bool.eq_iff_iff.mpr (h.are.look l)
def BegR (H : Hp) (b : Addr) (U : List Sy.Rule) : Prop := ∃ kvs, Rd H b (.dT kvs) ∧ BegK kvs U
def BegAt (H : Hp) (b : Addr) (U : List Sy.Rule) : Prop := ∃ kvs, H b = some (.dT kvs) ∧ BegK kvs U
theorem BegAt.r {H : Hp} {b : Addr} {U : List Sy.Rule} (h : BegAt H b U) : BegR H b U := let ⟨kvs, h1, h2⟩ := h; ⟨kvs, .inl h1, h2⟩
theorem BegR.same {H H' : Hp} {b : Addr} {U : List Sy.Rule} (h : BegR H b U) (s : Same H H') : BegR H' b U := let ⟨kvs, h1, h2⟩ := h; ⟨kvs, rd_same s h1, h2⟩
theorem BegAt.same {H H' : Hp} {b : Addr} {U : List Sy.Rule} (h : BegAt H b U) (s : Same H H') : BegAt H' b U := let ⟨kvs, h1, h2⟩ := h; ⟨kvs, s _ _ h1, h2⟩
theorem BegR.butL {C : Addr} {L : List Addr} {H H' : Hp} {b : Addr} {U : List Sy.Rule} (hL : ∀ y ∈ L, Loose C (H y)) (h : BegR H b U) (k : But L H H') : BegR H' b U := let ⟨kvs, h1, h2⟩ := h; ⟨kvs, rd_but hL h1 k, h2⟩
theorem halts_iff {U : List Sy.Rule} {l : List Nat} : halts U l = true ↔ l = [] ∨ ∃ r ∈ U, l <+: r.letters ∧ l.length < r.letters.length := by
  unfold halts
  rw [Bool.or_eq_true, List.isEmpty_iff, waits_iff]
/-! ### a walk over the keys of a dict that is locked -/
theorem for_keysT {d : Addr} {o : Obj} {kvs : List (List Key × V)} {g : TG} {tb : TS} {D : Ends} {σ : L2.St} {H : Hp} (Pv : Nat → L2.St → Hp → Prop) (h0 : Pv 0 σ H) (hl : ∀ i σ H, i ≤ kvs.length → Pv i σ H → H d = some (.frz o (.dT kvs)))
    (hs : ∀ i k v q σ H, kvs[i]? = some (k, v) → H q = some (.tup (k.map kV)) → Pv i σ H → g (.ref q) σ H fun σ2 H2 => tb { D with nx := Pv (i + 1), ct := Pv (i + 1), bk := D.nx } σ2 H2) (hd : ∀ σ H, Pv kvs.length σ H → D.nx σ H) :
    ∃ W : Nat → Nat → L2.St → Hp → Prop, (∃ m, W 0 m σ H) ∧ ∀ i m σ H, W i m σ H →
      ((Itkt d o kvs).stop i H ∧ D.nx σ H) ∨ ((Itkt d o kvs).go i H ∧ ∃ N : L2.St → Hp → Prop, (∀ σ' H', N σ' H' → ∃ m', m' < m ∧ W (i + 1) m' σ' H') ∧ ∀ x H', (Itkt d o kvs).yld i H x H' → g x σ H' fun σ2 H2 => tb { D with nx := N, ct := N, bk := D.nx } σ2 H2) := by
  refine ⟨fun i m σ H => m = kvs.length - i ∧ i ≤ kvs.length ∧ Pv i σ H, ⟨kvs.length, by simp, Nat.zero_le _, h0⟩, ?_⟩
  rintro i m σ H ⟨rfl, hi, p⟩
  have hf := hl i σ H hi p
  by_cases hlt : i < kvs.length
  · refine .inr ⟨⟨hf, hlt⟩, Pv (i + 1), fun σ' H' q => ⟨kvs.length - (i + 1), by omega, rfl, hlt, q⟩, ?_⟩
    rintro x H' ⟨rfl, k, v, q, e, rfl, eq⟩
    exact hs i k v q σ _ e eq p
  · obtain rfl : i = kvs.length := by omega
    exact .inl ⟨⟨hf, Nat.le_refl _⟩, hd σ H p⟩
theorem same_unlock {H H' : Hp} {d : Addr} {od : Obj} {u : HO} (hd : H d = some u) (s : Same (upd H d (.frz od u)) H') : Same H (upd H' d u) := fun x o e => by
  by_cases c : x = d
  · subst c
    rw [upd_same, ← hd]
    exact e
  · rw [upd_ne c]
    exact s x o (by rw [upd_ne c]; exact e)
section
variable {P : Program} {w : World} {K : PySem.W.Frag} {mg : Str → Option Value} {base : Heap} {C CS fI fZ fT fU fG : Addr}
/-! ### take_what_is_sure -/
def spGSure (CS C : Addr) : Sp := fun vs H Q _ => ∃ (p d b a : Addr) (U : List Sy.Rule) (l snd : List Nat), vs = [.ref p, .ref d, .ref b] ∧ SpAt CS H p a snd l ∧ TabR C H d U ∧ BegR H b U ∧ Good U ∧ snd.length + 4 * l.length ≤ 100000 ∧ l.length ≤ 10000 ∧
  ∀ H' : Hp, But [p, a] H H' → SpAt CS H' p a (snd ++ (Sy.sure U l).1) (Sy.sure U l).2 → Q .non H'
theorem ok_g_sure {fd fdT : FuncData} {k : Nat} (F : Fun K "take_what_is_sure" "Spelling.take_what_is_sure" sGSure fU fd) (T : TxtG K mg CS fG fT fU) (hne : CS ≠ C)
    (GT : FnOk P w K mg base CX0 (k + 1) fT fdT ["self", "table"] (spGTake CS C)) (bT : Binds K fdT ["self", "table"] []) :
    FnOk P w K mg base CX0 (k + 1 + 1) fU fd ["self", "table", "begun"] (spGSure CS C) := by
  refine F.ok scGSure (fun vs H Q E h => ?_) (fun cdv A outer s H vs Q E hr h => ?_)
  · obtain ⟨p, d, b, a, U, l, snd, rfl, _⟩ := h
    rfl
  · obtain ⟨p, d, b, a, U, l, snd, rfl, hSp, hT, hB, g, hs, hl, q⟩ := h
    refine ⟨_, pss_one (ps_while PassesOwn.never (pt_cmp (pc_dnotin (hu_of hr) (pe_fld (pv 0) rfl) (pv 2))) (pss_one (ps_expr (pe_meth (pv 0) T.cl T.mT GT hr bT .nil pass0 (pa_cons (pv 1) pa_nil))))), ?_⟩
    refine ⟨fun m σ H' => ∃ (l2 snd2 : List Nat), σ = [some (.ref p), some (.ref d), some (.ref b)] ∧ m = l2.length ∧ But [p, a] H H' ∧ SpAt CS H' p a snd2 l2 ∧ snd ++ (Sy.sure U l).1 = snd2 ++ (Sy.sure U l2).1 ∧ (Sy.sure U l).2 = (Sy.sure U l2).2 ∧ snd2.length + 4 * l2.length ≤ 100000 ∧ l2.length ≤ 10000,
      ⟨_, l, snd, rfl, rfl, But.refl, hSp, rfl, rfl, hs, hl⟩, ?_⟩
    rintro m σ H' ⟨l2, snd2, rfl, rfl, bt, hSp2, e1, e2, hs2, hl2⟩
    have loose := hSp.loose (C := C) hne
    have hT2 := hT.butL loose bt
    have hB2 := hB.butL loose bt
    obtain ⟨dx, lf, hp, ha, hlf⟩ := id hSp2
    obtain ⟨kvs, hb, hk⟩ := hB2
    refine ⟨_, rfl, p, CS, dx, _, _, rfl, hp, T.cl, T.nL, gF_l a lf, _, rfl, b, _, rfl, dget_r hb hlf, _, rfl, ?_⟩
    rw [hk.look]
    cases eh : halts U l2 with
    | true =>
      refine iteF ?_
      have := sure_halt eh
      rw [this, List.append_nil] at e1
      rw [this] at e2
      refine q H' bt ?_
      rw [e1, e2]
      exact hSp2
    | false =>
      refine iteT ⟨_, fun σ' H' h => h, ?_⟩
      cases l2 with
      | nil => cases eh
      | cons c l2 =>
        have hw : Sy.waits U (c :: l2) = false := eh
        have hst := sure_step g hw
        have hless := stepM_less g c l2
        have htold := stepM_told g c l2
        rw [hst] at e1 e2
        simp only [List.length_cons] at hs2 hl2
        refine ⟨_, rfl, p, dx, _, rfl, hp, gF_t a lf, _, rfl, p, d, a, U, c, l2, snd2, rfl, hSp2, hT2, g, by omega, by omega, fun H3 b3 hSp3 => ?_⟩
        refine ⟨(stepM U c l2).2.length, Nat.lt_succ_of_le hless, (stepM U c l2).2, snd2 ++ (stepM U c l2).1, rfl, rfl, bt.trans b3, hSp3, ?_, e2, ?_, by omega⟩
        · rw [e1, List.append_assoc]
        · rw [List.length_append]
          omega
/-! ### spelled, spelled_so_far -/
def spSpelled (K : PySem.W.Frag) (C : Addr) : Sp := fun vs H Q _ => ∃ (d a : Addr) (U : List Sy.Rule) (l : List Nat), vs = [.ref d, .ref a] ∧ TabR C H d U ∧ Good U ∧ (SqL K H a (vl l) ∨ H a = some (.tup (vl l))) ∧ l.length ≤ 1000 ∧
  ∀ H' p, Same H H' → H p = none → H' p = some (.lst (vl (spelled U l))) → Q (.ref p) H'
theorem seqs_keep {K : PySem.W.Frag} {H H' : Hp} {a : Addr} {xs : List V} (h : SqL K H a xs ∨ H a = some (.tup xs)) (s : Same H H') : SqL K H' a xs ∨ H' a = some (.tup xs) := h.elim (fun h => .inl (s.seq h)) fun h => .inr (s _ _ h)
/-- an object is made: what stood ahead of it stands -/
theorem same_made {H : Hp} {C x dx : Addr} (nx : H x = none) (nd : H dx = none) : Same H (upd (upd H dx (.own x)) x (.ins C dx [])) := fun z o hz => by
  rw [upd_ne (ne_of_none hz nx), upd_ne (ne_of_none hz nd)]
  exact hz
theorem ok_spelled {f : Addr} {fd fdG fdT : FuncData} {k : Nat} (F : Fun K "spelled" "spelled" sSpelled f fd) (T : TxtG K mg CS fG fT fU) (hne : CS ≠ C)
    (GG : FnOk P w K mg base CX0 (k + 1) fG fdG ["self", "letters"] (spGInit K CS)) (bG : Binds K fdG ["self", "letters"] [])
    (GT : FnOk P w K mg base CX0 (k + 1 + 1) fT fdT ["self", "table"] (spGTake CS C)) (bT : Binds K fdT ["self", "table"] []) :
    FnOk P w K mg base CX0 (k + 1 + 1 + 1) f fd ["table", "letters"] (spSpelled K C) := by
  refine F.ok scSpelled (fun vs H Q E h => ?_) (fun cdv A outer s H vs Q E hr h => ?_)
  · obtain ⟨d, a, U, l, rfl, _⟩ := h
    rfl
  · obtain ⟨d, a, U, l, rfl, hT, g, hS, hl, q⟩ := h
    have nd := scSpelled.nd
    refine ⟨_, pss_cons (ps_set (i := 2) nd rfl (.inl rfl) (pe_make T.mkC GG hr (by rfl) T.gC bG .nil pass0 (pa_cons (pv 1) pa_nil)))
      (pss_cons (ps_while PassesOwn.never (pt_truth (pe_fld (pv 2) rfl) (by intro _; rfl)) (pss_one (ps_expr (pe_meth (pv 2) T.cl T.mT GT hr bT .nil pass0 (pa_cons (pv 0) pa_nil)))))
      (pss_one (ps_ret (pe_fld (pv 2) rfl)))), ?_⟩
    refine ⟨_, rfl, fun x dx nx ndx ne => ?_⟩
    have sm := same_made (C := CS) nx ndx
    refine ⟨x, dx, a, l, rfl, upd_same, seqs_keep hS sm, fun H1 y hSp na kp => ⟨rfl, ?_⟩⟩
    have s1 : Same H H1 := Same.made nx ndx kp
    have nyH : H y = none := sm.free na
    have tot := spelled_len g l
    refine ⟨fun m σ H' => ∃ (l2 snd2 : List Nat), σ = [some (.ref d), some (.ref a), some (.ref x)] ∧ m = l2.length ∧ Same H H' ∧ SpAt CS H' x y snd2 l2 ∧ spelled U l = snd2 ++ spelled U l2 ∧ l2.length ≤ 1000,
      ⟨_, l, [], rfl, rfl, s1, hSp, rfl, hl⟩, ?_⟩
    rintro m σ H' ⟨l2, snd2, rfl, rfl, sm2, hSp2, e1, hl2⟩
    obtain ⟨dx2, lf, hp, ha, hlf⟩ := id hSp2
    refine ⟨_, rfl, x, CS, dx2, _, _, rfl, hp, T.cl, T.nL, gF_l y lf, _, .inr (.inl ⟨_, SqT.of hlf, rfl⟩), ?_⟩
    cases l2 with
    | nil =>
      refine iteF ?_
      rw [spelled_nil, List.append_nil] at e1
      refine ⟨_, rfl, x, CS, dx2, _, _, rfl, hp, T.cl, T.nS, gF_s y lf, q H' y sm2 nyH ?_⟩
      rw [e1]
      exact ha
    | cons c l2 =>
      refine iteT ⟨_, fun σ' H' h => h, ?_⟩
      have hless := stepM_less g c l2
      rw [spelled_cons g] at e1
      have hsl := congrArg List.length e1
      rw [List.length_append] at hsl
      simp only [List.length_cons] at hl2
      refine ⟨_, rfl, x, dx2, _, rfl, hp, gF_t y lf, _, rfl, x, d, y, U, c, l2, snd2, rfl, hSp2, hT.same sm2, g, by omega, by omega, fun H3 b3 hSp3 => ?_⟩
      refine ⟨(stepM U c l2).2.length, Nat.lt_succ_of_le hless, (stepM U c l2).2, snd2 ++ (stepM U c l2).1, rfl, rfl, b3.new sm2 (fun z hz => ?_), hSp3, ?_, by omega⟩
      · rcases List.mem_cons.mp hz with rfl | hz
        · exact nx
        · rw [List.mem_singleton.mp hz]
          exact nyH
      · rw [e1, List.append_assoc]
def spSoFar (K : PySem.W.Frag) (CS C : Addr) : Sp := fun vs H Q _ => ∃ (d b a : Addr) (U : List Sy.Rule) (l : List Nat), vs = [.ref d, .ref b, .ref a] ∧ TabR C H d U ∧ BegR H b U ∧ Good U ∧ (SqL K H a (vl l) ∨ H a = some (.tup (vl l))) ∧ l.length ≤ 1000 ∧
  ∀ H' p y, Same H H' → H p = none → H y = none → SpAt CS H' p y (Sy.sure U l).1 (Sy.sure U l).2 → Q (.ref p) H'
theorem ok_so_far {f : Addr} {fd fdG fdU : FuncData} {k : Nat} (F : Fun K "spelled_so_far" "spelled_so_far" sSoFar f fd) (T : TxtG K mg CS fG fT fU) (hne : CS ≠ C)
    (GG : FnOk P w K mg base CX0 (k + 1) fG fdG ["self", "letters"] (spGInit K CS)) (bG : Binds K fdG ["self", "letters"] [])
    (GU : FnOk P w K mg base CX0 (k + 1 + 1) fU fdU ["self", "table", "begun"] (spGSure CS C)) (bU : Binds K fdU ["self", "table", "begun"] []) :
    FnOk P w K mg base CX0 (k + 1 + 1 + 1) f fd ["table", "begun", "letters"] (spSoFar K CS C) := by
  refine F.ok scSoFar (fun vs H Q E h => ?_) (fun cdv A outer s H vs Q E hr h => ?_)
  · obtain ⟨d, b, a, U, l, rfl, _⟩ := h
    rfl
  · obtain ⟨d, b, a, U, l, rfl, hT, hB, g, hS, hl, q⟩ := h
    have nd := scSoFar.nd
    refine ⟨_, pss_cons (ps_set (i := 3) nd rfl (.inl rfl) (pe_make T.mkC GG hr (by rfl) T.gC bG .nil pass0 (pa_cons (pv 2) pa_nil)))
      (pss_cons (ps_expr (pe_meth (pv 3) T.cl T.mU GU hr bU .nil pass0 (pa_cons (pv 0) (pa_cons (pv 1) pa_nil))))
      (pss_one (ps_ret (pv 3)))), ?_⟩
    refine ⟨_, rfl, fun x dx nx ndx ne => ?_⟩
    have sm := same_made (C := CS) nx ndx
    refine ⟨x, dx, a, l, rfl, upd_same, seqs_keep hS sm, fun H1 y hSp na kp => ⟨rfl, ?_⟩⟩
    have s1 : Same H H1 := Same.made nx ndx kp
    have nyH : H y = none := sm.free na
    obtain ⟨dx2, lf, hp, ha, hlf⟩ := id hSp
    refine ⟨_, rfl, x, dx2, _, rfl, hp, gF_u y lf, _, rfl, _, rfl, x, d, b, y, U, l, [], rfl, hSp, hT.same s1, hB.same s1, g, by simp; omega, by omega, fun H3 b3 hSp3 => ?_⟩
    refine ⟨_, rfl, q H3 x y (b3.new s1 fun z hz => ?_) nx nyH hSp3⟩
    rcases List.mem_cons.mp hz with rfl | hz
    · exact nx
    · rw [List.mem_singleton.mp hz]
      exact nyH
/-! ### what open letters give when no rule goes on -/
def spWithout (CS C : Addr) : Sp := fun vs H Q _ => ∃ (d b a : Addr) (U : List Sy.Rule) (l : List Nat), vs = [.ref d, .ref b, .ref a] ∧ TabR C H d U ∧ BegR H b U ∧ Good U ∧ H a = some (.tup (vl l)) ∧ l.length ≤ 1000 ∧
  ∀ H' p y, Same H H' → H p = none → H y = none → SpAt CS H' p y (given U l).1 (given U l).2 → Q (.ref p) H'
theorem ok_without {f : Addr} {fd fdG fdT fdU : FuncData} {k : Nat} (F : Fun K "spelled_without_more" "spelled_without_more" sWithout f fd) (T : TxtG K mg CS fG fT fU) (hne : CS ≠ C)
    (GG : FnOk P w K mg base CX0 (k + 1) fG fdG ["self", "letters"] (spGInit K CS)) (bG : Binds K fdG ["self", "letters"] [])
    (GT : FnOk P w K mg base CX0 (k + 1 + 1) fT fdT ["self", "table"] (spGTake CS C)) (bT : Binds K fdT ["self", "table"] [])
    (GU : FnOk P w K mg base CX0 (k + 1 + 1) fU fdU ["self", "table", "begun"] (spGSure CS C)) (bU : Binds K fdU ["self", "table", "begun"] []) :
    FnOk P w K mg base CX0 (k + 1 + 1 + 1) f fd ["table", "begun", "letters"] (spWithout CS C) := by
  refine F.ok scWithout (fun vs H Q E h => ?_) (fun cdv A outer s H vs Q E hr h => ?_)
  · obtain ⟨d, b, a, U, l, rfl, _⟩ := h
    rfl
  · obtain ⟨d, b, a, U, l, rfl, hT, hB, g, hS, hl, q⟩ := h
    have nd := scWithout.nd
    refine ⟨_, pss_cons (ps_set (i := 3) nd rfl (.inl rfl) (pe_make T.mkC GG hr (by rfl) T.gC bG .nil pass0 (pa_cons (pv 2) pa_nil)))
      (pss_cons (ps_if (pt_truth (pv 2) (by intro _; rfl)) (pss_one (ps_expr (pe_meth (pv 3) T.cl T.mT GT hr bT .nil pass0 (pa_cons (pv 0) pa_nil)))) pss_nil)
      (pss_cons (ps_expr (pe_meth (pv 3) T.cl T.mU GU hr bU .nil pass0 (pa_cons (pv 0) (pa_cons (pv 1) pa_nil))))
      (pss_one (ps_ret (pv 3))))), ?_⟩
    refine ⟨_, rfl, fun x dx nx ndx ne => ?_⟩
    have sm := same_made (C := CS) nx ndx
    refine ⟨x, dx, a, l, rfl, upd_same, .inr (sm _ _ hS), fun H1 y hSp na kp => ⟨rfl, ?_⟩⟩
    have s1 : Same H H1 := Same.made nx ndx kp
    have nyH : H y = none := sm.free na
    have hxy : ∀ z ∈ [x, y], H z = none := fun z hz => by
      rcases List.mem_cons.mp hz with rfl | hz
      · exact nx
      · rw [List.mem_singleton.mp hz]
        exact nyH
    -- what is left once some are told
    have go : ∀ (H2 : Hp) (l2 snd2 : List Nat), Same H H2 → SpAt CS H2 x y snd2 l2 → snd2.length ≤ 4 → l2.length ≤ 1000 → (given U l).1 = snd2 ++ (Sy.sure U l2).1 → (given U l).2 = (Sy.sure U l2).2 →
        tSeq (tDrop (tMeth CS "take_what_is_sure" (spGSure CS C) [] E0 (tVar 3) (tCons (tVar 0) (tCons (tVar 1) tNil)))) (tRet (tVar 3)) { nx := fun _ H' => Q .non H', rt := Q } [some (.ref d), some (.ref b), some (.ref a), some (.ref x)] H2 := by
      intro H2 l2 snd2 s2 hSp2 hs2 hl2 e1 e2
      obtain ⟨dx2, lf, hp, ha, hlf⟩ := id hSp2
      refine ⟨_, rfl, x, dx2, _, rfl, hp, gF_u y lf, _, rfl, _, rfl, x, d, b, y, U, l2, snd2, rfl, hSp2, hT.same s2, hB.same s2, g, by omega, by omega, fun H3 b3 hSp3 => ?_⟩
      refine ⟨_, rfl, q H3 x y (b3.new s2 hxy) nx nyH ?_⟩
      rw [e1, e2]
      exact hSp3
    have hS1 := s1 _ _ hS
    refine ⟨_, rfl, _, .inr (.inl ⟨_, SqT.of hS1, rfl⟩), ?_⟩
    cases l with
    | nil =>
      refine iteF ?_
      exact go H1 [] [] s1 hSp (by simp) (by simp) rfl rfl
    | cons c l =>
      refine iteT ?_
      obtain ⟨dx2, lf, hp, ha, hlf⟩ := id hSp
      have hless := stepM_less g c l
      have htold := stepM_told g c l
      simp only [List.length_cons] at hl
      refine ⟨_, rfl, x, dx2, _, rfl, hp, gF_t y lf, _, rfl, x, d, y, U, c, l, [], rfl, hSp, hT.same s1, g, by simp, by omega, fun H3 b3 hSp3 => ?_⟩
      exact go H3 (stepM U c l).2 (stepM U c l).1 (b3.new s1 hxy) hSp3 htold (by omega) rfl rfl
/-! ### beginnings -/
/-- the beginnings of i rules, and of the next the first j -/
def begP (U : List Sy.Rule) (i j : Nat) (l : List Nat) : Prop := l = [] ∨ (∃ r ∈ U.take i, l <+: r.letters ∧ l.length < r.letters.length) ∨ ∃ r, U[i]? = some r ∧ l <+: r.letters ∧ l.length ≤ j
def spBegs (C : Addr) : Sp := fun vs H Q _ => ∃ (d : Addr) (U : List Sy.Rule), vs = [.ref d] ∧ TabAt C H d U ∧ Good U ∧ ∀ H' b, Same H H' → H b = none → BegAt H' b U → Q (.ref b) H'
theorem tabV_at {C : Addr} {H : Hp} : ∀ {kvs : List (List Key × V)} {T : List Sy.Rule} {i : Nat} {k : List Key} {v : V}, TabV C H kvs T → kvs[i]? = some (k, v) → ∃ r, T[i]? = some r ∧ k = kT r.letters
  | [], [], _, _, _, _, e => by cases e
  | _ :: _, [], _, _, _, h, _ => h.elim
  | [], _ :: _, _, _, _, h, _ => h.elim
  | kv :: kvs, r :: T, 0, k, v, h, e => by
    have e := Option.some.inj e
    exact ⟨r, rfl, by rw [← h.1.1, e]⟩
  | kv :: kvs, r :: T, i + 1, k, v, h, e => tabV_at (T := T) (i := i) h.2 e
theorem ok_begs {f : Addr} {fd : FuncData} {k : Nat} (F : Fun K "beginnings" "beginnings" sBegs f fd) (B : TxtB mg) : FnOk P w K mg base CX0 (k + 1) f fd ["table"] (spBegs C) := by
  refine F.ok scBegs (fun vs H Q E h => ?_) (fun cdv A outer s H vs Q E hr h => ?_)
  · obtain ⟨d, U, rfl, _⟩ := h
    rfl
  · obtain ⟨d, U, rfl, hT, g, q⟩ := h
    have nd := scBegs.nd
    have hu : (cxOf CX0 P w K mg base ["table", "begun", "letters", "size"] "beginnings" (defScope sBegs) f cdv A outer s H E).nox.A.units + 64 < cLine := by have := hr.un; show (A.deeper _).units + 64 < cLine; omega
    refine ⟨_, pss_cons (ps_set (i := 1) nd rfl (.inl rfl) (pe_tdisp hu (pe_tup pa_nil) pe_bl))
      (pss_cons (ps_lock (ps_for PassesOwn.never rfl (pi_keys (pv 0)) (pg_name (i := 2) nd rfl (Or.inl rfl))
        (pss_one (ps_for PassesOwn.never rfl (pi_range2 (by rfl) B.range (pa_cons pe_int (pa_cons (pe_callB call_len_seq (by rfl) B.len PySem.boot_len (pa_cons (pv 2) pa_nil)) pa_nil))) (pg_name (i := 3) nd rfl (Or.inl rfl))
          (pss_one (ps_dput (hu_of hr) (pv 1) (pe_slice sl_tupA (pv 2) po_none (po_some (pv 3))) pe_bl rfl))))))
      (pss_one (ps_ret (pv 1)))), ?_⟩
    obtain ⟨kvs, hd, hv⟩ := hT
    intro b nb
    refine ⟨Nat.zero_le _, fun z nz => ?_⟩
    have hbz : b ≠ z := fun e => by rw [← e, upd_same] at nz; cases nz
    refine ⟨z, [], rfl, by rw [upd_ne hbz]; exact upd_same, upd_same, ?_⟩
    have s0 : Same H (upd (upd (upd H b (.dT [])) z (.tup [])) b (.dT [([], .bl true)])) := fun x o e => by
      have hxz : x ≠ z := fun w => by
        rw [← w, upd_ne (ne_of_none e nb), e] at nz
        cases nz
      rw [upd_ne (ne_of_none e nb), upd_ne hxz, upd_ne (ne_of_none e nb)]
      exact e
    generalize hH0 : upd (upd (upd H b (.dT [])) z (.tup [])) b (.dT [([], .bl true)]) = H0 at s0
    have hb0 : H0 b = some (.dT [([], .bl true)]) := by rw [← hH0]; exact upd_same
    have hd0 := s0 _ _ hd
    have hdb : b ≠ d := fun e => by rw [e, hd] at nb; cases nb
    refine ⟨d, _, hd0, trivial, fun od => ?_⟩
    refine ⟨_, rfl, d, od, rfl, .inr ⟨kvs, upd_same, ?_⟩⟩
    have hlen : kvs.length = U.length := hv.length
    have few := g.few
    have k0 : KeysAre [(([] : List Key), V.bl true)] (begP U 0 0) := by
      have e0 : ∀ l, begP U 0 0 l ↔ l = [] := fun l => by
        unfold begP
        constructor
        · rintro (h | ⟨r, h, -⟩ | ⟨r, -, -, h⟩)
          · exact h
          · simp at h
          · exact List.eq_nil_of_length_eq_zero (by omega)
        · exact .inl
      refine ⟨fun l => ?_, fun kv hkv => ⟨[], by rw [List.mem_singleton.mp hkv]; rfl, .inl rfl⟩⟩
      rw [e0]
      by_cases c : l = []
      · subst c
        rw [valV_pos (p := (([] : List Key), V.bl true)) (k := kT []) rfl]
        simp
      · rw [valV_neg (p := (([] : List Key), V.bl true)) (k := kT l) fun z => c (kT_inj (a := []) (b := l) z).symm]
        simp [valV_nil, c]
    refine for_keysT (fun i σ H' => ∃ (y y2 : Option V) (kb : List (List Key × V)), σ = [some (.ref d), some (.ref b), y, y2] ∧ Same (upd H d (.frz od (.dT kvs))) H' ∧ H' b = some (.dT kb) ∧ KeysAre kb (begP U i 0) ∧ kb.length ≤ 1 + 6 * i)
      ⟨none, none, _, rfl, fun x o e => ?_, by rw [upd_ne hdb]; exact hb0, k0, by simp⟩ (fun i σ H' hi h => ?_) (fun i kk v qa σ H' hk hq h => ?_) (fun σ H' h => ?_)
    · by_cases c : x = d
      · subst c
        rw [upd_same] at e ⊢
        exact e
      · rw [upd_ne c] at e ⊢
        exact s0 _ _ e
    · obtain ⟨y, y2, kb, rfl, sm, hb, ka, hl⟩ := h
      exact sm _ _ upd_same
    · obtain ⟨y, y2, kb, rfl, sm, hb, ka, hl⟩ := h
      obtain ⟨r, hr1, rfl⟩ := tabV_at hv hk
      have hrm : r ∈ U := List.mem_of_getElem? hr1
      have hlr := (short_iff.mp (g.short r hrm)).1
      have hi : i < U.length := (List.getElem?_eq_some_iff.mp hr1).1
      have hne := List.length_pos_iff.mpr (g.ne r hrm)
      rw [kT_vl] at hq
      refine ⟨_, rfl, qa, _, rfl, .inr (SqT.of hq), 1, _, rfl, ⟨by omega, by omega, by omega, ?_⟩, ?_⟩
      · show ((List.length _ : Nat) : Int) < 2 ^ 62
        rw [List.length_map]
        omega
      · have en : (((vl r.letters).length : Nat) - 1 : Int).toNat = r.letters.length - 1 := by rw [vl_len]; omega
        show ∃ W : Nat → Nat → L2.St → Hp → Prop, _
        refine for_range (lo := 1) (n := (((vl r.letters).length : Nat) - 1 : Int).toNat) (fun j σ H' => ∃ (y2 : Option V) (kb : List (List Key × V)), σ = [some (.ref d), some (.ref b), some (.ref qa), y2] ∧ Same (upd H d (.frz od (.dT kvs))) H' ∧ H' qa = some (.tup (vl r.letters)) ∧ H' b = some (.dT kb) ∧ KeysAre kb (begP U i j) ∧ kb.length ≤ 1 + 6 * i + j)
          ⟨y2, kb, rfl, sm, hq, hb, ka, by omega⟩ (fun j σ H' hj h => ?_) (fun σ H' h => ?_)
        · obtain ⟨y2, kb, rfl, sm, hq, hb, ka, hl⟩ := h
          rw [en] at hj
          refine ⟨_, rfl, _, rfl, _, rfl, _, rfl, ?_⟩
          refine slA_any hq fun c H3 s3 hc => ?_
          have ec : cutV (vl r.letters) none (some (1 + (j : Int))) = vl (r.letters.take (j + 1)) := by
            have := cut_0 (vl r.letters) (j + 1)
            rw [vl_take] at this
            rw [← this]
            congr 2
            omega
          rw [ec] at hc
          have hb3 := s3 _ _ hb
          have hkl : kb.length < sizeLine := line_of (by omega)
          refine ⟨b, _, rfl, DPut.t (k := kT (r.letters.take (j + 1))) hb3 (by rw [kT_vl]; exact hc) hkl, ?_⟩
          have keep : ∀ {u : Addr} {o : HO}, H3 u = some o → u ≠ b → upd H3 b (.dT (putK kb (kT (r.letters.take (j + 1))) (.bl true))) u = some o := fun e n => by rw [upd_ne n]; exact e
          refine ⟨_, _, rfl, fun x o e => ?_, keep (s3 _ _ hq) (fun z => by have := s3 _ _ hq; rw [z, hb3] at this; cases this), upd_same, ka.put _ _ fun l => ?_, ?_⟩
          · refine keep (s3 _ _ (sm _ _ e)) fun z => ?_
            rw [z, upd_ne hdb] at e
            rw [nb] at e
            cases e
          · unfold begP
            constructor
            · rintro (h | h | ⟨r', h1, h2, h3⟩)
              · exact .inl (.inl h)
              · exact .inl (.inr (.inl h))
              · rw [hr1] at h1
                have h1 := Option.some.inj h1
                subst h1
                rcases Nat.lt_or_ge j l.length with c | c
                · refine .inr ?_
                  rw [List.prefix_iff_eq_take.mp h2]
                  congr 1
                  omega
                · exact .inl (.inr (.inr ⟨r, hr1, h2, c⟩))
            · rintro ((h | h | ⟨r', h1, h2, h3⟩) | rfl)
              · exact .inl h
              · exact .inr (.inl h)
              · exact .inr (.inr ⟨r', h1, h2, by omega⟩)
              · exact .inr (.inr ⟨r, hr1, List.take_prefix _ _, by rw [List.length_take]; omega⟩)
          · have := length_putK kb (kT (r.letters.take (j + 1))) (.bl true)
            omega
        · obtain ⟨y2, kb, rfl, sm, hq, hb, ka, hl⟩ := h
          rw [en] at ka hl
          refine ⟨_, _, kb, rfl, sm, hb, ka.congr fun l => ?_, by omega⟩
          unfold begP
          constructor
          · rintro (h | ⟨r', h1, h2, h3⟩ | ⟨r', h1, h2, h3⟩)
            · exact .inl h
            · rw [take_more hr1] at h1
              rcases List.mem_append.mp h1 with h1 | h1
              · exact .inr (.inl ⟨r', h1, h2, h3⟩)
              · rw [List.mem_singleton.mp h1] at h2 h3
                exact .inr (.inr ⟨r, hr1, h2, by omega⟩)
            · exact .inl (List.eq_nil_of_length_eq_zero (by omega))
          · rintro (h | ⟨r', h1, h2, h3⟩ | ⟨r', h1, h2, h3⟩)
            · exact .inl h
            · exact .inr (.inl ⟨r', by rw [take_more hr1]; exact List.mem_append_left _ h1, h2, h3⟩)
            · rw [hr1] at h1
              have h1 := Option.some.inj h1
              subst h1
              exact .inr (.inl ⟨r, by rw [take_more hr1]; simp, h2, by omega⟩)
    · obtain ⟨y, y2, kb, rfl, sm, hb, ka, hl⟩ := h
      refine ⟨sm _ _ upd_same, _, rfl, q _ b (same_unlock hd sm) nb ⟨kb, by rw [upd_ne hdb]; exact hb, ka.congr fun l => ?_, by omega⟩⟩
      rw [halts_iff]
      unfold begP
      rw [hlen, List.take_length]
      constructor
      · rintro (h | h)
        · exact .inl h
        · exact .inr (.inl h)
      · rintro (h | h | ⟨r', h1, h2, h3⟩)
        · exact .inl h
        · exact .inr h
        · exact .inl (List.eq_nil_of_length_eq_zero (by omega))
end
end SpA
set_option Elab.async false
set_option linter.all false
set_option maxRecDepth 100000
set_option maxHeartbeats 4000000
namespace SpA
open PySem PySem.Spec PyProof.Rows L2
abbrev sBeginning : Stmt := topS 57
abbrev sNInit : Stmt := inClass sBeginning 0
abbrev sTreeOf : Stmt := topS 58
theorem scNInit : FnScope ["self", "ended", "given_up"] ["self", "ended", "given_up"] (defScope sNInit) := ⟨rfl, rfl, rfl, by decide +kernel, rfl, by decide +kernel, by decide +kernel⟩
theorem scTreeOf : FnScope ["table", "begun", "tree", "letters", "letter", "size", "way"] ["table"] (defScope sTreeOf) := ⟨rfl, rfl, rfl, by decide +kernel, rfl, by decide +kernel, by decide +kernel⟩
structure TxtN (K : PySem.W.Frag) (mg : Str → Option Value) (CN fN : Addr) : Prop where
  cl : Cls K CN
  mkC : Mk K CN fN
  gC : mg "Beginning" = some (.ref CN)
  nE : NoAttr K CN "ended"
  nG : NoAttr K CN "given_up"
  nW : NoAttr K CN "ways"
def nF (e g x : Addr) : List (Str × V) := [("ended", .ref e), ("given_up", .ref g), ("ways", .ref x)]
theorem nF_e (e g x : Addr) : (nF e g x).lookup ("ended" : Str) = some (.ref e) := lk_here
theorem nF_g (e g x : Addr) : (nF e g x).lookup ("given_up" : Str) = some (.ref g) := (lk_past (by decide +kernel)).trans lk_here
theorem nF_w (e g x : Addr) : (nF e g x).lookup ("ways" : Str) = some (.ref x) := (lk_past (by decide +kernel)).trans ((lk_past (by decide +kernel)).trans lk_here)
theorem nF_new (e g x : Addr) : putF "ways" (.ref x) (putF "given_up" (.ref g) (putF "ended" (.ref e) [])) = nF e g x := by
  have e1 : putF "given_up" (.ref g) [(("ended" : Str), V.ref e)] = [(("ended" : Str), V.ref e), (("given_up" : Str), V.ref g)] := (put_past (by decide +kernel)).trans rfl
  show putF "ways" (.ref x) (putF "given_up" (.ref g) [(("ended" : Str), V.ref e)]) = _
  rw [e1]
  exact (put_past (by decide +kernel)).trans (congrArg _ ((put_past (by decide +kernel)).trans rfl))
/-! ### the tree in the heap -/
def inlK (c : Nat) : Key := Sum.inl (c : Int)
theorem inlK_inj {a b : Nat} (h : inlK a = inlK b) : a = b := by
  unfold inlK at h
  injection h with h
  omega
/-- the ways behind l: the letters ws, by each what it sounds like behind l -/
structure WaysAt (CS : Addr) (N : Addr → Prop) (H : Hp) (U : List Sy.Rule) (l : List Nat) (kw : List (Key × V)) (ws : List Nat) : Prop where
  keys : kw.map (·.1) = ws.map inlK
  vals : ∀ c ∈ ws, ∃ q y, valV kw (inlK c) = some (.ref q) ∧ SpAt CS H q y (Sy.sure U (l ++ [c])).1 (Sy.sure U (l ++ [c])).2 ∧ ¬ N y
  nodup : ws.Nodup
theorem WaysAt.mono {CS : Addr} {N : Addr → Prop} {H H' : Hp} {U : List Sy.Rule} {l : List Nat} {kw : List (Key × V)} {ws : List Nat} (h : WaysAt CS N H U l kw ws) (s : ∀ q y a b, SpAt CS H q y a b → SpAt CS H' q y a b) : WaysAt CS N H' U l kw ws :=
  ⟨h.keys, fun c hc => let ⟨q, y, h1, h2, h3⟩ := h.vals c hc; ⟨q, y, h1, s _ _ _ _ h2, h3⟩, h.nodup⟩
theorem valV_keys {κ : Type} [DecidableEq κ] : ∀ {kvs : List (κ × V)} {k : κ}, (valV kvs k).isSome = true ↔ k ∈ kvs.map (·.1)
  | [], k => by simp [valV_nil]
  | p :: r, k => by
    rw [List.map_cons, List.mem_cons]
    by_cases c : p.1 = k
    · rw [valV_pos c]
      simp [c]
    · rw [valV_neg c, valV_keys (kvs := r)]
      constructor
      · exact .inr
      · rintro (h | h)
        · exact absurd h.symm c
        · exact h
theorem putK_keys {κ : Type} [DecidableEq κ] (kvs : List (κ × V)) (k : κ) (v : V) : (putK kvs k v).map (·.1) = if (valV kvs k).isSome = true then kvs.map (·.1) else kvs.map (·.1) ++ [k] := by
  by_cases c : (valV kvs k).isSome = true
  · rw [if_pos c]
    unfold putK
    rw [if_pos (by rw [valV_any]; exact c), List.map_map]
    apply List.map_congr_left
    intro p _
    show (if p.1 = k then (p.1, v) else p).1 = p.1
    split <;> rfl
  · rw [if_neg c, putK_new v (by simpa using c), List.map_append]
    rfl
def addW (ws : List Nat) (c : Nat) : List Nat := if c ∈ ws then ws else ws ++ [c]
theorem mem_addW {ws : List Nat} {c d : Nat} : d ∈ addW ws c ↔ d ∈ ws ∨ d = c := by
  unfold addW
  by_cases h : c ∈ ws
  · rw [if_pos h]
    constructor
    · exact .inl
    · rintro (h2 | rfl)
      · exact h2
      · exact h
  · rw [if_neg h]
    simp
theorem WaysAt.has {CS : Addr} {N : Addr → Prop} {H : Hp} {U : List Sy.Rule} {l : List Nat} {kw : List (Key × V)} {ws : List Nat} (h : WaysAt CS N H U l kw ws) (c : Nat) : (valV kw (inlK c)).isSome = true ↔ c ∈ ws := by
  rw [valV_keys, h.keys, List.mem_map]
  constructor
  · rintro ⟨d, h1, h2⟩
    rw [← inlK_inj h2]
    exact h1
  · exact fun h => ⟨c, h, rfl⟩
theorem WaysAt.put {CS : Addr} {N : Addr → Prop} {H : Hp} {U : List Sy.Rule} {l : List Nat} {kw : List (Key × V)} {ws : List Nat} {c : Nat} {q y : Addr} (h : WaysAt CS N H U l kw ws) (hq : SpAt CS H q y (Sy.sure U (l ++ [c])).1 (Sy.sure U (l ++ [c])).2) (hy : ¬ N y) :
    WaysAt CS N H U l (putK kw (inlK c) (.ref q)) (addW ws c) := by
  refine ⟨?_, fun d hd => ?_, ?_⟩
  · rw [putK_keys]
    unfold addW
    by_cases z : c ∈ ws
    · rw [if_pos ((h.has c).mpr z), if_pos z]
      exact h.keys
    · rw [if_neg fun k => z ((h.has c).mp k), if_neg z, List.map_append, h.keys]
      rfl
  · rw [valV_put]
    by_cases z : d = c
    · subst z
      rw [if_pos rfl]
      exact ⟨q, y, rfl, hq, hy⟩
    · rw [if_neg fun k => z (inlK_inj k)]
      rcases mem_addW.mp hd with hd | hd
      · exact h.vals d hd
      · exact absurd hd z
  · unfold addW
    split
    · exact h.nodup
    · next z =>
      rw [List.nodup_append]
      refine ⟨h.nodup, by simp, ?_⟩
      intro a ha b hb e
      rw [List.mem_singleton.mp hb] at e
      exact z (e ▸ ha)
/-- what a beginning's object holds: p the object, x its ways -/
structure NodeAt (CN CS : Addr) (N : Addr → Prop) (H : Hp) (U : List Sy.Rule) (l : List Nat) (p x : Addr) : Prop where
  ex : ∃ dx e g y, H p = some (.ins CN dx (nF e g x)) ∧ H e = some (.lst (vl (spelled U l))) ∧ SpAt CS H g y (given U l).1 (given U l).2 ∧ ¬ N e ∧ ¬ N y
theorem NodeAt.same {CN CS : Addr} {N : Addr → Prop} {H H' : Hp} {U : List Sy.Rule} {l : List Nat} {p x : Addr} (h : NodeAt CN CS N H U l p x) (s : ∀ a o, H a = some o → (∀ k, o ≠ .dK k) → (∀ k, o ≠ .dT k) → H' a = some o) : NodeAt CN CS N H' U l p x := by
  obtain ⟨dx, e, g, y, h1, h2, ⟨dg, b, h3, h4, h5⟩, h6⟩ := h.ex
  exact ⟨dx, e, g, y, s _ _ h1 (by intro k z; cases z) (by intro k z; cases z), s _ _ h2 (by intro k z; cases z) (by intro k z; cases z), ⟨dg, b, s _ _ h3 (by intro k z; cases z) (by intro k z; cases z), s _ _ h4 (by intro k z; cases z) (by intro k z; cases z), s _ _ h5 (by intro k z; cases z) (by intro k z; cases z)⟩, h6⟩
theorem SpAt.keepD {CS : Addr} {H H' : Hp} {q y : Addr} {a b : List Nat} (h : SpAt CS H q y a b) (s : ∀ a o, H a = some o → (∀ k, o ≠ .dK k) → (∀ k, o ≠ .dT k) → H' a = some o) : SpAt CS H' q y a b := by
  obtain ⟨dg, c, h3, h4, h5⟩ := h
  exact ⟨dg, c, s _ _ h3 (by intro k z; cases z) (by intro k z; cases z), s _ _ h4 (by intro k z; cases z) (by intro k z; cases z), s _ _ h5 (by intro k z; cases z) (by intro k z; cases z)⟩
/-- a tree while it grows: the beginnings S are there; behind l the letters Wp l -/
structure TreeG (CN CS : Addr) (N : Addr → Prop) (H : Hp) (U : List Sy.Rule) (t : Addr) (S : List Nat → Prop) (xa : List Nat → Addr) (Wp : List Nat → Nat → Prop) : Prop where
  ex : ∃ kvs, H t = some (.dT kvs) ∧ kvs.length ≤ 1000 ∧ ∀ l, S l → ∃ p, valV kvs (kT l) = some (.ref p) ∧ NodeAt CN CS N H U l p (xa l)
  ways : ∀ l, S l → ∃ kw ws, H (xa l) = some (.dK kw) ∧ WaysAt CS N H U l kw ws ∧ ∀ c, c ∈ ws ↔ Wp l c
  inj : ∀ l l', S l → S l' → xa l = xa l' → l = l'
theorem TreeG.keep {CN CS : Addr} {N : Addr → Prop} {H H' : Hp} {U : List Sy.Rule} {t : Addr} {S : List Nat → Prop} {xa : List Nat → Addr} {Wp : List Nat → Nat → Prop} (h : TreeG CN CS N H U t S xa Wp) (s : ∀ a o, H a = some o → (∀ k, o ≠ .dT k) → H' a = some o) (ht : ∀ o, H t = some o → H' t = some o) : TreeG CN CS N H' U t S xa Wp := by
  obtain ⟨kvs, h1, h2, h3⟩ := h.ex
  have s2 : ∀ a o, H a = some o → (∀ k, o ≠ .dK k) → (∀ k, o ≠ .dT k) → H' a = some o := fun a o e _ k => s a o e k
  refine ⟨⟨kvs, ht _ h1, h2, fun l hl => let ⟨p, k1, k2⟩ := h3 l hl; ⟨p, k1, k2.same s2⟩⟩, fun l hl => ?_, h.inj⟩
  obtain ⟨kw, ws, k1, k2, k3⟩ := h.ways l hl
  exact ⟨kw, ws, s _ _ k1 (by intro k z; cases z), k2.mono fun q y a b k => k.keepD s2, k3⟩
theorem TreeG.same {CN CS : Addr} {N : Addr → Prop} {H H' : Hp} {U : List Sy.Rule} {t : Addr} {S : List Nat → Prop} {xa : List Nat → Addr} {Wp : List Nat → Nat → Prop} (h : TreeG CN CS N H U t S xa Wp) (s : Same H H') : TreeG CN CS N H' U t S xa Wp := h.keep (fun a o e _ => s a o e) fun o e => s _ o e
theorem TreeG.congr {CN CS : Addr} {N : Addr → Prop} {H : Hp} {U : List Sy.Rule} {t : Addr} {S : List Nat → Prop} {xa : List Nat → Addr} {Wp Wp2 : List Nat → Nat → Prop} (h : TreeG CN CS N H U t S xa Wp) (e : ∀ l c, S l → (Wp2 l c ↔ Wp l c)) : TreeG CN CS N H U t S xa Wp2 :=
  ⟨h.ex, fun l hl => let ⟨kw, ws, k1, k2, k3⟩ := h.ways l hl; ⟨kw, ws, k1, k2, fun c => (k3 c).trans (e l c hl).symm⟩, h.inj⟩
/-- another dict is locked, or is not any more -/
theorem TreeG.lock {CN CS : Addr} {N : Addr → Prop} {H : Hp} {U : List Sy.Rule} {t b : Addr} {kb : List (List Key × V)} {o : HO} {S : List Nat → Prop} {xa : List Nat → Addr} {Wp : List Nat → Nat → Prop} (h : TreeG CN CS N H U t S xa Wp) (hb : H b = some (.dT kb)) (ne : t ≠ b) : TreeG CN CS N (upd H b o) U t S xa Wp :=
  h.keep (fun a u e k => by rw [upd_ne fun z => by rw [z, hb] at e; exact k _ (Option.some.inj e).symm]; exact e) fun u e => by rw [upd_ne ne]; exact e
theorem TreeG.unlock {CN CS : Addr} {N : Addr → Prop} {H : Hp} {U : List Sy.Rule} {t b : Addr} {od : Obj} {u' o : HO} {S : List Nat → Prop} {xa : List Nat → Addr} {Wp : List Nat → Nat → Prop} (h : TreeG CN CS N H U t S xa Wp) (hb : H b = some (.frz od u')) : TreeG CN CS N (upd H b o) U t S xa Wp := by
  obtain ⟨kvs, h1, h2, h3⟩ := h.ex
  have ne : ∀ {a u}, H a = some u → (∀ o' u', u ≠ .frz o' u') → upd H b o a = some u := fun {a u} e k => by rw [upd_ne fun z => by rw [z, hb] at e; exact k _ _ (Option.some.inj e).symm]; exact e
  have sp : ∀ q y a c, SpAt CS H q y a c → SpAt CS (upd H b o) q y a c := fun q y a c ⟨dg, f, k1, k2, k3⟩ => ⟨dg, f, ne k1 (by intro _ _ z; cases z), ne k2 (by intro _ _ z; cases z), ne k3 (by intro _ _ z; cases z)⟩
  refine ⟨⟨kvs, ne h1 (by intro _ _ z; cases z), h2, fun l hl => ?_⟩, fun l hl => ?_, h.inj⟩
  · obtain ⟨p, k1, k2⟩ := h3 l hl
    obtain ⟨dx, e, g, y, j1, j2, j3, j4⟩ := k2.ex
    exact ⟨p, k1, dx, e, g, y, ne j1 (by intro _ _ z; cases z), ne j2 (by intro _ _ z; cases z), sp _ _ _ _ j3, j4⟩
  · obtain ⟨kw, ws, k1, k2, k3⟩ := h.ways l hl
    exact ⟨kw, ws, ne k1 (by intro _ _ z; cases z), k2.mono sp, k3⟩
/-- a way is put -/
theorem TreeG.way {CN CS : Addr} {N : Addr → Prop} {H : Hp} {U : List Sy.Rule} {t q y : Addr} {S : List Nat → Prop} {xa : List Nat → Addr} {Wp Wp2 : List Nat → Nat → Prop} (h : TreeG CN CS N H U t S xa Wp) {l : List Nat} {c : Nat} {kw : List (Key × V)} (hl : S l) (hk : H (xa l) = some (.dK kw))
    (hq : SpAt CS H q y (Sy.sure U (l ++ [c])).1 (Sy.sure U (l ++ [c])).2) (hy : ¬ N y) (e2 : ∀ l' d, S l' → (Wp2 l' d ↔ Wp l' d ∨ (l' = l ∧ d = c))) : TreeG CN CS N (upd H (xa l) (.dK (putK kw (inlK c) (.ref q)))) U t S xa Wp2 := by
  have ne : ∀ {a u}, H a = some u → (∀ k, u ≠ .dK k) → upd H (xa l) (.dK (putK kw (inlK c) (.ref q))) a = some u := fun {a u} e k => by rw [upd_ne fun z => by rw [z, hk] at e; exact k _ (Option.some.inj e).symm]; exact e
  have s2 : ∀ a o, H a = some o → (∀ k, o ≠ .dK k) → (∀ k, o ≠ .dT k) → upd H (xa l) (.dK (putK kw (inlK c) (.ref q))) a = some o := fun a o e k _ => ne e k
  obtain ⟨kvs, h1, h2, h3⟩ := h.ex
  refine ⟨⟨kvs, ne h1 (by intro k z; cases z), h2, fun l' hl' => let ⟨p, k1, k2⟩ := h3 l' hl'; ⟨p, k1, k2.same s2⟩⟩, fun l' hl' => ?_, h.inj⟩
  obtain ⟨kw', ws, k1, k2, k3⟩ := h.ways l' hl'
  by_cases e : l' = l
  · subst e
    rw [hk] at k1
    have k1 := Option.some.inj k1
    injection k1 with k1
    subst k1
    refine ⟨_, addW ws c, upd_same, (k2.put hq hy).mono fun q y a b k => k.keepD s2, fun d => ?_⟩
    rw [mem_addW, e2 _ _ hl', k3]
    simp
  · refine ⟨kw', ws, ?_, k2.mono fun q y a b k => k.keepD s2, fun d => ?_⟩
    · rw [upd_ne fun z => e (h.inj _ _ hl' hl z)]
      exact k1
    · rw [e2 _ _ hl', k3]
      simp [e]
theorem ways_few {CS : Addr} {N : Addr → Prop} {H : Hp} {U : List Sy.Rule} {l : List Nat} {kw : List (Key × V)} {ws : List Nat} (h : WaysAt CS N H U l kw ws) (hc : ∀ c ∈ ws, c ≤ 126) : kw.length ≤ 127 := by
  have h1 := congrArg List.length h.keys
  rw [List.length_map, List.length_map] at h1
  have := sub_len ws (List.range 127) h.nodup fun c k => by rw [List.mem_range]; have := hc c k; omega
  rw [List.length_range] at this
  omega
/-- a tree that may be read -/
def TreeN (CN CS : Addr) (N : Addr → Prop) (H : Hp) (t : Addr) (U : List Sy.Rule) : Prop := ∃ kvs, H t = some (.dT kvs) ∧ ∀ l, halts U l = true → ∃ p x kw ws, valV kvs (kT l) = some (.ref p) ∧ NodeAt CN CS N H U l p x ∧ H x = some (.dK kw) ∧ WaysAt CS N H U l kw ws ∧ ∀ c, c ∈ ws ↔ isWay U l c = true
theorem TreeN.same {CN CS : Addr} {N : Addr → Prop} {H H' : Hp} {U : List Sy.Rule} {t : Addr} (h : TreeN CN CS N H t U) (s : Same H H') : TreeN CN CS N H' t U := by
  obtain ⟨kvs, h1, h2⟩ := h
  have s2 : ∀ a o, H a = some o → (∀ k, o ≠ .dK k) → (∀ k, o ≠ .dT k) → H' a = some o := fun a o e _ _ => s a o e
  refine ⟨kvs, s _ _ h1, fun l hl => ?_⟩
  obtain ⟨p, x, kw, ws, k1, k2, k3, k4, k5⟩ := h2 l hl
  exact ⟨p, x, kw, ws, k1, k2.same s2, s _ _ k3, k4.mono fun q y a b k => k.keepD s2, k5⟩
abbrev TreeR (CN CS : Addr) (H : Hp) (t : Addr) (U : List Sy.Rule) : Prop := TreeN CN CS (fun _ => False) H t U
theorem TreeN.less {CN CS : Addr} {N M : Addr → Prop} {H : Hp} {U : List Sy.Rule} {t : Addr} (h : TreeN CN CS N H t U) (e : ∀ a, M a → N a) : TreeN CN CS M H t U := by
  obtain ⟨kvs, h1, h2⟩ := h
  refine ⟨kvs, h1, fun l hl => ?_⟩
  obtain ⟨p, x, kw, ws, k1, ⟨dx, a, g, y, j1, j2, j3, j4, j5⟩, k3, k4, k5⟩ := h2 l hl
  exact ⟨p, x, kw, ws, k1, ⟨dx, a, g, y, j1, j2, j3, fun z => j4 (e _ z), fun z => j5 (e _ z)⟩, k3, ⟨k4.keys, fun c hc => let ⟨q, y, m1, m2, m3⟩ := k4.vals c hc; ⟨q, y, m1, m2, fun z => m3 (e _ z)⟩, k4.nodup⟩, k5⟩
theorem TreeN.r {CN CS : Addr} {N : Addr → Prop} {H : Hp} {U : List Sy.Rule} {t : Addr} (h : TreeN CN CS N H t U) : TreeR CN CS H t U := h.less fun _ z => z.elim
/-- a dict of states is changed -/
theorem TreeN.butD {CN CS : Addr} {N : Addr → Prop} {H H' : Hp} {U : List Sy.Rule} {t D : Addr} {φ : Heap → Prop} (h : TreeN CN CS N H t U) (b : But [D] H H') (hD : H D = some (.ext φ)) : TreeN CN CS N H' t U := by
  obtain ⟨kvs, h1, h2⟩ := h
  have ne : ∀ {a u}, H a = some u → (∀ k, u ≠ .ext k) → H' a = some u := fun {a u} e k => b a u e fun z => by rw [List.mem_singleton.mp z, hD] at e; exact k _ (Option.some.inj e).symm
  have sp : ∀ q y a c, SpAt CS H q y a c → SpAt CS H' q y a c := fun q y a c ⟨dg, f, k1, k2, k3⟩ => ⟨dg, f, ne k1 (by intro _ z; cases z), ne k2 (by intro _ z; cases z), ne k3 (by intro _ z; cases z)⟩
  refine ⟨kvs, ne h1 (by intro k z; cases z), fun l hl => ?_⟩
  obtain ⟨p, x, kw, ws, k1, k2, k3, k4, k5⟩ := h2 l hl
  obtain ⟨dx, e, g, y, j1, j2, j3, j4⟩ := k2.ex
  exact ⟨p, x, kw, ws, k1, ⟨dx, e, g, y, ne j1 (by intro k z; cases z), ne j2 (by intro k z; cases z), sp _ _ _ _ j3, j4⟩, ne k3 (by intro k z; cases z), k4.mono sp, k5⟩
/-- a table that may be read, where a dict is locked -/
theorem TabR.lock {C : Addr} {H : Hp} {d b : Addr} {T : List Sy.Rule} {od : Obj} {kb : List (List Key × V)} (h : TabR C H d T) (hb : H b = some (.dT kb)) : TabR C (upd H b (.frz od (.dT kb))) d T := by
  obtain ⟨kvs, h1, h2⟩ := h
  have ne : ∀ {a u}, H a = some u → (∀ k, u ≠ .dT k) → upd H b (.frz od (.dT kb)) a = some u := fun {a u} e k => by rw [upd_ne fun z => by rw [z, hb] at e; exact k _ (Option.some.inj e).symm]; exact e
  refine ⟨kvs, ?_, h2.mono fun p r ⟨dx, x, y, z, k1, k2, k3, k4⟩ => ⟨dx, x, y, z, ne k1 (by intro k z; cases z), ne k2 (by intro k z; cases z), ne k3 (by intro k z; cases z), ne k4 (by intro k z; cases z)⟩⟩
  by_cases e : d = b
  · subst e
    rcases h1 with h1 | ⟨o, h1⟩
    · rw [hb] at h1
      have h1 := Option.some.inj h1
      injection h1 with h1
      subst h1
      exact .inr ⟨od, upd_same⟩
    · rw [hb] at h1
      cases h1
  · rcases h1 with h1 | ⟨o, h1⟩
    · exact .inl (by rw [upd_ne e]; exact h1)
    · exact .inr ⟨o, by rw [upd_ne e]; exact h1⟩
section
variable {P : Program} {w : World} {K : PySem.W.Frag} {mg : Str → Option Value} {base : Heap} {C CS CN fI fZ fT fU fG fN : Addr}
def spNInit (CN : Addr) : Sp := fun vs H Q _ => ∃ (p dx e g : Addr), vs = [.ref p, .ref e, .ref g] ∧ H p = some (.ins CN dx []) ∧ ∀ (H' : Hp) (x : Addr), H' p = some (.ins CN dx (nF e g x)) → H' x = some (.dK []) → H x = none → (∀ b o, H b = some o → b ≠ p → H' b = some o) → Q .non H'
theorem ok_n_init {fd : FuncData} {k : Nat} (F : Fun K "__init__" "Beginning.__init__" sNInit fN fd) (T : TxtN K mg CN fN) : FnOk P w K mg base CX0 (k + 1) fN fd ["self", "ended", "given_up"] (spNInit CN) := by
  refine F.ok scNInit (fun vs H Q E h => ?_) (fun cdv A outer s H vs Q E hr h => ?_)
  · obtain ⟨p, dx, e, g, rfl, _⟩ := h
    rfl
  · obtain ⟨p, dx, e, g, rfl, hp, q⟩ := h
    refine ⟨_, pss_cons (ps_fld (pv 0) (pv 1) rfl) (pss_cons (ps_fld (pv 0) (pv 2) rfl) (pss_one (ps_fld (pv 0) pe_dnewK rfl))), ?_⟩
    refine ⟨_, rfl, _, rfl, p, CN, dx, [], rfl, hp, T.cl, T.nE, (by show 0 < 1000; decide), ?_⟩
    refine ⟨_, rfl, _, rfl, p, CN, dx, _, rfl, upd_same, T.cl, T.nG, (by show 1 < 1000; decide), ?_⟩
    rw [upd_upd]
    intro x nx
    have hxp : x ≠ p := fun z => by rw [z, upd_same] at nx; cases nx
    refine ⟨_, rfl, p, CN, dx, _, rfl, by rw [upd_ne (Ne.symm hxp)]; exact upd_same, T.cl, T.nW, (by show 2 < 1000; decide), ?_⟩
    refine q _ x ?_ ?_ ?_ fun b o hb hbp => ?_
    · rw [upd_same]
      exact congrArg (fun z => some (HO.ins CN dx z)) (nF_new e g x)
    · rw [upd_ne hxp, upd_same]
    · rw [upd_ne hxp] at nx
      exact nx
    · have : b ≠ x := fun z => by rw [← z, upd_ne hbp, hb] at nx; cases nx
      rw [upd_ne hbp, upd_ne this, upd_ne hbp]
      exact hb
def spTreeOf (CN CS C : Addr) : Sp := fun vs H Q _ => ∃ (d : Addr) (U : List Sy.Rule), vs = [.ref d] ∧ TabAt C H d U ∧ Good U ∧ ∀ H' t, Same H H' → H t = none → TreeN CN CS (fun a => H a ≠ none) H' t U → Q (.ref t) H'
/-- the letters behind l that are there: of i rules, and of the next those behind its first j -/
def wayP (U : List Sy.Rule) (i j : Nat) (l : List Nat) (c : Nat) : Prop := (l = [] ∧ Sy.isLetter c = true) ∨ (∃ r ∈ U.take i, l ≠ [] ∧ l ++ [c] <+: r.letters) ∨ ∃ r, U[i]? = some r ∧ l ≠ [] ∧ l ++ [c] <+: r.letters ∧ l.length ≤ j
theorem pre_take {l r : List Nat} {c j : Nat} (h : l ++ [c] <+: r) (e : l.length = j) : l = r.take j ∧ r[j]? = some c := by
  subst e
  obtain ⟨z, rfl⟩ := h
  constructor
  · simp
  · simp
theorem take_pre {r : List Nat} {c j : Nat} (h : r[j]? = some c) : r.take j ++ [c] <+: r := by
  rw [← take_more h]
  exact List.take_prefix _ _
end
end SpA
set_option Elab.async false
set_option linter.all false
set_option maxRecDepth 100000
set_option maxHeartbeats 4000000
namespace SpA
open PySem PySem.Spec PyProof.Rows L2
section
variable {P : Program} {w : World} {K : PySem.W.Frag} {mg : Str → Option Value} {base : Heap} {C CS CN fI fZ fT fU fG fN : Addr}
/-- d is told of by its two ends: a dict of the heap is changed at x, an untracked place -/
theorem same_after {H0 H : Hp} {x : Addr} {o : HO} (s : Same H0 H) (h : H0 x = none) : Same H0 (upd H x o) := same_store s h
theorem ok_tree_of {f fSp fW fB fF : Addr} {fd fdN fdSp fdW fdB fdF : FuncData} {k : Nat} (F : Fun K "tree_of" "tree_of" sTreeOf f fd) (T : TxtN K mg CN fN) (TL : TxtL mg fI fZ fT) (B : TxtB mg)
    (GN : FnOk P w K mg base CX0 k fN fdN ["self", "ended", "given_up"] (spNInit CN)) (bN : Binds K fdN ["self", "ended", "given_up"] [])
    (GS : FnOk P w K mg base CX0 (k + 1) fSp fdSp ["table", "letters"] (spSpelled K C)) (kS : PySem.W.keepIn K (.ref fSp) = true) (bS : Binds K fdSp ["table", "letters"] []) (gS : mg "spelled" = some (.ref fSp))
    (GW : FnOk P w K mg base CX0 (k + 1) fW fdW ["table", "begun", "letters"] (spWithout CS C)) (kW : PySem.W.keepIn K (.ref fW) = true) (bW : Binds K fdW ["table", "begun", "letters"] []) (gW : mg "spelled_without_more" = some (.ref fW))
    (GB : FnOk P w K mg base CX0 (k + 1) fB fdB ["table"] (spBegs C)) (kB : PySem.W.keepIn K (.ref fB) = true) (bB : Binds K fdB ["table"] []) (gB : mg "beginnings" = some (.ref fB))
    (GF : FnOk P w K mg base CX0 (k + 1) fF fdF ["table", "begun", "letters"] (spSoFar K CS C)) (kF : PySem.W.keepIn K (.ref fF) = true) (bF : Binds K fdF ["table", "begun", "letters"] []) (gF : mg "spelled_so_far" = some (.ref fF)) :
    FnOk P w K mg base CX0 (k + 1 + 1) f fd ["table"] (spTreeOf CN CS C) := by
  refine F.ok scTreeOf (fun vs H Q E h => ?_) (fun cdv A outer s H vs Q E hr h => ?_)
  · obtain ⟨d, U, rfl, _⟩ := h
    rfl
  · obtain ⟨d, U, rfl, hT, g, q⟩ := h
    have nd := scTreeOf.nd
    obtain ⟨t1, e1⟩ := TL.n1
    obtain ⟨t2, e2⟩ := TL.n2
    refine ⟨_, pss_cons (ps_set (i := 1) nd rfl (.inl rfl) (pe_call GB hr (by rfl) gB kB bB .nil pass0 (pa_cons (pv 0) pa_nil)))
      (pss_cons (ps_set (i := 2) nd rfl (.inl rfl) pe_dnewT)
      (pss_cons (ps_lock (ps_for PassesOwn.never rfl (pi_keys (pv 1)) (pg_name (i := 3) nd rfl (Or.inl rfl))
        (pss_one (ps_dput (hu_of hr) (pv 2) (pv 3) (pe_make T.mkC GN hr (by rfl) T.gC bN .nil pass0
          (pa_cons (pe_call GS hr (by rfl) gS kS bS .nil pass0 (pa_cons (pv 0) (pa_cons (pv 3) pa_nil)))
          (pa_cons (pe_call GW hr (by rfl) gW kW bW .nil pass0 (pa_cons (pv 0) (pa_cons (pv 1) (pa_cons (pv 3) pa_nil)))) pa_nil))) rfl))))
      (pss_cons (ps_for PassesOwn.never rfl (pi_range2 (by rfl) B.range (pa_cons (pe_gint rfl e1) (pa_cons (pe_op op_add (pe_gint rfl e2) pe_int) pa_nil))) (pg_name (i := 4) nd rfl (Or.inl rfl))
        (pss_one (ps_dput (hu_of hr) (pe_fld (pe_dget (hu_of hr) (pv 2) (pe_tup pa_nil) (fun _ _ => rfl)) rfl) (pv 4)
          (pe_call GF hr (by rfl) gF kF bF .nil pass0 (pa_cons (pv 0) (pa_cons (pv 1) (pa_cons (pe_tup (pa_cons (pv 4) pa_nil)) pa_nil)))) rfl)))
      (pss_cons (ps_lock (ps_for PassesOwn.never rfl (pi_keys (pv 0)) (pg_name (i := 3) nd rfl (Or.inl rfl))
        (pss_one (ps_for PassesOwn.never rfl (pi_range2 (by rfl) B.range (pa_cons pe_int (pa_cons (pe_callB call_len_seq (by rfl) B.len PySem.boot_len (pa_cons (pv 3) pa_nil)) pa_nil))) (pg_name (i := 5) nd rfl (Or.inl rfl))
          (pss_cons (ps_set (i := 6) nd rfl (.inl rfl) (pe_call GF hr (by rfl) gF kF bF .nil pass0 (pa_cons (pv 0) (pa_cons (pv 1) (pa_cons (pe_slice sl_tupA (pv 3) po_none (po_some (pe_op op_add (pv 5) pe_int))) pa_nil)))))
          (pss_one (ps_dput (hu_of hr) (pe_fld (pe_dget (hu_of hr) (pv 2) (pe_slice sl_tupA (pv 3) po_none (po_some (pv 5))) (fun _ _ => rfl)) rfl) (pe_ix ix_tup (pv 3) (pv 5) (fun _ _ => rfl)) (pv 6) rfl)))))))
      (pss_one (ps_ret (pv 2))))))), ?_⟩
    have few := g.few
    -- begun = beginnings(table)
    refine ⟨_, rfl, d, U, rfl, hT, g, fun H1 b s1 nb hB => ?_⟩
    -- tree = {}
    intro t nt
    have hT1 := hT.same s1
    obtain ⟨kb, hb, hk⟩ := hB
    have ntH : H t = none := s1.free nt
    have htb : t ≠ b := fun e => by rw [e, hb] at nt; cases nt
    have s2 : Same H1 (upd H1 t (.dT [])) := same_upd nt
    have hb2 := s2 _ _ hb
    obtain ⟨kd, hd, hv⟩ := hT1
    have htd : t ≠ d := fun e => by rw [e, hd] at nt; cases nt
    have hbd : b ≠ d := fun e => by
      obtain ⟨_, hd', _⟩ := hT
      rw [e, hd'] at nb
      cases nb
    refine ⟨b, _, hb2, trivial, fun od => ⟨_, rfl, b, od, rfl, .inr ⟨kb, upd_same, ?_⟩⟩⟩
    have hTb : TabR C (upd H1 b (.frz od (.dT kb))) d U := TabR.lock ⟨kd, .inl hd, hv⟩ hb
    have hBb : BegR (upd H1 b (.frz od (.dT kb))) b U := ⟨kb, .inr ⟨od, upd_same⟩, hk⟩
    have ntb : upd H1 b (.frz od (.dT kb)) t = none := by rw [upd_ne htb]; exact nt
    refine for_keysT (fun i σ H' => ∃ (y : Option V) (xa : List Nat → Addr), σ = [some (.ref d), some (.ref b), some (.ref t), y, none, none, none] ∧ Same (upd H1 b (.frz od (.dT kb))) H' ∧
        (∀ l, (∃ j, j < i ∧ ∃ v, kb[j]? = some (kT l, v)) → H1 (xa l) = none) ∧ (∃ kvs, H' t = some (.dT kvs) ∧ kvs.length ≤ i) ∧ TreeG CN CS (fun a => H a ≠ none) H' U t (fun l => ∃ j, j < i ∧ ∃ v, kb[j]? = some (kT l, v)) xa (fun _ _ => False))
      ⟨none, fun _ => 0, rfl, fun x o e => ?_, fun l ⟨j, h, _⟩ => absurd h (Nat.not_lt_zero _), ⟨[], by rw [upd_ne htb]; exact upd_same, by simp⟩, ⟨⟨[], by rw [upd_ne htb]; exact upd_same, by simp, fun l ⟨j, h, _⟩ => absurd h (Nat.not_lt_zero _)⟩, fun l ⟨j, h, _⟩ => absurd h (Nat.not_lt_zero _), fun l l' ⟨j, h, _⟩ => absurd h (Nat.not_lt_zero _)⟩⟩
      (fun i σ H' hi h => ?_) (fun i kk v qa σ H' hki hq h => ?_) (fun σ H' h => ?_)
    · by_cases c : x = b
      · subst c
        rw [upd_same] at e ⊢
        exact e
      · rw [upd_ne c] at e ⊢
        exact s2 _ _ e
    · obtain ⟨y, xa, rfl, sm, _, _, hG⟩ := h
      exact sm _ _ upd_same
    · -- a beginning
      obtain ⟨y, xa, rfl, sm, hnew, ⟨kt, ht, hkt⟩, hG⟩ := h
      obtain ⟨l, hl1, hl2⟩ := hk.are.keys _ (List.mem_of_getElem? hki)
      have hl1 : kk = kT l := hl1
      subst hl1
      rw [kT_vl] at hq
      have hll : l.length ≤ 6 := by
        rcases halts_iff.mp hl2 with rfl | ⟨r, h1, h2, h3⟩
        · simp
        · have := (short_iff.mp (g.short r h1)).1
          omega
      have hik : i < kb.length := (List.getElem?_eq_some_iff.mp hki).1
      have hkb := hk.len
      refine ⟨_, rfl, _, rfl, d, qa, U, l, rfl, hTb.same sm, g, .inr hq, by omega, fun H3 e s3 ne he => ?_⟩
      refine ⟨_, rfl, _, rfl, _, rfl, d, b, qa, U, l, rfl, (hTb.same sm).same s3, (hBb.same sm).same s3, g, s3 _ _ hq, by omega, fun H4 gv yv s4 ngv nyv hgv => fun p dx np ndx npd => ?_⟩
      have s5 := same_made (C := CN) np ndx
      refine ⟨p, dx, e, gv, rfl, upd_same, fun H6 x hp hx nx kp => ⟨rfl, ?_⟩⟩
      have s6 : Same H4 H6 := Same.made np ndx kp
      have sA : Same H' H6 := (s3.trans s4).trans s6
      have ht6 := sA _ _ ht
      have freeH : ∀ {x : Addr}, upd H1 b (.frz od (.dT kb)) x = none → H x = none := fun {x} n => by
        have hxb : x ≠ b := fun z => by rw [z, upd_same] at n; cases n
        rw [upd_ne hxb] at n
        exact s1.free n
      have nxH' : H' x = none := (s3.trans s4).free (s5.free nx)
      refine ⟨_, rfl, _, rfl, t, _, rfl, DPut.t (k := kT l) ht6 (by rw [kT_vl]; exact sA _ _ hq) (line_of (by omega)), ?_⟩
      have keepT : ∀ {a : Addr} {o : HO}, H6 a = some o → (∀ k, o ≠ .dT k) → upd H6 t (.dT (putK kt (kT l) (.ref p))) a = some o := fun {a o} e k => by rw [upd_ne fun z => by rw [z, ht6] at e; exact k _ (Option.some.inj e).symm]; exact e
      have spT : ∀ q y a c, SpAt CS H6 q y a c → SpAt CS (upd H6 t (.dT (putK kt (kT l) (.ref p)))) q y a c := fun q y a c ⟨dg, f, k1, k2, k3⟩ => ⟨dg, f, keepT k1 (by intro k z; cases z), keepT k2 (by intro k z; cases z), keepT k3 (by intro k z; cases z)⟩
      have old : ∀ l', l' ≠ l → (∃ j, j < i + 1 ∧ ∃ v, kb[j]? = some (kT l', v)) → (∃ j, j < i ∧ ∃ v, kb[j]? = some (kT l', v)) := fun l' c ⟨j, hj, v', hv'⟩ => by
        rcases Nat.lt_or_ge j i with z | z
        · exact ⟨j, z, v', hv'⟩
        · obtain rfl : j = i := by omega
          rw [hki] at hv'
          exact absurd (kT_inj (congrArg Prod.fst (Option.some.inj hv'))).symm c
      obtain ⟨kvs0, j1, j2, j3⟩ := hG.ex
      rw [ht] at j1
      have j1 := Option.some.inj j1
      injection j1 with j1
      subst j1
      have hlp := length_putK kt (kT l) (.ref p)
      have nodeL : NodeAt CN CS (fun a => H a ≠ none) (upd H6 t (.dT (putK kt (kT l) (.ref p)))) U l p x := ⟨dx, e, gv, yv, keepT hp (by intro k z; cases z), keepT (s6 _ _ (s4 _ _ he)) (by intro k z; cases z), spT _ _ _ _ (hgv.same s6), fun z => z (freeH (sm.free ne)), fun z => z (freeH (sm.free (s3.free nyv)))⟩
      refine ⟨_, fun l' => if l' = l then x else xa l', rfl, same_store (sm.trans sA) ntb, fun l' hl' => ?_, ⟨_, upd_same, by omega⟩, ⟨⟨_, upd_same, by omega, fun l' hl' => ?_⟩, fun l' hl' => ?_, fun l' l2 h1 h2 e => ?_⟩⟩
      · show H1 (if l' = l then x else xa l') = none
        by_cases c : l' = l
        · rw [if_pos c]
          have := sm.free nxH'
          have hxb : x ≠ b := fun z => by rw [z, upd_same] at this; cases this
          rw [upd_ne hxb] at this
          exact this
        · rw [if_neg c]
          exact hnew l' (old l' c hl')
      · by_cases c : l' = l
        · subst c
          refine ⟨p, by rw [valV_put, if_pos rfl], ?_⟩
          rw [if_pos rfl]
          exact nodeL
        · obtain ⟨j, hj, v', hv'⟩ := hl'
          have hj2 : j < i := by
            rcases Nat.lt_or_ge j i with z | z
            · exact z
            · obtain rfl : j = i := by omega
              rw [hki] at hv'
              have := congrArg Prod.fst (Option.some.inj hv')
              exact absurd (kT_inj this).symm c
          obtain ⟨p', k1, k2⟩ := j3 l' ⟨j, hj2, v', hv'⟩
          refine ⟨p', by rw [valV_put, if_neg fun z => c (kT_inj z)]; exact k1, ?_⟩
          rw [if_neg c]
          exact k2.same fun a o e _ k => keepT (sA _ _ e) k
      · by_cases c : l' = l
        · subst c
          refine ⟨[], [], ?_, ⟨rfl, by simp, by simp⟩, by simp⟩
          rw [if_pos rfl]
          exact keepT hx (by intro k z; cases z)
        · obtain ⟨j, hj, v', hv'⟩ := hl'
          have hj2 : j < i := by
            rcases Nat.lt_or_ge j i with z | z
            · exact z
            · obtain rfl : j = i := by omega
              rw [hki] at hv'
              have := congrArg Prod.fst (Option.some.inj hv')
              exact absurd (kT_inj this).symm c
          obtain ⟨kw, ws, k1, k2, k3⟩ := hG.ways l' ⟨j, hj2, v', hv'⟩
          refine ⟨kw, ws, ?_, k2.mono fun q y a c hq => spT _ _ _ _ (hq.same sA), k3⟩
          rw [if_neg c]
          exact keepT (sA _ _ k1) (by intro k z; cases z)
      · -- the ways' places differ
        have notx : ∀ l', l' ≠ l → (∃ j, j < i + 1 ∧ ∃ v, kb[j]? = some (kT l', v)) → xa l' ≠ x := fun l' c h z => by
          obtain ⟨kw, ws, k1, -, -⟩ := hG.ways l' (old l' c h)
          rw [z, nxH'] at k1
          cases k1
        by_cases c1 : l' = l
        · by_cases c2 : l2 = l
          · rw [c1, c2]
          · have e : (if l' = l then x else xa l') = (if l2 = l then x else xa l2) := e
            rw [if_pos c1, if_neg c2] at e
            exact absurd e.symm (notx l2 c2 h2)
        · by_cases c2 : l2 = l
          · have e : (if l' = l then x else xa l') = (if l2 = l then x else xa l2) := e
            rw [if_neg c1, if_pos c2] at e
            exact absurd e (notx l' c1 h1)
          · have e : (if l' = l then x else xa l') = (if l2 = l then x else xa l2) := e
            rw [if_neg c1, if_neg c2] at e
            exact hG.inj _ _ (old l' c1 h1) (old l2 c2 h2) e
    · -- behind the beginnings
      obtain ⟨y, xa, rfl, sm, hnew, ⟨kt, ht, hkt⟩, hG⟩ := h
      have hbH' := sm _ _ upd_same
      refine ⟨hbH', ?_⟩
      have smB : Same H1 (upd H' b (.dT kb)) := same_unlock hb sm
      have conv : ∀ l, Sy.waits U l = true ∨ l = [] → ∃ j, j < kb.length ∧ ∃ v, kb[j]? = some (kT l, v) := fun l hl => by
        have hh : halts U l = true := by
          unfold halts
          rcases hl with hl | rfl
          · rw [hl, Bool.or_true]
          · rfl
        have := (hk.are.look l).mpr hh
        rw [valV_keys] at this
        obtain ⟨kv, h1, h2⟩ := List.mem_map.mp this
        obtain ⟨j, h3⟩ := List.getElem?_of_mem h1
        exact ⟨j, (List.getElem?_eq_some_iff.mp h3).1, kv.2, by rw [h3, ← h2]⟩
      have hnew2 : ∀ l, Sy.waits U l = true ∨ l = [] → H1 (xa l) = none := fun l hl => hnew l (conv l hl)
      have hG2 : TreeG CN CS (fun a => H a ≠ none) (upd H' b (.dT kb)) U t (fun l => Sy.waits U l = true ∨ l = []) xa (fun _ _ => False) := by
        have h0 := hG.unlock (o := .dT kb) hbH'
        obtain ⟨kvs, k1, k2, k3⟩ := h0.ex
        exact ⟨⟨kvs, k1, k2, fun l hl => k3 l (conv l hl)⟩, fun l hl => h0.ways l (conv l hl), fun l l' h1 h2 => h0.inj l l' (conv l h1) (conv l' h2)⟩
      clear hG
      -- each letter from nothing
      refine ⟨_, _, rfl, rfl, 33, 126 + 1, rfl, ⟨by omega, by omega, by omega, by omega⟩, ?_⟩
      refine for_range (lo := 33) (n := (126 + 1 - 33 : Int).toNat) (fun j σ H' => ∃ (y y4 : Option V), σ = [some (.ref d), some (.ref b), some (.ref t), y, y4, none, none] ∧ Same H1 H' ∧ TreeG CN CS (fun a => H a ≠ none) H' U t (fun l => Sy.waits U l = true ∨ l = []) xa (fun l c => l = [] ∧ 33 ≤ c ∧ c < 33 + j))
        ⟨_, _, rfl, smB, hG2.congr fun l c _ => ⟨fun z => by omega, fun z => z.elim⟩⟩ (fun j σ H' hj h => ?_) (fun σ H' h => ?_)
      · obtain ⟨y, y4, rfl, sm, hG⟩ := h
        have hj : j < 94 := hj
        refine ⟨_, rfl, _, rfl, _, rfl, (by show 1 ≤ sizeLine; decide), fun z nz => ?_⟩
        have sz := same_upd (o := .tup [V.int (33 + (j : Int))]) nz
        have ez : [V.int (33 + (j : Int))] = vl [33 + j] := by
          show [V.int (33 + (j : Int))] = [V.int ((33 + j : Nat) : Int)]
          congr 2
        refine ⟨d, b, z, U, [33 + j], rfl, ((TabAt.r ⟨kd, hd, hv⟩).same sm).same sz, (BegAt.r ⟨kb, sz _ _ (sm _ _ hb), hk⟩), g, .inr (by rw [upd_same, ez]), by simp, fun H3 qq yy s3 nq nyy hqq => ?_⟩
        refine ⟨_, rfl, (Nat.zero_le _), fun z2 nz2 => ?_⟩
        have sz2 := same_upd (o := .tup []) nz2
        have hG3 := ((hG.same sz).same s3).same sz2
        obtain ⟨kvs, k1, k2, k3⟩ := hG3.ex
        obtain ⟨p, j1, j2⟩ := k3 [] (.inr rfl)
        obtain ⟨dx, e, gg, yg, i1, i2, i3, -⟩ := j2.ex
        obtain ⟨kw, ws, w1, w2, w3⟩ := hG3.ways [] (.inr rfl)
        have hkw := ways_few w2 fun c hc => by have := (w3 c).mp hc; omega
        have dg := DGet.t (k := kT []) k1 (upd_same (H := H3) (a := z2) (o := .tup []))
        rw [j1] at dg
        refine ⟨t, _, rfl, dg, p, CN, dx, _, _, rfl, i1, T.cl, T.nW, nF_w e gg _, _, rfl, _, _, rfl, DPut.k (k := inlK (33 + j)) w1 (line_of (by omega)), ?_⟩
        refine ⟨_, _, rfl, same_store (((sm.trans sz).trans s3).trans sz2) (hnew2 [] (.inr rfl)), ?_⟩
        refine hG3.way (.inr rfl) w1 (hqq.same sz2) (fun z => z (s1.free (sm.free (sz.free nyy)))) fun l' d' _ => ?_
        constructor
        · intro z
          by_cases c : d' = 33 + j
          · exact .inr ⟨z.1, c⟩
          · exact .inl ⟨z.1, z.2.1, by omega⟩
        · rintro (z | ⟨z1, z2⟩)
          · exact ⟨z.1, z.2.1, by omega⟩
          · exact ⟨z1, by omega, by omega⟩
      · -- the rules' letters behind their beginnings
        obtain ⟨y, y4, rfl, sm, hG⟩ := h
        have hdH' := sm _ _ hd
        refine ⟨d, _, hdH', trivial, fun od2 => ⟨_, rfl, d, od2, rfl, .inr ⟨kd, upd_same, ?_⟩⟩⟩
        have hTd : TabR C (upd H1 d (.frz od2 (.dT kd))) d U := TabR.lock ⟨kd, .inl hd, hv⟩ hd
        have hBd : BegR (upd H1 d (.frz od2 (.dT kd))) b U := ⟨kb, .inl (by rw [upd_ne hbd]; exact hb), hk⟩
        have hnew3 : ∀ l, Sy.waits U l = true ∨ l = [] → upd H1 d (.frz od2 (.dT kd)) (xa l) = none := fun l hl => by
          rw [upd_ne fun z => by have := hnew2 l hl; rw [z, hd] at this; cases this]
          exact hnew2 l hl
        have hlen : kd.length = U.length := hv.length
        refine for_keysT (fun i σ H' => ∃ (y3 y4 y5 y6 : Option V), σ = [some (.ref d), some (.ref b), some (.ref t), y3, y4, y5, y6] ∧ Same (upd H1 d (.frz od2 (.dT kd))) H' ∧ TreeG CN CS (fun a => H a ≠ none) H' U t (fun l => Sy.waits U l = true ∨ l = []) xa (wayP U i 0))
          ⟨_, _, _, _, rfl, fun x o e => ?_, (hG.lock hdH' htd).congr fun l c _ => ?_⟩ (fun i σ H' hi h => ?_) (fun i kk v qa σ H' hki hq h => ?_) (fun σ H' h => ?_)
        · by_cases c : x = d
          · subst c
            rw [upd_same] at e ⊢
            exact e
          · rw [upd_ne c] at e ⊢
            exact sm _ _ e
        · show wayP U 0 0 l c ↔ (l = [] ∧ 33 ≤ c ∧ c < 33 + (126 + 1 - 33 : Int).toNat)
          unfold wayP Sy.isLetter
          rw [Bool.and_eq_true, decide_eq_true_eq, decide_eq_true_eq]
          constructor
          · rintro (⟨h1, h2⟩ | ⟨r, h1, -⟩ | ⟨r, h1, h2, -, h4⟩)
            · exact ⟨h1, by omega, by omega⟩
            · simp at h1
            · exact absurd (List.eq_nil_of_length_eq_zero (by omega)) h2
          · rintro ⟨h1, h2, h3⟩
            exact .inl ⟨h1, by omega, by omega⟩
        · obtain ⟨y3, y4, y5, y6, rfl, sm, hG⟩ := h
          exact sm _ _ upd_same
        · obtain ⟨y3, y4, y5, y6, rfl, sm, hG⟩ := h
          obtain ⟨r, hr1, rfl⟩ := tabV_at hv hki
          have hrm : r ∈ U := List.mem_of_getElem? hr1
          have hlr := (short_iff.mp (g.short r hrm)).1
          have hne := List.length_pos_iff.mpr (g.ne r hrm)
          rw [kT_vl] at hq
          refine ⟨_, rfl, qa, _, rfl, .inr (SqT.of hq), 1, _, rfl, ⟨by omega, by omega, by omega, ?_⟩, ?_⟩
          · show ((List.length _ : Nat) : Int) < 2 ^ 62
            rw [List.length_map]
            omega
          · have en : (((vl r.letters).length : Nat) - 1 : Int).toNat = r.letters.length - 1 := by rw [vl_len]; omega
            refine for_range (lo := 1) (n := (((vl r.letters).length : Nat) - 1 : Int).toNat) (fun j σ H' => ∃ (y4 y5 y6 : Option V), σ = [some (.ref d), some (.ref b), some (.ref t), some (.ref qa), y4, y5, y6] ∧ Same (upd H1 d (.frz od2 (.dT kd))) H' ∧ H' qa = some (.tup (vl r.letters)) ∧ TreeG CN CS (fun a => H a ≠ none) H' U t (fun l => Sy.waits U l = true ∨ l = []) xa (wayP U i j))
              ⟨y4, y5, y6, rfl, sm, hq, hG⟩ (fun j σ H' hj h => ?_) (fun σ H' h => ?_)
            · obtain ⟨y4, y5, y6, rfl, sm, hq, hG⟩ := h
              rw [en] at hj
              refine ⟨_, rfl, _, rfl, _, rfl, _, rfl, _, _, rfl, rfl, _, rfl, ?_⟩
              refine slA_any hq fun c1 H2 s2 hc1 => ?_
              have ec : cutV (vl r.letters) none (some (1 + (j : Int) + 1)) = vl (r.letters.take (j + 2)) := by
                have := cut_0 (vl r.letters) (j + 2)
                rw [vl_take] at this
                rw [← this]
                congr 2
                omega
              rw [ec] at hc1
              refine ⟨d, b, c1, U, r.letters.take (j + 2), rfl, (hTd.same sm).same s2, (hBd.same sm).same s2, g, .inr hc1, by rw [List.length_take]; omega, fun H3 qq yy s3 nq nyy hqq => ?_⟩
              refine ⟨_, rfl, _, rfl, _, rfl, _, rfl, _, rfl, ?_⟩
              refine slA_any (s3 _ _ (s2 _ _ hq)) fun c2 H4 s4 hc2 => ?_
              have ec2 : cutV (vl r.letters) none (some (1 + (j : Int))) = vl (r.letters.take (j + 1)) := by
                have := cut_0 (vl r.letters) (j + 1)
                rw [vl_take] at this
                rw [← this]
                congr 2
                omega
              rw [ec2] at hc2
              have hG4 := ((hG.same s2).same s3).same s4
              obtain ⟨c, hc⟩ : ∃ c, r.letters[j + 1]? = some c := ⟨_, List.getElem?_eq_getElem (by omega)⟩
              have hS : Sy.waits U (r.letters.take (j + 1)) = true ∨ r.letters.take (j + 1) = [] := .inl (waits_iff.mpr ⟨r, hrm, List.take_prefix _ _, by rw [List.length_take]; omega⟩)
              obtain ⟨kvs, k1, k2, k3⟩ := hG4.ex
              obtain ⟨p, j1, j2⟩ := k3 _ hS
              obtain ⟨dx, e, gg, yg, i1, i2, i3, -⟩ := j2.ex
              obtain ⟨kw, ws, w1, w2, w3⟩ := hG4.ways _ hS
              have hkw := ways_few w2 fun c' hc' => by
                have hw := (w3 c').mp hc'
                have hlet : Sy.isLetter c' = true := by
                  rcases hw with ⟨-, h⟩ | ⟨r', h1, -, h3⟩ | ⟨r', h1, -, h3, -⟩
                  · exact h
                  · exact List.all_eq_true.mp (g.lets r' (List.mem_of_mem_take h1)) c' (h3.subset (by simp))
                  · exact List.all_eq_true.mp (g.lets r' (List.mem_of_getElem? h1)) c' (h3.subset (by simp))
                unfold Sy.isLetter at hlet
                rw [Bool.and_eq_true, decide_eq_true_eq, decide_eq_true_eq] at hlet
                exact hlet.2
              have dg := DGet.t (k := kT (r.letters.take (j + 1))) k1 (by rw [kT_vl]; exact hc2)
              rw [j1] at dg
              have hq4 := s4 _ _ (s3 _ _ (s2 _ _ hq))
              refine ⟨t, _, rfl, dg, p, CN, dx, _, _, rfl, i1, T.cl, T.nW, nF_w e gg _, _, rfl, _, rfl, qa, _, _, _, rfl, rfl, SqT.of hq4, at_of (j := j + 1) (by show (1 : Int) + (j : Nat) = ((j + 1 : Nat) : Int); omega) (vl_at hc), _, _, rfl, DPut.k (k := inlK c) w1 (line_of (by omega)), ?_⟩
              have hqd : qa ≠ xa (r.letters.take (j + 1)) := fun z => by rw [z, w1] at hq4; cases hq4
              refine ⟨_, _, _, rfl, same_store (((sm.trans s2).trans s3).trans s4) (hnew3 _ hS), by rw [upd_ne hqd]; exact hq4, ?_⟩
              refine hG4.way hS w1 (by rw [← take_more hc]; exact hqq.same s4) (fun z => ?_) fun l' d' _ => ?_
              · have n1 := sm.free (s2.free nyy)
                have hyd : yy ≠ d := fun e => by rw [e, upd_same] at n1; cases n1
                rw [upd_ne hyd] at n1
                exact z (s1.free n1)
              unfold wayP
              constructor
              · rintro (z | z | ⟨r', h1, h2, h3, h4⟩)
                · exact .inl (.inl z)
                · exact .inl (.inr (.inl z))
                · rw [hr1] at h1
                  have h1 := Option.some.inj h1
                  subst h1
                  rcases Nat.lt_or_ge j l'.length with z | z
                  · obtain ⟨k1, k2⟩ := pre_take h3 (j := j + 1) (by omega)
                    rw [hc] at k2
                    exact .inr ⟨k1, (Option.some.inj k2).symm⟩
                  · exact .inl (.inr (.inr ⟨r, hr1, h2, h3, z⟩))
              · rintro ((z | z | ⟨r', h1, h2, h3, h4⟩) | ⟨rfl, rfl⟩)
                · exact .inl z
                · exact .inr (.inl z)
                · exact .inr (.inr ⟨r', h1, h2, h3, by omega⟩)
                · refine .inr (.inr ⟨r, hr1, fun z => ?_, take_pre hc, by rw [List.length_take]; omega⟩)
                  have := congrArg List.length z
                  rw [List.length_take, List.length_nil] at this
                  omega
            · obtain ⟨y4, y5, y6, rfl, sm, hq, hG⟩ := h
              rw [en] at hG
              refine ⟨_, _, _, _, rfl, sm, hG.congr fun l c _ => ?_⟩
              unfold wayP
              constructor
              · rintro (z | ⟨r', h1, h2, h3⟩ | ⟨r', h1, h2, h3, h4⟩)
                · exact .inl z
                · rw [take_more hr1] at h1
                  rcases List.mem_append.mp h1 with h1 | h1
                  · exact .inr (.inl ⟨r', h1, h2, h3⟩)
                  · rw [List.mem_singleton.mp h1] at h3
                    have := h3.length_le
                    rw [List.length_append, List.length_singleton] at this
                    exact .inr (.inr ⟨r, hr1, h2, h3, by omega⟩)
                · exact absurd (List.eq_nil_of_length_eq_zero (by omega)) h2
              · rintro (z | ⟨r', h1, h2, h3⟩ | ⟨r', h1, h2, h3, h4⟩)
                · exact .inl z
                · exact .inr (.inl ⟨r', by rw [take_more hr1]; exact List.mem_append_left _ h1, h2, h3⟩)
                · rw [hr1] at h1
                  have h1 := Option.some.inj h1
                  subst h1
                  exact .inr (.inl ⟨r, by rw [take_more hr1]; simp, h2, h3⟩)
        · obtain ⟨y3, y4, y5, y6, rfl, sm, hG⟩ := h
          have hdl := sm _ _ upd_same
          refine ⟨hdl, _, rfl, q _ t ((s1.trans (same_unlock hd sm))) ntH ?_⟩
          have hG2 := hG.unlock (o := .dT kd) hdl
          obtain ⟨kvs, k1, k2, k3⟩ := hG2.ex
          refine ⟨kvs, k1, fun l hl => ?_⟩
          have hS : Sy.waits U l = true ∨ l = [] := by
            unfold halts at hl
            rw [Bool.or_eq_true, List.isEmpty_iff] at hl
            exact hl.symm
          obtain ⟨p, j1, j2⟩ := k3 l hS
          obtain ⟨kw, ws, w1, w2, w3⟩ := hG2.ways l hS
          refine ⟨p, xa l, kw, ws, j1, j2, w1, w2, fun c => (w3 c).trans ?_⟩
          rw [isWay_iff, hlen]
          unfold wayP
          rw [List.take_length]
          constructor
          · rintro (z | ⟨r', h1, h2, h3⟩ | ⟨r', h1, h2, h3, h4⟩)
            · exact .inl z
            · exact .inr ⟨r', h1, h3⟩
            · exact .inr ⟨r', List.mem_of_getElem? h1, h3⟩
          · rintro (z | ⟨r', h1, h3⟩)
            · exact .inl z
            · by_cases e : l = []
              · exact .inl ⟨e, List.all_eq_true.mp (g.lets r' h1) c (h3.subset (by simp))⟩
              · exact .inr (.inl ⟨r', h1, e, h3⟩)
end
end SpA
set_option Elab.async false
set_option linter.all false
set_option maxRecDepth 100000
set_option maxHeartbeats 4000000
namespace SpA
open PySem PySem.Spec PyProof.Rows L2
abbrev sLettersFor : Stmt := topS 11
abbrev sNewSteps : Stmt := topS 12
abbrev sStates : Stmt := topS 13
abbrev sStepBy : Stmt := topS 14
abbrev sTold : Stmt := topS 15
abbrev sRowTo : Stmt := topS 16
theorem scStates : FnScope ["tree", "sounds", "state", "states", "given_up", "told"] ["tree", "sounds", "state"] (defScope sStates) := ⟨rfl, rfl, rfl, by decide +kernel, rfl, by decide +kernel, by decide +kernel⟩
theorem scStepBy : FnScope ["sounds", "told", "letter", "way", "behind"] ["sounds", "told", "letter", "way"] (defScope sStepBy) := ⟨rfl, rfl, rfl, by decide +kernel, rfl, by decide +kernel, by decide +kernel⟩
theorem scTold : FnScope ["sounds", "told", "more", "end"] ["sounds", "told", "more"] (defScope sTold) := ⟨rfl, rfl, rfl, by decide +kernel, rfl, by decide +kernel, by decide +kernel⟩
theorem scRowTo : FnScope ["came_by", "state", "row"] ["came_by", "state"] (defScope sRowTo) := ⟨rfl, rfl, rfl, by decide +kernel, rfl, by decide +kernel, by decide +kernel⟩
section
variable {P : Program} {w : World} {K : PySem.W.Frag} {mg : Str → Option Value} {base : Heap} {C CS CN fI fZ fT fU fG fN : Addr}
/-! ### told_behind -/
def spTold (K : PySem.W.Frag) : Sp := fun vs H Q _ => ∃ (a m : Addr) (t : Nat) (s more : List Nat), vs = [.ref a, vn t, .ref m] ∧ SqL K H a (vl s) ∧ SqL K H m (vl more) ∧ ∀ H', Same H H' → Q (optV (toldB s t more)) H'
theorem ok_told {f : Addr} {fd : FuncData} {k : Nat} (F : Fun K "told_behind" "told_behind" sTold f fd) (B : TxtB mg) : FnOk P w K mg base CX0 (k + 1) f fd ["sounds", "told", "more"] (spTold K) := by
  refine F.ok scTold (fun vs H Q E h => ?_) (fun cdv A outer s H vs Q E hr h => ?_)
  · obtain ⟨a, m, t, s, more, rfl, _⟩ := h
    rfl
  · obtain ⟨a, m, t, snd, more, rfl, ha, hm, q⟩ := h
    have nd := scTold.nd
    have hu : (cxOf CX0 P w K mg base ["sounds", "told", "more", "end"] "told_behind" (defScope sTold) f cdv A outer s H E).nox.A.units + 64 < cLine := by have := hr.un; show (A.deeper _).units + 64 < cLine; omega
    refine ⟨_, pss_cons (ps_set (i := 3) nd rfl (.inl rfl) (pe_op op_add (pv 1) (pe_callB call_len_seq (by rfl) B.len PySem.boot_len (pa_cons (pv 2) pa_nil))))
      (pss_cons (ps_if (pt_cmpR (op_eqNums hu) (pe_slice sl_list (pv 0) (po_some (pv 1)) (po_some (pv 3))) (pv 2) rfl) (pss_one (ps_ret (pv 3))) pss_nil)
      (pss_one (ps_ret pe_non))), ?_⟩
    refine ⟨_, rfl, _, rfl, m, _, rfl, .inl hm, _, _, rfl, rfl, ?_⟩
    refine ⟨_, rfl, _, rfl, _, rfl, _, rfl, _, rfl, a, _, rfl, ha, fun x nx => ?_⟩
    have s1 := same_upd (o := .lst (cutV (vl snd) (some ((t : Nat) : Int)) (some (((t : Nat) : Int) + (((vl more).length : Nat) : Int))))) nx
    have ecut : cutV (vl snd) (some ((t : Nat) : Int)) (some (((t : Nat) : Int) + (((vl more).length : Nat) : Int))) = vl ((snd.drop t).take more.length) := by
      have e : ((t : Nat) : Int) + (((vl more).length : Nat) : Int) = ((t + more.length : Nat) : Int) := by rw [vl_len]; omega
      rw [e, cut_nn, vl_drop, vl_take, Nat.add_sub_cancel_left]
    rw [ecut] at s1
    rw [ecut]
    refine ⟨_, rfl, x, m, (snd.drop t).take more.length, more, rfl, rfl, SqL.of upd_same, s1.seq hm, _, rfl, ?_⟩
    unfold toldB at q
    by_cases c : (snd.drop t).take more.length = more
    · rw [if_pos c] at q
      rw [decide_eq_true c]
      refine iteT ⟨_, rfl, ?_⟩
      have := q _ s1
      rw [vl_len]
      exact this
    · rw [if_neg c] at q
      rw [decide_eq_false c]
      exact iteF (q _ s1)
/-! ### step_by -/
def spStepBy (K : PySem.W.Frag) (CS : Addr) : Sp := fun vs H Q _ => ∃ (a qa y : Addr) (t c : Nat) (s snd left : List Nat), vs = [.ref a, vn t, vn c, .ref qa] ∧ SqL K H a (vl s) ∧ SpAt CS H qa y snd left ∧
  ∀ H' x, Same H H' → H x = none → (match toldB s t snd with
    | none => H' x = some (.lst [])
    | some u => ∃ p, H' x = some (.lst [.ref p]) ∧ StepAt H' ((c, (left, u)), p)) → Q (.ref x) H'
theorem ok_step_by {f fT2 : Addr} {fd fdT : FuncData} {k : Nat} (F : Fun K "step_by" "step_by" sStepBy f fd) (T : TxtG K mg CS fG fT fU)
    (GT : FnOk P w K mg base CX0 (k + 1) fT2 fdT ["sounds", "told", "more"] (spTold K)) (kT : PySem.W.keepIn K (.ref fT2) = true) (bT : Binds K fdT ["sounds", "told", "more"] []) (gT : mg "told_behind" = some (.ref fT2)) :
    FnOk P w K mg base CX0 (k + 1 + 1) f fd ["sounds", "told", "letter", "way"] (spStepBy K CS) := by
  refine F.ok scStepBy (fun vs H Q E h => ?_) (fun cdv A outer s H vs Q E hr h => ?_)
  · obtain ⟨a, qa, y, t, c, s, snd, left, rfl, _⟩ := h
    rfl
  · obtain ⟨a, qa, y, t, c, snd, more, left, rfl, ha, hq, q⟩ := h
    have nd := scStepBy.nd
    refine ⟨_, pss_cons (ps_set (i := 4) nd rfl (.inl rfl) (pe_call GT hr (by rfl) gT kT bT .nil pass0 (pa_cons (pv 0) (pa_cons (pv 1) (pa_cons (pe_fld (pv 3) rfl) pa_nil)))))
      (pss_cons (ps_if (pt_cmpR op_isN (pv 4) pe_non (nomark _)) (pss_one (ps_ret (pe_lst pa_nil))) pss_nil)
      (pss_one (ps_ret (pe_lst (pa_cons (pe_tup (pa_cons (pv 2) (pa_cons (pe_tup (pa_cons (pe_fld (pv 3) rfl) (pa_cons (pv 4) pa_nil))) pa_nil))) pa_nil))))), ?_⟩
    obtain ⟨dx, b, hp, hy, hb⟩ := id hq
    refine ⟨_, rfl, _, rfl, _, rfl, qa, CS, dx, _, _, rfl, hp, T.cl, T.nS, gF_s y b, a, y, t, snd, more, rfl, ha, SqL.of hy, fun H1 s1 => ?_⟩
    cases e : toldB snd t more with
    | none =>
      rw [e] at q
      refine ⟨_, rfl, rfl, _, rfl, iteT ⟨Nat.zero_le _, fun x nx => q _ x (s1.trans (same_upd nx)) (s1.free nx) upd_same⟩⟩
    | some u =>
      rw [e] at q
      have hp1 := s1 _ _ hp
      refine ⟨_, rfl, rfl, _, rfl, iteF ?_⟩
      refine ⟨_, rfl, _, rfl, qa, CS, dx, _, _, rfl, hp1, T.cl, T.nL, gF_l y b, _, rfl, (by show 2 ≤ sizeLine; decide), fun t1 n1 => ?_⟩
      have s2 := same_upd (o := .tup [.ref b, vn u]) n1
      refine ⟨(by show 2 ≤ sizeLine; decide), fun t2 n2 => ?_⟩
      have s3 := same_upd (o := .tup [vn c, .ref t1]) n2
      refine ⟨(by show 1 ≤ sizeLine; decide), fun x nx => ?_⟩
      have s4 := same_upd (o := .lst [.ref t2]) nx
      refine q _ x (((s1.trans s2).trans s3).trans s4) (((s1.trans s2).trans s3).free nx) ⟨t2, upd_same, t1, s4 _ _ upd_same, b, s4 _ _ (s3 _ _ upd_same), ?_⟩
      exact s4 _ _ (s3 _ _ (s2 _ _ (s1 _ _ hb)))
/-! ### states_without_more -/
def spStates (K : PySem.W.Frag) (CN CS : Addr) : Sp := fun vs H Q _ => ∃ (t a sa : Addr) (U : List Sy.Rule) (s : List Nat) (st : St), vs = [.ref t, .ref a, .ref sa] ∧ TreeR CN CS H t U ∧ Good U ∧ SqL K H a (vl s) ∧ StAt H sa st ∧ halts U st.1 = true ∧ st.1.length ≤ 1000 ∧
  ∀ H' x (ps : List (St × Addr)), Same H H' → H x = none → ps.map (·.1) = chainM U s st → (∀ p ∈ ps, StAt H' p.2 p.1) → H' x = some (.lst (ps.map fun p => V.ref p.2)) → Q (.ref x) H'
theorem ok_states {f fT2 : Addr} {fd fdT : FuncData} {k : Nat} (F : Fun K "states_without_more" "states_without_more" sStates f fd) (T : TxtG K mg CS fG fT fU) (TN : TxtN K mg CN fN)
    (GT : FnOk P w K mg base CX0 (k + 1) fT2 fdT ["sounds", "told", "more"] (spTold K)) (kT : PySem.W.keepIn K (.ref fT2) = true) (bT : Binds K fdT ["sounds", "told", "more"] []) (gT : mg "told_behind" = some (.ref fT2)) :
    FnOk P w K mg base CX0 (k + 1 + 1) f fd ["tree", "sounds", "state"] (spStates K CN CS) := by
  refine F.ok scStates (fun vs H Q E h => ?_) (fun cdv A outer s H vs Q E hr h => ?_)
  · obtain ⟨t, a, sa, U, s, st, rfl, _⟩ := h
    rfl
  · obtain ⟨t, a, sa, U, snd, st, rfl, hT, g, ha, hst, hh, hl, q⟩ := h
    have nd := scStates.nd
    refine ⟨_, pss_cons (ps_set (i := 3) nd rfl (.inl rfl) (pe_lst (pa_cons (pv 2) pa_nil)))
      (pss_cons (ps_while PassesOwn.never (pt_truth (pe_ix ix_tup (pe_ix ix_list (pv 3) (pe_un un_neg pe_int) (fun _ _ => rfl)) pe_int (fun _ _ => rfl)) (by intro _; rfl))
        (pss_cons (ps_set (i := 4) nd rfl (.inl rfl) (pe_fld (pe_dget (hu_of hr) (pv 0) (pe_ix ix_tup (pe_ix ix_list (pv 3) (pe_un un_neg pe_int) (fun _ _ => rfl)) pe_int (fun _ _ => rfl)) (fun _ _ => rfl)) rfl))
        (pss_cons (ps_set (i := 5) nd rfl (.inl rfl) (pe_call GT hr (by rfl) gT kT bT .nil pass0 (pa_cons (pv 1) (pa_cons (pe_ix ix_tup (pe_ix ix_list (pv 3) (pe_un un_neg pe_int) (fun _ _ => rfl)) pe_int (fun _ _ => rfl)) (pa_cons (pe_fld (pv 4) rfl) pa_nil)))))
        (pss_cons (ps_if (pt_cmpR op_isN (pv 5) pe_non (nomark _)) (pss_one (ps_ret (pv 3))) pss_nil)
        (pss_one (ps_expr (pe_bm PySem.F.plainAttrs_list PySem.F.slot_list_append PySem.F.type_list_append mt_append (pv 3) (pa_cons (pe_tup (pa_cons (pe_fld (pv 4) rfl) (pa_cons (pv 5) pa_nil))) pa_nil))))))))
      (pss_one (ps_ret (pv 3)))), ?_⟩
    refine ⟨_, rfl, (by show 1 ≤ sizeLine; decide), fun x nx => ?_⟩
    refine ⟨fun m σ H' => ∃ (ps : List (St × Addr)) (cur : St) (ca : Addr) (y4 y5 : Option V), σ = [some (.ref t), some (.ref a), some (.ref sa), some (.ref x), y4, y5] ∧ m = cur.1.length ∧ Same H H' ∧ (∀ p ∈ ps, StAt H' p.2 p.1) ∧ StAt H' ca cur ∧ halts U cur.1 = true ∧
        H' x = some (.lst ((ps ++ [(cur, ca)]).map fun p => V.ref p.2)) ∧ chainM U snd st = ps.map (·.1) ++ chainM U snd cur ∧ ps.length + cur.1.length ≤ 1000,
      ⟨_, [], st, sa, none, none, rfl, rfl, same_upd nx, by simp, hst.same fun b o e => same_upd nx b o e, hh, upd_same, rfl, by simpa using hl⟩, ?_⟩
    rintro m σ H' ⟨ps, cur, ca, y4, y5, rfl, rfl, sm, hps, hca, hch, hx, hcn, hlen⟩
    have hlast : atI ((ps ++ [(cur, ca)]).map fun p => V.ref p.2) (-1) = some (.ref ca) := by
      rw [List.map_append, List.map_singleton]
      exact atI_last _ _
    obtain ⟨ob, h1, h2⟩ := id hca
    refine ⟨_, rfl, _, rfl, x, _, _, _, rfl, rfl, SqL.of hx, hlast, ca, _, _, _, rfl, rfl, SqT.of h1, at_of (j := 0) rfl rfl, _, .inr (.inl ⟨_, SqT.of h2, rfl⟩), ?_⟩
    by_cases ce : cur.1 = []
    · have e0 : (!(cur.1.map fun (n : Nat) => V.int (n : Int)).isEmpty) = false := by rw [ce]; rfl
      rw [e0]
      refine iteF ⟨_, rfl, q H' x (ps ++ [(cur, ca)]) sm nx ?_ (fun p hp => ?_) hx⟩
      · rw [hcn, chain_nil U snd ce, List.map_append]
        rfl
      · rcases List.mem_append.mp hp with hp | hp
        · exact hps p hp
        · rw [List.mem_singleton.mp hp]
          exact hca
    · have e0 : (!(cur.1.map fun (n : Nat) => V.int (n : Int)).isEmpty) = true := by
        cases z : cur.1 with
        | nil => exact absurd z ce
        | cons c l => rfl
      rw [e0]
      refine iteT ⟨_, fun σ' H' h => h, ?_⟩
      obtain ⟨kvs, ht, hn⟩ := hT.same sm
      obtain ⟨p, xw, kw, ws, v1, v2, -, -, -⟩ := hn _ hch
      obtain ⟨dx, e, gg, yg, i1, i2, i3, -⟩ := v2.ex
      obtain ⟨dg, lf, j1, j2, j3⟩ := id i3
      have dgt := DGet.t (k := SpA.kT cur.1) ht (by rw [kT_vl]; exact h2)
      rw [v1] at dgt
      refine ⟨_, rfl, _, rfl, _, rfl, x, _, _, _, rfl, rfl, SqL.of hx, hlast, ca, _, _, _, rfl, rfl, SqT.of h1, at_of (j := 0) rfl rfl, t, _, rfl, dgt, p, CN, dx, _, _, rfl, i1, TN.cl, TN.nG, nF_g e gg xw, ?_⟩
      refine ⟨_, rfl, _, rfl, _, rfl, x, _, _, _, rfl, rfl, SqL.of hx, hlast, ca, _, _, _, rfl, rfl, SqT.of h1, at_of (j := 1) rfl rfl, _, rfl, gg, CS, dg, _, _, rfl, j1, T.cl, T.nS, gF_s yg lf, a, yg, cur.2, snd, (given U cur.1).1, rfl, sm.seq ha, SqL.of j2, fun H1 s1 => ?_⟩
      have hcons := chain_cons g snd (w := cur) ce
      have hx1 := s1 _ _ hx
      cases et : toldB snd cur.2 (given U cur.1).1 with
      | none =>
        rw [et] at hcons
        have hcons : chainM U snd cur = [cur] := hcons
        refine ⟨_, rfl, rfl, _, rfl, iteT ⟨_, rfl, q H1 x (ps ++ [(cur, ca)]) (sm.trans s1) nx ?_ (fun p hp => ?_) hx1⟩⟩
        · rw [hcn, hcons, List.map_append]
          rfl
        · rcases List.mem_append.mp hp with hp | hp
          · exact (hps p hp).same s1
          · rw [List.mem_singleton.mp hp]
            exact hca.same s1
      | some u =>
        rw [et] at hcons
        have hcons : chainM U snd cur = cur :: chainM U snd ((given U cur.1).2, u) := hcons
        have hless := given_less g ce
        refine ⟨_, rfl, rfl, _, rfl, iteF ?_⟩
        refine ⟨_, rfl, .inl ⟨rfl, _, SqL.of hx1⟩, _, rfl, gg, CS, dg, _, _, rfl, s1 _ _ j1, T.cl, T.nL, gF_l yg lf, _, rfl, (by show 2 ≤ sizeLine; decide), fun t1 n1 => ?_⟩
        have s2 := same_upd (o := .tup [.ref lf, vn u]) n1
        have hx2 := s2 _ _ hx1
        refine ⟨x, _, _, rfl, rfl, hx2, ?_, ?_⟩
        · rw [List.length_map, List.length_append, List.length_singleton]
          exact line_of (by omega)
        have s12 := s1.trans s2
        have keep : ∀ {b : Addr} {o : HO}, (upd H1 t1 (.tup [.ref lf, vn u])) b = some o → (∀ z, o ≠ .lst z) → upd (upd H1 t1 (.tup [.ref lf, vn u])) x (.lst (((ps ++ [(cur, ca)]).map fun p => V.ref p.2) ++ [.ref t1])) b = some o := fun {b o} e k => by
          rw [upd_ne fun z => by rw [z, hx2] at e; exact k _ (Option.some.inj e).symm]
          exact e
        have keepS : ∀ {b : Addr} {st : St}, StAt (upd H1 t1 (.tup [.ref lf, vn u])) b st → StAt (upd (upd H1 t1 (.tup [.ref lf, vn u])) x (.lst (((ps ++ [(cur, ca)]).map fun p => V.ref p.2) ++ [.ref t1]))) b st := fun h => h.tups fun b xs e => keep e (by intro z k; cases z <;> cases k)
        refine ⟨(given U cur.1).2.length, hless, ps ++ [(cur, ca)], ((given U cur.1).2, u), t1, _, _, rfl, rfl, same_store (sm.trans s12) nx, fun p hp => ?_, keepS ⟨lf, upd_same, s2 _ _ (s1 _ _ j3)⟩, given_halts g _, ?_, ?_, ?_⟩
        · rcases List.mem_append.mp hp with hp | hp
          · exact keepS ((hps p hp).same s12)
          · rw [List.mem_singleton.mp hp]
            exact keepS (hca.same s12)
        · rw [upd_same, List.map_append (l₂ := [(((given U cur.1).2, u), t1)])]
          rfl
        · rw [hcn, hcons, List.map_append, List.append_assoc]
          rfl
        · rw [List.length_append, List.length_singleton]
          show ps.length + 1 + (given U cur.1).2.length ≤ 1000
          omega
/-! ### row_to -/
/-- of each state that is had it is known by which letter, from which it came -/
def CameBy (H : Hp) (es : List Ent) (q : List Row) : Prop := ∀ p ∈ q, (kat es p.1 = some .non ∧ p.2 = []) ∨ ∃ r ∈ q, ∃ (c : Nat) (ta pa : Addr), kat es p.1 = some (.ref ta) ∧ H ta = some (.tup [.ref pa, vn c]) ∧ StAt H pa r.1 ∧ p.2 = r.2 ++ [c]
theorem CameBy.same {H H' : Hp} {es : List Ent} {q : List Row} (h : CameBy H es q) (s : ∀ b xs, H b = some (.tup xs) → H' b = some (.tup xs)) : CameBy H' es q := fun p hp => (h p hp).imp id fun ⟨r, hr, c, ta, pa, k1, k2, k3, k4⟩ => ⟨r, hr, c, ta, pa, k1, s _ _ k2, k3.tups s, k4⟩
def spRowTo (P : Program) (w : World) : Sp := fun vs H Q _ => ∃ (d sa : Addr) (es : List Ent) (q : List Row) (p : Row), vs = [.ref d, .ref sa] ∧ KDAt P w H d es ∧ StAt H sa p.1 ∧ p ∈ q ∧ CameBy H es q ∧ p.2.length ≤ 100000 ∧
  ∀ H' x, Same H H' → H x = none → H' x = some (.lst (vl p.2)) → Q (.ref x) H'
theorem ok_row_to {f : Addr} {fd : FuncData} {k : Nat} (F : Fun K "row_to" "row_to" sRowTo f fd) (B : TxtB mg) : FnOk P w K mg base CX0 (k + 1) f fd ["came_by", "state"] (spRowTo P w) := by
  refine F.ok scRowTo (fun vs H Q E h => ?_) (fun cdv A outer s H vs Q E hr h => ?_)
  · obtain ⟨d, sa, es, qr, p, rfl, _⟩ := h
    rfl
  · obtain ⟨d, sa, es, qr, p, rfl, hd, hsa, hp, hcb, hl, q⟩ := h
    have nd := scRowTo.nd
    have hu : (cxOf CX0 P w K mg base ["came_by", "state", "row"] "row_to" (defScope sRowTo) f cdv A outer s H E).nox.A.units + 64 < cLine := by have := hr.un; show (A.deeper _).units + 64 < cLine; omega
    refine ⟨_, pss_cons (ps_set (i := 2) nd rfl (.inl rfl) (pe_lst pa_nil))
      (pss_cons (ps_while PassesOwn.never (pt_cmpR op_notN (pe_kget hu (pv 0) (pv 1) (fun _ _ => rfl)) pe_non rfl)
        (pss_cons (ps_expr (pe_bm PySem.F.plainAttrs_list PySem.F.slot_list_append PySem.F.type_list_append mt_append (pv 2) (pa_cons (pe_ix ix_tup (pe_kget hu (pv 0) (pv 1) (fun _ _ => rfl)) pe_int (fun _ _ => rfl)) pa_nil)))
        (pss_one (ps_set (i := 1) nd rfl (.inl rfl) (pe_ix ix_tup (pe_kget hu (pv 0) (pv 1) (fun _ _ => rfl)) pe_int (fun _ _ => rfl))))))
      (pss_one (ps_ret (pe_listRev rfl (by rfl) B.list (by rfl) B.rev (pv 2))))), ?_⟩
    refine ⟨Nat.zero_le _, fun x nx => ?_⟩
    refine ⟨fun m σ H' => ∃ (r : Row) (ra : Addr) (acc : List Nat), σ = [some (.ref d), some (.ref ra), some (.ref x)] ∧ m = r.2.length ∧ r ∈ qr ∧ Same H H' ∧ StAt H' ra r.1 ∧ H' x = some (.lst (vl acc)) ∧ p.2 = r.2 ++ acc.reverse,
      ⟨_, p, sa, [], rfl, rfl, hp, same_upd nx, hsa.same fun b o e => same_upd nx b o e, upd_same, by simp⟩, ?_⟩
    rintro m σ H' ⟨r, ra, acc, rfl, rfl, hr1, sm, hra, hx, he⟩
    have hd2 := hd.same sm
    have hcb2 := hcb.same (H' := H') fun b xs e => sm _ _ e
    have hlacc := congrArg List.length he
    rw [List.length_append, List.length_reverse] at hlacc
    rcases hcb2 r hr1 with ⟨k1, k2⟩ | ⟨r2, hr2, c, ta, pa, k1, k2, k3, k4⟩
    · refine ⟨_, rfl, _, rfl, d, ra, es, r.1, _, rfl, rfl, hd2, hra, k1, rfl, _, rfl, iteF ?_⟩
      refine ⟨_, rfl, x, _, rfl, SqL.of hx, fun y ny => q _ y (sm.trans (same_upd ny)) (sm.free ny) ?_⟩
      rw [upd_same, he, k2, List.nil_append]
      unfold vl
      rw [List.map_reverse]
    · refine ⟨_, rfl, _, rfl, d, ra, es, r.1, _, rfl, rfl, hd2, hra, k1, rfl, _, rfl, iteT ⟨_, fun σ' H' h => h, ?_⟩⟩
      refine ⟨_, rfl, .inl ⟨rfl, _, SqL.of hx⟩, _, rfl, _, rfl, d, ra, es, r.1, _, rfl, rfl, hd2, hra, k1, ta, _, _, _, rfl, rfl, SqT.of k2, at_of (j := 1) rfl rfl, x, _, _, rfl, rfl, hx, ?_, ?_⟩
      · rw [vl_len]
        exact line_of (by omega)
      have keepT : ∀ b xs, H' b = some (.tup xs) → upd H' x (.lst (vl acc ++ [vn c])) b = some (.tup xs) := fun b xs e => by
        rw [upd_ne fun z => by rw [z, hx] at e; cases e]
        exact e
      have hd3 := hd2.keep (H' := upd H' x (.lst (vl acc ++ [vn c]))) (by
        rw [upd_ne fun z => by
          have := hd2.at_
          rw [z, hx] at this
          cases this]) keepT
      refine ⟨_, rfl, _, rfl, d, ra, es, r.1, _, rfl, rfl, hd3, hra.tups keepT, k1, ta, _, _, _, rfl, rfl, SqT.of (keepT _ _ k2), at_of (j := 0) rfl rfl, ?_⟩
      refine ⟨r2.2.length, ?_, r2, pa, acc ++ [c], rfl, rfl, hr2, same_store sm nx, k3.tups keepT, ?_, ?_⟩
      · rw [k4, List.length_append, List.length_singleton]
        exact Nat.lt_succ_self _
      · rw [upd_same, vl_snoc]
      · rw [he, k4, List.reverse_append]
        simp
end
end SpA
set_option Elab.async false
set_option linter.all false
set_option maxRecDepth 100000
set_option maxHeartbeats 4000000
namespace SpA
open PySem PySem.Spec PyProof.Rows L2
theorem scNewSteps : FnScope ["tree", "sounds", "state", "unused", "steps", "passed", "here", "ways", "kept", "letter", "earlier"] ["tree", "sounds", "state", "unused"] (defScope sNewSteps) := ⟨rfl, rfl, rfl, by decide +kernel, rfl, by decide +kernel, by decide +kernel⟩
/-- a walk over letters: a list of them, or the keys of a dict that is locked -/
theorem for_either {K : PySem.W.Frag} {g : TG} {tb : TS} {D : Ends} {σ : L2.St} {H : Hp} {x : V} (ls : List Nat) (Pv : Nat → L2.St → Hp → Prop) (h0 : Pv 0 σ H)
    (src : (∃ a, x = .ref a ∧ ∀ j σ H, Pv j σ H → SqL K H a (vl ls)) ∨ ∃ d o kvs, x = .ref d ∧ kvs.map (·.1) = ls.map inlK ∧ ∀ j σ H, Pv j σ H → H d = some (.frz o (.dK kvs)))
    (hs : ∀ j c σ H, ls[j]? = some c → Pv j σ H → g (vn c) σ H fun σ2 H2 => tb { D with nx := Pv (j + 1), ct := Pv (j + 1), bk := D.nx } σ2 H2) (hd : ∀ σ H, Pv ls.length σ H → D.nx σ H) :
    (∃ a xs, x = .ref a ∧ SqL K H a xs ∧ ∃ W : Nat → Nat → L2.St → Hp → Prop, (∃ m, W 0 m σ H) ∧ ∀ i m σ H, W i m σ H →
      ((Itl K a).stop i H ∧ D.nx σ H) ∨ ((Itl K a).go i H ∧ ∃ N : L2.St → Hp → Prop, (∀ σ' H', N σ' H' → ∃ m', m' < m ∧ W (i + 1) m' σ' H') ∧ ∀ x H', (Itl K a).yld i H x H' → g x σ H' fun σ2 H2 => tb { D with nx := N, ct := N, bk := D.nx } σ2 H2)) ∨
    ∃ d o kvs, x = .ref d ∧ H d = some (.frz o (.dK kvs)) ∧ ∃ W : Nat → Nat → L2.St → Hp → Prop, (∃ m, W 0 m σ H) ∧ ∀ i m σ H, W i m σ H →
      ((Itk d o kvs).stop i H ∧ D.nx σ H) ∨ ((Itk d o kvs).go i H ∧ ∃ N : L2.St → Hp → Prop, (∀ σ' H', N σ' H' → ∃ m', m' < m ∧ W (i + 1) m' σ' H') ∧ ∀ x H', (Itk d o kvs).yld i H x H' → g x σ H' fun σ2 H2 => tb { D with nx := N, ct := N, bk := D.nx } σ2 H2) := by
  rcases src with ⟨a, rfl, hl⟩ | ⟨d, o, kvs, rfl, hk, hl⟩
  · refine .inl ⟨a, vl ls, rfl, hl 0 σ H h0, for_list (xs := vl ls) Pv h0 (fun i σ H _ p => hl i σ H p) (fun i y σ H hy p => ?_) fun σ H p => hd σ H (by rw [← vl_len]; exact p)⟩
    obtain ⟨c, hc, rfl⟩ := vl_get hy
    exact hs i c σ H hc p
  · have hlen : kvs.length = ls.length := by
      have := congrArg List.length hk
      rw [List.length_map, List.length_map] at this
      exact this
    refine .inr ⟨d, o, kvs, rfl, hl 0 σ H h0, fun i m σ H => m = kvs.length - i ∧ i ≤ kvs.length ∧ Pv i σ H, ⟨kvs.length, by simp, Nat.zero_le _, h0⟩, ?_⟩
    rintro i m σ H ⟨rfl, hi, p⟩
    have hf := hl i σ H p
    by_cases hlt : i < kvs.length
    · refine .inr ⟨⟨hf, hlt⟩, Pv (i + 1), fun σ' H' q => ⟨kvs.length - (i + 1), by omega, rfl, hlt, q⟩, ?_⟩
      rintro y H' ⟨rfl, k, v, e, rfl⟩
      have e2 : (kvs.map (·.1))[i]? = some k := by rw [List.getElem?_map, e]; rfl
      rw [hk, List.getElem?_map] at e2
      cases e3 : ls[i]? with
      | none => rw [e3] at e2; cases e2
      | some c =>
        rw [e3] at e2
        have e2 : inlK c = k := Option.some.inj e2
        subst e2
        exact hs i c σ _ e3 p
    · obtain rfl : i = kvs.length := by omega
      exact .inl ⟨⟨hf, Nat.le_refl _⟩, hd σ H (by rw [← hlen]; exact p)⟩
/-- the letters that are kept, state by state -/
structure UnAt (P : Program) (w : World) (H : Hp) (D : Addr) (es : List Ent) (un : St → Option (List Nat)) : Prop where
  at_ : KDAt P w H D es
  look : ∀ st, match un st with
    | none => kat es st = none
    | some ls => ∃ la, kat es st = some (.ref la) ∧ H la = some (.lst (vl ls))
structure TxtA (mg : Str → Option Value) : Prop where
  any : mg "any" = none
theorem seq_but {K : PySem.W.Frag} {H H' : Hp} {a : Addr} {xs : List V} {L : List Addr} (h : SqL K H a xs) (hL : ∀ y ∈ L, (∀ z, H y ≠ some (.lst z)) ∧ ∀ o z, H y ≠ some (.frz o z)) (b : But L H H') : SqL K H' a xs := by
  rcases h with (h | ⟨o', h⟩) | h
  · exact .inl (.inl (b _ _ h fun z => (hL a z).1 _ h))
  · exact .inl (.inr ⟨o', b _ _ h fun z => (hL a z).2 _ _ h⟩)
  · exact .inr h
/-- ways that may be read -/
def WaysR (H : Hp) (U : List Sy.Rule) (x : Addr) (l : List Nat) : Prop := ∃ (kw : List (Key × V)) (ws : List Nat), Rd H x (.dK kw) ∧ kw.map (·.1) = ws.map inlK ∧ ∀ c, c ∈ ws ↔ isWay U l c = true
theorem WaysR.get {H : Hp} {U : List Sy.Rule} {x : Addr} {l : List Nat} (h : WaysR H U x l) (c : Nat) : ∃ r, DGet H x (vn c) r ∧ r.isSome = isWay U l c := by
  obtain ⟨kw, ws, h1, h2, h3⟩ := h
  refine ⟨valV kw (inlK c), .inl ⟨kw, inlK c, h1, rfl, rfl⟩, Bool.eq_iff_iff.mpr ?_⟩
  rw [valV_keys, h2, List.mem_map, ← h3]
  constructor
  · rintro ⟨d, k1, k2⟩
    rw [← inlK_inj k2]
    exact k1
  · exact fun h => ⟨c, h, rfl⟩
section
variable {P : Program} {w : World} {K : PySem.W.Frag} {mg : Str → Option Value} {base : Heap} {C CS CN fI fZ fT fU fG fN : Addr}
def spNewSteps (P : Program) (w : World) (K : PySem.W.Frag) (CN CS : Addr) : Sp := fun vs H Q _ => ∃ (t a sa D : Addr) (U : List Sy.Rule) (s : List Nat) (st : St) (es : List Ent) (un : St → Option (List Nat)) (had : St → Prop),
  vs = [.ref t, .ref a, .ref sa, .ref D] ∧ TreeR CN CS H t U ∧ Good U ∧ SqL K H a (vl s) ∧ StAt H sa st ∧ halts U st.1 = true ∧ UnAt P w H D es un ∧ UnOK U s un had ∧ es.length ≤ 1000000 ∧
  ∀ H' x (out : List StepA) (es' : List Ent) (un' : St → Option (List Nat)), But [D] H H' → H x = none → H' x = some (.lst (out.map fun p => V.ref p.2)) → (∀ p ∈ out, StepAt H' p) → StepsOK U s st had (out.map (·.1)) → (out.map (·.1)).Pairwise (fun x y => x.1 < y.1) →
    UnAt P w H' D es' un' → UnOK U s un' (fun z => had z ∨ ∃ x ∈ out.map (·.1), x.2 = z) → es'.length ≤ es.length + 7 → Q (.ref x) H'
theorem ok_new_steps {f fB fS : Addr} {fd fdB fdS : FuncData} {k : Nat} (F : Fun K "new_steps" "new_steps" sNewSteps f fd) (T : TxtG K mg CS fG fT fU) (TN : TxtN K mg CN fN) (B : TxtB mg) (TA : TxtA mg)
    (GB : FnOk P w K mg base CX0 (k + 1) fB fdB ["sounds", "told", "letter", "way"] (spStepBy K CS)) (kB : PySem.W.keepIn K (.ref fB) = true) (bB : Binds K fdB ["sounds", "told", "letter", "way"] []) (gB : mg "step_by" = some (.ref fB))
    (GS : FnOk P w K mg base CX0 (k + 1) fS fdS ["tree", "sounds", "state"] (spStates K CN CS)) (kS : PySem.W.keepIn K (.ref fS) = true) (bS : Binds K fdS ["tree", "sounds", "state"] []) (gS : mg "states_without_more" = some (.ref fS)) :
    FnOk P w K mg base CX0 (k + 1 + 1) f fd ["tree", "sounds", "state", "unused"] (spNewSteps P w K CN CS) := by
  refine F.ok scNewSteps (fun vs H Q E h => ?_) (fun cdv A outer s H vs Q E hr h => ?_)
  · obtain ⟨t, a, sa, D, U, s, st, es, un, had, rfl, _⟩ := h
    rfl
  · obtain ⟨t, a, sa, D, U, snd, st, es, un, had, rfl, hT, g, ha, hst, hh, hun, hok, hel, q⟩ := h
    have nd := scNewSteps.nd
    have hu : (cxOf CX0 P w K mg base ["tree", "sounds", "state", "unused", "steps", "passed", "here", "ways", "kept", "letter", "earlier"] "new_steps" (defScope sNewSteps) f cdv A outer s H E).nox.A.units + 64 < cLine := by have := hr.un; show (A.deeper _).units + 64 < cLine; omega
    refine ⟨_, pss_cons (ps_set (i := 4) nd rfl (.inl rfl) (pe_lst pa_nil))
      (pss_cons (ps_set (i := 5) nd rfl (.inl rfl) (pe_lst pa_nil))
      (pss_cons (ps_for PassesOwn.never rfl (pi_list (pe_call GS hr (by rfl) gS kS bS .nil pass0 (pa_cons (pv 0) (pa_cons (pv 1) (pa_cons (pv 2) pa_nil))))) (pg_name (i := 6) nd rfl (Or.inl rfl))
        (pss_cons (ps_set (i := 7) nd rfl (.inl rfl) (pe_fld (pe_dget (hu_of hr) (pv 0) (pe_ix ix_tup (pv 6) pe_int (fun _ _ => rfl)) (fun _ _ => rfl)) rfl))
        (pss_cons (ps_set (i := 8) nd rfl (.inl rfl) (pe_lst pa_nil))
        (pss_cons (ps_lock (ps_for PassesOwn.never rfl (pi_either (pe_kget2 hu (pv 3) (pv 6) (pv 7) ⟨rfl, rfl, rfl, rfl⟩)) (pg_name (i := 9) nd rfl (Or.inr rfl))
          (pss_one (ps_if (pt_val (pe_callB (cr_any rfl) (by rfl) TA.any (by decide +kernel) (pa_cons
              (pe_lc (own := [("earlier", 10)]) (g := gName 10) (tt := tYes) rfl nd (pi_list (pv 5)) (blkOk_by (N := ["tree", "sounds", "state", "unused", "steps", "passed", "here", "ways", "kept", "letter", "earlier"]) (sc := defScope sNewSteps) (by decide +kernel))
                (fun _ _ _ _ _ => pg_name (i := 10) nd rfl (Or.inl rfl)) (fun _ _ _ _ _ => pts_nil)
                (fun _ _ _ _ _ => pe_cmp (pc_din (hu_of hr) (pv 9) (pv 10)))) pa_nil)))
            (pss_one (ps_expr (pe_bm PySem.F.plainAttrs_list PySem.F.slot_list_append PySem.F.type_list_append mt_append (pv 8) (pa_cons (pv 9) pa_nil))))
            (pss_one (ps_expr (pe_bm PySem.F.plainAttrs_list PySem.F.slot_list_extend PySem.F.type_list_extend mt_extend (pv 4) (pa_cons
              (pe_call GB hr (by rfl) gB kB bB .nil pass0 (pa_cons (pv 1) (pa_cons (pe_ix ix_tup (pv 6) pe_int (fun _ _ => rfl)) (pa_cons (pv 9) (pa_cons (pe_dget (hu_of hr) (pv 7) (pv 9) (fun _ _ => rfl)) pa_nil))))) pa_nil))))))))
        (pss_cons (ps_kputP (P := P) (w := w) rfl rfl hu (pv 3) (pv 6) (pv 8) rfl)
        (pss_one (ps_expr (pe_bm PySem.F.plainAttrs_list PySem.F.slot_list_append PySem.F.type_list_append mt_append (pv 5) (pa_cons (pv 7) pa_nil)))))))))
      (pss_one (ps_ret (pe_callB (cr_sortSteps hu) (by rfl) B.sorted (by decide +kernel) (pa_cons (pv 4) pa_nil)))))), ?_⟩
    have hDH := hun.at_.at_
    -- steps = [], passed = []
    refine ⟨Nat.zero_le _, fun S nS => ⟨Nat.zero_le _, fun Pa nPa => ?_⟩⟩
    have SPa : S ≠ Pa := fun e => by rw [← e, upd_same] at nPa; cases nPa
    have s0 : Same H (upd (upd H S (.lst [])) Pa (.lst [])) := (same_upd nS).trans (same_upd nPa)
    have nPaH : H Pa = none := by rw [upd_ne (Ne.symm SPa)] at nPa; exact nPa
    have few : st.1.length ≤ 5 := by
      rcases halts_iff.mp hh with e | ⟨r, h1, h2, h3⟩
      · rw [e]; simp
      · have := (short_iff.mp (g.short r h1)).1
        omega
    refine ⟨_, rfl, _, rfl, _, rfl, t, a, sa, U, snd, st, rfl, hT.same s0, g, s0.seq ha, hst.same fun b o e => s0 b o e, hh, by omega, fun H1 X ps s1 nX hps hpsa hX => ?_⟩
    have sm1 : Same H H1 := s0.trans s1
    have nXH : H X = none := s0.free nX
    have hS1 : H1 S = some (.lst []) := s1 _ _ (by rw [upd_ne SPa]; exact upd_same)
    have hPa1 : H1 Pa = some (.lst []) := s1 _ _ upd_same
    have hlenps : ps.length ≤ 6 := by
      have h1 := chain_len g snd st
      rw [← hps, List.length_map] at h1
      omega
    have hcl6 : (chainM U snd st).length ≤ 6 := by rw [← hps, List.length_map]; exact hlenps
    have SX : S ≠ X := fun e => by rw [← e, upd_ne SPa, upd_same] at nX; cases nX
    have PaX : Pa ≠ X := fun e => by rw [← e, upd_same] at nX; cases nX
    refine ⟨X, rfl, ⟨_, SqL.of hX⟩, ?_⟩
    refine for_list (K := K) (a := X) (xs := ps.map fun p => V.ref p.2) (fun i σ H' => ∃ (y6 y7 y8 y9 y10 : Option V) (bs : List StepA) (pws : List Addr) (es' : List Ent) (un' : St → Option (List Nat)),
        σ = [some (.ref t), some (.ref a), some (.ref sa), some (.ref D), some (.ref S), some (.ref Pa), y6, y7, y8, y9, y10] ∧ But [D] H H' ∧ H' S = some (.lst (bs.map fun p => V.ref p.2)) ∧ (∀ p ∈ bs, StepAt H' p) ∧ H' Pa = some (.lst (pws.map V.ref)) ∧
        H' X = some (.lst (ps.map fun p => V.ref p.2)) ∧ (∀ p ∈ ps, StAt H' p.2 p.1) ∧ pws.length = i ∧ (∀ (j : Nat) (x : Addr) (l : St), pws[j]? = some x → (chainM U snd st)[j]? = some l → WaysR H' U x l.1) ∧ (∀ x ∈ pws, ∃ o, H x = some o ∧ x ≠ D) ∧ bs.length ≤ 127 * i ∧
        UnAt P w H' D es' un' ∧ es'.length ≤ es.length + i ∧ (∀ z la, kat es' z = some (.ref la) → la ≠ S ∧ la ≠ Pa ∧ la ≠ X) ∧ StepInv U snd st had un i (bs.map (·.1)) un')
      ⟨none, none, none, none, none, [], [], es, un, rfl, But.of sm1, hS1, by simp, hPa1, hX, hpsa, rfl, by simp, by simp, by simp, ?_, Nat.le_refl _, ?_, StepInv.start hok⟩ (fun i σ H' _ h => ?_) (fun i x σ H' hi h => ?_) (fun σ H' h => ?_)
    · refine ⟨hun.at_.same sm1, fun z => ?_⟩
      have := hun.look z
      cases e : un z with
      | none => rw [e] at this; exact this
      | some ls =>
        rw [e] at this
        obtain ⟨la, k1, k2⟩ := this
        exact ⟨la, k1, sm1 _ _ k2⟩
    · intro z la e
      have := hun.look z
      cases f : un z with
      | none => rw [f] at this; rw [this] at e; cases e
      | some ls =>
        rw [f] at this
        obtain ⟨la', k1, k2⟩ := this
        rw [k1] at e
        injection e with e
        injection e with e
        subst e
        exact ⟨fun c => (by rw [c, nS] at k2; cases k2), fun c => (by rw [c, nPaH] at k2; cases k2), fun c => (by rw [c, nXH] at k2; cases k2)⟩
    · obtain ⟨y6, y7, y8, y9, y10, bs, pws, es', un', rfl, bt, hS, hbs, hPa, hX', hps', hpl, hpw, hpo, hbl, hu', hel', hno, inv⟩ := h
      exact SqL.of hX'
    · obtain ⟨y6, y7, y8, y9, y10, bs, pws, es', un', rfl, bt, hS, hbs, hPa, hX', hps', hpl, hpw, hpo, hbl, hu', hel', hno, inv⟩ := h
      obtain ⟨pp, hpi, hx⟩ : ∃ pp, ps[i]? = some pp ∧ x = V.ref pp.2 := by
        rw [List.getElem?_map] at hi
        cases e : ps[i]? with
        | none => rw [e] at hi; cases hi
        | some pp =>
          rw [e] at hi
          exact ⟨pp, rfl, (Option.some.inj hi).symm⟩
      subst hx
      have hci : (chainM U snd st)[i]? = some pp.1 := by rw [← hps, List.getElem?_map, hpi]; rfl
      have hhere := chain_halts g snd st hh pp.1 (List.mem_of_getElem? hci)
      have hpp := hps' pp (List.mem_of_getElem? hpi)
      have hnot := not_before (chain_dec g snd st).1 (fun a => Nat.lt_irrefl _) hci
      obtain ⟨kvs, ht, hn⟩ := hT
      obtain ⟨p, xw, kw, ws, v1, v2, v3, v4, v5⟩ := hn _ hhere
      obtain ⟨dx, e, gg, yg, i1, i2, i3, -⟩ := v2.ex
      -- what stood at the entry stands
      have keep0 : ∀ {x : Addr} {o : HO}, H x = some o → (∀ φ, o ≠ .ext φ) → H' x = some o := fun {x o} e k => bt x o e fun z => by
        rw [List.mem_singleton.mp z, hDH] at e
        exact k _ (Option.some.inj e).symm
      have xwD : xw ≠ D := fun z => by rw [z, hDH] at v3; cases v3
      obtain ⟨ob, h1, h2⟩ := id hpp
      have dgt := DGet.t (k := kT pp.1.1) (keep0 ht (by intro _ z; cases z)) (by rw [kT_vl]; exact h2)
      rw [v1] at dgt
      refine ⟨_, rfl, _, rfl, pp.2, _, _, _, rfl, rfl, SqT.of h1, at_of (j := 0) rfl rfl, t, _, rfl, dgt, p, CN, dx, _, _, rfl, keep0 i1 (by intro _ z; cases z), TN.cl, TN.nW, nF_w e gg xw, ?_⟩
      -- kept = []
      refine ⟨Nat.zero_le _, fun Kp nKp => ?_⟩
      have hxw' : H' xw = some (.dK kw) := keep0 v3 (by intro _ z; cases z)
      have KpS : Kp ≠ S := fun z => by rw [z, hS] at nKp; cases nKp
      have KpPa : Kp ≠ Pa := fun z => by rw [z, hPa] at nKp; cases nKp
      have KpX : Kp ≠ X := fun z => by rw [z, hX'] at nKp; cases nKp
      have KpD : Kp ≠ D := fun z => by have := hu'.at_.at_; rw [← z, nKp] at this; cases this
      have Kpxw : Kp ≠ xw := fun z => by rw [z, hxw'] at nKp; cases nKp
      have Sxw : S ≠ xw := fun z => by rw [z, hxw'] at hS; cases hS
      have SD : S ≠ D := fun z => by have := hu'.at_.at_; rw [← z, hS] at this; cases this
      have PaD : Pa ≠ D := fun z => by have := hu'.at_.at_; rw [← z, hPa] at this; cases this
      have Paxw : Pa ≠ xw := fun z => by rw [z, hxw'] at hPa; cases hPa
      have XD : X ≠ D := fun z => by have := hu'.at_.at_; rw [← z, hX'] at this; cases this
      have Xxw : X ≠ xw := fun z => by rw [z, hxw'] at hX'; cases hX'
      have hxw2 : upd H' Kp (.lst []) xw = some (.dK kw) := by rw [upd_ne (Ne.symm Kpxw)]; exact hxw'
      refine ⟨xw, _, hxw2, trivial, fun od => ?_⟩
      generalize hHk : upd (upd H' Kp (.lst [])) xw (.frz od (.dK kw)) = Hk
      have toK : ∀ {x : Addr} {o : HO}, H' x = some o → x ≠ xw → Hk x = some o := fun {x o} e k => by
        rw [← hHk, upd_ne k, upd_ne (ne_of_none e nKp)]
        exact e
      have frzK : Hk xw = some (.frz od (.dK kw)) := by rw [← hHk]; exact upd_same
      have tupK : ∀ b xs, H' b = some (.tup xs) → Hk b = some (.tup xs) := fun b xs e => toK e fun z => by rw [z, hxw'] at e; cases e
      have hKpk : Hk Kp = some (.lst []) := by rw [← hHk, upd_ne Kpxw]; exact upd_same
      have hkd : KDAt P w Hk D es' := hu'.at_.keep (by rw [← hHk, upd_ne (Ne.symm xwD), upd_ne (Ne.symm KpD)]) tupK
      have hun0 := inv.old pp.1 hnot
      -- what the walk goes over
      obtain ⟨ls, hls, src⟩ : ∃ ls, LsOK U snd pp.1 ls had ∧ ((∃ la, (kat es' pp.1).getD (.ref xw) = .ref la ∧ H' la = some (.lst (vl ls)) ∧ la ≠ S) ∨ ((kat es' pp.1).getD (.ref xw) = .ref xw ∧ kw.map (·.1) = ls.map inlK)) := by
        have look := hu'.look pp.1
        rw [hun0] at look
        cases eu : un pp.1 with
        | none =>
          rw [eu] at look
          have look : kat es' pp.1 = none := look
          refine ⟨ws, LsOK.all v4.nodup v5, .inr ⟨by rw [look]; rfl, v4.keys⟩⟩
        | some ls =>
          rw [eu] at look
          obtain ⟨la, k1, k2⟩ := look
          exact ⟨ls, hok _ _ eu, .inl ⟨la, by rw [k1]; rfl, k2, (hno _ _ k1).1⟩⟩
      have hls127 : ls.length ≤ 127 := by
        have := sub_len ls (List.range 127) hls.nodup fun c hc => by
          have := way_letter g (hls.way c hc)
          unfold Sy.isLetter at this
          rw [Bool.and_eq_true, decide_eq_true_eq, decide_eq_true_eq] at this
          rw [List.mem_range]
          omega
        rw [List.length_range] at this
        exact this
      refine ⟨_, rfl, D, es', rfl, hkd, _, rfl, _, rfl, pp.2, pp.1, rfl, hkd, hpp.tups tupK, ?_⟩
      refine for_either ls (fun j σ H3 => ∃ (y9 : Option V) (bs2 : List StepA), σ = [some (.ref t), some (.ref a), some (.ref sa), some (.ref D), some (.ref S), some (.ref Pa), some (.ref pp.2), some (.ref xw), some (.ref Kp), y9, y10] ∧ But [S, Kp] Hk H3 ∧
          H3 S = some (.lst (bs2.map fun p => V.ref p.2)) ∧ (∀ p ∈ bs2, StepAt H3 p) ∧ H3 Kp = some (.lst (vl ((ls.take j).filter fun c => blk U ((chainM U snd st).take i) c))) ∧
          bs2.map (·.1) = bs.map (·.1) ++ stepsOf U snd pp.1 ((ls.take j).filter fun c => !blk U ((chainM U snd st).take i) c))
        ⟨y9, bs, rfl, But.refl, toK hS Sxw, fun p hp => ?_, hKpk, by simp [stepsOf]⟩ ?_ (fun j c σ H3 hj h => ?_) (fun σ H3 h => ?_)
      · obtain ⟨b, k1, k2⟩ := hbs p hp
        exact ⟨b, tupK _ _ k1, k2.tups tupK⟩
      · rcases src with ⟨la, k1, k2, k3⟩ | ⟨k1, k2⟩
        · refine .inl ⟨la, k1, fun j σ H3 h => ?_⟩
          obtain ⟨y9, bs2, -, b2, -⟩ := h
          refine SqL.of (b2 _ _ (toK k2 fun z => by rw [z, hxw'] at k2; cases k2) fun z => ?_)
          rcases List.mem_cons.mp z with z | z
          · exact k3 z
          · rw [List.mem_singleton.mp z, nKp] at k2
            cases k2
        · refine .inr ⟨xw, od, kw, k1, k2, fun j σ H3 h => ?_⟩
          obtain ⟨y9, bs2, -, b2, -⟩ := h
          refine b2 _ _ frzK fun z => ?_
          rcases List.mem_cons.mp z with z | z
          · exact Sxw z.symm
          · exact Kpxw (List.mem_singleton.mp z).symm
      · -- a letter
        obtain ⟨y9, bs2, rfl, b2, hS3, hbs3, hKp3, hb3⟩ := h
        have keep3 : ∀ {x : Addr} {o : HO}, Hk x = some o → x ≠ S → x ≠ Kp → H3 x = some o := fun {x o} e k1 k2 => b2 x o e fun z => by
          rcases List.mem_cons.mp z with z | z
          · exact k1 z
          · exact k2 (List.mem_singleton.mp z)
        have keepE : ∀ {x : Addr} {o : HO}, H x = some o → (∀ φ, o ≠ .ext φ) → x ≠ xw → H3 x = some o := fun {x o} e k k2 => by
          have e' := keep0 e k
          refine keep3 (toK e' k2) (fun z => ?_) (fun z => ?_)
          · rw [z, nS] at e; cases e
          · rw [z, nKp] at e'; cases e'
        have hPa3 : H3 Pa = some (.lst (pws.map V.ref)) := keep3 (toK hPa Paxw) (Ne.symm SPa) (Ne.symm KpPa)
        have frz3 : H3 xw = some (.frz od (.dK kw)) := keep3 frzK (Ne.symm Sxw) (Ne.symm Kpxw)
        have ways3 : ∀ (j : Nat) (x : Addr) (l : St), pws[j]? = some x → (chainM U snd st)[j]? = some l → WaysR H3 U x l.1 := fun j x l k1 k2 => by
          obtain ⟨kw', ws', w1, w2, w3⟩ := hpw j x l k1 k2
          obtain ⟨o0, ho0, hoD⟩ := hpo x (List.mem_of_getElem? k1)
          refine ⟨kw', ws', ?_, w2, w3⟩
          by_cases c : x = xw
          · subst c
            rcases w1 with w1 | ⟨o, w1⟩
            · rw [hxw'] at w1
              have w1 := Option.some.inj w1
              injection w1 with w1
              subst w1
              exact .inr ⟨od, frz3⟩
            · rw [hxw'] at w1
              cases w1
          · have nS' : x ≠ S := fun z => by rw [z, nS] at ho0; cases ho0
            rcases w1 with w1 | ⟨o, w1⟩
            · exact .inl (keep3 (toK w1 c) nS' fun z => by rw [z, nKp] at w1; cases w1)
            · exact .inr ⟨o, keep3 (toK w1 c) nS' fun z => by rw [z, nKp] at w1; cases w1⟩
        have hcl : c ∈ ls := List.mem_of_getElem? hj
        have hwc := hls.way c hcl
        have htj := take_snoc hj
        have hjl : j < ls.length := (List.getElem?_eq_some_iff.mp hj).1
        -- any([letter in earlier for earlier in passed])
        refine ⟨_, rfl, Pa, rfl, ⟨_, SqL.of hPa3⟩, fun Dl nDl => ?_⟩
        refine lc_list (K := K) (a := Pa) (xs := pws.map V.ref) (fun m H4 => Same H3 H4 ∧ H4 Dl = some (.lst ((((chainM U snd st).take m).map fun h => isWay U h.1 c).map V.bl))) ⟨same_upd nDl, upd_same⟩ (fun m H4 _ h => SqL.of (h.1 _ _ hPa3)) ?_ ?_
        · rintro m x H4 hm ⟨s4, hd4⟩
          obtain ⟨xm, hxm, rfl⟩ : ∃ xm, pws[m]? = some xm ∧ x = V.ref xm := by
            rw [List.getElem?_map] at hm
            cases e : pws[m]? with
            | none => rw [e] at hm; cases hm
            | some xm =>
              rw [e] at hm
              exact ⟨xm, rfl, (Option.some.inj hm).symm⟩
          have hmi : m < i := by
            have := (List.getElem?_eq_some_iff.mp hxm).1
            omega
          have hic : i < (chainM U snd st).length := (List.getElem?_eq_some_iff.mp hci).1
          obtain ⟨lm, hlm⟩ : ∃ lm, (chainM U snd st)[m]? = some lm := ⟨_, List.getElem?_eq_getElem (by omega)⟩
          obtain ⟨kw', ws', w1, w2, w3⟩ := ways3 m xm lm hxm hlm
          obtain ⟨r, hr1, hr2⟩ := WaysR.get ⟨kw', ws', rd_same s4 w1, w2, w3⟩ c
          refine ⟨rfl, ?_⟩
          refine yes ?_
          refine iteT ?_
          refine ⟨_, rfl, _, rfl, xm, r, rfl, hr1, _, hd4, ?_, same_store s4 nDl, ?_⟩
          · rw [List.length_map, List.length_map, List.length_take]
            exact line_of (by omega)
          · rw [upd_same, take_snoc hlm, List.map_append, List.map_append, hr2]
            rfl
        · rintro H4 ⟨s4, hd4⟩
          rw [List.length_map, hpl] at hd4
          refine ⟨Dl, ((chainM U snd st).take i).map fun h => isWay U h.1 c, rfl, SqL.of hd4, _, rfl, ?_⟩
          rw [List.any_map]
          show if blk U ((chainM U snd st).take i) c = true then _ else _
          have hS4 := s4 _ _ hS3
          have hKp4 := s4 _ _ hKp3
          cases eb : blk U ((chainM U snd st).take i) c with
          | true =>
            refine iteT ?_
            refine ⟨_, rfl, .inl ⟨rfl, _, SqL.of hKp4⟩, _, rfl, Kp, _, _, rfl, rfl, hKp4, ?_, ?_⟩
            · rw [vl_len]
              have := List.length_filter_le (fun c => blk U ((chainM U snd st).take i) c) (ls.take j)
              rw [List.length_take] at this
              exact line_of (by omega)
            · have kp : ∀ {x : Addr} {o : HO}, H4 x = some o → x ≠ Kp → upd H4 Kp (.lst (vl ((ls.take j).filter fun c => blk U ((chainM U snd st).take i) c) ++ [vn c])) x = some o := fun e k => by rw [upd_ne k]; exact e
              refine ⟨some (vn c), bs2, rfl, fun x o e k => kp (s4 _ _ (b2 x o e k)) fun z => k (by rw [z]; simp), kp hS4 (Ne.symm KpS), fun p hp => ?_, ?_, ?_⟩
              · obtain ⟨b, k1, k2⟩ := hbs3 p hp
                have tp : ∀ b xs, H3 b = some (.tup xs) → upd H4 Kp (.lst (vl ((ls.take j).filter fun c => blk U ((chainM U snd st).take i) c) ++ [vn c])) b = some (.tup xs) := fun b xs e => kp (s4 _ _ e) fun z => by rw [z, hKp3] at e; cases e
                exact ⟨b, tp _ _ k1, k2.tups tp⟩
              · rw [upd_same, htj, List.filter_append, vl_snoc]
                simp [eb]
              · rw [hb3, htj, List.filter_append]
                simp [eb]
          | false =>
            refine iteF ?_
            obtain ⟨qq, yq, w1, w2, -⟩ := v4.vals c ((v5 c).mpr hwc)
            have sp3 : ∀ q y a b, SpAt CS H q y a b → SpAt CS H4 q y a b := fun q y a b ⟨dg, f, k1, k2, k3⟩ => ⟨dg, f, s4 _ _ (keepE k1 (by intro _ z; cases z) fun z => by rw [z, v3] at k1; cases k1), s4 _ _ (keepE k2 (by intro _ z; cases z) fun z => by rw [z, v3] at k2; cases k2), s4 _ _ (keepE k3 (by intro _ z; cases z) fun z => by rw [z, v3] at k3; cases k3)⟩
            have dgw : DGet H4 xw (vn c) (some (.ref qq)) := .inl ⟨kw, inlK c, .inr ⟨od, s4 _ _ frz3⟩, rfl, w1.symm⟩
            have ha4 : SqL K H4 a (vl snd) := by
              have : But [D, xw] H H4 := fun x o e k => by
                have kD : x ≠ D := fun z => k (by rw [z]; simp)
                have kx : x ≠ xw := fun z => k (by rw [z]; simp)
                have e' := bt x o e fun z => kD (List.mem_singleton.mp z)
                refine s4 _ _ (keep3 (toK e' kx) (fun z => ?_) (fun z => ?_))
                · rw [z, nS] at e; cases e
                · rw [z, nKp] at e'; cases e'
              refine seq_but ha (fun y hy => ?_) this
              rcases List.mem_cons.mp hy with rfl | hy
              · rw [hDH]
                exact ⟨fun z e => (by cases e), fun o z e => (by cases e)⟩
              · rw [List.mem_singleton.mp hy, v3]
                exact ⟨fun z e => (by cases e), fun o z e => (by cases e)⟩
            have h14 : H4 pp.2 = some (.tup [.ref ob, .int (pp.1.2 : Nat)]) := s4 _ _ (keep3 (tupK _ _ h1) (fun z => by rw [z, hS] at h1; cases h1) (fun z => by rw [z, nKp] at h1; cases h1))
            refine ⟨_, rfl, .inl ⟨rfl, _, SqL.of hS4⟩, _, rfl, _, rfl, pp.2, _, _, _, rfl, rfl, SqT.of h14, at_of (j := 1) rfl rfl, _, rfl, _, rfl, _, rfl, xw, _, rfl, dgw, a, qq, yq, pp.1.2, c, snd, _, _, rfl, ha4, sp3 _ _ _ _ w2, fun H5 z s5 nz hz => ?_⟩
            have hS5 := s5 _ _ hS4
            have zS : z ≠ S := fun e => by rw [e, hS4] at nz; cases nz
            -- what is told more
            obtain ⟨more, hzm, hms, hmm⟩ : ∃ more : List StepA, H5 z = some (.lst (more.map fun p => V.ref p.2)) ∧ (∀ p ∈ more, StepAt H5 p) ∧ more.map (·.1) = stepsOf U snd pp.1 [c] := by
              unfold stepsOf onM
              cases et : toldB snd pp.1.2 (Sy.sure U (pp.1.1 ++ [c])).1 with
              | none =>
                rw [et] at hz
                exact ⟨[], hz, by simp, by simp [et]⟩
              | some u =>
                rw [et] at hz
                obtain ⟨pz, k1, k2⟩ := hz
                refine ⟨[((c, ((Sy.sure U (pp.1.1 ++ [c])).2, u)), pz)], k1, fun p hp => ?_, by simp [et]⟩
                rw [List.mem_singleton.mp hp]
                exact k2
            have hmore : more.length ≤ 1 := by
              have := congrArg List.length hmm
              rw [List.length_map] at this
              rw [this]
              unfold stepsOf
              exact Nat.le_trans (List.length_filterMap_le _ _) (Nat.le_refl _)
            have hb2l : bs2.length ≤ bs.length + 127 := by
              have := congrArg List.length hb3
              rw [List.length_map, List.length_append, List.length_map] at this
              have k1 : (stepsOf U snd pp.1 ((ls.take j).filter fun c => !blk U ((chainM U snd st).take i) c)).length ≤ ((ls.take j).filter fun c => !blk U ((chainM U snd st).take i) c).length := List.length_filterMap_le _ _
              have k2 := List.length_filter_le (fun c => !blk U ((chainM U snd st).take i) c) (ls.take j)
              rw [List.length_take] at k2
              omega
            have hic : i < (chainM U snd st).length := (List.getElem?_eq_some_iff.mp hci).1
            have hi6 : i < 6 := by
              rw [← hps, List.length_map] at hic
              omega
            refine ⟨S, z, _, _, rfl, rfl, hS5, hzm, ?_, ?_⟩
            · rw [List.length_map, List.length_map]
              exact line_le (by omega)
            · have kp : ∀ {x : Addr} {o : HO}, H5 x = some o → x ≠ S → upd H5 S (.lst ((bs2.map fun p => V.ref p.2) ++ (more.map fun p => V.ref p.2))) x = some o := fun e k => by rw [upd_ne k]; exact e
              have tp : ∀ b xs, H5 b = some (.tup xs) → upd H5 S (.lst ((bs2.map fun p => V.ref p.2) ++ (more.map fun p => V.ref p.2))) b = some (.tup xs) := fun b xs e => kp e fun z => by rw [z, hS5] at e; cases e
              refine ⟨some (vn c), bs2 ++ more, rfl, fun x o e k => kp (s5 _ _ (s4 _ _ (b2 x o e k))) fun z => k (by rw [z]; simp), ?_, fun p hp => ?_, ?_, ?_⟩
              · rw [upd_same, List.map_append]
              · rcases List.mem_append.mp hp with hp | hp
                · obtain ⟨b, k1, k2⟩ := hbs3 p hp
                  exact ⟨b, tp _ _ (s5 _ _ (s4 _ _ k1)), k2.tups fun b xs e => tp _ _ (s5 _ _ (s4 _ _ e))⟩
                · obtain ⟨b, k1, k2⟩ := hms p hp
                  exact ⟨b, tp _ _ k1, k2.tups tp⟩
              · rw [kp (s5 _ _ hKp4) KpS, htj, List.filter_append]
                simp [eb]
              · rw [List.map_append, hb3, hmm, htj, List.filter_append]
                have e1 : ([c].filter fun c => !blk U ((chainM U snd st).take i) c) = [c] := by simp [eb]
                rw [e1]
                unfold stepsOf
                rw [List.filterMap_append, List.append_assoc]
      · -- behind the letters
        obtain ⟨y9, bs2, rfl, b2, hS3, hbs3, hKp3, hb3⟩ := h
        rw [List.take_length] at hKp3 hb3
        have keep3 : ∀ {x : Addr} {o : HO}, Hk x = some o → x ≠ S → x ≠ Kp → H3 x = some o := fun {x o} e k1 k2 => b2 x o e fun z => by
          rcases List.mem_cons.mp z with z | z
          · exact k1 z
          · exact k2 (List.mem_singleton.mp z)
        have frz3 : H3 xw = some (.frz od (.dK kw)) := keep3 frzK (Ne.symm Sxw) (Ne.symm Kpxw)
        refine ⟨frz3, ?_⟩
        have keep4 : ∀ {x : Addr} {o : HO}, H' x = some o → x ≠ S → upd H3 xw (.dK kw) x = some o := fun {x o} e k => by
          by_cases c : x = xw
          · rw [c, hxw'] at e
            rw [c, upd_same, ← e]
          · rw [upd_ne c]
            exact keep3 (toK e c) k fun z => by rw [z, nKp] at e; cases e
        have tup4 : ∀ b xs, H' b = some (.tup xs) → upd H3 xw (.dK kw) b = some (.tup xs) := fun b xs e => keep4 e fun z => by rw [z, hS] at e; cases e
        have hD4 : upd H3 xw (.dK kw) D = H' D := by
          have := hu'.at_.at_
          rw [keep4 this (Ne.symm SD), this]
        have kd4 : KDAt P w (upd H3 xw (.dK kw)) D es' := hu'.at_.keep hD4 tup4
        have hpp4 := hpp.tups tup4
        have hic : i < (chainM U snd st).length := (List.getElem?_eq_some_iff.mp hci).1
        have hi6 : i < 6 := by
          rw [← hps, List.length_map] at hic
          omega
        refine ⟨_, rfl, _, rfl, _, rfl, D, pp.2, es', pp.1, rfl, rfl, kd4, hpp4, .inr ⟨Kp, rfl⟩, ?_⟩
        have kd5 := kd4.put (v := .ref Kp) hpp4 (.inr ⟨Kp, rfl⟩) (line_of (by omega))
        generalize hH5 : upd (upd H3 xw (.dK kw)) D (kdO P w D (putS es' pp.1 pp.2 (.ref Kp))) = H5 at kd5
        have keep5 : ∀ {x : Addr} {o : HO}, upd H3 xw (.dK kw) x = some o → x ≠ D → H5 x = some o := fun {x o} e k => by rw [← hH5, upd_ne k]; exact e
        have hPa5 : H5 Pa = some (.lst (pws.map V.ref)) := keep5 (keep4 hPa (Ne.symm SPa)) PaD
        refine ⟨_, rfl, .inl ⟨rfl, _, SqL.of hPa5⟩, _, rfl, Pa, _, _, rfl, rfl, hPa5, ?_, ?_⟩
        · rw [List.length_map]
          exact line_of (by omega)
        have keep6 : ∀ {x : Addr} {o : HO}, H5 x = some o → x ≠ Pa → upd H5 Pa (.lst (pws.map V.ref ++ [.ref xw])) x = some o := fun e k => by rw [upd_ne k]; exact e
        have keepA : ∀ {x : Addr} {o : HO}, H' x = some o → x ≠ S → x ≠ D → x ≠ Pa → upd H5 Pa (.lst (pws.map V.ref ++ [.ref xw])) x = some o := fun e k1 k2 k3 => keep6 (keep5 (keep4 e k1) k2) k3
        have tup6 : ∀ b xs, upd H3 xw (.dK kw) b = some (.tup xs) → upd H5 Pa (.lst (pws.map V.ref ++ [.ref xw])) b = some (.tup xs) := fun b xs e => by
          have e5 := keep5 e fun z => by rw [z, kd4.at_] at e; cases e
          exact keep6 e5 fun z => by rw [z, hPa5] at e5; cases e5
        have tup3 : ∀ b xs, H3 b = some (.tup xs) → upd H5 Pa (.lst (pws.map V.ref ++ [.ref xw])) b = some (.tup xs) := fun b xs e => tup6 _ _ (by rw [upd_ne fun z => by rw [z, frz3] at e; cases e]; exact e)
        have hKp6 : upd H5 Pa (.lst (pws.map V.ref ++ [.ref xw])) Kp = some (.lst (vl (ls.filter fun c => blk U ((chainM U snd st).take i) c))) := keep6 (keep5 (by rw [upd_ne Kpxw]; exact hKp3) KpD) KpPa
        have inv2 := inv.turn g hci hls
        rw [← hb3] at inv2
        refine ⟨_, _, _, _, _, bs2, pws ++ [xw], putS es' pp.1 pp.2 (.ref Kp), _, rfl, fun x o e k => ?_, ?_, fun p hp => ?_, ?_, ?_, fun p hp => ?_, ?_, fun j x l k1 k2 => ?_, fun x hx => ?_, ?_, ⟨?_, fun z => ?_⟩, ?_, fun z la hz => ?_, inv2⟩
        · have kD : x ≠ D := fun z => k (by rw [z]; simp)
          exact keepA (bt x o e k) (fun z => by rw [z, nS] at e; cases e) kD fun z => by rw [z, nPaH] at e; cases e
        · exact keep6 (keep5 (by rw [upd_ne Sxw]; exact hS3) SD) SPa
        · obtain ⟨b, k1, k2⟩ := hbs3 p hp
          exact ⟨b, tup3 _ _ k1, k2.tups tup3⟩
        · rw [upd_same, List.map_append]
          rfl
        · exact keepA hX' (Ne.symm SX) XD (Ne.symm PaX)
        · exact (hps' p hp).tups fun b xs e => tup6 _ _ (tup4 _ _ e)
        · rw [List.length_append, List.length_singleton, hpl]
        · rcases Nat.lt_or_ge j pws.length with c | c
          · rw [List.getElem?_append_left c] at k1
            obtain ⟨kw', ws', w1, w2, w3⟩ := hpw j x l k1 k2
            obtain ⟨o0, ho0, hoD⟩ := hpo x (List.mem_of_getElem? k1)
            have nS' : x ≠ S := fun z => by rw [z, nS] at ho0; cases ho0
            have nP' : x ≠ Pa := fun z => by rw [z, nPaH] at ho0; cases ho0
            refine ⟨kw', ws', ?_, w2, w3⟩
            rcases w1 with w1 | ⟨o, w1⟩
            · exact .inl (keepA w1 nS' hoD nP')
            · exact .inr ⟨o, keepA w1 nS' hoD nP'⟩
          · rw [List.getElem?_append_right c] at k1
            have hj : j - pws.length = 0 := by
              have := (List.getElem?_eq_some_iff.mp k1).1
              rw [List.length_singleton] at this
              omega
            rw [hj] at k1
            have k1 : xw = x := Option.some.inj k1
            subst k1
            have hji : j = i := by omega
            rw [hji, hci] at k2
            have k2 := Option.some.inj k2
            subst k2
            exact ⟨kw, ws, .inl (keepA hxw' (Ne.symm Sxw) xwD (Ne.symm Paxw)), v4.keys, v5⟩
        · rcases List.mem_append.mp hx with hx | hx
          · exact hpo x hx
          · rw [List.mem_singleton.mp hx]
            exact ⟨_, v3, xwD⟩
        · have := congrArg List.length hb3
          rw [List.length_map, List.length_append, List.length_map] at this
          have k1 : (stepsOf U snd pp.1 (ls.filter fun c => !blk U ((chainM U snd st).take i) c)).length ≤ (ls.filter fun c => !blk U ((chainM U snd st).take i) c).length := List.length_filterMap_le _ _
          have k2 := List.length_filter_le (fun c => !blk U ((chainM U snd st).take i) c) ls
          omega
        · exact kd5.keep (by rw [upd_ne (Ne.symm PaD)]) fun b xs e => keep6 e fun z => by rw [z, hPa5] at e; cases e
        · have look := hu'.look z
          unfold setU
          by_cases c : z = pp.1
          · rw [if_pos c]
            exact ⟨Kp, by rw [kat_put, if_pos c], hKp6⟩
          · rw [if_neg c]
            cases eu : un' z with
            | none =>
              rw [eu] at look
              show kat _ z = none
              rw [kat_put, if_neg c]
              exact look
            | some ls' =>
              rw [eu] at look
              obtain ⟨la, k1, k2⟩ := look
              obtain ⟨n1, n2, n3⟩ := hno z la k1
              refine ⟨la, by rw [kat_put, if_neg c]; exact k1, keepA k2 n1 (fun y => ?_) n2⟩
              have := hu'.at_.at_
              rw [← y, k2] at this
              cases this
        · have := putS_len es' pp.1 pp.2 (.ref Kp)
          omega
        · rw [kat_put] at hz
          by_cases c : z = pp.1
          · rw [if_pos c] at hz
            injection hz with hz
            injection hz with hz
            subst hz
            exact ⟨KpS, KpPa, KpX⟩
          · rw [if_neg c] at hz
            exact hno z la hz
    · obtain ⟨y6, y7, y8, y9, y10, bs, pws, es', un', rfl, bt, hS, hbs, hPa, hX', hps', hpl, hpw, hpo, hbl, hu', hel', hno, inv⟩ := h
      have hN : (ps.map fun p => V.ref p.2).length = (chainM U snd st).length := by rw [← hps, List.length_map, List.length_map]
      rw [hN] at inv hel'
      have fin := inv.fin g
      have hcl : (chainM U snd st).length ≤ 6 := by
        have := chain_len g snd st
        omega
      refine ⟨_, rfl, S, bs, rfl, hS, hbs, ?_, fun out p hperm hpw np => ?_⟩
      · have := fin.nodup
        rw [List.map_map] at this
        exact this
      · have hp2 := hperm.map (·.1)
        have sN := same_upd (o := .lst (out.map fun p => V.ref p.2)) np
        refine q _ p out es' un' (bt.trans (But.of sN)) ?_ upd_same (fun y hy => ?_) (fin.perm hp2) hpw ⟨hu'.at_.same sN, fun z => ?_⟩ ?_ (by omega)
        · cases e : H p with
          | none => rfl
          | some o =>
            have := bt p o e fun z => by
              rw [List.mem_singleton.mp z] at np
              have k := hu'.at_.at_
              rw [np] at k
              cases k
            rw [np] at this
            cases this
        · exact (hbs y (hperm.mem_iff.mp hy)).same fun b o e => sN b o e
        · have look := hu'.look z
          cases eu : un' z with
          | none => rw [eu] at look; exact look
          | some ls' =>
            rw [eu] at look
            obtain ⟨la, k1, k2⟩ := look
            exact ⟨la, k1, sN _ _ k2⟩
        · exact inv.un.mono fun z h => h.imp id fun ⟨x, hx, e⟩ => ⟨x, hp2.mem_iff.mpr hx, e⟩
end
end SpA
set_option Elab.async false
set_option linter.all false
set_option maxRecDepth 100000
set_option maxHeartbeats 4000000
namespace SpA
open PySem PySem.Spec PyProof.Rows L2
theorem scLettersFor : FnScope ["tree", "sounds", "start", "came_by", "states", "unused", "place", "state", "step"] ["tree", "sounds"] (defScope sLettersFor) := ⟨rfl, rfl, rfl, by decide +kernel, rfl, by decide +kernel, by decide +kernel⟩
/-- letters that are told, or None -/
def OptL (H : Hp) (o : Option (List Nat)) (Q : VK) : Prop := match o with
  | none => ∀ H', Same H H' → Q .non H'
  | some l => ∀ H' x, Same H H' → H x = none → H' x = some (.lst (vl l)) → Q (.ref x) H'
theorem refs_not_nums {as : List Addr} {ls : List Nat} (h : as ≠ []) : ¬ (as.map V.ref = vl ls) := by
  intro e
  cases as with
  | nil => exact h rfl
  | cons a as =>
    cases ls with
    | nil => cases e
    | cons n ls =>
      rw [List.map_cons] at e
      injection e with e1 _
      cases e1
theorem addAll_snoc {row : List Nat} {q : List Row} {L : List (Nat × St)} {x : Nat × St} : addAll row q (L ++ [x]) = if ((addAll row q L).any fun p => p.1 == x.2) = true then addAll row q L else addAll row q L ++ [(x.2, row ++ [x.1])] := by
  rw [addAll_append]
  show (if _ then _ else _) = _
  rfl
theorem univ_few {U : List Sy.Rule} (g : Good U) {s : List Nat} (h : s.length ≤ 16) : (univ U s).length ≤ 6545 := by
  rw [univ_len]
  have := begs_len g
  calc (s.length + 1) * (begs U).length ≤ 17 * 385 := Nat.mul_le_mul (by omega) this
    _ = 6545 := by decide
section
variable {P : Program} {w : World} {K : PySem.W.Frag} {mg : Str → Option Value} {base : Heap} {C CS CN fI fZ fT fU fG fN : Addr}
def spLettersFor (K : PySem.W.Frag) (CN CS : Addr) : Sp := fun vs H Q _ => ∃ (t a : Addr) (U : List Sy.Rule) (s : List Nat), vs = [.ref t, .ref a] ∧ TreeR CN CS H t U ∧ Good U ∧ SqL K H a (vl s) ∧ s.length ≤ 16 ∧ OptL H (Sy.type U s) Q
theorem ok_letters_for {f fA fB fD : Addr} {fd fdA fdB fdD : FuncData} {k : Nat} (F : Fun K "letters_for" "letters_for" sLettersFor f fd) (TN : TxtN K mg CN fN) (B : TxtB mg)
    (GA : FnOk P w K mg base CX0 (k + 1) fA fdA ["sounds", "told", "more"] (spTold K)) (kA : PySem.W.keepIn K (.ref fA) = true) (bA : Binds K fdA ["sounds", "told", "more"] []) (gA : mg "told_behind" = some (.ref fA))
    (GB : FnOk P w K mg base CX0 (k + 1) fB fdB ["came_by", "state"] (spRowTo P w)) (kB : PySem.W.keepIn K (.ref fB) = true) (bB : Binds K fdB ["came_by", "state"] []) (gB : mg "row_to" = some (.ref fB))
    (GD : FnOk P w K mg base CX0 (k + 1) fD fdD ["tree", "sounds", "state", "unused"] (spNewSteps P w K CN CS)) (kD : PySem.W.keepIn K (.ref fD) = true) (bD : Binds K fdD ["tree", "sounds", "state", "unused"] []) (gD : mg "new_steps" = some (.ref fD)) :
    FnOk P w K mg base CX0 (k + 1 + 1) f fd ["tree", "sounds"] (spLettersFor K CN CS) := by
  refine F.ok scLettersFor (fun vs H Q E h => ?_) (fun cdv A outer s H vs Q E hr h => ?_)
  · obtain ⟨t, a, U, s, rfl, _⟩ := h
    rfl
  · obtain ⟨t, a, U, snd, rfl, hT, g, ha, hl, qv⟩ := h
    have nd := scLettersFor.nd
    have hu : (cxOf CX0 P w K mg base ["tree", "sounds", "start", "came_by", "states", "unused", "place", "state", "step"] "letters_for" (defScope sLettersFor) f cdv A outer s H E).nox.A.units + 64 < cLine := by have := hr.un; show (A.deeper _).units + 64 < cLine; omega
    refine ⟨_, pss_cons (ps_set (i := 2) nd rfl (.inl rfl) (pe_tup (pa_cons (pe_tup pa_nil) (pa_cons pe_int pa_nil))))
      (pss_cons (ps_set (i := 3) nd rfl (.inl rfl) (pe_kdispP (P := P) (w := w) rfl rfl hu (pv 2) pe_non))
      (pss_cons (ps_set (i := 4) nd rfl (.inl rfl) (pe_lst (pa_cons (pv 2) pa_nil)))
      (pss_cons (ps_set (i := 5) nd rfl (.inl rfl) (pe_knewP (P := P) (w := w) rfl rfl))
      (pss_cons (ps_set (i := 6) nd rfl (.inl rfl) pe_int)
      (pss_cons (ps_while PassesOwn.never (pt_cmpR op_lt (pv 6) (pe_callB call_len_seq (by rfl) B.len PySem.boot_len (pa_cons (pv 4) pa_nil)) (nomark _))
        (pss_cons (ps_set (i := 7) nd rfl (.inl rfl) (pe_ix ix_list (pv 4) (pv 6) (fun _ _ => rfl)))
        (pss_cons (ps_aug (i := 6) nd rfl (.inl rfl) pe_int ip_add)
        (pss_cons (ps_if (pt_cmpR op_eq (pe_call GA hr (by rfl) gA kA bA .nil pass0 (pa_cons (pv 1) (pa_cons (pe_ix ix_tup (pv 7) pe_int (fun _ _ => rfl)) (pa_cons (pe_fld (pe_dget (hu_of hr) (pv 0) (pe_ix ix_tup (pv 7) pe_int (fun _ _ => rfl)) (fun _ _ => rfl)) rfl) pa_nil))))
              (pe_callB call_len_seq (by rfl) B.len PySem.boot_len (pa_cons (pv 1) pa_nil)) (nomark _))
            (pss_one (ps_ret (pe_call GB hr (by rfl) gB kB bB .nil pass0 (pa_cons (pv 3) (pa_cons (pv 7) pa_nil))))) pss_nil)
        (pss_one (ps_for PassesOwn.never rfl (pi_list (pe_call GD hr (by rfl) gD kD bD .nil pass0 (pa_cons (pv 0) (pa_cons (pv 1) (pa_cons (pv 7) (pa_cons (pv 5) pa_nil)))))) (pg_name (i := 8) nd rfl (Or.inl rfl))
          (pss_one (ps_if (pt_cmp (pc_knotinP (P := P) (w := w) rfl rfl hu (pe_ix ix_tup (pv 8) pe_int (fun _ _ => rfl)) (pv 3)))
            (pss_cons (ps_kputP (P := P) (w := w) rfl rfl hu (pv 3) (pe_ix ix_tup (pv 8) pe_int (fun _ _ => rfl)) (pe_tup (pa_cons (pv 7) (pa_cons (pe_ix ix_tup (pv 8) pe_int (fun _ _ => rfl)) pa_nil))) rfl)
            (pss_one (ps_expr (pe_bm PySem.F.plainAttrs_list PySem.F.slot_list_append PySem.F.type_list_append mt_append (pv 4) (pa_cons (pe_ix ix_tup (pv 8) pe_int (fun _ _ => rfl)) pa_nil))))) pss_nil))))))))
      (pss_one (ps_ret pe_non))))))), ?_⟩
    have hN := univ_few g hl
    -- start = ((), 0)
    refine ⟨Nat.zero_le _, fun z nz => ⟨(by show 2 ≤ sizeLine; decide), fun sa nsa => ?_⟩⟩
    have s0 : Same H (upd (upd H z (.tup [])) sa (.tup [.ref z, .int 0])) := (same_upd nz).trans (same_upd nsa)
    have hz0 : upd (upd H z (.tup [])) sa (.tup [.ref z, .int 0]) z = some (.tup []) := by
      rw [upd_ne fun e => by rw [← e, upd_same] at nsa; cases nsa]
      exact upd_same
    generalize hH0 : upd (upd H z (.tup [])) sa (.tup [.ref z, .int 0]) = H0 at s0 hz0
    have hst0 : StAt H0 sa ([], 0) := ⟨z, by rw [← hH0]; exact upd_same, hz0⟩
    -- came_by = {start: None}
    intro D1 nD1 kd0
    refine ⟨_, rfl, sa, ([], 0), rfl, kd0, ?_, .inl rfl, ?_⟩
    · exact hst0.same fun b o e => same_upd nD1 b o e
    have kd1 := kd0.put (a := sa) (st := ([], 0)) (v := .non) (hst0.same fun b o e => same_upd nD1 b o e) (.inl rfl) (by show 0 + 1 < sizeLine; decide)
    have s1 : Same H0 (upd (upd H0 D1 (kdO P w D1 [])) D1 (kdO P w D1 (putS [] ([], 0) sa .non))) := by
      rw [upd_upd]
      exact same_upd nD1
    generalize hH1 : upd (upd H0 D1 (kdO P w D1 [])) D1 (kdO P w D1 (putS [] ([], 0) sa .non)) = H1 at kd1 s1
    -- states = [start]
    refine ⟨_, rfl, (by show 1 ≤ sizeLine; decide), fun X nX => ?_⟩
    have s2 : Same H1 (upd H1 X (.lst [.ref sa])) := same_upd nX
    generalize hH2 : upd H1 X (.lst [.ref sa]) = H2 at s2
    have hX2 : H2 X = some (.lst [.ref sa]) := by rw [← hH2]; exact upd_same
    have kd2 := kd1.same s2
    -- unused = {}
    intro D2 nD2 ku0
    have s3 : Same H2 (upd H2 D2 (kdO P w D2 [])) := same_upd nD2
    generalize hH3 : upd H2 D2 (kdO P w D2 []) = H3 at s3 ku0
    have D12 : D1 ≠ D2 := ne_of_none kd2.at_ nD2
    have sm03 : Same H H3 := ((s0.trans s1).trans s2).trans s3
    have nXH : H X = none := (s0.trans s1).free nX
    have nD1H : H D1 = none := s0.free nD1
    have nD2H : H D2 = none := ((s0.trans s1).trans s2).free nD2
    refine ⟨fun m σ H' => ∃ (k : Nat) (q : List Row) (as : List Addr) (es eu : List Ent) (un : St → Option (List Nat)) (y7 y8 : Option V), σ = [some (.ref t), some (.ref a), some (.ref sa), some (.ref D1), some (.ref X), some (.ref D2), some (vn k), y7, y8] ∧ m = (univ U snd).length - k ∧ k ≤ q.length ∧
        Same H H' ∧ Had U snd q ∧ Sy.type U snd = seek U snd ((univ U snd).length - k) q k ∧ H' X = some (.lst (as.map V.ref)) ∧ as.length = q.length ∧ (∀ (i : Nat) (x : Addr) (r : Row), as[i]? = some x → q[i]? = some r → StAt H' x r.1) ∧ as ≠ [] ∧
        KDAt P w H' D1 es ∧ (∀ z, (kat es z).isSome = true ↔ hadQ q z) ∧ CameBy H' es q ∧ es.length ≤ q.length ∧ (∀ r ∈ q, r.2.length ≤ q.length) ∧ UnAt P w H' D2 eu un ∧ UnOK U snd un (hadQ q) ∧ eu.length ≤ 7 * k,
      ⟨_, 0, [(([], 0), [])], [sa], putS [] ([], 0) sa .non, [], fun _ => none, none, none, rfl, rfl, Nat.zero_le _, sm03, Had.start U snd, type_is g snd, s3 _ _ hX2, rfl, ?_, by simp, kd2.same s3, fun x => ?_, ?_, Nat.le_refl _, by simp, ⟨ku0, fun _ => rfl⟩, fun h ls e => (by cases e), Nat.le_refl _⟩, ?_⟩
    · intro i x r h1 h2
      cases i with
      | zero =>
        have h1 := Option.some.inj h1
        have h2 := Option.some.inj h2
        subst h1 h2
        exact hst0.same fun b o e => s3 _ _ (s2 _ _ (s1 _ _ e))
      | succ i => simp at h1
    · rw [kat_put]
      constructor
      · intro h
        by_cases c : x = ([], 0)
        · exact ⟨_, List.mem_singleton.mpr rfl, c.symm⟩
        · rw [if_neg c] at h
          cases h
      · rintro ⟨r, hr1, rfl⟩
        rw [List.mem_singleton.mp hr1, if_pos rfl]
        rfl
    · intro r hr1
      rw [List.mem_singleton.mp hr1]
      exact .inl ⟨by rw [kat_put, if_pos rfl], rfl⟩
    rintro m σ H' ⟨k, q, as, es, eu, un, y7, y8, rfl, rfl, hk, sm, had, hty, hX, hasl, hast, hane, hes, hkeys, hcb, hesl, hrl, hun, huo, heul⟩
    have hql := had.len g
    have ha' := sm.seq ha
    refine ⟨_, rfl, _, rfl, X, _, rfl, .inl (SqL.of hX), _, _, rfl, rfl, _, rfl, ?_⟩
    rw [List.length_map, hasl]
    by_cases c : k < q.length
    · rw [decide_eq_true (show ((k : Nat) : Int) < ((q.length : Nat) : Int) by omega)]
      refine iteT ⟨_, fun σ' H' h => h, ?_⟩
      obtain ⟨r, hr1⟩ : ∃ r, q[k]? = some r := ⟨_, List.getElem?_eq_getElem c⟩
      obtain ⟨sx, hsx⟩ : ∃ sx, as[k]? = some sx := ⟨_, List.getElem?_eq_getElem (by omega)⟩
      have hrm := List.mem_of_getElem? hr1
      have hstx := hast k sx r hsx hr1
      have val := had.all r hrm
      have hal := val.halts g
      have hsxr : (as.map V.ref)[k]? = some (.ref sx) := by rw [List.getElem?_map, hsx]; rfl
      obtain ⟨ob, h1, h2⟩ := id hstx
      obtain ⟨kvs, ht, hn⟩ := hT.same sm
      obtain ⟨p, xw, kw, ws, v1, v2, -, -, -⟩ := hn _ hal
      obtain ⟨dx, e, gg, yg, i1, i2, i3, -⟩ := v2.ex
      have dgt := DGet.t (k := kT r.1.1) ht (by rw [kT_vl]; exact h2)
      rw [v1] at dgt
      refine ⟨_, rfl, _, rfl, X, _, _, _, rfl, rfl, SqL.of hX, at_of (j := k) rfl hsxr, ?_⟩
      refine ⟨_, rfl, _, _, rfl, rfl, ?_⟩
      refine ⟨_, rfl, _, rfl, sx, _, _, _, rfl, rfl, SqT.of h1, at_of (j := 1) rfl rfl, _, rfl, _, rfl, sx, _, _, _, rfl, rfl, SqT.of h1, at_of (j := 0) rfl rfl, t, _, rfl, dgt, p, CN, dx, _, _, rfl, i1, TN.cl, TN.nE, nF_e e gg xw, a, e, r.1.2, snd, spelled U r.1.1, rfl, ha', SqL.of i2, fun H4 s4 => ?_⟩
      have sm4 := sm.trans s4
      refine ⟨_, rfl, a, _, rfl, .inl (sm4.seq ha), ?_⟩
      have esc : scal (optV (toldB snd r.1.2 (spelled U r.1.1))) (.int (((vl snd).length : Nat) : Int)) = true := by
        cases toldB snd r.1.2 (spelled U r.1.1) <;> rfl
      refine ⟨esc, _, rfl, ?_⟩
      have edec : decide (optV (toldB snd r.1.2 (spelled U r.1.1)) = .int (((vl snd).length : Nat) : Int)) = decide (spelled U r.1.1 = snd.drop r.1.2) := by
        refine decide_eq_decide.mpr (Iff.trans ?_ (ended_iff val.told))
        rw [vl_len]
        cases toldB snd r.1.2 (spelled U r.1.1) with
        | none =>
          constructor
          · intro z; cases z
          · intro z; cases z
        | some u =>
          constructor
          · intro z
            have z : V.int (u : Nat) = V.int ((snd.length : Nat) : Int) := z
            injection z with z
            have : u = snd.length := by omega
            rw [this]
          · intro z
            have := Option.some.inj z
            rw [this]
            rfl
      rw [edec]
      have eN : (univ U snd).length - k = ((univ U snd).length - (k + 1)) + 1 := by omega
      rw [eN, seek_one _ _ _ _ hr1] at hty
      by_cases ce : spelled U r.1.1 = snd.drop r.1.2
      · rw [if_pos ce] at hty
        rw [decide_eq_true ce]
        rw [hty] at qv
        have := hrl r hrm
        refine iteT ⟨_, rfl, _, rfl, D1, sx, es, q, r, rfl, hes.same s4, hstx.same fun b o e => s4 b o e, hrm, hcb.same fun b xs e => s4 _ _ e, by omega, fun H5 x s5 nx hx => ?_⟩
        exact qv H5 x (sm4.trans s5) (sm4.free nx) hx
      · rw [if_neg ce] at hty
        rw [decide_eq_false ce]
        refine iteF ?_
        have hun4 : UnAt P w H4 D2 eu un := ⟨hun.at_.same s4, fun z => by
          have look := hun.look z
          cases e : un z with
          | none => rw [e] at look; exact look
          | some ls =>
            rw [e] at look
            obtain ⟨la, k1, k2⟩ := look
            exact ⟨la, k1, s4 _ _ k2⟩⟩
        refine ⟨_, rfl, _, rfl, _, rfl, _, rfl, t, a, sx, D2, U, snd, r.1, eu, un, hadQ q, rfl, hT.same sm4, g, sm4.seq ha, hstx.same fun b o e => s4 b o e, hal, hun4, huo, by omega, fun H5 xo out eu' un' b5 nxo hxo hout sok hpw hun5 huo5 heu5 => ?_⟩
        -- what stood stands
        have keep5 : ∀ {x : Addr} {o : HO}, H4 x = some o → x ≠ D2 → H5 x = some o := fun {x o} e k => b5 x o e fun z => k (List.mem_singleton.mp z)
        have tup5 : ∀ b xs, H4 b = some (.tup xs) → H5 b = some (.tup xs) := fun b xs e => keep5 e fun z => by rw [z, hun4.at_.at_] at e; cases e
        have XD2 : X ≠ D2 := fun z => by have e := s4 _ _ hX; rw [z, hun4.at_.at_] at e; cases e
        have hX5 : H5 X = some (.lst (as.map V.ref)) := keep5 (s4 _ _ hX) XD2
        have xoX : xo ≠ X := fun z => by have e := s4 _ _ hX; rw [← z, nxo] at e; cases e
        have xoD1 : xo ≠ D1 := fun z => by have e := s4 _ _ hes.at_; rw [← z, nxo] at e; cases e
        have XD1 : X ≠ D1 := fun z => by have e := hes.at_; rw [← z, hX] at e; cases e
        have sm5 : Same H H5 := fun x o e => keep5 (sm4 _ _ e) fun z => by rw [z, nD2H] at e; cases e
        refine ⟨xo, rfl, ⟨_, SqL.of hxo⟩, ?_⟩
        refine for_list (K := K) (a := xo) (xs := out.map fun p => V.ref p.2) (fun j σ H6 => ∃ (y8 : Option V) (as' : List Addr) (es' : List Ent), σ = [some (.ref t), some (.ref a), some (.ref sa), some (.ref D1), some (.ref X), some (.ref D2), some (vn (k + 1)), some (.ref sx), y8] ∧ Same H H6 ∧
            H6 xo = some (.lst (out.map fun p => V.ref p.2)) ∧ (∀ p ∈ out, StepAt H6 p) ∧ StAt H6 sx r.1 ∧ H6 X = some (.lst (as'.map V.ref)) ∧ as'.length = (addAll r.2 q ((out.map (·.1)).take j)).length ∧ as' ≠ [] ∧
            (∀ (i : Nat) (x : Addr) (r' : Row), as'[i]? = some x → (addAll r.2 q ((out.map (·.1)).take j))[i]? = some r' → StAt H6 x r'.1) ∧ KDAt P w H6 D1 es' ∧ (∀ z, (kat es' z).isSome = true ↔ hadQ (addAll r.2 q ((out.map (·.1)).take j)) z) ∧ CameBy H6 es' (addAll r.2 q ((out.map (·.1)).take j)) ∧
            es'.length ≤ (addAll r.2 q ((out.map (·.1)).take j)).length ∧ (∀ r' ∈ addAll r.2 q ((out.map (·.1)).take j), r'.2.length ≤ (addAll r.2 q ((out.map (·.1)).take j)).length) ∧ UnAt P w H6 D2 eu' un' ∧ (addAll r.2 q ((out.map (·.1)).take j)).length ≤ q.length + j)
          ⟨y8, as, es, rfl, sm5, hxo, hout, (hstx.same fun b o e => s4 b o e).tups tup5, hX5, hasl, hane, fun i x r' k1 k2 => ((hast i x r' k1 k2).same fun b o e => s4 b o e).tups tup5, (hes.same s4).keep (by rw [keep5 (s4 _ _ hes.at_) D12, s4 _ _ hes.at_]) tup5, hkeys, (hcb.same fun b xs e => s4 _ _ e).same tup5, hesl, hrl, hun5, Nat.le_refl _⟩
          (fun j σ H6 _ h => ?_) (fun j x σ H6 hj h => ?_) (fun σ H6 h => ?_)
        · obtain ⟨y8, as', es', rfl, sm6, hxo6, -⟩ := h
          exact SqL.of hxo6
        · obtain ⟨y8, as', es', rfl, sm6, hxo6, hout6, hsx6, hX6, hl6, hne6, hast6, hes6, hkeys6, hcb6, hesl6, hrl6, hun6, hql6⟩ := h
          obtain ⟨pp, hpj, hx⟩ : ∃ pp, out[j]? = some pp ∧ x = V.ref pp.2 := by
            rw [List.getElem?_map] at hj
            cases e : out[j]? with
            | none => rw [e] at hj; cases hj
            | some pp =>
              rw [e] at hj
              exact ⟨pp, rfl, (Option.some.inj hj).symm⟩
          subst hx
          have hol : out.length ≤ 94 + 1 := by
            have h3 := sub_len (out.map fun p => p.1.1) letters94 (by have := sok.nodup; rw [List.map_map] at this; exact this) fun c hc => by
              obtain ⟨p, hp, rfl⟩ := List.mem_map.mp hc
              exact mem94.mpr (sok.good p.1 (List.mem_map.mpr ⟨p, hp, rfl⟩)).1
            rw [List.length_map] at h3
            unfold letters94 at h3
            rw [List.length_map, List.length_range] at h3
            omega
          have hjo := (List.getElem?_eq_some_iff.mp hpj).1
          have htk : (out.map (·.1)).take (j + 1) = (out.map (·.1)).take j ++ [pp.1] := take_snoc (by rw [List.getElem?_map, hpj]; rfl)
          generalize hq6 : addAll r.2 q ((out.map (·.1)).take j) = q6 at *
          have hq7 : addAll r.2 q ((out.map (·.1)).take (j + 1)) = if (q6.any fun p => p.1 == pp.1.2) = true then q6 else q6 ++ [(pp.1.2, r.2 ++ [pp.1.1])] := by
            rw [htk, addAll_snoc, hq6]
          obtain ⟨b, b1, b2⟩ := hout6 pp (List.mem_of_getElem? hpj)
          refine ⟨_, rfl, pp.2, _, _, _, rfl, rfl, SqT.of b1, at_of (j := 1) rfl rfl, _, rfl, D1, b, es', pp.1.2, rfl, rfl, hes6, b2, _, rfl, ?_⟩
          by_cases ch : (kat es' pp.1.2).isSome = true
          · have h3 := hadQ_any.mpr ((hkeys6 _).mp ch)
            rw [ch]
            refine iteF ?_
            rw [if_pos h3] at hq7
            rw [hq7]
            exact ⟨_, as', es', rfl, sm6, hxo6, hout6, hsx6, hX6, hl6, hne6, hast6, hes6, hkeys6, hcb6, hesl6, hrl6, hun6, by omega⟩
          · have h3 : ¬ (q6.any fun p => p.1 == pp.1.2) = true := fun z => ch ((hkeys6 _).mpr (hadQ_any.mp z))
            rw [if_neg h3] at hq7
            have ch2 : (kat es' pp.1.2).isSome = false := by simpa using ch
            rw [ch2]
            refine iteT ?_
            -- came_by[step[1]] = (state, step[0])
            refine ⟨_, rfl, _, rfl, pp.2, _, _, _, rfl, rfl, SqT.of b1, at_of (j := 0) rfl rfl, (by show 2 ≤ sizeLine; decide), fun ta nta => ?_⟩
            have s7 : Same H6 (upd H6 ta (.tup [.ref sx, .int (pp.1.1 : Nat)])) := same_upd nta
            have hta : upd H6 ta (.tup [.ref sx, .int (pp.1.1 : Nat)]) ta = some (.tup [.ref sx, vn pp.1.1]) := upd_same
            generalize hH7 : upd H6 ta (.tup [.ref sx, .int (pp.1.1 : Nat)]) = H7 at s7 hta
            have hes7 := hes6.same s7
            have b27 := b2.same fun b o e => s7 b o e
            refine ⟨_, rfl, _, rfl, pp.2, _, _, _, rfl, rfl, SqT.of (s7 _ _ b1), at_of (j := 1) rfl rfl, D1, b, es', pp.1.2, rfl, rfl, hes7, b27, .inr ⟨ta, rfl⟩, ?_⟩
            have hlq6 : q6.length ≤ 7000 := by omega
            have hes8 := hes7.put (v := .ref ta) b27 (.inr ⟨ta, rfl⟩) (line_of (by omega))
            have tup8 : ∀ c xs, H7 c = some (.tup xs) → upd H7 D1 (kdO P w D1 (putS es' pp.1.2 b (.ref ta))) c = some (.tup xs) := fun c xs e => by
              rw [upd_ne fun z => by rw [z, hes7.at_] at e; cases e]
              exact e
            have keep8 : ∀ {x : Addr} {o : HO}, H7 x = some o → x ≠ D1 → upd H7 D1 (kdO P w D1 (putS es' pp.1.2 b (.ref ta))) x = some o := fun e k => by rw [upd_ne k]; exact e
            have hX8 : upd H7 D1 (kdO P w D1 (putS es' pp.1.2 b (.ref ta))) X = some (.lst (as'.map V.ref)) := keep8 (s7 _ _ hX6) XD1
            -- states.append(step[1])
            refine ⟨_, rfl, .inl ⟨rfl, _, SqL.of hX8⟩, _, rfl, pp.2, _, _, _, rfl, rfl, SqT.of (tup8 _ _ (s7 _ _ b1)), at_of (j := 1) rfl rfl, X, _, _, rfl, rfl, hX8, ?_, ?_⟩
            · rw [List.length_map]
              exact line_of (by omega)
            have keep9 : ∀ {x : Addr} {o : HO}, (upd H7 D1 (kdO P w D1 (putS es' pp.1.2 b (.ref ta)))) x = some o → x ≠ X → upd (upd H7 D1 (kdO P w D1 (putS es' pp.1.2 b (.ref ta)))) X (.lst (as'.map V.ref ++ [.ref b])) x = some o := fun e k => by rw [upd_ne k]; exact e
            have tup9 : ∀ c xs, H6 c = some (.tup xs) → upd (upd H7 D1 (kdO P w D1 (putS es' pp.1.2 b (.ref ta)))) X (.lst (as'.map V.ref ++ [.ref b])) c = some (.tup xs) := fun c xs e => by
              have e8 := tup8 _ _ (s7 _ _ e)
              exact keep9 e8 fun z => by rw [z, hX8] at e8; cases e8
            have keepA : ∀ {x : Addr} {o : HO}, H6 x = some o → x ≠ D1 → x ≠ X → upd (upd H7 D1 (kdO P w D1 (putS es' pp.1.2 b (.ref ta)))) X (.lst (as'.map V.ref ++ [.ref b])) x = some o := fun e k1 k2 => keep9 (keep8 (s7 _ _ e) k1) k2
            have hnew : pp.1.2 ∉ q6.map (·.1) := fun hm => by
              obtain ⟨r', h1', h2'⟩ := List.mem_map.mp hm
              exact h3 (hadQ_any.mpr ⟨r', h1', h2'⟩)
            rw [hq7]
            refine ⟨_, as' ++ [b], putS es' pp.1.2 b (.ref ta), rfl, fun x o e => keepA (sm6 _ _ e) (fun z => by rw [z, nD1H] at e; cases e) (fun z => by rw [z, nXH] at e; cases e), keepA hxo6 xoD1 xoX, fun p hp => ?_, hsx6.tups tup9, ?_, ?_, by simp, fun i x r' k1 k2 => ?_, ?_, fun z => ?_, fun r' hr' => ?_, ?_, fun r' hr' => ?_, ⟨?_, fun z => ?_⟩, ?_⟩
            · obtain ⟨b', k1, k2⟩ := hout6 p hp
              exact ⟨b', tup9 _ _ k1, k2.tups tup9⟩
            · rw [upd_same, List.map_append]
              rfl
            · rw [List.length_append, List.length_append, hl6]
              rfl
            · rcases Nat.lt_or_ge i as'.length with ci | ci
              · rw [List.getElem?_append_left ci] at k1
                rw [List.getElem?_append_left (by omega)] at k2
                exact (hast6 i x r' k1 k2).tups tup9
              · rw [List.getElem?_append_right ci] at k1
                rw [List.getElem?_append_right (by omega)] at k2
                have hi0 : i - as'.length = 0 := by
                  have := (List.getElem?_eq_some_iff.mp k1).1
                  rw [List.length_singleton] at this
                  omega
                rw [hi0] at k1
                rw [show i - q6.length = 0 by omega] at k2
                have k1 : b = x := Option.some.inj k1
                have k2 := Option.some.inj k2
                subst k1 k2
                exact b2.tups tup9
            · exact hes8.keep (by rw [upd_ne (Ne.symm XD1)]) fun c xs e => keep9 e fun z => by rw [z, hX8] at e; cases e
            · rw [kat_put]
              constructor
              · intro h
                by_cases cz : z = pp.1.2
                · exact ⟨(pp.1.2, r.2 ++ [pp.1.1]), by simp, cz.symm⟩
                · rw [if_neg cz] at h
                  obtain ⟨r', h1', h2'⟩ := (hkeys6 z).mp h
                  exact ⟨r', List.mem_append_left _ h1', h2'⟩
              · rintro ⟨r', h1', h2'⟩
                by_cases cz : z = pp.1.2
                · rw [if_pos cz]
                  rfl
                · rw [if_neg cz]
                  rcases List.mem_append.mp h1' with h1' | h1'
                  · exact (hkeys6 z).mpr ⟨r', h1', h2'⟩
                  · rw [List.mem_singleton.mp h1'] at h2'
                    exact absurd h2'.symm cz
            · rcases List.mem_append.mp hr' with hr' | hr'
              · have cz : ¬ r'.1 = pp.1.2 := fun z => hnew (z ▸ List.mem_map.mpr ⟨r', hr', rfl⟩)
                rcases hcb6 r' hr' with ⟨k1, k2⟩ | ⟨r2, hr2, c', ta', pa', k1, k2, k3, k4⟩
                · exact .inl ⟨by rw [kat_put, if_neg cz]; exact k1, k2⟩
                · exact .inr ⟨r2, List.mem_append_left _ hr2, c', ta', pa', by rw [kat_put, if_neg cz]; exact k1, tup9 _ _ k2, k3.tups tup9, k4⟩
              · rw [List.mem_singleton.mp hr']
                obtain ⟨mo, hmo, -⟩ := addAll_more r.2 ((out.map (·.1)).take j) q
                have hta8 := tup8 _ _ hta
                refine .inr ⟨r, List.mem_append_left _ (by rw [← hq6, hmo]; exact List.mem_append_left _ hrm), pp.1.1, ta, sx, by rw [kat_put, if_pos rfl], keep9 hta8 (fun z => by have e6 := s7 _ _ hX6; rw [← z, hta] at e6; cases e6), hsx6.tups tup9, rfl⟩
            · have := putS_len es' pp.1.2 b (.ref ta)
              rw [List.length_append, List.length_singleton]
              omega
            · rw [List.length_append, List.length_singleton]
              rcases List.mem_append.mp hr' with hr' | hr'
              · have := hrl6 r' hr'
                omega
              · rw [List.mem_singleton.mp hr']
                obtain ⟨mo, hmo, -⟩ := addAll_more r.2 ((out.map (·.1)).take j) q
                have h4 := hrl6 r (by rw [← hq6, hmo]; exact List.mem_append_left _ hrm)
                show (r.2 ++ [pp.1.1]).length ≤ _
                rw [List.length_append, List.length_singleton]
                omega
            · refine hun6.at_.keep ?_ tup9
              rw [keepA hun6.at_.at_ (Ne.symm D12) (Ne.symm XD2), hun6.at_.at_]
            · have look := hun6.look z
              cases e : un' z with
              | none => rw [e] at look; exact look
              | some ls =>
                rw [e] at look
                obtain ⟨la, k1, k2⟩ := look
                refine ⟨la, k1, keepA k2 (fun y => ?_) fun y => ?_⟩
                · rw [y, hes6.at_] at k2
                  cases k2
                · rw [y, hX6] at k2
                  have k2 := Option.some.inj k2
                  injection k2 with k2
                  exact refs_not_nums hne6 k2
            · rw [List.length_append, List.length_singleton]
              omega
        · obtain ⟨y8, as', es', rfl, sm6, hxo6, hout6, hsx6, hX6, hl6, hne6, hast6, hes6, hkeys6, hcb6, hesl6, hrl6, hun6, hql6⟩ := h
          have eall : (out.map (·.1)).take (out.map fun p => V.ref p.2).length = out.map (·.1) := by
            rw [List.length_map]
            exact List.take_of_length_le (by rw [List.length_map]; exact Nat.le_refl _)
          rw [eall] at hl6 hast6 hkeys6 hcb6 hesl6 hrl6
          have eout := sok.add hpw r.2
          have had6 := had.add g hrm
          rw [← eout] at hty had6
          obtain ⟨mo, hmo, -⟩ := addAll_more r.2 (out.map (·.1)) q
          refine ⟨(univ U snd).length - (k + 1), by omega, k + 1, addAll r.2 q (out.map (·.1)), as', es', eu', un', _, _, rfl, rfl, by rw [hmo, List.length_append]; omega, sm6, had6, hty, hX6, hl6, hast6, hne6, hes6, hkeys6, hcb6, hesl6, hrl6, hun6, huo5.mono fun z h => addAll_has r.2 _ _ _ h, by omega⟩
    · have ek : k = q.length := by omega
      rw [decide_eq_false (show ¬ ((k : Nat) : Int) < ((q.length : Nat) : Int) by omega)]
      refine iteF ?_
      have hnone : Sy.type U snd = none := by
        rw [hty]
        cases (univ U snd).length - k with
        | zero => rfl
        | succ n =>
          show (match q[k]? with | none => none | some w => _) = none
          rw [List.getElem?_eq_none (by omega)]
      rw [hnone] at qv
      exact qv H' sm
end
end SpA
set_option Elab.async false
set_option linter.all false
set_option maxRecDepth 100000
set_option maxHeartbeats 4000000
namespace SpA
open PySem PySem.Spec PyProof.Rows L2
abbrev sAllChars : Stmt := topS 9
abbrev sSession : Stmt := topS 69
abbrev sSesInit : Stmt := inClass sSession 0
abbrev sSesBegin : Stmt := inClass sSession 1
abbrev sSesRead : Stmt := inClass sSession 2
abbrev sSesWrite : Stmt := inClass sSession 3
abbrev sSesSpell : Stmt := inClass sSession 4
abbrev sSesSure : Stmt := inClass sSession 5
abbrev sSesOpen : Stmt := inClass sSession 6
abbrev sSesTold : Stmt := inClass sSession 7
abbrev sSesChange : Stmt := inClass sSession 8
abbrev sSesTree : Stmt := inClass sSession 9
abbrev sRefusal : Stmt := topS 70
abbrev sRefusalS : Stmt := topS 71
theorem scAllChars : FnScope ["row", "number"] ["row"] (defScope sAllChars) := ⟨rfl, rfl, rfl, by decide +kernel, rfl, by decide +kernel, by decide +kernel⟩
theorem scSesInit : FnScope ["self"] ["self"] (defScope sSesInit) := ⟨rfl, rfl, rfl, by decide +kernel, rfl, by decide +kernel, by decide +kernel⟩
theorem scSesBegin : FnScope ["self"] ["self"] (defScope sSesBegin) := ⟨rfl, rfl, rfl, by decide +kernel, rfl, by decide +kernel, by decide +kernel⟩
theorem scSesRead : FnScope ["self", "text", "table", "fault"] ["self", "text"] (defScope sSesRead) := ⟨rfl, rfl, rfl, by decide +kernel, rfl, by decide +kernel, by decide +kernel⟩
theorem scSesWrite : FnScope ["self", "text"] ["self"] (defScope sSesWrite) := ⟨rfl, rfl, rfl, by decide +kernel, rfl, by decide +kernel, by decide +kernel⟩
theorem scSesSpell : FnScope ["self", "letters", "refusal", "sounds"] ["self", "letters"] (defScope sSesSpell) := ⟨rfl, rfl, rfl, by decide +kernel, rfl, by decide +kernel, by decide +kernel⟩
theorem scSesSure : FnScope ["self", "letters", "refusal", "spelling"] ["self", "letters"] (defScope sSesSure) := ⟨rfl, rfl, rfl, by decide +kernel, rfl, by decide +kernel, by decide +kernel⟩
theorem scSesOpen : FnScope ["self", "letters", "refusal", "spelling"] ["self", "letters"] (defScope sSesOpen) := ⟨rfl, rfl, rfl, by decide +kernel, rfl, by decide +kernel, by decide +kernel⟩
theorem scSesTold : FnScope ["self", "sounds", "refusal", "letters"] ["self", "sounds"] (defScope sSesTold) := ⟨rfl, rfl, rfl, by decide +kernel, rfl, by decide +kernel, by decide +kernel⟩
theorem scSesChange : FnScope ["self", "table"] ["self", "table"] (defScope sSesChange) := ⟨rfl, rfl, rfl, by decide +kernel, rfl, by decide +kernel, by decide +kernel⟩
theorem scSesTree : FnScope ["self"] ["self"] (defScope sSesTree) := ⟨rfl, rfl, rfl, by decide +kernel, rfl, by decide +kernel, by decide +kernel⟩
theorem scRefusal : FnScope ["letters"] ["letters"] (defScope sRefusal) := ⟨rfl, rfl, rfl, by decide +kernel, rfl, by decide +kernel, by decide +kernel⟩
theorem scRefusalS : FnScope ["sounds"] ["sounds"] (defScope sRefusalS) := ⟨rfl, rfl, rfl, by decide +kernel, rfl, by decide +kernel, by decide +kernel⟩
structure TxtS (K : PySem.W.Frag) (mg : Str → Option Value) (S fCh fTr : Addr) : Prop where
  cl : Cls K S
  nT : NoAttr K S "table"
  nR : NoAttr K S "tree"
  mC : Meth K S "change_table" fCh
  mR : Meth K S "tree_of_table" fTr
  gS : mg "Session" = some (.ref S)
  n1 : ∃ t, mg "MOST_BYTES" = some (.int 65536 t)
  n2 : ∃ t, mg "MOST_ROW_LETTERS" = some (.int 256 t)
  n3 : ∃ t, mg "NOT_REFUSED" = some (.int 0 t)
  n4 : ∃ t, mg "TOO_LONG" = some (.int (-1) t)
  n5 : ∃ t, mg "FAULTY_TEXT" = some (.int (-2) t)
  n6 : ∃ t, mg "WRONG_NUMBER" = some (.int (-3) t)
  n7 : ∃ t, mg "MOST_ROW_SOUNDS" = some (.int 16 t)
  n8 : ∃ t, mg "NONE_SOUNDS_SO" = some (.int (-5) t)
def sF (d : Addr) (v : V) : List (Str × V) := [("table", .ref d), ("tree", v)]
theorem sF_t (d : Addr) (v : V) : (sF d v).lookup ("table" : Str) = some (.ref d) := lk_here
theorem sF_r (d : Addr) (v : V) : (sF d v).lookup ("tree" : Str) = some v := (lk_past (by decide +kernel)).trans lk_here
theorem sF_none {d : Addr} {v : V} {m : Str} (h : (m == ("table" : Str)) = false) (h2 : (m == ("tree" : Str)) = false) : (sF d v).lookup m = none := (lk_past h).trans ((lk_past h2).trans rfl)
theorem sF_put (d e : Addr) (v : V) : putF "table" (.ref e) (sF d v) = sF e v := put_here
theorem sF_put2 (d : Addr) (v u : V) : putF "tree" u (sF d v) = sF d u := (put_past (by decide +kernel)).trans (congrArg _ put_here)
theorem sF_new (d : Addr) (v : V) : putF "tree" v (putF "table" (.ref d) []) = sF d v := (put_past (by decide +kernel)).trans rfl
/-- the classes differ -/
structure Differ (S C CN CS : Addr) : Prop where
  sc : S ≠ C
  sn : S ≠ CN
  ss : S ≠ CS
  gc : CS ≠ C
/-- the object at p with the table T -/
def SesAt (S C CN CS : Addr) (N : Addr → Prop) (H : Hp) (p : Addr) (T : List Sy.Rule) : Prop := ∃ dx d v, H p = some (.ins S dx (sF d v)) ∧ TabAt C H d T ∧ (v = .non ∨ ∃ t, v = .ref t ∧ TreeN CN CS N H t T)
/-- what a call on the object leaves: the table T, the answer a in a new list -/
def Ans (S C CN CS : Addr) (N : Addr → Prop) (H : Hp) (p : Addr) (T : List Sy.Rule) (a : List Int) (Q : VK) : Prop := ∀ H' q, SameBut p H H' → H q = none → SesAt S C CN CS N H' p T → H' q = some (.lst (a.map V.int)) → Q (.ref q) H'
theorem SesAt.same {S C CN CS : Addr} {N : Addr → Prop} {H H' : Hp} {p : Addr} {T : List Sy.Rule} (h : SesAt S C CN CS N H p T) (s : Same H H') : SesAt S C CN CS N H' p T := by
  obtain ⟨dx, d, v, h1, h2, h3⟩ := h
  exact ⟨dx, d, v, s _ _ h1, h2.same s, h3.imp id fun ⟨t, e, k⟩ => ⟨t, e, k.same s⟩⟩
/-- a rule, a tree stand where an instance of another class is changed -/
theorem RuleAt.ins {C S dx : Addr} {H H' : Hp} {p q : Addr} {r : Sy.Rule} {fs : List (Str × V)} (hp : H p = some (.ins S dx fs)) (hc : S ≠ C) (h : RuleAt C H q r) (s : SameBut p H H') : RuleAt C H' q r := by
  obtain ⟨dx', a, b, c, h1, h2, h3, h4⟩ := h
  have ne : ∀ {x : Addr} {o : HO}, H x = some o → (∀ dx fs, o ≠ .ins S dx fs) → x ≠ p := by
    intro x o hx hn e
    rw [e, hp] at hx
    exact hn dx fs (Option.some.inj hx).symm
  exact ⟨dx', a, b, c, s _ _ h1 (ne h1 fun d f e => by injection e with e1; exact hc e1.symm), s _ _ h2 (ne h2 (by intro d f e; cases e)), s _ _ h3 (ne h3 (by intro d f e; cases e)), s _ _ h4 (ne h4 (by intro d f e; cases e))⟩
theorem TabAt.ins {C S dx : Addr} {H H' : Hp} {p d : Addr} {T : List Sy.Rule} {fs : List (Str × V)} (hp : H p = some (.ins S dx fs)) (hc : S ≠ C) (h : TabAt C H d T) (s : SameBut p H H') : TabAt C H' d T := by
  obtain ⟨kvs, h1, h2⟩ := h
  exact ⟨kvs, s _ _ h1 (fun e => by rw [e, hp] at h1; cases h1), h2.mono fun _ _ k => k.ins hp hc s⟩
theorem TreeN.ins {CN CS S dx : Addr} {N : Addr → Prop} {H H' : Hp} {U : List Sy.Rule} {t p : Addr} {fs : List (Str × V)} (hp : H p = some (.ins S dx fs)) (hn : S ≠ CN) (hs : S ≠ CS) (h : TreeN CN CS N H t U) (b : SameBut p H H') : TreeN CN CS N H' t U := by
  obtain ⟨kvs, h1, h2⟩ := h
  have ne : ∀ {a u}, H a = some u → (∀ dx fs, u ≠ .ins S dx fs) → H' a = some u := fun {a u} e k => b a u e fun z => by rw [z, hp] at e; exact k _ _ (Option.some.inj e).symm
  have sp : ∀ q y a c, SpAt CS H q y a c → SpAt CS H' q y a c := fun q y a c ⟨dg, f, k1, k2, k3⟩ => ⟨dg, f, ne k1 (by intro _ _ z; injection z with z; exact hs z.symm), ne k2 (by intro _ _ z; cases z), ne k3 (by intro _ _ z; cases z)⟩
  refine ⟨kvs, ne h1 (by intro _ _ z; cases z), fun l hl => ?_⟩
  obtain ⟨q, x, kw, ws, k1, k2, k3, k4, k5⟩ := h2 l hl
  obtain ⟨dn, e, g, y, j1, j2, j3, j4⟩ := k2.ex
  exact ⟨q, x, kw, ws, k1, ⟨dn, e, g, y, ne j1 (by intro _ _ z; injection z with z; exact hn z.symm), ne j2 (by intro _ _ z; cases z), sp _ _ _ _ j3, j4⟩, ne k3 (by intro _ _ z; cases z), k4.mono sp, k5⟩
theorem zs_map (l : List Nat) : (zs l).map V.int = vl l := (vl_zs l).symm
section
variable {P : Program} {w : World} {K : PySem.W.Frag} {mg : Str → Option Value} {base : Heap} {aF a0 a1 a2 a3 C S CN CS fI fZ fL fC fA fCh fTr fG fT fU : Addr}
/-! ### __init__, change_table, begin -/
def spSesInit (S C CN CS : Addr) : Sp := fun vs H Q _ => ∃ (p dx : Addr), vs = [.ref p] ∧ H p = some (.ins S dx []) ∧ ∀ H' : Hp, (∀ N : Addr → Prop, SesAt S C CN CS N H' p []) → (∀ b o, H b = some o → b ≠ p → H' b = some o) → Q .non H'
theorem ok_ses_init {f : Addr} {fd : FuncData} {k : Nat} (F : Fun K "__init__" "Session.__init__" sSesInit f fd) (T : TxtS K mg S fCh fTr) : FnOk P w K mg base CX0 (k + 1) f fd ["self"] (spSesInit S C CN CS) := by
  refine F.ok scSesInit (fun vs H Q E h => ?_) (fun cdv A outer s H vs Q E hr h => ?_)
  · obtain ⟨p, dx, rfl, _⟩ := h
    rfl
  · obtain ⟨p, dx, rfl, hp, q⟩ := h
    refine ⟨_, pss_cons (ps_fld (pv 0) pe_dnewT rfl) (pss_one (ps_fld (pv 0) pe_non rfl)), ?_⟩
    intro d nd
    have hp' := (same_upd (o := .dT []) nd) _ _ hp
    have hdp : d ≠ p := fun e => by rw [e, hp] at nd; cases nd
    refine ⟨_, rfl, p, S, dx, [], rfl, hp', T.cl, T.nT, (by show 0 < 1000; decide), ?_⟩
    refine ⟨_, rfl, p, S, dx, _, rfl, upd_same, T.cl, T.nR, (by show 1 < 1000; decide), ?_⟩
    rw [upd_upd]
    refine q _ (fun N => ⟨dx, d, .non, ?_, ⟨[], ?_, trivial⟩, .inl rfl⟩) fun b o e hb => ?_
    · rw [upd_same]
      exact congrArg (fun z => some (HO.ins S dx z)) (sF_new d .non)
    · rw [upd_ne hdp, upd_same]
    · rw [upd_ne hb]
      exact same_upd nd _ _ e
def spSesChange (S : Addr) : Sp := fun vs H Q _ => ∃ (p dx d e : Addr) (v : V), vs = [.ref p, .ref e] ∧ H p = some (.ins S dx (sF d v)) ∧ Q .non (upd H p (.ins S dx (sF e .non)))
theorem ok_ses_change {fd : FuncData} {k : Nat} (F : Fun K "change_table" "Session.change_table" sSesChange fCh fd) (T : TxtS K mg S fCh fTr) : FnOk P w K mg base CX0 (k + 1) fCh fd ["self", "table"] (spSesChange S) := by
  refine F.ok scSesChange (fun vs H Q E h => ?_) (fun cdv A outer s H vs Q E hr h => ?_)
  · obtain ⟨p, dx, d, e, v, rfl, _⟩ := h
    rfl
  · obtain ⟨p, dx, d, e, v, rfl, hp, q⟩ := h
    refine ⟨_, pss_cons (ps_fld (pv 0) (pv 1) rfl) (pss_one (ps_fld (pv 0) pe_non rfl)), ?_⟩
    refine ⟨_, rfl, _, rfl, p, S, dx, _, rfl, hp, T.cl, T.nT, (by show 2 < 1000; decide), ?_⟩
    refine ⟨_, rfl, p, S, dx, _, rfl, upd_same, T.cl, T.nR, (by rw [sF_put]; show 2 < 1000; decide), ?_⟩
    rw [upd_upd, sF_put, sF_put2]
    exact q
def spSesBegin (S C CN CS : Addr) : Sp := fun vs H Q _ => ∃ (N : Addr → Prop) (p : Addr) (T : List Sy.Rule), vs = [.ref p] ∧ SesAt S C CN CS N H p T ∧ Ans S C CN CS N H p [] [0] Q
theorem ok_ses_begin {f : Addr} {fd fdC : FuncData} {k : Nat} (F : Fun K "begin" "Session.begin" sSesBegin f fd) (T : TxtS K mg S fCh fTr)
    (GC : FnOk P w K mg base CX0 (k + 1) fCh fdC ["self", "table"] (spSesChange S)) (bC : Binds K fdC ["self", "table"] []) : FnOk P w K mg base CX0 (k + 1 + 1) f fd ["self"] (spSesBegin S C CN CS) := by
  refine F.ok scSesBegin (fun vs H Q E h => ?_) (fun cdv A outer s H vs Q E hr h => ?_)
  · obtain ⟨N, p, U, rfl, _⟩ := h
    rfl
  · obtain ⟨N, p, U, rfl, ⟨dx, d0, v, hp, hT, -⟩, q⟩ := h
    refine ⟨_, pss_cons (ps_expr (pe_meth (pv 0) T.cl T.mC GC hr bC .nil pass0 (pa_cons pe_dnewT pa_nil))) (pss_one (ps_ret (pe_lst (pa_cons pe_int pa_nil)))), ?_⟩
    refine ⟨_, rfl, p, dx, _, rfl, hp, sF_none (by decide +kernel) (by decide +kernel), fun d nd => ?_⟩
    have hp' := (same_upd (o := .dT []) nd) _ _ hp
    have hdp : d ≠ p := fun e => by rw [e, hp] at nd; cases nd
    refine ⟨p, dx, d0, d, v, rfl, hp', ?_⟩
    refine ⟨(by show 1 ≤ sizeLine; decide), fun x nx => ?_⟩
    have hxp : x ≠ p := fun e => by rw [e, upd_same] at nx; cases nx
    have hxd : x ≠ d := fun e => by rw [e, upd_ne hdp, upd_same] at nx; cases nx
    refine q _ x (fun b o e hb => ?_) ?_ ⟨dx, d, .non, ?_, ⟨[], ?_, trivial⟩, .inl rfl⟩ upd_same
    · have : b ≠ x := fun z => by rw [← z, upd_ne hb, same_upd nd _ _ e] at nx; cases nx
      rw [upd_ne this, upd_ne hb]
      exact same_upd nd _ _ e
    · rw [upd_ne hxp, upd_ne hxd] at nx
      exact nx
    · rw [upd_ne (Ne.symm hxp), upd_same]
    · rw [upd_ne (Ne.symm hxd), upd_ne hdp, upd_same]
/-! ### read -/
def readAns (T : List Sy.Rule) (t : List Nat) : List Sy.Rule × List Int := match fillText t with
  | (_, some e) => (T, [-2, (e.1 : Int), (e.2 : Int)])
  | (U, none) => (U, [(U.length : Int)])
def spSesRead (K : PySem.W.Frag) (S C CN CS : Addr) : Sp := fun vs H Q _ => ∃ (N : Addr → Prop) (p a : Addr) (T : List Sy.Rule) (t : List Nat), vs = [.ref p, .ref a] ∧ SesAt S C CN CS N H p T ∧ SqL K H a (vl t) ∧ t.length ≤ 44900 ∧ Ans S C CN CS N H p (readAns T t).1 (readAns T t).2 Q
theorem ok_ses_read {f fF : Addr} {fd fdF fdC : FuncData} {k : Nat} (F : Fun K "read" "Session.read" sSesRead f fd) (T : TxtS K mg S fCh fTr) (B : TxtB mg) (hSC : S ≠ C)
    (GF : FnOk P w K mg base CX0 (k + 1) fF fdF ["table", "text"] (spFillTable K C)) (kF : PySem.W.keepIn K (.ref fF) = true) (bF : Binds K fdF ["table", "text"] []) (gF : mg "fill_table" = some (.ref fF))
    (GC : FnOk P w K mg base CX0 (k + 1) fCh fdC ["self", "table"] (spSesChange S)) (bC : Binds K fdC ["self", "table"] []) :
    FnOk P w K mg base CX0 (k + 1 + 1) f fd ["self", "text"] (spSesRead K S C CN CS) := by
  refine F.ok scSesRead (fun vs H Q E h => ?_) (fun cdv A outer s H vs Q E hr h => ?_)
  · obtain ⟨N, p, a, U, t, rfl, _⟩ := h
    rfl
  · obtain ⟨N, p, a, U, t, rfl, ⟨dx, d0, v, hp, hT, hv⟩, hS, hl, q⟩ := h
    have nd := scSesRead.nd
    obtain ⟨t4, e4⟩ := T.n4
    obtain ⟨t5, e5⟩ := T.n5
    obtain ⟨c1, hc1, t1, e1⟩ : ∃ c : Int, c = 65536 ∧ ∃ t, mg "MOST_BYTES" = some (.int c t) := ⟨_, rfl, T.n1⟩
    refine ⟨_, pss_cons (ps_if (pt_cmpR op_gt (pe_callB call_len_seq (by rfl) B.len PySem.boot_len (pa_cons (pv 1) pa_nil)) (pe_gint rfl e1) (nomark _)) (pss_one (ps_ret (pe_lst (pa_cons (pe_gint rfl e4) pa_nil)))) pss_nil)
      (pss_cons (ps_set (i := 2) nd rfl (.inl rfl) pe_dnewT)
      (pss_cons (ps_set (i := 3) nd rfl (.inl rfl) (pe_call GF hr (by rfl) gF kF bF .nil pass0 (pa_cons (pv 2) (pa_cons (pv 1) pa_nil))))
      (pss_cons (ps_if (pt_truth (pv 3) (by intro _; rfl)) (pss_one (ps_ret (pe_op op_cat (pe_lst (pa_cons (pe_gint rfl e5) pa_nil)) (pv 3)))) pss_nil)
      (pss_cons (ps_expr (pe_meth (pv 0) T.cl T.mC GC hr bC .nil pass0 (pa_cons (pv 2) pa_nil)))
      (pss_one (ps_ret (pe_lst (pa_cons (pe_callB call_len_dT (by rfl) B.len PySem.boot_len (pa_cons (pv 2) pa_nil)) pa_nil)))))))), ?_⟩
    refine ⟨_, rfl, a, _, rfl, .inl hS, _, _, rfl, rfl, _, rfl, ?_⟩
    rw [vl_len, decide_eq_false (show ¬ ((t.length : Nat) : Int) > c1 by omega)]
    refine iteF ?_
    intro d nd1
    have s1 : Same H (upd H d (.dT [])) := same_upd nd1
    have hdp : d ≠ p := fun e => by rw [e, hp] at nd1; cases nd1
    refine ⟨_, rfl, _, rfl, d, a, t, rfl, upd_same, s1.seq hS, by omega, ?_⟩
    unfold readAns at q
    cases ef : fillText t with
    | mk U2 e =>
      rw [ef] at q
      have old : ∀ {H1 : Hp}, SameBut d (upd H d (.dT [])) H1 → Same H H1 := fun sb b o e => sb b o (s1 b o e) (ne_of_none e nd1)
      cases e with
      | some e =>
        intro H1 x sb nx hx
        have sm := old sb
        refine ⟨_, rfl, _, .inl ⟨_, SqL.of hx, rfl⟩, iteT ?_⟩
        refine ⟨(by show 1 ≤ sizeLine; decide), fun y ny => ?_⟩
        have xy : x ≠ y := ne_of_none hx ny
        refine ⟨_, rfl, y, x, _, _, rfl, rfl, upd_same, by rw [upd_ne xy]; exact hx, (by show 3 ≤ sizeLine; decide), fun z nz => ?_⟩
        have sm2 := (sm.trans (same_upd (o := .lst [V.int (-2)]) ny)).trans (same_upd (o := .lst ([V.int (-2)] ++ [vn e.1, vn e.2])) nz)
        exact q _ z (SameBut.of sm2) ((sm.trans (same_upd (o := .lst [V.int (-2)]) ny)).free nz) (SesAt.same ⟨dx, d0, v, hp, hT, hv⟩ sm2) upd_same
      | none =>
        intro H1 x sb nx hTb hx
        have sm := old sb
        have hp1 := sm _ _ hp
        obtain ⟨kvs, hd1, hv1⟩ := hTb
        refine ⟨_, rfl, _, .inl ⟨_, SqL.of hx, rfl⟩, iteF ?_⟩
        refine ⟨_, rfl, p, dx, _, rfl, hp1, sF_none (by decide +kernel) (by decide +kernel), _, rfl, p, dx, d0, d, v, rfl, hp1, ?_⟩
        have sbp : SameBut p H1 (upd H1 p (.ins S dx (sF d .non))) := fun b o e hb => by rw [upd_ne hb]; exact e
        have hT2 : TabAt C (upd H1 p (.ins S dx (sF d .non))) d U2 := TabAt.ins hp1 hSC ⟨kvs, hd1, hv1⟩ sbp
        have hd2 : (upd H1 p (.ins S dx (sF d .non))) d = some (.dT kvs) := sbp _ _ hd1 hdp
        refine ⟨_, rfl, d, kvs, rfl, hd2, (by show 1 ≤ sizeLine; decide), fun y ny => ?_⟩
        have hyp : y ≠ p := fun e => by rw [e, upd_same] at ny; cases ny
        refine q _ y (fun b o e hb => (same_upd ny) _ _ (sbp _ _ (sm _ _ e) hb)) ?_ ⟨dx, d, .non, ?_, hT2.same (same_upd ny), .inl rfl⟩ ?_
        · rw [upd_ne hyp] at ny
          exact sm.free ny
        · rw [upd_ne (Ne.symm hyp), upd_same]
        · rw [upd_same, hv1.length]
          rfl
/-! ### write -/
def spSesWrite (S C CN CS : Addr) : Sp := fun vs H Q _ => ∃ (N : Addr → Prop) (p : Addr) (T : List Sy.Rule), vs = [.ref p] ∧ SesAt S C CN CS N H p T ∧ Good T ∧ Ans S C CN CS N H p T (((writtenM (sortT T)).length : Int) :: zs (writtenM (sortT T))) Q
theorem writtenM_len {U : List Sy.Rule} (g : Good U) : (writtenM (sortT U)).length ≤ 6400 := by
  have g2 := sortT_good g
  have := flat_len lineM 100 (sortT U) fun r hr => lineM_len (g2.short r hr)
  have := g2.few
  unfold writtenM
  omega
/-- [len(x)] + x -/
theorem lenCat {Q : VK} {H H1 : Hp} {x : Addr} {l : List Nat} (nx : H x = none) (sm : Same H H1) (hx : H1 x = some (.lst (vl l))) (hl : l.length ≤ 100000)
    (q : ∀ H' z, Same H H' → H z = none → H' z = some (.lst (((l.length : Int) :: zs l).map V.int)) → Q (.ref z) H') :
    ∀ y, H1 y = none → rCat (.ref y) (.ref x) (upd H1 y (.lst [.int ((l.length : Nat) : Int)])) Q := by
  intro y ny
  have xy : x ≠ y := ne_of_none hx ny
  refine ⟨y, x, _, _, rfl, rfl, upd_same, by rw [upd_ne xy]; exact hx, ?_, fun z nz => ?_⟩
  · rw [vl_len]
    exact line_le (by show 1 + l.length ≤ _; omega)
  · have sm2 := sm.trans (same_upd (o := .lst [V.int ((l.length : Nat) : Int)]) ny)
    refine q _ z (sm2.trans (same_upd nz)) (sm2.free nz) ?_
    rw [upd_same, List.map_cons, zs_map]
    rfl
theorem ok_ses_write {f fW : Addr} {fd fdW : FuncData} {k : Nat} (F : Fun K "write" "Session.write" sSesWrite f fd) (T : TxtS K mg S fCh fTr) (B : TxtB mg)
    (GW : FnOk P w K mg base CX0 (k + 1) fW fdW ["table"] (spWritten C)) (kW : PySem.W.keepIn K (.ref fW) = true) (bW : Binds K fdW ["table"] []) (gW : mg "written" = some (.ref fW)) :
    FnOk P w K mg base CX0 (k + 1 + 1) f fd ["self"] (spSesWrite S C CN CS) := by
  refine F.ok scSesWrite (fun vs H Q E h => ?_) (fun cdv A outer s H vs Q E hr h => ?_)
  · obtain ⟨N, p, U, rfl, _⟩ := h
    rfl
  · obtain ⟨N, p, U, rfl, ⟨dx, d, v, hp, hT, hv⟩, g, q⟩ := h
    have nd := scSesWrite.nd
    refine ⟨_, pss_cons (ps_set (i := 1) nd rfl (.inl rfl) (pe_call GW hr (by rfl) gW kW bW .nil pass0 (pa_cons (pe_fld (pv 0) rfl) pa_nil)))
      (pss_one (ps_ret (pe_op op_cat (pe_lst (pa_cons (pe_callB call_len_seq (by rfl) B.len PySem.boot_len (pa_cons (pv 1) pa_nil)) pa_nil)) (pv 1)))), ?_⟩
    refine ⟨_, rfl, p, S, dx, _, _, rfl, hp, T.cl, T.nT, sF_t d v, d, U, rfl, hT, g, fun H1 x sm nx hx => ?_⟩
    have hwl := writtenM_len g
    refine ⟨_, rfl, x, _, rfl, .inl (SqL.of hx), (by show 1 ≤ sizeLine; decide), fun y ny => ⟨_, rfl, ?_⟩⟩
    rw [vl_len]
    refine lenCat nx sm hx (by omega) (fun H2 z s2 nz hz => ?_) y ny
    exact q H2 z (SameBut.of s2) nz (SesAt.same ⟨dx, d, v, hp, hT, hv⟩ s2) hz
/-! ### refusals of letters, spell -/
def refOf (l : List Nat) : Int := if 256 < l.length then -1 else if Sy.isLetters l = false then -3 else 0
def spRefusal (K : PySem.W.Frag) : Sp := fun vs H Q _ => ∃ (a : Addr) (l : List Nat), vs = [.ref a] ∧ SqL K H a (vl l) ∧ l.length ≤ 1000 ∧ ∀ H', Same H H' → Q (.int (refOf l)) H'
theorem ok_refusal {f : Addr} {fd fdA : FuncData} {k : Nat} (F : Fun K "letters_refusal" "letters_refusal" sRefusal f fd) (T : TxtS K mg S fCh fTr) (TL : TxtL mg fL fC fA) (B : TxtB mg)
    (GA : FnOk P w K mg base CX0 (k + 1 + 1) fA fdA ["row"] (spAllLetters K)) (kA : PySem.W.keepIn K (.ref fA) = true) (bA : Binds K fdA ["row"] []) :
    FnOk P w K mg base CX0 (k + 1 + 1 + 1) f fd ["letters"] (spRefusal K) := by
  refine F.ok scRefusal (fun vs H Q E h => ?_) (fun cdv A outer s H vs Q E hr h => ?_)
  · obtain ⟨a, l, rfl, _⟩ := h
    rfl
  · obtain ⟨a, l, rfl, hS, hl, q⟩ := h
    obtain ⟨t2, e2⟩ := T.n2
    obtain ⟨t3, e3⟩ := T.n3
    obtain ⟨t4, e4⟩ := T.n4
    obtain ⟨t6, e6⟩ := T.n6
    refine ⟨_, pss_cons (ps_if (pt_cmpR op_gt (pe_callB call_len_seq (by rfl) B.len PySem.boot_len (pa_cons (pv 0) pa_nil)) (pe_gint rfl e2) (nomark _)) (pss_one (ps_ret (pe_gint rfl e4))) pss_nil)
      (pss_cons (ps_if (pt_not (pt_val (pe_call GA hr (by rfl) TL.gA kA bA .nil pass0 (pa_cons (pv 0) pa_nil)))) (pss_one (ps_ret (pe_gint rfl e6))) pss_nil)
      (pss_one (ps_ret (pe_gint rfl e3)))), ?_⟩
    refine ⟨_, rfl, a, _, rfl, .inl hS, _, _, rfl, rfl, _, rfl, ?_⟩
    unfold refOf at q
    rw [vl_len]
    by_cases c : 256 < l.length
    · rw [decide_eq_true (show ((l.length : Nat) : Int) > 256 by omega)]
      rw [if_pos c] at q
      exact iteT (q _ (Same.refl _))
    · rw [decide_eq_false (show ¬ ((l.length : Nat) : Int) > 256 by omega)]
      rw [if_neg c] at q
      refine iteF ⟨_, rfl, a, l, rfl, hS, by omega, fun H1 s1 => ⟨_, rfl, ?_⟩⟩
      cases e : Sy.isLetters l with
      | false =>
        rw [if_pos e] at q
        exact iteT (q _ s1)
      | true =>
        rw [if_neg (by rw [e]; intro z; cases z)] at q
        exact iteF (q _ s1)
theorem ofL_ref (l : List Nat) (a : List Int) : ofL l a = if refOf l ≠ 0 then [refOf l] else a := by
  unfold ofL refOf
  by_cases c : 256 < l.length
  · rw [if_pos c, if_pos c, if_pos (by decide)]
  · rw [if_neg c, if_neg c]
    by_cases d : Sy.isLetters l = false
    · rw [if_pos d, if_pos d, if_pos (by decide)]
    · rw [if_neg d, if_neg d, if_neg (by decide)]
/-- a refusal alone -/
theorem refused {S C CN CS : Addr} {N : Addr → Prop} {H H1 : Hp} {p : Addr} {T : List Sy.Rule} {i : Int} {Q : VK} (hs : SesAt S C CN CS N H p T) (s1 : Same H H1) (q : Ans S C CN CS N H p T [i] Q) : ∀ y, H1 y = none → Q (.ref y) (upd H1 y (.lst [.int i])) := fun y ny => by
  have sm := s1.trans (same_upd (o := .lst [.int i]) ny)
  exact q _ y (SameBut.of sm) (s1.free ny) (hs.same sm) upd_same
def spSesSpell (K : PySem.W.Frag) (S C CN CS : Addr) : Sp := fun vs H Q _ => ∃ (N : Addr → Prop) (p a : Addr) (T : List Sy.Rule) (l : List Nat), vs = [.ref p, .ref a] ∧ SesAt S C CN CS N H p T ∧ Good T ∧ SqL K H a (vl l) ∧ l.length ≤ 300 ∧
  Ans S C CN CS N H p T (ofL l (((spelled T l).length : Int) :: zs (spelled T l))) Q
theorem ok_ses_spell {f fR fP : Addr} {fd fdR fdP : FuncData} {k : Nat} (F : Fun K "spell" "Session.spell" sSesSpell f fd) (T : TxtS K mg S fCh fTr) (B : TxtB mg)
    (GR : FnOk P w K mg base CX0 (k + 1) fR fdR ["letters"] (spRefusal K)) (kR : PySem.W.keepIn K (.ref fR) = true) (bR : Binds K fdR ["letters"] []) (gR : mg "letters_refusal" = some (.ref fR))
    (GP : FnOk P w K mg base CX0 (k + 1) fP fdP ["table", "letters"] (spSpelled K C)) (kP : PySem.W.keepIn K (.ref fP) = true) (bP : Binds K fdP ["table", "letters"] []) (gP : mg "spelled" = some (.ref fP)) :
    FnOk P w K mg base CX0 (k + 1 + 1) f fd ["self", "letters"] (spSesSpell K S C CN CS) := by
  refine F.ok scSesSpell (fun vs H Q E h => ?_) (fun cdv A outer s H vs Q E hr h => ?_)
  · obtain ⟨N, p, a, U, l, rfl, _⟩ := h
    rfl
  · obtain ⟨N, p, a, U, l, rfl, hses, g, hS, hl, q⟩ := h
    obtain ⟨dx, d, v, hp, hT, hv⟩ := id hses
    have nd := scSesSpell.nd
    obtain ⟨t3, e3⟩ := T.n3
    refine ⟨_, pss_cons (ps_set (i := 2) nd rfl (.inl rfl) (pe_call GR hr (by rfl) gR kR bR .nil pass0 (pa_cons (pv 1) pa_nil)))
      (pss_cons (ps_if (pt_cmpR op_ne (pv 2) (pe_gint rfl e3) (nomark _)) (pss_one (ps_ret (pe_lst (pa_cons (pv 2) pa_nil)))) pss_nil)
      (pss_cons (ps_set (i := 3) nd rfl (.inl rfl) (pe_call GP hr (by rfl) gP kP bP .nil pass0 (pa_cons (pe_fld (pv 0) rfl) (pa_cons (pv 1) pa_nil))))
      (pss_one (ps_ret (pe_op op_cat (pe_lst (pa_cons (pe_callB call_len_seq (by rfl) B.len PySem.boot_len (pa_cons (pv 3) pa_nil)) pa_nil)) (pv 3)))))), ?_⟩
    refine ⟨_, rfl, a, l, rfl, hS, by omega, fun H1 s1 => ?_⟩
    rw [ofL_ref] at q
    refine ⟨_, rfl, rfl, _, rfl, ?_⟩
    by_cases c : refOf l = 0
    · rw [if_neg (by rw [c]; simp)] at q
      rw [show (!decide (V.int (refOf l) = V.int 0)) = false by rw [c]; rfl]
      refine iteF ?_
      refine ⟨_, rfl, p, S, dx, _, _, rfl, s1 _ _ hp, T.cl, T.nT, sF_t d v, _, rfl, d, a, U, l, rfl, (hT.same s1).r, g, .inl (s1.seq hS), by omega, fun H2 x s2 nx hx => ?_⟩
      have sm := s1.trans s2
      have hsl := spelled_len g l
      refine ⟨_, rfl, x, _, rfl, .inl (SqL.of hx), (by show 1 ≤ sizeLine; decide), fun y ny => ⟨_, rfl, ?_⟩⟩
      rw [vl_len]
      refine lenCat (s1.free nx) sm hx (by omega) (fun H3 z s3 nz hz => ?_) y ny
      exact q H3 z (SameBut.of s3) nz (hses.same s3) hz
    · rw [if_pos c] at q
      rw [show (!decide (V.int (refOf l) = V.int 0)) = true by rw [decide_eq_false fun e => c (by injection e)]; rfl]
      exact iteT ⟨_, rfl, (by show 1 ≤ sizeLine; decide), refused hses s1 q⟩
/-! ### sure, open -/
def spSesSure (K : PySem.W.Frag) (S C CN CS : Addr) : Sp := fun vs H Q _ => ∃ (N : Addr → Prop) (p a : Addr) (T : List Sy.Rule) (l : List Nat), vs = [.ref p, .ref a] ∧ SesAt S C CN CS N H p T ∧ Good T ∧ SqL K H a (vl l) ∧ l.length ≤ 300 ∧
  Ans S C CN CS N H p T (ofL l (((Sy.sure T l).1.length : Int) :: ((Sy.sure T l).2.length : Int) :: zs (Sy.sure T l).1)) Q
theorem ok_ses_sure {f fR fP fB : Addr} {fd fdR fdP fdB : FuncData} {k : Nat} (F : Fun K "sure" "Session.sure" sSesSure f fd) (T : TxtS K mg S fCh fTr) (B : TxtB mg) (TG : TxtG K mg CS fG fT fU)
    (GR : FnOk P w K mg base CX0 (k + 1) fR fdR ["letters"] (spRefusal K)) (kR : PySem.W.keepIn K (.ref fR) = true) (bR : Binds K fdR ["letters"] []) (gR : mg "letters_refusal" = some (.ref fR))
    (GB : FnOk P w K mg base CX0 (k + 1) fB fdB ["table"] (spBegs C)) (kB : PySem.W.keepIn K (.ref fB) = true) (bB : Binds K fdB ["table"] []) (gB : mg "beginnings" = some (.ref fB))
    (GP : FnOk P w K mg base CX0 (k + 1) fP fdP ["table", "begun", "letters"] (spSoFar K CS C)) (kP : PySem.W.keepIn K (.ref fP) = true) (bP : Binds K fdP ["table", "begun", "letters"] []) (gP : mg "spelled_so_far" = some (.ref fP)) :
    FnOk P w K mg base CX0 (k + 1 + 1) f fd ["self", "letters"] (spSesSure K S C CN CS) := by
  refine F.ok scSesSure (fun vs H Q E h => ?_) (fun cdv A outer s H vs Q E hr h => ?_)
  · obtain ⟨N, p, a, U, l, rfl, _⟩ := h
    rfl
  · obtain ⟨N, p, a, U, l, rfl, hses, g, hS, hl, q⟩ := h
    obtain ⟨dx, d, v, hp, hT, hv⟩ := id hses
    have nd := scSesSure.nd
    obtain ⟨t3, e3⟩ := T.n3
    refine ⟨_, pss_cons (ps_set (i := 2) nd rfl (.inl rfl) (pe_call GR hr (by rfl) gR kR bR .nil pass0 (pa_cons (pv 1) pa_nil)))
      (pss_cons (ps_if (pt_cmpR op_ne (pv 2) (pe_gint rfl e3) (nomark _)) (pss_one (ps_ret (pe_lst (pa_cons (pv 2) pa_nil)))) pss_nil)
      (pss_cons (ps_set (i := 3) nd rfl (.inl rfl) (pe_call GP hr (by rfl) gP kP bP .nil pass0 (pa_cons (pe_fld (pv 0) rfl) (pa_cons (pe_call GB hr (by rfl) gB kB bB .nil pass0 (pa_cons (pe_fld (pv 0) rfl) pa_nil)) (pa_cons (pv 1) pa_nil)))))
      (pss_one (ps_ret (pe_op op_cat (pe_lst (pa_cons (pe_callB call_len_seq (by rfl) B.len PySem.boot_len (pa_cons (pe_fld (pv 3) rfl) pa_nil)) (pa_cons (pe_callB call_len_seq (by rfl) B.len PySem.boot_len (pa_cons (pe_fld (pv 3) rfl) pa_nil)) pa_nil))) (pe_fld (pv 3) rfl)))))), ?_⟩
    refine ⟨_, rfl, a, l, rfl, hS, by omega, fun H1 s1 => ?_⟩
    rw [ofL_ref] at q
    refine ⟨_, rfl, rfl, _, rfl, ?_⟩
    by_cases c : refOf l = 0
    · rw [if_neg (by rw [c]; simp)] at q
      rw [show (!decide (V.int (refOf l) = V.int 0)) = false by rw [c]; rfl]
      refine iteF ?_
      have hT1 := hT.same s1
      refine ⟨_, rfl, p, S, dx, _, _, rfl, s1 _ _ hp, T.cl, T.nT, sF_t d v, _, rfl, p, S, dx, _, _, rfl, s1 _ _ hp, T.cl, T.nT, sF_t d v, d, U, rfl, hT1, g, fun H2 b s2 nb hb => ?_⟩
      have s12 := s1.trans s2
      refine ⟨_, rfl, d, b, a, U, l, rfl, (hT1.same s2).r, hb.r, g, .inl (s12.seq hS), by omega, fun H3 x y s3 nx ny hx => ?_⟩
      have s13 := s12.trans s3
      obtain ⟨dg, lf, j1, j2, j3⟩ := hx
      have hsl := sure_told g l
      refine ⟨_, rfl, x, CS, dg, _, _, rfl, j1, TG.cl, TG.nS, gF_s y lf, y, _, rfl, .inl (SqL.of j2), _, rfl, x, CS, dg, _, _, rfl, j1, TG.cl, TG.nL, gF_l y lf, lf, _, rfl, .inr (SqT.of j3), (by show 2 ≤ sizeLine; decide), fun z nz => ?_⟩
      have s4 := same_upd (o := .lst [V.int (((vl (Sy.sure U l).1).length : Nat) : Int), V.int (((vl (Sy.sure U l).2).length : Nat) : Int)]) nz
      refine ⟨_, rfl, x, CS, dg, _, _, rfl, s4 _ _ j1, TG.cl, TG.nS, gF_s y lf, z, y, _, _, rfl, rfl, upd_same, s4 _ _ j2, ?_, fun z2 nz2 => ?_⟩
      · rw [vl_len]
        exact line_le (by show 2 + (Sy.sure U l).1.length ≤ _; omega)
      · have s5 := (s13.trans s4).trans (same_upd (o := .lst ([V.int (((vl (Sy.sure U l).1).length : Nat) : Int), V.int (((vl (Sy.sure U l).2).length : Nat) : Int)] ++ vl (Sy.sure U l).1)) nz2)
        refine q _ z2 (SameBut.of s5) ((s13.trans s4).free nz2) (hses.same s5) ?_
        rw [upd_same, List.map_cons, List.map_cons, zs_map, vl_len, vl_len]
        rfl
    · rw [if_pos c] at q
      rw [show (!decide (V.int (refOf l) = V.int 0)) = true by rw [decide_eq_false fun e => c (by injection e)]; rfl]
      exact iteT ⟨_, rfl, (by show 1 ≤ sizeLine; decide), refused hses s1 q⟩
def spSesOpen (K : PySem.W.Frag) (S C CN CS : Addr) : Sp := fun vs H Q _ => ∃ (N : Addr → Prop) (p a : Addr) (T : List Sy.Rule) (l : List Nat), vs = [.ref p, .ref a] ∧ SesAt S C CN CS N H p T ∧ Good T ∧ SqL K H a (vl l) ∧ l.length ≤ 300 ∧
  Ans S C CN CS N H p T (ofL l (((Sy.sure T l).2.length : Int) :: zs (Sy.sure T l).2)) Q
theorem ok_ses_open {f fR fP fB : Addr} {fd fdR fdP fdB : FuncData} {k : Nat} (F : Fun K "left_open" "Session.left_open" sSesOpen f fd) (T : TxtS K mg S fCh fTr) (B : TxtB mg) (TG : TxtG K mg CS fG fT fU)
    (GR : FnOk P w K mg base CX0 (k + 1) fR fdR ["letters"] (spRefusal K)) (kR : PySem.W.keepIn K (.ref fR) = true) (bR : Binds K fdR ["letters"] []) (gR : mg "letters_refusal" = some (.ref fR))
    (GB : FnOk P w K mg base CX0 (k + 1) fB fdB ["table"] (spBegs C)) (kB : PySem.W.keepIn K (.ref fB) = true) (bB : Binds K fdB ["table"] []) (gB : mg "beginnings" = some (.ref fB))
    (GP : FnOk P w K mg base CX0 (k + 1) fP fdP ["table", "begun", "letters"] (spSoFar K CS C)) (kP : PySem.W.keepIn K (.ref fP) = true) (bP : Binds K fdP ["table", "begun", "letters"] []) (gP : mg "spelled_so_far" = some (.ref fP)) :
    FnOk P w K mg base CX0 (k + 1 + 1) f fd ["self", "letters"] (spSesOpen K S C CN CS) := by
  refine F.ok scSesOpen (fun vs H Q E h => ?_) (fun cdv A outer s H vs Q E hr h => ?_)
  · obtain ⟨N, p, a, U, l, rfl, _⟩ := h
    rfl
  · obtain ⟨N, p, a, U, l, rfl, hses, g, hS, hl, q⟩ := h
    obtain ⟨dx, d, v, hp, hT, hv⟩ := id hses
    have nd := scSesOpen.nd
    obtain ⟨t3, e3⟩ := T.n3
    refine ⟨_, pss_cons (ps_set (i := 2) nd rfl (.inl rfl) (pe_call GR hr (by rfl) gR kR bR .nil pass0 (pa_cons (pv 1) pa_nil)))
      (pss_cons (ps_if (pt_cmpR op_ne (pv 2) (pe_gint rfl e3) (nomark _)) (pss_one (ps_ret (pe_lst (pa_cons (pv 2) pa_nil)))) pss_nil)
      (pss_cons (ps_set (i := 3) nd rfl (.inl rfl) (pe_call GP hr (by rfl) gP kP bP .nil pass0 (pa_cons (pe_fld (pv 0) rfl) (pa_cons (pe_call GB hr (by rfl) gB kB bB .nil pass0 (pa_cons (pe_fld (pv 0) rfl) pa_nil)) (pa_cons (pv 1) pa_nil)))))
      (pss_one (ps_ret (pe_op op_cat (pe_lst (pa_cons (pe_callB call_len_seq (by rfl) B.len PySem.boot_len (pa_cons (pe_fld (pv 3) rfl) pa_nil)) pa_nil)) (pe_callTy call_list_of (by rfl) B.list (by decide +kernel) (pa_cons (pe_fld (pv 3) rfl) pa_nil))))))), ?_⟩
    refine ⟨_, rfl, a, l, rfl, hS, by omega, fun H1 s1 => ?_⟩
    rw [ofL_ref] at q
    refine ⟨_, rfl, rfl, _, rfl, ?_⟩
    by_cases c : refOf l = 0
    · rw [if_neg (by rw [c]; simp)] at q
      rw [show (!decide (V.int (refOf l) = V.int 0)) = false by rw [c]; rfl]
      refine iteF ?_
      have hT1 := hT.same s1
      refine ⟨_, rfl, p, S, dx, _, _, rfl, s1 _ _ hp, T.cl, T.nT, sF_t d v, _, rfl, p, S, dx, _, _, rfl, s1 _ _ hp, T.cl, T.nT, sF_t d v, d, U, rfl, hT1, g, fun H2 b s2 nb hb => ?_⟩
      have s12 := s1.trans s2
      refine ⟨_, rfl, d, b, a, U, l, rfl, (hT1.same s2).r, hb.r, g, .inl (s12.seq hS), by omega, fun H3 x y s3 nx ny hx => ?_⟩
      have s13 := s12.trans s3
      obtain ⟨dg, lf, j1, j2, j3⟩ := hx
      have hsl := sure_less g l
      refine ⟨_, rfl, x, CS, dg, _, _, rfl, j1, TG.cl, TG.nL, gF_l y lf, lf, _, rfl, .inr (SqT.of j3), (by show 1 ≤ sizeLine; decide), fun z nz => ?_⟩
      have s4 := same_upd (o := .lst [V.int (((vl (Sy.sure U l).2).length : Nat) : Int)]) nz
      refine ⟨_, rfl, x, CS, dg, _, _, rfl, s4 _ _ j1, TG.cl, TG.nL, gF_l y lf, lf, _, rfl, .inr (SqT.of (s4 _ _ j3)), fun z1 nz1 => ?_⟩
      have z01 : z ≠ z1 := fun e => by rw [← e, upd_same] at nz1; cases nz1
      have s5 := same_upd (o := .lst (vl (Sy.sure U l).2)) nz1
      refine ⟨z, z1, _, _, rfl, rfl, s5 _ _ upd_same, upd_same, ?_, fun z2 nz2 => ?_⟩
      · rw [vl_len]
        exact line_le (by show 1 + (Sy.sure U l).2.length ≤ _; omega)
      · have s6 := ((s13.trans s4).trans s5).trans (same_upd (o := .lst ([V.int (((vl (Sy.sure U l).2).length : Nat) : Int)] ++ vl (Sy.sure U l).2)) nz2)
        refine q _ z2 (SameBut.of s6) (((s13.trans s4).trans s5).free nz2) (hses.same s6) ?_
        rw [upd_same, List.map_cons, zs_map, vl_len]
        rfl
    · rw [if_pos c] at q
      rw [show (!decide (V.int (refOf l) = V.int 0)) = true by rw [decide_eq_false fun e => c (by injection e)]; rfl]
      exact iteT ⟨_, rfl, (by show 1 ≤ sizeLine; decide), refused hses s1 q⟩
/-! ### the letters that are told -/
def spAllChars (K : PySem.W.Frag) : Sp := fun vs H Q _ => ∃ (a : Addr) (l : List Nat), vs = [.ref a] ∧ SqL K H a (vl l) ∧ l.length ≤ 50000 ∧ ∀ H', Same H H' → Q (.bl (Sy.isText l)) H'
theorem ok_all_chars {f : Addr} {fd fdC : FuncData} {k : Nat} (F : Fun K "all_characters" "all_characters" sAllChars f fd) (T : TxtL mg fL fC fA)
    (FC : Fun K "is_character" "is_character" sIsCharacter fC fdC) (bC : Binds K fdC ["number"] []) : FnOk P w K mg base CX0 (k + 1 + 1) f fd ["row"] (spAllChars K) := by
  have GC : FnOk P w K mg base CX0 (k + 1) fC fdC ["number"] spIsCharacter := ok_is_character FC T
  refine F.ok scAllChars (fun vs H Q E h => ?_) (fun cdv A outer s H vs Q E hr h => ?_)
  · obtain ⟨a, l, rfl, _⟩ := h
    rfl
  · obtain ⟨a, l, rfl, hS, hl, q⟩ := h
    refine ⟨_, pss_one (ps_ret (pe_callB (cr_all rfl) (by rfl) T.all (by decide +kernel) (pa_cons
      (pe_lc (own := [("number", 1)]) (g := gName 1) (tt := tYes) rfl scAllChars.nd (pi_list (pv 0)) (blkOk_by (N := ["row", "number"]) (sc := defScope sAllChars) (by decide +kernel))
        (fun _ _ _ _ _ => pg_name (i := 1) scAllChars.nd rfl (Or.inl rfl)) (fun _ _ _ _ _ => pts_nil)
        (fun _ _ _ _ _ => pe_call GC hr (by rfl) T.gC FC.kp bC .nil pass0 (pa_cons (pv 1) pa_nil))) pa_nil))), ?_⟩
    refine ⟨_, rfl, a, rfl, ⟨_, hS⟩, fun D hD => ?_⟩
    refine lc_list (K := K) (a := a) (xs := vl l) (fun i H' => Same H H' ∧ H' D = some (.lst (((l.take i).map Sy.isChar).map V.bl))) ⟨same_upd hD, upd_same⟩ (fun i H' _ h => h.1.seq hS) ?_ ?_
    · rintro i x H' hi ⟨s1, hd⟩
      obtain ⟨n, hn, rfl⟩ := vl_get hi
      refine ⟨rfl, ?_⟩
      refine yes ?_
      refine iteT ?_
      refine ⟨_, rfl, n, rfl, _, hd, ?_, same_store s1 hD, ?_⟩
      · rw [List.length_map, List.length_map, List.length_take]
        exact line_of (by omega)
      · rw [upd_same, take_more hn, List.map_append, List.map_append]
        rfl
    · rintro H' ⟨s1, hd⟩
      refine ⟨D, (l.take (vl l).length).map Sy.isChar, rfl, SqL.of hd, ?_⟩
      rw [bl_zs, List.length_map, List.take_length]
      exact q H' s1
def refOfS (l : List Nat) : Int := if 16 < l.length then -1 else if Sy.isText l = false then -3 else 0
def spRefusalS (K : PySem.W.Frag) : Sp := fun vs H Q _ => ∃ (a : Addr) (l : List Nat), vs = [.ref a] ∧ SqL K H a (vl l) ∧ l.length ≤ 1000 ∧ ∀ H', Same H H' → Q (.int (refOfS l)) H'
theorem ok_refusal_s {f fB : Addr} {fd fdB : FuncData} {k : Nat} (F : Fun K "sounds_refusal" "sounds_refusal" sRefusalS f fd) (T : TxtS K mg S fCh fTr) (B : TxtB mg)
    (GB : FnOk P w K mg base CX0 (k + 1 + 1) fB fdB ["row"] (spAllChars K)) (kB : PySem.W.keepIn K (.ref fB) = true) (bB : Binds K fdB ["row"] []) (gB : mg "all_characters" = some (.ref fB)) :
    FnOk P w K mg base CX0 (k + 1 + 1 + 1) f fd ["sounds"] (spRefusalS K) := by
  refine F.ok scRefusalS (fun vs H Q E h => ?_) (fun cdv A outer s H vs Q E hr h => ?_)
  · obtain ⟨a, l, rfl, _⟩ := h
    rfl
  · obtain ⟨a, l, rfl, hS, hl, q⟩ := h
    obtain ⟨t2, e2⟩ := T.n7
    obtain ⟨t3, e3⟩ := T.n3
    obtain ⟨t4, e4⟩ := T.n4
    obtain ⟨t6, e6⟩ := T.n6
    refine ⟨_, pss_cons (ps_if (pt_cmpR op_gt (pe_callB call_len_seq (by rfl) B.len PySem.boot_len (pa_cons (pv 0) pa_nil)) (pe_gint rfl e2) (nomark _)) (pss_one (ps_ret (pe_gint rfl e4))) pss_nil)
      (pss_cons (ps_if (pt_not (pt_val (pe_call GB hr (by rfl) gB kB bB .nil pass0 (pa_cons (pv 0) pa_nil)))) (pss_one (ps_ret (pe_gint rfl e6))) pss_nil)
      (pss_one (ps_ret (pe_gint rfl e3)))), ?_⟩
    refine ⟨_, rfl, a, _, rfl, .inl hS, _, _, rfl, rfl, _, rfl, ?_⟩
    unfold refOfS at q
    rw [vl_len]
    by_cases c : 16 < l.length
    · rw [decide_eq_true (show ((l.length : Nat) : Int) > 16 by omega)]
      rw [if_pos c] at q
      exact iteT (q _ (Same.refl _))
    · rw [decide_eq_false (show ¬ ((l.length : Nat) : Int) > 16 by omega)]
      rw [if_neg c] at q
      refine iteF ⟨_, rfl, a, l, rfl, hS, by omega, fun H1 s1 => ⟨_, rfl, ?_⟩⟩
      cases e : Sy.isText l with
      | false =>
        rw [if_pos e] at q
        exact iteT (q _ s1)
      | true =>
        rw [if_neg (by rw [e]; intro z; cases z)] at q
        exact iteF (q _ s1)
def spSesTree (S C CN CS : Addr) : Sp := fun vs H Q _ => ∃ (N : Addr → Prop) (p : Addr) (T : List Sy.Rule), vs = [.ref p] ∧ SesAt S C CN CS N H p T ∧ Good T ∧ (∀ a, N a → H a ≠ none) ∧ ∀ H' t, SameBut p H H' → SesAt S C CN CS N H' p T → TreeN CN CS N H' t T → Q (.ref t) H'
theorem ok_ses_tree {fB : Addr} {fd fdB : FuncData} {k : Nat} (F : Fun K "tree_of_table" "Session.tree_of_table" sSesTree fTr fd) (T : TxtS K mg S fCh fTr) (D : Differ S C CN CS)
    (GB : FnOk P w K mg base CX0 (k + 1) fB fdB ["table"] (spTreeOf CN CS C)) (kB : PySem.W.keepIn K (.ref fB) = true) (bB : Binds K fdB ["table"] []) (gB : mg "tree_of" = some (.ref fB)) :
    FnOk P w K mg base CX0 (k + 1 + 1) fTr fd ["self"] (spSesTree S C CN CS) := by
  refine F.ok scSesTree (fun vs H Q E h => ?_) (fun cdv A outer s H vs Q E hr h => ?_)
  · obtain ⟨N, p, U, rfl, _⟩ := h
    rfl
  · obtain ⟨N, p, U, rfl, ⟨dx, d, v, hp, hT, hv⟩, g, hN, q⟩ := h
    refine ⟨_, pss_cons (ps_if (pt_cmpR op_isN (pe_fld (pv 0) rfl) pe_non (nomark _)) (pss_one (ps_fld (pv 0) (pe_call GB hr (by rfl) gB kB bB .nil pass0 (pa_cons (pe_fld (pv 0) rfl) pa_nil)) rfl)) pss_nil)
      (pss_one (ps_ret (pe_fld (pv 0) rfl))), ?_⟩
    refine ⟨_, rfl, p, S, dx, _, _, rfl, hp, T.cl, T.nR, sF_r d v, rfl, _, rfl, ?_⟩
    rcases hv with rfl | ⟨t, rfl, ht⟩
    · refine iteT ?_
      refine ⟨_, rfl, p, S, dx, _, _, rfl, hp, T.cl, T.nT, sF_t d .non, d, U, rfl, hT, g, fun H1 t s1 nt ht => ?_⟩
      have hp1 := s1 _ _ hp
      refine ⟨_, rfl, p, S, dx, _, rfl, hp1, T.cl, T.nR, (by show 2 < 1000; decide), ?_⟩
      have sbp : SameBut p H1 (upd H1 p (.ins S dx (putF "tree" (.ref t) (sF d .non)))) := fun b o e hb => by rw [upd_ne hb]; exact e
      have ht2 := (ht.less (M := N) hN).ins hp1 D.sn D.ss sbp
      have hT2 := (hT.same s1).ins hp1 D.sc sbp
      have hp2 : upd H1 p (.ins S dx (putF "tree" (.ref t) (sF d .non))) p = some (.ins S dx (sF d (.ref t))) := by rw [upd_same, sF_put2]
      refine ⟨_, rfl, p, S, dx, _, _, rfl, hp2, T.cl, T.nR, sF_r d (.ref t), q _ t (fun b o e hb => sbp _ _ (s1 _ _ e) hb) ⟨dx, d, _, hp2, hT2, .inr ⟨t, rfl, ht2⟩⟩ ht2⟩
    · refine iteF ?_
      exact ⟨_, rfl, p, S, dx, _, _, rfl, hp, T.cl, T.nR, sF_r d (.ref t), q H t (fun b o e _ => e) ⟨dx, d, _, hp, hT, .inr ⟨t, rfl, ht⟩⟩ ht⟩
def typeAns (T : List Sy.Rule) (s : List Nat) : List Int := if 16 < s.length then [-1] else if Sy.isText s = false then [-3] else match Sy.type T s with
  | some l => (l.length : Int) :: zs l
  | none => [-5]
def spSesTold (K : PySem.W.Frag) (S C CN CS : Addr) : Sp := fun vs H Q _ => ∃ (N : Addr → Prop) (p a : Addr) (T : List Sy.Rule) (s : List Nat), vs = [.ref p, .ref a] ∧ SesAt S C CN CS N H p T ∧ Good T ∧ SqL K H a (vl s) ∧ s.length ≤ 20 ∧ (∀ a, N a → H a ≠ none) ∧ Ans S C CN CS N H p T (typeAns T s) Q
theorem told_few {U : List Sy.Rule} (g : Good U) {s l : List Nat} (h : Sy.type U s = some l) : l.length ≤ 6 * s.length := by
  rw [type_is g] at h
  have go : ∀ (n : Nat) (q : List Row) (k : Nat), Had U s q → seek U s n q k = some l → l.length ≤ 6 * s.length := by
    intro n
    induction n with
    | zero => intro q k _ e; cases e
    | succ n ih =>
      intro q k hq e
      cases f : q[k]? with
      | none =>
        have : seek U s (n + 1) q k = none := by
          show (match q[k]? with | none => none | some w => _) = none
          rw [f]
        rw [this] at e
        cases e
      | some r =>
        rw [seek_one _ _ _ _ f] at e
        have hm := List.mem_of_getElem? f
        by_cases c : spelled U r.1.1 = s.drop r.1.2
        · rw [if_pos c] at e
          have e := Option.some.inj e
          rw [← e]
          exact (hq.all r hm).cost g c
        · rw [if_neg c] at e
          exact ih _ _ (hq.add g hm) e
  exact go _ _ _ (Had.start U s) h
theorem ok_ses_told {f fR fP : Addr} {fd fdR fdP fdT : FuncData} {k : Nat} (F : Fun K "told_for" "Session.told_for" sSesTold f fd) (T : TxtS K mg S fCh fTr) (B : TxtB mg)
    (GR : FnOk P w K mg base CX0 (k + 1) fR fdR ["sounds"] (spRefusalS K)) (kR : PySem.W.keepIn K (.ref fR) = true) (bR : Binds K fdR ["sounds"] []) (gR : mg "sounds_refusal" = some (.ref fR))
    (GT : FnOk P w K mg base CX0 (k + 1) fTr fdT ["self"] (spSesTree S C CN CS)) (bT : Binds K fdT ["self"] [])
    (GP : FnOk P w K mg base CX0 (k + 1) fP fdP ["tree", "sounds"] (spLettersFor K CN CS)) (kP : PySem.W.keepIn K (.ref fP) = true) (bP : Binds K fdP ["tree", "sounds"] []) (gP : mg "letters_for" = some (.ref fP)) :
    FnOk P w K mg base CX0 (k + 1 + 1) f fd ["self", "sounds"] (spSesTold K S C CN CS) := by
  refine F.ok scSesTold (fun vs H Q E h => ?_) (fun cdv A outer s H vs Q E hr h => ?_)
  · obtain ⟨N, p, a, U, l, rfl, _⟩ := h
    rfl
  · obtain ⟨N, p, a, U, l, rfl, hses, g, hS, hl, hN, q⟩ := h
    obtain ⟨dx, d, v, hp, hT, hv⟩ := id hses
    have nd := scSesTold.nd
    obtain ⟨t3, e3⟩ := T.n3
    obtain ⟨t8, e8⟩ := T.n8
    refine ⟨_, pss_cons (ps_set (i := 2) nd rfl (.inl rfl) (pe_call GR hr (by rfl) gR kR bR .nil pass0 (pa_cons (pv 1) pa_nil)))
      (pss_cons (ps_if (pt_cmpR op_ne (pv 2) (pe_gint rfl e3) (nomark _)) (pss_one (ps_ret (pe_lst (pa_cons (pv 2) pa_nil)))) pss_nil)
      (pss_cons (ps_set (i := 3) nd rfl (.inl rfl) (pe_call GP hr (by rfl) gP kP bP .nil pass0 (pa_cons (pe_meth0 (pv 0) T.cl T.mR GT hr bT .nil pass0) (pa_cons (pv 1) pa_nil))))
      (pss_cons (ps_if (pt_cmpR op_isN (pv 3) pe_non (nomark _)) (pss_one (ps_ret (pe_lst (pa_cons (pe_gint rfl e8) pa_nil)))) pss_nil)
      (pss_one (ps_ret (pe_op op_cat (pe_lst (pa_cons (pe_callB call_len_seq (by rfl) B.len PySem.boot_len (pa_cons (pv 3) pa_nil)) pa_nil)) (pv 3))))))), ?_⟩
    refine ⟨_, rfl, a, l, rfl, hS, by omega, fun H1 s1 => ?_⟩
    refine ⟨_, rfl, rfl, _, rfl, ?_⟩
    unfold typeAns at q
    unfold refOfS
    by_cases c1 : 16 < l.length
    · rw [if_pos c1] at q ⊢
      exact iteT ⟨_, rfl, (by show 1 ≤ sizeLine; decide), refused hses s1 q⟩
    rw [if_neg c1] at q ⊢
    by_cases c2 : Sy.isText l = false
    · rw [if_pos c2] at q ⊢
      exact iteT ⟨_, rfl, (by show 1 ≤ sizeLine; decide), refused hses s1 q⟩
    rw [if_neg c2] at q ⊢
    refine iteF ?_
    have hp1 := s1 _ _ hp
    refine ⟨_, rfl, p, dx, _, rfl, hp1, sF_none (by decide +kernel) (by decide +kernel), N, p, U, rfl, hses.same s1, g, fun a na z => hN a na (s1.free z), fun H2 t sb hses2 ht => ?_⟩
    have ap : ∀ {xs : List V}, SqL K H1 a xs → SqL K H2 a xs := fun h => seq_but (L := [p]) h (fun y hy => by
      rw [List.mem_singleton.mp hy, hp1]
      exact ⟨fun z e => (by cases e), fun o z e => (by cases e)⟩) fun x o e n => sb x o e fun z => n (by rw [z]; simp)
    have sb12 : SameBut p H H2 := fun b o e hb => sb _ _ (s1 _ _ e) hb
    have hfree : ∀ {b : Addr}, H2 b = none → H b = none := fun {b} n => by
      cases e : H b with
      | none => rfl
      | some o =>
        have hbp : b ≠ p := fun z => by
          obtain ⟨dx2, d2, v2, hp2, -, -⟩ := hses2
          rw [z, hp2] at n
          cases n
        have := sb12 _ _ e hbp
        rw [n] at this
        cases this
    refine ⟨_, rfl, t, a, U, l, rfl, ht.r, g, ap (s1.seq hS), by omega, ?_⟩
    cases et : Sy.type U l with
    | none =>
      rw [et] at q
      intro H3 s3
      refine ⟨_, rfl, rfl, _, rfl, iteT ⟨(by show 1 ≤ sizeLine; decide), fun y ny => ?_⟩⟩
      have s4 := s3.trans (same_upd (o := .lst [V.int (-5)]) ny)
      exact q _ y (fun b o e hb => s4 _ _ (sb12 _ _ e hb)) (hfree (s3.free ny)) (hses2.same s4) upd_same
    | some w' =>
      rw [et] at q
      intro H3 x s3 nx hx
      have hfew := told_few g et
      refine ⟨_, rfl, rfl, _, rfl, iteF ?_⟩
      refine ⟨_, rfl, x, _, rfl, .inl (SqL.of hx), (by show 1 ≤ sizeLine; decide), fun y ny => ⟨_, rfl, ?_⟩⟩
      rw [vl_len]
      refine lenCat nx s3 hx (by omega) (fun H4 z s4 nz hz => ?_) y ny
      exact q H4 z (fun b o e hb => s4 _ _ (sb12 _ _ e hb)) (hfree nz) (hses2.same s4) hz
end
end SpA
set_option Elab.async false
set_option linter.all false
set_option maxRecDepth 100000
set_option maxHeartbeats 4000000
namespace SpA
open PySem PySem.Spec PyProof.Rows L2
abbrev sAnswers : Stmt := topS 80
theorem scAnswers : FnScope ["calls", "session", "told", "place", "call", "row", "row_end", "answer"] ["calls"] (defScope sAnswers) := ⟨rfl, rfl, rfl, by decide +kernel, rfl, by decide +kernel, by decide +kernel⟩
/-! ### the calls one behind another -/
def stAfter (T : List Sy.Rule) : List C1 → List Sy.Rule
  | [] => T
  | c :: cs => stAfter (due T c).1 cs
theorem stAfter_snoc : ∀ (cs : List C1) (T : List Sy.Rule) (c : C1), stAfter T (cs ++ [c]) = (due (stAfter T cs) c).1
  | [], _, _ => rfl
  | d :: cs, T, c => stAfter_snoc cs (due T d).1 c
theorem dueAll_snoc : ∀ (cs : List C1) (T : List Sy.Rule) (c : C1), dueAll T (cs ++ [c]) = dueAll T cs ++ [(due (stAfter T cs) c).2]
  | [], _, _ => rfl
  | d :: cs, T, c => by
    show (due T d).2 :: dueAll (due T d).1 (cs ++ [c]) = _
    rw [dueAll_snoc cs]
    rfl
theorem stAfter_good : ∀ (cs : List C1) (T : List Sy.Rule), Good T → (∀ c ∈ cs, Fit c) → Good (stAfter T cs)
  | [], _, g, _ => g
  | d :: cs, T, g, f => stAfter_good cs _ (step_due g (f d List.mem_cons_self)).2 fun c hc => f c (List.mem_cons_of_mem _ hc)
theorem told_snoc (l : List (List Int)) (a : List Int) : PyFlat.told (l ++ [a]) = PyFlat.told l ++ ((a.length : Int) :: a) := by
  unfold PyFlat.told
  rw [List.flatMap_append, List.flatMap_singleton]
theorem dueAll_append : ∀ (cs ds : List C1) (T : List Sy.Rule), dueAll T (cs ++ ds) = dueAll T cs ++ dueAll (stAfter T cs) ds
  | [], _, _ => rfl
  | c :: cs, ds, T => by
    show (due T c).2 :: dueAll (due T c).1 (cs ++ ds) = _
    rw [dueAll_append cs]
    rfl
theorem told_part (cs : List C1) (i : Nat) (T : List Sy.Rule) : (PyFlat.told (dueAll T (cs.take i))).length ≤ (PyFlat.told (dueAll T cs)).length := by
  have h := dueAll_append (cs.take i) (cs.drop i) T
  rw [List.take_append_drop] at h
  rw [h]
  unfold PyFlat.told
  rw [List.flatMap_append, List.length_append]
  omega
theorem told_more {cs : List C1} {i : Nat} {c : C1} (T : List Sy.Rule) (h : cs[i]? = some c) : PyFlat.told (dueAll T (cs.take (i + 1))) = PyFlat.told (dueAll T (cs.take i)) ++ (((due (stAfter T (cs.take i)) c).2.length : Int) :: (due (stAfter T (cs.take i)) c).2) := by
  rw [take_more h, dueAll_snoc, told_snoc]
/-- where the i-th call stands -/
theorem call_split {cs : List C1} {i : Nat} {c : C1} (h : cs[i]? = some c) : cs.flatMap encC = (cs.take i).flatMap encC ++ (encC c ++ (cs.drop (i + 1)).flatMap encC) := by
  obtain ⟨h1, h2⟩ := List.getElem?_eq_some_iff.mp h
  conv => lhs; rw [← List.take_append_drop i cs, List.drop_eq_getElem_cons h1, h2]
  rw [List.flatMap_append, List.flatMap_cons]
theorem at_pre {l r : List Nat} {j : Nat} : (l ++ r)[l.length + j]? = r[j]? := by
  rw [List.getElem?_append_right (by omega)]
  congr 1
  omega
/-- a list that is none of the tree's is changed -/
theorem TreeN.listed {CN CS R t : Addr} {N : Addr → Prop} {H : Hp} {U : List Sy.Rule} {xs : List V} {o : HO} (h : TreeN CN CS N H t U) (hN : N R) (hR : H R = some (.lst xs)) : TreeN CN CS N (upd H R o) t U := by
  obtain ⟨kvs, h1, h2⟩ := h
  have ne : ∀ {a u}, H a = some u → (∀ x, u ≠ .lst x) → upd H R o a = some u := fun {a u} e k => by rw [upd_ne fun z => by rw [z, hR] at e; exact k _ (Option.some.inj e).symm]; exact e
  have nl : ∀ {a u}, H a = some u → ¬ N a → upd H R o a = some u := fun {a u} e k => by rw [upd_ne fun z => k (by rw [z]; exact hN)]; exact e
  have sp : ∀ q y a c, SpAt CS H q y a c → ¬ N y → SpAt CS (upd H R o) q y a c := fun q y a c ⟨dg, f, k1, k2, k3⟩ n => ⟨dg, f, ne k1 (by intro _ z; cases z), nl k2 n, ne k3 (by intro _ z; cases z)⟩
  refine ⟨kvs, ne h1 (by intro _ z; cases z), fun l hl => ?_⟩
  obtain ⟨p, x, kw, ws, k1, k2, k3, k4, k5⟩ := h2 l hl
  obtain ⟨dx, e, g, y, j1, j2, j3, j4, j5⟩ := k2.ex
  refine ⟨p, x, kw, ws, k1, ⟨dx, e, g, y, ne j1 (by intro _ z; cases z), nl j2 j4, sp _ _ _ _ j3 j5, j4, j5⟩, ne k3 (by intro _ z; cases z), ⟨k4.keys, fun c hc => ?_, k4.nodup⟩, k5⟩
  obtain ⟨q, y', m1, m2, m3⟩ := k4.vals c hc
  exact ⟨q, y', m1, sp _ _ _ _ m2 m3, m3⟩
theorem SesAt.listed {S C CN CS R p : Addr} {N : Addr → Prop} {H : Hp} {T : List Sy.Rule} {xs ys : List V} (h : SesAt S C CN CS N H p T) (D : Differ S C CN CS) (hN : N R) (hR : H R = some (.lst xs)) : SesAt S C CN CS N (upd H R (.lst ys)) p T := by
  obtain ⟨dx, d, v, h1, h2, h3⟩ := h
  have b : But [R] H (upd H R (.lst ys)) := But.upd (by simp)
  have lo : ∀ y ∈ [R], Loose C (H y) := fun y hy => by
    rw [List.mem_singleton.mp hy, hR]
    trivial
  refine ⟨dx, d, v, b _ _ h1 fun z => ?_, h2.butL lo b, h3.imp id fun ⟨t, e, k⟩ => ⟨t, e, k.listed hN hR⟩⟩
  rw [List.mem_singleton.mp z, hR] at h1
  cases h1
theorem v_ne {a b : Int} (h : a ≠ b) : decide (V.int a = V.int b) = false := decide_eq_false fun e => h (by injection e)
theorem v_eq {a b : Int} (h : a = b) : decide (V.int a = V.int b) = true := decide_eq_true (by rw [h])
section
variable {P : Program} {w : World} {K : PySem.W.Frag} {mg : Str → Option Value} {base : Heap} {C S CN CS aW fCh fTr : Addr}
abbrev sAnswerOf : Stmt := topS 81
theorem scAnswerOf : FnScope ["session", "call", "row"] ["session", "call", "row"] (defScope sAnswerOf) := ⟨rfl, rfl, rfl, by decide +kernel, rfl, by decide +kernel, by decide +kernel⟩
def spAnswerOf (K : PySem.W.Frag) (S C CN CS : Addr) : Sp := fun vs H Q _ => ∃ (N : Addr → Prop) (p a : Addr) (T : List Sy.Rule) (c : C1), vs = [.ref p, vn c.1, .ref a] ∧ SesAt S C CN CS N H p T ∧ Good T ∧ SqL K H a (vl c.2) ∧ Fit c ∧
  (rowless c.1 = true → c.2 = []) ∧ (∀ a, N a → H a ≠ none) ∧ Ans S C CN CS N H p (due T c).1 (due T c).2 Q
def spAnswers (K : PySem.W.Frag) : Sp := fun vs H Q _ => ∃ (a : Addr) (cs : List C1), vs = [.ref a] ∧ SqL K H a (vl (cs.flatMap encC)) ∧ (cs.flatMap encC).length ≤ 45000 ∧ (∀ c ∈ cs, Fit c) ∧ (∀ c ∈ cs, rowless c.1 = true → c.2 = []) ∧
  (PyFlat.told (dueAll [] cs)).length ≤ 10000000 ∧ ∀ H' p, H' p = some (.lst ((PyFlat.told (dueAll [] cs)).map V.int)) → Q (.ref p) H'
structure TxtM (K : PySem.W.Frag) (mg : Str → Option Value) (S f1 f2 f3 f4 f5 f6 f7 : Addr) : Prop where
  m1 : Meth K S "begin" f1
  m2 : Meth K S "read" f2
  m3 : Meth K S "write" f3
  m4 : Meth K S "spell" f4
  m5 : Meth K S "sure" f5
  m6 : Meth K S "left_open" f6
  m7 : Meth K S "told_for" f7
  n1 : ∃ t, mg "BEGIN" = some (.int 1 t)
  n2 : ∃ t, mg "READ" = some (.int 2 t)
  n3 : ∃ t, mg "WRITE" = some (.int 3 t)
  n4 : ∃ t, mg "SPELL" = some (.int 4 t)
  n5 : ∃ t, mg "SURE" = some (.int 5 t)
  n6 : ∃ t, mg "LEFT_OPEN" = some (.int 6 t)
theorem ok_answer_of {f f1 f2 f3 f4 f5 f6 f7 : Addr} {fd d1 d2 d3 d4 d5 d6 d7 : FuncData} {k : Nat} (F : Fun K "answer_of" "answer_of" sAnswerOf f fd) (T : TxtS K mg S fCh fTr) (M : TxtM K mg S f1 f2 f3 f4 f5 f6 f7)
    (G1 : FnOk P w K mg base CX0 (k + 1) f1 d1 ["self"] (spSesBegin S C CN CS)) (b1 : Binds K d1 ["self"] [])
    (G2 : FnOk P w K mg base CX0 (k + 1) f2 d2 ["self", "text"] (spSesRead K S C CN CS)) (b2 : Binds K d2 ["self", "text"] [])
    (G3 : FnOk P w K mg base CX0 (k + 1) f3 d3 ["self"] (spSesWrite S C CN CS)) (b3 : Binds K d3 ["self"] [])
    (G4 : FnOk P w K mg base CX0 (k + 1) f4 d4 ["self", "letters"] (spSesSpell K S C CN CS)) (b4 : Binds K d4 ["self", "letters"] [])
    (G5 : FnOk P w K mg base CX0 (k + 1) f5 d5 ["self", "letters"] (spSesSure K S C CN CS)) (b5 : Binds K d5 ["self", "letters"] [])
    (G6 : FnOk P w K mg base CX0 (k + 1) f6 d6 ["self", "letters"] (spSesOpen K S C CN CS)) (b6 : Binds K d6 ["self", "letters"] [])
    (G7 : FnOk P w K mg base CX0 (k + 1) f7 d7 ["self", "sounds"] (spSesTold K S C CN CS)) (b7 : Binds K d7 ["self", "sounds"] []) :
    FnOk P w K mg base CX0 (k + 1 + 1) f fd ["session", "call", "row"] (spAnswerOf K S C CN CS) := by
  refine F.ok scAnswerOf (fun vs H Q E h => ?_) (fun cdv A outer s H vs Q E hr h => ?_)
  · obtain ⟨N, p, a, U, c, rfl, _⟩ := h
    rfl
  · obtain ⟨N, p, a, U, ⟨n, r⟩, rfl, hses, g, hS, hf, hrow, hN, q⟩ := h
    obtain ⟨t1, e1⟩ := M.n1
    obtain ⟨t2, e2⟩ := M.n2
    obtain ⟨t3, e3⟩ := M.n3
    obtain ⟨t4, e4⟩ := M.n4
    obtain ⟨t5, e5⟩ := M.n5
    obtain ⟨t6, e6⟩ := M.n6
    obtain ⟨dx, d, v, hp, hT, hv⟩ := id hses
    refine ⟨_, pss_cons (ps_if (pt_cmpR op_eq (pv 1) (pe_gint rfl e1) (nomark _)) (pss_one (ps_ret (pe_meth0 (pv 0) T.cl M.m1 G1 hr b1 .nil pass0))) pss_nil)
      (pss_cons (ps_if (pt_cmpR op_eq (pv 1) (pe_gint rfl e2) (nomark _)) (pss_one (ps_ret (pe_meth (pv 0) T.cl M.m2 G2 hr b2 .nil pass0 (pa_cons (pv 2) pa_nil)))) pss_nil)
      (pss_cons (ps_if (pt_cmpR op_eq (pv 1) (pe_gint rfl e3) (nomark _)) (pss_one (ps_ret (pe_meth0 (pv 0) T.cl M.m3 G3 hr b3 .nil pass0))) pss_nil)
      (pss_cons (ps_if (pt_cmpR op_eq (pv 1) (pe_gint rfl e4) (nomark _)) (pss_one (ps_ret (pe_meth (pv 0) T.cl M.m4 G4 hr b4 .nil pass0 (pa_cons (pv 2) pa_nil)))) pss_nil)
      (pss_cons (ps_if (pt_cmpR op_eq (pv 1) (pe_gint rfl e5) (nomark _)) (pss_one (ps_ret (pe_meth (pv 0) T.cl M.m5 G5 hr b5 .nil pass0 (pa_cons (pv 2) pa_nil)))) pss_nil)
      (pss_cons (ps_if (pt_cmpR op_eq (pv 1) (pe_gint rfl e6) (nomark _)) (pss_one (ps_ret (pe_meth (pv 0) T.cl M.m6 G6 hr b6 .nil pass0 (pa_cons (pv 2) pa_nil)))) pss_nil)
      (pss_one (ps_ret (pe_meth (pv 0) T.cl M.m7 G7 hr b7 .nil pass0 (pa_cons (pv 2) pa_nil))))))))), ?_⟩
    obtain ⟨f1, f2, f3, f4⟩ := hf
    have hn : n = 1 ∨ n = 2 ∨ n = 3 ∨ n = 4 ∨ n = 5 ∨ n = 6 ∨ n = 7 := by simp only at f1 f2; omega
    have nx : ∀ {m : Str}, (m == ("table" : Str)) = false → (m == ("tree" : Str)) = false → (sF d v).lookup m = none := fun h1 h2 => sF_none h1 h2
    refine ⟨_, rfl, rfl, _, rfl, ?_⟩
    by_cases c1 : n = 1
    · subst c1
      rw [v_eq (by rfl)]
      exact iteT ⟨_, rfl, p, dx, _, rfl, hp, nx (by decide +kernel) (by decide +kernel), N, p, U, rfl, hses, q⟩
    rw [v_ne (show ((n : Nat) : Int) ≠ 1 by omega)]
    refine iteF ⟨_, rfl, rfl, _, rfl, ?_⟩
    by_cases c2 : n = 2
    · subst c2
      rw [v_eq (by rfl)]
      exact iteT ⟨_, rfl, p, dx, _, rfl, hp, nx (by decide +kernel) (by decide +kernel), _, rfl, N, p, a, U, r, rfl, hses, hS, f3, q⟩
    rw [v_ne (show ((n : Nat) : Int) ≠ 2 by omega)]
    refine iteF ⟨_, rfl, rfl, _, rfl, ?_⟩
    by_cases c3 : n = 3
    · subst c3
      rw [v_eq (by rfl)]
      exact iteT ⟨_, rfl, p, dx, _, rfl, hp, nx (by decide +kernel) (by decide +kernel), N, p, U, rfl, hses, g, q⟩
    rw [v_ne (show ((n : Nat) : Int) ≠ 3 by omega)]
    refine iteF ⟨_, rfl, rfl, _, rfl, ?_⟩
    by_cases c4 : n = 4
    · subst c4
      rw [v_eq (by rfl)]
      exact iteT ⟨_, rfl, p, dx, _, rfl, hp, nx (by decide +kernel) (by decide +kernel), _, rfl, N, p, a, U, r, rfl, hses, g, hS, f3, q⟩
    rw [v_ne (show ((n : Nat) : Int) ≠ 4 by omega)]
    refine iteF ⟨_, rfl, rfl, _, rfl, ?_⟩
    by_cases c5 : n = 5
    · subst c5
      rw [v_eq (by rfl)]
      exact iteT ⟨_, rfl, p, dx, _, rfl, hp, nx (by decide +kernel) (by decide +kernel), _, rfl, N, p, a, U, r, rfl, hses, g, hS, f3, q⟩
    rw [v_ne (show ((n : Nat) : Int) ≠ 5 by omega)]
    refine iteF ⟨_, rfl, rfl, _, rfl, ?_⟩
    by_cases c6 : n = 6
    · subst c6
      rw [v_eq (by rfl)]
      exact iteT ⟨_, rfl, p, dx, _, rfl, hp, nx (by decide +kernel) (by decide +kernel), _, rfl, N, p, a, U, r, rfl, hses, g, hS, f3, q⟩
    rw [v_ne (show ((n : Nat) : Int) ≠ 6 by omega)]
    refine iteF ?_
    obtain rfl : n = 7 := by omega
    exact ⟨_, rfl, p, dx, _, rfl, hp, nx (by decide +kernel) (by decide +kernel), _, rfl, N, p, a, U, r, rfl, hses, g, hS, f3, hN, q⟩
structure TxtW (K : PySem.W.Frag) (mg : Str → Option Value) (aW : Addr) : Prop where
  gW : mg "WITHOUT_ROW" = some (.ref aW)
  sW : ∀ H, SqT K H aW [.int 1, .int 3]
theorem inV_rowless (p : Nat) : inV (vn p) [.int 1, .int 3] = rowless p := by
  show (((1 : Int) == (p : Int)) || (((3 : Int) == (p : Int)) || false)) = (p == 1 || p == 3)
  rw [Bool.or_false]
  congr 1
  · rw [Bool.eq_iff_iff, beq_iff_eq, beq_iff_eq]; omega
  · rw [Bool.eq_iff_iff, beq_iff_eq, beq_iff_eq]; omega
theorem ok_answers {f fI fO : Addr} {fd fdI fdO : FuncData} {k : Nat} (F : Fun K "answers" "answers" sAnswers f fd) (T : TxtS K mg S fCh fTr) (W : TxtW K mg aW) (B : TxtB mg) (D : Differ S C CN CS)
    (M : Mk K S fI) (FI : Fun K "__init__" "Session.__init__" sSesInit fI fdI) (bI : Binds K fdI ["self"] [])
    (GO : FnOk P w K mg base CX0 (k + 1 + 1) fO fdO ["session", "call", "row"] (spAnswerOf K S C CN CS)) (kO : PySem.W.keepIn K (.ref fO) = true) (bO : Binds K fdO ["session", "call", "row"] []) (gO : mg "answer_of" = some (.ref fO)) :
    FnOk P w K mg base CX0 (k + 1 + 1 + 1) f fd ["calls"] (spAnswers K) := by
  have GI : FnOk P w K mg base CX0 (k + 1) fI fdI ["self"] (spSesInit S C CN CS) := ok_ses_init FI T
  refine F.ok scAnswers (fun vs H Q E h => ?_) (fun cdv A outer s H vs Q E hr h => ?_)
  · obtain ⟨a, cs, rfl, _⟩ := h
    rfl
  · obtain ⟨a, cs, rfl, hS, hl, hfit, hrow, htot, q⟩ := h
    have nd := scAnswers.nd
    refine ⟨_, pss_cons (ps_set (i := 1) nd rfl (.inl rfl) (pe_make0 M GI hr (by rfl) T.gS bI .nil pass0))
      (pss_cons (ps_set (i := 2) nd rfl (.inl rfl) (pe_lst pa_nil))
      (pss_cons (ps_set (i := 3) nd rfl (.inl rfl) pe_int)
      (pss_cons (ps_while PassesOwn.never (pt_cmpR op_lt (pv 3) (pe_callB call_len_seq (by rfl) B.len PySem.boot_len (pa_cons (pv 0) pa_nil)) (nomark _))
        (pss_cons (ps_set (i := 4) nd rfl (.inl rfl) (pe_ix ix_list (pv 0) (pv 3) (fun _ _ => rfl)))
        (pss_cons (ps_aug (i := 3) nd rfl (.inl rfl) pe_int ip_add)
        (pss_cons (ps_set (i := 5) nd rfl (.inl rfl) (pe_lst pa_nil))
        (pss_cons (ps_if (pt_cmpR op_notIn_seq (pv 4) (pe_gref rfl W.gW) rfl)
          (pss_cons (ps_set (i := 6) nd rfl (.inl rfl) (pe_op op_add (pe_op op_add (pv 3) pe_int) (pe_ix ix_list (pv 0) (pv 3) (fun _ _ => rfl))))
          (pss_cons (ps_set (i := 5) nd rfl (.inl rfl) (pe_slice sl_list (pv 0) (po_some (pe_op op_add (pv 3) pe_int)) (po_some (pv 6))))
          (pss_one (ps_set (i := 3) nd rfl (.inl rfl) (pv 6))))) pss_nil)
        (pss_cons (ps_set (i := 7) nd rfl (.inl rfl) (pe_call GO hr (by rfl) gO kO bO .nil pass0 (pa_cons (pv 1) (pa_cons (pv 4) (pa_cons (pv 5) pa_nil)))))
        (pss_cons (ps_expr (pe_bm PySem.F.plainAttrs_list PySem.F.slot_list_append PySem.F.type_list_append mt_append (pv 2) (pa_cons (pe_callB call_len_seq (by rfl) B.len PySem.boot_len (pa_cons (pv 7) pa_nil)) pa_nil)))
        (pss_one (ps_expr (pe_bm PySem.F.plainAttrs_list PySem.F.slot_list_extend PySem.F.type_list_extend mt_extend (pv 2) (pa_cons (pv 7) pa_nil)))))))))))
      (pss_one (ps_ret (pv 2)))))), ?_⟩
    -- session = Session()
    intro p dx np ndx nedx
    refine ⟨p, dx, rfl, upd_same, fun H1 hses0 kp => ⟨rfl, ?_⟩⟩
    have s1 : Same H H1 := Same.made np ndx kp
    refine ⟨Nat.zero_le _, fun R nR => ?_⟩
    have nRH : H R = none := s1.free nR
    have hses := hses0 fun z => z = R
    have hpR : p ≠ R := by
      obtain ⟨dx', d, v, h1, _⟩ := hses
      exact ne_of_none h1 nR
    have s2 : Same H (upd H1 R (.lst [])) := s1.trans (same_upd nR)
    refine ⟨fun m σ H' => ∃ (i : Nat) (y4 y5 y6 y7 : Option V), σ = [some (.ref a), some (.ref p), some (.ref R), some (vn ((cs.take i).flatMap encC).length), y4, y5, y6, y7] ∧ m = cs.length - i ∧ i ≤ cs.length ∧ Same H H' ∧
        SesAt S C CN CS (fun z => z = R) H' p (stAfter [] (cs.take i)) ∧ H' R = some (.lst ((PyFlat.told (dueAll [] (cs.take i))).map V.int)),
      ⟨_, 0, none, none, none, none, rfl, rfl, Nat.zero_le _, s2, hses.same (same_upd nR), upd_same⟩, ?_⟩
    rintro m σ H' ⟨i, y4, y5, y6, y7, rfl, rfl, hi, sm, hses, hR⟩
    have hS' := sm.seq hS
    refine ⟨_, rfl, _, rfl, a, _, rfl, .inl hS', _, _, rfl, rfl, _, rfl, ?_⟩
    rw [vl_len]
    by_cases c : i < cs.length
    · obtain ⟨c1, hc1⟩ : ∃ c1, cs[i]? = some c1 := ⟨_, List.getElem?_eq_getElem c⟩
      have hsp := call_split hc1
      have hmem := List.mem_of_getElem? hc1
      generalize hns : cs.flatMap encC = ns at hS hl hS' hsp
      generalize hpre : (cs.take i).flatMap encC = pre at hsp
      have henc : 1 ≤ (encC c1).length := by
        unfold encC
        split
        · exact Nat.le_refl _
        · simp
      have hpl : pre.length < ns.length := by
        rw [hsp, List.length_append, List.length_append]
        omega
      rw [decide_eq_true (show ((pre.length : Nat) : Int) < ((ns.length : Nat) : Int) by omega)]
      refine iteT ⟨_, fun σ' H' h => h, ?_⟩
      have g0 : ns[pre.length]? = some c1.1 := by
        rw [hsp]
        refine (at_pre (l := pre) (r := encC c1 ++ (cs.drop (i + 1)).flatMap encC) (j := 0)).trans ?_
        unfold encC
        split <;> rfl
      have hnext : (cs.take (i + 1)).flatMap encC = pre ++ encC c1 := by rw [take_more hc1, List.flatMap_append, hpre, List.flatMap_singleton]
      -- call = calls[place]; place += 1; row = []
      refine ⟨_, rfl, _, rfl, a, _, _, _, rfl, rfl, hS', at_of (j := pre.length) rfl (vl_at g0), ?_⟩
      refine ⟨_, rfl, _, _, rfl, rfl, Nat.zero_le _, fun E nE => ?_⟩
      have sE : Same H' (upd H' E (.lst [])) := same_upd nE
      refine ⟨_, rfl, aW, _, rfl, .inr (W.sW _), rfl, rfl, _, rfl, ?_⟩
      have g := stAfter_good (cs.take i) [] Good.nil fun d hd => hfit d (List.mem_of_mem_take hd)
      -- what is left once the row stands at b and the place behind the call
      have go : ∀ (H2 : Hp) (b : Addr) (y6 : Option V), Same H' H2 → SqL K H2 b (vl c1.2) →
          tSeq (tAsg (tCall (spAnswerOf K S C CN CS) [] E0 (tCons (tVar 1) (tCons (tVar 4) (tCons (tVar 5) tNil)))) (gName 7))
            (tSeq (tDrop (tBM K "list" rAppend (tVar 2) (tCons (tCB (fun xs H Q => ∃ p ys, xs = [.ref p] ∧ (SqL K H p ys ∨ SqT K H p ys) ∧ Q (.int ys.length) H) (tCons (tVar 7) tNil)) tNil)))
              (tDrop (tBM K "list" rExtend (tVar 2) (tCons (tVar 7) tNil))))
            { nx := fun σ' H' => ∃ m', m' < cs.length - i ∧ ∃ (i : Nat) (y4 y5 y6 y7 : Option V), σ' = [some (.ref a), some (.ref p), some (.ref R), some (vn ((cs.take i).flatMap encC).length), y4, y5, y6, y7] ∧ m' = cs.length - i ∧ i ≤ cs.length ∧ Same H H' ∧
                SesAt S C CN CS (fun z => z = R) H' p (stAfter [] (cs.take i)) ∧ H' R = some (.lst ((PyFlat.told (dueAll [] (cs.take i))).map V.int)),
              rt := Q }
            [some (.ref a), some (.ref p), some (.ref R), some (vn (pre ++ encC c1).length), some (vn c1.1), some (.ref b), y6, y7] H2 := by
        intro H2 b y6 s3 hb
        have hR2 := s3 _ _ hR
        have htm := told_more (c := c1) [] hc1
        have htp := told_part cs (i + 1) []
        have hdl : (due (stAfter [] (cs.take i)) c1).2.length + (PyFlat.told (dueAll [] (cs.take i))).length + 1 ≤ 10000000 := by
          rw [htm, List.length_append, List.length_cons] at htp
          omega
        refine ⟨_, rfl, _, rfl, _, rfl, _, p, b, _, c1, rfl, hses.same s3, g, hb, hfit c1 hmem, hrow c1 hmem, fun z hz e => (by rw [hz, hR2] at e; cases e), fun H3 x sb nx hs3 hx => ?_⟩
        have hR3 : H3 R = some (.lst ((PyFlat.told (dueAll [] (cs.take i))).map V.int)) := sb _ _ hR2 (Ne.symm hpR)
        have xR : x ≠ R := fun e => by rw [e, hR2] at nx; cases nx
        have sm3 : Same H H3 := fun z o e => sb z o (s3 _ _ (sm _ _ e)) (ne_of_none e np)
        refine ⟨_, rfl, .inl ⟨rfl, _, SqL.of hR3⟩, _, rfl, x, _, rfl, .inl (SqL.of hx), R, _, _, rfl, rfl, hR3, ?_, ?_⟩
        · rw [List.length_map]
          exact line_of (by omega)
        · have hx4 := (show upd H3 R (.lst ((PyFlat.told (dueAll [] (cs.take i))).map V.int ++ [V.int (((due (stAfter [] (cs.take i)) c1).2.map V.int).length : Nat)])) x = _ from upd_ne xR).trans hx
          refine ⟨_, rfl, .inl ⟨rfl, _, SqL.of upd_same⟩, _, rfl, R, x, _, _, rfl, rfl, upd_same, hx4, ?_, ?_⟩
          · rw [List.length_append, List.length_map, List.length_map, List.length_singleton]
            exact line_le (by omega)
          · rw [upd_upd]
            have hpH3 := hs3
            refine ⟨cs.length - (i + 1), by omega, i + 1, some (vn c1.1), some (.ref b), y6, some (.ref x), ?_, rfl, c, same_store sm3 nRH, ?_, ?_⟩
            · rw [hnext]
              rfl
            · rw [take_more hc1, stAfter_snoc]
              exact hs3.listed D rfl hR3
            · rw [upd_same, htm, List.map_append, List.map_cons, List.length_map, List.append_assoc]
              rfl
      by_cases hw : rowless c1.1 = true
      · rw [show (if true = true then !inV (vn c1.1) [V.int 1, V.int 3] else inV (vn c1.1) [V.int 1, V.int 3]) = false by rw [if_pos rfl, inV_rowless, hw]; rfl]
        refine iteF ?_
        have he : encC c1 = [c1.1] := by unfold encC; rw [if_pos hw]
        have h2 : c1.2 = [] := hrow c1 hmem hw
        have := go _ E y6 sE (by rw [h2]; exact SqL.of upd_same)
        rw [he, List.length_append] at this
        exact this
      · rw [show (if true = true then !inV (vn c1.1) [V.int 1, V.int 3] else inV (vn c1.1) [V.int 1, V.int 3]) = true by rw [if_pos rfl, inV_rowless, Bool.eq_false_iff.mpr hw]; rfl]
        refine iteT ?_
        have he : encC c1 = c1.1 :: c1.2.length :: c1.2 := by unfold encC; rw [if_neg hw]
        have g1 : ns[pre.length + 1]? = some c1.2.length := by
          rw [hsp, he]
          exact (at_pre (l := pre) (j := 1)).trans rfl
        have hS2 := sE.seq hS'
        refine ⟨_, rfl, _, _, rfl, rfl, _, rfl, _, rfl, a, _, _, _, rfl, rfl, hS2, at_of (j := pre.length + 1) (by show ((pre.length : Nat) : Int) + 1 = _; omega) (vl_at g1), _, _, rfl, rfl, ?_⟩
        refine ⟨_, rfl, _, rfl, _, _, rfl, rfl, _, rfl, _, rfl, _, rfl, a, _, rfl, hS2, fun b nb => ?_⟩
        have ecut : cutV (vl ns) (some (((pre.length : Nat) : Int) + 1 + 1)) (some (((pre.length : Nat) : Int) + 1 + 1 + ((c1.2.length : Nat) : Int))) = vl c1.2 := by
          have z1 : ((pre.length : Nat) : Int) + 1 + 1 = ((pre.length + 2 : Nat) : Int) := by omega
          have z2 : ((pre.length + 2 : Nat) : Int) + ((c1.2.length : Nat) : Int) = ((pre.length + 2 + c1.2.length : Nat) : Int) := by omega
          rw [z1, z2, cut_nn, vl_drop, vl_take, hsp, he]
          congr 1
          rw [show pre.length + 2 + c1.2.length - (pre.length + 2) = c1.2.length by omega]
          have d0 : (pre ++ (c1.1 :: c1.2.length :: c1.2 ++ (cs.drop (i + 1)).flatMap encC)).drop (pre.length + 2) = c1.2 ++ (cs.drop (i + 1)).flatMap encC := by
            rw [← List.drop_drop, List.drop_left]
            rfl
          rw [d0, List.take_left]
        refine ⟨_, rfl, ?_⟩
        have sb := sE.trans (same_upd (o := .lst (cutV (vl ns) (some (((pre.length : Nat) : Int) + 1 + 1)) (some (((pre.length : Nat) : Int) + 1 + 1 + ((c1.2.length : Nat) : Int))))) nb)
        have hg := go _ b (some (V.int (((pre.length : Nat) : Int) + 1 + 1 + ((c1.2.length : Nat) : Int)))) sb (by rw [ecut]; exact SqL.of upd_same)
        have z3 : ((pre.length : Nat) : Int) + 1 + 1 + ((c1.2.length : Nat) : Int) = (((pre ++ encC c1).length : Nat) : Int) := by
          rw [he, List.length_append, List.length_cons, List.length_cons]
          omega
        rw [show (vn (pre ++ encC c1).length) = V.int (((pre.length : Nat) : Int) + 1 + 1 + ((c1.2.length : Nat) : Int)) by rw [z3]] at hg
        exact hg
    · have e : i = cs.length := by omega
      subst e
      rw [List.take_length] at hR ⊢
      rw [decide_eq_false (show ¬ (((cs.flatMap encC).length : Nat) : Int) < (((cs.flatMap encC).length : Nat) : Int) by omega)]
      exact iteF ⟨_, rfl, q H' R hR⟩
end
/-- the request as calls, what is due as the specification has it -/
theorem spAnswers_of {K : PySem.W.Frag} {H : Hp} {ad : Addr} {l : List Int} {Q : VK} {E : XK} (hs : SqL K H ad (l.map V.int)) (hlen : l.length ≤ 45000) (hall : l.all (PySem.W.Codec.inInt 0 2097151) = true)
    (hask : PyWqaibi.answers_asked l = true) (k : ∀ H' p, H' p = some (.lst ((PyWqaibi.answers l).map V.int)) → Q (.ref p) H') : spAnswers K [.ref ad] H Q E := by
  have e : zs (l.map Int.toNat) = l := by
    unfold zs
    rw [List.map_map]
    conv => rhs; rw [← List.map_id l]
    apply List.map_congr_left
    intro x hx
    have := List.all_eq_true.mp hall x hx
    rw [PySem.W.Codec.inInt_iff] at this
    show ((x.toNat : Nat) : Int) = x
    omega
  rw [← e] at hask k hs
  obtain ⟨cs, h1, h2, h3, h4, h5, h6⟩ := asked_calls hask
  refine ⟨ad, cs, rfl, ?_, ?_, h2, h3, h6, fun H' p hp => k H' p ?_⟩
  · rw [← h1, vl_zs]
    exact hs
  · rw [← h1, List.length_map]
    exact hlen
  · rw [h5]
    exact hp
end SpA
set_option Elab.async false
set_option linter.all false
set_option maxRecDepth 100000
set_option maxHeartbeats 8000000
namespace SpA
open PySem PySem.Spec PyProof.Rows L2
theorem sqT_of {K : PySem.W.Frag} {a : Addr} {d : Option Addr} {n : Nat} {sl : Array (Option Value)} {its : List Value} {xs : List V} (h : K.lookup a = some ⟨.type "tuple", d, .seq its.toArray n, sl⟩) (hz : its.length ≤ 1000) (r : Vals xs its) : ∀ H, SqT K H a xs := fun H =>
  .inr ⟨_, its.toArray, n, h, rfl, rfl, by rw [List.size_toArray]; exact line_le (by omega), r⟩
theorem all_mk {P : Program} {w : World} {K : PySem.W.Frag} {h : Heap} {mg : Str → Option Value} {fa : Addr} (X : K.In h) (G : h.Ns mainGlobals mg) (hfa : mg "answers" = some (.ref fa))
    {cRule : Addr}
    {cSpelling : Addr}
    {cBeginning : Addr}
    {cSession : Addr}
    {ff0 : Addr}
    {odf0 anf0 : Option Addr} {slf0 : Array (Option Value)} {ocf0 kVf0 dcf0 pmf0 cdf0 ctf0 : Value}
    {ff1 : Addr}
    {odf1 anf1 : Option Addr} {slf1 : Array (Option Value)} {ocf1 kVf1 dcf1 pmf1 cdf1 ctf1 : Value}
    {ff2 : Addr}
    {odf2 anf2 : Option Addr} {slf2 : Array (Option Value)} {ocf2 kVf2 dcf2 pmf2 cdf2 ctf2 : Value}
    {ff3 : Addr}
    {odf3 anf3 : Option Addr} {slf3 : Array (Option Value)} {ocf3 kVf3 dcf3 pmf3 cdf3 ctf3 : Value}
    {ff4 : Addr}
    {odf4 anf4 : Option Addr} {slf4 : Array (Option Value)} {ocf4 kVf4 dcf4 pmf4 cdf4 ctf4 : Value}
    {ff5 : Addr}
    {odf5 anf5 : Option Addr} {slf5 : Array (Option Value)} {ocf5 kVf5 dcf5 pmf5 cdf5 ctf5 : Value}
    {ff6 : Addr}
    {odf6 anf6 : Option Addr} {slf6 : Array (Option Value)} {ocf6 kVf6 dcf6 pmf6 cdf6 ctf6 : Value}
    {ff7 : Addr}
    {odf7 anf7 : Option Addr} {slf7 : Array (Option Value)} {ocf7 kVf7 dcf7 pmf7 cdf7 ctf7 : Value}
    {ff8 : Addr}
    {odf8 anf8 : Option Addr} {slf8 : Array (Option Value)} {ocf8 kVf8 dcf8 pmf8 cdf8 ctf8 : Value}
    {ff9 : Addr}
    {odf9 anf9 : Option Addr} {slf9 : Array (Option Value)} {ocf9 kVf9 dcf9 pmf9 cdf9 ctf9 : Value}
    {ff10 : Addr}
    {odf10 anf10 : Option Addr} {slf10 : Array (Option Value)} {ocf10 kVf10 dcf10 pmf10 cdf10 ctf10 : Value}
    {ff11 : Addr}
    {odf11 anf11 : Option Addr} {slf11 : Array (Option Value)} {ocf11 kVf11 dcf11 pmf11 cdf11 ctf11 : Value}
    {ff12 : Addr}
    {odf12 anf12 : Option Addr} {slf12 : Array (Option Value)} {ocf12 kVf12 dcf12 pmf12 cdf12 ctf12 : Value}
    {ff13 : Addr}
    {odf13 anf13 : Option Addr} {slf13 : Array (Option Value)} {ocf13 kVf13 dcf13 pmf13 cdf13 ctf13 : Value}
    {ff14 : Addr}
    {odf14 anf14 : Option Addr} {slf14 : Array (Option Value)} {ocf14 kVf14 dcf14 pmf14 cdf14 ctf14 : Value}
    {ff15 : Addr}
    {odf15 anf15 : Option Addr} {slf15 : Array (Option Value)} {ocf15 kVf15 dcf15 pmf15 cdf15 ctf15 : Value}
    {ff16 : Addr}
    {odf16 anf16 : Option Addr} {slf16 : Array (Option Value)} {ocf16 kVf16 dcf16 pmf16 cdf16 ctf16 : Value}
    {ff17 : Addr}
    {odf17 anf17 : Option Addr} {slf17 : Array (Option Value)} {ocf17 kVf17 dcf17 pmf17 cdf17 ctf17 : Value}
    {ff18 : Addr}
    {odf18 anf18 : Option Addr} {slf18 : Array (Option Value)} {ocf18 kVf18 dcf18 pmf18 cdf18 ctf18 : Value}
    {ff19 : Addr}
    {odf19 anf19 : Option Addr} {slf19 : Array (Option Value)} {ocf19 kVf19 dcf19 pmf19 cdf19 ctf19 : Value}
    {ff20 : Addr}
    {odf20 anf20 : Option Addr} {slf20 : Array (Option Value)} {ocf20 kVf20 dcf20 pmf20 cdf20 ctf20 : Value}
    {ff21 : Addr}
    {odf21 anf21 : Option Addr} {slf21 : Array (Option Value)} {ocf21 kVf21 dcf21 pmf21 cdf21 ctf21 : Value}
    {ff22 : Addr}
    {odf22 anf22 : Option Addr} {slf22 : Array (Option Value)} {ocf22 kVf22 dcf22 pmf22 cdf22 ctf22 : Value}
    {ff23 : Addr}
    {odf23 anf23 : Option Addr} {slf23 : Array (Option Value)} {ocf23 kVf23 dcf23 pmf23 cdf23 ctf23 : Value}
    {ff24 : Addr}
    {odf24 anf24 : Option Addr} {slf24 : Array (Option Value)} {ocf24 kVf24 dcf24 pmf24 cdf24 ctf24 : Value}
    {ff25 : Addr}
    {odf25 anf25 : Option Addr} {slf25 : Array (Option Value)} {ocf25 kVf25 dcf25 pmf25 cdf25 ctf25 : Value}
    {ff26 : Addr}
    {odf26 anf26 : Option Addr} {slf26 : Array (Option Value)} {ocf26 kVf26 dcf26 pmf26 cdf26 ctf26 : Value}
    {ff27 : Addr}
    {odf27 anf27 : Option Addr} {slf27 : Array (Option Value)} {ocf27 kVf27 dcf27 pmf27 cdf27 ctf27 : Value}
    {ff28 : Addr}
    {odf28 anf28 : Option Addr} {slf28 : Array (Option Value)} {ocf28 kVf28 dcf28 pmf28 cdf28 ctf28 : Value}
    {ff29 : Addr}
    {odf29 anf29 : Option Addr} {slf29 : Array (Option Value)} {ocf29 kVf29 dcf29 pmf29 cdf29 ctf29 : Value}
    {ff30 : Addr}
    {odf30 anf30 : Option Addr} {slf30 : Array (Option Value)} {ocf30 kVf30 dcf30 pmf30 cdf30 ctf30 : Value}
    {ff31 : Addr}
    {odf31 anf31 : Option Addr} {slf31 : Array (Option Value)} {ocf31 kVf31 dcf31 pmf31 cdf31 ctf31 : Value}
    {ff32 : Addr}
    {odf32 anf32 : Option Addr} {slf32 : Array (Option Value)} {ocf32 kVf32 dcf32 pmf32 cdf32 ctf32 : Value}
    {ff33 : Addr}
    {odf33 anf33 : Option Addr} {slf33 : Array (Option Value)} {ocf33 kVf33 dcf33 pmf33 cdf33 ctf33 : Value}
    {fm0 : Addr}
    {odm0 anm0 : Option Addr} {slm0 : Array (Option Value)} {ocm0 kVm0 dcm0 pmm0 cdm0 ctm0 : Value}
    {fm1 : Addr}
    {odm1 anm1 : Option Addr} {slm1 : Array (Option Value)} {ocm1 kVm1 dcm1 pmm1 cdm1 ctm1 : Value}
    {fm2 : Addr}
    {odm2 anm2 : Option Addr} {slm2 : Array (Option Value)} {ocm2 kVm2 dcm2 pmm2 cdm2 ctm2 : Value}
    {fm3 : Addr}
    {odm3 anm3 : Option Addr} {slm3 : Array (Option Value)} {ocm3 kVm3 dcm3 pmm3 cdm3 ctm3 : Value}
    {fm4 : Addr}
    {odm4 anm4 : Option Addr} {slm4 : Array (Option Value)} {ocm4 kVm4 dcm4 pmm4 cdm4 ctm4 : Value}
    {fm5 : Addr}
    {odm5 anm5 : Option Addr} {slm5 : Array (Option Value)} {ocm5 kVm5 dcm5 pmm5 cdm5 ctm5 : Value}
    {fm6 : Addr}
    {odm6 anm6 : Option Addr} {slm6 : Array (Option Value)} {ocm6 kVm6 dcm6 pmm6 cdm6 ctm6 : Value}
    {fm7 : Addr}
    {odm7 anm7 : Option Addr} {slm7 : Array (Option Value)} {ocm7 kVm7 dcm7 pmm7 cdm7 ctm7 : Value}
    {fm8 : Addr}
    {odm8 anm8 : Option Addr} {slm8 : Array (Option Value)} {ocm8 kVm8 dcm8 pmm8 cdm8 ctm8 : Value}
    {fm9 : Addr}
    {odm9 anm9 : Option Addr} {slm9 : Array (Option Value)} {ocm9 kVm9 dcm9 pmm9 cdm9 ctm9 : Value}
    {fm10 : Addr}
    {odm10 anm10 : Option Addr} {slm10 : Array (Option Value)} {ocm10 kVm10 dcm10 pmm10 cdm10 ctm10 : Value}
    {fm11 : Addr}
    {odm11 anm11 : Option Addr} {slm11 : Array (Option Value)} {ocm11 kVm11 dcm11 pmm11 cdm11 ctm11 : Value}
    {fm12 : Addr}
    {odm12 anm12 : Option Addr} {slm12 : Array (Option Value)} {ocm12 kVm12 dcm12 pmm12 cdm12 ctm12 : Value}
    {fm13 : Addr}
    {odm13 anm13 : Option Addr} {slm13 : Array (Option Value)} {ocm13 kVm13 dcm13 pmm13 cdm13 ctm13 : Value}
    {fm14 : Addr}
    {odm14 anm14 : Option Addr} {slm14 : Array (Option Value)} {ocm14 kVm14 dcm14 pmm14 cdm14 ctm14 : Value}
    {fm15 : Addr}
    {odm15 anm15 : Option Addr} {slm15 : Array (Option Value)} {ocm15 kVm15 dcm15 pmm15 cdm15 ctm15 : Value}
    {ti0 : Tok}
    {ti1 : Tok}
    {ti2 : Tok}
    {ti3 : Tok}
    {ti4 : Tok}
    {ti5 : Tok}
    {ti6 : Tok}
    {ti7 : Tok}
    {ti8 : Tok}
    {ti9 : Tok}
    {ti10 : Tok}
    {ti11 : Tok}
    {ti12 : Tok}
    {ti13 : Tok}
    {ti14 : Tok}
    {ti15 : Tok}
    {ti16 : Tok}
    {ti17 : Tok}
    {ti18 : Tok}
    {ti19 : Tok}
    {ti20 : Tok}
    {ti21 : Tok}
    {ti22 : Tok}
    {ti23 : Tok}
    {ti24 : Tok}
    {ti25 : Tok}
    {ti26 : Tok}
    {ti27 : Tok}
    {ti28 : Tok}
    {ti29 : Tok}
    {ti30 : Tok}
    {ti31 : Tok}
    {ti32 : Tok}
    {aT0 : Addr}
    {uo0 : Option Addr} {un0 : Nat} {us0 : Array (Option Value)}
    {aF0 aF1 aF2 aF3 : Addr}
    {aT1 : Addr}
    {uo1 : Option Addr} {un1 : Nat} {us1 : Array (Option Value)}
    {w1_0 w1_1 : Tok}
    {xo0 : Option Addr} {xn0 : Nat} {xs0 : Array (Option Value)}
    {y0_0 y0_1 y0_2 : Tok}
    {xo1 : Option Addr} {xn1 : Nat} {xs1 : Array (Option Value)}
    {y1_0 y1_1 y1_2 : Tok}
    {xo2 : Option Addr} {xn2 : Nat} {xs2 : Array (Option Value)}
    {y2_0 y2_1 y2_2 : Tok}
    {xo3 : Option Addr} {xn3 : Nat} {xs3 : Array (Option Value)}
    {y3_0 y3_1 y3_2 : Tok}
    (hcRule : PySem.W.nsIn K mainGlobals "Rule" = some (some (.ref cRule)))
    (hcSpelling : PySem.W.nsIn K mainGlobals "Spelling" = some (some (.ref cSpelling)))
    (hcBeginning : PySem.W.nsIn K mainGlobals "Beginning" = some (some (.ref cBeginning)))
    (hcSession : PySem.W.nsIn K mainGlobals "Session" = some (some (.ref cSession)))
    (af0 : PySem.W.nsIn K mainGlobals "is_letter" = some (some (.ref ff0)))
    (lf0 : K.lookup ff0 = some ⟨ocf0, odf0, .func (PySem.W.fnOf "is_letter" "is_letter" (defArgs sIsLetter) (defBody sIsLetter) (defScope sIsLetter) .none kVf0 dcf0 pmf0 anf0 cdf0 ctf0), slf0⟩)
    (cf0 : PySem.W.codeIn K cdf0 "is_letter" = true)
    (kf0 : PySem.W.keepIn K (.ref ff0) = true)
    (af1 : PySem.W.nsIn K mainGlobals "is_character" = some (some (.ref ff1)))
    (lf1 : K.lookup ff1 = some ⟨ocf1, odf1, .func (PySem.W.fnOf "is_character" "is_character" (defArgs sIsCharacter) (defBody sIsCharacter) (defScope sIsCharacter) .none kVf1 dcf1 pmf1 anf1 cdf1 ctf1), slf1⟩)
    (cf1 : PySem.W.codeIn K cdf1 "is_character" = true)
    (kf1 : PySem.W.keepIn K (.ref ff1) = true)
    (af2 : PySem.W.nsIn K mainGlobals "all_letters" = some (some (.ref ff2)))
    (lf2 : K.lookup ff2 = some ⟨ocf2, odf2, .func (PySem.W.fnOf "all_letters" "all_letters" (defArgs sAllLetters) (defBody sAllLetters) (defScope sAllLetters) .none kVf2 dcf2 pmf2 anf2 cdf2 ctf2), slf2⟩)
    (cf2 : PySem.W.codeIn K cdf2 "all_letters" = true)
    (kf2 : PySem.W.keepIn K (.ref ff2) = true)
    (af3 : PySem.W.nsIn K mainGlobals "all_characters" = some (some (.ref ff3)))
    (lf3 : K.lookup ff3 = some ⟨ocf3, odf3, .func (PySem.W.fnOf "all_characters" "all_characters" (defArgs sAllChars) (defBody sAllChars) (defScope sAllChars) .none kVf3 dcf3 pmf3 anf3 cdf3 ctf3), slf3⟩)
    (cf3 : PySem.W.codeIn K cdf3 "all_characters" = true)
    (kf3 : PySem.W.keepIn K (.ref ff3) = true)
    (af4 : PySem.W.nsIn K mainGlobals "letters_for" = some (some (.ref ff4)))
    (lf4 : K.lookup ff4 = some ⟨ocf4, odf4, .func (PySem.W.fnOf "letters_for" "letters_for" (defArgs sLettersFor) (defBody sLettersFor) (defScope sLettersFor) .none kVf4 dcf4 pmf4 anf4 cdf4 ctf4), slf4⟩)
    (cf4 : PySem.W.codeIn K cdf4 "letters_for" = true)
    (kf4 : PySem.W.keepIn K (.ref ff4) = true)
    (af5 : PySem.W.nsIn K mainGlobals "new_steps" = some (some (.ref ff5)))
    (lf5 : K.lookup ff5 = some ⟨ocf5, odf5, .func (PySem.W.fnOf "new_steps" "new_steps" (defArgs sNewSteps) (defBody sNewSteps) (defScope sNewSteps) .none kVf5 dcf5 pmf5 anf5 cdf5 ctf5), slf5⟩)
    (cf5 : PySem.W.codeIn K cdf5 "new_steps" = true)
    (kf5 : PySem.W.keepIn K (.ref ff5) = true)
    (af6 : PySem.W.nsIn K mainGlobals "states_without_more" = some (some (.ref ff6)))
    (lf6 : K.lookup ff6 = some ⟨ocf6, odf6, .func (PySem.W.fnOf "states_without_more" "states_without_more" (defArgs sStates) (defBody sStates) (defScope sStates) .none kVf6 dcf6 pmf6 anf6 cdf6 ctf6), slf6⟩)
    (cf6 : PySem.W.codeIn K cdf6 "states_without_more" = true)
    (kf6 : PySem.W.keepIn K (.ref ff6) = true)
    (af7 : PySem.W.nsIn K mainGlobals "step_by" = some (some (.ref ff7)))
    (lf7 : K.lookup ff7 = some ⟨ocf7, odf7, .func (PySem.W.fnOf "step_by" "step_by" (defArgs sStepBy) (defBody sStepBy) (defScope sStepBy) .none kVf7 dcf7 pmf7 anf7 cdf7 ctf7), slf7⟩)
    (cf7 : PySem.W.codeIn K cdf7 "step_by" = true)
    (kf7 : PySem.W.keepIn K (.ref ff7) = true)
    (af8 : PySem.W.nsIn K mainGlobals "told_behind" = some (some (.ref ff8)))
    (lf8 : K.lookup ff8 = some ⟨ocf8, odf8, .func (PySem.W.fnOf "told_behind" "told_behind" (defArgs sTold) (defBody sTold) (defScope sTold) .none kVf8 dcf8 pmf8 anf8 cdf8 ctf8), slf8⟩)
    (cf8 : PySem.W.codeIn K cdf8 "told_behind" = true)
    (kf8 : PySem.W.keepIn K (.ref ff8) = true)
    (af9 : PySem.W.nsIn K mainGlobals "row_to" = some (some (.ref ff9)))
    (lf9 : K.lookup ff9 = some ⟨ocf9, odf9, .func (PySem.W.fnOf "row_to" "row_to" (defArgs sRowTo) (defBody sRowTo) (defScope sRowTo) .none kVf9 dcf9 pmf9 anf9 cdf9 ctf9), slf9⟩)
    (cf9 : PySem.W.codeIn K cdf9 "row_to" = true)
    (kf9 : PySem.W.keepIn K (.ref ff9) = true)
    (af10 : PySem.W.nsIn K mainGlobals "spelled" = some (some (.ref ff10)))
    (lf10 : K.lookup ff10 = some ⟨ocf10, odf10, .func (PySem.W.fnOf "spelled" "spelled" (defArgs sSpelled) (defBody sSpelled) (defScope sSpelled) .none kVf10 dcf10 pmf10 anf10 cdf10 ctf10), slf10⟩)
    (cf10 : PySem.W.codeIn K cdf10 "spelled" = true)
    (kf10 : PySem.W.keepIn K (.ref ff10) = true)
    (af11 : PySem.W.nsIn K mainGlobals "spelled_so_far" = some (some (.ref ff11)))
    (lf11 : K.lookup ff11 = some ⟨ocf11, odf11, .func (PySem.W.fnOf "spelled_so_far" "spelled_so_far" (defArgs sSoFar) (defBody sSoFar) (defScope sSoFar) .none kVf11 dcf11 pmf11 anf11 cdf11 ctf11), slf11⟩)
    (cf11 : PySem.W.codeIn K cdf11 "spelled_so_far" = true)
    (kf11 : PySem.W.keepIn K (.ref ff11) = true)
    (af12 : PySem.W.nsIn K mainGlobals "beginnings" = some (some (.ref ff12)))
    (lf12 : K.lookup ff12 = some ⟨ocf12, odf12, .func (PySem.W.fnOf "beginnings" "beginnings" (defArgs sBegs) (defBody sBegs) (defScope sBegs) .none kVf12 dcf12 pmf12 anf12 cdf12 ctf12), slf12⟩)
    (cf12 : PySem.W.codeIn K cdf12 "beginnings" = true)
    (kf12 : PySem.W.keepIn K (.ref ff12) = true)
    (af13 : PySem.W.nsIn K mainGlobals "longest_rule" = some (some (.ref ff13)))
    (lf13 : K.lookup ff13 = some ⟨ocf13, odf13, .func (PySem.W.fnOf "longest_rule" "longest_rule" (defArgs sLongest) (defBody sLongest) (defScope sLongest) .none kVf13 dcf13 pmf13 anf13 cdf13 ctf13), slf13⟩)
    (cf13 : PySem.W.codeIn K cdf13 "longest_rule" = true)
    (kf13 : PySem.W.keepIn K (.ref ff13) = true)
    (af14 : PySem.W.nsIn K mainGlobals "decoded" = some (some (.ref ff14)))
    (lf14 : K.lookup ff14 = some ⟨ocf14, odf14, .func (PySem.W.fnOf "decoded" "decoded" (defArgs sDecoded) (defBody sDecoded) (defScope sDecoded) .none kVf14 dcf14 pmf14 anf14 cdf14 ctf14), slf14⟩)
    (cf14 : PySem.W.codeIn K cdf14 "decoded" = true)
    (kf14 : PySem.W.keepIn K (.ref ff14) = true)
    (af15 : PySem.W.nsIn K mainGlobals "form_size" = some (some (.ref ff15)))
    (lf15 : K.lookup ff15 = some ⟨ocf15, odf15, .func (PySem.W.fnOf "form_size" "form_size" (defArgs sFormSize) (defBody sFormSize) (defScope sFormSize) .none kVf15 dcf15 pmf15 anf15 cdf15 ctf15), slf15⟩)
    (cf15 : PySem.W.codeIn K cdf15 "form_size" = true)
    (kf15 : PySem.W.keepIn K (.ref ff15) = true)
    (af16 : PySem.W.nsIn K mainGlobals "form_value" = some (some (.ref ff16)))
    (lf16 : K.lookup ff16 = some ⟨ocf16, odf16, .func (PySem.W.fnOf "form_value" "form_value" (defArgs sFormValue) (defBody sFormValue) (defScope sFormValue) .none kVf16 dcf16 pmf16 anf16 cdf16 ctf16), slf16⟩)
    (cf16 : PySem.W.codeIn K cdf16 "form_value" = true)
    (kf16 : PySem.W.keepIn K (.ref ff16) = true)
    (af17 : PySem.W.nsIn K mainGlobals "encoded" = some (some (.ref ff17)))
    (lf17 : K.lookup ff17 = some ⟨ocf17, odf17, .func (PySem.W.fnOf "encoded" "encoded" (defArgs sEncoded) (defBody sEncoded) (defScope sEncoded) .none kVf17 dcf17 pmf17 anf17 cdf17 ctf17), slf17⟩)
    (cf17 : PySem.W.codeIn K cdf17 "encoded" = true)
    (kf17 : PySem.W.keepIn K (.ref ff17) = true)
    (af18 : PySem.W.nsIn K mainGlobals "form_of" = some (some (.ref ff18)))
    (lf18 : K.lookup ff18 = some ⟨ocf18, odf18, .func (PySem.W.fnOf "form_of" "form_of" (defArgs sFormOf) (defBody sFormOf) (defScope sFormOf) .none kVf18 dcf18 pmf18 anf18 cdf18 ctf18), slf18⟩)
    (cf18 : PySem.W.codeIn K cdf18 "form_of" = true)
    (kf18 : PySem.W.keepIn K (.ref ff18) = true)
    (af19 : PySem.W.nsIn K mainGlobals "fill_table" = some (some (.ref ff19)))
    (lf19 : K.lookup ff19 = some ⟨ocf19, odf19, .func (PySem.W.fnOf "fill_table" "fill_table" (defArgs sFillTable) (defBody sFillTable) (defScope sFillTable) .none kVf19 dcf19 pmf19 anf19 cdf19 ctf19), slf19⟩)
    (cf19 : PySem.W.codeIn K cdf19 "fill_table" = true)
    (kf19 : PySem.W.keepIn K (.ref ff19) = true)
    (af20 : PySem.W.nsIn K mainGlobals "parted" = some (some (.ref ff20)))
    (lf20 : K.lookup ff20 = some ⟨ocf20, odf20, .func (PySem.W.fnOf "parted" "parted" (defArgs sParted) (defBody sParted) (defScope sParted) .none kVf20 dcf20 pmf20 anf20 cdf20 ctf20), slf20⟩)
    (cf20 : PySem.W.codeIn K cdf20 "parted" = true)
    (kf20 : PySem.W.keepIn K (.ref ff20) = true)
    (af21 : PySem.W.nsIn K mainGlobals "parts_of" = some (some (.ref ff21)))
    (lf21 : K.lookup ff21 = some ⟨ocf21, odf21, .func (PySem.W.fnOf "parts_of" "parts_of" (defArgs sPartsOf) (defBody sPartsOf) (defScope sPartsOf) .none kVf21 dcf21 pmf21 anf21 cdf21 ctf21), slf21⟩)
    (cf21 : PySem.W.codeIn K cdf21 "parts_of" = true)
    (kf21 : PySem.W.keepIn K (.ref ff21) = true)
    (af22 : PySem.W.nsIn K mainGlobals "fault_kind" = some (some (.ref ff22)))
    (lf22 : K.lookup ff22 = some ⟨ocf22, odf22, .func (PySem.W.fnOf "fault_kind" "fault_kind" (defArgs sFaultKind) (defBody sFaultKind) (defScope sFaultKind) .none kVf22 dcf22 pmf22 anf22 cdf22 ctf22), slf22⟩)
    (cf22 : PySem.W.codeIn K cdf22 "fault_kind" = true)
    (kf22 : PySem.W.keepIn K (.ref ff22) = true)
    (af23 : PySem.W.nsIn K mainGlobals "is_rule_line" = some (some (.ref ff23)))
    (lf23 : K.lookup ff23 = some ⟨ocf23, odf23, .func (PySem.W.fnOf "is_rule_line" "is_rule_line" (defArgs sIsRuleLine) (defBody sIsRuleLine) (defScope sIsRuleLine) .none kVf23 dcf23 pmf23 anf23 cdf23 ctf23), slf23⟩)
    (cf23 : PySem.W.codeIn K cdf23 "is_rule_line" = true)
    (kf23 : PySem.W.keepIn K (.ref ff23) = true)
    (af24 : PySem.W.nsIn K mainGlobals "all_written_sounds" = some (some (.ref ff24)))
    (lf24 : K.lookup ff24 = some ⟨ocf24, odf24, .func (PySem.W.fnOf "all_written_sounds" "all_written_sounds" (defArgs sAllWritten) (defBody sAllWritten) (defScope sAllWritten) .none kVf24 dcf24 pmf24 anf24 cdf24 ctf24), slf24⟩)
    (cf24 : PySem.W.codeIn K cdf24 "all_written_sounds" = true)
    (kf24 : PySem.W.keepIn K (.ref ff24) = true)
    (af25 : PySem.W.nsIn K mainGlobals "rule_of" = some (some (.ref ff25)))
    (lf25 : K.lookup ff25 = some ⟨ocf25, odf25, .func (PySem.W.fnOf "rule_of" "rule_of" (defArgs sRuleOf) (defBody sRuleOf) (defScope sRuleOf) .none kVf25 dcf25 pmf25 anf25 cdf25 ctf25), slf25⟩)
    (cf25 : PySem.W.codeIn K cdf25 "rule_of" = true)
    (kf25 : PySem.W.keepIn K (.ref ff25) = true)
    (af26 : PySem.W.nsIn K mainGlobals "written" = some (some (.ref ff26)))
    (lf26 : K.lookup ff26 = some ⟨ocf26, odf26, .func (PySem.W.fnOf "written" "written" (defArgs sWritten) (defBody sWritten) (defScope sWritten) .none kVf26 dcf26 pmf26 anf26 cdf26 ctf26), slf26⟩)
    (cf26 : PySem.W.codeIn K cdf26 "written" = true)
    (kf26 : PySem.W.keepIn K (.ref ff26) = true)
    (af27 : PySem.W.nsIn K mainGlobals "written_line" = some (some (.ref ff27)))
    (lf27 : K.lookup ff27 = some ⟨ocf27, odf27, .func (PySem.W.fnOf "written_line" "written_line" (defArgs sWrittenLine) (defBody sWrittenLine) (defScope sWrittenLine) .none kVf27 dcf27 pmf27 anf27 cdf27 ctf27), slf27⟩)
    (cf27 : PySem.W.codeIn K cdf27 "written_line" = true)
    (kf27 : PySem.W.keepIn K (.ref ff27) = true)
    (af28 : PySem.W.nsIn K mainGlobals "tree_of" = some (some (.ref ff28)))
    (lf28 : K.lookup ff28 = some ⟨ocf28, odf28, .func (PySem.W.fnOf "tree_of" "tree_of" (defArgs sTreeOf) (defBody sTreeOf) (defScope sTreeOf) .none kVf28 dcf28 pmf28 anf28 cdf28 ctf28), slf28⟩)
    (cf28 : PySem.W.codeIn K cdf28 "tree_of" = true)
    (kf28 : PySem.W.keepIn K (.ref ff28) = true)
    (af29 : PySem.W.nsIn K mainGlobals "spelled_without_more" = some (some (.ref ff29)))
    (lf29 : K.lookup ff29 = some ⟨ocf29, odf29, .func (PySem.W.fnOf "spelled_without_more" "spelled_without_more" (defArgs sWithout) (defBody sWithout) (defScope sWithout) .none kVf29 dcf29 pmf29 anf29 cdf29 ctf29), slf29⟩)
    (cf29 : PySem.W.codeIn K cdf29 "spelled_without_more" = true)
    (kf29 : PySem.W.keepIn K (.ref ff29) = true)
    (af30 : PySem.W.nsIn K mainGlobals "letters_refusal" = some (some (.ref ff30)))
    (lf30 : K.lookup ff30 = some ⟨ocf30, odf30, .func (PySem.W.fnOf "letters_refusal" "letters_refusal" (defArgs sRefusal) (defBody sRefusal) (defScope sRefusal) .none kVf30 dcf30 pmf30 anf30 cdf30 ctf30), slf30⟩)
    (cf30 : PySem.W.codeIn K cdf30 "letters_refusal" = true)
    (kf30 : PySem.W.keepIn K (.ref ff30) = true)
    (af31 : PySem.W.nsIn K mainGlobals "sounds_refusal" = some (some (.ref ff31)))
    (lf31 : K.lookup ff31 = some ⟨ocf31, odf31, .func (PySem.W.fnOf "sounds_refusal" "sounds_refusal" (defArgs sRefusalS) (defBody sRefusalS) (defScope sRefusalS) .none kVf31 dcf31 pmf31 anf31 cdf31 ctf31), slf31⟩)
    (cf31 : PySem.W.codeIn K cdf31 "sounds_refusal" = true)
    (kf31 : PySem.W.keepIn K (.ref ff31) = true)
    (af32 : PySem.W.nsIn K mainGlobals "answers" = some (some (.ref ff32)))
    (lf32 : K.lookup ff32 = some ⟨ocf32, odf32, .func (PySem.W.fnOf "answers" "answers" (defArgs sAnswers) (defBody sAnswers) (defScope sAnswers) .none kVf32 dcf32 pmf32 anf32 cdf32 ctf32), slf32⟩)
    (cf32 : PySem.W.codeIn K cdf32 "answers" = true)
    (kf32 : PySem.W.keepIn K (.ref ff32) = true)
    (af33 : PySem.W.nsIn K mainGlobals "answer_of" = some (some (.ref ff33)))
    (lf33 : K.lookup ff33 = some ⟨ocf33, odf33, .func (PySem.W.fnOf "answer_of" "answer_of" (defArgs sAnswerOf) (defBody sAnswerOf) (defScope sAnswerOf) .none kVf33 dcf33 pmf33 anf33 cdf33 ctf33), slf33⟩)
    (cf33 : PySem.W.codeIn K cdf33 "answer_of" = true)
    (kf33 : PySem.W.keepIn K (.ref ff33) = true)
    (am0 : PySem.W.findIn K (.ref cRule) "__init__" = some (some (.ref fm0)))
    (im0 : PySem.W.isFn K (.ref fm0) = true)
    (lm0 : K.lookup fm0 = some ⟨ocm0, odm0, .func (PySem.W.fnOf "__init__" "Rule.__init__" (defArgs sRuleInit) (defBody sRuleInit) (defScope sRuleInit) .none kVm0 dcm0 pmm0 anm0 cdm0 ctm0), slm0⟩)
    (cm0 : PySem.W.codeIn K cdm0 "Rule.__init__" = true)
    (km0 : PySem.W.keepIn K (.ref fm0) = true)
    (am1 : PySem.W.findIn K (.ref cRule) "has_right_sizes" = some (some (.ref fm1)))
    (im1 : PySem.W.isFn K (.ref fm1) = true)
    (lm1 : K.lookup fm1 = some ⟨ocm1, odm1, .func (PySem.W.fnOf "has_right_sizes" "Rule.has_right_sizes" (defArgs sRuleSizes) (defBody sRuleSizes) (defScope sRuleSizes) .none kVm1 dcm1 pmm1 anm1 cdm1 ctm1), slm1⟩)
    (cm1 : PySem.W.codeIn K cdm1 "Rule.has_right_sizes" = true)
    (km1 : PySem.W.keepIn K (.ref fm1) = true)
    (am2 : PySem.W.findIn K (.ref cSpelling) "__init__" = some (some (.ref fm2)))
    (im2 : PySem.W.isFn K (.ref fm2) = true)
    (lm2 : K.lookup fm2 = some ⟨ocm2, odm2, .func (PySem.W.fnOf "__init__" "Spelling.__init__" (defArgs sGInit) (defBody sGInit) (defScope sGInit) .none kVm2 dcm2 pmm2 anm2 cdm2 ctm2), slm2⟩)
    (cm2 : PySem.W.codeIn K cdm2 "Spelling.__init__" = true)
    (km2 : PySem.W.keepIn K (.ref fm2) = true)
    (am3 : PySem.W.findIn K (.ref cSpelling) "take" = some (some (.ref fm3)))
    (im3 : PySem.W.isFn K (.ref fm3) = true)
    (lm3 : K.lookup fm3 = some ⟨ocm3, odm3, .func (PySem.W.fnOf "take" "Spelling.take" (defArgs sGTake) (defBody sGTake) (defScope sGTake) .none kVm3 dcm3 pmm3 anm3 cdm3 ctm3), slm3⟩)
    (cm3 : PySem.W.codeIn K cdm3 "Spelling.take" = true)
    (km3 : PySem.W.keepIn K (.ref fm3) = true)
    (am4 : PySem.W.findIn K (.ref cSpelling) "take_what_is_sure" = some (some (.ref fm4)))
    (im4 : PySem.W.isFn K (.ref fm4) = true)
    (lm4 : K.lookup fm4 = some ⟨ocm4, odm4, .func (PySem.W.fnOf "take_what_is_sure" "Spelling.take_what_is_sure" (defArgs sGSure) (defBody sGSure) (defScope sGSure) .none kVm4 dcm4 pmm4 anm4 cdm4 ctm4), slm4⟩)
    (cm4 : PySem.W.codeIn K cdm4 "Spelling.take_what_is_sure" = true)
    (km4 : PySem.W.keepIn K (.ref fm4) = true)
    (am5 : PySem.W.findIn K (.ref cBeginning) "__init__" = some (some (.ref fm5)))
    (im5 : PySem.W.isFn K (.ref fm5) = true)
    (lm5 : K.lookup fm5 = some ⟨ocm5, odm5, .func (PySem.W.fnOf "__init__" "Beginning.__init__" (defArgs sNInit) (defBody sNInit) (defScope sNInit) .none kVm5 dcm5 pmm5 anm5 cdm5 ctm5), slm5⟩)
    (cm5 : PySem.W.codeIn K cdm5 "Beginning.__init__" = true)
    (km5 : PySem.W.keepIn K (.ref fm5) = true)
    (am6 : PySem.W.findIn K (.ref cSession) "__init__" = some (some (.ref fm6)))
    (im6 : PySem.W.isFn K (.ref fm6) = true)
    (lm6 : K.lookup fm6 = some ⟨ocm6, odm6, .func (PySem.W.fnOf "__init__" "Session.__init__" (defArgs sSesInit) (defBody sSesInit) (defScope sSesInit) .none kVm6 dcm6 pmm6 anm6 cdm6 ctm6), slm6⟩)
    (cm6 : PySem.W.codeIn K cdm6 "Session.__init__" = true)
    (km6 : PySem.W.keepIn K (.ref fm6) = true)
    (am7 : PySem.W.findIn K (.ref cSession) "begin" = some (some (.ref fm7)))
    (im7 : PySem.W.isFn K (.ref fm7) = true)
    (lm7 : K.lookup fm7 = some ⟨ocm7, odm7, .func (PySem.W.fnOf "begin" "Session.begin" (defArgs sSesBegin) (defBody sSesBegin) (defScope sSesBegin) .none kVm7 dcm7 pmm7 anm7 cdm7 ctm7), slm7⟩)
    (cm7 : PySem.W.codeIn K cdm7 "Session.begin" = true)
    (km7 : PySem.W.keepIn K (.ref fm7) = true)
    (am8 : PySem.W.findIn K (.ref cSession) "read" = some (some (.ref fm8)))
    (im8 : PySem.W.isFn K (.ref fm8) = true)
    (lm8 : K.lookup fm8 = some ⟨ocm8, odm8, .func (PySem.W.fnOf "read" "Session.read" (defArgs sSesRead) (defBody sSesRead) (defScope sSesRead) .none kVm8 dcm8 pmm8 anm8 cdm8 ctm8), slm8⟩)
    (cm8 : PySem.W.codeIn K cdm8 "Session.read" = true)
    (km8 : PySem.W.keepIn K (.ref fm8) = true)
    (am9 : PySem.W.findIn K (.ref cSession) "write" = some (some (.ref fm9)))
    (im9 : PySem.W.isFn K (.ref fm9) = true)
    (lm9 : K.lookup fm9 = some ⟨ocm9, odm9, .func (PySem.W.fnOf "write" "Session.write" (defArgs sSesWrite) (defBody sSesWrite) (defScope sSesWrite) .none kVm9 dcm9 pmm9 anm9 cdm9 ctm9), slm9⟩)
    (cm9 : PySem.W.codeIn K cdm9 "Session.write" = true)
    (km9 : PySem.W.keepIn K (.ref fm9) = true)
    (am10 : PySem.W.findIn K (.ref cSession) "spell" = some (some (.ref fm10)))
    (im10 : PySem.W.isFn K (.ref fm10) = true)
    (lm10 : K.lookup fm10 = some ⟨ocm10, odm10, .func (PySem.W.fnOf "spell" "Session.spell" (defArgs sSesSpell) (defBody sSesSpell) (defScope sSesSpell) .none kVm10 dcm10 pmm10 anm10 cdm10 ctm10), slm10⟩)
    (cm10 : PySem.W.codeIn K cdm10 "Session.spell" = true)
    (km10 : PySem.W.keepIn K (.ref fm10) = true)
    (am11 : PySem.W.findIn K (.ref cSession) "sure" = some (some (.ref fm11)))
    (im11 : PySem.W.isFn K (.ref fm11) = true)
    (lm11 : K.lookup fm11 = some ⟨ocm11, odm11, .func (PySem.W.fnOf "sure" "Session.sure" (defArgs sSesSure) (defBody sSesSure) (defScope sSesSure) .none kVm11 dcm11 pmm11 anm11 cdm11 ctm11), slm11⟩)
    (cm11 : PySem.W.codeIn K cdm11 "Session.sure" = true)
    (km11 : PySem.W.keepIn K (.ref fm11) = true)
    (am12 : PySem.W.findIn K (.ref cSession) "left_open" = some (some (.ref fm12)))
    (im12 : PySem.W.isFn K (.ref fm12) = true)
    (lm12 : K.lookup fm12 = some ⟨ocm12, odm12, .func (PySem.W.fnOf "left_open" "Session.left_open" (defArgs sSesOpen) (defBody sSesOpen) (defScope sSesOpen) .none kVm12 dcm12 pmm12 anm12 cdm12 ctm12), slm12⟩)
    (cm12 : PySem.W.codeIn K cdm12 "Session.left_open" = true)
    (km12 : PySem.W.keepIn K (.ref fm12) = true)
    (am13 : PySem.W.findIn K (.ref cSession) "told_for" = some (some (.ref fm13)))
    (im13 : PySem.W.isFn K (.ref fm13) = true)
    (lm13 : K.lookup fm13 = some ⟨ocm13, odm13, .func (PySem.W.fnOf "told_for" "Session.told_for" (defArgs sSesTold) (defBody sSesTold) (defScope sSesTold) .none kVm13 dcm13 pmm13 anm13 cdm13 ctm13), slm13⟩)
    (cm13 : PySem.W.codeIn K cdm13 "Session.told_for" = true)
    (km13 : PySem.W.keepIn K (.ref fm13) = true)
    (am14 : PySem.W.findIn K (.ref cSession) "change_table" = some (some (.ref fm14)))
    (im14 : PySem.W.isFn K (.ref fm14) = true)
    (lm14 : K.lookup fm14 = some ⟨ocm14, odm14, .func (PySem.W.fnOf "change_table" "Session.change_table" (defArgs sSesChange) (defBody sSesChange) (defScope sSesChange) .none kVm14 dcm14 pmm14 anm14 cdm14 ctm14), slm14⟩)
    (cm14 : PySem.W.codeIn K cdm14 "Session.change_table" = true)
    (km14 : PySem.W.keepIn K (.ref fm14) = true)
    (am15 : PySem.W.findIn K (.ref cSession) "tree_of_table" = some (some (.ref fm15)))
    (im15 : PySem.W.isFn K (.ref fm15) = true)
    (lm15 : K.lookup fm15 = some ⟨ocm15, odm15, .func (PySem.W.fnOf "tree_of_table" "Session.tree_of_table" (defArgs sSesTree) (defBody sSesTree) (defScope sSesTree) .none kVm15 dcm15 pmm15 anm15 cdm15 ctm15), slm15⟩)
    (cm15 : PySem.W.codeIn K cdm15 "Session.tree_of_table" = true)
    (km15 : PySem.W.keepIn K (.ref fm15) = true)
    (pgRule : PySem.W.plainGet K cRule Str.empty = true)
    (hdRule : PySem.W.hasDictIn K cRule = true)
    (poRule : PySem.W.plainOver K cRule = true)
    (saRule : PySem.W.findIn K (.ref cRule) "__setattr__" = some (some (.builtin "object.__setattr__")))
    (mkRule : PySem.W.makesIn K cRule = true)
    (kcRule : PySem.W.keepIn K (.ref cRule) = true)
    (nRule_letters : PySem.W.findIn K (.ref cRule) "letters" = some none)
    (nRule_sounds : PySem.W.findIn K (.ref cRule) "sounds" = some none)
    (nRule_back : PySem.W.findIn K (.ref cRule) "back" = some none)
    (nRule_begin : PySem.W.findIn K (.ref cRule) "begin" = some none)
    (nRule_take : PySem.W.findIn K (.ref cRule) "take" = some none)
    (pgSpelling : PySem.W.plainGet K cSpelling Str.empty = true)
    (hdSpelling : PySem.W.hasDictIn K cSpelling = true)
    (poSpelling : PySem.W.plainOver K cSpelling = true)
    (saSpelling : PySem.W.findIn K (.ref cSpelling) "__setattr__" = some (some (.builtin "object.__setattr__")))
    (mkSpelling : PySem.W.makesIn K cSpelling = true)
    (kcSpelling : PySem.W.keepIn K (.ref cSpelling) = true)
    (nSpelling_sounds : PySem.W.findIn K (.ref cSpelling) "sounds" = some none)
    (nSpelling_left : PySem.W.findIn K (.ref cSpelling) "left" = some none)
    (nSpelling_begin : PySem.W.findIn K (.ref cSpelling) "begin" = some none)
    (pgBeginning : PySem.W.plainGet K cBeginning Str.empty = true)
    (hdBeginning : PySem.W.hasDictIn K cBeginning = true)
    (poBeginning : PySem.W.plainOver K cBeginning = true)
    (saBeginning : PySem.W.findIn K (.ref cBeginning) "__setattr__" = some (some (.builtin "object.__setattr__")))
    (mkBeginning : PySem.W.makesIn K cBeginning = true)
    (kcBeginning : PySem.W.keepIn K (.ref cBeginning) = true)
    (nBeginning_ended : PySem.W.findIn K (.ref cBeginning) "ended" = some none)
    (nBeginning_given_up : PySem.W.findIn K (.ref cBeginning) "given_up" = some none)
    (nBeginning_ways : PySem.W.findIn K (.ref cBeginning) "ways" = some none)
    (nBeginning_begin : PySem.W.findIn K (.ref cBeginning) "begin" = some none)
    (pgSession : PySem.W.plainGet K cSession Str.empty = true)
    (hdSession : PySem.W.hasDictIn K cSession = true)
    (poSession : PySem.W.plainOver K cSession = true)
    (saSession : PySem.W.findIn K (.ref cSession) "__setattr__" = some (some (.builtin "object.__setattr__")))
    (mkSession : PySem.W.makesIn K cSession = true)
    (kcSession : PySem.W.keepIn K (.ref cSession) = true)
    (nSession_table : PySem.W.findIn K (.ref cSession) "table" = some none)
    (nSession_tree : PySem.W.findIn K (.ref cSession) "tree" = some none)
    (v0 : PySem.W.nsIn K mainGlobals "LEAST_LETTER" = some (some (.int 33 ti0)))
    (v1 : PySem.W.nsIn K mainGlobals "GREATEST_LETTER" = some (some (.int 126 ti1)))
    (v2 : PySem.W.nsIn K mainGlobals "CHARACTERS_END" = some (some (.int 1114112 ti2)))
    (v3 : PySem.W.nsIn K mainGlobals "SURROGATES_BEGIN" = some (some (.int 55296 ti3)))
    (v4 : PySem.W.nsIn K mainGlobals "SURROGATES_END" = some (some (.int 57344 ti4)))
    (v5 : PySem.W.nsIn K mainGlobals "MOST_RULES" = some (some (.int 64 ti5)))
    (v6 : PySem.W.nsIn K mainGlobals "MOST_LETTERS" = some (some (.int 6 ti6)))
    (v7 : PySem.W.nsIn K mainGlobals "MOST_SOUNDS" = some (some (.int 4 ti7)))
    (v8 : PySem.W.nsIn K mainGlobals "MOST_BACK" = some (some (.int 5 ti8)))
    (v9 : PySem.W.nsIn K mainGlobals "FOLLOWING" = some (some (.int 128 ti9)))
    (v10 : PySem.W.nsIn K mainGlobals "FOLLOWING_COUNT" = some (some (.int 64 ti10)))
    (v11 : PySem.W.nsIn K mainGlobals "LINE_END" = some (some (.int 10 ti11)))
    (v12 : PySem.W.nsIn K mainGlobals "BLANK" = some (some (.int 32 ti12)))
    (v13 : PySem.W.nsIn K mainGlobals "DELETE" = some (some (.int 127 ti13)))
    (v14 : PySem.W.nsIn K mainGlobals "NO_FAULT" = some (some (.int 0 ti14)))
    (v15 : PySem.W.nsIn K mainGlobals "NO_RULE_LINE" = some (some (.int 1 ti15)))
    (v16 : PySem.W.nsIn K mainGlobals "WRONG_SIZE" = some (some (.int 2 ti16)))
    (v17 : PySem.W.nsIn K mainGlobals "LETTERS_AGAIN" = some (some (.int 3 ti17)))
    (v18 : PySem.W.nsIn K mainGlobals "TOO_MANY_LINES" = some (some (.int 4 ti18)))
    (v19 : PySem.W.nsIn K mainGlobals "MOST_BYTES" = some (some (.int 65536 ti19)))
    (v20 : PySem.W.nsIn K mainGlobals "MOST_ROW_LETTERS" = some (some (.int 256 ti20)))
    (v21 : PySem.W.nsIn K mainGlobals "MOST_ROW_SOUNDS" = some (some (.int 16 ti21)))
    (v22 : PySem.W.nsIn K mainGlobals "NOT_REFUSED" = some (some (.int 0 ti22)))
    (v23 : PySem.W.nsIn K mainGlobals "TOO_LONG" = some (some (.int (-1) ti23)))
    (v24 : PySem.W.nsIn K mainGlobals "FAULTY_TEXT" = some (some (.int (-2) ti24)))
    (v25 : PySem.W.nsIn K mainGlobals "WRONG_NUMBER" = some (some (.int (-3) ti25)))
    (v26 : PySem.W.nsIn K mainGlobals "NONE_SOUNDS_SO" = some (some (.int (-5) ti26)))
    (v27 : PySem.W.nsIn K mainGlobals "BEGIN" = some (some (.int 1 ti27)))
    (v28 : PySem.W.nsIn K mainGlobals "READ" = some (some (.int 2 ti28)))
    (v29 : PySem.W.nsIn K mainGlobals "WRITE" = some (some (.int 3 ti29)))
    (v30 : PySem.W.nsIn K mainGlobals "SPELL" = some (some (.int 4 ti30)))
    (v31 : PySem.W.nsIn K mainGlobals "SURE" = some (some (.int 5 ti31)))
    (v32 : PySem.W.nsIn K mainGlobals "LEFT_OPEN" = some (some (.int 6 ti32)))
    (z_all : PySem.W.nsIn K mainGlobals "all" = some none)
    (z_len : PySem.W.nsIn K mainGlobals "len" = some none)
    (z_list : PySem.W.nsIn K mainGlobals "list" = some none)
    (z_tuple : PySem.W.nsIn K mainGlobals "tuple" = some none)
    (z_range : PySem.W.nsIn K mainGlobals "range" = some none)
    (z_enumerate : PySem.W.nsIn K mainGlobals "enumerate" = some none)
    (z_reversed : PySem.W.nsIn K mainGlobals "reversed" = some none)
    (z_sorted : PySem.W.nsIn K mainGlobals "sorted" = some none)
    (z_any : PySem.W.nsIn K mainGlobals "any" = some none)
    (gT0 : PySem.W.nsIn K mainGlobals "FORMS" = some (some (.ref aT0)))
    (t0 : K.lookup aT0 = some ⟨.type "tuple", uo0, .seq #[.ref aF0, .ref aF1, .ref aF2, .ref aF3] un0, us0⟩)
    (gT1 : PySem.W.nsIn K mainGlobals "WITHOUT_ROW" = some (some (.ref aT1)))
    (t1 : K.lookup aT1 = some ⟨.type "tuple", uo1, .seq #[.int 1 w1_0, .int 3 w1_1] un1, us1⟩)
    (x0 : K.lookup aF0 = some ⟨.type "tuple", xo0, .seq #[.int 0 y0_0, .int 128 y0_1, .int 0 y0_2] xn0, xs0⟩)
    (x1 : K.lookup aF1 = some ⟨.type "tuple", xo1, .seq #[.int 192 y1_0, .int 224 y1_1, .int 128 y1_2] xn1, xs1⟩)
    (x2 : K.lookup aF2 = some ⟨.type "tuple", xo2, .seq #[.int 224 y2_0, .int 240 y2_1, .int 2048 y2_2] xn2, xs2⟩)
    (x3 : K.lookup aF3 = some ⟨.type "tuple", xo3, .seq #[.int 240 y3_0, .int 248 y3_1, .int 65536 y3_2] xn3, xs3⟩)
    : ∃ fd : FuncData, (∀ (s : Shared) (us : List Value), us.length = (["calls"] : List Str).length → BindsTo s fd ⟨us, []⟩ ((["calls"] : List Str).zip us)) ∧ ∀ base : Heap, K.In base → base.Ns mainGlobals mg → FnOk P w K mg base CX0 9 fa fd ["calls"] (spAnswers K) := by
  have F_is_letter := fun_mk (st := sIsLetter) lf0 cf0 kf0
  have b_is_letter := F_is_letter.binds (ps := ["number"]) fun _ _ _ _ _ _ us hl => match us, hl with | [_], _ => rfl
  have g_is_letter := PySem.W.mg_of X G af0
  have F_is_character := fun_mk (st := sIsCharacter) lf1 cf1 kf1
  have b_is_character := F_is_character.binds (ps := ["number"]) fun _ _ _ _ _ _ us hl => match us, hl with | [_], _ => rfl
  have g_is_character := PySem.W.mg_of X G af1
  have F_all_letters := fun_mk (st := sAllLetters) lf2 cf2 kf2
  have b_all_letters := F_all_letters.binds (ps := ["row"]) fun _ _ _ _ _ _ us hl => match us, hl with | [_], _ => rfl
  have g_all_letters := PySem.W.mg_of X G af2
  have F_all_characters := fun_mk (st := sAllChars) lf3 cf3 kf3
  have b_all_characters := F_all_characters.binds (ps := ["row"]) fun _ _ _ _ _ _ us hl => match us, hl with | [_], _ => rfl
  have g_all_characters := PySem.W.mg_of X G af3
  have F_letters_for := fun_mk (st := sLettersFor) lf4 cf4 kf4
  have b_letters_for := F_letters_for.binds (ps := ["tree", "sounds"]) fun _ _ _ _ _ _ us hl => match us, hl with | [_, _], _ => rfl
  have g_letters_for := PySem.W.mg_of X G af4
  have F_new_steps := fun_mk (st := sNewSteps) lf5 cf5 kf5
  have b_new_steps := F_new_steps.binds (ps := ["tree", "sounds", "state", "unused"]) fun _ _ _ _ _ _ us hl => match us, hl with | [_, _, _, _], _ => rfl
  have g_new_steps := PySem.W.mg_of X G af5
  have F_states_without_more := fun_mk (st := sStates) lf6 cf6 kf6
  have b_states_without_more := F_states_without_more.binds (ps := ["tree", "sounds", "state"]) fun _ _ _ _ _ _ us hl => match us, hl with | [_, _, _], _ => rfl
  have g_states_without_more := PySem.W.mg_of X G af6
  have F_step_by := fun_mk (st := sStepBy) lf7 cf7 kf7
  have b_step_by := F_step_by.binds (ps := ["sounds", "told", "letter", "way"]) fun _ _ _ _ _ _ us hl => match us, hl with | [_, _, _, _], _ => rfl
  have g_step_by := PySem.W.mg_of X G af7
  have F_told_behind := fun_mk (st := sTold) lf8 cf8 kf8
  have b_told_behind := F_told_behind.binds (ps := ["sounds", "told", "more"]) fun _ _ _ _ _ _ us hl => match us, hl with | [_, _, _], _ => rfl
  have g_told_behind := PySem.W.mg_of X G af8
  have F_row_to := fun_mk (st := sRowTo) lf9 cf9 kf9
  have b_row_to := F_row_to.binds (ps := ["came_by", "state"]) fun _ _ _ _ _ _ us hl => match us, hl with | [_, _], _ => rfl
  have g_row_to := PySem.W.mg_of X G af9
  have F_spelled := fun_mk (st := sSpelled) lf10 cf10 kf10
  have b_spelled := F_spelled.binds (ps := ["table", "letters"]) fun _ _ _ _ _ _ us hl => match us, hl with | [_, _], _ => rfl
  have g_spelled := PySem.W.mg_of X G af10
  have F_spelled_so_far := fun_mk (st := sSoFar) lf11 cf11 kf11
  have b_spelled_so_far := F_spelled_so_far.binds (ps := ["table", "begun", "letters"]) fun _ _ _ _ _ _ us hl => match us, hl with | [_, _, _], _ => rfl
  have g_spelled_so_far := PySem.W.mg_of X G af11
  have F_beginnings := fun_mk (st := sBegs) lf12 cf12 kf12
  have b_beginnings := F_beginnings.binds (ps := ["table"]) fun _ _ _ _ _ _ us hl => match us, hl with | [_], _ => rfl
  have g_beginnings := PySem.W.mg_of X G af12
  have F_longest_rule := fun_mk (st := sLongest) lf13 cf13 kf13
  have b_longest_rule := F_longest_rule.binds (ps := ["table", "left"]) fun _ _ _ _ _ _ us hl => match us, hl with | [_, _], _ => rfl
  have g_longest_rule := PySem.W.mg_of X G af13
  have F_decoded := fun_mk (st := sDecoded) lf14 cf14 kf14
  have b_decoded := F_decoded.binds (ps := ["octets"]) fun _ _ _ _ _ _ us hl => match us, hl with | [_], _ => rfl
  have g_decoded := PySem.W.mg_of X G af14
  have F_form_size := fun_mk (st := sFormSize) lf15 cf15 kf15
  have b_form_size := F_form_size.binds (ps := ["first"]) fun _ _ _ _ _ _ us hl => match us, hl with | [_], _ => rfl
  have g_form_size := PySem.W.mg_of X G af15
  have F_form_value := fun_mk (st := sFormValue) lf16 cf16 kf16
  have b_form_value := F_form_value.binds (ps := ["octets"]) fun _ _ _ _ _ _ us hl => match us, hl with | [_], _ => rfl
  have g_form_value := PySem.W.mg_of X G af16
  have F_encoded := fun_mk (st := sEncoded) lf17 cf17 kf17
  have b_encoded := F_encoded.binds (ps := ["row"]) fun _ _ _ _ _ _ us hl => match us, hl with | [_], _ => rfl
  have g_encoded := PySem.W.mg_of X G af17
  have F_form_of := fun_mk (st := sFormOf) lf18 cf18 kf18
  have b_form_of := F_form_of.binds (ps := ["number"]) fun _ _ _ _ _ _ us hl => match us, hl with | [_], _ => rfl
  have g_form_of := PySem.W.mg_of X G af18
  have F_fill_table := fun_mk (st := sFillTable) lf19 cf19 kf19
  have b_fill_table := F_fill_table.binds (ps := ["table", "text"]) fun _ _ _ _ _ _ us hl => match us, hl with | [_, _], _ => rfl
  have g_fill_table := PySem.W.mg_of X G af19
  have F_parted := fun_mk (st := sParted) lf20 cf20 kf20
  have b_parted := F_parted.binds (ps := ["row", "mark"]) fun _ _ _ _ _ _ us hl => match us, hl with | [_, _], _ => rfl
  have g_parted := PySem.W.mg_of X G af20
  have F_parts_of := fun_mk (st := sPartsOf) lf21 cf21 kf21
  have b_parts_of := F_parts_of.binds (ps := ["line"]) fun _ _ _ _ _ _ us hl => match us, hl with | [_], _ => rfl
  have g_parts_of := PySem.W.mg_of X G af21
  have F_fault_kind := fun_mk (st := sFaultKind) lf22 cf22 kf22
  have b_fault_kind := F_fault_kind.binds (ps := ["parts", "table"]) fun _ _ _ _ _ _ us hl => match us, hl with | [_, _], _ => rfl
  have g_fault_kind := PySem.W.mg_of X G af22
  have F_is_rule_line := fun_mk (st := sIsRuleLine) lf23 cf23 kf23
  have b_is_rule_line := F_is_rule_line.binds (ps := ["parts"]) fun _ _ _ _ _ _ us hl => match us, hl with | [_], _ => rfl
  have g_is_rule_line := PySem.W.mg_of X G af23
  have F_all_written_sounds := fun_mk (st := sAllWritten) lf24 cf24 kf24
  have b_all_written_sounds := F_all_written_sounds.binds (ps := ["row"]) fun _ _ _ _ _ _ us hl => match us, hl with | [_], _ => rfl
  have g_all_written_sounds := PySem.W.mg_of X G af24
  have F_rule_of := fun_mk (st := sRuleOf) lf25 cf25 kf25
  have b_rule_of := F_rule_of.binds (ps := ["parts"]) fun _ _ _ _ _ _ us hl => match us, hl with | [_], _ => rfl
  have g_rule_of := PySem.W.mg_of X G af25
  have F_written := fun_mk (st := sWritten) lf26 cf26 kf26
  have b_written := F_written.binds (ps := ["table"]) fun _ _ _ _ _ _ us hl => match us, hl with | [_], _ => rfl
  have g_written := PySem.W.mg_of X G af26
  have F_written_line := fun_mk (st := sWrittenLine) lf27 cf27 kf27
  have b_written_line := F_written_line.binds (ps := ["rule"]) fun _ _ _ _ _ _ us hl => match us, hl with | [_], _ => rfl
  have g_written_line := PySem.W.mg_of X G af27
  have F_tree_of := fun_mk (st := sTreeOf) lf28 cf28 kf28
  have b_tree_of := F_tree_of.binds (ps := ["table"]) fun _ _ _ _ _ _ us hl => match us, hl with | [_], _ => rfl
  have g_tree_of := PySem.W.mg_of X G af28
  have F_spelled_without_more := fun_mk (st := sWithout) lf29 cf29 kf29
  have b_spelled_without_more := F_spelled_without_more.binds (ps := ["table", "begun", "letters"]) fun _ _ _ _ _ _ us hl => match us, hl with | [_, _, _], _ => rfl
  have g_spelled_without_more := PySem.W.mg_of X G af29
  have F_letters_refusal := fun_mk (st := sRefusal) lf30 cf30 kf30
  have b_letters_refusal := F_letters_refusal.binds (ps := ["letters"]) fun _ _ _ _ _ _ us hl => match us, hl with | [_], _ => rfl
  have g_letters_refusal := PySem.W.mg_of X G af30
  have F_sounds_refusal := fun_mk (st := sRefusalS) lf31 cf31 kf31
  have b_sounds_refusal := F_sounds_refusal.binds (ps := ["sounds"]) fun _ _ _ _ _ _ us hl => match us, hl with | [_], _ => rfl
  have g_sounds_refusal := PySem.W.mg_of X G af31
  have F_answers := fun_mk (st := sAnswers) lf32 cf32 kf32
  have b_answers := F_answers.binds (ps := ["calls"]) fun _ _ _ _ _ _ us hl => match us, hl with | [_], _ => rfl
  have g_answers := PySem.W.mg_of X G af32
  have F_answer_of := fun_mk (st := sAnswerOf) lf33 cf33 kf33
  have b_answer_of := F_answer_of.binds (ps := ["session", "call", "row"]) fun _ _ _ _ _ _ us hl => match us, hl with | [_, _, _], _ => rfl
  have g_answer_of := PySem.W.mg_of X G af33
  have F_Rule_init := fun_mk (st := sRuleInit) lm0 cm0 km0
  have b_Rule_init := F_Rule_init.binds (ps := ["self", "letters", "sounds", "back"]) fun _ _ _ _ _ _ us hl => match us, hl with | [_, _, _, _], _ => rfl
  have F_Rule_has_right_sizes := fun_mk (st := sRuleSizes) lm1 cm1 km1
  have b_Rule_has_right_sizes := F_Rule_has_right_sizes.binds (ps := ["self"]) fun _ _ _ _ _ _ us hl => match us, hl with | [_], _ => rfl
  have F_Spelling_init := fun_mk (st := sGInit) lm2 cm2 km2
  have b_Spelling_init := F_Spelling_init.binds (ps := ["self", "letters"]) fun _ _ _ _ _ _ us hl => match us, hl with | [_, _], _ => rfl
  have F_Spelling_take := fun_mk (st := sGTake) lm3 cm3 km3
  have b_Spelling_take := F_Spelling_take.binds (ps := ["self", "table"]) fun _ _ _ _ _ _ us hl => match us, hl with | [_, _], _ => rfl
  have F_Spelling_take_what_is_sure := fun_mk (st := sGSure) lm4 cm4 km4
  have b_Spelling_take_what_is_sure := F_Spelling_take_what_is_sure.binds (ps := ["self", "table", "begun"]) fun _ _ _ _ _ _ us hl => match us, hl with | [_, _, _], _ => rfl
  have F_Beginning_init := fun_mk (st := sNInit) lm5 cm5 km5
  have b_Beginning_init := F_Beginning_init.binds (ps := ["self", "ended", "given_up"]) fun _ _ _ _ _ _ us hl => match us, hl with | [_, _, _], _ => rfl
  have F_Session_init := fun_mk (st := sSesInit) lm6 cm6 km6
  have b_Session_init := F_Session_init.binds (ps := ["self"]) fun _ _ _ _ _ _ us hl => match us, hl with | [_], _ => rfl
  have F_Session_begin := fun_mk (st := sSesBegin) lm7 cm7 km7
  have b_Session_begin := F_Session_begin.binds (ps := ["self"]) fun _ _ _ _ _ _ us hl => match us, hl with | [_], _ => rfl
  have F_Session_read := fun_mk (st := sSesRead) lm8 cm8 km8
  have b_Session_read := F_Session_read.binds (ps := ["self", "text"]) fun _ _ _ _ _ _ us hl => match us, hl with | [_, _], _ => rfl
  have F_Session_write := fun_mk (st := sSesWrite) lm9 cm9 km9
  have b_Session_write := F_Session_write.binds (ps := ["self"]) fun _ _ _ _ _ _ us hl => match us, hl with | [_], _ => rfl
  have F_Session_spell := fun_mk (st := sSesSpell) lm10 cm10 km10
  have b_Session_spell := F_Session_spell.binds (ps := ["self", "letters"]) fun _ _ _ _ _ _ us hl => match us, hl with | [_, _], _ => rfl
  have F_Session_sure := fun_mk (st := sSesSure) lm11 cm11 km11
  have b_Session_sure := F_Session_sure.binds (ps := ["self", "letters"]) fun _ _ _ _ _ _ us hl => match us, hl with | [_, _], _ => rfl
  have F_Session_left_open := fun_mk (st := sSesOpen) lm12 cm12 km12
  have b_Session_left_open := F_Session_left_open.binds (ps := ["self", "letters"]) fun _ _ _ _ _ _ us hl => match us, hl with | [_, _], _ => rfl
  have F_Session_told_for := fun_mk (st := sSesTold) lm13 cm13 km13
  have b_Session_told_for := F_Session_told_for.binds (ps := ["self", "sounds"]) fun _ _ _ _ _ _ us hl => match us, hl with | [_, _], _ => rfl
  have F_Session_change_table := fun_mk (st := sSesChange) lm14 cm14 km14
  have b_Session_change_table := F_Session_change_table.binds (ps := ["self", "table"]) fun _ _ _ _ _ _ us hl => match us, hl with | [_, _], _ => rfl
  have F_Session_tree_of_table := fun_mk (st := sSesTree) lm15 cm15 km15
  have b_Session_tree_of_table := F_Session_tree_of_table.binds (ps := ["self"]) fun _ _ _ _ _ _ us hl => match us, hl with | [_], _ => rfl
  have TL : TxtL mg ff0 ff1 ff2 := ⟨⟨_, PySem.W.mg_of X G v0⟩, ⟨_, PySem.W.mg_of X G v1⟩, ⟨_, PySem.W.mg_of X G v2⟩, ⟨_, PySem.W.mg_of X G v3⟩, ⟨_, PySem.W.mg_of X G v4⟩, g_is_letter, g_is_character, g_all_letters, PySem.W.mg_none_of X G z_all⟩
  have TF : TxtF K mg aT0 aF0 aF1 aF2 aF3 := ⟨PySem.W.mg_of X G gT0, ⟨_, PySem.W.mg_of X G v9⟩, ⟨_, PySem.W.mg_of X G v10⟩, sqT_of t0 (Nat.le_of_ble_eq_true rfl) (.cons rfl (.cons rfl (.cons rfl (.cons rfl .nil)))), sqT_of x0 (Nat.le_of_ble_eq_true rfl) (.cons ⟨_, rfl⟩ (.cons ⟨_, rfl⟩ (.cons ⟨_, rfl⟩ .nil))), sqT_of x1 (Nat.le_of_ble_eq_true rfl) (.cons ⟨_, rfl⟩ (.cons ⟨_, rfl⟩ (.cons ⟨_, rfl⟩ .nil))), sqT_of x2 (Nat.le_of_ble_eq_true rfl) (.cons ⟨_, rfl⟩ (.cons ⟨_, rfl⟩ (.cons ⟨_, rfl⟩ .nil))), sqT_of x3 (Nat.le_of_ble_eq_true rfl) (.cons ⟨_, rfl⟩ (.cons ⟨_, rfl⟩ (.cons ⟨_, rfl⟩ .nil)))⟩
  have TB : TxtB mg := ⟨PySem.W.mg_none_of X G z_all, PySem.W.mg_none_of X G z_len, PySem.W.mg_none_of X G z_list, PySem.W.mg_none_of X G z_tuple, PySem.W.mg_none_of X G z_range, PySem.W.mg_none_of X G z_enumerate, PySem.W.mg_none_of X G z_reversed, PySem.W.mg_none_of X G z_sorted⟩
  have TA : TxtA mg := ⟨PySem.W.mg_none_of X G z_any⟩
  have TT : TxtT mg := ⟨⟨_, PySem.W.mg_of X G v11⟩, ⟨_, PySem.W.mg_of X G v12⟩, ⟨_, PySem.W.mg_of X G v13⟩, ⟨_, PySem.W.mg_of X G v14⟩, ⟨_, PySem.W.mg_of X G v15⟩, ⟨_, PySem.W.mg_of X G v16⟩, ⟨_, PySem.W.mg_of X G v17⟩, ⟨_, PySem.W.mg_of X G v18⟩⟩
  have TR : TxtR K mg cRule fm0 fm1 := ⟨⟨pgRule, hdRule, poRule, saRule⟩, ⟨mkRule, am0, im0, kcRule⟩, ⟨am1, im1, km1⟩, PySem.W.mg_of X G hcRule, nRule_letters, nRule_sounds, nRule_back, ⟨_, PySem.W.mg_of X G v5⟩, ⟨_, PySem.W.mg_of X G v6⟩, ⟨_, PySem.W.mg_of X G v7⟩, ⟨_, PySem.W.mg_of X G v8⟩⟩
  have TG : TxtG K mg cSpelling fm2 fm3 fm4 := ⟨⟨pgSpelling, hdSpelling, poSpelling, saSpelling⟩, ⟨mkSpelling, am2, im2, kcSpelling⟩, ⟨am3, im3, km3⟩, ⟨am4, im4, km4⟩, PySem.W.mg_of X G hcSpelling, nSpelling_sounds, nSpelling_left⟩
  have TN : TxtN K mg cBeginning fm5 := ⟨⟨pgBeginning, hdBeginning, poBeginning, saBeginning⟩, ⟨mkBeginning, am5, im5, kcBeginning⟩, PySem.W.mg_of X G hcBeginning, nBeginning_ended, nBeginning_given_up, nBeginning_ways⟩
  have TS : TxtS K mg cSession fm14 fm15 := ⟨⟨pgSession, hdSession, poSession, saSession⟩, nSession_table, nSession_tree, ⟨am14, im14, km14⟩, ⟨am15, im15, km15⟩, PySem.W.mg_of X G hcSession, ⟨_, PySem.W.mg_of X G v19⟩, ⟨_, PySem.W.mg_of X G v20⟩, ⟨_, PySem.W.mg_of X G v22⟩, ⟨_, PySem.W.mg_of X G v23⟩, ⟨_, PySem.W.mg_of X G v24⟩, ⟨_, PySem.W.mg_of X G v25⟩, ⟨_, PySem.W.mg_of X G v21⟩, ⟨_, PySem.W.mg_of X G v26⟩⟩
  have TM : TxtM K mg cSession fm7 fm8 fm9 fm10 fm11 fm12 fm13 := ⟨⟨am7, im7, km7⟩, ⟨am8, im8, km8⟩, ⟨am9, im9, km9⟩, ⟨am10, im10, km10⟩, ⟨am11, im11, km11⟩, ⟨am12, im12, km12⟩, ⟨am13, im13, km13⟩, ⟨_, PySem.W.mg_of X G v27⟩, ⟨_, PySem.W.mg_of X G v28⟩, ⟨_, PySem.W.mg_of X G v29⟩, ⟨_, PySem.W.mg_of X G v30⟩, ⟨_, PySem.W.mg_of X G v31⟩, ⟨_, PySem.W.mg_of X G v32⟩⟩
  have TW : TxtW K mg aT1 := ⟨PySem.W.mg_of X G gT1, sqT_of t1 (Nat.le_of_ble_eq_true rfl) (.cons ⟨_, rfl⟩ (.cons ⟨_, rfl⟩ .nil))⟩
  have DI : Differ cSession cRule cBeginning cSpelling := ⟨fun e => (by have q := am7; rw [e, nRule_begin] at q; cases q), fun e => (by have q := am7; rw [e, nBeginning_begin] at q; cases q), fun e => (by have q := am7; rw [e, nSpelling_begin] at q; cases q), fun e => (by have q := am3; rw [e, nRule_take] at q; cases q)⟩
  have e := hfa.symm.trans g_answers
  cases e
  refine ⟨PySem.W.fnOf "answers" "answers" (defArgs sAnswers) (defBody sAnswers) (defScope sAnswers) .none kVf32 dcf32 pmf32 anf32 cdf32 ctf32, fun s us hu => match us, hu with | [_], _ => .of_eq rfl, fun base _ _ => ?_⟩
  have G_all (k : Nat) := ok_all_letters (P := P) (w := w) (base := base) (k := k) F_all_letters TL F_is_letter b_is_letter
  have G_chars (k : Nat) := ok_all_chars (P := P) (w := w) (base := base) (k := k) F_all_characters TL F_is_character b_is_character
  have G_decoded := ok_decoded (P := P) (w := w) (base := base) (k := 1) F_decoded TF TB TL F_form_size b_form_size g_form_size F_form_value b_form_value g_form_value F_is_character b_is_character
  have G_encoded := ok_encoded (P := P) (w := w) (base := base) (k := 2) F_encoded TF TB F_form_of b_form_of g_form_of
  have G_parts_of := ok_parts_of (P := P) (w := w) (base := base) (k := 1) F_parts_of TT G_decoded F_decoded.kp b_decoded g_decoded F_parted b_parted g_parted
  have G_allw := ok_all_written (P := P) (w := w) (base := base) (k := 1) F_all_written_sounds TT TB
  have G_irl := ok_is_rule_line (P := P) (w := w) (base := base) (k := 1) F_is_rule_line TL TB (G_all 1) F_all_letters.kp b_all_letters G_allw F_all_written_sounds.kp b_all_written_sounds g_all_written_sounds
  have G_rule_of := ok_rule_of (P := P) (w := w) (base := base) (k := 1) F_rule_of TR TB F_Rule_init b_Rule_init
  have G_fk := ok_fault_kind (P := P) (w := w) (base := base) (k := 1) F_fault_kind TR TT TB G_irl F_is_rule_line.kp b_is_rule_line g_is_rule_line G_rule_of F_rule_of.kp b_rule_of g_rule_of F_Rule_has_right_sizes b_Rule_has_right_sizes
  have G_fill := ok_fill_table (P := P) (w := w) (base := base) (k := 1) F_fill_table TR TT TB F_parted b_parted g_parted G_parts_of F_parts_of.kp b_parts_of g_parts_of G_fk F_fault_kind.kp b_fault_kind g_fault_kind G_rule_of F_rule_of.kp b_rule_of g_rule_of
  have G_wl := ok_written_line (P := P) (w := w) (base := base) (k := 2) F_written_line TR TT TB G_encoded F_encoded.kp b_encoded g_encoded
  have G_w := ok_written (P := P) (w := w) (base := base) (k := 2) F_written TR TB G_wl F_written_line.kp b_written_line g_written_line
  have G_gi (k : Nat) := ok_g_init (P := P) (w := w) (base := base) (k := k) F_Spelling_init TG TB
  have G_take (k : Nat) := ok_g_take (P := P) (w := w) (base := base) (k := k) F_Spelling_take TG TR TB DI.gc F_longest_rule b_longest_rule g_longest_rule
  have G_tws (k : Nat) := ok_g_sure (P := P) (w := w) (base := base) (k := k + 1) F_Spelling_take_what_is_sure TG DI.gc (G_take k) b_Spelling_take
  have G_sp (k : Nat) := ok_spelled (P := P) (w := w) (base := base) (k := k) F_spelled TG DI.gc (G_gi k) b_Spelling_init (G_take k) b_Spelling_take
  have G_sf (k : Nat) := ok_so_far (P := P) (w := w) (base := base) (k := k + 1) F_spelled_so_far TG DI.gc (G_gi (k + 1)) b_Spelling_init (G_tws k) b_Spelling_take_what_is_sure
  have G_wo (k : Nat) := ok_without (P := P) (w := w) (base := base) (k := k + 1) F_spelled_without_more TG DI.gc (G_gi (k + 1)) b_Spelling_init (G_take (k + 1)) b_Spelling_take (G_tws k) b_Spelling_take_what_is_sure
  have G_bg (k : Nat) := ok_begs (P := P) (w := w) (base := base) (C := cRule) (k := k) F_beginnings TB
  have G_ni := ok_n_init (P := P) (w := w) (base := base) (k := 2) F_Beginning_init TN
  have G_tree := ok_tree_of (P := P) (w := w) (base := base) (k := 3) F_tree_of TN TL TB G_ni b_Beginning_init (G_sp 1) F_spelled.kp b_spelled g_spelled (G_wo 0) F_spelled_without_more.kp b_spelled_without_more g_spelled_without_more (G_bg 3) F_beginnings.kp b_beginnings g_beginnings (G_sf 0) F_spelled_so_far.kp b_spelled_so_far g_spelled_so_far
  have G_told (k : Nat) := ok_told (P := P) (w := w) (base := base) (k := k) F_told_behind TB
  have G_step := ok_step_by (P := P) (w := w) (base := base) (k := 2) F_step_by TG (G_told 2) F_told_behind.kp b_told_behind g_told_behind
  have G_st := ok_states (P := P) (w := w) (base := base) (k := 2) F_states_without_more TG TN (G_told 2) F_told_behind.kp b_told_behind g_told_behind
  have G_new := ok_new_steps (P := P) (w := w) (base := base) (k := 3) F_new_steps TG TN TB TA G_step F_step_by.kp b_step_by g_step_by G_st F_states_without_more.kp b_states_without_more g_states_without_more
  have G_row := ok_row_to (P := P) (w := w) (base := base) (k := 4) F_row_to TB
  have G_lf := ok_letters_for (P := P) (w := w) (base := base) (k := 4) F_letters_for TN TB (G_told 4) F_told_behind.kp b_told_behind g_told_behind G_row F_row_to.kp b_row_to g_row_to G_new F_new_steps.kp b_new_steps g_new_steps
  have G_ref := ok_refusal (P := P) (w := w) (base := base) (k := 3) F_letters_refusal TS TL TB (G_all 3) F_all_letters.kp b_all_letters
  have G_refs := ok_refusal_s (P := P) (w := w) (base := base) (k := 3) F_sounds_refusal TS TB (G_chars 3) F_all_characters.kp b_all_characters g_all_characters
  have G_ch := ok_ses_change (P := P) (w := w) (base := base) (k := 5) F_Session_change_table TS
  have G_begin := ok_ses_begin (P := P) (w := w) (base := base) (C := cRule) (CN := cBeginning) (CS := cSpelling) (k := 5) F_Session_begin TS G_ch b_Session_change_table
  have G_read := ok_ses_read (P := P) (w := w) (base := base) (CN := cBeginning) (CS := cSpelling) (k := 5) F_Session_read TS TB DI.sc G_fill F_fill_table.kp b_fill_table g_fill_table G_ch b_Session_change_table
  have G_write := ok_ses_write (P := P) (w := w) (base := base) (CN := cBeginning) (CS := cSpelling) (k := 5) F_Session_write TS TB G_w F_written.kp b_written g_written
  have G_spell := ok_ses_spell (P := P) (w := w) (base := base) (CN := cBeginning) (CS := cSpelling) (k := 5) F_Session_spell TS TB G_ref F_letters_refusal.kp b_letters_refusal g_letters_refusal (G_sp 3) F_spelled.kp b_spelled g_spelled
  have G_sure := ok_ses_sure (P := P) (w := w) (base := base) (CN := cBeginning) (k := 5) F_Session_sure TS TB TG G_ref F_letters_refusal.kp b_letters_refusal g_letters_refusal (G_bg 5) F_beginnings.kp b_beginnings g_beginnings (G_sf 2) F_spelled_so_far.kp b_spelled_so_far g_spelled_so_far
  have G_open := ok_ses_open (P := P) (w := w) (base := base) (CN := cBeginning) (k := 5) F_Session_left_open TS TB TG G_ref F_letters_refusal.kp b_letters_refusal g_letters_refusal (G_bg 5) F_beginnings.kp b_beginnings g_beginnings (G_sf 2) F_spelled_so_far.kp b_spelled_so_far g_spelled_so_far
  have G_tr := ok_ses_tree (P := P) (w := w) (base := base) (k := 4) F_Session_tree_of_table TS DI G_tree F_tree_of.kp b_tree_of g_tree_of
  have G_tf := ok_ses_told (P := P) (w := w) (base := base) (C := cRule) (k := 5) F_Session_told_for TS TB G_refs F_sounds_refusal.kp b_sounds_refusal g_sounds_refusal G_tr b_Session_tree_of_table G_lf F_letters_for.kp b_letters_for g_letters_for
  have GO := ok_answer_of (P := P) (w := w) (base := base) (k := 6) F_answer_of TS TM G_begin b_Session_begin G_read b_Session_read G_write b_Session_write G_spell b_Session_spell G_sure b_Session_sure G_open b_Session_left_open G_tf b_Session_told_for
  exact ok_answers (k := 6) F_answers TS TW TB DI ⟨mkSession, am6, im6, kcSession⟩ F_Session_init b_Session_init GO F_answer_of.kp b_answer_of g_answer_of

end SpA
open PySem PySem.W PyProof.Rows
set_option maxRecDepth 100000 in
set_option maxHeartbeats 8000000 in
theorem PySem.Challenge.cw_soundspelling_s01_answers_holds : PySem.Challenge.rw_soundspelling_s01_answers.Holds := by
  w_on; k_headS; (case hw => exact ⟨[.list []], by decide +kernel, by decide +kernel⟩)
  k_fillS
  refine L2.walk_specK (r := PySem.Challenge.rw_soundspelling_s01_answers) (k := 9) (CX := L2.CX0) (ps := ["calls"]) (sp := SpA.spAnswers) (by decide +kernel) rfl rfl ⟨rfl, by decide, by decide⟩ (fun w h Y => PySem.W.kIn_of Y) ?F ?S (fun _ _ _ _ z => z)
  case F =>
    intro w mg fa h Y KX G hmg
    refine' SpA.all_mk KX G hmg ?hcRule ?hcSpelling ?hcBeginning ?hcSession ?af0 ?lf0 ?cf0 ?kf0 ?af1 ?lf1 ?cf1 ?kf1 ?af2 ?lf2 ?cf2 ?kf2 ?af3 ?lf3 ?cf3 ?kf3 ?af4 ?lf4 ?cf4 ?kf4 ?af5 ?lf5 ?cf5 ?kf5 ?af6 ?lf6 ?cf6 ?kf6 ?af7 ?lf7 ?cf7 ?kf7 ?af8 ?lf8 ?cf8 ?kf8 ?af9 ?lf9 ?cf9 ?kf9 ?af10 ?lf10 ?cf10 ?kf10 ?af11 ?lf11 ?cf11 ?kf11 ?af12 ?lf12 ?cf12 ?kf12 ?af13 ?lf13 ?cf13 ?kf13 ?af14 ?lf14 ?cf14 ?kf14 ?af15 ?lf15 ?cf15 ?kf15 ?af16 ?lf16 ?cf16 ?kf16 ?af17 ?lf17 ?cf17 ?kf17 ?af18 ?lf18 ?cf18 ?kf18 ?af19 ?lf19 ?cf19 ?kf19 ?af20 ?lf20 ?cf20 ?kf20 ?af21 ?lf21 ?cf21 ?kf21 ?af22 ?lf22 ?cf22 ?kf22 ?af23 ?lf23 ?cf23 ?kf23 ?af24 ?lf24 ?cf24 ?kf24 ?af25 ?lf25 ?cf25 ?kf25 ?af26 ?lf26 ?cf26 ?kf26 ?af27 ?lf27 ?cf27 ?kf27 ?af28 ?lf28 ?cf28 ?kf28 ?af29 ?lf29 ?cf29 ?kf29 ?af30 ?lf30 ?cf30 ?kf30 ?af31 ?lf31 ?cf31 ?kf31 ?af32 ?lf32 ?cf32 ?kf32 ?af33 ?lf33 ?cf33 ?kf33 ?am0 ?im0 ?lm0 ?cm0 ?km0 ?am1 ?im1 ?lm1 ?cm1 ?km1 ?am2 ?im2 ?lm2 ?cm2 ?km2 ?am3 ?im3 ?lm3 ?cm3 ?km3 ?am4 ?im4 ?lm4 ?cm4 ?km4 ?am5 ?im5 ?lm5 ?cm5 ?km5 ?am6 ?im6 ?lm6 ?cm6 ?km6 ?am7 ?im7 ?lm7 ?cm7 ?km7 ?am8 ?im8 ?lm8 ?cm8 ?km8 ?am9 ?im9 ?lm9 ?cm9 ?km9 ?am10 ?im10 ?lm10 ?cm10 ?km10 ?am11 ?im11 ?lm11 ?cm11 ?km11 ?am12 ?im12 ?lm12 ?cm12 ?km12 ?am13 ?im13 ?lm13 ?cm13 ?km13 ?am14 ?im14 ?lm14 ?cm14 ?km14 ?am15 ?im15 ?lm15 ?cm15 ?km15 ?pgRule ?hdRule ?poRule ?saRule ?mkRule ?kcRule ?nRule_letters ?nRule_sounds ?nRule_back ?nRule_begin ?nRule_take ?pgSpelling ?hdSpelling ?poSpelling ?saSpelling ?mkSpelling ?kcSpelling ?nSpelling_sounds ?nSpelling_left ?nSpelling_begin ?pgBeginning ?hdBeginning ?poBeginning ?saBeginning ?mkBeginning ?kcBeginning ?nBeginning_ended ?nBeginning_given_up ?nBeginning_ways ?nBeginning_begin ?pgSession ?hdSession ?poSession ?saSession ?mkSession ?kcSession ?nSession_table ?nSession_tree ?v0 ?v1 ?v2 ?v3 ?v4 ?v5 ?v6 ?v7 ?v8 ?v9 ?v10 ?v11 ?v12 ?v13 ?v14 ?v15 ?v16 ?v17 ?v18 ?v19 ?v20 ?v21 ?v22 ?v23 ?v24 ?v25 ?v26 ?v27 ?v28 ?v29 ?v30 ?v31 ?v32 ?z_all ?z_len ?z_list ?z_tuple ?z_range ?z_enumerate ?z_reversed ?z_sorted ?z_any ?gT0 ?t0 ?gT1 ?t1 ?x0 ?x1 ?x2 ?x3
    (case hcRule => k_is)
    (case hcSpelling => k_is)
    (case hcBeginning => k_is)
    (case hcSession => k_is)
    (case af0 => k_is)
    (case lf0 => k_is)
    (case cf0 => k_is)
    (case kf0 => k_is)
    (case af1 => k_is)
    (case lf1 => k_is)
    (case cf1 => k_is)
    (case kf1 => k_is)
    (case af2 => k_is)
    (case lf2 => k_is)
    (case cf2 => k_is)
    (case kf2 => k_is)
    (case af3 => k_is)
    (case lf3 => k_is)
    (case cf3 => k_is)
    (case kf3 => k_is)
    (case af4 => k_is)
    (case lf4 => k_is)
    (case cf4 => k_is)
    (case kf4 => k_is)
    (case af5 => k_is)
    (case lf5 => k_is)
    (case cf5 => k_is)
    (case kf5 => k_is)
    (case af6 => k_is)
    (case lf6 => k_is)
    (case cf6 => k_is)
    (case kf6 => k_is)
    (case af7 => k_is)
    (case lf7 => k_is)
    (case cf7 => k_is)
    (case kf7 => k_is)
    (case af8 => k_is)
    (case lf8 => k_is)
    (case cf8 => k_is)
    (case kf8 => k_is)
    (case af9 => k_is)
    (case lf9 => k_is)
    (case cf9 => k_is)
    (case kf9 => k_is)
    (case af10 => k_is)
    (case lf10 => k_is)
    (case cf10 => k_is)
    (case kf10 => k_is)
    (case af11 => k_is)
    (case lf11 => k_is)
    (case cf11 => k_is)
    (case kf11 => k_is)
    (case af12 => k_is)
    (case lf12 => k_is)
    (case cf12 => k_is)
    (case kf12 => k_is)
    (case af13 => k_is)
    (case lf13 => k_is)
    (case cf13 => k_is)
    (case kf13 => k_is)
    (case af14 => k_is)
    (case lf14 => k_is)
    (case cf14 => k_is)
    (case kf14 => k_is)
    (case af15 => k_is)
    (case lf15 => k_is)
    (case cf15 => k_is)
    (case kf15 => k_is)
    (case af16 => k_is)
    (case lf16 => k_is)
    (case cf16 => k_is)
    (case kf16 => k_is)
    (case af17 => k_is)
    (case lf17 => k_is)
    (case cf17 => k_is)
    (case kf17 => k_is)
    (case af18 => k_is)
    (case lf18 => k_is)
    (case cf18 => k_is)
    (case kf18 => k_is)
    (case af19 => k_is)
    (case lf19 => k_is)
    (case cf19 => k_is)
    (case kf19 => k_is)
    (case af20 => k_is)
    (case lf20 => k_is)
    (case cf20 => k_is)
    (case kf20 => k_is)
    (case af21 => k_is)
    (case lf21 => k_is)
    (case cf21 => k_is)
    (case kf21 => k_is)
    (case af22 => k_is)
    (case lf22 => k_is)
    (case cf22 => k_is)
    (case kf22 => k_is)
    (case af23 => k_is)
    (case lf23 => k_is)
    (case cf23 => k_is)
    (case kf23 => k_is)
    (case af24 => k_is)
    (case lf24 => k_is)
    (case cf24 => k_is)
    (case kf24 => k_is)
    (case af25 => k_is)
    (case lf25 => k_is)
    (case cf25 => k_is)
    (case kf25 => k_is)
    (case af26 => k_is)
    (case lf26 => k_is)
    (case cf26 => k_is)
    (case kf26 => k_is)
    (case af27 => k_is)
    (case lf27 => k_is)
    (case cf27 => k_is)
    (case kf27 => k_is)
    (case af28 => k_is)
    (case lf28 => k_is)
    (case cf28 => k_is)
    (case kf28 => k_is)
    (case af29 => k_is)
    (case lf29 => k_is)
    (case cf29 => k_is)
    (case kf29 => k_is)
    (case af30 => k_is)
    (case lf30 => k_is)
    (case cf30 => k_is)
    (case kf30 => k_is)
    (case af31 => k_is)
    (case lf31 => k_is)
    (case cf31 => k_is)
    (case kf31 => k_is)
    (case af32 => k_is)
    (case lf32 => k_is)
    (case cf32 => k_is)
    (case kf32 => k_is)
    (case af33 => k_is)
    (case lf33 => k_is)
    (case cf33 => k_is)
    (case kf33 => k_is)
    (case am0 => k_is)
    (case im0 => k_is)
    (case lm0 => k_is)
    (case cm0 => k_is)
    (case km0 => k_is)
    (case am1 => k_is)
    (case im1 => k_is)
    (case lm1 => k_is)
    (case cm1 => k_is)
    (case km1 => k_is)
    (case am2 => k_is)
    (case im2 => k_is)
    (case lm2 => k_is)
    (case cm2 => k_is)
    (case km2 => k_is)
    (case am3 => k_is)
    (case im3 => k_is)
    (case lm3 => k_is)
    (case cm3 => k_is)
    (case km3 => k_is)
    (case am4 => k_is)
    (case im4 => k_is)
    (case lm4 => k_is)
    (case cm4 => k_is)
    (case km4 => k_is)
    (case am5 => k_is)
    (case im5 => k_is)
    (case lm5 => k_is)
    (case cm5 => k_is)
    (case km5 => k_is)
    (case am6 => k_is)
    (case im6 => k_is)
    (case lm6 => k_is)
    (case cm6 => k_is)
    (case km6 => k_is)
    (case am7 => k_is)
    (case im7 => k_is)
    (case lm7 => k_is)
    (case cm7 => k_is)
    (case km7 => k_is)
    (case am8 => k_is)
    (case im8 => k_is)
    (case lm8 => k_is)
    (case cm8 => k_is)
    (case km8 => k_is)
    (case am9 => k_is)
    (case im9 => k_is)
    (case lm9 => k_is)
    (case cm9 => k_is)
    (case km9 => k_is)
    (case am10 => k_is)
    (case im10 => k_is)
    (case lm10 => k_is)
    (case cm10 => k_is)
    (case km10 => k_is)
    (case am11 => k_is)
    (case im11 => k_is)
    (case lm11 => k_is)
    (case cm11 => k_is)
    (case km11 => k_is)
    (case am12 => k_is)
    (case im12 => k_is)
    (case lm12 => k_is)
    (case cm12 => k_is)
    (case km12 => k_is)
    (case am13 => k_is)
    (case im13 => k_is)
    (case lm13 => k_is)
    (case cm13 => k_is)
    (case km13 => k_is)
    (case am14 => k_is)
    (case im14 => k_is)
    (case lm14 => k_is)
    (case cm14 => k_is)
    (case km14 => k_is)
    (case am15 => k_is)
    (case im15 => k_is)
    (case lm15 => k_is)
    (case cm15 => k_is)
    (case km15 => k_is)
    (case pgRule => k_is)
    (case hdRule => k_is)
    (case poRule => k_is)
    (case saRule => k_is)
    (case mkRule => k_is)
    (case kcRule => k_is)
    (case nRule_letters => k_is)
    (case nRule_sounds => k_is)
    (case nRule_back => k_is)
    (case nRule_begin => k_is)
    (case nRule_take => k_is)
    (case pgSpelling => k_is)
    (case hdSpelling => k_is)
    (case poSpelling => k_is)
    (case saSpelling => k_is)
    (case mkSpelling => k_is)
    (case kcSpelling => k_is)
    (case nSpelling_sounds => k_is)
    (case nSpelling_left => k_is)
    (case nSpelling_begin => k_is)
    (case pgBeginning => k_is)
    (case hdBeginning => k_is)
    (case poBeginning => k_is)
    (case saBeginning => k_is)
    (case mkBeginning => k_is)
    (case kcBeginning => k_is)
    (case nBeginning_ended => k_is)
    (case nBeginning_given_up => k_is)
    (case nBeginning_ways => k_is)
    (case nBeginning_begin => k_is)
    (case pgSession => k_is)
    (case hdSession => k_is)
    (case poSession => k_is)
    (case saSession => k_is)
    (case mkSession => k_is)
    (case kcSession => k_is)
    (case nSession_table => k_is)
    (case nSession_tree => k_is)
    (case v0 => k_is)
    (case v1 => k_is)
    (case v2 => k_is)
    (case v3 => k_is)
    (case v4 => k_is)
    (case v5 => k_is)
    (case v6 => k_is)
    (case v7 => k_is)
    (case v8 => k_is)
    (case v9 => k_is)
    (case v10 => k_is)
    (case v11 => k_is)
    (case v12 => k_is)
    (case v13 => k_is)
    (case v14 => k_is)
    (case v15 => k_is)
    (case v16 => k_is)
    (case v17 => k_is)
    (case v18 => k_is)
    (case v19 => k_is)
    (case v20 => k_is)
    (case v21 => k_is)
    (case v22 => k_is)
    (case v23 => k_is)
    (case v24 => k_is)
    (case v25 => k_is)
    (case v26 => k_is)
    (case v27 => k_is)
    (case v28 => k_is)
    (case v29 => k_is)
    (case v30 => k_is)
    (case v31 => k_is)
    (case v32 => k_is)
    (case z_all => k_is)
    (case z_len => k_is)
    (case z_list => k_is)
    (case z_tuple => k_is)
    (case z_range => k_is)
    (case z_enumerate => k_is)
    (case z_reversed => k_is)
    (case z_sorted => k_is)
    (case z_any => k_is)
    (case gT0 => k_is)
    (case t0 => k_is)
    (case gT1 => k_is)
    (case t1 => k_is)
    (case x0 => k_is)
    (case x1 => k_is)
    (case x2 => k_is)
    (case x3 => k_is)
  case S =>
    intro K H xs a hO hwi hask hx
    cases hx with
    | cons h1 h2 =>
      cases h2
      cases h1 with
      | lst hs ha =>
        have e := L2.ints_dw a.1 _ ha
        subst e
        have q : ((Codec.inLen 0 45000 a.1 && a.1.all (Codec.inInt 0 2097151)) && true) = true := hwi
        rw [Bool.and_eq_true, Bool.and_eq_true] at q
        exact SpA.spAnswers_of hs (Codec.inNat_iff.mp q.1.1).2 q.1.2 hask fun H' p hp => .lst (L2.SqL.of hp) (L2.dw_ints _)
#print axioms PySem.Challenge.cw_soundspelling_s01_answers_holds
