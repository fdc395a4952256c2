/-
  The document's own reader (package stackmapref) as plain functions on lists of bytes, by places (no Go in sight); and that it reads what the program's reader reads.
-/
import Derived.Test.YteffpdofcgbokaaGreatPlain
namespace Go.Proofs.YteffpdofcgbokaaGreat.Rf
open Go.Proofs.YteffpdofcgbokaaGreat (Rd.St Rd.nx Rd.cn Rd.ex Rd.ty Rd.tys Rd.cls Rd.codes Rd.hnd Rd.hnds Rd.mp Rd.mps Rd.mth Rd.fil)

def at' (s : List UInt8) (i : Int) : Int := if i < 0 then -1 else if (s.length : Int) ≤ i then -1 else ((s[i.toNat]?.getD 0).toNat : Int)
def cnt (s : List UInt8) (i least most : Int) : Int := if at' s i < least then -1 else if most < at' s i then -1 else at' s i

/-- a thing read n times, each from the place behind the one before; a place below 0 says that there is none -/
def rep {α : Type} (f : Int → α × Int) : Nat → Int → List α × Int
  | 0, i => ([], i)
  | k + 1, i => if (rep f k i).2 < 0 then ([], -1) else if (f (rep f k i).2).2 < 0 then ([], -1) else ((rep f k i).1 ++ [(f (rep f k i).2).1], (f (rep f k i).2).2)

def ty (s : List UInt8) (i : Int) : (Int × Int) × Int := ((at' s i, at' s (i + 1)), i + 2)
def tys (s : List UInt8) (i : Int) : Nat → List (Int × Int)
  | 0 => []
  | k + 1 => tys s i k ++ [(at' s (i + 2 * (k : Int)), at' s (i + 2 * (k : Int) + 1))]

def cls (s : List UInt8) (i : Int) : Rd.Cls × Int :=
  if cnt s (i + 1) 0 4 < 0 then (⟨0, []⟩, -1) else (⟨at' s i, tys s (i + 2) (cnt s (i + 1) 0 4).toNat⟩, i + 2 + 2 * cnt s (i + 1) 0 4)

def hndAt (s : List UInt8) (i : Int) : Rd.Hnd := ⟨at' s i, at' s (i + 1), at' s (i + 2), at' s (i + 3)⟩
def hndTo (s : List UInt8) (i : Int) : Nat → List Rd.Hnd
  | 0 => []
  | k + 1 => hndTo s i k ++ [hndAt s (i + 1 + 4 * (k : Int))]
def hnds (s : List UInt8) (i : Int) : List Rd.Hnd × Int :=
  if cnt s i 0 4 < 0 then ([], -1) else if (s.length : Int) < i + 1 + 4 * cnt s i 0 4 then ([], -1) else (hndTo s i (cnt s i 0 4).toNat, i + 1 + 4 * cnt s i 0 4)

def mp (s : List UInt8) (L H i : Int) : Rd.Mp × Int :=
  if cnt s (i + 1 + 2 * L) 0 H < 0 then (⟨0, [], []⟩, -1)
  else (⟨at' s i, tys s (i + 1) L.toNat, tys s (i + 2 + 2 * L) (cnt s (i + 1 + 2 * L) 0 H).toNat⟩, i + 2 + 2 * L + 2 * cnt s (i + 1 + 2 * L) 0 H)
def mps (s : List UInt8) (i L H : Int) : List Rd.Mp × Int :=
  if cnt s i 0 64 < 0 then ([], -1) else rep (mp s L H) (cnt s i 0 64).toNat (i + 1)

def codeTo (s : List UInt8) (i : Int) : Nat → List Int
  | 0 => []
  | k + 1 => codeTo s i k ++ [at' s (i + (k : Int))]

/-- a method; where its maps' count stands, and the place behind its maps -/
structure Mth where
  m : Rd.Mth
  mapsAt : Int
  fin : Int

def mth (s : List UInt8) (i : Int) : Mth × Int :=
  let p := cnt s (i + 2) 0 4
  if p < 0 then (⟨⟨0, 0, [], (0, 0), 0, 0, [], [], []⟩, 0, 0⟩, -1)
  else
    let j := i + 3 + 2 * p
    let l := cnt s (j + 2) 0 8
    let h := cnt s (j + 3) 0 8
    let n := cnt s (j + 4) 1 120
    if l < 0 then (⟨⟨0, 0, [], (0, 0), 0, 0, [], [], []⟩, 0, 0⟩, -1)
    else if h < 0 then (⟨⟨0, 0, [], (0, 0), 0, 0, [], [], []⟩, 0, 0⟩, -1)
    else if n < 0 then (⟨⟨0, 0, [], (0, 0), 0, 0, [], [], []⟩, 0, 0⟩, -1)
    else if (s.length : Int) < j + 5 + n then (⟨⟨0, 0, [], (0, 0), 0, 0, [], [], []⟩, 0, 0⟩, -1)
    else
      let hs := hnds s (j + 5 + n)
      if hs.2 < 0 then (⟨⟨0, 0, [], (0, 0), 0, 0, [], [], []⟩, 0, 0⟩, -1)
      else
        let ms := mps s hs.2 l h
        (⟨⟨at' s i, at' s (i + 1), tys s (i + 3) p.toNat, (at' s j, at' s (j + 1)), l, h, codeTo s (j + 5) n.toNat, hs.1, ms.1⟩, hs.2, ms.2⟩, ms.2)

/-- the whole file: its own classes, its methods, and the place behind them (below 0: there is no file) -/
def fil (s : List UInt8) : List Rd.Cls × List Mth × Int :=
  if at' s 0 ≠ 83 then ([], [], -1)
  else if at' s 1 ≠ 77 then ([], [], -1)
  else if cnt s 2 0 6 < 0 then ([], [], -1)
  else
    let cs := rep (cls s) (cnt s 2 0 6).toNat 3
    if cs.2 < 0 then ([], [], -1)
    else if cnt s cs.2 1 6 < 0 then ([], [], -1)
    else
      let ms := rep (mth s) (cnt s cs.2 1 6).toNat (cs.2 + 1)
      if ms.2 < 0 then ([], [], -1) else (cs.1, ms.1, ms.2)

/-! ### the two readers read the same -/

/-- the program's reader and the document's are at one place with one thing; or the one is bad, and the other has nothing or is past the end -/
def Lnk {α β : Type} (g : β → α) (n : Nat) (r : α × Rd.St) (x : β × Int) : Prop :=
  (0 ≤ x.2 ∧ x.2 ≤ (n : Int) ∧ r.1 = g x.1 ∧ r.2 = ⟨x.2.toNat, false⟩) ∨ ((x.2 < 0 ∨ (n : Int) < x.2) ∧ r.2.bad = true)

theorem at_in {s : List UInt8} {i : Int} (h0 : 0 ≤ i) (h1 : i < (s.length : Int)) : Rd.nx s ⟨i.toNat, false⟩ = (at' s i, ⟨(i + 1).toNat, false⟩) := by
  unfold Rd.nx at'
  rw [if_neg (by simp), if_neg (by simp only; omega), if_neg (by omega), if_neg (by omega)]
  rw [show (i + 1).toNat = i.toNat + 1 by omega]
theorem at_out {s : List UInt8} {i : Int} (h1 : (s.length : Int) ≤ i) : at' s i = -1 := by
  unfold at'
  split
  · rfl
  · rfl
theorem nx_out {s : List UInt8} {i : Int} (h1 : (s.length : Int) ≤ i) : Rd.nx s ⟨i.toNat, false⟩ = (0, ⟨i.toNat, true⟩) := by
  unfold Rd.nx
  rw [if_neg (by simp), if_pos (by simp only; omega)]
theorem at_bd (s : List UInt8) (i : Int) : -1 ≤ at' s i ∧ at' s i ≤ 255 := by
  unfold at'
  split
  · omega
  · split
    · omega
    · have := (s[i.toNat]?.getD 0).toNat_lt
      omega
theorem cnt_bd (s : List UInt8) (i a b : Int) (hb : -1 ≤ b) : -1 ≤ cnt s i a b ∧ cnt s i a b ≤ b := by
  have := at_bd s i
  unfold cnt
  split
  · omega
  · split <;> omega
theorem cnt_out {s : List UInt8} {i a b : Int} (h : (s.length : Int) ≤ i) (ha : 0 ≤ a) : cnt s i a b = -1 := by
  unfold cnt
  rw [at_out h, if_pos (by omega)]

theorem nx_bad (s : List UInt8) (p : Nat) : (Rd.nx s ⟨p, true⟩).2.bad = true := by simp [Rd.nx]
theorem bad_mk (t : Rd.St) (h : t.bad = true) : ∃ p, t = ⟨p, true⟩ := ⟨t.pos, by cases t; simp_all⟩

theorem nx_lnk {s : List UInt8} {i : Int} (h0 : 0 ≤ i) (h1 : i ≤ (s.length : Int)) : Lnk id s.length (Rd.nx s ⟨i.toNat, false⟩) (at' s i, i + 1) := by
  by_cases h : i < (s.length : Int)
  · left
    rw [at_in h0 h]
    exact ⟨by simp only; omega, by simp only; omega, rfl, rfl⟩
  · right
    rw [nx_out (by omega)]
    exact ⟨.inr (by simp only; omega), rfl⟩

/-- a count: the same number and one place on; or bad, and none -/
theorem cn_lnk {s : List UInt8} {i a b : Int} (h0 : 0 ≤ i) (h1 : i ≤ (s.length : Int)) (ha : 0 ≤ a) :
    (0 ≤ cnt s i a b ∧ i < (s.length : Int) ∧ Rd.cn s a b ⟨i.toNat, false⟩ = (cnt s i a b, ⟨(i + 1).toNat, false⟩)) ∨ (cnt s i a b < 0 ∧ (Rd.cn s a b ⟨i.toNat, false⟩).2.bad = true) := by
  by_cases h : i < (s.length : Int)
  · have hb := at_bd s i
    have ha0 : 0 ≤ at' s i := by unfold at'; rw [if_neg (by omega), if_neg (by omega)]; omega
    unfold Rd.cn cnt
    rw [at_in h0 h]
    by_cases c1 : at' s i < a
    · right; rw [if_pos c1, if_pos c1]; exact ⟨by omega, rfl⟩
    · rw [if_neg c1, if_neg c1]
      by_cases c2 : b < at' s i
      · right; rw [if_pos c2, if_pos c2]; exact ⟨by omega, rfl⟩
      · left; rw [if_neg c2, if_neg c2]; exact ⟨ha0, h, rfl⟩
  · right
    refine ⟨by rw [cnt_out (by omega) ha]; omega, ?_⟩
    unfold Rd.cn
    rw [nx_out (by omega)]
    split
    · rfl
    · split <;> rfl
theorem cn_bad (s : List UInt8) (a b : Int) (p : Nat) : (Rd.cn s a b ⟨p, true⟩).2.bad = true := by
  unfold Rd.cn
  split
  · rfl
  · split
    · rfl
    · exact nx_bad s p

/-- things read one behind the other -/
theorem rep_lnk {α β : Type} {g : β → α} {n : Nat} {f : Rd.St → α × Rd.St} {F : Int → β × Int} (H1 : ∀ i : Int, 0 ≤ i → i ≤ (n : Int) → Lnk g n (f ⟨i.toNat, false⟩) (F i))
    (H2 : ∀ p, (f ⟨p, true⟩).2.bad = true) (H3 : ∀ i : Int, (n : Int) < i → (F i).2 < 0 ∨ (n : Int) < (F i).2) (k : Nat) (i : Int) (h0 : 0 ≤ i) (h1 : i ≤ (n : Int)) :
    Lnk (List.map g) n (Rd.rep f k ⟨i.toNat, false⟩) (rep F k i) := by
  induction k with
  | zero => left; exact ⟨h0, h1, rfl, rfl⟩
  | succ k ih =>
    unfold Rd.rep rep
    rcases ih with ⟨a0, a1, a2, a3⟩ | ⟨b0, b1⟩
    · rw [if_neg (by omega), a2, a3]
      rcases H1 _ a0 a1 with ⟨c0, c1, c2, c3⟩ | ⟨d0, d1⟩
      · left
        rw [if_neg (by omega)]
        exact ⟨c0, c1, by simp [c2], c3⟩
      · right
        refine ⟨?_, d1⟩
        split
        · left; simp
        · exact d0
    · right
      refine ⟨?_, ?_⟩
      · split
        · left; simp
        · split
          · left; simp
          · rcases b0 with b0 | b0
            · omega
            · rcases H3 _ b0 with e | e
              · omega
              · right; exact e
      · obtain ⟨p, hp⟩ := bad_mk _ b1
        rw [hp]
        exact H2 p

theorem rep_bad {α : Type} {f : Rd.St → α × Rd.St} (H2 : ∀ p, (f ⟨p, true⟩).2.bad = true) (k : Nat) (p : Nat) : (Rd.rep f k ⟨p, true⟩).2.bad = true := by
  induction k with
  | zero => rfl
  | succ k ih =>
    unfold Rd.rep
    obtain ⟨q, hq⟩ := bad_mk _ ih
    simp only
    rw [hq]
    exact H2 q
end Go.Proofs.YteffpdofcgbokaaGreat.Rf
