/-
  What reading a tower gives (no Go in sight): its classes, no error, and the tree of its classes.
-/
import Derived.Test.YtpgklckplchhgaaKeep2
namespace Go.Proofs.Ytpgklckplchhgaa

theorem nx_at {s : List UInt8} {p : Nat} {x : UInt8} (h : s[p]? = some x) : Rd.nx s ⟨p, false⟩ = ((x.toNat : Int), ⟨p + 1, false⟩) := by
  have hp : p < s.length := (List.getElem?_eq_some_iff.1 h).1
  unfold Rd.nx
  rw [if_neg (by simp), if_neg (by simp only; omega)]
  simp [h]

theorem cn_at {s : List UInt8} {p : Nat} {x : UInt8} {a b : Int} (h : s[p]? = some x) (h1 : a ≤ (x.toNat : Int)) (h2 : (x.toNat : Int) ≤ b) : Rd.cn s a b ⟨p, false⟩ = ((x.toNat : Int), ⟨p + 1, false⟩) := by
  unfold Rd.cn
  rw [nx_at h]
  rw [if_neg (by simp only; omega), if_neg (by simp only; omega)]

theorem ex_at {s : List UInt8} {p : Nat} {x : UInt8} (h : s[p]? = some x) : Rd.ex s (x.toNat : Int) ⟨p, false⟩ = ⟨p + 1, false⟩ := by
  unfold Rd.ex
  rw [nx_at h]
  rw [if_pos rfl]

theorem cls_at {s : List UInt8} {p : Nat} {x : UInt8} (h : s[p]? = some x) (h1 : s[p + 1]? = some 0) : Rd.cls s ⟨p, false⟩ = (⟨(x.toNat : Int), []⟩, ⟨p + 2, false⟩) := by
  unfold Rd.cls
  simp only [nx_at h, cn_at (a := 0) (b := 4) h1 (by decide) (by decide)]
  rfl

theorem rep_cls {s : List UInt8} {p : Nat} (u : Nat → UInt8) (n : Nat) (h : ∀ i, i < n → s[p + 2 * i]? = some (u i) ∧ s[p + 2 * i + 1]? = some 0) :
    Rd.rep (Rd.cls s) n ⟨p, false⟩ = ((List.range n).map fun i => (⟨((u i).toNat : Int), []⟩ : Rd.Cls), ⟨p + 2 * n, false⟩) := by
  induction n with
  | zero => simp [Rd.rep]
  | succ k ih =>
    have hk := ih (fun i hi => h i (by omega))
    unfold Rd.rep
    rw [hk]
    simp only [cls_at (h k (by omega)).1 (h k (by omega)).2]
    rw [List.range_succ, List.map_append]
    rfl

theorem ty_at {s : List UInt8} {p : Nat} {x y : UInt8} (h : s[p]? = some x) (h1 : s[p + 1]? = some y) : Rd.ty s ⟨p, false⟩ = (((x.toNat : Int), (y.toNat : Int)), ⟨p + 2, false⟩) := by
  unfold Rd.ty
  simp only [nx_at h, nx_at h1]

/-- the one method of a tower -/
theorem mth_at {s : List UInt8} {p : Nat} (h0 : s[p]? = some 255) (h1 : s[p + 1]? = some 0) (h2 : s[p + 2]? = some 0) (h3 : s[p + 3]? = some 0) (h4 : s[p + 4]? = some 0) (h5 : s[p + 5]? = some 0) (h6 : s[p + 6]? = some 0)
    (h7 : s[p + 7]? = some 1) (h8 : s[p + 8]? = some 22) (h9 : s[p + 9]? = some 0) (h10 : s[p + 10]? = some 0) : (Rd.mth s ⟨p, false⟩).2 = ⟨p + 11, false⟩ := by
  have c2 := cn_at (a := 0) (b := 4) h2 (by decide) (by decide)
  have c5 := cn_at (a := 0) (b := 8) h5 (by decide) (by decide)
  have c6 := cn_at (a := 0) (b := 8) h6 (by decide) (by decide)
  have c7 := cn_at (a := 1) (b := 120) h7 (by decide) (by decide)
  have c9 := cn_at (a := 0) (b := 4) h9 (by decide) (by decide)
  have c10 := cn_at (a := 0) (b := 64) h10 (by decide) (by decide)
  have t3 := ty_at h3 h4
  have n8 := nx_at h8
  have e0 : ((0 : UInt8).toNat : Int) = 0 := rfl
  have e1 : ((1 : UInt8).toNat : Int) = 1 := rfl
  rw [e0] at c2 c5 c6 c9 c10
  rw [e1] at c7
  have codes : (Rd.codes s ⟨p + 7, false⟩).2 = ⟨p + 9, false⟩ := by
    unfold Rd.codes
    simp only [c7]
    show (Rd.rep (Rd.nx s) 1 ⟨p + 7 + 1, false⟩).2 = _
    simp only [Rd.rep, n8]
  have hnds : (Rd.hnds s ⟨p + 9, false⟩).2 = ⟨p + 10, false⟩ := by
    unfold Rd.hnds
    simp only [c9]
    rfl
  have mps : ∀ a b, (Rd.mps s a b ⟨p + 10, false⟩).2 = ⟨p + 11, false⟩ := by
    intro a b
    unfold Rd.mps
    simp only [c10]
    rfl
  have tz : Rd.tys s (0 : Int).toNat ⟨p + 2 + 1, false⟩ = ([], ⟨p + 3, false⟩) := rfl
  unfold Rd.mth
  simp only [nx_at h0, nx_at h1, c2, tz, t3, c5, c6, codes, hnds, mps]

theorem tw_at (zs : Nat → Int) (n i : Nat) (h : i < n) : (Kp1.tw zs n)[2 * i]? = some (Kp1.pk (zs i) (7 + (i : Int))).toNat.toUInt8 ∧ (Kp1.tw zs n)[2 * i + 1]? = some 0 := by
  induction n with
  | zero => omega
  | succ k ih =>
    unfold Kp1.tw
    by_cases hk : i < k
    · obtain ⟨a, b⟩ := ih hk
      have hl := tw_len zs k
      rw [List.getElem?_append_left (by omega), List.getElem?_append_left (by omega)]
      exact ⟨a, b⟩
    · obtain rfl : i = k := by omega
      have hl := tw_len zs i
      rw [List.getElem?_append_right (by omega), List.getElem?_append_right (by omega), hl]
      rw [show 2 * i - 2 * i = 0 by omega, show 2 * i + 1 - 2 * i = 1 by omega]
      exact ⟨rfl, rfl⟩

/-- the classes of a tower -/
def Kp1.towerC (zs : Nat → Int) (n : Nat) : List Rd.Cls := (List.range n).map fun i => ⟨Kp1.pk (zs i) (7 + (i : Int)), []⟩

theorem pk_byte (z : Int) (i : Nat) (h : i < 100) : (((Kp1.pk z (7 + (i : Int))).toNat.toUInt8).toNat : Int) = Kp1.pk z (7 + (i : Int)) := by
  have hb := pk_bd z (7 + (i : Int)) (by omega)
  have : ((Kp1.pk z (7 + (i : Int))).toNat.toUInt8).toNat = (Kp1.pk z (7 + (i : Int))).toNat % 256 := rfl
  omega

theorem read_tower (zs : Nat → Int) (n : Nat) (hn : n ≤ 6) : (Rd.read (Kp1.towerL zs n)).2 = 0 ∧ (Rd.read (Kp1.towerL zs n)).1.classes = Kp1.towerC zs n := by
  have hl := tw_len zs n
  generalize hs : Kp1.towerL zs n = s
  have hlen : s.length = 2 * n + 15 := by rw [← hs]; simp [Kp1.towerL, hl]
  have s0 : s[0]? = some 83 := by rw [← hs]; rfl
  have s1 : s[1]? = some 77 := by rw [← hs]; rfl
  have s2 : s[2]? = some n.toUInt8 := by rw [← hs]; rfl
  have hmid : ∀ j, j < 2 * n → s[3 + j]? = (Kp1.tw zs n)[j]? := by
    intro j hj
    rw [← hs]
    unfold Kp1.towerL
    rw [List.append_assoc, List.getElem?_append_right (by simp), List.getElem?_append_left (by simp; omega)]
    congr 1
    simp
  have htail : ∀ j, s[3 + 2 * n + j]? = [1, 255, 0, 0, 0, 0, 0, 0, 1, 22, 0, (0 : UInt8)][j]? := by
    intro j
    rw [← hs]
    unfold Kp1.towerL
    rw [List.getElem?_append_right (by simp [hl]; omega)]
    congr 1
    simp [hl]
    omega
  have n8 : ((n.toUInt8).toNat : Int) = (n : Int) := by
    have : (n.toUInt8).toNat = n % 256 := rfl
    omega
  have x0 := ex_at s0
  have x1 := ex_at s1
  have c2 := cn_at (a := 0) (b := 6) s2 (by omega) (by omega)
  rw [n8] at c2
  have rc := rep_cls (s := s) (p := 3) (fun i => (Kp1.pk (zs i) (7 + (i : Int))).toNat.toUInt8) n (fun i hi => by
    have := tw_at zs n i hi
    rw [hmid _ (by omega), Nat.add_assoc, hmid _ (by omega)]
    exact this)
  have hcls : ((List.range n).map fun i => (⟨(((Kp1.pk (zs i) (7 + (i : Int))).toNat.toUInt8).toNat : Int), []⟩ : Rd.Cls)) = Kp1.towerC zs n := by
    unfold Kp1.towerC
    refine List.map_congr_left fun i hi => ?_
    rw [pk_byte _ _ (by have := List.mem_range.1 hi; omega)]
  rw [hcls] at rc
  have c3 := cn_at (s := s) (p := 3 + 2 * n) (x := 1) (a := 1) (b := 6) (htail 0) (by decide) (by decide)
  have m := mth_at (s := s) (p := 3 + 2 * n + 1) (by rw [Nat.add_assoc]; exact htail 1) (by rw [Nat.add_assoc, Nat.add_assoc]; exact htail 2) (by rw [Nat.add_assoc, Nat.add_assoc]; exact htail 3) (by rw [Nat.add_assoc, Nat.add_assoc]; exact htail 4)
    (by rw [Nat.add_assoc, Nat.add_assoc]; exact htail 5) (by rw [Nat.add_assoc, Nat.add_assoc]; exact htail 6) (by rw [Nat.add_assoc, Nat.add_assoc]; exact htail 7) (by rw [Nat.add_assoc, Nat.add_assoc]; exact htail 8)
    (by rw [Nat.add_assoc, Nat.add_assoc]; exact htail 9) (by rw [Nat.add_assoc, Nat.add_assoc]; exact htail 10) (by rw [Nat.add_assoc, Nat.add_assoc]; exact htail 11)
  have hf : (Rd.fil s ⟨0, false⟩).1.classes = Kp1.towerC zs n ∧ (Rd.fil s ⟨0, false⟩).2 = ⟨2 * n + 15, false⟩ := by
    have y0 : Rd.ex s 83 ⟨0, false⟩ = ⟨0 + 1, false⟩ := x0
    have y1 : Rd.ex s 77 ⟨0 + 1, false⟩ = ⟨1 + 1, false⟩ := x1
    have e1 : ((1 : UInt8).toNat : Int) = 1 := rfl
    rw [e1] at c3
    unfold Rd.fil
    simp only [y0, y1, c2, Int.toNat_natCast, rc, c3]
    refine ⟨trivial, ?_⟩
    show (Rd.rep (Rd.mth s) 1 ⟨3 + 2 * n + 1, false⟩).2 = _
    simp only [Rd.rep, m]
    congr 1
    omega
  unfold Rd.read
  rw [if_neg (by omega), if_neg (by rw [hf.2]; simp; omega)]
  exact ⟨rfl, hf.1⟩
end Go.Proofs.Ytpgklckplchhgaa
