/-
  The program's reader and the document's read the same file (no Go in sight).
-/
import Derived.Test.YteffpdofcgbokaaGreatRPlain
namespace Go.Proofs.YteffpdofcgbokaaGreat.Rf

theorem ty_bad (s : List UInt8) (p : Nat) : (Rd.ty s ⟨p, true⟩).2.bad = true := by
  unfold Rd.ty
  obtain ⟨q, hq⟩ := bad_mk _ (nx_bad s p)
  simp only
  rw [hq]
  exact nx_bad s q
theorem ty_lnk {s : List UInt8} {i : Int} (h0 : 0 ≤ i) (h1 : i ≤ (s.length : Int)) : Lnk id s.length (Rd.ty s ⟨i.toNat, false⟩) (ty s i) := by
  unfold Rd.ty ty
  rcases nx_lnk h0 h1 with ⟨_, a1, a2, a3⟩ | ⟨b0, b1⟩
  · simp only at a1 a2 a3
    rw [a2, a3]
    rcases nx_lnk (s := s) (i := i + 1) (by omega) a1 with ⟨_, c1, c2, c3⟩ | ⟨d0, d1⟩
    · simp only at c1 c2 c3
      left
      exact ⟨by simp only; omega, by simp only; omega, by simp only [c2, id_eq], by simp only [c3]; rw [show i + 1 + 1 = i + 2 by omega]⟩
    · simp only at d0
      right
      exact ⟨.inr (by simp only; omega), d1⟩
  · simp only at b0
    obtain ⟨q, hq⟩ := bad_mk _ b1
    right
    refine ⟨.inr (by simp only; omega), ?_⟩
    simp only
    rw [hq]
    exact nx_bad s q

theorem rep_step {α : Type} {f : Int → α × Int} {k : Nat} {i j j' : Int} {l : List α} {x : α} (h : rep f k i = (l, j)) (hj : 0 ≤ j) (hf : f j = (x, j')) (hj' : 0 ≤ j') : rep f (k + 1) i = (l ++ [x], j') := by
  unfold rep
  rw [h]
  show (if j < 0 then ([], -1) else if (f j).2 < 0 then ([], -1) else (l ++ [(f j).1], (f j).2)) = _
  rw [if_neg (by omega), hf]
  exact if_neg (by simp only; omega)
theorem tys_rep (s : List UInt8) (k : Nat) (i : Int) (h0 : 0 ≤ i) : rep (ty s) k i = (tys s i k, i + 2 * (k : Int)) := by
  induction k with
  | zero => simp [rep, tys]
  | succ k ih =>
    rw [rep_step ih (by omega) rfl (by omega)]
    refine Prod.ext rfl ?_
    simp only
    omega
theorem tys_bad (s : List UInt8) (k p : Nat) : (Rd.tys s k ⟨p, true⟩).2.bad = true := rep_bad (ty_bad s) k p
theorem tys_lnk {s : List UInt8} {i : Int} (k : Nat) (h0 : 0 ≤ i) (h1 : i ≤ (s.length : Int)) : Lnk id s.length (Rd.tys s k ⟨i.toNat, false⟩) (tys s i k, i + 2 * (k : Int)) := by
  have h := rep_lnk (g := id) (fun i a b => ty_lnk (s := s) a b) (ty_bad s) (fun i hi => .inr (by simp only [ty]; omega)) k i h0 h1
  rw [tys_rep s k i h0] at h
  unfold Rd.tys
  simpa [Lnk] using h

theorem cls_bad (s : List UInt8) (p : Nat) : (Rd.cls s ⟨p, true⟩).2.bad = true := by
  unfold Rd.cls
  obtain ⟨q, hq⟩ := bad_mk _ (nx_bad s p)
  obtain ⟨q2, hq2⟩ := bad_mk _ (cn_bad s 0 4 q)
  simp only
  rw [hq, hq2]
  exact tys_bad s _ q2
theorem cls_out (s : List UInt8) (i : Int) (h : (s.length : Int) < i) : (cls s i).2 < 0 := by
  unfold cls
  rw [cnt_out (by omega) (by omega), if_pos (by omega)]
  decide
theorem cls_lnk {s : List UInt8} {i : Int} (h0 : 0 ≤ i) (h1 : i ≤ (s.length : Int)) : Lnk id s.length (Rd.cls s ⟨i.toNat, false⟩) (cls s i) := by
  unfold Rd.cls cls
  rcases nx_lnk h0 h1 with ⟨_, a1, a2, a3⟩ | ⟨b0, b1⟩
  · simp only at a1 a2 a3
    simp only
    rw [a2, a3]
    rcases cn_lnk (s := s) (i := i + 1) (a := 0) (b := 4) (by omega) a1 (by omega) with ⟨c0, c1, c2⟩ | ⟨d0, d1⟩
    · rw [if_neg (by omega), c2]
      simp only
      rcases tys_lnk (s := s) (i := i + 1 + 1) (cnt s (i + 1) 0 4).toNat (by omega) (by omega) with ⟨_, e1, e2, e3⟩ | ⟨f0, f1⟩
      · simp only at e1 e2 e3
        left
        rw [show i + 1 + 1 = i + 2 by omega] at *
        refine ⟨by simp only; omega, by simp only; omega, ?_, ?_⟩
        · simp only [e2, id_eq]
        · rw [e3]; simp only; congr 2; omega
      · simp only at f0
        right
        exact ⟨.inr (by simp only; omega), f1⟩
    · rw [if_pos d0]
      right
      obtain ⟨q, hq⟩ := bad_mk _ d1
      simp only
      rw [hq]
      exact ⟨.inl (by decide), tys_bad s _ q⟩
  · simp only at b0
    rw [cnt_out (by omega) (by omega), if_pos (by omega)]
    right
    obtain ⟨q, hq⟩ := bad_mk _ b1
    obtain ⟨q2, hq2⟩ := bad_mk _ (cn_bad s 0 4 q)
    simp only
    rw [hq, hq2]
    exact ⟨.inl (by decide), tys_bad s _ q2⟩

/-- codes -/
theorem code_rep (s : List UInt8) (k : Nat) (i : Int) (h0 : 0 ≤ i) : rep (fun i => (at' s i, i + 1)) k i = (codeTo s i k, i + (k : Int)) := by
  induction k with
  | zero => simp [rep, codeTo]
  | succ k ih =>
    rw [rep_step ih (by omega) rfl (by omega)]
    refine Prod.ext rfl ?_
    simp only
    omega
theorem code_lnk {s : List UInt8} {i : Int} (k : Nat) (h0 : 0 ≤ i) (h1 : i ≤ (s.length : Int)) : Lnk id s.length (Rd.rep (Rd.nx s) k ⟨i.toNat, false⟩) (codeTo s i k, i + (k : Int)) := by
  have h := rep_lnk (g := id) (F := fun i => (at' s i, i + 1)) (fun i a b => nx_lnk (s := s) a b) (nx_bad s) (fun i hi => .inr (by simp only; omega)) k i h0 h1
  rw [code_rep s k i h0] at h
  simpa [Lnk] using h

/-- handlers -/
theorem hnd_bad (s : List UInt8) (p : Nat) : (Rd.hnd s ⟨p, true⟩).2.bad = true := by
  unfold Rd.hnd
  obtain ⟨q, hq⟩ := bad_mk _ (nx_bad s p)
  obtain ⟨q2, hq2⟩ := bad_mk _ (nx_bad s q)
  obtain ⟨q3, hq3⟩ := bad_mk _ (nx_bad s q2)
  simp only
  rw [hq, hq2, hq3]
  exact nx_bad s q3
theorem hnd_lnk {s : List UInt8} {i : Int} (h0 : 0 ≤ i) (h1 : i ≤ (s.length : Int)) : Lnk id s.length (Rd.hnd s ⟨i.toNat, false⟩) (hndAt s i, i + 4) := by
  by_cases h : i + 4 ≤ (s.length : Int)
  · left
    unfold Rd.hnd hndAt
    simp only
    rw [at_in h0 (by omega), at_in (by omega) (by omega), at_in (by omega) (by omega), at_in (by omega) (by omega)]
    refine ⟨by omega, h, ?_, ?_⟩
    · simp only [id_eq, show i + 1 + 1 = i + 2 by omega, show i + 2 + 1 = i + 3 by omega]
    · simp only; congr 2; omega
  · right
    refine ⟨.inr (by simp only; omega), ?_⟩
    unfold Rd.hnd
    simp only
    rcases nx_lnk h0 h1 with ⟨_, a1, _, a3⟩ | ⟨_, b1⟩
    · simp only at a1 a3
      rw [a3]
      rcases nx_lnk (s := s) (i := i + 1) (by omega) a1 with ⟨_, c1, _, c3⟩ | ⟨_, d1⟩
      · simp only at c1 c3
        rw [c3]
        rcases nx_lnk (s := s) (i := i + 1 + 1) (by omega) c1 with ⟨_, e1, _, e3⟩ | ⟨_, f1⟩
        · simp only at e1 e3
          rw [e3, nx_out (by omega)]
        · obtain ⟨q, hq⟩ := bad_mk _ f1
          rw [hq]; exact nx_bad s q
      · obtain ⟨q, hq⟩ := bad_mk _ d1
        obtain ⟨q2, hq2⟩ := bad_mk _ (nx_bad s q)
        rw [hq, hq2]; exact nx_bad s q2
    · obtain ⟨q, hq⟩ := bad_mk _ b1
      obtain ⟨q2, hq2⟩ := bad_mk _ (nx_bad s q)
      obtain ⟨q3, hq3⟩ := bad_mk _ (nx_bad s q2)
      rw [hq, hq2, hq3]; exact nx_bad s q3
theorem hnd_rep (s : List UInt8) (k : Nat) (i : Int) (h0 : 0 ≤ i) : rep (fun i => (hndAt s i, i + 4)) k (i + 1) = (hndTo s i k, i + 1 + 4 * (k : Int)) := by
  induction k with
  | zero => simp [rep, hndTo]
  | succ k ih =>
    rw [rep_step ih (by omega) rfl (by omega)]
    refine Prod.ext rfl ?_
    simp only
    omega
theorem hnds_bad (s : List UInt8) (p : Nat) : (Rd.hnds s ⟨p, true⟩).2.bad = true := by
  unfold Rd.hnds
  obtain ⟨q, hq⟩ := bad_mk _ (cn_bad s 0 4 p)
  simp only
  rw [hq]
  exact rep_bad (hnd_bad s) _ q
theorem hnds_lnk {s : List UInt8} {i : Int} (h0 : 0 ≤ i) (h1 : i ≤ (s.length : Int)) : Lnk id s.length (Rd.hnds s ⟨i.toNat, false⟩) (hnds s i) := by
  unfold Rd.hnds hnds
  rcases cn_lnk (s := s) (i := i) (a := 0) (b := 4) h0 h1 (by omega) with ⟨c0, c1, c2⟩ | ⟨d0, d1⟩
  · rw [if_neg (by omega), c2]
    simp only
    have h := rep_lnk (g := id) (F := fun i => (hndAt s i, i + 4)) (fun i a b => hnd_lnk (s := s) a b) (hnd_bad s) (fun i hi => .inr (by simp only; omega)) (cnt s i 0 4).toNat (i + 1) (by omega) (by omega)
    rw [hnd_rep s _ i h0] at h
    rcases h with ⟨_, e1, e2, e3⟩ | ⟨f0, f1⟩
    · simp only at e1 e2 e3
      left
      rw [if_neg (by omega)]
      refine ⟨by simp only; omega, by simp only; omega, ?_, ?_⟩
      · simp only [e2, id_eq, List.map_id_fun]
      · rw [e3]; simp only; congr 2; omega
    · simp only at f0
      right
      rw [if_pos (by omega)]
      exact ⟨.inl (by decide), f1⟩
  · rw [if_pos d0]
    right
    obtain ⟨q, hq⟩ := bad_mk _ d1
    simp only
    rw [hq]
    exact ⟨.inl (by decide), rep_bad (hnd_bad s) _ q⟩

/-- maps -/
theorem mp_bad (s : List UInt8) (L H : Int) (p : Nat) : (Rd.mp s L H ⟨p, true⟩).2.bad = true := by
  unfold Rd.mp
  obtain ⟨q, hq⟩ := bad_mk _ (nx_bad s p)
  obtain ⟨q2, hq2⟩ := bad_mk _ (tys_bad s L.toNat q)
  obtain ⟨q3, hq3⟩ := bad_mk _ (cn_bad s 0 H q2)
  simp only
  rw [hq, hq2, hq3]
  exact tys_bad s _ q3
theorem mp_lnk {s : List UInt8} {L H i : Int} (hL : 0 ≤ L) (h0 : 0 ≤ i) (h1 : i ≤ (s.length : Int)) : Lnk id s.length (Rd.mp s L H ⟨i.toNat, false⟩) (mp s L H i) := by
  unfold Rd.mp mp
  rcases nx_lnk h0 h1 with ⟨_, a1, a2, a3⟩ | ⟨b0, b1⟩
  · simp only at a1 a2 a3
    simp only
    rw [a2, a3]
    rcases tys_lnk (s := s) (i := i + 1) L.toNat (by omega) a1 with ⟨_, e1, e2, e3⟩ | ⟨f0, f1⟩
    · simp only at e1 e2 e3
      rw [e2, e3]
      have el : i + 1 + 2 * ((L.toNat : Nat) : Int) = i + 1 + 2 * L := by omega
      rw [el] at e1 ⊢
      rcases cn_lnk (s := s) (i := i + 1 + 2 * L) (a := 0) (b := H) (by omega) e1 (by omega) with ⟨c0, c1, c2⟩ | ⟨d0, d1⟩
      · rw [if_neg (by omega), c2]
        simp only
        rcases tys_lnk (s := s) (i := i + 1 + 2 * L + 1) (cnt s (i + 1 + 2 * L) 0 H).toNat (by omega) (by omega) with ⟨_, g1, g2, g3⟩ | ⟨k0, k1⟩
        · simp only at g1 g2 g3
          left
          have er : i + 1 + 2 * L + 1 = i + 2 + 2 * L := by omega
          rw [er] at g1 g2 g3 ⊢
          refine ⟨by simp only; omega, by simp only; omega, ?_, ?_⟩
          · simp only [g2, id_eq]
          · rw [g3]; simp only; congr 2; omega
        · simp only at k0
          right
          exact ⟨.inr (by simp only; omega), k1⟩
      · rw [if_pos d0]
        right
        obtain ⟨q, hq⟩ := bad_mk _ d1
        simp only
        rw [hq]
        exact ⟨.inl (by decide), tys_bad s _ q⟩
    · simp only at f0
      rw [cnt_out (by omega) (by omega), if_pos (by omega)]
      right
      obtain ⟨q, hq⟩ := bad_mk _ f1
      obtain ⟨q2, hq2⟩ := bad_mk _ (cn_bad s 0 H q)
      simp only
      rw [hq, hq2]
      exact ⟨.inl (by decide), tys_bad s _ q2⟩
  · simp only at b0
    rw [cnt_out (by omega) (by omega), if_pos (by omega)]
    right
    obtain ⟨q, hq⟩ := bad_mk _ b1
    obtain ⟨q1, hq1⟩ := bad_mk _ (tys_bad s L.toNat q)
    obtain ⟨q2, hq2⟩ := bad_mk _ (cn_bad s 0 H q1)
    simp only
    rw [hq, hq1, hq2]
    exact ⟨.inl (by decide), tys_bad s _ q2⟩
theorem mps_bad (s : List UInt8) (L H : Int) (p : Nat) : (Rd.mps s L H ⟨p, true⟩).2.bad = true := by
  unfold Rd.mps
  obtain ⟨q, hq⟩ := bad_mk _ (cn_bad s 0 64 p)
  simp only
  rw [hq]
  exact rep_bad (mp_bad s L H) _ q
theorem mps_lnk {s : List UInt8} {L H i : Int} (hL : 0 ≤ L) (h0 : 0 ≤ i) (h1 : i ≤ (s.length : Int)) : Lnk id s.length (Rd.mps s L H ⟨i.toNat, false⟩) (mps s i L H) := by
  unfold Rd.mps mps
  rcases cn_lnk (s := s) (i := i) (a := 0) (b := 64) h0 h1 (by omega) with ⟨c0, c1, c2⟩ | ⟨d0, d1⟩
  · rw [if_neg (by omega), c2]
    simp only
    have h := rep_lnk (g := id) (fun i a b => mp_lnk (s := s) (H := H) hL a b) (mp_bad s L H) (fun i hi => .inl (by unfold mp; rw [cnt_out (by omega) (by omega), if_pos (by omega)]; decide)) (cnt s i 0 64).toNat (i + 1) (by omega) (by omega)
    simpa [Lnk] using h
  · rw [if_pos d0]
    right
    obtain ⟨q, hq⟩ := bad_mk _ d1
    simp only
    rw [hq]
    exact ⟨.inl (by decide), rep_bad (mp_bad s L H) _ q⟩

/-- a method -/
theorem mth_bad (s : List UInt8) (p : Nat) : (Rd.mth s ⟨p, true⟩).2.bad = true := by
  unfold Rd.mth
  obtain ⟨q1, h1⟩ := bad_mk _ (nx_bad s p)
  obtain ⟨q2, h2⟩ := bad_mk _ (nx_bad s q1)
  obtain ⟨q3, h3⟩ := bad_mk _ (cn_bad s 0 4 q2)
  obtain ⟨q5, h5⟩ := bad_mk _ (tys_bad s (Rd.cn s 0 4 ⟨q2, true⟩).1.toNat q3)
  obtain ⟨q6, h6⟩ := bad_mk _ (ty_bad s q5)
  obtain ⟨q7, h7⟩ := bad_mk _ (cn_bad s 0 8 q6)
  obtain ⟨q8, h8⟩ := bad_mk _ (cn_bad s 0 8 q7)
  obtain ⟨q9, h9⟩ := bad_mk _ (show (Rd.codes s ⟨q8, true⟩).2.bad = true by
    unfold Rd.codes
    obtain ⟨q, hq⟩ := bad_mk _ (cn_bad s 1 120 q8)
    simp only
    rw [hq]
    exact rep_bad (nx_bad s) _ q)
  obtain ⟨q10, h10⟩ := bad_mk _ (hnds_bad s q9)
  simp only
  rw [h1, h2, h3, h5, h6, h7, h8, h9, h10]
  exact mps_bad s _ _ q10

theorem codes_bad (s : List UInt8) (p : Nat) : (Rd.codes s ⟨p, true⟩).2.bad = true := by
  unfold Rd.codes
  obtain ⟨q, hq⟩ := bad_mk _ (cn_bad s 1 120 p)
  simp only
  rw [hq]
  exact rep_bad (nx_bad s) _ q

/-- the reader's state behind a method, from each of its stages on -/
def g10 (s : List UInt8) (l h : Int) (t : Rd.St) : Rd.St := (Rd.mps s l h t).2
def g9 (s : List UInt8) (l h : Int) (t : Rd.St) : Rd.St := g10 s l h (Rd.hnds s t).2
def g8 (s : List UInt8) (l h : Int) (t : Rd.St) : Rd.St := g9 s l h (Rd.codes s t).2
def g7 (s : List UInt8) (l : Int) (t : Rd.St) : Rd.St := g8 s l (Rd.cn s 0 8 t).1 (Rd.cn s 0 8 t).2
def g6 (s : List UInt8) (t : Rd.St) : Rd.St := g7 s (Rd.cn s 0 8 t).1 (Rd.cn s 0 8 t).2
def g5 (s : List UInt8) (t : Rd.St) : Rd.St := g6 s (Rd.ty s t).2
def g4 (s : List UInt8) (p : Int) (t : Rd.St) : Rd.St := g5 s (Rd.tys s p.toNat t).2
def g3 (s : List UInt8) (t : Rd.St) : Rd.St := g4 s (Rd.cn s 0 4 t).1 (Rd.cn s 0 4 t).2
def g2 (s : List UInt8) (t : Rd.St) : Rd.St := g3 s (Rd.nx s t).2
theorem g1_eq (s : List UInt8) (t : Rd.St) : (Rd.mth s t).2 = g2 s (Rd.nx s t).2 := by
  simp only [Rd.mth, g2, g3, g4, g5, g6, g7, g8, g9, g10]
theorem g10_bad {s : List UInt8} {l h : Int} {t : Rd.St} (ht : t.bad = true) : (g10 s l h t).bad = true := by
  obtain ⟨p, rfl⟩ := bad_mk t ht
  exact mps_bad s l h p
theorem g9_bad {s : List UInt8} {l h : Int} {t : Rd.St} (ht : t.bad = true) : (g9 s l h t).bad = true := by
  obtain ⟨p, rfl⟩ := bad_mk t ht
  exact g10_bad (hnds_bad s p)
theorem g8_bad {s : List UInt8} {l h : Int} {t : Rd.St} (ht : t.bad = true) : (g8 s l h t).bad = true := by
  obtain ⟨p, rfl⟩ := bad_mk t ht
  exact g9_bad (codes_bad s p)
theorem g7_bad {s : List UInt8} {l : Int} {t : Rd.St} (ht : t.bad = true) : (g7 s l t).bad = true := by
  obtain ⟨p, rfl⟩ := bad_mk t ht
  exact g8_bad (cn_bad s 0 8 p)
theorem g6_bad {s : List UInt8} {t : Rd.St} (ht : t.bad = true) : (g6 s t).bad = true := by
  obtain ⟨p, rfl⟩ := bad_mk t ht
  exact g7_bad (cn_bad s 0 8 p)
theorem g5_bad {s : List UInt8} {t : Rd.St} (ht : t.bad = true) : (g5 s t).bad = true := by
  obtain ⟨p, rfl⟩ := bad_mk t ht
  exact g6_bad (ty_bad s p)
theorem g4_bad {s : List UInt8} {p : Int} {t : Rd.St} (ht : t.bad = true) : (g4 s p t).bad = true := by
  obtain ⟨q, rfl⟩ := bad_mk t ht
  exact g5_bad (tys_bad s _ q)
theorem g3_bad {s : List UInt8} {t : Rd.St} (ht : t.bad = true) : (g3 s t).bad = true := by
  obtain ⟨p, rfl⟩ := bad_mk t ht
  exact g4_bad (cn_bad s 0 4 p)
theorem g2_bad {s : List UInt8} {t : Rd.St} (ht : t.bad = true) : (g2 s t).bad = true := by
  obtain ⟨p, rfl⟩ := bad_mk t ht
  exact g3_bad (nx_bad s p)

theorem hnds_le (s : List UInt8) (i : Int) : (hnds s i).2 ≤ (s.length : Int) := by
  unfold hnds
  split
  · simp only; omega
  · split
    · simp only; omega
    · simp only; omega

theorem mth_lnk {s : List UInt8} {i : Int} (h0 : 0 ≤ i) (h1 : i ≤ (s.length : Int)) : Lnk Mth.m s.length (Rd.mth s ⟨i.toNat, false⟩) (mth s i) := by
  -- where the document's reader has nothing, it is enough that the program's is bad
  have no : ∀ x : Mth × Int, x.2 < 0 → (Rd.mth s ⟨i.toNat, false⟩).2.bad = true → Lnk Mth.m s.length (Rd.mth s ⟨i.toNat, false⟩) x := fun x a b => .inr ⟨.inl a, b⟩
  rcases nx_lnk h0 h1 with ⟨_, a1, a2, a3⟩ | ⟨b0, b1⟩
  rotate_left
  · simp only at b0
    refine no _ ?_ (g2_bad b1)
    unfold mth
    simp only
    rw [cnt_out (by omega) (by omega), if_pos (by omega)]
    decide
  simp only at a1 a2 a3
  rcases nx_lnk (s := s) (i := i + 1) (by omega) a1 with ⟨_, b1, b2, b3⟩ | ⟨c0, c1⟩
  rotate_left
  · simp only at c0
    refine no _ ?_ ?_
    · unfold mth
      simp only
      rw [cnt_out (by omega) (by omega), if_pos (by omega)]
      decide
    · rw [g1_eq, a3]; exact g3_bad c1
  simp only at b1 b2 b3
  rw [show i + 1 + 1 = i + 2 by omega] at b1 b3
  rcases cn_lnk (s := s) (i := i + 2) (a := 0) (b := 4) (by omega) b1 (by omega) with ⟨c0, c1, c2⟩ | ⟨d0, d1⟩
  rotate_left
  · refine no _ ?_ ?_
    · unfold mth
      simp only
      rw [if_pos d0]
      decide
    · rw [g1_eq, a3]
      show (g3 s (Rd.nx s _).2).bad = true
      rw [b3]; exact g4_bad d1
  rw [show i + 2 + 1 = i + 3 by omega] at c2
  have e2 : (Rd.mth s ⟨i.toNat, false⟩).2 = g4 s (cnt s (i + 2) 0 4) ⟨(i + 3).toNat, false⟩ := by
    rw [g1_eq, a3]
    show g3 s (Rd.nx s _).2 = _
    rw [b3]
    show g4 s (Rd.cn s 0 4 _).1 (Rd.cn s 0 4 _).2 = _
    rw [c2]
  have cb := cnt_bd s (i + 2) 0 4 (by omega)
  -- the parameters
  rcases tys_lnk (s := s) (i := i + 3) (cnt s (i + 2) 0 4).toNat (by omega) (by omega) with ⟨_, d1, d2, d3⟩ | ⟨d0, d1⟩
  rotate_left
  · simp only at d0
    refine no _ ?_ ?_
    · unfold mth
      simp only
      rw [if_neg (by omega), cnt_out (i := i + 3 + 2 * cnt s (i + 2) 0 4 + 2) (by omega) (by omega), if_pos (by omega)]
      decide
    · rw [e2]; exact g5_bad d1
  simp only at d1 d2 d3
  rw [show i + 3 + 2 * (((cnt s (i + 2) 0 4).toNat : Nat) : Int) = i + 3 + 2 * cnt s (i + 2) 0 4 by omega] at d1 d3
  have e3 : (Rd.mth s ⟨i.toNat, false⟩).2 = g5 s ⟨(i + 3 + 2 * cnt s (i + 2) 0 4).toNat, false⟩ := by
    rw [e2]
    show g5 s (Rd.tys s _ _).2 = _
    rw [d3]
  generalize hj : i + 3 + 2 * cnt s (i + 2) 0 4 = j at *
  have j0 : 0 ≤ j := by omega
  rcases ty_lnk (s := s) (i := j) j0 d1 with ⟨_, f1, f2, f3⟩ | ⟨f0, f1⟩
  rotate_left
  · simp only [ty] at f0
    refine no _ ?_ ?_
    · unfold mth
      simp only
      rw [if_neg (by omega), hj, cnt_out (i := j + 2) (by omega) (by omega), if_pos (by omega)]
      decide
    · rw [e3]; exact g6_bad f1
  simp only [ty] at f1 f2 f3
  have e4 : (Rd.mth s ⟨i.toNat, false⟩).2 = g6 s ⟨(j + 2).toNat, false⟩ := by
    rw [e3]
    show g6 s (Rd.ty s _).2 = _
    rw [f3]
  rcases cn_lnk (s := s) (i := j + 2) (a := 0) (b := 8) (by omega) f1 (by omega) with ⟨l0, l1, l2⟩ | ⟨l0, l1⟩
  rotate_left
  · refine no _ ?_ ?_
    · unfold mth
      simp only
      rw [if_neg (by omega), hj, if_pos l0]
      decide
    · rw [e4]; exact g7_bad l1
  rw [show j + 2 + 1 = j + 3 by omega] at l2
  rcases cn_lnk (s := s) (i := j + 3) (a := 0) (b := 8) (by omega) (by omega) (by omega) with ⟨k0, k1, k2⟩ | ⟨k0, k1⟩
  rotate_left
  · refine no _ ?_ ?_
    · unfold mth
      simp only
      rw [if_neg (by omega), hj, if_neg (by omega), if_pos k0]
      decide
    · rw [e4]
      show (g7 s (Rd.cn s 0 8 _).1 (Rd.cn s 0 8 _).2).bad = true
      rw [l2]; exact g8_bad k1
  rw [show j + 3 + 1 = j + 4 by omega] at k2
  have e5 : (Rd.mth s ⟨i.toNat, false⟩).2 = g8 s (cnt s (j + 2) 0 8) (cnt s (j + 3) 0 8) ⟨(j + 4).toNat, false⟩ := by
    rw [e4]
    show g7 s (Rd.cn s 0 8 _).1 (Rd.cn s 0 8 _).2 = _
    rw [l2]
    show g8 s _ (Rd.cn s 0 8 _).1 (Rd.cn s 0 8 _).2 = _
    rw [k2]
  rcases cn_lnk (s := s) (i := j + 4) (a := 1) (b := 120) (by omega) (by omega) (by omega) with ⟨n0, n1, n2⟩ | ⟨n0, n1⟩
  rotate_left
  · refine no _ ?_ ?_
    · unfold mth
      simp only
      rw [if_neg (by omega), hj, if_neg (by omega), if_neg (by omega), if_pos n0]
      decide
    · rw [e5]
      refine g9_bad ?_
      unfold Rd.codes
      obtain ⟨q, hq⟩ := bad_mk _ n1
      simp only
      rw [hq]
      exact rep_bad (nx_bad s) _ q
  rw [show j + 4 + 1 = j + 5 by omega] at n2
  rcases code_lnk (s := s) (i := j + 5) (cnt s (j + 4) 1 120).toNat (by omega) (by omega) with ⟨_, o1, o2, o3⟩ | ⟨o0, o1⟩
  rotate_left
  · simp only at o0
    refine no _ ?_ ?_
    · unfold mth
      simp only
      rw [if_neg (by omega), hj, if_neg (by omega), if_neg (by omega), if_neg (by omega), if_pos (by omega)]
      decide
    · rw [e5]
      refine g9_bad ?_
      unfold Rd.codes
      simp only
      rw [n2]
      exact o1
  simp only at o1 o2 o3
  rw [show j + 5 + (((cnt s (j + 4) 1 120).toNat : Nat) : Int) = j + 5 + cnt s (j + 4) 1 120 by omega] at o1 o3
  have hcode : Rd.codes s ⟨(j + 4).toNat, false⟩ = (codeTo s (j + 5) (cnt s (j + 4) 1 120).toNat, ⟨(j + 5 + cnt s (j + 4) 1 120).toNat, false⟩) := by
    unfold Rd.codes
    simp only
    rw [n2]
    exact Prod.ext o2 o3
  rcases hnds_lnk (s := s) (i := j + 5 + cnt s (j + 4) 1 120) (by omega) o1 with ⟨p0, p1, p2, p3⟩ | ⟨p0, p1⟩
  rotate_left
  · have hle := hnds_le s (j + 5 + cnt s (j + 4) 1 120)
    refine no _ ?_ ?_
    · unfold mth
      simp only
      rw [if_neg (by omega), hj, if_neg (by omega), if_neg (by omega), if_neg (by omega), if_neg (by omega), if_pos (by omega)]
      decide
    · rw [e5]
      show (g9 s _ _ (Rd.codes s _).2).bad = true
      rw [hcode]
      exact g10_bad p1
  have hm := mps_lnk (s := s) (L := cnt s (j + 2) 0 8) (H := cnt s (j + 3) 0 8) l0 p0 p1
  have e6 : (Rd.mth s ⟨i.toNat, false⟩).2 = (Rd.mps s (cnt s (j + 2) 0 8) (cnt s (j + 3) 0 8) ⟨(hnds s (j + 5 + cnt s (j + 4) 1 120)).2.toNat, false⟩).2 := by
    rw [e5]
    show g9 s _ _ (Rd.codes s _).2 = _
    rw [hcode]
    show g10 s _ _ (Rd.hnds s _).2 = _
    simp only
    rw [p3]
    rfl
  have hx : mth s i = (⟨⟨at' s i, at' s (i + 1), tys s (i + 3) (cnt s (i + 2) 0 4).toNat, (at' s j, at' s (j + 1)), cnt s (j + 2) 0 8, cnt s (j + 3) 0 8, codeTo s (j + 5) (cnt s (j + 4) 1 120).toNat, (hnds s (j + 5 + cnt s (j + 4) 1 120)).1, (mps s (hnds s (j + 5 + cnt s (j + 4) 1 120)).2 (cnt s (j + 2) 0 8) (cnt s (j + 3) 0 8)).1⟩, (hnds s (j + 5 + cnt s (j + 4) 1 120)).2, (mps s (hnds s (j + 5 + cnt s (j + 4) 1 120)).2 (cnt s (j + 2) 0 8) (cnt s (j + 3) 0 8)).2⟩, (mps s (hnds s (j + 5 + cnt s (j + 4) 1 120)).2 (cnt s (j + 2) 0 8) (cnt s (j + 3) 0 8)).2) := by
    unfold mth
    simp only
    rw [if_neg (by omega), hj, if_neg (by omega), if_neg (by omega), if_neg (by omega), if_neg (by omega), if_neg (by omega)]
  rw [hx]
  rcases hm with ⟨m0, m1, m2, m3⟩ | ⟨m0, m1⟩
  · left
    refine ⟨m0, m1, ?_, by rw [e6]; exact m3⟩
    have A : Rd.nx s ⟨i.toNat, false⟩ = (at' s i, ⟨(i + 1).toNat, false⟩) := Prod.ext a2 a3
    have B : Rd.nx s ⟨(i + 1).toNat, false⟩ = (at' s (i + 1), ⟨(i + 2).toNat, false⟩) := Prod.ext b2 b3
    have D : Rd.tys s (cnt s (i + 2) 0 4).toNat ⟨(i + 3).toNat, false⟩ = (tys s (i + 3) (cnt s (i + 2) 0 4).toNat, ⟨j.toNat, false⟩) := Prod.ext d2 d3
    have E : Rd.ty s ⟨j.toNat, false⟩ = ((at' s j, at' s (j + 1)), ⟨(j + 2).toNat, false⟩) := Prod.ext f2 f3
    have P : Rd.hnds s ⟨(j + 5 + cnt s (j + 4) 1 120).toNat, false⟩ = ((hnds s (j + 5 + cnt s (j + 4) 1 120)).1, ⟨(hnds s (j + 5 + cnt s (j + 4) 1 120)).2.toNat, false⟩) := Prod.ext p2 p3
    simp only [Rd.mth, A, B, c2, D, E, l2, k2, hcode, P]
    simp only [id_eq] at m2
    rw [m2]
  · right
    exact ⟨m0, by rw [e6]; exact m1⟩

theorem mth_out (s : List UInt8) (i : Int) (h : (s.length : Int) < i) : (mth s i).2 < 0 := by
  unfold mth
  simp only
  rw [cnt_out (by omega) (by omega), if_pos (by omega)]
  decide

theorem ex_bad (s : List UInt8) (b : Int) (p : Nat) : (Rd.ex s b ⟨p, true⟩).bad = true := by
  unfold Rd.ex
  split
  · exact nx_bad s p
  · rfl

theorem ex_lnk {s : List UInt8} {i b : Int} (h0 : 0 ≤ i) (h1 : i ≤ (s.length : Int)) (hb : 0 ≤ b) :
    (at' s i = b ∧ i < (s.length : Int) ∧ Rd.ex s b ⟨i.toNat, false⟩ = ⟨(i + 1).toNat, false⟩) ∨ (at' s i ≠ b ∧ (Rd.ex s b ⟨i.toNat, false⟩).bad = true) := by
  unfold Rd.ex
  by_cases h : i < (s.length : Int)
  · rw [at_in h0 h]
    by_cases e : at' s i = b
    · left; rw [if_pos e]; exact ⟨e, h, rfl⟩
    · right; rw [if_neg e]; exact ⟨e, rfl⟩
  · right
    rw [nx_out (by omega), at_out (by omega)]
    refine ⟨by omega, ?_⟩
    split <;> rfl

/-- the whole file: the program's reader ends well at the end just where the document's does, with the same classes and methods -/
theorem fil_same (s : List UInt8) :
    ((Rd.fil s ⟨0, false⟩).2.bad = false ∧ (Rd.fil s ⟨0, false⟩).2.pos = s.length ↔ (fil s).2.2 = (s.length : Int)) ∧
    ((fil s).2.2 = (s.length : Int) → (Rd.fil s ⟨0, false⟩).1.classes = (fil s).1 ∧ (Rd.fil s ⟨0, false⟩).1.methods = (fil s).2.1.map Mth.m) := by
  -- the stages of the program's reader
  have stg : (Rd.fil s ⟨0, false⟩).2 = (Rd.rep (Rd.mth s) (Rd.cn s 1 6 (Rd.rep (Rd.cls s) (Rd.cn s 0 6 (Rd.ex s 77 (Rd.ex s 83 ⟨0, false⟩))).1.toNat (Rd.cn s 0 6 (Rd.ex s 77 (Rd.ex s 83 ⟨0, false⟩))).2).2).1.toNat
      (Rd.cn s 1 6 (Rd.rep (Rd.cls s) (Rd.cn s 0 6 (Rd.ex s 77 (Rd.ex s 83 ⟨0, false⟩))).1.toNat (Rd.cn s 0 6 (Rd.ex s 77 (Rd.ex s 83 ⟨0, false⟩))).2).2).2).2 := by simp only [Rd.fil]
  have hb4 : ∀ (k : Nat) (t : Rd.St), t.bad = true → (Rd.rep (Rd.mth s) k t).2.bad = true := fun k t ht => by
    obtain ⟨p, rfl⟩ := bad_mk t ht
    exact rep_bad (mth_bad s) k p
  have hb3 : ∀ (t : Rd.St), t.bad = true → (Rd.rep (Rd.mth s) (Rd.cn s 1 6 t).1.toNat (Rd.cn s 1 6 t).2).2.bad = true := fun t ht => by
    obtain ⟨p, rfl⟩ := bad_mk t ht
    exact hb4 _ _ (cn_bad s 1 6 p)
  have hb2 : ∀ (k : Nat) (t : Rd.St), t.bad = true → (Rd.rep (Rd.cls s) k t).2.bad = true := fun k t ht => by
    obtain ⟨p, rfl⟩ := bad_mk t ht
    exact rep_bad (cls_bad s) k p
  have no : (Rd.fil s ⟨0, false⟩).2.bad = true → (fil s).2.2 ≠ (s.length : Int) →
      ((Rd.fil s ⟨0, false⟩).2.bad = false ∧ (Rd.fil s ⟨0, false⟩).2.pos = s.length ↔ (fil s).2.2 = (s.length : Int)) ∧
      ((fil s).2.2 = (s.length : Int) → (Rd.fil s ⟨0, false⟩).1.classes = (fil s).1 ∧ (Rd.fil s ⟨0, false⟩).1.methods = (fil s).2.1.map Mth.m) := by
    intro a b
    refine ⟨⟨fun h => ?_, fun h => absurd h b⟩, fun h => absurd h b⟩
    rw [a] at h
    exact absurd h.1 (by simp)
  rcases ex_lnk (s := s) (i := 0) (b := 83) (by omega) (by omega) (by omega) with ⟨a1, a2, a3⟩ | ⟨a1, a2⟩
  rotate_left
  · refine no ?_ ?_
    · rw [stg]
      refine hb3 _ (hb2 _ _ ?_)
      have h1 : (Rd.ex s 83 ⟨0, false⟩).bad = true := a2
      obtain ⟨p, hp⟩ := bad_mk _ h1
      rw [hp]
      obtain ⟨q, hq⟩ := bad_mk _ (ex_bad s 77 p)
      rw [hq]
      exact cn_bad s 0 6 q
    · unfold fil
      rw [if_pos a1]
      simp only
      omega
  have x1 : Rd.ex s 83 ⟨0, false⟩ = ⟨(0 + 1 : Int).toNat, false⟩ := a3
  rcases ex_lnk (s := s) (i := 0 + 1) (b := 77) (by omega) (by omega) (by omega) with ⟨b1, b2, b3⟩ | ⟨b1, b2⟩
  rotate_left
  · refine no ?_ ?_
    · rw [stg, x1]
      refine hb3 _ (hb2 _ _ ?_)
      obtain ⟨q, hq⟩ := bad_mk _ b2
      rw [hq]
      exact cn_bad s 0 6 q
    · unfold fil
      rw [if_neg (by omega), if_pos (show at' s 1 ≠ 77 from b1)]
      simp only
      omega
  rcases cn_lnk (s := s) (i := 0 + 1 + 1) (a := 0) (b := 6) (by omega) (by omega) (by omega) with ⟨c0, c1, c2⟩ | ⟨c0, c1⟩
  rotate_left
  · refine no ?_ ?_
    · rw [stg, x1, b3]
      exact hb3 _ (hb2 _ _ c1)
    · unfold fil
      rw [if_neg (by omega), if_neg (show ¬ at' s 1 ≠ 77 from fun h => h b1), if_pos (show cnt s 2 0 6 < 0 from c0)]
      simp only
      omega
  have c0' : 0 ≤ cnt s 2 0 6 := c0
  have hc := rep_lnk (g := id) (fun i a b => cls_lnk (s := s) a b) (cls_bad s) (fun i hi => .inl (cls_out s i hi)) (cnt s 2 0 6).toNat 3 (by omega) (by omega)
  rcases hc with ⟨d0, d1, d2, d3⟩ | ⟨d0, d1⟩
  rotate_left
  · refine no ?_ ?_
    · rw [stg, x1, b3, c2]
      exact hb3 _ d1
    · unfold fil
      rw [if_neg (by omega), if_neg (show ¬ at' s 1 ≠ 77 from fun h => h b1), if_neg (show ¬ cnt s 2 0 6 < 0 by omega)]
      simp only
      split
      · simp only; omega
      · rw [cnt_out (by omega) (by omega), if_pos (by omega)]
        simp only
        omega
  have d2' : (Rd.rep (Rd.cls s) (cnt s 2 0 6).toNat ⟨(3 : Int).toNat, false⟩).1 = (rep (cls s) (cnt s 2 0 6).toNat 3).1 := by simpa using d2
  rcases cn_lnk (s := s) (i := (rep (cls s) (cnt s 2 0 6).toNat 3).2) (a := 1) (b := 6) d0 d1 (by omega) with ⟨e0, e1, e2⟩ | ⟨e0, e1⟩
  rotate_left
  · refine no ?_ ?_
    · rw [stg, x1, b3, c2]
      show (Rd.rep (Rd.mth s) (Rd.cn s 1 6 (Rd.rep (Rd.cls s) (cnt s 2 0 6).toNat ⟨(3 : Int).toNat, false⟩).2).1.toNat (Rd.cn s 1 6 (Rd.rep (Rd.cls s) (cnt s 2 0 6).toNat ⟨(3 : Int).toNat, false⟩).2).2).2.bad = true
      rw [d3]
      exact hb4 _ _ e1
    · unfold fil
      rw [if_neg (by omega), if_neg (show ¬ at' s 1 ≠ 77 from fun h => h b1), if_neg (show ¬ cnt s 2 0 6 < 0 by omega)]
      simp only
      rw [if_neg (by omega), if_pos e0]
      simp only
      omega
  have hm := rep_lnk (g := Mth.m) (fun i a b => mth_lnk (s := s) a b) (mth_bad s) (fun i hi => .inl (mth_out s i hi)) (cnt s (rep (cls s) (cnt s 2 0 6).toNat 3).2 1 6).toNat ((rep (cls s) (cnt s 2 0 6).toNat 3).2 + 1) (by omega) (by omega)
  have stg2 : (Rd.fil s ⟨0, false⟩).2 = (Rd.rep (Rd.mth s) (cnt s (rep (cls s) (cnt s 2 0 6).toNat 3).2 1 6).toNat ⟨((rep (cls s) (cnt s 2 0 6).toNat 3).2 + 1).toNat, false⟩).2 := by
    rw [stg, x1, b3, c2]
    show (Rd.rep (Rd.mth s) (Rd.cn s 1 6 (Rd.rep (Rd.cls s) (cnt s 2 0 6).toNat ⟨(3 : Int).toNat, false⟩).2).1.toNat (Rd.cn s 1 6 (Rd.rep (Rd.cls s) (cnt s 2 0 6).toNat ⟨(3 : Int).toNat, false⟩).2).2).2 = _
    rw [d3, e2]
  have hfil : ∀ ms : List Mth × Int, rep (mth s) (cnt s (rep (cls s) (cnt s 2 0 6).toNat 3).2 1 6).toNat ((rep (cls s) (cnt s 2 0 6).toNat 3).2 + 1) = ms → fil s = if ms.2 < 0 then ([], [], -1) else ((rep (cls s) (cnt s 2 0 6).toNat 3).1, ms.1, ms.2) := by
    intro ms hms
    unfold fil
    rw [if_neg (by omega), if_neg (show ¬ at' s 1 ≠ 77 from fun h => h b1), if_neg (show ¬ cnt s 2 0 6 < 0 by omega)]
    simp only
    rw [if_neg (by omega), if_neg (by omega), hms]
  have hf := hfil _ rfl
  generalize hms : rep (mth s) (cnt s (rep (cls s) (cnt s 2 0 6).toNat 3).2 1 6).toNat ((rep (cls s) (cnt s 2 0 6).toNat 3).2 + 1) = ms at *
  rcases hm with ⟨m0, m1, m2, m3⟩ | ⟨m0, m1⟩
  · rw [if_neg (by omega)] at hf
    rw [hf, stg2, m3]
    refine ⟨⟨fun h => ?_, fun h => ?_⟩, fun _ => ⟨?_, ?_⟩⟩
    · simp only at h ⊢; omega
    · simp only at h ⊢; exact ⟨trivial, by omega⟩
    · have h2 : (Rd.fil s ⟨0, false⟩).1.classes = (Rd.rep (Rd.cls s) (Rd.cn s 0 6 (Rd.ex s 77 (Rd.ex s 83 ⟨0, false⟩))).1.toNat (Rd.cn s 0 6 (Rd.ex s 77 (Rd.ex s 83 ⟨0, false⟩))).2).1 := by simp only [Rd.fil]
      rw [h2, x1, b3, c2]
      exact d2'
    · have h2 : (Rd.fil s ⟨0, false⟩).1.methods = (Rd.rep (Rd.mth s) (Rd.cn s 1 6 (Rd.rep (Rd.cls s) (Rd.cn s 0 6 (Rd.ex s 77 (Rd.ex s 83 ⟨0, false⟩))).1.toNat (Rd.cn s 0 6 (Rd.ex s 77 (Rd.ex s 83 ⟨0, false⟩))).2).2).1.toNat
          (Rd.cn s 1 6 (Rd.rep (Rd.cls s) (Rd.cn s 0 6 (Rd.ex s 77 (Rd.ex s 83 ⟨0, false⟩))).1.toNat (Rd.cn s 0 6 (Rd.ex s 77 (Rd.ex s 83 ⟨0, false⟩))).2).2).2).1 := by simp only [Rd.fil]
      rw [h2, x1, b3, c2]
      show (Rd.rep (Rd.mth s) (Rd.cn s 1 6 (Rd.rep (Rd.cls s) (cnt s 2 0 6).toNat ⟨(3 : Int).toNat, false⟩).2).1.toNat (Rd.cn s 1 6 (Rd.rep (Rd.cls s) (cnt s 2 0 6).toNat ⟨(3 : Int).toNat, false⟩).2).2).1 = _
      rw [d3, e2]
      exact m2
  · refine no (by rw [stg2]; exact m1) ?_
    rw [hf]
    split
    · simp only; omega
    · simp only
      omega
end Go.Proofs.YteffpdofcgbokaaGreat.Rf
