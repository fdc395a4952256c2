/-
  The walk over the document's Classed: a file, or an error and the class's number.
-/
import Derived.Test.YteffpdofcgbokaaGreatRRead3
import Derived.Test.YteffpdofcgbokaaGreatRBad
namespace Go.Proofs.YteffpdofcgbokaaGreat
open Go.RowKit

/-- the error and the number that Classed gives -/
def Rf.classed (s : List UInt8) : Int × Int :=
  if 15000 < s.length then (1, 0)
  else if (Rf.fil s).2.2 ≠ (s.length : Int) then (2, 0)
  else if 0 ≤ Tr.badOf (Tr.inCl (Tr.tree (Rf.fil s).1) 0 (Rf.fil s).1) then (3, Tr.badOf (Tr.inCl (Tr.tree (Rf.fil s).1) 0 (Rf.fil s).1))
  else (0, 0)

theorem given_supers (l : List (Rd.Cls × Value)) (cs : List Rd.Cls) (h : l.map Prod.fst = Rf.given ++ cs) : supers l = Tr.tree cs ∧ (l.map Prod.fst).drop 7 = cs ∧ l.length = 7 + cs.length := by
  refine ⟨?_, ?_, ?_⟩
  · unfold supers Tr.tree
    rw [h, List.map_append]
    rfl
  · rw [h]; rfl
  · have := congrArg List.length h
    simp [Rf.given] at this
    omega

theorem cls_fields (s : List UInt8) (i : Int) : (Rf.cls s i).1.fields.length ≤ 1000 := by
  unfold Rf.cls
  split
  · simp
  · simp only
    rw [rtys_len]
    have := Rf.cnt_bd s (i + 1) 0 4 (by omega)
    omega
theorem fil_bd (s : List UInt8) : (Rf.fil s).1.length ≤ 6 ∧ ∀ c ∈ (Rf.fil s).1, c.fields.length ≤ 1000 := by
  have rl : ∀ k : Nat, (Rf.rep (Rf.cls s) k 3).1.length ≤ k ∧ ∀ c ∈ (Rf.rep (Rf.cls s) k 3).1, c.fields.length ≤ 1000 := by
    intro k
    induction k with
    | zero => simp [Rf.rep]
    | succ j ih =>
      unfold Rf.rep
      split
      · simp
      · split
        · simp
        · refine ⟨by simp; exact ih.1, ?_⟩
          intro c hc
          simp only [List.mem_append, List.mem_singleton] at hc
          rcases hc with hc | hc
          · exact ih.2 c hc
          · rw [hc]; exact cls_fields s _
  unfold Rf.fil
  split
  · simp
  · split
    · simp
    · split
      · simp
      · simp only
        have hb := Rf.cnt_bd s 2 0 6 (by omega)
        have := rl (Rf.cnt s 2 0 6).toNat
        split
        · simp
        · split
          · simp
          · split
            · simp
            · exact ⟨by simp only; omega, this.2⟩

/-- what Classed gives -/
def RClsdPost (s : List UInt8) (w : World) (e : Ending) (w' : World) : Prop :=
  ∃ a1 n1 c1 a2 n2 c2, e = .returned (.tuple #[.agg #[.slice a1 n1 c1, .slice a2 n2 c2], .int .i64 (Rf.classed s).1, .int .i64 (Rf.classed s).2]) ∧
    ((Rf.classed s).1 = 0 → ∃ l1 l2, l1.map Prod.fst = Rf.given ++ (Rf.fil s).1 ∧ RClssIn w' w.heap.size (.slice a1 n1 c1) l1 ∧ l2.map Prod.fst = (Rf.fil s).2.1 ∧ RMthsIn w' w.heap.size (.slice a2 n2 c2) l2) ∧ Below w.heap.size w w'

set_option maxRecDepth 100000 in
set_option maxHeartbeats 4000000 in
theorem rclassed_any (s : ByteArray) (w : World) (_hs : s.size ≤ maxLen) :
    Calls Tryz.prog 11 #[.string s] w fun e w' => RClsdPost s.data.toList w e w' := by
  have hlen : s.data.toList.length = s.size := by simp
  by_cases h1 : 15000 < s.size
  · have hcl : Rf.classed s.data.toList = (1, 0) := by unfold Rf.classed; rw [if_pos (by omega)]
    unfold RClsdPost
    rw [hcl]
    have h1' : (15000 : Int) < (s.size : Int) := by omega
    go_enter Tryz.func11, Tryz.ntmps11
    go_wp2
    refine bodyPost_ret (v := .tuple #[.agg #[.slice none 0 0, .slice none 0 0], .int .i64 1, .int .i64 0]) (by simp [results, Tryz.results11, go_sem]) rfl ?_
    exact ⟨none, 0, 0, none, 0, 0, rfl, fun h => absurd h (by decide), (Below.refl _ _).alloc (Nat.le_refl _) _⟩
  · have h1' : ¬ (15000 : Int) < (s.size : Int) := by omega
    have hsz : s.size ≤ 15000 := by omega
    have HR := hide (fun w => rread_any s w hsz)
    have HFB := hide (fil_bd s.data.toList)
    by_cases h2 : (Rf.fil s.data.toList).2.2 = (s.data.toList.length : Int)
    · have h2' : ((Rf.fil s.data.toList).2.2 == (s.data.toList.length : Int)) = true := by rw [beq_iff_eq]; exact h2
      have H2 := hide h2'
      have H2b := hide h2
      generalize hbd : Tr.badOf (Tr.inCl (Tr.tree (Rf.fil s.data.toList).1) 0 (Rf.fil s.data.toList).1) = bd
      have HBD := hide hbd
      by_cases h3 : 0 ≤ bd
      · have hcl : Rf.classed s.data.toList = (3, bd) := by unfold Rf.classed; rw [if_neg (by omega), if_neg (fun h => h h2), hbd, if_pos h3]
        unfold RClsdPost
        rw [hcl]
        clear h2' h2 hlen hbd hcl
        go_enter Tryz.func11, Tryz.ntmps11
        go_wp2_with fail
        refine (unhide HR _).mono ?_
        unfold RReadPost
        rw [unhide H2]
        rintro e w1 ⟨a1, n1, c1, a2, n2, c2, rfl, hdat, hb1⟩
        obtain ⟨l1, l2, hm1, hc1, hm2, hc2⟩ := hdat (unhide H2b)
        obtain ⟨q1, q2, q3⟩ := given_supers l1 _ hm1
        obtain ⟨xa, xc, hsh⟩ := own_shape hc1.1
        simp only [Value.slice.injEq] at hsh
        obtain ⟨rfl, hn1, rfl⟩ := hsh
        subst hn1
        have C1 := stay hb1 (alloc_blk w _)
        have hB1 := ((Below.refl w.heap.size w).alloc (Nat.le_refl _) _).trans (hb1.mono (by simp))
        have lt1 := lt_of_block C1
        have s1 := hB1.size
        have hl13 : l1.length ≤ 13 := by rw [q3]; have := (unhide HFB).1; omega
        have hl7 : 7 ≤ l1.length := by rw [q3]; omega
        have hfl : ∀ p ∈ l1, p.1.fields.length ≤ 1000 := by
          intro p hp
          have hmem : p.1 ∈ l1.map Prod.fst := List.mem_map_of_mem hp
          rw [hm1, List.mem_append] at hmem
          rcases hmem with hmem | hmem
          · simp [Rf.given] at hmem
            rcases hmem with h | h | h <;> simp [h]
          · exact (unhide HFB).2 _ hmem
        have HFL := hide hfl
        have HM1 := hide hm1
        have HM2 := hide hm2
        have HQ1 := hide q1
        have HQ2 := hide q2
        clear hfl hm1 hm2 q1 q2 q3 hdat
        go_wp2_with fail
        refine (rbad_any a1 a2 c1 n2 c2 _ l1 _ hl13 hl7 (unhide HFL) (hc1.kp (Kp.alloc (e := none) _ _) (by decide) (by decide))).mono ?_
        rw [unhide HQ1, unhide HQ2, unhide HBD]
        rintro e w2 ⟨rfl, hb2⟩
        have D1 := stay hb2 (stay1 C1 _)
        have D2 := stay hb2 (alloc_blk w1 _)
        have hB2 := (hB1.alloc s1 _).trans (hb2.mono (by simp; omega))
        have s2 := hB2.size
        have d0 := blk_cell D2 0
        have d1 := blk_cell D2 1
        have z0 := blk_cell D1 0
        have z1 := blk_cell D1 1
        have g0 := blk_free D1 0
        have g1 := blk_free D1 1
        simp at d0 d1 z0 z1
        go_wp2_with fail
        refine bodyPost_ret (v := .tuple #[.agg #[.slice none 0 0, .slice none 0 0], .int .i64 3, .int .i64 bd]) (by simp [results, Tryz.results11, go_sem, z0, z1]) rfl ?_
        exact ⟨none, 0, 0, none, 0, 0, rfl, fun h => absurd h (by decide), by repeat (first | refine Below.setCell ?_ (by simp) _ | exact hB2)⟩
      · have hcl : Rf.classed s.data.toList = (0, 0) := by unfold Rf.classed; rw [if_neg (by omega), if_neg (fun h => h h2), hbd, if_neg h3]
        unfold RClsdPost
        rw [hcl]
        clear h2' h2 hlen hbd hcl
        go_enter Tryz.func11, Tryz.ntmps11
        go_wp2_with fail
        refine (unhide HR _).mono ?_
        unfold RReadPost
        rw [unhide H2]
        rintro e w1 ⟨a1, n1, c1, a2, n2, c2, rfl, hdat, hb1⟩
        obtain ⟨l1, l2, hm1, hc1, hm2, hc2⟩ := hdat (unhide H2b)
        obtain ⟨q1, q2, q3⟩ := given_supers l1 _ hm1
        obtain ⟨xa, xc, hsh⟩ := own_shape hc1.1
        simp only [Value.slice.injEq] at hsh
        obtain ⟨rfl, hn1, rfl⟩ := hsh
        subst hn1
        have C1 := stay hb1 (alloc_blk w _)
        have hB1 := ((Below.refl w.heap.size w).alloc (Nat.le_refl _) _).trans (hb1.mono (by simp))
        have lt1 := lt_of_block C1
        have s1 := hB1.size
        have hl13 : l1.length ≤ 13 := by rw [q3]; have := (unhide HFB).1; omega
        have hl7 : 7 ≤ l1.length := by rw [q3]; omega
        have hfl : ∀ p ∈ l1, p.1.fields.length ≤ 1000 := by
          intro p hp
          have hmem : p.1 ∈ l1.map Prod.fst := List.mem_map_of_mem hp
          rw [hm1, List.mem_append] at hmem
          rcases hmem with hmem | hmem
          · simp [Rf.given] at hmem
            rcases hmem with h | h | h <;> simp [h]
          · exact (unhide HFB).2 _ hmem
        have HFL := hide hfl
        have HM1 := hide hm1
        have HM2 := hide hm2
        have HQ1 := hide q1
        have HQ2 := hide q2
        clear hfl hm1 hm2 q1 q2 q3 hdat
        go_wp2_with fail
        refine (rbad_any a1 a2 c1 n2 c2 _ l1 _ hl13 hl7 (unhide HFL) (hc1.kp (Kp.alloc (e := none) _ _) (by decide) (by decide))).mono ?_
        rw [unhide HQ1, unhide HQ2, unhide HBD]
        rintro e w2 ⟨rfl, hb2⟩
        have D1 := stay hb2 (stay1 C1 _)
        have D2 := stay hb2 (alloc_blk w1 _)
        have hB2 := (hB1.alloc s1 _).trans (hb2.mono (by simp; omega))
        have s2 := hB2.size
        have d0 := blk_cell D2 0
        have d1 := blk_cell D2 1
        have z0 := blk_cell D1 0
        have z1 := blk_cell D1 1
        have g0 := blk_free D1 0
        have g1 := blk_free D1 1
        simp at d0 d1 z0 z1
        go_wp2_with fail
        refine bodyPost_ret (v := .tuple #[.agg #[.slice a1 l1.length c1, .slice a2 n2 c2], .int .i64 0, .int .i64 0]) (by simp [results, Tryz.results11, go_sem, z0, z1]) rfl ?_
        have k0 := (Kp.alloc (e := some 28) (b := w.heap.size) w1 (.cells #[.slice a1 l1.length c1, .slice a2 n2 c2] 28)).trans (Kp.of_below hb2)
        have k1 := (k0.trans (Kp.set (i := 0) D1 (.slice a1 l1.length c1))).trans (Kp.set (i := 1) (set_blk (i := 0) D1 (.slice a1 l1.length c1)) (.slice a2 n2 c2))
        exact ⟨a1, l1.length, c1, a2, n2, c2, rfl, fun _ => ⟨l1, l2, unhide HM1, (hc1.mono (by simp)).kp k1 (by decide) (by decide), unhide HM2, (hc2.mono (by simp)).kp k1 (by decide) (by decide) (by decide) (by decide)⟩, by repeat (first | refine Below.setCell ?_ (by simp) _ | exact hB2)⟩
    · have hcl : Rf.classed s.data.toList = (2, 0) := by unfold Rf.classed; rw [if_neg (by omega), if_pos h2]
      have h2' : ((Rf.fil s.data.toList).2.2 == (s.data.toList.length : Int)) = false := by rw [beq_eq_false_iff_ne]; exact h2
      have H2 := hide h2'
      unfold RClsdPost
      rw [hcl]
      clear h2' h2 hlen hcl
      go_enter Tryz.func11, Tryz.ntmps11
      go_wp2_with fail
      refine (unhide HR _).mono ?_
      unfold RReadPost
      rw [unhide H2]
      rintro e w1 ⟨a1, n1, c1, a2, n2, c2, rfl, _, hb1⟩
      have C1 := stay hb1 (alloc_blk w _)
      have hB1 := ((Below.refl w.heap.size w).alloc (Nat.le_refl _) _).trans (hb1.mono (by simp))
      have lt1 := lt_of_block C1
      have z0 := blk_cell C1 0
      have z1 := blk_cell C1 1
      have g0 := blk_free C1 0
      have g1 := blk_free C1 1
      simp at z0 z1
      have s1 := hB1.size
      go_wp2_with fail
      refine bodyPost_ret (v := .tuple #[.agg #[.slice none 0 0, .slice none 0 0], .int .i64 2, .int .i64 0]) (by simp [results, Tryz.results11, go_sem, z0, z1, lt1]) rfl ?_
      exact ⟨none, 0, 0, none, 0, 0, rfl, fun h => absurd h (by decide), by repeat (first | refine Below.alloc ?_ (by simp; omega) _ | refine Below.setCell ?_ (by simp) _ | exact hB1)⟩
end Go.Proofs.YteffpdofcgbokaaGreat
