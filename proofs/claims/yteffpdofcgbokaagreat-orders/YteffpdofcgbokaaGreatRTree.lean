/-
  The walks over stackmap.readTree, stackmap.Fits and stackmap.Join.
-/
import Derived.Test.YteffpdofcgbokaaGreatInCl
namespace Go.Proofs.YteffpdofcgbokaaGreat
open Go.RowKit

theorem rep_all {α : Type} (P : α → Prop) (f : Rd.St → α × Rd.St) (h : ∀ t, P (f t).1) (n : Nat) (t : Rd.St) : ∀ x ∈ (Rd.rep f n t).1, P x := by
  induction n with
  | zero => simp [Rd.rep]
  | succ k ih =>
    intro x hx
    simp only [Rd.rep, List.mem_append, List.mem_singleton] at hx
    rcases hx with hx | hx
    · exact ih x hx
    · rw [hx]; exact h _

theorem read_bd (s : List UInt8) : (Rd.read s).1.classes.length ≤ 6 ∧ ∀ c ∈ (Rd.read s).1.classes, c.fields.length ≤ 1000 := by
  unfold Rd.read
  split
  · simp
  · split
    · simp
    · simp only [Rd.fil]
      refine ⟨?_, ?_⟩
      · rw [Rd.rep_len]
        have := Rd.cn_bd s 0 6 (Rd.ex s 77 (Rd.ex s 83 ⟨0, false⟩)) (by omega)
        omega
      · refine rep_all _ _ (fun t => ?_) _ _
        simp only [Rd.cls]
        rw [tys_len]
        have := Rd.cn_bd s 0 4 (Rd.nx s t).2 (by omega)
        omega

theorem read_err (s : List UInt8) : (Rd.read s).2 = 0 ∨ (Rd.read s).2 = 1 ∨ (Rd.read s).2 = 2 := by
  unfold Rd.read
  split
  · simp
  · split <;> simp
theorem inCl_err (l : List Int) (k : Nat) (cs : List Rd.Cls) : (Tr.inCl l k cs).1 = 0 ∨ (Tr.inCl l k cs).1 = 3 := by
  induction cs generalizing k with
  | nil => simp [Tr.inCl]
  | cons c r ih =>
    unfold Tr.inCl
    split
    · simp
    · split
      · simp
      · exact ih _

/-- readTree's error -/
def Tr.rtErr (f : Rd.Fil × Int) (a b : Int × Int) : Int :=
  if f.2 ≠ 0 then f.2
  else if (Tr.inCl (Tr.tree f.1.classes) 0 f.1.classes).1 ≠ 0 then (Tr.inCl (Tr.tree f.1.classes) 0 f.1.classes).1
  else if Tr.argB (Tr.tree f.1.classes) a.1 a.2 = false then 13
  else if Tr.argB (Tr.tree f.1.classes) b.1 b.2 = false then 13
  else 0

theorem blks3 (w : World) (o0 o1 o2 : Obj) : (((w.alloc o0).alloc o1).alloc o2).heap[w.heap.size]? = some o0 ∧ (((w.alloc o0).alloc o1).alloc o2).heap[w.heap.size + 1]? = some o1 ∧
    (((w.alloc o0).alloc o1).alloc o2).heap[w.heap.size + 1 + 1]? = some o2 := by
  refine ⟨?_, ?_, ?_⟩
  · rw [Below.heap_alloc _ _ _ (by first | (simp; done) | (simp; omega)), Below.heap_alloc _ _ _ (by first | (simp; done) | (simp; omega))]; exact alloc_blk w o0
  · rw [Below.heap_alloc _ _ _ (by first | (simp; done) | (simp; omega))]; simpa using alloc_blk (w.alloc o0) o1
  · simpa using alloc_blk ((w.alloc o0).alloc o1) o2

theorem stay1 {w : World} {k : Nat} {o : Obj} (h : w.heap[k]? = some o) (o' : Obj) : (w.alloc o').heap[k]? = some o := (Below.heap_alloc w o' k (lt_of_block h)).trans h

set_option maxRecDepth 100000 in
set_option maxHeartbeats 4000000 in
theorem readTree_any (s : ByteArray) (k n k' n' : Int) (w : World) (hs : s.size ≤ maxLen) :
    Calls Tryz.prog 91 #[.string s, .agg #[.int .i64 k, .int .i64 n], .agg #[.int .i64 k', .int .i64 n']] w fun e w' =>
      ∃ a m c a' m' c', e = .returned (.tuple #[.agg #[.slice a m c, .slice a' m' c'], .int .i64 (Tr.rtErr (Rd.read s.data.toList) (k, n) (k', n'))]) ∧
        (Tr.rtErr (Rd.read s.data.toList) (k, n) (k', n') = 0 → ∃ g, a = some ⟨g, 0, none⟩ ∧ m = (Tr.tree (Rd.read s.data.toList).1.classes).length ∧ TreeIn w' g (Tr.tree (Rd.read s.data.toList).1.classes)) ∧ Below w.heap.size w w' := by
  have hbd := read_bd s.data.toList
  have her := read_err s.data.toList
  unfold Tr.rtErr
  dsimp only
  generalize hq : Rd.read s.data.toList = q at *
  have HQ := hide hq
  clear hq
  have hin := inCl_err (Tr.tree q.1.classes) 0 q.1.classes
  generalize hT : Tr.tree q.1.classes = T at *
  have HT := hide hT
  clear hT
  by_cases h1 : q.2 = 0
  · rw [if_neg (by omega)]
    generalize hiq : Tr.inCl T 0 q.1.classes = iq at *
    have HIQ := hide hiq
    clear hiq
    by_cases h2 : iq.1 = 0
    · rw [if_neg (by omega)]
      have h1' : (q.2 != 0) = false := by simp [h1]
      have h2' : (iq.1 != 0) = false := by simp [h2]
      have H2 := hide h2
      clear h2
      cases h3 : Tr.argB T k n with
      | false =>
        rw [if_pos rfl]
        have H3 := hide h3
        clear h3
        have H1 := hide h1
        have HER := hide her
        have HIN := hide hin
        clear h1 her hin
        go_enter Tryz.func91, Tryz.ntmps91
        go_wp2_with fail
        refine (read_any s _ hs).mono ?_
        rw [unhide HQ]
        rintro e w1 ⟨a1, n1, c1, a2, n2, c2, rfl, ⟨l, hl, hc⟩, hm, hb1⟩
        have hB1 := (below3 w _ _ _).trans (hb1.mono (by simp; omega))
        have C0 := stay hb1 (blks3 w _ _ _).1
        have C1 := stay hb1 (blks3 w _ _ _).2.1
        have C2 := stay hb1 (blks3 w _ _ _).2.2
        have hl1 : l.length ≤ 6 := by have := hbd.1; rw [← hl] at this; simpa using this
        have hl2 : ∀ p ∈ l, p.1.fields.length ≤ 1000 := fun p hp => hbd.2 _ (by rw [← hl]; exact List.mem_map_of_mem hp)
        have HL := hide hl
        have HBD := hide hbd
        have HL2 := hide hl2
        clear hl hbd hl2
        go_wp2_with fail
        refine (inClasses_any a1 a2 n1 c1 n2 c2 _ l _ hl1 (unhide HL2) (hc.kp (Kp.alloc (e := none) _ _) (by decide) (by decide))).mono ?_
        rw [unhide HL, unhide HT, unhide HIQ]
        rintro e w2 ⟨rfl, hb2⟩
        have hs1 := hB1.size
        have hB2 := (hB1.alloc hs1 (.cells #[.slice a1 n1 c1, .slice a2 n2 c2] 38)).trans (hb2.mono (by simp; omega))
        have C3 := stay hb2 (alloc_blk w1 _)
        have D0 := stay hb2 (stay1 C0 _)
        have D1 := stay hb2 (stay1 C1 _)
        have D2 := stay hb2 (stay1 C2 _)
        have hs2 := hB2.size
        have ls0 := lt_of_block D0
        have ls1 := lt_of_block D1
        have ls2 := lt_of_block D2
        have ls3 := lt_of_block C3
        have r0 := blk_cell D2 0
        have r9 := blk_cell D2 1
        have f9 := blk_free D2 1
        have f0 := blk_free D2 0
        have x0 := blk_cell C3 0
        have x1 := blk_cell C3 1
        simp at r0 r9 x0 x1
        go_wp2_with fail
        refine (treeOf_any a1 a2 n1 c1 n2 c2 _ l _ hl1 ((hc.kp ((Kp.alloc (e := none) _ _).trans (Kp.of_below hb2)) (by decide) (by decide)).kp (Kp.alloc (e := none) _ _) (by decide) (by decide))).mono ?_
        rw [unhide HL, unhide HT]
        rintro e w3 ⟨g, cap, ya, yn, yc, rfl, hTr, hFs, hg3, hb3⟩
        clear hFs
        have hB3 := (hB2.alloc hs2 _).trans (hb3.mono (by simp; omega))
        have E0 := stay hb3 (stay1 D0 _)
        have E1 := stay hb3 (stay1 D1 _)
        have E2 := stay hb3 (stay1 D2 _)
        have hs3 := hB3.size
        have lt0 := lt_of_block E0
        have lt1 := lt_of_block E1
        have lt2 := lt_of_block E2
        have t0 := blk_cell E0 0
        have t1 := blk_cell E0 1
        have u0 := blk_cell E1 0
        have u1 := blk_cell E1 1
        simp at t0 t1 u0 u1
        clear r0 r9 f9 f0 x0 x1 hb2 hb3 C3 D0 D1 D2 hB1 hB2 C0 C1 C2 hb1
        go_wp2_with fail
        refine (isArgument_any T (some ⟨g, 0, none⟩) cap k n _).mono ?_
        rw [unhide H3]
        rintro e w4 ⟨rfl, hb4⟩
        have hB4 := (hB3.alloc hs3 _).trans (hb4.mono (by simp; omega))
        have hs4 := hB4.size
        have F1 := stay hb4 (stay1 E1 _)
        have F2 := stay hb4 (stay1 E2 _)
        have F3 := stay hb4 (alloc_blk w3 _)
        have hT4 := (hTr.alloc _).below hb4
        have v0 := blk_cell F1 0
        have v1 := blk_cell F1 1
        have z0 := blk_cell F2 0
        have z9 := blk_cell F2 1
        have z8 := blk_free F2 1
        have z1 := blk_free F2 0
        have y0 := blk_cell F3 0
        have y9 := blk_cell F3 1
        have m1 := lt_of_block F1
        have m2 := lt_of_block F2
        have m3 := lt_of_block F3
        simp at v0 v1 z0 z9 y0 y9
        clear t0 t1 u0 u1 hb4 E0 E1 E2 F1
        go_wp2_with fail
        refine bodyPost_ret (v := .tuple #[.agg #[.slice none 0 0, .slice none 0 0], .int .i64 13]) (by simp [results, Tryz.results91, go_sem, z0, z9]) rfl ?_
        exact ⟨none, 0, 0, none, 0, 0, rfl, fun h => absurd h (by decide), (hB4.setCell (by simp; omega) _).setCell (by simp; omega) _⟩
      | true =>
        rw [if_neg (by simp)]
        have H3 := hide h3
        clear h3
        cases h4 : Tr.argB T k' n' with
        | false =>
          rw [if_pos rfl]
          have H4 := hide h4
          clear h4
          have H1 := hide h1
          have HER := hide her
          have HIN := hide hin
          clear h1 her hin
          go_enter Tryz.func91, Tryz.ntmps91
          go_wp2_with fail
          refine (read_any s _ hs).mono ?_
          rw [unhide HQ]
          rintro e w1 ⟨a1, n1, c1, a2, n2, c2, rfl, ⟨l, hl, hc⟩, hm, hb1⟩
          have hB1 := (below3 w _ _ _).trans (hb1.mono (by simp; omega))
          have C0 := stay hb1 (blks3 w _ _ _).1
          have C1 := stay hb1 (blks3 w _ _ _).2.1
          have C2 := stay hb1 (blks3 w _ _ _).2.2
          have hl1 : l.length ≤ 6 := by have := hbd.1; rw [← hl] at this; simpa using this
          have hl2 : ∀ p ∈ l, p.1.fields.length ≤ 1000 := fun p hp => hbd.2 _ (by rw [← hl]; exact List.mem_map_of_mem hp)
          have HL := hide hl
          have HBD := hide hbd
          have HL2 := hide hl2
          clear hl hbd hl2
          go_wp2_with fail
          refine (inClasses_any a1 a2 n1 c1 n2 c2 _ l _ hl1 (unhide HL2) (hc.kp (Kp.alloc (e := none) _ _) (by decide) (by decide))).mono ?_
          rw [unhide HL, unhide HT, unhide HIQ]
          rintro e w2 ⟨rfl, hb2⟩
          have hs1 := hB1.size
          have hB2 := (hB1.alloc hs1 (.cells #[.slice a1 n1 c1, .slice a2 n2 c2] 38)).trans (hb2.mono (by simp; omega))
          have C3 := stay hb2 (alloc_blk w1 _)
          have D0 := stay hb2 (stay1 C0 _)
          have D1 := stay hb2 (stay1 C1 _)
          have D2 := stay hb2 (stay1 C2 _)
          have hs2 := hB2.size
          have ls0 := lt_of_block D0
          have ls1 := lt_of_block D1
          have ls2 := lt_of_block D2
          have ls3 := lt_of_block C3
          have r0 := blk_cell D2 0
          have r9 := blk_cell D2 1
          have f9 := blk_free D2 1
          have f0 := blk_free D2 0
          have x0 := blk_cell C3 0
          have x1 := blk_cell C3 1
          simp at r0 r9 x0 x1
          go_wp2_with fail
          refine (treeOf_any a1 a2 n1 c1 n2 c2 _ l _ hl1 ((hc.kp ((Kp.alloc (e := none) _ _).trans (Kp.of_below hb2)) (by decide) (by decide)).kp (Kp.alloc (e := none) _ _) (by decide) (by decide))).mono ?_
          rw [unhide HL, unhide HT]
          rintro e w3 ⟨g, cap, ya, yn, yc, rfl, hTr, hFs, hg3, hb3⟩
          clear hFs
          have hB3 := (hB2.alloc hs2 _).trans (hb3.mono (by simp; omega))
          have E0 := stay hb3 (stay1 D0 _)
          have E1 := stay hb3 (stay1 D1 _)
          have E2 := stay hb3 (stay1 D2 _)
          have hs3 := hB3.size
          have lt0 := lt_of_block E0
          have lt1 := lt_of_block E1
          have lt2 := lt_of_block E2
          have t0 := blk_cell E0 0
          have t1 := blk_cell E0 1
          have u0 := blk_cell E1 0
          have u1 := blk_cell E1 1
          simp at t0 t1 u0 u1
          clear r0 r9 f9 f0 x0 x1 hb2 hb3 C3 D0 D1 D2 hB1 hB2 C0 C1 C2 hb1
          go_wp2_with fail
          refine (isArgument_any T (some ⟨g, 0, none⟩) cap k n _).mono ?_
          rw [unhide H3]
          rintro e w4 ⟨rfl, hb4⟩
          have hB4 := (hB3.alloc hs3 _).trans (hb4.mono (by simp; omega))
          have hs4 := hB4.size
          have F1 := stay hb4 (stay1 E1 _)
          have F2 := stay hb4 (stay1 E2 _)
          have F3 := stay hb4 (alloc_blk w3 _)
          have hT4 := (hTr.alloc _).below hb4
          have v0 := blk_cell F1 0
          have v1 := blk_cell F1 1
          have z0 := blk_cell F2 0
          have z9 := blk_cell F2 1
          have z8 := blk_free F2 1
          have z1 := blk_free F2 0
          have y0 := blk_cell F3 0
          have y9 := blk_cell F3 1
          have m1 := lt_of_block F1
          have m2 := lt_of_block F2
          have m3 := lt_of_block F3
          simp at v0 v1 z0 z9 y0 y9
          clear t0 t1 u0 u1 hb4 E0 E1 E2 F1
          go_wp2_with fail
          clear v0 v1 z0 z9 z8 z1 y0 y9 m1 m2 m3
          refine (isArgument_any T (some ⟨g, 0, none⟩) cap k' n' _).mono ?_
          rw [unhide H4]
          rintro e w5 ⟨rfl, hb5⟩
          have hB5 := hB4.trans (hb5.mono hs4)
          have hT5 := hT4.below hb5
          have G2 := stay hb5 F2
          have G3 := stay hb5 F3
          have z0 := blk_cell G2 0
          have z9 := blk_cell G2 1
          have z8 := blk_free G2 1
          have z1 := blk_free G2 0
          have y0 := blk_cell G3 0
          have y9 := blk_cell G3 1
          have m2 := lt_of_block G2
          have m3 := lt_of_block G3
          simp at z0 z9 y0 y9
          go_wp2_with fail
          refine bodyPost_ret (v := .tuple #[.agg #[.slice none 0 0, .slice none 0 0], .int .i64 13]) (by simp [results, Tryz.results91, go_sem, z0, z9]) rfl ?_
          exact ⟨none, 0, 0, none, 0, 0, rfl, fun h => absurd h (by decide), (hB5.setCell (by simp; omega) _).setCell (by simp; omega) _⟩
        | true =>
          rw [if_neg (by simp)]
          have H4 := hide h4
          clear h4
          have H1 := hide h1
          have HER := hide her
          have HIN := hide hin
          clear h1 her hin
          go_enter Tryz.func91, Tryz.ntmps91
          go_wp2_with fail
          refine (read_any s _ hs).mono ?_
          rw [unhide HQ]
          rintro e w1 ⟨a1, n1, c1, a2, n2, c2, rfl, ⟨l, hl, hc⟩, hm, hb1⟩
          have hB1 := (below3 w _ _ _).trans (hb1.mono (by simp; omega))
          have C0 := stay hb1 (blks3 w _ _ _).1
          have C1 := stay hb1 (blks3 w _ _ _).2.1
          have C2 := stay hb1 (blks3 w _ _ _).2.2
          have hl1 : l.length ≤ 6 := by have := hbd.1; rw [← hl] at this; simpa using this
          have hl2 : ∀ p ∈ l, p.1.fields.length ≤ 1000 := fun p hp => hbd.2 _ (by rw [← hl]; exact List.mem_map_of_mem hp)
          have HL := hide hl
          have HBD := hide hbd
          have HL2 := hide hl2
          clear hl hbd hl2
          go_wp2_with fail
          refine (inClasses_any a1 a2 n1 c1 n2 c2 _ l _ hl1 (unhide HL2) (hc.kp (Kp.alloc (e := none) _ _) (by decide) (by decide))).mono ?_
          rw [unhide HL, unhide HT, unhide HIQ]
          rintro e w2 ⟨rfl, hb2⟩
          have hs1 := hB1.size
          have hB2 := (hB1.alloc hs1 (.cells #[.slice a1 n1 c1, .slice a2 n2 c2] 38)).trans (hb2.mono (by simp; omega))
          have C3 := stay hb2 (alloc_blk w1 _)
          have D0 := stay hb2 (stay1 C0 _)
          have D1 := stay hb2 (stay1 C1 _)
          have D2 := stay hb2 (stay1 C2 _)
          have hs2 := hB2.size
          have ls0 := lt_of_block D0
          have ls1 := lt_of_block D1
          have ls2 := lt_of_block D2
          have ls3 := lt_of_block C3
          have r0 := blk_cell D2 0
          have r9 := blk_cell D2 1
          have f9 := blk_free D2 1
          have f0 := blk_free D2 0
          have x0 := blk_cell C3 0
          have x1 := blk_cell C3 1
          simp at r0 r9 x0 x1
          go_wp2_with fail
          refine (treeOf_any a1 a2 n1 c1 n2 c2 _ l _ hl1 ((hc.kp ((Kp.alloc (e := none) _ _).trans (Kp.of_below hb2)) (by decide) (by decide)).kp (Kp.alloc (e := none) _ _) (by decide) (by decide))).mono ?_
          rw [unhide HL, unhide HT]
          rintro e w3 ⟨g, cap, ya, yn, yc, rfl, hTr, hFs, hg3, hb3⟩
          clear hFs
          have hB3 := (hB2.alloc hs2 _).trans (hb3.mono (by simp; omega))
          have E0 := stay hb3 (stay1 D0 _)
          have E1 := stay hb3 (stay1 D1 _)
          have E2 := stay hb3 (stay1 D2 _)
          have hs3 := hB3.size
          have lt0 := lt_of_block E0
          have lt1 := lt_of_block E1
          have lt2 := lt_of_block E2
          have t0 := blk_cell E0 0
          have t1 := blk_cell E0 1
          have u0 := blk_cell E1 0
          have u1 := blk_cell E1 1
          simp at t0 t1 u0 u1
          clear r0 r9 f9 f0 x0 x1 hb2 hb3 C3 D0 D1 D2 hB1 hB2 C0 C1 C2 hb1
          go_wp2_with fail
          refine (isArgument_any T (some ⟨g, 0, none⟩) cap k n _).mono ?_
          rw [unhide H3]
          rintro e w4 ⟨rfl, hb4⟩
          have hB4 := (hB3.alloc hs3 _).trans (hb4.mono (by simp; omega))
          have hs4 := hB4.size
          have F1 := stay hb4 (stay1 E1 _)
          have F2 := stay hb4 (stay1 E2 _)
          have F3 := stay hb4 (alloc_blk w3 _)
          have hT4 := (hTr.alloc _).below hb4
          have v0 := blk_cell F1 0
          have v1 := blk_cell F1 1
          have z0 := blk_cell F2 0
          have z9 := blk_cell F2 1
          have z8 := blk_free F2 1
          have z1 := blk_free F2 0
          have y0 := blk_cell F3 0
          have y9 := blk_cell F3 1
          have m1 := lt_of_block F1
          have m2 := lt_of_block F2
          have m3 := lt_of_block F3
          simp at v0 v1 z0 z9 y0 y9
          clear t0 t1 u0 u1 hb4 E0 E1 E2 F1
          go_wp2_with fail
          clear v0 v1 z0 z9 z8 z1 y0 y9 m1 m2 m3
          refine (isArgument_any T (some ⟨g, 0, none⟩) cap k' n' _).mono ?_
          rw [unhide H4]
          rintro e w5 ⟨rfl, hb5⟩
          have hB5 := hB4.trans (hb5.mono hs4)
          have hT5 := hT4.below hb5
          have G2 := stay hb5 F2
          have G3 := stay hb5 F3
          have z0 := blk_cell G2 0
          have z9 := blk_cell G2 1
          have z8 := blk_free G2 1
          have z1 := blk_free G2 0
          have y0 := blk_cell G3 0
          have y9 := blk_cell G3 1
          have m2 := lt_of_block G2
          have m3 := lt_of_block G3
          simp at z0 z9 y0 y9
          go_wp2_with fail
          refine bodyPost_ret (v := .tuple #[.agg #[.slice (some ⟨g, 0, none⟩) T.length cap, .slice ya yn yc], .int .i64 0]) (by simp [results, Tryz.results91, go_sem, z0, z9]) rfl ?_
          refine ⟨_, _, _, _, _, _, rfl, fun _ => ⟨g, rfl, rfl, ?_⟩, (hB5.setCell (by simp; omega) _).setCell (by simp; omega) _⟩
          have hgb : g ≠ w.heap.size + 1 + 1 := by simp at hg3; omega
          refine ⟨by simpa using hT5.1, fun i hi => ?_⟩
          rw [World.cell?_of_block (w := w5) ((Below.heap_setCell _ _ _ g (by simpa using hgb)).trans (Below.heap_setCell w5 _ _ g (by simpa using hgb)))]
          exact hT5.2 i hi
    · rw [if_pos h2]
      have h2' : (iq.1 != 0) = true := by simp [h2]
      have h1' : (q.2 != 0) = false := by simp [h1]
      have H2 := hide h2
      clear h2
      have H1 := hide h1
      have HER := hide her
      have HIN := hide hin
      clear h1 her hin
      go_enter Tryz.func91, Tryz.ntmps91
      go_wp2_with fail
      refine (read_any s _ hs).mono ?_
      rw [unhide HQ]
      rintro e w1 ⟨a1, n1, c1, a2, n2, c2, rfl, ⟨l, hl, hc⟩, hm, hb1⟩
      have hB1 := (below3 w _ _ _).trans (hb1.mono (by simp; omega))
      have C0 := stay hb1 (blks3 w _ _ _).1
      have C1 := stay hb1 (blks3 w _ _ _).2.1
      have C2 := stay hb1 (blks3 w _ _ _).2.2
      have hl1 : l.length ≤ 6 := by have := hbd.1; rw [← hl] at this; simpa using this
      have hl2 : ∀ p ∈ l, p.1.fields.length ≤ 1000 := fun p hp => hbd.2 _ (by rw [← hl]; exact List.mem_map_of_mem hp)
      have HL := hide hl
      have HBD := hide hbd
      have HL2 := hide hl2
      clear hl hbd hl2
      go_wp2_with fail
      refine (inClasses_any a1 a2 n1 c1 n2 c2 _ l _ hl1 (unhide HL2) (hc.kp (Kp.alloc (e := none) _ _) (by decide) (by decide))).mono ?_
      rw [unhide HL, unhide HT, unhide HIQ]
      rintro e w2 ⟨rfl, hb2⟩
      have hs1 := hB1.size
      have hB2 := (hB1.alloc hs1 (.cells #[.slice a1 n1 c1, .slice a2 n2 c2] 38)).trans (hb2.mono (by simp; omega))
      have C3 := stay hb2 (alloc_blk w1 _)
      have D0 := stay hb2 (stay1 C0 _)
      have D1 := stay hb2 (stay1 C1 _)
      have D2 := stay hb2 (stay1 C2 _)
      have hs2 := hB2.size
      have ls0 := lt_of_block D0
      have ls1 := lt_of_block D1
      have ls2 := lt_of_block D2
      have ls3 := lt_of_block C3
      have r0 := blk_cell D2 0
      have r9 := blk_cell D2 1
      have f9 := blk_free D2 1
      have f0 := blk_free D2 0
      simp at r0 r9
      go_wp2_with fail
      go_region
      all_goals (try go_wp2)
      refine bodyPost_ret (v := .tuple #[.agg #[.slice none 0 0, .slice none 0 0], .int .i64 iq.1]) (by simp [results, Tryz.results91, go_sem, r0, r9, ls2]) rfl ?_
      exact ⟨none, 0, 0, none, 0, 0, rfl, fun h => absurd h (unhide H2), by repeat (first | exact hB2 | refine Below.drew ?_ | refine Below.alloc ?_ (by simp; omega) _ | refine Below.setCell ?_ (by simp; omega) _)⟩
  · rw [if_pos h1]
    have h1' : (q.2 != 0) = true := by simp [h1]
    have H1 := hide h1
    have HER := hide her
    have HIN := hide hin
    have HBD := hide hbd
    clear h1 her hin hbd
    go_enter Tryz.func91, Tryz.ntmps91
    go_wp2_with fail
    refine (read_any s _ hs).mono ?_
    rw [unhide HQ]
    rintro e w1 ⟨a1, n1, c1, a2, n2, c2, rfl, hc, hm, hb1⟩
    have hB1 := (below3 w _ _ _).trans (hb1.mono (by simp; omega))
    have C2 := stay hb1 (blks3 w _ _ _).2.2
    have r0 := blk_cell C2 0
    have r9 := blk_cell C2 1
    have f9 := blk_free C2 1
    have f0 := blk_free C2 0
    have lt2 := lt_of_block C2
    simp at r0 r9
    go_wp2_with fail
    refine bodyPost_ret (v := .tuple #[.agg #[.slice none 0 0, .slice none 0 0], .int .i64 q.2]) (by simp [results, Tryz.results91, go_sem, r0, r9, lt2]) rfl ?_
    exact ⟨none, 0, 0, none, 0, 0, rfl, fun h => absurd h (unhide H1), ((hB1.setCell (by simp; omega) _).setCell (by simp; omega) _).alloc (by simp; have := hB1.size; omega) _⟩
end Go.Proofs.YteffpdofcgbokaaGreat
