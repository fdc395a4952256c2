/-
  The walk over stackmap.read.
-/
import Derived.Test.YteffpdofcgbokaaGreatPk11

namespace Go.Proofs.YteffpdofcgbokaaGreat
open Go.RowKit

theorem list_fst {α β : Type} {l : List (α × β)} {r : List α} (h : l.map Prod.fst = r) {P : α → Prop} (hp : ∀ x ∈ r, P x) : ∀ p ∈ l, P p.1 := by
  intro p hpm
  refine hp p.1 ?_
  rw [← h]
  exact List.mem_map_of_mem hpm

theorem bodies_zero {T : List Int} {nf : Int} {ow : List Int} : ∀ (l : List Rd.Mth) (k : Nat), (Pf.bodies T nf ow k l).1 = 0 → Pf.bodies T nf ow k l = (0, 0, 0) := by
  intro l
  induction l with
  | nil => intro k _; rfl
  | cons m r ih =>
    intro k h
    unfold Pf.bodies at h ⊢
    by_cases h0 : (Pf.body T nf ow m).1 ≠ 0
    · rw [if_pos h0] at h
      exact absurd h h0
    · rw [if_neg h0] at h ⊢
      exact ih _ h
theorem find_zero (f : Rd.Fil) (h : (Pf.find f).1 = 0) : Pf.find f = (0, 0, 0) := by
  unfold Pf.find at h ⊢
  by_cases h1 : (Tr.inCl (Tr.tree f.classes) 0 f.classes).1 ≠ 0
  · rw [if_pos h1] at h
    exact absurd h h1
  · rw [if_neg h1] at h ⊢
    unfold Pf.rest at h ⊢
    by_cases h2 : 0 ≤ Pf.heads (Tr.tree f.classes) f.methods 0 f.methods
    · rw [if_pos h2] at h
      simp at h
    · rw [if_neg h2] at h ⊢
      exact bodies_zero _ _ h

set_option maxRecDepth 100000 in
set_option maxHeartbeats 40000000 in
theorem sread_any (s : ByteArray) (w : World) (hs : s.size ≤ maxLen) :
    Calls Tryz.prog 18 #[.string s] w fun e w' =>
      ∃ a1 n1 c1 a2 n2 c2, e = .returned (.tuple #[.agg #[.slice a1 n1 c1, .slice a2 n2 c2], .agg #[.int .i64 (Pf.read s.data.toList).1, .int .i64 (Pf.read s.data.toList).2.1, .int .i64 (Pf.read s.data.toList).2.2]]) ∧
        ((Pf.read s.data.toList).1 = 0 → ∃ lcs lms, lcs.map Prod.fst = (Rd.read s.data.toList).1.classes ∧ ClssIn w' w.heap.size (.slice a1 n1 c1) lcs ∧ lms.map Prod.fst = (Rd.read s.data.toList).1.methods ∧ MthsIn w' w.heap.size (.slice a2 n2 c2) lms) ∧ Below w.heap.size w w' := by
  have hRd := fun w => read_any s w hs
  obtain ⟨hm6, hmb⟩ := read_mbd s.data.toList
  obtain ⟨hc6, hcf⟩ := read_bd s.data.toList
  have hPz : (Pf.read s.data.toList).1 = 0 → Pf.read s.data.toList = (0, 0, 0) := by
    intro h
    unfold Pf.read at h ⊢
    by_cases h1 : (Rd.read s.data.toList).2 ≠ 0
    · rw [if_pos h1] at h
      exact absurd h h1
    · rw [if_neg h1] at h ⊢
      exact find_zero _ h
  generalize hP : Pf.read s.data.toList = P at *
  unfold Pf.read at hP
  generalize Rd.read s.data.toList = q at *
  obtain ⟨⟨cs, ms⟩, er⟩ := q
  obtain ⟨P1, P2, P3⟩ := P
  simp only [Prod.mk.injEq] at hRd hm6 hmb hc6 hcf hP hPz ⊢
  have HPZ := hide hPz
  clear hPz
  have HRD := hide hRd
  have HMB := hide hmb
  have HCF := hide hcf
  clear hRd hmb hcf
  have hB0 := below2 w (.cells #[.slice none 0 0, .slice none 0 0] 38) (.cells #[.int .i64 0, .int .i64 0, .int .i64 0] 40)
  have C0 := alloc1_blk w (.cells #[.slice none 0 0, .slice none 0 0] 38) (.cells #[.int .i64 0, .int .i64 0, .int .i64 0] 40)
  have D0 := alloc2_blk w (.cells #[.slice none 0 0, .slice none 0 0] 38) (.cells #[.int .i64 0, .int .i64 0, .int .i64 0] 40)
  by_cases h1 : er = 0
  · subst h1
    rw [if_neg (by simp)] at hP
    have HP := hide hP
    clear hP
    go_enter Tryz.func18, Tryz.ntmps18
    go_wp2_with fail
    refine (unhide HRD _).mono ?_
    rintro e w1 ⟨a1, n1, c1, a2, n2, c2, rfl, ⟨lcs, hl1, hcs⟩, ⟨lms, hl2, hms⟩, hb1⟩
    obtain ⟨xa, xc, hsh⟩ := own_shape hcs.1
    simp only [Value.slice.injEq] at hsh
    obtain ⟨rfl, rfl, rfl⟩ := hsh
    obtain ⟨xa, xc, hsh⟩ := own_shape hms.1
    simp only [Value.slice.injEq] at hsh
    obtain ⟨rfl, rfl, rfl⟩ := hsh
    have hB1 := hB0.trans (hb1.mono hB0.size)
    have hs1 := hB1.size
    have C1 := stay hb1 C0
    have D1 := stay hb1 D0
    have lC := lt_of_block C1
    have lD := lt_of_block D1
    have hcs' : ClssIn w1 (w.heap.size + 1 + 1) (.slice a1 lcs.length c1) lcs := by simpa using hcs
    have hms' : MthsIn w1 (w.heap.size + 1 + 1) (.slice a2 lms.length c2) lms := by simpa using hms
    have hK1 : Kp none (w.heap.size + 1 + 1) w1 (w1.alloc (.cells #[.slice a1 lcs.length c1, .slice a2 lms.length c2] 38)) := Kp.alloc _ _
    have hfi := Find_any a1 a2 c1 c2 lcs lms (w.heap.size + 1 + 1) (w1.alloc (.cells #[.slice a1 lcs.length c1, .slice a2 lms.length c2] 38))
      (by have := congrArg List.length hl2; simp at this; omega) (by have := congrArg List.length hl1; simp at this; omega) (list_fst hl1 (unhide HCF)) (hcs'.kp hK1 (by decide) (by decide)) (hms'.kp hK1 (by decide) (by decide) (by decide) (by decide) (by decide)) (list_fst hl2 (unhide HMB))
    rw [hl1, hl2, unhide HP] at hfi
    have HFI := hide hfi
    have hB1' := hB1.alloc hs1 (.cells #[.slice a1 lcs.length c1, .slice a2 lms.length c2] 38)
    have C1' := stay1 C1 (.cells #[.slice a1 lcs.length c1, .slice a2 lms.length c2] 38)
    have D1' := stay1 D1 (.cells #[.slice a1 lcs.length c1, .slice a2 lms.length c2] 38)
    have E1' := alloc_blk w1 (.cells #[.slice a1 lcs.length c1, .slice a2 lms.length c2] 38)
    clear hfi hcs hms hb1 C0 D0 hB0 C1 D1 hK1
    go_wp2_with fail
    refine (unhide HFI).mono ?_
    rintro e w2 ⟨rfl, hb2⟩
    have hB2 := hB1'.trans (hb2.mono hB1'.size)
    have C2 := stay hb2 C1'
    have D2 := stay hb2 D1'
    have E2 := stay hb2 E1'
    have hcs2 := (hcs'.kp (Kp.alloc (e := none) w1 (.cells #[.slice a1 lcs.length c1, .slice a2 lms.length c2] 38)) (by decide) (by decide)).kp (Kp.of_below (e := none) hb2) (by decide) (by decide)
    have hms2 := (hms'.kp (Kp.alloc (e := none) w1 (.cells #[.slice a1 lcs.length c1, .slice a2 lms.length c2] 38)) (by decide) (by decide) (by decide) (by decide) (by decide)).kp (Kp.of_below (e := none) hb2) (by decide) (by decide) (by decide) (by decide) (by decide)
    have hs2 := hB2.size
    have lC2 := lt_of_block C2
    have lD2 := lt_of_block D2
    have lE2 := lt_of_block E2
    have x0 := blk_cell E2 0
    have x1 := blk_cell E2 1
    have y0 := blk_cell C2 0
    have y1 := blk_cell C2 1
    have z0 := blk_cell D2 0
    have z1 := blk_cell D2 1
    have z2 := blk_cell D2 2
    have p0 := blk_free C2 0
    have p1 := blk_free C2 1
    have q0 := blk_free D2 0
    have q1 := blk_free D2 1
    have q2 := blk_free D2 2
    simp at x0 x1 y0 y1 z0 z1 z2
    clear C1' D1' E1' hB1' hb2
    by_cases h2 : P1 = 0
    · obtain ⟨-, rfl, rfl⟩ := unhide HPZ h2
      subst h2
      go_wp2_with fail
      refine bodyPost_ret (v := .tuple #[.agg #[.slice a1 lcs.length c1, .slice a2 lms.length c2], .agg #[.int .i64 0, .int .i64 0, .int .i64 0]]) (by simp [results, Tryz.results18, go_sem, y0, y1, z0, z1, z2, lC2, lD2]) rfl ?_
      have k1 : Kp none (w.heap.size + 1 + 1) w2 ((((((w2.setCell ⟨w.heap.size, 0, none⟩ (.slice a1 lcs.length c1)).setCell ⟨w.heap.size, 1, none⟩ (.slice a2 lms.length c2)).setCell ⟨w.heap.size + 1, 0, none⟩ (.int .i64 0)).setCell ⟨w.heap.size + 1, 1, none⟩ (.int .i64 0)).setCell ⟨w.heap.size + 1, 2, none⟩ (.int .i64 0)).alloc (.cells #[.int .i64 0, .int .i64 0, .int .i64 0] 40)) :=
        (((((Kp.set_lo (by omega) _).trans (Kp.set_lo (by omega) _)).trans (Kp.set_lo (by omega) _)).trans (Kp.set_lo (by omega) _)).trans (Kp.set_lo (by omega) _)).trans (Kp.alloc _ _)
      refine ⟨a1, lcs.length, c1, a2, lms.length, c2, rfl, ?_, ?_⟩
      · first | intro _; exact ⟨lcs, lms, hl1, (hcs2.kp k1 (by decide) (by decide)).mono (by omega), hl2, (hms2.kp k1 (by decide) (by decide) (by decide) (by decide) (by decide)).mono (by omega)⟩ | exact ⟨lcs, hl1, (hcs2.kp k1 (by decide) (by decide)).mono (by omega), lms, hl2, (hms2.kp k1 (by decide) (by decide) (by decide) (by decide) (by decide)).mono (by omega)⟩
      · exact (((((hB2.setCell (by simp) _).setCell (by simp) _).setCell (by simp) _).setCell (by simp) _).setCell (by simp) _).alloc (by simp; omega) _
    · have h2' : (P1 != 0) = true := by simpa using h2
      go_wp2
      have H2 := hide h2
      clear h2
      go_region
      go_wp2_with fail
      refine bodyPost_ret (v := .tuple #[.agg #[.slice none 0 0, .slice none 0 0], .agg #[.int .i64 P1, .int .i64 P2, .int .i64 P3]]) (by simp [results, Tryz.results18, go_sem, y0, y1, z0, z1, z2, lC2, lD2]) rfl ?_
      refine ⟨none, 0, 0, none, 0, 0, rfl, fun h => absurd h (unhide H2), ?_⟩
      exact ((((((hB2.setCell (by simp) _).setCell (by simp) _).setCell (by simp) _).setCell (by simp) _).setCell (by simp) _).alloc (by simp; omega) _).drew
  · rw [if_pos h1] at hP
    have h1' : (er != 0) = true := by simpa using h1
    simp only [Prod.mk.injEq] at hP
    obtain ⟨rfl, rfl, rfl⟩ := hP
    have H1 := hide h1
    clear h1 HPZ
    go_enter Tryz.func18, Tryz.ntmps18
    go_wp2_with fail
    refine (unhide HRD _).mono ?_
    rintro e w1 ⟨a1, n1, c1, a2, n2, c2, rfl, -, -, hb1⟩
    have hB1 := hB0.trans (hb1.mono hB0.size)
    have hs1 := hB1.size
    have C1 := stay hb1 C0
    have D1 := stay hb1 D0
    have lC2 := lt_of_block C1
    have lD2 := lt_of_block D1
    have y0 := blk_cell C1 0
    have y1 := blk_cell C1 1
    have z0 := blk_cell D1 0
    have z1 := blk_cell D1 1
    have z2 := blk_cell D1 2
    have p0 := blk_free C1 0
    have p1 := blk_free C1 1
    have q0 := blk_free D1 0
    have q1 := blk_free D1 1
    have q2 := blk_free D1 2
    simp at y0 y1 z0 z1 z2
    go_wp2_with fail
    refine bodyPost_ret (v := .tuple #[.agg #[.slice none 0 0, .slice none 0 0], .agg #[.int .i64 er, .int .i64 0, .int .i64 0]]) (by simp [results, Tryz.results18, go_sem, y0, y1, z0, z1, z2, lC2, lD2]) rfl ?_
    refine ⟨none, 0, 0, none, 0, 0, rfl, fun h => absurd h (unhide H1), ?_⟩
    exact (((((hB1.setCell (by simp) _).setCell (by simp) _).setCell (by simp) _).setCell (by simp) _).setCell (by simp) _).alloc (by simp; omega) _
end Go.Proofs.YteffpdofcgbokaaGreat

/-
  The walk over stackmap.Strip: its answer is the document's.
-/
namespace Go.Proofs.YteffpdofcgbokaaGreat
open Go.RowKit

theorem flat_le {α : Type} (f : α → List UInt8) (c : Nat) (l : List α) (h : ∀ x ∈ l, (f x).length ≤ c) : (l.flatMap f).length ≤ l.length * c := by
  induction l with
  | nil => simp
  | cons x r ih =>
    have h1 := h x (List.mem_cons_self ..)
    have h2 := ih (fun y hy => h y (List.mem_cons_of_mem _ hy))
    simp only [List.flatMap_cons, List.length_append, List.length_cons, Nat.add_mul]
    omega
/-- the bytes of the file without maps are not many -/
theorem strip_size (s : ByteArray) : (Wr.fil (Rd.Fil.bare (Rd.read s.data.toList).1)).length ≤ 100000 := by
  obtain ⟨hm6, hmb⟩ := read_mbd s.data.toList
  obtain ⟨hc6, hcf⟩ := read_bd s.data.toList
  generalize (Rd.read s.data.toList).1 = f at *
  obtain ⟨cs, ms⟩ := f
  simp only at hm6 hmb hc6 hcf
  unfold Wr.fil Wr.front Rd.Fil.bare
  simp only [List.length_append, List.length_cons, List.length_nil]
  have h1 := flat_le Wr.cls 2002 cs (fun x hx => by have := hcf x hx; simp only [Wr.cls, List.length_cons, Wr.tys_len]; omega)
  have h2 := flat_le Wr.mth 200 (ms.map Rd.Mth.bare) (fun x hx => by
    simp only [List.mem_map] at hx
    obtain ⟨y, hy, rfl⟩ := hx
    have := hmb y hy
    have e1 := this.ps
    have e2 := this.code
    have e3 := this.hs
    rw [Wr.mth_len]
    simp only [Rd.Mth.bare, Wr.hnds, Wr.mps, List.length_cons, Wr.hs_len, List.flatMap_nil, List.length_nil]
    omega)
  rw [List.length_map] at h2
  omega

set_option maxRecDepth 100000 in
set_option maxHeartbeats 16000000 in
theorem Strip_any (s : ByteArray) (w : World) (hs : s.size ≤ maxLen) :
    Calls Tryz.prog 32 #[.string s] w fun e w' => e = .returned (.tuple #[.string (Rf.stripD s), .int .i64 (Rf.formed s.data.toList).1]) ∧ Below w.heap.size w w' := by
  have hrd := fun w => sread_any s w hs
  have hfm := read_formed s.data.toList
  have hse := strip_eq s
  have hsz := strip_size s
  have hno : (Rf.formed s.data.toList).1 ≠ 0 → Rf.stripD s = ⟨#[]⟩ := fun h => by unfold Rf.stripD; rw [if_pos h]
  obtain ⟨hm6, -⟩ := read_mbd s.data.toList
  obtain ⟨hc6, -⟩ := read_bd s.data.toList
  rw [hfm] at hrd
  generalize Rf.stripD s = R at *
  generalize Rf.formed s.data.toList = P at *
  generalize Rd.read s.data.toList = q at *
  obtain ⟨P1, P2, P3⟩ := P
  obtain ⟨⟨cs, ms⟩, er⟩ := q
  simp only at hrd hse hsz hno hm6 hc6 ⊢
  have HRD := hide hrd
  have HSE := hide hse
  have HSZ := hide hsz
  have HNO := hide hno
  clear hrd hse hsz hno hfm
  by_cases h1 : P1 = 0
  · subst h1
    go_enter Tryz.func32, Tryz.ntmps32
    go_wp2_with fail
    refine (unhide HRD _).mono ?_
    rintro e w1 ⟨a1, n1, c1, a2, n2, c2, rfl, hok, hb1⟩
    obtain ⟨lcs, lms, hl1, hcs, hl2, hms⟩ := hok trivial
    clear hok
    obtain ⟨xa, xc, hsh⟩ := own_shape hcs.1
    simp only [Value.slice.injEq] at hsh
    obtain ⟨rfl, rfl, rfl⟩ := hsh
    obtain ⟨xa, xc, hsh⟩ := own_shape hms.1
    simp only [Value.slice.injEq] at hsh
    obtain ⟨rfl, rfl, rfl⟩ := hsh
    have hll1 : lcs.length ≤ 6 := by have := congrArg List.length hl1; simp at this; omega
    have hll2 : lms.length ≤ 6 := by have := congrArg List.length hl2; simp at this; omega
    have hs1 := hb1.size
    have hB1 := (hb1.alloc hs1 (.cells #[.slice a1 lcs.length c1, .slice a2 lms.length c2] 38)).alloc (by simp; omega) (.cells #[.int .i64 0, .int .i64 P2, .int .i64 P3] 40)
    have k1 : Kp none w.heap.size w1 ((w1.alloc (.cells #[.slice a1 lcs.length c1, .slice a2 lms.length c2] 38)).alloc (.cells #[.int .i64 0, .int .i64 P2, .int .i64 P3] 40)) := (Kp.alloc _ _).trans (Kp.alloc _ _)
    have hcs1 := hcs.kp k1 (by decide) (by decide)
    have hms1 := hms.kp k1 (by decide) (by decide) (by decide) (by decide) (by decide)
    clear hcs hms k1
    go_wp2_with fail
    refine (withoutMaps_any a1 a2 lcs.length c1 c2 w.heap.size lms _ (by simp; omega) (by omega) hms1).mono ?_
    rintro e w2 ⟨b2, d2, rfl, hms2, hb2⟩
    have hB2 := hB1.trans (hb2.mono hB1.size)
    have hs2 := hB2.size
    have hcs2 := hcs1.kp (Kp.of_below (e := none) hb2) (by decide) (by decide)
    have hbl : (bareL lms).length = lms.length := bareL_len lms
    have hfil : (⟨lcs.map Prod.fst, (bareL lms).map Prod.fst⟩ : Rd.Fil) = Rd.Fil.bare ⟨cs, ms⟩ := by
      unfold Rd.Fil.bare bareL
      simp only [hl1, List.map_map]
      rw [← hl2, List.map_map]
      rfl
    have k2 := Kp.alloc (e := none) (b := w.heap.size) w2 (.cells #[.slice a1 lcs.length c1, .slice b2 lms.length d2] 38)
    have hwr := Write_any a1 b2 c1 d2 w.heap.size lcs (bareL lms) (w2.alloc (.cells #[.slice a1 lcs.length c1, .slice b2 lms.length d2] 38)) (by rw [hfil]; exact unhide HSZ) (by omega) (by omega) (hcs2.kp k2 (by decide) (by decide)) (by rw [hbl]; exact hms2.kp k2 (by decide) (by decide) (by decide) (by decide) (by decide))
    rw [hfil, hbl, ← unhide HSE trivial] at hwr
    have HWR := hide hwr
    clear hwr hfil k2 hcs2 hms2 hb2 hcs1 hms1 hbl
    go_wp2_with fail
    refine (unhide HWR).mono ?_
    rintro e w3 ⟨rfl, hb3⟩
    go_wp2
    go_ret2
    exact ⟨rfl, (hB2.alloc hs2 _).trans (hb3.mono (by simp; omega))⟩
  · have h1' : (P1 != 0) = true := by simpa using h1
    have hno := unhide HNO h1
    subst hno
    clear h1
    go_enter Tryz.func32, Tryz.ntmps32
    go_wp2_with fail
    refine (unhide HRD _).mono ?_
    rintro e w1 ⟨a1, n1, c1, a2, n2, c2, rfl, -, hb1⟩
    have hs1 := hb1.size
    have hB1 := (hb1.alloc hs1 (.cells #[.slice a1 n1 c1, .slice a2 n2 c2] 38)).alloc (by simp; omega) (.cells #[.int .i64 P1, .int .i64 P2, .int .i64 P3] 40)
    go_wp2
    go_quiet (fail)
    go_wp2
    go_ret2
    exact ⟨rfl, ⟨hB1.os, hB1.tape, hB1.output, hB1.size, hB1.block⟩⟩
end Go.Proofs.YteffpdofcgbokaaGreat

/-
  Strips: every step is as the document says.
-/
namespace Go.Proofs.YteffpdofcgbokaaGreat
open Go.RowKit

set_option maxRecDepth 100000 in
set_option maxHeartbeats 4000000 in
theorem plays_strip (o : OpD) (p : Value) (w : World) (hs : o.file.size ≤ maxLen) (h1 : o.kind = 2) :
    Calls Tryz.prog 16 #[p, o.val] w fun e w' => e = .returned (.bool true) ∧ Below w.heap.size w w' := by
  obtain ⟨kind, s, k, n, k', n', entry, heap, depth, fuel, ia, il, ic⟩ := o
  simp only [OpD.val] at hs h1 ⊢
  subst h1
  have hP := fun w => Strip_any s w hs
  have hR := fun w => rStrip_any s w hs
  generalize Rf.stripD s = D at *
  generalize (Rf.formed s.data.toList).1 = E at *
  have HP := hide hP
  have HR := hide hR
  clear hP hR
  have C0 := alloc_blk w (.cells #[.int .i64 2, .string s, .int .i64 k, .int .i64 n, .int .i64 k', .int .i64 n', .int .i64 entry, .int .i64 heap, .int .i64 depth, .int .i64 fuel, .slice ia il ic] 60)
  have hB0 : Below w.heap.size w (w.alloc (.cells #[.int .i64 2, .string s, .int .i64 k, .int .i64 n, .int .i64 k', .int .i64 n', .int .i64 entry, .int .i64 heap, .int .i64 depth, .int .i64 fuel, .slice ia il ic] 60)) := (Below.refl _ _).alloc (Nat.le_refl _) _
  go_enter Tryz.func16, Tryz.ntmps16
  go_wp2_with fail
  refine (unhide HP _).mono ?_
  rintro e w1 ⟨rfl, hb1⟩
  have hB1 := hB0.trans (hb1.mono (by simp))
  have C1 := stay hb1 C0
  have x1 := blk_cell C1 1
  have l1 := lt_of_block C1
  simp at x1
  clear C0 hB0
  go_wp2_with fail
  refine (unhide HR _).mono ?_
  rintro e w2 ⟨rfl, hb2⟩
  go_wp2
  go_ret
  exact ⟨by simp, hB1.trans (hb2.mono hB1.size)⟩

set_option maxRecDepth 100000 in
set_option maxHeartbeats 1000000 in
theorem strips_all (a : Option Addr) (len cap : Nat) (V : Nat → OpD) (w : World) (hlen : len ≤ 9223372036854775807) (hV : OpsIn w a len V) (hok : ∀ i, i < len → OpOk (V i)) :
    Calls Tryz.prog 4 #[.slice a len cap] w fun e w' => e = .returned (.bool true) ∧ Below w.heap.size w w' := by
  have hu := upTo_none a len cap V 2 2 w hlen hV (fun i hi h1 h2 p w1 => plays_strip (V i) p w1 (hok i hi) (by omega))
  have HU := hide hu
  clear hu hV hok
  go_enter Tryz.func4, Tryz.ntmps4
  go_wp2_with fail
  refine (unhide HU).mono ?_
  rintro e w1 ⟨rfl, hb1⟩
  go_wp2
  go_ret
  exact ⟨rfl, hb1⟩
end Go.Proofs.YteffpdofcgbokaaGreat
