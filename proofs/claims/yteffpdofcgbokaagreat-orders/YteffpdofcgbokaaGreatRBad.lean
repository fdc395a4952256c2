/-
  The walks over the document's rules of form: badClass, Classed.
-/
import Derived.Test.YteffpdofcgbokaaGreatRForm
import Derived.Test.YteffpdofcgbokaaGreatInCl
import Derived.Deep.RegionHeld3
namespace Go.Proofs.YteffpdofcgbokaaGreat
open Go.RowKit

/-- the first own class that may not be, or -1 -/
def Tr.badOf (x : Int × Int) : Int := if x.1 = 0 then -1 else x.2

set_option maxRecDepth 100000 in
set_option maxHeartbeats 8000000 in
theorem rbad_any (a1 a2 : Option Addr) (c1 n2 c2 bb : Nat) (l : List (Rd.Cls × Value)) (w : World) (hl : l.length ≤ 13) (hl7 : 7 ≤ l.length) (hfl : ∀ p ∈ l, p.1.fields.length ≤ 1000) (hc : RClssIn w bb (.slice a1 l.length c1) l) :
    Calls Tryz.prog 21 #[.agg #[.slice a1 l.length c1, .slice a2 n2 c2]] w fun e w' => e = .returned (.int .i64 (Tr.badOf (Tr.inCl (supers l) 0 ((l.map Prod.fst).drop 7)))) ∧ Below w.heap.size w w' := by
  generalize hr : Tr.badOf (Tr.inCl (supers l) 0 ((l.map Prod.fst).drop 7)) = r
  have HR : Hid (Tr.badOf (Tr.inCl (supers l) 0 ((l.map Prod.fst).drop (7 + 0))) = r) := hr
  clear hr
  have hB1 : Below w.heap.size w (w.alloc (.cells #[.slice a1 l.length c1, .slice a2 n2 c2] 28)) := (Below.refl _ _).alloc (Nat.le_refl _) _
  have hx1 := alloc_blk w (.cells #[.slice a1 l.length c1, .slice a2 n2 c2] 28)
  go_enter Tryz.func21, Tryz.ntmps21
  go_wp2
  go_loopw [3] (fun i wr => ∃ k : Nat, 7 + k ≤ l.length ∧ i = .int .i64 (7 + (k : Int)) ∧ Hid (Tr.badOf (Tr.inCl (supers l) k ((l.map Prod.fst).drop (7 + k))) = r) ∧ Below w.heap.size w wr ∧
      wr.heap[w.heap.size]? = some (.cells #[.slice a1 l.length c1, .slice a2 n2 c2] 28 (0, 0)))
    (fun i _ => l.length - (intOf i).toNat)
  case atStart => exact ⟨0, by omega, rfl, HR, hB1, hx1⟩
  case round =>
    clear hB1 hx1 HR
    obtain ⟨k, hk, rfl, HR, hB, hx⟩ := hrel
    have c0 := blk_cell hx 0
    have d1 := blk_cell hx 1
    simp at c0 d1
    have hBs := hB.size
    by_cases hkn : 7 + k < l.length
    · have hcr := hc.kp (Kp.of_below (e := none) hB) (by decide) (by decide)
      obtain ⟨g, hg, hglt, _, hcell⟩ := own_some hcr.1 (by omega)
      obtain ⟨e1, e2, e3⟩ := ccells_at l (7 + k) hkn
      have x0 := hcell ((7 + k) * 2) (by omega)
      have x1 := hcell ((7 + k) * 2 + 1) (by omega)
      rw [e1] at x0
      rw [e2] at x1
      have hfk := hfl _ (List.getElem_mem hkn)
      have htk := hcr.2 _ (List.getElem_mem hkn)
      obtain ⟨ua, uc, hu⟩ := own_shape htk
      rw [hu] at x1 htk
      have hd : (l.map Prod.fst).drop (7 + k) = l[7 + k].1 :: (l.map Prod.fst).drop (7 + (k + 1)) := by
        rw [List.drop_eq_getElem_cons (by simpa using hkn)]
        simp
        rfl
      have hr := unhide HR
      rw [hd, Tr.inCl] at hr
      generalize hcl : l[7 + k].1 = cl at *
      have it : ((7 : Int) + (k : Int)).toNat = 7 + k := by omega
      have kb0 : 0 ≤ (7 : Int) + (k : Int) := by omega
      have kb1 : (7 : Int) + (k : Int) < (l.length : Int) := by omega
      clear hcell e1 e2 e3 hcl hd hu hcr
      subst hg
      by_cases h1 : 7 + (k : Int) ≤ cl.above
      · rw [if_pos h1] at hr
        have hr2 : r = 7 + (k : Int) := by rw [← hr]; simp [Tr.badOf]
        have HF := hide hr2
        clear hr hr2
        go_wp2
        go_ret
        exact ⟨by rw [unhide HF]; rfl, hB⟩
      · rw [if_neg h1] at hr
        generalize hap : Tr.allPlainB (supers l) cl.fields = ap at hr
        have HAP : Hid (Tr.allPlainB (supers l) (cl.fields.drop 0) = ap) := by unfold Hid; simpa using hap
        have HRr := hide hr
        clear hr hap
        go_wp2
        go_loopw [5] (fun j w2 => ∃ m : Nat, m ≤ cl.fields.length ∧ j = .int .i64 m ∧ Hid (Tr.allPlainB (supers l) (cl.fields.drop m) = ap) ∧ Below wr.heap.size wr w2 ∧ Below w.heap.size w w2 ∧
            w2.heap[w.heap.size]? = some (.cells #[.slice (some ⟨g, 0, none⟩) l.length c1, .slice a2 n2 c2] 28 (0, 0)))
          (fun j _ => cl.fields.length - (intOf j).toNat)
        case atStart => exact ⟨0, by omega, rfl, HAP, Below.refl _ _, hB, hx⟩
        case round =>
          obtain ⟨m, hm, rfl, HM, hBo, hB2, hx2⟩ := hrel
          have htm := htk.kp (Kp.of_below (e := none) hBo) (by decide)
          have hBos := hBo.size
          have hBs2 := hB2.size
          have c0' := blk_cell hx2 0
          have d1' := blk_cell hx2 1
          simp at c0' d1'
          by_cases hmn : m < cl.fields.length
          · obtain ⟨g2, hg2, hg2lt, _, hcell2⟩ := own_some htm (by omega)
            obtain ⟨t1, t2, t3⟩ := tcells_at cl.fields m hmn
            have u0 := hcell2 (m * 2) (by omega)
            have u1 := hcell2 (m * 2 + 1) (by omega)
            rw [t1] at u0
            rw [t2] at u1
            have hdm : cl.fields.drop m = cl.fields[m] :: cl.fields.drop (m + 1) := List.drop_eq_getElem_cons hmn
            have hM := unhide HM
            rw [hdm, allPlain_cons] at hM
            generalize hf1 : cl.fields[m].1 = f1 at *
            generalize hf2 : cl.fields[m].2 = f2 at *
            have mb : (m : Int) < (cl.fields.length : Int) := by omega
            clear hcell2 t1 t2 t3 hf1 hf2 hdm c0 d1 x0 x1 HAP
            subst hg2
            have lx2 := lt_of_block hx2
            cases hp : Tr.plainB (supers l) f1 f2 with
            | true =>
              have HF : Hid (Tr.allPlainB (supers l) (cl.fields.drop (m + 1)) = ap) := by unfold Hid; rw [← hM, hp]; simp
              have HP := hide hp
              clear hp hM HM
              go_wp2
              go_region_held3 (fun w' => w'.cell? ⟨w.heap.size, 0, none⟩ = some (.slice (some ⟨g, 0, none⟩) l.length c1) ∧ w'.cell? ⟨w.heap.size, 1, none⟩ = some (.slice a2 n2 c2) ∧ w'.cell? ⟨g2, m * 2, none⟩ = some (.int .i64 f1) ∧ w'.cell? ⟨g2, m * 2 + 1, none⟩ = some (.int .i64 f2))
                (first | go_keep | (go_split_ands; refine ⟨?_, ?_, ?_, ?_⟩ <;> (rw [hb3.cell (by simp; omega)]; assumption)))
                (first | (go_at_call 23; refine (show Calls Tryz.prog _ _ _ _ from by have := rplain_any (supers l) (some ⟨g, 0, none⟩) a2 c1 n2 c2 f1 f2 wr.drew; rw [supers_len] at this; exact this).mono ?_; rw [unhide HP]; rintro e w3 ⟨rfl, hb3⟩))
              have hB3 : Below w.heap.size w w3 := hB2.drew.trans (hb3.mono hBs2)
              have hBo3 := hBo.drew.trans (hb3.mono hBos)
              have hx3 := stay hb3 (show (wr.drew).heap[w.heap.size]? = _ from hx2)
              clear hb3 hB2 hx2 hBo htm u0 u1 c0' d1'
              go_wp2
              go_roundw
              case rel => exact ⟨m + 1, by omega, by go_num, HF, hBo3, hB3, hx3⟩
              case measure => simp [intOf]; omega
            | false =>
              have hap : ap = false := by rw [← hM, hp]; simp
              have hr := unhide HRr
              rw [hap, if_pos rfl] at hr
              have hr2 : r = 7 + (k : Int) := by rw [← hr]; simp [Tr.badOf]
              have HF := hide hr2
              have HP := hide hp
              clear hp hM HM hap hr hr2 HRr
              go_wp2
              go_region_held3 (fun w' => w'.cell? ⟨w.heap.size, 0, none⟩ = some (.slice (some ⟨g, 0, none⟩) l.length c1) ∧ w'.cell? ⟨w.heap.size, 1, none⟩ = some (.slice a2 n2 c2) ∧ w'.cell? ⟨g2, m * 2, none⟩ = some (.int .i64 f1) ∧ w'.cell? ⟨g2, m * 2 + 1, none⟩ = some (.int .i64 f2))
                (first | go_keep | (go_split_ands; refine ⟨?_, ?_, ?_, ?_⟩ <;> (rw [hb3.cell (by simp; omega)]; assumption)))
                (first | (go_at_call 23; refine (show Calls Tryz.prog _ _ _ _ from by have := rplain_any (supers l) (some ⟨g, 0, none⟩) a2 c1 n2 c2 f1 f2 wr.drew; rw [supers_len] at this; exact this).mono ?_; rw [unhide HP]; rintro e w3 ⟨rfl, hb3⟩))
              have hB3 : Below w.heap.size w w3 := hB2.drew.trans (hb3.mono hBs2)
              clear hb3 hB2 hx2 hBo htm u0 u1 c0' d1'
              go_wp2
              go_ret
              exact ⟨by rw [unhide HF]; rfl, hB3⟩
          · have hap : ap = true := by rw [← unhide HM, List.drop_eq_nil_of_le (by omega)]; rfl
            have hr := unhide HRr
            rw [hap, if_neg (by simp)] at hr
            have HF := hide hr
            clear hr hap HM HRr HAP hB hx c0 d1 x0 x1
            go_wp2
            go_roundw
            case rel => exact ⟨k + 1, by omega, by go_num, HF, hB2, hx2⟩
            case measure => simp [intOf]; omega
    · have hf : r = -1 := by rw [← unhide HR, List.drop_eq_nil_of_le (by simp; omega)]; rfl
      have HF := hide hf
      clear hf
      go_wp2
      go_ret
      exact ⟨by rw [unhide HF]; rfl, hB⟩
end Go.Proofs.YteffpdofcgbokaaGreat
