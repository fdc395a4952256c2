/-
  The reader of files as plain functions on lists of bytes (no Go in sight): what each method of 'layout.reader' computes.
-/
namespace Go.Proofs.YteffpdofcgbokaaGreat.Rd

/-- where the reader stands, and whether it is bad -/
structure St where
  pos : Nat
  bad : Bool

def nx (s : List UInt8) (t : St) : Int × St :=
  if t.bad = true then (0, ⟨t.pos, true⟩)
  else if s.length ≤ t.pos then (0, ⟨t.pos, true⟩)
  else (((s[t.pos]?.getD 0).toNat : Int), ⟨t.pos + 1, false⟩)

def ex (s : List UInt8) (b : Int) (t : St) : St :=
  if (nx s t).1 = b then (nx s t).2 else ⟨(nx s t).2.pos, true⟩

def cn (s : List UInt8) (least most : Int) (t : St) : Int × St :=
  if (nx s t).1 < least then (0, ⟨(nx s t).2.pos, true⟩)
  else if most < (nx s t).1 then (0, ⟨(nx s t).2.pos, true⟩)
  else nx s t

def ty (s : List UInt8) (t : St) : (Int × Int) × St :=
  (((nx s t).1, (nx s (nx s t).2).1), (nx s (nx s t).2).2)

/-- a thing read n times, one behind the other -/
def rep {α : Type} (f : St → α × St) : Nat → St → List α × St
  | 0, t => ([], t)
  | k + 1, t => ((rep f k t).1 ++ [(f (rep f k t).2).1], (f (rep f k t).2).2)

theorem rep_len {α : Type} (f : St → α × St) (n : Nat) (t : St) : (rep f n t).1.length = n := by
  induction n with
  | zero => rfl
  | succ k ih => simp [rep, ih]

def tys (s : List UInt8) (n : Nat) (t : St) : List (Int × Int) × St := rep (ty s) n t

structure Cls where
  above : Int
  fields : List (Int × Int)

def cls (s : List UInt8) (t : St) : Cls × St :=
  let a := nx s t
  let n := cn s 0 4 a.2
  let l := tys s n.1.toNat n.2
  (⟨a.1, l.1⟩, l.2)

def codes (s : List UInt8) (t : St) : List Int × St :=
  let n := cn s 1 120 t
  rep (nx s) n.1.toNat n.2

structure Hnd where
  frm : Int
  til : Int
  target : Int
  cl : Int

def hnd (s : List UInt8) (t : St) : Hnd × St :=
  let a := nx s t
  let b := nx s a.2
  let c := nx s b.2
  let d := nx s c.2
  (⟨a.1, b.1, c.1, d.1⟩, d.2)

def hnds (s : List UInt8) (t : St) : List Hnd × St :=
  let n := cn s 0 4 t
  rep (hnd s) n.1.toNat n.2

structure Mp where
  place : Int
  locals : List (Int × Int)
  stack : List (Int × Int)

def mp (s : List UInt8) (locals stack : Int) (t : St) : Mp × St :=
  let a := nx s t
  let l := tys s locals.toNat a.2
  let h := cn s 0 stack l.2
  let k := tys s h.1.toNat h.2
  (⟨a.1, l.1, k.1⟩, k.2)

def mps (s : List UInt8) (locals stack : Int) (t : St) : List Mp × St :=
  let n := cn s 0 64 t
  rep (mp s locals stack) n.1.toNat n.2

structure Mth where
  cl : Int
  name : Int
  params : List (Int × Int)
  result : Int × Int
  locals : Int
  stack : Int
  code : List Int
  handlers : List Hnd
  maps : List Mp

def mth (s : List UInt8) (t : St) : Mth × St :=
  let a := nx s t
  let b := nx s a.2
  let p := cn s 0 4 b.2
  let ps := tys s p.1.toNat p.2
  let r := ty s ps.2
  let l := cn s 0 8 r.2
  let h := cn s 0 8 l.2
  let c := codes s h.2
  let hs := hnds s c.2
  let ms := mps s l.1 h.1 hs.2
  (⟨a.1, b.1, ps.1, r.1, l.1, h.1, c.1, hs.1, ms.1⟩, ms.2)

structure Fil where
  classes : List Cls
  methods : List Mth

def fil (s : List UInt8) (t : St) : Fil × St :=
  let a := ex s 83 t
  let b := ex s 77 a
  let n := cn s 0 6 b
  let cs := rep (cls s) n.1.toNat n.2
  let m := cn s 1 6 cs.2
  let ms := rep (mth s) m.1.toNat m.2
  (⟨cs.1, ms.1⟩, ms.2)

theorem nx_bd (s : List UInt8) (t : St) : 0 ≤ (nx s t).1 ∧ (nx s t).1 ≤ 255 := by
  unfold nx
  split
  · simp
  · split
    · simp
    · have := (s[t.pos]?.getD 0).toNat_lt
      constructor <;> simp <;> omega

theorem cn_bd (s : List UInt8) (a b : Int) (t : St) (h1 : 0 ≤ b) : 0 ≤ (cn s a b t).1 ∧ (cn s a b t).1 ≤ b := by
  have := nx_bd s t
  unfold cn
  split
  · simp [h1]
  · split
    · simp [h1]
    · constructor <;> omega

end Go.Proofs.YteffpdofcgbokaaGreat.Rd
