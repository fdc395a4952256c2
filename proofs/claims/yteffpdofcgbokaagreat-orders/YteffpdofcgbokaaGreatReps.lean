/-
  How a file that was read lies in memory: rows of cells, each list in a row of its own.
-/
import Derived.Test.YteffpdofcgbokaaGreatTypes
namespace Go.Proofs.YteffpdofcgbokaaGreat
open Go.RowKit

/-- rows from block b on, but for those of element type e, are in w' as they were in w -/
def Kp (e : Option TypeId) (b : Nat) (w w' : World) : Prop :=
  ∀ k cs t, b ≤ k → w.heap[k]? = some (.cells cs t (0, 0)) → some t ≠ e → w'.heap[k]? = some (.cells cs t (0, 0))

theorem Kp.of_gr {e : Option TypeId} {B b : Nat} {w w' : World} (h : Gr B w w') (hB : B < b) : Kp e b w w' := by
  intro k cs t hk hc _
  rw [h.blk (lt_of_block hc) (by omega)]; exact hc
theorem Kp.of_below {e : Option TypeId} {b : Nat} {w w' : World} (h : Below w.heap.size w w') : Kp e b w w' := by
  intro k cs t _ hc _
  rw [h.block k (lt_of_block hc)]; exact hc
theorem Kp.of_grown {e : TypeId} {b b0 size n : Nat} {v : Value} {xs : List Value} {w w' : World} (hg : w.grownBy w' v.ownBlock) (h : w.ownsRow b0 e size v n xs) : Kp (some e) b w w' := by
  intro k cs t _ hc ht
  rw [hg.block k (lt_of_block hc) ?_]; exact hc
  intro hk
  obtain ⟨h1, ⟨rfl, _⟩ | ⟨g, cap, cur, rfl, _, hgg, _⟩⟩ := h
  · simp [Value.ownBlock] at hk
  · simp [Value.ownBlock] at hk
    subst hk
    rw [hc] at hgg
    simp at hgg
    exact ht (by rw [hgg.2])
theorem Kp.trans {e : Option TypeId} {b : Nat} {w w1 w2 : World} (h : Kp e b w w1) (k : Kp e b w1 w2) : Kp e b w w2 :=
  fun i cs t hi hc ht => k i cs t hi (h i cs t hi hc ht) ht
theorem Kp.alloc {e : Option TypeId} {b : Nat} (w : World) (o : Obj) : Kp e b w (w.alloc o) := by
  intro k cs t _ hc _
  rw [Below.heap_alloc w o k (lt_of_block hc)]; exact hc
theorem Kp.set {e : TypeId} {b i : Nat} {w : World} {g : Nat} {cs : Array Value} (h : w.heap[g]? = some (.cells cs e (0, 0))) (u : Value) : Kp (some e) b w (w.setCell ⟨g, i, none⟩ u) := by
  intro k cs' t _ hc ht
  rw [Below.heap_setCell _ _ _ _ ?_]; exact hc
  intro hk
  simp only at hk
  subst hk
  rw [hc] at h
  simp at h
  exact ht (by rw [h.2])
theorem own_kp {e : Option TypeId} {b size n : Nat} {t : TypeId} {v : Value} {xs : List Value} {w w' : World} (h : w.ownsRow b t size v n xs) (hk : Kp e b w w') (hne : some t ≠ e) : w'.ownsRow b t size v n xs := by
  obtain ⟨h1, h2 | ⟨g, cap, cur, a, c, d, r⟩⟩ := h
  · exact ⟨h1, .inl h2⟩
  · exact ⟨h1, .inr ⟨g, cap, cur, a, c, hk g cur t c d hne, r⟩⟩

/-- a list of types -/
def TysAt (w : World) (b : Nat) (v : Value) (l : List (Int × Int)) : Prop := w.ownsRow b 48 2 v l.length (tcells l)
theorem TysAt.kp {e : Option TypeId} {b : Nat} {v : Value} {l : List (Int × Int)} {w w' : World} (h : TysAt w b v l) (hk : Kp e b w w') (hne : some 48 ≠ e) : TysAt w' b v l := own_kp h hk hne
theorem TysAt.mono {b b' : Nat} {v : Value} {l : List (Int × Int)} {w : World} (h : TysAt w b v l) (hb : b' ≤ b) : TysAt w b' v l := own_mono h hb

/-- a list of numbers -/
def IntsAt (w : World) (b : Nat) (v : Value) (l : List Int) : Prop := w.ownsRow b 3 1 v l.length (l.map (Value.int .i64))
theorem IntsAt.kp {e : Option TypeId} {b : Nat} {v : Value} {l : List Int} {w w' : World} (h : IntsAt w b v l) (hk : Kp e b w w') (hne : some 3 ≠ e) : IntsAt w' b v l := own_kp h hk hne
theorem IntsAt.mono {b b' : Nat} {v : Value} {l : List Int} {w : World} (h : IntsAt w b v l) (hb : b' ≤ b) : IntsAt w b' v l := own_mono h hb

/-- a list of handlers -/
def hcells (l : List Rd.Hnd) : List Value := l.flatMap fun x => [.int .i64 x.frm, .int .i64 x.til, .int .i64 x.target, .int .i64 x.cl]
theorem hcells_snoc (l : List Rd.Hnd) (x : Rd.Hnd) : hcells (l ++ [x]) = hcells l ++ [.int .i64 x.frm, .int .i64 x.til, .int .i64 x.target, .int .i64 x.cl] := by simp [hcells]
def HndsAt (w : World) (b : Nat) (v : Value) (l : List Rd.Hnd) : Prop := w.ownsRow b 256 4 v l.length (hcells l)
theorem HndsAt.kp {e : Option TypeId} {b : Nat} {v : Value} {l : List Rd.Hnd} {w w' : World} (h : HndsAt w b v l) (hk : Kp e b w w') (hne : some 256 ≠ e) : HndsAt w' b v l := own_kp h hk hne
theorem HndsAt.mono {b b' : Nat} {v : Value} {l : List Rd.Hnd} {w : World} (h : HndsAt w b v l) (hb : b' ≤ b) : HndsAt w b' v l := own_mono h hb

/-- a list of classes: each with the slice of its fields -/
def ccells (l : List (Rd.Cls × Value)) : List Value := l.flatMap fun x => [.int .i64 x.1.above, x.2]
theorem ccells_snoc (l : List (Rd.Cls × Value)) (x : Rd.Cls × Value) : ccells (l ++ [x]) = ccells l ++ [.int .i64 x.1.above, x.2] := by simp [ccells]
def ClssIn (w : World) (b : Nat) (v : Value) (l : List (Rd.Cls × Value)) : Prop :=
  w.ownsRow b 143 2 v l.length (ccells l) ∧ ∀ p ∈ l, TysAt w b p.2 p.1.fields
theorem ClssIn.kp {b : Nat} {v : Value} {l : List (Rd.Cls × Value)} {w w' : World} (h : ClssIn w b v l) {e : Option TypeId} (hk : Kp e b w w') (hne : some 143 ≠ e) (hne2 : some 48 ≠ e) : ClssIn w' b v l :=
  ⟨own_kp h.1 hk hne, fun p hp => (h.2 p hp).kp hk hne2⟩
theorem ClssIn.mono {b b' : Nat} {v : Value} {l : List (Rd.Cls × Value)} {w : World} (h : ClssIn w b v l) (hb : b' ≤ b) : ClssIn w b' v l := ⟨own_mono h.1 hb, fun p hp => (h.2 p hp).mono hb⟩
def ClssAt (w : World) (b : Nat) (v : Value) (cs : List Rd.Cls) : Prop := ∃ l, l.map Prod.fst = cs ∧ ClssIn w b v l

/-- a list of maps: each with the slices of its locals and its stack -/
def mcells (l : List (Rd.Mp × Value × Value)) : List Value := l.flatMap fun x => [.int .i64 x.1.place, x.2.1, x.2.2]
theorem mcells_snoc (l : List (Rd.Mp × Value × Value)) (x : Rd.Mp × Value × Value) : mcells (l ++ [x]) = mcells l ++ [.int .i64 x.1.place, x.2.1, x.2.2] := by simp [mcells]
def MpsIn (w : World) (b : Nat) (v : Value) (l : List (Rd.Mp × Value × Value)) : Prop :=
  w.ownsRow b 210 3 v l.length (mcells l) ∧ ∀ p ∈ l, TysAt w b p.2.1 p.1.locals ∧ TysAt w b p.2.2 p.1.stack
theorem MpsIn.kp {b : Nat} {v : Value} {l : List (Rd.Mp × Value × Value)} {w w' : World} (h : MpsIn w b v l) {e : Option TypeId} (hk : Kp e b w w') (hne : some 210 ≠ e) (hne2 : some 48 ≠ e) : MpsIn w' b v l :=
  ⟨own_kp h.1 hk hne, fun p hp => ⟨(h.2 p hp).1.kp hk hne2, (h.2 p hp).2.kp hk hne2⟩⟩
theorem MpsIn.mono {b b' : Nat} {v : Value} {l : List (Rd.Mp × Value × Value)} {w : World} (h : MpsIn w b v l) (hb : b' ≤ b) : MpsIn w b' v l := ⟨own_mono h.1 hb, fun p hp => ⟨(h.2 p hp).1.mono hb, (h.2 p hp).2.mono hb⟩⟩
def MpsAt (w : World) (b : Nat) (v : Value) (ms : List Rd.Mp) : Prop := ∃ l, l.map Prod.fst = ms ∧ MpsIn w b v l

/-- a method's ten cells -/
structure MthV where
  params : Value
  code : Value
  handlers : Value
  maps : Value
def mthCells (m : Rd.Mth) (u : MthV) : List Value :=
  [.int .i64 m.cl, .int .i64 m.name, u.params, .int .i64 m.result.1, .int .i64 m.result.2, .int .i64 m.locals, .int .i64 m.stack, u.code, u.handlers, u.maps]
def MthIn (w : World) (b : Nat) (m : Rd.Mth) (u : MthV) : Prop :=
  TysAt w b u.params m.params ∧ IntsAt w b u.code m.code ∧ HndsAt w b u.handlers m.handlers ∧ MpsAt w b u.maps m.maps
theorem MthIn.kp {b : Nat} {m : Rd.Mth} {u : MthV} {w w' : World} (h : MthIn w b m u) {e : Option TypeId} (hk : Kp e b w w') (h1 : some 48 ≠ e) (h2 : some 3 ≠ e) (h3 : some 256 ≠ e) (h4 : some 210 ≠ e) : MthIn w' b m u := by
  obtain ⟨a, c, d, l, hl, f⟩ := h
  exact ⟨a.kp hk h1, c.kp hk h2, d.kp hk h3, l, hl, f.kp hk h4 h1⟩
theorem MthIn.mono {b b' : Nat} {m : Rd.Mth} {u : MthV} {w : World} (h : MthIn w b m u) (hb : b' ≤ b) : MthIn w b' m u := by
  obtain ⟨a, c, d, l, hl, f⟩ := h
  exact ⟨a.mono hb, c.mono hb, d.mono hb, l, hl, f.mono hb⟩
def mscells (l : List (Rd.Mth × MthV)) : List Value := l.flatMap fun x => mthCells x.1 x.2
theorem mscells_snoc (l : List (Rd.Mth × MthV)) (x : Rd.Mth × MthV) : mscells (l ++ [x]) = mscells l ++ mthCells x.1 x.2 := by simp [mscells]
def MthsIn (w : World) (b : Nat) (v : Value) (l : List (Rd.Mth × MthV)) : Prop :=
  w.ownsRow b 92 10 v l.length (mscells l) ∧ ∀ p ∈ l, MthIn w b p.1 p.2
theorem MthsIn.kp {b : Nat} {v : Value} {l : List (Rd.Mth × MthV)} {w w' : World} (h : MthsIn w b v l) {e : Option TypeId} (hk : Kp e b w w') (h0 : some 92 ≠ e) (h1 : some 48 ≠ e) (h2 : some 3 ≠ e) (h3 : some 256 ≠ e) (h4 : some 210 ≠ e) : MthsIn w' b v l :=
  ⟨own_kp h.1 hk h0, fun p hp => (h.2 p hp).kp hk h1 h2 h3 h4⟩
theorem MthsIn.mono {b b' : Nat} {v : Value} {l : List (Rd.Mth × MthV)} {w : World} (h : MthsIn w b v l) (hb : b' ≤ b) : MthsIn w b' v l := ⟨own_mono h.1 hb, fun p hp => (h.2 p hp).mono hb⟩
def MthsAt (w : World) (b : Nat) (v : Value) (ms : List Rd.Mth) : Prop := ∃ l, l.map Prod.fst = ms ∧ MthsIn w b v l

/-- a file: its two slices -/
def FilAt (w : World) (b : Nat) (v1 v2 : Value) (f : Rd.Fil) : Prop := ClssAt w b v1 f.classes ∧ MthsAt w b v2 f.methods

theorem alloc2_blk (w : World) (o o' : Obj) : ((w.alloc o).alloc o').heap[w.heap.size + 1]? = some o' := by
  have := alloc_blk (w.alloc o) o'
  simpa using this
theorem alloc1_blk (w : World) (o o' : Obj) : ((w.alloc o).alloc o').heap[w.heap.size]? = some o := by
  rw [Below.heap_alloc _ _ _ (by simp)]; exact alloc_blk w o
end Go.Proofs.YteffpdofcgbokaaGreat
