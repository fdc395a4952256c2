/-
  Small laws on worlds: what a call that writes one block (the reader's) and makes new ones leaves as it was.
-/
import Derived.Test.YteffpdofcgbokaaGreatRows
import Derived.Test.YteffpdofcgbokaaGreatPlain
import Derived.WalkKit
import Derived.WalkSpells
import Derived.WalkLawsBesides
import Derived.Deep.QuietTactic
import Derived.BigQuiet
namespace Go.Proofs.YteffpdofcgbokaaGreat
open Go.RowKit

/-- w' is w with new blocks and writes to block B alone -/
def Gr (B : Nat) (w w' : World) : Prop := w.grownBy w' (some B)

theorem Gr.refl (B : Nat) (w : World) : Gr B w w := ⟨rfl, rfl, rfl, Nat.le_refl _, fun _ _ _ => rfl⟩
theorem Gr.size {B : Nat} {w w' : World} (h : Gr B w w') : w.heap.size ≤ w'.heap.size := World.grownBy.size h
theorem Gr.blk {B : Nat} {w w' : World} (h : Gr B w w') {k : Nat} (hk : k < w.heap.size) (hB : k ≠ B) : w'.heap[k]? = w.heap[k]? :=
  World.grownBy.block h k hk (by simpa using hB)
theorem Gr.trans {B : Nat} {a b c : World} (h : Gr B a b) (k : Gr B b c) : Gr B a c :=
  ⟨(World.grownBy.os k).trans (World.grownBy.os h), (World.grownBy.tape k).trans (World.grownBy.tape h), (World.grownBy.output k).trans (World.grownBy.output h), Nat.le_trans h.size k.size,
    fun i hi hr => (World.grownBy.block k i (Nat.lt_of_lt_of_le hi h.size) hr).trans (World.grownBy.block h i hi hr)⟩
theorem Gr.grown {B : Nat} {a b c : World} {row : Option Nat} (h : Gr B a b) (k : b.grownBy c row) (hr : ∀ j, row = some j → a.heap.size ≤ j ∨ j = B) : Gr B a c :=
  ⟨k.os.trans (World.grownBy.os h), k.tape.trans (World.grownBy.tape h), k.output.trans (World.grownBy.output h), Nat.le_trans h.size k.size,
    fun i hi hn => (k.block i (Nat.lt_of_lt_of_le hi h.size) (fun e => by rcases hr i e.symm with h1 | h1 <;> first | omega | (subst h1; exact hn rfl))).trans (World.grownBy.block h i hi hn)⟩
theorem Gr.alloc {B : Nat} {a b : World} (h : Gr B a b) (o : Obj) : Gr B a (b.alloc o) :=
  h.grown (World.grownBy_alloc b o none) (by simp)
theorem Gr.drew {B : Nat} {a b : World} (h : Gr B a b) : Gr B a b.drew := by
  have h' : a.grownBy b (some B) := h
  exact ⟨h'.os, h'.tape, h'.output, h'.size, h'.block⟩
theorem Gr.drewN {B : Nat} {a b : World} (h : Gr B a b) (n : Nat) : Gr B a (b.drewN n) := by
  have h' : a.grownBy b (some B) := h
  exact ⟨h'.os, h'.tape, h'.output, h'.size, h'.block⟩
theorem grownBy_set (w : World) (p : Addr) (u : Value) : w.grownBy (w.setCell p u) (some p.block) :=
  ⟨rfl, rfl, rfl, by simp [World.setCell], fun k _ hr => Below.heap_setCell _ _ _ _ (by simpa using hr)⟩
theorem Gr.set {B : Nat} {a b : World} (h : Gr B a b) {p : Addr} (hp : a.heap.size ≤ p.block ∨ p.block = B) (u : Value) : Gr B a (b.setCell p u) :=
  h.grown (grownBy_set b p u) (by intro j hj; simp at hj; subst hj; exact hp)
/-- a call that writes no old block at all -/
theorem Gr.below {B : Nat} {w w' : World} (h : Gr B w w') (hB : w.heap.size ≤ B) : Below w.heap.size w w' :=
  ⟨World.grownBy.os h, World.grownBy.tape h, World.grownBy.output h, h.size, fun k hk => h.blk hk (by omega)⟩
theorem Gr.of_below {B : Nat} {a b c : World} (h : Gr B a b) (k : Below b.heap.size b c) : Gr B a c :=
  ⟨k.os.trans (World.grownBy.os h), k.tape.trans (World.grownBy.tape h), k.output.trans (World.grownBy.output h), Nat.le_trans h.size k.size,
    fun i hi hn => (k.block i (Nat.lt_of_lt_of_le hi h.size)).trans (World.grownBy.block h i hi hn)⟩

/-- a block of cells, none of them frozen -/
theorem set_blk {w : World} {b i : Nat} {cs : Array Value} {t : TypeId} (h : w.heap[b]? = some (.cells cs t (0, 0))) (u : Value) :
    (w.setCell ⟨b, i, none⟩ u).heap[b]? = some (.cells (cs.setIfInBounds i u) t (0, 0)) := by
  have hlt := lt_of_block h
  have h' : w.heap[b] = .cells cs t (0, 0) := by simpa [Array.getElem?_eq_getElem hlt] using h
  show (w.heap.modify b _)[b]? = _
  rw [Array.getElem?_eq_getElem (by simpa using hlt), Array.getElem_modify_self, h']
  rfl
theorem blk_cell {w : World} {b : Nat} {cs : Array Value} {t : TypeId} (h : w.heap[b]? = some (.cells cs t (0, 0))) (i : Nat) : w.cell? ⟨b, i, none⟩ = cs[i]? := by simp [World.cell?, h]
theorem blk_free {w : World} {b : Nat} {cs : Array Value} {t : TypeId} (h : w.heap[b]? = some (.cells cs t (0, 0))) (i : Nat) : w.frozen? ⟨b, i, none⟩ = false := by simp [World.frozen?, h]
theorem alloc_blk (w : World) (o : Obj) : (w.alloc o).heap[w.heap.size]? = some o := heap_alloc_new w o

/-- the reader's block -/
def RdAt (w : World) (B : Nat) (s : ByteArray) (t : Rd.St) : Prop :=
  w.heap[B]? = some (.cells #[.string s, .int .i64 t.pos, .bool t.bad] 140 (0, 0))

theorem RdAt.cells {w : World} {B : Nat} {s : ByteArray} {t : Rd.St} (h : RdAt w B s t) :
    w.cell? ⟨B, 0, none⟩ = some (.string s) ∧ w.cell? ⟨B, 1, none⟩ = some (.int .i64 t.pos) ∧ w.cell? ⟨B, 2, none⟩ = some (.bool t.bad) ∧
    w.frozen? ⟨B, 0, none⟩ = false ∧ w.frozen? ⟨B, 1, none⟩ = false ∧ w.frozen? ⟨B, 2, none⟩ = false := by
  unfold RdAt at h
  simp [World.cell?, World.frozen?, h]
theorem RdAt.lt {w : World} {B : Nat} {s : ByteArray} {t : Rd.St} (h : RdAt w B s t) : B < w.heap.size := lt_of_block h
theorem RdAt.alloc {w : World} {B : Nat} {s : ByteArray} {t : Rd.St} (h : RdAt w B s t) (o : Obj) : RdAt (w.alloc o) B s t := by
  unfold RdAt; rw [Below.heap_alloc w o B h.lt]; exact h
theorem RdAt.set {w : World} {B : Nat} {s : ByteArray} {t : Rd.St} (h : RdAt w B s t) {p : Addr} (hp : p.block ≠ B) (u : Value) : RdAt (w.setCell p u) B s t := by
  unfold RdAt; rw [Below.heap_setCell _ _ _ _ (fun e => hp e.symm)]; exact h
theorem RdAt.grown {w w' : World} {B : Nat} {s : ByteArray} {t : Rd.St} {row : Option Nat} (h : RdAt w B s t) (hg : w.grownBy w' row) (hr : some B ≠ row) : RdAt w' B s t := by
  unfold RdAt; rw [hg.block B h.lt hr]; exact h
theorem RdAt.pos {w : World} {B : Nat} {s : ByteArray} {t : Rd.St} (h : RdAt w B s t) (q : Int) (k : Nat) (hq : q = k) : RdAt (w.setCell ⟨B, 1, none⟩ (.int .i64 q)) B s ⟨k, t.bad⟩ := by
  unfold RdAt at h ⊢; rw [set_blk h, hq]; rfl
theorem RdAt.bad {w : World} {B : Nat} {s : ByteArray} {t : Rd.St} (h : RdAt w B s t) (b : Bool) : RdAt (w.setCell ⟨B, 2, none⟩ (.bool b)) B s ⟨t.pos, b⟩ := by
  unfold RdAt at h ⊢; rw [set_blk h]; rfl
theorem RdAt.drewN {w : World} {B : Nat} {s : ByteArray} {t : Rd.St} (h : RdAt w B s t) (n : Nat) : RdAt (w.drewN n) B s t := h

/-- a block of the call's own behind a call -/
theorem Gr.own {B : Nat} {w w1 : World} {k : Nat} {o : Obj} (h : Gr B w w1) (hb : w.heap[k]? = some o) (hB : k ≠ B) : w1.heap[k]? = some o := by
  rw [h.blk (lt_of_block hb) hB]; exact hb
theorem own_gr {B base size n : Nat} {e : TypeId} {v : Value} {xs : List Value} {w w' : World} (h : w.ownsRow base e size v n xs) (hg : Gr B w w') (hB : B < base) : w'.ownsRow base e size v n xs := by
  refine h.kept hg ?_
  cases hv : v.ownBlock with
  | none => exact .inl rfl
  | some k => have := h.lt k hv; right; intro hc; simp at hc; omega
theorem own_ne {B base size n : Nat} {e : TypeId} {v : Value} {xs : List Value} {w : World} (h : w.ownsRow base e size v n xs) (hB : B < base) : some B ≠ v.ownBlock := by
  intro hc
  have := h.lt B hc.symm
  omega
theorem own_ge {B base size n : Nat} {e : TypeId} {v : Value} {xs : List Value} {w : World} (h : w.ownsRow base e size v n xs) : ∀ j, v.ownBlock = some j → base ≤ j ∨ j = B :=
  fun j hj => .inl (h.lt j hj).1
theorem own_mono {base base' size n : Nat} {e : TypeId} {v : Value} {xs : List Value} {w : World} (h : w.ownsRow base e size v n xs) (hb : base' ≤ base) : w.ownsRow base' e size v n xs := by
  obtain ⟨h1, h2 | ⟨g, cap, cur, a, b, r⟩⟩ := h
  · exact ⟨h1, .inl h2⟩
  · exact ⟨h1, .inr ⟨g, cap, cur, a, by omega, r⟩⟩
theorem own_shape {base size n : Nat} {e : TypeId} {v : Value} {xs : List Value} {w : World} (h : w.ownsRow base e size v n xs) : ∃ a c, v = .slice a n c := by
  obtain ⟨_, ⟨rfl, rfl⟩ | ⟨g, cap, cur, rfl, _⟩⟩ := h
  · exact ⟨none, 0, rfl⟩
  · exact ⟨_, _, rfl⟩
theorem cells_new (w : World) (l : List Value) (t : TypeId) (g : Nat) (hg : w.heap.size = g) :
    ∀ (j : Nat) (x : Value), l[j]? = some x → (w.alloc (.cells l.toArray t)).cell? ((⟨g, 0, none⟩ : Addr).add j) = some x := by
  intro j x hx
  have hadd : (⟨g, 0, none⟩ : Addr).add j = ⟨g, j, none⟩ := by unfold Addr.add; split <;> simp_all
  subst hg
  rw [hadd, blk_cell (alloc_blk w (.cells l.toArray t (0, 0))) j]
  simpa using hx
theorem hide {p : Prop} (h : p) : Hid p := h
theorem unhide {p : Prop} (h : Hid p) : p := h
theorem ret_int {k : IntKind} {a b : Int} (h : a = b) : Ending.returned (.int k a) = .returned (.int k b) := by rw [h]
end Go.Proofs.YteffpdofcgbokaaGreat
