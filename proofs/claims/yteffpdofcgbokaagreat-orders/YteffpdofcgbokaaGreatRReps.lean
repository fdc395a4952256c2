/-
  How a file that the document's reader read lies in memory.
-/
import Derived.Test.YteffpdofcgbokaaGreatReps
import Derived.Test.YteffpdofcgbokaaGreatREq
namespace Go.Proofs.YteffpdofcgbokaaGreat
open Go.RowKit

def RHndsAt (w : World) (b : Nat) (v : Value) (l : List Rd.Hnd) : Prop := w.ownsRow b 73 4 v l.length (hcells l)
theorem RHndsAt.kp {e : Option TypeId} {b : Nat} {v : Value} {l : List Rd.Hnd} {w w' : World} (h : RHndsAt w b v l) (hk : Kp e b w w') (hne : some 73 ≠ e) : RHndsAt w' b v l := own_kp h hk hne
theorem RHndsAt.mono {b b' : Nat} {v : Value} {l : List Rd.Hnd} {w : World} (h : RHndsAt w b v l) (hb : b' ≤ b) : RHndsAt w b' v l := own_mono h hb


def RClssIn (w : World) (b : Nat) (v : Value) (l : List (Rd.Cls × Value)) : Prop :=
  w.ownsRow b 106 2 v l.length (ccells l) ∧ ∀ p ∈ l, TysAt w b p.2 p.1.fields
theorem RClssIn.kp {b : Nat} {v : Value} {l : List (Rd.Cls × Value)} {w w' : World} (h : RClssIn w b v l) {e : Option TypeId} (hk : Kp e b w w') (hne : some 106 ≠ e) (hne2 : some 48 ≠ e) : RClssIn w' b v l :=
  ⟨own_kp h.1 hk hne, fun p hp => (h.2 p hp).kp hk hne2⟩
theorem RClssIn.mono {b b' : Nat} {v : Value} {l : List (Rd.Cls × Value)} {w : World} (h : RClssIn w b v l) (hb : b' ≤ b) : RClssIn w b' v l := ⟨own_mono h.1 hb, fun p hp => (h.2 p hp).mono hb⟩
def RClssAt (w : World) (b : Nat) (v : Value) (cs : List Rd.Cls) : Prop := ∃ l, l.map Prod.fst = cs ∧ RClssIn w b v l


def RMpsIn (w : World) (b : Nat) (v : Value) (l : List (Rd.Mp × Value × Value)) : Prop :=
  w.ownsRow b 77 3 v l.length (mcells l) ∧ ∀ p ∈ l, TysAt w b p.2.1 p.1.locals ∧ TysAt w b p.2.2 p.1.stack
theorem RMpsIn.kp {b : Nat} {v : Value} {l : List (Rd.Mp × Value × Value)} {w w' : World} (h : RMpsIn w b v l) {e : Option TypeId} (hk : Kp e b w w') (hne : some 77 ≠ e) (hne2 : some 48 ≠ e) : RMpsIn w' b v l :=
  ⟨own_kp h.1 hk hne, fun p hp => ⟨(h.2 p hp).1.kp hk hne2, (h.2 p hp).2.kp hk hne2⟩⟩
theorem RMpsIn.mono {b b' : Nat} {v : Value} {l : List (Rd.Mp × Value × Value)} {w : World} (h : RMpsIn w b v l) (hb : b' ≤ b) : RMpsIn w b' v l := ⟨own_mono h.1 hb, fun p hp => ⟨(h.2 p hp).1.mono hb, (h.2 p hp).2.mono hb⟩⟩
def RMpsAt (w : World) (b : Nat) (v : Value) (ms : List Rd.Mp) : Prop := ∃ l, l.map Prod.fst = ms ∧ RMpsIn w b v l


/-- a method's twelve cells -/
structure RMthV where
  params : Value
  code : ByteArray
  handlers : Value
  maps : Value
def rmthCells (x : Rf.Mth) (u : RMthV) : List Value :=
  [.int .i64 x.m.cl, .int .i64 x.m.name, u.params, .int .i64 x.m.result.1, .int .i64 x.m.result.2, .int .i64 x.m.locals, .int .i64 x.m.stack, .string u.code, u.handlers, u.maps, .int .i64 x.mapsAt, .int .i64 x.fin]
def RMthIn (w : World) (b : Nat) (x : Rf.Mth) (u : RMthV) : Prop :=
  TysAt w b u.params x.m.params ∧ u.code.data.toList.map (fun c => (c.toNat : Int)) = x.m.code ∧ RHndsAt w b u.handlers x.m.handlers ∧ RMpsAt w b u.maps x.m.maps
theorem RMthIn.kp {b : Nat} {x : Rf.Mth} {u : RMthV} {w w' : World} (h : RMthIn w b x u) {e : Option TypeId} (hk : Kp e b w w') (h1 : some 48 ≠ e) (h3 : some 73 ≠ e) (h4 : some 77 ≠ e) : RMthIn w' b x u := by
  obtain ⟨a, c, d, l, hl, f⟩ := h
  exact ⟨a.kp hk h1, c, d.kp hk h3, l, hl, f.kp hk h4 h1⟩
theorem RMthIn.mono {b b' : Nat} {x : Rf.Mth} {u : RMthV} {w : World} (h : RMthIn w b x u) (hb : b' ≤ b) : RMthIn w b' x u := by
  obtain ⟨a, c, d, l, hl, f⟩ := h
  exact ⟨a.mono hb, c, d.mono hb, l, hl, f.mono hb⟩
def rmscells (l : List (Rf.Mth × RMthV)) : List Value := l.flatMap fun x => rmthCells x.1 x.2
theorem rmscells_snoc (l : List (Rf.Mth × RMthV)) (x : Rf.Mth × RMthV) : rmscells (l ++ [x]) = rmscells l ++ rmthCells x.1 x.2 := by simp [rmscells]
def RMthsIn (w : World) (b : Nat) (v : Value) (l : List (Rf.Mth × RMthV)) : Prop :=
  w.ownsRow b 52 12 v l.length (rmscells l) ∧ ∀ p ∈ l, RMthIn w b p.1 p.2
theorem RMthsIn.kp {b : Nat} {v : Value} {l : List (Rf.Mth × RMthV)} {w w' : World} (h : RMthsIn w b v l) {e : Option TypeId} (hk : Kp e b w w') (h0 : some 52 ≠ e) (h1 : some 48 ≠ e) (h3 : some 73 ≠ e) (h4 : some 77 ≠ e) : RMthsIn w' b v l :=
  ⟨own_kp h.1 hk h0, fun p hp => (h.2 p hp).kp hk h1 h3 h4⟩
theorem RMthsIn.mono {b b' : Nat} {v : Value} {l : List (Rf.Mth × RMthV)} {w : World} (h : RMthsIn w b v l) (hb : b' ≤ b) : RMthsIn w b' v l := ⟨own_mono h.1 hb, fun p hp => (h.2 p hp).mono hb⟩
def RMthsAt (w : World) (b : Nat) (v : Value) (ms : List Rf.Mth) : Prop := ∃ l, l.map Prod.fst = ms ∧ RMthsIn w b v l
end Go.Proofs.YteffpdofcgbokaaGreat
