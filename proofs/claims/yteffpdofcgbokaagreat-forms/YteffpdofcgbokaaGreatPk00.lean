/-
  The reader of files as plain functions on lists of bytes (no Go in sight): what each method of 'layout.reader' computes.
-/
import Derived.Test.YteffpdofcgbokaaGreatRows
import Derived.WalkKit
import Derived.WalkSpells
import Derived.WalkLawsBesides
import Derived.Deep.QuietTactic
import Derived.BigQuiet

namespace Go.Proofs.YteffpdofcgbokaaGreat.Rd

/-- where the reader stands, and whether it is bad -/
structure St where
 pos:Nat
 bad:Bool

def nx (s:List UInt8) (t:St):Int × St :=
 if t.bad=true then (0,⟨t.pos,true⟩)
 else if s.length≤t.pos then (0,⟨t.pos,true⟩)
 else (((s[t.pos]?.getD 0).toNat:Int),⟨t.pos+1,false⟩)

def ex (s:List UInt8) (b:Int) (t:St):St :=
 if (nx s t).1=b then (nx s t).2 else ⟨(nx s t).2.pos,true⟩

def cn (s:List UInt8) (least most:Int) (t:St):Int × St :=
 if (nx s t).1 < least then (0,⟨(nx s t).2.pos,true⟩)
 else if most < (nx s t).1 then (0,⟨(nx s t).2.pos,true⟩)
 else nx s t

def ty (s:List UInt8) (t:St):(Int × Int) × St :=
 (((nx s t).1,(nx s (nx s t).2).1),(nx s (nx s t).2).2)

/-- a thing read n times, one behind the other -/
def rep {α:Type} (f:St→α × St):Nat→St→List α × St
 | 0,t=>([],t)
 | k+1,t=>((rep f k t).1 ++ [(f (rep f k t).2).1],(f (rep f k t).2).2)

theorem rep_len {α:Type} (f:St→α × St) (n:Nat) (t:St):(rep f n t).1.length=n:=by
 induction n with
 | zero=>rfl
 | succ k ih=>simp [rep,ih]

def tys (s:List UInt8) (n:Nat) (t:St):List (Int × Int) × St:=rep (ty s) n t

structure Cls where
 above:Int
 fields:List (Int × Int)

def cls (s:List UInt8) (t:St):Cls × St :=
 let a:=nx s t
 let n:=cn s 0 4 a.2
 let l:=tys s n.1.toNat n.2
 (⟨a.1,l.1⟩,l.2)

def codes (s:List UInt8) (t:St):List Int × St :=
 let n:=cn s 1 120 t
 rep (nx s) n.1.toNat n.2

structure Hnd where
 frm:Int
 til:Int
 target:Int
 cl:Int

def hnd (s:List UInt8) (t:St):Hnd × St :=
 let a:=nx s t
 let b:=nx s a.2
 let c:=nx s b.2
 let d:=nx s c.2
 (⟨a.1,b.1,c.1,d.1⟩,d.2)

def hnds (s:List UInt8) (t:St):List Hnd × St :=
 let n:=cn s 0 4 t
 rep (hnd s) n.1.toNat n.2

structure Mp where
 place:Int
 locals:List (Int × Int)
 stack:List (Int × Int)

def mp (s:List UInt8) (locals stack:Int) (t:St):Mp × St :=
 let a:=nx s t
 let l:=tys s locals.toNat a.2
 let h:=cn s 0 stack l.2
 let k:=tys s h.1.toNat h.2
 (⟨a.1,l.1,k.1⟩,k.2)

def mps (s:List UInt8) (locals stack:Int) (t:St):List Mp × St :=
 let n:=cn s 0 64 t
 rep (mp s locals stack) n.1.toNat n.2

structure Mth where
 cl:Int
 name:Int
 params:List (Int × Int)
 result:Int × Int
 locals:Int
 stack:Int
 code:List Int
 handlers:List Hnd
 maps:List Mp

def mth (s:List UInt8) (t:St):Mth × St :=
 let a:=nx s t
 let b:=nx s a.2
 let p:=cn s 0 4 b.2
 let ps:=tys s p.1.toNat p.2
 let r:=ty s ps.2
 let l:=cn s 0 8 r.2
 let h:=cn s 0 8 l.2
 let c:=codes s h.2
 let hs:=hnds s c.2
 let ms:=mps s l.1 h.1 hs.2
 (⟨a.1,b.1,ps.1,r.1,l.1,h.1,c.1,hs.1,ms.1⟩,ms.2)

structure Fil where
 classes:List Cls
 methods:List Mth

def fil (s:List UInt8) (t:St):Fil × St :=
 let a:=ex s 83 t
 let b:=ex s 77 a
 let n:=cn s 0 6 b
 let cs:=rep (cls s) n.1.toNat n.2
 let m:=cn s 1 6 cs.2
 let ms:=rep (mth s) m.1.toNat m.2
 (⟨cs.1,ms.1⟩,ms.2)

theorem nx_bd (s:List UInt8) (t:St):0≤(nx s t).1∧(nx s t).1≤255:=by
 unfold nx
 split
 ·simp
 ·split
  ·simp
  ·have:=(s[t.pos]?.getD 0).toNat_lt
   constructor <;> simp <;> omega

theorem cn_bd (s:List UInt8) (a b:Int) (t:St) (h1:0≤b):0≤(cn s a b t).1∧(cn s a b t).1≤b:=by
 have:=nx_bd s t
 unfold cn
 split
 ·simp [h1]
 ·split
  ·simp [h1]
  ·constructor <;> omega

end Go.Proofs.YteffpdofcgbokaaGreat.Rd

/-
  Small laws on worlds: what a call that writes one block (the reader's) and makes new ones leaves as it was.
-/
namespace Go.Proofs.YteffpdofcgbokaaGreat
open Go.RowKit

/-- w' is w with new blocks and writes to block B alone -/
def Gr (B:Nat) (w w':World):Prop:=w.grownBy w' (some B)

theorem Gr.refl (B:Nat) (w:World):Gr B w w:=⟨rfl,rfl,rfl,Nat.le_refl _,fun _ _ _=>rfl⟩
theorem Gr.size {B:Nat}{w w':World} (h:Gr B w w'):w.heap.size≤w'.heap.size:=World.grownBy.size h
theorem Gr.blk {B:Nat}{w w':World} (h:Gr B w w') {k:Nat} (hk:k < w.heap.size) (hB:k ≠ B):w'.heap[k]?=w.heap[k]? :=
 World.grownBy.block h k hk (by simpa using hB)
theorem Gr.trans {B:Nat}{a b c:World} (h:Gr B a b) (k:Gr B b c):Gr B a c :=
 ⟨(World.grownBy.os k).trans (World.grownBy.os h),(World.grownBy.tape k).trans (World.grownBy.tape h),(World.grownBy.output k).trans (World.grownBy.output h),Nat.le_trans h.size k.size,
  fun i hi hr=>(World.grownBy.block k i (Nat.lt_of_lt_of_le hi h.size) hr).trans (World.grownBy.block h i hi hr)⟩
theorem Gr.grown {B:Nat}{a b c:World}{row:Option Nat} (h:Gr B a b) (k:b.grownBy c row) (hr:∀ j,row=some j→a.heap.size≤j∨j=B):Gr B a c :=
 ⟨k.os.trans (World.grownBy.os h),k.tape.trans (World.grownBy.tape h),k.output.trans (World.grownBy.output h),Nat.le_trans h.size k.size,
  fun i hi hn=>(k.block i (Nat.lt_of_lt_of_le hi h.size) (fun e=>by rcases hr i e.symm with h1 | h1 <;> first | omega | (subst h1; exact hn rfl))).trans (World.grownBy.block h i hi hn)⟩
theorem Gr.alloc {B:Nat}{a b:World} (h:Gr B a b) (o:Obj):Gr B a (b.alloc o) :=
 h.grown (World.grownBy_alloc b o none) (by simp)
theorem Gr.drew {B:Nat}{a b:World} (h:Gr B a b):Gr B a b.drew:=by
 have h':a.grownBy b (some B):=h
 exact ⟨h'.os,h'.tape,h'.output,h'.size,h'.block⟩
theorem Gr.drewN {B:Nat}{a b:World} (h:Gr B a b) (n:Nat):Gr B a (b.drewN n):=by
 have h':a.grownBy b (some B):=h
 exact ⟨h'.os,h'.tape,h'.output,h'.size,h'.block⟩
theorem grownBy_set (w:World) (p:Addr) (u:Value):w.grownBy (w.setCell p u) (some p.block) :=
 ⟨rfl,rfl,rfl,by simp [World.setCell],fun k _ hr=>Below.heap_setCell _ _ _ _ (by simpa using hr)⟩
theorem Gr.set {B:Nat}{a b:World} (h:Gr B a b) {p:Addr} (hp:a.heap.size≤p.block∨p.block=B) (u:Value):Gr B a (b.setCell p u) :=
 h.grown (grownBy_set b p u) (by intro j hj; simp at hj; subst hj; exact hp)
/-- a call that writes no old block at all -/
theorem Gr.below {B:Nat}{w w':World} (h:Gr B w w') (hB:w.heap.size≤B):Below w.heap.size w w' :=
 ⟨World.grownBy.os h,World.grownBy.tape h,World.grownBy.output h,h.size,fun k hk=>h.blk hk (by omega)⟩
theorem Gr.of_below {B:Nat}{a b c:World} (h:Gr B a b) (k:Below b.heap.size b c):Gr B a c :=
 ⟨k.os.trans (World.grownBy.os h),k.tape.trans (World.grownBy.tape h),k.output.trans (World.grownBy.output h),Nat.le_trans h.size k.size,
  fun i hi hn=>(k.block i (Nat.lt_of_lt_of_le hi h.size)).trans (World.grownBy.block h i hi hn)⟩

/-- a block of cells, none of them frozen -/
theorem set_blk {w:World}{b i:Nat}{cs:Array Value}{t:TypeId} (h:w.heap[b]?=some (.cells cs t (0,0))) (u:Value) :
  (w.setCell ⟨b,i,none⟩ u).heap[b]?=some (.cells (cs.setIfInBounds i u) t (0,0)):=by
 have hlt:=lt_of_block h
 have h':w.heap[b]=.cells cs t (0,0):=by simpa [Array.getElem?_eq_getElem hlt] using h
 show (w.heap.modify b _)[b]?=_
 rw [Array.getElem?_eq_getElem (by simpa using hlt),Array.getElem_modify_self,h']
 rfl
theorem blk_cell {w:World}{b:Nat}{cs:Array Value}{t:TypeId} (h:w.heap[b]?=some (.cells cs t (0,0))) (i:Nat):w.cell? ⟨b,i,none⟩=cs[i]?:=by simp [World.cell?,h]
theorem blk_free {w:World}{b:Nat}{cs:Array Value}{t:TypeId} (h:w.heap[b]?=some (.cells cs t (0,0))) (i:Nat):w.frozen? ⟨b,i,none⟩=false:=by simp [World.frozen?,h]
theorem alloc_blk (w:World) (o:Obj):(w.alloc o).heap[w.heap.size]?=some o:=heap_alloc_new w o

/-- the reader's block -/
def RdAt (w:World) (B:Nat) (s:ByteArray) (t:Rd.St):Prop :=
 w.heap[B]?=some (.cells #[.string s,.int .i64 t.pos,.bool t.bad] 140 (0,0))

theorem RdAt.cells {w:World}{B:Nat}{s:ByteArray}{t:Rd.St} (h:RdAt w B s t) :
  w.cell? ⟨B,0,none⟩=some (.string s)∧w.cell? ⟨B,1,none⟩=some (.int .i64 t.pos)∧w.cell? ⟨B,2,none⟩=some (.bool t.bad) ∧
  w.frozen? ⟨B,0,none⟩=false∧w.frozen? ⟨B,1,none⟩=false∧w.frozen? ⟨B,2,none⟩=false:=by
 unfold RdAt at h
 simp [World.cell?,World.frozen?,h]
theorem RdAt.lt {w:World}{B:Nat}{s:ByteArray}{t:Rd.St} (h:RdAt w B s t):B < w.heap.size:=lt_of_block h
theorem RdAt.alloc {w:World}{B:Nat}{s:ByteArray}{t:Rd.St} (h:RdAt w B s t) (o:Obj):RdAt (w.alloc o) B s t:=by
 unfold RdAt; rw [Below.heap_alloc w o B h.lt]; exact h
theorem RdAt.set {w:World}{B:Nat}{s:ByteArray}{t:Rd.St} (h:RdAt w B s t) {p:Addr} (hp:p.block ≠ B) (u:Value):RdAt (w.setCell p u) B s t:=by
 unfold RdAt; rw [Below.heap_setCell _ _ _ _ (fun e=>hp e.symm)]; exact h
theorem RdAt.grown {w w':World}{B:Nat}{s:ByteArray}{t:Rd.St}{row:Option Nat} (h:RdAt w B s t) (hg:w.grownBy w' row) (hr:some B ≠ row):RdAt w' B s t:=by
 unfold RdAt; rw [hg.block B h.lt hr]; exact h
theorem RdAt.pos {w:World}{B:Nat}{s:ByteArray}{t:Rd.St} (h:RdAt w B s t) (q:Int) (k:Nat) (hq:q=k):RdAt (w.setCell ⟨B,1,none⟩ (.int .i64 q)) B s ⟨k,t.bad⟩:=by
 unfold RdAt at h ⊢; rw [set_blk h,hq]; rfl
theorem RdAt.bad {w:World}{B:Nat}{s:ByteArray}{t:Rd.St} (h:RdAt w B s t) (b:Bool):RdAt (w.setCell ⟨B,2,none⟩ (.bool b)) B s ⟨t.pos,b⟩:=by
 unfold RdAt at h ⊢; rw [set_blk h]; rfl
theorem RdAt.drewN {w:World}{B:Nat}{s:ByteArray}{t:Rd.St} (h:RdAt w B s t) (n:Nat):RdAt (w.drewN n) B s t:=h

/-- a block of the call's own behind a call -/
theorem Gr.own {B:Nat}{w w1:World}{k:Nat}{o:Obj} (h:Gr B w w1) (hb:w.heap[k]?=some o) (hB:k ≠ B):w1.heap[k]?=some o:=by
 rw [h.blk (lt_of_block hb) hB]; exact hb
theorem own_gr {B base size n:Nat}{e:TypeId}{v:Value}{xs:List Value}{w w':World} (h:w.ownsRow base e size v n xs) (hg:Gr B w w') (hB:B < base):w'.ownsRow base e size v n xs:=by
 refine h.kept hg ?_
 cases hv:v.ownBlock with
 | none=>exact .inl rfl
 | some k=>have:=h.lt k hv; right; intro hc; simp at hc; omega
theorem own_ne {B base size n:Nat}{e:TypeId}{v:Value}{xs:List Value}{w:World} (h:w.ownsRow base e size v n xs) (hB:B < base):some B ≠ v.ownBlock:=by
 intro hc
 have:=h.lt B hc.symm
 omega
theorem own_ge {B base size n:Nat}{e:TypeId}{v:Value}{xs:List Value}{w:World} (h:w.ownsRow base e size v n xs):∀ j,v.ownBlock=some j→base≤j∨j=B :=
 fun j hj=>.inl (h.lt j hj).1
theorem own_mono {base base' size n:Nat}{e:TypeId}{v:Value}{xs:List Value}{w:World} (h:w.ownsRow base e size v n xs) (hb:base'≤base):w.ownsRow base' e size v n xs:=by
 obtain ⟨h1,h2 | ⟨g,cap,cur,a,b,r⟩⟩:=h
 ·exact ⟨h1,.inl h2⟩
 ·exact ⟨h1,.inr ⟨g,cap,cur,a,by omega,r⟩⟩
theorem own_shape {base size n:Nat}{e:TypeId}{v:Value}{xs:List Value}{w:World} (h:w.ownsRow base e size v n xs):∃ a c,v=.slice a n c:=by
 obtain ⟨_,⟨rfl,rfl⟩ | ⟨g,cap,cur,rfl,_⟩⟩:=h
 ·exact ⟨none,0,rfl⟩
 ·exact ⟨_,_,rfl⟩
theorem cells_new (w:World) (l:List Value) (t:TypeId) (g:Nat) (hg:w.heap.size=g) :
  ∀ (j:Nat) (x:Value),l[j]?=some x→(w.alloc (.cells l.toArray t)).cell? ((⟨g,0,none⟩:Addr).add j)=some x:=by
 intro j x hx
 have hadd:(⟨g,0,none⟩:Addr).add j=⟨g,j,none⟩:=by unfold Addr.add; split <;> simp_all
 subst hg
 rw [hadd,blk_cell (alloc_blk w (.cells l.toArray t (0,0))) j]
 simpa using hx
theorem hide {p:Prop} (h:p):Hid p:=h
theorem unhide {p:Prop} (h:Hid p):p:=h
theorem ret_int {k:IntKind}{a b:Int} (h:a=b):Ending.returned (.int k a)=.returned (.int k b):=by rw [h]
end Go.Proofs.YteffpdofcgbokaaGreat

/-
  The walks over the reader's smallest methods: next, expect, count, oneType.
-/
namespace Go.Proofs.YteffpdofcgbokaaGreat
open Go.RowKit

theorem wrap_byte (c:UInt8):wrap64 (c.toNat:Int)=(c.toNat:Int):=by
 have:=c.toNat_lt
 unfold wrap64
 omega
theorem nx_hit {s:ByteArray}{pos:Nat} (h:pos < s.size):Rd.nx s.data.toList ⟨pos,false⟩=((s[pos].toNat:Int),⟨pos+1,false⟩):=by
 have h':pos < s.data.toList.length:=by simpa using h
 have e:s.data.toList[pos]?.getD 0=s[pos]:=by rw [List.getElem?_eq_getElem h']; rfl
 unfold Rd.nx
 rw [if_neg (by simp),if_neg (by simp only; omega)]
 simp only [e]
theorem nx_out {s:ByteArray}{pos:Nat} (h:¬ pos < s.size):Rd.nx s.data.toList ⟨pos,false⟩=(0,⟨pos,true⟩):=by
 have h':s.data.toList.length=s.size:=by simp
 unfold Rd.nx
 rw [if_neg (by simp),if_pos (by simp only; omega)]
theorem nx_bad {s:ByteArray}{pos:Nat}:Rd.nx s.data.toList ⟨pos,true⟩=(0,⟨pos,true⟩):=by simp [Rd.nx]

set_option maxRecDepth 100000 in
set_option maxHeartbeats 400000 in
theorem next_any (s:ByteArray) (B:Nat) (t:Rd.St) (w:World) (hs:s.size≤maxLen) (hR:RdAt w B s t) :
  Calls Tryz.prog 149 #[.pointer (some ⟨B,0,none⟩)] w fun e w'=>e=.returned (.int .i64 (Rd.nx s.data.toList t).1)∧RdAt w' B s (Rd.nx s.data.toList t).2∧Gr B w w':=by
 unfold maxLen at hs
 obtain ⟨c0,c1,c2,f0,f1,f2⟩:=hR.cells
 obtain ⟨pos,bad⟩:=t
 simp only at c1 c2
 cases bad
 ·by_cases hlt:pos < s.size
  ·rw [nx_hit hlt]
   have g1:decide ((pos:Int) < 0)=false:=by simp
   go_enter Tryz.func149,Tryz.ntmps149
   go_wp2
   go_quiet (fail)
   go_wp2
   go_quiet (fail)
   go_wp2
   go_ret
   exact ⟨ret_int (wrap_byte _),(hR.drewN _).pos _ _ (by omega),((Gr.refl _ _).drewN _).set (.inr rfl) _⟩
  ·rw [nx_out hlt]
   have g1:decide ((pos:Int) < 0)=false:=by simp
   have g2:decide (s.size≤pos)=true:=by simp; omega
   go_enter Tryz.func149,Tryz.ntmps149
   go_wp2
   go_quiet (fail)
   go_wp2
   go_ret
   exact ⟨rfl,(hR.drewN _).bad _,((Gr.refl _ _).drewN _).set (.inr rfl) _⟩
 ·rw [nx_bad]
  go_enter Tryz.func149,Tryz.ntmps149
  go_wp2
  go_quiet (fail)
  go_wp2
  go_ret
  exact ⟨rfl,(hR.drewN _).bad _,((Gr.refl _ _).drewN _).set (.inr rfl) _⟩
end Go.Proofs.YteffpdofcgbokaaGreat

/-
  The walks over the reader's methods expect, count and oneType.
-/
namespace Go.Proofs.YteffpdofcgbokaaGreat
open Go.RowKit

set_option maxRecDepth 100000 in
set_option maxHeartbeats 400000 in
theorem expect_any (s:ByteArray) (B:Nat) (b:Int) (t:Rd.St) (w:World) (hs:s.size≤maxLen) (hR:RdAt w B s t) :
  Calls Tryz.prog 106 #[.pointer (some ⟨B,0,none⟩),.int .i64 b] w fun e w'=>e=.returned (.tuple #[])∧RdAt w' B s (Rd.ex s.data.toList b t)∧Gr B w w':=by
 unfold Rd.ex
 generalize hr:Rd.nx s.data.toList t=r
 have Hr:=hide hr
 clear hr
 by_cases hb:r.1=b
 ·rw [if_pos hb]
  have hb1:(r.1 != b)=false:=by simp [hb]
  have Hb:=hide hb
  clear hb
  go_enter Tryz.func106,Tryz.ntmps106
  go_wp2_with (go_at_call 149; refine (next_any s B t _ hs hR).mono ?_; rw [unhide Hr]; rintro e w1 ⟨rfl,hR1,hg1⟩)
  go_end0
  exact ⟨rfl,hR1,hg1⟩
 ·rw [if_neg hb]
  have hb1:(r.1 != b)=true:=by simp [hb]
  have Hb:=hide hb
  clear hb
  go_enter Tryz.func106,Tryz.ntmps106
  go_wp2_with (go_at_call 149; refine (next_any s B t _ hs hR).mono ?_; rw [unhide Hr]; rintro e w1 ⟨rfl,hR1,hg1⟩; obtain ⟨c0,c1,c2,f0,f1,f2⟩:=hR1.cells)
  go_end0
  exact ⟨rfl,hR1.bad _,hg1.set (.inr rfl) _⟩

set_option maxRecDepth 100000 in
set_option maxHeartbeats 400000 in
theorem count_any (s:ByteArray) (B:Nat) (least most:Int) (t:Rd.St) (w:World) (hs:s.size≤maxLen) (hR:RdAt w B s t) :
  Calls Tryz.prog 107 #[.pointer (some ⟨B,0,none⟩),.int .i64 least,.int .i64 most] w fun e w'=>e=.returned (.int .i64 (Rd.cn s.data.toList least most t).1)∧RdAt w' B s (Rd.cn s.data.toList least most t).2∧Gr B w w':=by
 unfold Rd.cn
 generalize hr:Rd.nx s.data.toList t=r
 have Hr:=hide hr
 clear hr
 by_cases h1:r.1 < least
 ·rw [if_pos h1]
  go_enter Tryz.func107,Tryz.ntmps107
  go_wp2_with (go_at_call 149; refine (next_any s B t _ hs hR).mono ?_; rw [unhide Hr]; rintro e w1 ⟨rfl,hR1,hg1⟩; obtain ⟨c0,c1,c2,f0,f1,f2⟩:=hR1.cells)
  go_ret
  exact ⟨rfl,hR1.bad _,hg1.set (.inr rfl) _⟩
 ·rw [if_neg h1]
  by_cases h2:most < r.1
  ·rw [if_pos h2]
   go_enter Tryz.func107,Tryz.ntmps107
   go_wp2_with (go_at_call 149; refine (next_any s B t _ hs hR).mono ?_; rw [unhide Hr]; rintro e w1 ⟨rfl,hR1,hg1⟩; obtain ⟨c0,c1,c2,f0,f1,f2⟩:=hR1.cells)
   go_ret
   exact ⟨rfl,hR1.bad _,hg1.set (.inr rfl) _⟩
  ·rw [if_neg h2]
   go_enter Tryz.func107,Tryz.ntmps107
   go_wp2_with (go_at_call 149; refine (next_any s B t _ hs hR).mono ?_; rw [unhide Hr]; rintro e w1 ⟨rfl,hR1,hg1⟩)
   go_ret
   exact ⟨rfl,hR1,hg1⟩

set_option maxRecDepth 100000 in
set_option maxHeartbeats 400000 in
theorem oneType_any (s:ByteArray) (B:Nat) (t:Rd.St) (w:World) (hs:s.size≤maxLen) (hR:RdAt w B s t) :
  Calls Tryz.prog 151 #[.pointer (some ⟨B,0,none⟩)] w fun e w'=>e=.returned (.agg #[.int .i64 (Rd.ty s.data.toList t).1.1,.int .i64 (Rd.ty s.data.toList t).1.2])∧RdAt w' B s (Rd.ty s.data.toList t).2∧Gr B w w':=by
 unfold Rd.ty
 have hlt:=hR.lt
 generalize hr1:Rd.nx s.data.toList t=r1
 generalize hr2:Rd.nx s.data.toList r1.2=r2
 have H1:=hide hr1
 have H2:=hide hr2
 clear hr1 hr2
 go_enter Tryz.func151,Tryz.ntmps151
 go_wp2_with fail
 refine (next_any s B t _ hs (hR.alloc _)).mono ?_
 rw [unhide H1]
 rintro e w1 ⟨rfl,hR1,hg1⟩
 go_wp2_with fail
 refine (next_any s B r1.2 _ hs hR1).mono ?_
 rw [unhide H2]
 rintro e w2 ⟨rfl,hR2,hg2⟩
 have hb:=hg2.own (hg1.own (alloc_blk w _) (by omega)) (by omega)
 have c0:=blk_cell hb 0
 have c1:=blk_cell hb 1
 have f0:=blk_free hb 0
 have f1:=blk_free hb 1
 simp only [List.getElem?_toArray,List.getElem?_cons_zero,List.getElem?_cons_succ] at c0 c1
 go_wp2_with fail
 refine bodyPost_ret (v:=.agg #[.int .i64 r1.1,.int .i64 r2.1]) (by simp [results,Tryz.results151,go_sem,c0,c1]) rfl ⟨rfl,(hR2.set (by simp; omega) _).set (by simp; omega) _,?_⟩
 exact ((((Gr.refl _ _).alloc _).trans (hg1.trans hg2)).set (.inl (by simp)) _).set (.inl (by simp)) _
end Go.Proofs.YteffpdofcgbokaaGreat

/-
  The walk over the reader's method types: a list of types, each of two bytes.
-/
namespace Go.Proofs.YteffpdofcgbokaaGreat
open Go.RowKit

theorem Tryz.infoType:(Tryz.prog.info? 48).map (fun i=>(i.zero,i.size,i.bytes))=some (some (.agg #[.int .i64 0,.int .i64 0]),2,16):=by kernel_rfl

/-- the cells of a list of types -/
def tcells (l:List (Int × Int)):List Value:=l.flatMap fun x=>[.int .i64 x.1,.int .i64 x.2]
theorem tcells_snoc (l:List (Int × Int)) (x:Int × Int):tcells (l ++ [x])=tcells l ++ [.int .i64 x.1,.int .i64 x.2]:=by simp [tcells]

set_option maxRecDepth 100000 in
set_option maxHeartbeats 1000000 in
theorem types_any (s:ByteArray) (B:Nat) (n:Int) (t:Rd.St) (w:World) (hs:s.size≤maxLen) (hn0:0≤n) (hn1:n≤255) (hR:RdAt w B s t) :
  Calls Tryz.prog 150 #[.pointer (some ⟨B,0,none⟩),.int .i64 n] w fun e w' =>
   ∃ v,e=.returned v∧w'.ownsRow w.heap.size 48 2 v n.toNat (tcells (Rd.tys s.data.toList n.toNat t).1)∧RdAt w' B s (Rd.tys s.data.toList n.toNat t).2∧Gr B w w':=by
 have hlt:=hR.lt
 obtain ⟨i0,hi,hz0,hz1,hz2⟩:=info_parts Tryz.infoType
 unfold Rd.tys
 go_enter Tryz.func150,Tryz.ntmps150
 go_wp2
 go_loopw [5,6] (fun v i wr=>∃ k:Nat,(k:Int)≤n∧i=.int .i64 k∧wr.ownsRow w.heap.size 48 2 v k (tcells (Rd.rep (Rd.ty s.data.toList) k t).1)∧RdAt wr B s (Rd.rep (Rd.ty s.data.toList) k t).2∧Gr B w wr)
  (fun _ i _=>n.toNat - (intOf i).toNat)
 case atStart=>exact ⟨0,by omega,rfl,World.ownsRow_nil _ _ _ _,hR,Gr.refl _ _⟩
 case round =>
  obtain ⟨k,hk,rfl,hown,hRr,hgr⟩:=hrel
  have hsz:=hgr.size
  by_cases hkn:(k:Int) < n
  ·generalize hp:Rd.rep (Rd.ty s.data.toList) k t=p at *
   generalize hq:Rd.ty s.data.toList p.2=q at *
   have HP:=hide hp
   have HQ:=hide hq
   clear hp hq
   go_wp2_with fail
   refine (oneType_any s B p.2 _ hs hRr).mono ?_
   rw [unhide HQ]
   rintro e w1 ⟨rfl,hR1,hg1⟩
   have hsz1:=hg1.size
   have hown1:=own_gr hown hg1 hlt
   go_wp2_with (at_builtin; refine wpList_append_own _ rfl _ _ 46 rfl w.heap.size 48 i0 _ 2 16 Tryz.underlying46 hi hz0 hz1 hz2 rfl (by decide) _ _ _ rfl ((hown1.alloc _).alloc _) ⟨w1.heap.size+1,0,none⟩ 1 1 [.int .i64 q.1.1,.int .i64 q.1.2] rfl rfl ?c1 ?c2 ?c3 ?c4 ?c5 ?_)
   case c1=>exact cells_new _ _ _ _ (by simp)
   case c2=>intro u hu; simp at hu; rcases hu with rfl | rfl <;> rfl
   case c3=>unfold maxLen; omega
   case c4=>omega
   case c5=>simp; omega
   intro v' w2 hown2 hgrow _
   have hR2:=((hR1.alloc _).alloc _).grown hgrow (own_ne hown1 hlt)
   have hg2:=(((hgr.trans hg1).alloc _).alloc _).grown hgrow (own_ge hown1)
   have e1:(Rd.rep (Rd.ty s.data.toList) (k+1) t)=(p.1 ++ [q.1],q.2):=by simp only [Rd.rep,unhide HP,unhide HQ]
   rw [← tcells_snoc] at hown2
   have HE:=hide e1
   clear e1 hgrow hown hown1 hRr hR1 hg1 hgr
   go_wp2
   go_roundw
   case rel=>exact ⟨k+1,by omega,by go_num,by rw [unhide HE]; exact hown2,by rw [unhide HE]; exact hR2,hg2⟩
   case measure=>simp [intOf]; omega
  ·have e:k=n.toNat:=by omega
   subst e
   go_wp2
   go_ret
   exact ⟨_,rfl,hown,hRr,hgr⟩
end Go.Proofs.YteffpdofcgbokaaGreat

/-
  How a file that was read lies in memory: rows of cells, each list in a row of its own.
-/
namespace Go.Proofs.YteffpdofcgbokaaGreat
open Go.RowKit

/-- rows from block b on, but for those of element type e, are in w' as they were in w -/
def Kp (e:Option TypeId) (b:Nat) (w w':World):Prop :=
 ∀ k cs t,b≤k→w.heap[k]?=some (.cells cs t (0,0))→some t ≠ e→w'.heap[k]?=some (.cells cs t (0,0))

theorem Kp.of_gr {e:Option TypeId}{B b:Nat}{w w':World} (h:Gr B w w') (hB:B < b):Kp e b w w':=by
 intro k cs t hk hc _
 rw [h.blk (lt_of_block hc) (by omega)]; exact hc
theorem Kp.of_below {e:Option TypeId}{b:Nat}{w w':World} (h:Below w.heap.size w w'):Kp e b w w':=by
 intro k cs t _ hc _
 rw [h.block k (lt_of_block hc)]; exact hc
theorem Kp.of_grown {e:TypeId}{b b0 size n:Nat}{v:Value}{xs:List Value}{w w':World} (hg:w.grownBy w' v.ownBlock) (h:w.ownsRow b0 e size v n xs):Kp (some e) b w w':=by
 intro k cs t _ hc ht
 rw [hg.block k (lt_of_block hc) ?_]; exact hc
 intro hk
 obtain ⟨h1,⟨rfl,_⟩ | ⟨g,cap,cur,rfl,_,hgg,_⟩⟩:=h
 ·simp [Value.ownBlock] at hk
 ·simp [Value.ownBlock] at hk
  subst hk
  rw [hc] at hgg
  simp at hgg
  exact ht (by rw [hgg.2])
theorem Kp.trans {e:Option TypeId}{b:Nat}{w w1 w2:World} (h:Kp e b w w1) (k:Kp e b w1 w2):Kp e b w w2 :=
 fun i cs t hi hc ht=>k i cs t hi (h i cs t hi hc ht) ht
theorem Kp.alloc {e:Option TypeId}{b:Nat} (w:World) (o:Obj):Kp e b w (w.alloc o):=by
 intro k cs t _ hc _
 rw [Below.heap_alloc w o k (lt_of_block hc)]; exact hc
theorem Kp.set {e:TypeId}{b i:Nat}{w:World}{g:Nat}{cs:Array Value} (h:w.heap[g]?=some (.cells cs e (0,0))) (u:Value):Kp (some e) b w (w.setCell ⟨g,i,none⟩ u):=by
 intro k cs' t _ hc ht
 rw [Below.heap_setCell _ _ _ _ ?_]; exact hc
 intro hk
 simp only at hk
 subst hk
 rw [hc] at h
 simp at h
 exact ht (by rw [h.2])
theorem own_kp {e:Option TypeId}{b size n:Nat}{t:TypeId}{v:Value}{xs:List Value}{w w':World} (h:w.ownsRow b t size v n xs) (hk:Kp e b w w') (hne:some t ≠ e):w'.ownsRow b t size v n xs:=by
 obtain ⟨h1,h2 | ⟨g,cap,cur,a,c,d,r⟩⟩:=h
 ·exact ⟨h1,.inl h2⟩
 ·exact ⟨h1,.inr ⟨g,cap,cur,a,c,hk g cur t c d hne,r⟩⟩

/-- a list of types -/
def TysAt (w:World) (b:Nat) (v:Value) (l:List (Int × Int)):Prop:=w.ownsRow b 48 2 v l.length (tcells l)
theorem TysAt.kp {e:Option TypeId}{b:Nat}{v:Value}{l:List (Int × Int)}{w w':World} (h:TysAt w b v l) (hk:Kp e b w w') (hne:some 48 ≠ e):TysAt w' b v l:=own_kp h hk hne
theorem TysAt.mono {b b':Nat}{v:Value}{l:List (Int × Int)}{w:World} (h:TysAt w b v l) (hb:b'≤b):TysAt w b' v l:=own_mono h hb

/-- a list of numbers -/
def IntsAt (w:World) (b:Nat) (v:Value) (l:List Int):Prop:=w.ownsRow b 3 1 v l.length (l.map (Value.int .i64))
theorem IntsAt.kp {e:Option TypeId}{b:Nat}{v:Value}{l:List Int}{w w':World} (h:IntsAt w b v l) (hk:Kp e b w w') (hne:some 3 ≠ e):IntsAt w' b v l:=own_kp h hk hne
theorem IntsAt.mono {b b':Nat}{v:Value}{l:List Int}{w:World} (h:IntsAt w b v l) (hb:b'≤b):IntsAt w b' v l:=own_mono h hb

/-- a list of handlers -/
def hcells (l:List Rd.Hnd):List Value:=l.flatMap fun x=>[.int .i64 x.frm,.int .i64 x.til,.int .i64 x.target,.int .i64 x.cl]
theorem hcells_snoc (l:List Rd.Hnd) (x:Rd.Hnd):hcells (l ++ [x])=hcells l ++ [.int .i64 x.frm,.int .i64 x.til,.int .i64 x.target,.int .i64 x.cl]:=by simp [hcells]
def HndsAt (w:World) (b:Nat) (v:Value) (l:List Rd.Hnd):Prop:=w.ownsRow b 256 4 v l.length (hcells l)
theorem HndsAt.kp {e:Option TypeId}{b:Nat}{v:Value}{l:List Rd.Hnd}{w w':World} (h:HndsAt w b v l) (hk:Kp e b w w') (hne:some 256 ≠ e):HndsAt w' b v l:=own_kp h hk hne
theorem HndsAt.mono {b b':Nat}{v:Value}{l:List Rd.Hnd}{w:World} (h:HndsAt w b v l) (hb:b'≤b):HndsAt w b' v l:=own_mono h hb

/-- a list of classes: each with the slice of its fields -/
def ccells (l:List (Rd.Cls × Value)):List Value:=l.flatMap fun x=>[.int .i64 x.1.above,x.2]
theorem ccells_snoc (l:List (Rd.Cls × Value)) (x:Rd.Cls × Value):ccells (l ++ [x])=ccells l ++ [.int .i64 x.1.above,x.2]:=by simp [ccells]
def ClssIn (w:World) (b:Nat) (v:Value) (l:List (Rd.Cls × Value)):Prop :=
 w.ownsRow b 143 2 v l.length (ccells l)∧∀ p∈l,TysAt w b p.2 p.1.fields
theorem ClssIn.kp {b:Nat}{v:Value}{l:List (Rd.Cls × Value)}{w w':World} (h:ClssIn w b v l) {e:Option TypeId} (hk:Kp e b w w') (hne:some 143 ≠ e) (hne2:some 48 ≠ e):ClssIn w' b v l :=
 ⟨own_kp h.1 hk hne,fun p hp=>(h.2 p hp).kp hk hne2⟩
theorem ClssIn.mono {b b':Nat}{v:Value}{l:List (Rd.Cls × Value)}{w:World} (h:ClssIn w b v l) (hb:b'≤b):ClssIn w b' v l:=⟨own_mono h.1 hb,fun p hp=>(h.2 p hp).mono hb⟩
def ClssAt (w:World) (b:Nat) (v:Value) (cs:List Rd.Cls):Prop:=∃ l,l.map Prod.fst=cs∧ClssIn w b v l

/-- a list of maps: each with the slices of its locals and its stack -/
def mcells (l:List (Rd.Mp × Value × Value)):List Value:=l.flatMap fun x=>[.int .i64 x.1.place,x.2.1,x.2.2]
theorem mcells_snoc (l:List (Rd.Mp × Value × Value)) (x:Rd.Mp × Value × Value):mcells (l ++ [x])=mcells l ++ [.int .i64 x.1.place,x.2.1,x.2.2]:=by simp [mcells]
def MpsIn (w:World) (b:Nat) (v:Value) (l:List (Rd.Mp × Value × Value)):Prop :=
 w.ownsRow b 210 3 v l.length (mcells l)∧∀ p∈l,TysAt w b p.2.1 p.1.locals∧TysAt w b p.2.2 p.1.stack
theorem MpsIn.kp {b:Nat}{v:Value}{l:List (Rd.Mp × Value × Value)}{w w':World} (h:MpsIn w b v l) {e:Option TypeId} (hk:Kp e b w w') (hne:some 210 ≠ e) (hne2:some 48 ≠ e):MpsIn w' b v l :=
 ⟨own_kp h.1 hk hne,fun p hp=>⟨(h.2 p hp).1.kp hk hne2,(h.2 p hp).2.kp hk hne2⟩⟩
theorem MpsIn.mono {b b':Nat}{v:Value}{l:List (Rd.Mp × Value × Value)}{w:World} (h:MpsIn w b v l) (hb:b'≤b):MpsIn w b' v l:=⟨own_mono h.1 hb,fun p hp=>⟨(h.2 p hp).1.mono hb,(h.2 p hp).2.mono hb⟩⟩
def MpsAt (w:World) (b:Nat) (v:Value) (ms:List Rd.Mp):Prop:=∃ l,l.map Prod.fst=ms∧MpsIn w b v l

/-- a method's ten cells -/
structure MthV where
 params:Value
 code:Value
 handlers:Value
 maps:Value
def mthCells (m:Rd.Mth) (u:MthV):List Value :=
 [.int .i64 m.cl,.int .i64 m.name,u.params,.int .i64 m.result.1,.int .i64 m.result.2,.int .i64 m.locals,.int .i64 m.stack,u.code,u.handlers,u.maps]
def MthIn (w:World) (b:Nat) (m:Rd.Mth) (u:MthV):Prop :=
 TysAt w b u.params m.params∧IntsAt w b u.code m.code∧HndsAt w b u.handlers m.handlers∧MpsAt w b u.maps m.maps
theorem MthIn.kp {b:Nat}{m:Rd.Mth}{u:MthV}{w w':World} (h:MthIn w b m u) {e:Option TypeId} (hk:Kp e b w w') (h1:some 48 ≠ e) (h2:some 3 ≠ e) (h3:some 256 ≠ e) (h4:some 210 ≠ e):MthIn w' b m u:=by
 obtain ⟨a,c,d,l,hl,f⟩:=h
 exact ⟨a.kp hk h1,c.kp hk h2,d.kp hk h3,l,hl,f.kp hk h4 h1⟩
theorem MthIn.mono {b b':Nat}{m:Rd.Mth}{u:MthV}{w:World} (h:MthIn w b m u) (hb:b'≤b):MthIn w b' m u:=by
 obtain ⟨a,c,d,l,hl,f⟩:=h
 exact ⟨a.mono hb,c.mono hb,d.mono hb,l,hl,f.mono hb⟩
def mscells (l:List (Rd.Mth × MthV)):List Value:=l.flatMap fun x=>mthCells x.1 x.2
theorem mscells_snoc (l:List (Rd.Mth × MthV)) (x:Rd.Mth × MthV):mscells (l ++ [x])=mscells l ++ mthCells x.1 x.2:=by simp [mscells]
def MthsIn (w:World) (b:Nat) (v:Value) (l:List (Rd.Mth × MthV)):Prop :=
 w.ownsRow b 92 10 v l.length (mscells l)∧∀ p∈l,MthIn w b p.1 p.2
theorem MthsIn.kp {b:Nat}{v:Value}{l:List (Rd.Mth × MthV)}{w w':World} (h:MthsIn w b v l) {e:Option TypeId} (hk:Kp e b w w') (h0:some 92 ≠ e) (h1:some 48 ≠ e) (h2:some 3 ≠ e) (h3:some 256 ≠ e) (h4:some 210 ≠ e):MthsIn w' b v l :=
 ⟨own_kp h.1 hk h0,fun p hp=>(h.2 p hp).kp hk h1 h2 h3 h4⟩
theorem MthsIn.mono {b b':Nat}{v:Value}{l:List (Rd.Mth × MthV)}{w:World} (h:MthsIn w b v l) (hb:b'≤b):MthsIn w b' v l:=⟨own_mono h.1 hb,fun p hp=>(h.2 p hp).mono hb⟩
def MthsAt (w:World) (b:Nat) (v:Value) (ms:List Rd.Mth):Prop:=∃ l,l.map Prod.fst=ms∧MthsIn w b v l

theorem alloc2_blk (w:World) (o o':Obj):((w.alloc o).alloc o').heap[w.heap.size+1]?=some o':=by
 have:=alloc_blk (w.alloc o) o'
 simpa using this
theorem alloc1_blk (w:World) (o o':Obj):((w.alloc o).alloc o').heap[w.heap.size]?=some o:=by
 rw [Below.heap_alloc _ _ _ (by simp)]; exact alloc_blk w o
end Go.Proofs.YteffpdofcgbokaaGreat

/-
  Rows from a block on are kept over a write below it.
-/
namespace Go.Proofs.YteffpdofcgbokaaGreat
open Go.RowKit

theorem Kp.set_lo {e:Option TypeId}{b g i:Nat}{w:World} (hg:g < b) (u:Value):Kp e b w (w.setCell ⟨g,i,none⟩ u):=by
 intro k cs t hk hc _
 rw [Below.heap_setCell _ _ _ _ (by simp; omega)]; exact hc
end Go.Proofs.YteffpdofcgbokaaGreat

/-
  The walk over the reader's method class: a class and its own fields.
-/
namespace Go.Proofs.YteffpdofcgbokaaGreat
open Go.RowKit

theorem tys_len (s:List UInt8) (n:Nat) (t:Rd.St):(Rd.tys s n t).1.length=n:=Rd.rep_len _ _ _

set_option maxRecDepth 100000 in
set_option maxHeartbeats 1000000 in
theorem class_any (s:ByteArray) (B:Nat) (t:Rd.St) (w:World) (hs:s.size≤maxLen) (hR:RdAt w B s t) :
  Calls Tryz.prog 108 #[.pointer (some ⟨B,0,none⟩)] w fun e w' =>
   ∃ v,e=.returned (.agg #[.int .i64 (Rd.cls s.data.toList t).1.above,v])∧TysAt w' w.heap.size v (Rd.cls s.data.toList t).1.fields∧RdAt w' B s (Rd.cls s.data.toList t).2∧Gr B w w':=by
 have hlt:=hR.lt
 unfold Rd.cls
 dsimp only
 generalize hr1:Rd.nx s.data.toList t=r1
 generalize hr2:Rd.cn s.data.toList 0 4 r1.2=r2
 have hbd:=Rd.cn_bd s.data.toList 0 4 r1.2 (by omega)
 rw [hr2] at hbd
 obtain ⟨hbd0,hbd1⟩:=hbd
 have H1:=hide hr1
 have H2:=hide hr2
 clear hr1 hr2
 go_enter Tryz.func108,Tryz.ntmps108
 go_wp2_with fail
 refine (next_any s B t _ hs ((hR.alloc _).alloc _)).mono ?_
 rw [unhide H1]
 rintro e w1 ⟨rfl,hR1,hg1⟩
 have hg:=(((Gr.refl B w).alloc _).alloc _).trans hg1
 have hb:=hg1.own (alloc2_blk w _ _) (by omega)
 have hc:=hg1.own (alloc1_blk w _ _) (by omega)
 have k0:=blk_cell hb 0
 have f0:=blk_free hb 0
 simp only [List.getElem?_toArray,List.getElem?_cons_zero] at k0
 go_wp2_with fail
 clear k0 f0
 refine (count_any s B 0 4 r1.2 _ hs (hR1.set (by simp; omega) _)).mono ?_
 rw [unhide H2]
 rintro e w2 ⟨rfl,hR2,hg2⟩
 have hg':=(hg.set (.inl (by simp)) _).trans hg2
 have hb2:=hg2.own (set_blk hb _) (by omega)
 have hc2:=hg2.own ((Below.heap_setCell w1 ⟨w.heap.size+1,0,none⟩ (.int .i64 r1.1) w.heap.size (by simp)).trans hc) (by omega)
 have hs1:=hg1.size
 have hs2:=hg2.size
 simp at hs1 hs2
 clear hb hc hg hg1 hg2 hR1
 go_wp2_with fail
 refine (types_any s B r2.1 r2.2 _ hs hbd0 (by omega) hR2).mono ?_
 rintro e w3 ⟨v,rfl,ho3,hR3,hg3⟩
 obtain ⟨va,vc,rfl⟩:=own_shape ho3
 have hsz:=hg'.size
 have hb3:=hg3.own hb2 (by omega)
 have hc3:=hg3.own hc2 (by omega)
 have k1:=blk_cell hb3 1
 have f1:=blk_free hb3 1
 have k0:=blk_cell hb3 0
 have k2:=blk_cell hc3 0
 have f2:=blk_free hc3 0
 have k3:=blk_cell hc3 1
 have f3:=blk_free hc3 1
 simp at k0 k1 k2 k3
 go_wp2_with fail
 refine bodyPost_ret (v:=.agg #[.int .i64 r1.1,.slice va r2.1.toNat vc]) (by simp [results,Tryz.results108,go_sem,k2,k3]) rfl ?_
 refine ⟨_,rfl,?_,((hR3.set (by simp; omega) _).set (by simp; omega) _).set (by simp; omega) _,(((hg'.trans hg3).set (.inl (by simp)) _).set (.inl (by simp)) _).set (.inl (by simp)) _⟩
 unfold TysAt
 rw [tys_len]
 exact own_mono (ownsRow_setCell_below (ownsRow_setCell_below (ownsRow_setCell_below ho3 (by simp; omega) _) (by simp; omega) _) (by simp; omega) _) hsz
end Go.Proofs.YteffpdofcgbokaaGreat

/-
  The walks over the reader's methods code and handlers.
-/
namespace Go.Proofs.YteffpdofcgbokaaGreat
open Go.RowKit

theorem Tryz.infoInt:(Tryz.prog.info? 3).map (fun i=>(i.zero,i.size,i.bytes))=some (some (.int .i64 0),1,8):=by kernel_rfl
theorem Tryz.infoHandler:(Tryz.prog.info? 256).map (fun i=>(i.zero,i.size,i.bytes))=some (some (.agg #[.int .i64 0,.int .i64 0,.int .i64 0,.int .i64 0]),4,32):=by kernel_rfl

set_option maxRecDepth 100000 in
set_option maxHeartbeats 1000000 in
theorem code_any (s:ByteArray) (B:Nat) (t:Rd.St) (w:World) (hs:s.size≤maxLen) (hR:RdAt w B s t) :
  Calls Tryz.prog 152 #[.pointer (some ⟨B,0,none⟩)] w fun e w' =>
   ∃ v,e=.returned v∧IntsAt w' w.heap.size v (Rd.codes s.data.toList t).1∧RdAt w' B s (Rd.codes s.data.toList t).2∧Gr B w w':=by
 have hlt:=hR.lt
 obtain ⟨i0,hi,hz0,hz1,hz2⟩:=info_parts Tryz.infoInt
 unfold Rd.codes IntsAt
 dsimp only
 rw [Rd.rep_len]
 generalize hr:Rd.cn s.data.toList 1 120 t=r
 have hbd:=Rd.cn_bd s.data.toList 1 120 t (by omega)
 rw [hr] at hbd
 obtain ⟨hbd0,hbd1⟩:=hbd
 have H:=hide hr
 clear hr
 go_enter Tryz.func152,Tryz.ntmps152
 go_wp2_with fail
 refine (count_any s B 1 120 t _ hs hR).mono ?_
 rw [unhide H]
 rintro e w0 ⟨rfl,hR0,hg0⟩
 have hsz0:=hg0.size
 go_wp2
 go_loopw [3,5] (fun v i wr=>∃ k:Nat,(k:Int)≤r.1∧i=.int .i64 k∧wr.ownsRow w.heap.size 3 1 v k ((Rd.rep (Rd.nx s.data.toList) k r.2).1.map (Value.int .i64))∧RdAt wr B s (Rd.rep (Rd.nx s.data.toList) k r.2).2∧Gr B w wr)
  (fun _ i _=>r.1.toNat - (intOf i).toNat)
 case atStart=>exact ⟨0,by omega,rfl,World.ownsRow_nil _ _ _ _,hR0,hg0⟩
 case round =>
  obtain ⟨k,hk,rfl,hown,hRr,hgr⟩:=hrel
  have hsz:=hgr.size
  by_cases hkn:(k:Int) < r.1
  ·generalize hp:Rd.rep (Rd.nx s.data.toList) k r.2=p at *
   generalize hq:Rd.nx s.data.toList p.2=q at *
   have HP:=hide hp
   have HQ:=hide hq
   clear hp hq
   go_wp2_with fail
   refine (next_any s B p.2 _ hs hRr).mono ?_
   rw [unhide HQ]
   rintro e w1 ⟨rfl,hR1,hg1⟩
   have hsz1:=hg1.size
   have hown1:=own_gr hown hg1 hlt
   go_wp2_with (at_builtin; refine wpList_append_own _ rfl _ _ 58 rfl w.heap.size 3 i0 _ 1 8 Tryz.underlying58 hi hz0 hz1 hz2 rfl (by decide) _ _ _ rfl (hown1.alloc _) ⟨w1.heap.size,0,none⟩ 1 1 [.int .i64 q.1] rfl rfl ?c1 ?c2 ?c3 ?c4 ?c5 ?_)
   case c1=>exact cells_new _ _ _ _ rfl
   case c2=>intro u hu; simp at hu; subst hu; rfl
   case c3=>unfold maxLen; omega
   case c4=>omega
   case c5=>simp; omega
   intro v' w2 hown2 hgrow _
   have hR2:=(hR1.alloc _).grown hgrow (own_ne hown1 hlt)
   have hg2:=((hgr.trans hg1).alloc _).grown hgrow (own_ge hown1)
   have e1:(Rd.rep (Rd.nx s.data.toList) (k+1) r.2)=(p.1 ++ [q.1],q.2):=by simp only [Rd.rep,unhide HP,unhide HQ]
   have hown3:w2.ownsRow w.heap.size 3 1 v' (k+1) ((p.1 ++ [q.1]).map (Value.int .i64)):=by simpa using hown2
   have HE:=hide e1
   clear e1 hgrow hown hown1 hown2 hRr hR1 hg1 hgr
   go_wp2
   go_roundw
   case rel=>exact ⟨k+1,by omega,by go_num,by rw [unhide HE]; exact hown3,by rw [unhide HE]; exact hR2,hg2⟩
   case measure=>simp [intOf]; omega
  ·have e:k=r.1.toNat:=by omega
   subst e
   go_wp2
   go_ret
   exact ⟨_,rfl,hown,hRr,hgr⟩

set_option maxRecDepth 100000 in
set_option maxHeartbeats 2000000 in
theorem handlers_any (s:ByteArray) (B:Nat) (t:Rd.St) (w:World) (hs:s.size≤maxLen) (hR:RdAt w B s t) :
  Calls Tryz.prog 153 #[.pointer (some ⟨B,0,none⟩)] w fun e w' =>
   ∃ v,e=.returned v∧HndsAt w' w.heap.size v (Rd.hnds s.data.toList t).1∧RdAt w' B s (Rd.hnds s.data.toList t).2∧Gr B w w':=by
 have hlt:=hR.lt
 obtain ⟨i0,hi,hz0,hz1,hz2⟩:=info_parts Tryz.infoHandler
 unfold Rd.hnds HndsAt
 dsimp only
 rw [Rd.rep_len]
 generalize hr:Rd.cn s.data.toList 0 4 t=r
 have hbd:=Rd.cn_bd s.data.toList 0 4 t (by omega)
 rw [hr] at hbd
 obtain ⟨hbd0,hbd1⟩:=hbd
 have H:=hide hr
 clear hr
 go_enter Tryz.func153,Tryz.ntmps153
 go_wp2_with fail
 refine (count_any s B 0 4 t _ hs hR).mono ?_
 rw [unhide H]
 rintro e w0 ⟨rfl,hR0,hg0⟩
 have hsz0:=hg0.size
 go_wp2
 go_loopw [3,5] (fun v i wr=>∃ k:Nat,(k:Int)≤r.1∧i=.int .i64 k∧wr.ownsRow w.heap.size 256 4 v k (hcells (Rd.rep (Rd.hnd s.data.toList) k r.2).1)∧RdAt wr B s (Rd.rep (Rd.hnd s.data.toList) k r.2).2∧Gr B w wr)
  (fun _ i _=>r.1.toNat - (intOf i).toNat)
 case atStart=>exact ⟨0,by omega,rfl,World.ownsRow_nil _ _ _ _,hR0,hg0⟩
 case round =>
  obtain ⟨k,hk,rfl,hown,hRr,hgr⟩:=hrel
  have hsz:=hgr.size
  by_cases hkn:(k:Int) < r.1
  ·generalize hp:Rd.rep (Rd.hnd s.data.toList) k r.2=p at *
   generalize hq1:Rd.nx s.data.toList p.2=q1
   generalize hq2:Rd.nx s.data.toList q1.2=q2
   generalize hq3:Rd.nx s.data.toList q2.2=q3
   generalize hq4:Rd.nx s.data.toList q3.2=q4
   have HQ:Hid (Rd.hnd s.data.toList p.2=(⟨q1.1,q2.1,q3.1,q4.1⟩,q4.2)):=by
    unfold Hid Rd.hnd
    simp only [hq1,hq2,hq3,hq4]
   have HP:=hide hp
   have HQ1:=hide hq1
   have HQ2:=hide hq2
   have HQ3:=hide hq3
   have HQ4:=hide hq4
   clear hp hq1 hq2 hq3 hq4
   have hne:wr.heap.size ≠ B:=by omega
   go_wp2_with fail
   refine (next_any s B p.2 _ hs (hRr.alloc _)).mono ?_
   rw [unhide HQ1]
   rintro e w1 ⟨rfl,hR1,hg1⟩
   have hG1:=((Gr.refl B wr).alloc _).trans hg1
   have hb1:=hg1.own (alloc_blk wr _) hne
   have c0:=blk_cell hb1 0
   have f0:=blk_free hb1 0
   simp at c0
   go_wp2_with fail
   clear c0 f0
   refine (next_any s B q1.2 _ hs (hR1.set (by simp; omega) _)).mono ?_
   rw [unhide HQ2]
   rintro e w2 ⟨rfl,hR2,hg2⟩
   have hG2:=(hG1.set (.inl (by simp)) _).trans hg2
   have hb2:=hg2.own (set_blk hb1 _) hne
   simp at hb2
   have c1:=blk_cell hb2 1
   have f1:=blk_free hb2 1
   simp at c1
   go_wp2_with fail
   clear c1 f1
   refine (next_any s B q2.2 _ hs (hR2.set (by simp; omega) _)).mono ?_
   rw [unhide HQ3]
   rintro e w3 ⟨rfl,hR3,hg3⟩
   have hG3:=(hG2.set (.inl (by simp)) _).trans hg3
   have hb3:=hg3.own (set_blk hb2 _) hne
   simp at hb3
   have c2:=blk_cell hb3 2
   have f2:=blk_free hb3 2
   simp at c2
   go_wp2_with fail
   clear c2 f2
   refine (next_any s B q3.2 _ hs (hR3.set (by simp; omega) _)).mono ?_
   rw [unhide HQ4]
   rintro e w4 ⟨rfl,hR4,hg4⟩
   have hG4:=(hG3.set (.inl (by simp)) _).trans hg4
   have hb4:=hg4.own (set_blk hb3 _) hne
   simp at hb4
   have c0:=blk_cell hb4 0
   have c1:=blk_cell hb4 1
   have c2:=blk_cell hb4 2
   have c3:=blk_cell hb4 3
   have f3:=blk_free hb4 3
   simp at c0 c1 c2 c3
   have hG5:=hG4.set (p:=⟨wr.heap.size,3,none⟩) (.inl (by simp)) (.int .i64 q4.1)
   have hown1:=own_gr hown hG5 hlt
   have hR5:=hR4.set (p:=⟨wr.heap.size,3,none⟩) (by simp; omega) (.int .i64 q4.1)
   have hsz5:=hG5.size
   clear hb1 hb2 hb3 hb4 hg1 hg2 hg3 hg4 hG1 hG2 hG3 hG4 hR1 hR2 hR3 hR4
   go_wp2_with (at_builtin; refine wpList_append_own _ rfl _ _ 89 rfl w.heap.size 256 i0 _ 4 32 Tryz.underlying89 hi hz0 hz1 hz2 rfl (by decide) _ _ _ rfl (hown1.alloc _) ⟨w4.heap.size,0,none⟩ 1 1 [.int .i64 q1.1,.int .i64 q2.1,.int .i64 q3.1,.int .i64 q4.1] rfl rfl ?c1 ?c2 ?c3 ?c4 ?c5 ?_)
   case c1=>exact cells_new _ _ _ _ (by simp)
   case c2=>intro u hu; simp at hu; rcases hu with rfl | rfl | rfl | rfl <;> rfl
   case c3=>unfold maxLen; omega
   case c4=>omega
   case c5=>simp at hsz5 ⊢; omega
   intro v' w5 hown2 hgrow _
   have hR6:=(hR5.alloc _).grown hgrow (own_ne hown1 hlt)
   have hg6:=((hgr.trans hG5).alloc _).grown hgrow (own_ge hown1)
   have e1:(Rd.rep (Rd.hnd s.data.toList) (k+1) r.2)=(p.1 ++ [⟨q1.1,q2.1,q3.1,q4.1⟩],q4.2):=by simp only [Rd.rep,unhide HP,unhide HQ]
   have hown3:w5.ownsRow w.heap.size 256 4 v' (k+1) (hcells (p.1 ++ [⟨q1.1,q2.1,q3.1,q4.1⟩])):=by rw [hcells_snoc]; exact hown2
   have HE:=hide e1
   clear e1 hgrow hown hown1 hown2 hRr hR5 hG5 hgr c0 c1 c2 c3 f3
   go_wp2
   go_roundw
   case rel=>exact ⟨k+1,by omega,by go_num,by rw [unhide HE]; exact hown3,by rw [unhide HE]; exact hR6,hg6⟩
   case measure=>simp [intOf]; omega
  ·have e:k=r.1.toNat:=by omega
   subst e
   go_wp2
   go_ret
   exact ⟨_,rfl,hown,hRr,hgr⟩
end Go.Proofs.YteffpdofcgbokaaGreat

/-
  The walk over the reader's method maps.
-/
namespace Go.Proofs.YteffpdofcgbokaaGreat
open Go.RowKit

theorem Tryz.infoMap:(Tryz.prog.info? 210).map (fun i=>(i.zero,i.size,i.bytes))=some (some (.agg #[.int .i64 0,.slice none 0 0,.slice none 0 0]),3,56):=by kernel_rfl

set_option maxRecDepth 100000 in
set_option maxHeartbeats 2000000 in
theorem maps_any (s:ByteArray) (B:Nat) (L H:Int) (t:Rd.St) (w:World) (hs:s.size≤maxLen) (hL0:0≤L) (hL1:L≤8) (hH0:0≤H) (hH1:H≤8) (hR:RdAt w B s t) :
  Calls Tryz.prog 154 #[.pointer (some ⟨B,0,none⟩),.int .i64 L,.int .i64 H] w fun e w' =>
   ∃ v l,e=.returned v∧l.map Prod.fst=(Rd.mps s.data.toList L H t).1∧MpsIn w' w.heap.size v l∧RdAt w' B s (Rd.mps s.data.toList L H t).2∧Gr B w w':=by
 have hlt:=hR.lt
 obtain ⟨i0,hi,hz0,hz1,hz2⟩:=info_parts Tryz.infoMap
 unfold Rd.mps
 dsimp only
 generalize hr:Rd.cn s.data.toList 0 64 t=r
 have hbd:=Rd.cn_bd s.data.toList 0 64 t (by omega)
 rw [hr] at hbd
 obtain ⟨hbd0,hbd1⟩:=hbd
 have HR:=hide hr
 clear hr
 go_enter Tryz.func154,Tryz.ntmps154
 go_wp2_with fail
 refine (count_any s B 0 64 t _ hs hR).mono ?_
 rw [unhide HR]
 rintro e w0 ⟨rfl,hR0,hg0⟩
 have hsz0:=hg0.size
 go_wp2
 go_loopw [7,9] (fun v i wr=>∃ (k:Nat) (l:List (Rd.Mp × Value × Value)),(k:Int)≤r.1∧i=.int .i64 k∧l.length=k∧l.map Prod.fst=(Rd.rep (Rd.mp s.data.toList L H) k r.2).1∧MpsIn wr w.heap.size v l∧RdAt wr B s (Rd.rep (Rd.mp s.data.toList L H) k r.2).2∧Gr B w wr)
  (fun _ i _=>r.1.toNat - (intOf i).toNat)
 case atStart=>exact ⟨0,[],by omega,rfl,rfl,rfl,⟨World.ownsRow_nil _ _ _ _,by simp⟩,hR0,hg0⟩
 case round =>
  obtain ⟨k,l,hk,rfl,hlen,hmap,hms,hRr,hgr⟩:=hrel
  have hsz:=hgr.size
  by_cases hkn:(k:Int) < r.1
  ·generalize hp:Rd.rep (Rd.mp s.data.toList L H) k r.2=p at *
   generalize hq1:Rd.nx s.data.toList p.2=q1
   generalize hq2:Rd.tys s.data.toList L.toNat q1.2=q2
   generalize hq3:Rd.cn s.data.toList 0 H q2.2=q3
   generalize hq4:Rd.tys s.data.toList q3.1.toNat q3.2=q4
   have l2:q2.1.length=L.toNat:=by rw [← hq2]; exact tys_len _ _ _
   have l4:q4.1.length=q3.1.toNat:=by rw [← hq4]; exact tys_len _ _ _
   have hb3:=Rd.cn_bd s.data.toList 0 H q2.2 hH0
   rw [hq3] at hb3
   obtain ⟨hb30,hb31⟩:=hb3
   have HQ:Hid (Rd.mp s.data.toList L H p.2=(⟨q1.1,q2.1,q4.1⟩,q4.2)):=by
    unfold Hid Rd.mp
    simp only [hq1,hq2,hq3,hq4]
   have HP:=hide hp
   have HQ1:=hide hq1
   have HQ2:=hide hq2
   have HQ3:=hide hq3
   have HQ4:=hide hq4
   have HL2:=hide l2
   have HL4:=hide l4
   have HLen:=hide hlen
   have HMap:=hide hmap
   clear hp hq1 hq2 hq3 hq4 l2 l4 hlen hmap
   have hne:wr.heap.size ≠ B:=by omega
   go_wp2_with fail
   refine (next_any s B p.2 _ hs (hRr.alloc _)).mono ?_
   rw [unhide HQ1]
   rintro e w1 ⟨rfl,hR1,hg1⟩
   have hG1:=((Gr.refl B wr).alloc _).trans hg1
   have hb1:=hg1.own (alloc_blk wr _) hne
   have s1:=hg1.size
   simp at s1
   have c0:=blk_cell hb1 0
   have f0:=blk_free hb1 0
   simp at c0
   go_wp2_with fail
   clear c0 f0
   refine (types_any s B L q1.2 _ hs hL0 (by omega) (hR1.set (by simp; omega) _)).mono ?_
   rw [unhide HQ2]
   rintro e w2 ⟨v1,rfl,ho1,hR2,hg2⟩
   obtain ⟨va,vc,rfl⟩:=own_shape ho1
   have hG2:=(hG1.set (.inl (by simp)) _).trans hg2
   have hb2:=hg2.own (set_blk hb1 _) hne
   simp at hb2
   have c1:=blk_cell hb2 1
   have f1:=blk_free hb2 1
   simp at c1
   have ht1:TysAt w2 w.heap.size (.slice va L.toNat vc) q2.1:=by
    unfold TysAt
    rw [unhide HL2]
    exact own_mono ho1 (by simp; omega)
   clear ho1
   go_wp2_with fail
   clear c1 f1
   refine (count_any s B 0 H q2.2 _ hs (hR2.set (by simp; omega) _)).mono ?_
   rw [unhide HQ3]
   rintro e w3 ⟨rfl,hR3,hg3⟩
   have hG3:=(hG2.set (.inl (by simp)) _).trans hg3
   have hb3':=hg3.own (set_blk hb2 _) hne
   simp at hb3'
   have ht2:=(ht1.kp (Kp.set (i:=1) hb2 (.slice va L.toNat vc)) (by decide)).kp (Kp.of_gr (e:=none) hg3 hlt) (by decide)
   clear ht1
   go_wp2_with fail
   refine (types_any s B q3.1 q3.2 _ hs hb30 (by omega) hR3).mono ?_
   rw [unhide HQ4]
   rintro e w4 ⟨v2,rfl,ho2,hR4,hg4⟩
   obtain ⟨vb,vd,rfl⟩:=own_shape ho2
   have hG4:=hG3.trans hg4
   have hb4:=hg4.own hb3' hne
   have ht3:=ht2.kp (Kp.of_gr (e:=none) hg4 hlt) (by decide)
   have s3:=hG3.size
   have ht4:TysAt w4 w.heap.size (.slice vb q3.1.toNat vd) q4.1:=by
    unfold TysAt
    rw [unhide HL4]
    exact own_mono ho2 (by omega)
   clear ho2 ht2
   have c0:=blk_cell hb4 0
   have c1:=blk_cell hb4 1
   have c2:=blk_cell hb4 2
   have f2:=blk_free hb4 2
   simp at c0 c1 c2
   have hK:=Kp.set (b:=w.heap.size) (i:=2) hb4 (.slice vb q3.1.toNat vd)
   have hG5:=hG4.set (p:=⟨wr.heap.size,2,none⟩) (.inl (by simp)) (.slice vb q3.1.toNat vd)
   have hown1:=own_gr hms.1 hG5 hlt
   have hms1:=fun p hp=>And.intro ((hms.2 p hp).1.kp (Kp.of_gr (e:=none) hG5 hlt) (by decide)) ((hms.2 p hp).2.kp (Kp.of_gr (e:=none) hG5 hlt) (by decide))
   have ht5:=ht3.kp hK (by decide)
   have ht6:=ht4.kp hK (by decide)
   have hR5:=hR4.set (p:=⟨wr.heap.size,2,none⟩) (by simp; omega) (.slice vb q3.1.toNat vd)
   have hsz5:=hG5.size
   have HMs1:=hide hms1
   clear hms1 hb1 hb2 hb3' hb4 hg1 hg2 hg3 hg4 hG1 hG2 hG3 hG4 hR1 hR2 hR3 hR4 ht3 ht4 hK
   go_wp2_with (at_builtin; refine wpList_append_own _ rfl _ _ 90 rfl w.heap.size 210 i0 _ 3 56 Tryz.underlying90 hi hz0 hz1 hz2 rfl (by decide) _ _ _ rfl (hown1.alloc _) ⟨w4.heap.size,0,none⟩ 1 1 [.int .i64 q1.1,.slice va L.toNat vc,.slice vb q3.1.toNat vd] rfl rfl ?c1 ?c2 ?c3 ?c4 ?c5 ?_)
   case c1=>exact cells_new _ _ _ _ (by simp)
   case c2=>intro u hu; simp at hu; rcases hu with rfl | rfl | rfl <;> rfl
   case c3=>have:=unhide HLen; unfold maxLen; omega
   case c4=>have:=unhide HLen; omega
   case c5=>simp at hsz5 ⊢; omega
   intro v' w5 hown2 hgrow _
   have hR6:=(hR5.alloc _).grown hgrow (own_ne hown1 hlt)
   have hg6:=((hgr.trans hG5).alloc _).grown hgrow (own_ge hown1)
   have hK:=(Kp.alloc (e:=some 210) (b:=w.heap.size) _ _).trans (Kp.of_grown hgrow (hown1.alloc _))
   have hms5:MpsIn w5 w.heap.size v' (l ++ [(⟨q1.1,q2.1,q4.1⟩,.slice va L.toNat vc,.slice vb q3.1.toNat vd)]):=by
    refine ⟨?_,?_⟩
    ·rw [mcells_snoc,List.length_append]; exact hown2
    ·intro p hp
     rw [List.mem_append] at hp
     rcases hp with hp | hp
     ·exact ⟨(unhide HMs1 p hp).1.kp hK (by decide),(unhide HMs1 p hp).2.kp hK (by decide)⟩
     ·simp only [List.mem_singleton] at hp
      subst hp
      exact ⟨ht5.kp hK (by decide),ht6.kp hK (by decide)⟩
   have e1:(Rd.rep (Rd.mp s.data.toList L H) (k+1) r.2)=(p.1 ++ [⟨q1.1,q2.1,q4.1⟩],q4.2):=by simp only [Rd.rep,unhide HP,unhide HQ]
   have HE:=hide e1
   have HK:=hide hK
   clear e1 hgrow hown1 hown2 hRr hR5 hG5 hgr c0 c1 c2 f2 hK ht5 ht6 hms
   go_wp2
   go_roundw
   case rel=>exact ⟨k+1,_,by omega,by go_num,by rw [List.length_append,unhide HLen]; rfl,by rw [unhide HE,List.map_append,unhide HMap]; rfl,hms5,by rw [unhide HE]; exact hR6,hg6⟩
   case measure=>simp [intOf]; omega
  ·have e:k=r.1.toNat:=by omega
   subst e
   go_wp2
   go_ret
   exact ⟨_,rfl,l,hmap,hms,hRr,hgr⟩
end Go.Proofs.YteffpdofcgbokaaGreat

/-
  The walk over the reader's method method: a method's head, code, handlers and maps.
-/
namespace Go.Proofs.YteffpdofcgbokaaGreat
open Go.RowKit

theorem set_other {w:World}{k:Nat}{o:Obj} (h:w.heap[k]?=some o) {p:Addr} (hp:k ≠ p.block) (u:Value):(w.setCell p u).heap[k]?=some o:=by
 rw [Below.heap_setCell _ _ _ _ hp]; exact h

set_option maxRecDepth 100000 in
set_option maxHeartbeats 4000000 in
theorem method_any (s:ByteArray) (B:Nat) (t:Rd.St) (w:World) (hs:s.size≤maxLen) (hR:RdAt w B s t) :
  Calls Tryz.prog 109 #[.pointer (some ⟨B,0,none⟩)] w fun e w' =>
   ∃ a1 m1 d1 a2 m2 d2 a3 m3 d3 a4 m4 d4,e=.returned (.agg #[.int .i64 (Rd.mth s.data.toList t).1.cl,.int .i64 (Rd.mth s.data.toList t).1.name,.slice a1 m1 d1,.int .i64 (Rd.mth s.data.toList t).1.result.1,.int .i64 (Rd.mth s.data.toList t).1.result.2,.int .i64 (Rd.mth s.data.toList t).1.locals,.int .i64 (Rd.mth s.data.toList t).1.stack,.slice a2 m2 d2,.slice a3 m3 d3,.slice a4 m4 d4]) ∧
    MthIn w' w.heap.size (Rd.mth s.data.toList t).1 ⟨.slice a1 m1 d1,.slice a2 m2 d2,.slice a3 m3 d3,.slice a4 m4 d4⟩∧RdAt w' B s (Rd.mth s.data.toList t).2∧Gr B w w':=by
 have hlt:=hR.lt
 unfold Rd.mth
 dsimp only
 generalize hq1:Rd.nx s.data.toList t=q1
 generalize hq2:Rd.nx s.data.toList q1.2=q2
 generalize hq3:Rd.cn s.data.toList 0 4 q2.2=q3
 generalize hq4:Rd.tys s.data.toList q3.1.toNat q3.2=q4
 generalize hq5:Rd.ty s.data.toList q4.2=q5
 generalize hq6:Rd.cn s.data.toList 0 8 q5.2=q6
 generalize hq7:Rd.cn s.data.toList 0 8 q6.2=q7
 generalize hq8:Rd.codes s.data.toList q7.2=q8
 generalize hq9:Rd.hnds s.data.toList q8.2=q9
 generalize hq10:Rd.mps s.data.toList q6.1 q7.1 q9.2=q10
 have l4:q4.1.length=q3.1.toNat:=by rw [← hq4]; exact tys_len _ _ _
 have b3:=Rd.cn_bd s.data.toList 0 4 q2.2 (by omega)
 have b6:=Rd.cn_bd s.data.toList 0 8 q5.2 (by omega)
 have b7:=Rd.cn_bd s.data.toList 0 8 q6.2 (by omega)
 rw [hq3] at b3
 rw [hq6] at b6
 rw [hq7] at b7
 obtain ⟨b30,b31⟩:=b3
 obtain ⟨b60,b61⟩:=b6
 obtain ⟨b70,b71⟩:=b7
 have HL4:=hide l4
 have Q1:=hide hq1
 have Q2:=hide hq2
 have Q3:=hide hq3
 have Q4:=hide hq4
 have Q5:=hide hq5
 have Q6:=hide hq6
 have Q7:=hide hq7
 have Q8:=hide hq8
 have Q9:=hide hq9
 have Q10:=hide hq10
 clear hq1 hq2 hq3 hq4 hq5 hq6 hq7 hq8 hq9 hq10 l4
 have n1:w.heap.size+1 ≠ B:=by omega
 have n0:w.heap.size ≠ B:=by omega
 go_enter Tryz.func109,Tryz.ntmps109
 go_wp2_with fail
 refine (next_any s B t _ hs ((hR.alloc _).alloc _)).mono ?_
 rw [unhide Q1]
 rintro e w1 ⟨rfl,hR1,hg1⟩
 have G1:=(((Gr.refl B w).alloc _).alloc _).trans hg1
 have B1:=hg1.own (alloc2_blk w _ _) n1
 have C1:=hg1.own (alloc1_blk w _ _) n0
 have S1:=hg1.size
 simp at S1
 have c0:=blk_cell B1 0
 have f0:=blk_free B1 0
 simp at c0
 go_wp2_with fail
 clear c0 f0
 refine (next_any s B q1.2 _ hs (hR1.set (by simp; omega) _)).mono ?_
 rw [unhide Q2]
 rintro e w2 ⟨rfl,hR2,hg2⟩
 have G2:=(G1.set (.inl (by simp)) _).trans hg2
 have B2:=hg2.own (set_blk (i:=0) B1 (.int .i64 q1.1)) n1
 have C2:=hg2.own (set_other C1 (p:=⟨w.heap.size+1,0,none⟩) (by simp) (.int .i64 q1.1)) n0
 simp at B2
 have S2:=G2.size
 have c1:=blk_cell B2 1
 have f1:=blk_free B2 1
 simp at c1
 go_wp2_with fail
 clear c1 f1
 refine (count_any s B 0 4 q2.2 _ hs (hR2.set (by simp; omega) _)).mono ?_
 rw [unhide Q3]
 rintro e w3 ⟨rfl,hR3,hg3⟩
 have G3:=(G2.set (.inl (by simp)) _).trans hg3
 have B3:=hg3.own (set_blk (i:=1) B2 (.int .i64 q2.1)) n1
 have C3:=hg3.own (set_other C2 (p:=⟨w.heap.size+1,1,none⟩) (by simp) (.int .i64 q2.1)) n0
 simp at B3
 have S3:=G3.size
 go_wp2_with fail
 refine (types_any s B q3.1 q3.2 _ hs b30 (by omega) hR3).mono ?_
 rw [unhide Q4]
 rintro e w4 ⟨v4,rfl,ho4,hR4,hg4⟩
 have G4:=G3.trans hg4
 have B4:=hg4.own B3 n1
 have C4:=hg4.own C3 n0
 have S4:=G4.size
 obtain ⟨a4,d4,rfl⟩:=own_shape ho4
 have T4:TysAt w4 w.heap.size (.slice a4 q3.1.toNat d4) q4.1:=by
  unfold TysAt
  rw [unhide HL4]
  exact own_mono ho4 (by omega)
 clear ho4
 have c2:=blk_cell B4 2
 have f2:=blk_free B4 2
 simp at c2
 have T4:=T4.kp (Kp.set (i:=2) B4 (.slice a4 q3.1.toNat d4)) (by decide)
 go_wp2_with fail
 clear c2 f2
 refine (oneType_any s B q4.2 _ hs (hR4.set (by simp; omega) _)).mono ?_
 rw [unhide Q5]
 rintro e w5 ⟨rfl,hR5,hg5⟩
 have G5:=(G4.set (.inl (by simp)) _).trans hg5
 have B5:=hg5.own (set_blk (i:=2) B4 (.slice a4 q3.1.toNat d4)) n1
 have C5:=hg5.own (set_other C4 (p:=⟨w.heap.size+1,2,none⟩) (by simp) (.slice a4 q3.1.toNat d4)) n0
 simp at B5
 have S5:=G5.size
 have T4:=(T4).kp (Kp.of_gr (e:=none) hg5 hlt) (by decide)
 have c3:=blk_cell B5 3
 have f3:=blk_free B5 3
 simp at c3
 have c4:=blk_cell B5 4
 have f4:=blk_free B5 4
 simp at c4
 have T4:=T4.kp (Kp.set (i:=3) B5 (.int .i64 q5.1.1)) (by decide)
 have T4:=T4.kp (Kp.set (i:=4) (set_blk (i:=3) B5 (.int .i64 q5.1.1)) (.int .i64 q5.1.2)) (by decide)
 go_wp2_with fail
 clear c3 f3 c4 f4
 refine (count_any s B 0 8 q5.2 _ hs ((hR5.set (by simp; omega) _).set (by simp; omega) _)).mono ?_
 rw [unhide Q6]
 rintro e w6 ⟨rfl,hR6,hg6⟩
 have G6:=((G5.set (.inl (by simp)) _).set (.inl (by simp)) _).trans hg6
 have B6:=hg6.own (set_blk (i:=4) (set_blk (i:=3) B5 (.int .i64 q5.1.1)) (.int .i64 q5.1.2)) n1
 have C6:=hg6.own (set_other (set_other C5 (p:=⟨w.heap.size+1,3,none⟩) (by simp) (.int .i64 q5.1.1)) (p:=⟨w.heap.size+1,4,none⟩) (by simp) (.int .i64 q5.1.2)) n0
 simp at B6
 have S6:=G6.size
 have T4:=(T4).kp (Kp.of_gr (e:=none) hg6 hlt) (by decide)
 have c5:=blk_cell B6 5
 have f5:=blk_free B6 5
 simp at c5
 have T4:=T4.kp (Kp.set (i:=5) B6 (.int .i64 q6.1)) (by decide)
 go_wp2_with fail
 clear c5 f5
 refine (count_any s B 0 8 q6.2 _ hs (hR6.set (by simp; omega) _)).mono ?_
 rw [unhide Q7]
 rintro e w7 ⟨rfl,hR7,hg7⟩
 have G7:=(G6.set (.inl (by simp)) _).trans hg7
 have B7:=hg7.own (set_blk (i:=5) B6 (.int .i64 q6.1)) n1
 have C7:=hg7.own (set_other C6 (p:=⟨w.heap.size+1,5,none⟩) (by simp) (.int .i64 q6.1)) n0
 simp at B7
 have S7:=G7.size
 have T4:=(T4).kp (Kp.of_gr (e:=none) hg7 hlt) (by decide)
 have c6:=blk_cell B7 6
 have f6:=blk_free B7 6
 simp at c6
 have T4:=T4.kp (Kp.set (i:=6) B7 (.int .i64 q7.1)) (by decide)
 go_wp2_with fail
 clear c6 f6
 refine (code_any s B q7.2 _ hs (hR7.set (by simp; omega) _)).mono ?_
 rw [unhide Q8]
 rintro e w8 ⟨v8,rfl,ho8,hR8,hg8⟩
 have G8:=(G7.set (.inl (by simp)) _).trans hg8
 have B8:=hg8.own (set_blk (i:=6) B7 (.int .i64 q7.1)) n1
 have C8:=hg8.own (set_other C7 (p:=⟨w.heap.size+1,6,none⟩) (by simp) (.int .i64 q7.1)) n0
 simp at B8
 have S8:=G8.size
 obtain ⟨a8,d8,rfl⟩:=own_shape ho8
 have T8:=ho8.mono (b':=w.heap.size) (by simp; omega)
 clear ho8
 have T4:=(T4).kp (Kp.of_gr (e:=none) hg8 hlt) (by decide)
 have c7:=blk_cell B8 7
 have f7:=blk_free B8 7
 simp at c7
 have T4:=T4.kp (Kp.set (i:=7) B8 (.slice a8 q8.1.length d8)) (by decide)
 have T8:=T8.kp (Kp.set (i:=7) B8 (.slice a8 q8.1.length d8)) (by decide)
 go_wp2_with fail
 clear c7 f7
 refine (handlers_any s B q8.2 _ hs (hR8.set (by simp; omega) _)).mono ?_
 rw [unhide Q9]
 rintro e w9 ⟨v9,rfl,ho9,hR9,hg9⟩
 have G9:=(G8.set (.inl (by simp)) _).trans hg9
 have B9:=hg9.own (set_blk (i:=7) B8 (.slice a8 q8.1.length d8)) n1
 have C9:=hg9.own (set_other C8 (p:=⟨w.heap.size+1,7,none⟩) (by simp) (.slice a8 q8.1.length d8)) n0
 simp at B9
 have S9:=G9.size
 obtain ⟨a9,d9,rfl⟩:=own_shape ho9
 have T9:=ho9.mono (b':=w.heap.size) (by simp; omega)
 clear ho9
 have T4:=(T4).kp (Kp.of_gr (e:=none) hg9 hlt) (by decide)
 have T8:=(T8).kp (Kp.of_gr (e:=none) hg9 hlt) (by decide)
 have c8:=blk_cell B9 8
 have f8:=blk_free B9 8
 simp at c8
 have T4:=T4.kp (Kp.set (i:=8) B9 (.slice a9 q9.1.length d9)) (by decide)
 have T8:=T8.kp (Kp.set (i:=8) B9 (.slice a9 q9.1.length d9)) (by decide)
 have T9:=T9.kp (Kp.set (i:=8) B9 (.slice a9 q9.1.length d9)) (by decide)
 have c5:=blk_cell B9 5
 have c6:=blk_cell B9 6
 simp at c5 c6
 go_wp2_with fail
 clear c8 f8 c5 c6
 refine (maps_any s B q6.1 q7.1 q9.2 _ hs b60 b61 b70 b71 (hR9.set (by simp; omega) _)).mono ?_
 rw [unhide Q10]
 rintro e w10 ⟨v10,l10,rfl,hl10,ho10,hR10,hg10⟩
 have G10:=(G9.set (.inl (by simp)) _).trans hg10
 have B10:=hg10.own (set_blk (i:=8) B9 (.slice a9 q9.1.length d9)) n1
 have C10:=hg10.own (set_other C9 (p:=⟨w.heap.size+1,8,none⟩) (by simp) (.slice a9 q9.1.length d9)) n0
 simp at B10
 have S10:=G10.size
 obtain ⟨a10,d10,rfl⟩:=own_shape ho10.1
 have T10:=ho10.mono (b':=w.heap.size) (by simp; omega)
 clear ho10
 have T4:=(T4).kp (Kp.of_gr (e:=none) hg10 hlt) (by decide)
 have T8:=(T8).kp (Kp.of_gr (e:=none) hg10 hlt) (by decide)
 have T9:=(T9).kp (Kp.of_gr (e:=none) hg10 hlt) (by decide)
 have c9:=blk_cell B10 9
 have f9:=blk_free B10 9
 simp at c9
 have c0:=blk_cell B10 0
 have c1:=blk_cell B10 1
 have c2:=blk_cell B10 2
 have c3:=blk_cell B10 3
 have c4:=blk_cell B10 4
 have c5:=blk_cell B10 5
 have c6:=blk_cell B10 6
 have c7:=blk_cell B10 7
 have c8:=blk_cell B10 8
 simp at c0 c1 c2 c3 c4 c5 c6 c7 c8
 have z0:=blk_cell C10 0
 have g0:=blk_free C10 0
 have z1:=blk_cell C10 1
 have g1:=blk_free C10 1
 have z2:=blk_cell C10 2
 have g2:=blk_free C10 2
 have z3:=blk_cell C10 3
 have g3:=blk_free C10 3
 have z4:=blk_cell C10 4
 have g4:=blk_free C10 4
 have z5:=blk_cell C10 5
 have g5:=blk_free C10 5
 have z6:=blk_cell C10 6
 have g6:=blk_free C10 6
 have z7:=blk_cell C10 7
 have g7:=blk_free C10 7
 have z8:=blk_cell C10 8
 have g8:=blk_free C10 8
 have z9:=blk_cell C10 9
 have g9:=blk_free C10 9
 simp at z0 z1 z2 z3 z4 z5 z6 z7 z8 z9
 have K10:=Kp.set (b:=w.heap.size) (i:=9) B10 (.slice a10 l10.length d10)
 have T4:=T4.kp K10 (by decide)
 have T8:=T8.kp K10 (by decide)
 have T9:=T9.kp K10 (by decide)
 have T10:=T10.kp K10 (by decide) (by decide)
 go_wp2_with fail
 refine bodyPost_ret (v:=.agg #[.int .i64 q1.1,.int .i64 q2.1,.slice a4 q3.1.toNat d4,.int .i64 q5.1.1,.int .i64 q5.1.2,.int .i64 q6.1,.int .i64 q7.1,.slice a8 q8.1.length d8,.slice a9 q9.1.length d9,.slice a10 l10.length d10]) (by simp [results,Tryz.results109,go_sem,z0,z1,z2,z3,z4,z5,z6,z7,z8,z9]) rfl ?_
 refine ⟨_,_,_,_,_,_,_,_,_,_,_,_,rfl,?_,?_,?_⟩
 have E0:=(set_other C10 (p:=⟨w.heap.size+1,9,none⟩) (by simp) (.slice a10 l10.length d10))
 have F0:=Kp.set (b:=w.heap.size) (i:=0) E0 (.int .i64 q1.1)
 have E1:=set_blk (i:=0) E0 (.int .i64 q1.1)
 have F1:=F0.trans (Kp.set (b:=w.heap.size) (i:=1) E1 (.int .i64 q2.1))
 have E2:=set_blk (i:=1) E1 (.int .i64 q2.1)
 have F2:=F1.trans (Kp.set (b:=w.heap.size) (i:=2) E2 (.slice a4 q3.1.toNat d4))
 have E3:=set_blk (i:=2) E2 (.slice a4 q3.1.toNat d4)
 have F3:=F2.trans (Kp.set (b:=w.heap.size) (i:=3) E3 (.int .i64 q5.1.1))
 have E4:=set_blk (i:=3) E3 (.int .i64 q5.1.1)
 have F4:=F3.trans (Kp.set (b:=w.heap.size) (i:=4) E4 (.int .i64 q5.1.2))
 have E5:=set_blk (i:=4) E4 (.int .i64 q5.1.2)
 have F5:=F4.trans (Kp.set (b:=w.heap.size) (i:=5) E5 (.int .i64 q6.1))
 have E6:=set_blk (i:=5) E5 (.int .i64 q6.1)
 have F6:=F5.trans (Kp.set (b:=w.heap.size) (i:=6) E6 (.int .i64 q7.1))
 have E7:=set_blk (i:=6) E6 (.int .i64 q7.1)
 have F7:=F6.trans (Kp.set (b:=w.heap.size) (i:=7) E7 (.slice a8 q8.1.length d8))
 have E8:=set_blk (i:=7) E7 (.slice a8 q8.1.length d8)
 have F8:=F7.trans (Kp.set (b:=w.heap.size) (i:=8) E8 (.slice a9 q9.1.length d9))
 have E9:=set_blk (i:=8) E8 (.slice a9 q9.1.length d9)
 have F9:=F8.trans (Kp.set (b:=w.heap.size) (i:=9) E9 (.slice a10 l10.length d10))
 ·exact ⟨T4.kp F9 (by decide),T8.kp F9 (by decide),T9.kp F9 (by decide),l10,hl10,T10.kp F9 (by decide) (by decide)⟩
 ·exact (((((((((((hR10.set (by simp; omega) _).set (by simp; omega) _).set (by simp; omega) _).set (by simp; omega) _).set (by simp; omega) _).set (by simp; omega) _).set (by simp; omega) _).set (by simp; omega) _).set (by simp; omega) _).set (by simp; omega) _).set (by simp; omega) _)
 ·exact (((((((((((G10.set (.inl (by simp)) _).set (.inl (by simp)) _).set (.inl (by simp)) _).set (.inl (by simp)) _).set (.inl (by simp)) _).set (.inl (by simp)) _).set (.inl (by simp)) _).set (.inl (by simp)) _).set (.inl (by simp)) _).set (.inl (by simp)) _).set (.inl (by simp)) _)
end Go.Proofs.YteffpdofcgbokaaGreat

/-
  The walks over the reader's method file and over layout.Read.
-/
namespace Go.Proofs.YteffpdofcgbokaaGreat
open Go.RowKit

theorem Tryz.infoClass:(Tryz.prog.info? 143).map (fun i=>(i.zero,i.size,i.bytes))=some (some (.agg #[.int .i64 0,.slice none 0 0]),2,32):=by kernel_rfl
theorem Tryz.infoMethod:(Tryz.prog.info? 92).map (fun i=>(i.zero,i.size,i.bytes))=some (some (.agg #[.int .i64 0,.int .i64 0,.slice none 0 0,.int .i64 0,.int .i64 0,.int .i64 0,.int .i64 0,.slice none 0 0,.slice none 0 0,.slice none 0 0]),10,144):=by kernel_rfl

set_option maxRecDepth 100000 in
set_option maxHeartbeats 4000000 in
theorem file_any (s:ByteArray) (B:Nat) (t:Rd.St) (w:World) (hs:s.size≤maxLen) (hR:RdAt w B s t) :
  Calls Tryz.prog 68 #[.pointer (some ⟨B,0,none⟩)] w fun e w' =>
   ∃ a1 n1 c1 a2 n2 c2 l1 l2,e=.returned (.agg #[.slice a1 n1 c1,.slice a2 n2 c2])∧l1.map Prod.fst=(Rd.fil s.data.toList t).1.classes∧ClssIn w' w.heap.size (.slice a1 n1 c1) l1 ∧
    l2.map Prod.fst=(Rd.fil s.data.toList t).1.methods∧MthsIn w' w.heap.size (.slice a2 n2 c2) l2∧RdAt w' B s (Rd.fil s.data.toList t).2∧Gr B w w':=by
 have hlt:=hR.lt
 obtain ⟨i0,hi,hz0,hz1,hz2⟩:=info_parts Tryz.infoClass
 obtain ⟨j0,hj,hy0,hy1,hy2⟩:=info_parts Tryz.infoMethod
 unfold Rd.fil
 dsimp only
 generalize hq1:Rd.ex s.data.toList 83 t=q1
 generalize hq2:Rd.ex s.data.toList 77 q1=q2
 generalize hq3:Rd.cn s.data.toList 0 6 q2=q3
 generalize hq4:Rd.rep (Rd.cls s.data.toList) q3.1.toNat q3.2=q4
 generalize hq5:Rd.cn s.data.toList 1 6 q4.2=q5
 have b3:=Rd.cn_bd s.data.toList 0 6 q2 (by omega)
 rw [hq3] at b3
 obtain ⟨b30,b31⟩:=b3
 have b5:=Rd.cn_bd s.data.toList 1 6 q4.2 (by omega)
 rw [hq5] at b5
 obtain ⟨b50,b51⟩:=b5
 have Q4:=hide hq4
 have Q5:=hide hq5
 have Q1:=hide hq1
 have Q2:=hide hq2
 have Q3:=hide hq3
 clear hq1 hq2 hq3 hq4 hq5
 have n1:w.heap.size+1 ≠ B:=by omega
 have n0:w.heap.size ≠ B:=by omega
 go_enter Tryz.func68,Tryz.ntmps68
 go_wp2_with fail
 refine (expect_any s B 83 t _ hs ((hR.alloc _).alloc _)).mono ?_
 rw [unhide Q1]
 rintro e w1 ⟨rfl,hR1,hg1⟩
 have G1:=(((Gr.refl B w).alloc _).alloc _).trans hg1
 have B1:=hg1.own (alloc2_blk w _ _) n1
 have C1:=hg1.own (alloc1_blk w _ _) n0
 go_wp2_with fail
 refine (expect_any s B 77 q1 _ hs hR1).mono ?_
 rw [unhide Q2]
 rintro e w2 ⟨rfl,hR2,hg2⟩
 have G2:=G1.trans hg2
 have B2:=hg2.own B1 n1
 have C2:=hg2.own C1 n0
 go_wp2_with fail
 refine (count_any s B 0 6 q2 _ hs hR2).mono ?_
 rw [unhide Q3]
 rintro e w3 ⟨rfl,hR3,hg3⟩
 have G3:=G2.trans hg3
 have B3:=hg3.own B2 n1
 have C3:=hg3.own C2 n0
 clear G1 G2 B1 B2 C1 C2 hg1 hg2 hg3 hR1 hR2
 go_wp2
 go_loopw [5] (fun i wr=>∃ (k:Nat) (l:List (Rd.Cls × Value)) (v:Value),(k:Int)≤q3.1∧i=.int .i64 k∧l.length=k∧l.map Prod.fst=(Rd.rep (Rd.cls s.data.toList) k q3.2).1∧ClssIn wr w.heap.size v l ∧
   wr.heap[w.heap.size+1]?=some (.cells #[v,.slice none 0 0] 38 (0,0))∧wr.heap[w.heap.size]?=some (.cells #[.slice none 0 0,.slice none 0 0] 38 (0,0)) ∧
   RdAt wr B s (Rd.rep (Rd.cls s.data.toList) k q3.2).2∧Gr B w wr)
  (fun i _=>q3.1.toNat - (intOf i).toNat)
 case atStart=>exact ⟨0,[],_,by omega,rfl,rfl,rfl,⟨World.ownsRow_nil _ _ _ _,by simp⟩,B3,C3,hR3,G3⟩
 case round =>
  obtain ⟨k,l,v,hk,rfl,hlen,hmap,hcs,hB,hC,hRr,hgr⟩:=hrel
  have hsz:=hgr.size
  by_cases hkn:(k:Int) < q3.1
  ·generalize hp:Rd.rep (Rd.cls s.data.toList) k q3.2=p at *
   generalize hq:Rd.cls s.data.toList p.2=q
   have HP:=hide hp
   have HQ:=hide hq
   have HLen:=hide hlen
   have HMap:=hide hmap
   clear hp hq hlen hmap
   go_wp2_with fail
   refine (class_any s B p.2 _ hs hRr).mono ?_
   rw [unhide HQ]
   rintro e w4 ⟨u,rfl,ht,hR4,hg4⟩
   obtain ⟨ua,uc,rfl⟩:=own_shape ht
   have hB4:=hg4.own hB n1
   have hC4:=hg4.own hC n0
   have G4:=hgr.trans hg4
   have hsz4:=G4.size
   obtain ⟨va,vc,rfl⟩:=own_shape hcs.1
   have hcs4:=hcs.kp (Kp.of_gr (e:=none) hg4 hlt) (by decide) (by decide)
   have ht4:=ht.mono hsz
   have x0:=blk_cell hB4 0
   have f0:=blk_free hB4 0
   have hlt1:=lt_of_block hB4
   have HCs:=hide hcs4.2
   have hown:=hcs4.1
   simp at x0
   clear ht hcs hcs4
   go_wp2_with (at_builtin; refine wpList_append_own _ rfl _ _ 35 rfl w.heap.size 143 i0 _ 2 32 Tryz.underlying35 hi hz0 hz1 hz2 rfl (by decide) _ _ _ rfl ((hown.alloc _).alloc _) ⟨w4.heap.size+1,0,none⟩ 1 1 [.int .i64 q.1.above,.slice ua q.1.fields.length uc] rfl rfl ?c1 ?c2 ?c3 ?c4 ?c5 ?_)
   case c1=>exact cells_new _ _ _ _ (by simp)
   case c2=>intro u hu; simp at hu; rcases hu with rfl | rfl <;> rfl
   case c3=>have:=unhide HLen; unfold maxLen; omega
   case c4=>have:=unhide HLen; omega
   case c5=>simp; omega
   intro v' w5 hown2 hgrow _
   obtain ⟨va',vc',rfl⟩:=own_shape hown2
   have hR5:=((hR4.alloc _).alloc _).grown hgrow (own_ne hown hlt)
   have hG5:=((G4.alloc _).alloc _).grown hgrow (own_ge hown)
   have hK:=((Kp.alloc (e:=some 143) (b:=0) _ _).trans (Kp.alloc _ _)).trans (Kp.of_grown hgrow ((hown.alloc _).alloc _))
   have hB5:=hK _ _ _ (Nat.zero_le _) hB4 (by decide)
   have hC5:=hK _ _ _ (Nat.zero_le _) hC4 (by decide)
   have x1:=blk_cell hB5 0
   have f1:=blk_free hB5 0
   simp at x1
   have hK':Kp (some 143) w.heap.size w4 w5:=fun k cs t _ hc ht=>hK k cs t (Nat.zero_le _) hc ht
   have hcs5:ClssIn (w5.setCell ⟨w.heap.size+1,0,none⟩ (.slice va' (l.length+1) vc')) w.heap.size (.slice va' (l.length+1) vc') (l ++ [(q.1,.slice ua q.1.fields.length uc)]):=by
    have hset:=Kp.set (b:=w.heap.size) (i:=0) hB5 (.slice va' (l.length+1) vc')
    refine ⟨?_,?_⟩
    ·rw [ccells_snoc,List.length_append]; exact own_kp hown2 hset (by decide)
    ·intro p hp
     rw [List.mem_append] at hp
     rcases hp with hp | hp
     ·exact ((unhide HCs p hp).kp hK' (by decide)).kp hset (by decide)
     ·simp only [List.mem_singleton] at hp
      subst hp
      exact (ht4.kp hK' (by decide)).kp hset (by decide)
   have e1:(Rd.rep (Rd.cls s.data.toList) (k+1) q3.2)=(p.1 ++ [q.1],q.2):=by simp only [Rd.rep,unhide HP,unhide HQ]
   have HE:=hide e1
   have HB:=set_blk (i:=0) hB5 (.slice va' (l.length+1) vc')
   have HC:=set_other hC5 (p:=⟨w.heap.size+1,0,none⟩) (by simp) (.slice va' (l.length+1) vc')
   have HK:=hide hK
   have HK':=hide hK'
   clear e1 hgrow hown hown2 hRr hR4 hg4 G4 hgr x0 f0 hK hK' ht4 hB hC hB4 hC4
   go_wp2
   go_roundw
   case rel=>exact ⟨k+1,_,_,by omega,by go_num,by rw [List.length_append,unhide HLen]; rfl,by rw [unhide HE,List.map_append,unhide HMap]; rfl,hcs5,HB,HC,by rw [unhide HE]; exact hR5.set (by simp; omega) _,hG5.set (.inl (by simp)) _⟩
   case measure=>simp [intOf]; omega
  ·have e:k=q3.1.toNat:=by omega
   subst e
   clear hR3 G3 B3 C3
   rw [unhide Q4] at hmap hRr
   have HMap:=hide hmap
   clear hmap hlen
   obtain ⟨va,vc,rfl⟩:=own_shape hcs.1
   go_wp2_with fail
   refine (count_any s B 1 6 q4.2 _ hs hRr).mono ?_
   rw [unhide Q5]
   rintro e w4 ⟨rfl,hR4,hg4⟩
   have G4:=hgr.trans hg4
   have B4:=hg4.own hB n1
   have C4:=hg4.own hC n0
   have hcs4:=hcs.kp (Kp.of_gr (e:=none) hg4 hlt) (by decide) (by decide)
   clear hB hC hcs hgr hg4 hRr hk hsz
   go_wp2
   go_loopw [8] (fun i wr=>∃ (k:Nat) (m:List (Rd.Mth × MthV)) (v:Value),(k:Int)≤q5.1∧i=.int .i64 k∧m.length=k∧m.map Prod.fst=(Rd.rep (Rd.mth s.data.toList) k q5.2).1∧MthsIn wr w.heap.size v m ∧
     ClssIn wr w.heap.size (.slice va l.length vc) l ∧
     wr.heap[w.heap.size+1]?=some (.cells #[.slice va l.length vc,v] 38 (0,0))∧wr.heap[w.heap.size]?=some (.cells #[.slice none 0 0,.slice none 0 0] 38 (0,0)) ∧
     RdAt wr B s (Rd.rep (Rd.mth s.data.toList) k q5.2).2∧Gr B w wr)
    (fun i _=>q5.1.toNat - (intOf i).toNat)
   case atStart=>exact ⟨0,[],_,by omega,rfl,rfl,rfl,⟨World.ownsRow_nil _ _ _ _,by simp⟩,hcs4,B4,C4,hR4,G4⟩
   case round =>
    clear hcs4 B4 C4 hR4 G4
    obtain ⟨k,m,v,hk,rfl,hlen,hmap,hms,hcs,hB,hC,hRr,hgr⟩:=hrel
    have hsz:=hgr.size
    by_cases hkn:(k:Int) < q5.1
    ·generalize hp:Rd.rep (Rd.mth s.data.toList) k q5.2=p at *
     generalize hq:Rd.mth s.data.toList p.2=q
     have HP:=hide hp
     have HQ:=hide hq
     have HLen:=hide hlen
     have HMap2:=hide hmap
     clear hp hq hlen hmap
     obtain ⟨vb,vd,rfl⟩:=own_shape hms.1
     go_wp2_with fail
     refine (method_any s B p.2 _ hs hRr).mono ?_
     rw [unhide HQ]
     rintro e w4 ⟨a1,m1,d1,a2,m2,d2,a3,m3,d3,a4,m4,d4,rfl,ht,hR4,hg4⟩
     have hB4:=hg4.own hB n1
     have hC4:=hg4.own hC n0
     have G4:=hgr.trans hg4
     have hsz4:=G4.size
     have hms4:=hms.kp (Kp.of_gr (e:=none) hg4 hlt) (by decide) (by decide) (by decide) (by decide) (by decide)
     have hcs4:=hcs.kp (Kp.of_gr (e:=none) hg4 hlt) (by decide) (by decide)
     have ht4:=ht.mono hsz
     have x0:=blk_cell hB4 1
     have f0:=blk_free hB4 1
     have hlt1:=lt_of_block hB4
     have HMs:=hide hms4.2
     have hown:=hms4.1
     simp at x0
     clear ht hms hms4 hcs
     go_wp2_with (at_builtin; refine wpList_append_own _ rfl _ _ 36 rfl w.heap.size 92 j0 _ 10 144 Tryz.underlying36 hj hy0 hy1 hy2 rfl (by decide) _ _ _ rfl ((hown.alloc _).alloc _) ⟨w4.heap.size+1,0,none⟩ 1 1 (mthCells q.1 ⟨.slice a1 m1 d1,.slice a2 m2 d2,.slice a3 m3 d3,.slice a4 m4 d4⟩) rfl rfl ?d1 ?d2 ?d3 ?d4 ?d5 ?_)
     case d1=>exact cells_new _ _ _ _ (by simp)
     case d2=>intro u hu; simp [mthCells] at hu; rcases hu with rfl | rfl | rfl | rfl | rfl | rfl | rfl | rfl | rfl | rfl <;> rfl
     case d3=>have:=unhide HLen; unfold maxLen; omega
     case d4=>have:=unhide HLen; omega
     case d5=>simp; omega
     intro v' w5 hown2 hgrow _
     obtain ⟨va',vc',rfl⟩:=own_shape hown2
     have hR5:=((hR4.alloc _).alloc _).grown hgrow (own_ne hown hlt)
     have hG5:=((G4.alloc _).alloc _).grown hgrow (own_ge hown)
     have hK:=((Kp.alloc (e:=some 92) (b:=0) _ _).trans (Kp.alloc _ _)).trans (Kp.of_grown hgrow ((hown.alloc _).alloc _))
     have hB5:=hK _ _ _ (Nat.zero_le _) hB4 (by decide)
     have hC5:=hK _ _ _ (Nat.zero_le _) hC4 (by decide)
     have x1:=blk_cell hB5 1
     have f1:=blk_free hB5 1
     simp at x1
     have hK':Kp (some 92) w.heap.size w4 w5:=fun k cs t _ hc ht=>hK k cs t (Nat.zero_le _) hc ht
     have hset:=Kp.set (b:=w.heap.size) (i:=1) hB5 (.slice va' (m.length+1) vc')
     have hms5:MthsIn (w5.setCell ⟨w.heap.size+1,1,none⟩ (.slice va' (m.length+1) vc')) w.heap.size (.slice va' (m.length+1) vc') (m ++ [(q.1,⟨.slice a1 m1 d1,.slice a2 m2 d2,.slice a3 m3 d3,.slice a4 m4 d4⟩)]):=by
      refine ⟨?_,?_⟩
      ·rw [mscells_snoc,List.length_append]; exact own_kp hown2 hset (by decide)
      ·intro p hp
       rw [List.mem_append] at hp
       rcases hp with hp | hp
       ·exact ((unhide HMs p hp).kp hK' (by decide) (by decide) (by decide) (by decide)).kp hset (by decide) (by decide) (by decide) (by decide)
       ·simp only [List.mem_singleton] at hp
        subst hp
        exact (ht4.kp hK' (by decide) (by decide) (by decide) (by decide)).kp hset (by decide) (by decide) (by decide) (by decide)
     have hcs5:=(hcs4.kp hK' (by decide) (by decide)).kp hset (by decide) (by decide)
     have e1:(Rd.rep (Rd.mth s.data.toList) (k+1) q5.2)=(p.1 ++ [q.1],q.2):=by simp only [Rd.rep,unhide HP,unhide HQ]
     have HE:=hide e1
     have HB:=set_blk (i:=1) hB5 (.slice va' (m.length+1) vc')
     have HC:=set_other hC5 (p:=⟨w.heap.size+1,1,none⟩) (by simp) (.slice va' (m.length+1) vc')
     clear e1 hgrow hown hown2 hRr hR4 hg4 G4 hgr x0 f0 hK hK' ht4 hB hC hB4 hC4 hset hcs4
     go_wp2
     go_roundw
     case rel=>exact ⟨k+1,_,_,by omega,by go_num,by rw [List.length_append,unhide HLen]; rfl,by rw [unhide HE,List.map_append,unhide HMap2]; rfl,hms5,hcs5,HB,HC,by rw [unhide HE]; exact hR5.set (by simp; omega) _,hG5.set (.inl (by simp)) _⟩
     case measure=>simp [intOf]; omega
    ·have e:k=q5.1.toNat:=by omega
     subst e
     obtain ⟨vb,vd,rfl⟩:=own_shape hms.1
     clear hlen
     have x0:=blk_cell hB 0
     have x1:=blk_cell hB 1
     have y0:=blk_cell hC 0
     have y1:=blk_cell hC 1
     have g0:=blk_free hC 0
     have g1:=blk_free hC 1
     simp at x0 x1 y0 y1
     go_wp2_with fail
     refine bodyPost_ret (v:=.agg #[.slice va l.length vc,.slice vb m.length vd]) (by simp [results,Tryz.results68,go_sem,y0,y1]) rfl ?_
     have k1:=(Kp.set (b:=w.heap.size) (i:=0) hC (.slice va l.length vc)).trans (Kp.set (i:=1) (set_blk (i:=0) hC (.slice va l.length vc)) (.slice vb m.length vd))
     refine ⟨_,_,_,_,_,_,rfl,l,unhide HMap,hcs.kp k1 (by decide) (by decide),m,hmap,hms.kp k1 (by decide) (by decide) (by decide) (by decide) (by decide),?_,?_⟩
     ·exact (hRr.set (by simp; omega) _).set (by simp; omega) _
     ·exact (hgr.set (.inl (by simp)) _).set (.inl (by simp)) _

/-- what Read gives of a string: the file, or an error -/
def Rd.read (s:List UInt8):Rd.Fil × Int :=
 if 15000 < s.length then (⟨[],[]⟩,1)
 else if (Rd.fil s ⟨0,false⟩).2.bad=true∨(Rd.fil s ⟨0,false⟩).2.pos ≠ s.length then (⟨[],[]⟩,2)
 else ((Rd.fil s ⟨0,false⟩).1,0)

set_option maxRecDepth 100000 in
set_option maxHeartbeats 4000000 in
theorem read_any (s:ByteArray) (w:World) (hs:s.size≤maxLen) :
  Calls Tryz.prog 38 #[.string s] w fun e w' =>
   ∃ a1 n1 c1 a2 n2 c2,e=.returned (.tuple #[.agg #[.slice a1 n1 c1,.slice a2 n2 c2],.int .i64 (Rd.read s.data.toList).2]) ∧
    ClssAt w' w.heap.size (.slice a1 n1 c1) (Rd.read s.data.toList).1.classes∧MthsAt w' w.heap.size (.slice a2 n2 c2) (Rd.read s.data.toList).1.methods∧Below w.heap.size w w':=by
 have hlen:s.data.toList.length=s.size:=by simp
 unfold Rd.read
 rw [hlen]
 have hnil1:∀ w':World,ClssAt w' w.heap.size (.slice none 0 0) []:=fun w'=>⟨[],rfl,World.ownsRow_nil _ _ _ _,by simp⟩
 have hnil2:∀ w':World,MthsAt w' w.heap.size (.slice none 0 0) []:=fun w'=>⟨[],rfl,World.ownsRow_nil _ _ _ _,by simp⟩
 have HN1:=hide hnil1
 have HN2:=hide hnil2
 clear hnil1 hnil2
 by_cases h1:15000 < s.size
 ·rw [if_pos h1]
  have h1':(15000:Int) < (s.size:Int):=by omega
  go_enter Tryz.func38,Tryz.ntmps38
  go_wp2
  refine bodyPost_ret (v:=.tuple #[.agg #[.slice none 0 0,.slice none 0 0],.int .i64 1]) (by simp [results,Tryz.results38,go_sem]) rfl ?_
  exact ⟨none,0,0,none,0,0,rfl,unhide HN1 _,unhide HN2 _,(Below.refl _ _).alloc (Nat.le_refl _) _⟩
 ·rw [if_neg h1]
  generalize hq:Rd.fil s.data.toList ⟨0,false⟩=q
  have HQ:=hide hq
  clear hq
  have h1':¬ (15000:Int) < (s.size:Int):=by omega
  have hR:RdAt ((w.alloc (.cells #[.slice none 0 0,.slice none 0 0] 38)).alloc (.cells #[.string s,.int .i64 0,.bool false] 140)) (w.heap.size+1) s ⟨0,false⟩:=alloc2_blk w _ _
  cases hbad:q.2.bad with
  | true =>
   rw [if_pos (.inl rfl)]
   have Hb:=hide hbad
   clear hbad
   go_enter Tryz.func38,Tryz.ntmps38
   go_wp2_with fail
   refine (file_any s (w.heap.size+1) ⟨0,false⟩ _ hs hR).mono ?_
   rw [unhide HQ]
   rintro e w1 ⟨a1,n1,c1,a2,n2,c2,l1,l2,rfl,hm1,hc1,hm2,hc2,hR1,hg1⟩
   have hC1:=hg1.own (alloc1_blk w _ _) (by omega)
   obtain ⟨x0,x1,x2,f0,f1,f2⟩:=hR1.cells
   rw [unhide Hb] at x2
   have y0:=blk_cell hC1 0
   have y1:=blk_cell hC1 1
   have g0:=blk_free hC1 0
   have g1:=blk_free hC1 1
   simp at y0 y1
   have hs1:=hg1.size
   simp at hs1
   have lt0:=lt_of_block hC1
   have lt1:=hR1.lt
   have hbl:Below w.heap.size w w1:=((((Gr.refl (w.heap.size+1) w).alloc _).alloc _).trans hg1).below (by omega)
   have HM1:=hide hm1
   have HM2:=hide hm2
   clear hm1 hm2
   go_wp2_with fail
   refine bodyPost_ret (v:=.tuple #[.agg #[.slice none 0 0,.slice none 0 0],.int .i64 2]) (by simp [results,Tryz.results38,go_sem,y0,y1,lt0]) rfl ?_
   exact ⟨none,0,0,none,0,0,rfl,unhide HN1 _,unhide HN2 _,((hbl.setCell (by simp) _).setCell (by simp) _).alloc (by simp; omega) _⟩
  | false =>
   have Hb:=hide hbad
   clear hbad
   by_cases hpos:q.2.pos=s.size
   ·rw [if_neg (by simp [hpos])]
    have hp1:((q.2.pos:Int) != (s.size:Int))=false:=by simp [hpos]
    clear hpos
    go_enter Tryz.func38,Tryz.ntmps38
    go_wp2_with fail
    refine (file_any s (w.heap.size+1) ⟨0,false⟩ _ hs hR).mono ?_
    rw [unhide HQ]
    rintro e w1 ⟨a1,n1,c1,a2,n2,c2,l1,l2,rfl,hm1,hc1,hm2,hc2,hR1,hg1⟩
    have hC1:=hg1.own (alloc1_blk w _ _) (by omega)
    obtain ⟨x0,x1,x2,f0,f1,f2⟩:=hR1.cells
    rw [unhide Hb] at x2
    have y0:=blk_cell hC1 0
    have y1:=blk_cell hC1 1
    have g0:=blk_free hC1 0
    have g1:=blk_free hC1 1
    simp at y0 y1
    have hs1:=hg1.size
    simp at hs1
    have lt0:=lt_of_block hC1
    have lt1:=hR1.lt
    have hbl:Below w.heap.size w w1:=((((Gr.refl (w.heap.size+1) w).alloc _).alloc _).trans hg1).below (by omega)
    have HM1:=hide hm1
    have HM2:=hide hm2
    clear hm1 hm2
    go_wp2_with fail
    refine bodyPost_ret (v:=.tuple #[.agg #[.slice a1 n1 c1,.slice a2 n2 c2],.int .i64 0]) (by simp [results,Tryz.results38,go_sem,y0,y1,lt0]) rfl ?_
    have k1:=((Kp.set (b:=w.heap.size) (i:=0) hC1 (.slice a1 n1 c1)).trans (Kp.set (i:=1) (set_blk (i:=0) hC1 (.slice a1 n1 c1)) (.slice a2 n2 c2))).trans (Kp.alloc _ (.cells #[.slice a1 n1 c1,.slice a2 n2 c2] 38))
    refine ⟨_,_,_,_,_,_,rfl,⟨l1,unhide HM1,?_⟩,⟨l2,unhide HM2,?_⟩,((hbl.setCell (by simp) _).setCell (by simp) _).alloc (by simp; omega) _⟩
    ·exact (hc1.mono (by simp; omega)).kp k1 (by decide) (by decide)
    ·exact (hc2.mono (by simp; omega)).kp k1 (by decide) (by decide) (by decide) (by decide) (by decide)
   ·rw [if_pos (.inr hpos)]
    have hp1:((q.2.pos:Int) != (s.size:Int))=true:=by simp; omega
    clear hpos
    go_enter Tryz.func38,Tryz.ntmps38
    go_wp2_with fail
    refine (file_any s (w.heap.size+1) ⟨0,false⟩ _ hs hR).mono ?_
    rw [unhide HQ]
    rintro e w1 ⟨a1,n1,c1,a2,n2,c2,l1,l2,rfl,hm1,hc1,hm2,hc2,hR1,hg1⟩
    have hC1:=hg1.own (alloc1_blk w _ _) (by omega)
    obtain ⟨x0,x1,x2,f0,f1,f2⟩:=hR1.cells
    rw [unhide Hb] at x2
    have y0:=blk_cell hC1 0
    have y1:=blk_cell hC1 1
    have g0:=blk_free hC1 0
    have g1:=blk_free hC1 1
    simp at y0 y1
    have hs1:=hg1.size
    simp at hs1
    have lt0:=lt_of_block hC1
    have lt1:=hR1.lt
    have hbl:Below w.heap.size w w1:=((((Gr.refl (w.heap.size+1) w).alloc _).alloc _).trans hg1).below (by omega)
    have HM1:=hide hm1
    have HM2:=hide hm2
    clear hm1 hm2
    go_wp2_with fail
    refine bodyPost_ret (v:=.tuple #[.agg #[.slice none 0 0,.slice none 0 0],.int .i64 2]) (by simp [results,Tryz.results38,go_sem,y0,y1,lt0]) rfl ?_
    exact ⟨none,0,0,none,0,0,rfl,unhide HN1 _,unhide HN2 _,((hbl.setCell (by simp) _).setCell (by simp) _).alloc (by simp; omega) _⟩
end Go.Proofs.YteffpdofcgbokaaGreat

/-
  The tree of classes and what fits what, as plain functions (no Go in sight): what package types computes.
-/
namespace Go.Proofs.YteffpdofcgbokaaGreat.Tr

def ov (l:List Int) (c:Int):Int:=if c < 0 then -1 else if (l.length:Int)≤c then -1 else l.getD c.toNat 0

/-- is 'high' met on the way up from 'pos', in at most n steps? -/
def upTo (l:List Int) (high:Int):Nat→Int→Bool
 | 0,_=>false
 | n+1,pos=>if pos = -1 then false else if pos=high then true else upTo l high n (ov l pos)

def below (l:List Int) (low high:Int):Bool:=upTo l high l.length (ov l low)

def hasB (l:List Int) (c:Int):Bool:=decide (0≤c) && decide (c < (l.length:Int))
def plainB (l:List Int) (k n:Int):Bool:=if k=1 then n == 0 else if k=3 then hasB l n else false
def settledB (l:List Int) (k n:Int):Bool:=if k=0∨k=2 then n == 0 else plainB l k n
def argB (l:List Int) (k n:Int):Bool:=if k=4 then (decide (0≤n) && decide (n < 120)) else settledB l k n
def fitsB (l:List Int) (k n k' n':Int):Bool :=
 if k=k'∧n=n' then true else if k'=0 then true else if k' ≠ 3 then false else if k=2 then true else if k=3 then below l n n' else false

def meetTo (l:List Int) (b:Int):Nat→Int→Int
 | 0,_=>0
 | n+1,a=>if a=b then a else if below l b a=true then a else meetTo l b n (ov l a)
def meet (l:List Int) (a b:Int):Int:=meetTo l b l.length a

def allPlainB (l:List Int) (fs:List (Int × Int)):Bool:=fs.all fun f=>plainB l f.1 f.2

end Go.Proofs.YteffpdofcgbokaaGreat.Tr

/-
  The walks over package types: over, Below, Has, IsPlain, IsSettled, IsArgument, Fits, meet, Join.
-/
namespace Go.Proofs.YteffpdofcgbokaaGreat
open Go.RowKit
variable {ya:Option Addr}{yn yc:Nat}

/-- the cells of a tree's list -/
def TreeIn (w:World) (g:Nat) (l:List Int):Prop:=g < w.heap.size∧∀ i,i < l.length→w.cell? ⟨g,i,none⟩=some (.int .i64 (l.getD i 0))
theorem TreeIn.below {w w':World}{g:Nat}{l:List Int} (h:TreeIn w g l) (hb:Below w.heap.size w w'):TreeIn w' g l :=
 ⟨Nat.lt_of_lt_of_le h.1 hb.size,fun i hi=>by rw [hb.cell (p:=⟨g,i,none⟩) h.1]; exact h.2 i hi⟩
theorem TreeIn.alloc {w:World}{g:Nat}{l:List Int} (h:TreeIn w g l) (o:Obj):TreeIn (w.alloc o) g l:=h.below ((Below.refl _ _).alloc (Nat.le_refl _) _)

set_option maxRecDepth 100000 in
set_option maxHeartbeats 1000000 in
theorem over_any (l:List Int) (g cap:Nat) (c:Int) (w:World) (hT:TreeIn w g l) :
  Calls Tryz.prog 180 #[.agg #[.slice (some ⟨g,0,none⟩) l.length cap,.slice ya yn yc],.int .i64 c] w fun e w'=>e=.returned (.int .i64 (Tr.ov l c))∧Below w.heap.size w w':=by
 unfold Tr.ov
 by_cases h1:c < 0
 ·rw [if_pos h1]
  go_enter Tryz.func180,Tryz.ntmps180
  go_wp2
  go_ret
  exact ⟨rfl,(Below.refl _ _).alloc (Nat.le_refl _) _⟩
 ·rw [if_neg h1]
  by_cases h2:(l.length:Int)≤c
  ·rw [if_pos h2]
   go_enter Tryz.func180,Tryz.ntmps180
   go_wp2
   go_ret
   exact ⟨rfl,(Below.refl _ _).alloc (Nat.le_refl _) _⟩
  ·rw [if_neg h2]
   obtain ⟨i,rfl⟩:=Int.eq_ofNat_of_zero_le (show 0≤c by omega)
   have hi:i < l.length:=by omega
   have hc:=(hT.alloc (.cells #[.slice (some ⟨g,0,none⟩) l.length cap,.slice ya yn yc] 87)).2 i hi
   have hg:=hT.1
   go_enter Tryz.func180,Tryz.ntmps180
   go_wp2
   go_ret
   exact ⟨rfl,(Below.refl _ _).alloc (Nat.le_refl _) _⟩

set_option maxRecDepth 100000 in
set_option maxHeartbeats 1000000 in
theorem has_any (l:List Int) (a:Option Addr) (cap:Nat) (c:Int) (w:World) :
  Calls Tryz.prog 157 #[.agg #[.slice a l.length cap,.slice ya yn yc],.int .i64 c] w fun e w'=>e=.returned (.bool (Tr.hasB l c))∧Below w.heap.size w w':=by
 unfold Tr.hasB
 by_cases h1:0≤c
 ·go_enter Tryz.func157,Tryz.ntmps157
  go_wp2
  go_ret
  exact ⟨by simp [h1],(Below.refl _ _).alloc (Nat.le_refl _) _⟩
 ·go_enter Tryz.func157,Tryz.ntmps157
  go_wp2
  go_ret
  exact ⟨by simp; omega,(Below.refl _ _).alloc (Nat.le_refl _) _⟩

theorem upTo_step {l:List Int}{high pos:Int}{n:Nat} (h1:pos ≠ -1) (h2:pos ≠ high):Tr.upTo l high (n+1) pos=Tr.upTo l high n (Tr.ov l pos):=by
 simp [Tr.upTo,h1,h2]
theorem upTo_hit {l:List Int}{high pos:Int}{n:Nat} (h1:pos ≠ -1) (h2:pos=high):Tr.upTo l high (n+1) pos=true:=by
 subst h2
 simp [Tr.upTo,h1]
theorem upTo_top {l:List Int}{high pos:Int}{n:Nat} (h1:pos = -1):Tr.upTo l high n pos=false:=by
 cases n <;> simp [Tr.upTo,h1]

set_option maxRecDepth 100000 in
set_option maxHeartbeats 2000000 in
theorem below_any (l:List Int) (g cap:Nat) (low high:Int) (w:World) (hl:l.length≤1000) (hT:TreeIn w g l) :
  Calls Tryz.prog 135 #[.agg #[.slice (some ⟨g,0,none⟩) l.length cap,.slice ya yn yc],.int .i64 low,.int .i64 high] w fun e w'=>e=.returned (.bool (Tr.below l low high))∧Below w.heap.size w w':=by
 unfold Tr.below
 generalize hr:Tr.upTo l high l.length (Tr.ov l low)=r
 have HR:=hide hr
 clear hr
 have hg:=hT.1
 have hT0:=hT.alloc (.cells #[.slice (some ⟨g,0,none⟩) l.length cap,.slice ya yn yc] 87)
 have hb0:Below w.heap.size w (w.alloc (.cells #[.slice (some ⟨g,0,none⟩) l.length cap,.slice ya yn yc] 87)):=(Below.refl _ _).alloc (Nat.le_refl _) _
 have hx0:=alloc_blk w (.cells #[.slice (some ⟨g,0,none⟩) l.length cap,.slice ya yn yc] 87)
 go_enter Tryz.func135,Tryz.ntmps135
 go_wp2_with fail
 refine (over_any l g cap low _ hT0).mono ?_
 rintro e w1 ⟨rfl,hb1⟩
 have hB1:Below w.heap.size w w1:=hb0.trans (hb1.mono (by simp))
 have hx1:w1.heap[w.heap.size]?=some (.cells #[.slice (some ⟨g,0,none⟩) l.length cap,.slice ya yn yc] 87 (0,0)):=(hb1.block _ (by simp)).trans hx0
 clear hb0 hb1 hx0 hT0
 go_wp2
 go_loopw [7,8] (fun p i wr=>∃ (k:Nat) (q:Int),k≤l.length∧i=.int .i64 k∧p=.int .i64 q∧Hid (Tr.upTo l high (l.length - k) q=r)∧Below w.heap.size w wr ∧
   wr.heap[w.heap.size]?=some (.cells #[.slice (some ⟨g,0,none⟩) l.length cap,.slice ya yn yc] 87 (0,0)))
  (fun _ i _=>l.length - (intOf i).toNat)
 case atStart=>exact ⟨0,_,by omega,rfl,rfl,HR,hB1,hx1⟩
 case round =>
  clear hB1 hx1 HR
  obtain ⟨k,q,hk,rfl,rfl,HR,hB,hx⟩:=hrel
  have c0:=blk_cell hx 0
  have c1:=blk_cell hx 1
  simp at c0 c1
  by_cases hkn:k < l.length
  ·by_cases h1:q = -1
   ·have h1':(q != -1)=false:=by simp [h1]
    have hf:r=false:=by rw [← unhide HR]; exact upTo_top h1
    have HF:=hide hf
    have H1:=hide h1
    clear hf h1
    go_wp2
    go_ret
    exact ⟨by rw [unhide HF]; rfl,hB⟩
   ·have h1':(q != -1)=true:=by simp [h1]
    by_cases h2:q=high
    ·have h2':(q == high)=true:=by simp [h2]
     have hf:r=true:=by rw [← unhide HR,show l.length - k=(l.length - k - 1)+1 by omega]; exact upTo_hit h1 h2
     have HF:=hide hf
     have H1:=hide h1
     have H2:=hide h2
     clear hf h1 h2
     go_wp2
     go_ret
     exact ⟨by rw [unhide HF]; rfl,hB⟩
    ·have h2':(q == high)=false:=by simp [h2]
     have HF:Hid (Tr.upTo l high (l.length - (k+1)) (Tr.ov l q)=r):=by
      unfold Hid
      rw [← unhide HR,show l.length - k=(l.length - (k+1))+1 by omega,upTo_step h1 h2]
     have H1:=hide h1
     have H2:=hide h2
     clear h1 h2
     have hTr:=hT.below hB
     go_wp2_with fail
     refine (over_any l g cap q _ hTr).mono ?_
     rintro e w2 ⟨rfl,hb2⟩
     have hB2:Below w.heap.size w w2:=hB.trans (hb2.mono hB.size)
     have hx2:=(hb2.block _ (lt_of_block hx)).trans hx
     clear hb2 hB hx hTr
     go_wp2
     go_roundw
     case rel=>exact ⟨k+1,_,by omega,by go_num,rfl,HF,hB2,hx2⟩
     case measure=>simp [intOf]; omega
  ·have hf:r=false:=by rw [← unhide HR,show l.length - k=0 by omega]; rfl
   have HF:=hide hf
   clear hf
   go_wp2
   go_ret
   exact ⟨by rw [unhide HF]; rfl,hB⟩
end Go.Proofs.YteffpdofcgbokaaGreat
